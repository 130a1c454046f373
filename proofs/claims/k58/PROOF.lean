import PyProof.Rows.All
import Wide.All
import OpenK.AllK
import Wide.FinOn
import Lean
import PyProof.EqAt
import PyProof.EqKinds
import PyProof.TupleCall
import PyProof.P3Eq
import PyProof.NeData
import PySem.Challenge.RW_allfirst_k58_whole_read_is_written
set_option autoImplicit true
set_option relaxedAutoImplicit true
set_option Elab.async false
set_option linter.all false
set_option maxRecDepth 100000
open PySem PySem.Spec PyProof.Rows
theorem Zqi.{u} {α:Type u}{a b:α}(h:some a=some b):a=b:=Option.some.inj h
theorem Zqg.{u} {α:Type u}{l:List α}{i:Nat}(h:i<l.length):l[i]? = some l[i]:=List.getElem?_eq_getElem h
theorem Zqs.{u} {α:Type u}{a:α}{l:List α}:a∈a::l:=List.mem_cons_self
theorem Zqm.{u} {α:Type u}(y:α){a:α}{l:List α}(h:a∈l):a∈y::l:=List.mem_cons_of_mem y h
theorem Zql.{u,v} {α:Type u}{β:Type v}{l:List α}(f:α->β):(l.map f).length=l.length:=List.length_map f
abbrev Za:=@wpAny_bind
abbrev Zb:=@wpAny_pure
abbrev Zc:=@wpAny_mono
abbrev Zd:=@if_pos
abbrev Ze:=@if_neg
abbrev Zf:=@Nat.le_refl
abbrev Zg:=@Nat.lt_of_lt_of_le
abbrev Zh:=@Nat.le_trans
abbrev Zi:=@Nat.ne_of_lt
abbrev Zj:=@Bool.false_ne_true
abbrev Zk:=@Heap.lt_size
abbrev Zl:=@List.map_cons
abbrev Zm:=@List.size_toArray
abbrev Zn:=@absurd
abbrev Zo:=@decide_eq_false
abbrev Zp:=@decide_eq_true
abbrev Zq:=@Heap.get?_push_of_some
abbrev Zr:=@Heap.get?_push_size
abbrev Zs:=@iff_of_false
abbrev Zt:=@congrArg
abbrev Zu:=@List.length_cons
abbrev Zv:=@List.getElem?_map
abbrev Zw:=@List.map_map
abbrev Zx:=@List.getElem?_set_ne
abbrev Zy:=@Nat.lt_irrefl
abbrev Zz:=@Nat.le_of_lt
abbrev ZA:=@List.append_nil
abbrev ZB:=@List.length_range
abbrev ZC:=@List.length_nil
set_option maxHeartbeats 4000000
abbrev Ya:=PySem.Value->PySem.Shared->Prop
abbrev Yb:=List (PySem.Addr×PySem.Obj)
abbrev Yc:=PySem.Str->Option PySem.Value
abbrev Yd:=List PySem.Value
abbrev Ye:=Option PySem.Value
abbrev Yf:=List Int
abbrev Yg:=List Nat
abbrev Yh:=List PySem.Str
abbrev Yi:=List PySem.Addr
abbrev Yj:=List PySem.Expr
abbrev Yk:=Array PySem.Value
abbrev Yl:=@beq_iff_eq
abbrev Ym:=@Unit.unit
abbrev Yn:=@PySem.F.plainAttrs_list
abbrev Yo:=@PySem.F.slot_list_append
abbrev Yp:=@PySem.F.type_list_append
abbrev Yq:=PySem.Shared->Prop
noncomputable section
local macro_rules | `(tactic| trivial) => `(tactic| first|exact .inl rfl|exact .inr rfl|assumption)
local macro_rules | `(()) => `(by first|lia|omega|(simp;done)|grind|simp_all)
local macro_rules | `(~~~$x) => `(some (.val $x))
abbrev Ua:=@List.length_append
abbrev Ub:=@Bool.and_eq_true
abbrev Uc:=@List.map_append
abbrev Ud:=@Array.length_toList
abbrev Ue:=@List.length_singleton
abbrev Uf:=@List.mem_append_right
abbrev Ug:=@Nat.zero_le
abbrev Uh:=@List.mem_of_getElem?
abbrev Ui:=@List.all_cons
abbrev Uj:=@List.getD_eq_getElem?_getD
abbrev Uk:=@List.length_take
abbrev Ul:=@Int.toNat_natCast
abbrev Um:=@Sum.inr
abbrev Uo:=@List.append_assoc
abbrev Up:=@List.getElem?_append_left
abbrev Uq:=@List.all_eq_true
abbrev Ur:=@List.mem_append_left
abbrev Us:=@List.take_succ
abbrev Ut:=@Bool.or_eq_true
abbrev Uu:=@List.take_length
abbrev Uv:=@List.getElem?_append_right
abbrev Uw:=@Int.emod_nonneg
abbrev Ux:=@List.getElem?_of_mem
abbrev Uy:=@List.length_drop
abbrev Uz:=@Nat.blt
abbrev UA:=@Nat.blt_eq
abbrev UB:=@List.mem_cons
abbrev UC:=@Int.emod_lt_of_pos
abbrev UD:=@List.mem_of_mem_take
abbrev UE:=@List.not_mem_nil
abbrev UF:=@List.take_of_length_le
abbrev UG:=@Classical.choose_spec
abbrev UH:=@List.filterMap_cons
abbrev UI:=@List.length_set
abbrev UJ:=@Nat.succ.inj
abbrev UK:=@Nat.ble_eq
abbrev UL:=@List.getElem_mem
abbrev UM:=@List.count_append
abbrev UN:=@List.getElem?_set_self
abbrev UO:=@Nat.lt_trans
abbrev UP:=@Bool.or_true
abbrev UQ:=@Int.eq_ofNat_of_zero_le
abbrev UR:=@List.mem_of_mem_drop
abbrev US:=@Nat.ne_of_gt
abbrev UT:=@Nat.le_succ
abbrev UU:=@List.drop_eq_getElem_cons
abbrev UV:=@List.length_zip
abbrev UW:=@List.all_map
abbrev UX:=@List.take_append_drop
abbrev UY:=@Nat.div_lt_of_lt_mul
abbrev UZ:=@Bool.true_and
abbrev U0:=@List.drop_drop
abbrev U1:=@Int.le_trans
abbrev U2:=@Bool.eq_iff_iff
abbrev U3:=@Bool.and_false
abbrev U4:=@List.getElem_of_mem
abbrev U5:=@List.foldl_cons
abbrev U6:=@Nat.zero_add
abbrev U7:=@List.getElem?_range
abbrev U8:=@List.drop_eq_nil_of_le
abbrev U9:=@List.pairwise_iff_getElem
abbrev Va:=@Nat.pow_succ
abbrev Vb:=@Nat.succ_mul
abbrev Vc:=@List.map_congr_left
abbrev Vd:=@Nat.lt_or_ge
abbrev Ve:=@List.take_left
abbrev Vf:=@List.sum_cons
abbrev Vg:=@Option.isSome_map
abbrev Vh:=@List.drop_length
abbrev Vi:=@Nat.eq_zero_or_pos
abbrev Vj:=@List.zip_cons_cons
abbrev Vk:=@Bool.not_eq_true'
abbrev Vl:=@List.foldl_append
abbrev Vm:=@List.getElem?_eq_none
abbrev Vn:=@List.pairwise_map
abbrev Vo:=@Array.all_toList
abbrev Vp:=@List.take_append_of_le_length
abbrev Vq:=@List.nodup_iff_pairwise_ne
abbrev Vr:=@Classical.byContradiction
abbrev Vs:=@List.getElem?_take_of_lt
abbrev Vt:=@Nat.toDigits_of_lt_base
abbrev Vu:=@Nat.toDigits_of_base_le
abbrev Vv:=@Nat.length_toDigits_pos
abbrev Ja:=@List.mem_map
abbrev Jb:=@List.mem_append
abbrev Jc:=@List.mem_singleton
abbrev Jd:=@List.getElem?_eq_some_iff
abbrev Je:=@List.nodup_cons
abbrev Jf:=@List.nodup_append
abbrev Jg:=@Option.map_eq_some_iff
abbrev Jh:=@Option.bind_eq_some_iff
abbrev Ji:=@List.length_pos_iff
abbrev Jj:=@List.mem_flatMap
abbrev Jk:=@List.mem_range
abbrev Jl:=@List.mem_filterMap
abbrev Jm:=@Option.isSome_iff_exists
abbrev Jn:=@List.length_eq_zero_iff
abbrev Jo:=@List.any_eq_false
abbrev Jp:=@List.getElem?_eq_none_iff
abbrev Jq:=@Array.getElem?_eq_some_iff
abbrev Jr:=List (Int×Int)
abbrev Js:=List Jr
namespace L2
abbrev TM:=Sum Int Str
def VA:TM->Value->Bool
 | .inl k,v=>Value.isInt k v
 | .inr x,v=>Value.isStrOf x v
def mf (w:World):TM->Int
 | .inl k=>hashInt k
 | .inr x=>hashStr w x
def Vz:∀{k:TM} {v:Value},VA k v=true->(∃i t,k=Sum.inl i/\v=Value.int i t)\/(∃x t,k=Um x/\v=Value.str x t)
 | .inl i,v,h=>by
  obtain⟨t,e⟩:=Value.isInt_shape h;exact .inl ⟨i,t,rfl,e⟩
 | .inr x,v,h=>by
  obtain⟨t,e⟩:=Value.isStrOf_shape h;exact .inr ⟨x,t,rfl,e⟩
def HL (i)(t):VA (.inl i) (.int i t)=true:=by simp[VA,Value.isInt]
def HM (x)(t):VA (.inr x) (.str x t)=true:=by simp[VA,Value.isStrOf]
def HN (a b):decide ((Sum.inl a:TM)=Sum.inl b)=(a == b):=()
def HQ (a b):decide ((Um a:TM)=Um b)=decide (a=b):=()
def HR (a)(b):decide ((Sum.inl a:TM)=Um b)=false:=rfl
def HS (a)(b):decide ((Um a:TM)=Sum.inl b)=false:=rfl
def Qy (prog:Program)(w:World):PySem.KeyKind prog w TM where
 is:=VA
 hash:=mf w
 inj:=λv a b f d=>by
  rcases Vz f with ⟨i,t,rfl,rfl⟩|⟨x,t,rfl,rfl⟩
  .rcases Vz d with ⟨j,u,rfl,e⟩|⟨y,u,rfl,e⟩
   .injection e with e1 _;rw[e1]
   .exact nomatch e
  .rcases Vz d with ⟨j,u,rfl,e⟩|⟨y,u,rfl,e⟩
   .exact nomatch e
   .injection e with e1 _;rw[e1]
 byValue:=λk v h=>by
  rcases Vz h with ⟨i,t,rfl,rfl⟩|⟨x,t,rfl,rfl⟩<;>rfl
 pyHash:=λc h=>by
  rcases Vz c with ⟨i,t,rfl,rfl⟩|⟨x,t,rfl,rfl⟩
  .exact wpAny_pyHash_int h
  .exact wpAny_pyHash_str h
 eqBool:=λg c h=>by
  rcases Vz g with ⟨i,t,rfl,rfl⟩|⟨x,t,rfl,rfl⟩
  .rcases Vz c with ⟨j,u,rfl,rfl⟩|⟨y,u,rfl,rfl⟩
   .rw[HN] at h;exact wpAny_eqBool_int h
   .rw[HR] at h;exact SeqAt.EqAt.int_str i t y u _ _ _ _ h
  .rcases Vz c with ⟨j,u,rfl,rfl⟩|⟨y,u,rfl,rfl⟩
   .rw[HS] at h;exact SeqAt.EqAt.str_int x t j u _ _ _ _ h
   .rw[HQ] at h;exact wpAny_eqBool_str h
 «strs»:=λk x t v h=>by
  rcases Vz h with ⟨i,u,rfl,e⟩|⟨y,u,rfl,e⟩
  .exact nomatch e
  .injection e with e1 _
   subst e1;cases v<;>rfl
def HU (prog)(w)(i)(t):(Qy prog w).is (.inl i) (.int i t)=true:=HL i t
def HV (prog)(w)(x)(t):(Qy prog w).is (.inr x) (.str x t)=true:=HM x t
inductive V where
 |non|bl (b:Bool)|int (i:Int)|str (x:Str)|byt (b:Array UInt8)|flt (b:UInt64)|ref (a:Addr)|ty (n:String)
 deriving DecidableEq
abbrev _root_.Yr:=List V
abbrev _root_.Ys:=Option V
def TC:V->Value->Prop
 | .non,u=>u=Value.none
 | .bl b,u=>u=Value.bool b
 | .int i,u=>∃t,u=Value.int i t
 | .str x,u=>∃t,u=Value.str x t
 | .byt b,u=>∃t,u=Value.bytes b t
 | .flt b,u=>∃t,u=Value.float b t
 | .ref a,u=>u=Value.ref a
 | .ty n,u=>u=Value.type n
abbrev TD:Yr->List Value->Prop:=Paired TC
theorem TD.length {xs:Yr}{us:Yd}(r:TD xs us):xs.length=us.length:=Paired.length r
theorem TD.get:∀{xs:Yr} {us:Yd} {i:Nat} {x:V},TD xs us->xs[i]? = some x->∃u,us[i]? = some u/\TC x u
 |_,_,_,_,.nil,e=>by simp at e
 |_,_,0,_,.cons r _,e=>by simp_all
 |_,_,i+1,x,.cons _ t,e=>by
  obtain⟨u,a,b⟩:=TD.get t (by simpa using e)
  simp_all
theorem TD.set {x:V}{u:Value}(r:TC x u):∀{xs:Yr} {us:Yd} i,TD xs us->TD (xs.set i x) (us.set i u)
 |_,_,_,.nil=>.nil
 |_,_,0,.cons _ t=>.cons r t
 |_,_,i+1,.cons q t=>.cons q (TD.set r i t)
def TD.append:∀{xs a:Yr} {us ws:Yd},TD xs us->TD a ws->TD (xs++a) (us++ws):=λh s=>by
 induction h with
 |nil=>exact s
 |cons r _ b=>exact .cons r b
def TD.none_of:∀{xs:Yr} {us:Yd} {i:Nat},TD xs us->xs[i]? = none->us[i]? = none:=λ{xs us i} r e=>by
 have a:=r.length
 simp_all
def qK:Ys->Option Value->Prop
 |some v,some u=>TC v u
 |none,none=>True
 |_,_=>False
def KV {κ: Type}:List (κ × V)->List (κ × Value)->Prop:=Paired λ(p:κ × V) (q:κ × Value)=>p.1=q.1/\TC p.2 q.2
def kV:TM->V
 | .inl i=>.int i
 | .inr x=>.str x
inductive HO where
 |lst (xs:Yr)
 |tup (xs:Yr)
 |dK (kvs:List (TM×V))|dT (kvs:List (List TM×V))
 |set (S:Int->Bool) (n:Nat)
 |ins (C dx:Addr) (fs:List (Str×V))
 |own (x:Addr)
 |xd (fs:List (Str×V))
 |met (f x:Addr)
 |rng (lo hi:Int)
 |frz (o:Obj) (u:HO)
 |tbl (ps:Yk)
 |ext (φ: Heap->Prop)
abbrev Hp:=Addr->Option HO
def upd (H:Hp)(a:Addr)(o:HO):Hp:=λb=>if b=a then some o else H b
def JC {H:Hp}{a:Addr}{o:HO}:upd H a o a=some o:=by simp_all [upd]
def Jz {H:Hp}{a b:Addr}{o:HO}(h:b≠a):upd H a o b=H b:=by simp_all [upd]
def ni {H:Hp}{a b:Addr}{o u:HO}(h:H a=some o)(h':H b=some u)(d:o≠u):a≠b:=()
def QP {H:Hp}{a b:Addr}{o:HO}(h:H a=some o)(h':H b=none):a≠b:=()
section
variable (P:Program)(w:World)
def xj (H:Hp)(h:Heap)(a:Addr):HO->Prop
 | .lst xs=>xs.length<=sizeLine/\∃(b:Yd) (n:Nat),TD xs b/\h.get? a=some { cls:=.type "list",data:=.seq b.toArray n }
 | .tup xs=>(xs.length<=sizeLine/\∃o,h.get? a=some o/\o.dict=none)/\∃b:Yd,TD xs b/\IsTup h a b.toArray
 | .dK kvs=>kvs.length<=sizeLine/\(a == sysModules)=false/\∃d,KV kvs d/\h.DictOf (Qy P w) a d
 | .dT kvs=>kvs.length<=sizeLine/\(a == sysModules)=false/\∃xs:List (List TM×Addr×Value),
  Paired (λ(p:List TM×V) (q:List TM×Addr×Value)=>p.1=q.1/\H q.2.1=some (.tup (p.1.map kV))/\TC p.2 q.2.2) kvs xs /\
  ∃o es i,h.get? a=some o/\o.ExactDict/\o.data=.dict es i/\es.toList=xs.map (entryOfKey (tupleKind (Qy P w)))/\(xs.map (·.1)).Nodup
 | .set S n=>h.SetOf (intKind P w) a S n
 | .ins C dx fs=>H dx=some (.own a)/\fs.length<=1000/\dx≠a/\h.get? a=some (W.instObj C dx) /\
  ∃c,h.Ns1 dx c/\(∀f,qK (fs.lookup f) (c f))/\PySem.Within c (fs.map (·.1))
 | .own _=>∃o,h.get? a=some o
 | .xd fs=>∃c,h.Ns1 a c/\∀f,qK (fs.lookup f) (c f)
 | .rng lo hi=>∃t u v,h.get? a=some { cls:=.type "range",data:=.fields #[.int lo t,.int hi u,.int 1 v] }
 | .frz o u=>h.get? a=some o/\xj H h a u
 | .tbl ps=>h.get? a=some { cls:=.none,data:=.fields ps }
 | .met f x=>h.get? a=some (W.methodObj (.ref f) (.ref x))
 | .ext φ => φ h/\(∃o,h.get? a=some o)/\∀e g:Heap,φ e->(∀o,e.get? a=some o->g.get? a=some o) -> φ g
def qr (H:Hp)(h:Heap):Prop:=∀a o,H a=some o->xj P w H h a o
end
section
variable {P:Program}{w:World}{H H':Hp}{h h':Heap}{a:Addr}{o:HO}
theorem xj.lt (x:xj P w H h a o):a<h.objs.size:=by
 cases o with
 |lst xs=>obtain⟨_,_,_,_,e⟩:=x;exact Zk e
 |tup xs=>obtain⟨_,_,_,p⟩:=x;exact p.lt
 |dK b=>obtain⟨_,_,_,_,o,_,_,e,_⟩:=x;exact Zk e
 |dT b=>obtain⟨_,_,_,_,o,_,_,e,_⟩:=x;exact Zk e
 |set S n=>obtain⟨o,_,_,_,e,_⟩:=x;exact Zk e
 |ins C c fs=>exact Zk x.2.2.2.1
 |own y=>obtain⟨_,e⟩:=x;exact Zk e
 |xd fs=>obtain⟨_,⟨_,_,_,e,_⟩,_⟩:=x;exact Zk e
 |rng lo d=>obtain⟨_,_,_,e⟩:=x;exact Zk e
 |frz g u=>exact Zk x.1
 |tbl ps=>exact Zk (x)
 |met f y=>exact Zk (x)
 |ext φ => obtain⟨_,⟨_,e⟩,_⟩:=x;exact Zk e
def qY {α β: Type}{F G:α -> β -> Prop}:∀{l₁:List α} {l₂:List β},Paired F l₁ l₂->(∀a b,F a b->G a b)->Paired G l₁ l₂:=λh f=>by
 induction h with
 |nil=>exact .nil
 |cons r _ c=>exact .cons (f _ _ r) c
def xj.stay (x:xj P w H h a o)(k:∀b u,(b=a\/H b=some (.own a))->h.get? b=some u->h'.get? b=some u)
 (A:∀b,H b=some (.own a)->H' b=some (.own a)) (G:∀b xs,H b=some (.tup xs)->H' b=some (.tup xs)):xj P w H' h' a o:=by
 induction o with
 |lst xs=>obtain⟨z,j,n,r,e⟩:=x;exact⟨z,j,n,r,k _ _ (.inl rfl) e⟩
 |tup xs=>obtain⟨⟨z,l,I,dd⟩,j,r,g,e,c⟩:=x;exact⟨(),j,r,g,k _ _ (.inl rfl) e,c⟩
 |dK m=>have ⟨z,y,B,r,g,es,i,e,c⟩:=x;exact⟨z,y,B,r,g,es,i,k _ _ (.inl rfl) e,c⟩
 |dT m =>
  obtain⟨z,y,xs,r,g,es,i,e,c⟩:=x;exact⟨z,y,xs,qY r (),g,es,i,k _ _ (.inl rfl) e,c⟩
 |set S n=>have ⟨g,es,i,t,e,c⟩:=x;exact⟨g,es,i,t,k _ _ (.inl rfl) e,c⟩
 |ins C J fs =>
  obtain⟨d,z,ne,e,s,⟨l,es,i,E,c⟩,r⟩:=x;exact⟨A _ d,z,ne,k _ _ (.inl rfl) e,s,⟨l,es,i,k _ _ (.inr d) E,c⟩,r⟩
 |own y=>have ⟨g,e⟩:=x;exact⟨g,k _ _ (.inl rfl) e⟩
 |xd fs=>obtain⟨s,⟨l,es,i,e,c⟩,r⟩:=x;exact⟨s,⟨l,es,i,k _ _ (.inl rfl) e,c⟩,r⟩
 |rng lo K=>have ⟨t,u,v,e⟩:=x;exact⟨t,u,v,k _ _ (.inl rfl) e⟩
 |frz g u F=>exact⟨k _ _ (.inl rfl) x.1,F x.2⟩
 |tbl ps =>
  exact k a _ (.inl rfl) x
 |met f y =>
  exact k a _ (.inl rfl) x
 |ext φ => have ⟨p,⟨o,e⟩,st⟩:=x;exact⟨st _ _ p λo q=>k _ _ (.inl rfl) q,⟨o,k _ _ (.inl rfl) e⟩,st⟩
theorem qr.lt (x:qr P w H h)(e:H a=some o):a<h.objs.size:=(x a o e).lt
def qr.fresh (x:qr P w H h)(e:h.objs.size<=a):H a=none:=by
 cases q:H a with
 |none=>rfl
 |some u=>exact Zn (Zg (x.lt q) e) (Zy _)
def qr.kept (x:qr P w H h)(k:∀b u,h.get? b=some u->h'.get? b=some u):qr P w H h':=λa o e =>
 (x a o e).stay () (λ_ q=>q) λ_ _ q=>q
def qr.laid (x:qr P w H h)(k:∀b u,h.get? b=some u->h'.get? b=some u)(hp:h.objs.size<=a)(new:xj P w (upd H a o) h' a o):qr P w (upd H a o) h':=λb u e=>by
 have d:=x.fresh hp;by_cases f:b=a
 .simp_all [JC]
 .rw[Jz f] at e;exact(x b u e).stay () (λc q=>by rwa [Jz (QP q d)]) λc xs q=>by rwa [Jz (QP q d)]
end
def Rd (H:Hp)(a:Addr)(u:HO):Prop:=H a=some u\/∃o,H a=some (.frz o u)
def Rd.ok {P:Program}{w:World}{H:Hp}{h:Heap}{a:Addr}{u:HO}(r:Rd H a u)(x:qr P w H h):xj P w H h a u:=by
 rcases r with r|⟨o,r⟩
 .exact x a u r
 .obtain⟨_,q⟩:=x a _ r;exact q
def fm:Option HO->Prop
 |some (.lst _)=>True
 |some (.dK _)=>True
 |some (.dT _)=>True
 |some (.set _ _)=>True
 |some (.ins _ _ _)=>True
 |some (.ext _)=>True
 |_=>False
section
variable {P:Program}{w:World}{H:Hp}{h h':Heap}{x e:Addr}{o':HO}
def qr.write (ok:qr P w H h)(i:fm (H x))(l:e=x\/H e=some (.own x))(k:∀b u,b≠e->h.get? b=some u->h'.get? b=some u)(f:∃u,h'.get? e=some u)
 (new:xj P w (upd H x o') h' x o'):qr P w (upd H x o') h':=λb u q=>by
 have a:∀c y,H c=some (.own y)->c≠x:=λc y r z=>by subst z;rwa [r] at i
 have d:∀c xs,H c=some (.tup xs)->c≠x:=λc xs r z=>by subst z;rwa [r] at i
 by_cases j:b=x
 .simp_all [JC]
 .rw[Jz j] at q;by_cases g:b=e
  .have q':H b=some (.own x):=by
    simp_all
   rw[q] at q';cases q';obtain⟨v,m⟩:=f;exact⟨v,by rwa [g]⟩
  .refine(ok b u q).stay (λc v n r=>k c v ?_ r) (λc r=>by rwa [Jz (a c b r)]) λc xs r=>by rwa [Jz (d c xs r)]
   grind
end
structure Un (fs ex:Yi)(H H':Hp)(h h':Heap):Prop where
 keep:∀b o,h.get? b=some o->H b=none->b∉fs->b∉ex->h'.get? b=some o
 slot:∀b o,h.get? b=some o->H b=none->b∈fs->b∉ex->∃sl,h'.get? b=some { o with slots:=sl }
 free:∀b o,h.get? b=some o->H b=none->b∉ex->H' b=none
 there:∀b o,h.get? b=some o->b∉ex->∃o',h'.get? b=some o'
 tups:∀b xs,H b=some (.tup xs)->H' b=some (.tup xs)
 frzs:∀b o u,H b=some (.frz o u)->H' b=some (.frz o u)
 tbls:∀b ps,H b=some (.tbl ps)->∃more,H' b=some (.tbl (ps++more))
section
variable {fs fs' ex ex':Yi}{H H1 H2:Hp}{h h1 h2 h':Heap}{a x e:Addr}{o:HO}
def Un.any (u:Un fs ex H H1 h h1){b:Addr}{c:Obj}(q:h.get? b=some c)(n:H b=none)(hx:b∉ex):∃f,h1.get? b=some { c with slots:=f }:=by
 by_cases d:b∈fs
 .exact u.slot b c q n d hx
 .exact⟨c.slots,u.keep b c q n d hx⟩
def Un.kept (k:∀b u,h.get? b=some u->h'.get? b=some u):Un fs ex H H h h':=
 ⟨(),λb c q _ _ _=>⟨c.slots,k b c q⟩,λ_ _ _ n _=>n,(),λ_ _ q=>q,λ_ _ _ q=>q,λ_ ps q=>⟨#[],by rw[q];simp⟩⟩
def Un.refl:Un fs ex H H h h:=Un.kept λ_ _ q=>q
def Un.laid (k:∀b u,h.get? b=some u->h'.get? b=some u)(hp:h.objs.size<=a)(c:H a=none):Un fs ex H (upd H a o) h h' where
 keep:=by grind
 slot:=λb u q _ _ _=>⟨u.slots,k b u q⟩
 free:=λb u q n _=>by rwa [Jz (Zi (Zg (Zk q) hp))]
 there:=by grind
 tups:=λb xs q=>by rwa [Jz (QP q c)]
 frzs:=λb u xs q=>by rwa [Jz (QP q c)]
 tbls:=λb ps q=>⟨#[],by rw[Jz (QP q c),q];simp⟩
def Un.write (d:fm (H x))(i:e=x\/H e=some (.own x))(k:∀b u,b≠e->h.get? b=some u->h'.get? b=some u)(f:∃u,h'.get? e=some u):Un fs ex H (upd H x o) h h':=by
 have hx:∀b,H b=none->b≠x:=λb n z=>by subst z;rwa [n] at d
 have g:∀b,H b=none->b≠e:=by grind
 have c:∀b u,H b=some u->¬fm (some u)->b≠x:=by grind
 refine⟨(),λb u q n _ _=>⟨u.slots,k b u (g b n) q⟩,λb u q n _=>by rwa [Jz (hx b n)],λb u q _=>?_,
  λb xs q=>by rwa [Jz (c b _ q λz=>z)],λb u xs q=>by rwa [Jz (c b _ q λz=>z)],λb ps q=>⟨#[],by rw[Jz (c b _ q λz=>z),q];simp⟩⟩
 grind
end
def trk (h:Heap)(H:Hp):Yi:=(List.range h.objs.size).filter λa=>(H a).isSome
def xJ (h:Heap)(H:Hp):Heap:=W.hideAll h (trk h H)
def HW (h)(H):(xJ h H).objs.size=h.objs.size:=W.hideAll_size _ _
def HX {h:Heap}{H:Hp}{b:Addr}{o:Obj}(e:h.get? b=some o)(n:H b=none):(xJ h H).get? b=some o:=
 W.hideAll_get _ e λa=>by
  have q:=(List.mem_filter.mp a).2
  simp_all
def HY {h:Heap}{H:Hp}{b:Addr}{o:Obj}(e:(xJ h H).get? b=some o):h.get? b=some o/\H b=none:=by
 have a:=W.of_hideAll (trk h H) e;refine⟨a,?_⟩;cases q:H b with
 |none=>rfl
 |some x =>
  have c:b∈trk h H:=List.mem_filter.mpr ⟨Jk.mpr (Zk a),by simp[q]⟩;have z:(xJ h H).get? b=none:=W.hideAll_none (trk h H) c
  simp_all
structure Mod (K:W.Frag)(mg:Yc)(base:Heap):Prop where
 kin:K.In base
 glob:base.Ns mainGlobals mg
 blt:∃mb,base.Ns builtinsNs mb/\∀x:Str,x ≠ "__name__" -> mb x=bootBuiltins x
 nolimit:base.NoLimit
structure Cx where
 prog:Program
 w:World
 K:W.Frag
 mg:Yc
 base:Heap
 A:Around
 N:Yh
 s₀:Shared
 H₀:Hp
 env:Env
 outer:List Env
 stack:List Env
 ex:Yi
 fn:Str->Bool
 calm:Bool
 pn:Yb
 xe:Ya
abbrev _root_.Yv(X:Cx){α:Type}(m:Sem α):=wpAny (model X.prog X.w) X.A m
abbrev _root_.Yw(P:Program)(w:World)(A:Around){α:Type}(m:Sem α):=wpAny (model P w) A m
abbrev _root_.Yx(P:Program)(w:World)(A:Around)(E:Value->Shared->Prop)(s:Shared){α:Type}(m:StateT PyProof.Rows.SortSt Sem α):=PyProof.Rows.wpS (model P w) A E s m
def frs (l:List Env):Yi:=l.filterMap (·.frame)
abbrev Cx.fs (X:Cx):Yi:=frs X.outer
def gR (a:Scope)(x:Str):Prop:=a.names.lookup x=some .local\/a.names.lookup x=some .cell\/a.names.lookup x=some .free
def xY (a:Scope)(x:Str):Prop:=a.names.lookup x=some .local\/a.names.lookup x=some .cell
def mR (env:Env)(h:Heap)(m:Yc)(x:Str)(u:Value):Prop:=
 (env.kindOf x=some .local/\m x=some u)\/((env.kindOf x=some .cell\/env.kindOf x=some .free)/\∃c,env.cells.lookup x=some c/\h.IsCell c (some u))
structure Cx.Ok (X:Cx):Prop where
 mod:Mod X.K X.mg X.base
 kind:X.env.scope.kind=.function
 glob:X.env.globals=mainGlobals
 blt:X.env.builtins=builtinsNs
 above:X.s₀.heap.objs.size<=X.env.locals
 inj:∀x y c,X.env.cells.lookup x=some c->X.env.cells.lookup y=some c->x=y
 has:∀x,(X.env.kindOf x=some .cell\/X.env.kindOf x=some .free)->∃c,X.env.cells.lookup x=some c
 cab:∀x c,X.fn x=true->X.env.cells.lookup x=some c->X.s₀.heap.objs.size<=c
 hd:X.calm=true->X.A.handled=none
 frames:X.A.frames=some X.stack
 stk:X.stack=X.outer\/(X.stack=X.env::X.outer/\X.env.frame=some X.env.locals)
 exf:∀b∈X.ex,b≠X.env.locals/\∀x c,X.env.cells.lookup x=some c->c≠b
 bs:∀b o,X.base.get? b=some o->X.s₀.heap.get? b=some o/\X.H₀ b=none
 bsz:X.base.objs.size<=X.s₀.heap.objs.size
 noex:∀b o,X.base.get? b=some o->b∉X.ex
 exfs:∀b∈X.ex,b∉X.fs
 funs:X.s₀.heap.FunFrames X.base X.outer
 frf:∀b∈X.fs,X.H₀ b=none
structure Inv (X:Cx)(Y:Yb)(Z: List Ys)(H:Hp)(s:Shared):Prop where
 ok:X.Ok
 os:s.os=X.s₀.os
 bare:AllBare s.gens
 base:Un X.fs X.ex X.H₀ H X.s₀.heap s.heap
 loc:∃m,s.heap.Ns X.env.locals m/\∀(i:Nat) (x:Str) (v:V),X.N[i]? = some x -> Z[i]? = some (some v)->gR X.env.scope x->∃u,TC v u/\mR X.env s.heap m x u
 cell:∀x c,X.env.cells.lookup x=some c->∃v,s.heap.IsCell c v
 free:H X.env.locals=none
 freeC:∀x c,X.env.cells.lookup x=some c->H c=none
 pin:∀p∈X.pn++Y,s.heap.get? p.1=some p.2/\H p.1=none/\p.1≠X.env.locals/\p.1∉X.fs/\∀v,p.2.data ≠ .cell v
 hok:qr X.prog X.w H s.heap
 len:Z.length=X.N.length
section
variable {X:Cx}{Y:Yb}{Z: List Ys}{H H':Hp}{s:Shared}{h':Heap}
def Cx.Ok.nofr (ok:X.Ok){b:Addr}{o:Obj}(e:X.base.get? b=some o):b∉X.fs:=λa=>by
 have:=(ok.funs.mem a).1
 simp_all
theorem Inv.bs (I:Inv X Y Z H s):∀b o,X.base.get? b=some o->s.heap.get? b=some o/\H b=none:=λb o e =>
 ⟨I.base.keep b o (I.ok.bs b o e).1 (I.ok.bs b o e).2 (I.ok.nofr e) (I.ok.noex b o e),I.base.free b o (I.ok.bs b o e).1 (I.ok.bs b o e).2 (I.ok.noex b o e)⟩
def Inv.bk (I:Inv X Y Z H s):∀b o,X.base.get? b=some o->s.heap.get? b=some o:=λb o e=>(I.bs b o e).1
theorem Inv.mod (I:Inv X Y Z H s):Mod X.K X.mg X.base:=I.ok.mod
def Inv.kIn (I:Inv X Y Z H s):X.K.In s.heap:=I.ok.mod.kin.keeps I.bk
theorem Inv.lt (I:Inv X Y Z H s):X.env.locals<s.heap.objs.size:=let ⟨_,hn,_⟩:=I.loc;hn.lt
def Inv.sz (I:Inv X Y Z H s):X.s₀.heap.objs.size<=s.heap.objs.size:=Zh I.ok.above (Zz I.lt)
def Inv.nofs (I:Inv X Y Z H s){a:Addr}(h:s.heap.objs.size<=a):a∉X.fs:=λb=>by
 obtain⟨_,o,c,_⟩:=I.ok.funs.mem b;exact Zn (Zg (Zk c) (Zh I.sz h)) (Zy _)
def Inv.cne (I:Inv X Y Z H s):∀x c,X.env.cells.lookup x=some c->c≠X.env.locals:=λx c e z=>by
 obtain⟨v,o,d,f⟩:=I.cell x c e;obtain⟨m,⟨g,es,h,a,b,_⟩,_⟩:=I.loc
 simp_all
theorem Inv.funs (I:Inv X Y Z H s):s.heap.FunFrames X.base X.outer:=by
 have all:∀l,(∀b∈frs l,b∈X.fs)->X.s₀.heap.FunFrames X.base l->s.heap.FunFrames X.base l:=by
  intro l
  induction l with
  |nil=>intro _ _;trivial
  |cons env r f =>
   intro c g;obtain⟨h,⟨L,o,i,j,m,n⟩,p⟩:=g;have a:L∈X.fs:=c L (by simp_all [frs,UH]);obtain⟨q,e⟩:=I.base.slot L o m (I.ok.frf L a) a λz=>I.ok.exfs L z a;exact⟨h,⟨L,_,i,j,e,n⟩,f (λb d=>c b (by simp_all [frs,UH])) p⟩
 exact all X.outer (λ_ d=>d) I.ok.funs
theorem Inv.stack (I:Inv X Y Z H s):s.heap.FunFrames X.base X.stack:=by
 rcases I.ok.stk with e|⟨e,hf⟩
 .rw[e];exact I.funs
 .rw[e];have ⟨m,a,_⟩:=I.loc;exact .cons (by rw[I.ok.kind];decide) hf a (Heap.get?_none_of_le (Zh I.ok.bsz I.ok.above)) I.funs
def Inv.stkSub (I:Inv X Y Z H s):∀b∈frs X.stack,b∈X.env.locals::X.fs:=λb a=>by
 rcases I.ok.stk with e|⟨e,hf⟩
 .simp_all
 simp_all [frs]
def Inv.stkFree (I:Inv X Y Z H s):∀b∈frs X.stack,H b=none:=λb hb=>by
 rcases UB.mp (I.stkSub b hb) with e|hb
 .rw[e];exact I.free
 .obtain⟨_,o,a,_⟩:=I.ok.funs.mem hb;exact I.base.free b o a (I.ok.frf b hb) λz=>I.ok.exfs b z hb
def Inv.step {g':Array GenState}{t':Nat}{d':Drawn}{ch:Yi}(I:Inv X Y Z H s)
 (a:∀b∈ch,(b∈X.ex\/X.s₀.heap.objs.size<=b)/\b≠X.env.locals/\(∀x c,X.env.cells.lookup x=some c->c≠b)/\∀p∈X.pn++Y,p.1≠b)
 (keep:∀b o,b≠X.env.locals->b∉X.fs->b∉ch->s.heap.get? b=some o->H b=none->h'.get? b=some o)
 (t:∀b o,b≠X.env.locals->b∈X.fs->b∉ch->s.heap.get? b=some o->H b=none->∃L,h'.get? b=some { o with slots:=L }) (free:∀b o,b∉ch->s.heap.get? b=some o->H b=none->H' b=none)
 (w:∀b o,b∉ch->s.heap.get? b=some o->∃B,h'.get? b=some B)
 (C:∀b xs,H b=some (.tup xs)->H' b=some (.tup xs)) (E:∀b o u,H b=some (.frz o u)->H' b=some (.frz o u)) (F:∀b ps,H b=some (.tbl ps)->∃G,H' b=some (.tbl (ps++G)))
 (R:∀m,s.heap.Ns X.env.locals m->h'.Ns X.env.locals m) (M:qr X.prog X.w H' h') (S:AllBare g'):
 Inv X Y Z H' { s with heap:=h',gens:=g',drawn:=d',toks:=t' }:=by
 have J:∀b o,X.s₀.heap.get? b=some o->b≠X.env.locals:=λb o e=>Zi (Zg (Zk e) I.ok.above);have h:∀b o,X.s₀.heap.get? b=some o->b∉X.ex->b∉ch:=λb o e hx y=>by
  rcases(a b y).1 with z|z
  .exact hx z
  .exact Zn (Zg (Zk e) z) (Zy _)
 have f:∀x c,X.env.cells.lookup x=some c->∀v,s.heap.IsCell c v->h'.IsCell c v:=λx c e v T=>by
  obtain⟨o,A,N⟩:=T;have g:c∉ch:=λz=>(a c z).2.2.1 x c e rfl;by_cases P:c∈X.fs
  .obtain⟨L,q⟩:=t c o (I.cne x c e) P g A (I.freeC x c e);exact⟨_,q,N⟩
  .exact⟨o,keep c o (I.cne x c e) P g A (I.freeC x c e),N⟩
 refine⟨I.ok,I.os,S,⟨λb o e n y hx=>?_,λb o e n y hx=>?_,λb o e n hx=>?_,λb o e hx=>?_,λb xs e=>C b xs (I.base.tups b xs e),λb o xs e=>E b o xs (I.base.frzs b o xs e),λb ps e=>?_⟩,?_,λx c e=>?_,?_,λx c e=>?_,λp hp=>?_,M,I.len⟩
 .exact keep b o (J b o e) y (h b o e hx) (I.base.keep b o e n y hx) (I.base.free b o e n hx)
 .obtain⟨L,j⟩:=I.base.slot b o e n y hx;obtain⟨O,K⟩:=t b _ (J b o e) y (h b o e hx) j (I.base.free b o e n hx);exact⟨O,K⟩
 .obtain⟨B,j⟩:=I.base.there b o e hx;exact free b B (h b o e hx) j (I.base.free b o e n hx)
 .obtain⟨B,j⟩:=I.base.there b o e hx;exact w b B (h b o e hx) j
 .obtain⟨U,j⟩:=I.base.tbls b ps e;obtain⟨m2,K⟩:=F b _ j;exact⟨U++m2,by rw[K,Array.append_assoc]⟩
 .obtain⟨m,hn,hl⟩:=I.loc;refine⟨m,R m hn,λi x v j K e3=>?_⟩;obtain⟨u,r,l⟩:=hl i x v j K e3;refine⟨u,r,?_⟩;rcases l with l|⟨k,c,e,z⟩
  .exact .inl l
  .exact .inr ⟨k,c,e,f x c e _ z⟩
 .obtain⟨v,z⟩:=I.cell x c e;exact⟨v,f x c e v z⟩
 .obtain⟨m,⟨o,_,_,A,_⟩,_⟩:=I.loc;exact free _ o (λz=>(a _ z).2.1 rfl) A I.free
 .obtain⟨v,o,A,N⟩:=I.cell x c e;exact free c o (λz=>(a c z).2.2.1 x c e rfl) A (I.freeC x c e)
 .obtain⟨e,n,ne,Q,d⟩:=I.pin p hp;have g:p.1∉ch:=λz=>(a p.1 z).2.2.2 p hp rfl;exact⟨keep p.1 p.2 ne Q g e n,free p.1 p.2 g e n,ne,Q,d⟩
def Inv.un {t':Nat}(I:Inv X Y Z H s)(u:Un X.fs [] H H' s.heap h')(c:qr X.prog X.w H' h'):Inv X Y Z H' { s with heap:=h',toks:=t' }:=have ⟨m,⟨o,es,p,h,r⟩,_⟩:=id I.loc;have ⟨q,i⟩:=u.any h I.free ();I.step (ch:=[]) () (λb o _ d _ e n=>u.keep b o e n d ()) (λb o _ d _ e n=>u.slot b o e n d ()) (λb o _ e n=>u.free b o e n ()) (λb o _ e=>u.there b o e ()) u.tups u.frzs u.tbls (λt j=>by
 obtain⟨v,f,g,a,l⟩:=j;rw[h] at a;cases a;exact⟨_,f,g,i,l⟩) c I.bare
def Inv.call {g':Array GenState}{t':Nat}{d':Drawn}{ch:Yi}(I:Inv X Y Z H s)(u:Un (frs X.stack) ch H H' s.heap h')(f:qr X.prog X.w H' h')(q:AllBare g')
 (g:∀b∈ch,(b∈X.ex\/X.s₀.heap.objs.size<=b)/\b≠X.env.locals/\(∀x c,X.env.cells.lookup x=some c->c≠b)/\∀p∈X.pn++Y,p.1≠b):
 Inv X Y Z H' { s with heap:=h',gens:=g',drawn:=d',toks:=t' }:=have ⟨m,⟨o,es,y,l,r⟩,_⟩:=id I.loc;have ⟨A,h⟩:=u.any l I.free ();I.step g (λb o h t a e n=>u.keep b o e n (λz=>(UB.mp (I.stkSub b z)).elim h t) a) (λb o _ _ a e n=>u.any e n a) (λb o a e n=>u.free b o e n a) (λb o a e=>u.there b o e a) u.tups u.frzs u.tbls (λB v=>by
 obtain⟨C,i,j,d,w⟩:=v;rw[l] at d;cases d;exact⟨_,i,j,h,w⟩) f q
def Inv.turned {t':Nat}{it:Addr}(I:Inv X Y Z H s)(k:∀b o,b≠it->s.heap.get? b=some o->h'.get? b=some o)(i:H it=none)(d:it≠X.env.locals)
 (j:it∈X.ex\/X.s₀.heap.objs.size<=it) (l:∀x c,X.env.cells.lookup x=some c->c≠it) (t:∀p∈X.pn++Y,p.1≠it):Inv X Y Z H { s with heap:=h',toks:=t' }:=by
 refine I.step (ch:=[it]) (λb w=>?_) () (λb o _ _ a e _=>⟨o.slots,k b o (λz=>a (by simp[z])) e⟩) (λ_ _ _ _ n=>n)
  () (λ_ _ e=>e) (λ_ _ _ e=>e) (λb ps e=>⟨#[],by rw[e];simp⟩) (λm f=>?_) (λb u e=>?_) I.bare
 .grind
 .have ⟨o,es,g,h,r⟩:=f;exact⟨o,es,g,k _ o (Ne.symm d) h,r⟩
 .refine(I.hok b u e).stay (λc v a q=>k c v ?_ q) (λ_ q=>q) λ_ _ q=>q
  grind
def Inv.tok (I:Inv X Y Z H s)(t):Inv X Y Z H { s with toks:=t }:=I.un Un.refl I.hok
theorem Inv.kept {t':Nat}(I:Inv X Y Z H s)(k:∀b u,s.heap.get? b=some u->h'.get? b=some u):Inv X Y Z H { s with heap:=h',toks:=t' }:=I.un (Un.kept k) (I.hok.kept k)
theorem Inv.laid {a:Addr}{o:HO}{t':Nat}(I:Inv X Y Z H s)(k:∀b u,s.heap.get? b=some u->h'.get? b=some u)(hp:s.heap.objs.size<=a)(new:xj X.prog X.w (upd H a o) h' a o):
 Inv X Y Z (upd H a o) { s with heap:=h',toks:=t' }:=I.un (Un.laid k hp (I.hok.fresh hp)) (I.hok.laid k hp new)
theorem Inv.write {x e:Addr}{o:HO}{t':Nat}(I:Inv X Y Z H s)(c:fm (H x))(d:e=x\/H e=some (.own x))(k:∀b u,b≠e->s.heap.get? b=some u->h'.get? b=some u)(a:∃u,h'.get? e=some u)
 (new:xj X.prog X.w (upd H x o) h' x o):Inv X Y Z (upd H x o) { s with heap:=h',toks:=t' }:=I.un (Un.write c d k a) (I.hok.write c d k a new)
def Inv.pins_of {Y':Yb}(I:Inv X Y Z H s)(h:∀p∈Y',s.heap.get? p.1=some p.2/\H p.1=none/\p.1≠X.env.locals/\p.1∉X.fs/\∀v,p.2.data ≠ .cell v):Inv X Y' Z H s:=
 ⟨I.ok,I.os,I.bare,I.base,I.loc,I.cell,I.free,I.freeC,λp hp=>(Jb.mp hp).elim (λz=>I.pin p ()) (h p),I.hok,I.len⟩
def D8 {N:Yh}(c:N.Nodup){i j:Nat}{x:Str}(a:N[i]? = some x)(b:N[j]? = some x):i=j:=by
 obtain⟨f,d⟩:=Jd.mp a;obtain⟨g,e⟩:=Jd.mp b;exact(List.getElem_inj c).mp (d.trans e.symm)
def HZ {M:Model}{A:Around}{E:Ya}{i:Nat}{x:Str}{v:V}{u:Value}{Q:Unit->Yq}(I:Inv X Y Z H s)(hN:X.N.Nodup)(B:X.N[i]? = some x)(hx:xY X.env.scope x)(r:TC v u)
 (h:∀s',Inv X Y (Z.set i (some v)) H s'->(∃a,Heap.SameBut a s.heap s'.heap/\(a=X.env.locals\/X.env.cells.lookup x=some a))->Q Ym s') (hf:X.fn x=true\/X.env.scope.names.lookup x=some .local:=by trivial):wpAny M A (storeName X.env x u) Q E s:=by
 obtain⟨m,R,hl⟩:=id I.loc;have J:(X.env.scope.kind == .class||(X.env.scope.kind == .module&&X.env.locals != X.env.globals))=false:=by rw[I.ok.kind];rfl
 have hiσ: i < Z.length:=by rw[I.len];exact(Jd.mp B).1
 have cne:=I.cne;have g:∀{a:Addr} {h':Heap},(∃o,s.heap.get? a=some o/\H a=none)->Heap.SameBut a s.heap h'->qr X.prog X.w H h':=λ{a h'} ha f b ob e=>by
  obtain⟨_,_,S⟩:=ha;refine(I.hok b ob e).stay (λc O t q=>(f.2 c ?_).trans q) (λ_ q=>q) λ_ _ q=>q
  grind
 rcases hx with hk|hk
 .refine wpAny_storeName_local hk R (λh' T f=>?_) J;obtain⟨oL,_,_,U,_⟩:=id R;refine h _ ⟨I.ok,I.os,I.bare,⟨λb o e n C hx=>?_,λb o e n C hx=>?_,I.base.free,λb o e hx=>?_,I.base.tups,I.base.frzs,I.base.tbls⟩,⟨_,T,λj y v' l w e3=>?_⟩,λy c e=>?_,I.free,I.freeC,λp hp=>?_,g ⟨oL,U,I.free⟩ f,by simpa using I.len⟩ ⟨_,f,.inl rfl⟩
  .exact(f.2 b (Zi (Zg (Zk e) I.ok.above))).trans (I.base.keep b o e n C hx)
  .obtain⟨sl,l⟩:=I.base.slot b o e n C hx;exact⟨sl,(f.2 b (Zi (Zg (Zk e) I.ok.above))).trans l⟩
  .obtain⟨o',l⟩:=I.base.there b o e hx;exact⟨o',(f.2 b (Zi (Zg (Zk e) I.ok.above))).trans l⟩
  .by_cases F:j=i
   .subst F;rw[B] at l;cases l;rw[UN hiσ] at w;cases w;exact⟨u,r,.inl ⟨hk,()⟩⟩
   .rw[Zx (Ne.symm F)] at w;obtain⟨u',r',q⟩:=hl j y v' l w e3;refine⟨u',r',?_⟩;rcases q with ⟨k,e⟩|⟨k,c,e,z⟩
    .refine .inl ⟨k,?_⟩;have:y≠x:=λe=>F (D8 hN l (e ▸ B));simp[this,e]
    .exact .inr ⟨k,c,e,z.sameBut f (cne y c e)⟩
  .obtain⟨O,z⟩:=I.cell y c e;exact⟨O,z.sameBut f (cne y c e)⟩
  .obtain⟨e,n,ne,nf,d⟩:=I.pin p hp;exact⟨(f.2 p.1 ne).trans e,n,ne,nf,d⟩
 .have G:X.fn x=true:=by
   rcases hf with z|z
   .exact z
   .rw[z] at hk;cases hk
  obtain⟨c,t⟩:=I.ok.has x (.inl hk);obtain⟨O,z⟩:=I.cell x c t;refine wpAny_storeName_cell I.ok.kind hk t z (λh' K f=>?_);obtain⟨oc,L,hocd⟩:=id z;refine h { s with heap:=h' } ⟨I.ok,I.os,I.bare,⟨λb o e n C hx=>?_,λb o e n C hx=>?_,I.base.free,λb o e hx=>?_,I.base.tups,I.base.frzs,I.base.tbls⟩,⟨m,R.sameBut f (Ne.symm (cne x c t)),λj y v' l w e3=>?_⟩,λy P e=>?_,I.free,I.freeC,λp hp=>?_,g ⟨oc,L,I.freeC x c t⟩ f,by simpa using I.len⟩ ⟨c,f,.inr t⟩
  .exact(f.2 b (Zi (Zg (Zk e) (I.ok.cab x c G t)))).trans (I.base.keep b o e n C hx)
  .obtain⟨sl,l⟩:=I.base.slot b o e n C hx;exact⟨sl,(f.2 b (Zi (Zg (Zk e) (I.ok.cab x c G t)))).trans l⟩
  .obtain⟨o',l⟩:=I.base.there b o e hx;exact⟨o',(f.2 b (Zi (Zg (Zk e) (I.ok.cab x c G t)))).trans l⟩
  .by_cases F:j=i
   .subst F;rw[B] at l;cases l;rw[UN hiσ] at w;cases w;exact⟨u,r,.inr ⟨.inl hk,c,t,K⟩⟩
   .rw[Zx (Ne.symm F)] at w;obtain⟨u',r',q⟩:=hl j y v' l w e3;refine⟨u',r',?_⟩;rcases q with q|⟨k,P,e,z'⟩
    .exact .inl q
    .refine .inr ⟨k,P,e,z'.sameBut f ?_⟩;rintro rfl;exact F (D8 hN l (I.ok.inj _ _ _ e t ▸ B))
  .by_cases N:P=c
   .subst N;exact⟨_,K⟩
   .obtain⟨w2,z2⟩:=I.cell y P e;exact⟨w2,z2.sameBut f N⟩
  .obtain⟨e,n,ne,nf,d⟩:=I.pin p hp;refine⟨(f.2 p.1 ?_).trans e,n,ne,nf,d⟩;intro q;rw[q,L] at e;have q':=Zqi e;exact d O (by rwa [<- q'])
def Y8 {M:Model}{A:Around}{E:Ya}{i:Nat}{x:Str}{v:V}{u:Value}{Q:Unit->Yq}(I:Inv X Y Z H s)(a:X.N.Nodup)(b:X.N[i]? = some x)(hx:xY X.env.scope x)(r:TC v u)
 (h:∀s',Inv X Y (Z.set i (some v)) H s'->Q Ym s') (c:X.fn x=true\/X.env.scope.names.lookup x=some .local:=by trivial):wpAny M A (storeName X.env x u) Q E s:=
 HZ I a b hx r (λs' d _=>h s' d) c
def Inv.call' {s':Shared}{ch:Yi}(I:Inv X Y Z H s)(e:s'.os=s.os)(u:Un (frs X.stack) ch H H' s.heap s'.heap)(a:qr X.prog X.w H' s'.heap)(f:AllBare s'.gens)
 (d:∀b∈ch,(b∈X.ex\/X.s₀.heap.objs.size<=b)/\b≠X.env.locals/\(∀x c,X.env.cells.lookup x=some c->c≠b)/\∀p∈X.pn++Y,p.1≠b):Inv X Y Z H' s':=by
 obtain⟨h',g',d',t',g⟩:=s';subst e;exact I.call u a f d
end
abbrev XK:=Value->Option Addr->Hp->Prop
abbrev St:=List Ys
abbrev VK:=V->Hp->Prop
abbrev TE:=St->Hp->VK->Prop
abbrev TT:=St->Hp->(Bool->Hp->Prop)->Prop
abbrev TA:=St->Hp->(Yr->Hp->Prop)->Prop
structure Ends where
 nx:St->Hp->Prop
 rt:VK
 bk:St->Hp->Prop:=λ_ _=>False
 ct:St->Hp->Prop:=λ_ _=>False
abbrev TS:=Ends->St->Hp->Prop
def EP (X:Cx)(Y:Yb)(Z: St)(Q:VK)(u:Value)(s':Shared):Prop:=∃v a,Inv X Y Z a s'/\TC v u/\Q v a
def TP (X:Cx)(Y:Yb)(Z: St)(Q:Bool->Hp->Prop)(b:Bool)(s':Shared):Prop:=∃a,Inv X Y Z a s'/\Q b a
def AP (X:Cx)(Y:Yb)(Z: St)(Q:Yr->Hp->Prop)(us:Yd)(s':Shared):Prop:=∃a b,Inv X Y Z b s'/\TD a us/\Q a b
def SP (X:Cx)(Y:Yb)(D:Ends)(f:Flow)(s':Shared):Prop:=
 match f with
 | .next=>∃b a,Inv X Y b a s'/\D.nx b a
 | .brk=>∃b a,Inv X Y b a s'/\D.bk b a
 | .cont=>∃b a,Inv X Y b a s'/\D.ct b a
 | .ret u=>∃v b a,Inv X Y b a s'/\TC v u/\D.rt v a
def PE (X:Cx)(e:Expr)(t:TE):Prop:=
 ∀(Y:Yb) (s:Shared) (Z: St) (H:Hp) (Q:VK),Inv X Y Z H s->t Z H Q->Yv X (eval e X.env) (EP X Y Z Q) X.xe s
def PT (X:Cx)(e:Expr)(t:TT):Prop:=
 ∀(Y:Yb) (s:Shared) (Z: St) (H:Hp) (Q:Bool->Hp->Prop),Inv X Y Z H s->t Z H Q->Yv X (isTrue e X.env (eval e X.env)) (TP X Y Z Q) X.xe s
def PW (X:Cx)(e:Expr)(t:TT):Prop:=
 ∀(a:Sem Value) (Y:Yb) (s:Shared) (Z: St) (H:Hp) (Q:Bool->Hp->Prop),Inv X Y Z H s->t Z H Q->Yv X (isTrue e X.env a) (TP X Y Z Q) X.xe s
def gW {X:Cx}{e:Expr}{t:TT}(h:PW X e t):PT X e t:=h _
def PA (X:Cx)(es:Yj)(t:TA):Prop:=
 ∀(a:Pos) (Y:Yb) (s:Shared) (Z: St) (H:Hp) (Q:Yr->Hp->Prop),Inv X Y Z H s->t Z H Q->Yv X (spliced (backTo a (starEach es X.env))) (AP X Y Z Q) X.xe s
def PS (X:Cx)(st:Stmt)(t:TS):Prop:=
 ∀(Y:Yb) (s:Shared) (Z: St) (H:Hp) (D:Ends),Inv X Y Z H s->t D Z H->Yv X (exec st X.env) (SP X Y D) X.xe s
def qx (X:Cx)(st:List Stmt)(t:TS):Prop:=
 ∀(Y:Yb) (s:Shared) (Z: St) (H:Hp) (D:Ends),Inv X Y Z H s->t D Z H->Yv X (execs st X.env) (SP X Y D) X.xe s
def TQ {α: Type}{t:Sem α}{Q b: α -> Yq}{M:Model}{A:Around}{E:Ya}{s:Shared}(h:wpAny M A t Q E s)(c:∀a s,Q a s->b a s):wpAny M A t b E s:=Zc h c λ_ _ x=>x
section
variable {X:Cx}
def xl (i:Nat):TE:=λZ H Q=>∃v,Z[i]? = some (some v)/\Q v H
def tC (v:V):TE:=λ_ H Q=>Q v H
def Ia {i:Nat}{x:Str}{d:Pos}(n:X.N[i]? = some x)(o:gR X.env.scope x)(f:(x == ("__debug__" : Str))=false:=by decide)(g:(x == ("__classdict__" : Str))=false:=by decide):PE X (.Name x d) (xl i):=by
 intro Y s Z H Q I h;obtain⟨v,e,h⟩:=h;obtain⟨m,p,q⟩:=I.loc;obtain⟨u,r,l⟩:=q i x v n e o;have b:EP X Y Z Q u s:=⟨v,H,I,r,h⟩;rcases l with ⟨hk,t⟩|⟨hk,c,j,a⟩
 .exact wpAny_Name (wpAny_loadName_local I.ok.kind hk p t b) f
 .rcases hk with hk|hk
  .exact wpAny_Name (wpAny_loadName_cell I.ok.kind hk j a b) f
  .exact wpAny_Name (wpAny_loadName_free I.ok.kind hk j a b g) f
def Ib {i j pos}:PE X (.Constant (.int i) j pos) (tC (.int i)):=λ_ _ _ H _ I h=>wpAny_Constant_int ⟨.int i,H,I.tok _,⟨_,rfl⟩,h⟩
def uw {b j pos}:PE X (.Constant (.bool b) j pos) (tC (.bl b)):=λ_ _ _ H _ I h=>Constant_bool ⟨.bl b,H,I,rfl,h⟩
def Ic {j pos}:PE X (.Constant .none j pos) (tC .non):=λ_ _ _ H _ I h=>Constant_none ⟨.non,H,I,rfl,h⟩
def D9 {x j pos}:PE X (.Constant (.str x) j pos) (tC (.str x)):=λ_ _ _ H _ I h=>Calls.Constant_str ⟨.str x,H,I.tok _,⟨_,rfl⟩,h⟩
def Gl (X:Cx)(x:Str):Prop:=X.env.kindOf x=some .globalImplicit
def WQ {E:Ya}{Y:Yb}{s:Shared}{Z: St}{H:Hp}{x:Str}{u:Value}{a:Pos}{Q:Ya}(I:Inv X Y Z H s)(b:Gl X x)(c:X.mg x=some u)(h:Q u s)
 (d:(x == ("__debug__" : Str))=false:=by decide):Yv X (eval (.Name x a) X.env) Q E s:=
 Calls.Name_function_global I.ok.kind b (Calls.loadGlobal_global (by rw[I.ok.glob];exact I.mod.glob.keeps I.bk) c h) d
def WR {E:Ya}{Y:Yb}{s:Shared}{Z: St}{H:Hp}{x:Str}{u:Value}{a:Pos}{Q:Ya}(I:Inv X Y Z H s)(b:Gl X x)(c:X.mg x=none)(d:bootBuiltins x=some u)(h:Q u s)
 (e:x ≠ "__name__" := by decide) (f:(x == ("__debug__" : Str))=false:=by decide):Yv X (eval (.Name x a) X.env) Q E s:=by
 obtain⟨j,g,i⟩:=I.mod.blt;exact Calls.Name_function_global I.ok.kind b (Calls.loadGlobal_builtin (by rw[I.ok.glob];exact I.mod.glob.keeps I.bk) c (by rw[I.ok.blt];exact g.keeps I.bk) ((i x e).trans d) h) f
def DA {x:Str}{v:V}{u:Value}{a:Pos}(b:Gl X x)(c:X.mg x=some u)(r:TC v u)(d:(x == ("__debug__" : Str))=false:=by decide):PE X (.Name x a) (tC v):=
 λ_ _ _ H _ I h=>WQ I b c ⟨v,H,I,r,h⟩ d
def Ie {x:Str}{v:V}{u:Value}{a:Pos}(b:Gl X x)(c:X.mg x=none)(d:bootBuiltins x=some u)(r:TC v u)(e:x ≠ "__name__" := by decide)(f:(x == ("__debug__" : Str))=false:=by decide):PE X (.Name x a) (tC v):=
 λ_ _ _ H _ I h=>WR I b c d ⟨v,H,I,r,h⟩ e f
variable {a b:Expr}{ta tb:TE}{pos:Pos}
def PC (X:Cx)(c:CmpOp)(a b:Expr)(t:TE):Prop:=
 ∀(Y:Yb) (s:Shared) (Z: St) (H:Hp) (Q:VK),Inv X Y Z H s->t Z H Q ->
  Yv X (eval a X.env) (λv s₁=>Yv X (eval b X.env) (λu s₂=>Yv X (compareOp c v u) (EP X Y Z Q) X.xe s₂) X.xe s₁) X.xe s
def DB (b){c:CmpOp}(h:c ≠ .In)(d:c ≠ .NotIn):behindInMarks c b=false:=by
 cases b<;>first|rfl|(show(_&&(_||_)&&_)=false;simp_all)
def v9 (ta:TE):TE:=λZ H Q=>ta Z H λx c=>Q (.bl (decide (x=.non))) c
def DC (ta:TE):TE:=λZ H Q=>ta Z H λx c=>Q (.bl (!decide (x=.non))) c
def TC.none_iff {x:V}{v:Value}(r:TC x v):(v == Value.none)=decide (x=.non):=by
 cases x with
 |non=>cases r;rfl
 |bl _=>cases r;rfl
 |int _=>obtain⟨t,rfl⟩:=r;rfl
 |str _=>obtain⟨t,rfl⟩:=r;rfl
 |byt _=>obtain⟨t,rfl⟩:=r;rfl
 |flt _=>obtain⟨t,rfl⟩:=r;rfl
 |ref _=>cases r;rfl
 |ty _=>cases r;rfl
def Ig {j pos'}(c:PE X a ta):PC X .Is a (.Constant .none j pos') (v9 ta):=λY s Z H Q I h=>TQ (c Y s Z H _ I h) λv i ⟨x,d,e,f,g⟩=>(Constant_none (is_none_gen ⟨.bl _,d,e,by rw[f.none_iff];rfl,g⟩))
def Ih {j pos'}(c:PE X a ta):PC X .IsNot a (.Constant .none j pos') (DC ta):=λY s Z H Q I h=>TQ (c Y s Z H _ I h) λv i ⟨x,d,e,f,g⟩=>(Constant_none (isnot_none_gen ⟨.bl _,d,e,by rw[f.none_iff];rfl,g⟩))
def tB (t:TE):TT:=λZ H Q=>t Z H λx d=>∃c,x=.bl c/\Q c d
def Ii {c:CmpOp}{t:TE}(h:PC X c a b t)(d:behindInMarks c b=false:=by first|exact DB _ (by decide) (by decide)|rfl):PE X (.Compare a [c] [b] pos) t:=λY s Z H Q I hw=>wpAny_Compare1 (h Y s Z H Q I hw) d
def Af {e:CmpOp}{t:TE}(h:PC X e a b t)(f:behindInMarks e b=false:=by first|exact DB _ (by decide) (by decide)|rfl):PT X (.Compare a [e] [b] pos) (tB t):=by
 intro Y s Z H Q I hw;refine wpAny_isTrue_Compare1 (TQ (h Y s Z H _ I hw) λv n f=>TQ f λu o g=>TQ g λc p ⟨x,i,j,l,m⟩=>?_) f;obtain⟨d,rfl,q⟩:=m;cases l;exact wpAny_truthy_bool ⟨i,j,q⟩
def DE {e:Expr}{t:TE}(h:PE X e t)(f:∀c,isTrue e X.env c=(do let v <- c;standAt e.pos;holding [v] (truthy v)):=by intro _;rfl):PT X e (tB t):=by
 intro Y s Z H Q I hw;refine isTrue_plain (TQ (h Y s Z H _ I hw) λv m ⟨x,g,i,j,l⟩=>?_) (f _);obtain⟨d,rfl,q⟩:=l;cases j;exact wpAny_truthy_bool ⟨g,i,q⟩
variable {tA tB':TT}{rest:Yj}
def bQ (t u:TT):TT:=λZ H Q=>t Z H λc d=>if c=true then u Z d Q else Q false d
def nR (t u:TT):TT:=λZ H Q=>t Z H λc d=>if c=true then Q true d else u Z d Q
def bG (t:TT):TT:=λZ H Q=>t Z H λc d=>Q (!c) d
def Ij (d:PT X a tA):PW X (.BoolOp .And [a] pos) tA:=by
 intro f Y s Z H Q I h;refine isTrue_and (TQ (d Y s Z H Q I h) λc g e=>?_)
 grind[isTrue_and_nil]
def Ik (d:PT X a tA):PW X (.BoolOp .Or [a] pos) tA:=by
 intro f Y s Z H Q I h;refine isTrue_or (TQ (d Y s Z H Q I h) λc g e=>?_)
 grind[isTrue_or_nil]
def Il (g:PT X a tA)(i:PW X (.BoolOp .And (b::rest) pos) tB'):PW X (.BoolOp .And (a::b::rest) pos) (bQ tA tB'):=by
 intro j Y s Z H Q I h;refine isTrue_and (TQ (g Y s Z H _ I h) λc l ⟨d,e,f⟩=>?_);cases c with
 |true=>exact i j Y l Z d Q e f
 |false=>exact⟨d,e,f⟩
def ug (g:PT X a tA)(i:PW X (.BoolOp .Or (b::rest) pos) tB'):PW X (.BoolOp .Or (a::b::rest) pos) (nR tA tB'):=by
 intro j Y s Z H Q I h;refine isTrue_or (TQ (g Y s Z H _ I h) λc l ⟨d,e,f⟩=>?_);cases c with
 |true=>exact⟨d,e,f⟩
 |false=>exact i j Y l Z d Q e f
def DF (d:PT X a tA):PT X (.UnaryOp .Not a pos) (bG tA):=λY s Z H Q I h=>isTrue_not (d Y s Z H (λc e=>Q (!c) e) I h)
def vH (ta tb:TE):TE:=λZ H Q=>ta Z H λx d=>∃c,x=.bl c/\if c=true then tb Z d Q else Q (.bl false) d
def bF (ta tb:TE):TE:=λZ H Q=>ta Z H λx d=>∃c,x=.bl c/\if c=true then Q (.bl true) d else tb Z d Q
def DG {op}{t:TE}(h:PE X a t):PE X (.BoolOp op [a] pos) t:=λY s Z H Q I hw=>BoolOp_one (h Y s Z H Q I hw)
def DH (g:PE X a ta)(i:PE X (.BoolOp .And (b::rest) pos) tb):PE X (.BoolOp .And (a::b::rest) pos) (vH ta tb):=by
 intro Y s Z H Q I h;refine BoolOp_and (TQ (g Y s Z H _ I h) λv j ⟨x,e,f,l,d⟩=>?_);obtain⟨c,rfl,d⟩:=d;cases l;refine wpAny_truthy_bool ?_;cases c with
 |true=>exact i Y j Z e Q f d
 |false=>exact⟨.bl false,e,f,rfl,d⟩
def uv (g:PE X a ta)(i:PE X (.BoolOp .Or (b::rest) pos) tb):PE X (.BoolOp .Or (a::b::rest) pos) (bF ta tb):=by
 intro Y s Z H Q I h;refine BoolOp_or (TQ (g Y s Z H _ I h) λv j ⟨x,e,f,l,d⟩=>?_);obtain⟨c,rfl,d⟩:=d;cases l;refine wpAny_truthy_bool ?_;cases c with
 |false=>exact i Y j Z e Q f d
 |true=>exact⟨.bl true,e,f,rfl,d⟩
def nS (t:TT)(ta tb:TE):TE:=λZ H Q=>t Z H λc d=>if c=true then ta Z d Q else tb Z d Q
def Im {c:Expr}(j:PT X c tA)(l:PE X a ta)(m:PE X b tb):PE X (.IfExp c a b pos) (nS tA ta tb):=by
 intro Y s Z H Q I h;refine wpAny_IfExp (TQ (j Y s Z H _ I h) λd e ⟨f,g,i⟩=>?_);cases d with
 |true=>exact l Y e Z f Q g i
 |false=>exact m Y e Z f Q g i
end
def jL (K:W.Frag)(H:Hp)(a:Addr)(xs:Yr):Prop:=
 Rd H a (.lst xs) \/
  ∃(o:Obj) (b:Yk) (n:Nat),K.lookup a=some o/\o.cls=.type "list" /\ o.dict=none/\o.data=.seq b n/\b.size<=sizeLine/\TD xs b.toList
def qX (K:W.Frag)(H:Hp)(a:Addr)(xs:Yr):Prop:=
 Rd H a (.tup xs) \/
  ∃(o:Obj) (b:Yk) (n:Nat),K.lookup a=some o/\o.cls=.type "tuple" /\ o.data=.seq b n/\b.size<=sizeLine/\TD xs b.toList
def mL:Value->Ys
 | .none=>some .non
 | .bool b=>some (.bl b)
 | .int i _=>some (.int i)
 | .str x _=>some (.str x)
 | .bytes b _=>some (.byt b)
 | .float b _=>some (.flt b)
 | .ref a=>some (.ref a)
 | .type n=>some (.ty n)
 |_=>none
def TC.abs {x:V}{u:Value}(r:TC x u):mL u=some x:=by
 cases x with
 |non=>cases r;rfl
 |bl _=>cases r;rfl
 |int _=>obtain⟨t,rfl⟩:=r;rfl
 |str _=>obtain⟨t,rfl⟩:=r;rfl
 |byt _=>obtain⟨t,rfl⟩:=r;rfl
 |flt _=>obtain⟨t,rfl⟩:=r;rfl
 |ref _=>cases r;rfl
 |ty _=>cases r;rfl
def TC.inj {x y:V}{u:Value}(r:TC x u)(q:TC y u):x=y:=Zqi (r.abs.symm.trans q.abs)
theorem TD.inj:∀{xs a:Yr} {us:Yd},TD xs us->TD a us->xs=a:=λ{xs a us} g h=>by
 induction g generalizing a with
 |nil=>cases h;rfl
 |cons r _ b =>
  cases h with
  |cons c t'=>rw[r.inj c,b t']
section
variable {X:Cx}{Y:Yb}{Z: St}{H:Hp}{s:Shared}{a:Addr}{xs ys:Yr}
def jL.of {K:W.Frag}(h:H a=some (.lst xs)):jL K H a xs:=.inl (.inl h)
def qX.of {K:W.Frag}(h:H a=some (.tup xs)):qX K H a xs:=.inl (.inl h)
def Inv.list (I:Inv X Y Z H s)(h:jL X.K H a xs):∃b:Yd,TD xs b/\PlainL s.heap a b.toArray/\xs.length<=sizeLine:=by
 rcases h with h|⟨o,b,n,hk,hc,hd,hs,hz,r⟩
 .obtain⟨z,b,n,r,e⟩:=h.ok I.hok;exact⟨b,r,⟨_,n,e,rfl,rfl,rfl⟩,z⟩
 .refine⟨b.toList,r,⟨o,n,I.kIn a o hk,hc,hd,()⟩,?_⟩;have e:=r.length
  simp_all
def Inv.tuple (I:Inv X Y Z H s)(h:qX X.K H a xs):∃b:Yd,TD xs b/\IsTup s.heap a b.toArray/\xs.length<=sizeLine:=by
 rcases h with h|⟨o,b,n,hk,hc,hs,hz,r⟩
 .obtain⟨z,b,r,p⟩:=h.ok I.hok;exact⟨b,r,p,z.1⟩
 .refine⟨b.toList,r,⟨o,I.kIn a o hk,hc,n,()⟩,?_⟩;have e:=r.length
  simp_all
def Inv.list_inj (I:Inv X Y Z H s)(h:jL X.K H a xs)(h':jL X.K H a ys):xs=ys:=by
 obtain⟨c,r,⟨o,n,e,_,_,d⟩,_⟩:=I.list h;obtain⟨b,f,⟨g,i,j,_,_,d'⟩,_⟩:=I.list h';have:c=b:=by simp_all
 subst this;exact r.inj f
def Inv.tuple_inj (I:Inv X Y Z H s)(h:qX X.K H a xs)(h':qX X.K H a ys):xs=ys:=by
 obtain⟨c,r,⟨o,e,_,n,d⟩,_⟩:=I.tuple h;obtain⟨b,f,⟨g,i,_,j,d'⟩,_⟩:=I.tuple h';have:c=b:=by simp_all
 subst this;exact r.inj f
end
abbrev Cx.wish (X:Cx)(E:Ya):Cx:={ X with xe:=E }
abbrev Cx.nox (X:Cx):Cx:=X.wish λ_ _=>False
theorem Cx.Ok.wish {X:Cx}(ok:X.Ok)(E:Ya):(X.wish E).Ok:=
 ⟨ok.mod,ok.kind,ok.glob,ok.blt,ok.above,ok.inj,ok.has,ok.cab,ok.hd,ok.frames,ok.stk,ok.exf,ok.bs,ok.bsz,ok.noex,ok.exfs,ok.funs,ok.frf⟩
def Cx.Ok.unwish {X:Cx}{E:Ya}(ok:(X.wish E).Ok):X.Ok:=
 ⟨ok.mod,ok.kind,ok.glob,ok.blt,ok.above,ok.inj,ok.has,ok.cab,ok.hd,ok.frames,ok.stk,ok.exf,ok.bs,ok.bsz,ok.noex,ok.exfs,ok.funs,ok.frf⟩
section
variable {X:Cx}{Y:Yb}{Z: St}{H:Hp}{s:Shared}{E:Ya}
theorem Inv.wish (I:Inv X Y Z H s)(E):Inv (X.wish E) Y Z H s:=⟨I.ok.wish E,I.os,I.bare,I.base,I.loc,I.cell,I.free,I.freeC,I.pin,I.hok,I.len⟩
theorem Inv.unwish (I:Inv (X.wish E) Y Z H s):Inv X Y Z H s:=⟨I.ok.unwish,I.os,I.bare,I.base,I.loc,I.cell,I.free,I.freeC,I.pin,I.hok,I.len⟩
theorem SP.unwish {D:Ends}{f:Flow}{s':Shared}(h:SP (X.wish E) Y D f s'):SP X Y D f s':=by
 cases f with
 |next=>obtain⟨a,b,I,q⟩:=h;exact⟨a,b,I.unwish,q⟩
 |brk=>obtain⟨a,b,I,q⟩:=h;exact⟨a,b,I.unwish,q⟩
 |cont=>obtain⟨a,b,I,q⟩:=h;exact⟨a,b,I.unwish,q⟩
 |ret u=>obtain⟨v,a,b,I,r,q⟩:=h;exact⟨v,a,b,I.unwish,r,q⟩
theorem qx.nox {st:List Stmt}{t:TS}(h:qx X.nox st t):qx X st t:=λY s Z H D I hw =>
 Zc (h Y s Z H D (I.wish _) hw) (λ_ _ q=>q.unwish) ()
end
section
variable {X:Cx}{st:Stmt}{rest:List Stmt}{t u:TS}{e:Expr}{te:TE}{pos:Pos}
def v7:TS:=λD Z H=>D.nx Z H
def bD (t u:TS):TS:=λD Z H=>t { D with nx:=u D } Z H
def B7:qx X [] v7:=λ_ _ Z H _ I h=>wpAny_execs_nil ⟨Z,H,I,h⟩
def B8 (a:PS X st t)(b:qx X rest u):qx X (st::rest) (bD t u):=by
 intro Y s Z H D I h;refine wpAny_execs_cons (TQ (a Y s Z H { D with nx:=u D } I h) λf c q=>?_);cases f with
 |next =>
  obtain⟨d,g,i,q⟩:=q;exact b Y c d g D i q
 |ret v=>exact q
 |brk=>exact q
 |cont=>exact q
def Ag (a:PS X st t):qx X [st] t:=by
 intro Y s Z H D I h;refine wpAny_execs_cons (TQ (a Y s Z H D I h) λf b q=>?_)
 grind[wpAny_execs_nil]
def Inv.quiet {Y:Yb}{Z: St}{H:Hp}{s:Shared}(I:Inv X Y Z H s):interactive X.env=false:=by simp[interactive,I.ok.kind]
def vA (te:TE):TS:=λD Z H=>te Z H λ_ a=>D.nx Z a
def X0 (a:PE X e te)(b:swapsWith e none pos.line X.env=pure false:=by rfl):PS X (.Expr e pos) (vA te):=λY s Z H D I h=>wpAny_Expr_any (TQ (a Y s Z H _ I h) λv g ⟨x,c,d,i,f⟩=>⟨Z,c,d,f⟩) I.quiet b
def bE (te:TE):TS:=λD Z H=>te Z H D.rt
def Ah (a:PE X e te):PS X (.Return (some e) pos) (bE te):=λY s Z H D I h=>wpAny_Return_some (TQ (a Y s Z H _ I h) λv g ⟨x,b,c,d,f⟩=>⟨x,Z,b,c,d,f⟩)
def bI (c:TT)(t u:TS):TS:=λD Z H=>c Z H λb a=>if b=true then t D Z a else u D Z a
def DI {c:Expr}{a b:List Stmt}{f:TT}(m:PT X c f)(n:qx X a t)(o:qx X b u):PS X (.If c a b pos) (bI f t u):=by
 intro Y s Z H D I h;refine wpAny_If (TQ (m Y s Z H _ I h) λd g ⟨i,j,l⟩=>?_);cases d with
 |true=>exact n Y g Z i D j l
 |false=>exact o Y g Z i D j l
end
abbrev TG:=V->St->Hp->(St->Hp->Prop)->Prop
abbrev wp:=Yr->St->Hp->(St->Hp->Prop)->Prop
def PG (X:Cx)(a:Expr)(t:TG):Prop:=
 ∀(Y:Yb) (s:Shared) (Z: St) (H:Hp) (v:V) (u:Value) (Q:St->Hp->Prop),Inv X Y Z H s->TC v u->t v Z H Q ->
  Yv X (assign a X.env u) (λ_ s'=>∃b c,Inv X Y b c s'/\Q b c) X.xe s
def bt (X:Cx)(ts:Yj)(t:wp):Prop:=
 ∀(Y:Yb) (s:Shared) (Z: St) (H:Hp) (a:Yr) (us:Yd) (Q:St->Hp->Prop),Inv X Y Z H s->TD a us->t a Z H Q ->
  Yv X (assignInOrder ((assignEach ts X.env).map (·.2)) us) (λ_ s'=>∃b c,Inv X Y b c s'/\Q b c) X.xe s
abbrev wL:=V->V->V->Hp->(Hp->Prop)->Prop
def gX (X:Cx)(t:wL):Prop:=
 ∀(Y:Yb) (s:Shared) (Z: St) (H:Hp) (o i v:V) (a b u:Value) (Q:Hp->Prop),Inv X Y Z H s->TC o a->TC i b->TC v u->t o i v H Q ->
  Yv X (setItem a b u) (λ_ s'=>∃c,Inv X Y Z c s'/\Q c) X.xe s
abbrev br:=V->V->Hp->VK->Prop
def nE (X:Cx)(a:Operator)(t:br):Prop:=
 ∀(Y:Yb) (s:Shared) (Z: St) (H:Hp) (x y:V) (v u:Value) (Q:VK),Inv X Y Z H s->TC x v->TC y u->t x y H Q ->
  Yv X (inplaceOp a v u) (EP X Y Z Q) X.xe s
section
variable {X:Cx}{pos:Pos}
def VB (i:Nat):TG:=λv Z H Q=>Q (Z.set i (some v)) H
def Qn {i:Nat}{x:Str}(a:X.N.Nodup)(b:X.N[i]? = some x)(hx:xY X.env.scope x)(c:X.fn x=true\/X.env.scope.names.lookup x=some .local:=by trivial):PG X (.Name x pos) (VB i):=λY s Z H v u Q I r h=>wpAny_assign_Name (Y8 I a b hx r (λs' d=>⟨_,H,d,h⟩) c)
def kf:wp:=λa Z H Q=>a=[]/\Q Z H
def DJ (t:TG)(u:wp):wp:=λa Z H Q=>∃v r,a=v::r/\t v Z H λb c=>u r b c Q
def Ks:bt X [] kf:=λY s Z H a us Q I r h=>have ⟨e,h⟩:=h;assignInOrder_nil ⟨Z,H,I,h⟩
def JX {e:Expr}{es:Yj}{t:TG}{u:wp}(a:PG X e t)(b:bt X es u)
 (c:(assignEach (e::es) X.env).map (·.2)=assign e X.env::(assignEach es X.env).map (·.2):=by rfl):bt X (e::es) (DJ t u):=by
 intro Y s Z H n us Q I r h;obtain⟨v,o,d,h⟩:=h;subst d;cases r with
 |cons r f =>
  rw[c];exact assignInOrder_cons (TQ (a Y s Z H _ _ _ I r h) λ_ g ⟨i,j,l,m⟩=>(b Y g i j _ _ Q l f m))
def ka (K:W.Frag)(n:Nat)(t:wp):TG:=λv Z H Q=>∃a xs,v=.ref a/\qX K H a xs/\xs.length=n/\t xs Z H Q
def Kt {es:Yj}{k:Nat}{t:wp}{n:Nat}(d:X.calm=true)(h:bt X es t)
 (f:(assignEach es X.env).length=n:=by rfl) (c:(assignEach es X.env).findIdx? (·.1)=none:=by rfl):PG X (.Tuple es k pos) (ka X.K n t):=by
 intro Y s Z H v u Q I r hw;obtain⟨a,xs,g,i,j,hw⟩:=hw;subst g;cases r;obtain⟨l,m,p,w⟩:=I.tuple i;refine assign_Tuple_tuple (I.ok.hd d) p (by simp[f,<- j,m.length]) c λh' hx=>?_;have q:Inv X Y Z H { s with heap:=h' }:=I.kept λb o e=>hx b o (Zi (Zk e)) e;exact h Y _ Z H xs _ Q q () hw
def xX (a b:TE)(t:wL):TG:=λv Z H Q=>a Z H λo c=>b Z c λi d=>t o i v d λe=>Q Z e
def Io {o i:Expr}{c d:TE}{t:wL}(e:PE X o c)(f:PE X i d)(g:gX X t)
 (G:∀v,assign (.Subscript o i pos) X.env v=(do
  let a <- holding [v] (eval o X.env)
  let b <- holding [v,a] (eval i X.env)
  standAt pos
  holding [v,a,b] (setItem a b v)
  release [v,a,b] []):=by intro _;rfl):PG X (.Subscript o i pos) (xX c d t):=λY s Z H v u Q I r h=>Za (wpAny_holding (TQ (e Y s Z H _ I h) λa j ⟨x,l,m,n,p⟩=>(Za (wpAny_holding (TQ (f Y j Z l _ m p) λb q ⟨y,w,z,A,B⟩=>(Za (wpAny_standAt (Za (wpAny_holding (TQ (g Y q Z w x y v a b u _ z n A r B) λ_ J ⟨C,E,F⟩=>(wpAny_release ⟨Z,C,E,F⟩)))))))))))
def yC (te:TE)(g:TG):TS:=λD Z H=>te Z H λx a=>g x Z a D.nx
def Ip {tg e:Expr}{te:TE}{g:TG}(a:PE X e te)(b:PG X tg g)(c:swapsWithSole [tg] e pos.line X.env=pure false:=by rfl)(hw:swappedStores [tg] e X.env=pure none:=by rfl)
 (d:(assignEach [tg] X.env).map (·.2)=[assign tg X.env]:=by rfl):PS X (.Assign [tg] e pos) (yC te g):=by
 intro Y s Z H D I h;refine wpAny_Assign_stores (TQ (a Y s Z H _ I h) λv f ⟨x,i,j,l,m⟩=>?_) c hw;rw[d];exact TQ (b Y f Z i x v _ j l m) λ_ n q=>q
def B9 {i:Nat}{x:Str}{e:Expr}{te:TE}{a:Pos}(b:X.N.Nodup)(c:X.N[i]? = some x)(hx:xY X.env.scope x)(d:PE X e te)(f:swapsWith e (some (.Name x a)) pos.line X.env=pure false:=by rfl)(g:X.fn x=true\/X.env.scope.names.lookup x=some .local:=by trivial):
 PS X (.Assign [.Name x a] e pos) (yC te (VB i)):=λY s Z H D I h=>wpAny_Assign_Name (TQ (d Y s Z H _ I h) λv p ⟨y,j,l,m,n⟩=>(Y8 l b c hx m (λq o=>⟨_,j,o,n⟩) g)) f
def bP (i:Nat)(te:TE)(a:br):TS:=λD Z H=>∃x,Z[i]? = some (some x)/\te Z H λy b=>a x y b λz c=>D.nx (Z.set i (some z)) c
def Iq {i:Nat}{x:Str}{e:Expr}{te:TE}{d:Operator}{g:br}{b:Pos}(n:X.N.Nodup)(j:X.N[i]? = some x)(hx:xY X.env.scope x)(o:PE X e te)(p:nE X d g)(q:X.fn x=true\/X.env.scope.names.lookup x=some .local:=by trivial):
 PS X (.AugAssign (.Name x b) d e pos) (bP i te g):=by
 intro Y s Z H D I h;obtain⟨v,t,h⟩:=h;obtain⟨m,A,B⟩:=I.loc;have f:gR X.env.scope x:=by rcases hx with k|k;exact .inl k;exact .inr (.inl k)
 obtain⟨u,r,l⟩:=B i x v j t f;refine wpAny_AugAssign_Name ?_;have go:Yv X (eval e X.env) (λw s₂=>Yv X (inplaceOp d u w) (λr s₃=>Yv X (storeName X.env x r) (λ_=>SP X Y D .next) X.xe s₃) X.xe s₂) X.xe s:=by
  refine TQ (o Y s Z H _ I h) λw C ⟨y,E,F,G,J⟩=>?_;refine TQ (p Y C Z E v y u w _ F r G J) λz R ⟨S,K,L,M,N⟩=>?_;exact Y8 L n j hx M (λT O=>⟨_,K,O,N⟩) q
 rcases l with ⟨hk,P⟩|⟨hk,c,Q,a⟩
 .exact wpAny_loadName_local I.ok.kind hk A P go
 .rcases hk with hk|hk
  .exact wpAny_loadName_cell I.ok.kind hk Q a go
  .rcases hx with k|k
   .have:X.env.scope.names.lookup x=some .free:=hk;rw[k] at this;cases this
   .have:X.env.scope.names.lookup x=some .free:=hk;rw[k] at this;cases this
def rc (f:Int->Int->Int):br:=λx y H Q=>∃i j,x=.int i/\y=.int j/\Q (.int (f i j)) H
def Ir:nE X .Add (rc λi j=>i+j):=by
 intro Y s Z H x y v u Q I a b h;obtain⟨i,j,c,d,q⟩:=h;subst c;subst d;obtain⟨t,rfl⟩:=a;obtain⟨t',rfl⟩:=b;exact iadd_int ⟨.int _,H,I.tok _,⟨_,rfl⟩,q⟩
end
section
variable {X:Cx}{pos:Pos}
def Iu (c:TT)(g:TS):TS:=λD Z H=>∃W:Nat->St->Hp->Prop,(∃m,W m Z H)/\∀m Z H,W m Z H ->
 c Z H λb a=>if b=true then ∃N:St->Hp->Prop,(∀d e,N d e->∃f,f<m/\W f d e)/\g { D with nx:=N,ct:=N,bk:=D.nx } Z a else D.nx Z a
def Iv {c:Expr}{a:List Stmt}{t:TT}{u:TS}(hp:PassesOwn (model X.prog X.w) X.A X.env X.xe)(C:PT X c t)(E:qx X a u):PS X (.While c a [] pos) (Iu t u):=by
 intro Y s Z H D I h;obtain⟨W,⟨F,G⟩,d⟩:=h;refine wpAny_While (codeAny_whileLoop (λn s'=>∃w x,Inv X Y w x s'/\W n w x) ?_ F ⟨Z,H,I,G⟩);rintro n J ⟨i,y,K,L⟩;refine wpAny_passesOwn hp (TQ (C Y J i y _ K (d n i y L)) λb M ⟨z,A,j⟩=>?_);cases b with
 |true =>
  obtain⟨N,B,j⟩:=j;rw[Zd rfl];refine wpAny_passesOwn hp (TQ (E Y M i z _ A j) λf O l=>?_);cases f with
  |next =>
   obtain⟨e,g,m,o⟩:=l;obtain⟨p,q,r⟩:=B e g o;exact⟨p,q,e,g,m,r⟩
  |cont =>
   obtain⟨e,g,m,o⟩:=l;obtain⟨p,q,r⟩:=B e g o;exact⟨p,q,e,g,m,r⟩
  |brk=>exact l
  |ret v=>exact l
 |false =>
  rw[Ze Zj];exact wpAny_execs_nil ⟨i,z,A,j⟩
end
structure It where
 go:Nat->Hp->Prop
 yld:Nat->Hp->V->Hp->Prop
 stop:Nat->Hp->Prop
def qC (X:Cx)(Y:Yb)(H:Hp)(b:Addr):Prop:=
 H b=none/\b≠X.env.locals/\b∉X.fs/\(b∈X.ex\/X.s₀.heap.objs.size<=b)/\(∀x c,X.env.cells.lookup x=some c->c≠b)/\∀p∈X.pn++Y,p.1≠b
def Inv.fpOk {X:Cx}{Y:Yb}{Z: St}{H d:Hp}{s:Shared}{b:Addr}(I:Inv X Y Z H s)(a:s.heap.objs.size<=b)(f:d b=none):qC X Y d b:=by
 refine⟨f,US (Zg I.lt a),I.nofs a,.inr (Zh I.sz a),λx c e z=>?_,λp hp z=>?_⟩
 .obtain⟨v,q⟩:=I.cell x c e;exact Zn (Zg q.lt (by rwa [z])) (Zy _)
 .exact Zn (Zg (Zk (I.pin p hp).1) (by rwa [z])) (Zy _)
structure Turn (P:Program)(w:World)(K:W.Frag)(tg:Expr)(J:It)(fp:Yi)(it:Addr)(tn:Nat->Heap->Prop):Prop where
 mem:it∈fp
 obj:∀i h,tn i h->∀b∈fp,∃o,h.get? b=some o/\∀v,o.data ≠ .cell v
 keep:∀i h h',tn i h->(∀b∈fp,∀o,h.get? b=some o->h'.get? b=some o)->tn i h'
 item:∀(X:Cx),X.prog=P->X.w=w->X.K=K->X.calm=true->∀(i:Nat) (Y:Yb) (s:Shared) (Z: St) (H:Hp) (E:Ya),Inv X Y Z H s->(∀b∈fp,qC X Y H b)->tn i s.heap->J.go i H ->
  wpAny (model P w) X.A (pyNext (.ref it)) (λr s1=>∃u,r=some u /\
   wpAny (model P w) X.A (letOwnedTupleGo tg (.ref it) u) (λ_ s2=>∃x H',Inv X Y Z H' s2/\TC x u/\J.yld i H x H'/\tn (i+1) s2.heap/\∀b∈fp,H' b=none) E s1) E s
 done:∀(X:Cx),X.prog=P->X.w=w->X.K=K->X.calm=true->∀(i:Nat) (Y:Yb) (s:Shared) (Z: St) (H:Hp) (E:Ya),Inv X Y Z H s->(∀b∈fp,qC X Y H b)->tn i s.heap->J.stop i H ->
  wpAny (model P w) X.A (pyNext (.ref it)) (λr s1=>r=none/\Inv X Y Z H s1) E s
 self:∀(A:Around) (i:Nat) (s:Shared) (Q:Ya) (E:Ya),tn i s.heap->Q (.ref it) s->wpAny (model P w) A (pyIter (.ref it)) Q E s
abbrev TI:=St->Hp->(It->Hp->Prop)->Prop
def nF (X:Cx)(Y:Yb)(Z: St)(tg:Expr)(R:It->Hp->Prop)(a:Value)(d:Shared):Prop:=
 ∃(it:Addr) (e:Yi) (f:Nat->Heap->Prop) (J:It) (c:Hp),a=.ref it/\Inv X Y Z c d/\Turn X.prog X.w X.K tg J e it f/\f 0 d.heap/\(∀b∈e,qC X Y c b)/\R J c
def PI (X:Cx)(tg a:Expr)(b:TI):Prop:=
 ∀(Y:Yb) (s:Shared) (Z: St) (H:Hp) (R:It->Hp->Prop),Inv X Y Z H s->b Z H R ->
  Yv X (eval a X.env) (λv c=>Yv X (pyIter v) (nF X Y Z tg R) X.xe c) X.xe s
def Y9 {M:Model}{A:Around}{E:Ya}{s:Shared}{tg:Expr}{it:Addr}{u:Value}{o:Obj}{n:String}{b:Yk}{Q:Unit->Yq}(c:s.heap.get? it=some o)(d:o.cls=.type n)(e:o.data=.fields b)
 (f: ["enumerate", "zip", "dict_itemiterator", "dict_reverseitemiterator", "odict_iterator", "itertools.zip_longest", "itertools.pairwise"].contains n=false) (a:Q Ym s):wpAny M A (letOwnedTupleGo tg (.ref it) u) Q E s:=by
 cases tg<;>first
  |exact Zb a
  | (cases u<;>first
   |exact Zb a
   | (
    refine Za (wpAny_load c ?_);rw[d,e];show wpAny M A (if(["enumerate", "zip", "dict_itemiterator", "dict_reverseitemiterator", "odict_iterator", "itertools.zip_longest", "itertools.pairwise"].contains n&&b[0]? == some (rawInt _))=true then _ else _) Q E s;rw[Ze (by intro h;rw[f,Bool.false_and] at h;cases h)];exact Zb a))
def nL (K:W.Frag)(a:Addr):It:=
 ⟨λi H=>∃xs x,jL K H a xs/\xs[i]? = some x,λi H x b=>b=H/\∀xs,jL K H a xs->xs[i]? = some x,λi H=>∃xs,jL K H a xs/\xs.length<=i⟩
def nK (K:W.Frag)(a:Addr):It:=
 ⟨λi H=>∃xs x,qX K H a xs/\xs[i]? = some x,λi H x b=>b=H/\∀xs,qX K H a xs->xs[i]? = some x,λi H=>∃xs,qX K H a xs/\xs.length<=i⟩
def bw (lo:Int)(n:Nat):It:=⟨λi _=>i<n,λi H x a=>a=H/\x=.int (lo+i),λi _=>n<=i⟩
def Iw {P:Program}{w:World}{K:W.Frag}{tg:Expr}(a it):Turn P w K tg (nL K a) [it] it (λi h=>h.IsListIter it a i) where
 mem:=by simp
 obj:=λi h st b f=>by
  obtain⟨o,e,c,d⟩:=st
  simp_all
 keep:=λi h h' st k=>st.at λo e=>k it () o e
 item:=by
  intro X m hw n C i Y s Z H E I j st q;subst m hw n;obtain⟨xs,x,l,hx⟩:=q;obtain⟨r,t,p,F⟩:=I.list l;obtain⟨u,Q,G⟩:=t.get hx;obtain⟨v,y,J,z,A,B⟩:=j it ();refine wpAny_pyNext_list_item st p.isList (x:=u) () λh' g L=>?_;have M:Inv X Y Z H { s with heap:=h' }:=I.turned (λb o f e=>(L.2 b f).trans e) v y z A B;obtain⟨o,e,c,d⟩:=id g;exact⟨u,rfl,Y9 e c d (by decide) ⟨x,H,M,G,⟨rfl,λR N=>by rwa [I.list_inj N l]⟩,g,λb f=>(j b f).1⟩⟩
 done:=by
  intro X m hw n C i Y s Z H E I j st q;subst m hw n;obtain⟨xs,l,hx⟩:=q;obtain⟨r,t,p,F⟩:=I.list l;obtain⟨v,y,J,z,A,B⟩:=j it ();have S:=t.length;exact wpAny_pyNext_list_end (I.ok.hd C) st p.isList (by simp;lia) λh' O=>⟨rfl,I.turned (λb o f e=>O b o f e) v y z A B⟩
 self:=λ_ _ _ _ _ st h=>wpAny_pyIter_listiter st h
def Ix {P:Program}{w:World}{K:W.Frag}{tg:Expr}(a it):Turn P w K tg (nK K a) [it] it (λi h=>h.IsTupleIter it a i) where
 mem:=by simp
 obj:=λi h st b g=>by
  obtain⟨o,e,c,d⟩:=st
  simp_all
 keep:=λi h h' st k=>st.at ()
 item:=by
  intro X l hw m C i Y s Z H E I n st q;subst l hw m;obtain⟨xs,x,j,hx⟩:=q;obtain⟨r,t,p,F⟩:=I.tuple j;obtain⟨u,G,J⟩:=t.get hx;obtain⟨v,y,L,z,A,B⟩:=n it ();refine wpAny_pyNext_tuple_item st (p) (by simpa using G) λh' f M=>?_;have N:Inv X Y Z H { s with heap:=h' }:=I.turned (λb o g e=>(M.2 b g).trans e) v y z A B;obtain⟨o,e,c,d⟩:=id f;exact⟨u,rfl,Y9 e c d (by decide) ⟨x,H,N,J,⟨rfl,λR O=>by rwa [I.tuple_inj O j]⟩,f,()⟩⟩
 done:=by
  intro X l hw m C i Y s Z H E I n st q;subst l hw m;have ⟨xs,j,hx⟩:=q;have ⟨r,t,p,F⟩:=I.tuple j;have ⟨v,y,L,z,A,B⟩:=n it ();have S:=t.length;exact wpAny_pyNext_tuple_end (I.ok.hd C) st (p) (by simp;lia) λh' Q=>⟨rfl,I.turned (λb o g e=>Q b o g e) v y z A B⟩
 self:=λ_ _ _ _ _ st h=>wpAny_pyIter_tupleiter st h
def Iy {P:Program}{w:World}{K:W.Frag}{tg:Expr}(it)(lo)(n):Turn P w K tg (bw lo n) [it] it (λi h=>IsRangeIter h it (lo+(i:Nat)*1) ((n:Int)-(i:Nat)) 1) where
 mem:=by simp
 obj:=by grind
 keep:=by grind
 item:=by
  intro X q hw r c i Y s Z H E I d st f;obtain⟨g,j,u,l,m,p⟩:=d it ();refine(Walks.range (I.ok.hd c) it lo 1 n).item i s _ _ f st λv h' tk x a kk=>?_;obtain⟨t,rfl⟩:=x;have y:Inv X Y Z H { s with heap:=h',toks:=tk }:=I.turned () g j l m p;refine⟨_,rfl,Y9 a rfl rfl (by decide) ⟨.int (lo+i),H,y,⟨t,?_⟩,⟨rfl,rfl⟩,a,()⟩⟩;simp
 done:=by
  intro X q hw r c i Y s Z H E I d st f;obtain⟨g,j,u,l,m,p⟩:=d it ();exact wpAny_pyNext_range_end (I.ok.hd c) st (by have:n<=i:=f;lia) λh' z=>⟨rfl,I.turned (λb o A e=>z b o A e) g j l m p⟩
 self:=λ_ _ _ _ _ st h=>wpAny_pyIter_rangeiter st h
section
variable {X:Cx}{tg:Expr}
def uX (K:W.Frag)(c:TE):TI:=λZ H R=>c Z H λx b=>∃a,x=.ref a/\(∃xs,jL K b a xs)/\R (nL K a) b
def mh (K:W.Frag)(c:TE):TI:=λZ H R=>c Z H λx b=>∃a,x=.ref a/\(∃xs,qX K b a xs)/\R (nK K a) b
def Iz {l:Expr}{f:TE}(g:PE X l f):PI X tg l (uX X.K f):=by
 intro Y s Z H R I h;refine TQ (g Y s Z H _ I h) λv d ⟨x,i,c,j,m⟩=>?_;obtain⟨a,e,⟨xs,n⟩,q⟩:=m;subst e;cases j;obtain⟨r,u,p,w⟩:=c.list n;refine wpAny_pyIter_list p.isList (⟨d.heap.objs.size,[d.heap.objs.size],_,_,i,rfl,c.kept λb o e=>Zq _ e,Iw a _,⟨_,Zr _ rfl,rfl,rfl⟩,λb t=>?_,q⟩);have e:b=d.heap.objs.size:=by simpa using t
 subst e;exact c.fpOk (Zf _) (c.hok.fresh (Zf _))
def I1 {l:Expr}{f:TE}(g:PE X l f):PI X tg l (mh X.K f):=by
 intro Y s Z H R I h;refine TQ (g Y s Z H _ I h) λv d ⟨x,i,c,j,m⟩=>?_;obtain⟨a,e,⟨xs,n⟩,q⟩:=m;subst e;cases j;obtain⟨r,u,p,w⟩:=c.tuple n;refine wpAny_pyIter_tuple (p) (⟨d.heap.objs.size,[d.heap.objs.size],_,_,i,rfl,c.kept λb o e=>Zq _ e,Ix a _,⟨_,Zr _ rfl,rfl,rfl⟩,λb t=>?_,q⟩);have e:b=d.heap.objs.size:=by simpa using t
 subst e;exact c.fpOk (Zf _) (c.hok.fresh (Zf _))
def IA {Y:Yb}{Z: St}{H:Hp}{s:Shared}{R:It->Hp->Prop}{E:Ya}{lo a:Int}{t u v:Tok}{tk:Nat}(I:Inv X Y Z H s)(d: -(2 ^ 62)<=lo)(f:lo<2 ^ 62)(g: -(2 ^ 62)<=a)(h:a<2 ^ 62)
 (q:R (bw lo (a-lo).toNat) H):Yv X (pyIter (.ref s.heap.objs.size)) (nF X Y Z tg R) E { s with heap:=s.heap.push { cls:=.type "range",data:=.fields #[.int lo t,.int a u,.int 1 v] },toks:=tk }:=by
 refine wpAny_pyIter_range (IsRange.new ..) (small_one d f g h) ?_;have c:Inv X Y Z H { s with heap:=s.heap.push { cls:=.type "range",data:=.fields #[.int lo t,.int a u,.int 1 v] },toks:=tk }:=I.kept λb o e=>Zq _ e;refine⟨(s.heap.push { cls:=.type "range",data:=.fields #[.int lo t,.int a u,.int 1 v] }).objs.size,[(s.heap.push { cls:=.type "range",data:=.fields #[.int lo t,.int a u,.int 1 v] }).objs.size],_,_,H,rfl,
  c.kept λb o e=>Zq _ e,Iy _ lo (a-lo).toNat,?_,λb l=>?_,q⟩
 .have i:lo+((0:Nat):Int)*1=lo:=by simp
  have j:(((a-lo).toNat:Nat):Int)-((0:Nat):Int)=Builtin.Range.rangeSize lo a 1:=by grind[rangeSize_one]
  rw[i,j];exact Zr _ rfl
 .have e:b=(s.heap.push { cls:=.type "range",data:=.fields #[.int lo t,.int a u,.int 1 v] }).objs.size:=by simp_all
  subst e;exact c.fpOk (Zf _) (c.hok.fresh (Zf _))
def uV (a:TA):TI:=λZ H R=>a Z H λb c=>∃j:Int,b=[.int j] /\ -(2 ^ 62)<=j/\j<2 ^ 62/\R (bw 0 j.toNat) c
def IB {a:Expr}{d:TA}{p b:Pos}(f:Gl X "range")(g:X.mg "range" = none)(i:PA X [a] d)(l:starEach [a] X.env=[(false,eval a X.env)]:=by rfl):PI X tg (.Call (.Name "range" p) [a] [] b) (uV d):=by
 intro Y s Z H R I h;refine Call_ (WR I f g boot_range (PyProof.Rows.callWith_type1 (TQ (i b Y s Z H _ I h) λus v ⟨w,x,m,n,c⟩=>?_) l rfl));obtain⟨j,e,c,o,q⟩:=c;subst e;cases n with
 |cons r u =>
  cases u;obtain⟨t,rfl⟩:=r;exact call_range_1 (IA m () () c o (by simpa using q))
def bJ (d:TI)(g:TG)(e:TS):TS:=λD Z H=>d Z H λJ f=>∃W:Nat->Nat->St->Hp->Prop,(∃m,W 0 m Z f)/\∀i m Z H,W i m Z H ->
 (J.stop i H/\D.nx Z H)\/(J.go i H/\∃N:St->Hp->Prop,(∀b a,N b a->∃c,c<m/\W (i+1) c b a)/\∀x a,J.yld i H x a->g x Z a λh j=>e { D with nx:=N,ct:=N,bk:=D.nx } h j)
def YA (a:Yi)(h:Heap):Yb:=a.filterMap λb=>(h.get? b).map λo=>(b,o)
def Ai {a:Yi}{h:Heap}{b:Addr}{o:Obj}(c:b∈a)(e:h.get? b=some o):(b,o)∈YA a h:=Jl.mpr ⟨b,c,by rw[e];rfl⟩
def IC {a:Yi}{h:Heap}{p:Addr×Obj}(hp:p∈YA a h):p.1∈a/\h.get? p.1=some p.2:=by
 obtain⟨b,c,e⟩:=Jl.mp hp;cases q:h.get? b with
 |none=>simp_all
 |some o =>
  grind
def Inv.pinned {Y:Yb}{Z: St}{H:Hp}{s:Shared}{a:Yi}(I:Inv X Y Z H s)(c:∀b∈a,qC X Y H b)(f:∀b∈a,∃o,s.heap.get? b=some o/\∀v,o.data ≠ .cell v):Inv X (Y++YA a s.heap) Z H s:=
 I.pins_of λp hp=>(Jb.mp hp).elim (λz=>I.pin p ()) λz=>by
  obtain⟨d,e⟩:=IC z;obtain⟨g,h,i,_⟩:=c p.1 d
  grind
def Inv.unpinned {Y pl:Yb}{Z: St}{H:Hp}{s:Shared}(I:Inv X (Y++pl) Z H s):Inv X Y Z H s:=I.pins_of λp hp=>I.pin p ()
def DK {a:Expr}{w:List Stmt}{wi:TI}{g:TG}{tb:TS}{O:Pos}(hp:PassesOwn (model X.prog X.w) X.A X.env X.xe)(hc:X.calm=true)(hi:PI X tg a wi)(hg:PG X tg g)(c:qx X w tb)
 (hs:∀x,foldedSetIterable a X.env x=pure x:=by intro _;rfl):PS X (.For tg a w [] O) (bJ wi g tb):=by
 intro Y s Z H D I h;refine wpAny_For (TQ (hi Y s Z H _ I h) λv s1 h1=>TQ h1 λitv s2 h2=>?_) hs;obtain⟨it,A,tn,J,H2,e,I2,T,P,f2,W,⟨m0,w0⟩,B⟩:=h2;subst e;have j:∀{t:Hp},(∀b∈A,t b=none)->∀b∈A,qC X Y t b:=λhn b c=>⟨hn b c,(f2 b c).2⟩;refine codeAny_forLoop_any (λn s'=>∃i C t,Inv X Y C t s'/\tn i s'.heap/\(∀b∈A,t b=none)/\W i n C t) ?_ m0 ⟨0,Z,H2,I2,P,λb c=>(f2 b c).1,w0⟩;rintro n s3 ⟨i,E,M,I3,F,G,w3⟩;rcases B i n E M w3 with ⟨K,qn⟩|⟨go,N,hN,step⟩
 .refine wpAny_passesOwn hp (TQ (T.done X rfl rfl rfl hc i Y s3 E M X.xe I3 (j G) F K) λr s4 ⟨Q,I4⟩=>?_);subst Q;exact wpAny_execs_nil ⟨E,M,I4,qn⟩
 .refine wpAny_passesOwn hp (TQ (T.item X rfl rfl rfl hc i Y s3 E M X.xe I3 (j G) F go) λr s4 ⟨u,Q,h4⟩=>?_);subst Q;refine wpAny_passesOwn hp (TQ h4 λ_ s5 ⟨x,H5,I5,r5,y5,z,R⟩=>?_);have S:=I5.pinned (j R) (T.obj _ _ z);refine wpAny_passesOwn hp (TQ (hg _ s5 E H5 x u _ S r5 (step x H5 y5)) λ_ s6 ⟨Z6,H6,I6,q6⟩=>?_);refine wpAny_passesOwn hp (TQ (c _ s6 Z6 H6 _ I6 q6) λf U y=>?_);have again:∀{l:St} {p:Hp},Inv X (Y++YA A s5.heap) l p U->N l p->∃m,m<n/\∃i C t,Inv X Y C t U/\tn i U.heap/\(∀b∈A,t b=none)/\W i m C t:=λ{l p} q L=>by
   obtain⟨m',hm,w7⟩:=hN l p L;refine⟨m',hm,i+1,l,p,q.unpinned,T.keep _ _ _ z λb c o e=>(q.pin (b,o) (Uf _ (Uf _ (Ai c e)))).1,λb c=>?_,w7⟩;obtain⟨o,e,d⟩:=T.obj _ _ z b c;exact(q.pin (b,o) (Uf _ (Uf _ (Ai c e)))).2.1
  cases f with
  |next=>obtain⟨l,p,q,L⟩:=y;exact again q L
  |cont=>obtain⟨l,p,q,L⟩:=y;exact again q L
  |brk=>obtain⟨l,p,q,y⟩:=y;exact⟨l,p,q.unpinned,y⟩
  |ret v=>obtain⟨x7,l,p,q,r7,y⟩:=y;exact⟨x7,l,p,q.unpinned,r7,y⟩
end
abbrev R2:=V->V->Hp->VK->Prop
def jE (X:Cx)(f:Value->Value->Sem Value)(r:R2):Prop:=
 ∀(Y:Yb) (s:Shared) (Z: St) (H:Hp) (x y:V) (v u:Value) (Q:VK),Inv X Y Z H s->TC x v->TC y u->r x y H Q ->
  Yv X (f v u) (EP X Y Z Q) X.xe s
def zV (X:Cx)(f:Value->Sem Value)(r:V->Hp->VK->Prop):Prop:=
 ∀(Y:Yb) (s:Shared) (Z: St) (H:Hp) (x:V) (v:Value) (Q:VK),Inv X Y Z H s->TC x v->r x H Q ->
  Yv X (f v) (EP X Y Z Q) X.xe s
def jH (X:Cx)(f:Value)(r:Yr->Hp->VK->Prop):Prop:=
 ∀(Y:Yb) (s:Shared) (Z: St) (H:Hp) (xs:Yr) (us:Yd) (Q:VK),Inv X Y Z H s->TD xs us->r xs H Q ->
  Yv X (call f us) (EP X Y Z Q) X.xe s
def wj (r:R2)(a b:TE):TE:=λZ H Q=>a Z H λx c=>b Z c λy d=>r x y d Q
def ng (r:V->Hp->VK->Prop)(a:TE):TE:=λZ H Q=>a Z H λx b=>r x b Q
def rI (C:Int->Int->Prop)(g:Int->Int->V):R2:=λx y H Q=>∃i j,x=.int i/\y=.int j/\C i j/\Q (g i j) H
def zF (g:Int->Int->V):R2:=λx y H Q=>∃i j,x=.int i/\y=.int j/\Q (g i j) H
def rU (g:Int->V):V->Hp->VK->Prop:=λx H Q=>∃i,x=.int i/\Q (g i) H
section
variable {X:Cx}{a b c:Expr}{ta tb tc:TE}{pos:Pos}
def wI (i:PE X a ta)(j:PE X b tb){Y:Yb}{s:Shared}{Z: St}{H:Hp}{R:V->V->Hp->Prop}(I:Inv X Y Z H s)
 (h:ta Z H λx g=>tb Z g λy d=>R x y d) {Q:Ya} {f:Value->Value->Sem Value}
 (l:∀v u e x y d,Inv X Y Z d e->TC x v->TC y u->R x y d->Yv X (f v u) Q X.xe e):
 Yv X (eval a X.env) (λv s₁=>Yv X (eval b X.env) (λu s₂=>Yv X (f v u) Q X.xe s₂) X.xe s₁) X.xe s:=TQ (i Y s Z H _ I h) λv m ⟨x,g,n,o,p⟩=>(TQ (j Y m Z g _ n p) λu e ⟨y,d,q,r,t⟩=>(l v u e x y d q o r t))
def DM {d:Operator}{r:R2}(e:jE X (binaryOp d) r)(f:PE X a ta)(g:PE X b tb):PE X (.BinOp a d b pos) (wj r ta tb):=λY s Z H Q I h=>wpAny_BinOp (wI f g I h λv u i x y j l m n q=>e Y i Z j x y v u Q l m n q)
def uu {d:UnaryOp}{r:V->Hp->VK->Prop}(e:zV X (unaryOp d) r)(f:PE X a ta):PE X (.UnaryOp d a pos) (ng r ta):=λY s Z H Q I h=>UnaryOp_ (TQ (f Y s Z H _ I h) λv g ⟨x,i,j,l,m⟩=>e Y g Z i x v Q j l m)
def fA {f:Value->Value->Sem Value}{C:Int->Int->Prop}{g:Int->Int->Int}
 (rule:∀i j t u s Q E,C i j->Q (.int (g i j) s.toks) { s with toks:=s.toks+1 }->Yv X (f (.int i t) (.int j u)) Q E s):
 jE X f (rI C λi j=>.int (g i j)):=by
 intro Y s Z H x y v u Q I d e h;obtain⟨i,j,rfl,rfl,l,q⟩:=h;obtain⟨t,rfl⟩:=d;obtain⟨t',rfl⟩:=e;exact rule i j t t' s _ _ l ⟨.int (g i j),H,I.tok _,⟨_,rfl⟩,q⟩
def uD {f:Value->Value->Sem Value}{g:Int->Int->Int}
 (rule:∀i j t u s Q E,Q (.int (g i j) s.toks) { s with toks:=s.toks+1 }->Yv X (f (.int i t) (.int j u)) Q E s):
 jE X f (zF λi j=>.int (g i j)):=by
 intro Y s Z H x y v u Q I d e h;obtain⟨i,j,rfl,rfl,q⟩:=h;obtain⟨t,rfl⟩:=d;obtain⟨t',rfl⟩:=e;exact rule i j t t' s _ _ ⟨.int (g i j),H,I.tok _,⟨_,rfl⟩,q⟩
def zJ {f:Value->Value->Sem Value}{g:Int->Int->Bool}
 (rule:∀i j t u s Q E,Q (.bool (g i j)) s->Yv X (f (.int i t) (.int j u)) Q E s):
 jE X f (zF λi j=>.bl (g i j)):=by
 intro Y s Z H x y v u Q I d e h;obtain⟨i,j,rfl,rfl,q⟩:=h;obtain⟨t,rfl⟩:=d;obtain⟨t',rfl⟩:=e;exact rule i j t t' s _ _ ⟨.bl (g i j),H,I,rfl,q⟩
def f3 (i j:Int):Prop:=0<j/\j<1073741824
def f1 (i j:Int):Prop:=0<=j/\j<=1000000/\i.natAbs<2 ^ 64
def ID:jE X (binaryOp .Add) (zF λi j=>.int (i+j)):=uD λ_ _ _ _ _ _ _ q=>add_int q
def IE:jE X (binaryOp .Sub) (zF λi j=>.int (i-j)):=uD λ_ _ _ _ _ _ _ q=>sub_int q
def IF:jE X (binaryOp .FloorDiv) (rI f3 λi j=>.int (i / j)):=fA λi j _ _ _ _ _ d q=>have e:=d.1;have f:=d.2;floordiv_int () (by rwa [Int.fdiv_eq_ediv_of_nonneg i ()]) (.inl (PyProof.noPylong_small ()))
def IG:jE X (binaryOp .Mod) (rI (λ_ j=>0<j) λi j=>.int (i % j)):=fA λi j _ _ _ _ _ d q=>mod_int' () (by rwa [Int.fmod_eq_emod_of_nonneg i ()])
def IH:jE X (binaryOp .Pow) (rI f1 λi j=>.int (i ^ j.toNat)):=fA λ_ _ _ _ _ _ _ d q=>pow_int_small d.1 d.2.1 d.2.2 q
def nQ {f:Value->Sem Value}{g:Int->Int}
 (rule:∀i t s Q E,Q (.int (g i) s.toks) { s with toks:=s.toks+1 }->Yv X (f (.int i t)) Q E s):
 zV X f (rU λi=>.int (g i)):=by
 intro Y s Z H x v Q I d h;obtain⟨i,rfl,q⟩:=h;obtain⟨t,rfl⟩:=d;exact rule i t s _ _ ⟨.int (g i),H,I.tok _,⟨_,rfl⟩,q⟩
def II:zV X (unaryOp .USub) (rU λi=>.int (-i)):=nQ λ_ _ _ _ _ q=>neg_int q
end
def scal:V->V->Bool
 | .non,.non=>true | .non,.int _=>true | .int _,.non=>true | .non,.bl _=>true | .bl _,.non=>true | .non,.str _=>true | .str _,.non=>true
 | .int _,.int _=>true | .bl _,.bl _=>true | .str _,.str _=>true | .byt _,.byt _=>true
 | .int _,.str _=>true | .str _,.int _=>true | .bl _,.str _=>true | .str _,.bl _=>true
 |_,_=>false
def nZ:R2:=λx y H Q=>scal x y=true/\Q (.bl (decide (x=y))) H
def nX:R2:=λx y H Q=>scal x y=true/\Q (.bl (!decide (x=y))) H
def DN {i j:Int}:decide (V.int i=V.int j)=(i == j):=by
 rw[U2];simp
def DO {i j:Bool}:decide (V.bl i=V.bl j)=(i == j):=by
 rw[U2];simp
def DP {i j:Str}:decide (V.str i=V.str j)=(i == j):=by
 rw[U2];simp
def DQ {i j:Array UInt8}:decide (V.byt i=V.byt j)=(i.toList == j.toList):=by
 rw[U2];simp
section
variable {X:Cx}{a b c:Expr}{ta tb tc:TE}{pos:Pos}
def Qc {Y:Yb}{Z: St}{H:Hp}{s:Shared}{Q:VK}{k d:Bool}(I:Inv X Y Z H s)(q:Q (.bl k) H)(e:k=d):EP X Y Z Q (.bool d) s:=by
 subst e;exact⟨.bl k,H,I,rfl,q⟩
def uC:jE X (compareOp .Eq) nZ:=by
 intro Y s Z H x y v u Q I f d h;obtain⟨e,q⟩:=h;cases x with
 |non =>
  cases f;cases y with
  |non=>cases d;exact PySem.EqNone.eq_none_none (Qc I q ())
  |bl j=>cases d;exact PySem.EqNone.eq_none_bool (Qc I q ())
  |int j=>obtain⟨t',rfl⟩:=d;exact PySem.EqNone.eq_none_int (Qc I q ())
  |str j=>obtain⟨t',rfl⟩:=d;exact PySem.EqNone.eq_none_str (Qc I q ())
  |_=>exact Zn (show false=true from e) Zj
 |bl i =>
  cases f;cases y with
  |non=>cases d;exact PySem.EqNone.eq_bool_none (Qc I q ())
  |bl j=>cases d;exact eq_bool (Qc I q DO)
  |str j=>obtain⟨t',rfl⟩:=d;exact PySem.EqMixed.eq_bool_str (Qc I q ())
  |_=>exact Zn (show false=true from e) Zj
 |int i =>
  obtain⟨t,rfl⟩:=f;cases y with
  |non=>cases d;exact PySem.EqNone.eq_int_none (Qc I q ())
  |int j=>obtain⟨t',rfl⟩:=d;exact eq_int (Qc I q DN)
  |str j=>obtain⟨t',rfl⟩:=d;exact PySem.EqMixed.eq_int_str (Qc I q ())
  |_=>exact Zn (show false=true from e) Zj
 |str i =>
  obtain⟨t,rfl⟩:=f;cases y with
  |non=>cases d;exact PySem.EqNone.eq_str_none (Qc I q ())
  |bl j=>cases d;exact PySem.EqMixed.eq_str_bool (Qc I q ())
  |int j=>obtain⟨t',rfl⟩:=d;exact PySem.EqMixed.eq_str_int (Qc I q ())
  |str j=>obtain⟨t',rfl⟩:=d;exact eq_str (Qc I q DP)
  |_=>exact Zn (e) Zj
 |byt i =>
  obtain⟨t,rfl⟩:=f;cases y with
  |byt j=>obtain⟨t',rfl⟩:=d;exact W.eq_bytes (Qc I q DQ)
  |_=>exact Zn (show false=true from e) Zj
 |_=>cases y<;>exact Zn (show false=true from e) Zj
def u7:jE X (compareOp .NotEq) nX:=by
 intro Y s Z H x y v u Q I f d h;obtain⟨e,q⟩:=h;cases x with
 |non =>
  cases f;cases y with
  |non=>cases d;exact PySem.EqNone.ne_none_none (Qc I q ())
  |bl j=>cases d;exact PySem.EqNone.ne_none_bool (Qc I q ())
  |int j=>obtain⟨t',rfl⟩:=d;exact PySem.EqNone.ne_none_int (Qc I q ())
  |str j=>obtain⟨t',rfl⟩:=d;exact PySem.EqNone.ne_none_str (Qc I q ())
  |_=>exact Zn (show false=true from e) Zj
 |bl i =>
  cases f;cases y with
  |non=>cases d;exact PySem.EqNone.ne_bool_none (Qc I q ())
  |bl j=>cases d;exact ne_bool (Qc I q (Zt not DO))
  |str j=>obtain⟨t',rfl⟩:=d;exact PySem.EqMixed.ne_bool_str (Qc I q ())
  |_=>exact Zn (show false=true from e) Zj
 |int i =>
  obtain⟨t,rfl⟩:=f;cases y with
  |non=>cases d;exact PySem.EqNone.ne_int_none (Qc I q ())
  |int j=>obtain⟨t',rfl⟩:=d;exact ne_int (Qc I q (Zt not DN))
  |str j=>obtain⟨t',rfl⟩:=d;exact PySem.EqMixed.ne_int_str (Qc I q ())
  |_=>exact Zn (show false=true from e) Zj
 |str i =>
  obtain⟨t,rfl⟩:=f;cases y with
  |non=>cases d;exact PySem.EqNone.ne_str_none (Qc I q ())
  |bl j=>cases d;exact PySem.EqMixed.ne_str_bool (Qc I q ())
  |int j=>obtain⟨t',rfl⟩:=d;exact PySem.EqMixed.ne_str_int (Qc I q ())
  |str j=>obtain⟨t',rfl⟩:=d;exact ne_str (Qc I q (Zt not DP))
  |_=>exact Zn (show false=true from e) Zj
 |byt i =>
  obtain⟨t,rfl⟩:=f;cases y with
  |byt j=>obtain⟨t',rfl⟩:=d;exact W.ne_bytes (Qc I q (Zt not DQ))
  |_=>exact Zn (e) Zj
 |_=>cases y<;>exact Zn (show false=true from e) Zj
def u8:jE X (compareOp .Lt) (zF λi j=>.bl (decide (i<j))):=zJ λ_ _ _ _ _ _ _ q=>lt_int q
def u9:jE X (compareOp .LtE) (zF λi j=>.bl (decide (i<=j))):=zJ λ_ _ _ _ _ _ _ q=>le_int q
def uA:jE X (compareOp .Gt) (zF λi j=>.bl (decide (j<i))):=zJ λ_ _ _ _ _ _ _ q=>gt_int q
def uB:jE X (compareOp .GtE) (zF λi j=>.bl (decide (j<=i))):=zJ λ_ _ _ _ _ _ _ q=>ge_int q
def IJ:jE X (compareOp .In) (λx y H Q=>∃i j,x=.str i/\y=.str j/\Q (.bl (!(Builtin.Str.occurrences j i 0 j.length 1).isEmpty)) H):=by
 intro Y s Z H x y v u Q I d e h;obtain⟨i,j,rfl,rfl,q⟩:=h;obtain⟨t,rfl⟩:=d;obtain⟨t',rfl⟩:=e;exact in_str (Qc I q rfl)
def IK:jE X (compareOp .NotIn) (λx y H Q=>∃i j,x=.str i/\y=.str j/\Q (.bl (!(!(Builtin.Str.occurrences j i 0 j.length 1).isEmpty))) H):=by
 intro Y s Z H x y v u Q I d e h;obtain⟨i,j,rfl,rfl,q⟩:=h;obtain⟨t,rfl⟩:=d;obtain⟨t',rfl⟩:=e;exact notIn_str (Qc I q rfl)
def Qb (b){d:CmpOp}(h:d ≠ .In:=by decide)(e:d ≠ .NotIn:=by decide):behindInMarks d b=false:=by
 cases b<;>first|rfl|(show(_&&(_||_)&&_)=false;simp_all)
def DR {d:CmpOp}{r:R2}(e:jE X (compareOp d) r)(f:PE X a ta)(g:PE X b tb)(i:behindInMarks d b=false):PE X (.Compare a [d] [b] pos) (wj r ta tb):=λY s Z H Q I h=>wpAny_Compare1 (wI f g I h λv u j x y l m n o q=>e Y j Z l x y v u Q m n o q) i
def DS (t:TE):TT:=λZ H Q=>t Z H λx d=>∃k,x=.bl k/\Q k d
def Aj {d:CmpOp}{r:R2}(f:jE X (compareOp d) r)(g:PE X a ta)(i:PE X b tb)(j:behindInMarks d b=false):PT X (.Compare a [d] [b] pos) (DS (wj r ta tb)):=by
 intro Y s Z H Q I h;refine wpAny_isTrue_Compare1 (TQ (g Y s Z H _ I h) λv l ⟨x,m,n,o,p⟩=>TQ (i Y l Z m _ n p) λu q ⟨y,t,w,A,B⟩ =>
  TQ (f Y q Z t x y v u _ w o A B) λc J ⟨z,C,E,F,k,e,G⟩=>?_) j
 subst e;cases F;exact wpAny_truthy_bool ⟨C,E,G⟩
def BA (r e:R2)(ta tb tc:TE):TE:=λZ H Q=>ta Z H λx f=>tb Z f λy g=>r x y g λz d=>∃k,z=.bl k /\
 (if k=true then tc Z d λh i=>e y h i Q else Q (.bl false) d)
def IL {g f:CmpOp}{r j:R2}(p:jE X (compareOp g) r)(i:jE X (compareOp f) j)(q:PE X a ta)(t:PE X b tb)(w:PE X c tc)
 (A:lastMarks [g,f] [b,c]=false:=by with_unfolding_all rfl):PE X (.Compare a [g,f] [b,c] pos) (BA r j ta tb tc):=by
 intro Y s Z H Q I h;refine Compare_chain (TQ (q Y s Z H _ I h) λv B ⟨x,C,E,F,G⟩=>chain_link (TQ (t Y B Z C _ E G) λu J ⟨y,K,L,l,M⟩ =>
  TQ (p Y J Z K x y v u _ L F l M) λd N ⟨z,m,n,O,k,e,o⟩=>?_)) A
 subst e;cases O;refine wpAny_truthy_bool ?_;cases k with
 |false=>exact ite_ff ⟨.bl false,m,n,rfl,o⟩
 |true=>exact ite_tt (chain_last (TQ (w Y N Z m _ n o) λP R ⟨S,T,U,r4,q4⟩=>i Y R Z T y S u P Q U l r4 q4))
def IM {g f:CmpOp}{r j:R2}(p:jE X (compareOp g) r)(i:jE X (compareOp f) j)(q:PE X a ta)(t:PE X b tb)(w:PE X c tc)
 (A:lastMarks [g,f] [b,c]=false:=by with_unfolding_all rfl):PT X (.Compare a [g,f] [b,c] pos) (DS (BA r j ta tb tc)):=by
 intro Y s Z H Q I h;refine isTrue_chain (TQ (q Y s Z H _ I h) λv B ⟨x,C,E,F,G⟩=>test_link (TQ (t Y B Z C _ E G) λu J ⟨y,K,L,l,M⟩ =>
  TQ (p Y J Z K x y v u _ L F l M) λd N ⟨z,m,n,O,k,e,o⟩=>?_)) A
 subst e;cases O;refine wpAny_truthy_bool ?_;cases k with
 |false =>
  obtain⟨k',P,q'⟩:=o;cases P;exact ite_ff ⟨m,n,q'⟩
 |true =>
  refine ite_tt (test_last (TQ (w Y N Z m _ n o) λR S ⟨T,U,I4,r4,q4⟩=>TQ (i Y S Z U y T u R _ I4 l r4 q4) λd' s5 ⟨z2,H5,I5,r5,k2,e2,q5⟩=>?_));subst e2;cases r5;exact wpAny_truthy_bool ⟨H5,I5,q5⟩
def X1:(sizeLine:Nat)<2 ^ 63:=by decide
def IN:jE X (binaryOp .Add) (λx y H Q=>∃i j,x=.str i/\y=.str j/\i.length+j.length<=sizeLine/\Q (.str (i++j)) H):=by
 intro Y s Z H x y v u Q I d e h;obtain⟨i,j,rfl,rfl,f,q⟩:=h;obtain⟨t,rfl⟩:=d;obtain⟨t',rfl⟩:=e;exact add_str (λt' tk=>⟨.str (i++j),H,I.tok _,⟨_,rfl⟩,q⟩) f
def Ku {x:V}{us:Yd}(r:TD [x] us):∃u,us=[u]/\TC x u:=by
 cases r with
 |cons d e=>cases e;exact⟨_,rfl,d⟩
def DT {x y:V}{us:Yd}(r:TD [x,y] us):∃u d,us=[u,d]/\TC x u/\TC y d:=by
 cases r with
 |cons e f =>
  cases f with
  |cons g h=>cases h;exact⟨_,_,rfl,e,g⟩
def IP:jH X (.builtin "abs") (λxs H Q=>∃i,xs=[.int i]/\Q (.int (if i<0 then -i else i)) H):=by
 intro Y s Z H xs us Q I r h;obtain⟨i,rfl,q⟩:=h;obtain⟨u,rfl,t,rfl⟩:=Ku r;exact call_abs_int λu tk=>⟨.int (if i<0 then -i else i),H,I.tok _,⟨_,rfl⟩,q⟩
def IQ (e:X.calm=true):jH X (.builtin "min") (λxs H Q=>∃i j,xs=[.int i,.int j]/\Q (.int (if j<i then j else i)) H):=by
 intro Y s Z H xs us Q I r h;obtain⟨i,j,rfl,q⟩:=h;obtain⟨u,f,rfl,⟨t,rfl⟩,⟨t',rfl⟩⟩:=DT r;refine min_two_ints (I.ok.hd e) λh' tk k=>⟨_,H,I.kept k,?_,q⟩;by_cases d:j<i
 .rw[Zd d,Zd d];exact⟨_,rfl⟩
 .rw[Ze d,Ze d];exact⟨_,rfl⟩
end
structure ObjM (h:Heap)(x dx C:Addr)(mA:Yc):Prop where
 obj:h.get? x=some (W.instObj C dx)
 ns:h.Ns1 dx mA
 ne:dx≠x
def IR {h:Heap}{d:Addr}{f:Yc}(n:h.Ns1 d f):∃g,h.get? d=some g/\∀b,W.lookIn b g=some (f b):=by
 obtain⟨o,es,p,i,j,l,_,m⟩:=n;refine⟨o,i,λb=>?_⟩;have e:=m b;unfold nsFind findBy at e;rw[<- Array.find?_toList] at e;unfold W.lookIn;rw[j];dsimp only
 split
 .simp_all
 .have a:es.toList.any (·.refKey)=false:=by
   rw[List.any_eq_false];intro y q;have ⟨z,t,c⟩:=l y ();simp[DictEntry.refKey,c]
  simp_all
def ObjM.look {h:Heap}{x c C:Addr}{d:Yc}(I:ObjM h x c C d):∃b,W.InstAt h x (W.instObj C c) C (some b)/\∀a,W.lookIn a b=some (d a):=
 let ⟨b,ho,hl⟩:=IR I.ns
 ⟨b,⟨I.obj,rfl,rfl,ho⟩,hl⟩
section
variable {prog:Program}{w:World}{A:Around}{E:Ya}{s:Shared}{K:W.Frag}{x dx C f:Addr}{mA:Yc}{name:Str}{v:Value}
def IS {a:Bool}{Q:Ya}(X:K.In s.heap)(I:ObjM s.heap x dx C mA)(c:W.plainGet K C name=true)(d:W.hasDictIn K C=true)
 (e:W.findIn K (.ref C) name=some none) (g:mA name=some v) (b:W.handedIn v=true) (h:Q v { s with toks:=s.toks+1 }):
 Yw prog w A (getAttr (.ref x) name a) Q E s:=by
 obtain⟨j,J,i⟩:=I.look;exact W.get_value X J (W.plainGet_of c).1 (W.findObj_own d e rfl (by rw[i,g])) b h
def IT {i:Yh}{Q:Unit->Yq}(X:K.In s.heap)(I:ObjM s.heap x dx C mA)
 (j:W.findIn K (.ref C) "__setattr__" = some (some (.builtin "object.__setattr__"))) (hp:W.plainOver K C=true) (l:W.takerIn K C name=some none) (m:W.hasDictIn K C=true)
 (hw:PySem.Within mA i) (hsz:i.length<=sizeLine)
 (h:∀h',ObjM h' x dx C (λy=>if y=name then some v else mA y)->Heap.SameBut dx s.heap h'->Q Ym { s with heap:=h',toks:=s.toks+2 }):
 Yw prog w A (setAttr (.ref x) name v) Q E s:=by
 obtain⟨r,J,t⟩:=I.look;refine W.set_plain X J j (W.osa_open X J hp l λb=>?_);obtain⟨cd,n,d⟩:=W.any_some m;refine Za (Zb (Za (Za (wpAny_loadPart I.obj (Za (W.Looks.here (W.looks_clsIn X n) ?_))))));rw[d];refine Zb (Za (Zb (Za (wpAny_nsSet1 I.ns λh' a c=>?_))));obtain⟨oD,o,p,e,g,q⟩:=a.count (PySem.Within.cons name v hw);exact Za (wpAny_lookBehind e (by rw[g];exact pastItsLine_dict ()) (Zb (h _ ⟨(c.2 _ (Ne.symm I.ne)).trans I.obj,a,I.ne⟩ c)))
def IU {R:Result->Yq}{b:Yd}{c:List (Str×Value)}(X:K.In s.heap)(d:W.makesIn K C=true)
 (e:W.findIn K (.ref C) "__init__" = some (some (.ref f))) (g:W.typeIn K (.ref f)=some (.type "function"))
 (h:codeAny (model prog w) (A.under (.builtin "type.__call__" ⟨.ref C::b,c⟩)) (.call (.ref f) ⟨.ref (s.heap.objs.size+1)::b,c⟩) (W.InitBack (s.heap.objs.size+1) R)
  { s with heap:=(s.heap.push W.emptyDict).push (W.instObj C s.heap.objs.size) }):
 codeAny (model prog w) A (.call (.ref C) ⟨b,c⟩) R s:=W.make_core (W.makes_of X d) (W.looks_findIn X e) (λa=>W.bind_fn X a g) (.inl rfl) h
end
def qg (f:Str)(v:V):List (Str×V)->List (Str×V)
 | []=>[(f,v)]
 | (g,x)::r=>if g=f then(g,v)::r else(g,x)::qg f v r
theorem DU (f g)(v):∀fs:List (Str×V),(qg f v fs).lookup g=if g=f then some v else fs.lookup g
 | []=>by
  show List.lookup g [(f,v)]=_
  grind
 | (k,x)::r=>by
  have a:=DU f g v r;rw[show qg f v ((k,x)::r)=(if k=f then(k,v)::r else(k,x)::qg f v r) from rfl]
  grind
theorem BB (f)(v):∀fs:List (Str×V),f∈(qg f v fs).map (·.1)/\∀g,g∈fs.map (·.1)->g∈(qg f v fs).map (·.1)
 | []=>⟨by simp[qg],()⟩
 | (k,x)::r=>by
  have ⟨a,b⟩:=BB f v r;rw[show qg f v ((k,x)::r)=(if k=f then(k,v)::r else(k,x)::qg f v r) from rfl]
  grind
theorem DV (f)(v):∀fs:List (Str×V),(qg f v fs).length<=fs.length+1
 | []=>by simp[qg]
 | (k,x)::r=>by
  have a:=DV f v r;rw[show qg f v ((k,x)::r)=(if k=f then(k,v)::r else(k,x)::qg f v r) from rfl]
  grind
def jW {v:V}{o:Ye}(r:qK (some v) o):∃u,o=some u/\TC v u:=by
 cases o with
 |none=>exact(r).elim
 |some u=>exact⟨u,rfl,r⟩
def IV {v:V}{u:Value}(r:TC v u):W.handedIn u=true:=by
 cases v with
 |non=>cases (r);rfl
 |bl b=>cases (r);rfl
 |int i=>have ⟨t,e⟩:=(r);cases e;rfl
 |str x=>have ⟨t,e⟩:=(r);cases e;rfl
 |byt b=>have ⟨t,e⟩:=(r);cases e;rfl
 |flt b=>have ⟨t,e⟩:=(r);cases e;rfl
 |ref a=>cases (r);rfl
 |ty n=>cases (r);rfl
section
variable {P:Program}{w:World}{H H':Hp}{h h':Heap}{a C dx:Addr}{fs fs':List (Str×V)}
def BC (c:qr P w H h)(e:H a=some (.ins C dx fs)):∃b,ObjM h a dx C b/\(∀f,qK (fs.lookup f) (b f))/\PySem.Within b (fs.map (·.1))/\fs.length<=1000/\H dx=some (.own a):=have ⟨d,z,ne,g,b,n,r,q⟩:=(c a _ e);⟨b,⟨g,n,ne⟩,r,q,z,d⟩
end
structure Cls (K:W.Frag)(C:Addr):Prop where
 pg:W.plainGet K C Str.empty=true
 hd:W.hasDictIn K C=true
 po:W.plainOver K C=true
 sa:W.findIn K (.ref C) "__setattr__" = some (some (.builtin "object.__setattr__"))
def Cls.get {K:W.Frag}{C:Addr}(c:Cls K C)(f):W.plainGet K C f=true:=c.pg
def z4 (K:W.Frag)(C:Addr)(f:Str):Prop:=W.findIn K (.ref C) f=some none
def z4.taker {K:W.Frag}{C:Addr}{f:Str}(n:z4 K C f):W.takerIn K C f=some none:=by
 unfold W.takerIn;rw[n];rfl
section
variable {X:Cx}{Y:Yb}{Z: St}{H:Hp}{s:Shared}{a C dx:Addr}{fs:List (Str×V)}{f:Str}{v:V}{A:Around}{E:Ya}
def IW {b:Bool}{Q:Ya}(I:Inv X Y Z H s)(e:H a=some (.ins C dx fs))(c:Cls X.K C)(n:z4 X.K C f)(l:fs.lookup f=some v)
 (h:∀u s',Inv X Y Z H s'->TC v u->Q u s'):wpAny (model X.prog X.w) A (getAttr (.ref a) f b) Q E s:=by
 obtain⟨i,O,r,_,_,_⟩:=BC I.hok e;obtain⟨u,g,d⟩:=jW (by rw[<- l];exact r f);exact IS I.kIn O (c.get f) c.hd n g (IV d) (h u _ (I.tok _) d)
def IX {y:V}{u:Value}{Q:Unit->Yq}(I:Inv X Y Z H s)(e:H a=some (.ins C dx fs))(c:Cls X.K C)(n:z4 X.K C f)(x:fs.length<1000)(B:TC y u)
 (h:∀s',Inv X Y Z (upd H a (.ins C dx (qg f y fs))) s'->Q Ym s'):wpAny (model X.prog X.w) A (setAttr (.ref a) f u) Q E s:=by
 obtain⟨F,O,r,i,_,j⟩:=BC I.hok e;have l:(fs.map (·.1)).length<=sizeLine:=by rw[Zql,sizeLine_eq];lia
 refine IT I.kIn O c.sa c.po n.taker c.hd i l λh' d m=>h _ ?_;have p:∃o,h'.get? dx=some o:=let ⟨o,_,_,e',_⟩:=d.ns;⟨o,e'⟩
 refine I.write (by rw[e];exact True.intro) (.inr j) (λb q t z=>(m.2 b t).trans z) p ⟨by rwa [Jz O.ne],?_,O.ne,d.obj,_,d.ns,λg=>?_,λg w=>?_⟩
 .have:=DV f y fs;lia
 .rw[DU];by_cases q:g=f
  .rwa [Zd q,Zd q]
  simp_all
 .by_cases q:g=f
  .rw[q];exact(BB f y fs).1
  .refine(BB f y fs).2 g (i g λz=>w ?_)
   simp_all
def Inv.made (I:Inv X Y Z H s):Inv X Y Z (upd (upd H s.heap.objs.size (.own (s.heap.objs.size+1))) (s.heap.objs.size+1) (.ins C s.heap.objs.size []))
 { s with heap:=(s.heap.push W.emptyDict).push (W.instObj C s.heap.objs.size) }:=by
 have c:(s.heap.push W.emptyDict).get? s.heap.objs.size=some W.emptyDict:=Zr s.heap rfl;have d:((s.heap.push W.emptyDict).push (W.instObj C s.heap.objs.size)).get? (s.heap.objs.size+1)=some (W.instObj C s.heap.objs.size):=by
  have:=Zr (s.heap.push W.emptyDict) (o:=W.instObj C s.heap.objs.size) rfl
  simp_all
 have g:(s.heap.push W.emptyDict).Ns s.heap.objs.size (λ_=>none):=⟨W.emptyDict,#[],_,c,rfl,(λe h=>Zn h ()),λ_=>rfl⟩;refine(I.laid (o:=.own (s.heap.objs.size+1)) (t':=s.toks) (λb u q=>Zq _ q) (Zf _) ⟨_,c⟩).laid (λb u q=>Zq _ q) () ?_;have ne:s.heap.objs.size≠s.heap.objs.size+1:=()
 refine⟨by rw[Jz ne,JC],Ug _,ne,d,λ_=>none,(Heap.Ns1.of_empty g).at λo q=>Zq _ q,λ_=>True.intro,λy i=>Zn rfl i⟩
def IY {prog:Program}{w:World}{env:Env}{e:Expr}{f:Str}{b:Pos}{s:Shared}{Q:Ya}(c:attributeBase e f env (eval e env)=eval e env)
 (h:Yw prog w A (eval e env) (λo s₁=>Yw prog w A (getAttr o f true) Q E s₁) E s):Yw prog w A (eval (.Attribute e f b) env) Q E s:=
 Attribute_any_ h (by rw[arm_eval_Attribute,c])
end
def bK (K:W.Frag)(c:TE)(f:Str):TE:=λZ H Q=>c Z H λx b=>∃a C d fs v,x=.ref a/\b a=some (.ins C d fs)/\Cls K C/\z4 K C f/\fs.lookup f=some v/\Q v b
def bR (K:W.Frag)(d e:TE)(f:Str):TS:=λD Z H=>e Z H λy g=>d Z g λx b=>∃a C c fs,x=.ref a/\b a=some (.ins C c fs)/\Cls K C/\z4 K C f/\fs.length<1000 /\
 D.nx Z (upd b a (.ins C c (qg f y fs)))
section
variable {X:Cx}{o e value:Expr}{f:Str}{pos pos' tpos:Pos}{ta tv:TE}
def DW (b:PE X e ta)(d:attributeBase e f X.env (eval e X.env)=eval e X.env):PE X (.Attribute e f pos) (bK X.K ta f):=by
 intro Y s Z H Q I h;refine IY d (TQ (b Y s Z H _ I h) λu w ⟨x,g,i,j,a,C,y,fs,v,m,p,c,n,l,q⟩=>?_);subst m;obtain rfl:=j;exact IW i p c n l λz A r t=>⟨v,g,r,t,q⟩
def DX (b:PE X o ta)(d:PE X value tv)(g:swapsWith value (some (.Attribute o f pos')) pos.line X.env=pure false):PS X (.Assign [.Attribute o f pos'] value pos) (bR X.K ta tv f):=by
 intro Y s Z H D I h;refine plainObj_wpAny_Assign_Attribute (TQ (d Y s Z H _ I h) λu i ⟨y,j,m,p,q⟩=>TQ (b Y i Z j _ m q) λB E ⟨x,F,r,t,a,C,G,fs,v,w,c,n,l,z⟩=>?_) g;subst v;obtain rfl:=t;exact IX r w c n l p λJ A=>⟨Z,_,A,z⟩
end
section
variable {X:Cx}{Y:Yb}{Z: St}{H:Hp}{s:Shared}{A:Around}{E:Ya}{Q:Ya}{c:Value}{b:Bool}
inductive TyOf (K:W.Frag)(H:Hp):V->Value->Prop where
 |non:TyOf K H .non (.type "NoneType")
 |bl (x:Bool):TyOf K H (.bl x) (.type "bool")
 |int (i:Int):TyOf K H (.int i) (.type "int")
 |str (x:Str):TyOf K H (.str x) (.type "str")
 |flt (x:UInt64):TyOf K H (.flt x) (.type "float")
 |lst {a:Addr} {xs:Yr} (e:H a=some (.lst xs)):TyOf K H (.ref a) (.type "list")
 |frz {a:Addr} {o:Obj} {xs:Yr} (e:H a=some (.frz o (.lst xs))):TyOf K H (.ref a) (.type "list")
 |tup {a:Addr} {xs:Yr} (e:H a=some (.tup xs)):TyOf K H (.ref a) (.type "tuple")
 |dK {a:Addr} {kvs:List (TM×V)} (e:H a=some (.dK kvs)):TyOf K H (.ref a) (.type "dict")
 |dT {a:Addr} {kvs:List (List TM×V)} (e:H a=some (.dT kvs)):TyOf K H (.ref a) (.type "dict")
 |ins {a C dx:Addr} {fs:List (Str×V)} (e:H a=some (.ins C dx fs)) (cl:Cls K C) (ha:W.findIn K (.ref C) "__class__" = some (some (.builtin "object.__class__")))
  (hn:W.specialIn K (.builtin "object.__class__") "__get__" = some (some (.builtin "getset_descriptor.__get__"))) (htk:W.takesIn K (.builtin "object.__class__")=some true)
  (hm:W.mroIn K C (.type "object")=some true):TyOf K H (.ref a) (.ref C)
def IZ {x:V}{u t:Value}(I:Inv X Y Z H s)(d:TC x u)(v:TyOf X.K H x t)(e:W.kitOne X.K t c=some b)(h:∀tk,Q (.bool b) { s with toks:=tk }):
 wpAny (model X.prog X.w) A (call (.builtin "isinstance") [u,c]) Q E s:=by
 cases v with
 |non=>cases (d);exact W.kia_one W.kitx_none I.kIn True.intro e (λz=>nomatch z) h
 |bl y=>cases (d);exact W.kia_one W.kitx_bool I.kIn True.intro e (λz=>nomatch z) h
 |int i=>have ⟨t,q⟩:=(d);cases q;exact W.kia_one W.kitx_int I.kIn True.intro e (λz=>nomatch z) h
 |str y=>have ⟨t,q⟩:=(d);cases q;exact W.kia_one W.kitx_str I.kIn True.intro e (λz=>nomatch z) h
 |flt y=>have ⟨t,q⟩:=(d);cases q;exact W.kia_one W.kitx_float I.kIn True.intro e (λz=>nomatch z) h
 | @lst a xs f =>
  cases (d);obtain⟨_,_,n,_,g⟩:=(I.hok a _ f);exact W.kia_one W.kitx_list I.kIn ⟨_,g,rfl⟩ e (λz=>nomatch z) h
 | @frz a K xs f =>
  cases (d);obtain⟨_,_,_,n,_,g⟩:=(I.hok a _ f);exact W.kia_one W.kitx_list I.kIn ⟨_,g,rfl⟩ e (λz=>nomatch z) h
 | @tup a xs f =>
  cases (d);obtain⟨_,_,_,p⟩:=(I.hok a _ f);obtain⟨o,g,j,_⟩:=p;exact W.kia_one W.kitx_tuple I.kIn ⟨o,g,j⟩ e (λz=>nomatch z) h
 | @dK a l f =>
  cases (d);obtain⟨_,_,L,_,p⟩:=(I.hok a _ f);obtain⟨o,es,w,g,j,_⟩:=p;exact W.kia_one W.kitx_dict I.kIn ⟨o,g,j.1⟩ e (λz=>nomatch z) h
 | @dT a l f =>
  cases (d);obtain⟨_,_,xs,_,o,es,w,g,j,_⟩:=(I.hok a _ f);exact W.kia_one W.kitx_dict I.kIn ⟨o,g,j.1⟩ e (λz=>nomatch z) h
 | @ins a C M fs f r B F m G =>
  cases (d);obtain⟨N,O,_⟩:=BC I.hok f;obtain⟨P,J,_⟩:=O.look;exact W.kia_one (W.kitx_own (r.get _) r.hd B F m G) I.kIn J e (λz=>nomatch z) h
end
structure Room (k:Nat)(A:Around):Prop where
 hd:A.handled=none
 dp:A.depth+3*k+5<recursionLimit
 un:A.units+16*k+200<cLine
def Room.mono {j k:Nat}{A:Around}(r:Room k A)(h:j<=k):Room j A:=⟨r.hd,by have:=r.dp;lia,by have:=r.un;lia⟩
theorem Room.deeper {k:Nat}{A:Around}(r:Room (k+1) A)(env):Room k (A.deeper env):=
 ⟨r.hd,by have:=r.dp;show A.depth+1+3*k+5<_;lia,by have:=r.un;show A.units+3+16*k+200<_;lia⟩
def La {A:Around}{C:Addr}{us:Yd}{a:List (Str×Value)}:(A.under (.builtin "type.__call__" ⟨.ref C::us,a⟩)).depth=A.depth+1:=by
 rfl
def Lb {A:Around}{C:Addr}{us:Yd}{a:List (Str×Value)}:(A.under (.builtin "type.__call__" ⟨.ref C::us,a⟩)).units=A.units+1:=by
 rfl
def Room.make {k:Nat}{A:Around}(r:Room (k+1) A)(C)(us)(kw):Room k (A.under (.builtin "type.__call__" ⟨.ref C::us,kw⟩)):=
 ⟨r.hd,by have:=r.dp;rw[La];lia,by have:=r.un;rw[Lb];lia⟩
theorem Room.depth {k:Nat}{A:Around}(r:Room k A):A.depth<recursionLimit:=by have:=r.dp;lia
theorem Room.units {k:Nat}{A:Around}(r:Room k A):A.units+64<cLine:=by have:=r.un;lia
def v6:TA:=λ_ H Q=>Q [] H
def DY (a:TE)(b:TA):TA:=λZ H Q=>a Z H λx c=>b Z c λxs d=>Q (x::xs) d
section
variable {X:Cx}{e:Expr}{es:Yj}{te:TE}{t:TA}{pos:Pos}
def WS:PA X [] v6:=λ_ _ _ _ H Q I h=>Calls.spliced_nil ⟨[],H,I,.nil,h⟩
def WT (a:PE X e te)(b:PA X es t)(c:starEach (e::es) X.env=(false,eval e X.env)::starEach es X.env:=by rfl):PA X (e::es) (DY te t):=by
 intro pos Y s Z H Q I h;rw[c];exact Calls.spliced_cons (TQ (a Y s Z H _ I h) λu d ⟨x,f,g,i,j⟩=>(TQ (b pos Y d Z f _ g j) λus p ⟨xs,l,m,n,o⟩=>⟨x::xs,l,m,.cons i n,o⟩))
def bB (t:TA):TE:=λZ H Q=>t Z H λxs a=>xs.length<=sizeLine/\∀p,a p=none->Q (.ref p) (upd a p (.tup xs))
def bH (t:TA):TE:=λZ H Q=>t Z H λxs a=>xs.length<=sizeLine/\∀p,a p=none->Q (.ref p) (upd a p (.lst xs))
def Lc {x1}(h:PA X es t):PE X (.Tuple es x1 pos) (bB t):=λY s Z H Q I d=>wpAny_Tuple_spliced (TQ (h pos Y s Z H _ I d) λus a ⟨xs,f,c,r,z,q⟩=>⟨by rwa [<- r.length],⟨.ref a.heap.objs.size,upd f a.heap.objs.size (.tup xs),c.laid (λb u e=>Zq _ e) (Zf _) (⟨⟨z,⟨_,Zr _ rfl,rfl⟩⟩,us,r,⟨_,Zr _ rfl,rfl,_,rfl⟩⟩),rfl,q _ (c.hok.fresh (Zf _))⟩⟩)
def DZ (h:PA X es t):PE X (.List es pos) (bH t):=λY s Z H Q I d=>wpAny_List_spliced (TQ (h pos Y s Z H _ I d) λus a ⟨xs,f,c,r,z,q⟩=>⟨by rwa [<- r.length],⟨.ref a.heap.objs.size,upd f a.heap.objs.size (.lst xs),c.laid (λb u e=>Zq _ e) (Zf _) ⟨z,us,0,r,Zr _ rfl⟩,rfl,q _ (c.hok.fresh (Zf _))⟩⟩)
end
abbrev Sp:=Yr->Hp->VK->XK->Prop
abbrev yY:=List Env->Hp->Shared->XK->Ya
structure Env0 (P:Program)(w:World)(K:W.Frag)(mg:Yc)(base:Heap)(A:Around)(outer:List Env)(s:Shared)(H:Hp):Prop where
 frames:A.frames=some outer
 mod:Mod K mg base
 bs:∀b o,base.get? b=some o->s.heap.get? b=some o/\H b=none
 bsz:base.objs.size<=s.heap.objs.size
 funs:s.heap.FunFrames base outer
 frf:∀b∈frs outer,H b=none
 hok:qr P w H s.heap
 bare:AllBare s.gens
def CE (a:List Env)(P:Program)(w:World)(H:Hp)(s:Shared)(Q:VK)(u:Value)(s':Shared):Prop:=
 ∃v b,s'.os=s.os/\AllBare s'.gens/\Un (frs a) [] H b s.heap s'.heap/\qr P w b s'.heap/\TC v u/\Q v b
def CR (CX:yY)(a:List Env)(P:Program)(w:World)(H:Hp)(s:Shared)(Q:VK)(E:XK)(r:Result)(s':Shared):Prop:=
 match r with
 | .ok (.ret u)=>CE a P w H s Q u s'
 | .ok _=>False
 | .error e=>CX a H s E e s'
structure FnOk (P:Program)(w:World)(K:W.Frag)(mg:Yc)(base:Heap)(CX:yY)(k:Nat)(f:Addr)(fd:FuncData)(ps:Yh)(sp:Sp):Prop where
 len:∀vs H Q E,sp vs H Q E->vs.length=ps.length
 run:∀(A:Around) (outer:List Env) (s:Shared) (H:Hp) (args:Args) (us:Yd) (vs:Yr) (Q:VK) (E:XK),Room k A->Env0 P w K mg base A outer s H->BindsTo s fd args (ps.zip us)->TD vs us->sp vs H Q E ->
  codeAny (model P w) A (.call (.ref f) args) (CR CX outer P w H s Q E) s
theorem FnOk.mono {P:Program}{w:World}{K:W.Frag}{c:Yc}{a:Heap}{CX:yY}{j k:Nat}{f:Addr}{d:FuncData}{ps:Yh}{sp:Sp}(F:FnOk P w K c a CX j f d ps sp)(h:j<=k):
 FnOk P w K c a CX k f d ps sp:=⟨F.len,λA b s H args us e Q E g=>F.run A b s H args us e Q E (g.mono h)⟩
def FnOk.imp {P:Program}{w:World}{K:W.Frag}{e:Yc}{a:Heap}{CX:yY}{k:Nat}{f:Addr}{g:FuncData}{ps:Yh}{sp d:Sp}(F:FnOk P w K e a CX k f g ps sp)
 (h:∀c H Q E,d c H Q E->sp c H Q E):FnOk P w K e a CX k f g ps d:=
 ⟨λc H Q E q=>F.len c H Q E (h _ _ _ _ q),λA b s H args us c Q E i j l m n=>F.run A b s H args us c Q E i j l m (h _ _ _ _ n)⟩
def Env0.make {P:Program}{w:World}{K:W.Frag}{c:Yc}{b:Heap}{A:Around}{a:List Env}{s:Shared}{H:Hp}(e:Env0 P w K c b A a s H)(C)(us)(kw):
 Env0 P w K c b (A.under (.builtin "type.__call__" ⟨.ref C::us,kw⟩)) a s H:=⟨by first|exact e.frames|(simpa using e.frames),e.mod,e.bs,e.bsz,e.funs,e.frf,e.hok,e.bare⟩
section
variable {X:Cx}{Y:Yb}{Z: St}{H:Hp}{s s':Shared}
def Inv.env0 (I:Inv X Y Z H s):Env0 X.prog X.w X.K X.mg X.base X.A X.stack s H:=
 ⟨I.ok.frames,I.ok.mod,I.bs,Zh I.ok.bsz I.sz,I.stack,I.stkFree,I.hok,I.bare⟩
def Inv.after {Q:VK}{u:Value}(I:Inv X Y Z H s)(h:CE X.stack X.prog X.w H s Q u s'):EP X Y Z Q u s':=by
 obtain⟨v,c,os,bare,un,a,r,q⟩:=h;obtain⟨f,g,d,t,e⟩:=s';obtain rfl:=os;exact⟨v,c,I.call un a bare (λb z=>Zn z ()),r,q⟩
end
def BD (sp:Sp)(a:Yr)(E:XK)(t:TA):TE:=λZ H Q=>t Z H λb c=>sp (b++a) c Q E
def v8 (C:Addr)(sp:Sp)(b:Yr)(E:XK)(t:TA):TE:=λZ H Q=>t Z H λd c=>∀x a,c x=none->c a=none->a≠x ->
 sp (.ref x::(d++b)) (upd (upd c a (.own x)) x (.ins C a [])) (λv e=>v=.non/\Q (.ref x) e) E
def y4 (K:W.Frag)(a:FuncData)(ps:Yh)(ds:Yd):Prop:=
 ∀(s:Shared) (us:Yd),K.In s.heap->(us++ds).length=ps.length->BindsTo s a ⟨us,[]⟩ (ps.zip (us++ds))
def y4.all {K:W.Frag}{a:FuncData}{ps:Yh}(h:∀us:Yd,us.length=ps.length->bindArgs a ⟨us,[]⟩=pure (ps.zip us)):y4 K a ps []:=λs us _ b=>by
 rw[ZA] at b ⊢;exact .of_eq (h us b)
def X2 (CX:yY)(X:Cx)(E:XK):Prop:=∀(Y:Yb) (Z: St) (H:Hp) (s:Shared) (e:Value) (s':Shared),Inv X Y Z H s->CX X.stack H s E e s'->X.xe e s'
section
variable {X:Cx}{CX:yY}{k:Nat}{f C:Addr}{fd:FuncData}{ps:Yh}{sp:Sp}{dvs:Yr}{ds:Yd}{E:XK}{x m:Str}{p pos apos:Pos}{e o:Expr}{es:Yj}{ta:TE}{t:TA}
def Ld {Y:Yb}{Z: St}{H:Hp}{s:Shared}{Q:VK}{us:Yd}{b:Yr}(F:FnOk X.prog X.w X.K X.mg X.base CX k f fd ps sp)(d:Room k X.A)(g:y4 X.K fd ps ds)(i:TD dvs ds)(hx:X2 CX X E)
 (I:Inv X Y Z H s) (r:TD b us) (h:sp (b++dvs) H Q E):Yv X (call (.ref f) us) (EP X Y Z Q) X.xe s:=by
 have c:=r.append i;have j:(us++ds).length=ps.length:=by rw[<- c.length];exact F.len _ _ _ _ h
 refine wpAny_call (codeAny_mono (F.run X.A X.stack s H ⟨us,[]⟩ (us++ds) (b++dvs) Q E d I.env0 (g s us I.kIn j) c h) λr s' a=>?_);cases r with
 |error e=>exact hx Y Z H s e s' I a
 |ok l =>
  cases l with
  |ret u=>exact I.after a
  |next=>exact False.elim a
  |brk=>exact False.elim a
  |cont=>exact False.elim a
def Ea (F:FnOk X.prog X.w X.K X.mg X.base CX k f fd ps sp)(d:Room k X.A)(g:Gl X x)(i:X.mg x=some (.ref f))(j:W.keepIn X.K (.ref f)=true)(l:y4 X.K fd ps ds)(n:TD dvs ds)(hx:X2 CX X E)
 (u:PA X (e::es) t) (a:(x == ("__debug__" : Str))=false:=by decide) (v:starEach (e::es) X.env=(false,eval e X.env)::starEach es X.env:=by rfl) (b:(backTo pos (starEach es X.env)).any (·.1)=false:=by rfl):
 PE X (.Call (.Name x p) (e::es) [] pos) (BD sp dvs E t):=by
 intro Y s Z H Q I h;exact wpAny_Call_Name_kw (WQ I g i (W.callWith_K I.ok.mod.kin j (TQ (u pos Y s Z H _ I h) λus w ⟨y,z,c,r,q⟩=>⟨c.kIn,Ld F d l n hx c r q⟩) v b) a)
structure Mk (K:W.Frag)(C f:Addr):Prop where
 makes:W.makesIn K C=true
 init:W.findIn K (.ref C) "__init__" = some (some (.ref f))
 fn:W.isFn K (.ref f)=true
 kp:W.keepIn K (.ref C)=true
def Le {Y:Yb}{Z: St}{H:Hp}{s:Shared}{Q:VK}{us:Yd}{d:Yr}(M:Mk X.K C f)(F:FnOk X.prog X.w X.K X.mg X.base CX k f fd ps sp)(j:Room (k+1) X.A)(l:y4 X.K fd ps ds)(n:TD dvs ds)
 (hx:X2 CX X E) (I:Inv X Y Z H s) (r:TD d us)
 (h:∀x b,H x=none->H b=none->b≠x->sp (.ref x::(d++dvs)) (upd (upd H b (.own x)) x (.ins C b [])) (λv q=>v=.non/\Q (.ref x) q) E):
 Yv X (call (.ref C) us) (EP X Y Z Q) X.xe s:=by
 have g:=h (s.heap.objs.size+1) s.heap.objs.size (I.hok.fresh (UT _)) (I.hok.fresh (Zf _)) (Zi (Nat.lt_succ_self _));have c:=Inv.made (C:=C) I;have i:TD (V.ref (s.heap.objs.size+1)::(d++dvs)) (Value.ref (s.heap.objs.size+1)::(us++ds)):=.cons rfl (r.append n);have w:(Value.ref (s.heap.objs.size+1)::us++ds).length=ps.length:=by
  have e:=i.length;rw[F.len _ _ _ _ g] at e;exact e.symm
 refine wpAny_call (IU I.kIn M.makes M.init (Yl.mp M.fn) (codeAny_mono (F.run _ X.stack _ _ ⟨Value.ref (s.heap.objs.size+1)::us,[]⟩ (Value.ref (s.heap.objs.size+1)::(us++ds)) _ _ E (j.make C us [])
  (c.env0.make C us []) (l _ (Value.ref (s.heap.objs.size+1)::us) c.kIn w) i g) λr s' a=>?_))
 cases r with
 |error e=>exact hx Y Z _ _ e s' c a
 |ok y =>
  cases y with
  |ret u =>
   obtain⟨v,z,A,B,G,J⟩:=c.after a;subst G;exact⟨B,⟨V.ref (s.heap.objs.size+1),z,A,rfl,J⟩⟩
  |next=>exact False.elim a
  |brk=>exact False.elim a
  |cont=>exact False.elim a
def BE (M:Mk X.K C f)(F:FnOk X.prog X.w X.K X.mg X.base CX k f fd ps sp)(d:Room (k+1) X.A)(g:Gl X x)(i:X.mg x=some (.ref C))(j:y4 X.K fd ps ds)(l:TD dvs ds)(hx:X2 CX X E)
 (n:PA X (e::es) t) (a:(x == ("__debug__" : Str))=false:=by decide) (u:starEach (e::es) X.env=(false,eval e X.env)::starEach es X.env:=by rfl) (b:(backTo pos (starEach es X.env)).any (·.1)=false:=by rfl):
 PE X (.Call (.Name x p) (e::es) [] pos) (v8 C sp dvs E t):=λY s Z H Q I h=>wpAny_Call_Name_kw (WQ I g i (W.callWith_K I.ok.mod.kin M.kp (TQ (n pos Y s Z H _ I h) λus v ⟨w,y,c,r,q⟩=>⟨c.kIn,Le M F d j l hx c r q⟩) u b) a)
end
structure FnScope (N P:Yh)(sc:Scope):Prop where
 kind:sc.kind=.function
 co:sc.isCoroutine=false
 gen:sc.isGenerator=false
 nd:N.Nodup
 pre:N.take P.length=P
 par:∀x∈P,sc.names.lookup x=some .local\/sc.names.lookup x=some .cell
 nofree:∀y∈sc.names,y.2 ≠ .free
theorem Eb {kindOf:Str->Option NameKind}{x:Str}:∀{binds:List (Str×Value)} {m:Yc},(∀v,(x,v)∉binds)->bindL kindOf binds m x=m x
 | [],_,_=>rfl
 | (n,v)::r,m,h=>by
  unfold bindL;rw[Eb ()]
  split
  .grind
  .rfl
theorem Ec {kindOf:Str->Option NameKind}{x:Str}:∀{binds:List (Str×Value)} {m:Yc},(∀v,(x,v)∉binds)->bindC kindOf binds m x=m x
 | [],_,_=>rfl
 | (n,v)::r,m,h=>by
  unfold bindC;rw[Ec ()]
  split
  .rfl
  grind
theorem Ed {kindOf:Str->Option NameKind}{x:Str}{v:Value}:∀{P:Yh} {a:Yd} {i:Nat} {m:Yc},P.Nodup->P[i]? = some x->a[i]? = some v->kindOf x=some .local ->
 bindL kindOf (P.zip a) m x=some v
 | [],_,_,_,_,h,_,_=>by simp at h
 |_::_,[],_,_,_,_,h,_=>by simp at h
 |p::P,w::a,0,m,nd,h1,h2,hk=>by
  simp at h1 h2;subst h1;subst h2;show bindL kindOf ((p,w)::P.zip a) m p=_;unfold bindL;rw[Eb λv b=>(Je.mp nd).1 (List.of_mem_zip b).1,Zd hk];simp
 |p::P,w::a,i+1,m,nd,h1,h2,hk=>by
  show bindL kindOf ((p,w)::P.zip a) m x=_;exact Ed () (by simpa using h1) (by simpa using h2) hk
theorem Ee {kindOf:Str->Option NameKind}{x:Str}{v:Value}:∀{P:Yh} {a:Yd} {i:Nat} {m:Yc},P.Nodup->P[i]? = some x->a[i]? = some v->kindOf x≠some .local ->
 bindC kindOf (P.zip a) m x=some v
 | [],_,_,_,_,h,_,_=>by simp at h
 |_::_,[],_,_,_,_,h,_=>by simp at h
 |p::P,w::a,0,m,nd,h1,h2,hk=>by
  simp at h1 h2;subst h1;subst h2;show bindC kindOf ((p,w)::P.zip a) m p=_;unfold bindC;rw[Ec λv b=>(Je.mp nd).1 (List.of_mem_zip b).1,Ze hk];simp
 |p::P,w::a,i+1,m,nd,h1,h2,hk=>by
  show bindC kindOf ((p,w)::P.zip a) m x=_;exact Ee () (by simpa using h1) (by simpa using h2) hk
def start (N:Yh)(a:Yr):St:=a.map some++List.replicate (N.length-a.length) none
def jt (CX:yY)(P:Program)(w:World)(K:W.Frag)(mg:Yc)(base:Heap)(N:Yh)(b:Str)(a:Scope)(f:Addr)(cd:Value)(A:Around)(outer:List Env)(s:Shared)(H:Hp)(E:XK):Cx where
 prog:=P
 w:=w
 K:=K
 mg:=mg
 base:=base
 A:=A.deeper (envOfC b a s.heap.objs.size f cd)
 N:=N
 s₀:=s
 H₀:=H
 env:=envOfC b a s.heap.objs.size f cd
 outer:=outer
 stack:=envOfC b a s.heap.objs.size f cd::outer
 ex:=[]
 calm:=true
 fn:=λ_=>true
 pn:=[]
 xe:=λe s'=>wpAny (model P w) (A.deeper (envOfC b a s.heap.objs.size f cd)) (leaving (envOfC b a s.heap.objs.size f cd) e) (λ_ c=>CX outer H s E e c) (λd c=>CX outer H s E d c) s'
def Ef {a:Scope}{n:Nat}{x:Str}(h:a.names.lookup x=some .cell):∃c,(cellsFrom n a.names []).lookup x=some c:=have q:=W.cellsFrom_some a.names n [] (.inl h);Jm.mp q
def Lf {CX:yY}{P:Program}{w:World}{K:W.Frag}{t:Yc}{j:Heap}{N ps:Yh}{g:Str}{a:Scope}{f:Addr}{cd:Value}{A:Around}{d:List Env}{s C:Shared}{H:Hp}{E:XK}{us:Yd}{m:Yr}
 (S:FnScope N ps a) (J:A.handled=none) (l:Env0 P w K t j A d s H) (Q:m.length=ps.length) (r:TD m us)
 (x:InCallC s s.heap.objs.size (bindL (envOfC g a s.heap.objs.size f cd).kindOf (ps.zip us) λ_=>none) (cellsFrom (s.heap.objs.size+1) a.names []) (bindC (envOfC g a s.heap.objs.size f cd).kindOf (ps.zip us) λ_=>none) C):
 Inv (jt CX P w K t j N g a f cd A d s H E) [] (start N m) H C:=by
 have L:ps.length<=N.length:=by have:=Zt List.length S.pre;grind
 obtain⟨B,tk,rfl,F⟩:=x.done;have n:∀b:Addr,b∉(jt CX P w K t j N g a f cd A d s H E).ex:=λb z=>Zn (show b∈([]:Yi) from z) ();refine⟨⟨l.mod,S.kind,rfl,rfl,Zf _,λy z c B G=>?_,λy hy=>?_,λy c _ h=>?_,λ_=>J,Around.frames_deeper l.frames,.inr ⟨rfl,rfl⟩,λb z=>Zn z (n b),l.bs,l.bsz,λb _ _=>n b,(),l.funs,l.frf⟩,
  rfl,l.bare,Un.kept F,⟨_,x.toInCall.ns,λi y v B G R=>?_⟩,λy c h=>⟨_,x.cell y c h⟩,l.hok.fresh (Zf _),λy c h=>?_,λp hp=>Zn (show p∈([]:Yb) from hp) (),l.hok.kept F,?_⟩
 .exact name_of_addr x.apart (PySem.mem_of_lookup B) (PySem.mem_of_lookup G)
 .have hy:=hy;rcases hy with hy|hy
  .exact Ef hy
  .exact Zn rfl (S.nofree _ (PySem.mem_of_lookup hy))
 .exact Zz (x.above y c (PySem.mem_of_lookup h))
 .have T:i<m.length:=by
   grind[start,List.getElem?_replicate]
  have M:m[i]? = some v:=by
   grind[start,List.getElem?_map]
  have ⟨u,I,O⟩:=r.get M;have hp:ps[i]? = some y:=by
   rwa [<- S.pre,Vs ()]
  have o:ps.Nodup:=by rw[<- S.pre];exact S.nd.sublist (List.take_sublist _ _)
  refine⟨u,O,?_⟩;rcases S.par y (Uh hp) with k|k
  .exact .inl ⟨k,Ed o hp I k⟩
  .obtain⟨c,e⟩:=Ef k;refine .inr ⟨.inl k,c,e,?_⟩;have q:=x.cell y c e
   rwa [Ee o hp I (by show a.names.lookup y≠_;simp_all)] at q
 .exact l.hok.fresh (Zz (x.above y c (PySem.mem_of_lookup h)))
 .unfold start;show _=N.length
  simp_all
def Eg {CX:yY}{P:Program}{w:World}{K:W.Frag}{O:Yc}{h:Heap}{k:Nat}{f:Addr}{m d:Str}{i:Arguments}{j:List Stmt}{a:Scope}{Z kV F pm g ct oc:Value}{an od:Option Addr}
 {T:Array Ye} {N ps:Yh} {sp:Sp} (lk:K.lookup f=some ⟨oc,od,.func (W.fnOf m d i j a Z kV F pm an g ct),T⟩) (U:W.codeIn K g d=true) (S:FnScope N ps a)
 (len:∀l H Q E,sp l H Q E->l.length=ps.length)
 (z:∀A c s H l Q E,Room k (A.deeper (envOfC d a s.heap.objs.size f g))->sp l H Q E ->
  ∃t,qx (jt CX P w K O h N d a f g A c s H E) j t/\t { nx:=λ_ p=>Q .non p,rt:=Q } (start N l) H):
 FnOk P w K O h CX (k+1) f (W.fnOf m d i j a Z kV F pm an g ct) ps sp:=by
 refine⟨len,λA c s H args us l Q E X G hb r L=>?_⟩;have KX:=G.mod.kin.keeps λb o e=>(G.bs b o e).1;have B:∀y∈ps.zip us,a.names.lookup y.1=some .local\/(a.names.lookup y.1=some .cell/\((cellsFrom (s.heap.objs.size+1) a.names []).lookup y.1).isSome=true):=λ⟨n,v⟩ hy=>by
  rcases S.par n (List.of_mem_zip hy).1 with q|q
  .exact .inl q
  .exact .inr ⟨q,W.cellsFrom_some _ _ _ (.inl q)⟩
 refine codeAny_call_function X.depth (KX _ _ lk) rfl S.co S.gen rfl (W.codeRec_of KX U) (hb _ _ _ _ (wpAny_newFunctionEnv_cells S.kind B λenv he s1 x=>?_));subst he;refine⟨(G.mod.nolimit.keeps λb o e=>(G.bs b o e).1).keeps x.toInCall.keep,codeAny_func ?_⟩;obtain⟨t,ht,hq⟩:=z A c s H l Q E (X.deeper _) L;have I:Inv (jt CX P w K O h N d a f g A c s H E) [] (start N l) H s1:=Lf S X.hd G (len _ _ _ _ L) r x;refine Zc (ht [] s1 (start N l) H _ I hq) (λfl s' C=>?_) λe s' C=>C;have M:∀{R:St} {p:Hp} {v:V} {u:Value},Inv (jt CX P w K O h N d a f g A c s H E) [] R p s'->TC v u->Q v p->CE c P w H s Q u s':=
  λ{R p v u} J Y q=>⟨v,p,J.os,J.bare,J.base,J.hok,Y,q⟩
 cases fl with
 |ret u =>
  obtain⟨v,R,p,J,Y,q⟩:=C;exact M J Y q
 |next =>
  obtain⟨R,p,J,q⟩:=C;exact M (v:=V.non) J rfl q
 |brk =>
  obtain⟨_,_,_,q⟩:=C;exact False.elim q
 |cont =>
  obtain⟨_,_,_,q⟩:=C;exact False.elim q
section
variable {X:Cx}{x:Str}{p pos:Pos}{e:Expr}{es:Yj}{t:TA}{id T:String}{r:Yr->Hp->VK->Prop}
def f9 (r:Yr->Hp->VK->Prop)(t:TA):TE:=λZ H Q=>t Z H λa b=>r a b Q
def Eh (c:jH X (.builtin id) r)(d:Gl X x)(f:X.mg x=none)(g:bootBuiltins x=some (.builtin id))(i:PA X (e::es) t)(j:x ≠ "__name__" := by decide)(a:(x == ("__debug__" : Str))=false:=by decide)
 (l:starEach (e::es) X.env=(false,eval e X.env)::starEach es X.env:=by rfl) (b:(backTo pos (starEach es X.env)).any (·.1)=false:=by rfl):PE X (.Call (.Name x p) (e::es) [] pos) (f9 r t):=λY s Z H Q I h=>wpAny_Call_Name_kw (WR I d f g (PyProof.Rows.callWith_builtin1 (TQ (i pos Y s Z H _ I h) λus m ⟨n,o,q,u,v⟩=>c Y m Z o n us Q q u v) l b) j a)
def BF (c:jH X (.type T) r)(d:Gl X x)(f:X.mg x=none)(g:bootBuiltins x=some (.type T))(i:PA X (e::es) t)(j:x ≠ "__name__" := by decide)(a:(x == ("__debug__" : Str))=false:=by decide)
 (l:starEach (e::es) X.env=(false,eval e X.env)::starEach es X.env:=by rfl) (b:(backTo pos (starEach es X.env)).any (·.1)=false:=by rfl):PE X (.Call (.Name x p) (e::es) [] pos) (f9 r t):=λY s Z H Q I h=>wpAny_Call_Name_kw (WR I d f g (PyProof.Rows.callWith_type1 (TQ (i pos Y s Z H _ I h) λus m ⟨n,o,q,u,v⟩=>c Y m Z o n us Q q u v) l b) j a)
end
end L2
namespace HT
open PySem PyProof.Rows
section
open PySem.SeqAt
open PySem.AutoSeq1 (wpAny_loadPart')
open PySem.MeetsSeq PySem.MeetsSeq2 PySem.MeetsSeq3
end
section
variable {prog:Program}{w:World}{A:Around}{E:Ya}{s:Shared}
def cat_tup {t b:Addr}{c ws:Yd}{Q:Ya}(o:IsTup s.heap t c.toArray)(p:IsTup s.heap b ws.toArray)(q:c ≠ [])
 (r:ws=[]->Q (.ref t) s) (u:ws ≠ []->Q (.ref s.heap.objs.size) { s with heap:=s.heap.push { cls:=.type "tuple",data:=.seq (c++ws).toArray } })
 (hsz:c.length+ws.length<=sizeLine):Yw prog w A (binaryOp .Add (.ref t) (.ref b)) Q E s:=by
 obtain⟨⟨cls,dd,data,j⟩,g,v,n,x⟩:=id o;obtain⟨⟨l,d,data2,f⟩,a,h,m,i⟩:=id p;subst v x h i;have e:c.toArray++ws.toArray=(c++ws).toArray:=by simp
 by_cases hw:ws=[]
 .exact concat_meets ⟨_,g,rfl⟩ ⟨_,a,rfl⟩ noFill_tuple_add seq_tuple_add PySem.F.slot_tuple_add PySem.F.entry_tuple_add (PySem.F.args_tuple_add_2 _ _)
   (tuple_addW1 t b c.toArray ws.toArray n m dd d j f () (by simp[hw])) ⟨g,a,r hw⟩
 .refine concat_meets ⟨_,g,rfl⟩ ⟨_,a,rfl⟩ noFill_tuple_add seq_tuple_add PySem.F.slot_tuple_add PySem.F.entry_tuple_add (PySem.F.args_tuple_add_2 _ _)
   (tuple_addW2 t b c.toArray ws.toArray n m dd d j f (by simpa using q) (by simpa using hw) ()) ⟨g,a,?_⟩
  rw[e];exact u hw
end
end HT
namespace L2
abbrev TO:=St->Hp->(Option Int->Hp->Prop)->Prop
def PO (X:Cx)(e:Option Expr)(t:TO):Prop:=
 ∀(Y:Yb) (s:Shared) (Z: St) (H:Hp) (Q:Option Int->Hp->Prop),Inv X Y Z H s->t Z H Q ->
  Yv X (evalPart e X.env) (λu s'=>∃o a,Inv X Y Z a s'/\IsPart u o/\Q o a) X.xe s
def Lg:TO:=λ_ H Q=>Q none H
def v5 (t:TE):TO:=λZ H Q=>t Z H λx a=>∃i,x=.int i/\Q (some i) a
def Lh {a:Yf}:∀{us:Yd},TD (a.map V.int) us->IntsAre us a:=by
 induction a with
 |nil=>intro us r;cases r;exact .nil
 |cons n a b =>
  intro us r;cases r with
  |cons c d =>
   obtain⟨t,e⟩:=c;subst e;exact .cons n t (b d)
section
variable {X:Cx}{e:Expr}{te:TE}{lo hi:Option Expr}{tl th:TO}{pos p2:Pos}
def Li:PO X none Lg:=λY s Z H Q I h=>Zb ⟨none,H,I,.none,h⟩
def Lj (h:PE X e te):PO X (some e) (v5 te):=by
 intro Y s Z H Q I hw;refine TQ (h Y s Z H _ I hw) λu f ⟨x,a,b,c,d⟩=>?_;obtain⟨i,rfl,q⟩:=d;obtain⟨t,rfl⟩:=c;exact⟨some i,a,b,.int i t,q⟩
def vX (K:W.Frag):R2:=λx y H Q=>∃a b xs c,x=.ref a/\y=.ref b/\qX K H a xs/\qX K H b c/\xs ≠ []/\xs.length+c.length<=sizeLine /\
 (c=[]->Q (.ref a) H)/\(c ≠ []->∀p,H p=none->Q (.ref p) (upd H p (.tup (xs++c))))
def TD.nil_iff {xs:Yr}{us:Yd}(r:TD xs us):us=[]↔xs=[]:=by
 cases r with
 |nil=>simp
 |cons _ _=>simp
def Ei:jE X (binaryOp .Add) (vX X.K):=by
 intro Y s Z H x y v u Q I g i h;obtain⟨a,b,xs,r,rfl,rfl,j,l,hx,t,m,n⟩:=h;cases g;cases i;obtain⟨o,d,p,_⟩:=I.tuple j;obtain⟨f,c,p2,_⟩:=I.tuple l;refine HT.cat_tup p p2 (λz=>hx (d.nil_iff.mp z)) (λz=>⟨.ref a,H,I,rfl,m (c.nil_iff.mp z)⟩) (λz=>⟨.ref s.heap.objs.size,_,I.laid (λb A q=>Zq _ q) (Zf _) ?_,rfl,n (λw=>z (c.nil_iff.mpr w)) _ (I.hok.fresh (Zf _))⟩) (by rwa [<- d.length,<- c.length]);exact⟨⟨(),⟨_,Zr _ rfl,rfl⟩⟩,_,d.append c,IsTup.new _ _⟩
end
def yn (n:Nat)(i:Int):Option Nat:=if 0<=i then(if i<n then some i.toNat else none) else if -(n:Int)<=i then some (i+n).toNat else none
def j0 {α: Type}(xs:List α)(i:Int):Option α:= (yn xs.length i).bind λj=>xs[j]?
def Ej {n:Nat}{i:Int}{j:Nat}(h:yn n i=some j):seqIndex? i n=some j/\j<n /\ -(n:Int)<=i/\i<n:=by
 grind[yn,Zqi,seqIndex_of,seqIndex_neg]
def BG {α: Type}{xs:List α}{i:Int}{v:α}(h:j0 xs i=some v):∃j,seqIndex? i xs.length=some j/\xs[j]? = some v/\j<xs.length /\ -(xs.length:Int)<=i/\i<xs.length:=by
 unfold j0 at h;cases e:yn xs.length i with
 |none=>simp_all
 |some j =>
  rw[e] at h;obtain⟨a,b,c,d⟩:=Ej e;exact⟨j,a,h,b,c,d⟩
def BH (b:Expr):Prop:=∀o i,subscripted b false o i=operate [o,i] (getItem o i)
def yA (X:Cx)(r:R2):Prop:=
 ∀(b a:Expr) (Y:Yb) (s:Shared) (Z: St) (H:Hp) (x y:V) (v u:Value) (Q:VK),Inv X Y Z H s->TC x v->TC y u->r x y H Q ->
  subscripted a false v u=operate [v,u] (getItem v u)->Yv X (subscriptTail b a v u) (EP X Y Z Q) X.xe s
def vk (X:Cx)(id:String)(r:V->Yr->Hp->VK->Prop):Prop:=
 ∀(Y:Yb) (s:Shared) (Z: St) (H:Hp) (x:V) (xs:Yr) (v:Value) (us:Yd) (Q:VK),Inv X Y Z H s->TC x v->TD xs us->r x xs H Q ->
  Yv X (call (.builtin id) (v::us)) (EP X Y Z Q) X.xe s
section
variable {X:Cx}{a b:Expr}{ta tb:TE}{pos:Pos}
def yA.or {r e:R2}(h:yA X r)(h':yA X e):yA X (λx y H Q=>r x y H Q\/e x y H Q):=by
 intro c d Y s Z H x y v u Q I f g q i;rcases q with q|q
 .exact h c d Y s Z H x y v u Q I f g q i
 .exact h' c d Y s Z H x y v u Q I f g q i
def Ek {r:R2}(c:yA X r)(d:PE X a ta)(e:PE X b tb)(f:BH b):PE X (.Subscript a b pos) (wj r ta tb):=λY s Z H Q I h=>Subscript_ (wI d e I h λv u g x y i j l m q=>c a b Y g Z i x y v u Q j l m q (f _ _))
def vU (K:W.Frag):R2:=λx y H Q=>∃p xs i v,x=.ref p/\y=.int i/\jL K H p xs/\j0 xs i=some v/\Q v H
def vS (K:W.Frag):R2:=λx y H Q=>∃p xs i v,x=.ref p/\y=.int i/\qX K H p xs/\j0 xs i=some v/\Q v H
def vT:R2:=λx y H Q=>∃z i c,x=.str z/\y=.int i/\z.length<=sizeLine/\j0 z.cps.toList i=some c/\Q (.str ⟨#[c]⟩) H
def mY:yA X (vU X.K):=by
 intro d e Y s Z H x y v u Q I B C h m;obtain⟨p,xs,i,z,rfl,rfl,E,F,q⟩:=h;cases B;obtain⟨t,rfl⟩:=C;obtain⟨f,r,pl,L⟩:=I.list E;obtain⟨j,n,G,M,J,K⟩:=BG F;obtain⟨w,o,g⟩:=r.get G;have N:=r.length;have O:=X1;have c:EP X Y Z Q w s:=⟨z,H,I,g,q⟩;by_cases A:0<=i
 .have l:i.toNat=j:=by
   rw[seqIndex_of A K] at n
   simp_all
  exact item_listR pl.isList A () (by rw[l];simpa using o) c m
 .have l:(i+(f.toArray.size:Int)).toNat=j:=by
   rw[seqIndex_neg () J] at n
   simp_all
  exact subscriptTail_builtinR pl.isList.typeIs slot_list_getitem.lookup
   (wpAny_getItem_list_neg pl.isList () () () (by rw[l];simpa using o) ⟨rfl,c⟩) m
def nN:yA X (vS X.K):=by
 intro c d Y s Z H x y v u Q I g l h m;obtain⟨p,xs,i,z,rfl,rfl,n,o,q⟩:=h;cases g;obtain⟨t,rfl⟩:=l;obtain⟨A,r,pl,E⟩:=I.tuple n;obtain⟨j,F,B,G,J,K⟩:=BG o;obtain⟨w,C,e⟩:=r.get B;have L:=r.length;have M:=X1;have f:EP X Y Z Q w s:=⟨z,H,I,e,q⟩;exact subscriptTail_builtinR pl.typeIs slot_tuple_getitem.lookup
  (getItem_tuple (j:=j) pl () () () (by simpa using C) ⟨rfl,f⟩) m
def Lk:yA X vT:=by
 intro d e Y s Z H x y v u Q I g l h m;obtain⟨z,i,c,rfl,rfl,A,n,q⟩:=h;obtain⟨t,rfl⟩:=g;obtain⟨t',rfl⟩:=l;obtain⟨j,f,o,B,p,r⟩:=BG n;have w:z.cps.toList.length=z.length:=by rfl
 rw[w] at f p r;have C:=X1;exact tail_any (typeIs_str s z t) slot_str_getitem.lookup (getItem_str (by
  grind) (by rw[f];simpa using o) ⟨.str ⟨#[c]⟩,H,I.tok _,⟨_,rfl⟩,q⟩) m
def nY (K:W.Frag):R2:=λx y H Q=>vU K x y H Q\/vS K x y H Q\/vT x y H Q
def Ll:yA X (nY X.K):=mY.or (nN.or Lk)
def Lm (c:Yd)(n j)(u):Obj.mapSeq (·.setIfInBounds j u) { cls:=.type "list",data:=.seq c.toArray n }={ cls:=.type "list",data:=.seq (c.set j u).toArray n }:=by
 simp[Obj.mapSeq]
theorem Inv.lst {Y:Yb}{Z: St}{H:Hp}{s:Shared}{p:Addr}{xs:Yr}(I:Inv X Y Z H s)(h:H p=some (.lst xs)):
 ∃(c:Yd) (n:Nat),TD xs c/\s.heap.get? p=some { cls:=.type "list",data:=.seq c.toArray n }/\xs.length<=sizeLine:=have ⟨z,c,n,r,e⟩:=I.hok p _ h;⟨c,n,r,e,z⟩
def Inv.lstUpd {Y:Yb}{Z: St}{H:Hp}{s:Shared}{p:Addr}{xs g:Yr}{d c:Yd}{n i:Nat}{f:Obj->Obj}(I:Inv X Y Z H s)(h:H p=some (.lst xs))
 (l:s.heap.get? p=some { cls:=.type "list",data:=.seq d.toArray n }) (j:f { cls:=.type "list",data:=.seq d.toArray n }={ cls:=.type "list",data:=.seq c.toArray i }) (r:TD g c) (m:g.length<=sizeLine) (t):
 Inv X Y Z (upd H p (.lst g)) { s with heap:=s.heap.update p f,toks:=t }:=by
 have e:(s.heap.update p f).get? p=some { cls:=.type "list",data:=.seq c.toArray i }:=by
  rw[Heap.get?_update_self f l (by rw[j]<;>rfl),j]
 exact I.write (by rw[h];trivial) (.inl rfl) (λb u o q=>(Heap.get?_update_other _ _ (Ne.symm o)).trans q) ⟨_,e⟩ ⟨m,c,i,r,e⟩
def vR:V->V->V->Hp->(Hp->Prop)->Prop:=λo i v H Q=>∃p xs k j,o=.ref p/\i=.int k/\H p=some (.lst xs)/\yn xs.length k=some j/\Q (upd H p (.lst (xs.set j v)))
def Ln:gX X vR:=by
 intro Y s Z H o i v m w u Q I d e f h;obtain⟨p,xs,k,j,rfl,rfl,hp,g,q⟩:=h;cases d;obtain⟨t,rfl⟩:=e;obtain⟨c,n,r,l,x⟩:=I.lst hp;obtain⟨y,z,A,B⟩:=Ej g;have C:=r.length;have E:=X1;have F:=
  I.lstUpd hp l (Lm c n j u) (r.set f j) () s.toks
 grind[seqIndex_of,Zqi,W.ki_setAt,seqIndex_neg,W.ki_setBack]
def Lo:jH X (.builtin "len") (λxs H Q=>∃p c,xs=[.ref p]/\(jL X.K H p c\/qX X.K H p c)/\Q (.int c.length) H):=by
 intro Y s Z H xs us Q I r h;obtain⟨p,c,rfl,hq,q⟩:=h;obtain⟨u,rfl,g⟩:=Ku r;cases g;have j:=X1;rcases hq with hq|hq
 .obtain⟨e,f,pl,i⟩:=I.list hq;have d:=f.length;exact Calls.call_len_list pl.isList () ⟨.int c.length,H,I.tok _,⟨s.toks+1,()⟩,q⟩
 .obtain⟨e,f,pl,i⟩:=I.tuple hq;have d:=f.length;exact len_tuple pl () ⟨.int c.length,H,I.tok _,⟨s.toks+1,()⟩,q⟩
def Lp:jH X (.builtin "len") (λxs H Q=>∃z,xs=[.str z]/\z.length<=sizeLine/\Q (.int z.length) H):=by
 intro Y s Z H xs us Q I r h;obtain⟨z,rfl,c,q⟩:=h;obtain⟨u,rfl,t,rfl⟩:=Ku r;have d:=X1;exact len_str () ⟨.int z.length,H,I.tok _,⟨_,rfl⟩,q⟩
def jH.or {f:Value}{r c:Yr->Hp->VK->Prop}(h:jH X f r)(h':jH X f c):jH X f (λxs H Q=>r xs H Q\/c xs H Q):=by
 intro Y s Z H xs us Q I rs q;rcases q with q|q
 .exact h Y s Z H xs us Q I rs q
 .exact h' Y s Z H xs us Q I rs q
def Lq:jH X (.type "list") (λxs H Q=>∃p d,xs=[.ref p]/\(jL X.K H p d\/qX X.K H p d)/\∀l,H l=none->Q (.ref l) (upd H l (.lst d))):=by
 intro Y s Z H xs us Q I r h;obtain⟨p,d,rfl,hq,q⟩:=h;obtain⟨u,rfl,z⟩:=Ku r;cases z;have i:∀c,TD d c->d.length<=sizeLine->∀h' f,(∀b y,s.heap.get? b=some y->h'.get? b=some y) ->
  h'.get? s.heap.objs.size=some { cls:=.type "list",dict:=none,data:=.seq c.toArray f,slots:=#[] }->EP X Y Z Q (.ref s.heap.objs.size) { s with heap:=h' }:=λc g j h' f m e =>
  ⟨.ref s.heap.objs.size,_,I.laid m (Zf _) (show xj X.prog X.w _ h' _ (.lst d) from ⟨j,c,f,g,e⟩),rfl,q _ (I.hok.fresh (Zf _))⟩
 rcases hq with hq|hq
 .obtain⟨c,g,pl,j⟩:=I.list hq;have t:=g.length;obtain⟨o,v,w,n,x⟩:=pl.isList;exact call_list_seq p (.inl rfl) v w x (λh' f m e=>i c g j h' f m e) (by simp<;>lia)
 .obtain⟨c,g,pl,j⟩:=I.tuple hq;have t:=g.length;obtain⟨o,v,w,n,x⟩:=pl;exact call_list_seq p (.inr rfl) v w x (λh' f m e=>i c g j h' f m e) (by simp<;>lia)
def Lr:jH X (.type "tuple") (λxs H Q=>∃p d,xs=[.ref p]/\((jL X.K H p d/\∀l,H l=none->Q (.ref l) (upd H l (.tup d)))\/(qX X.K H p d/\Q (.ref p) H))):=by
 intro Y s Z H xs us Q I r h;obtain⟨p,d,rfl,h⟩:=h;obtain⟨u,rfl,n⟩:=Ku r;cases n;rcases h with ⟨f,q⟩|⟨f,q⟩
 .obtain⟨c,g,pl,i⟩:=I.list f;have j:=g.length;refine call_tuple_list pl.isList (λh' t=>?_) ();have m:Inv X Y Z H { s with heap:=h' }:=I.kept t;have v:Inv X Y Z (upd H h'.objs.size (.tup d)) { s with heap:=h'.push { cls:=.type "tuple",data:=.seq c.toArray } } :=
   m.laid (λb o e=>Zq _ e) (Zf _) (⟨⟨i,⟨_,Zr _ rfl,rfl⟩⟩,c,g,IsTup.new _ _⟩)
  exact⟨.ref h'.objs.size,_,v,rfl,q _ (m.hok.fresh (Zf _))⟩
 .obtain⟨c,g,pl,i⟩:=I.tuple f;exact call_tuple_same pl ⟨.ref p,H,I,rfl,q⟩
def b7 (K:W.Frag)(T:String)(x:V)(H:Hp):Prop:=match x with
 | .str _=>T = "str"
 | .int _=>T = "int"
 | .ref p=>(T = "list" /\ ∃xs,jL K H p xs)\/(T = "tuple" /\ ∃o,K.lookup p=some o/\o.cls=.type "tuple" /\ o.dict=none) \/
  (T = "dict" /\ ((∃c,H p=some (.dK c))\/∃c,H p=some (.dT c)))\/(T = "set" /\ ∃S n,H p=some (.set S n))
 |_=>False
def El {Y:Yb}{Z: St}{H:Hp}{s:Shared}{T:String}{x:V}{v:Value}(I:Inv X Y Z H s)(r:TC x v)(g:b7 X.K T x H):
 s.TypeIs v T/\∀a,v=.ref a->∃m,s.heap.get? a=some m/\m.dict=none:=by
 cases x with
 |str z =>
  obtain⟨t,rfl⟩:=r;cases (g);exact⟨typeIs_str s z t,λ_ e=>nomatch e⟩
 |int i =>
  obtain⟨t,rfl⟩:=r;cases (g);exact⟨typeIs_int s i t,λ_ e=>nomatch e⟩
 |ref p =>
  cases r;rcases g with ⟨rfl,xs,q⟩|⟨rfl,o,d,u,h⟩|⟨rfl,d⟩|⟨rfl,S,n,d⟩
  .obtain⟨w,_,pl,_⟩:=I.list q;refine⟨pl.isList.typeIs,λa e=>?_⟩;cases e;obtain⟨o,n,e,c,h,_⟩:=pl;exact⟨o,e,h⟩
  .refine⟨⟨o,I.kIn p o d,u⟩,λa e=>?_⟩;cases e;exact⟨o,I.kIn _ o d,h⟩
  .have z:∃o,s.heap.get? p=some o/\o.ExactDict:=by
    rcases d with ⟨j,d⟩|⟨j,d⟩
    .obtain⟨_,_,_,_,o,_,_,e,f,_⟩:=I.hok p _ d;exact⟨o,e,f⟩
    .obtain⟨_,_,_,_,o,_,_,e,f,_⟩:=I.hok p _ d;exact⟨o,e,f⟩
   obtain⟨o,e,f⟩:=z;refine⟨⟨o,e,f.1⟩,λa l=>?_⟩;cases l;exact⟨o,e,f.2.1⟩
  .obtain⟨o,_,_,_,e,f,_⟩:=I.hok p _ d;refine⟨⟨o,e,f.1⟩,λa l=>?_⟩;cases l;exact⟨o,e,f.2.1⟩
 |_=>exact False.elim g
def vG (K:W.Frag)(T:String)(r:V->Yr->Hp->VK->Prop)(d:TE):TE:=λZ H Q=>d Z H λx c=>b7 K T x c/\r x [] c Q
def wx (K:W.Frag)(T:String)(r:V->Yr->Hp->VK->Prop)(d:TE)(t:TA):TE:=λZ H Q=>d Z H λx c=>b7 K T x c/\t Z c λxs e=>r x xs e Q
variable {o e:Expr}{es:Yj}{to:TE}{t:TA}{name:Str}{apos cpos:Pos}{T id:String}{r:V->Yr->Hp->VK->Prop}
def Ls (l:PlainAttrs T)(f:Slot T name id)(g:typeOf (.builtin id)=pure (.type "method_descriptor"))(m:vk X id r)(n:PE X o to)
 (c:attributeBase o name X.env (eval o X.env)=eval o X.env:=by rfl) (d:(apos.endLine == cpos.line)=true:=by rfl):PE X (.Call (.Attribute o name apos) [] [] cpos) (vG X.K T r to):=by
 intro Y s Z H Q I h;refine wpAny_Call_method0_late c d (TQ (n Y s Z H _ I h) λv p ⟨x,q,i,j,u,w⟩=>?_);obtain⟨y,z⟩:=El i j u;exact⟨T,id,l,f,g,y,z,Calls.callWith_builtin rfl (PySem.evalArgs_none (m Y p Z q x [] v [] Q i j .nil w))⟩
def Q4 (p:PlainAttrs T)(g:Slot T name id)(j:typeOf (.builtin id)=pure (.type "method_descriptor"))(q:vk X id r)(u:PE X o to)(w:PA X (e::es) t)
 (d:attributeBase o name X.env (eval o X.env)=eval o X.env:=by rfl)
 (i:((backTo cpos (starEach (e::es) X.env)).all (λx => !x.1)&&(backToKw cpos (keywordEach [] X.env)).all (λx=>x.1.isSome)
  && decide ((e::es).length+([]:List Keyword).length+(if([]:List Keyword).isEmpty then 0 else 1)<30))=true:=by rfl)
 (f:(apos.endLine == cpos.line)=true:=by rfl) (y:starEach (e::es) X.env=(false,eval e X.env)::starEach es X.env:=by rfl) (c:(backTo cpos (starEach es X.env)).any (·.1)=false:=by rfl):
 PE X (.Call (.Attribute o name apos) (e::es) [] cpos) (wx X.K T r to t):=by
 intro Y s Z H Q I h;refine wpAny_Call_method_late d i f rfl (TQ (u Y s Z H _ I h) λv z ⟨x,A,l,m,B,C⟩=>?_);obtain⟨E,F⟩:=El l m B;refine⟨T,id,p,g,j,E,F,?_⟩;have n:=w cpos Y z Z A _ l C;rw[y] at n ⊢;exact Calls.callWith_builtin (by show(false||(backTo cpos (starEach es X.env)).any (·.1))=false;rw[c]<;>rfl) (Calls.evalArgs_plain (TQ n λus G ⟨J,K,L,M,N⟩=>q Y G Z K x J v us Q L m M N))
end
def mQ (X:Cx)(id:String)(r:V->Yr->Hp->VK->Prop):Prop:=
 ∀(Y:Yb) (s:Shared) (Z: St) (H:Hp) (x:V) (xs:Yr) (v:Value) (us:Yd) (Q:VK),Inv X Y Z H s->TC x v->TD xs us->r x xs H Q ->
  Yv X (call (.builtin id) (v::us)) (EP X Y Z Q) X.xe s
def TD.one:∀{x:V} {us:Yd},TD [x] us->∃u,us=[u]/\TC x u:=λh=>by
 cases h with
 |cons r t=>cases t;exact⟨_,rfl,r⟩
def TD.two:∀{x y:V} {us:Yd},TD [x,y] us->∃u v,us=[u,v]/\TC x u/\TC y v:=λh=>by
 cases h with
 |cons r t =>
  cases t with
  |cons a t=>cases t;exact⟨_,_,rfl,r,a⟩
def yR:∀{us:Yd},TD [] us->us=[]
 |_,.nil=>rfl
section
variable {X:Cx}{Y:Yb}{Z: St}{H:Hp}{s:Shared}{l b:Addr}{xs ys zs:Yr}
def Inv.lset {c a:Yd}{n:Nat}{f:Yk->Array Value}{t':Nat}(I:Inv X Y Z H s)(d:H l=some (.lst xs))
 (e:s.heap.get? l=some { cls:=.type "list",data:=.seq c.toArray n }) (g:f c.toArray=a.toArray) (h:TD ys a) (i:ys.length<=sizeLine):
 Inv X Y Z (upd H l (.lst ys)) { s with heap:=s.heap.update l (Obj.mapSeq f),toks:=t' }:=by
 have q:=PySem.IsL.update e f;rw[g] at q;exact I.write (by rw[d];exact trivial) (.inl rfl) (λo u j m=>(Heap.get?_update_other s.heap (Obj.mapSeq f) (Ne.symm j)).trans m) ⟨_,q⟩ ⟨i,a,_,h,q⟩
def Inv.lnew {a:Yd}{t':Nat}(I:Inv X Y Z H s)(c:TD ys a)(d:ys.length<=sizeLine):
 Inv X Y Z (upd H s.heap.objs.size (.lst ys)) { s with heap:=s.heap.push { cls:=.type "list",data:=.seq a.toArray },toks:=t' } :=
 I.laid (λ_ _ q=>Zq _ q) (Zf _) ⟨d,a,0,c,Zr _ rfl⟩
theorem Inv.fresh (I:Inv X Y Z H s):H s.heap.objs.size=none:=I.hok.fresh (Zf _)
def Inv.lstM (I:Inv X Y Z H s)(c:H l=some (.lst xs)):xs.length<=sizeLine/\∃(a:Yd) (n:Nat),TD xs a/\xs.length=a.length/\s.heap.get? l=some { cls:=.type "list",data:=.seq a.toArray n }:=have ⟨z,a,n,r,e⟩:=I.hok l _ c;⟨z,a,n,r,r.length,e⟩
def Lu {n:Nat}(h:n<=sizeLine):Builtin.List.listTooLong n=false:=by
 simp_all [Builtin.List.listTooLong]
end
section
variable {X:Cx}
def BI:V->Yr->Hp->VK->Prop:=λx a H Q=>∃l xs y,x=.ref l/\a=[y]/\H l=some (.lst xs)/\xs.length<sizeLine/\Q .non (upd H l (.lst (xs++[y])))
def VC:mQ X "list.append" BI:=by
 intro Y s Z H x g v us Q I c d h;obtain⟨l,xs,y,rfl,rfl,b,i,q⟩:=h;cases c;obtain⟨u,rfl,f⟩:=d.one;obtain⟨z,a,n,r,j,e⟩:=I.lstM b;refine call_meets F.slot_list_append ⟨_,e,rfl⟩ F.entry_list_append (F.args_list_append_2 _ _) (PySem.list_append l a.toArray n u ()) ⟨e,⟨.non,_,I.lset b e () (r.append (.cons f .nil)) ?_,rfl,q⟩⟩
 grind
def Em:V->Yr->Hp->VK->Prop:=λx c H Q=>∃l b xs a,x=.ref l/\c=[.ref b]/\H l=some (.lst xs)/\H b=some (.lst a)/\xs.length+a.length<=sizeLine/\Q .non (upd H l (.lst (xs++a)))
def Lv:mQ X "list.extend" Em:=by
 intro Y s Z H x y v us Q I g i h;obtain⟨l,b,xs,A,rfl,rfl,f,j,B,q⟩:=h;cases g;obtain⟨u,rfl,m⟩:=i.one;cases m;obtain⟨z,c,n,r,C,e⟩:=I.lstM f;obtain⟨E,a,o,p,t,w⟩:=I.lstM j;have hsz:c.toArray.size+a.toArray.size<=sizeLine:=by simp_all
 have d:¬(!c.toArray.isEmpty&&Builtin.List.listTooLong (c.toArray.size+a.toArray.size))=true:=by
  rw[Lu hsz,U3];exact Zj
 refine call_meets F.slot_list_extend ⟨_,e,rfl⟩ F.entry_list_extend (F.args_list_extend_2 _ _)
  (AutoSeq1.list_extend_list_list_0 l c.toArray n b a.toArray o d () ()) ⟨e,w,⟨.non,_,I.lset f e () (r.append p) ?_,rfl,q⟩⟩
 simp_all
end
section
variable {prog:Program}{w:World}{A:Around}{E:Ya}{s:Shared}
set_option maxRecDepth 100000 in
end
section
variable {κ: Type}[DecidableEq κ]
def j3 (a:List (κ × V))(k:κ):Ys:=(a.find? λb=>decide (b.1=k)).map (·.2)
def q9 (a:List (κ × V))(k:κ)(v:V):List (κ × V):=
 if(a.any λb=>decide (b.1=k))=true then a.map (λb=>if b.1=k then(b.1,v) else b) else a++[(k,v)]
def BJ {p:κ × V}{r:List (κ × V)}{k:κ}(e:p.1=k):j3 (p::r) k=some p.2:=by simp[j3,e]
theorem BK {p:κ × V}{r:List (κ × V)}{k:κ}(e:¬p.1=k):j3 (p::r) k=j3 r k:=by simp[j3,e]
theorem En (k):∀a:List (κ × V),(a.any λb=>decide (b.1=k))=(j3 a k).isSome
 | []=>rfl
 |p::r=>by
  rw[List.any_cons];by_cases e:p.1=k
  .simp[BJ e,Zp e]
  .rw[BK e,Zo e,Bool.false_or];exact En k r
def BL (a:List (κ × V))(k)(v):(q9 a k v).length<=a.length+1:=by
 grind[q9,Zql,List.length_append,List.length_cons,List.length_nil]
def qK.isSome_eq {o:Ys}{u:Ye}(r:qK o u):o.isSome=u.isSome:=by
 cases o with
 |none=>cases u with
  |none=>rfl
  |some _=>exact(r).elim
 |some _=>cases u with
  |none=>exact(r).elim
  |some _=>rfl
theorem qK.getD {o:Ys}{u:Ye}{d:V}{d':Value}(r:qK o u)(a:TC d d'):TC (o.getD d) (u.getD d'):=by
 cases o with
 |none=>cases u with
  |none=>exact a
  |some _=>exact(r).elim
 |some _=>cases u with
  |none=>exact(r).elim
  |some _=>exact r
def KV.val {a:List (κ × V)}{c:List (κ × Value)}(r:KV a c)(k):qK (j3 a k) (valueAt c k):=by
 induction r with
 |nil=>exact True.intro
 | @cons p q ps d h t f =>
  obtain⟨g,i⟩:=h;by_cases e:p.1=k
  .have b:valueAt (q::d) k=some q.2:=by simp_all [valueAt]
   rwa [BJ e,b]
  grind[valueAt,BK]
theorem KV.any {a:List (κ × V)}{c:List (κ × Value)}(r:KV a c)(k):(a.any λb=>decide (b.1=k))=c.any λb=>decide (b.1=k):=by
 induction r with
 |nil=>rfl
 |cons h t d=>simp_all
def KV.repl {b:List (κ × V)}{c:List (κ × Value)}(r:KV b c)(k){y:V}{u:Value}(e:TC y u):
 KV (b.map λa=>if a.1=k then(a.1,y) else a) (c.map λa=>if a.1=k then(a.1,u) else a):=by
 induction r with
 |nil=>exact .nil
 | @cons p q ps f h t d =>
  refine .cons ?_ d
  grind
def KV.put {a:List (κ × V)}{b:List (κ × Value)}(r:KV a b)(k){y:V}{u:Value}(c:TC y u):KV (q9 a k y) (stored b k u):=by
 unfold q9 stored;rw[r.any k];by_cases e:(b.any λd=>decide (d.1=k))=true
 .rw[Zd e,Zd e];exact r.repl k c
 .rw[Ze e,Ze e];exact Paired.snoc r ⟨rfl,c⟩
theorem KV.length {a:List (κ × V)}{b:List (κ × Value)}(r:KV a b):a.length=b.length:=Paired.length r
end
def Wt {P:Program}{w:World}{k:TM}{u:Value}(r:TC (kV k) u):(Qy P w).is k u=true:=by
 cases k with
 |inl i=>have ⟨t,e⟩:=(r);subst e;exact HU P w i t
 |inr x=>have ⟨t,e⟩:=(r);subst e;exact HV P w x t
theorem Eo {P:Program}{w:World}:∀{ks:List TM} {us:Yd},TD (ks.map kV) us->ItemsAre (Qy P w) ks us
 | [],_,r=>by cases r;exact .nil
 |k::ks,_,r=>by
  cases r with
  |cons h t=>exact .cons (Wt h) (Eo t)
abbrev KT (H:Hp):List (List TM×V)->List (List TM×Addr×Value)->Prop:=Paired λp q=>p.1=q.1/\H q.2.1=some (.tup (p.1.map kV))/\TC p.2 q.2.2
def KT.val {H:Hp}{a:List (List TM×V)}{xs:List (List TM×Addr×Value)}(r:KT H a xs)(k):qK (j3 a k) ((atKey xs k).map (·.2)):=by
 induction r with
 |nil=>exact True.intro
 | @cons p q ps c h t d =>
  obtain⟨f,_,g⟩:=h;by_cases e:p.1=k
  .have b:atKey (q::c) k=some q.2:=by simp_all [atKey]
   rwa [BJ e,b]
  grind[atKey,BK]
def KT.repl {H:Hp}{a:List (List TM×V)}{xs:List (List TM×Addr×Value)}(r:KT H a xs)(k){y:V}{u:Value}(d:TC y u):
 KT H (a.map λb=>if b.1=k then(b.1,y) else b) (xs.map (putAt k u)):=by
 induction r with
 |nil=>exact .nil
 | @cons p q ps e h t c =>
  refine .cons ?_ c
  grind[putAt]
def KT.put {H:Hp}{a:List (List TM×V)}{xs:List (List TM×Addr×Value)}(r:KT H a xs)(k){b:Addr}{y:V}{u:Value}(d:H b=some (.tup (k.map kV)))(c:TC y u):
 KT H (q9 a k y) (storedH xs k b u):=by
 have e:(a.any λf=>decide (f.1=k))=(atKey xs k).isSome:=by
  rw[En,(r.val k).isSome_eq,Vg]
 unfold q9 storedH;rw[e];by_cases q:(atKey xs k).isSome=true
 .rw[Zd q,Zd q];exact r.repl k c
 .rw[Ze q,Ze q];exact Paired.snoc r ⟨rfl,d,c⟩
def KT.keeps {H c:Hp}{a:List (List TM×V)}{xs:List (List TM×Addr×Value)}(r:KT H a xs)(e:∀b d,H b=some (.tup d)->c b=some (.tup d)):KT c a xs:=
 qY r ()
section
variable {P:Program}{w:World}{H:Hp}{h:Heap}{a:Addr}
def Ep {u:HO}(ok:qr P w H h)(e:Rd H a u):xj P w H h a u:=e.ok ok
def Wu {b:List (TM×V)}(ok:qr P w H h)(e:Rd H a (.dK b)):b.length<=sizeLine/\(a == sysModules)=false/\∃c,KV b c/\h.DictOf (Qy P w) a c:=
 Ep ok e
def Ak {b:List (TM×V)}(ok:qr P w H h)(e:H a=some (.dK b)):b.length<=sizeLine/\(a == sysModules)=false/\∃c,KV b c/\h.DictOf (Qy P w) a c:=Wu ok (.inl e)
theorem X3 {ks:List TM}(ok:qr P w H h)(e:H a=some (.tup (ks.map kV))):(tupleKind (Qy P w)).is h ks a:=have ⟨_,b,r,o,c,d,n,f⟩:=(ok a _ e);⟨o,b.toArray,n,c,d,f,by simpa using Eo r⟩
def WU {b:List (List TM×V)}(ok:qr P w H h)(e:Rd H a (.dT b)):b.length<=sizeLine/\(a == sysModules)=false /\
 ∃xs,KT H b xs/\h.DictOfH (tupleKind (Qy P w)) a xs:=by
 obtain⟨z,y,xs,r,o,es,c,d,f,g,i,j⟩:=(Ep ok e);refine⟨z,y,xs,r,o,es,c,d,f,g,i,λx hx=>?_,j⟩;have all:∀{l:List (List TM×V)} {m:List (List TM×Addr×Value)},KT H l m->∀x∈m,(tupleKind (Qy P w)).is h x.1 x.2.1:=by
  intro l m q
  induction q with
  |nil=>intro x hx;exact nomatch hx
  | @cons p q ps n s t u =>
   grind[X3]
 exact all r x hx
def gz {b:List (List TM×V)}(ok:qr P w H h)(e:H a=some (.dT b)):b.length<=sizeLine/\(a == sysModules)=false /\
 ∃xs,KT H b xs/\h.DictOfH (tupleKind (Qy P w)) a xs:=WU ok (.inl e)
end
def qN (H:Hp)(a:Addr)(y:V)(r:Ys):Prop:=
 (∃c k,Rd H a (.dK c)/\y=kV k/\r=j3 c k)\/∃c k b,Rd H a (.dT c)/\y=.ref b/\H b=some (.tup (k.map kV))/\r=j3 c k
def z0 (H:Hp)(a:Addr)(y v:V)(d:Hp):Prop:=
 (∃c k,H a=some (.dK c)/\y=kV k/\c.length<sizeLine/\d=upd H a (.dK (q9 c k v))) \/
 ∃c k b,H a=some (.dT c)/\y=.ref b/\H b=some (.tup (k.map kV))/\c.length<sizeLine/\d=upd H a (.dT (q9 c k v))
theorem qN.k {H:Hp}{a:Addr}{b:List (TM×V)}{k:TM}(e:H a=some (.dK b)):qN H a (kV k) (j3 b k):=.inl ⟨b,k,.inl e,rfl,rfl⟩
theorem z0.k {H:Hp}{a:Addr}{b:List (TM×V)}{k:TM}{v:V}(e:H a=some (.dK b))(c:b.length<sizeLine):z0 H a (kV k) v (upd H a (.dK (q9 b k v))):=.inl ⟨b,k,e,rfl,c,rfl⟩
section
variable {X:Cx}{Y:Yb}{Z: St}{H:Hp}{s:Shared}{a:Addr}{y v:V}{u r:Value}{o:Ys}{A:Around}{E:Ya}
def Inv.big (I:Inv X Y Z H s):sysModules<s.heap.objs.size:=have h:=(I.mod.glob.keeps I.bk).lt;UO (by decide) h
def Lw {Q:Ya}(q:A.units+1<cLine)(I:Inv X Y Z H s)(g:qN H a y (some v))(n:TC y u)(h:∀f s',Inv X Y Z H s'->TC v f->Q f s'):
 wpAny (model X.prog X.w) A (getItem (.ref a) u) Q E s:=by
 rcases g with ⟨i,k,e,j,l⟩|⟨i,k,b,e,j,t,l⟩
 .subst j;obtain⟨z,w,x,c,dd⟩:=Wu I.hok e;obtain⟨f,hw,d⟩:=jW (by rw[l];exact c.val k);exact wpAny_getItem_of (Wt n) dd.mapOf hw (h f _ (I.tok _) d)
 .subst j;cases (n);obtain⟨z,w,xs,c,dd⟩:=WU I.hok e;obtain⟨f,hw,d⟩:=jW (by rw[l];exact c.val k);obtain⟨p,hp,m⟩:=Jg.mp hw;refine wpAny_getItem_heap (tupleKind_room_in1 q) (X3 I.hok t) dd hp ?_;rw[m];exact h f _ (I.tok _) d
def mH {Q:Ya}(m:A.units+1<cLine)(I:Inv X Y Z H s)(g:qN H a y o)(j:TC y u)(h:∀s',Inv X Y Z H s'->Q (.bool o.isSome) s'):
 wpAny (model X.prog X.w) A (compareOp .In u (.ref a)) Q E s:=by
 rcases g with ⟨d,k,e,f,l⟩|⟨d,k,b,e,f,n,l⟩
 .subst f;obtain⟨z,i,p,c,dd⟩:=Wu I.hok e;refine wpAny_in_of (Wt j) i dd.mapOf ?_;rw[<- (c.val k).isSome_eq,<- l];exact h _ (I.tok _)
 .subst f;cases (show u=Value.ref b from j);obtain⟨z,i,xs,c,dd⟩:=WU I.hok e;refine wpAny_in_heap (tupleKind_room_in1 m) (X3 I.hok n) i dd ?_;have q:=(c.val k).isSome_eq;rw[Vg] at q;rw[<- q,<- l];exact h _ (I.tok _)
def Lx {Q:Ya}(m:A.units+1<cLine)(I:Inv X Y Z H s)(g:qN H a y o)(j:TC y u)(h:∀s',Inv X Y Z H s'->Q (.bool (!o.isSome)) s'):
 wpAny (model X.prog X.w) A (compareOp .NotIn u (.ref a)) Q E s:=by
 rcases g with ⟨d,k,e,f,l⟩|⟨d,k,b,e,f,n,l⟩
 .subst f;obtain⟨z,i,p,c,dd⟩:=Wu I.hok e;refine wpAny_notIn_of (Wt j) i dd.mapOf ?_;rw[<- (c.val k).isSome_eq,<- l];exact h _ (I.tok _)
 .subst f;cases (j);obtain⟨z,i,xs,c,dd⟩:=WU I.hok e;refine wpAny_notIn_heap (tupleKind_room_in1 m) (X3 I.hok n) i dd ?_;have q:=(c.val k).isSome_eq;rw[Vg] at q;rw[<- q,<- l];exact h _ (I.tok _)
def BM {h':Heap}{t':Nat}{c:HO}(I:Inv X Y Z H s)(d:fm (H a))(e:Heap.SameBut a s.heap h')(f:∃q,h'.get? a=some q)(new:xj X.prog X.w (upd H a c) h' a c):
 Inv X Y Z (upd H a c) { s with heap:=h',toks:=t' } :=
 I.write d (.inl rfl) (λb q g z=>(e.2 b g).trans z) f new
def Er {P:Program}{w:World}{e:Hp}{h':Heap}{b:List (TM×V)}{c:List (TM×Value)}(z:b.length<=sizeLine)(f:(a == sysModules)=false)(d:KV b c)(dd:h'.DictOf (Qy P w) a c):
 xj P w e h' a (.dK b):=⟨z,f,c,d,dd⟩
def Ly {B:Hp}{Q:Unit->Yq}(J:A.units+1<cLine)(I:Inv X Y Z H s)(g:z0 H a y v B)(C:TC y u)(F:TC v r)(h:∀s',Inv X Y Z B s'->Q Ym s'):
 wpAny (model X.prog X.w) A (setItem (.ref a) u r) Q E s:=by
 rcases g with ⟨d,k,e,m,l,n⟩|⟨d,k,b,e,m,G,l,n⟩
 .subst m n;obtain⟨z,p,K,f,dd⟩:=Ak I.hok e;have t:K.length<=sizeLine:=by rwa [<- f.length]
  have w:(q9 d k v).length<=sizeLine:=by have:=BL d k v;lia
  refine wpAny_setItem_pairs (hsz:=t) (Wt C) dd λh' i x=>h _ ?_;have L:∃q,h'.get? a=some q:=let ⟨q,_,_,j,_⟩:=i;⟨q,j⟩
  exact BM I (by rw[e];exact True.intro) x L (Er w p (f.put k F) i)
 .subst m n;cases (C);obtain⟨z,p,xs,f,dd⟩:=gz I.hok e;have t:xs.length<=sizeLine:=by rwa [<- Paired.length f]
  have w:(q9 d k v).length<=sizeLine:=by have:=BL d k v;lia
  refine wpAny_setItem_heap (hsz:=t) (tupleKind_room_in1 J) (X3 I.hok G) dd λh' i x=>h _ ?_;obtain⟨q,es,M,j,N,O,P,_,R⟩:=i;refine BM I (by rw[e];exact True.intro) x ⟨q,j⟩ ⟨w,p,_,(f.put k G F).keeps λc S T=>?_,q,es,M,j,N,O,P,R⟩
  rwa [Jz ()]
end
section
variable {X:Cx}{Y:Yb}{Z: St}{H:Hp}{s:Shared}{a:Addr}{kvs:List (TM×V)}{k:TM}{u:Value}{A:Around}{E:Ya}
def gC {Q:Ya}(I:Inv X Y Z H s)(e:Rd H a (.dK kvs))(h:∀t s',Inv X Y Z H s'->Q (.int kvs.length t) s'):wpAny (model X.prog X.w) A (call (.builtin "len") [.ref a]) Q E s:=by
 obtain⟨z,c,d,b,dd⟩:=Wu I.hok e;refine call_len_dict c dd (by rw[<- b.length];rw[sizeLine_eq] at z;lia) ?_;rw[<- b.length];exact h _ _ (I.tok _)
end
def wQ (i:Expr):Prop:=∀a b,subscripted i false a b=operate [a,b] (getItem a b)
def Lz {prog:Program}{w:World}{A:Around}{E:Ya}{s:Shared}{env:Env}{b a:Expr}{c:Pos}{T id:String}{Q:Ya}
 (d:typeLookup (.type T) "__getitem__" = pure (some (.builtin id))) (e:wQ a)
 (h:Yw prog w A (eval b env) (λo s₁=>Yw prog w A (eval a env) (λi s₂=>s₂.TypeIs o T/\Yw prog w A (getItem o i) Q E s₂) E s₁) E s):
 Yw prog w A (eval (.Subscript b a c) env) Q E s:=by
 refine Subscript_ (Zc h (λo s₁ h₁=>Zc h₁ (λi s₂ h₂=>?_) λ_ _ x=>x) λ_ _ x=>x);obtain⟨f,h₂⟩:=h₂;refine Za (Za (wpAny_specialOf f d ?_));have g:Yw prog w A (subscripted a false o i) (λr s₃=>Yw prog w A (letTemporaryGo b o r >>= λ_=>pure r) Q E s₃) E s₂:=by
  rw[e o i];exact wpAny_operating (Zc h₂ (λr s₃ h₃=>Za (wpAny_letTemporaryGo (Zb h₃))) λ_ _ x=>x)
 grind[wpAny_pure,wpAny_bind]
def L0 {X:Cx}{Y:Yb}{Z: St}{H:Hp}{s:Shared}{a:Addr}{y:V}{o:Ys}(I:Inv X Y Z H s)(g:qN H a y o):s.TypeIs (.ref a) "dict" := by
 rcases g with ⟨c,k,e,_,_⟩|⟨c,k,b,e,_,_,_⟩
 .obtain⟨_,_,d,_,dd⟩:=Wu I.hok e;exact dd.typeIs
 .obtain⟨_,_,xs,_,dd⟩:=WU I.hok e;exact dd.typeIs
def vF (c d:TE):TE:=λZ H Q=>c Z H λx e=>d Z e λy b=>∃a v,x=.ref a/\qN b a y (some v)/\Q v b
def bN (c d:TE):TE:=λZ H Q=>c Z H λy e=>d Z e λx b=>∃a o,x=.ref a/\qN b a y o/\Q (.bl o.isSome) b
def L1 (c d:TE):TE:=λZ H Q=>c Z H λy e=>d Z e λx b=>∃a o,x=.ref a/\qN b a y o/\Q (.bl (!o.isSome)) b
def vM (c d e:TE):TS:=λD Z H=>e Z H λv f=>c Z f λx g=>d Z g λy h=>∃a b,x=.ref a/\z0 h a y v b/\D.nx Z b
section
variable {X:Cx}{o i e value:Expr}{pos pos' tpos:Pos}{td ty tv:TE}
def L3 (d:X.A.units+1<cLine)(f:PE X o td)(j:PE X i ty)(l:wQ i):PE X (.Subscript o i pos) (vF td ty):=by
 intro Y s Z H Q I h;refine Lz PySem.F.slot_dict_getitem.lookup l (TQ (f Y s Z H _ I h) λu m ⟨x,n,p,q,r⟩=>TQ (j Y m Z n _ p r) λC E ⟨y,t,c,w,a,v,z,g,A⟩=>?_);subst z;obtain rfl:=q;exact⟨L0 c g,Lw d c g w λF G B b=>⟨v,t,B,b,A⟩⟩
def L4 (b:X.A.units+1<cLine)(c:PE X i ty)(d:PE X o td):PC X .In i o (bN ty td):=by
 intro Y s Z H Q I h;refine TQ (c Y s Z H _ I h) λA f ⟨y,j,l,m,n⟩=>TQ (d Y f Z j _ l n) λu B ⟨x,p,q,r,a,t,v,g,w⟩=>?_;subst v;obtain rfl:u=Value.ref a:=r;exact mH b q g m λC z=>⟨.bl t.isSome,p,z,rfl,w⟩
def Es (b:X.A.units+1<cLine)(c:PE X i ty)(d:PE X o td):PC X .NotIn i o (L1 ty td):=by
 intro Y s Z H Q I h;refine TQ (c Y s Z H _ I h) λA f ⟨y,j,l,m,n⟩=>TQ (d Y f Z j _ l n) λu B ⟨x,p,q,r,a,t,v,g,w⟩=>?_;subst v;obtain rfl:=r;exact Lx b q g m λC z=>⟨.bl (!t.isSome),p,z,rfl,w⟩
def L5 (b:X.A.units+1<cLine)(c:PE X o td)(d:PE X i ty)(f:PE X value tv)(j:swapsWith value (some (.Subscript o i pos')) pos.line X.env=pure false):
 PS X (.Assign [.Subscript o i pos'] value pos) (vM td ty tv):=by
 intro Y s Z H D I h;refine wpAny_Assign_Subscript (TQ (f Y s Z H _ I h) λr l ⟨v,m,n,p,q⟩=>TQ (c Y l Z m _ n q) λu t ⟨x,w,z,A,B⟩=>TQ (d Y t Z w _ z B) λL M ⟨y,N,C,E,a,F,G,g,J⟩=>?_) j;subst G;obtain rfl:=A;exact Ly b C g E p λO K=>⟨Z,F,K,J⟩
end
def L6 {P:Program}{w:World}{H:Hp}(h:Heap)(a:sysModules<h.objs.size):xj P w H (h.push { cls:=.type "dict",data:=.dict #[] }) h.objs.size (.dK []):=
 ⟨Ug _,(),[],.nil,Heap.DictOf.new h⟩
def L7:TE:=λ_ H Q=>∀p,H p=none->Q (.ref p) (upd H p (.dK []))
section
variable {X:Cx}{pos:Pos}
def L8:PE X (.Dict [] [] pos) L7:=λY s Z H Q I h =>
 wpAny_Dict_empty ⟨.ref s.heap.objs.size,_,I.laid (λ_ _ q=>Zq _ q) (Zf _) (L6 s.heap I.big),rfl,h _ (I.hok.fresh (Zf _))⟩
end
structure M1 (X:Cx)(o:Expr)(m:Str)(apos:Pos)(e:Expr)(cpos:Pos):Prop where
 base:attributeBase o m X.env (eval o X.env)=eval o X.env
 few:((backTo cpos (starEach [e] X.env)).all (λx => !x.1)&&(backToKw cpos (keywordEach [] X.env)).all (λx=>x.1.isSome)
  && decide (([e]:Yj).length+([]:List Keyword).length+(if([]:List Keyword).isEmpty then 0 else 1)<30))=true
 line:(apos.endLine == cpos.line)=true
 trees:backTo cpos (starEach [e] X.env)=[(false,eval e X.env)]
def IsD (H:Hp)(a:Addr):Prop:=(∃b,Rd H a (.dK b))\/∃b,Rd H a (.dT b)
def L9 {X:Cx}{Y:Yb}{Z: St}{H:Hp}{s:Shared}{a:Addr}(I:Inv X Y Z H s)(d:IsD H a):
 s.TypeIs (.ref a) "dict" /\ (∀b,Value.ref a=.ref b->∃c,s.heap.get? b=some c/\c.dict=none)/\(a == sysModules)=false:=by
 rcases d with ⟨f,e⟩|⟨f,e⟩
 .obtain⟨_,g,j,_,dd⟩:=Wu I.hok e;refine⟨dd.typeIs,λb q=>?_,g⟩;cases q;obtain⟨c,_,_,h,i,_⟩:=dd;exact⟨c,h,i.2.1⟩
 .obtain⟨_,g,xs,_,dd⟩:=WU I.hok e;refine⟨dd.typeIs,λb q=>?_,g⟩;cases q;obtain⟨c,_,_,h,i,_⟩:=dd;exact⟨c,h,i.2.1⟩
section
variable {X:Cx}{Y:Yb}{Z: St}{H:Hp}{s:Shared}{a:Addr}{y d:V}{u r:Value}{o:Ys}{A:Around}{E:Ya}
def LA {Q:Ya}(p:A.units+1<cLine)(I:Inv X Y Z H s)(g:qN H a y o)(m:TC y u)(h:∀n s',Inv X Y Z H s'->TC (o.getD .non) n->Q n s'):
 wpAny (model X.prog X.w) A (call (.builtin "dict.get") [.ref a,u]) Q E s:=by
 rcases g with ⟨f,k,e,i,l⟩|⟨f,k,b,e,i,q,l⟩
 .subst i;obtain⟨z,j,t,c,dd⟩:=Wu I.hok e;refine call_meetsIn PySem.F.slot_dict_get dd.typeIs PySem.F.entry_dict_get (PySem.F.args_dict_get_2 _ _) (meets_dict_get (Qy X.prog X.w) a (Wt m) j) ⟨_,dd.mapOf,h _ _ (I.tok _) ?_⟩;rw[l];exact(c.val k).getD rfl
 .subst i;cases (show u=Value.ref b from m);obtain⟨z,j,xs,c,dd⟩:=WU I.hok e;refine call_meetsIn PySem.F.slot_dict_get dd.typeIs PySem.F.entry_dict_get (PySem.F.args_dict_get_2 _ _) (meetsH_dict_get (tupleKind (Qy X.prog X.w)) a b j) ⟨tupleKind_room_in1 p,k,xs,X3 I.hok q,dd,h _ _ (I.tok _) ?_⟩;rw[l];exact(c.val k).getD rfl
end
def LC (d e:TE):TE:=λZ H Q=>d Z H λx b=>∃a,x=.ref a/\IsD b a/\e Z b λy c=>∃o,qN c a y o/\Q (o.getD .non) c
section
variable {X:Cx}{o e f:Expr}{apos cpos:Pos}{td ty tx:TE}
def LD (i:X.A.units+1<cLine)(j:PE X o td)(l:PE X e ty)(m:M1 X o "get" apos e cpos):PE X (.Call (.Attribute o "get" apos) [e] [] cpos) (LC td ty):=by
 intro Y s Z H Q I h;refine wpAny_Call_method m.base m.few m.line PySem.F.plainAttrs_dict PySem.F.slot_dict_get PySem.F.type_dict_get (TQ (j Y s Z H _ I h) λu n ⟨x,p,c,q,a,r,d,t⟩=>?_);subst r;obtain rfl:u=Value.ref a:=q;obtain⟨v,w,_⟩:=L9 c d;refine⟨v,w,?_⟩;rw[m.trees];refine Calls.callWith_builtin rfl (Calls.evalArgs_plain (Calls.spliced_cons (TQ (l Y n Z p _ c t) λF G ⟨y,z,A,B,J,g,C⟩=>Calls.spliced_nil ?_)));exact LA i A g B λK L E b=>⟨_,z,E,b,C⟩
end
end L2
namespace Att
open PySem PySem.W PySem.Calls PyProof.Rows
theorem LF {P:Params}{h:Heap}:∀c d,WellAll P h d (c.map WData.int)->IntsAre d c:=by
 intro c
 induction c with
 |nil =>
  intro d w;cases w;exact .nil
 |cons n c e =>
  intro d w;cases w with
  |cons a b =>
   cases a;exact .cons _ _ (e _ b)
def LG {l:OpenLaw}{n:Nat}(o:l.most=some n){P:Params}{h:Heap}{args:List WData}{b:Yd}
 (c:l.row.toRowW.claim.pre args=true) (f:WellAll P h b args):
 ∃a i e,b=[Value.ref a]/\args=[WData.list (e.map WData.int)]/\h.get? a=some { cls:=.type "list",data:=.seq i.toArray }/\IntsAre i e/\e.length<=n:=by
 obtain⟨d,r,rfl,p,q⟩:=hasAllW_cons ((pre_splitW c).1);obtain rfl:=hasAllW_nil q;obtain⟨xs,rfl,s⟩:=hasW_list p;obtain⟨e,rfl⟩:=items_int s;have j:e.length<=n:=by
  have g:(WTm.not (.lt (.lit (.int (n:Int))) (.len (.arg 0)))).holds [] { args:=[.list (e.map .int)] }=true:=by
   have g:=(holds_andW ((pre_splitW c).2)).1
   rwa [o] at g
  have v:=condW_of g rfl
  simp_all
 cases f with
 |cons t u =>
  cases u;cases t with
  |list w m=>grind[LF]
def LH (l:OpenLaw)(args):l.row.toRowW.claim.post args (.bool true) args=true:=
 postW_of
  rfl
  (w_eq_bool (w_res rfl) w_lit) rfl
def attach_call {l:OpenLaw}{n:Nat}{q:Program}{b:Yh}{B:(Yc)->Heap->Prop}{C:World->Heap->Prop}{d:DefRec}
 (I:l.most=some n) (u:d.params.defaults=[])
 (call:∀w s₀ s₁ p v h o x cd c a g t,
  Ground q b [] B w s₀ p v s₁.heap->C w s₁.heap ->
  s₁.heap.get? h=some o->o.data=.func (docDef d.name d.params d.body d.scope x cd c)->s₁.heap.CodeRec cd d.name->p d.name=some (.ref h) ->
  s₁.heap.get? a=some { cls:=.type "list",data:=.seq g.toArray }->IntsAre g t->t.length<=n->s₁.gens = #[] ->
  codeAny (model l.prog w) callerA (.call (.ref h) ⟨[.ref a],[]⟩) (λr s'=>r=.ok (.ret (.bool true))/\OldK s₁.heap s'.heap/\s'.os=s₁.os/\AllBare s'.gens) s₁):
 WalkO q b B C l.row.toRowW d [] (λf g=>PySem.call f g):=by
 intro w s₀ s₁ p v G J h o x cd c U kV K L y E z M args F X i H N A O;obtain rfl:=Dflts.none E u;obtain rfl:=Dflts.noKw E;obtain⟨a,g,t,rfl,rfl,j,e,m⟩:=LG I i A;refine enter_call (codeAny_mono (call w s₀ s₁ p v h o x cd c a g t G J K (fd_plain L) y z j e m M) λr s' P=>?_);obtain⟨rfl,Q,R,S⟩:=P;exact⟨.inl ⟨.bool true,.bool true,[],rfl,λ_=>rfl,.bool true,LH l _,λ_=>⟨List.Pairwise.nil,λ_ T=>(nomatch T)⟩⟩,Q,R,S⟩
end Att
namespace L2
def LI:∀{a:Yd} {b:Yf},IntsAre a b->TD (b.map V.int) a:=λh=>by
 induction h with
 |nil=>exact .nil
 |cons n t _ c=>exact .cons ⟨t,rfl⟩ c
def wP (H:Hp):Prop:=∀b,H b=none\/∃o xs,H b=some (.frz o (.lst xs))
def LJ {P:Program}{w:World}{K:W.Frag}{t J:Yc}{CX:yY}{k:Nat}{L a:Addr}{U:FuncData}{x:Str}{sp:Sp}{s₁:Shared}{p:Yd}{y:Yf}
 (X:K.In s₁.heap) (A:s₁.heap.Ns mainGlobals t) (f:s₁.heap.Ns builtinsNs J) (M:∀x:Str,x ≠ "__name__" -> J x=bootBuiltins x) (B:s₁.heap.NoLimit) (hg:s₁.gens = #[])
 (N:s₁.heap.get? a=some { cls:=.type "list",data:=.seq p.toArray }) (Y:IntsAre p y) (hl:y.length<=sizeLine) (hr:Room k callerA)
 (F:∀g:Heap,K.In g->g.Ns mainGlobals t->FnOk P w K t g CX k L U [x] sp) (l:∀s u,BindsTo s U ⟨[u],[]⟩ [(x,u)])
 (O:∀H:Hp,wP H->jL K H a (y.map V.int)->sp [.ref a] H (λv _=>v=.bl true) λ_ _ _=>False)
 (Q:∀H e s',CX [] H s₁ (λ_ _ _=>False) e s'->False):
 codeAny (model P w) callerA (.call (.ref L) ⟨[.ref a],[]⟩) (λr s'=>r=.ok (.ret (.bool true))/\OldK s₁.heap s'.heap/\s'.os=s₁.os/\AllBare s'.gens) s₁:=by
 have Z:=LI Y;have C:=Y.length;have j:∀H:Hp,wP H->jL K H a (y.map V.int)->qr P w H s₁.heap->(∀b,H b≠none->b=a)->(H a≠none->K.lookup a=none) ->
  codeAny (model P w) callerA (.call (.ref L) ⟨[.ref a],[]⟩) (λr s'=>r=.ok (.ret (.bool true))/\OldK s₁.heap s'.heap/\s'.os=s₁.os/\AllBare s'.gens) s₁:=by
  intro H hO hS E hA hK;have c:∀{b:Addr} {o:Obj},s₁.heap.get? b=some o->H b=none->(xJ s₁.heap H).get? b=some o:=λe n=>HX e n;have R:∀{b:Addr} {o:Obj} {es:Array DictEntry} {S:Nat},s₁.heap.get? b=some o->o.data=.dict es S->H b=none:=by grind
  have i:∀{b:Addr} {m:Yc},s₁.heap.Ns b m->(xJ s₁.heap H).Ns b m:=λ{b m} ⟨o,es,S,e,d,r⟩=>⟨o,es,S,c e (R e d),d,r⟩;have G:K.In (xJ s₁.heap H):=λb o e=>c (X b o e) (by
   grind)
  have hM:Mod K t (xJ s₁.heap H):=⟨G,i A,⟨J,i f,M⟩,let ⟨mc,h1,h2⟩:=B;⟨mc,i h1,h2⟩⟩;have e0:Env0 P w K t (xJ s₁.heap H) callerA [] s₁ H:=⟨rfl,hM,λb o e=>HY e,Nat.le_of_eq (HW _ _),trivial,λb f=>Zn (show b∈([]:Yi) from f) (),E,.of_eq hg⟩;refine codeAny_mono ((F _ G (i A)).run callerA [] s₁ H ⟨[.ref a],[]⟩ [.ref a] [.ref a] _ _ hr e0 (l s₁ (.ref a)) (.cons rfl .nil) (O H hO hS)) λr s' h=>?_;cases r with
  |error e=>exact(Q H e s' h).elim
  |ok fl =>
   cases fl with
   |next=>exact False.elim h
   |brk=>exact False.elim h
   |cont=>exact False.elim h
   |ret u =>
    obtain⟨v,H',os,bare,un,I,r',q⟩:=h;have q':v=.bl true:=q;subst q';obtain rfl:=r';refine⟨rfl,OldK.of_keep λb o e=>?_,os,bare⟩;cases q:H b with
    |none=>exact un.keep b o e q (λz=>Zn (show b∈([]:Yi) from z) ()) ()
    |some u =>
     rcases hO b with z|⟨ob,xs,z⟩
     .rw[q] at z;cases z
     .obtain⟨e1,_⟩:=E b _ z;obtain⟨e2,_⟩:=I b _ (un.frzs b ob _ z);rw[e] at e1;cases e1;exact e2
 cases T:K.lookup a with
 |some o =>
  have e:=X a o T;rw[N] at e;cases e;refine j (λ_=>none) (λ_=>.inl rfl) (.inr ⟨_,p.toArray,_,T,rfl,rfl,rfl,by rwa [Zm,C],by simpa using Z⟩) (λb u z=>by have z':=z;cases z') () λz=>Zn rfl z
 |none =>
  refine j (λb=>if b=a then some (.frz { cls:=.type "list",data:=.seq p.toArray } (.lst (y.map V.int))) else none) (λb=>?_) (.inl (.inr ⟨{ cls:=.type "list",data:=.seq p.toArray },Zd rfl⟩)) (λb u z=>?_) (λb z=>?_) λ_=>T
  .by_cases f:b=a
   .exact by grind
   .exact .inl (Ze f)
  .by_cases f:b=a
   .cases ((Zd f).symm.trans z);subst f;exact⟨N,by rwa [Zql],p,_,Z,N⟩
   .cases ((Ze f).symm.trans z)
  .by_cases f:b=a
   .exact f
   .exact Zn (Ze f) z
def walk_of {l:W.OpenLaw}{n k:Nat}{q:Program}{g:Yh}{L:(Yc)->Heap->Prop}{E:World->Heap->Prop}{d:DefRec}{K:Params->W.Frag}{CX:World->yY}{sp:World->Sp}{x:Str}
 (M:l.most=some n) (t:n<=sizeLine) (y:d.params.defaults=[]) (N:Room k callerA)
 (O:∀w h,E w h->(K w.params).In h)
 (F:∀w j p h,(K w.params).In h->h.Ns mainGlobals j->j d.name=some (.ref p) ->
  ∃z:FuncData,(∀s u,BindsTo s z ⟨[u],[]⟩ [(x,u)]) /\
   ∀b:Heap,(K w.params).In b->b.Ns mainGlobals j->FnOk l.prog w (K w.params) j b (CX w) k p z [x] (sp w))
 (A:∀w H a (r:Yf),r.length<=n->wP H->jL (K w.params) H a (r.map V.int)->sp w [.ref a] H (λv _=>v=.bl true) λ_ _ _=>False)
 (B:∀w H s e s',CX w [] H s (λ_ _ _=>False) e s'->False):
 W.WalkO q g L E l.row.toRowW d [] (λf I=>PySem.call f I):=by
 refine Att.attach_call M y λw s₀ s₁ j Z p o pm cd P a I r G Q ho hd R C m i c S=>?_;have J:=O w _ Q;obtain⟨z,T,U⟩:=F w j p _ J G.T.g C;exact LJ J G.T.g G.T.b G.T.builtins G.T.nolimit S m i (Zh c t) N U T (λH X Y=>A w H a r c X Y) λH e s'=>B w H s₁ e s'
def VD (s:Stmt)(j:Nat):Stmt:=match s with
 | .ClassDef _ _ _ body _ _ _ _ _ _ _=>body.getD j (.Pass ⟨0,0,0,0⟩)
 |_=>.Pass ⟨0,0,0,0⟩
def WV (s:Stmt):Arguments:=match s with
 | .FunctionDef _ a _ _ _ _ _ _ _ _=>a
 |_=>{ posonlyargs:=[],args:=[],vararg:=none,kwonlyargs:=[],kw_defaults:=[],kwarg:=none,defaults:=[] }
def Kc (s:Stmt):List Stmt:=match s with
 | .FunctionDef _ _ b _ _ _ _ _ _ _=>b
 |_=>[]
def JP (s:Stmt):Scope:=match s with
 | .FunctionDef _ _ _ _ _ _ sc _ _ _=>sc
 |_=>{ kind:=.function,names:=[],isGenerator:=false,isCoroutine:=false }
abbrev xa:yY:=λ_ _ _ _ _ _=>False
abbrev E0:XK:=λ_ _ _=>False
def Am {X:Cx}:X2 xa X E0:=λ_ _ _ _ _ _ _ h=>h.elim
structure Fun (K:W.Frag)(x qual:Str)(st:Stmt)(f:Addr)(fd:FuncData):Prop where
 ex:∃(oc:Value) (od:Option Addr) (kV doc pm:Value) (an:Option Addr) (cdv ct:Value) (osl:Array Ye),
  fd=W.fnOf x qual (WV st) (Kc st) (JP st) .none kV doc pm an cdv ct/\K.lookup f=some ⟨oc,od,.func fd,osl⟩/\W.codeIn K cdv qual=true
 kp:W.keepIn K (.ref f)=true
section
variable {P:Program}{w:World}{K:W.Frag}{mg:Yc}{base:Heap}
def Fun.ok {x b:Str}{st:Stmt}{f:Addr}{j:FuncData}{N ps:Yh}{k:Nat}{sp:Sp}(F:Fun K x b st f j)(S:FnScope N ps (JP st))(len:∀d H Q E,sp d H Q E->d.length=ps.length)
 (e:∀c A a s H d Q E,Room k (A.deeper (envOfC b (JP st) s.heap.objs.size f c))->sp d H Q E ->
  ∃t,qx (jt xa P w K mg base N b (JP st) f c A a s H E).nox (Kc st) t/\t { nx:=λ_ l=>Q .non l,rt:=Q } (start N d) H):FnOk P w K mg base xa (k+1) f j ps sp:=by
 obtain⟨r,u,kV,m,v,y,c,ct,n,rfl,o,g⟩:=F.ex;refine Eg o g S len λA a s H d Q E p i=>?_;obtain⟨t,h,q⟩:=e c A a s H d Q E p i;exact⟨t,h.nox,q⟩
def Fun.binds {x a:Str}{st:Stmt}{f:Addr}{g:FuncData}{ps:Yh}(F:Fun K x a st f g)
 (h:∀kV b d e c ct us,us.length=ps.length->bindArgs (W.fnOf x a (WV st) (Kc st) (JP st) .none kV b d e c ct) ⟨us,[]⟩=pure (ps.zip us)):y4 K g ps []:=by
 obtain⟨l,m,kV,b,d,e,c,ct,i,rfl,n,j⟩:=F.ex;exact .all (h kV b d e c ct)
def fun_mk {x a:Str}{st:Stmt}{f:Addr}{i:Value}{j g:Option Addr}{e:Array Ye}{kV d h b ct:Value}(l:K.lookup f=some ⟨i,j,.func (W.fnOf x a (WV st) (Kc st) (JP st) .none kV d h g b ct),e⟩)
 (c:W.codeIn K b a=true) (k:W.keepIn K (.ref f)=true):Fun K x a st f (W.fnOf x a (WV st) (Kc st) (JP st) .none kV d h g b ct):=⟨⟨i,j,kV,d,h,g,b,ct,e,rfl,l,c⟩,k⟩
end
def J5 {A:Around}{k:Nat}(a:Room k A):A.units+1<cLine:=Nat.lt_of_le_of_lt () a.units
def Et {n:Nat}(h:n<=1000):n<sizeLine:=Nat.lt_of_le_of_lt h (by decide)
section
variable {X:Cx}
def pv (i){x:Str}{a:Pos}(c:X.N[i]? = some x:=by rfl)(d:gR X.env.scope x:=by first|exact Or.inl rfl|exact Or.inr (Or.inl rfl)|exact Or.inr (Or.inr rfl))(e:(x == ("__debug__" : Str))=false:=by decide)
 (b:(x == ("__classdict__" : Str))=false:=by decide):PE X (.Name x a) (xl i):=Ia c d e b
end
def Tx (H a:Hp):Prop:=∀b o,H b=some o->a b=some o
def Tx.refl (H):Tx H H:=λ_ _ h=>h
def Tx.trans {H d e:Hp}(a:Tx H d)(b:Tx d e):Tx H e:=λc o h=>b c o (a c o h)
def Tx.free {H a:Hp}(e:Tx H a){l:Addr}(h:a l=Option.none):H l=Option.none:=by
 cases q:H l with
 |none=>rfl
 |some o =>
  rw[e l o q] at h;cases h
def Tx.seq {K:W.Frag}{H b:Hp}{a:Addr}{xs:Yr}(e:Tx H b)(h:jL K H a xs):jL K b a xs:=by
 rcases h with (h|⟨o,h⟩)|h
 .exact .inl (.inl (e _ _ h))
 .exact .inl (.inr ⟨o,e _ _ h⟩)
 .exact .inr h
section
variable {X:Cx}
def LK:jH X (.builtin "len") (λxs H Q=>∃a b,xs=[V.ref a]/\H a=some (.dK b)/\Q (.int b.length) H):=by
 intro Y s Z H xs us Q I r h;obtain⟨a,b,rfl,c,q⟩:=h;obtain⟨u,rfl,d⟩:=Ku r;cases d;exact gC I (.inl c) λt s' e=>⟨.int b.length,H,e,⟨t,rfl⟩,q⟩
end
end L2
def Jy {P:Prop}{α: Type}{z:α}(h:none=some z):P:=by cases  h
def JI {P:Prop}(h:false=true):P:=by cases  h
namespace L2
theorem BN (env):∀(names:List (Str×NameKind)) b,(∀y∈names,y.2=.free->∃c,env.cells.lookup y.1=some c) ->
 ∃d,(forIn names b λ(x:Str×NameKind) (r:List (Str×Addr))=>(match x with
  | (name,kind)=>if(kind == NameKind.free)=true then do let a <- cellOf env name;pure (ForInStep.yield ((name,a)::r)) else pure (ForInStep.yield r):Sem (ForInStep (List (Str×Addr)))))=(pure d:Sem (List (Str×Addr))) /\
  (∀x c,d.lookup x=some c->env.cells.lookup x=some c\/b.lookup x=some c)/\(∀x c,b.lookup x=some c->∃f,d.lookup x=some f)/\∀y∈names,y.2=.free->∃c,d.lookup y.1=some c
 | [],b,_=>⟨b,rfl,λ_ _ h=>.inr h,λx c h=>⟨c,h⟩,λ_ h=>nomatch h⟩
 | (n,k)::r,b,h=>by
  rw[List.forIn_cons];cases i:(k == NameKind.free) with
  |true =>
   have g:k=.free:=by simp_all
   obtain⟨c,j⟩:=h (n,k) Zqs g;obtain⟨d,e,l,m,o⟩:=BN env r ((n,c)::b) ();refine⟨d,?_,λx f hx=>?_,λx f hx=>?_,λy p q=>?_⟩
   .simp only[i,cellOf,j];exact e
   .grind
   .grind
   grind
  |false =>
   have ⟨d,e,l,m,o⟩:=BN env r b ()
   grind
def LL (env)(a)(h:∀y∈a.names,y.2=.free->∃c,env.cells.lookup y.1=some c):
 ∃b,closureFor a env=pure b/\(∀x c,b.lookup x=some c->env.cells.lookup x=some c)/\∀y∈a.names,y.2=.free->∃c,b.lookup y.1=some c:=by
 obtain⟨b,e,d,_,f⟩:=BN env a.names [] h;refine⟨b,?_,λx c hx=>(d x c hx).elim id (λq=>by simp at q),f⟩
 first
 | (rfl)
 |exact(Zt (· >>= λcs=>pure cs) e)
theorem An {env:Env}{x:Str}:∀{names:List (Str×NameKind)},
 (names.lookup x=some .free->(names.map λ(n,k)=>if(k == NameKind.free&&env.scope.kind == .function&&env.kindOf n == some .cell) then(n,NameKind.cell) else(n,k)).lookup x=some .cell\/(names.map λ(n,k)=>if(k == NameKind.free&&env.scope.kind == .function&&env.kindOf n == some .cell) then(n,NameKind.cell) else(n,k)).lookup x=some .free) /\
 (∀a,(names.map λ(n,k)=>if(k == NameKind.free&&env.scope.kind == .function&&env.kindOf n == some .cell) then(n,NameKind.cell) else(n,k)).lookup x=some a->(a=.cell\/a=.free)->names.lookup x=some .free\/names.lookup x=some .cell)
 | []=>by simp
 | (n,k)::r=>by
  obtain⟨b,c⟩:=@An env x r
  grind
theorem YB:∀names n a,cellsFrom n names a=cellsFrom n names []++a
 | [],_,_=>rfl
 | (name,kind)::r,n,a=>by
  unfold cellsFrom
  split
  .rw[YB r (n+1) ((name,n)::a),YB r (n+1) [(name,n)],Uo];rfl
  .exact YB r n a
theorem BO:∀names n a,(x,c)∈cellsFrom n names a->(x,c)∈a\/(x,NameKind.cell)∈names
 | [],_,_,h=>.inl h
 | (name,kind)::r,n,a,h=>by
  unfold cellsFrom at h
  split at h
  .rcases BO r (n+1) ((name,n)::a) h with z|z
   .grind
   simp_all
  .rcases BO r n a h with z|z
   .exact .inl z
   simp_all
def Eu:Option NameKind->Bool
 |some .cell=>true
 |_=>false
def LM (h:Eu o=true):o=some .cell:=by
 cases o with
 |none=>exact JI h
 |some k=>cases k<;>first|rfl|exact JI h
structure CellsAt (scope:Scope)(env:Env)(cl:List (Str×Addr))(C:Addr)(h1:Heap):Prop where
 from_:∀x c,cl.lookup x=some c->(env.cells.lookup x=some c/\scope.names.lookup x≠some .cell)\/(C<c/\h1.IsCell c none)
 free:∀x,scope.names.lookup x=some .free->∃c,cl.lookup x=some c/\env.cells.lookup x=some c
 own:∀x,scope.names.lookup x=some .cell->∃c,cl.lookup x=some c
 inj:∀x y c,cl.lookup x=some c->cl.lookup y=some c->x=y
def LN (f:∀x c,cl.lookup x=some c->env.cells.lookup x=some c)(g:∀y∈a.names,y.2=.free->∃c,cl.lookup y.1=some c)
 (inj:∀x y c,env.cells.lookup x=some c->env.cells.lookup y=some c->x=y) (low:∀x c,env.cells.lookup x=some c->c<=C) (h:h0.objs.size=C+1) (i:∀y∈a.names,y.2=.cell->a.names.lookup y.1=some .cell):
 CellsAt a env (cellsFrom (C+1) a.names cl) C (pushCells h0 a.names):=by
 have ok:=cellsFrom_ok a.names h0 (C+1) [] ⟨(),List.Pairwise.nil⟩ ();rw[h] at ok;have look:∀x c,(cellsFrom (C+1) a.names cl).lookup x=some c->((x,c)∈cellsFrom (C+1) a.names [])\/(cl.lookup x=some c/\a.names.lookup x≠some .cell):=λx c e=>by
  rw[YB,List.lookup_append] at e;cases q:(cellsFrom (C+1) a.names []).lookup x with
  |some d =>
   grind[Zqi,PySem.mem_of_lookup]
  |none =>
   rw[q] at e;refine .inr ⟨e,λz=>?_⟩;have:=W.cellsFrom_some a.names (C+1) [] (.inl z);rw[q] at this;exact JI this
 refine⟨λx c e=>?_,λx e=>?_,λx e=>?_,λx y c j l=>?_⟩
 .rcases look x c e with z|⟨z1,z2⟩
  .exact .inr ⟨(ok.empty x c z).2,(ok.empty x c z).1⟩
  simp_all
 .obtain⟨c,b⟩:=g (x,.free) (PySem.mem_of_lookup e) rfl;refine⟨c,?_,f x c b⟩;rw[YB,List.lookup_append];cases q:(cellsFrom (C+1) a.names []).lookup x with
  |some d =>
   rcases BO _ _ _ (PySem.mem_of_lookup q) with z|z
   .cases z
   .have:=i (x,.cell) z rfl;rw[e] at this;cases this
  |none=>exact b
 .exact Jm.mp (W.cellsFrom_some a.names (C+1) cl (.inl e))
 .rcases look x c j with z|⟨z1,_⟩<;>rcases look y c l with w|⟨w1,_⟩
  .exact PySem.name_of_addr ok.apart z w
  .exact Zn (low y c (f y c w1)) (Nat.not_le_of_lt (ok.empty x c z).2)
  .exact Zn (low x c (f x c z1)) (Nat.not_le_of_lt (ok.empty y c w).2)
  .exact by grind
def LO
 (a:Q (newEnv scope s.heap.objs.size globals (cellsFrom (s.heap.objs.size+1) scope.names cl) qual none .none (some env) builtinsNs) { s with heap:=pushCells (s.heap.push { cls:=.type "dict",data:=.dict #[] }) scope.names }):
 wpAny M A (newFunctionEnv scope globals cl [] qual none .none (some env)) Q E s:=by
 refine Za (wpAny_alloc (Za (wpAny_layCells _ () _ _ _ _ ?_)));rw[Heap.size_push ..];exact Za (Zb (Zb a))
def YC (X:Cx)(C:Addr):Ya:=λx s'=>∃m,s'.heap.Ns C m/\∀h',Heap.SameBut C s'.heap h'->∀a:Env,a.locals=C->Yv X (passOn "comprehension.variables-let-go" x a:Sem Value) (λ_ _=>False) X.xe { s' with heap:=h' }
def JO (X:Cx)(a:Scope)(N:Yh)(b:List (Str×Addr))(C:Addr)(s:Shared)(H:Hp)(ex:Yi):Cx where
 prog:=X.prog
 w:=X.w
 K:=X.K
 mg:=X.mg
 base:=X.base
 A:=X.A
 N:=N
 s₀:=s
 H₀:=H
 env:=compEnvC a b C X.env
 outer:=X.stack
 stack:=X.stack
 ex:=ex
 fn:=λx=>Eu (a.names.lookup x)
 calm:=X.calm
 pn:=[]
 xe:=notedBy (model X.prog X.w) X.A (compEnvC a b C X.env) (YC X C)
def WW (X:Cx)(C:Addr)(s:Shared)(H:Hp)(a:Yi):Prop:=∃Y Z,Inv X Y Z H s/\(∀b∈a,qC X Y H b)/\s.heap.objs.size<=C
def WX (cap:List (Option Nat))(Z: St):St:=cap.map λo=>o.bind λj=>(Z[j]?).join
structure CompOk (X:Cx)(scope:Scope)(N:Yh)(cap:List (Option Nat)):Prop where
 kind:scope.kind=.function
 loc:∀y∈scope.names,y.2=.local->scope.names.lookup y.1=some .local
 cell:∀y∈scope.names,y.2=.cell->scope.names.lookup y.1=some .cell
 free:∀y∈scope.names,y.2=.free->X.env.kindOf y.1=some .cell\/X.env.kindOf y.1=some .free
 len:cap.length=N.length
 cap:∀(i j:Nat) (x:Str),cap[i]? = some (some j)->N[i]? = some x->X.N[j]? = some x/\scope.names.lookup x=some .free
def KC (a:Scope)(env:Env)(b N:Yh)(cap:List (Option Nat)):Bool:=
 decide (a.kind=.function)&&a.names.all (λy => !decide (y.2=.local)||decide (a.names.lookup y.1=some .local))&&a.names.all (λy => !decide (y.2=.cell)||decide (a.names.lookup y.1=some .cell)) &&
 a.names.all (λy => !decide (y.2=.free)||(decide (env.kindOf y.1=some .cell)||decide (env.kindOf y.1=some .free)))&&decide (cap.length=b.length) &&
 (b.zip cap).all (λp=>match p.2 with|none=>true|some j=>decide (N[j]? = some p.1)&&decide (a.names.lookup p.1=some .free))
def CompOk.of {X:Cx}{a:Scope}{N:Yh}{cap:List (Option Nat)}(h:KC a X.env N X.N cap=true):CompOk X a N cap:=by
 unfold KC at h;simp only[Ub,decide_eq_true_eq,Ut] at h;obtain⟨⟨⟨⟨⟨c,l⟩,m⟩,n⟩,d⟩,o⟩:=h;refine⟨c,λy b e=>?_,λy b e=>?_,λy b p=>?_,d,λi j x f g=>?_⟩
 .grind
 .grind
 .grind
 .have q:(x,some j)∈N.zip cap:=by
   refine Uh (i:=i) ?_;rw[List.getElem?_zip_eq_some];exact⟨g,f⟩
  grind
section
variable {X:Cx}{scope:Scope}{N:Yh}{cap:List (Option Nat)}{Y:Yb}{Z: St}{H:Hp}{s:Shared}{cl:List (Str×Addr)}{C D:Addr}{fp:Yi}
def LP (ok:CompOk X scope N cap)(I:Inv X Y Z H s)(A:∀b∈fp,qC X Y H b)(t:∀b∈fp,b<s.heap.objs.size)
 (a:CellsAt scope X.env cl C h1)
 (n:s.heap.objs.size<=C) (f:∀b o,s.heap.get? b=some o->h1.get? b=some o) (B:h1.Ns C m):
 Inv (JO X scope N cl C s H fp) [] (WX cap Z) H { s with heap:=h1,toks:=tk }:=by
 have J:∀x,(JO X scope N cl C s H fp).env.kindOf x=some .cell\/(JO X scope N cl C s H fp).env.kindOf x=some .free->scope.names.lookup x=some .free\/scope.names.lookup x=some .cell:=λx h=>by
  rcases h with h|h
  .exact(An (env:=X.env) (x:=x) (names:=scope.names)).2 _ h (.inl rfl)
  .exact(An (env:=X.env) (x:=x) (names:=scope.names)).2 _ h (.inr rfl)
 refine⟨⟨I.ok.mod,ok.kind,I.ok.glob,I.ok.blt,n,a.inj,λx h=>?_,λx c z e=>?_,I.ok.hd,I.ok.frames,.inl rfl,λb g=>⟨?_,λx c e=>?_⟩,I.bs,Zh I.ok.bsz I.sz,
  λb o e g=>?_,λb g z=>?_,I.stack,I.stkFree⟩,rfl,I.bare,Un.kept f,⟨m,B,λi x v E d T=>?_⟩,λx c e=>?_,I.hok.fresh n,λx c e=>?_,λp hp=>Zn hp (by show ¬p∈([]:Yb)++[];simp),I.hok.kept f,?_⟩
 .rcases J x h with q|q
  .obtain⟨c,e,_⟩:=a.free x q;exact⟨c,e⟩
  .exact a.own x q
 .rcases a.from_ x c e with ⟨_,q⟩|⟨q,_⟩
  .exact Zn (LM z) q
  .exact Zh n (Zz q)
 .exact Zi (Zg (t b g) n)
 .rcases a.from_ x c e with ⟨q,_⟩|⟨q,_⟩
  .exact(A b g).2.2.2.2.1 x c q
  .exact US (UO (Zg (t b g) n) q)
 .rcases(A b g).2.2.2.1 with z|z
  .exact I.ok.noex b o e z
  .exact Zn (Zg (Zk e) (Zh I.ok.bsz z)) (Zy _)
 .rcases UB.mp (I.stkSub b z) with q|q
  .exact(A b g).2.1 q
  .exact(A b g).2.2.1 q
 .have E:N[i]? = some x:=E;have K:∃j,cap[i]? = some (some j) /\ Z[j]? = some (some v):=by
   have d:(cap.map λo=>o.bind λj=>(Z[j]?).join)[i]? = some (some v):=d;rw[Zv] at d;cases q:cap[i]? with
   |none=>rw[q] at d;exact Jy d
   |some o =>
    rw[q] at d;cases o with
    |none=>cases d
    |some j =>
     have d:some ((Z[j]?).join)=some (some v):=d;cases F:Z[j]? with
     |none=>rw[F] at d;cases d
     |some w=>rw[F] at d;exact⟨j,rfl,by cases d;exact F⟩
  obtain⟨j,L,M⟩:=K;obtain⟨O,G⟩:=ok.cap i j x L E;obtain⟨U,_,P⟩:=I.loc;have Q:=ok.free (x,.free) (PySem.mem_of_lookup G) rfl;obtain⟨u,r,l⟩:=P j x v O M (Q.elim (λz=>.inr (.inl z)) λz=>.inr (.inr z));refine⟨u,r,.inr ⟨(An (x:=x)).1 G,?_⟩⟩;rcases l with ⟨k,_⟩|⟨_,c,R,z⟩
  .simp_all
  .obtain⟨c',S,y⟩:=a.free x G;rw[R] at y;obtain rfl:=Zqi y;exact⟨c,S,z.keeps f⟩
 .rcases a.from_ x c e with ⟨q,_⟩|⟨_,q⟩
  .obtain⟨v,z⟩:=I.cell x c q;exact⟨v,z.keeps f⟩
  .exact⟨none,q⟩
 .rcases a.from_ x c e with ⟨q,_⟩|⟨q,_⟩
  .exact I.freeC x c q
  .exact I.hok.fresh (Zh n (Zz q))
 .show(cap.map _).length=N.length;rw[Zql];exact ok.len
def LQ (I:Inv X Y Z H s)(g:∀b∈fp,qC X Y H b)(j:s.heap.objs.size<=C)(l:s.heap.objs.size<=D)(h:D≠C)
 (J:Inv (JO X scope N cl C s H fp) [] Z' H' s') (m:s'.heap.get? D=some { cls:=.type "list",data:=.seq its.toArray k }) (y:H' D=none) (p:TD ys its) (r:ys.length<=sizeLine) (d:Heap.SameBut C s'.heap h')
 (q:Q (.ref D) (upd H' D (.lst ys))):EP X Y Z Q (.ref D) { s' with heap:=h' }:=by
 have i:∀b o,s.heap.get? b=some o->b≠C:=λb o e=>Zi (Zg (Zk e) j);have t:∀b o,s.heap.get? b=some o->b≠D:=λb o e=>Zi (Zg (Zk e) l);have tD:∀b u,H' b=some u->b≠D:=by grind
 have tC:∀b u,H' b=some u->b≠C:=λb u e z=>by
  have:=J.free;rw[z,show H' C=none from this] at e;exact Jy e
 have B:=J.base;refine⟨.ref D,upd H' D (.lst ys),I.call' J.os ?_ ?_ J.bare (λb a=>⟨(g b a).2.2.2.1,(g b a).2.1,(g b a).2.2.2.2.1,(g b a).2.2.2.2.2⟩),rfl,q⟩
 .refine⟨λb o e n a hx=>(d.2 b (i b o e)).trans (B.keep b o e n a hx),λb o e n a hx=>?_,λb o e n hx=>?_,λb o e hx=>?_,λb xs e=>?_,λb o u e=>?_,λb ps e=>?_⟩
  .obtain⟨w,z⟩:=B.slot b o e n a hx;exact⟨w,(d.2 b (i b o e)).trans z⟩
  .rw[Jz (t b o e)];exact B.free b o e n hx
  .obtain⟨x,z⟩:=B.there b o e hx;exact⟨x,(d.2 b (i b o e)).trans z⟩
  .have z:=B.tups b xs e
   rwa [Jz (tD b _ z)]
  .have z:=B.frzs b o u e
   rwa [Jz (tD b _ z)]
  .obtain⟨f,z⟩:=B.tbls b ps e;exact⟨f,by rwa [Jz (tD b _ z)]⟩
 .intro b u e;by_cases a:b=D
  .subst a;rw[JC] at e;obtain rfl:=Zqi e;exact⟨r,its,k,p,(d.2 b h).trans m⟩
  .rw[Jz a] at e;refine(J.hok b u e).stay (λc v A z=>(d.2 c ?_).trans z) (λc z=>by rwa [Jz (tD c _ z)]) (λc xs z=>by rwa [Jz (tD c _ z)])
   grind
end
def gD (cap:List (Option Nat))(g:TG)(te:TE)(Z: St)(Q:VK):It->Hp->Prop:=λJ h=>∃W:Nat->Nat->Yr->St->Hp->Prop,(∃m,W 0 m [] (WX cap Z) h)/\∀i m b c a,W i m b c a->b.length<sizeLine /\
 (
  (J.stop i a/\∀D,a D=none->Q (.ref D) (upd a D (.lst b))) \/
  (J.go i a/\∀x d,J.yld i a x d->g x c d λe j=>te e j λy l=>∃f,f<m/\W (i+1) f (b++[y]) e l))
def YD (cap:List (Option Nat))(a:TI)(g:TG)(te:TE):TE:=λZ H Q=>a Z H (gD cap g te Z Q)
def LR (cap:List (Option Nat))(g:TG)(tt:TT)(te:TE)(Z: St)(Q:VK):It->Hp->Prop:=λJ l=>∃W:Nat->Nat->Yr->St->Hp->Prop,(∃m,W 0 m [] (WX cap Z) l)/\∀i m c f a,W i m c f a->c.length<sizeLine /\
 (
  (J.stop i a/\∀D,a D=none->Q (.ref D) (upd a D (.lst c))) \/
  (J.go i a/\∀x h,J.yld i a x h->g x f h λe n=>tt e n λb j=>if b=true then te e j (λy o=>∃d,d<m/\W (i+1) d (c++[y]) e o) else ∃d,d<m/\W (i+1) d c e j))
def Ao (cap:List (Option Nat))(a:TI)(g:TG)(tt:TT)(te:TE):TE:=λZ H Q=>a Z H (LR cap g tt te Z Q)
section
variable {X:Cx}{tg iter elt c:Expr}{scope:Scope}{pos:Pos}{wi:TI}{g:TG}{te:TE}{tt:TT}
def YE (X:Cx)(Y:Yb)(Z: St)(Q:VK)(use:Option (Value->Sem Unit))(R:Ya):Prop:=
 ∀(C D:Addr) (m:Yc) (a:Shared) (r:Flow),a.heap.Ns C m->¬C=X.env.locals->C∉X.fs->X.s₀.heap.objs.size<=C->(∀x c,X.env.cells.lookup x=some c->c≠C)->(∀p∈X.pn++Y,p.1≠C) ->
  (∀h',Heap.SameBut C a.heap h'->EP X Y Z (λv b=>b C=none/\Q v b) (.ref D) { a with heap:=h' })->compPost (model X.prog X.w) X.A X.xe use R (.ref D) C (.ok r) a
def LS:YE X Y Z Q none (EP X Y Z Q):=λC D m h r b _ _ _ _ _ k=>⟨m,b,λh' a=>by
 obtain⟨v,d,e,f,_,q⟩:=k h' a;exact⟨v,d,e,f,q⟩⟩
def gU (X:Cx)(tg elt:Expr)(it a:Value)(env:Env)(R:Result->Yq)(I:Nat->Yq)(test:(Bool->Yq)->Yq)(n:Nat)(s:Shared):Prop:=
 let E:Ya:=notedBy (model X.prog X.w) X.A env λe s'=>R (.error e) s'
 Yv X (pyNext it) (λr b=>match r with
  |none=>R (.ok .next) b
  |some v=>Yv X (letOwnedTupleGo tg it v) (λ_ f=>Yv X (assign tg env v) (λ_ h=>test (λok d=>if ok=true then Yv X (eval elt env) (λx i=>Yv X (call (.builtin "list.append") [a,x]) (λ_ j=>∃m,m<n/\I m j) E i) E d else ∃m,m<n/\I m d) h) E f) E b) E s
def Ew {ifs:Yj}(N){test:Env->(Result->Yq)->(Bool->Yq)->Yq}
 (lp:∀{it acc:Value} {env:Env} {R:Result->Yq} {s:Shared} I,(∀n s,I n s->gU X tg elt it acc env R I (test env R) n s)->∀n,I n s->codeAny (model X.prog X.w) X.A (.compLoop (.ListComp elt [⟨tg,iter,ifs,0⟩] scope pos) 0 it acc env) R s)
 (ht:∀t C s H U {Y:Yb} {s7:Shared} {Z7:St} {H7:Hp} {R:Result->Yq} {q:Bool->Hp->Prop} {Q:Bool->Yq},WW X C s H U->(∀e s',YC X C e s'->R (.error e) s')->Inv (JO X scope N t C s H U) Y Z7 H7 s7->tt Z7 H7 q->(∀b s8 H8,Inv (JO X scope N t C s H U) Y Z7 H8 s8->q b H8->Q b s8)->test (compEnvC scope t C X.env) R Q s7)
 (cap) (hc:X.calm=true) (okB:KC scope X.env N X.N cap=true) (hi:PI X tg iter wi) (hg:∀t C s H U,PG (JO X scope N t C s H U) tg g) (he:∀t C s H U,WW X C s H U->PE (JO X scope N t C s H U) elt te)
 (hs:∀x,foldedSetIterable iter X.env x=pure x) {use:Option (Value->Sem Unit)} {R:Ya} {fpos:Pos} {Y:Yb} {s:Shared} {Z: St} {H:Hp} {Q:VK} (I:Inv X Y Z H s) (h:Ao cap wi g tt te Z H Q) (fin:YE X Y Z Q use R):
 Yv X (comprehension (.ListComp elt [⟨tg,iter,ifs,0⟩] scope pos) scope X.env fpos (newList []) false (eval iter X.env) use) R X.xe s:=by
 have ok:=CompOk.of okB;obtain⟨cl0,hcl,hcl1,hcl2⟩:=LL X.env scope λy hy hf=>I.ok.has y.1 (ok.free y hy hf);refine wpAny_comprehension_free (use:=use) rfl hs hcl ok.kind ok.loc (TQ (hi Y s Z H _ I h) λxv s1 h1=>TQ h1 λitv a h2=>?_);obtain⟨it,l,tn,J,E,e,B,T,st2,f2,W,⟨m0,w0⟩,turn⟩:=h2;subst e;have K:∀b∈l,b<a.heap.objs.size:=λb w=>let ⟨_,e,_⟩:=T.obj _ _ st2 b w;Zk e
 refine wpAny_newObj_type (LO ?_);dsimp only;generalize hP:a.heap.push { cls:=.type "list",dict:=none,data:=.seq ([]:Yd).toArray }=P2;have hC:P2.objs.size=a.heap.objs.size+1:=by rw[<- hP,Heap.size_push]
 have L:a.heap.objs.size≠P2.objs.size:=by rw[hC];exact by lia
 have j:a.heap.objs.size<=P2.objs.size:=by rw[hC];exact UT _
 have below:∀b,b<a.heap.objs.size->b≠P2.objs.size/\b≠a.heap.objs.size:=()
 have M:CellsAt scope X.env (cellsFrom (P2.objs.size+1) scope.names cl0) P2.objs.size (pushCells (P2.push { cls:=.type "dict",data:=.dict #[] }) scope.names):=
  LN hcl1 hcl2 B.ok.inj (λx c e=>Zh (Zz (let ⟨_,_,ho,_⟩:=B.cell x c e;Zk ho)) j) (Heap.size_push ..) ok.cell
 have hns1:(pushCells (P2.push { cls:=.type "dict",data:=.dict #[] }) scope.names).Ns P2.objs.size (λ_=>none):=(Heap.Ns.new P2 (.type "dict")).keeps (pushCells_keeps _ _);generalize cellsFrom (P2.objs.size+1) scope.names cl0=t at M ⊢;have O:∀b o,a.heap.get? b=some o->(pushCells (P2.push { cls:=.type "dict",data:=.dict #[] }) scope.names).get? b=some o:=λb o e=>pushCells_keeps _ _ b o (Zq _ (hP ▸ Zq _ e));have hacc:(pushCells (P2.push { cls:=.type "dict",data:=.dict #[] }) scope.names).get? a.heap.objs.size=some { cls:=.type "list",data:=.seq ([]:Yd).toArray 0 }:=pushCells_keeps _ _ _ _ (Zq _ (hP ▸ Zr _ rfl));generalize pushCells (P2.push { cls:=.type "dict",data:=.dict #[] }) scope.names=g1 at M hns1 O hacc ⊢;have F:∀{H':Hp} {pl:Yb},(∀b∈l,H' b=none)->(∀p∈pl,p.1∉l)->∀b∈l,qC (JO X scope N t P2.objs.size a E l) pl H' b:=λ{H' pl} hn hp b w=>by
  refine⟨hn b w,(below b (K b w)).1,λz=>?_,.inl w,λx c e=>?_,λp hq z=>?_⟩
  .rcases UB.mp (B.stkSub b z) with q|q
   .exact(f2 b w).2.1 q
   .exact(f2 b w).2.2.1 q
  .rcases M.from_ x c e with ⟨q,_⟩|⟨q,_⟩
   .exact(f2 b w).2.2.2.2.1 x c q
   .exact US (UO (Zg (K b w) j) q)
  .have hq:p∈([]:Yb)++pl:=hq
   grind[List.nil_append]
 have nD:a.heap.objs.size∉l:=λz=>Zn (K _ z) (Zy _);have loop:∀s3:Shared,s3={ a with heap:=g1 } ->
  codeAny (model X.prog X.w) X.A (.compLoop (.ListComp elt [⟨tg,iter,ifs,0⟩] scope pos) 0 (.ref it) (.ref a.heap.objs.size) (compEnvC scope t P2.objs.size X.env))
   (compPost (model X.prog X.w) X.A X.xe use R (.ref a.heap.objs.size) P2.objs.size) s3:=by
  rintro s3 rfl;have I0:=LP (tk:=a.toks) ok B f2 K M j O hns1;refine lp (λn s'=>∃i ys A k Z' H',Inv (JO X scope N t P2.objs.size a E l) [] Z' H' s'/\tn i s'.heap/\(∀b∈l,H' b=none)/\s'.heap.get? a.heap.objs.size=some { cls:=.type "list",data:=.seq (List.toArray A) k } /\
   H' a.heap.objs.size=none/\TD ys A/\W i n ys Z' H') ?_ m0
   ⟨0,[],[],0,WX cap Z,E,I0,T.keep _ _ _ st2 (λb _ o e=>O b o e),λb w=>(f2 b w).1,hacc,B.hok.fresh (Zf _),.nil,w0⟩
  have cat:WW X P2.objs.size a E l:=⟨_,_,B,f2,j⟩;have ce:∀e s',YC X P2.objs.size e s'->compPost (model X.prog X.w) X.A X.xe use R (.ref a.heap.objs.size) P2.objs.size (.error e) s':=λe s' h=>by cases use<;>exact h
  have xe:∀e s',(JO X scope N t P2.objs.size a E l).xe e s'->notedBy (model X.prog X.w) X.A (compEnvC scope t P2.objs.size X.env) (λe s'=>compPost (model X.prog X.w) X.A X.xe use R (.ref a.heap.objs.size) P2.objs.size (.error e) s') e s':=λe s' h=>Zc h (λ_ a q=>ce e a q) λe a q=>ce e a q;rintro n s4 ⟨i,ys,A,k,Z4,H4,I4,st4,fr4,hd4,hn4,P,w4⟩;obtain⟨hz,tn4⟩:=turn i n ys Z4 H4 w4;have J4:Inv (JO X scope N t P2.objs.size a E l) [(a.heap.objs.size,{ cls:=.type "list",data:=.seq A.toArray k })] Z4 H4 s4:=I4.pins_of λp hp=>by
   have e:=Jc.mp hp;subst e;refine⟨hd4,hn4,L,?_,λv z=>by cases z⟩;exact λz=>Zn (Zg (by
    rcases UB.mp (B.stkSub _ z) with q|q
    .exact Nat.lt_of_le_of_lt (Nat.le_of_eq q) B.lt
    .obtain⟨_,o,ho,_⟩:=B.ok.funs.mem q;exact Zg (Zk ho) B.sz) (Zf a.heap.objs.size)) (Zy _)
  have np:∀p ∈ [(a.heap.objs.size,({ cls:=.type "list",data:=.seq A.toArray k }:Obj))],p.1∉l:=λp hp=>by
   have e:=Jc.mp hp;subst e;exact nD
  rcases tn4 with ⟨stop,qn⟩|⟨go,step⟩
  .refine Zc (T.done (JO X scope N t P2.objs.size a E l) rfl rfl rfl hc i _ s4 Z4 H4 (λ_ _=>False) J4 (F fr4 np) st4 stop) (λr s5 h5=>?_) λ_ _ f=>f.elim;obtain⟨rfl,I5⟩:=h5;obtain⟨m,hm,_⟩:=id I5.loc;have p5:=I5.pin (a.heap.objs.size,_) (Uf _ Zqs);refine fin _ _ m _ _ hm (US (Zg B.lt j)) (B.nofs j) (Zh B.sz j) (λx c e z=>?_) (λp hp z=>?_) λh' hs'=>LQ B f2 j (Zf _) L (I5.pins_of λp hp=>nomatch hp) p5.1 p5.2.1 P (Zz hz) hs' ⟨by rw[Jz (Ne.symm L)];exact I5.free,qn _ p5.2.1⟩
   .obtain⟨v,o,ho,hd⟩:=B.cell x c e;have:=Zk ho;rw[z] at this;exact Zn (Zg this j) (Zy _)
   .have:=Zk (B.pin p hp).1;rw[z] at this;exact Zn (Zg this j) (Zy _)
  .refine Zc (T.item (JO X scope N t P2.objs.size a E l) rfl rfl rfl hc i _ s4 Z4 H4 (λ_ _=>False) J4 (F fr4 np) st4 go) (λr s5 h5=>?_) λ_ _ f=>f.elim;obtain⟨u,rfl,h5⟩:=h5;refine Zc h5 (λ_ s6 h6=>?_) λ_ _ f=>f.elim;obtain⟨x,H6,I6,r6,y6,S,fr6⟩:=h6;have I6':=I6.pinned (F fr6 np) (T.obj _ _ S);refine Zc (hg t P2.objs.size a E l _ s6 Z4 H6 x u _ I6' r6 (step x H6 y6)) (λ_ s7 h7=>?_) xe;obtain⟨Z7,H7,I7,q7⟩:=h7;refine ht t P2.objs.size a E l cat ce I7 q7 λbv s8 H8 I8 q8=>?_;have G:∀H9 s9 Z9,Inv (JO X scope N t P2.objs.size a E l) ([(a.heap.objs.size,{ cls:=.type "list",data:=.seq A.toArray k })]++YA l s6.heap) Z9 H9 s9->(∀b∈l,∀o,s6.heap.get? b=some o->s9.heap.get? b=some o)/\∀b∈l,H9 b=none:=λH9 s9 Z9 I9=>by
    refine⟨λb w o e=>(I9.pin (b,o) (Uf _ (Uf _ (Ai w e)))).1,λb w=>?_⟩;obtain⟨o,e,d⟩:=T.obj _ _ S b w;exact(I9.pin (b,o) (Uf _ (Uf _ (Ai w e)))).2.1
   have p8:=I8.pin (a.heap.objs.size,_) (Uf _ (Ur _ Zqs));cases bv with
   |false =>
    rw[Ze ()] at q8 ⊢;obtain⟨m',hm',w8⟩:=q8;obtain⟨z1,z2⟩:=G _ _ _ I8;exact⟨m',hm',i+1,ys,A,k,Z7,H8,I8.pins_of (λp hp=>nomatch hp),T.keep _ _ _ S z1,z2,p8.1,p8.2.1,P,w8⟩
   |true =>
    rw[Zd rfl] at q8 ⊢;refine Zc (he t P2.objs.size a E l cat _ s8 Z7 H8 _ I8 q8) (λyv s9 h9=>?_) xe;obtain⟨y,H9,I9,ry,m',hm',w9⟩:=h9;have p9:=I9.pin (a.heap.objs.size,_) (Uf _ (Ur _ Zqs));have hl:=P.length;refine append_at (hsz:=by show A.toArray.size<=sizeLine;rw[Zm,<- hl];exact Zz hz) p9.1 λh10 hs10 hd10=>?_;have I10:Inv (JO X scope N t P2.objs.size a E l) [] Z7 H9 { s9 with heap:=h10 }:=(I9.pins_of (Y':=[]) λp hp=>nomatch hp).turned (t':=s9.toks) (it:=a.heap.objs.size) (λb o w e=>(hs10.2 b w).trans e) p9.2.1 L (.inr (Zf _))
     (λx c e z=>by
      obtain⟨v,o,ho,hd⟩:=I9.cell x c e;rw[z,p9.1] at ho;cases ho;cases hd) (λp hp=>Zn hp (by show ¬p∈([]:Yb)++[];simp))
    obtain⟨z1,z2⟩:=G _ _ _ I9;refine⟨m',hm',i+1,ys++[y],A++[yv],k+1,Z7,H9,I10,T.keep _ _ _ S (λb w o e=>?_),z2,?_,p9.2.1,TD.append P (.cons ry .nil),w9⟩
    .have hb':b≠a.heap.objs.size:=λz=>nD (by rw[<- z];exact w);exact(hs10.2 b hb').trans (z1 b w o e)
    .refine hd10.trans ?_;simp
 exact codeAny_compStart_list (loop _ rfl) (T.self _ 0 _ _ _ (T.keep _ _ _ st2 (λb _ o e=>O b o e)) (loop _ rfl))
def Ex (N)(cap)(j:X.calm=true)(e:KC scope X.env N X.N cap=true)(l:PI X tg iter wi)(m:∀f C s H d,PG (JO X scope N f C s H d) tg g)(o:∀f C s H d,WW X C s H d->PE (JO X scope N f C s H d) elt te)
 (p:∀x,foldedSetIterable iter X.env x=pure x) {use:Option (Value->Sem Unit)} {R:Ya} {a:Pos} {Y:Yb} {s:Shared} {Z: St} {H:Hp} {Q:VK} (I:Inv X Y Z H s) (h:YD cap wi g te Z H Q) (i:YE X Y Z Q use R):
 Yv X (comprehension (.ListComp elt [⟨tg,iter,[],0⟩] scope pos) scope X.env a (newList []) false (eval iter X.env) use) R X.xe s:=
 Ew (test:=λ_ _ Q s=>Q true s) N (λI b n h=>W.kcp_loop I b n h) (λ_ _ _ _ _ _ _ _ _ _ _ _ _ _ I q k=>k true _ _ I q) cap j e l m o p I h i
def Ey (N)(cap)(e:X.calm=true)(b:KC scope X.env N X.N cap=true)(f:PI X tg iter wi)(i:∀d C s H a,PG (JO X scope N d C s H a) tg g)(j:∀d C s H a,WW X C s H a->PE (JO X scope N d C s H a) elt te)
 (l:∀x,foldedSetIterable iter X.env x=pure x:=by intro _;rfl):PE X (.ListComp elt [⟨tg,iter,[],0⟩] scope pos) (YD cap wi g te):=λY s Z H Q I h=>Ex N cap e b f i j l I h LS
def LU (N)(cap)(e:X.calm=true)(a:KC scope X.env N X.N cap=true)(f:PI X tg iter wi)(h:∀b C s H d,PG (JO X scope N b C s H d) tg g)(j:∀b C s H d,PE (JO X scope N b C s H d) elt te)
 (i:∀x,foldedSetIterable iter X.env x=pure x:=by intro _;rfl):PE X (.ListComp elt [⟨tg,iter,[],0⟩] scope pos) (YD cap wi g te):=Ey N cap e a f h () i
end
section
variable {X:Cx}
def LV:jH X (.builtin "isinstance") (λxs H Q=>∃x n t b,xs=[x,.ty n]/\TyOf X.K H x t/\W.kitOne X.K t (.type n)=some b/\Q (.bl b) H):=by
 intro Y s Z H xs us Q I r h;obtain⟨x,n,t,b,rfl,a,e,q⟩:=h;obtain⟨u,f,rfl,c,d⟩:=DT r;obtain rfl:=d;exact IZ I c a e λtk=>⟨.bl b,H,I.tok tk,rfl,q⟩
def za (P:Program)(w:World)(K:W.Frag)(c:Yc)(a:Heap)(b:Str)(k:Nat)(ps:Yh)(sp:Sp):Prop:=
 ∃f d,FnOk P w K c a xa k f d ps sp/\y4 K d ps []/\W.keepIn K (.ref f)=true/\c b=some (.ref f)
theorem za.mono {P:Program}{w:World}{K:W.Frag}{d:Yc}{a:Heap}{b:Str}{j k:Nat}{ps:Yh}{sp:Sp}(c:za P w K d a b j ps sp)(h:j<=k):za P w K d a b k ps sp:=by
 obtain⟨f,e,F,r⟩:=c;exact⟨f,e,F.mono h,r⟩
def X4 (c:za X.prog X.w X.K X.mg X.base name k ps sp)(g:Room k X.A)(h:Gl X name)(i:PA X (e::es) t)
 (a:(name == ("__debug__" : Str))=false:=by decide) (j:starEach (e::es) X.env=(false,eval e X.env)::starEach es X.env:=by rfl) (d:(backTo pos (starEach es X.env)).any (·.1)=false:=by rfl):
 PE X (.Call (.Name name p) (e::es) [] pos) (BD sp [] E0 t):=by
 obtain⟨f,n,F,b,l,m⟩:=c;exact Ea F g h m l b .nil Am i a j d
end
def KO (h:H p=none)(o):Tx H (upd H p o):=λb u q=>by rwa [Jz (QP q h)]
def small (h:n<=1000):n<=sizeLine:=Zz (Et h)
def Ap (o)(s:Tx H H')(h:H l=none):Tx H (upd H' l o):=λb u e=>by
 rw[Jz (QP e h)];exact s b u e
def JU:bootBuiltins "len" = some (.builtin "len"):=boot_len
def LW:bootBuiltins "min" = some (.builtin "min"):=boot_min
def Ez:bootBuiltins "isinstance" = some (.builtin "isinstance"):=boot_isinstance
def LX:bootBuiltins "sum" = some (.builtin "sum"):=boot_sum
def LY:bootBuiltins "int" = some (.type "int"):=boot_int
def E1:bootBuiltins "str" = some (.type "str"):=boot_str
def YF:bootBuiltins "list" = some (.type "list"):=boot_list
def E2:bootBuiltins "tuple" = some (.type "tuple"):=boot_tuple
def bt_set:bootBuiltins "set" = some (.type "set"):=boot_set
def yu (r:Jr):Prop:=(r.map (·.1)).Nodup
open PySem PyProof.Rows
def gx (a:Array Nat)(k:Nat):Nat:=(a[k]?).getD 0
section
variable {X:Cx}{tg iter elt c:Expr}{scope:Scope}{pos:Pos}{wi:TI}{g:TG}{te:TE}{tt:TT}
def LZ (N)(cap)(o:X.calm=true)(j:KC scope X.env N X.N cap=true)(p:PI X tg iter wi)(r:∀a C s H d,PG (JO X scope N a C s H d) tg g)(t:∀a C s H d,PT (JO X scope N a C s H d) c tt)(u:∀a C s H d,PE (JO X scope N a C s H d) elt te)
 (v:∀x,foldedSetIterable iter X.env x=pure x) {use:Option (Value->Sem Unit)} {R:Ya} {f:Pos} {Y:Yb} {s:Shared} {Z: St} {H:Hp} {Q:VK} (I:Inv X Y Z H s) (h:Ao cap wi g tt te Z H Q) (l:YE X Y Z Q use R):
 Yv X (comprehension (.ListComp elt [⟨tg,iter,[c],0⟩] scope pos) scope X.env f (newList []) false (eval iter X.env) use) R X.xe s:=
 Ew (test:=λenv R Q s=>Yv X (isTrue c env (eval c env)) Q (notedBy (model X.prog X.w) X.A env λe s'=>R (.error e) s') s) N (λI i n h=>W.kct_loop I i n h)
  (λa C s H d _ _ _ _ _ _ _ _ m I q k=>Zc (t a C s H d _ _ _ _ _ I q) (λb w z=>by obtain⟨y,A,B⟩:=z;exact k b w y A B) λe s' hx=>Zc hx (λ_ E z=>m _ _ z) λ_ _ z=>m _ _ z) cap o j p r (λa C s H d _=>u a C s H d) v I h l
end
section
variable {X:Cx}
def YG (a d:Addr):HO:=.ext λh=>h.IsItemsView a d
def Ma:vk X "dict.items" (λx c H Q=>∃d a,x=.ref d/\c=[]/\H d=some (.dK a)/\∀p,H p=none->Q (.ref p) (upd H p (YG p d))):=by
 intro Y s Z H x c v us Q I f g h;obtain⟨d,a,rfl,rfl,i,q⟩:=h;obtain rfl:=f;obtain rfl:=yR g;obtain⟨z,lo,ws,j,dd⟩:=Ak I.hok i;exact call_meetsIn PySem.F.slot_dict_items dd.typeIs PySem.F.entry_dict_items (PySem.F.args_dict_items_1 _) (meets_dict_items (Qy X.prog X.w) d lo) ⟨⟨ws,dd⟩,⟨.ref s.heap.objs.size,upd H s.heap.objs.size (YG s.heap.objs.size d),I.laid (λb o e=>Zq _ e) (Zf _) (⟨⟨_,Zr _ rfl,rfl,rfl⟩,⟨_,Zr _ rfl⟩,λl m z kk=>have ⟨o,e,r⟩:=z;⟨o,kk o e,r⟩⟩),rfl,q _ (I.hok.fresh (Zf _))⟩⟩
end
def jw:Option Int->Option Int->Option Int
 |none,b=>b
 |some x,none=>some x
 |some x,some y=>some (if x > y then x else y)
end L2
namespace L2.DL
def BP {c:Prop}{_:Decidable c}{α: Type}{a z:α}(h:(if c then some a else none)=some z):c/\a=z:=()
inductive D where
 |non|bl (b:Bool)|int (i:Int)|str (x:Str)|ty (n:String)|scr (ns:Yf)
 |tup (ds:List D)|lst (ds:List D)|dct (ks:List TM) (ds:List D)|ins (c:Str) (fs:Yh) (ds:List D)
 |exc (c:Str)|ucl (c:Str)
 |adr (a:Addr)|dcf (ks:List TM) (ds:List D)
 |pin (a:Addr) (d:D)
abbrev _root_.Yt:=List D
abbrev _root_.Yu:=Option D
inductive Res (α: Type) where
 |ok (a:α)|ex (c:Str) (fs:Yt)|no
noncomputable def Res.bind {α β: Type}(r:Res α)(g:α -> Res β):Res β:= match r with
 | .ok a=>g a
 | .ex c fs=>.ex c fs
 | .no=>.no
def Res.need {α: Type}(r:Res α)(p:α -> Prop)(q:Str->Yt->Prop):Prop:=match r with
 | .ok a=>p a
 | .ex c fs=>q c fs
 | .no=>False
@[simp]theorem Res.bind_ok {α β: Type}(a)(g:α -> Res β):(Res.ok a).bind g=g a:=rfl
@[simp]def Res.bind_ex {α β: Type}(c)(fs)(g:α -> Res β):(Res.ex c fs:Res α).bind g=.ex c fs:=rfl
def Res.need_bind {α β: Type}{r:Res α}{g:α -> Res β}{p:β -> Prop}(h:(r.bind g).need p q):r.need (λa=>(g a).need p q) q:=by
 cases r<;>exact h
def Res.need.mono {α: Type}{r:Res α}{p b: α -> Prop}(h:r.need p q)(hp:∀a,p a->b a)(d:∀c fs,q c fs->q' c fs):r.need b q':=by
 cases r with
 |ok a=>exact hp a h
 |ex c fs=>exact d c fs h
 |no=>exact h
def Res.need.monoE {α: Type}{r:Res α}{p b: α -> Prop}(h:r.need p q)(hp:∀a,r=.ok a->p a->b a)(d:∀c fs,q c fs->q' c fs):r.need b q':=by
 cases r with
 |ok a=>exact hp a rfl h
 |ex c fs=>exact d c fs h
 |no=>exact h
def fx (C x:Addr):HO:=.ext λh=>∃o,h.get? x=some o/\o.cls=.ref C
def xB (_:W.Frag)(H:Hp)(a:Addr)(xs:Yr):Prop:=H a=some (.tup xs)
def xB.same {K:W.Frag}{H b:Hp}{a:Addr}{xs:Yr}(e:Tx H b)(h:xB K H a xs):xB K b a xs:=e _ _ h
def xB.of {K:W.Frag}{H:Hp}{a:Addr}{xs:Yr}(h:H a=some (.tup xs)):xB K H a xs:=h
def xB.sq {K:W.Frag}{H:Hp}{a:Addr}{xs:Yr}(h:xB K H a xs):qX K H a xs:=qX.of h
def qL (_:W.Frag)(H:Hp)(a:Addr)(xs:Yr):Prop:=Rd H a (.lst xs)
def qL.same {K:W.Frag}{H b:Hp}{a:Addr}{xs:Yr}(e:Tx H b)(h:qL K H a xs):qL K b a xs:=h.imp (λq=>e _ _ q) λ⟨o,q⟩=>⟨o,e _ _ q⟩
def qL.of {K:W.Frag}{H:Hp}{a:Addr}{xs:Yr}(h:H a=some (.lst xs)):qL K H a xs:=.inl h
def qL.sq {K:W.Frag}{H:Hp}{a:Addr}{xs:Yr}(h:qL K H a xs):jL K H a xs:=.inl h
section
variable (K:W.Frag)
mutual
def IsD (H:Hp):D->V->Prop
 | .non,v=>v=.non
 | .bl b,v=>v=.bl b
 | .int i,v=>v=.int i
 | .str x,v=>v=.str x
 | .ty n,v=>v=.ty n
 | .scr ns,v=>∃a,v=.ref a/\jL K H a (ns.map V.int)
 | .tup ds,v=>∃a xs,v=.ref a/\xB K H a xs/\IsDs H ds xs
 | .lst ds,v=>∃a xs,v=.ref a/\qL K H a xs/\IsDs H ds xs
 | .dct ks ds,v=>∃a xs,v=.ref a/\H a=some (.dK (ks.zip xs))/\ks.length=xs.length/\IsDs H ds xs
 | .ins c fs ds,v=>∃a C e xs,v=.ref a/\W.nsIn K mainGlobals c=some (some (.ref C))/\H a=some (.ins C e (fs.zip xs))/\fs.length=xs.length/\IsDs H ds xs
 | .exc c,v=>∃a C,v=.ref a/\W.nsIn K mainGlobals c=some (some (.ref C))/\H a=some (fx C a)
 | .ucl c,v=>∃C,v=.ref C/\W.nsIn K mainGlobals c=some (some (.ref C))
 | .adr a,v=>v=.ref a
 | .dcf ks ds,v=>∃a o xs,v=.ref a/\H a=some (.frz o (.dK (ks.zip xs)))/\ks.length=xs.length/\IsDs H ds xs
 | .pin a d,v=>v=.ref a/\IsD H d v
def IsDs (H:Hp):Yt->Yr->Prop
 | [],xs=>xs=[]
 |d::ds,xs=>∃x r,xs=x::r/\IsD H d x/\IsDs H ds r
end
end
section
variable {K:W.Frag}{H H':Hp}
def TH:IsD K H .non v↔v=.non:=.rfl
def Tz:IsD K H (.bl b) v↔v=.bl b:=.rfl
def Tr:IsD K H (.int i) v↔v=.int i:=.rfl
def IsD.str_iff:IsD K H (.str x) v↔v=.str x:=.rfl
def qB:IsD K H (.ty n) v↔v=.ty n:=.rfl
def je:IsD K H (.scr ns) v↔∃a,v=.ref a/\jL K H a (ns.map V.int):=.rfl
theorem Tt:IsD K H (.tup ds) v↔∃a xs,v=.ref a/\xB K H a xs/\IsDs K H ds xs:=.rfl
theorem Tw:IsD K H (.lst ds) v↔∃a xs,v=.ref a/\qL K H a xs/\IsDs K H ds xs:=.rfl
def TX:IsD K H (.dct ks ds) v↔∃a xs,v=.ref a/\H a=some (.dK (ks.zip xs))/\ks.length=xs.length/\IsDs K H ds xs:=.rfl
def jh:IsD K H (.ins c fs ds) v↔∃a C b xs,v=.ref a/\W.nsIn K mainGlobals c=some (some (.ref C))/\H a=some (.ins C b (fs.zip xs))/\fs.length=xs.length/\IsDs K H ds xs:=.rfl
def ql:IsD K H (.exc c) v↔∃a C,v=.ref a/\W.nsIn K mainGlobals c=some (some (.ref C))/\H a=some (fx C a):=.rfl
def xZ:IsD K H (.ucl c) v↔∃C,v=.ref C/\W.nsIn K mainGlobals c=some (some (.ref C)):=.rfl
def TR:IsD K H (.adr a) v↔v=.ref a:=.rfl
def jG:IsD K H (.dcf ks ds) v↔∃a o xs,v=.ref a/\H a=some (.frz o (.dK (ks.zip xs)))/\ks.length=xs.length/\IsDs K H ds xs:=.rfl
def jF:IsD K H (.pin a d) v↔v=.ref a/\IsD K H d v:=.rfl
def IsDs.nil_iff:IsDs K H [] xs↔xs=[]:=.rfl
theorem Tv:IsDs K H (d::ds) xs↔∃x r,xs=x::r/\IsD K H d x/\IsDs K H ds r:=.rfl
mutual
theorem IsD.same (e:Tx H H'):∀d v,IsD K H d v->IsD K H' d v
 | .non,_,h=>h
 | .bl _,_,h=>h
 | .int _,_,h=>h
 | .str _,_,h=>h
 | .ty _,_,h=>h
 | .scr _,_,h=>by
  obtain⟨a,b,f⟩:=je.mp h;exact je.mpr ⟨a,b,Tx.seq e f⟩
 | .tup ds,_,h=>by
  obtain⟨a,xs,b,f,g⟩:=Tt.mp h;exact Tt.mpr ⟨a,xs,b,f.same e,IsDs.same e ds xs g⟩
 | .lst ds,_,h=>by
  obtain⟨a,xs,b,f,g⟩:=Tw.mp h;exact Tw.mpr ⟨a,xs,b,f.same e,IsDs.same e ds xs g⟩
 | .dct ks ds,_,h=>by
  obtain⟨a,xs,b,f,i,g⟩:=TX.mp h;exact TX.mpr ⟨a,xs,b,e _ _ f,i,IsDs.same e ds xs g⟩
 | .ins c fs ds,_,h=>by
  obtain⟨a,C,j,xs,b,l,f,i,g⟩:=jh.mp h;exact jh.mpr ⟨a,C,j,xs,b,l,e _ _ f,i,IsDs.same e ds xs g⟩
 | .exc _,_,h=>by
  obtain⟨a,C,b,f,g⟩:=ql.mp h;exact ql.mpr ⟨a,C,b,f,e _ _ g⟩
 | .ucl _,_,h=>h
 | .adr _,_,h=>h
 | .dcf ks ds,_,h=>by
  obtain⟨a,o,xs,b,f,i,g⟩:=jG.mp h;exact jG.mpr ⟨a,o,xs,b,e _ _ f,i,IsDs.same e ds xs g⟩
 | .pin a d,v,h=>jF.mpr ⟨(jF.mp h).1,IsD.same e d v (jF.mp h).2⟩
theorem IsDs.same (e:Tx H H'):∀ds xs,IsDs K H ds xs->IsDs K H' ds xs
 | [],_,h=>h
 |d::ds,_,h=>have ⟨x,r,a,b,c⟩:=Tv.mp h;Tv.mpr ⟨x,r,a,IsD.same e d x b,IsDs.same e ds r c⟩
end
def IsDs.mk (h:IsD K H d x)(r:IsDs K H ds xs):IsDs K H (d::ds) (x::xs):=Tv.mpr ⟨x,xs,rfl,h,r⟩
def IsDs.nil:IsDs K H [] []:=IsDs.nil_iff.mpr rfl
theorem IsDs.length:∀{ds:Yt} {xs:Yr},IsDs K H ds xs->xs.length=ds.length
 | [],xs,h=>by simp_all [IsDs.nil_iff]
 |d::ds,xs,h=>by
  obtain⟨x,r,rfl,_,a⟩:=h;rw[Zu,Zu,IsDs.length a]
theorem IsDs.get:∀{ds:Yt} {xs:Yr} {i:Nat} {d:D},IsDs K H ds xs->ds[i]? = some d->∃x,xs[i]? = some x/\IsD K H d x
 | [],_,_,_,_,e=>Jy e
 |d::ds,xs,i,e,h,q=>by
  obtain⟨x,r,rfl,b,a⟩:=h;cases i with
  |zero=>simp_all
  |succ i=>exact IsDs.get (i:=i) a q
def IsDs.getV {ds:Yt}{xs:Yr}{i:Nat}{x:V}(h:IsDs K H ds xs)(q:xs[i]? = some x):∃d,ds[i]? = some d/\IsD K H d x:=by
 have b:=h.length;have a:i<ds.length:=();obtain⟨y,c,e⟩:=h.get (Zqg a)
 simp_all
theorem IsDs.append:∀{ds es:Yt} {xs a:Yr},IsDs K H ds xs->IsDs K H es a->IsDs K H (ds++es) (xs++a)
 | [],_,xs,_,h,h'=>by simp_all [IsDs.nil_iff]
 |d::ds,_,xs,_,h,h'=>by
  obtain⟨x,r,rfl,b,c⟩:=h;exact IsDs.mk b (IsDs.append c h')
def IsDs.snoc (h:IsDs K H ds xs)(h':IsD K H d x):IsDs K H (ds++[d]) (xs++[x]):=h.append (.mk h' .nil)
theorem IsDs.set:∀n {ds:Yt} {xs:Yr} {d:D} {x:V},IsDs K H ds xs->IsD K H d x->IsDs K H (ds.set n d) (xs.set n x)
 |_,[],xs,_,_,h,_=>by simp_all [IsDs.nil_iff]
 | 0,d::ds,xs,_,_,h,q=>by
  grind[Tv]
 |n+1,d::ds,xs,_,_,h,q=>by
  obtain⟨x,r,rfl,a,b⟩:=h;exact IsDs.mk a (IsDs.set n b q)
theorem jS:∀(a:Yf),IsDs K H (a.map D.int) (a.map V.int)
 | []=>.nil
 |n::a=>.mk (Tr.mpr rfl) (jS a)
theorem qy:∀{a:Yf} {xs:Yr},IsDs K H (a.map D.int) xs->xs=a.map V.int
 | [],_,h=>IsDs.nil_iff.mp h
 |n::a,xs,h=>by
  obtain⟨x,r,rfl,b,c⟩:=h;rw[b,qy c];rfl
end
structure Ext (F H F' H':Hp):Prop where
 ff:Tx F F'
 fh:Tx F' H'
 hh:Tx H H'
 new:∀a,F a=none->H a≠none->F' a=none
theorem Ext.refl (h:Tx F H):Ext F H F H:=⟨.refl _,h,.refl _,λ_ e _=>e⟩
theorem Ext.trans (a:Ext F H F1 H1)(b:Ext F1 H1 F2 H2):Ext F H F2 H2:=
 ⟨a.ff.trans b.ff,b.fh,a.hh.trans b.hh,λx e n=>b.new x (a.new x e n) (by
  cases q:H x with
  |none=>exact Zn q n
  |some o=>rw[a.hh _ _ q];simp)⟩
def Qs (h:Tx F H)(hp:H p=none):F p=none:=h.free hp
def jo (h:Tx F H)(hp:H p=none)(o):Ext F H (upd F p o) (upd H p o):=
 ⟨KO (h.free hp) o,λb u e=>by
  by_cases q:b=p
  .simp_all [JC]
  .rw[Jz q] at e ⊢;exact h _ _ e,KO hp o,λa e n=>by
  have q:a≠p:=by grind
  rwa [Jz q]⟩
def Ext.keep (h:Tx F H)(hp:H p=none)(o):Ext F H F (upd H p o):=
 ⟨.refl _,h.trans (KO hp o),KO hp o,λ_ e _=>e⟩
def Ext.grow (h:Tx F H)(a:Tx H H'):Ext F H F H':=⟨.refl _,h.trans a,a,λ_ e _=>e⟩
inductive SV where
 |val (d:D)|own (p:Bool) (d:D)
structure Bs where
 F0:Hp
 H0:Hp
 pa:Nat->Option (Addr×Yr)
abbrev SD:=List (Option SV)
def xS (K:W.Frag)(F H:Hp)(l:Addr):D->Prop
 | .lst ds=>∃xs,H l=some (.lst xs)/\IsDs K F ds xs
 | .dct ks ds=>∃xs,H l=some (.dK (ks.zip xs))/\ks.length=xs.length/\IsDs K F ds xs
 | .ins c fs ds=>∃C a xs,W.nsIn K mainGlobals c=some (some (.ref C))/\H l=some (.ins C a (fs.zip xs))/\fs.length=xs.length/\IsDs K F ds xs
 |_=>False
def xS.has {K:W.Frag}{F H:Hp}{l:Addr}{d:D}(h:xS K F H l d):∃o,H l=some o:=by
 cases d with
 |lst ds=>have ⟨xs,e,_⟩:=h;exact⟨_,e⟩
 |dct ks ds=>have ⟨xs,e,_⟩:=h;exact⟨_,e⟩
 |ins c fs ds=>have ⟨C,a,xs,_,e,_⟩:=h;exact⟨_,e⟩
 |_=>exact False.elim h
def xS.ext {K:W.Frag}{F H f g:Hp}{l:Addr}{d:D}(h:xS K F H l d)(a:Tx F f)(b:∀o,H l=some o->g l=some o):xS K f g l d:=by
 cases d with
 |lst ds=>have ⟨xs,e,q⟩:=h;exact⟨xs,b _ e,IsDs.same a _ _ q⟩
 |dct ks ds=>obtain⟨xs,e,z,q⟩:=h;exact⟨xs,b _ e,z,IsDs.same a _ _ q⟩
 |ins c fs ds=>obtain⟨C,i,xs,k,e,z,q⟩:=h;exact⟨C,i,xs,k,b _ e,z,IsDs.same a _ _ q⟩
 |_=>exact False.elim h
def xS.frz {K:W.Frag}{F H:Hp}{l:Addr}{d:D}{o:HO}(h:xS K F H l d)(e:H l=Option.some o)(n:F l=none):IsD K (upd F l o) d (.ref l):=by
 cases d with
 |lst ds =>
  have ⟨xs,a,q⟩:=h;rw[e] at a;obtain rfl:=Zqi a;exact Tw.mpr ⟨l,xs,rfl,.of JC,IsDs.same (KO n _) _ _ q⟩
 |dct ks ds =>
  obtain⟨xs,a,z,q⟩:=h;rw[e] at a;obtain rfl:=Zqi a;exact TX.mpr ⟨l,xs,rfl,JC,z,IsDs.same (KO n _) _ _ q⟩
 |ins c fs ds =>
  obtain⟨C,b,xs,k,a,z,q⟩:=h;rw[e] at a;obtain rfl:=Zqi a;exact jh.mpr ⟨l,C,b,xs,rfl,k,JC,z,IsDs.same (KO n _) _ _ q⟩
 |_=>exact False.elim h
def f4 (H:Hp)(l:Addr)(o:Option (Addr×Yr)):Prop:=∃xs,o=some (l,xs)/\H l=some (.lst xs)
structure RS (K:W.Frag)(B:Bs)(F H:Hp)(sd:SD)(Z: St):Prop where
 ext:Ext B.F0 B.H0 F H
 len:Z.length=sd.length
 val:∀{i:Nat} {d:D},sd[i]? = some (~~~d)->∃v,Z[i]? = some (some v)/\IsD K F d v
 own:∀{i:Nat} {p:Bool} {d:D},sd[i]? = some (some (.own p d))->∃l,Z[i]? = some (some (.ref l))/\B.H0 l=none/\F l=none/\xS K F H l d/\(p=true->f4 H l (B.pa i))
 apart:∀{i j:Nat} {p q:Bool} {d e:D} {l:Addr},i≠j->sd[i]? = some (some (.own p d))->sd[j]? = some (some (.own q e)) -> Z[i]? = some (some (.ref l)) -> Z[j]? ≠ some (some (.ref l))
section
variable {K:W.Frag}{B:Bs}{F H F' H':Hp}{sd:SD}{Z: St}
def f4.mono (h:f4 H l o)(k:∀u,H l=some u->H' l=some u):f4 H' l o:=let ⟨xs,h1,h2⟩:=h;⟨xs,h1,k _ h2⟩
def RS.step (r:RS K B F H sd Z)(e:Ext F H F' H'):RS K B F' H' sd Z where
 ext:=r.ext.trans e
 len:=r.len
 val:=λh=>let ⟨v,a,b⟩:=r.val h;⟨v,a,IsD.same e.ff _ _ b⟩
 own:=λh=>by
  obtain⟨l,a,b,d,c,f⟩:=r.own h;obtain⟨o,g⟩:=c.has;exact⟨l,a,b,e.new l d (),c.ext e.ff λo q=>e.hh _ _ q,λp=>(f p).mono λu q=>e.hh _ _ q⟩
 apart:=r.apart
def QC {α: Type}{l:List α}{a:α}(h:i≠j):(l.set i a)[j]? = l[j]?:= Zx h
def KD {α: Type}{l:List α}{a b:α}(h:(l.set i a)[i]? = some b):b=a/\i<l.length:=()
def RS.setVal (r:RS K B F H sd Z)(h:IsD K F d v):RS K B F H (sd.set i (~~~d)) (Z.set i (some v)) where
 ext:=r.ext
 len:=by rw[UI,UI,r.len]
 val:=λ{j e} q=>by
  by_cases z:i=j
  .subst z;obtain⟨a,o⟩:=KD q;cases a;exact⟨v,UN (by rwa [r.len]),h⟩
  .rw[QC z] at q ⊢;exact r.val q
 own:=λ{j p e} q=>by
  by_cases z:i=j
  .subst z;obtain⟨a,_⟩:=KD q;cases a
  .rw[QC z] at q ⊢;exact r.own q
 apart:=λ{j k s t u w l} n b c f=>by
  have g:i≠j:=λz=>by subst z;obtain⟨a,_⟩:=KD b;cases a
  have m:i≠k:=λz=>by subst z;obtain⟨a,_⟩:=KD c;cases a
  rw[QC g] at b f;rw[QC m] at c ⊢;exact r.apart n b c f
def RS.setOwn (r:RS K B F H sd Z)(u:B.H0 l=none)(v:F l=none)(h:xS K F H l d)(g:∀(j:Nat) p e,sd[j]? = some (some (SV.own p e)) -> Z[j]? ≠ some (some (.ref l))):
 RS K B F H (sd.set i (some (.own false d))) (Z.set i (some (.ref l))) where
 ext:=r.ext
 len:=by rw[UI,UI,r.len]
 val:=λ{j e} q=>by
  by_cases z:i=j
  .subst z;obtain⟨f,_⟩:=KD q;cases f
  .rw[QC z] at q ⊢;exact r.val q
 own:=λ{j p e} q=>by
  by_cases z:i=j
  .subst z;obtain⟨f,o⟩:=KD q;cases f;exact⟨l,UN (by rwa [r.len]),u,v,h,λz=>by cases z⟩
  .rw[QC z] at q ⊢;exact r.own q
 apart:=λ{j k w x y A m} n c a b=>by
  by_cases s:i=j
  .subst s;obtain⟨_,o⟩:=KD c;rw[QC n] at a ⊢;rw[UN (by rwa [r.len])] at b;cases b;exact g k x A a
  .rw[QC s] at c b;by_cases t:i=k
   .subst t;obtain⟨_,o⟩:=KD a;rw[UN (by rwa [r.len])];intro e;cases e;exact g j w y c b
   .rw[QC t] at a ⊢;exact r.apart n c a b
def RS.chg {i:Nat}{p:Bool}{d d':D}{l:Addr}{o:HO}(r:RS K B F H sd Z)(a:sd[i]? = some (some (.own p d)))(b:Z[i]? = some (some (.ref l)))(h:xS K F (upd H l o) l d'):
 RS K B F (upd H l o) (sd.set i (some (.own false d'))) Z:= by
 obtain⟨N,c,t,v,_,_⟩:=r.own a;rw[b] at c;cases c;have w:i<sd.length:=by grind
 refine⟨⟨r.ext.ff,Ap o r.ext.fh v,Ap o r.ext.hh t,r.ext.new⟩,by rw[UI,r.len],λ{j e} q=>?_,λ{j p e} q=>?_,λ{j k f s O P m} n x y A=>?_⟩
 .by_cases z:i=j
  .simp_all
  .rw[QC z] at q;exact r.val q
 .by_cases z:i=j
  .simp_all
  .rw[QC z] at q;obtain⟨m,C,E,G,I,J⟩:=r.own q;have ne:m≠l:=λe=>r.apart z a q b (by rwa [<- e]);exact⟨m,C,E,G,I.ext (.refl _) λu q'=>by rwa [Jz ne],λp=>(J p).mono λu q'=>by rwa [Jz ne]⟩
 .have g:∀{j:Nat} {p:Bool} {e:D},(sd.set i (some (.own false d')))[j]? = some (some (.own p e))->∃L M,sd[j]? = some (some (.own L M)):=by grind
  have ⟨_,_,f⟩:=g x;have ⟨_,_,s⟩:=g y;exact r.apart n f s A
def RS.frz1 (r:RS K B F H sd Z)(h:sd[i]? = some (some (.own p d))):∃F',Tx F F'/\RS K B F' H (sd.set i (~~~d)) Z:= by
 obtain⟨l,s,P,t,w,_⟩:=r.own h;obtain⟨o,e⟩:=w.has;have y:i<sd.length:=();have c:=KO t o;refine⟨upd F l o,c,⟨r.ext.ff.trans c,λb u q=>?_,r.ext.hh,λa f g=>?_⟩,by rw[UI,r.len],λ{j x} q=>?_,λ{j p x} q=>?_,λ{j k Q R S T m} n f g A=>?_⟩
 .by_cases z:b=l
  .simp_all [JC]
  .rw[Jz z] at q;exact r.ext.fh _ _ q
 .have z:a≠l:=by grind
  rw[Jz z];exact r.ext.new a f g
 .by_cases z:i=j
  .subst z;obtain⟨C,_⟩:=KD q;cases C;exact⟨_,s,w.frz e t⟩
  .rw[QC z] at q;have ⟨v,E,G⟩:=r.val q;exact⟨v,E,IsD.same c _ _ G⟩
 .by_cases z:i=j
  .simp_all
  .rw[QC z] at q;obtain⟨m,I,J,U,L,M⟩:=r.own q;have ne:m≠l:=λe=>r.apart z h q s (by rwa [<- e]);exact⟨m,I,J,by rwa [Jz ne],L.ext c λu q'=>q',M⟩
 .have N:i≠j:=λz=>by simp_all
  have O:i≠k:=λz=>by simp_all
  rw[QC N] at f;rw[QC O] at g;exact r.apart n f g A
def qj:Yg->SD->SD
 | [],sd=>sd
 |i::is,sd=>qj is (match sd[i]? with
  |some (some (.own _ d))=>sd.set i (~~~d)
  |_=>sd)
theorem RS.frz:∀is {F:Hp} {sd:SD},RS K B F H sd Z -> ∃F',Tx F F'/\RS K B F' H (qj is sd) Z
 | [],F,sd,r=>⟨F,.refl _,r⟩
 |i::is,F,sd,r=>by
  unfold qj
  split
  .rename_i p d h;obtain⟨g,a,b⟩:=r.frz1 h;obtain⟨c,e,f⟩:=RS.frz is b;exact⟨c,a.trans e,f⟩
  .exact RS.frz is r
end
def fy (K:W.Frag)(F H:Hp)(c:Str)(fs:Yt)(b:Value)(a:Option Addr):Prop:=
 ∃C,b=.ref C/\W.nsIn K mainGlobals c=some (some (.ref C))/\(fs=[]\/∃p n d x,fs=[d]/\a=some p/\H p=some (.xd [(n,x)])/\IsD K F d x)
def XW (K:W.Frag)(E:XK)(F H:Hp)(c:Str)(fs:Yt):Prop:=∀d a e b,Ext F H e b->fy K e b c fs d a->E d a b
def XW.ext {K:W.Frag}{E:XK}{F H b d:Hp}{c:Str}{fs:Yt}(h:XW K E F H c fs)(e:Ext F H b d):XW K E b d c fs:=λf a g i j q=>h f a g i (e.trans j) q
abbrev FE:=SD->Res D
abbrev FT:=SD->Res Bool
abbrev FA:=SD->Res Yt
def xu (K:W.Frag)(F H:Hp)(Q:VK)(d:D):Prop:=∀v a b,Ext F H a b->IsD K a d v->Q v b
def vj (F H:Hp)(Q:Bool->Hp->Prop)(b:Bool):Prop:=∀c a,Ext F H c a->Q b a
def nH (K:W.Frag)(F H:Hp)(Q:Yr->Hp->Prop)(ds:Yt):Prop:=∀a b c,Ext F H b c->IsDs K b ds a->Q a c
def xP (K:W.Frag)(F H:Hp)(Q:VK)(d:D):Prop:=∀l a b,Ext F H a b->H l=none->a l=none->xS K a b l d->Q (.ref l) b
def tD (K:W.Frag)(E:XK)(f:FE):TE:=λZ H Q=>∃B F sd,RS K B F H sd Z /\ (f sd).need (xu K F H Q) (XW K E F H)
def vD (K:W.Frag)(E:XK)(f:FT):TT:=λZ H Q=>∃B F sd,RS K B F H sd Z /\ (f sd).need (vj F H Q) (XW K E F H)
def nV (K:W.Frag)(E:XK)(f:FA):TA:=λZ H Q=>∃B F sd,RS K B F H sd Z /\ (f sd).need (nH K F H Q) (XW K E F H)
def wl (K:W.Frag)(E:XK)(f:FE):TE:=λZ H Q=>∃B F sd,RS K B F H sd Z /\ (f sd).need (xP K F H Q) (XW K E F H)
abbrev QE (X:Cx)(E:XK)(e:Expr)(f:FE):Prop:=PE X e (tD X.K E f)
abbrev QT (X:Cx)(E:XK)(e:Expr)(f:FT):Prop:=PT X e (vD X.K E f)
abbrev QW (X:Cx)(E:XK)(e:Expr)(f:FT):Prop:=PW X e (vD X.K E f)
abbrev QA (X:Cx)(E:XK)(es:Yj)(f:FA):Prop:=PA X es (nV X.K E f)
abbrev QN (X:Cx)(E:XK)(e:Expr)(f:FE):Prop:=PE X e (wl X.K E f)
def PE.weak (h:PE X e t)(w:∀Z H Q,t' Z H Q->t Z H Q):PE X e t':=λY s Z H Q I q=>h Y s Z H Q I (w _ _ _ q)
def PT.weak (h:PT X e t)(w:∀Z H Q,t' Z H Q->t Z H Q):PT X e t':=λY s Z H Q I q=>h Y s Z H Q I (w _ _ _ q)
def PW.weak (h:PW X e t)(w:∀Z H Q,t' Z H Q->t Z H Q):PW X e t':=λa Y s Z H Q I q=>h a Y s Z H Q I (w _ _ _ q)
def PA.weak (h:PA X e t)(w:∀Z H Q,t' Z H Q->t Z H Q):PA X e t':=λa Y s Z H Q I q=>h a Y s Z H Q I (w _ _ _ q)
def PS.weak (h:PS X e t)(w:∀D Z H,t' D Z H->t D Z H):PS X e t':=λY s Z H D I q=>h Y s Z H D I (w _ _ _ q)
def qx.weak (h:qx X e t)(w:∀D Z H,t' D Z H->t D Z H):qx X e t':=λY s Z H D I q=>h Y s Z H D I (w _ _ _ q)
def PI.weak (h:PI X tg e t)(w:∀Z H R,t' Z H R->t Z H R):PI X tg e t':=λY s Z H R I q=>h Y s Z H R I (w _ _ _ q)
section
variable {K:W.Frag}{E:XK}{F H F' H':Hp}
def xu.ext (h:xu K F H Q d)(e:Ext F H F' H'):xu K F' H' Q d:=λv a b c q=>h v a b (e.trans c) q
def vj.ext (h:vj F H Q b)(e:Ext F H F' H'):vj F' H' Q b:=λa c d=>h a c (e.trans d)
def xP.ext (h:xP K F H Q d)(e:Ext F H F' H'):xP K F' H' Q d:=λl a b c q=>h l a b (e.trans c) (Qs e.hh q)
def WY {Q:VK}{r:Res D}(h:r.need (xu K F H Q) (XW K E F H))(e:Ext F H F' H'):r.need (xu K F' H' Q) (XW K E F' H'):=h.mono (λ_ q=>q.ext e) λ_ _ q=>q.ext e
def E3 {Q:Bool->Hp->Prop}{r:Res Bool}(h:r.need (vj F H Q) (XW K E F H))(e:Ext F H F' H'):r.need (vj F' H' Q) (XW K E F' H'):=h.mono (λ_ q=>q.ext e) λ_ _ q=>q.ext e
def BQ {Q:VK}{r:Res D}(h:r.need (xP K F H Q) (XW K E F H))(e:Ext F H F' H'):r.need (xP K F' H' Q) (XW K E F' H'):=h.mono (λ_ q=>q.ext e) λ_ _ q=>q.ext e
theorem xu.new (h:xu K F H Q d):xP K F H Q d:=λl F' H' e n c o=>by
 obtain⟨u,f⟩:=o.has;refine h (.ref l) (upd F' l u) H' ⟨e.ff.trans (KO c u),λb v q=>?_,e.hh,λa g i=>?_⟩ (o.frz f c)
 .by_cases z:b=l
  .simp_all [JC]
  .rw[Jz z] at q;exact e.fh _ _ q
 .have z:a≠l:=by grind
  rw[Jz z];exact e.new a g i
end
section
variable {X:Cx}{E:XK}
def T9 (h:QN X E e f):QE X E e f:=PE.weak h λZ H Q ⟨B,F,sd,r,n⟩=>⟨B,F,sd,r,n.mono (λ_ q=>q.new) λ_ _ q=>q⟩
def Tn (i:Nat):FE:=λsd=>match sd[i]? with
 |some (~~~d)=>.ok d
 |_=>.no
def dC (d:D):FE:=λ_=>.ok d
def vZ (h:PE X e (xl i)):QE X E e (Tn i):=PE.weak h λZ H Q a=>by
 obtain⟨B,F,sd,r,n⟩:=a;unfold Tn at n
 split at n
 .rename_i d q;obtain⟨v,b,c⟩:=r.val q;exact⟨v,b,n v F H (.refl r.ext.fh) c⟩
 .exact n.elim
def X5 (h:PE X e (tC v))(i:∀F,IsD X.K F d v):QE X E e (dC d):=PE.weak h λZ H Q ⟨B,F,sd,r,n⟩=>n v F H (.refl r.ext.fh) (i F)
def Jv {i j pos}:QE X E (.Constant (.int i) j pos) (dC (.int i)):=X5 Ib λ_=>Tr.mpr rfl
def X6 {b j pos}:QE X E (.Constant (.bool b) j pos) (dC (.bl b)):=X5 uw λ_=>Tz.mpr rfl
def Wv {j pos}:QE X E (.Constant .none j pos) (dC .non):=X5 Ic λ_=>TH.mpr rfl
def JQ {x j pos}:QE X E (.Constant (.str x) j pos) (dC (.str x)):=X5 D9 λ_=>IsD.str_iff.mpr rfl
def Res.ofO {α: Type}:Option α -> Res α
 |some a=>.ok a
 |none=>.no
@[simp]def zZ {α: Type}(a:α):Res.ofO (some a)=.ok a:=rfl
def Tu {α: Type}{o:Option α}{p:α -> Prop}(h:(Res.ofO o).need p q):∃a,o=some a/\p a:=by
 cases o with
 |none=>exact h.elim
 |some a=>exact⟨a,rfl,h⟩
def Ts (g:D->D->Yu)(a b:FE):FE:=λsd=>(a sd).bind λx=>(b sd).bind λy=>.ofO (g x y)
def jb (g:D->Yu)(a:FE):FE:=λsd=>(a sd).bind λx=>.ofO (g x)
def zl (K:W.Frag)(g:D->D->Yu):R2:=λv w H Q=>∃F d e z,Tx F H/\IsD K F d v/\IsD K F e w/\g d e=some z/\xu K F H Q z
def vW (K:W.Frag)(g:D->D->Yu):R2:=λv w H Q=>∃F d e z,Tx F H/\IsD K F d v/\IsD K F e w/\g d e=some z/\xP K F H Q z
def bZ (K:W.Frag)(g:D->Yu):V->Hp->VK->Prop:=λv H Q=>∃F d z,Tx F H/\IsD K F d v/\g d=some z/\xu K F H Q z
def z6 (K:W.Frag)(g:Yt->Yu):Yr->Hp->VK->Prop:=λa H Q=>∃F ds z,Tx F H/\IsDs K F ds a/\g ds=some z/\xu K F H Q z
def vV (K:W.Frag)(g:Yt->Yu):Yr->Hp->VK->Prop:=λa H Q=>∃F ds z,Tx F H/\IsDs K F ds a/\g ds=some z/\xP K F H Q z
def YH {K:W.Frag}{g:D->D->Yu}{c d:FE}{Z: St}{H:Hp}{Q:VK}(h:tD K E (Ts g c d) Z H Q):wj (zl K g) (tD K E c) (tD K E d) Z H Q:=by
 obtain⟨B,F,sd,r,n⟩:=h;refine⟨B,F,sd,r,(Res.need_bind n).mono (λx e v f p a i=>⟨B,f,sd,r.step a,(Res.need_bind e).mono (λy j w l s b m=>?_) λ_ _ q=>q.ext a⟩) λ_ _ q=>q⟩;obtain⟨z,o,q⟩:=Tu j;exact⟨l,x,y,z,b.fh,IsD.same b.ff _ _ i,m,o,q.ext (a.trans b)⟩
def Mb {K:W.Frag}{g:D->D->Yu}{c d:FE}{Z: St}{H:Hp}{Q:VK}(h:wl K E (Ts g c d) Z H Q):wj (vW K g) (tD K E c) (tD K E d) Z H Q:=by
 obtain⟨B,F,sd,r,n⟩:=h;refine⟨B,F,sd,r,(Res.need_bind n).mono (λx e v f p a i=>⟨B,f,sd,r.step a,(Res.need_bind e).mono (λy j w l s b m=>?_) λ_ _ q=>q.ext a⟩) λ_ _ q=>q⟩;obtain⟨z,o,q⟩:=Tu j;exact⟨l,x,y,z,b.fh,IsD.same b.ff _ _ i,m,o,q.ext (a.trans b)⟩
def vB {K:W.Frag}{g:D->Yu}{a:FE}{Z: St}{H:Hp}{Q:VK}(h:tD K E (jb g a) Z H Q):ng (bZ K g) (tD K E a) Z H Q:=by
 obtain⟨B,F,sd,r,n⟩:=h;refine⟨B,F,sd,r,(Res.need_bind n).mono (λx c v d i b e=>?_) λ_ _ q=>q⟩;obtain⟨z,f,q⟩:=Tu c;exact⟨d,x,z,b.fh,e,f,q.ext b⟩
abbrev xt (X:Cx)(f:Value->Value->Sem Value)(g:D->D->Yu):Prop:=jE X f (zl X.K g)
abbrev gY (X:Cx)(f:Value->Value->Sem Value)(g:D->D->Yu):Prop:=jE X f (vW X.K g)
def jE.weak (h:jE X f r)(w:∀x y H Q,r' x y H Q->r x y H Q):jE X f r':=λY s Z H x y v u Q I a b q=>h Y s Z H x y v u Q I a b (w _ _ _ _ q)
def zV.weak (h:zV X f r)(w:∀x H Q,r' x H Q->r x H Q):zV X f r':=λY s Z H x v Q I a q=>h Y s Z H x v Q I a (w _ _ _ q)
def jH.weak (h:jH X f r)(w:∀x H Q,r' x H Q->r x H Q):jH X f r':=λY s Z H x v Q I a q=>h Y s Z H x v Q I a (w _ _ _ q)
def yA.weak (h:yA X r)(w:∀x y H Q,r' x y H Q->r x y H Q):yA X r':=λa b Y s Z H x y v u Q I c d q e=>h a b Y s Z H x y v u Q I c d (w _ _ _ _ q) e
variable {a b:Expr}{fa fb:FE}{pos:Pos}
def T4 (c:xt X (binaryOp op) g)(d:QE X E a fa)(e:QE X E b fb):QE X E (.BinOp a op b pos) (Ts g fa fb):=PE.weak (DM c d e) λ_ _ _ h=>YH h
def ub (c:gY X (binaryOp op) g)(d:QE X E a fa)(e:QE X E b fb):QN X E (.BinOp a op b pos) (Ts g fa fb):=PE.weak (DM c d e) λ_ _ _ h=>Mb h
def qS (c:zV X (unaryOp op) (bZ X.K g))(d:QE X E a fa):QE X E (.UnaryOp op a pos) (jb g fa):=PE.weak (uu c d) λ_ _ _ h=>vB h
def Ww (c:xt X (compareOp op) g)(d:QE X E a fa)(e:QE X E b fb)(f:behindInMarks op b=false):QE X E (.Compare a [op] [b] pos) (Ts g fa fb):=PE.weak (DR c d e f) λ_ _ _ h=>YH h
def Jx (fa:FE):FT:=λsd=>(fa sd).bind λx=>match x with
 | .bl b=>.ok b
 |_=>.no
def VE {K:W.Frag}{Z: St}{H:Hp}{Q:Bool->Hp->Prop}(h:vD K E (Jx fa) Z H Q):tD K E fa Z H (λx d=>∃k,x=.bl k/\Q k d):=by
 obtain⟨B,F,sd,r,n⟩:=h;refine⟨B,F,sd,r,(Res.need_bind n).mono (λx c v e f g i=>?_) λ_ _ q=>q⟩;cases x with
 |bl k=>exact⟨k,Tz.mp i,c e f g⟩
 |_=>exact c.elim
def Qf {c:CmpOp}{g:D->D->Yu}(d:xt X (compareOp c) g)(e:QE X E a fa)(f:QE X E b fb)(i:behindInMarks c b=false):QT X E (.Compare a [c] [b] pos) (Jx (Ts g fa fb)):=
 PT.weak (Aj d e f i) λZ H Q h=>have h:=VE h;YH h
def KP (d:QE X E a fa)(e:∀c,isTrue a X.env c=(do let v <- c;standAt a.pos;holding [v] (truthy v)):=by intro _;rfl):QT X E a (Jx fa):=PT.weak (DE d e) λZ H Q q=>VE q
def Q1 (f:FT):FT:=λsd=>(f sd).bind λb=>.ok (!b)
def Qv (f g:FT):FT:=λsd=>(f sd).bind λb=>if b then g sd else .ok false
def yO (f g:FT):FT:=λsd=>(f sd).bind λb=>if b then .ok true else g sd
variable {f g:FT}{rest:Yj}
def VF (c:QT X E a f):QT X E (.UnaryOp .Not a pos) (Q1 f):=PT.weak (DF c) λZ H Q ⟨B,F,sd,r,n⟩ =>
 ⟨B,F,sd,r,(Res.need_bind n).mono (λ_ q=>q) λ_ _ q=>q⟩
def VG (c:QT X E a f):QW X E (.BoolOp .And [a] pos) f:=Ij c
def E4 (c:QT X E a f):QW X E (.BoolOp .Or [a] pos) f:=Ik c
def KE (h:QT X E a f)(i:QW X E (.BoolOp .And (b::rest) pos) g):QW X E (.BoolOp .And (a::b::rest) pos) (Qv f g):=PW.weak (Il h i) λZ H Q j=>by
 obtain⟨B,F,sd,r,n⟩:=j;refine⟨B,F,sd,r,(Res.need_bind n).mono (λk d e l c=>?_) λ_ _ q=>q⟩;cases k with
 |true=>exact⟨B,e,sd,r.step c,E3 d c⟩
 |false=>exact d e l c
def Aq (h:QT X E a f)(i:QW X E (.BoolOp .Or (b::rest) pos) g):QW X E (.BoolOp .Or (a::b::rest) pos) (yO f g):=PW.weak (ug h i) λZ H Q j=>by
 obtain⟨B,F,sd,r,n⟩:=j;refine⟨B,F,sd,r,(Res.need_bind n).mono (λk d e l c=>?_) λ_ _ q=>q⟩;cases k with
 |true=>exact d e l c
 |false=>exact⟨B,e,sd,r.step c,E3 d c⟩
def jZ (h:QW X E e f):QT X E e f:=gW h
def WZ (fa fb:FE):FE:=λsd=>(Jx fa sd).bind λb=>if b then fb sd else .ok (.bl false)
def zR (fa fb:FE):FE:=λsd=>(Jx fa sd).bind λb=>if b then .ok (.bl true) else fb sd
def Ar {op}(h:QE X E a fa):QE X E (.BoolOp op [a] pos) fa:=DG h
def Au (j:QE X E a fa)(l:QE X E (.BoolOp .And (b::rest) pos) fb):QE X E (.BoolOp .And (a::b::rest) pos) (WZ fa fb):=PE.weak (DH j l) λZ H Q m=>by
 obtain⟨B,F,sd,r,n⟩:=m;refine VE (K:=X.K) (E:=E) (Q:=λc d=>if c=true then tD X.K E fb Z d Q else Q (.bl false) d) ⟨B,F,sd,r,(Res.need_bind n).mono (λk h i d e=>?_) λ_ _ q=>q⟩;cases k with
 |true=>exact⟨B,i,sd,r.step e,WY h e⟩
 |false=>exact h _ i d e (Tz.mpr rfl)
def ma (j:QE X E a fa)(l:QE X E (.BoolOp .Or (b::rest) pos) fb):QE X E (.BoolOp .Or (a::b::rest) pos) (zR fa fb):=PE.weak (uv j l) λZ H Q m=>by
 obtain⟨B,F,sd,r,n⟩:=m;refine VE (K:=X.K) (E:=E) (Q:=λc d=>if c=true then Q (.bl true) d else tD X.K E fb Z d Q) ⟨B,F,sd,r,(Res.need_bind n).mono (λk h i d e=>?_) λ_ _ q=>q⟩;cases k with
 |true=>exact h _ i d e (Tz.mpr rfl)
 |false=>exact⟨B,i,sd,r.step e,WY h e⟩
def wm (c:FT)(fa fb:FE):FE:=λsd=>(c sd).bind λk=>if k then fa sd else fb sd
def Av {c:Expr}(i:QT X E c f)(j:QE X E a fa)(l:QE X E b fb):QE X E (.IfExp c a b pos) (wm f fa fb):=PE.weak (Im i j l) λZ H Q m=>by
 obtain⟨B,F,sd,r,n⟩:=m;refine⟨B,F,sd,r,(Res.need_bind n).mono (λk e h o d=>?_) λ_ _ q=>q⟩;cases k with
 |true=>exact⟨B,h,sd,r.step d,WY e d⟩
 |false=>exact⟨B,h,sd,r.step d,WY e d⟩
def Tp:FA:=λ_=>.ok []
def Jt (fa:FE)(c:FA):FA:=λsd=>(fa sd).bind λx=>(c sd).bind λxs=>.ok (x::xs)
def Jw:QA X E [] Tp:=PA.weak WS λZ H Q ⟨B,F,sd,r,n⟩=>n [] F H (.refl r.ext.fh) .nil
def Ju (h:QE X E e fe)(i:QA X E es fr)(j:starEach (e::es) X.env=(false,eval e X.env)::starEach es X.env:=by rfl):QA X E (e::es) (Jt fe fr):=
 PA.weak (WT h i j) λZ H Q l=>by
  obtain⟨B,F,sd,r,n⟩:=l;refine⟨B,F,sd,r,(Res.need_bind n).mono (λx m v o y c p=>?_) λ_ _ q=>q⟩;refine⟨B,o,sd,r.step c,(Res.need_bind m).mono (λxs s z t u d w=>?_) λ_ _ q=>q.ext c⟩;exact s _ t u (c.trans d) (.mk (IsD.same d.ff _ _ p) w)
def jQ (c:FA):FE:=λsd=>(c sd).bind λxs=>if xs.length<=1000 then .ok (.lst xs) else .no
def jn (c:FA):FE:=λsd=>(c sd).bind λxs=>if xs.length<=1000 then .ok (.tup xs) else .no
def K5 (h:QA X E es fr):QN X E (.List es pos) (jQ fr):=PE.weak (DZ h) λZ H Q j=>by
 obtain⟨B,F,sd,r,n⟩:=j;refine⟨B,F,sd,r,(Res.need_bind n).mono (λxs d e l m c i=>?_) λ_ _ q=>q⟩
 split at d
 .rename_i o;have s:=i.length;refine⟨small (),λp hp=>?_⟩;exact d p l (upd m p (.lst e)) (c.trans (.keep c.fh hp _)) (Qs c.hh hp) (Qs c.fh hp) ⟨e,JC,i⟩
 .exact d.elim
def Kd {x1}(h:QA X E es fr):QE X E (.Tuple es x1 pos) (jn fr):=PE.weak (Lc h) λZ H Q l=>by
 obtain⟨B,F,sd,r,n⟩:=l;refine⟨B,F,sd,r,(Res.need_bind n).mono (λxs c d m o e i=>?_) λ_ _ q=>q⟩
 split at c
 .rename_i s;have t:=i.length;refine⟨small (),λp hp=>?_⟩;have j:=jo e.fh hp (.tup d);exact c _ _ _ (e.trans j) (Tt.mpr ⟨p,d,rfl,.of JC,IsDs.same j.ff _ _ i⟩)
 .exact c.elim
def qU (K:W.Frag)(c:Yt->Res D):Sp:=λd H Q _=>∃F ds,Tx F H/\IsDs K F ds d/\(c ds).need (xu K F H Q) (XW K E0 F H)
def zC (K:W.Frag)(c:Yt->Res D):Sp:=λd H Q _=>∃F ds,Tx F H/\IsDs K F ds d/\(c ds).need (xP K F H Q) (XW K E0 F H)
def J0 (c:Yt->Res D)(d:FA):FE:=λsd=>(d sd).bind c
def jj {d:Str}{k:Nat}{ps:Yh}{h:Yt->Res D}{p:Pos}{e:Expr}{es:Yj}{l:FA}(c:za X.prog X.w X.K X.mg X.base d k ps (qU X.K h))(o:Room k X.A)(s:Gl X d)(t:QA X E0 (e::es) l)
 (i:(d == ("__debug__" : Str))=false:=by decide) (u:starEach (e::es) X.env=(false,eval e X.env)::starEach es X.env:=by rfl) (j:(backTo pos (starEach es X.env)).any (·.1)=false:=by rfl):
 QE X E0 (.Call (.Name d p) (e::es) [] pos) (J0 h l):=PE.weak (X4 c o s t i u j) λZ H Q v=>by
 obtain⟨B,F,sd,r,n⟩:=v;refine⟨B,F,sd,r,(Res.need_bind n).mono (λxs w x y z m A=>?_) λ_ _ q=>q⟩;show qU X.K h (x++[]) z Q E0;rw[ZA];exact⟨y,xs,m.fh,A,WY w m⟩
def BR {d:Str}{k:Nat}{ps:Yh}{h:Yt->Res D}{p:Pos}{e:Expr}{es:Yj}{l:FA}(c:za X.prog X.w X.K X.mg X.base d k ps (zC X.K h))(o:Room k X.A)(s:Gl X d)(t:QA X E0 (e::es) l)
 (i:(d == ("__debug__" : Str))=false:=by decide) (u:starEach (e::es) X.env=(false,eval e X.env)::starEach es X.env:=by rfl) (j:(backTo pos (starEach es X.env)).any (·.1)=false:=by rfl):
 QN X E0 (.Call (.Name d p) (e::es) [] pos) (J0 h l):=PE.weak (X4 c o s t i u j) λZ H Q v=>by
 obtain⟨B,F,sd,r,n⟩:=v;refine⟨B,F,sd,r,(Res.need_bind n).mono (λxs w x y z m A=>?_) λ_ _ q=>q⟩;show zC X.K h (x++[]) z Q E0;rw[ZA];exact⟨y,xs,m.fh,A,BQ w m⟩
def T3 (g:Yt->Yu)(c:FA):FE:=λsd=>(c sd).bind λxs=>.ofO (g xs)
def JJ {id:String}{x:Str}{p:Pos}{e:Expr}{es:Yj}{g:Yt->Yu}{h:FA}(j:jH X (.builtin id) (z6 X.K g))(l:Gl X x)(m:X.mg x=none)(o:bootBuiltins x=some (.builtin id))(s:QA X E (e::es) h)(t:x ≠ "__name__" := by decide)(c:(x == ("__debug__" : Str))=false:=by decide)
 (u:starEach (e::es) X.env=(false,eval e X.env)::starEach es X.env:=by rfl) (d:(backTo pos (starEach es X.env)).any (·.1)=false:=by rfl):QE X E (.Call (.Name x p) (e::es) [] pos) (T3 g h):=
 PE.weak (Eh j l m o s t c u d) λZ H Q v=>by
  obtain⟨B,F,sd,r,n⟩:=v;refine⟨B,F,sd,r,(Res.need_bind n).mono (λxs w G y I i A=>?_) λ_ _ q=>q⟩;obtain⟨z,C,q⟩:=Tu w;exact⟨y,xs,z,i.fh,A,C,q.ext i⟩
def BS {T:String}{x:Str}{p:Pos}{e:Expr}{es:Yj}{g:Yt->Yu}{h:FA}(j:jH X (.type T) (z6 X.K g))(l:Gl X x)(m:X.mg x=none)(o:bootBuiltins x=some (.type T))(s:QA X E (e::es) h)(t:x ≠ "__name__" := by decide)(c:(x == ("__debug__" : Str))=false:=by decide)
 (u:starEach (e::es) X.env=(false,eval e X.env)::starEach es X.env:=by rfl) (d:(backTo pos (starEach es X.env)).any (·.1)=false:=by rfl):QE X E (.Call (.Name x p) (e::es) [] pos) (T3 g h):=
 PE.weak (BF j l m o s t c u d) λZ H Q v=>by
  obtain⟨B,F,sd,r,n⟩:=v;refine⟨B,F,sd,r,(Res.need_bind n).mono (λxs w G y I i A=>?_) λ_ _ q=>q⟩;obtain⟨z,C,q⟩:=Tu w;exact⟨y,xs,z,i.fh,A,C,q.ext i⟩
def YI {T:String}{x:Str}{p:Pos}{e:Expr}{es:Yj}{g:Yt->Yu}{h:FA}(j:jH X (.type T) (vV X.K g))(l:Gl X x)(m:X.mg x=none)(o:bootBuiltins x=some (.type T))(s:QA X E (e::es) h)(t:x ≠ "__name__" := by decide)(c:(x == ("__debug__" : Str))=false:=by decide)
 (u:starEach (e::es) X.env=(false,eval e X.env)::starEach es X.env:=by rfl) (d:(backTo pos (starEach es X.env)).any (·.1)=false:=by rfl):QN X E (.Call (.Name x p) (e::es) [] pos) (T3 g h):=
 PE.weak (BF j l m o s t c u d) λZ H Q v=>by
  obtain⟨B,F,sd,r,n⟩:=v;refine⟨B,F,sd,r,(Res.need_bind n).mono (λxs w G y I i A=>?_) λ_ _ q=>q⟩;obtain⟨z,C,q⟩:=Tu w;exact⟨y,xs,z,i.fh,A,C,q.ext i⟩
def Ki:D->Bool
 | .tup _=>false
 | .lst _=>false
 | .dct _ _=>false
 | .ins _ _ _=>false
 | .exc _=>false
 | .dcf _ _=>false
 | .pin _ _=>false
 | .scr _=>false
 |_=>true
def IsD.scal {K:W.Frag}{F c:Hp}{d:D}{v:V}(s:Ki d=true)(h:IsD K F d v):IsD K c d v:=by
 cases d with
 |tup _=>exact JI s
 |lst _=>exact JI s
 |dct _ _=>exact JI s
 |ins _ _ _=>exact JI s
 |exc _=>exact JI s
 |dcf _ _=>exact JI s
 |pin _ _=>exact JI s
 |scr _=>exact JI s
 |_=>exact h
def Res.bare {α: Type}(r:Res α):Res α:= match r with
 | .ok a=>.ok a
 | .ex c []=>.ex c []
 |_=>.no
def qw {α: Type}{K:W.Frag}{F H e:Hp}{r:Res α}{p:α -> Prop}(i:Tx F H)(h:r.bare.need p (XW K E0 F H)):r.need p (XW K E0 e H):=by
 cases r with
 |ok a=>exact h
 |no=>exact h
 |ex c fs =>
  cases fs with
  |nil=>exact λj a q l m ⟨C,n,o,_⟩=>h j none F l (.grow i m.hh) ⟨C,n,o,.inl rfl⟩
  |cons d r=>exact h.elim
def yN (is:Yg)(f:FE):FE:=λsd=>(f (qj is sd)).bare.bind λd=>if Ki d then .ok d else .no
def E5 {e:Expr}{j:FE}(is:Yg)(h:QE X E0 e j):QE X E0 e (yN is j):=PE.weak h λZ H Q l=>by
 obtain⟨B,F,sd,r,n⟩:=l;obtain⟨m,w,o⟩:=r.frz is;refine⟨B,m,_,o,(qw r.ext.fh (Res.need_bind n)).mono (λd i v x p s t=>?_) λc fs q=>q⟩
 split at i
 .rename_i u;exact i v F p (.grow r.ext.fh s.hh) (t.scal u)
 .exact i.elim
end
inductive Out where
 |next (sd:SD)|ret (d:D)|brk (sd:SD)|cont (sd:SD)
def ri (K:W.Frag)(F H:Hp)(Q:VK)(d:D):Prop:=if Ki d=true then xu K F H Q d else xP K F H Q d
def gV (K:W.Frag)(m:Option Bool)(B:Bs)(Q:VK)(d:D):Prop:=match m with
 |some true=>xP K B.F0 B.H0 Q d
 |some false=>xu K B.F0 B.H0 Q d
 |none=>ri K B.F0 B.H0 Q d
def yi (K:W.Frag)(m:Option Bool)(B:Bs)(F:Hp)(T:Ends):Out->Prop
 | .next sd=>∀Z a b,Tx F a->RS K B a b sd Z -> T.nx Z b
 | .brk sd=>∀Z a b,Tx F a->RS K B a b sd Z -> T.bk Z b
 | .cont sd=>∀Z a b,Tx F a->RS K B a b sd Z -> T.ct Z b
 | .ret d=>gV K m B T.rt d
abbrev FS:=SD->Res Out
def vE (K:W.Frag)(E:XK)(m:Option Bool)(g:FS):TS:=λT Z H=>∃B F sd,RS K B F H sd Z /\ (g sd).need (yi K m B F T) (XW K E B.F0 B.H0)
abbrev QS (X:Cx)(E:XK)(m:Option Bool)(st:Stmt)(g:FS):Prop:=PS X st (vE X.K E m g)
abbrev yT (X:Cx)(E:XK)(m:Option Bool)(st:List Stmt)(g:FS):Prop:=qx X st (vE X.K E m g)
section
variable {K:W.Frag}{E:XK}{m:Option Bool}{B:Bs}{F F' H:Hp}{T:Ends}
def yi.mono (h:yi K m B F T o)(e:Tx F F'):yi K m B F' T o:=by
 cases o with
 |next sd=>exact λZ a b s r=>h Z a b (e.trans s) r
 |brk sd=>exact λZ a b s r=>h Z a b (e.trans s) r
 |cont sd=>exact λZ a b s r=>h Z a b (e.trans s) r
 |ret d=>exact h
end
section
variable {X:Cx}{E:XK}{m:Option Bool}{st:Stmt}{sts:List Stmt}{g g1 g2:FS}{pos:Pos}
def JA:FS:=λsd=>.ok (.next sd)
def T1 (g1 g2:FS):FS:=λsd=>(g1 sd).bind λo=>match o with
 | .next a=>g2 a
 |o=>.ok o
def Qo:yT X E m [] JA:=qx.weak B7 λT Z H ⟨B,F,sd,r,n⟩=>n Z F H (.refl _) r
def J1 (h:QS X E m st g):yT X E m [st] g:=Ag h
def J2 (c:QS X E m st g1)(e:yT X E m sts g2):yT X E m (st::sts) (T1 g1 g2):=qx.weak (B8 c e) λT Z H f=>by
 obtain⟨B,F,sd,r,n⟩:=f;refine⟨B,F,sd,r,(Res.need_bind n).mono (λo b=>?_) λ_ _ q=>q⟩;cases o with
 |next a=>exact λj h l s i=>⟨B,h,a,i,b.mono (λo q=>q.mono s) λ_ _ q=>q⟩
 |ret d=>exact b
 |brk a=>exact b
 |cont a=>exact b
def E6 (is:Yg)(h:QS X E m st g):QS X E m st (λsd=>g (qj is sd)):=PS.weak h λT Z H a=>by
 obtain⟨B,F,sd,r,n⟩:=a;obtain⟨b,c,d⟩:=r.frz is;exact⟨B,b,_,d,n.mono (λ_ q=>q.mono c) λ_ _ q=>q⟩
variable {e:Expr}{fe:FE}
def TK (i:Nat)(f:FE):FS:=λsd=>(f sd).bind λd=>.ok (.next (sd.set i (~~~d)))
def xg (i:Nat)(f:FE):FS:=λsd=>(f sd).bind λd=>.ok (.next (sd.set i (some (.own false d))))
def JS (b:X.N.Nodup)(c:X.N[i]? = some x)(hx:xY X.env.scope x)(f:QE X E e fe)(h:swapsWith e (some (.Name x pos')) pos.line X.env=pure false:=by rfl)
 (j:X.fn x=true\/X.env.scope.names.lookup x=some .local:=by trivial):QS X E m (.Assign [.Name x pos'] e pos) (TK i fe):=PS.weak (B9 b c hx f h j) λT Z H l=>by
 obtain⟨B,F,sd,r,n⟩:=l;refine⟨B,F,sd,r,(Res.need_bind n).mono (λd o v p s a t=>?_) λ_ _ q=>q.ext r.ext⟩;exact o _ p s a.ff ((r.step a).setVal t)
def X7 (h:X.N.Nodup)(s:X.N[i]? = some x)(hx:xY X.env.scope x)(t:QN X E e fe)(u:swapsWith e (some (.Name x pos')) pos.line X.env=pure false:=by rfl)
 (v:X.fn x=true\/X.env.scope.names.lookup x=some .local:=by trivial):QS X E m (.Assign [.Name x pos'] e pos) (xg i fe):=PS.weak (B9 h s hx t u v) λT Z H w=>by
 obtain⟨B,F,sd,r,n⟩:=w;refine⟨B,F,sd,r,(Res.need_bind n).mono (λd y l z A a b C G=>?_) λ_ _ q=>q.ext r.ext⟩;refine y _ z A a.ff ((r.step a).setOwn (Qs r.ext.hh b) C G λj p d' I c=>?_);obtain⟨L,J,_,_,K,_⟩:=r.own I;rw[J] at c;cases c;obtain⟨o,f⟩:=K.has;rw[b] at f;exact Jy f
def TN (f:FE):FS:=λsd=>(f sd).bind λd=>.ok (.ret d)
def JR (a:QE X E e fe):QS X E false (.Return (some e) pos) (TN fe):=PS.weak (Ah a) λT Z H b=>by
 obtain⟨B,F,sd,r,n⟩:=b;refine⟨B,F,sd,r,(Res.need_bind n).mono (λd c v f h i j=>?_) λ_ _ q=>q.ext r.ext⟩;exact c v f h (r.ext.trans i) j
def BT (a:QN X E e fe):QS X E true (.Return (some e) pos) (TN fe):=PS.weak (Ah a) λT Z H b=>by
 obtain⟨B,F,sd,r,n⟩:=b;refine⟨B,F,sd,r,(Res.need_bind n).mono (λd c l f h i j o p=>?_) λ_ _ q=>q.ext r.ext⟩;exact c l f h (r.ext.trans i) (Qs r.ext.hh j) o p
def Xa (i:Nat):FS:=λsd=>match sd[i]? with
 |some (some (.own _ d))=>.ok (.ret d)
 |_=>.no
def BU (a:PE X e (xl i)):QS X E true (.Return (some e) pos) (Xa i):=PS.weak (Ah a) λT Z H b=>by
 obtain⟨B,F,sd,r,n⟩:=b;unfold Xa at n
 split at n
 .rename_i d q;obtain⟨l,c,f,h,j,_⟩:=r.own q;exact⟨.ref l,c,n l F H r.ext f h j⟩
 .exact n.elim
def VH (f:FE):FS:=λsd=>(f sd).bind λ_=>.ok (.next sd)
def X8 (b:QE X E e fe)(c:swapsWith e none pos.line X.env=pure false:=by rfl):QS X E m (.Expr e pos) (VH fe):=PS.weak (X0 b c) λT Z H f=>by
 obtain⟨B,F,sd,r,n⟩:=f;refine⟨B,F,sd,r,(Res.need_bind n).mono (λd h v i j a l=>?_) λ_ _ q=>q.ext r.ext⟩;exact h Z i j a.ff (r.step a)
def jq (c:FT)(g1 g2:FS):FS:=λsd=>(c sd).bind λb=>if b then g1 sd else g2 sd
def Qp (i:QT X E c fc)(j:yT X E m a g1)(l:yT X E m b g2):QS X E m (.If c a b pos) (jq fc g1 g2):=PS.weak (DI i j l) λT Z H o=>by
 obtain⟨B,F,sd,r,n⟩:=o;refine⟨B,F,sd,r,(Res.need_bind n).mono (λb f h p d=>?_) λ_ _ q=>q.ext r.ext⟩;cases b with
 |true=>exact⟨B,h,sd,r.step d,f.mono (λ_ q=>q.mono d.ff) λ_ _ q=>q⟩
 |false=>exact⟨B,h,sd,r.step d,f.mono (λ_ q=>q.mono d.ff) λ_ _ q=>q⟩
def VI (i:Nat)(f:FE):FS:=λsd=>match sd[i]? with
 |some (some (.own false (.lst ds)))=>(f sd).bind λd=>if ds.length<sizeLine then .ok (.next (sd.set i (some (.own false (.lst (ds++[d])))))) else .no
 |_=>.no
def E7 (C:PE X o (xl i))(G:QE X E e fe)
 (hp:∀{j:TE} {t:TA},PE X o j->PA X [e] t->PE X (.Call (.Attribute o "append" apos) [e] [] cpos) (wx X.K "list" BI j t))
 (I:swapsWith (.Call (.Attribute o "append" apos) [e] [] cpos) none pos.line X.env=pure false:=by rfl)
 (f:starEach [e] X.env=(false,eval e X.env)::starEach [] X.env:=by rfl):QS X E m (.Expr (.Call (.Attribute o "append" apos) [e] [] cpos) pos) (VI i fe):=
 PS.weak (X0 (hp C (Ju G Jw f)) I) λT Z H J=>by
  obtain⟨B,F,sd,r,n⟩:=J;unfold VI at n
  split at n
  .rename_i ds p;obtain⟨l,s,N,O,⟨xs,u,y⟩,_⟩:=r.own p;refine⟨.ref l,s,.inl ⟨rfl,xs,jL.of u⟩,B,F,sd,r,?_⟩;unfold Jt Tp;show((fe sd).bind λx=>.ok [x]).need _ _;have a:=Res.need_bind n;cases q:fe sd with
   |no=>rw[q] at a;exact a
   |ex c fs=>rw[q] at a;exact a.ext r.ext
   |ok d =>
    rw[q] at a;intro P K Q b z;rw[Tv] at z;obtain⟨v,w,rfl,L,A⟩:=z;rw[IsDs.nil_iff] at A;subst A;have h:(if ds.length<sizeLine then Res.ok (Out.next (sd.set i (some (.own false (.lst (ds++[d])))))) else .no).need (yi X.K m B F T) (XW X.K E B.F0 B.H0):=a
    split at h
    .rename_i R;have S:=y.length;refine⟨l,xs,v,rfl,rfl,b.hh _ _ u,(),?_⟩;have M:=r.step b;exact h Z K _ b.ff (M.chg p s ⟨xs++[v],JC,(IsDs.same b.ff _ _ y).snoc L⟩)
    .exact h.elim
  .exact n.elim
def X9 (i:Nat)(f:FE):FS:=λsd=>match sd[i]? with
 |some (some (.own false (.lst ds)))=>(f sd).bind λd=>match d with
  | .lst es=>if ds.length+es.length<=sizeLine then .ok (.next (sd.set i (some (.own false (.lst (ds++es)))))) else .no
  |_=>.no
 |_=>.no
def Mc (x:PE X o (xl i))(y:QN X E e fe)
 (hp:∀{h:TE} {t:TA},PE X o h->PA X [e] t->PE X (.Call (.Attribute o "extend" apos) [e] [] cpos) (wx X.K "list" Em h t))
 (z:swapsWith (.Call (.Attribute o "extend" apos) [e] [] cpos) none pos.line X.env=pure false:=by rfl)
 (c:starEach [e] X.env=(false,eval e X.env)::starEach [] X.env:=by rfl):QS X E m (.Expr (.Call (.Attribute o "extend" apos) [e] [] cpos) pos) (X9 i fe):=
 PS.weak (X0 (hp x (WT y WS c)) z) λT Z H A=>by
  obtain⟨B,F,sd,r,n⟩:=A;unfold X9 at n
  split at n
  .rename_i ds j;obtain⟨l,p,K,L,⟨xs,s,u⟩,_⟩:=r.own j;refine⟨.ref l,p,.inl ⟨rfl,xs,jL.of s⟩,B,F,sd,r,(Res.need_bind n).mono (λd v b C M a N O G=>?_) λ_ _ q=>q.ext r.ext⟩;cases d with
   |lst es =>
    obtain⟨w,g1,g2⟩:=G;have f:(if ds.length+es.length<=sizeLine then Res.ok (Out.next (sd.set i (some (.own false (.lst (ds++es)))))) else .no).need (yi X.K m B F T) (XW X.K E B.F0 B.H0):=v
    split at f
    .rename_i P;have Q:=u.length;have I:=g2.length;refine⟨l,b,xs,w,rfl,rfl,a.hh _ _ s,g1,(),?_⟩;have J:=r.step a;exact f Z C _ a.ff (J.chg j p ⟨xs++w,JC,(IsDs.same a.ff _ _ u).append g2⟩)
    .exact f.elim
   |_=>exact v.elim
  .exact n.elim
inductive Tg where
 |one (i:Nat)|tup (is:Yg)
def setAll:Yg->Yt->SD->SD
 |i::is,d::ds,sd=>setAll is ds (sd.set i (~~~d))
 |_,_,sd=>sd
def JY:Tg->D->SD->Res SD
 | .one i,d,sd=>.ok (sd.set i (~~~d))
 | .tup is,.tup ds,sd=>if ds.length=is.length then .ok (setAll is ds sd) else .no
 |_,_,_=>.no
def Aw:Yg->Yr->St->St
 |i::is,v::vs,Z => Aw is vs (Z.set i (some v))
 |_,_,Z => Z
theorem RS.setAll {K:W.Frag}{B:Bs}{F H:Hp}:∀{is:Yg} {ds:Yt} {a:Yr} {sd:SD} {Z: St},RS K B F H sd Z -> IsDs K F ds a->RS K B F H (setAll is ds sd) (Aw is a Z)
 | [],ds,a,sd,Z,r,_=>r
 |i::is,[],a,sd,Z,r,h=>by
  subst h;exact r
 |i::is,d::ds,a,sd,Z,r,h=>by
  obtain⟨v,w,rfl,b,c⟩:=h;exact RS.setAll (is:=is) (r.setVal b) c
def RS.forget {K:W.Frag}{B:Bs}{F H:Hp}{sd a:SD}{Z: St}(r:RS K B F H sd Z)(b:a.length=sd.length)(h:∀(i:Nat) x,a[i]? = some (some x)->sd[i]? = some (some x)):RS K B F H a Z:=
 ⟨r.ext,by rw[r.len,b],λq=>r.val (h _ _ q),λq=>r.own (h _ _ q),λn c d f=>r.apart n (h _ _ c) (h _ _ d) f⟩
def gT:Tg->W.Frag->TG
 | .one i,_=>VB i
 | .tup is,K=>λv Z H Q=>∃a xs,v=.ref a/\qX K H a xs/\xs.length=is.length/\Q (Aw is xs Z) H
def Ax {K:W.Frag}{tg:Tg}{B:Bs}{F H:Hp}{sd:SD}{Z: St}{d:D}{v:V}{p:SD->Prop}{q:Str->Yt->Prop}{Q:St->Hp->Prop}(r:RS K B F H sd Z)(j:IsD K F d v)(n:(JY tg d sd).need p q)
 (h:∀b l,p b->JY tg d sd=.ok b->RS K B F H b l->Q l H):gT tg K v Z H Q:=by
 cases tg with
 |one i=>exact h _ _ n rfl (r.setVal j)
 |tup is =>
  cases d with
  |tup ds =>
   obtain⟨a,xs,rfl,s,o⟩:=j;have c:JY (.tup is) (.tup ds) sd=if ds.length=is.length then .ok (setAll is ds sd) else .no:=rfl
   by_cases f:ds.length=is.length
   .rw[Zd f] at c;rw[c] at n;exact⟨a,xs,rfl,(s.same r.ext.fh).sq,by rw[o.length,f],h _ _ n c (r.setAll o)⟩
   .rw[Ze f] at c;rw[c] at n;exact n.elim
  |_=>exact n.elim
abbrev QG (X:Cx)(e:Expr)(tg:Tg):Prop:=PG X e (gT tg X.K)
def xO (K:W.Frag)(h:Hp)(J:It)(ds:Yt):Prop:=∀(i:Nat) (b a:Hp),Tx h b->Tx b a ->
 (i<ds.length->J.go i a/\∀x c,J.yld i a x c->∃d f,ds[i]? = some d/\Ext b a f c/\IsD K f d x)/\(ds.length<=i->J.stop i a)
def bO (K:W.Frag)(E:XK)(f:FA):TI:=λZ H R=>∃B F sd,RS K B F H sd Z /\ (f sd).need (λds=>∀J a b,Ext F H a b->xO K a J ds->R J b) (XW K E F H)
abbrev QI (X:Cx)(E:XK)(tg iter:Expr)(f:FA):Prop:=PI X tg iter (bO X.K E f)
def xL (b:D->FS):Yt->FS
 | [],sd=>.ok (.next sd)
 |x::xs,sd=>(b x sd).bind λo=>match o with
  | .next a=>xL b xs a
  | .cont a=>xL b xs a
  | .brk a=>.ok (.next a)
  | .ret d=>.ok (.ret d)
def j9 (it:FA)(tg:Tg)(b:FS):FS:=λsd=>(it sd).bind λds=>xL (λx sd=>(JY tg x sd).bind b) ds sd
def Kj (hp:PassesOwn (model X.prog X.w) X.A X.env X.xe)(S:X.calm=true)(N:QI X E tg iter fi)(U:QG X tg t)(Y:yT X E m body g)
 (w:∀x,foldedSetIterable iter X.env x=pure x:=by intro _;rfl):QS X E m (.For tg iter body [] pos) (j9 fi t g):=PS.weak (DK hp S N U Y w) λT Z H zh=>by
 obtain⟨B,F,sd,r,n⟩:=zh;refine⟨B,F,sd,r,(Res.need_bind n).mono (λds n1 J z H1 O wk=>?_) λ_ _ q=>q.ext r.ext⟩;refine⟨λi k Z H=>k=ds.length-i/\i<=ds.length/\∃j sd,Tx z j/\RS X.K B j H sd Z /\ (xL (λx sd=>(JY t x sd).bind g) (ds.drop i) sd).need (yi X.K m B j T) (XW X.K E B.F0 B.H0),
  ⟨ds.length,rfl,Ug _,z,sd,.refl _,r.step O,n1.mono (λ_ q=>q.mono O.ff) λ_ _ q=>q⟩,?_⟩
 rintro i k Z2 P ⟨rfl,N,j,sd2,A,C,l⟩;obtain⟨w1,w2⟩:=wk i j P A C.ext.fh;by_cases a:i<ds.length
 .obtain⟨go,yl⟩:=w1 a;refine .inr ⟨go,λG Q=>∃f b,Tx z f/\RS X.K B f Q b G/\(xL (λx sd=>(JY t x sd).bind g) (ds.drop (i+1)) b).need (yi X.K m B f T) (XW X.K E B.F0 B.H0),
   λG Q ⟨f,b,q1,q2,q3⟩=>⟨ds.length-(i+1),(),rfl,a,f,b,q1,q2,q3⟩,λx H3 y=>?_⟩
  obtain⟨d,f,R,p,i3⟩:=yl x H3 y;rw[UU a] at l;have I:ds[i]=d:=by rw[Zqg a] at R;exact Zqi R
  rw[I] at l;have r3:=C.step p;unfold xL at l;have n3:=Res.need_bind (Res.need_bind l);refine Ax r3 i3 n3 λK G n4 _ r4=>?_;refine⟨B,f,K,r4,n4.mono (λo v=>?_) λ_ _ q=>q⟩;cases o with
  |next c=>exact λL s M h u=>⟨s,c,(A.trans p.ff).trans h,u,v.mono (λ_ q=>q.mono (p.ff.trans h)) λ_ _ q=>q⟩
  |cont c=>exact λL s M h u=>⟨s,c,(A.trans p.ff).trans h,u,v.mono (λ_ q=>q.mono (p.ff.trans h)) λ_ _ q=>q⟩
  |brk c=>exact λL s M h u=>v L s M (p.ff.trans h) u
  |ret d=>exact v
 .have he:i=ds.length:=()
  refine .inl ⟨w2 (),?_⟩;subst he;rw[Vh] at l;exact l Z2 j P (.refl _) C
def xV {α β: Type}(f:α -> Res β):List α -> Res (List β)
 | []=>.ok []
 |x::xs=>(f x).bind λy=>(xV f xs).bind λa=>.ok (y::a)
def jK (cap:List (Option Nat))(sd:SD):SD:=cap.map λo=>o.bind λj=>match sd[j]? with
 |some (~~~d)=>~~~d
 |_=>none
def Wf (sd:SD)(i:Nat):Bool:=match sd[i]? with
 |some none=>true
 |_=>false
def Xb (sd:SD):Tg->Bool
 | .one i=>Wf sd i
 | .tup is=>is.all (Wf sd)
def Q5 (cap:List (Option Nat))(it:FA)(tg:Tg)(f:FE):FE:=λsd=>(it sd).bind λds=>if Xb (jK cap sd) tg=true/\ds.length<sizeLine then
 (xV (λx=>(JY tg x (jK cap sd)).bind f) ds).bind λa=>.ok (.lst a) else .no
theorem RS.cap {K:W.Frag}{B:Bs}{F H:Hp}{sd:SD}{Z: St}(cap)(r:RS K B F H sd Z):RS K B F H (jK cap sd) (WX cap Z):=by
 have a:∀{i:Nat} {x:SV},(jK cap sd)[i]? = some (some x)->∃j d,cap[i]? = some (some j)/\sd[j]? = some (~~~d)/\x=.val d:=λ{i x} q=>by
  unfold jK at q;rw[Zv] at q;cases c:cap[i]? with
  |none=>rw[c] at q;exact Jy q
  |some o =>
   rw[c] at q;cases o with
   |none=>cases q
   |some j =>
    have q:(match sd[j]? with
     |some (~~~d)=>some (SV.val d)
     |_=>none)=some x:=Zqi q
    split at q
    .rename_i d t;exact()
    .exact Jy q
 refine⟨r.ext,by unfold jK WX;rw[Zql,Zql],λ{i d} q=>?_,λ{i p d} q=>?_,λ{i j p u d e l} _ q=>?_⟩
 .obtain⟨j,d',f,h,b⟩:=a q;cases b;obtain⟨v,n,s⟩:=r.val h;refine⟨v,?_,s⟩;unfold WX;rw[Zv,f];show some (Option.bind (some j) λj=>(Z[j]?).join)=_;rw[Option.bind_some,n];rfl
 .obtain⟨j,d',f,h,b⟩:=a q;cases b
 grind
theorem BV:∀is ds a sd,is.all (Wf a)=true->sd.length=a.length->(∀(i:Nat) x,a[i]? = some (some x)->sd[i]? = some (some x)) ->
 (setAll is ds sd).length=a.length/\∀(i:Nat) x,a[i]? = some (some x)->(setAll is ds sd)[i]? = some (some x)
 | [],ds,a,sd,_,hl,h=>⟨hl,h⟩
 |i::is,[],a,sd,_,hl,h=>⟨hl,h⟩
 |i::is,d::ds,a,sd,hn,hl,h=>by
  rw[Ui,Ub] at hn;refine BV is ds a (sd.set i (~~~d)) hn.2 (by rw[UI,hl]) λj x q=>?_;have ne:i≠j:=λz=>by
   subst z;have:=hn.1;unfold Wf at this;rw[q] at this;exact JI this
  rw[QC ne];exact h j x q
def E8 (a:Xb sd0 tg=true)(h:JY tg d sd0=.ok sd):sd0.length=sd.length/\∀(i:Nat) x,sd0[i]? = some (some x)->sd[i]? = some (some x):=by
 cases tg with
 |one i =>
  cases h;have:=BV [i] [d] sd0 sd0 (by rwa [Ui,List.all_nil,Bool.and_true]) rfl λ_ _ q=>q;exact⟨this.1.symm,this.2⟩
 |tup is =>
  cases d with
  |tup ds =>
   have b:JY (.tup is) (.tup ds) sd0=if ds.length=is.length then .ok (setAll is ds sd0) else .no:=rfl
   rw[b] at h
   split at h
   .cases h;have:=BV is ds sd0 sd0 a rfl λ_ _ q=>q;exact⟨this.1.symm,this.2⟩
   .cases h
  |_=>cases h
def Md {α β: Type}{f:α -> Res β}{xs:List α}{x:α}{p:List β -> Prop}(hx:xs[i]? = some x)(h:(xV f (xs.drop i)).need p q):(f x).need (λy=>(xV f (xs.drop (i+1))).need (λb=>p (y::b)) q) q:=by
 have a:i<xs.length:=();rw[UU a] at h;have e:xs[i]=x:=by simp_all
 rw[e] at h;exact(Res.need_bind h).mono (λy c=>((Res.need_bind c).mono (λb d=>d) λ_ _ z=>z)) λ_ _ z=>z
def BX {K:W.Frag}{t:Tg}{I:FA}{f:FE}{cap:List (Option Nat)}{Z: St}{H:Hp}{Q:VK}(o:wl K E (Q5 cap I t f) Z H Q):YD cap (bO K E I) (gT t K) (tD K E f) Z H Q:=by
 obtain⟨B,F,sd,r,n⟩:=o;refine⟨B,F,sd,r,(Res.need_bind n).mono (λds p J L N l O=>?_) λ_ _ q=>q⟩
 split at p
 .rename_i o;obtain⟨P,hz⟩:=o;refine⟨λi k s Z b=>k=ds.length-i/\i<=ds.length/\∃a es,Ext L N a b/\RS K B a b (jK cap sd) Z /\ IsDs K a es s/\es.length=i /\
   (xV (λx=>(JY t x (jK cap sd)).bind f) (ds.drop i)).need (λrs=>xP K a b Q (.lst (es++rs))) (XW K E a b),⟨ds.length,rfl,Ug _,L,[],.refl l.fh,(r.step l).cap cap,.nil,rfl,?_⟩,?_⟩
  .exact(Res.need_bind p).mono (λrs q=>(q).ext l) λ_ _ q=>q.ext l
  rintro i k s Z2 b ⟨rfl,hi,a,es,u,w,z,hl,A⟩;have ly:=z.length;refine⟨(),?_⟩;obtain⟨R,S⟩:=O i a b u.ff u.fh;by_cases h:i<ds.length
  .obtain⟨go,T⟩:=R h;refine .inr ⟨go,λx U y=>?_⟩;obtain⟨d,Y,hd,c,i3⟩:=T x U y;have n3:=Md hd A;have r3:=w.step c;refine Ax r3 i3 (Res.need_bind n3) λC Z' n4 hb M=>?_;obtain⟨b1,b2⟩:=E8 P hb;refine⟨B,Y,C,M,n4.mono (λy n5 v F4 H4 j i4=>⟨ds.length-(i+1),(),rfl,h,F4,es++[y],(u.trans c).trans j,(M.step j).forget b1 b2,(IsDs.same (c.ff.trans j.ff) _ _ z).snoc i4,(),n5.mono (λrs q=>?_) λ_ _ q=>q.ext (c.trans j)⟩) λ_ _ q=>q.ext c⟩;rw[Uo];exact q.ext (c.trans j)
  .have he:i=ds.length:=()
   subst he;refine .inl ⟨S (Zf _),λD G=>?_⟩;rw[Vh] at A;have q:xP K a b Q (.lst (es++[])):=A;rw[ZA] at q;exact q D a _ (.keep w.ext.fh G _) G (Qs w.ext.fh G) ⟨s,JC,z⟩
 .exact p.elim
def KF (N)(cap)(d:X.calm=true)(a:KC scope X.env N X.N cap=true)(i:QI X E tg iter fi)
 (j:∀b C s H c,QG (JO X scope N b C s H c) tg t) (l:∀b C s H c,QE (JO X scope N b C s H c) E elt f) (n:∀x,foldedSetIterable iter X.env x=pure x:=by intro _;rfl):
 QN X E (.ListComp elt [⟨tg,iter,[],0⟩] scope pos) (Q5 cap fi t f):=PE.weak (LU N cap d a i j l n) λ_ _ _ h=>BX h
def Qw (n:Nat)(ds:Yt):SD:=ds.map (λd=>~~~d)++List.replicate (n-ds.length) none
def jc (n a:Nat)(g:FS)(ds:Yt):Res D:=if ds.length=a then(g (Qw n ds)).bind λo=>match o with
 | .ret d=>.ok d
 | .next _=>.ok .non
 |_=>.no else .no
def qo (n a:Nat)(g:FS)(ds:Yt):Res D:=if ds.length=a then(g (Qw n ds)).bind λo=>match o with
 | .ret d=>.ok d
 |_=>.no else .no
theorem RS.start {K:W.Frag}{F H:Hp}{N:Yh}{ds:Yt}{c:Yr}(s:Tx F H)(h:IsDs K F ds c):RS K ⟨F,H,λ_=>none⟩ F H (Qw N.length ds) (start N c):=by
 have a:∀{i:Nat} {x:SV},(Qw N.length ds)[i]? = some (some x)->∃d,ds[i]? = some d/\x=.val d:=λ{i x} q=>by
  unfold Qw at q;by_cases f:i<ds.length
  .rw[Up (by rwa [Zql]),Zv,Zqg f] at q;exact⟨ds[i],Zqg f,(Zqi (Zqi q)).symm⟩
  .rw[Uv (by rw[Zql];lia),List.getElem?_replicate] at q
   split at q<;>(first|exact Jy q|cases q)
 refine⟨.refl s,by unfold Qw L2.start;simp[h.length],λ{i d} q=>?_,λ{i p d} q=>?_,λ{i j p t d e l} _ q=>?_⟩
 .obtain⟨d',o,b⟩:=a q;cases b;obtain⟨v,n,r⟩:=h.get o;refine⟨v,?_,r⟩;unfold L2.start;rw[Up (by rw[Zql];exact(Jd.mp n).1),Zv,n];rfl
 .obtain⟨_,_,b⟩:=a q;cases b
 .obtain⟨_,_,b⟩:=a q;cases b
section
variable {P:Program}{w:World}{K:W.Frag}{mg:Yc}{base:Heap}{x qual:Str}{f:Addr}{fd:FuncData}{N ps:Yh}{k:Nat}
def jU (F:Fun K x qual st f fd)(S:FnScope N ps (JP st))
 (i:∀b A a s H E,Room k (A.deeper (envOfC qual (JP st) s.heap.objs.size f b))->yT (jt xa P w K mg base N qual (JP st) f b A a s H E).nox E0 false (Kc st) g):
 FnOk P w K mg base xa (k+1) f fd ps (qU K (jc N.length ps.length g)):=by
 refine F.ok S (λj H Q E ⟨F,ds,_,h,n⟩=>?_) λb A a s H j Q E l ⟨F,ds,p,h,n⟩=>⟨_,i b A a s H E l,?_⟩
 .unfold jc at n
  split at n
  .rw[h.length];lia
  .exact n.elim
 .unfold jc at n
  split at n
  .refine⟨⟨F,H,λ_=>none⟩,F,_,RS.start p h,(Res.need_bind n).mono (λo c=>?_) λ_ _ q=>q⟩;cases o with
   |next sd=>exact λZ t u _ r=>c .non t u r.ext (TH.mpr rfl)
   |ret d=>exact c
   |brk sd=>exact c.elim
   |cont sd=>exact c.elim
  .exact n.elim
def zq (F:Fun K x qual st f fd)(S:FnScope N ps (JP st))
 (i:∀b A a s H E,Room k (A.deeper (envOfC qual (JP st) s.heap.objs.size f b))->yT (jt xa P w K mg base N qual (JP st) f b A a s H E).nox E0 true (Kc st) g):
 FnOk P w K mg base xa (k+1) f fd ps (zC K (qo N.length ps.length g)):=by
 refine F.ok S (λj H Q E ⟨F,ds,_,h,n⟩=>?_) λb A a s H j Q E l ⟨F,ds,p,h,n⟩=>⟨_,i b A a s H E l,?_⟩
 .unfold qo at n
  split at n
  .rw[h.length];lia
  .exact n.elim
 .unfold qo at n
  split at n
  .refine⟨⟨F,H,λ_=>none⟩,F,_,RS.start p h,(Res.need_bind n).mono (λo c=>?_) λ_ _ q=>q⟩;cases o with
   |next sd=>exact c.elim
   |ret d=>exact c
   |brk sd=>exact c.elim
   |cont sd=>exact c.elim
  .exact n.elim
end
end
def qu (p:Int×Int):D:=.tup [.int p.1,.int p.2]
def jz (r:Jr):D:=.tup (r.map qu)
def Ke {α: Type}(f:D->Option α):Yt->Option (List α)
 | []=>some []
 |d::ds=>(f d).bind λx=>(Ke f ds).map λxs=>x::xs
def YJ:D->Option Int
 | .int i=>some i
 |_=>none
theorem YK {α β: Type}{f:D->Option α}{g:β -> D}{k:β -> α}(h:∀x,f (g x)=some (k x)):∀l:List β,Ke f (l.map g)=some (l.map k)
 | []=>rfl
 |x::r=>by rw[Zl];unfold Ke;rw[h,YK h r];rfl
theorem BY {α: Type}{f:D->Option α}{g:α -> D}(h:∀d x,f d=some x->d=g x):∀{ds:Yt} {l:List α},Ke f ds=some l->ds=l.map g
 | [],l,e=>by cases e;rfl
 |d::ds,l,e=>by
  unfold Ke at e;cases a:f d with
  |none=>simp_all
  |some x =>
   cases b:Ke f ds with
   |none=>simp_all
   |some xs =>
    rw[a,b] at e;obtain rfl:=Zqi e;rw[Zl,<- h d x a,<- BY h b]
def Me (h:YJ d=some i):d=.int i:=by
 cases d with
 |int j=>cases h;rfl
 |_=>exact Jy h
def Mf (h:Ke YJ ds=some l):ds=l.map D.int:=BY (λ_ _=>Me) h
def Mg (l):Ke YJ (l.map D.int)=some l:=by
 rw[(YK (f:=YJ) (λ_=>rfl) l),List.map_id']
section
variable {X:Cx}{E:XK}
def gI (f:Int->Int->D):D->D->Yu
 | .int i,.int j=>some (f i j)
 |_,_=>none
def ku (c:Int->Int->Bool)(f:Int->Int->D):D->D->Yu
 | .int i,.int j=>if c i j then some (f i j) else none
 |_,_=>none
def YL (o:jE X h (zF g))(b:∀i j F,IsD X.K F (f i j) (g i j)):xt X h (gI f):=jE.weak o λx y H Q c=>by
 obtain⟨F,d,e,z,l,id,m,a,q⟩:=c;cases d with
 |int i =>
  cases e with
  |int j=>cases a;exact⟨i,j,Tr.mp id,Tr.mp m,q _ F H (.refl l) (b i j F)⟩
  |_=>exact Jy a
 |_=>exact Jy a
def Ay (o:jE X h (rI C g))(l:∀i j,c i j=true->C i j)(m:∀i j F,IsD X.K F (f i j) (g i j)):xt X h (ku c f):=jE.weak o λx y H Q n=>by
 obtain⟨F,d,e,z,p,id,r,a,q⟩:=n;cases d with
 |int i =>
  cases e with
  |int j =>
   have a:(if c i j then some (f i j) else none)=some z:=a
   split at a
   .rename_i b;cases a;exact⟨i,j,Tr.mp id,Tr.mp r,l i j b,q _ F H (.refl p) (m i j F)⟩
   .exact Jy a
  |_=>exact Jy a
 |_=>exact Jy a
def yg (i)(F):IsD X.K F (.int i) (.int i):=Tr.mpr rfl
def yh (b)(F):IsD X.K F (.bl b) (.bl b):=Tz.mpr rfl
def xX:=gI λi j=>.int (i-j)
def zS:Nat:=10715086071862673209484250490600018105614048117055336074437503883703510511249361224931983788156958581275946729175531468251871452856923140435984577574698574803934567774824230985421074605062371141877954182153046474983581941267398767559165543946077062914571196477686542167660429831652624386837205668069376
def VJ (i j:Int):Bool:=(Uz i.natAbs 18446744073709551616||Uz j.natAbs 18446744073709551616)||(Uz i.natAbs zS&&Uz j.natAbs zS)
def E9 (h:k.natAbs<zS):Builtin.Int.intBits k<=2 ^ 20:=by
 have e:zS<=2 ^ 1000:=Nat.le_of_ble_eq_true rfl;have a:k.natAbs<2 ^ 1000:=()
 unfold Builtin.Int.intBits
 split
 .exact Ug _
 .have l:k.natAbs.log2<1000:=by
   rcases Vi k.natAbs with h0|hp
   .simp_all
   .exact(Nat.log2_lt (US hp)).mpr a
  lia
def Mh (h:VJ i j=true):IntMulOk i j:=by
 unfold VJ at h;rw[Ut,Ut,Ub,UA,UA,UA,UA] at h;rcases h with (h|h)|⟨h1,h2⟩
 .exact .of_left (intBits_le_64 () ())
 .exact .of_right (intBits_le_64 () ())
 .exact .of_bits (E9 h1) (E9 h2)
def Mi:jE X (binaryOp .Mult) (rI (λi j=>VJ i j=true) λi j=>.int (i*j)):=fA λ_ _ _ _ _ _ _ a q=>mul_int q (Mh a)
def j7:=ku VJ λi j=>.int (i*j)
def K6:=ku (λ_ j=>Uz 0 j.toNat&&Uz j.toNat 1073741824) λi j=>.int (i / j)
def TY:=ku (λ_ j=>Uz 0 j.toNat) λi j=>.int (i % j)
def xn:=ku (λi j=>Nat.ble (-j).toNat 0&&(Nat.ble j.toNat 1000000&&Uz i.natAbs 18446744073709551616)) λi j=>.int (i ^ j.toNat)
def z9:=gI λi j=>.bl (decide (i<j))
def qA:=gI λi j=>.bl (decide (i<=j))
def yK:=gI λi j=>.bl (decide (j<i))
def vd:=gI λi j=>.bl (decide (j<=i))
def BZ:xt X (binaryOp .Sub) xX:=YL IE λ_ _ F=>yg _ F
def Wg:xt X (binaryOp .Mult) j7:=Ay Mi (λi j h=>h) λ_ _ F=>yg _ F
def Xc:xt X (binaryOp .FloorDiv) K6:=Ay IF (λi j h=>by simp_all [f3]) λ_ _ F=>yg _ F
def Qx:xt X (binaryOp .Mod) TY:=Ay IG () λ_ _ F=>yg _ F
def Cb:xt X (binaryOp .Pow) xn:=Ay IH (λi j h=>by simp_all [f1]) λ_ _ F=>yg _ F
def zM:xt X (compareOp .Lt) z9:=YL u8 λ_ _ F=>yh _ F
def qE:xt X (compareOp .LtE) qA:=YL u9 λ_ _ F=>yh _ F
def yE:xt X (compareOp .Gt) yK:=YL uA λ_ _ F=>yh _ F
def me:xt X (compareOp .GtE) vd:=YL uB λ_ _ F=>yh _ F
def jI:D->Yu
 | .int i=>some (.int (-i))
 |_=>none
def KG:zV X (unaryOp .USub) (bZ X.K jI):=zV.weak II λx H Q b=>by
 obtain⟨F,d,z,c,id,a,q⟩:=b;cases d with
 |int i=>cases a;exact⟨i,Tr.mp id,q _ F H (.refl c) (yg _ F)⟩
 |_=>exact Jy a
def T6:D->D->Yu
 | .int i,.int j=>some (.int (i+j))
 | .str x,.str y=>if x.length+y.length<=sizeLine then some (.str (x++y)) else none
 | .tup a,.tup b=>if a ≠ []/\b ≠ []/\a.length+b.length<=sizeLine then some (.tup (a++b)) else none
 | .lst a,.lst b=>if a.length+b.length<=sizeLine then some (.lst (a++b)) else none
 |_,_=>none
def vY (K:W.Frag):R2:=λx y H Q=>∃l b xs a,x=.ref l/\y=.ref b/\qL K H l xs/\qL K H b a/\xs.length+a.length<=sizeLine/\∀p,H p=none->Q (.ref p) (upd H p (.lst (xs++a)))
def EA:jE X (binaryOp .Add) (vY X.K):=by
 intro Y s Z H x y v u Q I f g h;obtain⟨l,b,xs,w,rfl,rfl,i,j,z,q⟩:=h;obtain rfl:=f;obtain rfl:=g;obtain⟨_,c,n,d,m⟩:=i.ok I.hok;obtain⟨_,a,A,e,o⟩:=j.ok I.hok;have p:=d.length;have r:=e.length;refine PySem.P.add_list m o ?_ ();have t:c.toArray++a.toArray=(c++a).toArray:=by simp
 rw[t];exact⟨.ref _,_,I.lnew (d.append e) (),rfl,q _ I.fresh⟩
def JG:xt X (binaryOp .Add) T6:=by
 intro Y s Z H x y v u Q I n o ⟨F,d,e,z,f,id,r,c,q⟩;cases d with
 |int i =>
  cases e with
  |int j=>cases c;exact ID Y s Z H x y v u Q I n o ⟨i,j,Tr.mp id,Tr.mp r,q _ F H (.refl f) (yg _ F)⟩
  |_=>exact Jy c
 |str a =>
  cases e with
  |str b =>
   have c:(if a.length+b.length<=sizeLine then some (D.str (a++b)) else none)=some z:=c
   split at c
   .rename_i C;cases c;exact IN Y s Z H x y v u Q I n o ⟨a,b,IsD.str_iff.mp id,IsD.str_iff.mp r,C,q _ F H (.refl f) (IsD.str_iff.mpr rfl)⟩
   simp_all
  |_=>exact Jy c
 |tup a =>
  cases e with
  |tup b =>
   have c:(if a ≠ []/\b ≠ []/\a.length+b.length<=sizeLine then some (D.tup (a++b)) else none)=some z:=c
   split at c
   .obtain rfl:=Zqi c;obtain⟨t,xs,rfl,w,h⟩:=id;obtain⟨A,g,rfl,B,l⟩:=r;have G:=h.length;have J:=l.length;have x0:xs ≠ []:=by grind
    have K:g ≠ []:=by grind
    refine Ei Y s Z H _ _ v u Q I n o ⟨t,A,xs,g,rfl,rfl,(w.same f).sq,(B.same f).sq,x0,(),λz=>Zn z K,λ_ p hp=>?_⟩;have m:=jo f hp (.tup (xs++g));exact q _ _ _ m (Tt.mpr ⟨p,_,rfl,.of JC,IsDs.same m.ff _ _ (h.append l)⟩)
   simp_all
  |_=>exact Jy c
 |lst a =>
  cases e with
  |lst b =>
   have c:(if a.length+b.length<=sizeLine then some (D.lst (a++b)) else none)=some z:=c
   split at c
   .obtain rfl:=Zqi c;obtain⟨t,xs,rfl,w,h⟩:=id;obtain⟨A,g,rfl,B,l⟩:=r;have G:=h.length;have J:=l.length;refine EA Y s Z H _ _ v u Q I n o ⟨t,A,xs,g,rfl,rfl,w.same f,B.same f,(),λp hp=>?_⟩;have m:=jo f hp (.lst (xs++g));exact q _ _ _ m (Tw.mpr ⟨p,_,rfl,.of JC,IsDs.same m.ff _ _ (h.append l)⟩)
   simp_all
  |_=>exact Jy c
 |_=>exact Jy c
mutual
def xx:D->PyData
 | .non=>.none
 | .bl b=>.bool b
 | .int i=>.int i
 | .str x=>.str x
 | .tup ds=>.tuple (VL ds)
 | .lst ds=>.list (VL ds)
 | .ty _=>.none
 | .scr _=>.none
 | .dct _ _=>.none
 | .ins _ _ _=>.none
 | .exc _=>.none
 | .ucl _=>.none
 | .adr _=>.none
 | .dcf _ _=>.none
 | .pin _ _=>.none
def VL:Yt->List PyData
 | []=>[]
 |d::ds=>xx d::VL ds
end
def plN:Nat->D->Bool
 | 0,_=>false
 |_+1,.int _=>true
 |_+1,.str x=>PyData.strOk x
 |_+1,.non=>true
 |n+1,.tup ds=>ds.all (plN n)
 |n+1,.lst ds=>ds.all (plN n)
 |_+1,_=>false
def XA:∀n d,plN n d=true->(xx d).canLay0=true/\(xx d).depth<=n:=λn=>by
 induction n with
 |zero=>intro _ h;exact JI h
 |succ n a =>
  intro d h;have all:∀ds:Yt,ds.all (plN n)=true->PyData.canLayAll0 (VL ds)=true/\PyData.depthAll (VL ds)<=n:=by
   intro ds
   induction ds with
   |nil=>intro _;exact⟨rfl,Ug _⟩
   |cons d ds b =>
    intro h;rw[Ui,Ub] at h;obtain⟨c,e⟩:=a d h.1;obtain⟨f,g⟩:=b h.2;exact⟨Bool.and_eq_true_iff.mpr ⟨c,f⟩,Nat.max_le.mpr ⟨e,g⟩⟩
  cases d with
  |int i=>exact⟨rfl,Ug _⟩
  |str i=>exact⟨h,Ug _⟩
  |non=>exact⟨rfl,Ug _⟩
  |tup ds=>exact⟨(all ds h).1,Nat.succ_le_succ (all ds h).2⟩
  |lst ds=>exact⟨(all ds h).1,Nat.succ_le_succ (all ds h).2⟩
  |_=>exact JI h
def D.ne {d e:D}(h:(d.ctorIdx == e.ctorIdx)=false):¬d=e:=λq=>by
 simp_all
def Cc:∀n d e,plN n d=true->plN n e=true->(PyData.eqv (xx d) (xx e)=true↔d=e):=λn=>by
 induction n with
 |zero=>intro _ _ h;exact JI h
 |succ n a =>
  intro d e h h';have all:∀ds es:Yt,ds.all (plN n)=true->es.all (plN n)=true->(PyData.eqvAll (VL ds) (VL es)=true↔ds=es):=by
   intro ds
   induction ds with
   |nil =>
    intro es _ _;cases es with
    |nil=>exact iff_of_true rfl rfl
    |cons e es=>exact Zs Zj ()
   |cons d ds b =>
    intro es c f;cases es with
    |nil=>exact Zs Zj ()
    |cons e es =>
     show(PyData.eqv (xx d) (xx e)&&PyData.eqvAll (VL ds) (VL es))=true↔_
     simp_all
  cases d with
  |int i =>
   cases e with
   |int j=>exact⟨λq=>Zt D.int (Yl.mp q),λq=>Yl.mpr (D.int.inj q)⟩
   |str _=>exact Zs Zj (D.ne rfl)
   |non=>exact Zs Zj (D.ne rfl)
   |tup _=>exact Zs Zj (D.ne rfl)
   |lst _=>exact Zs Zj (D.ne rfl)
   |_=>exact JI h'
  |str i =>
   cases e with
   |str j=>exact⟨λq=>Zt D.str (of_decide_eq_true q),λq=>Zp (D.str.inj q)⟩
   |int _=>exact Zs Zj (D.ne rfl)
   |non=>exact Zs Zj (D.ne rfl)
   |tup _=>exact Zs Zj (D.ne rfl)
   |lst _=>exact Zs Zj (D.ne rfl)
   |_=>exact JI h'
  |non =>
   cases e with
   |non=>exact iff_of_true rfl rfl
   |int _=>exact Zs Zj (D.ne rfl)
   |str _=>exact Zs Zj (D.ne rfl)
   |tup _=>exact Zs Zj (D.ne rfl)
   |lst _=>exact Zs Zj (D.ne rfl)
   |_=>exact JI h'
  |tup ds =>
   cases e with
   |tup es=>exact(all ds es h h').trans ()
   |int _=>exact Zs Zj (D.ne rfl)
   |str _=>exact Zs Zj (D.ne rfl)
   |non=>exact Zs Zj (D.ne rfl)
   |lst _=>exact Zs Zj (D.ne rfl)
   |_=>exact JI h'
  |lst ds =>
   cases e with
   |lst es=>exact(all ds es h h').trans ()
   |int _=>exact Zs Zj (D.ne rfl)
   |str _=>exact Zs Zj (D.ne rfl)
   |non=>exact Zs Zj (D.ne rfl)
   |tup _=>exact Zs Zj (D.ne rfl)
   |_=>exact JI h'
  |_=>exact JI h
theorem Xd {P:Program}{w:World}{K:W.Frag}{H:Hp}{h:Heap}(ok:qr P w H h):∀n d v u,plN n d=true->IsD K H d v->TC v u->∃g,Reads h u (xx d) g
 | 0,_,_,_,p,_,_=>JI p
 |n+1,d,v,u,p,q,r=>by
  have all:∀ds xs us,ds.all (plN n)=true->IsDs K H ds xs->TD xs us->∃g,ReadsAll h us (VL ds) g:=by
   intro ds
   induction ds with
   |nil =>
    intro xs us _ l b;subst l;cases b;exact⟨_,.nil⟩
   |cons d ds y =>
    intro xs us hp l b;rw[Ui,Ub] at hp;obtain⟨x,rs,rfl,j,z⟩:=l;cases b with
    |cons A B =>
     obtain⟨g,m⟩:=Xd ok n d x _ hp.1 j A;obtain⟨bs,C⟩:=y rs _ hp.2 z B;exact⟨_,.cons m C⟩
  cases d with
  |int i =>
   subst q;obtain⟨t,rfl⟩:=(r);exact⟨_,.int i t⟩
  |str x =>
   subst q;obtain⟨t,rfl⟩:=(r);exact⟨_,.str x t⟩
  |non =>
   subst q;obtain rfl:=r;exact⟨_,.none⟩
  |tup ds =>
   obtain⟨a,xs,rfl,b,j⟩:=q;obtain rfl:=r;obtain⟨_,f,s,o,e,c,F,G⟩:=(ok a _ b);obtain⟨g,m⟩:=all ds xs f p j s;exact⟨_,.tuple e c G ()⟩
  |lst ds =>
   obtain⟨a,xs,rfl,b,j⟩:=q;obtain rfl:=r;obtain⟨_,f,F,s,e⟩:=b.ok ok;obtain⟨g,m⟩:=all ds xs f p j s;exact⟨_,.list e rfl rfl ()⟩
  |_=>exact JI p
section
open Classical
def sameD (d e:D):Bool:=decide (d=e)
def VM (d):sameD d d=true:=Zp rfl
def f6:sameD d e=true↔d=e:=decide_eq_true_iff
def z5:sameD d e=false↔d≠e:=decide_eq_false_iff_not
def qi:D->D->Yu
 | .bl a,.bl b=>some (.bl (a == b))
 |d,e=>if plN 12 d&&plN 12 e then some (.bl (sameD d e)) else none
def x9:D->D->Yu
 | .bl a,.bl b=>some (.bl (a != b))
 |d,e=>if plN 12 d&&plN 12 e then some (.bl (!sameD d e)) else none
end
def Az (a:plN 12 d=true)(b:plN 12 e=true):qi d e=some (.bl (sameD d e)):=by
 unfold qi
 split
 .exact JI a
 simp_all
def A0 (a:plN 12 d=true)(b:plN 12 e=true):x9 d e=some (.bl (!sameD d e)):=by
 unfold x9
 split
 .exact JI a
 simp_all
def Mj (i j):qi (.int i) (.int j)=some (.bl (decide (i=j))):=by
 rw[Az rfl rfl];by_cases h:i=j
 .simp_all [VM]
 .rw[Zo h,z5.mpr ()]
def Ml (i j):x9 (.int i) (.int j)=some (.bl (!decide (i=j))):=by
 rw[A0 rfl rfl];by_cases h:i=j
 .simp_all [VM]
 .rw[Zo h,z5.mpr ()]
def qb (o:X.A.units+64<cLine):xt X (compareOp .Eq) qi:=by
 intro Y s Z H x y v u Q I h i ⟨F,d,e,z,f,id,g,c,q⟩;unfold qi at c
 split at c
 .rename_i a b;obtain rfl:=Zqi c;refine uC Y s Z H x y v u Q I h i ⟨?_,?_⟩
  .rw[Tz.mp id,Tz.mp g];rfl
  .rw[Tz.mp id,Tz.mp g];refine q _ F H (.refl f) ?_;cases a<;>cases b<;>rfl
 .split at c
  .rename_i hp;rw[Ub] at hp;obtain rfl:=Zqi c;obtain⟨p,j⟩:=Xd I.hok 12 d x v hp.1 (IsD.same f _ _ id) h;obtain⟨bs,l⟩:=Xd I.hok 12 e y u hp.2 (IsD.same f _ _ g) i;have ⟨m,r⟩:=XA 12 d hp.1;have ⟨n,t⟩:=XA 12 e hp.2;refine PySem.SeqAt.compareEq_reads j l m n () ?_;rw[(U2.mpr ((Cc 12 d e hp.1 hp.2).trans f6.symm))];exact⟨.bl _,H,I,rfl,q _ F H (.refl f) (yh _ F)⟩
  simp_all
def zm (o:X.A.units+64<cLine):xt X (compareOp .NotEq) x9:=by
 intro Y s Z H x y v u Q I h i ⟨F,d,e,z,f,id,g,c,q⟩;unfold x9 at c
 split at c
 .rename_i a b;obtain rfl:=Zqi c;refine u7 Y s Z H x y v u Q I h i ⟨?_,?_⟩
  .rw[Tz.mp id,Tz.mp g];rfl
  .rw[Tz.mp id,Tz.mp g];refine q _ F H (.refl f) ?_;cases a<;>cases b<;>rfl
 .split at c
  .rename_i hp;rw[Ub] at hp;obtain rfl:=Zqi c;obtain⟨p,j⟩:=Xd I.hok 12 d x v hp.1 (IsD.same f _ _ id) h;obtain⟨bs,l⟩:=Xd I.hok 12 e y u hp.2 (IsD.same f _ _ g) i;have ⟨m,r⟩:=XA 12 d hp.1;have ⟨n,t⟩:=XA 12 e hp.2;refine PySem.SeqAt.compareNe_reads j l m n () ?_;rw[(U2.mpr ((Cc 12 d e hp.1 hp.2).trans f6.symm))];exact⟨.bl _,H,I,rfl,q _ F H (.refl f) (yh _ F)⟩
  simp_all
end
def PE.or (h:PE X e t)(h':PE X e t'):PE X e (λZ H Q=>t Z H Q\/t' Z H Q):=λY s Z H Q I q=>q.elim (h Y s Z H Q I) (h' Y s Z H Q I)
def PT.or (h:PT X e t)(h':PT X e t'):PT X e (λZ H Q=>t Z H Q\/t' Z H Q):=λY s Z H Q I q=>q.elim (h Y s Z H Q I) (h' Y s Z H Q I)
def Qg:D->Option TM
 | .int i=>some (.inl i)
 | .str x=>some (.inr x)
 |_=>none
def XB {K:W.Frag}{H:Hp}{d:D}{k:TM}{v:V}(h:Qg d=some k)(i:IsD K H d v):v=kV k:=by
 cases d with
 |int j=>cases h;exact Tr.mp i
 |str x=>cases h;exact IsD.str_iff.mp i
 |_=>exact Jy h
def jk:List TM->Yt->TM->Yu
 |k::ks,d::ds,q=>if k=q then some d else jk ks ds q
 |_,_,_=>none
theorem Mm (k q:TM)(v)(r):j3 ((k,v)::r) q=if k=q then some v else j3 r q:=by
 grind[j3,List.find?_cons]
theorem Mn:jk (k::ks) (d::ds) q=if k=q then some d else jk ks ds q:=rfl
theorem YM {K:W.Frag}{H:Hp}(q):∀{ks:List TM} {ds:Yt} {xs:Yr},ks.length=xs.length->IsDs K H ds xs ->
 (∀d,jk ks ds q=some d->∃x,j3 (ks.zip xs) q=some x/\IsD K H d x)/\(jk ks ds q=none->j3 (ks.zip xs) q=none)
 | [],ds,xs,hl,h=>by
  refine⟨λd e=>?_,λ_=>rfl⟩;cases ds<;>exact Jy e
 |k::ks,[],xs,hl,h=>by
  simp_all [IsDs.nil_iff]
 |k::ks,d::ds,xs,hl,h=>by
  obtain⟨x,r,rfl,b,a⟩:=h;have c:=YM q (UJ hl) a
  grind[List.zip_cons_cons,Mm,Mn]
def zt:List TM->Yt->TM->D->Yt
 |k::ks,d::ds,q,v=>(if k=q then v else d)::zt ks ds q v
 |_,_,_,_=>[]
def yP:List TM->Yr->TM->V->Yr
 |k::ks,d::ds,q,v=>(if k=q then v else d)::yP ks ds q v
 |_,_,_,_=>[]
def Mo:zt (k::ks) (d::ds) q v=(if k=q then v else d)::zt ks ds q v:=rfl
def Mp:yP (k::ks) (d::ds) q v=(if k=q then v else d)::yP ks ds q v:=rfl
theorem EB {K:W.Frag}{H:Hp}{q:TM}{d:D}{v:V}(c:IsD K H d v):∀{ks:List TM} {ds:Yt} {xs:Yr},ks.length=xs.length->IsDs K H ds xs->IsDs K H (zt ks ds q d) (yP ks xs q v)/\(yP ks xs q v).length=ks.length /\
 (ks.zip xs).map (λb=>if b.1=q then(b.1,v) else b)=ks.zip (yP ks xs q v)
 | [],ds,xs,hl,h=>by
  refine⟨?_,rfl,rfl⟩;rfl
 |k::ks,[],xs,hl,h=>by
  simp_all [IsDs.nil_iff]
 |k::ks,d'::ds,xs,hl,h=>by
  obtain⟨x,r,rfl,i,e⟩:=h;obtain⟨f,g,j⟩:=EB c (UJ hl) e;rw[Mo,Mp];refine⟨IsDs.mk ?_ f,by rw[Zu,g];rfl,?_⟩
  .by_cases a:k=q
   .rwa [Zd a,Zd a]
   .rwa [Ze a,Ze a]
  grind[List.zip_cons_cons,List.map_cons]
def yH (q:TM)(ks:List TM):Bool:=ks.any λk=>decide (k=q)
theorem EC (q):∀{ks:List TM} {xs:Yr},ks.length=xs.length->((ks.zip xs).any λa=>decide (a.1=q))=yH q ks
 | [],xs,_=>rfl
 |k::ks,[],h=>by cases h
 |k::ks,x::xs,h=>by
  rw[Vj,List.any_cons,EC q (UJ h)];rfl
def Wx (ks:List TM)(q:TM):List TM:=if yH q ks=true then ks else ks++[q]
def Xe (ks:List TM)(ds:Yt)(q:TM)(v:D):Yt:=if yH q ks=true then zt ks ds q v else ds++[v]
def ED {K:W.Frag}{H:Hp}{q:TM}{d:D}{v:V}{ks:List TM}{ds:Yt}{xs:Yr}(b:ks.length=xs.length)(h:IsDs K H ds xs)(e:IsD K H d v):
 ∃c,q9 (ks.zip xs) q v=(Wx ks q).zip c/\(Wx ks q).length=c.length/\IsDs K H (Xe ks ds q d) c:=by
 unfold q9 Wx Xe;rw[EC q b];by_cases a:yH q ks=true
 .rw[Zd a,Zd a,Zd a];obtain⟨f,g,i⟩:=EB e b h;exact⟨_,i,g.symm,f⟩
 .rw[Ze a,Ze a,Ze a];exact⟨xs++[v],by rw[List.zip_append b];rfl,by simp[b],h.snoc e⟩
section
variable {X:Cx}{E:XK}{m:Option Bool}{a b o i e:Expr}{fa fb fo fi fv:FE}{pos pos' apos cpos:Pos}
def Cd {K:W.Frag}{H:Hp}{ds:Yt}{xs:Yr}{k:Int}{d:D}(h:IsDs K H ds xs)(e:j0 ds k=some d):∃x,j0 xs k=some x/\IsD K H d x:=by
 unfold j0 at e ⊢;rw[h.length];cases c:yn ds.length k with
 |none=>simp_all
 |some j =>
  rw[c] at e;exact h.get e
def T7:D->D->Yu
 | .lst ds,.int k=>j0 ds k
 | .tup ds,.int k=>j0 ds k
 | .scr ns,.int k=>(j0 ns k).map .int
 | .str x,.int k=>if x.length<=sizeLine then(j0 x.cps.toList k).map λc=>.str ⟨#[c]⟩ else none
 | .dct ks ds,k=>(Qg k).bind λq=>jk ks ds q
 | .dcf ks ds,k=>(Qg k).bind λq=>jk ks ds q
 |_,_=>none
def EE {K:W.Frag}{H:Hp}{d:D}{ks:List TM}{ds:Yt}{v:V}(j:d=.dct ks ds\/d=.dcf ks ds)(h:IsD K H d v):∃a xs,v=.ref a/\Rd H a (.dK (ks.zip xs))/\ks.length=xs.length/\IsDs K H ds xs:=by
 rcases j with rfl|rfl
 .obtain⟨a,xs,c,f,g⟩:=TX.mp h;exact⟨a,xs,c,.inl f,g⟩
 .obtain⟨a,o,xs,c,f,g⟩:=jG.mp h;exact⟨a,xs,c,.inr ⟨o,f⟩,g⟩
def Ce {H c:Hp}{a:Addr}{u:HO}(e:Tx H c)(h:Rd H a u):Rd c a u:=h.imp (λq=>e _ _ q) λ⟨o,q⟩=>⟨o,e _ _ q⟩
def EF {H:Hp}{a:Addr}{c:List (TM×V)}{k:TM}(e:Rd H a (.dK c)):qN H a (kV k) (j3 c k):=.inl ⟨c,k,e,rfl,rfl⟩
def Mq:yA X (zl X.K λd e=>match d with
 | .dct _ _=>none
 | .dcf _ _=>none
 |d=>T7 d e):=yA.weak Ll λx y H Q ⟨F,d,e,z,g,id,l,f,q⟩=>by
 cases d with
 |lst ds =>
  cases e with
  |int k =>
   obtain⟨p,xs,rfl,h,n⟩:=id;obtain⟨x,hx,r⟩:=Cd n (f);exact .inl ⟨p,xs,k,x,rfl,Tr.mp l,(h.same g).sq,hx,q _ F H (.refl g) r⟩
  |_=>exact Jy f
 |tup ds =>
  cases e with
  |int k =>
   obtain⟨p,xs,rfl,h,n⟩:=id;obtain⟨x,hx,r⟩:=Cd n (f);exact .inr (.inl ⟨p,xs,k,x,rfl,Tr.mp l,(h.same g).sq,hx,q _ F H (.refl g) r⟩)
  |_=>exact Jy f
 |scr u =>
  cases e with
  |int k =>
   obtain⟨p,rfl,h⟩:=id;obtain⟨j,v,f⟩:=Jg.mp (f);subst f;refine .inl ⟨p,_,k,.int j,rfl,Tr.mp l,Tx.seq g h,?_,q _ F H (.refl g) (yg _ F)⟩;unfold j0 at v ⊢;cases hx:yn u.length k with
   |none=>simp_all
   |some i=>simp_all
  |_=>exact Jy f
 |str t =>
  cases e with
  |int k =>
   have f:(if t.length<=sizeLine then(j0 t.cps.toList k).map λc=>D.str ⟨#[c]⟩ else none)=some z:=f
   split at f
   .rename_i w;cases s:j0 t.cps.toList k with
    |none=>rw[s] at f;exact Jy f
    |some c =>
     rw[s] at f;obtain rfl:=Zqi f;exact .inr (.inr ⟨t,k,c,IsD.str_iff.mp id,Tr.mp l,w,s,q _ F H (.refl g) (IsD.str_iff.mpr rfl)⟩)
   simp_all
  |_=>exact Jy f
 |_=>exact Jy f
def J6 (C:X.A.units+1<cLine)(t:QE X E a fa)(u:QE X E b fb)(G:BH b)(j:wQ b):QE X E (.Subscript a b pos) (Ts T7 fa fb):=
 PE.weak (PE.or (L3 C t u j) (Ek (Mq) t u G)) λZ H Q h=>by
  obtain⟨B,F,sd,r,n⟩:=h;by_cases f:∃d ks ds,fa sd=.ok d/\(d=.dct ks ds\/d=.dcf ks ds)
  .obtain⟨d,ks,ds,f,A⟩:=f;refine .inl ⟨B,F,sd,r,(Res.need_bind n).monoE (λx hx I v J Y g K=>?_) λ_ _ q=>q⟩;rw[f] at hx;cases hx;refine⟨B,J,sd,r.step g,(Res.need_bind I).mono (λy L w M N l O=>?_) λ_ _ q=>q.ext g⟩;obtain⟨z,s,q⟩:=Tu L;obtain⟨k,P,s⟩:=Jh.mp (show(Qg y).bind (λq=>jk ks ds q)=some z by rcases A with rfl|rfl<;>exact s);obtain⟨p,xs,rfl,R,S,T⟩:=EE A K;obtain⟨x,hx,U⟩:=(YM k S T).1 z s;refine⟨p,x,rfl,?_,q x M N (g.trans l) (IsD.same l.ff _ _ U)⟩;rw[XB P O,<- hx];exact EF (Ce l.hh (Ce g.fh R))
  .refine .inr (YH ⟨B,F,sd,r,?_⟩);unfold Ts at n ⊢;cases hx:fa sd with
   |ok d =>
    rw[hx] at n;cases d with
    |dct ks ds=>exact Zn ⟨_,ks,ds,hx,.inl rfl⟩ f
    |dcf ks ds=>exact Zn ⟨_,ks,ds,hx,.inr rfl⟩ f
    |_=>exact n
   |no=>rw[hx] at n;exact n
   |ex c fs=>rw[hx] at n;exact n
def jY (neg:Bool):D->D->Yu
 |k,.dct ks ds=>(Qg k).map λq=>.bl (if neg then !(jk ks ds q).isSome else(jk ks ds q).isSome)
 |k,.dcf ks ds=>(Qg k).map λq=>.bl (if neg then !(jk ks ds q).isSome else(jk ks ds q).isSome)
 |d,.lst ds=>if plN 12 d&&ds.all (plN 12) then some (.bl (if neg then !ds.any (λe=>sameD e d) else ds.any λe=>sameD e d)) else none
 |d,.tup ds=>if plN 12 d&&ds.all (plN 12) then some (.bl (if neg then !ds.any (λe=>sameD e d) else ds.any λe=>sameD e d)) else none
 |_,_=>none
theorem EG {K:W.Frag}{H:Hp}:∀n d e v,plN n d=true->plN n e=true->IsD K H d v->IsD K H e v->d=e
 | 0,_,_,_,h,_,_,_=>by exact JI h
 |n+1,d,e,v,hd,he,f,c=>by
  have all:∀ds es xs,ds.all (plN n)=true->es.all (plN n)=true->IsDs K H ds xs->IsDs K H es xs->ds=es:=by
   intro ds
   induction ds with
   |nil =>
    intro es xs _ _ f c;rw[IsDs.nil_iff] at f;subst f;have:=c.length
    grind
   |cons d ds A =>
    intro es xs u w f c;rw[Ui,Ub] at u;rw[Tv] at f;obtain⟨x,r,rfl,B,C⟩:=f;cases es with
    |nil=>rw[IsDs.nil_iff] at c;cases c
    |cons e es =>
     rw[Ui,Ub] at w;rw[Tv] at c;obtain⟨J,L,s,F,G⟩:=c;cases s;rw[EG n d e x u.1 w.1 B F,A es r u.2 w.2 C G]
  have ne:∀{a:Addr} {xs z:Yr},xB K H a xs->qL K H a z->False:=λ{a xs z} l g=>by
   rcases g with g|⟨o,g⟩
   .rw[l] at g;cases g
   .rw[l] at g;cases g
  cases d with
  |int i =>
   rw[Tr] at f;subst f;cases e with
   |int j=>rw[Tr] at c;cases c;rfl
   |str j=>rw[IsD.str_iff] at c;cases c
   |non=>rw[TH] at c;cases c
   |tup es=>grind[Tt]
   |lst es=>grind[Tw]
   |_=>exact JI he
  |str i =>
   rw[IsD.str_iff] at f;subst f;cases e with
   |int j=>rw[Tr] at c;cases c
   |str j=>rw[IsD.str_iff] at c;cases c;rfl
   |non=>rw[TH] at c;cases c
   |tup es=>simp_all [Tt]
   |lst es=>simp_all [Tw]
   |_=>exact JI he
  |non =>
   rw[TH] at f;subst f;cases e with
   |int j=>rw[Tr] at c;cases c
   |str j=>rw[IsD.str_iff] at c;cases c
   |non=>rfl
   |tup es=>grind[Tt]
   |lst es=>grind[Tw]
   |_=>exact JI he
  |tup ds =>
   rw[Tt] at f;obtain⟨a,xs,rfl,l,g⟩:=f;cases e with
   |int j=>rw[Tr] at c;cases c
   |str j=>simp_all [IsD.str_iff]
   |non=>simp_all [TH]
   |tup es =>
    rw[Tt] at c;obtain⟨I,p,s,q,y⟩:=c;cases s;have t:H a=some (.tup xs):=l;rw[show H a=some (.tup p) from q] at t;cases t;rw[all ds es _ hd he g y]
   |lst es =>
    grind[Tw]
   |_=>exact JI he
  |lst ds =>
   rw[Tw] at f;obtain⟨a,xs,rfl,l,g⟩:=f;cases e with
   |int j=>rw[Tr] at c;cases c
   |str j=>cases c
   |non=>cases c
   |tup es =>
    grind[Tt]
   |lst es =>
    rw[Tw] at c;obtain⟨I,p,s,q,y⟩:=c;cases s;have:xs=p:=by
     rcases l with l|⟨_,l⟩<;>rcases q with q|⟨_,q⟩<;>rw[l] at q<;>cases q<;>rfl
    subst this;rw[all ds es _ hd he g y]
   |_=>exact JI he
  |_=>exact JI hd
def gS (K:W.Frag)(H:Hp)(d:D)(u:Value):Prop:=∃v,TC v u/\IsD K H d v
def eqTo (K:W.Frag)(H:Hp)(d:D)(u:Value):Bool:=@decide (gS K H d u) (Classical.propDecidable _)
def Mr {K:W.Frag}{H:Hp}{d e:D}{v:V}{u:Value}(c:plN 12 d=true)(f:plN 12 e=true)(h:IsD K H e v)(r:TC v u):eqTo K H d u=sameD e d:=by
 by_cases q:e=d
 .rw[q,VM];exact @decide_eq_true _ (Classical.propDecidable _) ⟨v,r,q ▸ h⟩
 .rw[z5.mpr q];refine @decide_eq_false _ (Classical.propDecidable _) λ⟨j,g,h'⟩=>q ?_;rw[g.inj r] at h';exact EG 12 e d v f c h h'
def any_eq {P:Program}{w:World}{K:W.Frag}{A:Around}{s:Shared}{H:Hp}(r:A.units+60<cLine)(ok:qr P w H s.heap){d:D}{x:V}{v:Value}(hp:plN 12 d=true)(hx:IsD K H d x)(l:TC x v):
 ∀{ds:Yt} {xs:Yr} {us:Yd},ds.all (plN 12)=true->IsDs K H ds xs->TD xs us->us.map (eqTo K H d)=ds.map (λe=>sameD e d)/\∀u∈us,SeqAt.EqAt A s u v (eqTo K H d u):=by
 intro ds
 induction ds with
 |nil =>
  intro xs us _ f g;subst f;cases g;simp
 |cons e ds n =>
  intro xs us c f g;rw[Ui,Ub] at c;obtain⟨y,rs,rfl,h,p⟩:=f;cases g with
  |cons j q =>
   obtain⟨t,z⟩:=n c.2 p q;obtain⟨B,C⟩:=Xd ok 12 e y _ c.1 h j;obtain⟨cs,F⟩:=Xd ok 12 d x v hp hx l;obtain⟨G,I⟩:=XA 12 e c.1;obtain⟨J,L⟩:=XA 12 d hp;have es:=Mr hp c.1 h j;refine⟨(),λu hm=>?_⟩;rcases UB.mp hm with hm|hm
   .subst hm;rw[es,<- (U2.mpr ((Cc 12 e d c.1 hp).trans f6.symm):PyData.eqv (xx e) (xx d)=sameD e d)]
    grind[SeqAt.eqAt_reads]
   simp_all
def any_map' {α: Type}{f:α -> Bool}{l:List α}:l.any f=(l.map f).any id:=()
def Cf (C:X.A.units+64<cLine)(neg:Bool):jE X (compareOp (if neg then .NotIn else .In)) (zl X.K λd e=>match e with
 | .dct _ _=>none
 | .dcf _ _=>none
 |e=>jY neg d e):=by
 intro Y s Z H x y v u Q I t w ⟨F,d,e,z,f,id,j,g,q⟩;have id':=IsD.same f _ _ id;cases e with
 |lst ds =>
  have g:(if plN 12 d&&ds.all (plN 12) then some (D.bl (if neg then !ds.any (λe=>sameD e d) else ds.any λe=>sameD e d)) else none)=some z:=g
  split at g
  .rename_i hp;rw[Ub] at hp;obtain rfl:=Zqi g;rw[Tw] at j;obtain⟨p,xs,rfl,l,n⟩:=j;obtain rfl:u=Value.ref p:=w;obtain⟨c,r,pl,B⟩:=I.list (l.same f).sq;obtain⟨k1,k2⟩:=any_eq (A:=X.A.in1) (by show X.A.units+1+60<cLine;lia) I.hok hp.1 id' t hp.2 (IsDs.same f _ _ n) r;have h:c.toArray.any (eqTo X.K H d)=ds.any (λe=>sameD e d):=by
    rw[show c.toArray.any (eqTo X.K H d)=c.any (eqTo X.K H d) by simp,any_map',k1,<- any_map']
   cases neg with
   |true =>
    refine SeqAt.notIn_listAt (eqTo X.K H d) pl.isList () ⟨.bl _,H,I,rfl,?_⟩;rw[h];exact q _ F H (.refl f) (yh _ F)
   |false =>
    refine SeqAt.in_listAt (eqTo X.K H d) pl.isList () ⟨.bl _,H,I,rfl,?_⟩;rw[h];exact q _ F H (.refl f) (yh _ F)
  simp_all
 |tup ds =>
  have g:(if plN 12 d&&ds.all (plN 12) then some (D.bl (if neg then !ds.any (λe=>sameD e d) else ds.any λe=>sameD e d)) else none)=some z:=g
  split at g
  .rename_i hp;rw[Ub] at hp;obtain rfl:=Zqi g;obtain⟨p,xs,rfl,l,n⟩:=j;obtain rfl:=w;obtain⟨c,r,pl,B⟩:=I.tuple (l.same f).sq;obtain⟨k1,k2⟩:=any_eq (A:=X.A.in1) (by show X.A.units+1+60<cLine;lia) I.hok hp.1 id' t hp.2 (IsDs.same f _ _ n) r;have h:c.toArray.any (eqTo X.K H d)=ds.any (λe=>sameD e d):=by
    rw[show c.toArray.any (eqTo X.K H d)=c.any (eqTo X.K H d) by simp,any_map',k1,<- any_map']
   cases neg with
   |true =>
    refine SeqAt.notIn_tupleAt (eqTo X.K H d) pl () ⟨.bl _,H,I,rfl,?_⟩;rw[h];exact q _ F H (.refl f) (yh _ F)
   |false =>
    refine SeqAt.in_tupleAt (eqTo X.K H d) pl () ⟨.bl _,H,I,rfl,?_⟩;rw[h];exact q _ F H (.refl f) (yh _ F)
  simp_all
 |_=>exact Jy g
def Cg {K:W.Frag}{neg:Bool}{Z: St}{H:Hp}{Q:VK}(h:tD K E (Ts (jY neg) fa fb) Z H Q):
 (λZ H Q=>tD K E fa Z H λy t=>tD K E fb Z t λx j=>∃a o,x=.ref a/\qN j a y o/\Q (.bl (if neg then !o.isSome else o.isSome)) j) Z H Q\/wj (zl K λd e=>match e with
 | .dct _ _=>none
 | .dcf _ _=>none
 |e=>jY neg d e) (tD K E fa) (tD K E fb) Z H Q:=by
 obtain⟨B,F,sd,r,n⟩:=h;by_cases g:∃d ks ds,fb sd=.ok d/\(d=.dct ks ds\/d=.dcf ks ds)
 .obtain⟨d,ks,ds,g,u⟩:=g;refine .inl ⟨B,F,sd,r,(Res.need_bind n).mono (λx G v I t l J=>?_) λ_ _ q=>q⟩;refine⟨B,I,sd,r.step l,(Res.need_bind G).monoE (λy f L w M j A N=>?_) λ_ _ q=>q.ext l⟩;rw[g] at f;cases f;obtain⟨z,s,q⟩:=Tu L;obtain⟨k,O,s⟩:=Jg.mp (show(Qg x).map (λq=>D.bl (if neg then !(jk ks ds q).isSome else(jk ks ds q).isSome))=some z by rcases u with rfl|rfl<;>exact s);subst s;obtain⟨p,xs,rfl,P,R,S⟩:=EE u N;obtain⟨T,U⟩:=YM k R S;refine⟨p,j3 (ks.zip xs) k,rfl,?_,?_⟩
  .rw[XB O J];exact EF (Ce A.fh P)
  .have es:(j3 (ks.zip xs) k).isSome=(jk ks ds k).isSome:=by
    cases C:jk ks ds k with
    |none=>rw[U C];rfl
    |some d=>obtain⟨x,hx,_⟩:=T d C;rw[hx];rfl
   rw[es];exact q _ M j (l.trans A) (Tz.mpr rfl)
 .refine .inr (YH ⟨B,F,sd,r,?_⟩);unfold Ts at n ⊢;cases hx:fa sd with
  |ok d =>
   rw[hx] at n;cases f:fb sd with
   |ok e =>
    rw[f] at n;cases e with
    |dct ks ds=>exact Zn ⟨_,ks,ds,f,.inl rfl⟩ g
    |dcf ks ds=>exact Zn ⟨_,ks,ds,f,.inr rfl⟩ g
    |_=>exact n
   |no=>rw[f] at n;exact n
   |ex c fs=>rw[f] at n;exact n
  |no=>rw[hx] at n;exact n
  |ex c fs=>rw[hx] at n;exact n
def Ms (g:X.A.units+64<cLine)(c:QE X E a fa)(d:QE X E b fb)(f:behindInMarks .NotIn b=false:=by rfl):QE X E (.Compare a [.NotIn] [b] pos) (Ts (jY true) fa fb):=
 PE.weak (PE.or (Ii (Es () c d) f) (DR (Cf g true) c d f)) λZ H Q h=>Cg h
def A1 (g:X.A.units+64<cLine)(c:QE X E a fa)(d:QE X E b fb)(f:behindInMarks .In b=false:=by rfl):QT X E (.Compare a [.In] [b] pos) (Jx (Ts (jY false) fa fb)):=
 PT.weak (PT.or (Af (L4 () c d) f) (Aj (Cf g false) c d f)) λZ H Q h=>Cg (VE h)
def Ch (g:X.A.units+64<cLine)(c:QE X E a fa)(d:QE X E b fb)(f:behindInMarks .NotIn b=false:=by rfl):QT X E (.Compare a [.NotIn] [b] pos) (Jx (Ts (jY true) fa fb)):=
 PT.weak (PT.or (Af (Es () c d) f) (Aj (Cf g true) c d f)) λZ H Q h=>Cg (VE h)
end
section
variable {X:Cx}{E:XK}{m:Option Bool}{a b o i e f tg:Expr}{fa fb fo fi fv:FE}{fr:FA}{pos pos' apos cpos p:Pos}
theorem QQ {K:W.Frag}{H:Hp}{d:D}{c:Yr}(h:IsDs K H [d] c):∃v,c=[v]/\IsD K H d v:=by
 simp_all [Tv,IsDs.nil_iff]
def A2 {K:W.Frag}{H:Hp}{d e:D}{c:Yr}(h:IsDs K H [d,e] c):∃v w,c=[v,w]/\IsD K H d v/\IsD K H e w:=by
 grind[Tv,QQ]
def T5:Yt->Yu
 | [.lst ds]=>some (.int ds.length)
 | [.tup ds]=>some (.int ds.length)
 | [.dct ks _]=>some (.int ks.length)
 | [.scr ns]=>some (.int ns.length)
 | [.str x]=>if x.length<=sizeLine then some (.int x.length) else none
 |_=>none
def mS (ds:Yt)(z:D):Prop:=(∃es,ds=[.lst es]/\z=.int es.length)\/(∃es,ds=[.tup es]/\z=.int es.length)\/(∃ks es,ds=[.dct ks es]/\z=.int ks.length)\/(∃c,ds=[.scr c]/\z=.int c.length)\/∃x,x.length<=sizeLine/\ds=[.str x]/\z=.int x.length
def Mt (c:T5 ds=some z):mS ds z:=by
 cases ds with
 |nil=>exact Jy c
 |cons d ds =>
  cases ds with
  |nil =>
   cases d with
   |lst ds=>exact .inl ⟨_,rfl,(Zqi c).symm⟩
   |tup ds=>exact .inr (.inl ⟨_,rfl,(Zqi c).symm⟩)
   |dct ks ds=>exact .inr (.inr (.inl ⟨_,_,rfl,(Zqi c).symm⟩))
   |scr g=>exact .inr (.inr (.inr (.inl ⟨_,rfl,(Zqi c).symm⟩)))
   |str x=>exact let q:=BP c;.inr (.inr (.inr (.inr ⟨_,q.1,rfl,q.2.symm⟩)))
   |_=>exact Jy c
  |cons e ds=>cases d<;>exact Jy c
def JZ:jH X (.builtin "len") (z6 X.K T5):=jH.weak (jH.or Lo (jH.or LK Lp)) λxs H Q l=>by
 obtain⟨F,ds,z,c,id,n,q⟩:=l;rcases Mt n with ⟨es,rfl,rfl⟩|⟨es,rfl,rfl⟩|⟨ks,es,rfl,rfl⟩|⟨s,rfl,rfl⟩|⟨x,r,rfl,rfl⟩
 .obtain⟨v,rfl,h⟩:=QQ id;rw[Tw] at h;obtain⟨a,j,rfl,d,g⟩:=h;rw[<- g.length] at q;exact .inl ⟨a,j,rfl,.inl (d.same c).sq,q _ F H (.refl c) (yg _ F)⟩
 .obtain⟨v,rfl,h⟩:=QQ id;rw[Tt] at h;obtain⟨a,j,rfl,d,g⟩:=h;rw[<- g.length] at q;exact .inl ⟨a,j,rfl,.inr (d.same c).sq,q _ F H (.refl c) (yg _ F)⟩
 .obtain⟨v,rfl,h⟩:=QQ id;rw[TX] at h;obtain⟨a,j,rfl,d,g,t⟩:=h;refine .inr (.inl ⟨a,_,rfl,c _ _ d,?_⟩);rw[UV,<- g,Nat.min_self];exact q _ F H (.refl c) (yg _ F)
 .obtain⟨v,rfl,h⟩:=QQ id;rw[je] at h;obtain⟨a,rfl,d⟩:=h;refine .inl ⟨a,_,rfl,.inl (Tx.seq c d),?_⟩;rw[Zql];exact q _ F H (.refl c) (yg _ F)
 .obtain⟨v,rfl,h⟩:=QQ id;rw[IsD.str_iff] at h;subst h;exact .inr (.inr ⟨_,rfl,r,q _ F H (.refl c) (yg _ F)⟩)
def Xf:Yt->Yu
 | [.int i,.int j]=>some (.int (if j<i then j else i))
 |_=>none
def fu (ds:Yt):Prop:=∃i j,ds=[.int i,.int j]
def Mu (c:Xf ds=some z):fu ds:=by
 cases ds with
 |nil=>exact Jy c
 |cons d ds =>
  cases ds with
  |nil=>cases d<;>exact Jy c
  |cons e ds =>
   cases d with
   |int i =>
    cases e with
    |int j =>
     cases ds with
     |nil=>exact⟨_,_,rfl⟩
     |cons _ _=>exact Jy c
    |_=>exact Jy c
   |_=>exact Jy c
def Mv (d:X.calm=true):jH X (.builtin "min") (z6 X.K Xf):=jH.weak (IQ d) λxs H Q g=>by
 obtain⟨F,ds,z,h,id,c,q⟩:=g;obtain⟨i,j,rfl⟩:=Mu c;obtain rfl:=Zqi c;obtain⟨v,w,rfl,l,n⟩:=A2 id;exact⟨_,_,by rw[Tr.mp l,Tr.mp n],q _ F H (.refl h) (yg _ F)⟩
def A3:D->Option Yf
 | .lst ds=>Ke YJ ds
 |_=>none
def Mw {K:W.Frag}{H:Hp}{d:D}{c:Yf}{v:V}(h:A3 d=some c)(i:IsD K H d v):∃a,v=.ref a/\qL K H a (c.map V.int):=by
 cases d with
 |lst ds =>
  obtain⟨a,xs,rfl,j,g⟩:=i;rw[Mf (h)] at g;rw[qy g] at j
  simp_all
 |_=>exact Jy h
def Mx (ns):A3 (.lst (ns.map D.int))=some ns:=Mg ns
def b8:D->Option String
 | .non=>some "NoneType"
 | .bl _=>some "bool"
 | .int _=>some "int"
 | .str _=>some "str"
 | .lst _=>some "list"
 | .tup _=>some "tuple"
 | .dct _ _=>some "dict"
 |_=>none
def ww (t n:String):Bool:=(t == n)||(t == "bool" && n == "int")
def A4 (t n:String):Bool:=["NoneType", "bool", "int", "str", "list", "tuple", "dict"].contains t&&["bool", "int", "str", "list", "tuple", "dict"].contains n
def Mz (K)(t n)(h:A4 t n=true):W.kitOne K (.type t) (.type n)=some (ww t n):=by
 unfold A4 at h;rw[Ub,List.contains_iff_mem,List.contains_iff_mem] at h;obtain⟨c,d⟩:=h;simp only[UB,UE,or_false] at c d;rcases c with rfl|rfl|rfl|rfl|rfl|rfl|rfl<;>rcases d with rfl|rfl|rfl|rfl|rfl|rfl<;>first|rfl|kernel_rfl
def xK:Yt->Yu
 | [d,.ty n]=>(b8 d).bind λt=>if A4 t n then some (.bl (ww t n)) else none
 |_=>none
def M0 {K:W.Frag}{H:Hp}{d:D}{v:V}{t:String}(h:b8 d=some t)(i:IsD K H d v):TyOf K H v (.type t):=by
 cases d with
 |non=>cases h;rw[TH.mp i];exact .non
 |bl b=>cases h;rw[Tz.mp i];exact .bl b
 |int j=>cases h;rw[Tr.mp i];exact .int j
 |str x=>cases h;rw[IsD.str_iff.mp i];exact .str x
 |lst ds =>
  obtain rfl:=Zqi h;obtain⟨a,xs,rfl,g,_⟩:=i;rcases g with g|⟨o,g⟩
  .exact .lst g
  .exact .frz g
 |tup ds =>
  obtain rfl:=Zqi h;obtain⟨a,xs,rfl,g,_⟩:=i;exact .tup g
 |dct ks ds =>
  obtain rfl:=Zqi h;obtain⟨a,xs,rfl,g,_⟩:=i;exact .dK g
 |ty n=>exact Jy h
 |scr n=>exact Jy h
 |ins C fs ds=>exact Jy h
 |exc c=>exact Jy h
 |ucl c=>exact Jy h
 |adr c=>exact Jy h
 |dcf c ds=>exact Jy h
 |pin c ds=>exact Jy h
def mW (ds:Yt)(z:D):Prop:=∃d n t,ds=[d,.ty n]/\b8 d=some t/\A4 t n=true/\z=.bl (ww t n)
def M2 (c:xK ds=some z):mW ds z:=by
 cases ds with
 |nil=>exact Jy c
 |cons d ds =>
  cases ds with
  |nil=>exact Jy c
  |cons e ds =>
   cases ds with
   |nil =>
    cases e with
    |ty n =>
     obtain⟨t,g,c⟩:=Jh.mp (c);exact⟨d,n,t,rfl,g,(BP c).1,(BP c).2.symm⟩
    |_=>exact Jy c
   |cons _ _=>cases e<;>exact Jy c
def EH:jH X (.builtin "isinstance") (z6 X.K xK):=jH.weak LV λxs H Q g=>by
 obtain⟨F,ds,z,c,id,h,q⟩:=g;obtain⟨d,n,t,rfl,j,l,rfl⟩:=M2 h;obtain⟨v,w,rfl,r,s⟩:=A2 id;exact⟨v,_,_,_,by rw[qB.mp s],M0 j (IsD.same c _ _ r),Mz _ _ _ l,q _ F H (.refl c) (yh _ F)⟩
def EI (c:Gl X x)(d:X.mg x=none)(g:bootBuiltins x=some u)(r:TC (.ty n) u)(h:x ≠ "__name__" := by decide)(j:(x == ("__debug__" : Str))=false:=by decide):QE X E (.Name x pos) (dC (.ty n)):=
 X5 (Ie c d g r h j) λ_=>qB.mpr rfl
def Kk:Yt->Yu
 | [.lst ds]=>some (.lst ds)
 | [.tup ds]=>some (.lst ds)
 | [.scr ns]=>some (.lst (ns.map .int))
 |_=>none
def fq (ds:Yt)(z:D):Prop:=(∃es,ds=[.lst es]/\z=.lst es)\/(∃es,ds=[.tup es]/\z=.lst es)\/∃c,ds=[.scr c]/\z=.lst (c.map .int)
def M3 (c:Kk ds=some z):fq ds z:=by
 cases ds with
 |nil=>exact Jy c
 |cons d ds =>
  cases ds with
  |nil =>
   cases d with
   |lst ds=>exact .inl ⟨_,rfl,(Zqi c).symm⟩
   |tup ds=>exact .inr (.inl ⟨_,rfl,(Zqi c).symm⟩)
   |scr g=>exact .inr (.inr ⟨_,rfl,(Zqi c).symm⟩)
   |_=>exact Jy c
  |cons e ds=>cases d<;>exact Jy c
def YN:jH X (.type "list") (vV X.K Kk):=jH.weak Lq λxs H Q s=>by
 obtain⟨F,ds,z,g,id,t,q⟩:=s;have d:∀{es:Yt} {c:Yr},IsDs X.K F es c->xP X.K F H Q (.lst es)->∀l,H l=none->Q (.ref l) (upd H l (.lst c)):=λ{es c} h q l n =>
  q l F _ (.keep g n _) n (Qs g n) ⟨c,JC,h⟩
 rcases M3 t with ⟨es,rfl,rfl⟩|⟨es,rfl,rfl⟩|⟨u,rfl,rfl⟩
 .obtain⟨v,rfl,h⟩:=QQ id;rw[Tw] at h;obtain⟨a,c,rfl,j,r⟩:=h;exact⟨a,c,rfl,.inl (j.same g).sq,d r q⟩
 .obtain⟨v,rfl,h⟩:=QQ id;rw[Tt] at h;obtain⟨a,c,rfl,j,r⟩:=h;exact⟨a,c,rfl,.inr (j.same g).sq,d r q⟩
 .obtain⟨v,rfl,h⟩:=QQ id;rw[je] at h;obtain⟨a,rfl,j⟩:=h;exact⟨a,_,rfl,.inl (Tx.seq g j),d (jS _) q⟩
def YO:Yt->Yu
 | [.lst ds]=>some (.tup ds)
 | [.tup ds]=>some (.tup ds)
 |_=>none
def mM (ds:Yt)(z:D):Prop:=(∃es,ds=[.lst es]/\z=.tup es)\/∃es,ds=[.tup es]/\z=.tup es
def M4 (c:YO ds=some z):mM ds z:=by
 cases ds with
 |nil=>exact Jy c
 |cons d ds =>
  cases ds with
  |nil =>
   cases d with
   |lst ds=>exact .inl ⟨_,rfl,(Zqi c).symm⟩
   |tup ds=>exact .inr ⟨_,rfl,(Zqi c).symm⟩
   |_=>exact Jy c
  |cons e ds=>cases d<;>exact Jy c
def EJ:jH X (.type "tuple") (z6 X.K YO):=jH.weak Lr λxs H Q r=>by
 obtain⟨F,ds,z,d,id,s,q⟩:=r;rcases M4 s with ⟨es,rfl,rfl⟩|⟨es,rfl,rfl⟩
 .obtain⟨v,rfl,h⟩:=QQ id;rw[Tw] at h;obtain⟨a,c,rfl,g,j⟩:=h;refine⟨a,c,rfl,.inl ⟨(g.same d).sq,λl t=>?_⟩⟩;have n:=jo d t (.tup c);exact q _ _ _ n (Tt.mpr ⟨l,c,rfl,.of JC,IsDs.same n.ff _ _ j⟩)
 .obtain⟨v,rfl,h⟩:=QQ id;have h':=h;rw[Tt] at h;obtain⟨a,c,rfl,g,j⟩:=h;exact⟨a,c,rfl,.inr ⟨(g.same d).sq,q _ F H (.refl d) h'⟩⟩
def Wh:FE:=λ_=>.ok (.dct [] [])
def Ci:QN X E (.Dict [] [] pos) Wh:=PE.weak L8 λZ H Q ⟨B,F,sd,r,n⟩=>λp hp=>n p F _ (.keep r.ext.fh hp _) hp (Qs r.ext.fh hp) ⟨[],JC,rfl,.nil⟩
def Wy (i:Nat)(c fv:FE):FS:=λsd=>(fv sd).bind λv=>match sd[i]? with
 |some (some (.own false (.dct ks ds)))=>(c sd).bind λk=>match Qg k with
  |some q=>if ks.length<sizeLine then .ok (.next (sd.set i (some (.own false (.dct (Wx ks q) (Xe ks ds q v)))))) else .no
  |none=>.no
 |_=>.no
def EK (x:X.A.units+1<cLine)(y:PE X o (xl j))(z:QE X E i fi)(A:QE X E e fv)(C:swapsWith e (some (.Subscript o i pos')) pos.line X.env=pure false:=by rfl):
 QS X E m (.Assign [.Subscript o i pos'] e pos) (Wy j fi fv):=PS.weak (L5 x y z A C) λT Z H G=>by
 obtain⟨B,F,sd,r,n⟩:=G;refine⟨B,F,sd,r,(Res.need_bind n).mono (λd s v I H1 c J=>?_) λ_ _ q=>q.ext r.ext⟩
 split at s
 .rename_i ks ds t;obtain⟨l,u,h2,h3,⟨xs,L,M,N⟩,_⟩:=(r.step c).own t;refine⟨.ref l,u,B,I,sd,r.step c,(Res.need_bind s).mono (λk g w O H2 h P=>?_) λ_ _ q=>q.ext (r.step c).ext⟩
  split at g
  .rename_i q Q
   split at g
   .rename_i hz;obtain⟨R,S,U,Y⟩:=ED (K:=X.K) (q:=q) M (IsDs.same h.ff _ _ N) (IsD.same h.ff _ _ J);have hH:=h.hh _ _ L;refine⟨l,_,rfl,(by rw[XB Q P];exact z0.k hH (by rw[UV];lia)),?_⟩;exact g Z O _ (c.ff.trans h.ff) (((r.step c).step h).chg t u ⟨R,by rw[JC,S],U,Y⟩)
   .exact g.elim
  .exact g.elim
 .exact s.elim
def A5:D->Option Yt
 | .lst ds=>some ds
 | .scr ns=>some (ns.map .int)
 |_=>none
def vv:D->Option Yt
 | .tup ds=>some ds
 |_=>none
def iL (f:FE):FA:=λsd=>(f sd).bind λd=>.ofO (A5 d)
def iT (f:FE):FA:=λsd=>(f sd).bind λd=>.ofO (vv d)
def A6 {K:W.Frag}{j:Hp}{J:It}{ds:Yt}{xs:Yr}{S:Hp->Prop}(h:IsDs K j ds xs)(v:∀F H,Tx j F->Tx F H->S H)(g:∀i H x,S H->xs[i]? = some x->J.go i H)(st:∀i H,S H->xs.length<=i->J.stop i H)
 (w:∀i H x q,S H->J.yld i H x q->q=H/\xs[i]? = some x):xO K j J ds:=λi r c s t=>by
 have l:=v r c s t;refine⟨λu=>?_,λu=>st i c l (by rwa [h.length])⟩;obtain⟨x,hx,_⟩:=h.get (Zqg u);refine⟨g i c x l hx,λy z A=>?_⟩;obtain⟨rfl,n⟩:=w i c y z l A;obtain⟨d,B,id⟩:=h.getV n;exact⟨d,r,B,.refl t,IsD.same s _ _ id⟩
def M5 (h:QE X E e fa):QI X E tg e (iL fa):=PI.weak (Iz h) λZ H R G=>by
 obtain⟨B,F,sd,r,n⟩:=G;refine⟨B,F,sd,r,(Res.need_bind n).mono (λd I v z A l s=>?_) λ_ _ q=>q⟩;obtain⟨ds,t,q⟩:=Tu I;cases d with
 |lst es =>
  obtain rfl:=Zqi t;rw[Tw] at s;obtain⟨a,xs,rfl,g,J⟩:=s;refine⟨a,rfl,⟨xs,(g.same l.fh).sq⟩,q _ z A l (A6 (S:=λH=>jL X.K H a xs) J (λF H u w=>((g.same u).same w).sq) (λi H x c hx=>⟨xs,x,c,hx⟩) (λi H c y=>⟨xs,c,y⟩) λi H x K c j=>⟨j.1,j.2 xs c⟩)⟩
 |scr C =>
  obtain rfl:=Zqi t;rw[je] at s;obtain⟨a,rfl,g⟩:=s;refine⟨a,rfl,⟨_,Tx.seq l.fh g⟩,q _ z A l (A6 (S:=λH=>jL X.K H a (C.map V.int)) (jS C) (λF H u w=>Tx.seq w (Tx.seq u g)) (λi H x c hx=>⟨_,x,c,hx⟩) (λi H c y=>⟨_,c,y⟩) λi H x K c j=>⟨j.1,j.2 _ c⟩)⟩
 |_=>exact Jy t
def M6 (h:QE X E e fa):QI X E tg e (iT fa):=PI.weak (I1 h) λZ H R u=>by
 obtain⟨B,F,sd,r,n⟩:=u;refine⟨B,F,sd,r,(Res.need_bind n).mono (λd w v y z g j=>?_) λ_ _ q=>q⟩;obtain⟨ds,l,q⟩:=Tu w;cases d with
 |tup es =>
  obtain rfl:=Zqi l;rw[Tt] at j;obtain⟨a,xs,rfl,s,A⟩:=j;refine⟨a,rfl,⟨xs,(s.same g.fh).sq⟩,q _ y z g (A6 (S:=λH=>qX X.K H a xs) A (λF H C G=>((s.same C).same G).sq) (λi H x c hx=>⟨xs,x,c,hx⟩) (λi H c I=>⟨xs,c,I⟩) λi H x J c t=>⟨t.1,t.2 xs c⟩)⟩
 |_=>exact Jy l
def mP {X:Cx}{tg e:Expr}{t t':TI}(h:PI X tg e t)(h':PI X tg e t'):PI X tg e (λZ H R=>t Z H R\/t' Z H R):=λY s Z H R I q=>q.elim (h Y s Z H R I) (h' Y s Z H R I)
def Xg:D->Option Yt
 | .lst ds=>some ds
 | .scr ns=>some (ns.map .int)
 | .tup ds=>some ds
 |_=>none
def iS (f:FE):FA:=λsd=>(f sd).bind λd=>.ofO (Xg d)
def Qz (h:QE X E e fa):QI X E tg e (iS fa):=PI.weak (mP (M5 (E:=E) h) (M6 (E:=E) h)) λZ H R j=>by
 obtain⟨B,F,sd,r,n⟩:=j;by_cases g:∃ds,fa sd=.ok (.tup ds)
 .obtain⟨ds,g⟩:=g;refine .inr ⟨B,F,sd,r,?_⟩;unfold iS at n;unfold iT;rw[g] at n ⊢;exact n
 .refine .inl ⟨B,F,sd,r,?_⟩;unfold iS at n;unfold iL;cases hx:fa sd with
  |ok d =>
   rw[hx] at n;cases d with
   |tup ds=>exact Zn ⟨ds,hx⟩ g
   |_=>exact n
  |no=>rw[hx] at n;exact n
  |ex c fs=>rw[hx] at n;exact n
def QD (lo:Int)(n:Nat):Yt:=(List.range n).map λk:Nat=>.int (lo+k)
def KQ (j:Int):Bool:=Nat.ble j.toNat 1000000000&&Nat.ble (-j).toNat 1000000000
def EL (h:KQ j=true): -(2 ^ 62)<=j/\j<2 ^ 62:=by
 unfold KQ at h;rw[Ub,UK,UK] at h;lia
def Cj (c: -1000000000<=j)(d:j<=1000000000):KQ j=true:=by
 unfold KQ;rw[Ub,UK,UK];lia
def vc (fr:FA):FA:=λsd=>(fr sd).bind λds=>match ds with
 | [.int j]=>if KQ j then .ok (QD 0 j.toNat) else .no
 |_=>.no
def M7 {K:W.Frag}{d:Hp}(lo)(n):xO K d (bw lo n) (QD lo n):=λi g q r h=>by
 have j:(QD lo n).length=n:=by unfold QD;simp
 rw[j];refine⟨λc=>⟨c,λx s l=>?_⟩,λc=>c⟩;obtain⟨rfl,rfl⟩:=l;refine⟨.int (lo+i),g,?_,.refl h,Tr.mpr rfl⟩
 simp_all [QD]
def A7 {a:Expr}(g:Gl X "range")(l:X.mg "range" = none)(s:QA X E [a] fr)(t:starEach [a] X.env=[(false,eval a X.env)]:=by rfl):QI X E tg (.Call (.Name "range" p) [a] [] pos) (vc fr):=PI.weak (IB g l s t) λZ H R u=>by
 obtain⟨B,F,sd,r,n⟩:=u;refine⟨B,F,sd,r,(Res.need_bind n).mono (λds c A w x y z=>?_) λ_ _ q=>q⟩
 split at c
 .split at c
  .rename_i j d;obtain⟨v,rfl,h⟩:=QQ z;rw[Tr.mp h];exact⟨j,rfl,(EL d).1,(EL d).2,c _ w x y (M7 0 _)⟩
  .exact c.elim
 .exact c.elim
end
section
variable {X:Cx}{E:XK}{m:Option Bool}{a b o i e f tg:Expr}{fa fb fo fi fv:FE}{fr:FA}{pos pos' apos cpos p:Pos}
def PG.weak (h:PG X e t)(w:∀v Z H Q,t' v Z H Q->t v Z H Q):PG X e t':=λY s Z H v u Q I r q=>h Y s Z H v u Q I r (w _ _ _ _ q)
def Ck:Yg->wp
 | []=>kf
 |i::is=>DJ (VB i) (Ck is)
theorem EM:∀{is:Yg} {xs:Yr} {Z: St} {H:Hp} {Q:St->Hp->Prop},xs.length=is.length->Q (Aw is xs Z) H->Ck is xs Z H Q
 | [],xs,Z,H,Q,hl,q=>⟨(),q⟩
 |i::is,[],Z,H,Q,hl,q=>by cases hl
 |i::is,x::xs,Z,H,Q,hl,q=>⟨x,xs,rfl,EM (UJ hl) q⟩
def QR {i:Nat}{e:Expr}(h:PG X e (VB i)):QG X e (.one i):=h
def Kv (is)(h:PG X e (ka X.K is.length (Ck is))):QG X e (.tup is):=PG.weak h λv Z H Q ⟨a,xs,e,d,c,q⟩=>⟨a,xs,e,d,c,EM c q⟩
def Wz (tg:Tg)(c:FT)(f:FE)(sd:SD):Yt->Res Yt
 | []=>.ok []
 |x::xs=>(JY tg x sd).bind λs=>(c s).bind λb=>if b then(f s).bind λy=>(Wz tg c f sd xs).bind λd=>.ok (y::d) else Wz tg c f sd xs
def YP (cap:List (Option Nat))(it:FA)(tg:Tg)(c:FT)(f:FE):FE:=λsd=>(it sd).bind λds=>if Xb (jK cap sd) tg=true/\ds.length<sizeLine then
 (Wz tg c f (jK cap sd) ds).bind λd=>.ok (.lst d) else .no
def M8 {K:W.Frag}{t:Tg}{fi:FA}{I:FT}{f:FE}{cap:List (Option Nat)}{Z: St}{H:Hp}{Q:VK}(L:wl K E (YP cap fi t I f) Z H Q):Ao cap (bO K E fi) (gT t K) (vD K E I) (tD K E f) Z H Q:=by
 obtain⟨B,F,sd,r,n⟩:=L;refine⟨B,F,sd,r,(Res.need_bind n).mono (λds M J S H1 z wk=>?_) λ_ _ q=>q⟩
 split at M
 .rename_i L;obtain⟨hn,hz⟩:=L;refine⟨λi k N Z l=>k=ds.length-i/\i<=ds.length/\∃h es,Ext S H1 h l/\RS K B h l (jK cap sd) Z /\ IsDs K h es N/\es.length<=i /\
   (Wz t I f (jK cap sd) (ds.drop i)).need (λrs=>xP K h l Q (.lst (es++rs))) (XW K E h l),⟨ds.length,rfl,Ug _,S,[],.refl z.fh,(r.step z).cap cap,.nil,Zf _,?_⟩,?_⟩
  .exact(Res.need_bind M).mono (λrs q=>(q).ext z) λ_ _ q=>q.ext z
  rintro i k N Z2 l ⟨rfl,hi,h,es,A,O,C,T,s⟩;have ly:=C.length;refine⟨(),?_⟩;obtain⟨w1,w2⟩:=wk i h l A.ff A.fh;by_cases j:i<ds.length
  .obtain⟨go,yl⟩:=w1 j;refine .inr ⟨go,λx H3 y=>?_⟩;obtain⟨d,F3,hd,g,i3⟩:=yl x H3 y;rw[UU j] at s;have P:ds[i]=d:=by grind[Zqg,Zqi]
   rw[P] at s;refine Ax (O.step g) i3 (Res.need_bind s) λu Z' n4 hb G=>?_;have ⟨U,Y⟩:=E8 hn hb;refine⟨B,F3,u,G,(Res.need_bind n4).mono (λb n5 F4 H4 c=>?_) λ_ _ q=>q.ext g⟩;cases b with
   |true =>
    refine⟨B,F4,u,G.step c,(Res.need_bind n5).mono (λy n6 v F5 H5 w i5=>⟨ds.length-(i+1),(),rfl,j,F5,es++[y],((A.trans g).trans c).trans w,((G.step c).step w).forget U Y,(IsDs.same ((g.ff.trans c.ff).trans w.ff) _ _ C).snoc i5,by rw[Ua];exact Nat.succ_le_succ T,(Res.need_bind n6).mono (λrs q=>?_) λ_ _ q=>q.ext ((g.trans c).trans w)⟩) λ_ _ q=>q.ext (g.trans c)⟩;rw[Uo];exact(q).ext ((g.trans c).trans w)
   |false =>
    exact⟨ds.length-(i+1),(),rfl,j,F4,es,(A.trans g).trans c,(G.step c).forget U Y,IsDs.same (g.ff.trans c.ff) _ _ C,Nat.le_succ_of_le T,(n5).mono (λrs q=>q.ext (g.trans c)) λ_ _ q=>q.ext (g.trans c)⟩
  .have he:i=ds.length:=()
   subst he;refine .inl ⟨w2 (Zf _),λD R=>?_⟩;rw[Vh] at s;have q:xP K h l Q (.lst (es++[])):=s;rw[ZA] at q;exact q D h _ (.keep O.ext.fh R _) R (Qs O.ext.fh R) ⟨N,JC,C⟩
 .exact M.elim
end
section
variable {X:Cx}{E:XK}{m:Option Bool}{a b o i e f tg:Expr}{fa fb fo fi fv:FE}{fr:FA}{pos pos' apos cpos p:Pos}
def jJ (neg:Bool):D->Yu
 | .non=>some (.bl (!neg))
 |_=>some (.bl neg)
def M9:D->Bool
 | .non=>true
 |_=>false
def EN {K:W.Frag}{H:Hp}{d:D}{v:V}(h:IsD K H d v):decide (v=.non)=M9 d:=by
 cases d with
 |non=>rw[TH.mp h];rfl
 |bl b=>rw[Tz.mp h];rfl
 |int b=>rw[Tr.mp h];rfl
 |str b=>rw[IsD.str_iff.mp h];rfl
 |ty b=>rw[qB.mp h];rfl
 |scr b=>obtain⟨a,rfl,_⟩:=je.mp h;rfl
 |tup b=>obtain⟨a,_,rfl,_⟩:=Tt.mp h;rfl
 |lst b=>obtain⟨a,_,rfl,_⟩:=Tw.mp h;rfl
 |dct b c=>obtain⟨a,_,rfl,_⟩:=TX.mp h;rfl
 |ins b c d=>obtain⟨a,_,_,_,rfl,_⟩:=jh.mp h;rfl
 |exc b=>obtain⟨a,_,rfl,_⟩:=ql.mp h;rfl
 |ucl b=>obtain⟨a,rfl,_⟩:=xZ.mp h;rfl
 |adr b=>rw[TR.mp h];rfl
 |dcf b c=>obtain⟨a,_,_,rfl,_⟩:=jG.mp h;rfl
 |pin b c=>rw[(jF.mp h).1];rfl
def MA {K:W.Frag}{Z: St}{H:Hp}{Q:VK}(h:tD K E (jb (jJ false) fa) Z H Q):v9 (tD K E fa) Z H Q:=by
 obtain⟨B,F,sd,r,n⟩:=h;refine⟨B,F,sd,r,(Res.need_bind n).mono (λx d v g c j l=>?_) λ_ _ q=>q⟩;show Q (V.bl (decide (v=V.non))) c;rw[EN l];cases x<;>exact d _ g c j (Tz.mpr rfl)
def MB {K:W.Frag}{Z: St}{H:Hp}{Q:VK}(h:tD K E (jb (jJ true) fa) Z H Q):DC (tD K E fa) Z H Q:=by
 obtain⟨B,F,sd,r,n⟩:=h;refine⟨B,F,sd,r,(Res.need_bind n).mono (λx d v g c j l=>?_) λ_ _ q=>q⟩;show Q (V.bl !decide (v=V.non)) c;rw[EN l];cases x<;>exact d _ g c j (Tz.mpr rfl)
def MC {j pos'}(c:QE X E a fa):QT X E (.Compare a [.Is] [.Constant .none j pos'] pos) (Jx (jb (jJ false) fa)):=PT.weak (Af (Ig c)) λ_ _ _ h=>MA (VE h)
def Cm {j pos'}(c:QE X E a fa):QT X E (.Compare a [.IsNot] [.Constant .none j pos'] pos) (Jx (jb (jJ true) fa)):=PT.weak (Af (Ih c)) λ_ _ _ h=>MB (VE h)
end
end L2.DL
namespace L2
section
variable {X:Cx}{tg iter elt c:Expr}{scope:Scope}{pos:Pos}{wi:TI}{g:TG}{te:TE}{tt:TT}
def EO (a:X.N.Nodup)(d:X.N[iy]? = some y)(f:xY X.env.scope y)(h:X.fn y=true\/X.env.scope.names.lookup y=some .local):
 YE X Y Z (λv A=>DD.nx (Z.set iy (some v)) A) (some (assign (.Name y py) X.env)) (λ_ s'=>SP X Y DD .next s'):=λC D m i r B E M sz F G k=>by
 obtain⟨N,x,z,j,H,I⟩:=k i.heap ⟨rfl,λ_ _=>rfl⟩;obtain⟨l,n,q,J,s,t⟩:=id B;have K:Inv X (Y++[(C,l)]) Z x { i with heap:=i.heap }:=z.pins_of λp hp=>by
  rcases Jb.mp hp with hp|hp
  .exact z.pin p ()
  simp_all
 exact wpAny_assign_Name (Y8 K a d f j (λO u=>(⟨m,⟨l,n,q,(u.pin (C,l) ()).1,s,t⟩,λh' w=>⟨_,x,(u.pins_of λp hp=>u.pin p ()).turned (λb o L e=>(w.2 b L).trans e) H E (.inr sz) F G,I⟩⟩)) h)
def MD (a:swapsWith (.ListComp elt [⟨tg,iter,[],0⟩] scope pos) (some (.Name y py)) spos.line X.env=pure true)(b:X.N.Nodup)(d:X.N[iy]? = some y)(f:xY X.env.scope y)(i:X.fn y=true\/X.env.scope.names.lookup y=some .local)(N)(cap)(n:X.calm=true)(j:KC scope X.env N X.N cap=true)(o:PI X tg iter wi)(p:∀l C s H m,PG (JO X scope N l C s H m) tg g)(t:∀l C s H m,PE (JO X scope N l C s H m) elt te)
 (q:∀x,foldedSetIterable iter X.env x=pure x:=by intro _;rfl):PS X (.Assign [.Name y py] (.ListComp elt [⟨tg,iter,[],0⟩] scope pos) spos) (yC (YD cap wi g te) (VB iy)):=by
 intro Y s Z H u I h;rw[exec_Assign_Name_used _ _ _ _ a];refine Za (wpAny_standAt (Za (Za (Zc (Ex N cap n j o p () q I h (EO b d f i)) (λ_ s' r=>Zb (Zb r)) λ_ _ e=>e))))
def ME (d:swapsWith (.ListComp elt [⟨tg,iter,[c],0⟩] scope pos) (some (.Name y py)) spos.line X.env=pure true)(f:X.N.Nodup)(i:X.N[iy]? = some y)(j:xY X.env.scope y)(l:X.fn y=true\/X.env.scope.names.lookup y=some .local)(N)(cap)(n:X.calm=true)(m:KC scope X.env N X.N cap=true)(o:PI X tg iter wi)(p:∀a C s H b,PG (JO X scope N a C s H b) tg g)(q:∀a C s H b,PT (JO X scope N a C s H b) c tt)(r:∀a C s H b,PE (JO X scope N a C s H b) elt te)
 (t:∀x,foldedSetIterable iter X.env x=pure x:=by intro _;rfl):PS X (.Assign [.Name y py] (.ListComp elt [⟨tg,iter,[c],0⟩] scope pos) spos) (yC (Ao cap wi g tt te) (VB iy)):=by
 intro Y s Z H v I h;rw[exec_Assign_Name_used _ _ _ _ d];refine Za (wpAny_standAt (Za (Za (Zc (LZ N cap n m o p q r t I h (EO f i j l)) (λ_ s' u=>Zb (Zb u)) λ_ _ e=>e))))
end
end L2
namespace L2.DL
section
variable {X:Cx}{E:XK}{m:Option Bool}{tg iter elt c:Expr}{scope:Scope}{pos spos py:Pos}{y:Str}{iy:Nat}{t:Tg}{fi:FA}{fc:FT}{f:FE}
def MF {K:W.Frag}{te:TE}{i:Nat}{a:FE}(w:∀Z H Q,wl K E a Z H Q->te Z H Q){T:Ends}{Z: St}{H:Hp}(h:vE K E m (TK i a) T Z H):yC te (VB i) T Z H:=w _ _ _ (by
 obtain⟨B,F,sd,r,n⟩:=h;exact⟨B,F,sd,r,(Res.need_bind n).mono (λd e=>xu.new λv g j b l=>(e _ g j b.ff ((r.step b).setVal l))) λ_ _ q=>q.ext r.ext⟩)
def MG {K:W.Frag}{te:TE}{i:Nat}{a:FE}(w:∀Z H Q,wl K E a Z H Q->te Z H Q){T:Ends}{Z: St}{H:Hp}(h:vE K E m (xg i a) T Z H):yC te (VB i) T Z H:=w _ _ _ (by
 obtain⟨B,F,sd,r,n⟩:=h;refine⟨B,F,sd,r,(Res.need_bind n).mono (λd e l g s b u v x=>(e _ g s b.ff ((r.step b).setOwn (Qs r.ext.hh u) v x λj p d' z C=>?_))) λ_ _ q=>q.ext r.ext⟩;obtain⟨G,I,_,_,A,_⟩:=r.own z;obtain⟨o,J⟩:=A.has
 simp_all)
def MH (N)(cap)(a:X.N.Nodup)(b:X.N[iy]? = some y)(d:xY X.env.scope y)(n:X.calm=true)(e:KC scope X.env N X.N cap=true)(o:QI X E tg iter fi)
 (p:∀g C s H i,QG (JO X scope N g C s H i) tg t) (r:∀g C s H i,QE (JO X scope N g C s H i) E elt f) (j:swapsWith (.ListComp elt [⟨tg,iter,[],0⟩] scope pos) (some (.Name y py)) spos.line X.env=pure true:=by rfl)
 (l:X.fn y=true\/X.env.scope.names.lookup y=some .local:=by trivial) (u:∀x,foldedSetIterable iter X.env x=pure x:=by intro _;rfl):
 QS X E m (.Assign [.Name y py] (.ListComp elt [⟨tg,iter,[],0⟩] scope pos) spos) (TK iy (Q5 cap fi t f)):=PS.weak (MD j a b d l N cap n e o p r u) λT Z H h=>MF (λ_ _ _ q=>BX q) h
end
def EQ:Option (Option SV)->Res D
 |some (~~~d)=>.ok d
 |_=>.no
@[simp]def S2 (d):EQ (some (~~~d))=.ok d:=rfl
@[simp]def mu (i)(sd):Tn i sd=EQ sd[i]?:= rfl
@[simp]def rd (d)(sd):dC d sd=.ok d:=rfl
@[simp]def nt (g)(fa fb)(sd):Ts g fa fb sd=(fa sd).bind λx=>(fb sd).bind λy=>.ofO (g x y):=rfl
@[simp]def nq (g)(fa)(sd):jb g fa sd=(fa sd).bind λx=>.ofO (g x):=rfl
def nz:D->Res Bool
 | .bl b=>.ok b
 |_=>.no
@[simp]def mK (b):nz (.bl b)=.ok b:=rfl
@[simp]def bh (fa)(sd):Jx fa sd=(fa sd).bind nz:=by
 rfl
@[simp]def hV (f)(sd):Q1 f sd=(f sd).bind λb=>.ok (!b):=rfl
@[simp]def bj (f g)(sd):Qv f g sd=(f sd).bind λb=>if b then g sd else .ok false:=rfl
@[simp]def m6 (f g)(sd):yO f g sd=(f sd).bind λb=>if b then .ok true else g sd:=rfl
@[simp]def bi (fa fb)(sd):WZ fa fb sd=(Jx fa sd).bind λb=>if b then fb sd else .ok (.bl false):=rfl
@[simp]def m5 (a c:FE)(sd:SD):zR a c sd=(Jx a sd).bind λb=>if b then .ok (.bl true) else c sd:=rfl
@[simp]def nu (c:FT)(a b:FE)(sd:SD):wm c a b sd=(c sd).bind λk=>if k then a sd else b sd:=rfl
@[simp]def m7 (sd):Tp sd=.ok []:=rfl
@[simp]def be (fa)(fr)(sd):Jt fa fr sd=(fa sd).bind λx=>(fr sd).bind λxs=>.ok (x::xs):=rfl
@[simp]def m8 (fr)(sd):jQ fr sd=(fr sd).bind λxs=>if xs.length<=1000 then .ok (.lst xs) else .no:=rfl
@[simp]def my (fr)(sd):jn fr sd=(fr sd).bind λxs=>if xs.length<=1000 then .ok (.tup xs) else .no:=rfl
@[simp]def bg (Fn)(fr)(sd):J0 Fn fr sd=(fr sd).bind Fn:=rfl
@[simp]def mF (g)(fr)(sd):T3 g fr sd=(fr sd).bind λxs=>.ofO (g xs):=rfl
@[simp]def bp {α: Type}(a:α):(Res.ok a).bare=.ok a:=rfl
@[simp]def mz (is)(f)(sd):yN is f sd=(f (qj is sd)).bare.bind λd=>if Ki d then .ok d else .no:=rfl
@[simp]def vK (i):Ki (.int i)=true:=rfl
@[simp]def vJ (i:Str):Ki (.str i)=true:=rfl
@[simp]def k6 (sd):qj [] sd=sd:=rfl
def frz1 (i:Nat)(sd:SD):Option (Option SV)->SD
 |some (some (.own _ d))=>sd.set i (~~~d)
 |_=>sd
@[simp]def k7 (i)(sd)(p)(d):frz1 i sd (some (some (.own p d)))=sd.set i (~~~d):=rfl
@[simp]def S3 (i)(is)(sd):qj (i::is) sd=qj is (frz1 i sd sd[i]?):=by
 rfl
def wy (g:FS):Out->Res Out
 | .next sd=>g sd
 |o=>.ok o
@[simp]def S4 (g)(sd):wy g (.next sd)=g sd:=rfl
@[simp]def vI (g)(d):wy g (.ret d)=.ok (.ret d):=rfl
@[simp]def MI (g1 g2)(sd):T1 g1 g2 sd=(g1 sd).bind (wy g2):=by
 rfl
@[simp]def hW (sd):JA sd=.ok (.next sd):=rfl
@[simp]def MJ (i)(f)(sd):TK i f sd=(f sd).bind λd=>.ok (.next (sd.set i (~~~d))):=rfl
@[simp]def m4 (i)(f)(sd):xg i f sd=(f sd).bind λd=>.ok (.next (sd.set i (some (.own false d)))):=rfl
@[simp]def m3 (f)(sd):TN f sd=(f sd).bind λd=>.ok (.ret d):=rfl
def uy:Option (Option SV)->Res D
 |some (some (.own _ d))=>.ok d
 |_=>.no
@[simp]def ux (p)(d):uy (some (some (.own p d)))=.ok d:=rfl
@[simp]def S5 (i)(sd):Xa i sd=(uy sd[i]?).bind λd=>.ok (.ret d):=by
 unfold Xa;cases sd[i]? with
 |none=>rfl
 |some o =>
  cases o with
  |none=>rfl
  |some v=>cases v<;>rfl
@[simp]def bc (f:FE)(sd:SD):VH f sd=(f sd).bind λ_=>.ok (.next sd):=rfl
@[simp]def m9 (c)(g1 g2)(sd):jq c g1 g2 sd=(c sd).bind λb=>if b then g1 sd else g2 sd:=rfl
def w6:Option (Option SV)->Res Yt
 |some (some (.own false (.lst ds)))=>.ok ds
 |_=>.no
@[simp]def uz (ds):w6 (some (some (.own false (.lst ds))))=.ok ds:=rfl
@[simp]def S6 (i)(f)(sd):VI i f sd=(w6 sd[i]?).bind λds=>(f sd).bind λd=>if ds.length<sizeLine then .ok (.next (sd.set i (some (.own false (.lst (ds++[d])))))) else .no:=by
 unfold VI;cases sd[i]? with
 |none=>rfl
 |some o =>
  cases o with
  |none=>rfl
  |some v =>
   cases v with
   |val d=>rfl
   |own p d=>cases p<;>cases d<;>rfl
def ER:D->Res Yt
 | .lst es=>.ok es
 |_=>.no
@[simp]def S7 (es):ER (.lst es)=.ok es:=rfl
@[simp]def S8 (i)(f)(sd):X9 i f sd=(w6 sd[i]?).bind λds=>(f sd).bind λd=>(ER d).bind λes=>if ds.length+es.length<=sizeLine then .ok (.next (sd.set i (some (.own false (.lst (ds++es)))))) else .no:=by
 unfold X9;cases sd[i]? with
 |none=>rfl
 |some o =>
  cases o with
  |none=>rfl
  |some v =>
   cases v with
   |val d=>rfl
   |own p d =>
    cases p with
    |true=>cases d<;>rfl
    |false =>
     cases d with
     |lst ds =>
      cases f sd with
      |ok x=>cases x<;>rfl
      |ex c fs=>rfl
      |no=>rfl
     |_=>rfl
def zH:Option (Option SV)->Res (List TM×Yt)
 |some (some (.own false (.dct ks ds)))=>.ok (ks,ds)
 |_=>.no
@[simp]def u0 (ks)(ds):zH (some (some (.own false (.dct ks ds))))=.ok (ks,ds):=rfl
@[simp]def bd (i)(fk fv)(sd):Wy i fk fv sd=(fv sd).bind λv=>(zH sd[i]?).bind λo=>(fk sd).bind λk=>(Res.ofO (Qg k)).bind λq=>if o.1.length<sizeLine then .ok (.next (sd.set i (some (.own false (.dct (Wx o.1 q) (Xe o.1 o.2 q v)))))) else .no:=by
 unfold Wy;cases fv sd with
 |ok v =>
  cases sd[i]? with
  |none=>rfl
  |some o =>
   cases o with
   |none=>rfl
   |some w =>
    cases w with
    |val d=>rfl
    |own p d =>
     cases p with
     |true=>cases d<;>rfl
     |false =>
      cases d with
      |dct ks ds =>
       cases fk sd with
       |ok k=>show(match Qg k with|some q=>_|none=>_)=(Res.ofO (Qg k)).bind _;cases Qg k<;>rfl
       |ex c fs=>rfl
       |no=>rfl
      |_=>rfl
 |ex c fs=>rfl
 |no=>rfl
def jT:Out->Res D
 | .ret d=>.ok d
 | .next _=>.ok .non
 |_=>.no
@[simp]def u5 (d):jT (.ret d)=.ok d:=rfl
@[simp]def S9 (sd:SD):jT (.next sd)=.ok .non:=rfl
def ES (n ar)(g)(ds)(h:ds.length=ar):jc n ar g ds=(g (Qw n ds)).bind jT:=by
 unfold jc;rw[Zd h];rfl
def zI:Out->Res D
 | .ret d=>.ok d
 |_=>.no
@[simp]def u6 (d):zI (.ret d)=.ok d:=rfl
def vN (n ar)(g)(ds)(h:ds.length=ar):qo n ar g ds=(g (Qw n ds)).bind zI:=by
 unfold qo;rw[Zd h];rfl
@[simp]def bW (n)(g)(a):jc n 1 g [a]=(g (~~~a::List.replicate (n-1) none)).bind jT:=ES n 1 g [a] rfl
@[simp]def MK (n)(g)(a b):jc n 2 g [a,b]=(g (~~~a::~~~b::List.replicate (n-2) none)).bind jT:=rfl
@[simp]def bV (n)(g)(a b c):jc n 3 g [a,b,c]=(g (~~~a::~~~b::~~~c::List.replicate (n-3) none)).bind jT:=rfl
@[simp]def ML (n:Nat)(g:FS)(a b c d:D):jc n 4 g [a,b,c,d]=(g (~~~a::~~~b::~~~c::~~~d::List.replicate (n-4) none)).bind jT:=ES n 4 g [a,b,c,d] rfl
@[simp]def bT (n)(g)(a):qo n 1 g [a]=(g (~~~a::List.replicate (n-1) none)).bind zI:=vN n 1 g [a] rfl
@[simp]def bS (n)(g)(a b):qo n 2 g [a,b]=(g (~~~a::~~~b::List.replicate (n-2) none)).bind zI:=rfl
@[simp]def ky (i j):T6 (.int i) (.int j)=some (.int (i+j)):=rfl
@[simp]def kb (i j):xX (.int i) (.int j)=some (.int (i-j)):=rfl
@[simp]def kg (i):jI (.int i)=some (.int (-i)):=rfl
@[simp]def fH (i j):z9 (.int i) (.int j)=some (.bl (decide (i<j))):=rfl
@[simp]def fL (i j:Int):qA (.int i) (.int j)=some (.bl (decide (i<=j))):=rfl
@[simp]def fQ (i j):yK (.int i) (.int j)=some (.bl (decide (j<i))):=rfl
@[simp]def fR (i j):vd (.int i) (.int j)=some (.bl (decide (j<=i))):=rfl
@[simp]def kv (i j):qi (.int i) (.int j)=some (.bl (decide (i=j))):=Mj i j
@[simp]def kh (i j):x9 (.int i) (.int j)=some (.bl (!decide (i=j))):=Ml i j
def W0 (h:VJ i j=true):j7 (.int i) (.int j)=some (.int (i*j)):=by
 show(if VJ i j then _ else _)=_
 simp_all
def Cn (a: -18446744073709551616<j)(b:j<18446744073709551616):VJ i j=true:=by
 unfold VJ;rw[Ut,Ut,UA,UA];lia
def YQ (a: -18446744073709551616<i)(b:i<18446744073709551616):VJ i j=true:=by
 unfold VJ;rw[Ut,Ut,UA,UA];lia
@[simp]def V0 (h:0<j):TY (.int i) (.int j)=some (.int (i % j)):=by
 show(if Uz 0 j.toNat then _ else _)=_;rw[Zd (by rw[UA];lia)]
@[simp]def ET (h:0<j)(a:j<1073741824):K6 (.int i) (.int j)=some (.int (i / j)):=by
 show(if Uz 0 j.toNat&&Uz j.toNat 1073741824 then _ else _)=_;rw[Zd (by rw[Ub,UA,UA];lia)]
@[simp]def Co (ds):T5 [.lst ds]=some (.int ds.length):=rfl
@[simp]def kl (ns):T5 [.scr ns]=some (.int ns.length):=rfl
@[simp]def MM (i j):Xf [.int i,.int j]=some (.int (if j<i then j else i)):=rfl
@[simp]def SA (ds):Kk [.lst ds]=some (.lst ds):=rfl
@[simp]def SB (ds):YO [.lst ds]=some (.tup ds):=rfl
@[simp]def fP (ds)(k):T7 (.lst ds) (.int k)=j0 ds k:=rfl
@[simp]def fM (ns)(k):T7 (.scr ns) (.int k)=(j0 ns k).map .int:=rfl
def Cp:D->Res (List TM×Yt)
 | .dct ks ds=>.ok (ks,ds)
 |_=>.no
@[simp]def nv (f)(sd):iS f sd=(f sd).bind λd=>.ofO (Xg d):=rfl
@[simp]def SE (ds):Xg (.lst ds)=some ds:=rfl
@[simp]def SF (ds):Xg (.tup ds)=some ds:=rfl
def XC:Yt->Res Yt
 | [.int j]=>if KQ j then .ok (QD 0 j.toNat) else .no
 |_=>.no
@[simp]def mB (fr)(sd):vc fr sd=(fr sd).bind XC:=by
 rfl
def A8 (a: -1000000000<=j)(b:j<=1000000000):XC [.int j]=.ok (QD 0 j.toNat):=Zd (Cj a b)
def MN {lo:Int}{n i:Nat}{x:D}(h:(QD lo n)[i]? = some x):x=.int (lo+i)/\i<n:=by
 grind[QD,List.getElem?_map,List.length_range]
def A9 (lo)(n):(QD lo n).length=n:=by unfold QD;simp
def j4 (tg:Tg)(b:FS)(ds:Yt)(sd:SD):Res Out:=xL (λx sd=>(JY tg x sd).bind b) ds sd
@[simp]def mE (it)(tg)(b)(sd):j9 it tg b sd=(it sd).bind λds=>j4 tg b ds sd:=rfl
@[simp]def k8 (tg:Tg)(b:FS)(sd:SD):j4 tg b [] sd=.ok (.next sd):=rfl
@[simp]def SG (i)(d)(sd):JY (.one i) d sd=.ok (sd.set i (~~~d)):=rfl
@[simp]def SH (i j)(a b)(sd):JY (.tup [i,j]) (.tup [a,b]) sd=.ok ((sd.set i (~~~a)).set j (~~~b)):=rfl
@[simp]def SI (i j)(p)(sd):JY (.tup [i,j]) (qu p) sd=.ok ((sd.set i (~~~(.int p.1))).set j (~~~(.int p.2))):=rfl
def Kl (P:Nat->SD->Prop)(m:P 0 sd)(d:∀i (x:D) sd,ds[i]? = some x->P i sd->∃a,(JY tg x sd).bind b=.ok (.next a)/\P (i+1) a):∃a,j4 tg b ds sd=.ok (.next a)/\P ds.length a:=by
 have f:∀k i sd,ds.length-i=k->i<=ds.length->P i sd->∃a,j4 tg b (ds.drop i) sd=.ok (.next a)/\P ds.length a:=by
  intro k
  induction k with
  |zero =>
   intro i sd e g p;have:i=ds.length:=()
   simp_all
  |succ k h =>
   intro i sd e g p;have c:i<ds.length:=()
   rw[UU c];obtain⟨a,n,j⟩:=d i ds[i] sd () p;have ⟨l,o,q⟩:=h (i+1) a () c j
   simp_all [j4,xL]
 grind
def EU {α β γ: Type}{f:α -> Res β}{k:γ -> α}{g:γ -> β}{xs:List γ}(h:∀x∈xs,f (k x)=.ok (g x)):xV f (xs.map k)=.ok (xs.map g):=by
 induction xs with
 |nil=>rfl
 |cons x xs a =>
  simp_all [xV]
def js (tg:Tg)(f:FE)(c:SD)(ds:Yt):Res Yt:=xV (λx=>(JY tg x c).bind f) ds
@[simp]def bf (cap)(it)(tg)(f)(sd):Q5 cap it tg f sd=(it sd).bind λds=>if Xb (jK cap sd) tg=true/\ds.length<sizeLine then(js tg f (jK cap sd) ds).bind λa=>.ok (.lst a) else .no:=rfl
def gH:Option (Option SV)->Option SV
 |some (~~~d)=>~~~d
 |_=>none
@[simp]def gG (d):gH (some (~~~d))= ~~~d:=rfl
@[simp]def gJ (sd):jK [] sd=[]:=rfl
@[simp]def mJ (cap)(sd):jK (none::cap) sd=none::jK cap sd:=rfl
@[simp]def mI (j)(cap)(sd):jK (some j::cap) sd=gH sd[j]? :: jK cap sd:=rfl
@[simp]def SJ (sd)(i):Xb sd (.one i)=Wf sd i:=rfl
@[simp]def SK (sd)(is):Xb sd (.tup is)=is.all (Wf sd):=rfl
@[simp]def uO (sd:SD):Wf (none::sd) 0=true:=rfl
@[simp]def uN (o)(sd:SD)(i):Wf (o::sd) (i+1)=Wf sd i:=rfl
def Q7 {α: Type}{k:α -> D}{g:α -> D}{xs:List α}(h:∀x∈xs,(JY tg (k x) c).bind f=.ok (g x)):js tg f c (xs.map k)=.ok (xs.map g):=EU h
def MO {tg:Tg}{f:FE}{c:SD}{lo:Int}{n:Nat}{g:Nat->D}(h:∀i,i<n->(JY tg (.int (lo+i)) c).bind f=.ok (g i)):js tg f c (QD lo n)=.ok ((List.range n).map g):=EU ()
@[simp]def SL (cap)(it)(tg)(c)(f)(sd):YP cap it tg c f sd=(it sd).bind λds=>if Xb (jK cap sd) tg=true/\ds.length<sizeLine then(Wz tg c f (jK cap sd) ds).bind λa=>.ok (.lst a) else .no:=rfl
def MP {α: Type}{k:α -> D}{s:α -> SD}{p:α -> Bool}{g:α -> D}{xs:List α}(a:∀x∈xs,JY tg (k x) sd=.ok (s x))(b:∀x∈xs,c (s x)=.ok (p x))(d:∀x∈xs,p x=true->f (s x)=.ok (g x)):
 Wz tg c f sd (xs.map k)=.ok ((xs.filter p).map g):=by
 induction xs with
 |nil=>rfl
 |cons x xs e =>
  grind[Wz,List.map_cons,List.filter_cons,Res.bind_ok]
def JV (h:n<=1000):n<sizeLine:=Et h
@[simp]def SM (x:Str):xK [.str x,.ty "str"]=some (.bl true):=rfl
def JW {α: Type}(xs:List α)(lo a st:Option Int):List α:= (sliceRange (sliceBounds lo a st xs.length).1 (sliceBounds lo a st xs.length).2.1 (sliceBounds lo a st xs.length).2.2).filterMap (xs[·]?)
def EV (its)(lo hi st):slicePick its.toArray lo hi st=(JW its lo hi st).toArray:=by
 simp_all [slicePick,JW]
def MQ {xs:Yr}{a:Yd}(r:TD xs a)(lo hi st):TD (JW xs lo hi st) (JW a lo hi st):=by
 unfold JW;rw[r.length];generalize sliceRange _ _ _=b
 induction b with
 |nil=>exact .nil
 |cons i b c =>
  rw[UH,UH];cases hx:xs[i]? with
  |none=>rwa [r.none_of hx]
  |some x =>
   obtain⟨u,d,e⟩:=r.get hx;rw[d];exact .cons e c
def MR {K:W.Frag}{H:Hp}{ds:Yt}{xs:Yr}(r:IsDs K H ds xs)(lo hi st):IsDs K H (JW ds lo hi st) (JW xs lo hi st):=by
 unfold JW;rw[r.length];generalize sliceRange _ _ _=a
 induction a with
 |nil=>rfl
 |cons i a b =>
  rw[UH,UH];cases hx:ds[i]? with
  |none =>
   have c:xs[i]? = none:=Jp.mpr (by rw[r.length];simp_all)
   rwa [c]
  |some x =>
   obtain⟨u,d,e⟩:=r.get hx;rw[d];exact .mk e b
def YR {α β: Type}(f:α -> β)(xs)(lo hi st):JW (xs.map f) lo hi st=(JW xs lo hi st).map f:=by
 grind[JW,Zql,List.filterMap_cons,List.getElem?_map]
def Cq {α: Type}(xs:List α)(lo hi st):(JW xs lo hi st).length<=xs.length:=by
 have h:=slicePick_size_le (xs.map λ_=>Value.none).toArray lo hi st
 simp_all [EV,YR]
section
variable {X:Cx}{E:XK}{m:Option Bool}{a b o i e f tg:Expr}{fa fb fo fi fv fe:FE}{fr:FA}{pos pos' apos cpos p p2:Pos}{lo hi st:Option Expr}
abbrev FO:=SD->Res (Option Int)
def nT (K:W.Frag)(E:XK)(f:FO):TO:=λZ H Q=>∃B F sd,RS K B F H sd Z /\ (f sd).need (λo=>∀d c,Ext F H d c->Q o c) (XW K E F H)
def Qk:FO:=λ_=>.ok none
def Q0 (f:FE):FO:=λsd=>(f sd).bind λd=>match d with
 | .int i=>.ok (some i)
 |_=>.no
abbrev QO (X:Cx)(E:XK)(e:Option Expr)(f:FO):Prop:=PO X e (nT X.K E f)
def PO.weak {e:Option Expr}{t t':TO}(h:PO X e t)(w:∀Z H Q,t' Z H Q->t Z H Q):PO X e t':=λY s Z H Q I q=>h Y s Z H Q I (w _ _ _ q)
def Qq:QO X E none Qk:=PO.weak Li λZ H Q ⟨B,F,sd,r,n⟩=>n F H (.refl r.ext.fh)
def Q6 (h:QE X E e fe):QO X E (some e) (Q0 fe):=PO.weak (Lj h) λZ H Q g=>by
 obtain⟨B,F,sd,r,n⟩:=g;refine⟨B,F,sd,r,(Res.need_bind n).mono (λd c v j l s t=>?_) λ_ _ q=>q⟩;cases d with
 |int i=>exact⟨i,Tr.mp t,c j l s⟩
 |_=>exact c.elim
def bY (K:W.Frag):V->Option Int->Option Int->Option Int->Hp->VK->Prop:=λx lo hi st H Q=>∃a xs,x=.ref a/\jL K H a xs/\st≠some 0/\∀p,H p=none->Q (.ref p) (upd H p (.lst (JW xs lo hi st)))
def bC (r:V->Option Int->Option Int->Option Int->Hp->VK->Prop)(te:TE)(d th ts:TO):TE:=λZ H Q=>te Z H λx g=>d Z g λl h=>th Z h λu j=>ts Z j λc n=>r x l u c n Q
def MS {te:TE}{n th ts:TO}(A:PE X e te)(B:PO X lo n)(C:PO X hi th)(F:PO X st ts):PE X (.Subscript e (.Slice lo hi st p2) pos) (bC (bY X.K) te n th ts):=by
 intro Y s Z H Q I h;refine Subscript_ (TQ (A Y s Z H _ I h) λv G ⟨x,J,K,L,M⟩=>(wpAny_Slice (TQ (B Y G Z J _ K M) λt N ⟨l,O,P,pl,R⟩=>TQ (C Y N Z O _ P R) λw S ⟨u,T,U,pu,q3⟩=>TQ (F Y S Z T _ U q3) λy d ⟨c,H4,I4,ps,q4⟩=>?_)));obtain⟨a,xs,rfl,hx,h0,q⟩:=q4;obtain rfl:=L;have g:Inv X Y Z H4 { d with heap:=d.heap.push { cls:=.type "slice",data:=.fields #[t,w,y] } }:=I4.kept λb ob q=>Zq _ q;obtain⟨its,r,j,hz⟩:=g.list hx;have z:=r.length
 suffices fin:Yv X (getItem (.ref a) (.ref d.heap.objs.size)) (EP X Y Z Q) X.xe { d with heap:=d.heap.push { cls:=.type "slice",data:=.fields #[t,w,y] } } by
  cases st with
  |none=>exact tail_any j.isList.typeIs slot_list_getitem.lookup fin (by rfl)
  |some c=>exact tail_any j.isList.typeIs slot_list_getitem.lookup fin (by rfl)
 refine wpAny_getItem_list_slice j.isList (Heap.IsSliceOf.new ..) pl pu ps h0 ?_ ();rw[EV];exact⟨.ref _,_,g.laid (o:=.lst (JW xs l u c)) (λb ob q=>Zq _ q) (Zf _) ⟨Zh (Cq xs l u c) hz,_,0,MQ r l u c,Zr _ rfl⟩,rfl,q _ (g.hok.fresh (Zf _))⟩
def zd:D->Option Int->Option Int->Option Int->Yu
 | .lst ds,lo,hi,st=>if st=some 0 then none else some (.lst (JW ds lo hi st))
 | .scr ns,lo,hi,st=>if st=some 0 then none else some (.lst ((JW ns lo hi st).map .int))
 |_,_,_,_=>none
def y9 (fe:FE)(g j fs:FO):FE:=λsd=>(fe sd).bind λd=>(g sd).bind λl=>(j sd).bind λh=>(fs sd).bind λc=>.ofO (zd d l h c)
def KR {G I fs:FO}(K:QE X E e fe)(L:QO X E lo G)(M:QO X E hi I)(N:QO X E st fs):QN X E (.Subscript e (.Slice lo hi st p2) pos) (y9 fe G I fs):=PE.weak (MS K L M N) λZ H Q O=>by
 obtain⟨B,F,sd,r,n⟩:=O;refine⟨B,F,sd,r,(Res.need_bind n).mono (λd P v R H1 s w=>?_) λ_ _ q=>q⟩;refine⟨B,R,sd,r.step s,(Res.need_bind P).mono (λl S T H2 t=>?_) λ_ _ q=>q.ext s⟩;refine⟨B,T,sd,(r.step s).step t,(Res.need_bind S).mono (λh U Y H3 y=>?_) λ_ _ q=>q.ext (s.trans t)⟩;refine⟨B,Y,sd,((r.step s).step t).step y,(Res.need_bind U).mono (λc n4 J H4 u=>?_) λ_ _ q=>q.ext ((s.trans t).trans y)⟩;obtain⟨z,j,q⟩:=Tu n4;have g:=((t.trans y).trans u);have x:=s.trans g;cases d with
 |lst ds =>
  have j:(if c=some 0 then none else some (D.lst (JW ds l h c)))=some z:=j
  split at j
  .exact Jy j
  .rename_i A;obtain rfl:=Zqi j;rw[Tw] at w;obtain⟨a,xs,rfl,C,h2⟩:=w;exact⟨a,xs,rfl,((C.same g.ff).same g.fh).sq,A,λp hp=>q p J _ (x.trans (.keep u.fh hp _)) (Qs x.hh hp) (Qs u.fh hp) ⟨_,JC,MR (IsDs.same g.ff _ _ h2) l h c⟩⟩
 |scr ns =>
  have j:(if c=some 0 then none else some (D.lst ((JW ns l h c).map .int)))=some z:=j
  split at j
  .exact Jy j
  .rename_i A;obtain rfl:=Zqi j;rw[je] at w;obtain⟨a,rfl,C⟩:=w;refine⟨a,_,rfl,Tx.seq g.fh (Tx.seq g.ff C),A,λp hp=>q p J _ (x.trans (.keep u.fh hp _)) (Qs x.hh hp) (Qs u.fh hp) ⟨_,JC,?_⟩⟩;rw[YR];exact jS _
 |_=>exact Jy j
@[simp]def nr (fe)(fl fh fs)(sd):y9 fe fl fh fs sd=(fe sd).bind λd=>(fl sd).bind λl=>(fh sd).bind λh=>(fs sd).bind λc=>.ofO (zd d l h c):=rfl
@[simp]def SN (sd):Qk sd=.ok none:=rfl
def EW:D->Res (Option Int)
 | .int i=>.ok (some i)
 |_=>.no
@[simp]def SO (i):EW (.int i)=.ok (some i):=rfl
@[simp]def hU (f)(sd):Q0 f sd=(f sd).bind EW:=by
 rfl
@[simp]def kd (ds)(lo hi):zd (.lst ds) lo hi none=some (.lst (JW ds lo hi none)):=rfl
@[simp]def kc (ds:Yf)(lo hi:Option Int):zd (.scr ds) lo hi none=some (.lst ((JW ds lo hi none).map .int)):=rfl
end
end L2.DL
namespace L2
section
variable {X:Cx}
def MT (g:X.calm=true):jH X (.builtin "sum") (λxs H Q=>∃(a:Addr) (b:Yf),xs=[.ref a]/\jL X.K H a (b.map V.int)/\Q (.int b.sum) H):=by
 intro Y s Z H xs us Q I r h;obtain⟨a,b,rfl,i,q⟩:=h;obtain⟨u,rfl,j⟩:=Ku r;obtain rfl:=j;obtain⟨l,m,p,t⟩:=I.list i;have f:=Lh m;obtain⟨n,e⟩:=f.allInts.items;have d:b=n.toList.map (·.1):=by
  rw[<- f.numsOf,<- nums_intItems,<- e]
 have c:=p.isList;rw[e] at c;refine sum_intListG (I.ok.hd g) c λh' tk t' o=>(⟨.int b.sum,H,I.kept o,⟨t',?_⟩,q⟩);rw[preSum_eq,UF (),<- d]
def MU {bs:List Bool}{a:Yd}(r:TD (bs.map V.bl) a)(i:Nat)(v:Value)(h:a.toArray[i]? = some v):v=.bool (bs.getD i false):=by
 have h':a[i]? = some v:=by simp_all
 have f:=(Jd.mp h').1;have c:=r.length;rw[Zql] at c;have d:bs[i]? = some bs[i]:=by simp
 obtain⟨u,b,e⟩:=r.get (i:=i) (x:=.bl bs[i]) ();rw[h'] at b;obtain rfl:=Zqi b;rw[e,Uj,d];rfl
def MV (bs:List Bool):(List.range bs.length).all (λi=>bs.getD i false)=bs.all id:=by
 apply U2.mpr;rw[Uq,Uq];constructor
 .intro h b c;obtain⟨i,a,rfl⟩:=U4 c;have:=h i (Jk.mpr a)
  rwa [Uj,Zqg a] at this
 .intro h i a;have a:=Jk.mp a;rw[Uj,Zqg a];exact h _ (UL a)
def MW (j:X.calm=true):jH X (.builtin "all") (λxs H Q=>∃(a:Addr) (bs:List Bool),xs=[.ref a]/\jL X.K H a (bs.map V.bl)/\Q (.bl (bs.all id)) H):=by
 intro Y s Z H xs us Q I r h;obtain⟨a,bs,rfl,l,q⟩:=h;obtain⟨u,rfl,m⟩:=Ku r;obtain rfl:=m;obtain⟨d,g,p,z⟩:=I.list l;have f:a<s.heap.objs.size:=by obtain⟨_,e,_⟩:=p.isList;exact Zk e
 have c:=g.length;rw[Zql] at c;refine call_all_walk (wpAny_pyIter_list p.isList ⟨_,_,_,_,_,_,λi=>bs.getD i false,rfl,Walks.list (A:=X.A.in1) (I.ok.hd j) s.heap.objs.size a (Zi f) d.toArray,⟨⟨_,Zr _ rfl,rfl,rfl⟩,p.isList.push _⟩,?_,λh' tk n=>?_⟩)
 .intro i v s' B C t w;have x:=MU g i v t;subst x;exact wpAny_of_eq rfl w
 .rw[Zm,<- c,MV];refine⟨.bl _,H,I.kept λb o e=>n b o ?_ (Zq _ e),rfl,q⟩;intro y;rw[(Jc.mp y)] at e;exact Zy _ (Zk e)
def MX:jE X (binaryOp .Add) (λx y H Q=>∃a b l,x=.ref a/\y=.ref b/\qX X.K H a []/\qX X.K H b l/\Q (.ref b) H):=by
 intro Y s Z H x y v u Q I t w h;obtain⟨a,b,l,rfl,rfl,z,A,q⟩:=h;obtain rfl:v=Value.ref a:=t;obtain rfl:u=Value.ref b:=w;obtain⟨g,B,C,_⟩:=I.tuple z;obtain⟨c,K,E,_⟩:=I.tuple A;have F:g=[]:=B.nil_iff.mpr rfl;subst F;obtain⟨⟨cls,dd,data,G⟩,m,o,n,p⟩:=id C;obtain⟨⟨r,i,data2,j⟩,d,e,J,f⟩:=id E;simp only at o p e f;subst o p e f;exact concat_meets ⟨_,m,rfl⟩ ⟨_,d,rfl⟩ noFill_tuple_add seq_tuple_add PySem.F.slot_tuple_add PySem.F.entry_tuple_add (PySem.F.args_tuple_add_2 _ _)
  (tuple_addW0 a b #[] c.toArray n J dd i G j rfl) ⟨m,d,.ref b,H,I,rfl,q⟩
end
end L2
namespace L2.DL
def wH:D->Option Bool
 | .bl i=>some i
 |_=>none
def MY (h:wH d=some i):d=.bl i:=by
 cases d with
 |bl j=>cases h;rfl
 |_=>exact Jy h
theorem qM {K:W.Frag}{H:Hp}:∀{bs:List Bool} {xs:Yr},IsDs K H (bs.map D.bl) xs->xs=bs.map V.bl
 | [],_,h=>IsDs.nil_iff.mp h
 |b::bs,_,h=>by
  obtain⟨x,r,rfl,a,c⟩:=h;rw[Tz.mp a,qM c];rfl
def AA:D->Option (List Bool)
 | .lst ds=>Ke wH ds
 |_=>none
def MZ {K:W.Frag}{H:Hp}{d:D}{b:List Bool}{v:V}(h:AA d=some b)(i:IsD K H d v):∃a,v=.ref a/\qL K H a (b.map V.bl):=by
 cases d with
 |lst ds =>
  obtain⟨a,xs,rfl,e,c⟩:=i;rw[BY (λ_ _=>MY) (h)] at c;rw[qM c] at e
  simp_all
 |_=>exact Jy h
def Na (a:List Bool):AA (.lst (a.map D.bl))=some a:=by
 have h:=YK (f:=wH) (g:=D.bl) (λ_=>rfl) a
 rwa [List.map_id'] at h
def yI:Yt->Yu
 | [d]=>(A3 d).bind λa=>some (.int a.sum)
 |_=>none
def yL:Yt->Yu
 | [d]=>(AA d).bind λa=>some (.bl (a.all id))
 |_=>none
section
variable {X:Cx}{E:XK}{m:Option Bool}{a b o i e f tg:Expr}{fa fb fo fi fv fe:FE}{fr:FA}{pos pos' apos cpos p p2:Pos}{lo hi st:Option Expr}
def gM (g:X.calm=true):jH X (.builtin "sum") (z6 X.K yI):=jH.weak (MT g) λxs H Q j=>by
 obtain⟨F,ds,z,d,id,c,q⟩:=j;unfold yI at c
 split at c
 .obtain⟨l,n,c⟩:=Jh.mp c;obtain rfl:=Zqi c;obtain⟨v,rfl,h⟩:=QQ id;obtain⟨a,rfl,r⟩:=Mw n h;exact⟨a,l,rfl,(r.same d).sq,q _ F H (.refl d) (yg _ F)⟩
 .exact Jy c
def Cr (g:X.calm=true):jH X (.builtin "all") (z6 X.K yL):=jH.weak (MW g) λxs H Q j=>by
 obtain⟨F,ds,z,d,id,c,q⟩:=j;unfold yL at c
 split at c
 .obtain⟨l,n,c⟩:=Jh.mp c;obtain rfl:=Zqi c;obtain⟨v,rfl,h⟩:=QQ id;obtain⟨a,rfl,r⟩:=MZ n h;exact⟨a,l,rfl,(r.same d).sq,q _ F H (.refl d) (yh _ F)⟩
 .exact Jy c
def AB:D->D->Yu
 | .tup a,.tup b=>if a.length+b.length<=sizeLine then some (.tup (a++b)) else none
 |_,_=>none
def Nb:xt X (binaryOp .Add) AB:=by
 intro Y s Z H x y v u Q I r t ⟨F,d,e,z,c,id,j,g,q⟩;cases d with
 |tup a =>
  cases e with
  |tup b =>
   have g:(if a.length+b.length<=sizeLine then some (D.tup (a++b)) else none)=some z:=g
   split at g
   .rename_i N;obtain rfl:=Zqi g;have id':=id;have l:=j;rw[Tt] at id j;obtain⟨w,xs,rfl,A,B⟩:=id;obtain⟨C,n,rfl,G,J⟩:=j;have K:=B.length;have L:=J.length;by_cases x0:xs=[]
    .subst x0;have h:a=[]:=Jn.mp (by rw[<- K];rfl);subst h;exact MX Y s Z H _ _ v u Q I r t ⟨w,C,n,rfl,rfl,(A.same c).sq,(G.same c).sq,q _ F H (.refl c) l⟩
    .refine Ei Y s Z H _ _ v u Q I r t ⟨w,C,xs,n,rfl,rfl,(A.same c).sq,(G.same c).sq,x0,(),λz=>?_,λ_ p hp=>?_⟩
     .subst z;have M:b=[]:=Jn.mp (by rw[<- L];rfl);subst M;rw[ZA] at q;exact q _ F H (.refl c) id'
     .have h:=jo c hp (.tup (xs++n));exact q _ _ _ h (Tt.mpr ⟨p,_,rfl,.of JC,(IsDs.same h.ff _ _ B).append (IsDs.same h.ff _ _ J)⟩)
   .exact Jy g
  |_=>exact Jy g
 |_=>exact Jy g
end
@[simp]def Nc (a:Yf):yI [.lst (a.map .int)]=some (.int a.sum):=by
 show(A3 _).bind _=_;rw[Mx];rfl
def YS (a:List Bool):yL [.lst (a.map .bl)]=some (.bl (a.all id)):=by
 show(AA _).bind _=_;rw[Na];rfl
end L2.DL
namespace L2
def Cs:bootBuiltins "all" = some (.builtin "all"):=boot_all
end L2
namespace L2.DL
end L2.DL
namespace L2
section
variable {X:Cx}{Y:Yb}{Z: St}{H:Hp}{s:Shared}{h':Heap}
def Inv.turnedL {t':Nat}{ch:Yi}(I:Inv X Y Z H s)(k:∀b o,b∉ch->s.heap.get? b=some o->h'.get? b=some o)(d:∀b∈ch,qC X Y H b):Inv X Y Z H { s with heap:=h',toks:=t' }:=by
 have f:∀b u,H b=some u->b∉ch:=λb u e z=>by rw[(d b z).1] at e;exact Jy e
 refine I.step (λb g=>?_) (λb o _ _ a e _=>k b o a e) (λb o _ _ a e _=>⟨o.slots,k b o a e⟩) (λ_ _ _ _ n=>n)
  (λb o a e=>⟨o,k b o a e⟩) (λ_ _ e=>e) (λ_ _ _ e=>e) (λb ps e=>⟨#[],by rw[e];simp⟩) (λm h=>?_) (λb u e=>?_) I.bare
 .obtain⟨_,i,_,j,l,p⟩:=d b g;exact⟨j,i,l,p⟩
 .obtain⟨o,es,t,w,r⟩:=h;exact⟨o,es,t,k _ o (λz=>(d _ z).2.1 rfl) w,r⟩
 .refine(I.hok b u e).stay (λc v a q=>k c v ?_ q) (λ_ q=>q) λ_ _ q=>q
  grind
theorem qC.upd (h:qC X Y H b)(n:b≠T):qC X Y (upd H T o) b:=⟨(Jz n).trans h.1,h.2⟩
def Inv.paired {t':Nat}{ch:Yi}{x y:V}{u v:Value}(I:Inv X Y Z H s)(c:TC x u)(d:TC y v)(f:∀b∈ch,qC X Y H b)(g:∀b∈ch,b≠s.heap.objs.size)
 (i:h'.get? s.heap.objs.size=some { cls:=.type "tuple",data:=.seq #[u,v] }) (k:∀b o,b∉ch->s.heap.get? b=some o->h'.get? b=some o):
 Inv X Y Z (upd H s.heap.objs.size (.tup [x,y])) { s with heap:=h',toks:=t' }:=by
 have h:Inv X Y Z (upd H s.heap.objs.size (.tup [x,y])) { s with heap:=s.heap.push { cls:=.type "tuple",data:=.seq #[u,v] },toks:=s.toks } :=
  I.laid (λb o e=>Zq _ e) (Zf _) ⟨⟨by simp only[sizeLine_eq,Zu,ZC];lia,_,Zr _ rfl,rfl⟩,[u,v],.cons c (.cons d .nil),_,Zr _ rfl,rfl,_,rfl⟩
 refine Inv.turnedL (s:={ s with heap:=s.heap.push { cls:=.type "tuple",data:=.seq #[u,v] },toks:=s.toks }) h (λb o a e=>?_) λb a=>(f b a).upd (g b a)
 grind[Heap.get?_push_cases]
end
def mU (K:W.Frag)(a:Addr):It:=
 ⟨λi H=>∃xs x,jL K H a xs/\xs[i]? = some x,
  λi H v b=>∃T x,v=.ref T/\H T=none/\b=upd H T (.tup [.int i,x])/\∀xs,jL K H a xs->xs[i]? = some x,
  λi H=>∃xs,jL K H a xs/\xs.length<=i⟩
def Nd (e it a:Addr)(i:Nat)(h:Heap):Prop:=(∃b,IsEnum h e it i b)/\h.IsListIter it a i
def Nf {P:Program}{w:World}{K:W.Frag}{j:Yj}{kx}{v:Pos}(a e it:Addr)(l:e≠it):Turn P w K (.Tuple j kx v) (mU K a) [e,it] e (Nd e it a) where
 mem:=by simp
 obj:=λi h st c b=>by
  obtain⟨⟨d,g⟩,⟨L,J,c1,d1⟩⟩:=st
  grind
 keep:=λi h h' st kk=>⟨(let ⟨d,g⟩:=st.1;⟨d,kk e () _ g⟩),st.2.at λo q=>kk it () o q⟩
 item:=by
  intro X y hw A b i Y s Z H E I r st B;subst y hw A;obtain⟨xs,x,t,hx⟩:=B;obtain⟨C,F,p,M⟩:=I.list t;obtain⟨u,N,O⟩:=F.get hx;obtain⟨⟨d,g⟩,f⟩:=id st;obtain⟨L,J,_⟩:=id f;refine wpAny_pyNext_enum_item g f p.isList (x:=u) (by simpa using N) l λh' Q R S a4 kk=>?_;refine⟨_,rfl,wpAny_letOwnedTupleGo_enum (s:={ s with heap:=h',toks:=s.toks+1 }) Q λT b1 m=>?_⟩;have m:Heap.SameBut e h' T:=m;have lt:∀{c o},s.heap.get? c=some o->c≠s.heap.objs.size:=λq=>Zi (Zk q);have n:∀c ∈ [e,it],c≠s.heap.objs.size:=λc b=>by
   simp only[UB,UE,or_false] at b;rcases b with rfl|rfl
   .exact lt g
   .exact lt J
  have G:s.heap.objs.size≠e:=λq=>lt g q.symm;have U:=I.paired (t':=s.toks+1) (x:=.int i) ⟨_,rfl⟩ O r n (m.extBut _ _ G S) (λc o b q=>by
   simp only[UB,UE,or_false,not_or] at b;exact m.extBut c o b.1 (kk c o b.1 b.2 q))
  refine⟨.ref s.heap.objs.size,_,U,rfl,⟨_,x,rfl,I.hok.fresh (Zf _),rfl,λzs hq=>by rw[I.list_inj hq t];exact hx⟩,⟨⟨u,?_⟩,R.extBut m.extBut (Ne.symm l)⟩,λc b=>(Jz (n c b)).trans (r c b).1⟩
  grind
 done:=by
  intro X y hw A b i Y s Z H E I r st B;subst y hw A;obtain⟨xs,t,hx⟩:=B;obtain⟨C,F,p,M⟩:=I.list t;have l1:=F.length;obtain⟨⟨d,g⟩,f⟩:=id st;refine wpAny_pyNext_enum_end (I.ok.hd b) g f p.isList (by simp;lia) λh' eb=>⟨rfl,I.turnedL (ch:=[it]) (λc o b q=>?_) λc b=>r c ?_⟩
  .exact eb c o (λz=>b (by simp[z])) q
  simp_all
 self:=λ_ _ _ _ _ st h=>wpAny_pyIter_enum st.1.choose_spec h
section
variable {X:Cx}
def uY (K:W.Frag)(c:TA):TI:=λZ H R=>c Z H λd b=>∃a,d=[.ref a]/\(∃xs,jL K b a xs)/\R (mU K a) b
def Ng {a:Expr}{j:TA}{p d:Pos}{f:Yj}{kx}{n:Pos}(o:Gl X "enumerate")(t:X.mg "enumerate" = none)(u:PA X [a] j)(v:starEach [a] X.env=[(false,eval a X.env)]:=by rfl):
 PI X (.Tuple f kx n) (.Call (.Name "enumerate" p) [a] [] d) (uY X.K j):=by
 intro Y s Z H R I h;refine Call_ (WR I o t (show bootBuiltins "enumerate" = some (.type "enumerate") by kernel_rfl) (PyProof.Rows.callWith_type1 (TQ (u d Y s Z H _ I h) λus b ⟨E,w,i,x,y⟩=>?_) v rfl));obtain⟨a,e,⟨xs,z⟩,q⟩:=y;subst e;cases x with
 |cons r A =>
  cases A;cases r;obtain⟨B,F,p,G⟩:=i.list z;refine call_enumerate_list p.isList λh' l C J kk=>wpAny_pyIter_enum l (⟨b.heap.objs.size+1,[b.heap.objs.size+1,b.heap.objs.size],_,_,w,rfl,i.kept kk,Nf a (b.heap.objs.size+1) b.heap.objs.size (Nat.succ_ne_self _),⟨⟨_,l⟩,C⟩,λc m=>?_,q⟩);have g:b.heap.objs.size<=c:=by
   simp at m;rcases m with rfl|rfl<;>first|exact Zf _|exact Nat.le_add_right _ _
  exact i.fpOk g (i.hok.fresh g)
end
end L2
namespace L2.DL
def EX {K:W.Frag}{F:Hp}{d:D}{ds:Yt}{v:V}(h:A5 d=some ds)(i:IsD K F d v):∃a xs,v=.ref a/\jL K F a xs/\IsDs K F ds xs:=by
 cases d with
 |lst es =>
  obtain rfl:=Zqi h;obtain⟨a,xs,rfl,b,c⟩:=i;exact⟨a,xs,rfl,b.sq,c⟩
 |scr e =>
  obtain rfl:=Zqi h;obtain⟨a,rfl,b⟩:=i;exact⟨a,_,rfl,b,jS e⟩
 |_=>exact Jy h
def KH (xs:Yt):Yt:=List.zipWith (λ(k:Nat) x=>D.tup [.int k,x]) (List.range xs.length) xs
def AC:Yt->Res Yt
 | [d]=>(Res.ofO (A5 d)).bind λxs=>.ok (KH xs)
 |_=>.no
def mj (a:FA):FA:=λsd=>(a sd).bind AC
@[simp]def mD (a:FA)(sd:SD):mj a sd=(a sd).bind AC:=rfl
@[simp]def SQ (xs:Yt):AC [.lst xs]=.ok (KH xs):=rfl
def Ct (ds:Yt)(i:Nat):(KH ds)[i]? = ds[i]?.map λx=>D.tup [.int i,x]:=by
 grind[KH,List.getElem?_zipWith]
def Nh (ds:Yt):(KH ds).length=ds.length:=by grind[KH,List.length_zipWith,List.length_range,Nat.min_self]
def Ni {K:W.Frag}{b:Hp}{a:Addr}{ds:Yt}{xs:Yr}(l:jL K b a xs)(d:IsDs K b ds xs):xO K b (mU K a) (KH ds):=λi q r e f=>by
 have c:=Tx.seq f (Tx.seq e l);have s:=d.length;rw[Nh];refine⟨λg=>?_,λg=>⟨xs,c,()⟩⟩;obtain⟨x,hx,m⟩:=d.get (Zqg g);refine⟨⟨xs,x,c,hx⟩,λv t n=>?_⟩;obtain⟨T,u,rfl,o,rfl,p⟩:=n;have h:=p xs c;rw[hx] at h;obtain rfl:=Zqi h;have j:=jo f o (.tup [.int i,x]);refine⟨.tup [.int i,ds[i]],_,?_,j,Tt.mpr ⟨T,_,rfl,.of JC,.mk (Tr.mpr rfl) (.mk (IsD.same (e.trans j.ff) _ _ m) .nil)⟩⟩
 simp_all [Ct]
section
variable {X:Cx}{E:XK}{fr:FA}{p pos tp:Pos}{elts:Yj}
def Nj {a:Expr}{kx}(e:Gl X "enumerate")(f:X.mg "enumerate" = none)(g:QA X E [a] fr)(i:starEach [a] X.env=[(false,eval a X.env)]:=by rfl):QI X E (.Tuple elts kx tp) (.Call (.Name "enumerate" p) [a] [] pos) (mj fr):=PI.weak (Ng e f g i) λZ H R j=>by
 obtain⟨B,F,sd,r,n⟩:=j;refine⟨B,F,sd,r,(Res.need_bind n).mono (λds b w l m c o=>?_) λ_ _ q=>q⟩;unfold AC at b
 split at b
 .obtain⟨xs,hx,s⟩:=Tu (Res.need_bind b);obtain⟨v,rfl,h⟩:=QQ o;obtain⟨t,us,rfl,d,u⟩:=EX hx h;exact⟨t,rfl,⟨_,Tx.seq c.fh d⟩,s _ l m c (Ni d u)⟩
 .exact b.elim
def yq:Yt->Yu
 | [.int i]=>some (.int (if i<0 then -i else i))
 |_=>none
@[simp]def kz (i:Int):yq [.int i]=some (.int (if i<0 then -i else i)):=rfl
def gN:jH X (.builtin "abs") (z6 X.K yq):=jH.weak IP λxs H Q b=>by
 obtain⟨F,ds,z,c,id,a,q⟩:=b;unfold yq at a
 split at a
 .obtain rfl:=Zqi a;obtain⟨v,rfl,h⟩:=QQ id;exact⟨_,by rw[Tr.mp h],q _ F H (.refl c) (yg _ F)⟩
 .exact Jy a
def Nk:bootBuiltins "abs" = some (.builtin "abs"):=by kernel_rfl
end
end L2.DL
namespace L2.ST
open PySem
def Cu (t:SetTable):Nat->SetTable.Probe->SetTable.Probe
 | 0,p=>p
 |n+1,p=>Cu t n (t.advance p)
open PySem
def rg (xs:Array Nat):Prop:=∀i j,i<j->j<xs.size->xs.getD i 0<xs.getD j 0
def rb (t:SetTable)(j:Nat):Prop:=∃i,i<t.place.size/\t.place.getD i 0=j
def re (t:SetTable)(o:Nat->Prop)(x:Int)(y:Nat):Prop:=∃n,(Cu t n (t.probeStart x)).j=y/\∀m,m<n->o (Cu t m (t.probeStart x)).j
structure TabOk (t:SetTable)(hs:Array Int):Prop where
 size:t.place.size=hs.size
 up:rg t.place
 le:∀i,i<t.place.size->t.place.getD i 0<=t.mask
 nod:t.dummies = #[]
 pow:∃k,t.mask+1=2 ^ k
 room:t.place.size<=t.mask
 ways:∀i,i<t.place.size->re t (rb t) (hs.getD i 0) (t.place.getD i 0)
open PySem
structure SetIs (hp:Heap)(a:Addr)(es:Array (Int×Value))(t:SetTable):Prop where
 at_:∃ep,hp.get? a=some { cls:=.type "set",dict:=none,data:=.set es ep t,slots:=#[] }
 tab:TabOk t (es.map (·.1))
 seven:7<=t.mask
 most:t.mask<=8*es.size+7
 room:es.size*5<t.mask*3
 refs:∀i (hi:i<es.size),∃b,es[i].2=.ref b
variable {prog:Program}{w:World}{A:Around}{E:Ya}{s:Shared}
def Holds (a:Value->Int)(hp:Heap)(S:Addr)(ld:Bool)(D:Yd):Prop:=∃es t,SetIs hp S es t/\es.toList.Perm (D.map λv=>(a v,v))/\t.led=ld/\t.plain=true
section
variable {prog:Program}{w:World}{A:Around}{E:Ya}{s:Shared}
def wD (w:World):Bool:=!w.params.followText "set-order"
def Nl (a:Value)
 (h:Q₁ (.ref s.heap.objs.size) { s with heap:=s.heap.push { cls:=.type "set",dict:=none,data:=.set #[] 0 (.fresh 0 0 (wD w)) } }):
 codeAny (model prog w) A (.call (.builtin "set.__new__") ⟨[.type "set",a],[]⟩) (wants Q₁ E) s:=by
 refine codeAny_of_tree ?_;show wpAny _ A.in1 (do checkBuiltinCall "set.__new__" ⟨[.type "set",a],[]⟩;again (.builtin "set.__new__" ⟨[.type "set",a],[]⟩)) _ _ s;refine Za (wpAny_of_eq (F.newCall_set_1 a) (Zb ⟨plainId_quiet F.plain_set_new _,codeAny_builtin F.entry_set_new ?_⟩));rw[Around.under_plainId F.plain_set_new _];unfold Builtin.«set.__new__» Builtin.Frozenset.newClass;have b:=sub_set_self;obtain⟨hp,g,d,tk,os⟩:=s;dsimp only
 wp_walk
 refine wpAny_askSetting (Zb ?_);dsimp only;simp only[newObj];refine Za (wpAny_alloc (Zb ?_));exact Zb h
end
end L2.ST
namespace L2.DL
open PySem PySem.Spec PyProof.Rows L2.ST
def bt_set:bootBuiltins "set" = some (.type "set"):=by kernel_rfl
end L2.DL
namespace L2
def vO (H:Hp)(a:Addr):Hp:=λb=>if b=a then none else H b
def EY:vO H a a=none:=Zd rfl
def Xh (h:b≠a):vO H a b=H b:=Ze h
section
variable {X:Cx}{Y:Yb}{Z: St}{H:Hp}{s:Shared}{h':Heap}
def Inv.forget (I:Inv X Y Z H s)(h:H it=some (.ext φ)):Inv X Y Z (vO H it) s:=by
 refine I.step (h':=s.heap) (g':=s.gens) (d':=s.drawn) (t':=s.toks) (ch:=[]) (λb a=>nomatch a) (λb o _ _ _ e _=>e) (λb o _ _ _ e _=>⟨o.slots,e⟩) (λb o _ _ n=>?_) (λb o _ e=>⟨o,e⟩) (λb xs e=>?_) (λb o u e=>?_) (λb ps e=>⟨#[],?_⟩) (λm d=>d) (λb u e=>?_) I.bare
 .unfold vO;split
  .rfl
  .exact n
 .rw[Xh λz=>by rw[z,h] at e;cases e];exact e
 .rw[Xh λz=>by rw[z,h] at e;cases e];exact e
 .rw[Xh (λz=>by rw[z,h] at e;cases e),e];simp
 .have nb:b≠it:=λz=>by rw[z,EY] at e;exact Jy e
  rw[Xh nb] at e;refine(I.hok b u e).stay (λ_ _ _ q=>q) (λc q=>?_) λc xs q=>?_
  .rw[Xh λz=>by rw[z,h] at q;cases q];exact q
  .rw[Xh λz=>by rw[z,h] at q;cases q];exact q
end
end L2
namespace L2.DL
end L2.DL
namespace L2
def xj.has {P:Program}{w:World}{H:Hp}{h:Heap}{a:Addr}{o:HO}(x:xj P w H h a o):∃u,h.get? a=some u:=by
 cases o with
 |lst xs=>obtain⟨_,_,_,_,e⟩:=x;exact⟨_,e⟩
 |tup xs=>obtain⟨_,_,_,o,e,_⟩:=x;exact⟨_,e⟩
 |dK b=>obtain⟨_,_,_,_,o,_,_,e,_⟩:=x;exact⟨_,e⟩
 |dT b=>obtain⟨_,_,_,_,o,_,_,e,_⟩:=x;exact⟨_,e⟩
 |set S n=>obtain⟨o,_,_,_,e,_⟩:=x;exact⟨_,e⟩
 |ins C c fs=>exact⟨_,x.2.2.2.1⟩
 |own y=>exact x
 |xd fs=>obtain⟨_,⟨_,_,_,e,_⟩,_⟩:=x;exact⟨_,e⟩
 |rng lo d=>obtain⟨_,_,_,e⟩:=x;exact⟨_,e⟩
 |frz g u=>exact⟨_,x.1⟩
 |tbl ps=>exact⟨_,x⟩
 |met f y=>exact⟨_,x⟩
 |ext φ => exact x.2.1
structure FlyAt (l:List Env)(h₀:Heap)(H:Hp)(x C:Addr)(B h:Heap):Prop where
 fly:∃t,Heap.FlyingW B l x (.ref C) (.ref t) h
 trk:∀b o,h.get? b=some o->(H b≠none\/((∃u,h₀.get? b=some u)/\b∉frs l))->B.get? b=some o
def qV (P:Program)(w:World):yY:=λa H s E e s'=>∃b x C B,e=.ref x/\s'.os=s.os/\AllBare s'.gens/\Un (frs a) [] H b s.heap s'.heap/\qr P w b s'.heap/\FlyAt a s.heap b x C B s'.heap/\E (.ref C) none b
structure Thrown (X:Cx)(E:XK):Prop where
 on:∀(Y:Yb) (Z: St) (H:Hp) (s:Shared) (h₀:Heap) (x C:Addr) (B:Heap),Inv X Y Z H s->(∀b u,X.s₀.heap.get? b=some u->b∉X.ex->∃u',h₀.get? b=some u')->FlyAt X.stack h₀ H x C B s.heap->E (.ref C) none H->X.xe (.ref x) s
structure Raises (X:Cx)(E:XK):Prop where
 new:∀(Y:Yb) (Z: St) (H:Hp) (s:Shared) (h':Heap) (x C:Addr) (args:Yd),Inv X Y Z H s->Heap.MadeExcOf s.heap h' x (.ref C) args->E (.ref C) none H->X.xe (.ref x) { s with heap:=h' }
def Thrown.passes {X:Cx}{E:XK}(T:Thrown X E):X2 (qV X.prog X.w) X E:=by
 intro Y Z H s e s' I ⟨c,x,C,B,d,os,bare,un,a,f,g⟩;subst d;exact T.on Y Z c s' s.heap x C B (I.call' os un a bare ()) (λb u e hx=>I.base.there b u e hx) f g
section
variable {P:Program}{w:World}{K:W.Frag}{mg:Yc}{base:Heap}{N:Yh}{qual:Str}{scope:Scope}{f:Addr}{cd:Value}{A:Around}{outer:List Env}{s:Shared}{H:Hp}{E:XK}
def AD {Y:Yb}{Z: St}{l:Hp}{s':Shared}{h₀ d B:Heap}{x C t:Addr}(I:Inv (jt (qV P w) P w K mg base N qual scope f cd A outer s H E) Y Z l s')
 (S:∀b u,s.heap.get? b=some u->∃G,h₀.get? b=some G) (m:Heap.FlyingW B outer x (.ref C) (.ref t) d) (up:s'.heap.UpToSlots d)
 (trk:∀b o,s'.heap.get? b=some o->(l b≠none\/((∃u,h₀.get? b=some u)/\b∉frs (envOfC qual scope s.heap.objs.size f cd::outer)))->B.get? b=some o) (J:E (.ref C) none l):
 qV P w outer H s E (.ref x) { s' with heap:=d }:=by
 have L:∀b u,s.heap.get? b=some u->b∉frs outer->b∉frs (envOfC qual scope s.heap.objs.size f cd::outer):=λb u e j z=>by
  have z:=z;rcases UB.mp z with q|q
  .exact Zn (Zk e) (by rw[q];exact Zy _)
  .exact j q
 have a:∀b:Addr,b∉(jt (qV P w) P w K mg base N qual scope f cd A outer s H E).ex:=λb z=>Zn (show b∈([]:Yi) from z) ();have keep:∀b o,s'.heap.get? b=some o->(l b≠none\/((∃u,s.heap.get? b=some u)/\b∉frs outer))->B.get? b=some o:=by grind
 have r:∀b o,s.heap.get? b=some o->b∈frs outer->∃y,d.get? b=some { o with slots:=y }:=λb o e j=>by
  obtain⟨y,M⟩:=I.base.slot b o e (I.ok.frf b j) j (a b);obtain⟨_,g,i,O⟩:=I.ok.funs.mem j;have i:s.heap.get? b=some g:=i;rw[e] at i;obtain rfl:=Zqi i;obtain⟨p,Q⟩:=up b _ M O;exact⟨p,Q⟩
 refine⟨l,x,C,B,rfl,I.os,I.bare,⟨λb o e n j _=>?_,(),λb o e n _=>I.base.free b o e n (a b),λb o e _=>?_,I.base.tups,I.base.frzs,I.base.tbls⟩,λb u e=>?_,⟨⟨t,m⟩,λb o e c=>?_⟩,J⟩
 .exact m.1 b o (keep b o (I.base.keep b o e n j (a b)) ())
 .by_cases j:b∈frs outer
  .grind
  .have ⟨g,F⟩:=I.base.there b o e (a b);exact⟨g,m.1 b g ()⟩
 .refine(I.hok b u e).stay (λc v T q=>m.1 c v (keep c v q (.inl ?_))) (λ_ q=>q) λ_ _ q=>q
  grind
 .have R:∃g,s'.heap.get? b=some g:=by
   rcases c with c|⟨⟨u,hu⟩,_⟩
   .cases q:l b with
    |none=>exact Zn q c
    |some u=>exact(I.hok b u q).has
   .exact I.base.there b u hu (a b)
  have ⟨g,F⟩:=R;have:=m.1 b g (keep b g F c)
  grind[Zqi]
def W1:Thrown (jt (qV P w) P w K mg base N qual scope f cd A outer s H E) E:=by
 refine⟨λY Z j s' h₀ x C B I g a i=>?_⟩;obtain⟨⟨t,c⟩,trk⟩:=a;have d:∀b:Addr,b∉(jt (qV P w) P w K mg base N qual scope f cd A outer s H E).ex:=λb z=>Zn (show b∈([]:Yi) from z) ();exact wpAny_leaves_onW I.ok.frames rfl c λh' a up=>AD I (λb u e=>g b u e (d b)) a up trk i
def VN:Raises (jt (qV P w) P w K mg base N qual scope f cd A outer s H E) E:=by
 refine⟨λY Z n s' h' x C args I hx g=>?_⟩;have d:∀env∈(envOfC qual scope s.heap.objs.size f cd::outer),∀a,env.frame=some a->a∈frs (envOfC qual scope s.heap.objs.size f cd::outer):=λenv h a i=>Jl.mpr ⟨env,h,i⟩;refine wpAny_leaves_madeW I.ok.frames rfl (λb o e=>W.of_hideAll _ e) (W.funFrames_hide I.stack d) hx λj t l m p up=>(AD (s':=s') I (λb u e=>I.base.there b u e (by show b∉([]:Yi);simp)) l ((Heap.UpToSlots.of_keeps hx.keeps).trans up) (λb o e c=>(W.hideAll_get _ e λz=>?_)) g);rcases c with c|c
 .exact c (I.stkFree b z)
 simp_all
end
def zj (P:Program)(w:World)(K:W.Frag)(c:Yc)(a:Heap)(b:Str)(k:Nat)(ps:Yh)(sp:Sp):Prop:=
 ∃f d,FnOk P w K c a (qV P w) k f d ps sp/\y4 K d ps []/\W.keepIn K (.ref f)=true/\c b=some (.ref f)
theorem zj.mono {P:Program}{w:World}{K:W.Frag}{d:Yc}{a:Heap}{b:Str}{j k:Nat}{ps:Yh}{sp:Sp}(c:zj P w K d a b j ps sp)(h:j<=k):zj P w K d a b k ps sp:=by
 obtain⟨f,e,F,r⟩:=c;exact⟨f,e,F.mono h,r⟩
section
variable {X:Cx}{E:XK}{name:Str}{k:Nat}{ps:Yh}{sp:Sp}{p pos:Pos}{e:Expr}{es:Yj}{t:TA}
def EZ (c:zj X.prog X.w X.K X.mg X.base name k ps sp)(T:Thrown X E)(g:Room k X.A)(h:Gl X name)(i:PA X (e::es) t)
 (a:(name == ("__debug__" : Str))=false:=by decide) (j:starEach (e::es) X.env=(false,eval e X.env)::starEach es X.env:=by rfl) (d:(backTo pos (starEach es X.env)).any (·.1)=false:=by rfl):
 PE X (.Call (.Name name p) (e::es) [] pos) (BD sp [] E t):=by
 obtain⟨f,n,F,b,l,m⟩:=c;exact Ea F g h m l b .nil T.passes i a j d
end
def Fun.okX {P:Program}{w:World}{K:W.Frag}{j:Yc}{d:Heap}{x b:Str}{st:Stmt}{f:Addr}{l:FuncData}{N ps:Yh}{k:Nat}{sp:Sp}(F:Fun K x b st f l)(S:FnScope N ps (JP st))(len:∀e H Q E,sp e H Q E->e.length=ps.length)
 (g:∀c A a s H e Q E,Room k (A.deeper (envOfC b (JP st) s.heap.objs.size f c))->sp e H Q E ->
  ∃t,qx (jt (qV P w) P w K j d N b (JP st) f c A a s H E) (Kc st) t/\t { nx:=λ_ m=>Q .non m,rt:=Q } (start N e) H):FnOk P w K j d (qV P w) (k+1) f l ps sp:=by
 obtain⟨r,u,kV,n,v,y,c,ct,o,rfl,p,h⟩:=F.ex;exact Eg p h S len λA a s H e Q E q i=>g c A a s H e Q E q i
end L2
namespace L2.DL
def qJ (K:W.Frag)(a:Yt->Res D):Sp:=λb H Q E=>∃F ds,Tx F H/\IsDs K F ds b/\(a ds).need (xu K F H Q) (XW K E F H)
def zX (K:W.Frag)(a:Yt->Res D):Sp:=λb H Q E=>∃F ds,Tx F H/\IsDs K F ds b/\(a ds).need (xP K F H Q) (XW K E F H)
def Res.strict {α: Type}:Res α -> Res α
 | .ok a=>.ok a
 |_=>.no
@[simp]def zD {α: Type}(a:α):(Res.ok a).strict=.ok a:=rfl
def Res.need_strict {α: Type}{r:Res α}{p:α -> Prop}{q q':Str->Yt->Prop}(h:r.strict.need p q):r.need p q':=by
 cases r with
 |ok a=>exact h
 |ex c fs=>exact h.elim
 |no=>exact h
def KI (a:Yt->Res D)(b:FA):FE:=λsd=>(b sd).bind λds=>(a ds).strict
@[simp]def gy (Fn)(fr)(sd):KI Fn fr sd=(fr sd).bind λds=>(Fn ds).strict:=rfl
section
variable {X:Cx}{E:XK}{name:Str}{k:Nat}{ps:Yh}{Fn:Yt->Res D}{p pos:Pos}{e:Expr}{es:Yj}{fr:FA}
def W2 (c:zj X.prog X.w X.K X.mg X.base name k ps (qJ X.K Fn))(T:Thrown X E)(f:Room k X.A)(g:Gl X name)(h:QA X E (e::es) fr)
 (a:(name == ("__debug__" : Str))=false:=by decide) (i:starEach (e::es) X.env=(false,eval e X.env)::starEach es X.env:=by rfl) (b:(backTo pos (starEach es X.env)).any (·.1)=false:=by rfl):
 QE X E (.Call (.Name name p) (e::es) [] pos) (J0 Fn fr):=PE.weak (EZ c T f g h a i b) λZ H Q j=>by
 obtain⟨B,F,sd,r,n⟩:=j;refine⟨B,F,sd,r,(Res.need_bind n).mono (λxs l m o s d t=>?_) λ_ _ q=>q⟩;show qJ X.K Fn (m++[]) s Q E;rw[ZA];exact⟨o,xs,d.fh,t,WY l d⟩
def Nm (c:zj X.prog X.w X.K X.mg X.base name k ps (zX X.K Fn))(T:Thrown X E)(f:Room k X.A)(g:Gl X name)(h:QA X E (e::es) fr)
 (a:(name == ("__debug__" : Str))=false:=by decide) (i:starEach (e::es) X.env=(false,eval e X.env)::starEach es X.env:=by rfl) (b:(backTo pos (starEach es X.env)).any (·.1)=false:=by rfl):
 QN X E (.Call (.Name name p) (e::es) [] pos) (J0 Fn fr):=PE.weak (EZ c T f g h a i b) λZ H Q j=>by
 obtain⟨B,F,sd,r,n⟩:=j;refine⟨B,F,sd,r,(Res.need_bind n).mono (λxs l m o s d t=>?_) λ_ _ q=>q⟩;show zX X.K Fn (m++[]) s Q E;rw[ZA];exact⟨o,xs,d.fh,t,BQ l d⟩
def Cv (c:za X.prog X.w X.K X.mg X.base name k ps (qU X.K Fn))(f:Room k X.A)(g:Gl X name)(h:QA X E (e::es) fr)
 (a:(name == ("__debug__" : Str))=false:=by decide) (i:starEach (e::es) X.env=(false,eval e X.env)::starEach es X.env:=by rfl) (b:(backTo pos (starEach es X.env)).any (·.1)=false:=by rfl):
 QE X E (.Call (.Name name p) (e::es) [] pos) (KI Fn fr):=PE.weak (X4 c f g h a i b) λZ H Q j=>by
 obtain⟨B,F,sd,r,n⟩:=j;refine⟨B,F,sd,r,(Res.need_bind n).mono (λxs l m o s d t=>?_) λ_ _ q=>q⟩;show qU X.K Fn (m++[]) s Q E0;rw[ZA];exact⟨o,xs,d.fh,t,Res.need_strict (WY l d)⟩
def Fa (c:za X.prog X.w X.K X.mg X.base name k ps (zC X.K Fn))(f:Room k X.A)(g:Gl X name)(h:QA X E (e::es) fr)
 (a:(name == ("__debug__" : Str))=false:=by decide) (i:starEach (e::es) X.env=(false,eval e X.env)::starEach es X.env:=by rfl) (b:(backTo pos (starEach es X.env)).any (·.1)=false:=by rfl):
 QN X E (.Call (.Name name p) (e::es) [] pos) (KI Fn fr):=PE.weak (X4 c f g h a i b) λZ H Q j=>by
 obtain⟨B,F,sd,r,n⟩:=j;refine⟨B,F,sd,r,(Res.need_bind n).mono (λxs l m o s d t=>?_) λ_ _ q=>q⟩;show zC X.K Fn (m++[]) s Q E0;rw[ZA];exact⟨o,xs,d.fh,t,Res.need_strict (BQ l d)⟩
end
section
variable {P:Program}{w:World}{K:W.Frag}{mg:Yc}{base:Heap}{x qual:Str}{f:Addr}{fd:FuncData}{N ps:Yh}{k:Nat}{st:Stmt}
def W3 {g:FS}(F:Fun K x qual st f fd)(S:FnScope N ps (JP st))
 (e:∀b A a s H E,Room k (A.deeper (envOfC qual (JP st) s.heap.objs.size f b))->yT (jt (qV P w) P w K mg base N qual (JP st) f b A a s H E) E false (Kc st) g):
 FnOk P w K mg base (qV P w) (k+1) f fd ps (qJ K (jc N.length ps.length g)):=by
 refine F.okX S (λi H Q E ⟨F,ds,_,h,n⟩=>?_) λb A a s H i Q E j ⟨F,ds,l,h,n⟩=>⟨_,e b A a s H E j,?_⟩
 .unfold jc at n
  split at n
  .rw[h.length];lia
  .exact n.elim
 .unfold jc at n
  split at n
  .refine⟨⟨F,H,λ_=>none⟩,F,_,RS.start l h,(Res.need_bind n).mono (λo c=>?_) λ_ _ q=>q⟩;cases o with
   |next sd=>exact λZ m p _ r=>c .non m p r.ext (TH.mpr rfl)
   |ret d=>exact c
   |brk sd=>exact c.elim
   |cont sd=>exact c.elim
  .exact n.elim
def kA {g:FS}(F:Fun K x qual st f fd)(S:FnScope N ps (JP st))
 (e:∀b A a s H E,Room k (A.deeper (envOfC qual (JP st) s.heap.objs.size f b))->yT (jt (qV P w) P w K mg base N qual (JP st) f b A a s H E) E true (Kc st) g):
 FnOk P w K mg base (qV P w) (k+1) f fd ps (zX K (qo N.length ps.length g)):=by
 refine F.okX S (λi H Q E ⟨F,ds,_,h,n⟩=>?_) λb A a s H i Q E j ⟨F,ds,l,h,n⟩=>⟨_,e b A a s H E j,?_⟩
 .unfold qo at n
  split at n
  .rw[h.length];lia
  .exact n.elim
 .unfold qo at n
  split at n
  .refine⟨⟨F,H,λ_=>none⟩,F,_,RS.start l h,(Res.need_bind n).mono (λo c=>?_) λ_ _ q=>q⟩;cases o with
   |next sd=>exact c.elim
   |ret d=>exact c
   |brk sd=>exact c.elim
   |cont sd=>exact c.elim
  .exact n.elim
end
end L2.DL
namespace L2
section
variable {X:Cx}{x:Str}{v e:Expr}{tv:TE}{t:TA}{p1 p2 np cpos pos:Pos}{k}
structure Exc (K:W.Frag)(mg:Yc)(c:Str)(C:Addr):Prop where
 ns:W.nsIn K mainGlobals c=some (some (.ref C))
 mgc:mg c=some (.ref C)
 exc:W.excIn K C [.type "ValueError",.type "Exception",.type "BaseException",.type "object"] "ValueError.__new__" = true
def mX (m:Yd)(l:List Ye)(g:Addr->List Value->Option Value->Option Value->Option Value->Option Value->String->Option Value->Bool):Prop:=
 ∃C bm k0 k1 k2 k3 n k5,m=.ref C::bm/\l=[k0,k1,k2,k3,some (.builtin n),k5]/\g C bm k0 k1 k2 k3 n k5=true
def No
 (q:W.excIn.match_1 (λ_ _=>Bool) m l g (λ_ _=>false)=true):mX m l g:=by
 cases m with
 |nil=>exact JI q
 |cons v bm =>
  cases v with
  |ref C =>
   cases l with
   |nil=>exact JI q
   |cons k0 l =>
    cases l with
    |nil=>exact JI q
    |cons k1 l =>
     cases l with
     |nil=>exact JI q
     |cons k2 l =>
      cases l with
      |nil=>exact JI q
      |cons k3 l =>
       cases l with
       |nil=>exact JI q
       |cons a l =>
        cases a with
        |none=>exact JI q
        |some u =>
         cases u with
         |builtin n =>
          cases l with
          |nil=>exact JI q
          |cons k5 l =>
           cases l with
           |nil=>exact⟨_,_,_,_,_,_,_,_,rfl,rfl,q⟩
           |cons _ _=>exact JI q
         |_=>exact JI q
  |_=>exact JI q
def Cw {K:W.Frag}{h:Heap}{C:Addr}{c:Yd}{newId:String}{P:Prop}(f:K.In h)(q:W.excIn K C c newId=true)
 (k:∀bm N nm g bs hdct sn sub ab col dd k0 k1 k2 k3 k5 j,h.get? C=some (excClassObj nm g C N bs bm hdct sn sub ab col dd k0 k1 k2 k3 k5 newId)->h.Ns N j->j "__init__" = none->OwnTail h c bm->P):P:=by
 unfold W.excIn at q
 split at q
 .rename_i dd cd m r;obtain⟨F,bm,k0,k1,k2,k3,n,k5,o,s,q⟩:=No q;simp only[Ub,Yl,Vk] at q;obtain⟨⟨⟨⟨⟨u,w⟩,a⟩,y⟩,b⟩,d⟩:=q;subst u w;have p:=f _ _ r;obtain⟨nm,bs,z,A,g,B,sn,sub,ab,col,E⟩:=cd;dsimp only at o a b d p;subst o a;have i:m = #[k0,k1,k2,k3,some (.builtin n),k5]:=by
   obtain⟨l⟩:=m;exact Zt Array.mk s
  subst i;exact k bm A nm g bs B sn sub ab col dd k0 k1 k2 k3 k5 _ p (.of_isNs (W.isNs_of_in f b)) (W.nsMap_none_of_in f b d) (W.tail_of_in f y)
 .exact JI q
def Np (C:Addr)(E:XK)(t:TA):TS:=λ_ Z H=>t Z H λa b=>a.length<=1000/\E (.ref C) none b
def Nq {E:XK}{c:Str}{C:Addr}(R:Raises X E)(d:Exc X.K X.mg c C)(i:X.calm=true)(j:Gl X c)(l:PA X [e] t)(m:(c == ("__debug__" : Str))=false:=by decide)
 (f:starEach [e] X.env=(false,eval e X.env)::starEach [] X.env:=by rfl):PS X (.Raise (some (.Call (.Name c np) [e] [] cpos)) none pos) (Np C E t):=by
 intro Y s Z H D I h;refine Cw I.mod.kin d.exc λz N nm q bs hdct sn sub ab col dd k0 k1 k2 k3 k5 A n o b T=>(wpAny_Raise_call_subU (nm:=nm) (q:=q) (N:=N) (bs:=bs) (hdct:=hdct) (sn:=sn) (sub:=sub) (ab:=ab) (col:=col) (dd:=dd) (k0:=k0) (k1:=k1) (k2:=k2) (k3:=k3) (k5:=k5)
  PySem.F.excBase_ValueError (by rfl) PySem.F.excBase_ValueError (T.hasType PySem.F.excBase_ValueError.hasBase) (I.ok.hd i) (by rw[f];rfl) b (WQ I j d.mgc ⟨rfl,?_⟩ m))
 have g:=l cpos Y s Z H _ I h;rw[f] at g ⊢;refine Calls.evalArgs_plain (Zc g (λB p ⟨ws,r,a,u,F,w⟩=>?_) λ_ _ y=>y);have G:=u.length;refine⟨rfl,small (),a.bk _ _ n,o.keeps a.bk,T.keeps a.bk,λh' x hx=>R.new Y Z r p h' x C _ a hx w⟩
end
end L2
namespace L2.DL
def JL (c:Str)(f:FE):FS:=λsd=>(f sd).bind λ_=>.ex c []
@[simp]def gr (c)(f)(sd):JL c f sd=(f sd).bind λ_=>.ex c []:=rfl
section
variable {X:Cx}{E:XK}{m:Option Bool}{x:Str}{v e:Expr}{fv fe:FE}{p1 p2 np cpos pos:Pos}{k}
def VO (R:Raises X E)(ex:Exc X.K X.mg c C)(f:X.calm=true)(g:Gl X c)(h:QE X E e fe)(i:(c == ("__debug__" : Str))=false:=by decide)
 (a:starEach [e] X.env=(false,eval e X.env)::starEach [] X.env:=by rfl):QS X E m (.Raise (some (.Call (.Name c np) [e] [] cpos)) none pos) (JL c fe):=
 PS.weak (Nq R ex f g (Ju h Jw a) i a) λT Z H j=>by
  obtain⟨B,F,sd,r,n⟩:=j;have l:(Jt fe Tp sd).need (λds=>ds.length=1/\XW X.K E B.F0 B.H0 c []) (XW X.K E F H):=by
   unfold JL at n;unfold Jt Tp;cases b:fe sd with
   |ok d=>rw[b] at n;exact⟨rfl,n⟩
   |ex o fs=>rw[b] at n;exact XW.ext (n:XW X.K E B.F0 B.H0 o fs) r.ext
   |no=>rw[b] at n;exact n
  refine⟨B,F,sd,r,l.mono (λds p y s t u w=>?_) λ_ _ q=>q⟩;have:=w.length;exact⟨(),p.2 (.ref C) none s t (r.ext.trans u) ⟨C,rfl,ex.ns,.inl rfl⟩⟩
end
end L2.DL
namespace L2
def AE (X:Cx)(Y:Yb)(Z: St)(E:XK)(e:Value)(s':Shared):Prop:=
 ∃a h₀ x C B,e=.ref x/\Inv X Y Z a s'/\(∀b u,X.s₀.heap.get? b=some u->b∉X.ex->∃c,h₀.get? b=some c)/\(∀p∈X.pn++Y,∃u,h₀.get? p.1=some u)/\FlyAt X.stack h₀ a x C B s'.heap/\E (.ref C) none a
section
variable {X:Cx}{Y:Yb}{Z: St}{H:Hp}{s:Shared}{E:XK}
def Nr (F:FnOk X.prog X.w X.K X.mg X.base (qV X.prog X.w) k f fd ps sp)(i:Room k X.A)(j:y4 X.K fd ps [])
 (I:Inv X Y Z H s) (r:TD vs us) (h:sp vs H Q E):Yv X (call (.ref f) us) (EP X Y Z Q) (AE X Y Z E) s:=by
 have l:(us++[]).length=ps.length:=by rw[ZA,<- r.length];exact F.len _ _ _ _ h
 have a:=j s us I.kIn l;rw[ZA] at a;refine wpAny_call (codeAny_mono (F.run X.A X.stack s H ⟨us,[]⟩ us vs Q E i I.env0 a r h) λr s' c=>?_);cases r with
 |error e =>
  obtain⟨m,x,C,B,n,os,bare,un,d,g,o⟩:=c;subst n;exact⟨m,s.heap,x,C,B,rfl,I.call' os un d bare (λb z=>Zn z ()),λb u e hx=>I.base.there b u e hx,λp hp=>⟨_,(I.pin p hp).1⟩,g,o⟩
 |ok g =>
  cases g with
  |ret u=>exact I.after c
  |next=>exact False.elim c
  |brk=>exact False.elim c
  |cont=>exact False.elim c
def Nt (c:zj X.prog X.w X.K X.mg X.base name k ps sp)(l:Room k X.A)(m:Gl X name)(n:PA X.nox (e::es) t)
 (a:(name == ("__debug__" : Str))=false) (o:starEach (e::es) X.env=(false,eval e X.env)::starEach es X.env) (d:(backTo pos (starEach es X.env)).any (·.1)=false)
 (I:Inv X Y Z H s) (h:t Z H λg i=>sp g i Q E):Yv X (eval (.Call (.Name name p) (e::es) [] pos) X.env) (EP X Y Z Q) (AE X Y Z E) s:=by
 obtain⟨f,w,F,b,u,v⟩:=c;exact wpAny_Call_Name_kw (WQ I m v (W.callWith_K I.ok.mod.kin u (Zc (n pos Y s Z H _ (I.wish _) h) (λus x ⟨g,i,j,r,q⟩=>⟨j.kIn,Nr F l b j.unwish r q⟩) λ_ _ z=>z.elim) o d) a)
def Inv.flown {h₀ h' B:Heap}{x C t:Addr}(I:Inv X Y Z H s)(L:∀b u,X.s₀.heap.get? b=some u->b∉X.ex->∃O,h₀.get? b=some O)(hp:∀p∈X.pn++Y,∃u,h₀.get? p.1=some u)
 (trk:∀b o,s.heap.get? b=some o->(H b≠none\/((∃u,h₀.get? b=some u)/\b∉frs X.stack))->B.get? b=some o) (A:Heap.FlyingW B X.stack x (.ref C) (.ref t) h') (up:s.heap.UpToSlots h'):Inv X Y Z H { s with heap:=h' }:=by
 have g:∀b u,X.s₀.heap.get? b=some u->b∉X.fs->b∉frs X.stack:=λb u e a z=>by
  rcases UB.mp (I.stkSub b z) with q|q
  .exact Zn (Zk e) (by rw[q];exact Nat.not_lt.mpr I.ok.above)
  .exact a q
 have d:∀b o,X.s₀.heap.get? b=some o->b∈X.fs->b∉X.ex->∃F,h'.get? b=some { o with slots:=F }:=λb o e a hx=>by
  obtain⟨F,P⟩:=I.base.slot b o e (I.ok.frf b a) a hx;obtain⟨_,G,j,J⟩:=I.ok.funs.mem a;rw[e] at j;obtain rfl:=Zqi j;obtain⟨K,Q⟩:=up b _ P J;exact⟨K,Q⟩
 have f:∀c v,s.heap.IsCell c v->h'.IsCell c v:=λc v R=>by
  obtain⟨o,S,J⟩:=R;obtain⟨F,e⟩:=up c o S λvs q=>by rw[J] at q;cases q
  exact⟨_,e,J⟩
 obtain⟨m,T,U⟩:=id I.loc;refine⟨I.ok,I.os,I.bare,⟨λb o e n a hx=>?_,λb o e n a hx=>d b o e a hx,λb o e n hx=>I.base.free b o e n hx,λb o e hx=>?_,I.base.tups,I.base.frzs,I.base.tbls⟩,⟨m,up.ns T,λi y v h1 h2 h3=>?_⟩,λy c e=>?_,I.free,I.freeC,λp w=>?_,λb u e=>?_,I.len⟩
 .exact A.1 b o (trk b o (I.base.keep b o e n a hx) (.inr ⟨L b o e hx,g b o e a⟩))
 .by_cases a:b∈X.fs
  .obtain⟨F,q⟩:=d b o e a hx;exact⟨_,q⟩
  .obtain⟨G,e'⟩:=I.base.there b o e hx;exact⟨G,A.1 b G (trk b G e' (.inr ⟨L b o e hx,g b o e a⟩))⟩
 .obtain⟨u,r,l⟩:=U i y v h1 h2 h3;refine⟨u,r,?_⟩;rcases l with l|⟨k,c,e,z⟩
  .exact .inl l
  .exact .inr ⟨k,c,e,f c _ z⟩
 .obtain⟨v,q⟩:=I.cell y c e;exact⟨v,f c v q⟩
 .obtain⟨q1,q2,M,N,q5⟩:=I.pin p w;refine⟨A.1 _ _ (trk _ _ q1 (.inr ⟨hp p w,λz=>?_⟩)),q2,M,N,q5⟩;rcases UB.mp (I.stkSub _ z) with q|q
  .exact M q
  .exact N q
 .refine(I.hok b u e).stay (λc v hc q=>A.1 c v (trk c v q (.inl ?_))) (λ_ q=>q) λ_ _ q=>q;rcases hc with z|z
  .rw[z,e];simp
  .rw[z];simp
abbrev Cx.inSuite (X:Cx)(x:Addr):Cx:={ X with A:=X.A.mark (some (.ref x)),calm:=false,xe:=λ_ _=>False }
def Inv.suite (I:Inv X Y Z H s)(x:Addr):Inv (X.inSuite x) Y Z H s:=
 ⟨⟨I.ok.mod,I.ok.kind,I.ok.glob,I.ok.blt,I.ok.above,I.ok.inj,I.ok.has,I.ok.cab,(),I.ok.frames,I.ok.stk,I.ok.exf,I.ok.bs,I.ok.bsz,I.ok.noex,I.ok.exfs,I.ok.funs,I.ok.frf⟩,I.os,I.bare,I.base,I.loc,I.cell,I.free,I.freeC,I.pin,I.hok,I.len⟩
def Inv.unsuite (I:Inv (X.inSuite x) Y Z H s)(ok:X.Ok):Inv X Y Z H s:=⟨ok,I.os,I.bare,I.base,I.loc,I.cell,I.free,I.freeC,I.pin,I.hok,I.len⟩
theorem SP.unsuite (h:SP (X.inSuite x) Y D f s')(ok:X.Ok):SP X Y D f s':=by
 cases f with
 |next=>obtain⟨a,b,I,q⟩:=h;exact⟨a,b,I.unsuite ok,q⟩
 |brk=>obtain⟨a,b,I,q⟩:=h;exact⟨a,b,I.unsuite ok,q⟩
 |cont=>obtain⟨a,b,I,q⟩:=h;exact⟨a,b,I.unsuite ok,q⟩
 |ret u=>obtain⟨v,a,b,I,r,q⟩:=h;exact⟨v,a,b,I.unsuite ok,r,q⟩
end
end L2
namespace L2.DL
end L2.DL
namespace L2
def VP {P:Program}{w:World}{K:W.Frag}{g:Yc}{c:Heap}{N:Yh}{d:Str}{b:Scope}{f:Addr}{cd:Value}{A:Around}{a:List Env}{s:Shared}{H:Hp}{E:XK} :
 PassesOwn (model (jt (qV P w) P w K g c N d b f cd A a s H E).prog (jt (qV P w) P w K g c N d b f cd A a s H E).w) (jt (qV P w) P w K g c N d b f cd A a s H E).A (jt (qV P w) P w K g c N d b f cd A a s H E).env (jt (qV P w) P w K g c N d b f cd A a s H E).xe:=
 PassesOwn.leaving (Q₁:=λe h=>qV P w a H s E e h)
end L2
namespace L2.DL
def AF (g':D->D->Yu)(a:FE)(sd:SD)(y:D):D->Res D
 | .bl true=>(a sd).bind λw=>.ofO (g' y w)
 | .bl false=>.ok (.bl false)
 |_=>.no
@[simp]def gE (g':D->D->Yu)(a:FE)(sd:SD)(y:D):AF g' a sd y (.bl true)=(a sd).bind λw=>.ofO (g' y w):=rfl
@[simp]def gF (g':D->D->Yu)(a:FE)(sd:SD)(y:D):AF g' a sd y (.bl false)=.ok (.bl false):=rfl
def QF (g g':D->D->Yu)(a b c:FE):FE:=λsd=>(a sd).bind λx=>(b sd).bind λy=>(Res.ofO (g x y)).bind (AF g' c sd y)
@[simp]def gu (g g':D->D->Yu)(a b c:FE)(sd:SD):QF g g' a b c sd=(a sd).bind λx=>(b sd).bind λy=>(Res.ofO (g x y)).bind (AF g' c sd y):=rfl
section
variable {X:Cx}{E:XK}{a b c:Expr}{fa fb fc:FE}{g g':D->D->Yu}{pos:Pos}
def Fb {K:W.Frag}{Z: St}{H:Hp}{Q:VK}(h:tD K E (QF g g' fa fb fc) Z H Q):BA (zl K g) (zl K g') (tD K E fa) (tD K E fb) (tD K E fc) Z H Q:=by
 obtain⟨B,F,sd,r,n⟩:=h;refine⟨B,F,sd,r,(Res.need_bind n).mono (λx p v s P d t=>?_) λ_ _ q=>q⟩;refine⟨B,s,sd,r.step d,(Res.need_bind p).mono (λy A w C R e m=>?_) λ_ _ q=>q.ext d⟩;obtain⟨z,G,i⟩:=Tu (Res.need_bind A);refine⟨C,x,y,z,e.fh,IsD.same e.ff _ _ t,m,G,λS o I f J=>?_⟩;cases z with
 |bl k =>
  refine⟨k,Tz.mp J,?_⟩;cases k with
  |true =>
   rw[Zd rfl];refine⟨B,o,sd,((r.step d).step e).step f,(Res.need_bind i).mono (λu L T M U j N=>?_) λ_ _ q=>q.ext (d.trans (e.trans f))⟩;obtain⟨O,l,q⟩:=Tu L;exact⟨M,y,u,O,j.fh,IsD.same (f.ff.trans j.ff) _ _ m,N,l,q.ext (d.trans (e.trans (f.trans j)))⟩
  |false =>
   rw[Ze (by decide)];exact i _ o I (d.trans (e.trans f)) (Tz.mpr rfl)
 |_=>exact i.elim
def Nu (e:jE X (compareOp op) (zl X.K g))(d:jE X (compareOp op') (zl X.K g'))(f:QE X E a fa)(i:QE X E b fb)(j:QE X E c fc)
 (l:lastMarks [op,op'] [b,c]=false:=by with_unfolding_all rfl):QE X E (.Compare a [op,op'] [b,c] pos) (QF g g' fa fb fc):=PE.weak (IL e d f i j l) λ_ _ _ h=>Fb h
end
def qH (H:Hp)(l:Addr):Hp:=λa=>if a=l then none else H a
def Nv:Tx (qH H l) H:=λa o e=>by
 simp_all [qH]
def Nw:qH H l l=none:=by simp_all [qH]
def Fc (h:a≠l):qH H l a=H a:=by simp_all [qH]
def Wi (R:Res Out->Prop)(P:Nat->SD->Prop)(n:P 0 sd)(o:∀sd,P ds.length sd->R (.ok (.next sd)))
 (h:∀(i:Nat) (x:D) (sd:SD),ds[i]? = some x->P i sd->(∃a,(JY tg x sd).bind b=.ok (.next a)/\P (i+1) a)\/∃c es,(JY tg x sd).bind b=.ex c es/\R (.ex c es)):R (j4 tg b ds sd):=by
 have j:∀(k i:Nat) (sd:SD),ds.length-i=k->i<=ds.length->P i sd->R (j4 tg b (ds.drop i) sd):=by
  intro k
  induction k with
  |zero =>
   intro i sd e l p;have:i=ds.length:=()
   simp_all
  |succ k m =>
   intro i sd e l p;have d:i<ds.length:=()
   rw[UU d];unfold j4 xL;rcases h i ds[i] sd () p with ⟨a,f,g⟩|⟨c,es,f,g⟩
   .rw[f];exact m (i+1) a () d g
   .rwa [f]
 grind
section
variable {X:Cx}{pos:Pos}
def Cy:D->D->Yu
 | .lst a,.lst b=>if a.length+b.length<=sizeLine then some (.lst (a++b)) else none
 |_,_=>none
def Nx:gY X (binaryOp .Add) Cy:=jE.weak EA λx y H Q j=>by
 obtain⟨F,d,e,z,f,id,g,c,q⟩:=j;cases d with
 |lst a =>
  cases e with
  |lst b =>
   have c:(if a.length+b.length<=sizeLine then some (D.lst (a++b)) else none)=some z:=c
   split at c
   .rename_i s;obtain rfl:=Zqi c;rw[Tw] at id g;obtain⟨l,xs,rfl,m,h⟩:=id;obtain⟨n,o,rfl,r,i⟩:=g;have t:=h.length;have u:=i.length;exact⟨l,n,xs,o,rfl,rfl,m.same f,r.same f,(),λp hp=>q p F _ (.keep f hp _) hp (Qs f hp) ⟨_,JC,h.append i⟩⟩
   .exact Jy c
  |_=>exact Jy c
 |_=>exact Jy c
end
end L2.DL
namespace L2
abbrev TB:=Ends->XK->St->Hp->Prop
def PB (X:Cx)(a:List Stmt)(t:TB):Prop:=
 ∀(Y:Yb) (s:Shared) (Z: St) (H:Hp) (D:Ends) (E:XK),Inv X Y Z H s->t D E Z H->Yv X (execs a X.env) (SP X Y D) (AE X Y Z E) s
section
variable {X:Cx}
def PB.weak (h:PB X b t)(w:∀D E Z H,t' D E Z H->t D E Z H):PB X b t':=λY s Z H D E I q=>h Y s Z H D E I (w _ _ _ _ q)
def Ny
 (g:X.N.Nodup) (j:X.N[i]? = some y) (hx:xY X.env.scope y) (l:zj X.prog X.w X.K X.mg X.base name k ps sp) (m:Room k X.A) (n:Gl X name) (o:PA X.nox (e::es) t)
 (a:(name == ("__debug__" : Str))=false:=by decide) (r:starEach (e::es) X.env=(false,eval e X.env)::starEach es X.env:=by rfl) (b:(backTo cpos (starEach es X.env)).any (·.1)=false:=by rfl)
 (c:swapsWith (.Call (.Name name p) (e::es) [] cpos) (some (.Name y py)) apos.line X.env=pure false:=by rfl) (u:X.fn y=true\/X.env.scope.names.lookup y=some .local:=by trivial):
 PB X [.Assign [.Name y py] (.Call (.Name name p) (e::es) [] cpos) apos] (λD E Z H=>t Z H λw d=>sp w d (λv f=>D.nx (Z.set i (some v)) f) E):=by
 intro Y s Z H D E I h;refine wpAny_execs_cons (wpAny_Assign_Name (Zc (Nt (Q:=λv f=>D.nx (Z.set i (some v)) f) (E:=E) l m n o a r b I h) (λv x q=>?_) λe x A=>A) c);obtain⟨z,d,B,C,F⟩:=q;exact Y8 B g j hx C (λJ G=>wpAny_execs_nil ⟨_,d,G,F⟩) u
end
end L2
namespace L2.DL
def nU (K:W.Frag)(m:Option Bool)(g:FS):TB:=λD E Z H=>∃B F sd,RS K B F H sd Z /\ (g sd).need (yi K m B F D) (XW K E F H)
abbrev QB (X:Cx)(m:Option Bool)(body:List Stmt)(g:FS):Prop:=PB X body (nU X.K m g)
def YT (a:Yt->Res D)(b:FA):FE:=λsd=>(b sd).strict.bind a
@[simp]def gw (a:Yt->Res D)(b:FA)(sd:SD):YT a b sd=(b sd).strict.bind a:=rfl
section
variable {X:Cx}{m:Option Bool}
def Nz
 (o:X.N.Nodup) (q:X.N[i]? = some y) (hx:xY X.env.scope y) (s:zj X.prog X.w X.K X.mg X.base name k ps (qJ X.K Fn)) (t:Room k X.A) (u:Gl X name) (w:QA X.nox E0 (e::es) fr)
 (c:(name == ("__debug__" : Str))=false:=by decide) (x:starEach (e::es) X.env=(false,eval e X.env)::starEach es X.env:=by rfl) (f:(backTo cpos (starEach es X.env)).any (·.1)=false:=by rfl)
 (g:swapsWith (.Call (.Name name p) (e::es) [] cpos) (some (.Name y py)) apos.line X.env=pure false:=by rfl) (a:X.fn y=true\/X.env.scope.names.lookup y=some .local:=by trivial):
 QB X m [.Assign [.Name y py] (.Call (.Name name p) (e::es) [] cpos) apos] (TK i (YT Fn fr)):=
 PB.weak (Ny o q hx s t u w c x f g a) λT E Z H z=>by
  obtain⟨B,F,sd,r,n⟩:=z;refine⟨B,F,sd,r,?_⟩;unfold TK YT at n;cases a:fr sd with
  |ex j fs=>rw[a] at n;exact n.elim
  |no=>rw[a] at n;exact n.elim
  |ok ds =>
   rw[a] at n;have n:((Fn ds).bind λd=>Res.ok (Out.next (sd.set i (~~~d)))).need (yi X.K m B F T) (XW X.K E F H):=n;show nH X.K F H _ ds;intro K A L b C;refine⟨A,ds,b.fh,C,?_⟩;cases h:Fn ds with
   |ok d =>
    rw[h] at n;exact λv G I l J=>n _ G I (b.ff.trans l.ff) (((r.step b).step l).setVal J)
   |no=>rw[h] at n;exact n.elim
   |ex j fs =>
    rw[h] at n;have n:XW X.K E F H j fs:=n;exact n.ext b
end
end L2.DL
namespace L2
def wf (K:W.Frag)(x:Str)(st:Stmt):Prop:=∃f a,W.nsIn K mainGlobals x=some (some (.ref f))/\Fun K x x st f a
def wf.callee {P:Program}{w:World}{K:W.Frag}{h b:Heap}{e:Yc}{x:Str}{st:Stmt}{k:Nat}{ps:Yh}{sp:Sp}(X:K.In h)(G:h.Ns mainGlobals e)(d:wf K x st)
 (ok:∀{f:Addr} {c:FuncData},Fun K x x st f c->FnOk P w K e b xa k f c ps sp)
 (j:∀(kV g l:Value) (m:Option Addr) (i ct:Value) (us:Yd),us.length=ps.length->bindArgs (W.fnOf x x (WV st) (Kc st) (JP st) .none kV g l m i ct) ⟨us,[]⟩=pure (ps.zip us)):za P w K e b x k ps sp:=by
 obtain⟨f,c,a,F⟩:=d;exact⟨f,c,ok F,F.binds j,F.kp,W.mg_of X G a⟩
def wf.calleeX {P:Program}{w:World}{K:W.Frag}{h b:Heap}{e:Yc}{x:Str}{st:Stmt}{k:Nat}{ps:Yh}{sp:Sp}(X:K.In h)(G:h.Ns mainGlobals e)(d:wf K x st)
 (ok:∀{f:Addr} {c:FuncData},Fun K x x st f c->FnOk P w K e b (qV P w) k f c ps sp)
 (j:∀(kV g l:Value) (m:Option Addr) (i ct:Value) (us:Yd),us.length=ps.length->bindArgs (W.fnOf x x (WV st) (Kc st) (JP st) .none kV g l m i ct) ⟨us,[]⟩=pure (ps.zip us)):zj P w K e b x k ps sp:=have ⟨f,c,a,F⟩:=d;⟨f,c,ok F,F.binds j,F.kp,W.mg_of X G a⟩
section
variable {X:Cx}{Y:Yb}{Z: St}{H:Hp}{s:Shared}
def N0 {M:Model}{A:Around}{E:Ya}{nm q:Str}{C U N:Addr}{bs bm:Yd}{hdct:Bool}{sn:Yh}{sub:Yd}{ab:Bool}{col:Option Bool}{dd:Option Addr}{k0 k1 k2 k3 k5:Ye}{newId:String}{h:Heap}{g:Array GenState}{d:Drawn}{t:Nat}{os:OsState}{e:Addr}{i:Obj}{Q:Bool->Yq}
 (j:h.get? U=some (excClassObj nm q U N bs bm hdct sn sub ab col dd k0 k1 k2 k3 k5 newId)) (l:h.get? e=some i) (b:i.cls=.ref C) (a:bm.contains (.type "BaseException")=true) (m:W.Looks M h (isSubtype (.ref C) (.ref U)) true)
 (n:Q true ⟨h,g,d,t,os⟩):wpAny M A (excMatches (.ref e) (.ref U)) Q E ⟨h,g,d,t,os⟩:=by
 have c:(Value.ref U::bm).contains (.type "BaseException")=true:=by rw[List.contains_cons,a,UP]
 have f:=tc_notTuple;unfold excMatches
 repeat (first|(with_reducible refine wpAny_loadPart_at l ?_;rw[b])|with_reducible refine wpAny_loadPart_at j ?_|(with_reducible refine wpAny_isSubtype_exc j ?_;rw[c])|with_reducible refine m.at ?_|wp_step)
 exact n
end
end L2
namespace L2.DL
end L2.DL
namespace L2
def mT (x:Str):It:=⟨λi _=>i<x.cps.size,λi H y a=>a=H/\∃c,x.cps[i]? = some c/\y=.str ⟨#[c]⟩,λi _=>x.cps.size<=i⟩
def N1 {P:Program}{w:World}{K:W.Frag}{tg:Expr}(it:Addr)(x:Str)(t:Tok):Turn P w K tg (mT x) [it] it (λi h=>h.IsStrIter it "str_ascii_iterator" x t i) where
 mem:=by simp
 obj:=λi h st b f=>by
  have e:b=it:=by simpa using f
  subst e;obtain⟨o,l,_,C⟩:=st;exact⟨o,l,λv z=>by rw[C] at z;cases z⟩
 keep:=λi h h' st k=>let ⟨o,l,r⟩:=st;⟨o,k it () o l,r⟩
 item:=by
  intro X m hw n B i Y s Z H E I j st a;subst m hw n;obtain⟨p,q,F,u,y,A⟩:=j it ();have a:i<x.cps.size:=a;refine wpAny_pyNext_ascii_item st (c:=x.cps[i]) (by simp[a]) λh' g G=>?_;have J:Inv X Y Z H { s with heap:=h',toks:=s.toks+1 }:=I.turned (λb o f e=>(G.2 b f).trans e) p q u y A;obtain⟨o,e,c,d⟩:=id g;exact⟨_,rfl,Y9 (s:={ s with heap:=h',toks:=s.toks+1 }) e c d (by decide) ⟨.str ⟨#[x.cps[i]]⟩,H,J,⟨_,rfl⟩,⟨rfl,_,by simp[a],rfl⟩,g,λb f=>(j b f).1⟩⟩
 done:=by
  intro X m hw n B i Y s Z H E I j st a;subst m hw n;obtain⟨p,q,F,u,y,A⟩:=j it ();have a:x.cps.size<=i:=a;exact wpAny_pyNext_ascii_end (I.ok.hd B) st (by simp[a]) λh' L=>⟨rfl,I.turned (t':=s.toks) (λb o f e=>L b o f e) p q u y A⟩
 self:=λ_ _ _ _ _ st h=>wpAny_pyIter_striter_ascii st h
section
variable {X:Cx}{tg:Expr}
def uT (a:TE):TI:=λZ H R=>a Z H λy b=>∃x,y=.str x/\x.cps.all (· < 128)=true/\R (mT x) b
def N2 {l:Expr}{d:TE}(f:PE X l d):PI X tg l (uT d):=by
 intro Y s Z H R I h;refine TQ (f Y s Z H _ I h) λv a ⟨y,g,c,i,j⟩=>?_;obtain⟨x,rfl,m,q⟩:=j;obtain⟨t,rfl⟩:=i;refine wpAny_pyIter_ascii m ?_;refine⟨a.heap.objs.size,[a.heap.objs.size],_,_,g,rfl,c.kept (t':=a.toks) λb o e=>Zq _ e,N1 _ x t,⟨_,Zr _ rfl,rfl,rfl⟩,λb n=>?_,q⟩;have e:b=a.heap.objs.size:=by simpa using n
 subst e;exact c.fpOk (Zf _) (c.hok.fresh (Zf _))
def N3 {e:Expr}{lo n:Option Expr}{y o:Pos}{te:TE}{A th:TO}(E:PE X e te)(F:PO X lo A)(G:PO X n th):
 PE X (.Subscript e (.Slice lo n none y) o) (λZ H Q=>te Z H λx p=>A Z p λl r=>th Z r λu g=>∃z,x=.str z/\z.length<=sizeLine/\Q (.str (Txt.slice z l u)) g):=by
 intro Y s Z H Q I h;refine Subscript_ (TQ (E Y s Z H _ I h) λv J ⟨x,p,K,L,M⟩=>?_);refine wpAny_Slice (TQ (F Y J Z p _ K M) λj N ⟨l,r,O,pl,P⟩=>TQ (G Y N Z r _ O P) λm a ⟨u,g,R,S,T⟩=>?_);obtain⟨z,rfl,U,q⟩:=T;obtain⟨t,rfl⟩:=L;rw[evalPart_none];refine Zb ?_;have B:Inv X Y Z g { a with heap:=a.heap.push { cls:=.type "slice",data:=.fields #[j,m,.none] } }:=R.kept (t':=a.toks) λb ob q=>Zq _ q;show Yv X (subscriptTail e (.Slice lo n none y) (.str z t) (.ref a.heap.objs.size)) (EP X Y Z Q) X.xe { a with heap:=a.heap.push { cls:=.type "slice",data:=.fields #[j,m,.none] } }
 suffices fin:Yv X (getItem (.str z t) (.ref a.heap.objs.size)) (EP X Y Z Q) X.xe { a with heap:=a.heap.push { cls:=.type "slice",data:=.fields #[j,m,.none] } } by
  exact tail_any (ops:=[.ref a.heap.objs.size,.str z t]) (typeIs_str _ z t) slot_str_getitem.lookup fin (by with_unfolding_all rfl)
 obtain⟨d,hl'⟩:∃d:Option (Int×Tok),j=partValue d/\d.map (·.1)=l:=by
  cases pl with
  |none=>exact⟨none,rfl,rfl⟩
  |int i t=>exact⟨some (i,t),rfl,rfl⟩
 obtain⟨f,hu'⟩:∃f:Option (Int×Tok),m=partValue f/\f.map (·.1)=u:=by
  cases S with
  |none=>exact⟨none,rfl,rfl⟩
  |int i t=>exact⟨some (i,t),rfl,rfl⟩
 refine wpAny_getItem_str_slice (l:=d) (u:=f) (st:=none) ⟨_,Zr _ rfl,rfl,by rw[hl'.1,hu'.1];rfl⟩ rfl ?_;have C:=Txt.slice_le z l u;have es:Txt.slice z l u=if((1:Int) == 1&&(slicePicked z d f none).length == z.length)=true then z else⟨((slicePicked z d f none).filterMap (z.cps[·]?)).toArray⟩:=by
  unfold Txt.slice slicePicked;rw[hl'.2,hu'.2];rfl
 unfold sliceMade;rw[es] at q C;by_cases c:((1:Int) == 1&&(slicePicked z d f none).length == z.length)=true
 .rw[Zd c] at q;have w:(((none:Option (Int×Tok)).map (·.1)).getD 1 == 1&&(slicePicked z d f none).length == z.length)=true:=c;rw[Zd w];exact⟨.str z,g,B,⟨_,rfl⟩,q⟩
 .rw[Ze c] at q C;have w:¬(((none:Option (Int×Tok)).map (·.1)).getD 1 == 1&&(slicePicked z d f none).length == z.length)=true:=c;rw[Ze w];exact⟨(),.str _,g,B.tok _,⟨_,rfl⟩,q⟩
def N4 (m:X.A.units+64<cLine)(neg:Bool):jE X (compareOp (if neg then .NotIn else .In)) (λx y H Q=>∃(d:DL.D) (ws:Yh) (p:Addr),DL.IsD X.K H d x/\DL.plN 12 d=true/\(ws.map DL.D.str).all (DL.plN 12)=true/\y=.ref p/\qX X.K H p (ws.map V.str) /\
 Q (.bl (if neg then !(ws.map DL.D.str).any (λe=>DL.sameD e d) else(ws.map DL.D.str).any λe=>DL.sameD e d)) H):=by
 intro Y s Z H x y v u Q I c f ⟨d,ws,p,id,hp,hw,g,h,q⟩;subst g;obtain rfl:u=Value.ref p:=f;obtain⟨a,i,pl,n⟩:=I.tuple h;have j:∀ws:Yh,DL.IsDs X.K H (ws.map DL.D.str) (ws.map V.str):=λws=>by
  induction ws with
  |nil=>exact .nil
  |cons w ws l=>exact .mk (DL.IsD.str_iff.mpr rfl) l
 obtain⟨k1,k2⟩:=DL.any_eq (A:=X.A.in1) (by show X.A.units+1+60<cLine;lia) I.hok hp id c hw (j ws) i;have b:a.toArray.any (DL.eqTo X.K H d)=(ws.map DL.D.str).any (λe=>DL.sameD e d):=by
  rw[show a.toArray.any (DL.eqTo X.K H d)=a.any (DL.eqTo X.K H d) by simp,DL.any_map',k1,<- DL.any_map']
 cases neg with
 |true =>
  refine SeqAt.notIn_tupleAt (DL.eqTo X.K H d) pl (λw hw=>k2 w (by simpa using hw)) ⟨.bl _,H,I,rfl,?_⟩;rw[b];exact q
 |false =>
  refine SeqAt.in_tupleAt (DL.eqTo X.K H d) pl (λw hw=>k2 w (by simpa using hw)) ⟨.bl _,H,I,rfl,?_⟩;rw[b];exact q
end
end L2
namespace L2.DL
def yQ (x:Str):Bool:=x.cps.all (· < 128)
def ze (x:Str):Yt:=x.cps.toList.map λc=>.str ⟨#[c]⟩
def zN (f:FE):FA:=λsd=>(f sd).bind λd=>match d with
 | .str x=>if yQ x=true then .ok (ze x) else .no
 |_=>.no
@[simp]def hY (f:FE)(sd:SD):zN f sd=(f sd).bind λd=>match d with
 | .str x=>if yQ x=true then .ok (ze x) else .no
 |_=>.no:=rfl
def qh (neg:Bool):D->D->Yu
 | .str c,.str x=>some (.bl (if neg then !(!(Builtin.Str.occurrences x c 0 x.length 1).isEmpty) else !(Builtin.Str.occurrences x c 0 x.length 1).isEmpty))
 |_,_=>none
def YU (neg:Bool)(c:Nat)(x:Str):qh neg (.str ⟨#[c]⟩) (.str x)=some (.bl (if neg then !decide (c∈x.cps.toList) else decide (c∈x.cps.toList))):=by
 show some (D.bl (if neg then !(!(Builtin.Str.occurrences x ⟨#[c]⟩ 0 x.length 1).isEmpty) else !(Builtin.Str.occurrences x ⟨#[c]⟩ 0 x.length 1).isEmpty))=_;rw[PySem.StrLaws.found_one]
def zP:D->Option Int->Option Int->Yu
 | .str x,l,u=>if x.length<=sizeLine then some (.str (Txt.slice x l u)) else none
 |_,_,_=>none
def xM (a:FE)(b c:FO):FE:=λsd=>(a sd).bind λd=>(b sd).bind λl=>(c sd).bind λh=>.ofO (zP d l h)
@[simp]def m1 (a:FE)(b c:FO)(sd:SD):xM a b c sd=(a sd).bind λd=>(b sd).bind λl=>(c sd).bind λh=>.ofO (zP d l h):=rfl
@[simp]def ke (x:Str)(l u:Option Int):zP (.str x) l u=if x.length<=sizeLine then some (.str (Txt.slice x l u)) else none:=rfl
section
variable {X:Cx}{E:XK}{tg e a b:Expr}{fe fa fb:FE}{lo hi:Option Expr}{p2 pos p:Pos}
def Fd (h:QE X E e fe):QI X E tg e (zN fe):=PI.weak (N2 h) λZ H R s=>by
 obtain⟨B,F,sd,r,n⟩:=s;refine⟨B,F,sd,r,(Res.need_bind n).mono (λd f v m t u w=>?_) λ_ _ q=>q⟩;cases d with
 |str x =>
  have f:(if yQ x=true then Res.ok (ze x) else Res.no).need (λds=>∀J o g,Ext F H o g->xO X.K o J ds->R J g) (XW X.K E F H):=f
  split at f
  .rename_i z;have A:∀l:Yg,IsDs X.K m (l.map λc=>D.str ⟨#[c]⟩) (l.map λc=>V.str ⟨#[c]⟩):=λl=>by
    induction l with
    |nil=>exact .nil
    |cons c l C=>exact .mk (IsD.str_iff.mpr rfl) C
   refine⟨x,IsD.str_iff.mp w,z,f (mT x) m t u (A6 (S:=λ_=>True) (xs:=x.cps.toList.map λc=>V.str ⟨#[c]⟩) (A _) (λ_ _ _ _=>trivial) (λi H y _ j=>?_) (λi H _ hi=>?_) λi H y g _ j=>?_)⟩
   .have:=(Jd.mp j).1;rw[Zql,Ud] at this;exact this
   .rw[Zql,Ud] at hi;exact hi
   .obtain⟨G,c,I,K⟩:=j;refine⟨G,?_⟩;rw[Zv,Array.getElem?_toList,I,K];rfl
  .exact f.elim
 |_=>exact f.elim
def Fe (neg:Bool):xt X (compareOp (if neg then .NotIn else .In)) (qh neg):=by
 intro Y s Z H x y v u Q I g h ⟨F,d,e,z,i,id,m,f,q⟩;cases d with
 |str c =>
  cases e with
  |str t =>
   obtain rfl:=Zqi f;have j:=IsD.str_iff.mp id;have l:=IsD.str_iff.mp m;cases neg with
   |true=>exact IK Y s Z H x y v u Q I g h ⟨c,t,j,l,q _ F H (.refl i) (yh _ F)⟩
   |false=>exact IJ Y s Z H x y v u Q I g h ⟨c,t,j,l,q _ F H (.refl i) (yh _ F)⟩
  |_=>exact Jy f
 |_=>exact Jy f
def Cz:xt X (compareOp .In) (qh false):=Fe false
def N5:xt X (compareOp .NotIn) (qh true):=Fe true
def Xi {i j:FO}(m:QE X E e fe)(o:QO X E lo i)(s:QO X E hi j):QE X E (.Subscript e (.Slice lo hi none p2) pos) (xM fe i j):=PE.weak (N3 m o s) λZ H Q t=>by
 obtain⟨B,F,sd,r,n⟩:=t;refine⟨B,F,sd,r,(Res.need_bind n).mono (λd u v w L f y=>?_) λ_ _ q=>q⟩;refine⟨B,w,sd,r.step f,(Res.need_bind u).mono (λl A C M g=>?_) λ_ _ q=>q.ext f⟩;refine⟨B,C,sd,(r.step f).step g,(Res.need_bind A).mono (λh G I J K=>?_) λ_ _ q=>q.ext (f.trans g)⟩;obtain⟨z,c,q⟩:=Tu G;cases d with
 |str x =>
  have c:(if x.length<=sizeLine then some (D.str (Txt.slice x l h)) else none)=some z:=c
  split at c
  .rename_i hx;obtain rfl:=Zqi c;exact⟨x,IsD.str_iff.mp y,hx,q _ I J ((f.trans g).trans K) (IsD.str_iff.mpr rfl)⟩
  .exact Jy c
 |_=>exact Jy c
def AG (c:X.mg x=some (.str v t))(d:Gl X x)(f:(x == ("__debug__" : Str))=false:=by decide):QE X E (.Name x pos) (dC (.str v)):=X5 (DA (v:=.str v) d c ⟨t,rfl⟩ f) λF=>IsD.str_iff.mpr rfl
structure KTup (K:W.Frag)(mg:Yc)(x:Str)(ws:Yh):Prop where
 ex:∃p,mg x=some (.ref p)/\∀H,qX K H p (ws.map V.str)
def N6 {K:W.Frag}{neg:Bool}{ws:Yh}{p:Addr}{Z: St}{H:Hp}{Q:VK}(i:∀H,qX K H p (ws.map V.str))(h:tD K E (Ts (jY neg) fa (dC (.tup (ws.map .str)))) Z H Q):
 wj (λx y H Q=>∃(d:D) (ws:Yh) (p:Addr),IsD K H d x/\plN 12 d=true/\(ws.map D.str).all (plN 12)=true/\y=.ref p/\qX K H p (ws.map V.str) /\
 Q (.bl (if neg then !(ws.map D.str).any (λe=>sameD e d) else(ws.map D.str).any λe=>sameD e d)) H) (tD K E fa) (tC (.ref p)) Z H Q:=by
 obtain⟨B,F,sd,r,n⟩:=h;refine⟨B,F,sd,r,(Res.need_bind n).mono (λx f v j l g m=>?_) λ_ _ q=>q⟩;have f:(Res.ofO (jY neg x (.tup (ws.map .str)))).need (xu K F H Q) (XW K E F H):=f;obtain⟨z,c,q⟩:=Tu f;have c:(if plN 12 x&&(ws.map D.str).all (plN 12) then some (D.bl (if neg then !(ws.map D.str).any (λe=>sameD e x) else(ws.map D.str).any λe=>sameD e x)) else none)=some z:=c
 split at c
 .rename_i hp;rw[Ub] at hp;obtain rfl:=Zqi c;exact⟨x,ws,p,IsD.same g.fh _ _ m,hp.1,hp.2,rfl,i _,q _ j l g (Tz.mpr rfl)⟩
 .exact Jy c
def N7 (c:X.A.units+64<cLine)(k:KTup X.K X.mg g ws)(d:Gl X g)(f:QE X E a fa)(i:(g == ("__debug__" : Str))=false:=by decide):QT X E (.Compare a [.In] [.Name g p] pos) (Jx (Ts (jY false) fa (dC (.tup (ws.map .str))))):=by
 obtain⟨q,j,l⟩:=k.ex;exact PT.weak (Aj (N4 c false) f (DA (v:=.ref q) d j rfl i) rfl) λZ H Q h=>N6 l (VE h)
def XD (f:jE X (compareOp op) (zl X.K g))(d:jE X (compareOp op') (zl X.K g'))(i:QE X E a fa)(j:QE X E b fb)(l:QE X E c fc)
 (m:lastMarks [op,op'] [b,c]=false:=by with_unfolding_all rfl):QT X E (.Compare a [op,op'] [b,c] pos) (Jx (QF g g' fa fb fc)):=PT.weak (IM f d i j l m) λ_ _ _ h=>Fb (VE h)
end
structure ClsD (K:W.Frag)(mg:Yc)(c:Str)(C:Addr)(fs:Yh):Prop where
 ns:W.nsIn K mainGlobals c=some (some (.ref C))
 mgc:mg c=some (.ref C)
 cls:Cls K C
 no:∀f∈fs,z4 K C f
def yM (f:Str):Yh->Yt->Yu
 |g::gs,d::ds=>if g=f then some d else yM f gs ds
 |_,_=>none
theorem C0 {K:W.Frag}{H:Hp}{f:Str}:∀{fs:Yh} {ds:Yt} {xs:Yr} {d:D},IsDs K H ds xs->fs.length=xs.length->yM f fs ds=some d->∃x,(fs.zip xs).lookup f=some x/\IsD K H d x
 | [],ds,xs,d,_,_,h=>Jy h
 |g::gs,[],xs,d,i,l,h=>by
  simp_all [IsDs.nil_iff]
 |g::gs,e::ds,xs,d,i,l,h=>by
  obtain⟨x,r,rfl,b,a⟩:=Tv.mp i;unfold yM at h;rw[Vj];by_cases q:g=f
  .simp_all
  .rw[Ze q] at h;obtain⟨y,c,j⟩:=C0 a (by simpa using l) h
   grind
def TF (c f:Str):D->Yu
 | .ins c' fs ds=>if c'=c then yM f fs ds else none
 |_=>none
section
variable {X:Cx}{E:XK}{e:Expr}{fe:FE}{pos:Pos}
def Qh {c f:Str}{C:Addr}{fs:Yh}(k:ClsD X.K X.mg c C fs)(l:f∈fs)(m:QE X E e fe)(o:attributeBase e f X.env (eval e X.env)=eval e X.env:=by rfl):QE X E (.Attribute e f pos) (jb (TF c f) fe):=PE.weak (DW m o) λZ H Q p=>by
 obtain⟨B,F,sd,r,n⟩:=p;refine⟨B,F,sd,r,(Res.need_bind n).mono (λd s v t u g w=>?_) λ_ _ q=>q⟩;obtain⟨z,h,q⟩:=Tu s;cases d with
 |ins i gs ds =>
  have hw:(if i=c then yM f gs ds else none)=some z:=h;by_cases b:i=c
  .rw[Zd b] at hw;subst b;obtain⟨a,L,y,xs,rfl,j,A,G,I⟩:=jh.mp w;rw[k.ns] at j;cases j;obtain⟨x,J,K⟩:=C0 I G hw;exact⟨a,C,y,_,x,rfl,g.fh _ _ A,k.cls,k.no f l,J,q _ t u g K⟩
  .rw[Ze b] at hw;exact Jy hw
 |_=>exact Jy h
end
theorem C1 (f)(v):∀fs:List (Str×V),f∉fs.map (·.1)->qg f v fs=fs++[(f,v)]
 | [],_=>rfl
 | (g,x)::r,h=>by
  rw[Zl,UB,not_or] at h;show(if g=f then(g,v)::r else(g,x)::qg f v r)=_;rw[Ze (λz=>h.1 z.symm),C1 f v r h.2];rfl
def tI (K:W.Frag)(c:Str)(names:Yh)(g:FA):TS:=λT Z H=>∃B F sd x C h fs xs b,RS K B F H sd Z /\ (∀(i:Nat) (p:Bool) (d:D),sd[i]? ≠ some (some (SV.own p d))) /\ Z[0]? = some (some (.ref x))/\B.H0 x=none/\F x=none/\W.nsIn K mainGlobals c=some (some (.ref C))/\H x=some (.ins C h (fs.zip xs))/\fs.length=xs.length/\(fs++names).Nodup/\(fs++names).length<900/\IsDs K F b xs /\
 (g sd).need (λds=>∀e f a,Ext B.F0 B.H0 e f->e x=none->f x=some (.ins C h ((fs++names).zip a))->(fs++names).length=a.length->IsDs K e (b++ds) a->T.nx Z f) (XW K E0 B.F0 B.H0)
section
variable {X:Cx}{o e:Expr}{fe:FE}{g:FA}{pos pos':Pos}{ss:List Stmt}{c f:Str}{C:Addr}{fs names:Yh}
def Ff:qx X [] (tI X.K c [] Tp):=qx.weak B7 λT Z H i=>by
 obtain⟨B,F,sd,x,C,j,fs,xs,b,r,s,t,u,l,v,m,p,w,y,q,n⟩:=i;have n:∀d h a,Ext B.F0 B.H0 d h->d x=none->h x=some (.ins C j ((fs++[]).zip a))->(fs++[]).length=a.length->IsDs X.K d (b++[]) a->T.nx Z h:=n;simp only[ZA] at n;exact n F H xs r.ext l m p q
def AH (k:ClsD X.K X.mg c C fs)(M:f∈fs)(N:PE X o (xl 0))(O:QE X E0 e fe)(P:qx X ss (tI X.K c names g))(Q:swapsWith e (some (.Attribute o f pos')) pos.line X.env=pure false:=by rfl):
 qx X (.Assign [.Attribute o f pos'] e pos::ss) (tI X.K c (f::names) (Jt fe g)):=qx.weak (B8 (DX N O Q) P) λT Z H R=>by
 obtain⟨B,F,sd,x,l,A,gs,xs,h,r,m,E,G,S,p,I,J,K,L,U,n⟩:=R;refine⟨B,F,sd,r,(Res.need_bind n).mono (λd Y v s H1 j i1=>?_) λ_ _ q=>q.ext r.ext⟩;have c1:l=C:=by
  rw[k.ns] at p;cases p;rfl
 subst c1;have t:=j.hh _ _ I;have i:s x=none:=j.new x S (by rw[I];simp);have lz:(gs.zip xs).map (·.1)=gs:=by rw[List.map_fst_zip ()]
 have u:f∉gs:=λz=>by
  have:=(Jf.mp K).2.2 f z f (Zqs ..);exact this rfl
 have ll:(gs.zip xs).length<1000:=by
  rw[UV];simp at L;lia
 refine⟨.ref x,E,x,l,A,_,rfl,t,k.cls,k.no f M,ll,?_⟩;rw[C1 f v _ (by rw[lz];exact u)];have ez:gs.zip xs++[(f,v)]=(gs++[f]).zip (xs++[v]):=by rw[List.zip_append J];rfl
 rw[ez];have b:=r.step j;have w:IsDs X.K s (h++[d]) (xs++[v]):=IsDs.snoc (IsDs.same j.ff _ _ U) i1;refine⟨B,s,sd,x,l,A,gs++[f],xs++[v],h++[d],⟨⟨b.ext.ff,λa o e=>?_,λa o e=>?_,b.ext.new⟩,b.len,b.val,λq=>Zn q (m _ _ _),λ_ q _ _=>Zn q (m _ _ _)⟩,m,E,G,i,p,JC,by simp[J],by simpa using K,by simpa using L,w,(Res.need_bind Y).mono (λds n2 F2 H2 y e2 f2 q1 q2 q3=>?_) λ_ _ q=>q⟩
 .rw[Jz (QP e i)];exact b.ext.fh _ _ e
 .rw[Jz (QP e G)];exact b.ext.hh _ _ e
 .exact n2 F2 H2 y e2 f2 (by simpa using q1) (by simpa using q2) (by simpa using q3)
end
def n0 (K:W.Frag)(c:Str)(names:Yh)(e:Yt->Res Yt):Sp:=λf H Q _=>∃F ds x C d us,Tx F H/\f=.ref x::us/\IsDs K F ds us/\F x=none/\W.nsIn K mainGlobals c=some (some (.ref C))/\H x=some (.ins C d []) /\
 (e ds).need (λes=>∀a b xs,Ext F (qH H x) a b->a x=none->b x=some (.ins C d (names.zip xs))->names.length=xs.length->IsDs K a es xs->Q .non b) (XW K E0 F (qH H x))
def yj (n a:Nat)(g:FA)(ds:Yt):Res Yt:=if ds.length+1=a then g (none::Qw (n-1) ds) else .no
def yS {K:W.Frag}{F H:Hp}{N:Yh}{ds:Yt}{us:Yr}{x:Addr}(s:Tx F H)(h:IsDs K F ds us):
 RS K ⟨F,qH H x,λ_=>none⟩ F H (none::Qw N.length ds) (some (.ref x)::L2.start N us)/\∀(i:Nat) p d,(none::Qw N.length ds:SD)[i]? ≠ some (some (SV.own p d)):=by
 have a:=RS.start (N:=N) s h;have b:∀(i:Nat) p d,(none::Qw N.length ds:SD)[i]? ≠ some (some (SV.own p d)):=λi p d q=>by
  cases i with
  |zero=>cases q
  |succ i =>
   obtain⟨l,_,f,_,c,_⟩:=a.own q;obtain⟨o,g⟩:=c.has
   simp_all
 refine⟨⟨⟨.refl _,s,Nv,λ_ e _=>e⟩,by simp[a.len],λ{i d} q=>?_,λq=>Zn q (b _ _ _),λ_ q _ _=>Zn q (b _ _ _)⟩,b⟩;cases i with
 |zero=>cases q
 |succ i=>exact a.val q
section
variable {P:Program}{w:World}{K:W.Frag}{mg:Yc}{base:Heap}{x qual:Str}{st:Stmt}{f:Addr}{fd:FuncData}{N ps:Yh}{k:Nat}
def kC {c y:Str}{names:Yh}{g:FA}(F:Fun K x qual st f fd)(S:FnScope (y::N) ps (JP st))(j:names.Nodup)(l:names.length<900)
 (m:∀b A a s H E,Room k (A.deeper (envOfC qual (JP st) s.heap.objs.size f b))->qx (jt xa P w K mg base (y::N) qual (JP st) f b A a s H E).nox (Kc st) (tI K c names g)):
 FnOk P w K mg base xa (k+1) f fd ps (n0 K c names (yj (y::N).length ps.length g)):=by
 refine F.ok S (λo H Q E ⟨F,ds,x,C,d,us,_,e,i,_,_,_,n⟩=>?_) λb A a s H o Q E p ⟨F,ds,x,C,d,us,q,e,i,t,u,v,n⟩=>⟨_,m b A a s H E p,?_⟩
 .unfold yj at n
  split at n
  .rename_i h;rw[e,<- h,Zu,i.length]
  .exact n.elim
 .subst e;unfold yj at n
  split at n
  .have es:L2.start (y::N) (.ref x::us)=some (.ref x)::L2.start N us:=by
    unfold L2.start;simp
   rw[es];obtain⟨r,z⟩:=yS q i;exact⟨_,F,_,x,C,d,[],[],[],r,z,rfl,Nw,t,u,v,rfl,j,l,.nil,n⟩
  .exact n.elim
end
def bu (P:Program)(w:World)(K:W.Frag)(b:Yc)(a:Heap)(c:Str)(names:Yh)(k:Nat)(ps:Yh)(e:Yt->Res Yt):Prop:=
 ∃C f d,ClsD K b c C names/\Mk K C f/\FnOk P w K b a xa k f d ps (n0 K c names e)/\y4 K d ps []
def YV (c:Str)(names:Yh)(a:Yt->Res Yt)(b:FA):FE:=λsd=>(b sd).bind λds=>(a ds).bind λes=>.ok (.ins c names es)
section
variable {X:Cx}{pos:Pos}
def Fg (M:bu X.prog X.w X.K X.mg X.base c names k ps Fn)(z:Room (k+1) X.A)(A:Gl X c)(E:QA X E0 (e::es) fa)
 (l:(c == ("__debug__" : Str))=false:=by decide) (I:starEach (e::es) X.env=(false,eval e X.env)::starEach es X.env:=by rfl) (m:(backTo pos (starEach es X.env)).any (·.1)=false:=by rfl):
 QN X E0 (.Call (.Name c p) (e::es) [] pos) (YV c names Fn fa):=by
 obtain⟨C,f,fd,t,mk,F,b⟩:=M;refine PE.weak (BE mk F z A t.mgc b .nil Am E l I m) λZ H Q ⟨B,F,sd,r,n⟩=>⟨B,F,sd,r,(Res.need_bind n).mono (λds J K i j g L x d nx TJ ne=>?_) λ_ _ q=>q⟩;have u:i x=none:=by
  cases q:i x with
  |none=>rfl
  |some o=>rw[g.fh _ _ q] at nx;cases nx
 have v:H x=none:=by
  cases q:H x with
  |none=>rfl
  |some o=>rw[g.hh _ _ q] at nx;cases nx
 have w:∀{G:Hp},Tx G j->Tx G (qH (upd (upd j d (.own x)) x (.ins C d [])) x):=λ{G} s a o q=>by
  have h:=s _ _ q
  rwa [Fc (QP h nx),Jz (QP h nx),Jz (QP h TJ)]
 have N:Tx i (upd (upd j d (.own x)) x (.ins C d [])):=λa o q=>by
  have h:=g.fh _ _ q
  rwa [Jz (QP h nx),Jz (QP h TJ)]
 have y:Ext F H i (qH (upd (upd j d (.own x)) x (.ins C d [])) x):=⟨g.ff,w g.fh,w g.hh,g.new⟩;rw[ZA];exact⟨i,ds,x,C,d,K,N,rfl,L,u,t.ns,JC,(Res.need_bind J).mono (λes O P R xs S T U Y i2=>⟨rfl,O x P R (y.trans S) v T ⟨C,d,xs,t.ns,U,Y,i2⟩⟩) λ_ _ q=>q.ext y⟩
end
def C2 (K:W.Frag)(c a:Str)(fs:Yh)(st:Stmt):Prop:=∃C d b,W.nsIn K mainGlobals c=some (some (.ref C))/\Cls K C/\(∀f∈fs,z4 K C f)/\Mk K C d/\Fun K "__init__" a st d b
def YW (F b:Hp):Prop:=∀a xs,b a=some (.tup xs)->F a=some (.tup xs)
section
variable {K:W.Frag}{B:Bs}{F H F' H':Hp}{sd:SD}{Z: St}
def RS.frz1C (r:RS K B F H sd Z)(y:sd[i]? = some (some (.own p d))):∃F',Tx F F'/\YW F F'/\RS K B F' H (sd.set i (~~~d)) Z:= by
 obtain⟨l,A,G,C,g,_⟩:=r.own y;obtain⟨o,e⟩:=g.has;have I:i<sd.length:=(Jd.mp y).1;have w:Tx F (upd F l o):=KO C o;have J:YW F (upd F l o):=λa xs q=>by
  by_cases z:a=l
  .subst z;rw[JC] at q;obtain rfl:=Zqi q;cases d with
   |lst ds=>obtain⟨_,h,_⟩:=g;rw[e] at h;cases h
   |dct ks ds=>obtain⟨_,h,_⟩:=g;rw[e] at h;cases h
   |ins c fs ds=>obtain⟨_,_,_,_,h,_⟩:=g;rw[e] at h;cases h
   |_=>exact g.elim
  .rw[Jz z] at q;exact q
 refine⟨upd F l o,w,J,⟨r.ext.ff.trans w,λb u q=>?_,r.ext.hh,λa t s=>?_⟩,by rw[UI,r.len],λ{j x} q=>?_,λ{j p x} q=>?_,λ{j k U X Y d2 m} n t s L=>?_⟩
 .by_cases z:b=l
  .subst z;rw[JC] at q;cases q;exact e
  .rw[Jz z] at q;exact r.ext.fh _ _ q
 .have z:a≠l:=λz=>s (by rw[z];exact G);rw[Jz z];exact r.ext.new a t s
 .by_cases z:i=j
  .subst z;obtain⟨f,_⟩:=KD q;cases f;exact⟨_,A,g.frz e C⟩
  .rw[QC z] at q;obtain⟨v,M,N⟩:=r.val q;exact⟨v,M,IsD.same w _ _ N⟩
 .by_cases z:i=j
  .subst z;obtain⟨f,_⟩:=KD q;cases f
  .rw[QC z] at q;obtain⟨m,E,O,P,Q,R⟩:=r.own q;have ne:m≠l:=λe=>r.apart z y q A (by rw[<- e];exact E);exact⟨m,E,O,by rw[Jz ne];exact P,Q.ext w λu q'=>q',R⟩
 .have S:i≠j:=λz=>by subst z;obtain⟨f,_⟩:=KD t;cases f
  have T:i≠k:=λz=>by subst z;obtain⟨f,_⟩:=KD s;cases f
  rw[QC S] at t;rw[QC T] at s;exact r.apart n t s L
theorem RS.frzC:∀(is:Yg) {F:Hp} {sd:SD},RS K B F H sd Z -> ∃F',Tx F F'/\YW F F'/\RS K B F' H (qj is sd) Z
 | [],F,sd,r=>⟨F,.refl _,λ_ _ q=>q,r⟩
 |i::is,F,sd,r=>by
  unfold qj
  split
  .rename_i p d h;obtain⟨m,b,c,e⟩:=r.frz1C h;obtain⟨f,g,j,l⟩:=RS.frzC is e;exact⟨f,b.trans g,λa xs q=>c a xs (j a xs q),l⟩
  .exact RS.frzC is r
def AI:D->Bool
 | .tup ds=>ds.all Ki
 |d=>Ki d
def VQ (F H b:Hp):Hp:=λa=>match H a,b a with
 |none,some (.tup xs)=>some (.tup xs)
 |_,_=>F a
theorem xp:∀{ds:Yt} {xs:Yr},ds.all Ki=true->IsDs K F ds xs->IsDs K F' ds xs
 | [],xs,_,h=>by rw[IsDs.nil_iff] at h ⊢;exact h
 |d::ds,xs,s,h=>by
  obtain⟨x,r,rfl,a,b⟩:=Tv.mp h;rw[Ui,Ub] at s;exact Tv.mpr ⟨x,r,rfl,a.scal s.1,xp s.2 b⟩
def N8 (s:Tx F H)(f:Tx F F1)(e:Ext F1 H F2 H2):Ext F H (VQ F H F2) H2:=by
 refine⟨λa o q=>?_,λa o q=>?_,e.hh,λa b c=>?_⟩
 .unfold VQ;rw[s _ _ q];exact q
 .unfold VQ at q
  split at q
  .rename_i g d;obtain rfl:=Zqi q;exact e.fh _ _ d
  .exact e.hh _ _ (s _ _ q)
 .unfold VQ;cases h:H a with
  |none=>exact Zn h c
  |some o=>exact b
def N9 (s:Tx F H)(j:Tx F F1)(f:YW F F1)(e:Ext F1 H F2 H2)(c:AI d=true)(i:IsD K F2 d v):IsD K (VQ F H F2) d v:=by
 cases d with
 |tup ds =>
  obtain⟨a,xs,rfl,b,g⟩:=Tt.mp i;refine Tt.mpr ⟨a,xs,rfl,?_,xp c g⟩;have b:F2 a=some (.tup xs):=b;show VQ F H F2 a=some (.tup xs);unfold VQ;cases h:H a with
  |none=>rw[b]
  |some o =>
   show F a=some (.tup xs);cases q:F1 a with
   |none=>rw[e.new a q (by rw[h];simp)] at b;exact Jy b
   |some u =>
    have:=e.ff _ _ q;rw[b] at this;obtain rfl:=Zqi this;exact f _ _ q
 |_=>exact i.scal c
theorem Fh (s:Tx F H)(a:Tx F F1)(b:YW F F1)(e:Ext F1 H F2 H2):∀{ds:Yt} {xs:Yr},ds.all AI=true->IsDs K F2 ds xs->IsDs K (VQ F H F2) ds xs
 | [],xs,_,h=>by rw[IsDs.nil_iff] at h ⊢;exact h
 |d::ds,xs,hd,h=>by
  obtain⟨x,r,rfl,c,f⟩:=Tv.mp h;rw[Ui,Ub] at hd;exact Tv.mpr ⟨x,r,rfl,N9 s a b e hd.1 c,Fh s a b e hd.2 f⟩
def C3:D->Bool
 | .lst ds=>ds.all AI
 |_=>false
def YX (is:Yg)(f:FE):FE:=λsd=>(f (qj is sd)).bare.bind λd=>if C3 d then .ok d else .no
def b9 (h:wl K E0 (YX is fe) Z H Q):wl K E0 fe Z H Q:=by
 obtain⟨B,F,sd,r,n⟩:=h;obtain⟨i,e,j,m⟩:=r.frzC is;refine⟨B,i,_,m,(qw r.ext.fh (Res.need_bind n)).mono (λd b l p s f a t u=>?_) λc fs q=>q⟩
 split at b
 .rename_i g;cases d with
  |lst ds =>
   obtain⟨xs,v,w⟩:=u;refine b l (VQ F H p) s (N8 r.ext.fh e f) a ?_ ⟨xs,v,Fh r.ext.fh e j f g w⟩;unfold VQ;rw[a,t];cases q:F l with
   |none=>rfl
   |some o=>rw[r.ext.fh _ _ q] at a;cases a
  |_=>exact JI g
 .exact b.elim
end
section
variable {X:Cx}{m:Option Bool}{tg iter elt c:Expr}{scope:Scope}{pos spos py:Pos}{y:Str}{iy:Nat}{t:Tg}{fi:FA}{fc:FT}{f:FE}
def NA (is:Yg)(N:Yh)(cap:List (Option Nat))(d:X.N.Nodup)(e:X.N[iy]? = some y)(i:xY X.env.scope y)(o:X.calm=true)(j:KC scope X.env N X.N cap=true)(p:QI X E0 tg iter fi)
 (r:∀a C s H b,QG (JO X scope N a C s H b) tg t) (u:∀a C s H b,QT (JO X scope N a C s H b) E0 c fc) (v:∀a C s H b,QE (JO X scope N a C s H b) E0 elt f) (l:swapsWith (.ListComp elt [⟨tg,iter,[c],0⟩] scope pos) (some (.Name y py)) spos.line X.env=pure true:=by rfl)
 (n:X.fn y=true\/X.env.scope.names.lookup y=some .local:=by trivial) (w:∀x,foldedSetIterable iter X.env x=pure x:=by intro _;rfl):
 QS X E0 m (.Assign [.Name y py] (.ListComp elt [⟨tg,iter,[c],0⟩] scope pos) spos) (xg iy (YX is (YP cap fi t fc f))):=by
 have z:=ME (g:=gT t X.K) (tt:=vD X.K E0 fc) (te:=tD X.K E0 f) l d e i n N cap o j p r u v w;exact PS.weak z λT Z H h=>MG (λ_ _ _ q=>M8 (b9 q)) h
end
abbrev FJ:=Str->SD->Res D
def ja:FJ:=λa _=>if a.length<=sizeLine then .ok (.str a) else .no
def TL (x:Str)(r:FJ):FJ:=λa sd=>if(a++x).length<=sizeLine then r (a++x) sd else .no
def j5 (g:D->Option Str)(b:FE)(r:FJ):FJ:=λa sd=>(b sd).bind λd=>match g d with
 |some z=>if z.length<=sizeLine/\(a++z).length<=sizeLine then r (a++z) sd else .no
 |none=>.no
def Q2:D->Option Str
 | .str x=>some (reprText x)
 |_=>none
def Qt:D->Option Str
 | .str x=>some x
 | .int a=>if a.natAbs.log2<1920 then some (Str.ofString (toString a)) else none
 |_=>none
def QJ (X:Cx)(E:XK)(es:Yj)(f:FJ):Prop:=∀(Y:Yb) (s:Shared) (Z: St) (H:Hp) (a:Str) (Q:VK),Inv X Y Z H s->tD X.K E (f a) Z H Q ->
 Joins (model X.prog X.w) X.A X.xe (evalEach es X.env) a (λout b=>out.length<=sizeLine/\EP X Y Z Q (.str out b.toks) { b with toks:=b.toks+1 }) s
section
variable {X:Cx}{E:XK}{es:Yj}{e:Expr}{fe:FE}{r:FJ}{x:Str}{p p1 p2 pos:Pos}{k}
def V1:QJ X E [] ja:=λY s Z H a Q I b=>by
 obtain⟨B,F,sd,r,n⟩:=b;unfold ja at n
 split at n
 .rename_i h;exact⟨h,.str a,H,I.tok _,⟨_,rfl⟩,n _ F H (.refl r.ext.fh) (IsD.str_iff.mpr rfl)⟩
 .exact n.elim
def Kw (b:QJ X E es r):QJ X E (.Constant (.str x) k p1::es) (TL x r):=λY s Z H c Q I d=>by
 obtain⟨B,F,sd,rs,n⟩:=d;unfold TL at n
 split at n
 .rename_i h;show wpAny _ _ (eval (.Constant (.str x) k p1) X.env) _ _ s;refine TQ (D9 Y s Z H (λy a=>y=.str x/\a=H) I ⟨rfl,rfl⟩) λu f ⟨y,a,g,i,j,l⟩=>?_;subst j l;obtain⟨m,rfl⟩:=i;exact⟨x,m,rfl,h,b Y f Z a _ Q g ⟨B,F,sd,rs,n⟩⟩
 .exact n.elim
def YY (m:QE X E e fe)(g:QJ X E es r):QJ X E (.FormattedValue e 114 none p2::es) (j5 Q2 fe r):=λY s Z H a Q I o=>by
 obtain⟨B,F,sd,rs,n⟩:=o;show wpAny _ _ (eval (.FormattedValue e 114 none p2) X.env) _ _ s;refine wpAny_FormattedValue_repr (TQ (m Y s Z H (λy c=>∃z:Str,y=.str z/\(reprText z).length<=sizeLine/\(a++reprText z).length<=sizeLine/\tD X.K E (r (a++reprText z)) Z c Q) I ⟨B,F,sd,rs,(Res.need_bind n).mono (λd b y t c f v=>?_) λ_ _ q=>q⟩) λu A ⟨y,c,i,w,z,f,j,l,q⟩=>?_)
 .cases d with
  |str z =>
   have b:(if(reprText z).length<=sizeLine/\(a++reprText z).length<=sizeLine then r (a++reprText z) sd else .no).need (xu X.K F H Q) (XW X.K E F H):=b
   split at b
   .rename_i h;exact⟨z,IsD.str_iff.mp v,h.1,h.2,B,t,sd,rs.step f,b.mono (λd q=>q.ext f) λ_ _ q=>q.ext f⟩
   .exact b.elim
  |_=>exact b.elim
 .subst f;obtain⟨C,rfl⟩:=w;refine wpAny_pyReprObj_str (wpAny_formatField_str ⟨_,_,rfl,l,?_⟩ ⟨_,_,rfl,l,?_⟩ j) j
  .exact g Y _ Z c _ Q (i.tok _) q
  .exact g Y _ Z c _ Q ((i.tok _).tok _) q
def VR (w:QE X E e fe)(j:QJ X E es r):QJ X E (.FormattedValue e (-1) none p2::es) (j5 Qt fe r):=λY s Z H b Q I A=>by
 obtain⟨B,F,sd,rs,n⟩:=A;show wpAny _ _ (eval (.FormattedValue e (-1) none p2) X.env) _ _ s;refine wpAny_FormattedValue_plain (TQ (w Y s Z H (λy i=>∃z:Str,(y=.str z\/∃a:Int,y=.int a/\a.natAbs.log2<1920/\z=Str.ofString (toString a))/\z.length<=sizeLine/\(b++z).length<=sizeLine/\tD X.K E (r (b++z)) Z i Q) I ⟨B,F,sd,rs,(Res.need_bind n).mono (λd f y C i c t=>?_) λ_ _ q=>q⟩) λu L ⟨y,i,l,v,z,c,G,m,q⟩=>?_)
 .have o:∃z,Qt d=some z:=by
   cases h:Qt d with
   |none=>rw[h] at f;exact f.elim
   |some z=>exact⟨z,rfl⟩
  obtain⟨z,g⟩:=o;rw[g] at f;have f:(if z.length<=sizeLine/\(b++z).length<=sizeLine then r (b++z) sd else .no).need (xu X.K F H Q) (XW X.K E F H):=f
  split at f
  .rename_i h;refine⟨z,?_,h.1,h.2,B,C,sd,rs.step c,f.mono (λd q=>q.ext c) λ_ _ q=>q.ext c⟩;unfold Qt at g
   split at g
   .cases g;exact .inl (IsD.str_iff.mp t)
   .split at g
    .rename_i J;obtain rfl:=Zqi g;exact .inr ⟨_,Tr.mp t,J,rfl⟩
    .exact Jy g
   .exact Jy g
  .exact f.elim
 .rcases c with c|⟨a,c,ha,rfl⟩
  .subst c;obtain⟨K,rfl⟩:=v;refine wpAny_formatField_str ⟨_,_,rfl,m,?_⟩ ⟨_,_,rfl,m,?_⟩ G
   .exact j Y _ Z i _ Q l q
   .exact j Y _ Z i _ Q (l.tok _) q
  .subst c;obtain⟨K,rfl⟩:=v;refine wpAny_formatField_int ha ⟨_,_,rfl,m,?_⟩;exact j Y _ Z i _ Q (l.tok _) q
def V2 (h:QJ X E (a::b::es) f):QE X E (.JoinedStr (a::b::es) pos) (f Str.empty):=λY s Z H Q I q=>wpAny_JoinedStr (h Y s Z H Str.empty Q I q)
end
end L2.DL
namespace L2
open PySem
def JK (a:h.kind=.function:=by rfl)(b:h.isCoroutine=false:=by rfl)(c:h.isGenerator=false:=by rfl)(d:N.Nodup:=by decide +kernel)(e:N.take P.length=P:=by rfl)
 (f:∀x∈P,h.names.lookup x=some .local\/h.names.lookup x=some .cell:=by decide +kernel) (g:∀y∈h.names,y.2 ≠ .free:=by decide +kernel):FnScope N P h:=⟨a,b,c,d,e,f,g⟩
def qT (i:Nat)(a:X.N.Nodup)(b:X.N[i]? = some x:=by rfl)(hx:xY X.env.scope x:=by trivial)(c:X.fn x=true\/X.env.scope.names.lookup x=some .local:=by trivial):PG X (.Name x pos) (VB i):=Qn a b hx c
section
variable {p:Yd->Prop}
def nc (h:∀a,p [a]):∀us:Yd,us.length=1->p us:=λus e=>by
 obtain⟨a,rfl⟩:=List.length_eq_one_iff.mp e;exact h a
def wY (h:∀a b,p [a,b]):∀us:Yd,us.length=2->p us:=λus e=>by
 cases us with
 |nil=>simp_all
 |cons a us=>exact nc (p:=λus=>p (a::us)) (λb=>h a b) us (UJ e)
def mZ (h:∀a b c,p [a,b,c]):∀us:Yd,us.length=3->p us:=λus e=>by
 cases us with
 |nil=>simp_all
 |cons a us=>exact wY (p:=λus=>p (a::us)) (λb c=>h a b c) us (UJ e)
def b5 (h:∀a b c d,p [a,b,c,d]):∀us:Yd,us.length=4->p us:=λus e=>by
 cases us with
 |nil=>simp_all
 |cons a us=>exact mZ (p:=λus=>p (a::us)) () us (UJ e)
def nP (h:∀a b c d e,p [a,b,c,d,e]):∀us:Yd,us.length=5->p us:=λus e=>by
 cases us with
 |nil=>simp_all
 |cons a us=>exact b5 (p:=λus=>p (a::us)) () us (UJ e)
end
end L2
namespace L2.DL
section
variable {X:Cx}{E:XK}{o e:Expr}{fo fa:FE}{apos cpos:Pos}
def Xj (fo a:FE):FE:=λsd=>(fo sd).bind λd=>match d with
 | .dct ks ds=>(a sd).bind λk=>.ofO ((Qg k).map λq=>(jk ks ds q).getD .non)
 |_=>.no
@[simp]def ba (fo a:FE)(sd:SD):Xj fo a sd=(fo sd).bind λd=>(Cp d).bind λo=>(a sd).bind λk=>.ofO ((Qg k).map λq=>(jk o.1 o.2 q).getD .non):=by
 unfold Xj;cases fo sd with
 |ok d=>cases d<;>rfl
 |ex c fs=>rfl
 |no=>rfl
def NB (m:X.A.units+1<cLine)(s:QE X E o fo)(t:QE X E e fa)(u:M1 X o "get" apos e cpos):QE X E (.Call (.Attribute o "get" apos) [e] [] cpos) (Xj fo fa):=PE.weak (LD m s t u) λZ H Q x=>by
 obtain⟨B,F,sd,r,n⟩:=x;refine⟨B,F,sd,r,(Res.need_bind n).mono (λd h v A R a i=>?_) λ_ _ q=>q⟩;cases d with
 |dct ks ds =>
  rw[TX] at i;obtain⟨p,xs,rfl,C,G,I⟩:=i;have hp:=a.fh _ _ C;refine⟨p,rfl,.inl ⟨_,.inl hp⟩,B,A,sd,r.step a,(Res.need_bind h).mono (λk J w j l b K=>?_) λ_ _ q=>q.ext a⟩;obtain⟨z,f,q⟩:=Tu J;obtain⟨g,L,f⟩:=Jg.mp f;subst f;obtain⟨M,N⟩:=YM g G I;refine⟨j3 (ks.zip xs) g,?_,?_⟩
  .rw[XB L K];exact qN.k (b.hh _ _ hp)
  .cases c:jk ks ds g with
   |none =>
    rw[c] at q;rw[N c];exact q _ j l (a.trans b) (TH.mpr rfl)
   |some d =>
    rw[c] at q;obtain⟨y,O,P⟩:=M d c;rw[O];exact q _ j l (a.trans b) (IsD.same b.ff _ _ P)
 |_=>exact h.elim
end
end L2.DL
namespace L2.ST
def zc (k:TM)(D:List TM):Bool:=D.any λx=>decide (x=k)
def inK_iff:zc k D=true↔k∈D:=by
 unfold zc;rw[List.any_eq_true];exact⟨λ⟨x,hx,e⟩=>by rw[<- of_decide_eq_true e];exact hx,λh=>⟨k,h,Zp rfl⟩⟩
def stepK (D:List TM)(k:TM):List TM:=if zc k D=true then D else D++[k]
def dedL (ks:List TM):List TM:=ks.foldl stepK []
def NC (ks:List TM)(k:TM):dedL (ks++[k])=stepK (dedL ks) k:=by
 unfold dedL;rw[Vl];rfl
def YZ (D:List TM)(k:TM):(stepK D k).length=if zc k D then D.length else D.length+1:=by
 unfold stepK;cases h:zc k D
 .rw[Ze (),Ze (),Ua];rfl
 .rw[Zd rfl,Zd rfl]
def ND (D:List TM)(k a:TM):zc a (stepK D k)=(zc a D||decide (a=k)):=by
 unfold stepK;by_cases h:zc k D=true
 .rw[Zd h];by_cases e:a=k
  .rw[e,h];rfl
  .rw[Zo e,Bool.or_false]
 .rw[Ze h,U2,Ut,inK_iff,inK_iff,decide_eq_true_eq,List.mem_append,List.mem_singleton]
theorem Fi:∀(ks D:List TM),(ks.foldl stepK D).length<=D.length+ks.length
 | [],D=>Zf _
 |k::ks,D=>by
  have h:=Fi ks (stepK D k);rw[YZ] at h;rw[U5,Zu]
  split at h<;>lia
def Fj (ks:List TM):(dedL ks).length<=ks.length:=by
 have:=Fi ks [];rw[ZC,U6] at this;exact this
theorem Fk:∀(ks D:List TM),(D++ks).Nodup->ks.foldl stepK D=D++ks
 | [],D,_=>(ZA _).symm
 |k::ks,D,h=>by
  have a:k∉D:=λz=>by
   rw[List.nodup_append] at h;exact h.2.2 k z k Zqs rfl
  have e:stepK D k=D++[k]:=Ze λz=>a (inK_iff.mp z);rw[U5,e,Fk ks (D++[k]) (by rw[Uo];exact h),Uo];rfl
def dedL_nodup (h:ks.Nodup):dedL ks=ks:=Fk ks [] h
def NE (h:VA k v=true):v.scannable=true:=by
 rcases Vz h with ⟨i,t,rfl,rfl⟩|⟨x,t,rfl,rfl⟩<;>rfl
abbrev xi (prog:Program)(w:World)(h:Heap)(S:Addr)(D:List TM):Prop:=h.SetOf (Qy prog w) S (λk=>zc k D) D.length
def yx (H:h.SetOf (Qy prog w) S T n)(e:∀k,T k=zc k D)(a:n=D.length):xi prog w h S D:=by
 have:T=λk=>zc k D:=funext e;subst this;subst a;exact H
section
variable {prog:Program}{w:World}{A:Around}{R:Result->Yq}{I:Addr}{fp wr:Yi}{G:Array GenState->Array GenState->Prop}{n:Nat}{P:Nat->Value->Prop}{St:Nat->Yq}
def xi.keep (H:xi prog w hp S D)(k:∀o,hp.get? S=some o->hp'.get? S=some o):xi prog w hp' S D:=by
 obtain⟨o,es,a,t,b,r⟩:=H;exact⟨o,es,a,t,k _ b,r⟩
def NF (W:WalksS prog w A.in1 I fp wr G ks.length P St)(S:Addr)(f:S∉fp)
 (g:∀i v k,P i v->ks[i]? = some k->VA k v=true) (Q:ks.length<=999):
 ∀(k i:Nat) (s:Shared),ks.length-i=k->i<=ks.length->St i s->xi prog w s.heap S (dedL (ks.take i)) ->
  (∀s',Moved (S::wr) G s s'->xi prog w s'.heap S (dedL ks)->R (.ok (.ret .none)) s') ->
  codeAny (model prog w) A (.builtin "set.update.loop" ⟨[.ref S,.ref I],[]⟩) R s:=by
 have j:S∉wr:=λh=>f (W.sub _ h);have a:∀b∈wr,b∈S::wr:=λb l=>Zqm _ l;intro k
 induction k with
 |zero =>
  intro i s C E c H u;have x:i=ks.length:=()
  subst x;rw[Uu] at H;refine codeAny_builtin F.entry_set_update_loop ?_;rw[Around.under_plainId F.plain_set_update_loop _];show wpAny _ A.in1 (pyNext (.ref I) >>= _) _ _ s;refine Za (W.done s _ _ c λs' m=>?_);show wpAny _ A.in1 (ret Value.none) _ _ s';exact Zb (u s' (m.mono a) (H.keep λo e=>m.heap S _ j e))
 |succ k J =>
  intro i s C E c H u;have d:i<ks.length:=()
  have p:ks[i]? = some ks[i]:=Zqg d;refine codeAny_builtin F.entry_set_update_loop ?_;rw[Around.under_plainId F.plain_set_update_loop _];show wpAny _ A.in1 (pyNext (.ref I) >>= _) _ _ s;refine Za (W.item i s _ _ d c λv s' K q m=>?_);have y:=g i v _ K p;have L:=H.keep (hp':=s'.heap) λo e=>m.heap S _ j e;show wpAny _ A.in1 (holding [v] (setAdd S v) >>= _) _ _ s';refine Za (wpAny_holding ?_);unfold setAdd;refine wpAny_holding ?_;refine Za ((Qy prog w).pyHash (k:=ks[i]) y ?_);have T:=Fj (ks.take i);have U:(ks.take i).length=i:=by rw[Uk];lia
  refine wpAny_setAddHashed_of (knd:=Qy prog w) (s:={ s' with toks:=s'.toks+1 }) y (NE y) L (by unfold scanBound;lia) λh' r M=>?_;have N:dedL (ks.take (i+1))=stepK (dedL (ks.take i)) ks[i]:=by
   rw[Us,p];exact NC _ _
  have O:xi prog w h' S (dedL (ks.take (i+1))):=by
   rw[N];exact yx M (λX=>(ND _ _ _).symm) (YZ _ _).symm
  refine Zb ⟨plainId_quiet F.plain_set_update_loop _,J (i+1) _ () d (W.frame _ s' _ _ q (UT _) λb l o e=>?_) O λz t B=>?_⟩
  .rw[r.2 b (λh:b=S=>f (by rw[<- h];exact l))];exact e
  .refine u z (Moved.trans W.gtrans ((m.mono a).then_heap (UT _) λb o l e=>?_) t) B;rw[r.2 b (λh:b=S=>l (by rw[h];exact Zqs))];exact e
end
section
variable {prog:Program}{w:World}{A:Around}{E:Ya}{s:Shared}
def NG (a:hp.get? S=some { cls:=.type "set",dict:=none,data:=.set #[] 0 (.fresh 0 0 led) }):xi prog w hp S []:=
 ⟨_,#[],0,_,a,⟨rfl,rfl,rfl⟩,rfl,λe b=>by simp at b,λk=>by simp[zc],(by unfold scanBound;decide),rfl,rfl⟩
set_option maxRecDepth 100000 in
set_option maxHeartbeats 3200000 in
def NH (hh:A.handled=none)(hl:s.heap.IsList l items)(hsz:items.size=ks.length)
 (m:∀(i:Nat) (v:Value) (k:TM),items[i]? = some v->ks[i]? = some k->VA k v=true) (hn:ks.length<=999)
 (h:∀(h':Heap) (tk:Nat),xi prog w h' s.heap.objs.size (dedL ks)->(∀b o,b<s.heap.objs.size->s.heap.get? b=some o->h'.get? b=some o)->Q (.ref s.heap.objs.size) { s with heap:=h',toks:=tk }):
 Yw prog w A (call (.type "set") [.ref l]) Q E s:=by
 have O:=λA:Around=>Nl (prog:=prog) (w:=w) (A:=A) (E:=E) (s:=s) (.ref l) (Q₁:=λobj s₁=>obj=.ref s.heap.objs.size/\s₁={ s with heap:=s.heap.push { cls:=.type "set",dict:=none,data:=.set #[] 0 (.fresh 0 0 (wD w)) } }) ⟨rfl,rfl⟩;generalize wD w=led at O;obtain⟨c,tl,P⟩:=F.called_set.mro;have B:=F.called_set.made;have S:=F.called_set.sub;refine wpAny_call (codeAny_of_tree ?_);show wpAny _ _ (callAny (.type "set") _) _ _ _;refine Zb ⟨Code.quiet_builtin _ (by decide +kernel),codeAny_builtin F.entry_type_call ?_⟩;rw[Around.under_plain (weight_type_call_type "set" [.ref l] []) rfl];have h1:=F.called_set.notType;have h2:=F.called_set.canCreate;have hct:=F.typeCall_set_1 (.ref l)
 repeat (any_goals (first|assumption|wp_step))
 refine codeAny_mono (O _) λr s₁ f=>?_;cases r with
 |error e=>exact f
 |ok C =>
  cases C with
  |ret obj =>
   obtain⟨rfl,rfl⟩:=f;generalize a:({ cls:=.type "set",dict:=none,data:=.set #[] 0 (.fresh 0 0 led) }:Obj)=no at *;have T:(s.heap.push no).get? s.heap.objs.size=some no:=Zr _ (by rw[<- a];rfl);have hT:Shared.TypeIs { s with heap:=s.heap.push no } (.ref s.heap.objs.size) "set" := ⟨_,T,by rw[<- a]⟩;have hli:=F.called_set.init.lookup;have hbi:=F.called_set.init.bind (.ref s.heap.objs.size)
   repeat (any_goals (first|assumption|wp_step))
   refine codeAny_mono (codeAny_call_builtin (R:=wants (λr s₂=>r=.none/\∃h' tk,s₂={ s with heap:=h',toks:=tk }/\xi prog w h' s.heap.objs.size (dedL ks) /\
    (∀b o,b<s.heap.objs.size->s.heap.get? b=some o->h'.get? b=some o)) E) F.called_set.init.plain F.entry_set_init (check_set_init_1 hT ?_)) λr₂ s₂ hr₂=>?_
   .obtain⟨ol,n,p,U,q⟩:=hl;obtain⟨X,g,G,d⟩:=ol;simp only at p q;subst p;subst q;have t:(s.heap.push no).get? l=some { cls:=.type "list",dict:=g,data:=.seq items U,slots:=d }:=Zq _ n;have Y:=F.sub_list_set;have Z:=F.sub_list_frozenset;have hne:(Value.type "list" == Value.type "dict")=false:=by decide
    have u:(s.heap.push no).IsList l items:=⟨_,t,rfl,U,rfl⟩;subst a;unfold Builtin.«set.__init__» noKeywords Builtin.Frozenset.updateFrom;generalize H:pyIter=PI
    wp_walk
    subst H;refine wpAny_pyIter_list u ?_;refine Za (wpAny_runValue ?_);have x:l<s.heap.objs.size:=Zk n;have I:A.in1.in1.in1.handled=none:=by simp[hh]
    generalize a:({ cls:=.type "set",dict:=none,data:=.set #[] 0 (.fresh 0 0 led) }:Obj)=no at *;have j:(s.heap.push no).objs.size=s.heap.objs.size+1:=Heap.size_push ..;have y:l≠(s.heap.push no).objs.size:=by rw[j];exact Zi (Nat.lt_succ_of_lt x)
    have J:s.heap.objs.size ∉ [(s.heap.push no).objs.size,l]:=by
     simp only[UB,UE,or_false,not_or];exact⟨by rw[j];exact Zi (Nat.lt_succ_self _),US x⟩
    have W:=(Walks.list (prog:=prog) (w:=w) I _ l y items).toS;rw[hsz] at W;refine NF W s.heap.objs.size J (λi v k hv hk=>m i v k hv hk) hn (ks.length-0) 0 _ rfl (Ug _)
     ⟨⟨_,Zr _ rfl,rfl,rfl⟩,(u.push _)⟩ (NG (by rw[a];exact Zq _ T)) λs' z H'=>?_
    .obtain⟨h',g',d',K,L⟩:=s';have eg:g'=s.gens:=z.gens;have ed:d'=s.drawn:=z.drawn;have eo:L=s.os:=z.os;subst eg;subst ed;subst eo;show wpAny _ _ _ _ _ _;refine Zb ?_;show wpAny _ _ (ret Value.none) _ _ _;refine Zb ⟨rfl,h',K,rfl,H',λb o hb e=>?_⟩;exact z.heap b o (by simp only[UB,UE,or_false,not_or];exact⟨Zi hb,by rw[j];exact Zi (Nat.lt_succ_of_lt hb)⟩) (Zq _ (Zq _ e))
   .cases r₂ with
    |error e=>exact hr₂
    |ok fl₂ =>
     cases fl₂ with
     |ret r =>
      obtain⟨rfl,h',tk,rfl,M,N⟩:=hr₂
      repeat (any_goals (first|assumption|wp_step))
      exact h _ _ M N
     |_=>exact hr₂.elim
  |_=>exact f.elim
end
def AJ (X:Cx)(S:Addr)(n:Nat):HO:=.ext λh=>∃T,h.SetOf (Qy X.prog X.w) S T n
def Fl (X:Cx):Yr->Hp->VK->Prop:=λxs H Q=>∃a ks,xs=[.ref a]/\Rd H a (.lst (ks.map kV))/\ks.length<=999/\∀S,H S=none->Q (.ref S) (upd H S (AJ X S (dedL ks).length))
def Fm (X:Cx):Yr->Hp->VK->Prop:=λxs H Q=>∃S n,xs=[.ref S]/\H S=some (AJ X S n)/\n<=999/\Q (.int n) H
section
variable {X:Cx}
def call_setK (m:X.calm=true):jH X (.type "set") (Fl X):=by
 intro Y s Z H xs us Q I n h;obtain⟨a,ks,rfl,p,y,q⟩:=h;obtain⟨u,rfl,A⟩:=Ku n;obtain rfl:u=Value.ref a:=A;obtain⟨B,f,pl,J⟩:=I.list (.inl p);have C:=f.length;rw[Zql] at C;refine NH (I.ok.hd m) pl.isList (ks:=ks) (by rw[Zm];lia) (λi v k g E=>?_) y λh' tk j kk=>?_
 .obtain⟨K,c,F⟩:=f.get (i:=i) (x:=kV k) (by rw[Zv,E];rfl);rw[List.getElem?_toArray,c] at g;obtain rfl:=Zqi g;exact Wt (P:=X.prog) (w:=X.w) F
 .refine⟨.ref s.heap.objs.size,upd H s.heap.objs.size (AJ X s.heap.objs.size (dedL ks).length),I.laid (t':=tk) (λb o e=>kk b o (Zk e) e) (Zf _) ?_,rfl,q _ (I.hok.fresh (Zf _))⟩;obtain⟨o,es,l,t,d,r⟩:=id j;refine⟨⟨_,j⟩,⟨_,d⟩,λL M z G=>?_⟩;obtain⟨T,o,es,l,t,d,r⟩:=z;exact⟨T,o,es,l,t,G _ d,r⟩
def call_lenK:jH X (.builtin "len") (Fm X):=by
 intro Y s Z H xs us Q I b h;obtain⟨S,n,rfl,c,j,q⟩:=h;obtain⟨u,rfl,d⟩:=Ku b;obtain rfl:u=Value.ref S:=d;obtain⟨⟨T,o,es,l,t,e,a,f,_,_,m,g,i⟩,_,_⟩:=(show xj X.prog X.w H s.heap S (AJ X S n) from I.hok S _ c);exact call_len_set e a f g () ⟨.int n,H,I.tok _,⟨_,by rw[i]⟩,q⟩
end
end L2.ST
namespace L2.DL
open PySem PySem.Spec PyProof.Rows L2.ST
def Z1:Yt->Yu
 | [.lst ds]=>(Ke Qg ds).bind λks=>if ks.length<=999 then some (.int (dedL ks).length) else none
 |_=>none
theorem Fo {K:W.Frag}{F:Hp}:∀{ds:Yt} {ks:List TM} {a:Yr},Ke Qg ds=some ks->IsDs K F ds a->a=ks.map kV
 | [],ks,a,h,i=>by
  rw[IsDs.nil_iff] at i;obtain rfl:=Zqi h;exact i
 |d::ds,ks,a,h,i=>by
  rw[Tv] at i;obtain⟨x,r,rfl,b,c⟩:=i;obtain⟨k,e,h⟩:=Jh.mp (show(Qg d).bind (λx=>(Ke Qg ds).map λxs=>x::xs)=some ks from h);obtain⟨l,f,rfl⟩:=Jg.mp h;rw[XB e b,Fo f c];rfl
section
variable {X:Cx}{E:XK}{fr:FA}{es:Yj}{e:Expr}
def NI (h:∀{d:TA},PA X es d->PE X e (f9 (Fm X) (DY (f9 (Fl X) d) v6)))(f:QA X E es fr):QE X E e (T3 Z1 fr):=PE.weak (h f) λZ H Q g=>by
 obtain⟨B,F,sd,r,n⟩:=g;refine⟨B,F,sd,r,(Res.need_bind n).mono (λds i u j w c l=>?_) λ_ _ q=>q⟩;obtain⟨z,b,q⟩:=Tu i;unfold Z1 at b
 split at b
 .obtain⟨ks,m,b⟩:=Jh.mp b
  split at b
  .rename_i o;obtain rfl:=Zqi b;obtain⟨v,rfl,h⟩:=QQ l;rw[Tw] at h;obtain⟨a,x,rfl,p,s⟩:=h;obtain rfl:=Fo m s;have y:=Fj ks;refine⟨a,ks,rfl,p.same c.fh,o,λS t=>⟨S,_,rfl,JC,(),?_⟩⟩;exact q _ j _ (c.trans (.keep c.fh t _)) (Tr.mpr rfl)
  .exact Jy b
 .exact Jy b
end
end L2.DL
namespace L2
section
variable {X:Cx}{Y:Yb}{Z: St}{H:Hp}{s:Shared}
def Inv.freeze (I:Inv X Y Z H s)(h:H d=some (.dK kvs))(a:s.heap.get? d=some o):Inv X Y Z (upd H d (.frz o (.dK kvs))) s:=by
 refine I.step (h':=s.heap) (g':=s.gens) (d':=s.drawn) (t':=s.toks) (ch:=[]) (λb f=>nomatch f) (λb o _ _ _ e _=>e) (λb o _ _ _ e _=>⟨o.slots,e⟩) (λb o _ _ n=>?_) (λb o _ e=>⟨o,e⟩) (λb xs e=>?_) (λb o u e=>?_) (λb ps e=>⟨#[],?_⟩) (λm g=>g) (λb u e=>?_) I.bare
 .rw[Jz λz=>by rw[z,h] at n;cases n];exact n
 .rw[Jz λz=>by rw[z,h] at e;cases e];exact e
 .rw[Jz λz=>by rw[z,h] at e;cases e];exact e
 .rw[Jz (λz=>by rw[z,h] at e;cases e),e];simp
 .by_cases nb:b=d
  .subst nb;rw[JC] at e;obtain rfl:=Zqi e;exact⟨a,(I.hok b _ h).stay (λ_ _ _ q=>q) (λc q=>by rw[Jz λz=>by rw[z,h] at q;cases q];exact q) λc xs q=>by rw[Jz λz=>by rw[z,h] at q;cases q];exact q⟩
  .rw[Jz nb] at e;exact(I.hok b u e).stay (λ_ _ _ q=>q) (λc q=>by rw[Jz λz=>by rw[z,h] at q;cases q];exact q) λc xs q=>by rw[Jz λz=>by rw[z,h] at q;cases q];exact q
end
def mV (d:Addr)(o:Obj)(a:List (TM×V)):It:=
 ⟨λi H=>H d=some (.frz o (.dK a))/\i<a.length,
  λi H v b=>∃T k x,v=.ref T/\H T=none/\b=upd H T (.tup [kV k,x])/\a[i]? = some (k,x),
  λi H=>H d=some (.frz o (.dK a))/\a.length<=i⟩
def NJ (it d:Addr)(n a i:Nat)(h:Heap):Prop:=∃ok b,IsItemIter h it d i n a ok b
theorem KV.at {κ: Type}:∀{d:List (κ × V)} {f:List (κ × Value)} {i:Nat} {a:κ × V},KV d f->d[i]? = some a->∃v,f[i]? = some (a.1,v)/\TC a.2 v:=by
 intro d f i a b;unfold KV at b
 induction b generalizing i with
 |nil=>intro e;simp at e
 | @cons p q _ _ g tt h =>
  cases i with
  |zero =>
   intro c;simp at c;subst c;exact⟨q.2,by rw[g.1];rfl,g.2⟩
  |succ i =>
   intro c;obtain⟨v,j,l⟩:=h (by simpa using c);exact⟨v,by simpa using j,l⟩
def uR (h:VA k v=true):TC (kV k) v:=by
 rcases Vz h with ⟨i,t,rfl,rfl⟩|⟨x,t,rfl,rfl⟩
 .exact⟨t,rfl⟩
 .exact⟨t,rfl⟩
def Fp (c:∀es a,o.data=.dict es a->a=ep)(I:Inv X Y Z H s)(h:H d=some (.frz o (.dK kvs))):
 ∃b,KV kvs b/\s.heap.DictAt (Qy X.prog X.w) d b ep:=by
 obtain⟨f,_,_,b,e,l,es,a,g,j,i,r⟩:=(show xj X.prog X.w H s.heap d (.frz o (.dK kvs)) from I.hok d _ h);rw[f] at g;obtain rfl:=Zqi g;have:=c es a i;subst this;exact⟨b,e,o,es,f,j,i,r⟩
def NK:entryFor table "dict_itemiterator.__iter__" = some Builtin.«dict_keyiterator.__iter__» :=
 entryFor_alias (id':= "dict_keyiterator.__iter__") (by kernel_rfl) (by first|rfl|decide +kernel) (by decide +kernel) (by kernel_rfl)
def NL {P:Program}{w:World}{K:W.Frag}{j:Yj}{kx}{x:Pos}(d it:Addr)(o:Obj)(e:List (TM×V))(O:Nat)(l:∀es m,o.data=.dict es m->m=O):Turn P w K (.Tuple j kx x) (mV d o e) [it] it (NJ it d e.length O) where
 mem:=by simp
 obj:=λi h st c a=>by
  obtain⟨ok,n,b⟩:=st;rw[Jc.mp a];exact⟨_,b,λv q=>by cases q⟩
 keep:=λi h h' st kk=>by
  obtain⟨ok,n,b⟩:=st;exact⟨ok,n,kk it () _ b⟩
 item:=by
  intro X y hw B a i Y s Z H E I r st C;subst y hw B;obtain⟨F,G⟩:=C;obtain⟨J,f,g⟩:=Fp l I F;obtain⟨ok,n,b⟩:=st;have t:e.length=J.length:=f.length;rw[t] at b;obtain⟨v,S,T⟩:=KV.at f (Zqg G);refine wpAny_pyNext_items_item b g S λL h' p M U hz kk=>?_;refine⟨_,rfl,wpAny_letOwnedTupleGo_items (s:={ s with heap:=h' }) M λR b1 u=>?_⟩;have u:Heap.SameBut it h' R:=u;have lt:it≠s.heap.objs.size:=Zi (Zk b);have I2:=I.paired (t':=s.toks) (h':=R) (ch:=[it]) (uR p) T r (λc a=>by rw[Jc.mp a];exact lt) (u.extBut _ _ (Ne.symm lt) U) (λc o a q=>by
   have a:c≠it:=λz=>a (by simp[z]);exact u.extBut c o a (kk c o a q))
  refine⟨.ref s.heap.objs.size,_,I2,rfl,⟨_,_,_,rfl,I.hok.fresh (Zf _),rfl,Zqg G⟩,⟨L,v,by rw[t];exact b1⟩,λc a=>?_⟩;rw[Jc.mp a];exact(Jz lt).trans (r it ()).1
 done:=by
  intro X y hw B a i Y s Z H E I r st C;subst y hw B;obtain⟨F,G⟩:=C;obtain⟨J,f,g⟩:=Fp l I F;obtain⟨ok,n,b⟩:=st;have t:e.length=J.length:=f.length;rw[t] at b;refine wpAny_pyNext_items_end (I.ok.hd a) b g (Vm ()) λh' eb=>⟨rfl,I.turnedL (t':=s.toks) (ch:=[it]) (λc o a q=>?_) λc a=>r c a⟩;exact eb c o (λz=>a (by simp[z])) q
 self:=λA i s Q E st h=>by
  obtain⟨ok,n,b⟩:=st;have N:s.TypeIs (.ref it) "dict_itemiterator" := ⟨_,b,rfl⟩;refine wpAny_pyIter_slot N PySem.F.slot_dict_itemiterator_iter (wpAny_call_entry PySem.F.slot_dict_itemiterator_iter N NK ?_ (PySem.F.args_dict_itemiterator_iter_1 _));show wpAny _ _ (ret (.ref it)) _ _ s;exact Zb ⟨_,rfl, "dict_itemiterator",_,N,PySem.F.slot_dict_itemiterator_next.lookup,h⟩
section
variable {X:Cx}
def vP:V->Yr->Hp->VK->Prop:=λx b H Q=>∃d a,x=.ref d/\b=[]/\H d=some (.dK a)/\∀p,H p=none->Q (.ref p) (upd H p (YG p d))
def NM (R:It->Hp->Prop):VK:=λx b=>∃p d a,x=.ref p/\b p=some (YG p d)/\b d=some (.dK a)/\∀o,R (mV d o a) (upd b d (.frz o (.dK a)))
def NN (K:W.Frag)(te:TE):TI:=λZ H R=>vG K "dict" vP te Z H (NM R)
def NO {e:Expr}{te:TE}{a f:Pos}{m:Yj}{kx}{F:Pos}(G:PE X e te)
 (g:attributeBase e "items" X.env (eval e X.env)=eval e X.env:=by rfl) (i:(a.endLine == f.line)=true:=by rfl):
 PI X (.Tuple m kx F) (.Call (.Attribute e "items" a) [] [] f) (NN X.K te):=by
 intro Y s Z H R I h;refine TQ (Ls PySem.F.plainAttrs_dict PySem.F.slot_dict_items PySem.F.type_dict_items Ma G g i Y s Z H _ I h) λu l ⟨x,Q,t,J,p,d,n,K,hp,r,q⟩=>?_;subst K;obtain rfl:u=Value.ref p:=J;obtain⟨j,_,_⟩:=(show xj X.prog X.w _ l.heap p (YG p d) from t.hok p _ hp);obtain⟨_,_,A,v,o,es,B,C,L,E,dr⟩:=Ak t.hok r;have w:l.heap.DictAt (Qy X.prog X.w) d A B:=⟨o,es,C,L,E,dr⟩;have M:n.length=A.length:=v.length;have y:=t.freeze r C;refine wpAny_pyIter_items j w ?_;refine⟨l.heap.objs.size,[l.heap.objs.size],_,_,_,rfl,y.kept (t':=l.toks) (λb o e=>Zq _ e),NL d l.heap.objs.size o n B (λN O z=>by rw[E] at z;cases z;rfl),⟨_,_,by rw[M];exact Zr _ rfl⟩,λc P=>?_,q o⟩;rw[Jc.mp P];exact y.fpOk (Zf _) (y.hok.fresh (Zf _))
end
end L2
namespace L2.DL
def wE:TM->D
 | .inl i=>.int i
 | .inr x=>.str x
def Xk (ks:List TM)(ds:Yt):Yt:=List.zipWith (λk x=>D.tup [wE k,x]) ks ds
def Z3:D->Res Yt
 | .dct ks ds=>.ok (Xk ks ds)
 |_=>.no
def mi (f:FE):FA:=λsd=>(f sd).bind Z3
@[simp]def mC (f:FE)(sd:SD):mi f sd=(f sd).bind Z3:=rfl
def NP (K:W.Frag)(F:Hp)(k:TM):IsD K F (wE k) (kV k):=by
 cases k with
 |inl i=>exact Tr.mpr rfl
 |inr x=>exact IsD.str_iff.mpr rfl
def NQ {K:W.Frag}{c:Hp}{d:Addr}{o:Obj}{ks:List TM}{ds:Yt}{xs:Yr}(h:c d=some (.frz o (.dK (ks.zip xs))))(t:ks.length=xs.length)(e:IsDs K c ds xs):xO K c (mV d o (ks.zip xs)) (Xk ks ds):=λi u w f g=>by
 have j:=g _ _ (f _ _ h);have y:=e.length;have z:(ks.zip xs).length=ks.length:=by rw[UV];lia
 have n:(Xk ks ds).length=ks.length:=by unfold Xk;rw[List.length_zipWith];lia
 rw[n];refine⟨λp=>⟨⟨j,()⟩,λv A q=>?_⟩,λp=>⟨j,()⟩⟩;obtain⟨T,k,x,rfl,r,rfl,b⟩:=q;have l:i<ds.length:=()
 obtain⟨B,hx,s⟩:=e.get (Zqg l);rw[List.getElem?_zip_eq_some] at b;obtain⟨b,a⟩:=b;have b:ks[i]? = some k:=b;have a:xs[i]? = some x:=a;rw[hx] at a;cases  a;have m:=jo g r (.tup [kV k,x]);refine⟨.tup [wE k,ds[i]],_,?_,m,Tt.mpr ⟨T,_,rfl,.of JC,.mk (NP K _ k) (.mk (IsD.same (f.trans m.ff) _ _ s) .nil)⟩⟩;unfold Xk;rw[List.getElem?_zipWith,b,Zqg l]
section
variable {X:Cx}{E:XK}{f:FE}{tp apos cpos:Pos}{elts:Yj}{e:Expr}
def NR {kx}(v:QN X E e f)(a:attributeBase e "items" X.env (eval e X.env)=eval e X.env:=by rfl)(c:(apos.endLine == cpos.line)=true:=by rfl):
 QI X E (.Tuple elts kx tp) (.Call (.Attribute e "items" apos) [] [] cpos) (mi f):=PI.weak (NO v a c) λZ H R w=>by
 obtain⟨B,F,sd,r,n⟩:=w;refine⟨B,F,sd,r,(Res.need_bind n).mono (λz i l j J g m s x=>?_) λ_ _ q=>q⟩;unfold Z3 at i
 split at i
 .rename_i ks ds;obtain⟨xs,d,A,C⟩:=x;refine⟨.inr (.inr (.inl ⟨rfl,.inl ⟨_,d⟩⟩)),l,ks.zip xs,rfl,rfl,d,λp hp=>⟨p,l,ks.zip xs,rfl,JC,?_,λo=>?_⟩⟩
  .have h:l≠p:=λz=>by rw[z,hp] at d;exact Jy d
   exact(Jz h).trans d
  .have G:j p=none:=Qs g.fh hp;have Hp:H p=none:=Qs g.hh hp;have h:l≠p:=λz=>by rw[z,hp] at d;exact Jy d
   refine i _ (upd j l (.frz o (.dK (ks.zip xs)))) _ ⟨g.ff.trans (KO s _),λb u q=>?_,λb u q=>?_,λb I t=>?_⟩ (NQ JC A (IsDs.same (KO s _) _ _ C))
   .by_cases z:b=l
    .subst z;rw[JC] at q ⊢;exact q
    .rw[Jz z] at q ⊢;have:b≠p:=λy=>by rw[y,G] at q;exact Jy q
     rw[Jz this];exact g.fh _ _ q
   .have z:b≠l:=λy=>by rw[y,m] at q;exact Jy q
    have y:b≠p:=λy=>by rw[y,Hp] at q;exact Jy q
    rw[Jz z,Jz y];exact g.hh _ _ q
   .have z:b≠l:=λy=>t (by rw[y];exact m);rw[Jz z];exact g.new b I t
 .exact i.elim
end
def wJ (i:Nat)(sd:SD):Option (Option SV)->Res D->Res Out
 |some (~~~(.int a)),r=>r.bind λd=>match d with
  | .int b=>.ok (.next (sd.set i (~~~(.int (a+b)))))
  |_=>.no
 |_,_=>.no
def yD (i:Nat)(f:FE):FS:=λsd=>wJ i sd sd[i]? (f sd)
@[simp]def mG (i:Nat)(f:FE)(sd:SD):yD i f sd=wJ i sd sd[i]? (f sd):=rfl
@[simp]def gO (i:Nat)(sd:SD)(a b:Int):wJ i sd (some (~~~(.int a))) (.ok (.int b))=.ok (.next (sd.set i (~~~(.int (a+b))))):=rfl
def NS (j:X.N.Nodup)(l:X.N[i]? = some x)(hx:xY X.env.scope x)(o:QE X E e fe)
 (s:X.fn x=true\/X.env.scope.names.lookup x=some .local:=by trivial):QS X E m (.AugAssign (.Name x pos') .Add e pos) (yD i fe):=PS.weak (Iq j l hx o Ir s) λT Z H t=>by
 obtain⟨B,F,sd,r,n⟩:=t;unfold yD at n;generalize u:sd[i]? = q at n;cases q with
 |none=>exact False.elim n
 |some q=>cases q with
  |none=>exact False.elim n
  |some q=>cases q with
   |own p d=>exact False.elim n
   |val d=>cases d with
    |int a =>
     obtain⟨v,w,c⟩:=r.val u;rw[Tr] at c;subst c;have n:((fe sd).bind λd=>match d with
      | .int b=>Res.ok (Out.next (sd.set i (~~~(.int (a+b)))))
      |_=>.no).need _ _:=n
     refine⟨_,w,B,F,sd,r,(Res.need_bind n).mono (λd f v y z g h=>?_) λ_ _ q=>q.ext r.ext⟩;cases d with
     |int b =>
      rw[Tr] at h;exact⟨_,_,rfl,h,f _ y z g.ff ((r.step g).setVal (Tr.mpr rfl))⟩
     |_=>exact False.elim f
    |_=>exact False.elim n
def XE (is:Yg)(f:FE):FE:=λsd=>(f (qj is sd)).strict.bind λd=>if Ki d then .ok d else .no
@[simp]def hR (is:Yg)(f:FE)(sd:SD):XE is f sd=(f (qj is sd)).strict.bind λd=>if Ki d then .ok d else .no:=rfl
section
variable {X:Cx}{E:XK}{e:Expr}
def NT (is:Yg)(h:QE X E e fe):QE X E e (XE is fe):=PE.weak h λZ H Q b=>by
 obtain⟨B,F,sd,r,n⟩:=b;obtain⟨f,o,g⟩:=r.frz is;refine⟨B,f,_,g,(Res.need_strict (Res.need_bind n)).mono (λd a v p i j l=>?_) λc fs q=>q⟩
 split at a
 .rename_i m;exact a v F i (.grow r.ext.fh j.hh) (l.scal m)
 .exact a.elim
end
end L2.DL
namespace L2
section
variable {M:Model}{A:Around}{E:Ya}{s:Shared}{base:Heap}{e:Addr}{cls a0 fl:Value}
def NU (v:base.StaysIn s.heap)(w:s.heap.FunFrames base l)(x:s.heap.TracedAtW base e cls a0 fl)
 (h:∀h' T,base.get? T=none->(∀b,b≠T->h'.get? b=s.heap.get? b)->(∃o i,s.heap.get? T=some o/\o.data=.fields i)->base.StaysIn h'->h'.FunFrames base l->(∃j,h'.TracedAtW base e cls a0 j)->Q Ym { s with heap:=h' }):wpAny M A (setFlight (.ref e) f) Q E s:=by
 obtain⟨y,i,T,B,ts,p,C,r,t,m,u,d,c,F⟩:=x;have G:=(Jq.mp F).1;have g:∀b,b≠T->(s.heap.update T (Obj.mapFields (·.setIfInBounds 3 (f.elim Value.none λa=>rawInt a)))).get? b=s.heap.get? b:=λb n=>Heap.get?_update_other _ _ n.symm;have H:∀b o,s.heap.get? b=some o->(∀ws,o.data ≠ .fields ws)->b≠T:=λb o q n z=>by
  subst z;rw[d] at q;cases q;exact n _ c
 unfold setFlight;refine Za (wpAny_field p r t ?_);rw[Zd ()];refine wpAny_setField d c G (h _ T m g ⟨B,ts,d,c⟩ (λb o q=>(g b λz=>by rw[z,m] at q;cases q).trans (v b o q)) (w.of_keeps λb o q n=>⟨o,(g b (H b o q n)).trans q,rfl⟩) ⟨f.elim Value.none λa=>rawInt a,y,i,T,_,_,(g e u.symm).trans p,C,r,t,m,u,Heap.get?_update_self _ d (Obj.isFreed_of_fields (Obj.data_mapFields c _)),Obj.data_mapFields c _,?_⟩)
 simp_all
def NV (a:A.frames=some (env::outer))(d:env.frame=some L)(h:base.StaysIn s.heap)(f:base.get? e=none)(i:s.heap.FunFrames base (env::outer))(g:s.heap.TracedAtW base e cls a0 fl)
 (j:∀h',Heap.FlyingW base outer e cls a0 h'->s.heap.UpToSlots h'->Q Ym { s with heap:=h' }):wpAny M A (leaving env (.ref e)) Q E s:=by
 by_cases c:fl=rawInt L
 .subst c;exact Za (wpAny_noteFrame_againW d g (wpAny_setFlight_noneW h i g λh' k1 k2 k3 u=>j h' ⟨k1,f,k2.2.2,k3⟩ λb o q n=>⟨o.slots,u b o q n⟩))
 .obtain⟨F,G,T,H,ts,v,⟨w,x⟩,l,y,I,J,m,p,r⟩:=g;subst w;have B:=(Jq.mp r).1;have t:∀b,b≠T->(s.heap.update T (Obj.mapFields (·.setIfInBounds 3 Value.none))).get? b=s.heap.get? b:=λb n=>Heap.get?_update_other _ _ n.symm;have C:∀b o,s.heap.get? b=some o->(∀ws,o.data ≠ .fields ws)->b≠T:=by grind
  unfold leaving noteFrame;simp only[d];refine Za (Za (wpAny_field v l y (Za (wpAny_field m p r ?_))));rw[Ze (λz=>c (Yl.mp z))];exact Za (wpAny_setField m p B (wpAny_newEntryW a (i.of_keeps ()) d () (λb o q=>(t b λz=>()).trans (h b o q)) f l () x λh' ⟨x1,x2,x3,x4⟩=>(j h' ⟨x1,f,x2.2.2,x3⟩ λb o q n=>x4 b o ((t b (C b o q n)).trans q) n)))
end
structure FlyAny (l:List Env)(h₀:Heap)(H:Hp)(x C:Addr)(B h:Heap):Prop where
 st:B.StaysIn h
 no:B.get? x=none
 fr:h.FunFrames B l
 tr:∃t fl,h.TracedAtW B x (.ref C) (.ref t) fl
 trk:∀b o,h.get? b=some o->(H b≠none\/((∃u,h₀.get? b=some u)/\b∉frs l))->B.get? b=some o
structure ThrownA (X:Cx)(E:XK):Prop where
 on:∀(Y:Yb) (Z: St) (H:Hp) (s:Shared) (x C:Addr) (B:Heap),Inv X Y Z H s->FlyAny X.stack X.s₀.heap H x C B s.heap->E (.ref C) none H->X.xe (.ref x) s
def NW {P:Program}{w:World}{K:W.Frag}{j:Yc}{d:Heap}{N:Yh}{g:Str}{a:Scope}{f:Addr}{cd:Value}{A:Around}{c:List Env}{s:Shared}{H:Hp}{E:XK}:ThrownA (jt (qV P w) P w K j d N g a f cd A c s H E) E:=by
 refine⟨λY Z o s' x C B I h l=>?_⟩;obtain⟨t,m,n⟩:=h.tr;exact NV I.ok.frames rfl h.st h.no h.fr n λh' i up=>AD I (λb u e=>⟨u,e⟩) i up h.trk l
theorem Fq {h h' B a:Heap}(k0:∀b,B.get? b=none->a.get? b=none):∀{l:List Env},(∀b∈frs l,h'.get? b=h.get? b)->h.FunFrames B l->h'.FunFrames a l
 | [],_,_=>trivial
 |env::rest,k,⟨g1,⟨L,o,g2,g3,g4,g5⟩,r⟩=>by
  have c:L∈frs (env::rest):=by
   unfold frs;rw[UH,g2];exact Zqs
  refine⟨g1,⟨L,o,g2,k0 L g3,(k L c).trans g4,g5⟩,Fq k0 (λb d=>k b ?_) r⟩
  simp_all [frs]
def NX {X:Cx}{E:XK}{d:Scope}{N:Yh}{cl:List (Str×Addr)}{C:Addr}{s:Shared}{H:Hp}{J:Yi}(r:X.stack=X.env::X.outer)(hfr:X.env.frame=some X.env.locals)(K:X.ex=[])(T:ThrownA X E)(at_:WW X C s H J):Thrown (JO X d N cl C s H J) E:=by
 obtain⟨w,Z0,I0,L,hC⟩:=at_;refine⟨λY Z H' s' h₀ x D B I h0 fl hE=>?_⟩;obtain⟨⟨t,fly⟩,trk⟩:=fl;have M:Heap.FlyingW B (X.env::X.outer) x (.ref D) (.ref t) s'.heap:=by rw[<- r];exact fly
 have O:noteFrame (.ref x) (compEnvC d cl C X.env)=noteFrame (.ref x) X.env:=rfl;show Yv X (noteFrame (.ref x) (compEnvC d cl C X.env)) (λ_ s''=>YC X C (.ref x) s'') (YC X C) s';rw[O];refine wpAny_looks_onW (I0.ok.frames.trans (by rw[r])) hfr M λh1 P up1=>?_;obtain⟨m,hm,_⟩:=id I.loc;have Q:h1.Ns C m:=up1.ns hm;refine⟨m,Q,λA g cenv _=>?_⟩;obtain⟨hc1,hc2,hc3,hc4⟩:=P;obtain⟨oC,es,ep,hoC,hdC,_⟩:=id Q;have nC:∀b o ws,h1.get? b=some o->o.data=.fields ws->b≠C:=by grind
 have f:∀b o,s.heap.get? b=some o->b≠C:=λb o q=>Zi (Zg (Zk q) hC);have R:∀b∈frs X.stack,b≠C:=λb a=>by
  obtain⟨_,F,i,_⟩:=I.ok.funs.mem a;exact f b F i
 obtain⟨j,hB'⟩:∃j,W.hideAll B [C]=j:=⟨_,rfl⟩;have S:∀b o,j.get? b=some o->B.get? b=some o:=λb o q=>by rw[<- hB'] at q;exact W.of_hideAll _ q
 have U:∀b o,B.get? b=some o->b≠C->j.get? b=some o:=λb o q n=>by grind[W.hideAll_get]
 have G:∀b,B.get? b=none->j.get? b=none:=λb q=>by
  cases z:j.get? b with
  |none=>rfl
  |some o=>rw[S b o z] at q;cases q
 have nBC:∀b o,j.get? b=some o->b≠C:=λb o q z=>by
  grind[W.hideAll_none]
 have st2:j.StaysIn A:=λb o q=>(g.2 b (nBC b o q)).trans (hc1 b o (S b o q));have fr2:A.FunFrames j X.stack:=Fq G (λb a=>g.2 b (R b a)) (by rw[r];exact hc3);obtain⟨oe,vs,T0,oT,ts,g1,g2,g3,g4,g5,g6,g7,g8,g9⟩:=hc4;have tr2:A.TracedAtW j x (.ref D) (.ref t) (rawInt X.env.locals):=⟨oe,vs,T0,oT,ts,(g.2 x (nC _ _ _ g1 g3)).trans g1,g2,g3,g4,G T0 g5,g6,(g.2 T0 (nC _ _ _ g7 g8)).trans g7,g8,g9⟩;unfold PySem.passOn;refine Za (wpAny_field (s:={ s' with heap:=A }) ((g.2 x (nC _ _ _ g1 g3)).trans g1) g3 g4 ?_);rw[Ze ()];refine Za (NU (s:={ s' with heap:=A }) st2 fr2 tr2 λh3 T' t1 t2 t3 st3 fr3 tr3=>wpAny_throw ?_);have K1:∀b o,B.get? b=some o->b≠C->h3.get? b=some o:=λb o q n=>st3 b o (U b o q n);have nex:∀b u,X.s₀.heap.get? b=some u->b∉J:=λb u q a=>by
  rcases(L b a).2.2.2.1 with z|z
  .rw[K] at z;cases z
  .exact Zn (Zk q) (Nat.not_lt.mpr z)
 have p:∀b o,s.heap.get? b=some o->b∈frs X.stack->b∉J->∃sl,h3.get? b=some { o with slots:=sl }:=λb o q a hx=>by
  obtain⟨_,F,i,hd⟩:=I.ok.funs.mem a;have i:s.heap.get? b=some F:=i;rw[q] at i;obtain rfl:=Zqi i;obtain⟨sl,e1⟩:=I.base.slot b o q (I.ok.frf b a) a hx;obtain⟨sl',e2⟩:=up1 b _ e1 hd;have e3:A.get? b=some { o with slots:=sl' }:=(g.2 b (R b a)).trans e2;refine⟨sl',(t2 b λz=>?_).trans e3⟩;obtain⟨oz,wz,z1,z2⟩:=t3;rw[<- z] at z1;have z1:A.get? b=some oz:=z1;rw[e3] at z1;cases z1;exact hd _ z2
 refine T.on w Z0 H' _ x D j (I0.call' (s':={ s' with heap:=h3 }) (ch:=J) I.os ⟨λb o e n a hx=>?_,λb o e n a hx=>p b o e a hx,λb o e n hx=>I.base.free b o e n hx,λb o e hx=>?_,I.base.tups,I.base.frzs,I.base.tbls⟩ (λb u e=>?_) I.bare λb a=>⟨(L b a).2.2.2.1,(L b a).2.1,(L b a).2.2.2.2.1,(L b a).2.2.2.2.2⟩) ⟨st3,G x hc2,fr3,?_,λb o e c=>?_⟩ hE
 .exact K1 b o (trk b o (I.base.keep b o e n a hx) (.inr ⟨h0 b o e hx,a⟩)) (f b o e)
 .by_cases a:b∈frs X.stack
  .obtain⟨sl,q⟩:=p b o e a hx;exact⟨_,q⟩
  .obtain⟨F,e'⟩:=I.base.there b o e hx;exact⟨F,K1 b F (trk b F e' (.inr ⟨h0 b o e hx,a⟩)) (f b o e)⟩
 .refine(I.hok b u e).stay (λc v hc q=>K1 c v (trk c v q (.inl ?_)) ?_) (λ_ q=>q) λ_ _ q=>q
  .rcases hc with z|z
   .rw[z,e];simp
   .rw[z];simp
  .intro z;have fC:H' C=none:=I.free;rcases hc with y|y
   .rw[<- y,z,fC] at e;exact Jy e
   .rw[z,fC] at y;exact Jy y
 .obtain⟨fl',q⟩:=tr3;exact⟨t,fl',q⟩
 .have key:∃l,B.get? b=some l/\b≠C:=by
   rcases c with c|⟨⟨u,hu⟩,a⟩
   .cases q:H' b with
    |none=>exact Zn q c
    |some u =>
     obtain⟨l,h2'⟩:=(I.hok b u q).has;exact⟨l,trk b l h2' (.inl c),λz=>by rw[z] at q;rw[show H' C=none from I.free] at q;exact Jy q⟩
   .obtain⟨o1,e1⟩:=I0.base.there b u hu (by rw[K];simp);obtain⟨l,e2⟩:=I.base.there b o1 e1 (nex b u hu);exact⟨l,trk b l e2 (.inr ⟨h0 b o1 e1 (nex b u hu),a⟩),f b o1 e1⟩
  obtain⟨l,k1,k2⟩:=key;have:=K1 b l k1 k2;have e:=e;rw[e] at this;cases this;exact U b o k1 k2
end L2
namespace L2.DL
def NY (N)(cap)(d:X.calm=true)(b:KC scope X.env N X.N cap=true)(e:QI X E tg iter fi)
 (g:∀c C s H a,QG (JO X scope N c C s H a) tg t) (i:∀c C s H a,WW X C s H a->QE (JO X scope N c C s H a) E elt f) (j:∀x,foldedSetIterable iter X.env x=pure x:=by intro _;rfl):
 QN X E (.ListComp elt [⟨tg,iter,[],0⟩] scope pos) (Q5 cap fi t f):=PE.weak (Ey N cap d b e g i j) λ_ _ _ h=>BX h
abbrev HP:=List (Addr×D)
def Tq:HP->Addr->Yu
 | [],_=>none
 |p::r,a=>if a=p.1 then some p.2 else Tq r a
def JD:HP->Addr->D->HP
 | [],_,_=>[]
 |p::r,a,d=>if a=p.1 then(p.1,d)::r else p::JD r a d
def NZ (a):Tq [] a=none:=rfl
def JT (p)(r:HP)(a):Tq (p::r) a=if a=p.1 then some p.2 else Tq r a:=rfl
theorem KJ:∀{hp:HP} {a:Addr} {d:D} b,Tq hp a≠none->Tq (JD hp a d) b=if b=a then some d else Tq hp b
 | [],a,d,b,h=>Zn rfl h
 |p::r,a,d,b,h=>by
  unfold JD;by_cases z:a=p.1
  .simp_all [JT]
  .rw[Ze z,JT,JT];rw[JT,Ze z] at h;rw[KJ b h]
   grind
structure RT (K:W.Frag)(B B':Bs)(F H:Hp)(sd:SD)(hp:HP)(Z: St):Prop where
 rs:RS K B' F H sd Z
 f0:B'.F0=B.F0
 pa:B'.pa=B.pa
 out:∀a,Tq hp a=none->B'.H0 a=B.H0 a
 obj:∀a d,Tq hp a=some d->B.F0 a=none/\B.H0 a=none/\xS K F B'.H0 a d
section
variable {K:W.Frag}{B B':Bs}{F F' H H':Hp}{sd sd':SD}{hp:HP}{Z Z':St}{a:Addr}{d:D}
def RT.sub (t:RT K B B' F H sd hp Z):Tx B.H0 B'.H0:=λa o e=>by
 cases q:Tq hp a with
 |none=>rwa [t.out a q]
 |some d=>rw[(t.obj a d q).2.1] at e;exact Jy e
def RT.ext0 (t:RT K B B' F H sd hp Z)(e:Ext B'.F0 B'.H0 F2 H2):Ext B.F0 B.H0 F2 H2:=
 ⟨by rw[<- t.f0];exact e.ff,e.fh,t.sub.trans e.hh,λa c b=>e.new a (by rwa [t.f0]) λz=>b (Qs t.sub z)⟩
def RT.go (t:RT K B B' F H sd hp Z)(s:Tx F F')(r:RS K B' F' H' sd' Z'):RT K B B' F' H' sd' hp Z':=
 ⟨r,t.f0,t.pa,t.out,λa d h=>let ⟨h1,h2,h3⟩:=t.obj a d h;⟨h1,h2,h3.ext s λ_ q=>q⟩⟩
def RT.free (t:RT K B B' F H sd hp Z)(h:Tq hp a=some d):F a=none:=have ⟨c,e,b⟩:=t.obj a d h;have ⟨o,f⟩:=b.has;t.rs.ext.new a (by rwa [t.f0]) ()
def RT.lies (t:RT K B B' F H sd hp Z)(h:Tq hp a=some d):xS K F H a d:=(t.obj a d h).2.2.ext (.refl _) λo q=>t.rs.ext.hh _ _ q
def RT.no_own (t:RT K B B' F H sd hp Z)(h:Tq hp a=some d)(b:B'.H0 l=none):l≠a:=λz=>by
 have ⟨o,c⟩:=(t.obj a d h).2.2.has
 simp_all
theorem RT.start (r:RS K B F H sd Z):RT K B B F H sd [] Z:= ⟨r,rfl,rfl,λ_ _=>rfl,λa d h=>by cases h⟩
def RT.xw (t:RT K B B' F H sd hp Z)(h:XW K E B.F0 B.H0 c fs):XW K E B'.F0 B'.H0 c fs:=λb a f g e q=>h b a f g (t.ext0 e) q
def RT.chg (t:RT K B B' F H sd hp Z)(f:Tq hp a=some d)(h:xS K F (upd H a o) a d'):RT K B ⟨B'.F0,upd B'.H0 a o,B'.pa⟩ F (upd H a o) sd (JD hp a d') Z:= by
 have m:=t.free f;have ⟨n,r,J⟩:=t.obj a d f;have g:Tq hp a≠none:=by simp_all
 refine⟨⟨⟨t.rs.ext.ff,Ap o t.rs.ext.fh m,λb u e=>?_,λb s v=>?_⟩,t.rs.len,t.rs.val,λ{i p e} q=>?_,t.rs.apart⟩,t.f0,t.pa,λb c=>?_,λb e c=>?_⟩
 .have e:upd B'.H0 a o b=some u:=e;by_cases z:b=a
  .simp_all [JC]
  .rw[Jz z] at e ⊢;exact t.rs.ext.hh _ _ e
 .by_cases z:b=a
  .rwa [z]
  .exact t.rs.ext.new b s λy=>v (by show upd B'.H0 a o b=none;rwa [Jz z])
 .obtain⟨l,w,j,x,A,C⟩:=t.rs.own q;have ne:=t.no_own f j;exact⟨l,w,(Jz ne).trans j,x,A.ext (.refl _) (λu q'=>by rwa [Jz ne]),λz=>(C z).mono λu q'=>by rwa [Jz ne]⟩
 .rw[KJ b g] at c;by_cases z:b=a
  .simp_all
  .rw[Ze z] at c;show upd B'.H0 a o b=B.H0 b;rw[Jz z];exact t.out b c
 .rw[KJ b g] at c;by_cases z:b=a
  .rw[Zd z] at c;obtain rfl:=Zqi c;subst z;exact⟨n,r,h.ext (.refl _) λu q=>by simp_all [JC]⟩
  .rw[Ze z] at c;have ⟨E,G,I⟩:=t.obj b e c;exact⟨E,G,I.ext (.refl _) λu q=>by show upd B'.H0 a o b=some u;rwa [Jz z]⟩
def xo (F b:Hp)(hp:HP):Hp:=λa=>match Tq hp a with
 |some _=>b a
 |none=>F a
end
section
variable {K:W.Frag}{B:Bs}{F H:Hp}{sd:SD}{hp:HP}{Z: St}
def Oa {α: Type}{l:List α}{a:α}(h:l[i]? = some a):l.set i a=l:=by
 apply List.ext_getElem?;intro j;by_cases z:i=j
 .subst z;rw[UN (Jd.mp h).1,h]
 .rw[Zx z]
def RS.reval (r:RS K B F H sd Z)(a:sd[i]? = some (~~~d))(h:∀v,IsD K F d v->IsD K F d' v):RS K B F H (sd.set i (~~~d')) Z:= by
 have ⟨v,b,c⟩:=r.val a;have:=r.setVal (i:=i) (h v c)
 rwa [Oa b] at this
end
def wR (K:W.Frag)(F H:Hp)(hp:HP):Prop:=∀a d,Tq hp a=some d->F a=none/\xS K F H a d
def RT.lent {K:W.Frag}{B a:Bs}{F H:Hp}{sd:SD}{hp:HP}{Z: St}(t:RT K B a F H sd hp Z):wR K F H hp:=λ_ _ h=>⟨t.free h,t.lies h⟩
theorem f5:∀{hp:HP} {a:Addr},Tq hp a=none↔a∉hp.map (·.1)
 | [],a=>by simp[NZ]
 |p::r,a=>by
  rw[JT,Zl,UB,not_or];by_cases z:a=p.1
  .simp_all
  .rw[Ze z,f5]
   simp_all
def qG (H:Hp)(hp:HP):Hp:=λa=>match Tq hp a with
 |none=>H a
 |some _=>none
def VT (h:Tq hp a=none):qG H hp a=H a:=by grind[qG]
def C4 (h:Tq hp a=some d):qG H hp a=none:=by unfold qG;rw[h]
section
variable {K:W.Frag}{B B':Bs}{F F' H H':Hp}{sd:SD}{hp hp':HP}{Z: St}
def RT.hidden (t:RT K B B' F H sd hp Z):Ext B.F0 B.H0 F (qG H hp):=by
 have e:=t.ext0 t.rs.ext;refine⟨e.ff,λa o q=>?_,λa o q=>?_,e.new⟩
 .cases z:Tq hp a with
  |none=>rw[VT z];exact e.fh _ _ q
  |some d=>rw[t.free z] at q;exact Jy q
 .cases z:Tq hp a with
  |none=>rw[VT z];exact e.hh _ _ q
  |some d=>rw[(t.obj a d z).2.1] at q;exact Jy q
end
structure Ev where
 P:Program
 w:World
 K:W.Frag
 mg:Yc
 base:Heap
 C:Nat->Addr
 t:Nat->Tok
abbrev Ca (e:Ev):=za e.P e.w e.K e.mg e.base
abbrev z3 (e:Ev):=zj e.P e.w e.K e.mg e.base
def vm (K:W.Frag)(T:Nat->Stmt):List (Str×Nat)->Prop
 | []=>True
 |p::r=>wf K p.1 (T p.2)/\vm K T r
def Nn (K:W.Frag):Yh->Prop
 | []=>True
 |x::r=>W.nsIn K mainGlobals x=some none/\Nn K r
def dfs_cons {K:W.Frag}{T:Nat->Stmt}{x:Str}{i:Nat}{r:List (Str×Nat)}(h:wf K x (T i))(q:vm K T r):vm K T ((x,i)::r):=⟨h,q⟩
def nn_cons {K:W.Frag}{x:Str}{r:Yh}(h:W.nsIn K mainGlobals x=some none)(q:Nn K r):Nn K (x::r):=⟨h,q⟩
theorem C5 {K:W.Frag}{T:Nat->Stmt}:∀{l:List (Str×Nat)} {j:Nat} {p:Str×Nat},vm K T l->l[j]? = some p->wf K p.1 (T p.2)
 | [],j,p,_,h=>by simp at h
 |q::r,0,p,d,h=>by
  obtain rfl:=by simpa using h
  exact d.1
 |q::r,j+1,p,d,h=>C5 d.2 (by simpa using h)
theorem Fs {K:W.Frag}{h:Heap}{a:Yc}(X:K.In h)(G:h.Ns mainGlobals a):∀{l:Yh},Nn K l->∀x∈l,a x=none
 | [],_,x,q=>by simp at q
 |y::r,d,x,q=>by
  rcases UB.mp q with z|z
  .rw[z];exact W.mg_none_of X G d.1
  .exact Fs X G d.2 x z
abbrev nJ (mg:Yc)(bl:Yh):Prop:=∀x∈bl,mg x=none
def J8 {a:Yc}{bl:Yh}{x:Str}(m:nJ a bl)(h:x∈bl:=by decide):a x=none:=m x h
structure Al (e:Ev)(T:Nat->Stmt)(tbl:List (Str×Nat))(bl:Yh):Prop where
 h:∃h,e.K.In h/\h.Ns mainGlobals e.mg
 d:vm e.K T tbl
 m:nJ e.mg bl
section
variable {e:Ev}{T:Nat->Stmt}{tbl:List (Str×Nat)}{bl:Yh}{x:Str}{k:Nat}{ps:Yh}{sp:Sp}
abbrev Ft (x:Str)(st:Stmt)(ps:Yh):Prop:=∀(kV doc pm:Value) (an:Option Addr) (cdv ct:Value) (us:Yd),us.length=ps.length->bindArgs (W.fnOf x x (WV st) (Kc st) (JP st) .none kV doc pm an cdv ct) ⟨us,[]⟩=pure (ps.zip us)
def qF (a:Al e T tbl bl)(j i:Nat)(ok:∀{f:Addr} {b:FuncData},Fun e.K x x (T i) f b->FnOk e.P e.w e.K e.mg e.base xa k f b ps sp)(h:tbl[j]? = some (x,i):=by rfl)
 (c:Ft x (T i) ps:=by intro _ _ _ _ _ _;first|exact wY λ_ _=>rfl|exact mZ λ_ _ _=>rfl|exact nc λ_=>rfl|exact b5 λ_ _ _ _=>rfl|exact nP λ_ _ _ _ _=>rfl|exact d λ_ _ _ _ _ _=>rfl):Ca e x k ps sp:=by
 obtain⟨_,X,G⟩:=a.h;exact(C5 a.d h).callee X G ok c
def xz (a:Al e T tbl bl)(j i:Nat)(ok:∀{f:Addr} {b:FuncData},Fun e.K x x (T i) f b->FnOk e.P e.w e.K e.mg e.base (qV e.P e.w) k f b ps sp)(h:tbl[j]? = some (x,i):=by rfl)
 (c:autoParam (Ft x (T i) ps) qF._auto_2):z3 e x k ps sp:=by
 obtain⟨_,X,G⟩:=a.h;exact(C5 a.d h).calleeX X G ok c
end
def TJ {X:Cx}(h:X.N.Nodup:=by dsimp only[JO,jt,Cx.nox];decide +kernel):X.N.Nodup:=h
def qv {X:Cx}{E:XK}(i:Nat){x:Str}{a:Pos}(c:X.N[i]? = some x:=by rfl)(d:autoParam (gR X.env.scope x) pv._auto_2)(e:(x == ("__debug__" : Str))=false:=by decide)(b:(x == ("__classdict__" : Str))=false:=by decide):QE X E (.Name x a) (Tn i):=vZ (pv i c d e b)
inductive Wr (α: Type) where
 |ok (a:α)|ex (c:Str) (fs:Yt)|no|new (hp:HP) (k:Addr->Wr α)
def Wr.bind {α β: Type}:Wr α -> (α -> Wr β)->Wr β
 | .ok a,g=>g a
 | .ex c fs,_=>.ex c fs
 | .no,_=>.no
 | .new hp k,g=>.new hp λa=>(k a).bind g
def Wr.need {α: Type}:Wr α -> (α -> Prop)->(Str->Yt->Prop)->Prop
 | .ok a,p,_=>p a
 | .ex c fs,_,q=>q c fs
 | .no,_,_=>False
 | .new hp k,p,q=>∀a,Tq hp a=none->(k a).need p q
def Wr.of {α: Type}:Res α -> Wr α
 | .ok a=>.ok a
 | .ex c fs=>.ex c fs
 | .no=>.no
@[simp]theorem Wr.bind_ok {α β: Type}(a:α)(g:α -> Wr β):(Wr.ok a).bind g=g a:=rfl
@[simp]def Wr.bind_ex {α β: Type}(c:Str)(fs:Yt)(g:α -> Wr β):(Wr.ex c fs:Wr α).bind g=.ex c fs:=rfl
@[simp]def wo {α β: Type}(hp:HP)(k:Addr->Wr α)(g:α -> Wr β):(Wr.new hp k).bind g=.new hp λa=>(k a).bind g:=rfl
@[simp]def wK {α: Type}(a:α)(p:α -> Prop)(q:Str->Yt->Prop):(Wr.ok a).need p q=p a:=rfl
@[simp]def wn {α: Type}(hp:HP)(k:Addr->Wr α)(p:α -> Prop)(q:Str->Yt->Prop):(Wr.new hp k).need p q = ∀a,Tq hp a=none->(k a).need p q:=rfl
@[simp]def gP {α: Type}(a:α):Wr.of (Res.ok a)=.ok a:=rfl
@[simp]def gQ {α: Type}(c:Str)(fs:Yt):Wr.of (Res.ex c fs:Res α)=.ex c fs:=rfl
theorem Wr.need_bind {α β: Type}{p:β -> Prop}{q:Str->Yt->Prop}{g:α -> Wr β}:∀{r:Wr α},(r.bind g).need p q↔r.need (λa=>(g a).need p q) q
 | .ok _=>.rfl
 | .ex _ _=>.rfl
 | .no=>.rfl
 | .new _ k=>forall_congr' λa=>imp_congr .rfl (Wr.need_bind (r:=k a))
theorem Wr.need.mono {α: Type}{p b: α -> Prop}{q q':Str->Yt->Prop}(hp:∀a,p a->b a)(d:∀c fs,q c fs->q' c fs):∀{r:Wr α},r.need p q->r.need b q'
 | .ok _,h=>hp _ h
 | .ex _ _,h=>d _ _ h
 | .no,h=>h
 | .new _ k,h=>λa z=>Wr.need.mono hp d (r:=k a) (h a z)
def jv {α: Type}{r:Res α}{p:α -> Prop}{q:Str->Yt->Prop}:(Wr.of r).need p q↔r.need p q:=by cases r<;>exact .rfl
def jg {α β: Type}{p:β -> Prop}{q:Str->Yt->Prop}{g:α -> Wr β}{r:Wr α}(h:(r.bind g).need p q){b: α -> Prop}(k:∀a,(g a).need p q->b a):r.need b q:=(Wr.need_bind.mp h).mono k λ_ _ z=>z
def xN {α β: Type}{p:β -> Prop}{q q':Str->Yt->Prop}{g:α -> Wr β}{r:Res α}(h:((Wr.of r).bind g).need p q){b: α -> Prop}(k:∀a,(g a).need p q->b a)(d:∀c fs,q c fs->q' c fs):r.need b q':=(jv.mp (Wr.need_bind.mp h)).mono k d
def dr (hp:HP):Nat->D->D
 | 0,d=>d
 |n+1,.adr a=>match Tq hp a with
  |some d=>dr hp n d
  |none=>.adr a
 |n+1,.lst ds=>.lst (ds.map (dr hp n))
 |n+1,.tup ds=>.tup (ds.map (dr hp n))
 |n+1,.dct ks ds=>.dct ks (ds.map (dr hp n))
 |n+1,.ins c fs ds=>.ins c fs (ds.map (dr hp n))
 |_+1,d=>d
def drI (n:Nat)(hp:HP):Yg->SD->SD
 | [],sd=>sd
 |i::is,sd=>drI n hp is (match sd[i]? with
  |some (~~~d)=>sd.set i (~~~(dr hp n d))
  |_=>sd)
section
variable {K:W.Frag}{B B':Bs}{F H F' H':Hp}{sd:SD}{hp hp':HP}{Z: St}
theorem IsDs.mapOf {g:D->D}(h:∀d v,IsD K F d v->IsD K F (g d) v):∀{ds:Yt} {xs:Yr},IsDs K F ds xs->IsDs K F (ds.map g) xs
 | [],_,i=>i
 |d::ds,xs,i=>by
  obtain⟨x,r,a,b,c⟩:=Tv.mp i;exact Tv.mpr ⟨x,r,a,h d x b,IsDs.mapOf h c⟩
theorem IsD.dr (g:∀a d,Tq hp a=some d->IsD K F d (.ref a)):∀(n:Nat) (d:D) (v:V),IsD K F d v->IsD K F (dr hp n d) v
 | 0,_,_,h=>h
 |n+1,.adr a,v,h=>by
  obtain rfl:=TR.mp h;unfold L2.DL.dr
  split
  .rename_i d q;exact IsD.dr g n d _ (g a d q)
  .exact h
 |n+1,.lst ds,v,h=>by
  obtain⟨a,xs,b,e,f⟩:=Tw.mp h;exact Tw.mpr ⟨a,xs,b,e,IsDs.mapOf (IsD.dr g n) f⟩
 |n+1,.tup ds,v,h=>by
  obtain⟨a,xs,b,e,f⟩:=Tt.mp h;exact Tt.mpr ⟨a,xs,b,e,IsDs.mapOf (IsD.dr g n) f⟩
 |n+1,.dct ks ds,v,h=>by
  obtain⟨a,xs,b,e,i,f⟩:=TX.mp h;exact TX.mpr ⟨a,xs,b,e,i,IsDs.mapOf (IsD.dr g n) f⟩
 |n+1,.ins c fs ds,v,h=>by
  obtain⟨a,C,j,xs,b,l,e,i,f⟩:=jh.mp h;exact jh.mpr ⟨a,C,j,xs,b,l,e,i,IsDs.mapOf (IsD.dr g n) f⟩
 |_+1,.non,_,h=>h
 |_+1,.bl _,_,h=>h
 |_+1,.int _,_,h=>h
 |_+1,.str _,_,h=>h
 |_+1,.ty _,_,h=>h
 |_+1,.scr _,_,h=>h
 |_+1,.exc _,_,h=>h
 |_+1,.ucl _,_,h=>h
 |_+1,.dcf _ _,_,h=>h
 |_+1,.pin _ _,_,h=>h
theorem RS.drI (b:∀a d,Tq hp a=some d->IsD K F d (.ref a))(n:Nat):∀(is:Yg) {sd:SD},RS K B F H sd Z -> RS K B F H (drI n hp is sd) Z
 | [],sd,r=>r
 |i::is,sd,r=>by
  unfold L2.DL.drI
  split
  .rename_i d h;exact RS.drI b n is (r.reval h λv q=>IsD.dr b n d v q)
  .exact RS.drI b n is r
def Kx:Nat->D->Bool
 |n+1,.tup ds=>ds.all (Kx n)
 |_,d=>Ki d
theorem qZ {g:D->Bool}(h:∀d v,g d=true->IsD K F d v->IsD K F' d v):∀{ds:Yt} {xs:Yr},ds.all g=true->IsDs K F ds xs->IsDs K F' ds xs
 | [],_,_,i=>i
 |d::ds,xs,s,i=>by
  obtain⟨x,r,a,b,c⟩:=Tv.mp i;rw[Ui,Ub] at s;exact Tv.mpr ⟨x,r,a,h d x s.1 b,qZ h s.2 c⟩
theorem ya (b:∀a xs,F a=some (.tup xs)->F' a=some (.tup xs)):∀(n:Nat) (d:D) (v:V),Kx n d=true->IsD K F d v->IsD K F' d v
 | 0,d,v,s,h=>h.scal (by cases d<;>exact s)
 |n+1,d,v,s,h=>by
  cases d with
  |tup ds =>
   obtain⟨a,xs,c,e,f⟩:=Tt.mp h;exact Tt.mpr ⟨a,xs,c,.of (b a xs e),qZ (ya b n) s f⟩
  |_=>exact h.scal s
def xS.noTup {a:Addr}{d:D}{o:HO}(h:xS K F H a d)(e:H a=Option.some o)(xs:Yr):o ≠ .tup xs:=λz=>by
 subst z;cases d with
 |lst ds=>obtain⟨_,q,_⟩:=h;rw[e] at q;cases q
 |dct ks ds=>obtain⟨_,q,_⟩:=h;rw[e] at q;cases q
 |ins c fs ds=>obtain⟨_,_,_,_,q,_⟩:=h;rw[e] at q;cases q
 |_=>exact h
def RT.frzA (t:RT K B B' F H sd hp Z):Tx F (xo F B'.H0 hp)/\RS K B (xo F B'.H0 hp) H sd Z /\ ∀a d,Tq hp a=some d->IsD K (xo F B'.H0 hp) d (.ref a):=by
 have m:∀b d,Tq hp b=some d->xo F B'.H0 hp b=B'.H0 b:=λb d e=>by unfold xo;rw[e]
 have g:∀b,Tq hp b=none->xo F B'.H0 hp b=F b:=λb e=>by unfold xo;rw[e]
 have f:Tx F (xo F B'.H0 hp):=λb u e=>by
  cases q:Tq hp b with
  |none=>rw[g b q];exact e
  |some d=>rw[t.free q] at e;exact Jy e
 refine⟨f,⟨⟨?_,λb u e=>?_,t.sub.trans t.rs.ext.hh,λb w h=>?_⟩,t.rs.len,λq=>let ⟨v,h,h2⟩:=t.rs.val q;⟨v,h,IsD.same f _ _ h2⟩,λ{i p e} q=>?_,t.rs.apart⟩,λb e j=>?_⟩
 .rw[<- t.f0];exact t.rs.ext.ff.trans f
 .cases q:Tq hp b with
  |none=>rw[g b q] at e;exact t.rs.ext.fh _ _ e
  |some d=>rw[m b d q] at e;exact t.rs.ext.hh _ _ e
 .cases q:Tq hp b with
  |none=>rw[g b q];exact t.rs.ext.new b (by rw[t.f0];exact w) (by rw[t.out b q];exact h)
  |some d=>exact Zn (t.obj b d q).2.1 h
 .obtain⟨l,x,n,y,A,C⟩:=t.rs.own q;have E:Tq hp l=none:=by
   cases z:Tq hp l with
   |none=>rfl
   |some d'=>exact Zn rfl (t.no_own z n)
  exact⟨l,x,Qs t.sub n,by rw[g l E];exact y,A.ext f λ_ q=>q,λz=>by rw[<- t.pa];exact C z⟩
 .obtain⟨G,I,r⟩:=t.obj b e j;obtain⟨o,s⟩:=r.has;refine IsD.same (λc u q=>?_) _ _ (r.frz s (t.free j));by_cases z:c=b
  .subst z;rw[JC] at q;rw[m c e j,s];exact q
  .rw[Jz z] at q;exact f _ _ q
def RT.thaw (t:RT K B B' F H sd hp Z){b c:Hp}(e:Ext (xo F B'.H0 hp) H b c):RT K B B' (qG b hp) c sd hp Z /\ Tx F (qG b hp)/\∀a xs,b a=some (.tup xs)->qG b hp a=some (.tup xs):=by
 obtain⟨j,p,f⟩:=t.frzA;have g:Tx F (qG b hp):=λa o q=>by
  cases z:Tq hp a with
  |none=>rw[VT z];exact e.ff _ _ (j _ _ q)
  |some d=>rw[t.free z] at q;exact Jy q
 have l:Ext F H (qG b hp) c:=⟨g,λa o q=>by
  cases z:Tq hp a with
  |none=>rw[VT z] at q;exact e.fh _ _ q
  |some d=>rw[C4 z] at q;exact Jy q,e.hh,λa m n=>by
  cases z:Tq hp a with
  |none=>rw[VT z];exact e.new a (by unfold xo;rw[z];exact m) n
  |some d=>exact C4 z⟩
 refine⟨t.go g (t.rs.step l),g,λa xs q=>?_⟩;cases z:Tq hp a with
 |none=>rw[VT z];exact q
 |some d =>
  obtain⟨_,_,h⟩:=t.obj a d z;obtain⟨o,f⟩:=h.has;have i:=e.ff a o (by unfold xo;rw[z];exact f);rw[q] at i;exact Zn (Zqi i).symm (h.noTup f xs)
def RT.newO (t:RT K B B' F H sd hp Z){a:Addr}{d:D}{o:HO}(g:H a=none)(h:xS K F (upd H a o) a d):Tq hp a=none/\RT K B ⟨B'.F0,upd B'.H0 a o,B'.pa⟩ F (upd H a o) sd ((a,d)::hp) Z:= by
 have m:Tq hp a=none:=by
  cases z:Tq hp a with
  |none=>rfl
  |some d' =>
   obtain⟨u,f⟩:=(t.lies z).has;rw[g] at f;exact Jy f
 have j:F a=none:=Qs t.rs.ext.fh g;have r:B'.H0 a=none:=Qs t.rs.ext.hh g;have s:B.H0 a=none:=by rw[<- t.out a m];exact r
 refine⟨m,⟨⟨t.rs.ext.ff,Ap o t.rs.ext.fh j,λb u e=>?_,λb v w=>?_⟩,t.rs.len,t.rs.val,λ{i p e} q=>?_,t.rs.apart⟩,t.f0,t.pa,λb c=>?_,λb e c=>?_⟩
 .have e:upd B'.H0 a o b=some u:=e;by_cases z:b=a
  .subst z;rw[JC] at e ⊢;exact e
  .rw[Jz z] at e ⊢;exact t.rs.ext.hh _ _ e
 .by_cases z:b=a
  .rw[z];exact j
  .exact t.rs.ext.new b v λy=>w (by show upd B'.H0 a o b=none;rw[Jz z];exact y)
 .obtain⟨l,x,A,C,n,E⟩:=t.rs.own q;have ne:l≠a:=λz=>by
   obtain⟨u,f⟩:=n.has;rw[z,g] at f;exact Jy f
  exact⟨l,x,(Jz ne).trans A,C,n.ext (.refl _) (λu q'=>by rw[Jz ne];exact q'),λz=>(E z).mono λu q'=>by rw[Jz ne];exact q'⟩
 .rw[JT] at c;by_cases z:b=a
  .rw[Zd z] at c;exact Jy c.symm
  .rw[Ze z] at c;show upd B'.H0 a o b=B.H0 b;rw[Jz z];exact t.out b c
 .rw[JT] at c;by_cases z:b=a
  .rw[Zd z] at c;obtain rfl:=Zqi c;subst z;exact⟨by rw[<- t.f0];exact Qs t.rs.ext.ff j,s,h.ext (.refl _) λu q=>by show upd B'.H0 b o b=some u;rw[JC] at q ⊢;exact q⟩
  .rw[Ze z] at c;obtain⟨G,I,J⟩:=t.obj b e c;exact⟨G,I,J.ext (.refl _) λu q=>by show upd B'.H0 a o b=some u;rw[Jz z];exact q⟩
structure ExtV (K:W.Frag)(F H:Hp)(hp:HP)(F' H':Hp)(hp':HP):Prop where
 ff:Tx F F'
 fh:Tx F' H'
 hh:∀a o,Tq hp a=none->H a=some o->H' a=some o
 new:∀a,F a=none->H a≠none->F' a=none
 len:wR K F' H' hp'
 dom:∀a,Tq hp' a=none->Tq hp a=none
 frs:∀a,Tq hp a=none->Tq hp' a≠none->H a=none
def RT.callV (t:RT K B B' F H sd hp Z)(w:ExtV K F H hp F' H' hp'):∃x,RT K B x F' H' sd hp' Z:= by
 have I:∀a,(match Tq hp' a with
  |none=>B'.H0 a
  |some _=>H' a)=if Tq hp' a=none then B'.H0 a else H' a:=λa=>by cases Tq hp' a<;>rfl
 refine⟨⟨B'.F0,λa=>match Tq hp' a with
  |none=>B'.H0 a
  |some _=>H' a,B'.pa⟩,⟨⟨t.rs.ext.ff.trans w.ff,w.fh,λa o e=>?_,λa A c=>?_⟩,t.rs.len,λq=>let ⟨v,h1,h2⟩:=t.rs.val q;⟨v,h1,IsD.same w.ff _ _ h2⟩,λ{i p e} q=>?_,t.rs.apart⟩,t.f0,t.pa,λa b=>?_,λa d b=>?_⟩
 .have e:(match Tq hp' a with
   |none=>B'.H0 a
   |some _=>H' a)=some o:=e
  cases z:Tq hp' a with
  |none=>rw[z] at e;exact w.hh a o (w.dom a z) (t.rs.ext.hh _ _ e)
  |some d=>rw[z] at e;exact e
 .have c:(match Tq hp' a with
   |none=>B'.H0 a
   |some _=>H' a)≠none:=c
  cases z:Tq hp' a with
  |none =>
   rw[z] at c;exact w.new a (t.rs.ext.new a A c) λy=>c (Qs t.rs.ext.hh y)
  |some d=>exact(w.len a d z).1
 .obtain⟨l,C,j,E,m,G⟩:=t.rs.own q;have g:Tq hp l=none:=by
   cases z:Tq hp l with
   |none=>rfl
   |some d'=>exact Zn rfl (t.no_own z j)
  obtain⟨o,n⟩:=m.has;have h:Tq hp' l=none:=by
   cases z:Tq hp' l with
   |none=>rfl
   |some d' =>
    have:=w.frs l g (by rw[z];simp);rw[n] at this;exact Jy this.symm
  refine⟨l,C,?_,w.new l E (by rw[n];simp),m.ext w.ff λu q=>w.hh _ _ g q,λz=>(G z).mono λu q=>w.hh _ _ g q⟩;show(match Tq hp' l with
   |none=>B'.H0 l
   |some _=>H' l)=none
  rw[h];exact j
 .show(match Tq hp' a with
   |none=>B'.H0 a
   |some _=>H' a)=B.H0 a
  rw[b];exact t.out a (w.dom a b)
 .have f:B.F0 a=none/\B.H0 a=none:=by
   cases z:Tq hp a with
   |none =>
    have r:=w.frs a z (by rw[b];simp);exact⟨by rw[<- t.f0];exact Qs t.rs.ext.ff (Qs t.rs.ext.fh r),by rw[<- t.out a z];exact Qs t.rs.ext.hh r⟩
   |some s=>exact⟨(t.obj a s z).1,(t.obj a s z).2.1⟩
  refine⟨f.1,f.2,(w.len a d b).2.ext (.refl _) λo q=>?_⟩;show(match Tq hp' a with
   |none=>B'.H0 a
   |some _=>H' a)=some o
  rw[b];exact q
end
abbrev FV:=SD->HP->Wr (D×HP)
abbrev yd:=SD->HP->Wr (Yt×HP)
abbrev zi:=SD->HP->Wr (Bool×HP)
def nG (K:W.Frag)(B:Bs)(F:Hp)(sd:SD)(Z: St)(Q:VK)(p:D×HP):Prop:=∀v c a b,Tx F a->RT K B c a b sd p.2 Z -> IsD K a p.1 v->Q v b
def bM (K:W.Frag)(E:XK)(f:FV):TE:=λZ H Q=>∃B a F sd hp,RT K B a F H sd hp Z /\ (f sd hp).need (nG K B F sd Z Q) (XW K E B.F0 B.H0)
abbrev QV (X:Cx)(E:XK)(e:Expr)(f:FV):Prop:=PE X e (bM X.K E f)
def bL (K:W.Frag)(E:XK)(f:yd):TA:=λZ H Q=>∃B d F sd hp,RT K B d F H sd hp Z /\ (f sd hp).need (λp=>∀b e a c,Tx F a->RT K B e a c sd p.2 Z -> IsDs K a p.1 b->Q b c) (XW K E B.F0 B.H0)
abbrev wO (X:Cx)(E:XK)(es:Yj)(f:yd):Prop:=PA X es (bL X.K E f)
def vC (K:W.Frag)(E:XK)(f:zi):TT:=λZ H Q=>∃B c F sd hp,RT K B c F H sd hp Z /\ (f sd hp).need (λp=>∀d a b,Tx F a->RT K B d a b sd p.2 Z -> Q p.1 b) (XW K E B.F0 B.H0)
abbrev vf (X:Cx)(E:XK)(e:Expr)(f:zi):Prop:=PT X e (vC X.K E f)
section
variable {X:Cx}{E:XK}{m:Option Bool}{a b e o i:Expr}{es:Yj}{fe fa fb fo fi:FE}{ft:FT}{vo vi ve:FV}{fr:yd}{pos pos':Pos}
def vL (f:FE):FV:=λsd hp=>(Wr.of (f sd)).bind λd=>.ok (d,hp)
def J9 (h:QE X E e fe):QV X E e (vL fe):=PE.weak h λZ H Q ⟨B,f,F,sd,hp,t,n⟩=>⟨f,F,sd,t.rs,xN n (λd g v j l c p=>g v f j l c.ff (t.go c.ff (t.rs.step c)) p) λ_ _ q=>q.ext (t.ext0 t.rs.ext)⟩
def f8 (f:FT):zi:=λsd hp=>(Wr.of (f sd)).bind λd=>.ok (d,hp)
def Fu (h:QT X E e ft):vf X E e (f8 ft):=PT.weak h λZ H Q ⟨B,f,F,sd,hp,t,n⟩=>⟨f,F,sd,t.rs,xN n (λd g j l c=>g f j l c.ff (t.go c.ff (t.rs.step c))) λ_ _ q=>q.ext (t.ext0 t.rs.ext)⟩
def qW (k:Nat)(is:Yg)(f:FE):FV:=λsd hp=>(Wr.of (f (drI k hp is sd)).strict).bind λd=>if Kx 8 d then .ok (d,hp) else .no
def KL (k:Nat)(is:Yg)(h:QE X E e fe):QV X E e (qW k is fe):=PE.weak h λZ H Q g=>by
 obtain⟨B,j,F,sd,hp,t,n⟩:=g;obtain⟨z,l,p⟩:=t.frzA;refine⟨B,_,_,l.drI p k is,(Res.need_strict (jv.mp (Wr.need_bind.mp n))).mono (λd f v A r s u=>?_) λc fs q=>q⟩
 split at f
 .rename_i w;obtain⟨x,y,k2⟩:=t.thaw s;exact f v j _ r y x (ya k2 8 d v w u)
 .exact f.elim
def qP (k:Nat)(is:Yg)(f:FT):zi:=λsd hp=>(Wr.of (f (drI k hp is sd)).strict).bind λd=>.ok (d,hp)
def Xl (k:Nat)(is:Yg)(h:QT X E e ft):vf X E e (qP k is ft):=PT.weak h λZ H Q f=>by
 obtain⟨B,g,F,sd,hp,t,n⟩:=f;obtain⟨w,j,l⟩:=t.frzA;refine⟨B,_,_,j.drI l k is,(Res.need_strict (jv.mp (Wr.need_bind.mp n))).mono (λd p x r s=>?_) λc fs q=>q⟩;obtain⟨u,v,k2⟩:=t.thaw s;exact p g _ r v u
def xf (o:D)(q:D×HP):Wr (D×HP):=match o with
 | .adr a=>match Tq q.2 a with
  |some (.lst es)=>(Wr.of (.ofO (T7 (.lst es) q.1))).bind λz=>.ok (z,q.2)
  |_=>.no
 |_=>.no
def ye (fo fi:FV):FV:=λsd hp=>(fo sd hp).bind λp=>(fi sd p.2).bind (xf p.1)
def W4 (l:QV X E o vo)(r:QV X E i vi)(s:BH i):QV X E (.Subscript o i pos) (ye vo vi):=PE.weak (Ek mY l r s) λZ H Q u=>by
 obtain⟨B,A,F,sd,hp,t,n⟩:=u;refine⟨B,A,F,sd,hp,t,jg n λp C v G I H1 J K f=>⟨B,G,I,sd,p.2,K,jg C λq c w L M N O g P=>?_⟩⟩;unfold xf at c
 split at c
 .rename_i a d;rw[d] at f;obtain rfl:=TR.mp f
  split at c
  .rename_i es R;obtain⟨xs,S,T⟩:=g.lies R;obtain⟨z,h,k⟩:=Tu (jv.mp (Wr.need_bind.mp c));obtain⟨y,U⟩:=q;cases y with
   |int j =>
    obtain⟨x,hx,Y⟩:=Cd T (show j0 es j=some z from h);exact⟨a,xs,j,x,rfl,Tr.mp P,jL.of S,hx,k _ L M N (J.trans O) g Y⟩
   |_=>exact Jy h
  .exact c.elim
 .exact c.elim
def Z5 (c f:Str)(p:D×HP):Wr (D×HP):=match p.1 with
 | .adr a=>match Tq p.2 a with
  |some d=>(Wr.of (.ofO (TF c f d))).bind λz=>.ok (z,p.2)
  |_=>.no
 |_=>.no
def zE (c f:Str)(fo:FV):FV:=λsd hp=>(fo sd hp).bind (Z5 c f)
def Fv {c f:Str}{C:Addr}{fs:Yh}(k:ClsD X.K X.mg c C fs)(y:f∈fs)(A:QV X E e ve)(G:attributeBase e f X.env (eval e X.env)=eval e X.env:=by rfl):QV X E (.Attribute e f pos) (zE c f ve):=PE.weak (DW A G) λZ H Q I=>by
 obtain⟨B,J,F,sd,hp,t,n⟩:=I;refine⟨B,J,F,sd,hp,t,jg n λp g v K L M N l r=>?_⟩;unfold Z5 at g
 split at g
 .rename_i a h;rw[h] at r;obtain rfl:=TR.mp r
  split at g
  .rename_i d O;have P:=l.lies O;obtain⟨z,s,q⟩:=Tu (jv.mp (Wr.need_bind.mp g));cases d with
   |ins u gs ds =>
    have hw:(if u=c then yM f gs ds else none)=some z:=s;by_cases j:u=c
    .rw[Zd j] at hw;subst j;obtain⟨C',R,xs,w,S,T,U⟩:=P;rw[k.ns] at w;cases w;obtain⟨x,Y,h2⟩:=C0 U T hw;exact⟨a,C,R,_,x,rfl,S,k.cls,k.no f y,Y,q _ K L M N l h2⟩
    .rw[Ze j] at hw;exact Jy hw
   |_=>exact Jy s
  .exact g.elim
 .exact g.elim
def TZ:yd:=λ_ hp=>.ok ([],hp)
def J3 (f:FV)(g:yd):yd:=λsd hp=>(f sd hp).bind λp=>(g sd p.2).bind λq=>.ok (p.1::q.1,q.2)
def Kf:wO X E [] TZ:=PA.weak WS λZ H Q ⟨B,c,F,sd,hp,t,n⟩=>n [] c F H (.refl _) t .nil
def Qd (d:QV X E e ve)(f:wO X E es fr)(g:starEach (e::es) X.env=(false,eval e X.env)::starEach es X.env:=by rfl):wO X E (e::es) (J3 ve fr):=PA.weak (WT d f g) λZ H Q h=>by
 obtain⟨B,j,F,sd,hp,t,n⟩:=h;refine⟨B,j,F,sd,hp,t,jg n λp l v r s K u w x=>⟨B,r,s,sd,p.2,w,jg l λq y z A C G c I J=>?_⟩⟩;exact y (v::z) A C G (u.trans c) I (.mk (IsD.same c _ _ x) J)
def jm (fr:yd):FV:=λsd hp=>(fr sd hp).bind λp=>if p.1.length<=1000 then .new p.2 λa=>.ok (.adr a,(a,.lst p.1)::p.2) else .no
def V3 (h:wO X E es fr):QV X E (.List es pos) (jm fr):=PE.weak (DZ h) λZ H Q g=>by
 obtain⟨B,j,F,sd,hp,t,n⟩:=g;refine⟨B,j,F,sd,hp,t,jg n λp c l y r z s u f=>?_⟩
 split at c
 .rename_i A;have C:=f.length;refine⟨small (),λq v=>?_⟩;obtain⟨w,x⟩:=u.newO (d:=.lst p.1) v ⟨l,JC,f⟩;exact c q w _ _ r _ s x (TR.mpr rfl)
 .exact c.elim
def zw (K:W.Frag)(f:Yt->HP->Wr (D×HP)):Sp:=λg H Q _=>∃F ds hp,Tx F H/\IsDs K F ds g/\wR K F H hp/\(f ds hp).need (λp=>∀v c d,ExtV K F H hp c d p.2->IsD K c p.1 v->Q v d) (XW K E0 F (qG H hp))
def Wj (c:Yt->HP->Wr (D×HP))(fr:yd):FV:=λsd hp=>(fr sd hp).bind λp=>c p.1 p.2
def AK {d:Str}{k:Nat}{ps:Yh}{g:Yt->HP->Wr (D×HP)}{p:Pos}(c:za X.prog X.w X.K X.mg X.base d k ps (zw X.K g))(l:Room k X.A)(r:Gl X d)(s:wO X E0 (e::es) fr)
 (h:(d == ("__debug__" : Str))=false:=by decide) (u:starEach (e::es) X.env=(false,eval e X.env)::starEach es X.env:=by rfl) (j:(backTo pos (starEach es X.env)).any (·.1)=false:=by rfl):
 QV X E0 (.Call (.Name d p) (e::es) [] pos) (Wj g fr):=PE.weak (X4 c l r s h u j) λZ H Q x=>by
 obtain⟨B,y,F,sd,hp,t,n⟩:=x;refine⟨B,y,F,sd,hp,t,jg n λp z A P C G I f J=>?_⟩;show zw X.K g (A++[]) G Q E0;rw[ZA];refine⟨C,p.1,p.2,f.rs.ext.fh,J,f.lent,z.mono (λq K v L M w i=>?_) λ_ _ q=>q.ext f.hidden⟩;obtain⟨N,O⟩:=f.callV w;exact K v N L M (I.trans w.ff) O i
end
inductive Out3 where
 |next (sd:SD) (hp:HP)|ret (d:D) (hp:HP)|brk (sd:SD) (hp:HP)|cont (sd:SD) (hp:HP)
def wq (K:W.Frag)(B:Bs)(F:Hp)(T:Ends):Out3->Prop
 | .next sd hp=>∀Z c a b,Tx F a->RT K B c a b sd hp Z -> T.nx Z b
 | .brk sd hp=>∀Z c a b,Tx F a->RT K B c a b sd hp Z -> T.bk Z b
 | .cont sd hp=>∀Z c a b,Tx F a->RT K B c a b sd hp Z -> T.ct Z b
 | .ret d hp=>∀v Z sd c a b,Tx F a->RT K B c a b sd hp Z -> IsD K a d v->T.rt v b
def wq.mono {K:W.Frag}{B:Bs}{F f:Hp}{T:Ends}{o:Out3}(h:wq K B F T o)(e:Tx F f):wq K B f T o:=by
 cases o with
 |next sd hp=>exact λZ a b c s r=>h Z a b c (e.trans s) r
 |brk sd hp=>exact λZ a b c s r=>h Z a b c (e.trans s) r
 |cont sd hp=>exact λZ a b c s r=>h Z a b c (e.trans s) r
 |ret d hp=>exact λv Z sd a b c s r i=>h v Z sd a b c (e.trans s) r i
abbrev j6:=SD->HP->Wr Out3
def bA (K:W.Frag)(E:XK)(g:j6):TS:=λT Z H=>∃B a F sd hp,RT K B a F H sd hp Z /\ (g sd hp).need (wq K B F T) (XW K E B.F0 B.H0)
abbrev VS (X:Cx)(E:XK)(st:Stmt)(g:j6):Prop:=PS X st (bA X.K E g)
abbrev zB (X:Cx)(E:XK)(st:List Stmt)(g:j6):Prop:=qx X st (bA X.K E g)
def b6 (hp:HP):Out->Wr Out3
 | .next sd=>.ok (.next sd hp)
 | .ret _=>.no
 | .brk sd=>.ok (.brk sd hp)
 | .cont sd=>.ok (.cont sd hp)
section
variable {X:Cx}{E:XK}{m:Option Bool}{st:Stmt}{sts:List Stmt}{g:FS}{g1 g2:j6}{pos pos':Pos}{o i e:Expr}{vo vi ve:FV}
def zL (g:FS):j6:=λsd hp=>(Wr.of (g sd)).bind (b6 hp)
def XF (h:QS X E m st g):VS X E st (zL g):=PS.weak h λT Z H ⟨B,j,F,sd,hp,t,n⟩=>⟨j,F,sd,t.rs,xN n (λo l=>by
 cases o with
 |next a=>exact λb c f s r=>l b j c f s (t.go s r)
 |brk a=>exact λb c f s r=>l b j c f s (t.go s r)
 |cont a=>exact λb c f s r=>l b j c f s (t.go s r)
 |ret d=>exact l.elim) λ_ _ q=>t.xw q⟩
def KS:j6:=λsd hp=>.ok (.next sd hp)
def zK (g2:j6):Out3->Wr Out3
 | .next a hp'=>g2 a hp'
 |o=>.ok o
def TV (g1 g2:j6):j6:=λsd hp=>(g1 sd hp).bind (zK g2)
def W5:zB X E [] KS:=qx.weak B7 λT Z H ⟨B,a,F,sd,hp,t,n⟩=>n Z a F H (.refl _) t
def Q8 (h:VS X E st g1):zB X E [st] g1:=Ag h
def Qi (c:VS X E st g1)(f:zB X E sts g2):zB X E (st::sts) (TV g1 g2):=qx.weak (B8 c f) λT Z H h=>by
 obtain⟨B,j,F,sd,hp,t,n⟩:=h;refine⟨B,j,F,sd,hp,t,jg n λo b=>?_⟩;cases o with
 |next a hp'=>exact λu l p v s r=>⟨B,l,p,a,hp',r,b.mono (λo q=>q.mono s) λ_ _ q=>q⟩
 |ret d hp'=>exact b
 |brk a hp'=>exact b
 |cont a hp'=>exact b
def qz (f:FV):j6:=λsd hp=>(f sd hp).bind λp=>.ok (.ret p.1 p.2)
def Wk (h:QV X E e ve):VS X E (.Return (some e) pos) (qz ve):=PS.weak (Ah h) λT Z H ⟨B,a,F,sd,hp,t,n⟩=>⟨B,a,F,sd,hp,t,jg n λp b v c d f j l q=>b v Z sd c d f j l q⟩
def AL (f:FV):j6:=λsd hp=>(f sd hp).bind λp=>.ok (.next sd p.2)
def Ob (h:QV X E e ve)(a:swapsWith e none pos.line X.env=pure false:=by rfl):VS X E (.Expr e pos) (AL ve):=PS.weak (X0 h a) λT Z H ⟨B,b,F,sd,hp,t,n⟩=>⟨B,b,F,sd,hp,t,jg n λp c v d f j l q r=>c Z d f j l q⟩
def qd (i:Nat)(f:FV):j6:=λsd hp=>(f sd hp).bind λp=>.ok (.next (sd.set i (~~~(p.1))) p.2)
def VU {i:Nat}{x:Str}{a:Pos}(c:X.N.Nodup)(d:X.N[i]? = some x)(hx:xY X.env.scope x)(f:QV X E e ve)(h:swapsWith e (some (.Name x pos')) a.line X.env=pure false:=by rfl)(j:X.fn x=true\/X.env.scope.names.lookup x=some .local:=by trivial):
 VS X E (.Assign [.Name x pos'] e a) (qd i ve):=PS.weak (B9 c d hx f h j) λT Z H l=>by
 obtain⟨B,q,F,sd,hp,t,n⟩:=l;refine⟨B,q,F,sd,hp,t,jg n λp r v s u w y b z=>?_⟩;exact r _ s u w y (b.go (.refl _) (b.rs.setVal z))
def Kg (c:zi)(g1 g2:j6):j6:=λsd hp=>(c sd hp).bind λp=>if p.1 then g1 sd p.2 else g2 sd p.2
def VV {c:Expr}{a b:List Stmt}{f:zi}(u:vf X E c f)(v:zB X E a g1)(w:zB X E b g2):VS X E (.If c a b pos) (Kg f g1 g2):=PS.weak (DI u v w) λT Z H x=>by
 obtain⟨B,y,F,sd,hp,t,n⟩:=x;refine⟨B,y,F,sd,hp,t,jg n λp h j l z r s=>?_⟩;obtain⟨b,d⟩:=p;cases b with
 |true=>exact⟨B,j,l,sd,d,s,(show(g1 sd d).need _ _ from h).mono (λ_ q=>q.mono r) λ_ _ q=>q⟩
 |false=>exact⟨B,j,l,sd,d,s,(show(g2 sd d).need _ _ from h).mono (λ_ q=>q.mono r) λ_ _ q=>q⟩
def Wl (sd:SD)(a:Addr)(q:D×HP):Wr Out3:=match Tq q.2 a with
 |some (.lst es)=>if es.length<sizeLine then .ok (.next sd (JD q.2 a (.lst (es++[q.1])))) else .no
 |_=>.no
def Xm (b:FV)(sd:SD)(p:D×HP):Wr Out3:=match p.1 with
 | .adr a=>match Tq p.2 a with
  |some (.lst _)=>(b sd p.2).bind (Wl sd a)
  |_=>.no
 |_=>.no
def qa (a b:FV):j6:=λsd hp=>(a sd hp).bind (Xm b sd)
def W6 {b c:Pos}(A:QV X E o vo)(C:QV X E e ve)
 (hp:∀{s:TE} {t:TA},PE X o s->PA X [e] t->PE X (.Call (.Attribute o "append" b) [e] [] c) (wx X.K "list" BI s t))
 (G:swapsWith (.Call (.Attribute o "append" b) [e] [] c) none pos.line X.env=pure false:=by rfl)
 (h:starEach [e] X.env=(false,eval e X.env)::starEach [] X.env:=by rfl):VS X E (.Expr (.Call (.Attribute o "append" b) [e] [] c) pos) (qa vo ve):=
 PS.weak (X0 (hp A (WT C WS h)) G) λT Z H I=>by
  obtain⟨B,J,F,sd,hp,t,n⟩:=I;refine⟨B,J,F,sd,hp,t,jg n λp d v K L R M u x=>?_⟩;unfold Xm at d
  split at d
  .rename_i a j;rw[j] at x;obtain rfl:=TR.mp x
   split at d
   .rename_i N l;obtain⟨r,k1,k2⟩:=u.lies l;refine⟨.inl ⟨rfl,r,jL.of k1⟩,B,K,L,sd,p.2,u,jg d λq f w S O U P y Q=>?_⟩;unfold Wl at f
    split at f
    .rename_i es z
     split at f
     .rename_i Y;obtain⟨xs,g1,g2⟩:=y.lies z;have hl:=g2.length;refine⟨a,xs,w,rfl,rfl,g1,(),?_⟩;exact f Z _ O _ (M.trans P) (y.chg z ⟨xs++[w],JC,g2.snoc Q⟩)
     .exact f.elim
    .exact f.elim
   .exact d.elim
  .exact d.elim
def W7 (sd:SD)(d:D)(a:Addr)(q:D×HP):Wr Out3:=match Tq q.2 a with
 |some (.lst es)=>match q.1 with
  | .int k=>match yn es.length k with
   |some j=>.ok (.next sd (JD q.2 a (.lst (es.set j d))))
   |none=>.no
  |_=>.no
 |_=>.no
def AM (b:FV)(sd:SD)(d:D)(p:D×HP):Wr Out3:=match p.1 with
 | .adr a=>(b sd p.2).bind (W7 sd d a)
 |_=>.no
def yB (a b c:FV):j6:=λsd hp=>(c sd hp).bind λp=>(a sd p.2).bind (AM b sd p.1)
def C6 (A:QV X E o vo)(C:QV X E i vi)(G:QV X E e ve)(c:∀v,assign (.Subscript o i pos') X.env v=(do
 let d <- holding [v] (eval o X.env)
 let h <- holding [v,d] (eval i X.env)
 standAt pos'
 holding [v,d,h] (setItem d h v)
 release [v,d,h] []):=by intro _;rfl) (I:swapsWithSole [.Subscript o i pos'] e pos.line X.env=pure false:=by rfl) (hw:swappedStores [.Subscript o i pos'] e X.env=pure none:=by rfl)
 (J:(assignEach [.Subscript o i pos'] X.env).map (·.2)=[assign (.Subscript o i pos') X.env]:=by rfl):VS X E (.Assign [.Subscript o i pos'] e pos) (yB vo vi ve):=PS.weak (Ip G (Io A C Ln c) I hw J) λT Z H K=>by
 obtain⟨B,L,F,sd,hp,t,n⟩:=K;refine⟨B,L,F,sd,hp,t,jg n λp M v N O H1 P Q R=>⟨B,N,O,sd,p.2,Q,jg M λS f v2 U Y H2 s t2 u=>?_⟩⟩;unfold AM at f
 split at f
 .rename_i a l;rw[l] at u;obtain rfl:=TR.mp u;refine⟨B,U,Y,sd,S.2,t2,jg f λq b w B3 F3 H3 x y z=>?_⟩;unfold W7 at b
  split at b
  .rename_i es c
   split at b
   .rename_i k r;rw[r] at z
    split at b
    .rename_i j hk;obtain⟨xs,g1,g2⟩:=y.lies c;have hl:=g2.length;refine⟨a,xs,k,j,rfl,Tr.mp z,g1,by rw[hl];exact hk,?_⟩;exact b Z _ F3 _ ((P.trans s).trans x) (y.chg c ⟨_,JC,g2.set j (IsD.same (s.trans x) _ _ R)⟩)
    .exact b.elim
   .exact b.elim
  .exact b.elim
 .exact f.elim
def jN (b:D->j6):Yt->j6
 | [],sd,hp=>.ok (.next sd hp)
 |x::xs,sd,hp=>(b x sd hp).bind λo=>match o with
  | .next a hp'=>jN b xs a hp'
  | .cont a hp'=>jN b xs a hp'
  | .brk a hp'=>.ok (.next a hp')
  | .ret d hp'=>.ok (.ret d hp')
def QH (tg:Tg)(b:j6)(x:D):j6:=λsd hp=>(Wr.of (JY tg x sd)).bind λs=>b s hp
def xH (it:FA)(tg:Tg)(b:j6):j6:=λsd hp=>(Wr.of (it sd)).bind λds=>jN (QH tg b) ds sd hp
def Oc {T:Ends}{B B1:Bs}{z H1:Hp}{sd:SD}{hp:HP}{Z: St}{t:Tg}{J:It}{ds:Yt}(wk:xO X.K z J ds)(r:RT X.K B B1 z H1 sd hp Z)(n1:(jN (QH t g1) ds sd hp).need (wq X.K B z T) (XW X.K E B.F0 B.H0)):
 ∃W:Nat->Nat->St->Hp->Prop,(∃m,W 0 m Z H1)/\∀i m' Z H,W i m' Z H->(J.stop i H/\T.nx Z H)\/(J.go i H/\∃N:St->Hp->Prop,(∀A l,N A l->∃m2,m2<m'/\W (i+1) m2 A l)/\∀x l,J.yld i H x l->gT t X.K x Z l λP K=>bA X.K E g1 { T with nx:=N,ct:=N,bk:=T.nx } P K):=by
 refine⟨λi k Z H=>k=ds.length-i/\i<=ds.length/\∃L C sd hp,Tx z C/\RT X.K B L C H sd hp Z /\ (jN (QH t g1) (ds.drop i) sd hp).need (wq X.K B C T) (XW X.K E B.F0 B.H0),
  ⟨ds.length,rfl,Ug _,B1,z,sd,hp,.refl _,r,n1⟩,?_⟩
 rintro i k P K ⟨rfl,hi,L,C,Q,R,S,M,F⟩;obtain⟨w1,w2⟩:=wk i C K S M.rs.ext.fh;by_cases c:i<ds.length
 .obtain⟨go,yl⟩:=w1 c;refine .inr ⟨go,λA l=>∃U p f h,Tx z p/\RT X.K B U p l f h A/\(jN (QH t g1) (ds.drop (i+1)) f h).need (wq X.K B p T) (XW X.K E B.F0 B.H0),
   λA l ⟨U,p,f,h,q1,q2,q3⟩=>⟨ds.length-(i+1),(),rfl,c,U,p,f,h,q1,q2,q3⟩,λx H3 y=>?_⟩
  obtain⟨d,p,hd,n,i3⟩:=yl x H3 y;rw[UU c] at F;have Y:ds[i]=d:=by rw[Zqg c] at hd;exact Zqi hd
  rw[Y] at F;have r3:=M.go n.ff (M.rs.step n);unfold jN at F;have n3:(JY t d Q).need _ _:=jv.mp (Wr.need_bind.mp (Wr.need_bind.mp F));refine Ax r3.rs i3 n3 λsd' A n4 _ r4=>?_;refine⟨B,L,p,sd',R,r3.go (.refl _) r4,n4.mono (λo O=>?_) λ_ _ q=>q⟩;cases o with
  |next a b=>exact λG s u I j w=>⟨s,u,a,b,(S.trans n.ff).trans j,w,O.mono (λ_ q=>q.mono (n.ff.trans j)) λ_ _ q=>q⟩
  |cont a b=>exact λG s u I j w=>⟨s,u,a,b,(S.trans n.ff).trans j,w,O.mono (λ_ q=>q.mono (n.ff.trans j)) λ_ _ q=>q⟩
  |brk a b=>exact λG s u I j w=>O G s u I (n.ff.trans j) w
  |ret d b=>exact λv G a s u I j w i5=>O v G a s u I (n.ff.trans j) w i5
 .have he:i=ds.length:=()
  refine .inl ⟨w2 (),?_⟩;subst he;rw[Vh] at F;exact F P L C K (.refl _) M
def Fw {tg a:Expr}{b:List Stmt}{it:FA}{t:Tg}(hp:PassesOwn (model X.prog X.w) X.A X.env X.xe)(f:X.calm=true)(h:QI X E tg a it)(j:QG X tg t)(l:zB X E b g1)
 (c:∀x,foldedSetIterable a X.env x=pure x:=by intro _;rfl):VS X E (.For tg a b [] pos) (xH it t g1):=PS.weak (DK hp f h j l c) λT Z H p=>by
 obtain⟨B,s,F,sd,hp,r,n⟩:=p;refine⟨s,F,sd,r.rs,xN n (λds u J w y d v=>?_) λ_ _ q=>q.ext (r.ext0 r.rs.ext)⟩;exact Oc v (r.go d.ff (r.rs.step d)) (u.mono (λ_ q=>q.mono d.ff) λ_ _ q=>q)
end
def ju:Out3->Wr (D×HP)
 | .ret d hp=>.ok (d,hp)
 | .next _ hp=>.ok (.non,hp)
 |_=>.no
def xh (n a:Nat)(g:j6)(ds:Yt)(hp:HP):Wr (D×HP):=if ds.length=a then((g (Qw n ds) hp).bind ju).bind λp=>if hp.all λz=>(Tq p.2 z.1).isSome then .ok p else .no else .no
section
variable {P:Program}{w:World}{K:W.Frag}{mg:Yc}{base:Heap}{x qual:Str}{st:Stmt}{f:Addr}{fd:FuncData}{N ps:Yh}{k:Nat}
theorem Fx:∀{hp:HP} {a:Addr} {d:D},Tq hp a=some d->∃z∈hp,z.1=a
 | [],a,d,h=>by cases h
 |p::r,a,d,h=>by
  rw[JT] at h;by_cases z:a=p.1
  .exact⟨p,Zqs,z.symm⟩
  .rw[Ze z] at h;obtain⟨y,b,c⟩:=Fx h;exact⟨y,Zqm _ b,c⟩
def zp {g:j6}(F:Fun K x qual st f fd)(S:FnScope N ps (JP st))
 (T:∀(l:Value) (A:Around) (b:List Env) (s:Shared) (H:Hp) (E:XK),Room k (A.deeper (envOfC qual (JP st) s.heap.objs.size f l))->zB (jt xa P w K mg base N qual (JP st) f l A b s H E).nox E0 (Kc st) g):
 FnOk P w K mg base xa (k+1) f fd ps (zw K (xh N.length ps.length g)):=by
 refine F.ok S (λM H Q E ⟨F,ds,hp,_,i,_,n⟩=>?_) λl A b s H M Q E U ⟨F,ds,hp,X,i,O,n⟩=>⟨_,T l A b s H E U,?_⟩
 .unfold xh at n
  split at n
  .rw[i.length];assumption
  .exact n.elim
 .unfold xh at n
  split at n
  .have t:RT K ⟨F,qG H hp,λ_=>none⟩ ⟨F,H,λ_=>none⟩ F H (Qw N.length ds) hp (L2.start N M):=⟨RS.start X i,rfl,rfl,λa m=>(VT m).symm,λa d m=>⟨(O a d m).1,C4 m,(O a d m).2⟩⟩;have B:∀{d:D} {hp':HP} {v:V} {I:St} {c:SD} {J:Bs} {h r:Hp},(Wr.need (if hp.all λz=>(Tq hp' z.1).isSome then(.ok (d,hp'):Wr (D×HP)) else .no) (λp=>∀v h r,ExtV K F H hp h r p.2->IsD K h p.1 v->Q v r) (XW K E0 F (qG H hp))) ->
    Tx F h->RT K ⟨F,qG H hp,λ_=>none⟩ J h r c hp' I->IsD K h d v->Q v r:=λ{d hp' v I c J h r} u C j L=>by
    split at u
    .rename_i Y;have G:∀a,Tq hp' a=none->Tq hp a=none:=λa m=>by
      cases z:Tq hp a with
      |none=>rfl
      |some d0 =>
       obtain⟨y,Z,y2⟩:=Fx z;have:=Uq.mp Y y Z;rw[y2,m] at this;cases this
     have e:=j.ext0 j.rs.ext;refine u v h r ⟨C,j.rs.ext.fh,λa o m q=>e.hh a o ((VT m).trans q),λa h0 h1=>?_,j.lent,G,λa z y=>?_⟩ L
     .cases z:Tq hp a with
      |none=>exact e.new a h0 λy=>h1 ((VT z).symm.trans y)
      |some d =>
       cases y:Tq hp' a with
       |none=>rw[G a y] at z;cases z
       |some d'=>exact j.free y
     .cases R:Tq hp' a with
      |none=>exact Zn R y
      |some d' =>
       have:=(j.obj a d' R).2.1;rw[<- VT (H:=H) z];exact this
    .exact u.elim
   refine⟨_,_,F,_,hp,t,jg (Wr.need_bind.mp n |> λq=>Wr.need_bind.mpr q |> λq=>(Wr.need_bind.mp q)) λo u=>?_⟩;cases o with
   |next c hp'=>exact λI J h r C j=>B u C j (TH.mpr rfl)
   |ret d hp'=>exact λv I c J h r C j L=>B u C j L
   |brk c hp'=>exact u.elim
   |cont c hp'=>exact u.elim
  .exact n.elim
def k9 {g:j6}{h:Yt->Res D}{kk:Nat}(F:Fun K x qual st f fd)(S:FnScope N ps (JP st))
 (hw:∀ds d,h ds=.ok d->ds.length=ps.length/\((g (Qw N.length ds) []).bind ju).need (λp=>dr p.2 kk p.1=d) λ_ _=>False) (hx:∀ds,∀c fs,h ds ≠ .ex c fs)
 (I:∀(e:Value) (A:Around) (a:List Env) (s:Shared) (H:Hp) (E:XK),Room k (A.deeper (envOfC qual (JP st) s.heap.objs.size f e))->zB (jt xa P w K mg base N qual (JP st) f e A a s H E).nox E0 (Kc st) g):
 FnOk P w K mg base xa (k+1) f fd ps (qU K h):=by
 refine F.ok S (λJ H Q E ⟨F,ds,_,i,n⟩=>?_) λe A a s H J Q E L ⟨F,ds,M,i,n⟩=>⟨_,I e A a s H E L,?_⟩
 .cases q:h ds with
  |ok d=>rw[i.length];exact(hw ds d q).1
  |ex c fs=>exact Zn q (hx ds c fs)
  |no=>rw[q] at n;exact n.elim
 .cases q:h ds with
  |ex c fs=>exact Zn q (hx ds c fs)
  |no=>rw[q] at n;exact n.elim
  |ok d =>
   rw[q] at n;have n:xu K F H Q d:=n;have t:=RT.start (RS.start (N:=N) M i);have j:∀{d':D} {hp':HP} {v:V} {u:St} {b:SD} {y:Bs} {l m:Hp},dr hp' kk d'=d->RT K ⟨F,H,λ_=>none⟩ y l m b hp' u->IsD K l d' v->Q v m:=λ{d' hp' v u b y l m} O r C=>by
    obtain⟨G,R,T⟩:=r.frzA;have:=IsD.dr T kk d' v (IsD.same G _ _ C);rw[O] at this;exact n v _ _ R.ext this
   refine⟨_,_,F,_,[],t,(Wr.need_bind.mp (hw ds d q).2).mono (λo B=>?_) λ_ _ z=>z.elim⟩;cases o with
   |next b hp'=>exact λu y l m G r=>j B r (TH.mpr rfl)
   |ret d hp'=>exact λv u b y l m G r C=>j B r C
   |brk b hp'=>exact B.elim
   |cont b hp'=>exact B.elim
end
end L2.DL
namespace L2
def wS (lo c:Int)(n:Nat):It:=⟨λi _=>i<n,λi H x a=>a=H/\x=.int (lo+i*c),λi _=>n<=i⟩
def Od {P:Program}{w:World}{K:PySem.W.Frag}{tg:Expr}(it:Addr)(lo c:Int)(n:Nat):Turn P w K tg (wS lo c n) [it] it (λi h=>IsRangeIter h it (lo+(i:Nat)*c) ((n:Int)-(i:Nat)) c) where
 mem:=by simp
 obj:=λi h st b a=>by
  have e:b=it:=by simpa using a
  subst e;exact⟨_,st,λv z=>by
   have y:Data.fields _=Data.cell v:=z;cases y⟩
 keep:=λi h h' st k=>k it () _ st
 item:=by
  intro X g hw j l i Y s Z H E I f st m;subst g hw j;obtain⟨p,q,A,r,u,x⟩:=f it ();have W:=Walks.range (prog:=X.prog) (w:=X.w) (I.ok.hd l) it lo c n;refine W.item i s _ _ m st λv h' tk B d kk=>?_;obtain⟨t,rfl⟩:=B;have C:Inv X Y Z H { s with heap:=h',toks:=tk }:=I.turned (λb o a e=>kk b o (by simpa using a) e) p q r u x;exact⟨_,rfl,Y9 (s:={ s with heap:=h',toks:=tk }) (n:= "range_iterator") d rfl rfl (by decide) ⟨.int (lo+i*c),H,C,⟨t,rfl⟩,⟨rfl,rfl⟩,d,λb a=>(f b a).1⟩⟩
 done:=by
  intro X g hw j l i Y s Z H E I f st m;subst g hw j;obtain⟨p,q,A,r,u,x⟩:=f it ();exact wpAny_pyNext_range_end (I.ok.hd l) st (by have:n<=i:=m;lia) λh' F=>⟨rfl,I.turned (t':=s.toks) (λb o a e=>F b o a e) p q r u x⟩
 self:=λ_ _ _ _ _ st h=>wpAny_pyIter_rangeiter st h
section
variable {X:Cx}{tg:Expr}
def Oe {a b:Int}(e: -1000000000<=a)(c:a<=1000000000)(f: -1000000000<=b)(d:b<=1000000000):Builtin.Range.small a b 2=true:=by
 unfold Builtin.Range.small Builtin.Range.rangeSize;simp only[Builtin.Range.rangeFitsLong,Ub,Ut,decide_eq_true_eq,Yl,show(2:Int) > 0 by decide,if_true]
 split<;>lia
def uU (a:TA):TI:=λZ H R=>a Z H λb c=>∃i j:Int,b=[.int i,.int j,.int 2]/\(-1000000000<=i/\i<=1000000000 /\ -1000000000<=j/\j<=1000000000)/\R (wS i 2 ((j-i+1) / 2).toNat) c
def Og {a b c:Expr}{x:TA}{p f:Pos}(z:Gl X "range")(A:X.mg "range" = none)(B:PA X [a,b,c] x)(C:starEach [a,b,c] X.env=[(false,eval a X.env),(false,eval b X.env),(false,eval c X.env)]:=by rfl)(g:starEach [b,c] X.env=[(false,eval b X.env),(false,eval c X.env)]:=by rfl):
 PI X tg (.Call (.Name "range" p) [a,b,c] [] f) (uU x):=by
 intro Y s Z H R I h;refine Call_ (WR I z A boot_range (PyProof.Rows.callWith_type1 (TQ (B f Y s Z H _ I h) λus d ⟨P,y,E,F,m⟩=>?_) (by rw[C,g]) (by rw[g];rfl)));obtain⟨i,j,e,⟨m,G,J,K⟩,q⟩:=m;subst e;cases F with
 |cons r l =>
  cases l with
  |cons L l =>
   cases l with
   |cons n l =>
    cases l;obtain⟨t,rfl⟩:=r;obtain⟨u,rfl⟩:=L;obtain⟨v,rfl⟩:=n;refine call_range_3 (by decide) ?_ (.inl (PyProof.noPylong_of_log2 (by decide)));refine wpAny_pyIter_range (IsRange.new ..) (Oe m G J K) ?_;have w:Inv X Y Z y { d with heap:=d.heap.push { cls:=.type "range",data:=.fields #[.int i t,.int j u,.int 2 v] },toks:=d.toks }:=E.kept λb o e=>Zq _ e;refine⟨(d.heap.push { cls:=.type "range",data:=.fields #[.int i t,.int j u,.int 2 v] }).objs.size,[(d.heap.push { cls:=.type "range",data:=.fields #[.int i t,.int j u,.int 2 v] }).objs.size],_,_,y,rfl,
     w.kept (t':=d.toks) λb o e=>Zq _ e,Od _ i 2 ((j-i+1) / 2).toNat,?_,λb M=>?_,q⟩
    .have N:i+((0:Nat):Int)*2=i:=by simp
     have O:((((j-i+1) / 2).toNat:Nat):Int)-((0:Nat):Int)=Builtin.Range.rangeSize i j 2:=by
      unfold Builtin.Range.rangeSize;rw[Zd (by decide)]
      split<;>lia
     show IsRangeIter _ _ (i+((0:Nat):Int)*2) (((((j-i+1) / 2).toNat:Nat):Int)-((0:Nat):Int)) 2;rw[N,O];exact Zr _ rfl
    .have e:b=(d.heap.push { cls:=.type "range",data:=.fields #[.int i t,.int j u,.int 2 v] }).objs.size:=by simpa using M
     subst e;exact w.fpOk (Zf _) (w.hok.fresh (Zf _))
end
end L2
namespace L2.DL
def V4 (lo c:Int)(n:Nat):Yt:=(List.range n).map λk:Nat=>.int (lo+k*c)
def Oh {K:W.Frag}{b:Hp}(lo c:Int)(n:Nat):xO K b (wS lo c n) (V4 lo c n):=λi d h j e=>by
 have f:(V4 lo c n).length=n:=by unfold V4;rw[Zql,ZB]
 rw[f];refine⟨λa=>⟨a,λx l g=>?_⟩,λa=>a⟩;obtain⟨rfl,rfl⟩:=g;refine⟨.int (lo+i*c),d,?_,.refl e,Tr.mpr rfl⟩;unfold V4;rw[Zv,U7 a];rfl
def uW (a:FA):FA:=λsd=>(a sd).bind λds=>match ds with
 | [.int i,.int j,.int 2]=>if KQ i&&KQ j then .ok (V4 i 2 ((j-i+1) / 2).toNat) else .no
 |_=>.no
section
variable {X:Cx}{E:XK}{m:Option Bool}{tg:Expr}{p pos:Pos}{fr:FA}
def Oi {a b c:Expr}(l:Gl X "range")(o:X.mg "range" = none)(s:QA X E [a,b,c] fr)(t:starEach [a,b,c] X.env=[(false,eval a X.env),(false,eval b X.env),(false,eval c X.env)]:=by rfl)(e:starEach [b,c] X.env=[(false,eval b X.env),(false,eval c X.env)]:=by rfl):QI X E tg (.Call (.Name "range" p) [a,b,c] [] pos) (uW fr):=PI.weak (Og l o s t e) λZ H R u=>by
 obtain⟨B,F,sd,r,n⟩:=u;refine⟨B,F,sd,r,(Res.need_bind n).mono (λds d I v w A C=>?_) λ_ _ q=>q⟩
 split at d
 .split at d
  .rename_i i j f;obtain⟨x,J,rfl,h,G⟩:=Tv.mp C;obtain⟨y,z,rfl,h',g⟩:=A2 G;rw[Tr.mp h,Tr.mp h',Tr.mp g];rw[Ub] at f;have k1: -1000000000<=i/\i<=1000000000:=by have:=f.1;unfold KQ at this;rw[Ub,UK,UK] at this;lia
   have k2: -1000000000<=j/\j<=1000000000:=by have:=f.2;unfold KQ at this;rw[Ub,UK,UK] at this;lia
   exact⟨i,j,rfl,⟨k1.1,k1.2,k2.1,k2.2⟩,d _ v w A (Oh i 2 _)⟩
  .exact d.elim
 .exact d.elim
def K7 (c:FT)(b:FS):Nat->FS
 | 0,_=>.no
 |n+1,sd=>(c sd).bind λt=>if t then(b sd).bind λo=>match o with
  | .next a=>K7 c b n a
  | .cont a=>K7 c b n a
  | .brk a=>.ok (.next a)
  | .ret d=>.ok (.ret d) else .ok (.next sd)
def Oj {c:Expr}{e:List Stmt}{v:FT}{g:FS}(k:Nat)(hp:PassesOwn (model X.prog X.w) X.A X.env X.xe)(M:QT X E c v)(N:yT X E m e g):QS X E m (.While c e [] pos) (K7 v g k):=PS.weak (Iv hp M N) λT Z H O=>by
 obtain⟨B,F,sd,r,n⟩:=O;refine⟨λj Z H=>∃i a,Tx F i/\RS X.K B i H a Z /\ (K7 v g j a).need (yi X.K m B i T) (XW X.K E B.F0 B.H0),⟨k,F,sd,.refl _,r,n⟩,?_⟩;rintro j P R ⟨i,a,G,w,I⟩;cases j with
 |zero=>exact I.elim
 |succ j =>
  refine⟨B,i,a,w,(Res.need_bind I).mono (λt x J Q f=>?_) λ_ _ q=>q.ext w.ext⟩;cases t with
  |true =>
   rw[Zd rfl] at x;rw[Zd rfl];refine⟨λK L=>∃z l,Tx F z/\RS X.K B z L l K/\(K7 v g j l).need (yi X.K m B z T) (XW X.K E B.F0 B.H0),λK L q=>⟨j,Nat.lt_succ_self _,q⟩,B,J,a,w.step f,(Res.need_bind x).mono (λo y=>?_) λ_ _ q=>q⟩;cases o with
   |next b=>exact λA s C h u=>⟨s,b,(G.trans f.ff).trans h,u,y.mono (λ_ q=>q.mono (f.ff.trans h)) λ_ _ q=>q⟩
   |cont b=>exact λA s C h u=>⟨s,b,(G.trans f.ff).trans h,u,y.mono (λ_ q=>q.mono (f.ff.trans h)) λ_ _ q=>q⟩
   |brk b=>exact λA s C h u=>y A s C (f.ff.trans h) u
   |ret d=>exact y
  |false =>
   rw[Ze Zj] at x;rw[Ze Zj];exact x P J Q f.ff (w.step f)
def bX (K:W.Frag)(g:Str->D->Yu):V->Yr->Hp->VK->Prop:=λx b H Q=>∃F a e z v,Tx F H/\x=.str a/\b=[v]/\IsD K F e v/\g a e=some z/\xu K F H Q z
def vQ (K:W.Frag)(g:Str->D->Yu):V->Yr->Hp->VK->Prop:=λx b H Q=>∃F a e z v,Tx F H/\x=.str a/\b=[v]/\IsD K F e v/\g a e=some z/\xP K F H Q z
def TW (g:Str->D->Yu)(a b:FE):FE:=λsd=>(a sd).bind λd=>match d with
 | .str x=>(b sd).bind λe=>.ofO (g x e)
 |_=>.no
def Z8 {a id:String}{g:Str->D->Yu}{o e:Expr}{i j:FE}{b c:Pos}(A:QE X E o i)(C:QE X E e j)
 (hp:∀{l:TE} {t:TA},PE X o l->PA X [e] t->PE X (.Call (.Attribute o a b) [e] [] c) (wx X.K "str" (bX X.K g) l t)) (f:starEach [e] X.env=(false,eval e X.env)::starEach [] X.env:=by rfl):
 QE X E (.Call (.Attribute o a b) [e] [] c) (TW g i j):=PE.weak (hp A (WT C WS f)) λZ H Q G=>by
 obtain⟨B,F,sd,r,n⟩:=G;refine⟨B,F,sd,r,(Res.need_bind n).mono (λd s v I O h J=>?_) λ_ _ q=>q⟩;cases d with
 |str x =>
  obtain rfl:=IsD.str_iff.mp J;refine⟨rfl,B,I,sd,r.step h,(Res.need_bind s).mono (λy K w L P u M=>?_) λ_ _ q=>q.ext h⟩;obtain⟨z,N,q⟩:=Tu K;exact⟨L,x,y,z,w,u.fh,rfl,rfl,M,N,q.ext (h.trans u)⟩
 |_=>exact s.elim
def ZD {a id:String}{g:Str->D->Yu}{o e:Expr}{i j:FE}{b c:Pos}(A:QE X E o i)(C:QE X E e j)
 (hp:∀{l:TE} {t:TA},PE X o l->PA X [e] t->PE X (.Call (.Attribute o a b) [e] [] c) (wx X.K "str" (vQ X.K g) l t)) (f:starEach [e] X.env=(false,eval e X.env)::starEach [] X.env:=by rfl):
 QN X E (.Call (.Attribute o a b) [e] [] c) (TW g i j):=PE.weak (hp A (WT C WS f)) λZ H Q G=>by
 obtain⟨B,F,sd,r,n⟩:=G;refine⟨B,F,sd,r,(Res.need_bind n).mono (λd s v I O h J=>?_) λ_ _ q=>q⟩;cases d with
 |str x =>
  obtain rfl:=IsD.str_iff.mp J;refine⟨rfl,B,I,sd,r.step h,(Res.need_bind s).mono (λy K w L P u M=>?_) λ_ _ q=>q.ext h⟩;obtain⟨z,N,q⟩:=Tu K;exact⟨L,x,y,z,w,u.fh,rfl,rfl,M,N,q.ext (h.trans u)⟩
 |_=>exact s.elim
def W8:Yt->Option Yh
 | []=>some []
 | .str x::r=>(W8 r).map (x :: ·)
 |_=>none
theorem Fy:∀(ws:Yh),W8 (ws.map D.str)=some ws
 | []=>rfl
 |w::ws=>by
  show(W8 (ws.map D.str)).map (w :: ·)=_;rw[Fy ws];rfl
theorem Fz {K:W.Frag}{F:Hp}:∀{ds:Yt} {ws:Yh} {xs:Yr} {us:Yd},W8 ds=some ws->IsDs K F ds xs->TD xs us->∃l:List (Str×Tok),us=strValues l/\l.map (·.1)=ws
 | [],ws,xs,us,h,i,r=>by
  obtain rfl:=Zqi h;rw[IsDs.nil_iff] at i;subst i;cases r;exact⟨[],rfl,rfl⟩
 |d::ds,ws,xs,us,h,i,r=>by
  obtain⟨x,j,rfl,a,b⟩:=Tv.mp i;cases d with
  |str w =>
   obtain⟨c,e,rfl⟩:=Jg.mp (show(W8 ds).map (w :: ·)=some ws from h);obtain rfl:=IsD.str_iff.mp a;cases r with
   |cons f g =>
    obtain⟨t,rfl⟩:=f;obtain⟨l,rfl,rfl⟩:=Fz e b g;exact⟨(w,t)::l,rfl,rfl⟩
  |_=>exact Jy h
def Xn (x:Str):D->Yu
 | .lst ds=>(W8 ds).bind λws=>if JoinOk x ws then some (.str (Txt.join x ws)) else none
 |_=>none
def AN:vk X "str.join" (bX X.K Xn):=by
 intro Y s Z H x B v us Q I f g h;obtain⟨F,a,e,z,w,c,rfl,rfl,i,d,q⟩:=h;obtain⟨t,rfl⟩:=f;obtain⟨u,rfl,j⟩:=Ku g;cases e with
 |lst ds =>
  obtain⟨ws,n,b⟩:=Jh.mp (show(W8 ds).bind (λws=>if JoinOk a ws then some (.str (Txt.join a ws)) else none)=some z from d)
  split at b
  .rename_i o;obtain rfl:=Zqi b;obtain⟨p,xs,rfl,hp,r⟩:=Tw.mp i;obtain rfl:u=Value.ref p:=j;obtain⟨y,A,pl,C⟩:=I.list (hp.same c).sq;obtain⟨l,rfl,rfl⟩:=Fz n r A;exact SC.join pl.isList rfl o λt' k=>⟨.str _,H,I.tok _,⟨_,rfl⟩,q _ F H (.refl c) (IsD.str_iff.mpr rfl)⟩
  .exact Jy b
 |_=>exact Jy d
def ZE (x:Str):D->Yu
 | .str y=>some (.bl (Txt.startswith x y))
 |_=>none
def Ol:vk X "str.startswith" (bX X.K ZE):=by
 intro Y s Z H x j v us Q I c d h;obtain⟨F,a,e,z,w,f,rfl,rfl,g,b,q⟩:=h;obtain⟨t,rfl⟩:=c;obtain⟨u,rfl,i⟩:=Ku d;cases e with
 |str y =>
  obtain rfl:=Zqi b;obtain rfl:=IsD.str_iff.mp g;obtain⟨t',rfl⟩:=i;exact call_gives PySem.F.slot_str_startswith (typeIs_str _ _ _) PySem.F.entry_str_startswith (PySem.F.args_str_startswith_2 _ _) (gives_str_startswith a y t t') ⟨.bl _,H,I,rfl,q _ F H (.refl f) (Tz.mpr rfl)⟩
 |_=>exact Jy b
def KM (x:Str):D->Yu
 | .str y=>if(y.length == 0)=false/\x.length+2<=sizeLine then some (.lst ((Txt.split x y).map .str)) else none
 |_=>none
theorem F6:∀l:List (Str×Tok),TD ((l.map (·.1)).map V.str) (strValues l)
 | []=>.nil
 |p::l=>.cons ⟨p.2,rfl⟩ (F6 l)
theorem F7 {K:W.Frag}{F:Hp}:∀ws:Yh,IsDs K F (ws.map D.str) (ws.map V.str)
 | []=>.nil
 |w::ws=>.mk (IsD.str_iff.mpr rfl) (F7 ws)
def ZF:vk X "str.split" (vQ X.K KM):=by
 intro Y s Z H x M v us Q I r A h;obtain⟨F,a,e,z,w,i,rfl,rfl,B,d,q⟩:=h;obtain⟨t,rfl⟩:=r;obtain⟨u,rfl,C⟩:=Ku A;cases e with
 |str y =>
  obtain rfl:=IsD.str_iff.mp B;obtain⟨t',rfl⟩:=C;have d:(if(y.length == 0)=false/\a.length+2<=sizeLine then some (D.lst ((Txt.split a y).map .str)) else none)=some z:=d
  split at d
  .rename_i G;obtain rfl:=Zqi d;obtain⟨j,hsz⟩:=G;have J:(Builtin.Str.partsBetween a (Builtin.Str.occurrences a y 0 a.length (a.length+1)) y.length).length<=sizeLine:=by
    have N:=StrLaws.occ_length_le a y 0 a.length (a.length+1);rw[PySem.length_partsBetween];lia
   have c:∀(l:List (Str×Tok)) (tk:Nat),l.map (·.1)=Txt.split a y->l.length<=sizeLine->EP X Y Z Q (.ref s.heap.objs.size) { s with heap:=s.heap.push { cls:=.type "list",data:=.seq (strValues l).toArray },toks:=tk }:=λl tk n K=>by
    have L:=I.laid (a:=s.heap.objs.size) (o:=.lst ((Txt.split a y).map V.str)) (h':=s.heap.push { cls:=.type "list",data:=.seq (strValues l).toArray }) (t':=tk) (λb u q=>Zq _ q) (Zf _)
     ⟨by rw[<- n,Zql,Zql];exact K,strValues l,0,by rw[<- n];exact F6 l,Zr _ rfl⟩
    exact⟨.ref s.heap.objs.size,_,L,rfl,q s.heap.objs.size F _ (.keep i (I.hok.fresh (Zf _)) _) (I.hok.fresh (Zf _)) (Qs i (I.hok.fresh (Zf _))) ⟨_,JC,F7 _⟩⟩
   cases f:(decide (a.length<y.length)||decide (Builtin.Str.strKind a<Builtin.Str.strKind y))
   .cases g:(Builtin.Str.occurrences a y 0 a.length (a.length+1)).isEmpty
    .refine call_meets PySem.F.slot_str_split (typeIs_str _ _ _) PySem.F.entry_str_split (PySem.F.args_str_split_2 _ _) (meets_str_split_sep a y t t' f j g () J) ?_;show wants _ _ _ { s with toks:=_,heap:=s.heap.push { cls:=.type "list",data:=.seq (strsFrom s.toks (Builtin.Str.partsBetween a (Builtin.Str.occurrences a y 0 a.length (a.length+1)) y.length)).toArray } };rw[strsFrom_eq];refine c (numbered s.toks _) _ ((numbered_texts _ _).trans ((Ze (ne_true_of_eq_false f)).trans (Ze (ne_true_of_eq_false g))).symm) ?_;have:=Zt List.length (numbered_texts s.toks (Builtin.Str.partsBetween a (Builtin.Str.occurrences a y 0 a.length (a.length+1)) y.length));rw[Zql] at this;lia
    .exact call_meets PySem.F.slot_str_split (typeIs_str _ _ _) PySem.F.entry_str_split (PySem.F.args_str_split_2 _ _) (meets_str_split_not_found a y t t' f j g) (c [(a,t)] s.toks ((Ze (ne_true_of_eq_false f)).trans (Zd g)).symm (by simp;lia))
   .exact call_meets PySem.F.slot_str_split (typeIs_str _ _ _) PySem.F.entry_str_split (PySem.F.args_str_split_2 _ _) (meets_str_split_cannot_occur a y t t' f) (c [(a,t)] s.toks (Zd f).symm (by simp;lia))
  .exact Jy d
 |_=>exact Jy d
end
@[simp]def nn (f:FE)(sd:SD)(hp:HP):vL f sd hp=(Wr.of (f sd)).bind λd=>.ok (d,hp):=rfl
@[simp]def mw (f:FT)(sd:SD)(hp:HP):f8 f sd hp=(Wr.of (f sd)).bind λd=>.ok (d,hp):=rfl
@[simp]def mv (k:Nat)(is:Yg)(f:FE)(sd:SD)(hp:HP):qW k is f sd hp=(Wr.of (f (drI k hp is sd)).strict).bind λd=>if Kx 8 d then .ok (d,hp) else .no:=rfl
@[simp]def fY (k:Nat)(is:Yg)(f:FT)(sd:SD)(hp:HP):qP k is f sd hp=(Wr.of (f (drI k hp is sd)).strict).bind λd=>.ok (d,hp):=rfl
@[simp]def bn (n:Nat)(hp:HP)(sd:SD):drI n hp [] sd=sd:=rfl
def nw (n:Nat)(hp:HP)(i:Nat)(sd:SD):Option (Option SV)->SD
 |some (~~~d)=>sd.set i (~~~(dr hp n d))
 |_=>sd
@[simp]def bo (n:Nat)(hp:HP)(i:Nat)(sd:SD)(d:D):nw n hp i sd (some (~~~d))=sd.set i (~~~(dr hp n d)):=rfl
@[simp]def gB (n:Nat)(hp:HP)(i:Nat)(is:Yg)(sd:SD):drI n hp (i::is) sd=drI n hp is (nw n hp i sd sd[i]?):=by
 show drI n hp is _=drI n hp is _
 congr 1
@[simp]def mx (a b:FV)(sd:SD)(hp:HP):ye a b sd hp=(a sd hp).bind λp=>(b sd p.2).bind (xf p.1):=rfl
def XG {a:Addr}{q:D×HP}{es:Yt}(h:Tq q.2 a=some (.lst es)):xf (.adr a) q=(Wr.of (.ofO (T7 (.lst es) q.1))).bind λz=>.ok (z,q.2):=by
 unfold xf;simp only[h]
@[simp]def fZ (sd:SD)(hp:HP):TZ sd hp=.ok ([],hp):=rfl
@[simp]def gp (f:FV)(g:yd)(sd:SD)(hp:HP):J3 f g sd hp=(f sd hp).bind λp=>(g sd p.2).bind λq=>.ok (p.1::q.1,q.2):=rfl
@[simp]def h8 (b:yd)(sd:SD)(hp:HP):jm b sd hp=(b sd hp).bind λp=>if p.1.length<=1000 then .new p.2 λa=>.ok (.adr a,(a,.lst p.1)::p.2) else .no:=rfl
@[simp]def gq (a:Yt->HP->Wr (D×HP))(b:yd)(sd:SD)(hp:HP):Wj a b sd hp=(b sd hp).bind λp=>a p.1 p.2:=rfl
@[simp]def nl (g:FS)(sd:SD)(hp:HP):zL g sd hp=(Wr.of (g sd)).bind (b6 hp):=rfl
@[simp]def v3 (hp:HP)(sd:SD):b6 hp (.next sd)=.ok (.next sd hp):=rfl
@[simp]def gg (sd:SD)(hp:HP):KS sd hp=.ok (.next sd hp):=rfl
@[simp]def F8 (a b:j6)(sd:SD)(hp:HP):TV a b sd hp=(a sd hp).bind (zK b):=rfl
@[simp]def f7 (g:j6)(sd:SD)(hp:HP):zK g (.next sd hp)=g sd hp:=rfl
@[simp]def bz (g:j6)(d:D)(hp:HP):zK g (.ret d hp)=.ok (.ret d hp):=rfl
@[simp]def fU (f:FV)(sd:SD)(hp:HP):qz f sd hp=(f sd hp).bind λp=>.ok (.ret p.1 p.2):=rfl
@[simp]def gh (f:FV)(sd:SD)(hp:HP):AL f sd hp=(f sd hp).bind λp=>.ok (.next sd p.2):=rfl
@[simp]def fT (i:Nat)(f:FV)(sd:SD)(hp:HP):qd i f sd hp=(f sd hp).bind λp=>.ok (.next (sd.set i (~~~(p.1))) p.2):=rfl
@[simp]def mt (c:zi)(a b:j6)(sd:SD)(hp:HP):Kg c a b sd hp=(c sd hp).bind λp=>if p.1 then a sd p.2 else b sd p.2:=rfl
@[simp]def fX (a b:FV)(sd:SD)(hp:HP):qa a b sd hp=(a sd hp).bind (Xm b sd):=rfl
def W9 {b:FV}{sd:SD}{a:Addr}{hp:HP}{es:Yt}(h:Tq hp a=some (.lst es)):Xm b sd (.adr a,hp)=(b sd hp).bind (Wl sd a):=by
 unfold Xm;simp only[h]
def WA {sd:SD}{a:Addr}{d:D}{hp:HP}{es:Yt}(h:Tq hp a=some (.lst es))(b:es.length<sizeLine):Wl sd a (d,hp)=.ok (.next sd (JD hp a (.lst (es++[d])))):=by
 unfold Wl;simp only[h];rw[Zd b]
@[simp]def fV (a b c:FV)(sd:SD)(hp:HP):yB a b c sd hp=(c sd hp).bind λp=>(a sd p.2).bind (AM b sd p.1):=rfl
@[simp]def SR (b:FV)(sd:SD)(d:D)(a:Addr)(hp:HP):AM b sd d (.adr a,hp)=(b sd hp).bind (W7 sd d a):=rfl
def C7 {sd:SD}{d:D}{a:Addr}{k:Int}{j:Nat}{hp:HP}{es:Yt}(h:Tq hp a=some (.lst es))(b:yn es.length k=some j):W7 sd d a (.int k,hp)=.ok (.next sd (JD hp a (.lst (es.set j d)))):=by
 unfold W7;simp only[h,b]
@[simp]def u1 (d:D)(hp:HP):ju (.ret d hp)=.ok (d,hp):=rfl
def Ky {hp:HP}{a:Addr}{d:D}(n:Nat)(h:Tq hp a=some d):dr hp (n+1) (.adr a)=dr hp n d:=by
 show(match Tq hp a with
  |some d=>dr hp n d
  |none=>.adr a)=_
 rw[h]
@[simp]def kG (n:Nat)(i:Int):Kx n (.int i)=true:=by cases n<;>rfl
@[simp]def kF (n:Nat)(i:Str):Kx n (.str i)=true:=by cases n<;>rfl
@[simp]def fS (n:Nat)(i:Bool):Kx n (.bl i)=true:=by cases n<;>rfl
def ZG {hp:HP}{a b:Addr}{d:D}(h:Tq hp b≠none):(Tq (JD hp a d) b)≠none:=by
 by_cases z:Tq hp a=none
 .have:JD hp a d=hp:=by
   clear h
   induction hp with
   |nil=>rfl
   |cons p r c =>
    rw[JT] at z;by_cases y:a=p.1
    .rw[Zd y] at z;cases z
    .rw[Ze y] at z;unfold JD;rw[Ze y,c z]
  rw[this];exact h
 .rw[KJ b z]
  split
  .simp
  .exact h
def V5 {hp:HP}{a:Addr}{d:D}(h:Tq hp a≠none):Tq (JD hp a d) a=some d:=by rw[KJ a h,Zd rfl]
def Qr {hp:HP}{a b:Addr}{d:D}(h:Tq hp a≠none)(n:b≠a):Tq (JD hp a d) b=Tq hp b:=by rw[KJ b h,Ze n]
def XH {n b:Nat}{g:j6}{ds:Yt}{hp:HP}{P:D×HP->Prop}{Q:Str->Yt->Prop}(e:ds.length=b)(h:((g (Qw n ds) hp).bind ju).need (λp=>(∀a,Tq hp a≠none->Tq p.2 a≠none)/\P p) Q):(xh n b g ds hp).need P Q:=by
 unfold xh;rw[Zd e];refine Wr.need_bind.mpr (h.mono (λp c=>?_) λ_ _ q=>q);have:(hp.all λz=>(Tq p.2 z.1).isSome)=true:=Uq.mpr λz f=>by
  have i:Tq hp z.1≠none:=by
   rw[Ne,f5];exact λy=>y (Ja.mpr ⟨z,f,rfl⟩)
  have:=c.1 z.1 i;cases y:Tq p.2 z.1 with
  |none=>exact Zn y this
  |some d=>rfl
 rw[Zd this];exact c.2
end L2.DL
namespace L2
def Om (it:Addr):Yk:=#[.none,.bool false,.ref it,rawInt 1,.none,.none]
def XJ (l:Addr):Obj:={ cls:=.type "list_iterator",data:=.fields #[.ref l,.int 0 0] }
def AO (it:Addr):Obj:={ cls:=.type "enumerate",data:=.fields (Om it) }
def WC (h:Heap)(l:Addr):Heap:=(h.push (XJ l)).push (AO h.objs.size)
set_option maxHeartbeats 1000000 in
def Oo (l:Addr)(us:Yk)(k:Nat)(f:Option Addr)(g:Array Ye)(t:Tok):
 Meets (Builtin.«enumerate.__new__» ⟨[.type "enumerate",.ref l],[("start",.int 1 t)]⟩) (λ_ R s=>s.heap.get? l=some ⟨.type "list",f,.seq us k,g⟩/\R (.ok (.ret (.ref (s.heap.push (XJ l)).objs.size))) { s with heap:=WC s.heap l }):=
 .of_wp λprog w A R s q=>by
  obtain⟨h,i,j,tk,os⟩:=s;have a:=q.1;have b:=q.2;have d:=sub_enumerate;have e:Heap.IsList (Shared.heap ⟨h,i,j,tk,os⟩) l us:=⟨_,a,rfl,k,rfl⟩
  wp_walk using AutoSeq1.wpAny_loadPart' a
  refine wpAny_stack_any λ_=>Zb ?_
  split
  .rename_i c _ _ _ _ _;cases (c == Value.type "enumerate")<;>(wp_walk using AutoSeq1.wpAny_loadPart' a,wpAny_pyIter_list e;exact⟨_,rfl,b⟩)
  .wp_walk using AutoSeq1.wpAny_loadPart' a,wpAny_pyIter_list e
   exact⟨_,rfl,b⟩
section
variable {prog:Program}{w:World}{A:Around}{E:Ya}{s:Shared}
def uS {b a:Value}{c:List (Str×Value)}:Meets (Builtin.«object.__init__» ⟨[b,a],c⟩) (λ_ R s=>s.TypeIs b "enumerate" /\ R (.ok (.ret .none)) s):=by
 have e:=PySem.F.called_enumerate.init.lookup;have f:=PySem.F.called_enumerate.made;have g:(some "enumerate.__new__" != some "object.__new__")=true:=by decide
 refine Meets.of_wp λprog w A R s q=>?_;have h:=q.1;have d:=q.2
 repeat (any_goals (first|assumption|wp_step))
 exact⟨_,rfl,d⟩
def Op (a:Value)(t:Tok):checkTypeCall "enumerate" ⟨[a],[("start",.int 1 t)]⟩=pure Ym:=by kernel_rfl
def Oq (a:Value)(t:Tok):checkBuiltinCall "enumerate.__new__" ⟨[.type "enumerate",a],[("start",.int 1 t)]⟩=pure Ym:=by kernel_rfl
def Os (o a:Value)(t:Tok):argsOk "object.__init__" ⟨[o,a],[("start",.int 1 t)]⟩:=by
 unfold argsOk;rw[signature?_of (id:= "object.__init__") (n:=['_','_','t','i','n','i','_','_']) (o:=['t','c','e','j','b','o']) (by kernel_rfl) PySem.F.owner_object]
 kernel_rfl
def Ot {l:Addr}{us:Yk}{t:Tok}{Q:Ya}(j:s.heap.IsList l us)(q:Q (.ref (s.heap.objs.size+1)) { s with heap:=WC s.heap l }):
 Yw prog w A (call (.type "enumerate") [.ref l] [("start",.int 1 t)]) Q E s:=by
 obtain⟨⟨m,n,p,u⟩,v,x,k,y⟩:=j;obtain rfl:m=.type "list" := x;obtain rfl:p=.seq us k:=y;have T:=PySem.F.called_enumerate;obtain⟨I,cs,c⟩:=T.mro;have J:=T.made;have B:=T.sub;have C:=T.notType;have F:=T.canCreate;have K:=Op (.ref l) t;have d:(s.heap.push (XJ l)).objs.size=s.heap.objs.size+1:=Heap.size_push ..;refine wpAny_call (codeAny_of_tree (show wpAny _ _ (callAny (.type "enumerate") ⟨[.ref l],[("start",.int 1 t)]⟩) _ _ _ from ?_));refine Zb ⟨Code.quiet_builtin _ (by decide +kernel),codeAny_builtin PySem.F.entry_type_call ?_⟩;rw[Around.under_plain (weight_type_call_type "enumerate" [.ref l] [("start",.int 1 t)]) (units_type_call_type "enumerate" [.ref l] [("start",.int 1 t)])]
 repeat (any_goals (first|assumption|wp_step))
 have made:=Oo l us k n u t prog w A.in1 (wants (λo g=>o=.ref (s.heap.objs.size+1)/\g={ s with heap:=WC s.heap l }) E) s ⟨v,by rw[d];exact⟨rfl,rfl⟩⟩;refine codeAny_mono (codeAny_call_builtin T.plain PySem.F.entry_enumerate_new (wpAny_of_eq (Oq (.ref l) t) made)) λr g a=>?_;cases r with
 |error e=>exact a
 |ok f =>
  cases f with
  |ret o =>
   obtain⟨rfl,rfl⟩:=a;have h:Shared.TypeIs { s with heap:=WC s.heap l } (.ref (s.heap.objs.size+1)) "enumerate" := ⟨AO s.heap.objs.size,by
    have:=Zr (s.heap.push (XJ l)) (o:=AO s.heap.objs.size) rfl;rw[d] at this;exact this,rfl⟩
   have L:=T.init.lookup;have M:=T.init.bind (.ref (s.heap.objs.size+1))
   repeat (any_goals (first|assumption|wp_step))
   refine codeAny_mono (codeAny_call_builtin T.init.plain PySem.F.entry_object_init (T.init.check _ _ _ _ _ _ _ _ h (Os _ (.ref l) t) (uS prog w A.in1 (wants (λz i=>z=.none/\Q (.ref (s.heap.objs.size+1)) i) E) _ ⟨h,rfl,q⟩))) λG i b=>?_;cases G with
   |error e=>exact b
   |ok H =>
    cases H with
    |ret z =>
     obtain⟨rfl,N⟩:=b
     repeat (any_goals (first|assumption|wp_step))
    |_=>exact b.elim
  |_=>exact a.elim
def Ou (g:A.handled=none)(it a:Addr)(us:Yk):Draws prog w A it [it,a] (us.size+1) (λj x=>us[j-1]? = some x) (λj h=>∃i,j=i+1/\h.IsListIter it a i/\h.IsList a us/\it≠a) where
 live:=λj h ⟨i,_,⟨o,e,_⟩,_⟩=>⟨o,e⟩
 frame:=λj h h' ⟨i,e,c,b,d⟩ kk=>⟨i,e,c.at λo q=>kk it () o q,(let ⟨o,e,r⟩:=b;⟨o,kk a () o e,r⟩),d⟩
 item:=λj s Q E l ⟨i,e,c,b,d⟩ hQ=>by
  subst e;have f:i<us.size:=()
  refine wpAny_nextOf_list_item c b (x:=us[i]) (by simp[f]) λh' k1 k2=>?_;exact hQ us[i] h' s.toks (by simp[f]) ⟨i+1,rfl,k1,(let ⟨o,e,r⟩:=b;⟨o,(k2.2 a d.symm).trans e,r⟩),d⟩ k2
 done:=λs Q E ⟨i,e,c,b,d⟩ hE=>by
  have f:i=us.size:=()
  exact wpAny_nextOf_list_end g c b (by simp[f]) hE
def Ov (f:A.handled=none)(it a:Addr)(us:Yk){i:Nat}(b:us.size<=i):Draws prog w A it [it,a] (i+1) (λ_ _=>True) (λj h=>j=i+1/\h.IsListIter it a i/\h.IsList a us) where
 live:=λj h ⟨_,⟨o,e,_⟩,_⟩=>⟨o,e⟩
 frame:=λj h h' ⟨e,c,d⟩ kk=>⟨e,c.at λo q=>kk it () o q,(let ⟨o,e,r⟩:=d;⟨o,kk a () o e,r⟩)⟩
 item:=λj s Q E g ⟨e,_⟩ hQ=>()
 done:=λs Q E ⟨_,c,d⟩ hE=>wpAny_nextOf_list_end f c d (by simp[b]) hE
end
def wT (K:W.Frag)(a:Addr):It:=
 ⟨λi H=>∃xs x,jL K H a xs/\xs[i]? = some x,
  λi H v b=>∃T x,v=.ref T/\H T=none/\b=upd H T (.tup [.int ((i:Int)+1),x])/\∀xs,jL K H a xs->xs[i]? = some x,
  λi H=>∃xs,jL K H a xs/\xs.length<=i⟩
def Ow (e it a:Addr)(i:Nat)(h:Heap):Prop:=(∃b,IsEnum h e it ((i:Int)+1) b)/\h.IsListIter it a i
def Ox {P:Program}{w:World}{K:W.Frag}{m:Yj}{kx}{J:Pos}(a e it:Addr)(l:e≠it):Turn P w K (.Tuple m kx J) (wT K a) [e,it] e (Ow e it a) where
 mem:=by simp
 obj:=λi h st c b=>by
  obtain⟨⟨f,j⟩,⟨o1,n,L,d1⟩⟩:=st;simp only[UB,UE,or_false] at b;rcases b with rfl|rfl
  .exact⟨_,j,λv q=>by cases q⟩
  .exact⟨_,n,λv q=>by rw[d1] at q;cases q⟩
 keep:=λi h h' st kk=>⟨(let ⟨f,j⟩:=st.1;⟨f,kk e () _ j⟩),st.2.at λo q=>kk it () o q⟩
 item:=by
  intro X M hw N b i Y s Z H E I C st O;subst M hw N;obtain⟨xs,x,F,hx⟩:=O;obtain⟨d,Q,p,hz⟩:=I.list F;obtain⟨u,hu,ru⟩:=Q.get hx;obtain⟨⟨f,j⟩,g⟩:=id st;obtain⟨o1,n,L,_⟩:=id g;have R:it≠a:=λz=>by
   obtain⟨o2,r,G,_⟩:=p.isList;rw[<- z,n] at r;cases r;rw[L] at G;exact Zn G (by decide)
  have S:e≠a:=λz=>by
   obtain⟨o2,r,G,_⟩:=p.isList;rw[<- z,j] at r;cases r;exact Zn (show Value.type "enumerate" = Value.type "list" from G) (by decide)
  have hi:i<d.length:=(Jd.mp hu).1;have D:=Ou (prog:=X.prog) (w:=X.w) (A:=X.A.in1) (show X.A.in1.handled=none from I.ok.hd b) it a d.toArray;have T:IsEnum s.heap e it ((i+1:Nat):Int) f:=by rw[show((i+1:Nat):Int)=(i:Int)+1 by lia];exact j
  refine wpAny_pyNext_enum_itemD D T ⟨i,rfl,g,p.isList,R⟩ (by simp;lia) l (by simp[l,S]) λy h' tk U a1 a2 a3 a4 kk=>?_;have U:d.toArray[i]? = some y:=by simpa using U
  have hyu:u=y:=by
   have:d[i]? = some y:=by simpa using U
   rw[hu] at this;exact Zqi this
  subst hyu;obtain⟨i',ei,b2,_,_⟩:=a2;obtain rfl:i'=i+1:=()
  refine⟨_,rfl,wpAny_letOwnedTupleGo_enum (s:={ s with heap:=h',toks:=tk+1 }) a1 λh2 b1 t=>?_⟩;have t:Heap.SameBut e h' h2:=t;have lt:∀{c o},s.heap.get? c=some o->c≠s.heap.objs.size:=λq=>Zi (Zk q);have B:∀c ∈ [e,it],c≠s.heap.objs.size:=λc b=>by
   simp only[UB,UE,or_false] at b;rcases b with rfl|rfl
   .exact lt j
   .exact lt n
  have hTe:s.heap.objs.size≠e:=λq=>lt j q.symm;have I2:=I.paired (t':=tk+1) (h':=h2) (ch:=[e,it]) (x:=.int ((i:Int)+1)) (u:=.int ((i+1:Nat):Int) tk) ⟨tk,by rw[show((i+1:Nat):Int)=(i:Int)+1 by lia]⟩ ru C B (t.extBut _ _ hTe a3) (λc o b q=>by
   simp only[UB,UE,or_false,not_or] at b;exact t.extBut c o b.1 (kk c o b.1 b.2 q))
  refine⟨.ref s.heap.objs.size,_,I2,rfl,⟨_,x,rfl,I.hok.fresh (Zf _),rfl,λzs hq=>by rw[I.list_inj hq F];exact hx⟩,⟨⟨u,?_⟩,b2.extBut t.extBut (Ne.symm l)⟩,λc b=>(Jz (B c b)).trans (C c b).1⟩;have q:(((i+1:Nat)):Int)=(i:Int)+1:=()
  rw[q];rw[q] at b1;exact b1
 done:=by
  intro X M hw N b i Y s Z H E I C st O;subst M hw N;obtain⟨xs,F,hx⟩:=O;obtain⟨d,Q,p,hz⟩:=I.list F;have l1:=Q.length;obtain⟨⟨f,j⟩,g⟩:=id st;obtain⟨o1,n,L,_⟩:=id g;refine wpAny_pyNext_enum_endD (Ov (prog:=X.prog) (w:=X.w) (A:=X.A.in1) (show X.A.in1.handled=none from I.ok.hd b) it a d.toArray (i:=i) (by simp;lia)) j ⟨rfl,g,p.isList⟩ λh' eb=>⟨rfl,I.turnedL (t':=s.toks) (ch:=[it]) (λc o b q=>?_) λc b=>C c ?_⟩
  .exact eb c o (λz=>b (by simp[z])) q
  .have:c=it:=by simpa using b
   subst this;simp
 self:=λ_ _ _ _ _ st h=>wpAny_pyIter_enum st.1.choose_spec h
section
variable {X:Cx}
def Oy (K:W.Frag)(c:TA):TI:=λZ H R=>c Z H λd b=>∃a,d=[.ref a]/\(∃xs,jL K b a xs)/\R (wT K a) b
def Oz {M:Model}{A:Around}{E:Ya}{s:Shared}{env:Env}{b:Pos}{T:String}{e:Expr}{rest:Yj}{c:List Keyword}{Q:Ya}
 (h:wpAny M A (spliced (backTo b (starEach (e::rest) env))) (λl f=>wpAny M A (evalAll ((backToKw b (keywordEach c env)).map (·.2))) (λks j=>wpAny M A (call (.type T) l (((backToKw b (keywordEach c env)).filterMap (·.1)).zip ks)) Q E j) E f) E s)
 (m:backTo b (starEach (e::rest) env)=(false,eval e env)::backTo b (starEach rest env):=by rfl) (g:(backTo b (starEach (e::rest) env)).any (·.1)=false:=by rfl)
 (d:(backToKw b (keywordEach c env)).all (·.1.isSome)=true:=by rfl) (i:(backToKw b (keywordEach c env)).any (·.1.isNone)=false:=by rfl):
 wpAny M A (callWith b (.type T) [] (backTo b (starEach (e::rest) env)) (backToKw b (keywordEach c env))) Q E s:=by
 have n:wpAny M A (evalArgs (.type T) true (backTo b (starEach (e::rest) env)) (backToKw b (keywordEach c env))) (λa f=>wpAny M A (call (.type T) ([]++a.pos) a.kw) Q E f) E s:=by
  rw[m] at h ⊢;exact evalArgs_kwB d h
 unfold callWith;refine Za (wpAny_holding (Zc n (λa f q=>Za (wpAny_standAt ?_)) λ_ _ z=>z));simp only[g,i,Bool.or_false];exact Za (Zb (Za (Zc q (λr j z=>Za (wpAny_holding (wpAny_point (Zb z)))) λ_ _ z=>z)))
def O0 {a:Expr}{n:TA}{p f v w:Pos}{nk}{g:Yj}{kx}{x:Pos}(z:Gl X "enumerate")(A:X.mg "enumerate" = none)(B:PA X [a] n)(C:backTo f (starEach [a] X.env)=(false,eval a X.env)::backTo f (starEach [] X.env):=by rfl)(l:(backTo f (starEach [a] X.env)).any (·.1)=false:=by rfl):
 PI X (.Tuple g kx x) (.Call (.Name "enumerate" p) [a] [⟨some "start",.Constant (.int 1) nk w,v⟩] f) (Oy X.K n):=by
 intro Y s Z H R I h;refine wpAny_Call_Name_kw (WR I z A (show bootBuiltins "enumerate" = some (.type "enumerate") by kernel_rfl) ?_ (by decide) (by decide));refine Oz (TQ (B f Y s Z H _ I h) λus d ⟨N,E,j,F,G⟩=>?_) C l;refine kws_cons (wpAny_Constant_int ?_);refine kws_nil ?_;obtain⟨a,e,⟨xs,J⟩,q⟩:=G;subst e;obtain⟨u,rfl,K⟩:=Ku F;obtain rfl:u=Value.ref a:=K;obtain⟨L,O,p,P⟩:=j.list J;refine Ot (s:={ d with toks:=d.toks+1 }) p.isList ?_;have m:(d.heap.push (XJ a)).objs.size=d.heap.objs.size+1:=Heap.size_push ..;have r:IsEnum (WC d.heap a) (d.heap.objs.size+1) d.heap.objs.size (((0:Nat):Int)+1) .none:=by
  have:=Zr (d.heap.push (XJ a)) (o:=AO d.heap.objs.size) rfl;rw[m] at this;exact this
 have M:(WC d.heap a).IsListIter d.heap.objs.size a 0:=⟨_,Zq _ (Zr _ rfl),rfl,rfl⟩;refine wpAny_pyIter_enum (s:={ d with toks:=d.toks+1,heap:=WC d.heap a }) r ?_;refine⟨d.heap.objs.size+1,[d.heap.objs.size+1,d.heap.objs.size],_,_,E,rfl,j.kept (t':=d.toks+1) (h':=WC d.heap a) (λb o y=>Zq _ (Zq _ y)),Ox a (d.heap.objs.size+1) d.heap.objs.size (Nat.succ_ne_self _),⟨⟨_,r⟩,M⟩,λc t=>?_,q⟩;have i:d.heap.objs.size<=c:=by
  simp only[UB,UE,or_false] at t;rcases t with rfl|rfl<;>first|exact Zf _|exact Nat.le_add_right _ _
 exact j.fpOk i (j.hok.fresh i)
end
end L2
namespace L2.DL
def WD (xs:Yt):Yt:=List.zipWith (λ(k:Nat) x=>D.tup [.int ((k:Int)+1),x]) (List.range xs.length) xs
def AQ:Yt->Res Yt
 | [d]=>(Res.ofO (A5 d)).bind λxs=>.ok (WD xs)
 |_=>.no
def zO (a:FA):FA:=λsd=>(a sd).bind AQ
@[simp]def hZ (a:FA)(sd:SD):zO a sd=(a sd).bind AQ:=rfl
@[simp]def SS (xs:Yt):AQ [.lst xs]=.ok (WD xs):=rfl
def F9 (ds:Yt)(i:Nat):(WD ds)[i]? = ds[i]?.map λx=>D.tup [.int ((i:Int)+1),x]:=by
 unfold WD;rw[List.getElem?_zipWith];by_cases h:i<ds.length
 .rw[U7 h,Zqg h];rfl
 .rw[Vm (show ds.length<=i from ())];cases (List.range ds.length)[i]?<;>rfl
def O1 (ds:Yt):(WD ds).length=ds.length:=by unfold WD;rw[List.length_zipWith,ZB,Nat.min_self]
def O2 {K:W.Frag}{b:Hp}{a:Addr}{ds:Yt}{xs:Yr}(l:jL K b a xs)(e:IsDs K b ds xs):xO K b (wT K a) (WD ds):=λi q r f g=>by
 have c:=Tx.seq g (Tx.seq f l);have s:=e.length;rw[O1];refine⟨λd=>?_,λd=>⟨xs,c,()⟩⟩;obtain⟨x,hx,m⟩:=e.get (Zqg d);refine⟨⟨xs,x,c,hx⟩,λv t n=>?_⟩;obtain⟨T,u,rfl,o,rfl,p⟩:=n;have h:=p xs c;rw[hx] at h;obtain rfl:=Zqi h;have j:=jo g o (.tup [.int ((i:Int)+1),x]);refine⟨.tup [.int ((i:Int)+1),ds[i]],_,?_,j,Tt.mpr ⟨T,_,rfl,.of JC,.mk (Tr.mpr rfl) (.mk (IsD.same (f.trans j.ff) _ _ m) .nil)⟩⟩;rw[F9,Zqg d];rfl
section
variable {X:Cx}{E:XK}{fr:FA}{p pos tp kp np:Pos}{elts:Yj}
def O3 {a:Expr}{kx nk}(f:Gl X "enumerate")(g:X.mg "enumerate" = none)(i:QA X E [a] fr)(j:backTo pos (starEach [a] X.env)=(false,eval a X.env)::backTo pos (starEach [] X.env):=by rfl)(c:(backTo pos (starEach [a] X.env)).any (·.1)=false:=by rfl):
 QI X E (.Tuple elts kx tp) (.Call (.Name "enumerate" p) [a] [⟨some "start",.Constant (.int 1) nk np,kp⟩] pos) (zO fr):=PI.weak (O0 f g i j c) λZ H R l=>by
 obtain⟨B,F,sd,r,n⟩:=l;refine⟨B,F,sd,r,(Res.need_bind n).mono (λds b x m o d s=>?_) λ_ _ q=>q⟩;unfold AQ at b
 split at b
 .obtain⟨xs,hx,t⟩:=Tu (Res.need_bind b);obtain⟨v,rfl,h⟩:=QQ s;obtain⟨u,us,rfl,e,w⟩:=EX hx h;exact⟨u,rfl,⟨_,Tx.seq d.fh e⟩,t _ m o d (O2 e w)⟩
 .exact b.elim
end
section
variable {X:Cx}{E:XK}{a b e o:Expr}{es rest:Yj}{fa fb fe:FE}{va vb vo ve:FV}{fr:yd}{ft:zi}{pos pos' p:Pos}
def WE (c f:Str)(sd:SD)(d:D)(q:D×HP):Wr Out3:=match q.1 with
 | .adr a=>match Tq q.2 a with
  |some (.ins c' fs ds)=>if c'=c/\f∉fs/\fs.length<900 then .ok (.next sd (JD q.2 a (.ins c' (fs++[f]) (ds++[d])))) else .no
  |_=>.no
 |_=>.no
def zk (c f:Str)(d g:FV):j6:=λsd hp=>(g sd hp).bind λp=>(d sd p.2).bind (WE c f sd p.1)
def C8 {c f:Str}{C:Addr}{fs:Yh}(k:ClsD X.K X.mg c C fs)(u:f∈fs)(x:QV X E o vo)(y:QV X E e ve)(z:swapsWith e (some (.Attribute o f pos')) pos.line X.env=pure false:=by rfl):
 VS X E (.Assign [.Attribute o f pos'] e pos) (zk c f vo ve):=PS.weak (DX x y z) λT Z H A=>by
 obtain⟨B,G,F,sd,hp,t,n⟩:=A;refine⟨B,G,F,sd,hp,t,jg n λp I v J K H1 L M N=>⟨B,J,K,sd,p.2,M,jg I λq d w B2 O H2 g h i=>?_⟩⟩;unfold WE at d
 split at d
 .rename_i a P;rw[P] at i;obtain rfl:=TR.mp i
  split at d
  .rename_i c' gs ds j
   split at d
   .rename_i Q;obtain⟨rfl,R,hl⟩:=Q;obtain⟨C',l,xs,m,S,r,U⟩:=h.lies j;have s:=m;rw[k.ns] at s;cases s;have Y:(gs.zip xs).map (·.1)=gs:=by rw[List.map_fst_zip ()]
    refine⟨a,C,l,_,rfl,S,k.cls,k.no f u,by rw[UV];lia,?_⟩;rw[C1 f v _ (by rw[Y];exact R)];have ez:gs.zip xs++[(f,v)]=(gs++[f]).zip (xs++[v]):=by rw[List.zip_append r];rfl
    rw[ez];exact d Z _ O _ (L.trans g) (h.chg j ⟨C,l,_,m,JC,by simp[r],U.snoc (IsD.same g _ _ N)⟩)
   .exact d.elim
  .exact d.elim
 .exact d.elim
def nI (P:Program)(w:World)(K:W.Frag)(g:Yc)(d:Heap)(c:Str)(names:Yh)(k:Nat)(ps:Yh)(i:Yt->HP->Wr (D×HP)):Prop:=
 ∃C f h,ClsD K g c C names/\Mk K C f/\FnOk P w K g d xa k f h ps (zw K i)/\y4 K h ps []
def ZH (x:Addr)(q:D×HP):Wr (D×HP):=match q.1 with
 | .non=>.ok (.adr x,q.2)
 |_=>.no
def C9 (c:Str)(d:Yt->HP->Wr (D×HP))(fr:yd):FV:=λsd hp=>(fr sd hp).bind λp=>.new p.2 λx=>(d (.adr x::p.1) ((x,.ins c [] [])::p.2)).bind (ZH x)
def O4 {c:Str}{names:Yh}{k:Nat}{ps:Yh}{j:Yt->HP->Wr (D×HP)}(M:nI X.prog X.w X.K X.mg X.base c names k ps j)(I:Room (k+1) X.A)(J:Gl X c)(K:wO X E0 (e::es) fr)
 (l:(c == ("__debug__" : Str))=false:=by decide) (L:starEach (e::es) X.env=(false,eval e X.env)::starEach es X.env:=by rfl) (m:(backTo pos (starEach es X.env)).any (·.1)=false:=by rfl):
 QV X E0 (.Call (.Name c p) (e::es) [] pos) (C9 c j fr):=by
 obtain⟨C,f,fd,y,mk,N,b⟩:=M;refine PE.weak (BE mk N I J y.mgc b .nil Am K l L m) λZ H Q ⟨B,O,F,sd,hp,t,n⟩=>?_;refine⟨B,O,F,sd,hp,t,jg n λp P R S z A T r U x g nx TJ ne=>?_⟩;have s:RT X.K B S z (upd A g (.own x)) sd p.2 Z:= r.go (.refl _) (r.rs.step (.keep r.rs.ext.fh TJ _));have u:upd A g (.own x) x=none:=by rw[Jz ne.symm];exact nx
 obtain⟨Y,h⟩:=s.newO (o:=.ins C g []) (d:=.ins c [] []) u ⟨C,g,[],y.ns,JC,rfl,.nil⟩;have n2:=Wr.need_bind.mp (P x Y);show zw X.K j (.ref x::(R++[])) _ _ E0;rw[ZA];refine⟨z,.adr x::p.1,_,h.rs.ext.fh,.mk (TR.mpr rfl) U,h.lent,n2.mono (λq i v F2 H2 w G=>?_) λ_ _ q=>q.ext h.hidden⟩;unfold ZH at i
 split at i
 .rename_i hq;rw[hq] at G;obtain⟨B3,t3⟩:=h.callV w;exact⟨TH.mp G,i _ B3 F2 H2 (T.trans w.ff) t3 (TR.mpr rfl)⟩
 .exact i.elim
def zT (p:D×HP):Wr (Bool×HP):=match p.1 with
 | .bl b=>.ok (b,p.2)
 |_=>.no
def Xo (f:FV):zi:=λsd hp=>(f sd hp).bind zT
def FB {K:W.Frag}{Z: St}{H:Hp}{Q:Bool->Hp->Prop}(h:vC K E (Xo va) Z H Q):tB (bM K E va) Z H Q:=by
 obtain⟨B,g,F,sd,hp,t,n⟩:=h;refine⟨B,g,F,sd,hp,t,jg n λp d v i j l m q f=>?_⟩;unfold zT at d
 split at d
 .rename_i c r;rw[r] at f;exact⟨c,Tz.mp f,d i j l m q⟩
 .exact d.elim
def O5 (d:QV X E a va)(f:∀c,isTrue a X.env c=(do let v <- c;standAt a.pos;holding [v] (truthy v)):=by intro _;rfl):vf X E a (Xo va):=PT.weak (DE d f) λ_ _ _ q=>FB q
def AR (f:zi):zi:=λsd hp=>(f sd hp).bind λp=>.ok (!p.1,p.2)
def O6 (c:vf X E a ft):vf X E (.UnaryOp .Not a pos) (AR ft):=PT.weak (DF c) λZ H Q ⟨B,d,F,sd,hp,t,n⟩=>⟨B,d,F,sd,hp,t,jg n λp f g h i j l=>f g h i j l⟩
def wv (fa fb:FV):FV:=λsd hp=>(Xo fa sd hp).bind λp=>if p.1 then fb sd p.2 else .ok (.bl false,p.2)
def O7 (m:QV X E a va)(r:QV X E (.BoolOp .And (b::rest) pos) vb):QV X E (.BoolOp .And (a::b::rest) pos) (wv va vb):=PE.weak (DH m r) λZ H Q s=>by
 obtain⟨B,u,F,sd,hp,t,n⟩:=s;refine FB (K:=X.K) (E:=E) (Q:=λc f=>if c=true then bM X.K E vb Z f Q else Q (.bl false) f) ⟨B,u,F,sd,hp,t,jg n λp g h i f j l=>?_⟩;obtain⟨c,d⟩:=p;cases c with
 |true=>exact⟨B,h,i,sd,d,l,(show(vb sd d).need _ _ from g).mono (λq z v w x y A C G=>z v w x y (j.trans A) C G) λ_ _ z=>z⟩
 |false=>exact(show nG X.K B F sd Z Q (.bl false,d) from g) _ h i f j l (Tz.mpr rfl)
def O8 {op}(h:QV X E a va):QV X E (.BoolOp op [a] pos) va:=DG h
@[simp]def gi (f:FV)(sd:SD)(hp:HP):Xo f sd hp=(f sd hp).bind zT:=rfl
@[simp]def bq (b:Bool)(hp:HP):zT (.bl b,hp)=.ok (b,hp):=rfl
@[simp]def gj (f:zi)(sd:SD)(hp:HP):AR f sd hp=(f sd hp).bind λp=>.ok (!p.1,p.2):=rfl
@[simp]def hD (fa fb:FV)(sd:SD)(hp:HP):wv fa fb sd hp=(Xo fa sd hp).bind λp=>if p.1 then fb sd p.2 else .ok (.bl false,p.2):=rfl
@[simp]def fW (c f:Str)(d g:FV)(sd:SD)(hp:HP):zk c f d g sd hp=(g sd hp).bind λp=>(d sd p.2).bind (WE c f sd p.1):=rfl
@[simp]def gm (c:Str)(d:Yt->HP->Wr (D×HP))(fr:yd)(sd:SD)(hp:HP):C9 c d fr sd hp=(fr sd hp).bind λp=>.new p.2 λx=>(d (.adr x::p.1) ((x,.ins c [] [])::p.2)).bind (ZH x):=rfl
@[simp]def O9 (x:Addr)(hp:HP):ZH x (.non,hp)=.ok (.adr x,hp):=rfl
@[simp]def hB (c f:Str)(d:FV)(sd:SD)(hp:HP):zE c f d sd hp=(d sd hp).bind (Z5 c f):=rfl
def FC {c f:Str}{a:Addr}{hp:HP}{d z:D}(h:Tq hp a=some d)(g:TF c f d=some z):Z5 c f (.adr a,hp)=.ok (z,hp):=by
 unfold Z5;simp only[h,g];rfl
def CA {c f:Str}{sd:SD}{d:D}{a:Addr}{hp:HP}{fs:Yh}{ds:Yt}(h:Tq hp a=some (.ins c fs ds))(g:f∉fs)(i:fs.length<900):WE c f sd d (.adr a,hp)=.ok (.next sd (JD hp a (.ins c (fs++[f]) (ds++[d])))):=by
 unfold WE;simp[h,g,i]
end
end L2.DL
namespace L2
section
variable {X:Cx}
def FD:V->Yr->Hp->VK->Prop:=λx c H Q=>∃a b k v,x=.ref a/\c=[kV k,v]/\H a=some (.dK b)/\b.length<sizeLine/\(∀w,j3 b k=some w->Q w H)/\(j3 b k=none->Q v (upd H a (.dK (q9 b k v))))
def OA:mQ X "dict.setdefault" FD:=by
 intro Y s Z H x B v us Q I l m h;obtain⟨a,b,k,y,rfl,rfl,g,C,n,o⟩:=h;obtain rfl:v=Value.ref a:=l;obtain⟨E,u2,rfl,p,i⟩:=m.two;obtain⟨z,j,ws,c,dd⟩:=Ak I.hok g;refine call_meetsIn PySem.F.slot_dict_setdefault dd.typeIs PySem.F.entry_dict_setdefault (PySem.F.args_dict_setdefault_3 _ _ _) (kt_meets_setdefault (Qy X.prog X.w) a (Wt p) j u2) ⟨ws,dd,by rw[<- c.length];exact z,λw hw=>?_,λr h' d t=>?_⟩
 .have:=c.val k;rw[hw] at this;cases e:j3 b k with
  |none=>rw[e] at this;exact this.elim
  |some f =>
   rw[e] at this;exact⟨f,H,I.tok _,this,n f e⟩
 .have:=c.val k;rw[r] at this;have e:j3 b k=none:=by
   cases e:j3 b k with
   |none=>rfl
   |some f=>rw[e] at this;exact this.elim
  have u:∃q,h'.get? a=some q:=let ⟨q,_,_,hq,_⟩:=d;⟨q,hq⟩
  have A:(q9 b k y).length<=sizeLine:=by have:=BL b k y;lia
  exact⟨y,_,BM I (by rw[g];exact True.intro) t u (Er A j (c.put k i) d),i,o e⟩
end
end L2
namespace L2.DL
def ZI (j:Nat)(sd:SD)(ks:List TM)(ds:Yt)(v:D):Option TM->Res Out
 |some q=>if ks.length<sizeLine then match jk ks ds q with
  |some _=>.ok (.next sd)
  |none=>.ok (.next (sd.set j (some (.own false (.dct (Wx ks q) (Xe ks ds q v)))))) else .no
 |none=>.no
def WF (j:Nat)(a b:FE):FS:=λsd=>match sd[j]? with
 |some (some (.own false (.dct ks ds)))=>(a sd).bind λk=>(b sd).bind λv=>ZI j sd ks ds v (Qg k)
 |_=>.no
section
variable {X:Cx}{E:XK}{m:Option Bool}{o e1 e2:Expr}{fk fv:FE}{pos:Pos}
def OB {j:Nat}{b e:Pos}(P:PE X o (xl j))(Q:QE X E e1 fk)(R:QE X E e2 fv)
 (hp:∀{G:TE} {t:TA},PE X o G->PA X [e1,e2] t->PE X (.Call (.Attribute o "setdefault" b) [e1,e2] [] e) (wx X.K "dict" FD G t))
 (S:swapsWith (.Call (.Attribute o "setdefault" b) [e1,e2] [] e) none pos.line X.env=pure false:=by rfl)
 (A:starEach [e1,e2] X.env=(false,eval e1 X.env)::starEach [e2] X.env:=by rfl) (i:starEach [e2] X.env=(false,eval e2 X.env)::starEach [] X.env:=by rfl):
 QS X E m (.Expr (.Call (.Attribute o "setdefault" b) [e1,e2] [] e) pos) (WF j fk fv):=PS.weak (X0 (hp P (Ju Q (Ju R Jw i) A)) S) λT Z H U=>by
 obtain⟨B,F,sd,r,n⟩:=U;unfold WF at n
 split at n
 .rename_i ks ds I;obtain⟨l,J,g2,g3,⟨xs,L,M,Y⟩,_⟩:=r.own I;refine⟨.ref l,J,.inr (.inr (.inl ⟨rfl,.inl ⟨_,L⟩⟩)),B,F,sd,r,?_⟩;have n':(Jt fk (Jt fv Tp) sd).need (λz=>∀k v,z=[k,v]->(ZI j sd ks ds v (Qg k)).need (yi X.K m B F T) (XW X.K E B.F0 B.H0)) (XW X.K E B.F0 B.H0):=by
   show((fk sd).bind λx=>((fv sd).bind λy=>(Res.ok []).bind λp=>.ok (y::p)).bind λxs=>.ok (x::xs)).need _ _;cases g:fk sd with
   |ok k =>
    rw[g] at n;cases h:fv sd with
    |ok v =>
     rw[h] at n;intro k' v' N;cases N;exact n
    |ex c fs=>rw[h] at n;exact n
    |no=>rw[h] at n;exact n.elim
   |ex c fs=>rw[g] at n;exact n
   |no=>rw[g] at n;exact n.elim
  refine n'.monoE (λz a n1 vs C H1 e1 i1=>?_) λ_ _ q=>q.ext r.ext;obtain⟨k,v,rfl⟩:∃k v,z=[k,v]:=by
   have a:((fk sd).bind λx=>((fv sd).bind λy=>(Res.ok []).bind λp=>.ok (y::p)).bind λxs=>.ok (x::xs))=.ok z:=a;cases g:fk sd with
   |ok k =>
    rw[g] at a;cases h:fv sd with
    |ok v=>rw[h] at a;cases a;exact⟨k,v,rfl⟩
    |ex c fs=>rw[h] at a;cases a
    |no=>rw[h] at a;cases a
   |ex c fs=>rw[g] at a;cases a
   |no=>rw[g] at a;cases a
  have f:=n1 k v rfl;obtain⟨v1,v2,rfl,j1,j2⟩:=A2 i1;unfold ZI at f
  split at f
  .rename_i q hq
   split at f
   .rename_i N;have O:=r.step e1;have hH:=e1.hh _ _ L;have s:=IsDs.same e1.ff _ _ Y;obtain⟨w1,w2⟩:=YM (K:=X.K) (H:=C) q M s;refine⟨l,_,q,v2,rfl,by rw[XB hq j1],hH,by rw[UV];lia,λw hw=>?_,λhw=>?_⟩
    .cases u:jk ks ds q with
     |none=>rw[w2 u] at hw;exact Jy hw
     |some d =>
      rw[u] at f;exact f Z C H1 e1.ff O
    .cases u:jk ks ds q with
     |some d =>
      obtain⟨x,hx,_⟩:=w1 d u;rw[hw] at hx;exact Jy hx
     |none =>
      rw[u] at f;obtain⟨p,y1,y2,y3⟩:=ED (K:=X.K) (q:=q) M s j2;exact f Z C _ e1.ff (O.chg I J ⟨p,by rw[JC,y1],y2,y3⟩)
   .exact f.elim
  .exact f.elim
 .exact n.elim
def Wm:Yt->Yu
 | [.str x]=>if x.length<=640 then(intText? x).map .int else none
 |_=>none
def OC:jH X (.type "int") (z6 X.K Wm):=by
 intro Y s Z H xs ws Q I r ⟨F,ds,z,b,id,a,q⟩;unfold Wm at a
 split at a
 .rename_i x
  split at a
  .rename_i c;obtain⟨n,d,rfl⟩:=Jg.mp a;obtain⟨v,rfl,e⟩:=QQ id;obtain rfl:=IsD.str_iff.mp e;obtain⟨u,rfl,f⟩:=Ku r;obtain⟨t,rfl⟩:=f;exact W.KIN.call_text d c ⟨.int n,H,I.tok _,⟨_,rfl⟩,q _ F H (.refl b) (Tr.mpr rfl)⟩
  .exact Jy a
 .exact Jy a
end
def yJ:D->D->Yu
 | .lst ds,.lst []=>some (.bl (!ds.isEmpty))
 |_,_=>none
section
variable {X:Cx}
def uM (N:X.A.units+64<cLine):xt X (compareOp .NotEq) yJ:=by
 intro Y s Z H x y v u Q I r t ⟨F,d,e,z,h,id,w,i,q⟩;unfold yJ at i
 split at i
 .rename_i ds;obtain rfl:=Zqi i;obtain⟨p,xs,rfl,hp,A⟩:=Tw.mp id;obtain⟨B,C,rfl,hp',m⟩:=Tw.mp w;obtain rfl:v=Value.ref p:=r;obtain rfl:u=Value.ref B:=t;obtain⟨b,E,pl,O⟩:=I.list (hp.same h).sq;obtain⟨f,n,g,G⟩:=I.list (hp'.same h).sq;have J:=A.length;have K:=m.length;have P:=E.length;have R:=n.length;rw[ZC] at K;have L:f.toArray.size=0:=by rw[Zm];lia
  by_cases c:ds=[]
  .subst c;rw[ZC] at J;have o:b.toArray.size=0:=by rw[Zm];lia
   exact PySem.SeqAt.RcNeAt.lists (e:=λ_=>true) pl.isList g.isList () () (λj S _=>()) X.prog X.w _ _ (by rw[o];exact⟨.bl _,H,I,rfl,q _ F H (.refl h) (yh _ F)⟩)
  .have T:ds.length≠0:=λz=>c (Jn.mp z);have o:b.toArray.size≠0:=by rw[Zm];lia
   have M:(!ds.isEmpty)=true:=by cases ds with
    |nil=>exact Zn rfl c
    |cons a l=>rfl
   rw[M] at q;exact PySem.SeqAt.RcNeAt.lists_lengths pl.isList g.isList (by rw[L];simpa using o) () X.prog X.w _ _ ⟨.bl _,H,I,rfl,q _ F H (.refl h) (yh _ F)⟩
 .exact Jy i
end
end L2.DL
namespace L2
abbrev zA:Yd:=[.type "ValueError",.type "Exception",.type "BaseException",.type "object"]
abbrev xk (C t:Addr)(od:Option Addr):Obj:={ cls:=.ref C,dict:=od,data:=.fields #[.ref t,.none,.none,.none,.bool false,.none] }
def XO (C x t:Addr)(a:Option Addr):HO:=.ext λh=>h.get? x=some (xk C t a)
def XO.ok {P:Program}{w:World}{H:Hp}{h:Heap}{C x t:Addr}{a:Option Addr}(e:h.get? x=some (xk C t a)):xj P w H h x (XO C x t a):=⟨e,⟨_,e⟩,λ_ _ q k=>k _ q⟩
structure ExcI (K:W.Frag)(mg:Yc)(c:Str)(C fI:Addr)(f:Str):Prop where
 ns:W.nsIn K mainGlobals c=some (some (.ref C))
 mgc:mg c=some (.ref C)
 ob:∃A dd cd k0 k1 k2 k3 k5,K.lookup C=some ⟨.type "type",dd,.cls cd,#[k0,k1,k2,k3,some (.builtin "ValueError.__new__"),k5]⟩/\cd.mro=.ref C :: .ref A::zA/\cd.hasDel=false/\cd.hasDict=true/\W.excIn K A zA "ValueError.__new__" = true
 init:W.findIn K (.ref C) "__init__" = some (some (.ref fI))
 fn:W.isFn K (.ref fI)=true
 no:z4 K C f
 sa:W.findIn K (.ref C) "__setattr__" = some (some (.builtin "object.__setattr__"))
def CB (K:W.Frag)(c a f:Str)(st:Stmt)(C b:Addr):Prop:=(∀{h:Heap} {d:Yc},K.In h->h.Ns mainGlobals d->ExcI K d c C b f)/\∃e,Fun K "__init__" a st b e
def excI_mk {K:W.Frag}{c a f:Str}{st:Stmt}{C b A:Addr}{dd:Option Addr}{cd:ClassData}{k0 k1 k2 k3 k5:Ye}{g:FuncData}(j:W.nsIn K mainGlobals c=some (some (.ref C)))(l:K.lookup C=some ⟨.type "type",dd,.cls cd,#[k0,k1,k2,k3,some (.builtin "ValueError.__new__"),k5]⟩)
 (m:cd.mro=.ref C :: .ref A::zA) (d:cd.hasDel=false) (h:cd.hasDict=true) (e:W.excIn K A zA "ValueError.__new__" = true) (i:W.findIn K (.ref C) "__init__" = some (some (.ref b))) (n:W.isFn K (.ref b)=true) (o:z4 K C f) (s:W.findIn K (.ref C) "__setattr__" = some (some (.builtin "object.__setattr__"))) (F:Fun K "__init__" a st b g):CB K c a f st C b:=
 ⟨λX G=>⟨j,W.mg_of X G j,⟨A,dd,cd,k0,k1,k2,k3,k5,l,m,d,h,e⟩,i,n,o,s⟩,g,F⟩
def ExcI.obj {K:W.Frag}{y:Yc}{c f:Str}{C z:Addr}{h:Heap}{P:Prop}(x:ExcI K y c C z f)(s:K.In h)
 (k:∀bm N nm g bs sn sub ab col dd k0 k1 k2 k3 k5 cd,h.get? C=some (excClassObj nm g C N bs bm true sn sub ab col dd k0 k1 k2 k3 k5 "ValueError.__new__")->W.clsIn K C=some cd->cd.mro=.ref C::bm->cd.hasDict=true->OwnTail h zA bm->(∀a,refuseLoop a "__setattr__" cd.mro=pure Ym)->P):P:=by
 obtain⟨A,dd,cd,k0,k1,k2,k3,k5,t,i,b,u,B⟩:=x.ob;refine Cw s B λbm N nm g bs hdct sn sub ab col E M O Q R S U j F l T=>?_;have G:OwnTail h zA (.ref A::zA):=.own (cd:=⟨nm,bs,.ref A::bm,N,g,hdct,sn,sub,ab,col,false⟩) j F l .base;have H:=s _ _ t;have I:W.clsIn K C=some cd:=by unfold W.clsIn;rw[t]
 have J:∀a,refuseLoop a "__setattr__" cd.mro=pure Ym:=λa=>by rw[i,refuseLoop_ref,refuseLoop_ref];exact PySem.F.store_ValueError.passes a
 obtain⟨m,n,v,o,p,L,q,d,r,e,w⟩:=cd;dsimp only at i b u;subst i b u;exact k (.ref A::zA) o m p n q d r e dd k0 k1 k2 k3 k5 _ H I rfl rfl G J
section
variable {X:Cx}{Y:Yb}{Z: St}{H:Hp}{s:Shared}{A:Around}{E:Ya}
def OD {c f:Str}{C M a t:Addr}{u:Value}{Q:Unit->Yq}(I:Inv X Y Z H s)(e:H a=some (XO C a t none))(x:ExcI X.K X.mg c C M f)
 (h:∀d s',Inv X Y Z (upd H a (XO C a t (some d))) s'->Q Ym s'):wpAny (model X.prog X.w) A (setAttr (.ref a) f u) Q E s:=by
 have O:s.heap.get? a=some (xk C t none):=(I.hok a _ e).1;have J:W.InstAt s.heap a (xk C t none) C none:=⟨O,rfl,rfl,True.intro⟩;refine x.obj I.kIn λbm N nm qn bs sn sub ab col dd k0 k1 k2 k3 k5 cd hC p K P T R=>?_;refine W.set_plain I.kIn J x.sa ?_;have i:=PySem.F.store_object;obtain⟨s',hs'⟩:∃s':Shared,s'={ s with toks:=s.toks+1 }:=⟨_,rfl⟩;have m:X.K.In s'.heap:=by rw[hs'];exact I.kIn
 have n:W.InstAt s'.heap a (xk C t none) C none:=by rw[hs'];exact J
 have ne:cd.mro.isEmpty=false:=by rw[K];rfl
 have S:W.Looks (model X.prog X.w) s'.heap (isInstance (.ref a) (.type "object")) true:=n.type.andThen (W.looks_mroIn m (by
  unfold W.mroIn;rw[p,Option.bind_some,Ze (by rw[ne];decide),K,List.contains_cons,T.hasType (X:= "object") (b:=true) (by decide),UP]))
 have r:W.Looks (model X.prog X.w) s'.heap (mroOf (.ref C)) cd.mro:=(W.looks_clsIn m p).andThen .now;rw[<- hs'];refine codeAny_call_builtin i.slot.plain i.entry (@W.check_slot (model X.prog X.w) _ _ s' "object.__setattr__" "object" "__setattr__" (.ref a) [.str f s.toks,u] [] _ i.kind i.split S (i.args (.ref a) (.str f s.toks) u) ?_);rw[W.osa_eq,refuse_eq];refine Za (Za (n.type.here (Za (r.here ?_))));rw[R];refine Zb (Za (n.type.here (Za ((W.looks_findIn m x.no).here (Za (W.Looks.now.here ?_))))));have g:s'.heap.get? a=some (xk C t none):=n.at_;refine Za (Zb (Za (Za (wpAny_loadPart g (Za ((W.looks_clsIn m p).here ?_))))));rw[P];have hx₁:(s'.heap.push { cls:=.type "dict",data:=.dict #[] }).get? a=some (xk C t none):=Zq _ g;have j:a≠s'.heap.objs.size:=Zi (Zk g);refine Za (wpAny_alloc' ?_);refine Za (wpAny_update' hx₁ ?_);refine Zb (Za (Zb (Za ?_)));have v:((s'.heap.push { cls:=.type "dict",data:=.dict #[] }).update a λo=>{ o with dict:=some s'.heap.objs.size }).get? s'.heap.objs.size=some { cls:=.type "dict",data:=.dict #[] } :=
  (Heap.get?_update_ne _ _ _ _ j.symm).trans (Heap.get?_push_at rfl rfl)
 have w:((s'.heap.push { cls:=.type "dict",data:=.dict #[] }).update a λo=>{ o with dict:=some s'.heap.objs.size }).Ns s'.heap.objs.size (λ_=>none):=
  ⟨_,#[],_,v,rfl,λe U=>Zn U (),λ_=>rfl⟩
 refine wpAny_nsSet1 (Heap.Ns1.of_empty w) λh' y L=>?_;obtain⟨oD,esD,epD,B,F,G⟩:=y.count (Within.cons f u Within.nil);refine Za (wpAny_lookBehind B (by rw[F];exact pastItsLine_dict (Zh G (by rw[Zu,ZC,sizeLine_eq];lia))) ?_);have l:h'.get? a=some (xk C t (some s'.heap.objs.size)):=(L.2 a j).trans (Heap.get?_update_self _ hx₁ rfl);refine Zb (h s'.heap.objs.size _ ?_);subst hs';refine I.write (x:=a) (e:=a) (by rw[e];exact True.intro) (.inl rfl) (λb q hb z=>?_) ⟨_,l⟩ (XO.ok l);exact(L.2 b (Zi (Zk z))).trans ((Heap.get?_update_ne _ _ _ _ hb).trans (Zq _ z))
end
def FF (C:Addr)(c e:TE):TS:=λD Z H=>e Z H λ_ f=>c Z f λx b=>∃a t,x=.ref a/\b a=some (XO C a t none)/\∀d,D.nx Z (upd b a (XO C a t (some d)))
def FH {X:Cx}{o b:Expr}{c f:Str}{C l:Addr}{g e:Pos}{i j:TE}(x:ExcI X.K X.mg c C l f)(m:PE X o i)(n:PE X b j)(p:swapsWith b (some (.Attribute o f e)) g.line X.env=pure false):PS X (.Assign [.Attribute o f e] b g) (FF C i j):=by
 intro Y s Z H D I h;refine plainObj_wpAny_Assign_Attribute (TQ (n Y s Z H _ I h) λu r ⟨y,v,w,L,q⟩=>TQ (m Y r Z v _ w q) λA M ⟨z,N,B,E,a,t,F,G,J⟩=>?_) p;subst F;obtain rfl:A=Value.ref a:=E;exact OD B G x λd O K=>⟨Z,_,K,J d⟩
def zW (C:Addr):Sp:=λa H Q _=>∃x u t,a=[.ref x,u]/\H x=some (XO C x t none)/\∀d,Q .non (upd H x (XO C x t (some d)))
def FI {P:Program}{w:World}{K:W.Frag}{i:Yc}{d:Heap}{x f:Str}{st:Stmt}{h:Addr}{j:FuncData}{a b:Str}{C:Addr}(F:Fun K x f st h j)(S:FnScope [a,b] [a,b] (JP st))
 (l:∀(g:Value) (A:Around) (c:List Env) (s:Shared) (H:Hp) (E:XK),qx (jt xa P w K i d [a,b] f (JP st) h g A c s H E).nox (Kc st) (FF C (xl 0) (xl 1))):
 FnOk P w K i d xa 1 h j [a,b] (zW C):=by
 refine F.ok S (λm H Q E ⟨x,u,t,e,_⟩=>by rw[e];rfl) λg A c s H m Q E n ⟨x,u,t,e,hx,q⟩=>⟨_,l g A c s H E,?_⟩;subst e;exact⟨u,rfl,.ref x,rfl,x,t,rfl,hx,q⟩
section
variable {prog:Program}{w:World}{A:Around}{E:Ya}{h:Heap}{g:Array GenState}{d:Drawn}{t:Nat}{os:OsState}{K:W.Frag}
variable {nm q:Str}{C N fI:Addr}{bs bm:Yd}{hdct:Bool}{sn:Yh}{sub:Yd}{ab:Bool}{col:Option Bool}{dd:Option Addr}{k0 k1 k2 k3 k5:Ye}
def OE (X:K.In h)(l:W.findIn K (.ref C) "__init__" = some (some (.ref fI)))(m:W.isFn K (.ref fI)=true)(T:OwnTail h zA bm){rest:Yd}{Q:Fin->Yq}
 (c:h.get? C=some (excClassObj nm q C N bs bm hdct sn sub ab col dd k0 k1 k2 k3 k5 "ValueError.__new__"))
 (n:∀h' e,h.objs.size<=e->Heap.MadeExcOf h h' e (.ref C) rest->Yw prog w A (call (.ref fI) (.ref e::rest)) (λr s'=>r=.none/\Q (.done (.ret (.ref e))) s') E ⟨h',g,d,t,os⟩) (hrest:rest.length<=sizeLine):
 Yw prog w A (Builtin.«type.__call__» ⟨.ref C::rest,[]⟩) Q E ⟨h,g,d,t,os⟩:=by
 have f:=PySem.F.excBase_ValueError;show wpAny _ _ _ _ _ _
 repeat (first|with_reducible refine wpAny_loadPart_at c ?_|with_reducible refine wpAny_madeBy_exc c ?_|wp_step)
 refine codeAny_call_builtin_code (Code.quiet_builtin _ f.quiet) (wpAny_check_new_subU f (by decide +kernel) T c ?_);refine codeAny_exc_new_subU f (by decide +kernel) f T c ?_ hrest;show wpAny _ _ _ _ _ _;have i:∀b o,h.get? b=some o->((h.push { cls:=.type "tuple",data:=.seq rest.toArray }).push { cls:=.ref C,data:=.fields #[.ref h.objs.size,.none,.none,.none,.bool false,.none] }).get? b=some o:=λb o e=>Zq _ (Zq _ e);have hC₁:=i _ _ c;have X₁:=X.keeps i;have a:((h.push { cls:=.type "tuple",data:=.seq rest.toArray }).push
  { cls:=.ref C,data:=.fields #[.ref h.objs.size,.none,.none,.none,.bool false,.none] }).get? (h.objs.size+1)=some
  { cls:=.ref C,data:=.fields #[.ref h.objs.size,.none,.none,.none,.bool false,.none] }:=by heap_get
 have j:(Value.ref C::bm).contains (.ref C)=true:=by simp
 unfold isInstance
 repeat (first|with_reducible refine wpAny_loadPart_at a ?_|(with_reducible refine wpAny_isSubtype_exc hC₁ ?_;rw[j])|wp_step)
 show wpAny _ _ (typeLookup (.ref C) _) _ _ _;refine(W.looks_findIn X₁ l).at ?_;refine wpAny_holding (Za ((W.bind_fn X₁ _ (Yl.mp m)).at ?_));refine Za (Zc (n _ (h.objs.size+1) (UT _) ⟨i,Heap.get?_none_of_le (UT _),h.objs.size,a,Heap.get?_none_of_le (Zf _),?_⟩) (λr s' p=>?_) λ_ _ x=>x)
 .exact Zq _ (Heap.get?_push_at rfl rfl)
 .obtain⟨rfl,s⟩:=p
  wp_walk
  exact s
def OF (X:K.In h)(b:W.findIn K (.ref C) "__init__" = some (some (.ref fI)))(c:W.isFn K (.ref fI)=true)(T:OwnTail h zA bm){rest:Yd}{Q:Ya}
 (a:h.get? C=some (excClassObj nm q C N bs bm hdct sn sub ab col dd k0 k1 k2 k3 k5 "ValueError.__new__"))
 (f:∀h' e,h.objs.size<=e->Heap.MadeExcOf h h' e (.ref C) rest->wpAny (model prog w) (A.under (.builtin "type.__call__" ⟨.ref C::rest,[]⟩)) (call (.ref fI) (.ref e::rest)) (λr s'=>r=.none/\Q (.ref e) s') E ⟨h',g,d,t,os⟩) (hrest:rest.length<=sizeLine):
 Yw prog w A (call (.ref C) rest) Q E ⟨h,g,d,t,os⟩:=by
 have l:=tc_lookup;have m:=tc_bind (.ref C);have n:(⟨h,g,d,t,os⟩:Shared).TypeIs (.ref C) "type" := ⟨_,a,rfl⟩;refine wpAny_call (codeAny_of_tree ?_);show wpAny _ _ (callAny (.ref C) _) _ _ _
 repeat (any_goals (first|assumption|with_reducible refine wpAny_loadPart_at a ?_|wp_step))
 refine⟨rfl,?_⟩;exact codeAny_call_builtin_at (Code.quiet_builtin _ (by decide +kernel)) entry_typeCall (wpAny_check_type_call_sub a (OE (hrest:=hrest) X b c T a λh' e i j=>f h' e i j))
def FK {s:Shared}{env:Env}{x:Sem Value}{Q:Flow->Yq}{M:Model}{newId:String}(a:bm.contains (.type "BaseException")=true)(i:A.handled=none)
 (h:wpAny M A x (λv s₁=>∃e t c,v=.ref e/\s₁.heap.get? C=some (excClassObj nm q C N bs bm hdct sn sub ab col dd k0 k1 k2 k3 k5 newId)/\s₁.heap.get? e=some (xk C t c)/\E (.ref e) s₁) E s):
 wpAny M A (raiseStmt env (some x) none) Q E s:=by
 have b:(Value.ref C::bm).contains (.type "BaseException")=true:=by rw[List.contains_cons,a,UP]
 unfold raiseStmt;refine Za (Zc h (λv s₁ h₁=>?_) λ_ _ x=>x);obtain⟨e,t,c,rfl,f,j,l⟩:=h₁;obtain⟨hp,g,d,tk,os⟩:=s₁
 repeat (first|with_reducible refine wpAny_loadPart_at j ?_|with_reducible refine wpAny_loadPart_at f ?_|(with_reducible refine wpAny_isSubtype_exc f ?_;rw[b])|wp_step)
 exact wpAny_raiseNew_none i l
def OG {s:Shared}{env:Env}{x:Str}{n b j:Pos}{args:Yj}{Q:Flow->Yq}{newId:String}(c:bm.contains (.type "BaseException")=true)(o:A.handled=none)(i:(backTo b (starEach args env)).any (·.1)=false)
 (h:Yw prog w A (eval (.Name x n) env) (λf s₁=>f=.ref C/\Yw prog w A (evalArgs (.ref C) true (backTo b (starEach args env)) [])
  (λa s₂=>a.kw=[]/\s₂.heap.get? C=some (excClassObj nm q C N bs bm hdct sn sub ab col dd k0 k1 k2 k3 k5 newId)/\Yw prog w A (call (.ref C) a.pos) (λv s₃=>∃e t r,v=.ref e/\s₃.heap.get? C=some (excClassObj nm q C N bs bm hdct sn sub ab col dd k0 k1 k2 k3 k5 newId)/\s₃.heap.get? e=some (xk C t r)/\E (.ref e) s₃) E s₂) E s₁) E s):
 Yw prog w A (exec (.Raise (some (.Call (.Name x n) args [] b)) none j) env) Q E s:=by
 rw[arm_exec_Raise]
 first
  |refine Za (wpAny_standAt (FK (C:=C) (nm:=nm) (q:=q) (N:=N) (bs:=bs) (bm:=bm) (hdct:=hdct) (sn:=sn) (sub:=sub) (ab:=ab) (col:=col) (dd:=dd) (k0:=k0) (k1:=k1) (k2:=k2) (k3:=k3) (k5:=k5) (newId:=newId) c o (Za (Zc (wpAny_Call_ofName (Zc h (λf s₁ h₁=>?_) λ_ _ x=>x)) (λv s₃ h₃=>Za (wpAny_standAt (Zb h₃))) λ_ _ x=>x))))
  | (simp only[evalOpt,Option.map];refine Za (wpAny_standAt (FK (C:=C) (nm:=nm) (q:=q) (N:=N) (bs:=bs) (bm:=bm) (hdct:=hdct) (sn:=sn) (sub:=sub) (ab:=ab) (col:=col) (dd:=dd) (k0:=k0) (k1:=k1) (k2:=k2) (k3:=k3) (k5:=k5) (newId:=newId) c o (Za (Zc (wpAny_Call_ofName (Zc h (λf s₁ h₁=>?_) λ_ _ x=>x)) (λv s₃ h₃=>Za (wpAny_standAt (Zb h₃))) λ_ _ x=>x)))))
 obtain⟨rfl,h₁⟩:=h₁;unfold callWith;refine Za (wpAny_holding (Zc h₁ (λa s₂ h₂=>Za (wpAny_standAt ?_)) λ_ _ x=>x));obtain⟨p,l⟩:=a;obtain⟨m,u,h₂⟩:=h₂;obtain rfl:l=[]:=m;obtain⟨hp,g,d,tk,os⟩:=s₂;simp only[i];refine Za (wpAny_keeperOf_exc u ?_);exact Za (Zc h₂ (λv s₃ h₃=>Za (wpAny_holding (wpAny_point (Zb h₃)))) λ_ _ x=>x)
end
structure RaisesI (X:Cx)(E:XK):Prop where
 new:∀(Y:Yb) (Z: St) (H:Hp) (s:Shared) (x C t:Addr) (oe:Obj) (vs:Yk),Inv X Y Z H s->H x=none->X.s₀.heap.get? x=none->s.heap.get? x=some oe->oe.cls=.ref C->oe.data=.fields vs->vs[0]? = some (.ref t)->vs[1]? = some .none->E (.ref C) none H->X.xe (.ref x) s
section
variable {P:Program}{w:World}{K:W.Frag}{mg:Yc}{base:Heap}{N:Yh}{qual:Str}{scope:Scope}{f:Addr}{cd:Value}{A:Around}{outer:List Env}{s:Shared}{H:Hp}{E:XK}
def FL:RaisesI (jt (qV P w) P w K mg base N qual scope f cd A outer s H E) E:=by
 refine⟨λY Z M s' x C t O Q I hx d g m n p q r=>?_⟩;have st:=I.stack;have i:∀env∈(envOfC qual scope s.heap.objs.size f cd::outer),∀a,env.frame=some a->a∈x::frs (envOfC qual scope s.heap.objs.size f cd::outer):=λenv g a v=>Zqm _ (Jl.mpr ⟨env,g,v⟩);have nb:(W.hideAll s'.heap (x::frs (envOfC qual scope s.heap.objs.size f cd::outer))).get? x=none:=W.hideAll_none _ Zqs;refine wpAny_leaving_firstW (a0:=.ref t) I.ok.frames (W.funFrames_hide st i) rfl g (λb o e=>W.of_hideAll _ e) nb n q p λy l=>?_;rw[m] at l;obtain⟨B,⟨_,_,F⟩,G,J⟩:=l;refine AD (s':=s') (h₀:=W.hideAll s'.heap [x]) I (λb u e=>?_) ⟨B,nb,F,G⟩ J (λb o e c=>?_) r
 .obtain⟨L,j⟩:=I.base.there b u e (by show b∉([]:Yi);simp);exact⟨L,W.hideAll_get _ j λz=>by
   have e:s.heap.get? b=some u:=e;have d:s.heap.get? x=none:=d;rw[Jc.mp z,d] at e;cases e⟩
 .refine W.hideAll_get _ e λz=>?_;rcases UB.mp z with z|z
  .rcases c with c|⟨⟨u,hu⟩,_⟩
   .exact c (by rw[z];exact hx)
   .rw[z,W.hideAll_none _ (Jc.mpr rfl)] at hu;cases hu
  .rcases c with c|c
   .exact c (I.stkFree b z)
   .exact c.2 z
end
section
variable {X:Cx}{e:Expr}{t:TA}{np cpos pos:Pos}
def OH {E:XK}{c f:Str}{C M:Addr}{O:FuncData}{ps:Yh}{k:Nat}(R:RaisesI X E)(x:ExcI X.K X.mg c C M f)(F:FnOk X.prog X.w X.K X.mg X.base xa k M O ps (zW C))(b:y4 X.K O ps [])(hr:Room (k+1) X.A)(hc:X.calm=true)(hg:Gl X c)(ha:PA X [e] t)(hd:(c == ("__debug__" : Str))=false:=by decide)
 (P:starEach [e] X.env=(false,eval e X.env)::starEach [] X.env:=by rfl):PS X (.Raise (some (.Call (.Name c np) [e] [] cpos)) none pos) (λ_ Z H=>t Z H λp H1=>p.length=1/\E (.ref C) none H1):=by
 intro Y s Z H D I h;refine x.obj (h:=X.base) I.mod.kin λbm N nm q bs sn sub ab col dd k0 k1 k2 k3 k5 cd i cl A hdt Q rf=>?_;refine OG (C:=C) (nm:=nm) (q:=q) (N:=N) (bs:=bs) (bm:=bm) (hdct:=true) (sn:=sn) (sub:=sub) (ab:=ab) (col:=col) (dd:=dd) (k0:=k0) (k1:=k1) (k2:=k2) (k3:=k3) (k5:=k5) (newId:= "ValueError.__new__") (Q.hasType PySem.F.excBase_ValueError.hasBase) (I.ok.hd hc) (by rw[P];rfl) (WQ I hg x.mgc ⟨rfl,?_⟩ hd);have S:=ha cpos Y s Z H _ I h;rw[P] at S ⊢;refine Calls.evalArgs_plain (Zc S (λus T ⟨p,n,j,U,hl,hE⟩=>?_) λ_ _ y=>y);refine⟨rfl,j.bk _ _ i,?_⟩;obtain⟨y,rfl⟩:∃y,p=[y]:=by
  cases p with
  |nil=>cases hl
  |cons y l =>
   cases l with
   |nil=>exact⟨y,rfl⟩
   |cons _ _=>cases hl
 have lu:=U.length;have B:=j.bk _ _ i;have T2:=Q.keeps j.bk;have K2:=j.kIn;have sz:=j.sz;show wpAny _ _ (call (.ref C) us) _ _ T;obtain⟨h2,g2,d2,t2,o2⟩:=T;refine OF K2 x.init x.fn T2 B (λh' e m A=>?_) (small (by rw[<- lu];show 1<=1000;lia));obtain⟨t,G,_,_⟩:=A.there;have J:=j.laid (a:=e) (o:=XO C e t none) (t':=t2) A.keeps m (XO.ok G);have hn:n e=none:=j.hok.fresh m;have r3:TD [V.ref e,y] (Value.ref e::us):=.cons rfl U;have sp:zW C [.ref e,y] (upd n e (XO C e t none)) (λv H'=>v=.non/\∃d,H'=upd (upd n e (XO C e t none)) e (XO C e t (some d))) E0:=⟨e,y,t,rfl,JC,λd=>⟨rfl,d,rfl⟩⟩;have K:(Value.ref e::us++[]).length=ps.length:=by
  rw[ZA,<- r3.length];exact F.len _ _ _ _ sp
 have bb:=b _ (Value.ref e::us) J.kIn K;rw[ZA] at bb;refine wpAny_call (codeAny_mono (F.run _ X.stack _ _ ⟨Value.ref e::us,[]⟩ (Value.ref e::us) _ _ E0 (hr.make C us []) (J.env0.make C us []) bb r3 sp) λr s' g=>?_);cases r with
 |error e=>exact False.elim g
 |ok fl =>
  cases fl with
  |next=>exact False.elim g
  |brk=>exact False.elim g
  |cont=>exact False.elim g
  |ret u =>
   obtain⟨v,H',w,rv,ev,d,L⟩:=J.after g;subst ev L;refine⟨rv,e,t,some d,rfl,w.bk _ _ i,(w.hok e _ JC).1,?_⟩;have I5:=w.forget (it:=e) (φ:= λh=>h.get? e=some (xk C t (some d))) JC;have L:vO (upd (upd n e (XO C e t none)) e (XO C e t (some d))) e=n:=by
    funext z
    by_cases q:z=e
    .rw[q,EY,hn]
    .rw[Xh q,Jz q,Jz q]
   rw[L] at I5;exact R.new Y Z n s' e C t _ _ I5 hn (Heap.get?_none_of_le (Zh sz m)) (w.hok e _ JC).1 rfl rfl rfl rfl hE
end
section
variable {X:Cx}{Y:Yb}{Z: St}{H:Hp}{s:Shared}
def OI {o:Ya}{c:Str}{U:Addr}{b₀:Stmt}{suite:List Stmt}{F i:Pos}{ts:TS}{D:Ends}{e:Value}(a:X.stack=X.env::X.outer)(p:X.env.frame=some X.env.locals)(A:Exc X.K X.mg c U)(G:Gl X c)
 (J:∀x,qx (X.inSuite x) (b₀::suite) ts) (d:AE X Y Z (λK _ L=>∃C,K=.ref C/\W.subIn X.K (.ref C) (.ref U)=some true/\ts D Z L) e s) (M:(c == ("__debug__" : Str))=false):
 Yv X (noteFrame e X.env) (λ_ s₂=>Yv X (setFlight e none) (λ_ s₃=>Yv X (handleBy e X.env [.ExceptHandler (some (.Name c F)) none (b₀::suite) i]) (SP X Y D) o s₃) o s₂) o s:=by
 obtain⟨O,h₀,x,P,B,rfl,I,E,hp,⟨⟨t,r⟩,trk⟩,C,u,up,v⟩:=d;cases u;have g:=r;rw[a] at g;refine wpAny_looks_onW (I.ok.frames.trans (by rw[a])) p g λh₄ held₄ up₄=>?_;refine wpAny_landsW held₄ λh₅ fl₅ up₅=>?_;have l:=fl₅;rw[<- a] at l;have m:=up₄.trans up₅;have w:=I.flown E hp trk l m;refine wpAny_handleBy_cons (codeAny_handlers_test (WQ (X:=X.inSuite x) (w.suite x) G A.mgc ?_ M)) (by intro q;cases q);refine Cw (h:=h₅) w.kIn A.exc λtl N nm q bs hdct sn sub ab col dd k0 k1 k2 k3 k5 mN Q hN R T=>?_;obtain⟨ob,y,n⟩:=fl₅.there;have S:W.Looks (model X.prog X.w) h₅ (isSubtype (.ref P) (.ref U)) true:=W.looks_subIn w.kIn up;refine N0 Q y n (T.hasType PySem.F.excBase_ValueError.hasBase) S (codeAny_handlers_suite ?_);refine lands_againW fl₅ λh₆ fl₆ up₆=>?_;rw[<- a] at fl₆;have I6:=I.flown E hp trk fl₆ (m.trans up₆);exact Zc (J x Y _ Z O D (I6.suite x) v) (λf s2 q=>q.unsuite I.ok) λ_ _ z=>z.elim
def OJ {c:Str}{U:Addr}{a:List Stmt}{m:TB}{ts:TS}{b₀:Stmt}{suite:List Stmt}{n d g:Pos}(i:X.stack=X.env::X.outer)(j:X.env.frame=some X.env.locals)(o:PB X a m)(p:Exc X.K X.mg c U)(l:Gl X c)(r:∀x,qx (X.inSuite x) (b₀::suite) ts)
 (t:(c == ("__debug__" : Str))=false:=by decide):PS X (.Try a [.ExceptHandler (some (.Name c n)) none (b₀::suite) d] [] [] g) (λD Z H=>m D (λu _ w=>∃C,u=.ref C/\W.subIn X.K (.ref C) (.ref U)=some true/\ts D Z w) Z H):=by
 intro Y s Z H D I h;rw[arm_exec_Try];refine Za (wpAny_standAt (wpAny_tryStmt_except (Zc (o Y s Z H D _ I h) (λf y q=>?_) λe y z=>OI i j p l r z t)));cases f with
 |next=>exact wpAny_execs_nil q
 |ret v=>exact q
 |brk=>exact q
 |cont=>exact q
end
end L2
namespace L2.DL
def AS (cs:Yh)(gs:FS)(sd:SD):Res Out->Res Out
 | .ok o=>.ok o
 | .ex c [] => @ite _ (c∈cs) (Classical.propDecidable _) (gs sd).strict .no
 |_=>.no
@[simp]def v4 (cs:Yh)(gs:FS)(sd:SD)(o:Out):AS cs gs sd (.ok o)=.ok o:=rfl
def FM {cs:Yh}{c:Str}(gs:FS)(sd:SD)(h:c∈cs):AS cs gs sd (.ex c [])=(gs sd).strict:=@if_pos _ (Classical.propDecidable _) h _ _ _
def ZJ (cs:Yh)(g gs:FS):FS:=λsd=>AS cs gs sd (g sd)
@[simp]def hF (cs:Yh)(g gs:FS)(sd:SD):ZJ cs g gs sd=AS cs gs sd (g sd):=rfl
def XI (P:Program)(w:World)(K:W.Frag)(b:Yc)(a:Heap)(c:Str):Prop:=∃C d f e ps,ExcI K b c C d f/\FnOk P w K b a xa 1 d e ps (zW C)/\y4 K e ps []
def AT (c:Str)(names:Yh)(a:Yt->Res Yt)(b:FA):FE:=λsd=>(b sd).bind λds=>(a ds).strict.bind λes=>.ok (.ins c names es)
@[simp]def gt (c:Str)(names:Yh)(a:Yt->Res Yt)(b:FA)(sd:SD):AT c names a b sd=(b sd).bind λds=>(a ds).strict.bind λes=>.ok (.ins c names es):=rfl
section
variable {X:Cx}{E:XK}{m:Option Bool}
def OK {c:Str}{U:Addr}{cs:Yh}{e:List Stmt}{g gs:FS}{b₀:Stmt}{suite:List Stmt}{y f j:Pos}(l:X.stack=X.env::X.outer)(p:X.env.frame=some X.env.locals)(z:QB X m e g)(ex:Exc X.K X.mg c U)(s:Gl X c)(A:∀x,yT (X.inSuite x) E0 m (b₀::suite) gs)
 (G:∀h∈cs,∃C,W.nsIn X.K mainGlobals h=some (some (.ref C))/\W.subIn X.K (.ref C) (.ref U)=some true) (I:(c == ("__debug__" : Str))=false:=by decide):QS X E m (.Try e [.ExceptHandler (some (.Name c y)) none (b₀::suite) f] [] [] j) (ZJ cs g gs):=
 PS.weak (OJ (ts:=vE X.K E0 m gs) l p z ex s A I) λT Z H J=>by
  obtain⟨B,F,sd,r,n⟩:=J;refine⟨B,F,sd,r,?_⟩;unfold ZJ at n;cases t:g sd with
  |ok o=>rw[t] at n;exact n
  |no=>rw[t] at n;exact n.elim
  |ex h fs =>
   rw[t] at n;cases fs with
   |cons d r=>exact n.elim
   |nil =>
    by_cases u:h∈cs
    .rw[FM gs sd u] at n;intro O a K P v ⟨L,M,w,_⟩;obtain⟨C,N,i⟩:=G h u;rw[N] at w;cases w;refine⟨L,M,i,B,K,sd,r.step v,?_⟩;exact(Res.need_strict n).mono (λo (q:yi X.K m B F T o)=>q.mono v.ff) λ_ _ q=>q
    .have n:(@ite _ (h∈cs) (Classical.propDecidable _) (gs sd).strict Res.no).need (yi X.K m B F T) (XW X.K E B.F0 B.H0):=n;rw[@if_neg _ (Classical.propDecidable _) u] at n;exact n.elim
def FN {c:Str}{e:Expr}{h:FE}{l a i:Pos}(R:RaisesI X E)(ex:XI X.prog X.w X.K X.mg X.base c)(o:Room 2 X.A)(p:X.calm=true)(s:Gl X c)(t:QE X E e h)(u:(c == ("__debug__" : Str))=false:=by decide)
 (g:starEach [e] X.env=(false,eval e X.env)::starEach [] X.env:=by rfl):QS X E m (.Raise (some (.Call (.Name c l) [e] [] a)) none i) (JL c h):=by
 obtain⟨C,L,f,M,ps,x,v,b⟩:=ex;exact PS.weak (OH R x v b o p s (Ju t Jw g) u g) λT Z H w=>by
  obtain⟨B,F,sd,r,n⟩:=w;have y:(Jt h Tp sd).need (λds=>ds.length=1/\XW X.K E B.F0 B.H0 c []) (XW X.K E F H):=by
   unfold JL at n;unfold Jt Tp;cases j:h sd with
   |ok d=>rw[j] at n;exact⟨rfl,n⟩
   |ex z fs=>rw[j] at n;exact XW.ext (n:XW X.K E B.F0 B.H0 z fs) r.ext
   |no=>rw[j] at n;exact n
  refine⟨B,F,sd,r,y.mono (λds A N G I J K=>?_) λ_ _ q=>q⟩;have:=K.length;exact⟨(),A.2 (.ref C) none G I (r.ext.trans J) ⟨C,rfl,x.ns,.inl rfl⟩⟩
def FP {c:Str}{names:Yh}{k:Nat}{ps:Yh}{z:Yt->Res Yt}{p j:Pos}{e:Expr}{es:Yj}{A:FA}(M:bu X.prog X.w X.K X.mg X.base c names k ps z)(J:Room (k+1) X.A)(K:Gl X c)(L:QA X E (e::es) A)
 (t:(c == ("__debug__" : Str))=false:=by decide) (N:starEach (e::es) X.env=(false,eval e X.env)::starEach es X.env:=by rfl) (u:(backTo j (starEach es X.env)).any (·.1)=false:=by rfl):
 QN X E (.Call (.Name c p) (e::es) [] j) (AT c names z A):=by
 obtain⟨C,f,fd,v,mk,F,b⟩:=M;refine PE.weak (BE mk F J K v.mgc b .nil Am L t N u) λZ H Q ⟨B,F,sd,r,n⟩=>?_;refine⟨B,F,sd,r,(Res.need_bind n).mono (λds O P i l h R x d nx TJ ne=>?_) λ_ _ q=>q⟩;have S:=Res.need_strict (q':=XW X.K E0 i (qH (upd (upd l d (.own x)) x (.ins C d [])) x)) (Res.need_bind O);have w:i x=none:=by
  cases q:i x with
  |none=>rfl
  |some o=>rw[h.fh _ _ q] at nx;cases nx
 have y:H x=none:=by
  cases q:H x with
  |none=>rfl
  |some o=>rw[h.hh _ _ q] at nx;cases nx
 have I:∀{G:Hp},Tx G l->Tx G (qH (upd (upd l d (.own x)) x (.ins C d [])) x):=λ{G} s a o q=>by
  have g:=s _ _ q;rw[Fc (QP g nx),Jz (QP g nx),Jz (QP g TJ)];exact g
 have T:Tx i (upd (upd l d (.own x)) x (.ins C d [])):=λa o q=>by
  have g:=h.fh _ _ q;rw[Jz (QP g nx),Jz (QP g TJ)];exact g
 have U:Ext F H i (qH (upd (upd l d (.own x)) x (.ins C d [])) x):=⟨h.ff,I h.fh,I h.hh,h.new⟩;rw[ZA];refine⟨i,ds,x,C,d,P,T,rfl,R,w,v.ns,JC,S.mono (λes Y F2 H2 xs e2 f2 h2 l2 i2=>⟨rfl,?_⟩) λ_ _ q=>q⟩;exact Y x F2 H2 (U.trans e2) y f2 ⟨C,d,xs,v.ns,h2,l2,i2⟩
end
def Wr.strict {α: Type}:Wr α -> Wr α
 | .ok a=>.ok a
 | .ex _ _=>.no
 | .no=>.no
 | .new hp k=>.new hp λa=>(k a).strict
theorem Wr.need_strict {α: Type}{p:α -> Prop}{q q':Str->Yt->Prop}:∀{r:Wr α},r.strict.need p q->r.need p q'
 | .ok _,h=>h
 | .ex _ _,h=>h.elim
 | .no,h=>h.elim
 | .new _ k,h=>λa z=>Wr.need_strict (r:=k a) (h a z)
theorem jB {α: Type}{p:α -> Prop}{q:Str->Yt->Prop}:∀{r:Wr α},(r.need p λ_ _=>False)->r.strict.need p q
 | .ok _,h=>h
 | .ex _ _,h=>h.elim
 | .no,h=>h.elim
 | .new _ k,h=>λa z=>jB (r:=k a) (h a z)
def AU (a:Yt->HP->Wr (D×HP))(b:yd):FV:=λsd hp=>(b sd hp).bind λp=>(a p.1 p.2).strict
@[simp]def SU (a:Yt->HP->Wr (D×HP))(b:yd)(sd:SD)(hp:HP):AU a b sd hp=(b sd hp).bind λp=>(a p.1 p.2).strict:=rfl
section
variable {X:Cx}{E:XK}{e:Expr}{es:Yj}{fr:yd}{pos:Pos}
def OL {a:Str}{k:Nat}{ps:Yh}{b:Yt->HP->Wr (D×HP)}{p:Pos}(c:za X.prog X.w X.K X.mg X.base a k ps (zw X.K b))(h:Room k X.A)(j:Gl X a)(l:wO X E (e::es) fr)
 (d:(a == ("__debug__" : Str))=false:=by decide) (m:starEach (e::es) X.env=(false,eval e X.env)::starEach es X.env:=by rfl) (f:(backTo pos (starEach es X.env)).any (·.1)=false:=by rfl):
 QV X E (.Call (.Name a p) (e::es) [] pos) (AU b fr):=PE.weak (X4 c h j l d m f) λZ H Q o=>by
 obtain⟨B,r,F,sd,hp,t,n⟩:=o;refine⟨B,r,F,sd,hp,t,jg n λp s u L x y z g A=>?_⟩;show zw X.K b (u++[]) y Q E0;rw[ZA];refine⟨x,p.1,p.2,g.rs.ext.fh,A,g.lent,(Wr.need_strict s).mono (λq C v G I w i=>?_) λ_ _ q=>q⟩;obtain⟨J,K⟩:=g.callV w;exact C v J G I (z.trans w.ff) K i
end
section
variable {P:Program}{w:World}{K:W.Frag}{mg:Yc}{base:Heap}{x qual:Str}{st:Stmt}{f:Addr}{fd:FuncData}{N ps:Yh}{k:Nat}
def OM {g:j6}{j:Yt->Res D}{kk:Nat}(F:Fun K x qual st f fd)(S:FnScope N ps (JP st))
 (hw:∀ds d,j ds=.ok d->ds.length=ps.length/\((g (Qw N.length ds) []).bind ju).need (λp=>dr p.2 kk p.1=d) λ_ _=>False) (hx:∀ds c fs,j ds=.ex c fs->ds.length=ps.length/\((g (Qw N.length ds) []).bind ju).need (λ_=>False) λJ l=>J=c/\l=fs)
 (L:∀(e:Value) (A:Around) (b:List Env) (s:Shared) (H:Hp) (E:XK),Room k (A.deeper (envOfC qual (JP st) s.heap.objs.size f e))->zB (jt (qV P w) P w K mg base N qual (JP st) f e A b s H E) E (Kc st) g):
 FnOk P w K mg base (qV P w) (k+1) f fd ps (qJ K j):=by
 refine F.okX S (λM H Q E ⟨F,ds,_,i,n⟩=>?_) λe A b s H M Q E O ⟨F,ds,R,i,n⟩=>⟨_,L e A b s H E O,?_⟩
 .cases q:j ds with
  |ok d=>rw[i.length];exact(hw ds d q).1
  |ex c fs=>rw[i.length];exact(hx ds c fs q).1
  |no=>rw[q] at n;exact n.elim
 .have t:=RT.start (RS.start (N:=N) R i);cases q:j ds with
  |no=>rw[q] at n;exact n.elim
  |ex c fs =>
   rw[q] at n;have n:XW K E F H c fs:=n;refine⟨_,_,F,_,[],t,(Wr.need_bind.mp (hx ds c fs q).2).mono (λo h=>?_) λJ l z=>by rw[z.1,z.2];exact n⟩;cases o with
   |next a hp'=>exact(show False from h).elim
   |ret d hp'=>exact(show False from h).elim
   |brk a hp'=>exact h.elim
   |cont a hp'=>exact h.elim
  |ok d =>
   rw[q] at n;have n:xu K F H Q d:=n;have m:∀{d':D} {hp':HP} {v:V} {B:St} {a:SD} {C:Bs} {r u:Hp},dr hp' kk d'=d->RT K ⟨F,H,λ_=>none⟩ C r u a hp' B->IsD K r d' v->Q v u:=λ{d' hp' v B a C r u} T y G=>by
    obtain⟨I,U,X⟩:=y.frzA;have:=IsD.dr X kk d' v (IsD.same I _ _ G);rw[T] at this;exact n v _ _ U.ext this
   refine⟨_,_,F,_,[],t,(Wr.need_bind.mp (hw ds d q).2).mono (λo h=>?_) λ_ _ z=>z.elim⟩;cases o with
   |next a hp'=>exact λB C r u I y=>m h y (TH.mpr rfl)
   |ret d hp'=>exact λv B a C r u I y G=>m h y G
   |brk a hp'=>exact h.elim
   |cont a hp'=>exact h.elim
end
end L2.DL
set_option maxHeartbeats 4000000
namespace My
open PySem L2 L2.DL
@[simp high] def rF {α: Type}(a0 a:α)(l):(a0::a::l)[1]? = some a:=rfl
@[simp high] def rz {α: Type}(a0 a v:α)(l):(a0::a::l).set 1 v=a0::v::l:=rfl
@[simp high] def rE {α: Type}(a0 b a:α)(l):(a0::b::a::l)[2]? = some a:=rfl
@[simp high] def rx {α: Type}(a0 a b v:α)(l):(a0::a::b::l).set 2 v=a0::a::v::l:=rfl
@[simp high] def rD {α: Type}(a0 b c a:α)(l):(a0::b::c::a::l)[3]? = some a:=rfl
@[simp high] def rr {α: Type}(a0 a b c v:α)(l):(a0::a::b::c::l).set 3 v=a0::a::b::v::l:=rfl
@[simp high] def rC {α: Type}(a0 b c d a:α)(l):(a0::b::c::d::a::l)[4]? = some a:=rfl
@[simp high] def rq {α: Type}(a0 a b c d v:α)(l):(a0::a::b::c::d::l).set 4 v=a0::a::b::c::v::l:=rfl
@[simp high] def rB {α: Type}(a0 b c d e a:α)(l):(a0::b::c::d::e::a::l)[5]? = some a:=rfl
@[simp high] def rp {α: Type}(a0 a b c d e v:α)(l):(a0::a::b::c::d::e::l).set 5 v=a0::a::b::c::d::v::l:=rfl
@[simp high] def rA {α: Type}(a0 b c d e f a:α)(l):(a0::b::c::d::e::f::a::l)[6]? = some a:=rfl
@[simp high] def ro {α: Type}(a0 a b c d e f v:α)(l):(a0::a::b::c::d::e::f::l).set 6 v=a0::a::b::c::d::e::v::l:=rfl
@[simp high] def r9 {α: Type}(a0 b c d e f g a:α)(l):(a0::b::c::d::e::f::g::a::l)[7]? = some a:=rfl
@[simp high] def rm {α: Type}(a0 a b c d e f g v:α)(l):(a0::a::b::c::d::e::f::g::l).set 7 v=a0::a::b::c::d::e::f::v::l:=rfl
@[simp high] def r8 {α: Type}(a0 b c d e f g h a:α)(l):(a0::b::c::d::e::f::g::h::a::l)[8]? = some a:=rfl
@[simp high] def rk {α: Type}(a0 a b c d e f g h v:α)(l):(a0::a::b::c::d::e::f::g::h::l).set 8 v=a0::a::b::c::d::e::f::g::v::l:=rfl
@[simp high] def r0 {α: Type}(a0 b c d e f g h i a:α)(l):(a0::b::c::d::e::f::g::h::i::a::l)[9]? = some a:=rfl
@[simp high] def rj {α: Type}(a0 a b c d e f g h i v:α)(l):(a0::a::b::c::d::e::f::g::h::i::l).set 9 v=a0::a::b::c::d::e::f::g::h::v::l:=rfl
def Qu (a:Yf)(k:Int):Int:=a.getD k.toNat 0
def jM (a:Yf)(t:Int):Int:=a.getD t.toNat 0
def FQ:plN 12 (.lst [])=true:=rfl
def FR {α: Type}(f:α -> D)(l:List α):sameD (.lst (l.map f)) (.lst [])=l.isEmpty:=by
 cases l with
 |nil=>exact VM _
 |cons x r=>exact z5.mpr λh=>by cases h
def Wn {α: Type}{l:List α}{k:Nat}(h:k<l.length):j0 l (k:Int)=l[k]?:= by
 simp_all [j0,yn]
def QK {α: Type}{f:α -> D}{l:List α}{i:Nat}{x:D}(h:(l.map f)[i]? = some x):∃p,l[i]? = some p/\x=f p:=()
structure RowOk (n:Int)(r:Jr):Prop where
 ne:r ≠ []
 once:yu r
 mem:∀p∈r,0<=p.1/\p.1<n
 len:r.length<=12
def wF (f:Js):D:=.lst (f.map jz)
def CC {α: Type}(l:List α)(x y:α):(l++[x]).set l.length y=l++[y]:=()
@[simp]def kj (f):Kk [wF f]=some (wF f):=rfl
@[simp]def vy (f):Xg (wF f)=some (f.map jz):=rfl
@[simp]def vw (r):Xg (jz r)=some (r.map qu):=rfl
@[simp]def fK (f):T5 [wF f]=some (.int f.length):=by show some (D.int (f.map jz).length)=_;rw[Zql]
@[simp]def SW (f):xK [wF f,.ty "list"]=some (.bl true):=rfl
@[simp]def SX (f):xK [jz f,.ty "tuple"]=some (.bl true):=rfl
@[simp]def SY (p):xK [qu p,.ty "tuple"]=some (.bl true):=rfl
@[simp]def fJ (p):T5 [qu p]=some (.int 2):=rfl
@[simp]def fO (p):T7 (qu p) (.int 0)=some (.int p.1):=rfl
@[simp]def fN (p):T7 (qu p) (.int 1)=some (.int p.2):=rfl
def ur (n)(r):plN (n+3) (jz r)=true:=by
 show(r.map qu).all (plN (n+2))=true;rw[UW,Uq];exact λp _=>rfl
structure FormOk (n:Int)(f:Js):Prop where
 ne:f ≠ []
 rows:∀r∈f,RowOk n r
 len:f.length<=100
def wN (r:Jr):Prop:=(r.map (·.1)).Pairwise (· < ·)
def AV (j n:Nat):min (j:Int) (n:Int)=((min j n:Nat):Int):=by
 lia
def ON {α: Type}(l:List α){k:Int}(a:0<=k):JW l none (some k) none=l.take k.toNat:=by
 have e:sliceBounds none (some k) none l.length=(((0:Nat):Int),((min k.toNat l.length:Nat):Int),1):=by
  obtain⟨j,rfl⟩:=UQ a;unfold sliceBounds;simp only;rw[Ze (Int.not_lt.mpr a),AV];exact rfl
 unfold JW;rw[e,sliceRange_one];have b:(λx:Nat=>l[x]?)=λx:Nat=>l.toArray[x]?:= by simp
 rw[b,(pick_run l.toArray 0 (min k.toNat l.length-0))];simp
def ZK {α: Type}(l:List α){k:Int}(a:0<=k):JW l (some k) none none=l.drop k.toNat:=by
 have e:sliceBounds (some k) none none l.length=(((min k.toNat l.length:Nat):Int),(l.length:Int),1):=by
  obtain⟨j,rfl⟩:=UQ a;unfold sliceBounds;simp only;rw[Ze (Int.not_lt.mpr a),AV];exact rfl
 unfold JW;rw[e,sliceRange_one];have b:(λx:Nat=>l[x]?)=λx:Nat=>l.toArray[x]?:= by simp
 rw[b,(pick_run l.toArray (min k.toNat l.length) (l.length-min k.toNat l.length))];by_cases c:k.toNat<=l.length
 .rw[Nat.min_eq_left c,UF ()]
 .rw[Nat.min_eq_right (),U8 (Zf _),U8 ()];exact List.take_nil
structure ThingsOk (ts:Yf):Prop where
 ne:ts ≠ []
 len:ts.length<=4
 rng:∀t∈ts,0<=t/\t<12
 up:ts.Pairwise (· < ·)
def OO {r:Jr}(h:wN r):yu r:=by
 grind[wN,yu,List.Nodup]
structure Over (f:Js)(hs:Yf):Prop where
 ne:f ≠ []
 rne:∀r∈f,r ≠ []
 once:∀r∈f,yu r
 bnd:∀r∈f,∀p∈r,0<=p.1/\p.1<(hs.length:Int)
structure RoundOk (n:Int)(fs:List Js):Prop where
 len:(fs.length:Int)=n
 low:1<=n
 most:n<=12
 forms:∀f∈fs,FormOk n f
def zY {n:Int}{fs:List Js}(R:RoundOk n fs){c:Yf}(h:c.length=fs.length):∀f∈fs,Over f c:=λf b=>⟨(R.forms f b).ne,λr a=>((R.forms f b).rows r a).ne,λr a=>((R.forms f b).rows r a).once,λr a p hp=>by
 have:=((R.forms f b).rows r a).mem p hp;have:=R.len;lia⟩
def nW (fs:List Js):D:=.lst (fs.map wF)
@[simp]def vx (fs):Xg (nW fs)=some (fs.map wF):=rfl
open L2.ST
structure PairsOk (ts:Yf)(r:Jr):Prop where
 ne:r ≠ []
 len:r.length<=4
 mem:∀p∈r,p.1∈ts
 up:r.Pairwise λp q=>p.1<q.1
def OP {r:Jr}(h:r.Pairwise λp q=>p.1<q.1):yu r:=by
 grind[yu,List.Nodup,List.pairwise_map]
def PairsOk.row {ts:Yf}{r:Jr}(T:ThingsOk ts)(P:PairsOk ts r):RowOk 12 r:=⟨P.ne,OP P.up,λp hp=>T.rng _ (P.mem p hp),Zh P.len ()⟩
structure JRow (r:Jr):Prop where
 ne:r ≠ []
 rise:wN r
 bnd:∀p∈r,0<=p.1/\p.1<12
def JRow.once {r:Jr}(h:JRow r):yu r:=OO h.rise
def JRow.len {r:Jr}(h:JRow r):r.length<=12:=by
 have b:∀(l:Yf) (a:Int),l.Pairwise (· < ·)->(∀x∈l,a<=x/\x<12)->(l.length:Int)<=max 0 (12-a):=by
  intro l
  induction l with
  |nil=>simp;lia
  |cons x l c =>
   intro a hp d;rw[List.pairwise_cons] at hp;have e:=d x Zqs;have:=c (x+1) hp.2 ()
   grind
 have:=b _ 0 h.rise λx hx=>by
  obtain⟨p,hp,rfl⟩:=Ja.mp hx;exact h.bnd p hp
 grind
def asc (x:Str):Prop:=x.cps.all (· < 128)=true
def xG {x:Str}:asc x↔∀c∈x.cps.toList,c<128:=by
 unfold asc;rw[<- Vo,Uq];simp
def JE (a b:Str):(a++b).length=a.length+b.length:=Array.size_append
def JM (a b:Str):(a++b).cps.toList=a.cps.toList++b.cps.toList:=Array.toList_append
def AW {a b:Str}(e:asc a)(f:asc b):asc (a++b):=xG.mpr λc d=>by
 rw[JM] at d;rcases Jb.mp d with h|h
 .exact xG.mp e c h
 .exact xG.mp f c h
def OQ {x:Str}{l u:Option Int}{c:Nat}(h:c∈(Txt.slice x l u).cps.toList):c∈x.cps.toList:=by
 grind[Txt.slice]
def CD {x:Str}{l u:Option Int}(h:asc x):asc (Txt.slice x l u):=xG.mpr λc a=>xG.mp h c (OQ a)
structure TxtOk (n:Nat)(x:Str):Prop where
 len:x.length<=n
 asc:asc x
def TxtOk.app {m n:Nat}{a b:Str}(c:TxtOk m a)(d:TxtOk n b):TxtOk (m+n) (a++b):=⟨by rw[JE];have:=c.len;have:=d.len;lia,AW c.asc d.asc⟩
def TxtOk.mono {m n:Nat}{a:Str}(b:TxtOk m a)(h:m<=n):TxtOk n a:=⟨Zh b.len h,b.asc⟩
def CF {c:Nat}(h:c<128):TxtOk 1 ⟨#[c]⟩:=⟨Zf _,xG.mpr λd a=>()⟩
def Qj {n:Nat}{x:Str}(h:(decide (x.length<=n)&&x.cps.all (· < 128))=true):TxtOk n x:=by
 rw[Ub] at h;exact⟨of_decide_eq_true h.1,h.2⟩
def OR {m n:Nat}{a b:Str}(c:TxtOk m a)(d:TxtOk n b)(h:m+n<=1000):T6 (.str a) (.str b)=some (.str (a++b)):=Zd (small (by have:=c.len;have:=d.len;lia))
def XL {n:Nat}{a:Str}(b:TxtOk n a)(h:n<=1000):T5 [.str a]=some (.int a.length):=Zd (small (by have:=b.len;lia))
def AX {n:Nat}{a:Str}{k:Int}(b:TxtOk n a)(h:n<=1000)(k0:0<=k)(k1:k<(a.length:Int)):∃c,T7 (.str a) (.int k)=some (.str ⟨#[c]⟩)/\a.cps.toList[k.toNat]? = some c/\c<128:=by
 have d:k.toNat<a.cps.toList.length:=by
  rw[Ud];have:a.length=a.cps.size:=rfl;lia
 refine⟨a.cps.toList[k.toNat],?_,(),xG.mp b.asc _ (UL d)⟩;show(if a.length<=sizeLine then(j0 a.cps.toList k).map λc=>D.str ⟨#[c]⟩ else none)=_;rw[Zd (small (by have:=b.len;lia))];have e:j0 a.cps.toList k=some a.cps.toList[k.toNat]:=by
  unfold j0 yn;rw[Zd k0,Zd (by rwa [Ud])];exact()
 rw[e];rfl
def OS:∀k:Fin 26,(("abcdefghijklmnopqrstuvwxyz" : Str).cps.toList)[k.val]? = some (97+k.val):=by decide +kernel
def low (x:Str):Prop:=∀c∈x.cps.toList,97<=c/\c<123
@[simp]def bU (n:Nat)(g:FS)(a b c d e:D):jc n 5 g [a,b,c,d,e]=(g (~~~a::~~~b::~~~c::~~~d::~~~e::List.replicate (n-5) none)).bind jT:=rfl
structure Pl where
 name:Str
 givens:Yh
 rows:List (Str×Str×Jr)
def T8 (r:Str×Str×Jr):D:=.tup [.str r.1,.str r.2.1,jz r.2.2]
def CG (p:Pl):D:=.tup [.str p.name,.lst (p.givens.map .str),.lst (p.rows.map T8)]
def J7 (p:Pl):D:=.ins "Plan" ["name", "givens", "rows"] [.str p.name,.lst (p.givens.map .str),.lst (p.rows.map T8)]
def JB (ps:List Pl):D:=.ins "Book" ["plans"] [.lst (ps.map J7)]
def uj (p:Str×Int):D:=.tup [.str p.1,.int p.2]
structure ItOk (ahead:Int)(its:Jr):Prop where
 rng:∀p∈its,0<=p.1/\p.1<ahead
 far:∀p∈its,-1000000000000000000000000000000<p.2/\p.2<1000000000000000000000000000000
@[simp]def ko (r):T7 (T8 r) (.int 0)=some (.str r.1):=rfl
@[simp]def kn (r):T7 (T8 r) (.int 1)=some (.str r.2.1):=rfl
@[simp]def km (r):T7 (T8 r) (.int 2)=some (jz r.2.2):=rfl
@[simp]def SZ (p):T7 (CG p) (.int 0)=some (.str p.name):=rfl
@[simp]def Ta (p):T7 (CG p) (.int 1)=some (.lst (p.givens.map .str)):=rfl
@[simp]def Tb (p):T7 (CG p) (.int 2)=some (.lst (p.rows.map T8)):=rfl
@[simp]def kr (p):T7 (uj p) (.int 0)=some (.str p.1):=rfl
@[simp]def kq (p):T7 (uj p) (.int 1)=some (.int p.2):=rfl
@[simp]def Tc (ps):TF "Book" "plans" (JB ps)=some (.lst (ps.map J7)):=rfl
@[simp]def kE (p):TF "Plan" "name" (J7 p)=some (.str p.name):=rfl
@[simp]def Td (p):TF "Plan" "givens" (J7 p)=some (.lst (p.givens.map .str)):=rfl
@[simp]def kD (p):TF "Plan" "rows" (J7 p)=some (.lst (p.rows.map T8)):=rfl
def QU (ps:List Pl):List (Str×Int):=ps.map λp=>(p.name,(p.givens.length:Int))
def fw (a:List (Str×Int))(how:Str)(n:Nat):Prop:=how = "all" \/ how = "first" \/ (how,(n:Int))∈a
def K8 {n:Nat}{x:Str}(h:asc x):plN (n+1) (.str x)=true:=by
 show PyData.strOk x=true;unfold PyData.strOk;rw[<- Vo,Uq];exact λc a=>Zp (UO (xG.mp h c a) ())
def OT {α: Type}{f:α -> D}{l:List α}(h:plN 12 (.lst (l.map f))=true):x9 (.lst (l.map f)) (.lst [])=some (.bl (!l.isEmpty)):=by
 rw[A0 h FQ,FR]
def CH {α: Type}{f:α -> D}{l:List α}(h:plN 12 (.lst (l.map f))=true):qi (.lst (l.map f)) (.lst [])=some (.bl l.isEmpty):=by
 rw[Az h FQ,FR]
def Km {x y:Str}(h:x.cps.toList=y.cps.toList):x=y:=by
 cases x
 simp_all
def nh (l:Yg):Bool:=l[0]? == some 120||l[0]? == some 121||l[0]? == some 113||l[2]? == some 113
structure WB (ps:List Pl):Prop where
 l1:1<=ps.length
 l2:ps.length<=20
 nd:(ps.map (·.name)).Nodup
 ok:∀p∈ps,TxtOk 12 p.name/\1<=p.name.length/\p.name ≠ "all" /\ p.name ≠ "first"
 how:∀(i:Nat) (p:Pl),ps[i]? = some p->∀r∈p.rows,r.2.1 = "all" \/ r.2.1 = "first" \/ r.2.1∈(ps.take i).map (·.name)
 sz:∀p∈ps,p.rows.length<=40/\p.givens.length<=12
@[simp]def hJ (is)(f)(sd):YX is f sd=(f (qj is sd)).bare.bind λd=>if C3 d then .ok d else .no:=rfl
@[simp]def hX (c)(names)(Fn)(fa)(sd):YV c names Fn fa sd=(fa sd).bind λds=>(Fn ds).bind λes=>.ok (.ins c names es):=rfl
@[simp]def Te (i j k)(r)(sd):JY (.tup [i,j,k]) (T8 r) sd=.ok (((sd.set i (~~~(.str r.1))).set j (~~~(.str r.2.1))).set k (~~~(jz r.2.2))):=rfl
@[simp]def Tf (x):Qg (.str x)=some (.inr x):=rfl
def dT (t:List (Str×Int)):D:=.dct (t.map λp=>.inr p.1) (t.map λp=>.int p.2)
def jx (t:List (Str×Int))(x:Str):Option Int:=(t.find? λp=>decide (p.1=x)).map (·.2)
def nO {a b:Str}:((Um a:TM)=.inr b)↔a=b:=()
theorem Wo:∀(t:List (Str×Int)) (x:Str),jk (t.map λp=>.inr p.1) (t.map λp=>.int p.2) (.inr x)=(jx t x).map .int
 | [],_=>rfl
 |p::t,x=>by
  rw[Zl,Zl];unfold jk jx;rw[List.find?_cons];by_cases h:p.1=x
  .simp_all
  .rw[Ze (λz=>h (nO.mp z)),Zo h];exact Wo t x
@[simp]def kt (t)(x):T7 (dT t) (.str x)=(jx t x).map .int:=Wo t x
@[simp]def FU (neg)(t)(x):jY neg (.str x) (dT t)=some (.bl (if neg then !(jx t x).isSome else(jx t x).isSome)):=by
 show some (D.bl (if neg then !(jk (t.map λp=>.inr p.1) (t.map λp=>.int p.2) (.inr x)).isSome else(jk (t.map λp=>.inr p.1) (t.map λp=>.int p.2) (.inr x)).isSome))=_;rw[Wo,Vg]
def OU (t:List (Str×Int))(x:Str):yH (.inr x) (t.map λp=>.inr p.1)=t.any λp=>decide (p.1=x):=by
 grind[yH,List.any_map]
def ZL {t:List (Str×Int)}{x:Str}(h:x∉t.map (·.1))(v:Int):D.dct (Wx (t.map λp=>.inr p.1) (.inr x)) (Xe (t.map λp=>.inr p.1) (t.map λp=>.int p.2) (.inr x) (.int v))=dT (t++[(x,v)]):=by
 simp_all [Wx,Xe,dT,OU]
def wW {t:List (Str×Int)}{x:Str}:jx t x=none↔x∉t.map (·.1):=by
 grind[jx,Option.map_eq_none_iff,List.find?_eq_none]
def FW {a b:List (Str×Int)}{x:Str}(h:x∉a.map (·.1)):jx (a++b) x=jx b x:=by
 unfold jx;rw[List.find?_append,Option.map_eq_none_iff.mp (wW.mpr h)];rfl
def CI (x:Str)(v:Int)(b:List (Str×Int)):jx ((x,v)::b) x=some v:=by
 simp_all [jx]
def jX (how:Str):Bool:=!(decide (how = "all")||decide (how = "first"))
def qO (t:List (Str×Int))(p:Pl):Int:=p.rows.length+((p.rows.filter λr=>jX r.2.1).map λr=>(jx t r.2.1).getD 0).sum
def wu (t:List (Str×Int))(p:Pl):List (Str×Int):=t++[(p.name,qO t p)]
def jy (ps:List Pl):List (Str×Int):=ps.foldl wu []
def AY (ps)(p):jy (ps++[p])=jy ps++[(p.name,qO (jy ps) p)]:=by
 unfold jy;rw[Vl];rfl
theorem CJ:∀(l:List Pl) (t:List (Str×Int)),∃u,l.foldl wu t=t++u
 | [],t=>⟨[],()⟩
 |p::l,t=>by
  obtain⟨u,e⟩:=CJ l (wu t p)
  simp_all [wu]
theorem FX:∀(l:List Pl) t,(l.foldl wu t).map (·.1)=t.map (·.1)++l.map (·.name)
 | [],t=>by simp
 |p::l,t=>by
  rw[U5,FX l];unfold wu;simp
theorem Xp (l):(jy l).map (·.1)=l.map (·.name):=by
 grind[jy,FX]
def WB.fresh {ps:List Pl}(W:WB ps){i:Nat}{p:Pl}(d:ps[i]? = some p):p.name∉(jy (ps.take i)).map (·.1):=by
 rw[Xp];intro z;have a:i<ps.length:=();obtain⟨y,b,e⟩:=Ja.mp z;obtain⟨j,c,f⟩:=U4 b;rw[Uk] at c;have g:=U9.mp (Vn.mp W.nd) j i () a ()
 simp_all
def WB.at {ps:List Pl}(W:WB ps){i:Nat}{p:Pl}(a:ps[i]? = some p):jx (jy ps) p.name=some (qO (jy (ps.take i)) p):=by
 have e:jy ps=(ps.drop (i+1)).foldl wu (jy (ps.take i)++[(p.name,qO (jy (ps.take i)) p)]):=by
  rw[<- AY];unfold jy;rw[<- Vl];have tk:ps.take (i+1)=ps.take i++[p]:=by rw[Us,a];rfl
  rw[<- tk,UX]
 obtain⟨u,b⟩:=CJ (ps.drop (i+1)) (jy (ps.take i)++[(p.name,qO (jy (ps.take i)) p)]);rw[e,b,Uo,FW (W.fresh a)];exact CI _ _ _
def WB.part {ps:List Pl}(W:WB ps){i:Nat}{p:Pl}(b:ps[i]? = some p){r:Str×Str×Jr}(c:r∈p.rows):(jx (jy (ps.take i)) r.2.1).isSome=jX r.2.1:=by
 have out:∀w:Str,(∀y∈ps,y.name≠w)->jx (jy (ps.take i)) w=none:=λw hw=>wW.mpr (by
  grind[Xp])
 rcases W.how i p b r c with z|z|z
 .rw[z,out "all" λy a=>(W.ok y a).2.2.1];rfl
 .rw[z,out "first" λy a=>(W.ok y a).2.2.2];rfl
 .have d:(jx (jy (ps.take i)) r.2.1).isSome=true:=by
   cases h:jx (jy (ps.take i)) r.2.1 with
   |some v=>rfl
   |none=>exact Zn (by rwa [Xp]) (wW.mp h)
  have ⟨y,a,e⟩:=Ja.mp z;have ok:=W.ok y ()
  simp_all [jX]
def WB.hasc {ps:List Pl}(W:WB ps){i:Nat}{p:Pl}(a:ps[i]? = some p){r:Str×Str×Jr}(b:r∈p.rows):asc r.2.1:=by
 rcases W.how i p a r b with z|z|z
 .rw[z];exact(Qj (n:=3) (by decide +kernel)).asc
 .rw[z];exact(Qj (n:=5) (by decide +kernel)).asc
 .have ⟨y,c,e⟩:=Ja.mp z;rw[<- e];exact(W.ok y ()).1.asc
def OV {α: Type}(f:α -> Int)(l:List α):C3 (.lst (l.map λr=>D.int (f r)))=true:=by
 show(l.map λr=>D.int (f r)).all AI=true;rw[Uq];intro x hx;obtain⟨y,_,rfl⟩:=Ja.mp hx;rfl
def OW {α: Type}(f)(l:List α):yI [.lst (l.map λr=>D.int (f r))]=some (.int (l.map f).sum):=by
 rw[<- Nc,Zw];rfl
def OX {ps:List Pl}(W:WB ps)(i):(jy (ps.take i)).length<=20:=by
 have e:(jy (ps.take i)).length=((jy (ps.take i)).map (·.1)).length:=by simp
 rw[e,Xp,Zql,Uk];have:=W.l2;lia
def y8 (c:Nat):Bool:=decide (97<=c)&&decide (c<123)
def yo (c:Nat):Bool:=decide (48<=c)&&decide (c<58)
def kept:Yh:=["plan", "given", "all", "first", "part"]
def QX (x:Str):Bool:=decide (1<=x.length)&&(decide (x.length<=12)&&((kept.all λw => !decide (w=x))&&(y8 (x.cps.toList.headD 0)&&x.cps.toList.all λc=>y8 c||yo c)))
def ji (x:Str):Prop:=TxtOk 12 x/\QX x=true
def ji.ne {x:Str}(h:ji x):1<=x.length/\x ≠ "all" /\ x ≠ "first" := by
 have h:=h.2;unfold QX at h;rw[Ub,Ub,Ub,decide_eq_true_eq] at h;have k:=Uq.mp h.2.2.1;have a:=k "all" (by decide +kernel);have b:=k "first" (by decide +kernel);exact⟨h.1,λz=>by rw[z] at a;simp at a,λz=>by rw[z] at b;simp at b⟩
structure PL (ahead:List Pl)(p:Pl):Prop where
 nm:ji p.name
 fresh:∀q∈ahead,q.name≠p.name
 tn:∀x∈p.givens++p.rows.map (·.1),ji x
 td:(p.givens++p.rows.map (·.1)).Nodup
 g1:1<=p.givens.length
 g2:p.givens.length<=12
 r1:1<=p.rows.length
 r2:p.rows.length<=40
 its:∀(k:Nat) (r:Str×Str×Jr),p.rows[k]? = some r->ItOk ((p.givens.length:Int)+k) r.2.2/\1<=r.2.2.length/\r.2.2.length<=40
 how:∀r∈p.rows,fw (QU ahead) r.2.1 r.2.2.length
 wt:qO (jy ahead) p<=2000
def LB (ps:List Pl):Prop:=∀(i:Nat) (p:Pl),ps[i]? = some p->PL (ps.take i) p
def LB.snoc {ps:List Pl}{p:Pl}(h:LB ps)(hp:PL ps p):LB (ps++[p]):=λk x a=>by
 by_cases z:k<ps.length
 .rw[Up z] at a;rw[Vp ()];exact h k x a
 .rw[Uv ()] at a;have b:k-ps.length=0:=by
   cases e:k-ps.length with
   |zero=>rfl
   |succ j=>rw[e] at a;simp at a
  rw[b] at a;cases a;have:k=ps.length:=()
  rwa [this,List.take_left' rfl]
def LB.mem {ps:List Pl}(h:LB ps){p:Pl}(hp:p∈ps):∃i,PL (ps.take i) p:=by
 obtain⟨i,a⟩:=Ux hp;exact⟨i,h i p a⟩
def LB.wb {ps:List Pl}(h:LB ps)(b:1<=ps.length)(c:ps.length<=20):WB ps:=by
 refine⟨b,c,?_,λp hp=>?_,λi p a r d=>?_,λp hp=>?_⟩
 .rw[Vq,Vn,U9];intro i j a l e;exact(h j ps[j] ()).fresh ps[i] (Uh (i:=i) ())
 .obtain⟨i,P⟩:=h.mem hp;exact⟨P.nm.1,P.nm.ne.1,P.nm.ne.2.1,P.nm.ne.2.2⟩
 .rcases(h i p a).how r d with z|z|z
  .exact .inl z
  .exact .inr (.inl z)
  .obtain⟨y,f,g⟩:=Ja.mp z;exact .inr (.inr (Ja.mpr ⟨y,f,Zt Prod.fst g⟩))
 .obtain⟨i,P⟩:=h.mem hp;exact⟨P.r2,P.g2⟩
theorem CK {ps:List Pl}:∀n,∀q∈jy (ps.take n),∃i p,ps[i]? = some p/\q=(p.name,qO (jy (ps.take i)) p)
 | 0,q,h=>by cases h
 |n+1,q,h=>by
  cases hp:ps[n]? with
  |none =>
   have l:=Jp.mp hp;rw[UF ()] at h;have e:=UF l;exact CK n q ()
  |some p =>
   have tk:ps.take (n+1)=ps.take n++[p]:=by rw[Us,hp];rfl
   rw[tk,AY] at h;rcases Jb.mp h with z|z
   .exact CK n q z
   .exact⟨n,p,hp,Jc.mp z⟩
def LB.wts {ps:List Pl}(h:LB ps):∀q∈jy ps,q.2<=2000:=λq b=>by
 obtain⟨i,p,a,e⟩:=CK ps.length q (by rwa [Uu]);rw[e];exact(h i p a).wt
def bnd:Nat->Int
 | 0=>0
 |n+1=>6+6*bnd n
def OY {ps:List Pl}{p:Pl}(h:p∈ps):(p.name,(p.givens.length:Int))∈QU ps:=Ja.mpr ⟨p,h,rfl⟩
def FY {t:List (Str×Int)}{x y:Str}(h:y≠x)(v:Int):jx (t++[(y,v)]) x=jx t x:=by
 simp_all [jx]
def qk (i:Nat):Nat:=if i<26 then 97+i else 22+i
def jP:Nat->Nat->List Nat
 | 0,_=>[]
 |f+1,n=>if n=0 then[] else qk (n % 36)::jP f (n / 36)
def WG (m:Nat):Yg:=qk (m % 26)::jP 59 (m / 26)
def z7 (l:Yg):Str:=⟨l.toArray⟩
def Ql (m:Nat):Str:=z7 (WG m)
def FZ (a:Yg):(z7 a).length=a.length:=by
 show a.toArray.size=_;simp
def yZ:Str:= "abcdefghijklmnopqrstuvwxyz0123456789"
def OZ:yZ.cps.toList=(List.range 36).map qk:=by decide +kernel
def Pa:yZ.length<=sizeLine:=small (show yZ.length<=1000 by decide +kernel)
def Ga {k:Int}(b:0<=k)(d:k<36):T7 (.str yZ) (.int k)=some (.str ⟨#[qk k.toNat]⟩):=by
 show(if yZ.length<=sizeLine then(j0 yZ.cps.toList k).map λc=>D.str ⟨#[c]⟩ else none)=_;rw[Zd Pa,OZ];have e:j0 ((List.range 36).map qk) k=some (qk k.toNat):=by
  have a:k=((k.toNat:Nat):Int):=()
  rw[a,Wn (by simp;lia),Zv,U7 ()];rfl
 rw[e];rfl
def Gb {i:Nat}(a:i<36):qk i<128:=by
 unfold qk
 split<;>lia
def ZM:Yg->Nat
 | []=>0
 |c::r=>(if 97<=c then c-97 else c-22)+36*ZM r
def b4:Yg->Nat
 | []=>0
 |c::r=>(if 97<=c then c-97 else c-22)+26*ZM r
def Gc {i:Nat}(a:i<36):(if 97<=qk i then qk i-97 else qk i-22)=i:=by
 unfold qk;by_cases h:i<26
 .rw[Zd h,Zd ()];lia
 .rw[Ze h,Ze ()];lia
theorem Gd:∀(f n:Nat),n<36 ^ f->ZM (jP f n)=n
 | 0,n,h=>by
  have:n=0:=by simpa using h
  rw[this];rfl
 |f+1,n,h=>by
  unfold jP;by_cases z:n=0
  .rw[Zd z,z];rfl
  .rw[Ze z];show(if 97<=qk (n % 36) then qk (n % 36)-97 else qk (n % 36)-22)+36*ZM (jP f (n / 36))=n;rw[Gc (Nat.mod_lt _ ()),Gd f (n / 36) (by rw[Va] at h;exact UY ())];lia
theorem Ge:∀(f g n:Nat),n<36 ^ g->(jP f n).length<=g
 | 0,g,n,h=>Ug _
 |f+1,g,n,h=>by
  unfold jP;by_cases z:n=0
  .rw[Zd z];exact Ug _
  .rw[Ze z];cases g with
   |zero=>simp at h;lia
   |succ g =>
    have:=Ge f g (n / 36) (by rw[Va] at h;exact UY ());rw[Zu];lia
theorem CL:∀(f n c:Nat),c∈jP f n->∃i,i<36/\c=qk i
 | 0,n,c,h=>by cases h
 |f+1,n,c,h=>by
  unfold jP at h;by_cases z:n=0
  .rw[Zd z] at h;cases h
  .rw[Ze z] at h;rcases UB.mp h with rfl|h
   .exact⟨n % 36,Nat.mod_lt _ (),rfl⟩
   .exact CL f (n / 36) c h
def Gf:36 ^ 11<=36 ^ 59:=by decide +kernel
def Pb {m n:Nat}(b:m<26*36 ^ 11)(c:n<26*36 ^ 11)(h:Ql m=Ql n):m=n:=by
 have e:WG m=WG n:=by
  have:=Zt (λs:Str=>s.cps.toList) h;exact this
 have a:∀k,k<26*36 ^ 11->b4 (WG k)=k:=λk d=>by
  show(if 97<=qk (k % 26) then qk (k % 26)-97 else qk (k % 26)-22)+26*ZM (jP 59 (k / 26))=k;rw[Gc (),Gd 59 (k / 26) (Zg (UY d) Gf)];lia
 rw[<- a m b,<- a n c,e]
def CM (m:Nat):asc (Ql m):=xG.mpr λc hc=>by
 have hc:c∈WG m:=hc;rcases UB.mp hc with rfl|hc
 .exact Gb ()
 .obtain⟨i,a,rfl⟩:=CL _ _ _ hc;exact Gb a
def Pc {m:Nat}(a:m<26*36 ^ 11):(Ql m).length<=12:=by
 have e:(Ql m).length=(WG m).length:=FZ _;have:=Ge 59 11 (m / 26) (UY a);rw[e];show(jP 59 (m / 26)).length+1<=12;lia
def Pd {m:Nat}(a:m<26*36 ^ 11):TxtOk 12 (Ql m):=⟨Pc a,CM m⟩
def xT:Yh:=["plan", "given", "all", "first", "part"]
def zg (x:Str):Prop:=∃m,m<26*36 ^ 11/\x=Ql m/\x∉xT
def zg.ok {x:Str}(h:zg x):TxtOk 12 x:=by
 obtain⟨m,a,rfl,_⟩:=h;exact Pd a
theorem Gg {α: Type}[DecidableEq α]:∀{l m:List α},l.Nodup->(∀x∈l,x∈m)->l.length<=m.length
 | [],_,_,_=>Ug _
 |a::l,m,hn,h=>by
  obtain⟨c,d⟩:=Je.mp hn;have b:=h a Zqs;have:=Gg (l:=l) (m:=m.erase a) d λx hx=>(List.mem_erase_of_ne λz=>c (by rw[<- z];exact hx)).mpr (h x (Zqm _ hx));rw[List.length_erase_of_mem b] at this;have hp:0<m.length:=List.length_pos_of_mem b;rw[Zu];lia
def Pe {n:Nat}{us:Yh}(h:n+us.length+6<26*36 ^ 11):∃k,k<us.length+6/\Ql (n+k)∉us/\Ql (n+k)∉xT:=by
 refine Vr λi=>?_;have c:∀x∈(List.range (us.length+6)).map λk=>Ql (n+k),x∈us++xT:=λx hx=>by
  obtain⟨k,f,rfl⟩:=Ja.mp hx;rw[List.mem_range] at f;refine Vr λg=>i ⟨k,f,λz=>g (Ur _ z),λz=>g (Uf _ z)⟩
 have d:((List.range (us.length+6)).map λk=>Ql (n+k)).Nodup:=by
  refine Vn.mpr ((List.nodup_range (n:=us.length+6)).imp_of_mem λ{a b} j l m e=>?_);rw[List.mem_range] at j l;have:=Pb () () e;lia
 have:=Gg d c;rw[Zql,ZB,Ua] at this;have e:xT.length=5:=rfl;lia
def Gh {n:Nat}{xs:Yh}(h:∀x∈xs,asc x):(xs.map D.str).all (plN (n+1))=true:=Uq.mpr λd a=>by
 obtain⟨x,hx,rfl⟩:=Ja.mp a;exact K8 (h x hx)
def Gi (x:Str)(xs:Yh):(xs.map D.str).any (λe=>sameD e (.str x))=decide (x∈xs):=by
 by_cases h:x∈xs
 .rw[Zp h];exact List.any_eq_true.mpr ⟨.str x,Ja.mpr ⟨x,h,rfl⟩,VM _⟩
 .rw[Zo h];refine Jo.mpr λd a=>?_;obtain⟨y,b,rfl⟩:=Ja.mp a;rw[f6];exact λz=>h (by cases z;exact b)
def Gj {neg:Bool}{x:Str}{xs:Yh}(hx:asc x)(h:∀y∈xs,asc y):jY neg (.str x) (.lst (xs.map D.str))=some (.bl (if neg then !decide (x∈xs) else decide (x∈xs))):=by
 have a:plN 12 (.str x)=true:=K8 hx;have b:(xs.map D.str).all (plN 12)=true:=Gh (n:=11) h;show(if plN 12 (.str x)&&(xs.map D.str).all (plN 12) then some (D.bl (if neg then !(xs.map D.str).any (λe=>sameD e (.str x)) else(xs.map D.str).any λe=>sameD e (.str x))) else none)=_;rw[a,b,Gi];rfl
def CN {neg:Bool}{x:Str}{xs:Yh}(hx:asc x)(h:∀y∈xs,asc y):jY neg (.str x) (.tup (xs.map D.str))=some (.bl (if neg then !decide (x∈xs) else decide (x∈xs))):=by
 have a:plN 12 (.str x)=true:=K8 hx;have b:(xs.map D.str).all (plN 12)=true:=Gh (n:=11) h;show(if plN 12 (.str x)&&(xs.map D.str).all (plN 12) then some (D.bl (if neg then !(xs.map D.str).any (λe=>sameD e (.str x)) else(xs.map D.str).any λe=>sameD e (.str x))) else none)=_;rw[a,b,Gi];rfl
def Pf:∀y∈xT,asc y:=by
 intro y a;have:y = "plan" \/ y = "given" \/ y = "all" \/ y = "first" \/ y = "part" := by simpa [xT] using a
 rcases this with rfl|rfl|rfl|rfl|rfl<;>unfold asc<;>decide +kernel
def Pg (a:Yg)(c:Nat):z7 a++⟨#[c]⟩=z7 (a++[c]):=Km (by rw[JM];rfl)
def WH (tg:Tg)(b:FS)(xs:Yt):Out->Res Out
 | .next sd=>j4 tg b xs sd
 | .cont sd=>j4 tg b xs sd
 | .brk sd=>.ok (.next sd)
 | .ret d=>.ok (.ret d)
def Xq (tg:Tg)(b:FS)(x:D)(xs:Yt)(sd:SD):j4 tg b (x::xs) sd=((JY tg x sd).bind b).bind (WH tg b xs):=by
 show((JY tg x sd).bind b).bind _=_;exact Zt _ (funext λo=>by cases o<;>rfl)
@[simp]def Th (tg:Tg)(b:FS)(xs:Yt)(sd:SD):WH tg b xs (.next sd)=j4 tg b xs sd:=rfl
@[simp]def Ti (tg:Tg)(b:FS)(xs:Yt)(d:D):WH tg b xs (.ret d)=.ok (.ret d):=rfl
def b3 (c:FT)(b:FS)(n:Nat):Out->Res Out
 | .next sd=>K7 c b n sd
 | .cont sd=>K7 c b n sd
 | .brk sd=>.ok (.next sd)
 | .ret d=>.ok (.ret d)
def Gk (c:FT)(b:FS)(n:Nat)(sd:SD):K7 c b (n+1) sd=(c sd).bind λt=>if t then(b sd).bind (b3 c b n) else .ok (.next sd):=by
 have e:(λo:Out=>match o with
  | .next a=>K7 c b n a
  | .cont a=>K7 c b n a
  | .brk a=>.ok (.next a)
  | .ret d=>.ok (.ret d))=b3 c b n:=funext λo=>by cases o<;>rfl
 rw[<- e];rfl
@[simp]def vt (c:FT)(b:FS)(n:Nat)(sd:SD):b3 c b n (.next sd)=K7 c b n sd:=rfl
@[simp]def gK (a b c:D)(sd:SD):JY (.tup [0,1,2]) (.tup [a,b,c]) sd=.ok (((sd.set 0 (~~~a)).set 1 (~~~b)).set 2 (~~~c)):=rfl
def jd (n:Int):Str:=Str.ofString (toString n)
def xF (x:Str)(w:Int):Str:=if w=0 then x else if 0<w then x ++ "+" ++ jd w else x++jd w
def jf (xs:Yh)(k:Int):Str:=xs.getD k.toNat Str.empty
def xW (xs:Yh)(a:Jr):Str:=Txt.join ", " (a.map λp=>xF (jf xs p.1) p.2)
def qm (how:Str):Str:=if how = "all" \/ how = "first" then how else "part " ++ how
def qR (xs:Yh)(r:Str×Str×Jr):Str:= " " ++ r.1 ++ " " ++ qm r.2.1 ++ " " ++ xW xs r.2.2
def Qe (p:Pl):Yh:=[("plan " : Str)++p.name]++p.givens.map (λg=>(" given " : Str)++g)++p.rows.map (qR (p.givens++p.rows.map (·.1)))
def Q3 (ps:List Pl):Yh:=ps.flatMap Qe
def KN (ps:List Pl):Str:=Txt.join "\n" (Q3 ps)
def KU (a:Str):(Str.empty:Str)++a=a:=Km (by rw[JM];rfl)
def yk {x a:Str}{r:FJ}{sd:SD}(h:(a++x).length<=1000000):TL x r a sd=r (a++x) sd:=Zd (Zh h (by decide +kernel))
def z8 {g:D->Option Str}{b:FE}{r:FJ}{a z:Str}{sd:SD}{d:D}(c:b sd=.ok d)(e:g d=some z)(h:(a++z).length<=1000000):j5 g b r a sd=r (a++z) sd:=by
 unfold j5;rw[c];show(match g d with
  |some z=>if z.length<=sizeLine/\(a++z).length<=sizeLine then r (a++z) sd else .no
  |none=>.no)=_
 rw[e];have f:z.length<=(a++z).length:=by rw[JE];lia
 have i:1000000<=sizeLine:=by decide +kernel
 exact Zd ⟨(),()⟩
def yG {a:Str}{sd:SD}(h:a.length<=1000000):ja a sd=.ok (.str a):=Zd (Zh h (by decide +kernel))
def Ph {n:Int}(a: -1000000000000000000000000000000<n)(b:n<1000000000000000000000000000000):n.natAbs.log2<100:=by
 by_cases z:n.natAbs=0
 .rw[z];decide
 .rw[Nat.log2_lt z];exact Zg (show n.natAbs<1000000000000000000000000000000 from ()) (by decide +kernel)
def K9 (a b c:Str):a++b++c=a++(b++c):=Km (by simp only[JM,Uo])
def Pi {n:Int}(a: -1000000000000000000000000000000<n)(b:n<1000000000000000000000000000000):(jd n).length<=31:=by
 unfold jd;rw[PySem.ofString_length];have p:(10:Nat) ^ 30=1000000000000000000000000000000:=by decide +kernel
 exact int_text_length_le10 (k:=30) () (by rw[p];lia)
def Xr (m:Nat):(jd (m:Int)).cps.toList=(Nat.toDigits 10 m).map Char.toNat:=by
 have:=PyProof.Rows.text_ofNat m;unfold jd;rw[show((m:Nat):Int)=Int.ofNat m from rfl,this]
def AZ (m:Nat):jd (-((m+1:Nat):Int))=("-" : Str)++jd ((m+1:Nat):Int):=by
 have e:toString (-((m+1:Nat):Int)) = "-" ++ Nat.repr (m+1):=rfl;have a:toString ((m+1:Nat):Int)=Nat.repr (m+1):=rfl;unfold jd;rw[e,a];refine Km ?_;rw[JM,PySem.Str.ofString_eq_toList,PySem.Str.ofString_eq_toList,PySem.Str.ofString_eq_toList,String.toList_append,Uc]
def Pj (n:Int):asc (jd n):=by
 have a:∀m:Nat,asc (jd (m:Int)):=λm=>xG.mpr λc d=>by
  rw[Xr] at d;obtain⟨ch,b,rfl⟩:=Ja.mp d;have:=Nat.isDigit_of_mem_toDigits (by decide) (by decide) b;have e:ch.toNat<=57:=by
   unfold Char.isDigit at this;simp at this;exact this.2
  lia
 by_cases h:0<=n
 .obtain⟨m,rfl⟩:=UQ h;exact a m
 .obtain⟨m,rfl⟩:∃m:Nat,n = -((m+1:Nat):Int):=⟨(-n-1).toNat,()⟩;rw[AZ];exact AW (by unfold asc;decide +kernel) (a (m+1))
def CO {n:Int}(a: -1000000000000000000000000000000<n)(b:n<1000000000000000000000000000000):TxtOk 31 (jd n):=⟨Pi a b,Pj n⟩
def Gm {x:Str}{w:Int}(hx:TxtOk 12 x)(a: -1000000000000000000000000000000<w)(b:w<1000000000000000000000000000000):TxtOk 44 (xF x w):=by
 unfold xF
 split
 .exact hx.mono ()
 .split
  .exact((hx.app (n:=1) (Qj (by decide +kernel))).app (CO a b)).mono ()
  .exact(hx.app (CO a b)).mono ()
def KW (sep x y:Str)(r:Yh):Txt.join sep (x::y::r)=x++sep++Txt.join sep (y::r):=by
 unfold Txt.join;rw[StrLaws.glued_eq_join,StrLaws.glued_eq_join];rfl
def Kn (sep x:Str):Txt.join sep [x]=x:=by
 unfold Txt.join;rw[StrLaws.glued_eq_join];rfl
def XM (sep:Str):Txt.join sep []=Str.empty:=by
 unfold Txt.join;rw[StrLaws.glued_eq_join];rfl
theorem XN {sep:Str}{m n:Nat}(a:TxtOk m sep):∀{xs:Yh} {k:Nat},(∀x∈xs,TxtOk n x)->xs.length<=k->TxtOk (k*(n+m)) (Txt.join sep xs)
 | [],k,_,_=>by rw[XM];exact⟨Ug _,by unfold asc;decide +kernel⟩
 | [x],k,h,hl=>by
  rw[Kn];refine(h x Zqs).mono ?_;have:1*(n+m)<=k*(n+m):=Nat.mul_le_mul_right _ (by simpa using hl);lia
 |x::y::r,k,h,hl=>by
  rw[KW];cases k with
  |zero=>simp at hl
  |succ k =>
   have:=XN a (xs:=y::r) (k:=k) (λz b=>h z (Zqm _ b)) (by simpa using hl);refine(((h x Zqs).app a).app this).mono ?_;rw[Vb];lia
def CP {sep:Str}{m n k:Nat}{xs:Yh}(b:sep.length<=m)(h:∀x∈xs,x.length<=n)(a:xs.length<=k)(c:k*n+k*m<=16777216):JoinOk sep xs=true:=by
 unfold JoinOk;rw[Vk];refine StrLaws.joinFits h ?_;have d:xs.length*n<=k*n:=Nat.mul_le_mul_right _ a;have e:xs.length*sep.length<=k*m:=Nat.mul_le_mul a b;lia
def ZN {sep:Str}{xs:Yh}(h:JoinOk sep xs=true):Xn sep (.lst (xs.map .str))=some (.str (Txt.join sep xs)):=by
 show(W8 (xs.map D.str)).bind _=_;rw[Fy];exact Zd h
def CQ {m n:Nat}{a b:Str}(c:TxtOk m a)(d:TxtOk n b)(h:m+n<=1000000):T6 (.str a) (.str b)=some (.str (a++b)):=Zd (Zh (show a.length+b.length<=1000000 by have:=c.len;have:=d.len;lia) (by decide +kernel))
structure PlT (p:Pl):Prop where
 nm:TxtOk 12 p.name
 gs:∀g∈p.givens,TxtOk 12 g
 gl:p.givens.length<=12
 rl:p.rows.length<=40
 rs:∀r∈p.rows,TxtOk 12 r.1/\TxtOk 12 r.2.1/\r.2.2.length<=44/\∀i∈r.2.2,0<=i.1/\i.1<((p.givens.length+p.rows.length:Nat):Int) /\ -1000000000000000000000000000000<i.2/\i.2<1000000000000000000000000000000
def qQ (p:Pl):Yh:=p.givens++p.rows.map (·.1)
def PlT.th {p:Pl}(h:PlT p):∀x∈qQ p,TxtOk 12 x:=λx hx=>by
 rcases Jb.mp hx with z|z
 .exact h.gs x z
 .obtain⟨r,a,rfl⟩:=Ja.mp z;exact(h.rs r a).1
def CS (p:Pl):(qQ p).length=p.givens.length+p.rows.length:=by unfold qQ;rw[Ua,Zql]
def CT {xs:Yh}{k:Int}(b:0<=k)(c:k<(xs.length:Int)):T7 (.lst (xs.map .str)) (.int k)=some (.str (jf xs k))/\jf xs k∈xs:=by
 obtain⟨j,rfl⟩:∃j:Nat,k=j:=⟨k.toNat,()⟩;have a:j<xs.length:=()
 have e:jf xs (j:Int)=xs[j]:=by
  unfold jf;rw[Ul,Uj,Zqg a];rfl
 rw[e];refine⟨?_,UL _⟩;show j0 (xs.map D.str) (j:Int)=_;rw[Wn (by rw[Zql];exact a),Zv,Zqg a];rfl
def CU {x:Str}(h:TxtOk 12 x):TxtOk 17 (qm x):=by
 unfold qm
 split
 .exact h.mono ()
 .exact((Qj (n:=5) (x:= "part ") (by decide +kernel)).app h).mono ()
def Gn {xs:Yh}{b:Jr}(hx:∀x∈xs,TxtOk 12 x)(d:b.length<=44)(h:∀i∈b,0<=i.1/\i.1<(xs.length:Int) /\ -1000000000000000000000000000000<i.2/\i.2<1000000000000000000000000000000):
 (∀y∈b.map (λp=>xF (jf xs p.1) p.2),TxtOk 44 y)/\TxtOk 2024 (xW xs b)/\JoinOk ", " (b.map λp=>xF (jf xs p.1) p.2)=true:=by
 have a:∀y∈b.map (λp=>xF (jf xs p.1) p.2),TxtOk 44 y:=λy c=>by
  obtain⟨p,hp,rfl⟩:=Ja.mp c;obtain⟨e,f,g,j⟩:=h p hp;exact Gm (hx _ (CT e f).2) g j
 have sp:TxtOk 2 (", " : Str):=Qj (by decide +kernel);refine⟨a,(XN sp a (k:=44) (by rw[Zql];exact d)).mono (),CP (m:=2) (n:=44) (k:=44) sp.len (λy c=>(a y c).len) (by rw[Zql];exact d) ()⟩
def wV:TxtOk 1 (" " : Str):=Qj (by decide +kernel)
def Pk {xs:Yh}{r:Str×Str×Jr}(a:TxtOk 12 r.1)(b:TxtOk 12 r.2.1)(c:TxtOk 2024 (xW xs r.2.2)):TxtOk 2056 (qR xs r):=
 (((((wV.app a).app wV).app (CU b)).app wV).app c).mono ()
def Go {p:Pl}(h:PlT p):(∀y∈Qe p,TxtOk 2056 y)/\(Qe p).length<=53:=by
 refine⟨λy hy=>?_,?_⟩
 .unfold Qe at hy;rcases Jb.mp hy with hy|hy
  .rcases Jb.mp hy with hy|hy
   .rw[Jc.mp hy];exact((Qj (n:=5) (x:= "plan ") (by decide +kernel)).app h.nm).mono ()
   .obtain⟨g,e,rfl⟩:=Ja.mp hy;exact((Qj (n:=7) (x:= " given ") (by decide +kernel)).app (h.gs g e)).mono ()
  .obtain⟨r,f,rfl⟩:=Ja.mp hy;obtain⟨a,b,c,d⟩:=h.rs r f;exact Pk a b (Gn (xs:=qQ p) h.th c (λi j=>by rw[CS];exact d i j)).2.1
 .unfold Qe;rw[Ua,Ua,Zql,Zql,Ue];have:=h.gl;have:=h.rl;lia
theorem ZO:∀{ps:List Pl},(∀p∈ps,PlT p)->(∀y∈Q3 ps,TxtOk 2056 y)/\(Q3 ps).length<=ps.length*53
 | [],_=>⟨λy e=>(by cases e),Ug _⟩
 |p::ps,h=>by
  obtain⟨a,b⟩:=Go (h p Zqs);obtain⟨c,d⟩:=ZO (ps:=ps) λq f=>h q (Zqm _ f);refine⟨λy e=>?_,?_⟩
  .rcases Jb.mp (show y∈Qe p++Q3 ps from e) with z|z
   .exact a y z
   .exact c y z
  .show(Qe p++Q3 ps).length<=_;rw[Ua,Zu,Vb];lia
def Gp {ps:List Pl}(h:∀p∈ps,PlT p)(e:ps.length<=32):TxtOk 3488672 (KN ps)/\JoinOk "\n" (Q3 ps)=true:=by
 obtain⟨a,b⟩:=ZO h;have c:TxtOk 1 ("\n" : Str):=Qj (by decide +kernel);exact⟨(XN c a (k:=1696) ()).mono (),CP (m:=1) (n:=2056) (k:=1696) c.len (λy d=>(a y d).len) () ()⟩
def Ko (q:Pl):D:=.lst [.str q.name,.lst (q.givens.map .str),.lst (q.rows.map T8)]
@[simp]def Tj (q:Pl):T7 (Ko q) (.int 0)=some (.str q.name):=rfl
@[simp]def Tk (q:Pl):T7 (Ko q) (.int 1)=some (.lst (q.givens.map .str)):=rfl
@[simp]def Tl (q:Pl):T7 (Ko q) (.int 2)=some (.lst (q.rows.map T8)):=rfl
def zb (ld:Yf):D:=.lst (ld.map .int)
def xm (ps:List Pl):D:=.lst (ps.map Ko)
structure AtP (hp:HP)(a:Addr×Addr×Addr)(q:Pl):Prop where
 pl:Tq hp a.1=some (.lst [.str q.name,.adr a.2.1,.adr a.2.2])
 gv:Tq hp a.2.1=some (.lst (q.givens.map .str))
 rw_:Tq hp a.2.2=some (.lst (q.rows.map T8))
def jl (b:List (Addr×Addr×Addr)):Yi:=b.flatMap λa=>[a.1,a.2.1,a.2.2]
def qD (hp:HP):List (Addr×Addr×Addr)->List Pl->Prop
 | [],ps=>ps=[]
 |a::as,ps=>∃q r,ps=q::r/\AtP hp a q/\qD hp as r
structure StB (hp:HP)(p l:Addr)(as:List (Addr×Addr×Addr))(a:Addr×Addr×Addr)(ps:List Pl)(q:Pl)(ld:Yf):Prop where
 hp_:Tq hp p=some (.lst ((as++[a]).map λb=>.adr b.1))
 hl:Tq hp l=some (.lst (ld.map .int))
 all:qD hp as ps
 at_:AtP hp a q
 nd:(p::l::jl (as++[a])).Nodup
theorem qD.len {hp:HP}:∀{b:List (Addr×Addr×Addr)} {ps:List Pl},qD hp b ps->ps.length=b.length
 | [],ps,h=>by rw[show ps=[] from h];rfl
 |a::b,ps,h=>by
  obtain⟨q,r,rfl,_,h⟩:=h;rw[Zu,Zu,h.len]
theorem qD.snoc {hp:HP}{a:Addr×Addr×Addr}{q:Pl}(d:AtP hp a q):∀{c:List (Addr×Addr×Addr)} {ps:List Pl},qD hp c ps->qD hp (c++[a]) (ps++[q])
 | [],ps,h=>by rw[show ps=[] from h];exact⟨q,[],rfl,d,rfl⟩
 |b::c,ps,h=>by
  obtain⟨q',r,rfl,e,h⟩:=h;exact⟨q',r++[q],rfl,e,h.snoc d⟩
def Ba (a bs:List (Addr×Addr×Addr)):jl (a++bs)=jl a++jl bs:=List.flatMap_append
def AtP.mono {hp hp':HP}{a:Addr×Addr×Addr}{q:Pl}(h:AtP hp a q)(e:∀b ∈ [a.1,a.2.1,a.2.2],Tq hp' b=Tq hp b):AtP hp' a q:=
 ⟨(e _ ()).trans h.pl,(e _ ()).trans h.gv,(e _ ()).trans h.rw_⟩
theorem qD.mono {hp hp':HP}:∀{f:List (Addr×Addr×Addr)} {ps:List Pl},qD hp f ps->(∀b∈jl f,Tq hp' b=Tq hp b)->qD hp' f ps
 | [],ps,h,_=>h
 |a::f,ps,h,e=>by
  obtain⟨q,r,rfl,g,h⟩:=h;refine⟨q,r,rfl,g.mono λb d=>e b ?_,h.mono λb d=>e b ?_⟩
  .exact Jj.mpr ⟨a,Zqs,d⟩
  .obtain⟨c,i,d⟩:=Jj.mp d;exact Jj.mpr ⟨c,Zqm _ i,d⟩
def AtP.has {hp:HP}{a:Addr×Addr×Addr}{q:Pl}(h:AtP hp a q):∀c ∈ [a.1,a.2.1,a.2.2],Tq hp c≠none:=λc b=>by
 have:c=a.1\/c=a.2.1\/c=a.2.2:=by simpa using b
 rcases this with rfl|rfl|rfl
 .rw[h.pl];simp
 .rw[h.gv];simp
 .rw[h.rw_];simp
theorem qD.has {hp:HP}:∀{b:List (Addr×Addr×Addr)} {ps:List Pl},qD hp b ps->∀c∈jl b,Tq hp c≠none
 | [],_,_,c,hc=>by cases hc
 |a::b,ps,h,c,hc=>by
  obtain⟨q,r,rfl,d,h⟩:=h;rcases Jb.mp (show c ∈ [a.1,a.2.1,a.2.2]++jl b from hc) with z|z
  .exact d.has c z
  .exact h.has c z
def Xs (hp:HP)(n:Nat)(x:Str):dr hp n (.str x)=.str x:=by cases n<;>rfl
def CV (hp:HP)(n:Nat)(x:Int):dr hp n (.int x)=.int x:=by cases n<;>rfl
def gA (hp:HP)(n:Nat)(x:Int×Int):dr hp n (qu x)=qu x:=by
 cases n with
 |zero=>rfl
 |succ n =>
  show D.tup [dr hp n (.int x.1),dr hp n (.int x.2)]=_;rw[CV,CV];rfl
def Bb {α: Type}{f:α -> D}{g:D->D}(h:∀x,g (f x)=f x)(l:List α):(l.map f).map g=l.map f:=by
 rw[Zw];exact Vc λx _=>h x
def g0 (hp:HP)(n:Nat)(r:Jr):dr hp n (jz r)=jz r:=by
 cases n with
 |zero=>rfl
 |succ n =>
  show D.tup ((r.map qu).map (dr hp n))=_;rw[Bb (gA hp n)];rfl
def Pm (hp:HP)(n:Nat)(r:Str×Str×Jr):dr hp n (T8 r)=T8 r:=by
 cases n with
 |zero=>rfl
 |succ n =>
  show D.tup [dr hp n (.str r.1),dr hp n (.str r.2.1),dr hp n (jz r.2.2)]=_;rw[Xs,Xs,g0];rfl
def CW (hp:HP)(n:Nat)(r:Yh):dr hp n (.lst (r.map .str))=.lst (r.map .str):=by
 cases n with
 |zero=>rfl
 |succ n =>
  show D.lst ((r.map D.str).map (dr hp n))=_;rw[Bb (Xs hp n)]
def Pn (hp:HP)(n:Nat)(r:Yf):dr hp n (.lst (r.map .int))=.lst (r.map .int):=by
 cases n with
 |zero=>rfl
 |succ n =>
  show D.lst ((r.map D.int).map (dr hp n))=_;rw[Bb (CV hp n)]
def Po (hp:HP)(n:Nat)(r:List (Str×Str×Jr)):dr hp n (.lst (r.map T8))=.lst (r.map T8):=by
 cases n with
 |zero=>rfl
 |succ n =>
  show D.lst ((r.map T8).map (dr hp n))=_;rw[Bb (Pm hp n)]
theorem AtP.dr {hp:HP}{a:Addr×Addr×Addr}{q:Pl}(h:AtP hp a q)(n:Nat):dr hp (n+3) (.adr a.1)=Ko q:=by
 rw[Ky _ h.pl];show D.lst [L2.DL.dr hp (n+1) (.str q.name),L2.DL.dr hp (n+1) (.adr a.2.1),L2.DL.dr hp (n+1) (.adr a.2.2)]=_;rw[Xs,Ky _ h.gv,Ky _ h.rw_,CW,Po];rfl
theorem qD.dr {hp:HP}(n:Nat):∀{c:List (Addr×Addr×Addr)} {ps:List Pl},qD hp c ps->(c.map λb=>D.adr b.1).map (dr hp (n+3))=ps.map Ko
 | [],ps,h=>by rw[show ps=[] from h];rfl
 |a::c,ps,h=>by
  obtain⟨q,r,rfl,d,h⟩:=h;rw[Zl,Zl,d.dr,h.dr n];rfl
def VW {α: Type}(l:List α)(x:α):j0 (l++[x]) (-1)=some x:=by
 unfold j0 yn;rw[Ze (),Zd (by rw[Ua,Ue];lia)];show(l++[x])[((-1:Int)+((l++[x]).length:Int)).toNat]? = _;rw[Ua,Ue,show((-1:Int)+((l.length+1:Nat):Int)).toNat=l.length by lia];simp
def CY {α: Type}(l:List α)(x:α):yn (l++[x]).length (-1)=some l.length:=by
 unfold yn;rw[Ze (),Zd (by rw[Ua,Ue];lia)];rw[Ua,Ue]
 congr 1
 lia
section
variable {hp hp':HP}{p l:Addr}{as:List (Addr×Addr×Addr)}{a:Addr×Addr×Addr}{ps:List Pl}{q:Pl}{ld:Yf}
def StB.dp (h:StB hp p l as a ps q ld):dr hp 5 (.adr p)=xm (ps++[q]):=by
 rw[Ky _ h.hp_];show D.lst (((as++[a]).map λb=>D.adr b.1).map (dr hp 3))=_;rw[qD.dr 0 (h.all.snoc h.at_)];rfl
def StB.dl (h:StB hp p l as a ps q ld):dr hp 5 (.adr l)=zb ld:=by rw[Ky _ h.hl,Pn];rfl
def StB.da (h:StB hp p l as a ps q ld):dr hp 5 (.adr a.1)=Ko q:=h.at_.dr 2
theorem StB.len (h:StB hp p l as a ps q ld):as.length=ps.length:=h.all.len.symm
def StB.ne (h:StB hp p l as a ps q ld):p≠l/\p≠a.1/\p≠a.2.1/\p≠a.2.2/\l≠a.1/\l≠a.2.1/\l≠a.2.2/\a.1≠a.2.1/\a.1≠a.2.2/\a.2.1≠a.2.2/\∀b∈jl as,b≠p/\b≠l/\b≠a.1/\b≠a.2.1/\b≠a.2.2:=by
 have c:=h.nd;rw[Ba] at c;have j:a.1∈jl as++jl [a]:=Uf _ (by simp[jl]);have m:a.2.1∈jl as++jl [a]:=Uf _ (by simp[jl]);have n:a.2.2∈jl as++jl [a]:=Uf _ (by simp[jl]);obtain⟨d,c⟩:=Je.mp c;obtain⟨f,c⟩:=Je.mp c;obtain⟨o,g,i⟩:=Jf.mp c;have g: [a.1,a.2.1,a.2.2].Nodup:=by simpa [jl] using g
 obtain⟨k1,k2⟩:=Je.mp g;obtain⟨k3,_⟩:=Je.mp k2;refine⟨λz=>d (by rw[z];exact Zqs),λz=>d (by rw[z];exact Zqm _ j),λz=>d (by rw[z];exact Zqm _ m),λz=>d (by rw[z];exact Zqm _ n),
  λz=>f (by rw[z];exact j),λz=>f (by rw[z];exact m),λz=>f (by rw[z];exact n),λz=>k1 (by rw[z];simp),λz=>k1 (by rw[z];simp),λz=>k3 (by rw[z];simp),λb e=>?_⟩
 refine⟨λz=>d (by rw[<- z];exact Zqm _ (Ur _ e)),λz=>f (by rw[<- z];exact Ur _ e),i b e _ (by simp[jl]),i b e _ (by simp[jl]),i b e _ (by simp[jl])⟩
def StB.upd (h:StB hp p l as a ps q ld){gs:Yh}{rs:List (Str×Str×Jr)}{ld':Yf}(e:∀b,b≠a.2.1->b≠a.2.2->b≠l->Tq hp' b=Tq hp b)
 (d:Tq hp' a.2.1=some (.lst (gs.map .str))) (f:Tq hp' a.2.2=some (.lst (rs.map T8))) (g:Tq hp' l=some (.lst (ld'.map .int))):StB hp' p l as a ps ⟨q.name,gs,rs⟩ ld':=by
 obtain⟨i,v,j,m,n,w,x,o,r,s,c⟩:=h.ne;refine⟨(e p j m i).trans h.hp_,g,h.all.mono λb t=>?_,⟨(e _ o r n.symm).trans h.at_.pl,d,f⟩,h.nd⟩;obtain⟨k1,k2,k3,u,k5⟩:=c b t;exact e b u k5 k2
def StB.load (h:StB hp p l as a ps q ld)(ld':Yf):StB (JD hp l (zb ld')) p l as a ps q ld':=by
 have c:Tq hp l≠none:=by rw[h.hl];simp
 obtain⟨i,j,m,n,o,d,e,r,s,f,g⟩:=h.ne;have:=h.upd (hp':=JD hp l (zb ld')) (gs:=q.givens) (rs:=q.rows) (ld':=ld') (λb _ _ z=>Qr c z) ((Qr c d.symm).trans h.at_.gv) ((Qr c e.symm).trans h.at_.rw_) (V5 c);exact this
def StB.given (h:StB hp p l as a ps q ld)(gs:Yh):StB (JD hp a.2.1 (.lst (gs.map .str))) p l as a ps ⟨q.name,gs,q.rows⟩ ld:=by
 have c:Tq hp a.2.1≠none:=by rw[h.at_.gv];simp
 obtain⟨g,i,j,m,n,e,o,r,s,d,f⟩:=h.ne;exact h.upd (λb z _ _=>Qr c z) (V5 c) ((Qr c d.symm).trans h.at_.rw_) ((Qr c e).trans h.hl)
def StB.rows (h:StB hp p l as a ps q ld)(rs:List (Str×Str×Jr)):StB (JD hp a.2.2 (.lst (rs.map T8))) p l as a ps ⟨q.name,q.givens,rs⟩ ld:=by
 have c:Tq hp a.2.2≠none:=by rw[h.at_.rw_];simp
 obtain⟨g,i,j,m,n,o,e,r,s,d,f⟩:=h.ne;exact h.upd (λb _ z _=>Qr c z) ((Qr c d).trans h.at_.gv) (V5 c) ((Qr c e).trans h.hl)
def Pp (n:Nat)(p:Int×Int):Kx (n+1) (qu p)=true:=by
 show[D.int p.1,D.int p.2].all (Kx n)=true;simp
def Pq (n:Nat)(r:Jr):Kx (n+2) (jz r)=true:=by
 show(r.map qu).all (Kx (n+1))=true;rw[UW,Uq];exact λx _=>Pp n x
def CZ (n:Nat)(r:Str×Str×Jr):Kx (n+3) (T8 r)=true:=by
 show[D.str r.1,D.str r.2.1,jz r.2.2].all (Kx (n+2))=true;simp[Pq]
end
def ZP {n b:Nat}{g:j6}{ds:Yt}{hp hp':HP}{d:D}(c:ds.length=b)(e:(g (Qw n ds) hp).bind ju=.ok (d,hp'))(k:∀a,Tq hp a≠none->Tq hp' a≠none):xh n b g ds hp=.ok (d,hp'):=by
 unfold xh;rw[Zd c,e];show(if _ then _ else _)=_;rw[Zd];refine Uq.mpr λz f=>?_;have h:Tq hp z.1≠none:=by
  rw[Ne,f5];exact λw=>w (Ja.mpr ⟨z,f,rfl⟩)
 have:=k _ h;show(Tq hp' z.1).isSome=true;cases w:Tq hp' z.1 with
 |none=>exact Zn w this
 |some d=>rfl
theorem Gq {tg:Tg}{b:j6}{Q:Str->Yt->Prop}(P:Nat->SD->HP->Prop):∀{ds:Yt} {sd:SD} {hp:HP} (j:Nat),P j sd hp->(∀(i:Nat) (x:D) (sd:SD) (hp:HP),ds[i]? = some x->P (j+i) sd hp->(QH tg b x sd hp).need (λo=>∃a hp',o=.next a hp'/\P (j+i+1) a hp') Q) ->
 (jN (QH tg b) ds sd hp).need (λo=>∃a hp',o=.next a hp'/\P (j+ds.length) a hp') Q
 | [],sd,hp,j,h0,_=>⟨sd,hp,rfl,h0⟩
 |x::xs,sd,hp,j,h0,hs=>by
  unfold jN;refine Wr.need_bind.mpr ((hs 0 x sd hp rfl h0).mono (λo e=>?_) λ_ _ y=>y);obtain⟨a,hp',rfl,f⟩:=e;have:=Gq P (tg:=tg) (b:=b) (Q:=Q) (ds:=xs) (sd:=a) (hp:=hp') (j+1) f λi y c d g h=>by
   have:=hs (i+1) y c d g (by rw[show j+(i+1)=j+1+i by lia];exact h);rw[show j+(i+1)+1=j+1+i+1 by lia] at this;exact this
  rw[show j+1+xs.length=j+(x::xs).length by rw[Zu];lia] at this;exact this
def qf (P:Prop)(c:Str):Res D:=@ite _ P (Classical.propDecidable P) (.ok .non) (.ex c [])
def VX {P:Prop}(h:P)(c:Str):qf P c=.ok .non:=@if_pos _ (Classical.propDecidable P) h _ _ _
def Kz {P:Prop}(h:¬P)(c:Str):qf P c=.ex c []:=@if_neg _ (Classical.propDecidable P) h _ _ _
structure Sn (p:Pl):Prop where
 nm:TxtOk 20 p.name
 gv:∀x∈p.givens,TxtOk 20 x
 rn:∀r∈p.rows,TxtOk 20 r.1
 rh:∀r∈p.rows,TxtOk 20 r.2.1
 sz:p.givens.length+p.rows.length<=920
structure SnB (ps:List Pl):Prop where
 pl:∀p∈ps,Sn p
 len:ps.length<=920
def wh (p:Pl):Yh:=p.givens++p.rows.map (·.1)
def fB (xs:Yh):Prop:=(∀x∈xs,QX x=true)/\xs.Nodup
def gZ (ps:List Pl):Prop:=fB (ps.map (·.name))/\∀p∈ps,fB (wh p)
def nj (a:Int)(b:Jr):Prop:=(1<=b.length/\b.length<=40)/\ItOk a b
def vl (p:Pl):Prop:=∀(k:Nat) (r:Str×Str×Jr),p.rows[k]? = some r->nj ((p.givens.length:Int)+k) r.2.2
def nA (p:Pl):Prop:=(1<=p.givens.length/\p.givens.length<=12)/\(1<=p.rows.length/\p.rows.length<=40)/\vl p
def vh (ps:List Pl):Prop:=(1<=ps.length/\ps.length<=20)/\∀p∈ps,nA p
def zG (t:List (Str×Int))(r:Str×Str×Jr):Prop:=jX r.2.1=true->jx t r.2.1=some (r.2.2.length:Int)
def vg (ps:List Pl):Prop:=∀(i:Nat) (p:Pl),ps[i]? = some p->∀r∈p.rows,zG (QU (ps.take i)) r
def Pr {p:Pl}(S:Sn p):(wh p).length<=920:=by
 unfold wh;rw[Ua,Zql];exact S.sz
def Ps {p:Pl}(S:Sn p):∀x∈wh p,TxtOk 20 x:=λx hx=>by
 rcases Jb.mp hx with z|z
 .exact S.gv x z
 .obtain⟨r,a,rfl⟩:=Ja.mp z;exact S.rn r a
def Pt {x:Str}(h:TxtOk 20 x)(a:QX x=true):ji x:=by
 refine⟨⟨?_,h.asc⟩,a⟩;unfold QX at a;rw[Ub,Ub] at a;exact of_decide_eq_true a.2.1
theorem YZ:∀(ks f:List TM),(ks.foldl L2.ST.stepK f).length<=f.length+ks.length/\((ks.foldl L2.ST.stepK f).length=f.length+ks.length->ks.Nodup/\∀k∈ks,k∉f)
 | [],f=>⟨Zf _,λ_=>⟨List.nodup_nil,λ_ h=>nomatch h⟩⟩
 |k::ks,f=>by
  rw[U5,Zu];obtain⟨a,b⟩:=YZ ks (L2.ST.stepK f k);by_cases h:k∈f
  .have e:L2.ST.stepK f k=f:=Zd (L2.ST.inK_iff.mpr h);rw[e] at a ⊢;exact⟨(),λz=>()⟩
  .have e:L2.ST.stepK f k=f++[k]:=Ze λz=>h (L2.ST.inK_iff.mp z);rw[e] at a b ⊢;rw[Ua,Ue] at a b;refine⟨(),λz=>?_⟩;obtain⟨c,d⟩:=b ();refine⟨Je.mpr ⟨λy=>d k y (Uf _ (Jc.mpr rfl)),c⟩,λx hx=>?_⟩;rcases UB.mp hx with rfl|hx
   .exact h
   .exact λy=>d x hx (Ur _ y)
def Pu {xs:Yh}(d:xs.length<=999):∃n:Nat,Z1 [.lst (xs.map .str)]=some (.int n)/\(n=xs.length↔xs.Nodup):=by
 have e:Ke Qg (xs.map .str)=some (xs.map Um):=YK (f:=Qg) (g:=D.str) (k:=Um) (λ_=>rfl) xs;have c:xs.Nodup↔(xs.map (Um:Str->TM)).Nodup:=by
  rw[Vq,Vq,Vn];exact⟨List.Pairwise.imp λ{a b} n z=>n (by injection z),List.Pairwise.imp λ{a b} n z=>n (by rw[z])⟩
 refine⟨(L2.ST.dedL (xs.map Um)).length,?_,λz=>?_,λz=>?_⟩
 .show(Ke Qg (xs.map .str)).bind _=_;rw[e];show(if(xs.map (Um:Str->TM)).length<=999 then _ else _)=_;rw[Zql,Zd d]
 .refine c.mpr ((YZ (xs.map Um) []).2 ?_).1;rw[ZC,U6,Zql];exact z
 .rw[L2.ST.dedL_nodup (c.mp z),Zql]
def XP:Yt->Res Yt:=yj 2 2 (Jt (T3 Kk (Jt (Tn 1) Tp)) Tp)
def ZQ:j6:=(TV (zk "Draft" "name" (vL (Tn 0)) (vL (Tn 1))) (TV (zk "Draft" "givens" (vL (Tn 0)) (jm TZ)) (TV (zk "Draft" "rows" (vL (Tn 0)) (jm TZ)) KS)))
def Bc:Yt->HP->Wr (D×HP):=xh 2 2 ZQ
def XQ:Yt->Res Yt:=yj 4 4 (Jt (Tn 1) (Jt (T3 Kk (Jt (Tn 2) Tp)) (Jt (T3 Kk (Jt (Tn 3) Tp)) Tp)))
def Bd:FS:=(TN (YV "Book" ["plans"] XP (Jt (Q5 [none] (iS (Tn 0)) (.one 0) (YV "Plan" ["name", "givens", "rows"] XQ (Jt (Ts T7 (Tn 0) (dC (.int 0))) (Jt (T3 Kk (Jt (Ts T7 (Tn 0) (dC (.int 1))) Tp)) (Jt (T3 Kk (Jt (Ts T7 (Tn 0) (dC (.int 2))) Tp)) Tp))))) Tp)))
def Be:Yt->Res D:=qo 1 1 Bd
def kL {ps:List Pl}(h:ps.length<=60):Be [xm ps]=.ok (JB ps):=by
 have a:js (.one 0) (YV "Plan" ["name", "givens", "rows"] XQ (Jt (Ts T7 (Tn 0) (dC (.int 0))) (Jt (T3 Kk (Jt (Ts T7 (Tn 0) (dC (.int 1))) Tp)) (Jt (T3 Kk (Jt (Ts T7 (Tn 0) (dC (.int 2))) Tp)) Tp)))) [none] (ps.map Ko)=.ok (ps.map J7):=Q7 λp hp=>by
  simp[XQ,yj,Qw,J7]
 have b:=JV (show ps.length<=1000 from ());unfold xm;simp[Be,Bd,a,b,XP,yj,Qw,JB]
def Xt:FS:=(T1 (jq (Jx (Ts z9 (Tn 1) (T3 T5 (Jt (Tn 0) Tp)))) (TN (Ts T7 (Tn 0) (Tn 1))) JA) (TN (dC (.int 0))))
def Q9:Yt->Res D:=jc 2 2 Xt
def Da (a:Yf)(k:Nat):Q9 [.scr a,.int k]=.ok (.int (Qu a k)):=by
 unfold Qu;by_cases h:k<a.length
 .have e:j0 a (k:Int)=some a[k]:=by rw[Wn h];simp
  simp_all [Q9,Xt]
 .simp[Q9,Xt,h]
def XR:FS:=(T1 (TK 1 (Ts TY (Ts K6 (Tn 0) (dC (.int 3))) (Ts xn (dC (.int 10)) (dC (.int 30))))) (T1 (jq (Jx (Ts qi (Ts TY (Tn 0) (dC (.int 3))) (dC (.int 0)))) (TN (dC (.int 0))) JA) (T1 (jq (Jx (Ts qi (Ts TY (Tn 0) (dC (.int 3))) (dC (.int 1)))) (TN (Tn 1)) JA) (TN (Ts xX (dC (.int 0)) (Tn 1))))))
def XS:Yt->Res D:=jc 2 1 XR
def yF (c:Int):Int:=if c % 3=0 then 0 else if c % 3=1 then c / 3 % 1000000000000000000000000000000 else 0-c / 3 % 1000000000000000000000000000000
def kP (c:Int):XS [.int c]=.ok (.int (yF c)):=by
 have p:xn (.int 10) (.int 30)=some (.int 1000000000000000000000000000000):=rfl;unfold yF;by_cases a:c % 3=0
 .simp[XS,XR,a,p]
 .by_cases b:c % 3=1
  .simp[XS,XR,b,p]
  .simp[XS,XR,a,b,p]
def Db (c:Int): -1000000000000000000000000000000<yF c/\yF c<1000000000000000000000000000000:=by
 unfold yF
 split
 .omega
 .split<;>lia
def Bf:FS:=(TN (jn (Jt (Ts TY (Tn 0) (Tn 1)) (Jt (J0 XS (Jt (Ts K6 (Tn 0) (Tn 1)) Tp)) Tp))))
def WI:Yt->Res D:=jc 2 2 Bf
def QY (c a:Int):Int×Int:=(c % a,yF (c / a))
def Dc {c a:Int}(b:0<a)(f:a<1000000):WI [.int c,.int a]=.ok (qu (QY c a)):=by
 have d:=kP (c / a);have e:K6 (.int c) (.int a)=some (.int (c / a)):=ET b ();simp[WI,Bf,b,e,d];rfl
def WJ:j6:=(TV (qd 5 (ye (vL (Tn 0)) (vL (jb jI (dC (.int 1)))))) (TV (qd 6 (qW 5 [5] (Ts T6 (T3 T5 (Jt (Ts T7 (Tn 5) (dC (.int 1))) Tp)) (T3 T5 (Jt (Ts T7 (Tn 5) (dC (.int 2))) Tp))))) (TV (qd 7 (qW 5 [0] (Ts T7 (Tn 2) (Ts TY (Ts T6 (T3 T5 (Jt (Tn 0) Tp)) (Tn 6)) (T3 T5 (Jt (Tn 2) Tp)))))) (TV (yB (vL (Tn 1)) (vL (jb jI (dC (.int 1)))) (qW 5 [1] (Ts T6 (Ts T7 (Tn 1) (jb jI (dC (.int 1)))) (dC (.int 1))))) (TV (Kg (qP 5 [0] (Qv (Jx (Ts qi (Ts TY (Tn 3) (dC (.int 4))) (dC (.int 3)))) (Jx (Ts yK (T3 T5 (Jt (Tn 0) Tp)) (dC (.int 1)))))) (TV (qd 8 (qW 5 [0] (Ts TY (Ts K6 (Tn 3) (dC (.int 4))) (Ts xX (T3 T5 (Jt (Tn 0) Tp)) (dC (.int 1)))))) (Kg (qP 5 [1] (Jx (Ts qA (Ts T6 (Ts T7 (Tn 1) (jb jI (dC (.int 1)))) (Ts T7 (Tn 1) (Tn 8))) (dC (.int 1900))))) (TV (yB (vL (Tn 1)) (vL (jb jI (dC (.int 1)))) (qW 5 [1] (Ts T6 (Ts T7 (Tn 1) (jb jI (dC (.int 1)))) (Ts T7 (Tn 1) (Tn 8))))) (TV (qd 9 (qW 5 [0] (T3 T5 (Jt (Ts T7 (Ts T7 (Tn 0) (Tn 8)) (dC (.int 1))) Tp)))) (qz (qW 5 [0] (jn (Jt (Tn 7) (Jt (Ts T7 (Ts T7 (Tn 0) (Tn 8)) (dC (.int 0))) (Jt (T3 YO (Jt (Q5 [none,some 4,some 6] (vc (Jt (Tn 9) Tp)) (.one 0) (J0 WI (Jt (Ts T6 (Tn 1) (Ts j7 (Ts j7 (dC (.int 31)) (Tn 0)) (Tn 0))) (Jt (Tn 2) Tp)))) Tp)) Tp)))))))) KS)) KS) (qz (vL (jn (Jt (Tn 7) (Jt (Ts T7 (jQ (Jt (dC (.str "all")) (Jt (dC (.str "first")) Tp))) (Ts TY (Tn 3) (dC (.int 2)))) (Jt (jn (Jt (J0 WI (Jt (Tn 4) (Jt (Tn 6) Tp))) Tp)) Tp)))))))))))
def XT:Yt->HP->Wr (D×HP):=xh 10 5 WJ
def JF (q:Pl):Int:=(q.givens.length:Int)+(q.rows.length:Int)
def TU (ws:Yh)(k:Int):Str:=ws.getD (k % (ws.length:Int)).toNat Str.empty
def jr (ps:List Pl)(k:Int):Pl:=ps.getD k.toNat ⟨Str.empty,[],[]⟩
def xI (a:Int):Str:=if a % 2=0 then "all" else "first"
def jp (ws:Yh)(ps:List Pl)(q:Pl)(ld:Yf)(x a b:Int):(Str×Str×Jr)×Int:=
 if a % 4=3/\ps ≠ []/\x+1+jM ld (a / 4 % (ps.length:Int))<=1900 then
  ((TU ws ((ps.length:Int)+1+JF q),(jr ps (a / 4 % (ps.length:Int))).name,(List.range (jr ps (a / 4 % (ps.length:Int))).givens.length).map λj:Nat=>QY (b+31*j*j) (JF q)),x+1+jM ld (a / 4 % (ps.length:Int)))
 else((TU ws ((ps.length:Int)+1+JF q),xI a,[QY b (JF q)]),x+1)
def Dd {ws:Yh}(hw:0<ws.length)(k:Int):T7 (.lst (ws.map .str)) (.int (k % (ws.length:Int)))=some (.str (TU ws k)):=by
 have a:0<=k % (ws.length:Int):=Uw _ ();have b:k % (ws.length:Int)<(ws.length:Int):=UC _ ();obtain⟨j,hj⟩:∃j:Nat,k % (ws.length:Int)=j:=⟨(k % (ws.length:Int)).toNat,()⟩;show j0 (ws.map D.str) (k % (ws.length:Int))=_;unfold TU;rw[hj,Wn (by rw[Zql];lia),Ul,Zv,Uj,Zqg ()];rfl
def Pv {ps:List Pl}{k:Int}(a:0<=k)(b:k<(ps.length:Int))(q:Pl):j0 ((ps++[q]).map Ko) k=some (Ko (jr ps k)):=by
 obtain⟨j,rfl⟩:∃j:Nat,k=j:=⟨k.toNat,()⟩;unfold jr;rw[Wn (by rw[Zql,Ua];lia),Ul,Zv,Up (),Uj,Zqg ()];rfl
def Pw {ld:Yf}{k:Int}(a:0<=k)(b:k<(ld.length:Int))(x:Int):j0 ((ld++[x]).map D.int) k=some (.int (jM ld k)):=by
 obtain⟨j,rfl⟩:∃j:Nat,k=j:=⟨k.toNat,()⟩;unfold jM;rw[Wn (by rw[Zql,Ua];lia),Ul,Zv,Up (),Uj,Zqg ()];rfl
def kN {hp:HP}{p l:Addr}{L:List (Addr×Addr×Addr)}{a:Addr×Addr×Addr}{ps:List Pl}{q:Pl}{ld:Yf}{x:Int}{ws:Yh}(h:StB hp p l L a ps q (ld++[x]))(hl:ld.length=ps.length)(hw:0<ws.length)(T:0<JF q)(hq2:JF q<1000)(d e:Int)
 (hs:∀r∈ps,r.givens.length<=1000):∃hp',(WJ [~~~(.adr p),~~~(.adr l),~~~(.lst (ws.map .str)),~~~(.int d),~~~(.int e),none,none,none,none,none] hp).bind ju=.ok (T8 (jp ws ps q ld x d e).1,hp') /\
 (∀b,b≠l->Tq hp' b=Tq hp b)/\StB hp' p l L a ps q (ld++[(jp ws ps q ld x d e).2]):=by
 have v:=h.dp;have w:=h.da;have y:=h.dl;have A:xf (.adr p) (.int (-1),hp)=.ok (.adr a.1,hp):=by
  rw[XG (q:=(D.int (-1),hp)) h.hp_];show(Wr.of (.ofO (j0 ((L++[a]).map λb=>D.adr b.1) (-1)))).bind _=_;rw[Uc,List.map_singleton,VW];rfl
 have B:=Dd hw ((ps.length:Int)+1+JF q);have C:T5 [D.lst (ws.map D.str)]=some (.int (ws.length:Int)):=by show some (D.int ((ws.map D.str).length:Int))=_;rw[Zql]
 have E:T5 [xm (ps++[q])]=some (.int ((ps.length:Int)+1)):=by show some (D.int (((ps++[q]).map Ko).length:Int))=_;rw[Zql,Ua,Ue];simp
 have F:T5 [D.lst (q.givens.map D.str)]=some (.int (q.givens.length:Int)):=by show some (D.int ((q.givens.map D.str).length:Int))=_;rw[Zql]
 have g:T5 [D.lst (q.rows.map T8)]=some (.int (q.rows.length:Int)):=by show some (D.int ((q.rows.map T8).length:Int))=_;rw[Zql]
 have G:(q.givens.length:Int)+(q.rows.length:Int)=JF q:=rfl;have x1:T7 (zb (ld++[x])) (.int (-1))=some (.int x):=by
  show j0 ((ld++[x]).map D.int) (-1)=_;rw[Uc,List.map_singleton,VW]
 have s:∀sd,W7 sd (.int (x+1)) l (.int (-1),hp)=.ok (.next sd (JD hp l (zb (ld++[x+1])))):=λsd=>by
  rw[C7 h.hl (j:=ld.length) (by rw[Zql];exact CY ld x),Uc,List.map_singleton,<- @List.length_map _ _ ld D.int,CC];unfold zb;rw[Uc,List.map_singleton]
 have i:=h.load (ld++[x+1]);have hn:Tq hp l≠none:=by rw[h.hl];simp
 obtain⟨f,hp1e⟩:∃f,f=JD hp l (zb (ld++[x+1])):=⟨_,rfl⟩;rw[<- hp1e] at i;simp only[<- hp1e] at s;have k1:∀b,b≠l->Tq f b=Tq hp b:=λb H=>by rw[hp1e];exact Qr hn H
 have I:=i.dp;have U:=i.dl;have M:=Dc (c:=e) T ();have n:T7 (.lst [D.str "all",D.str "first"]) (.int (d % 2))=some (.str (xI d)):=by
  unfold xI;have:d % 2=0\/d % 2=1:=()
  rcases this with z|z<;>rw[z]<;>rfl
 have small:(¬(d % 4=3/\ps ≠ []/\x+1+jM ld (d / 4 % (ps.length:Int))<=1900))->jp ws ps q ld x d e=((TU ws ((ps.length:Int)+1+JF q),xI d,[QY e (JF q)]),x+1):=λz=>Ze z;by_cases o:d % 4=3
 .by_cases J:ps=[]
  .have g:=small λz=>z.2.1 J;refine⟨f,?_,k1,by rw[g];exact i⟩;rw[g];have u:¬(1:Int)<(ps.length:Int)+1:=by rw[J];decide
   simp[WJ,A,v,w,y,B,C,E,F,g,G,hw,x1,s,I,o,u,M,n];rfl
  .have u:0<(ps.length:Int):=by have:=Ji.mpr J;lia
   obtain⟨t,ht⟩:∃t,d / 4 % (ps.length:Int)=t:=⟨_,rfl⟩;have X:0<=t:=by rw[<- ht];exact Uw _ ()
   have t1:t<(ps.length:Int):=by rw[<- ht];exact UC _ u
   have Y:T7 (zb (ld++[x+1])) (.int (-1))=some (.int (x+1)):=by
    show j0 ((ld++[x+1]).map D.int) (-1)=_;rw[Uc,List.map_singleton,VW]
   have Z:T7 (zb (ld++[x+1])) (.int t)=some (.int (jM ld t)):=Pw X () (x+1);rw[ht] at small;by_cases K:x+1+jM ld t<=1900
   .have g:jp ws ps q ld x d e=((TU ws ((ps.length:Int)+1+JF q),(jr ps t).name,(List.range (jr ps t).givens.length).map λj:Nat=>QY (e+31*j*j) (JF q)),x+1+jM ld t):=by
     unfold jp;rw[ht,Zd ⟨o,J,K⟩]
    have N:Tq f l≠none:=by rw[i.hl];simp
    have O:=i.load (ld++[x+1+jM ld t]);have p2:∀sd,W7 sd (.int (x+1+jM ld t)) l (.int (-1),f)=.ok (.next sd (JD f l (zb (ld++[x+1+jM ld t])))):=λsd=>by
     rw[C7 i.hl (j:=ld.length) (by rw[Zql];exact CY ld (x+1)),Uc,List.map_singleton,<- @List.length_map _ _ ld D.int,CC];unfold zb;rw[Uc,List.map_singleton]
    obtain⟨m,hp2e⟩:∃m,m=JD f l (zb (ld++[x+1+jM ld t])):=⟨_,rfl⟩;rw[<- hp2e] at O;simp only[<- hp2e] at p2;have k2:∀b,b≠l->Tq m b=Tq hp b:=λb H=>by rw[hp2e,Qr N H];exact k1 b H
    have w1:=O.dp;have yp:T7 (xm (ps++[q])) (.int t)=some (Ko (jr ps t)):=Pv X t1 q;have hg:(jr ps t).givens.length<=1000:=hs _ (by
     unfold jr;rw[Uj,Zqg ()];exact UL _)
    have yl:T5 [D.lst ((jr ps t).givens.map D.str)]=some (.int ((jr ps t).givens.length:Int)):=by show some (D.int (((jr ps t).givens.map D.str).length:Int))=_;rw[Zql]
    have yr:XC [.int ((jr ps t).givens.length:Int)]=.ok (QD 0 (jr ps t).givens.length):=by rw[A8 () (),Ul]
    refine⟨m,?_,k2,by rw[g];exact O⟩;rw[g];have P:(1:Int)<(ps.length:Int)+1:=()
    have Q:TY (.int (d / 4)) (.int (ps.length:Int))=some (.int t):=by rw[V0 u,ht]
    have ym:js (.one 0) (J0 WI (Jt (Ts T6 (Tn 1) (Ts j7 (Ts j7 (dC (.int 31)) (Tn 0)) (Tn 0))) (Jt (Tn 2) Tp))) [none,~~~(.int e),~~~(.int (JF q))] (QD 0 (jr ps t).givens.length)=.ok ((List.range (jr ps t).givens.length).map λj:Nat=>qu (QY (e+31*j*j) (JF q))):=MO λj hj=>by
     have R:j7 (.int 31) (.int (j:Int))=some (.int (31*j)):=W0 (YQ () ());have S:j7 (.int (31*(j:Int))) (.int (j:Int))=some (.int (31*j*j)):=W0 (YQ () ());have fj:=Dc (c:=e+31*j*j) T ();simp[R,S,fj]
    have yz:(QD 0 (jr ps t).givens.length).length<sizeLine:=by rw[A9];exact JV hg
    have ef:Kx 8 (.tup [.str (TU ws ((ps.length:Int)+1+JF q)),.str (jr ps t).name,.tup ((List.range (jr ps t).givens.length).map λj:Nat=>qu (QY (e+31*j*j) (JF q)))])=true:=by
     have:=CZ 5 (TU ws ((ps.length:Int)+1+JF q),(jr ps t).name,(List.range (jr ps t).givens.length).map λj:Nat=>QY (e+31*j*j) (JF q));unfold T8 jz at this;rw[Zw] at this;exact this
    simp[WJ,A,v,w,y,B,C,E,F,g,G,hw,x1,s,I,U,o,P,Q,Y,Z,K,p2,w1,yp,yl,yr,ym,yz,ef];unfold T8 jz;rw[Zw];rfl
   .have g:=small λz=>K z.2.2;refine⟨f,?_,k1,by rw[g];exact i⟩;rw[g];have P:(1:Int)<(ps.length:Int)+1:=()
    have Q:TY (.int (d / 4)) (.int (ps.length:Int))=some (.int t):=by rw[V0 u,ht]
    simp[WJ,A,v,w,y,B,C,E,F,g,G,hw,x1,s,I,U,o,P,Q,Y,Z,K,M,n];rfl
 .have g:=small λz=>o z.1;refine⟨f,?_,k1,by rw[g];exact i⟩;rw[g];simp[WJ,A,v,w,y,B,C,E,F,g,G,hw,x1,s,I,o,M,n];rfl
def Gr {hp:HP}{p l:Addr}{g:List (Addr×Addr×Addr)}{a:Addr×Addr×Addr}{ps:List Pl}{q:Pl}{ld:Yf}{x:Int}{ws:Yh}(h:StB hp p l g a ps q (ld++[x]))(i:ld.length=ps.length)(hw:0<ws.length)(j:0<JF q)(f:JF q<1000)(c d:Int)
 (m:∀r∈ps,r.givens.length<=1000):∃hp',XT [.adr p,.adr l,.lst (ws.map .str),.int c,.int d] hp=.ok (T8 (jp ws ps q ld x c d).1,hp') /\
 (∀b,b≠l->Tq hp' b=Tq hp b)/\StB hp' p l g a ps q (ld++[(jp ws ps q ld x c d).2]):=by
 obtain⟨hp',e,k,h'⟩:=kN h i hw j f c d m;refine⟨hp',ZP rfl e λb n=>?_,k,h'⟩;by_cases y:b=l
 .rw[y,h'.hl];simp
 .rw[k _ y];exact n
def XU:j6:=(TV (qd 5 (ye (vL (Tn 0)) (vL (jb jI (dC (.int 1)))))) (TV (zL (TK 6 (Ts TY (Tn 3) (dC (.int 8))))) (Kg (qP 5 [5] (Qv (Jx (Ts qi (Tn 6) (dC (.int 0)))) (Jx (Ts x9 (Ts T7 (Tn 5) (dC (.int 2))) (jQ Tp))))) (TV (qa (vL (Tn 0)) (jm (J3 (qW 5 [0] (Ts T7 (Tn 2) (T3 T5 (Jt (Tn 0) Tp)))) (J3 (jm (J3 (qW 5 [0] (Ts T7 (Tn 2) (Ts T6 (T3 T5 (Jt (Tn 0) Tp)) (dC (.int 1))))) TZ)) (J3 (jm TZ) TZ))))) (qa (vL (Tn 1)) (vL (dC (.int 0))))) (Kg (qP 5 [5] (Qv (Jx (Ts qi (Tn 6) (dC (.int 1)))) (Qv (Jx (Ts qi (Ts T7 (Tn 5) (dC (.int 2))) (jQ Tp))) (Jx (Ts z9 (T3 T5 (Jt (Ts T7 (Tn 5) (dC (.int 1))) Tp)) (dC (.int 12))))))) (qa (ye (vL (Tn 5)) (vL (dC (.int 1)))) (qW 5 [0,5] (Ts T7 (Tn 2) (Ts TY (Ts T6 (T3 T5 (Jt (Tn 0) Tp)) (T3 T5 (Jt (Ts T7 (Tn 5) (dC (.int 1))) Tp))) (T3 T5 (Jt (Tn 2) Tp)))))) (Kg (qP 5 [5] (Qv (Jx (Ts yK (Tn 6) (dC (.int 3)))) (Qv (Jx (Ts x9 (Ts T7 (Tn 5) (dC (.int 2))) (jQ Tp))) (Jx (Ts (jY false) (Ts T7 (Ts T7 (Ts T7 (Tn 5) (dC (.int 2))) (jb jI (dC (.int 1)))) (dC (.int 1))) (jn (Jt (dC (.str "all")) (Jt (dC (.str "first")) Tp)))))))) (TV (qd 7 (qW 5 [5] (Ts T7 (Ts T7 (Tn 5) (dC (.int 2))) (jb jI (dC (.int 1)))))) (yB (ye (vL (Tn 5)) (vL (dC (.int 2)))) (vL (jb jI (dC (.int 1)))) (qW 5 [5] (jn (Jt (Ts T7 (Tn 7) (dC (.int 0))) (Jt (Ts T7 (Tn 7) (dC (.int 1))) (Jt (Ts AB (Ts T7 (Tn 7) (dC (.int 2))) (jn (Jt (J0 WI (Jt (Tn 4) (Jt (Ts xX (Ts T6 (T3 T5 (Jt (Ts T7 (Tn 5) (dC (.int 1))) Tp)) (T3 T5 (Jt (Ts T7 (Tn 5) (dC (.int 2))) Tp))) (dC (.int 1))) Tp))) Tp))) Tp))))))) (qa (ye (vL (Tn 5)) (vL (dC (.int 2)))) (Wj XT (J3 (vL (Tn 0)) (J3 (vL (Tn 1)) (J3 (vL (Tn 2)) (J3 (vL (Ts K6 (Tn 3) (dC (.int 8)))) (J3 (vL (Tn 4)) TZ))))))))))))
def ZR:Yt->HP->Wr (D×HP):=xh 8 5 XU
structure Bst where
 ps:List Pl
 q:Pl
 ld:Yf
 x:Int
def K0 (h:Str):Bool:=decide (h = "all")||decide (h = "first")
def JH (rs:List (Str×Str×Jr)):Str×Str×Jr:=rs.getLast?.getD (Str.empty,Str.empty,[])
def VY (ws:Yh)(s:Bst)(a b:Int):Bst:=
 if a % 8=0/\s.q.rows ≠ [] then⟨s.ps++[s.q],⟨TU ws ((s.ps.length:Int)+1),[TU ws ((s.ps.length:Int)+1+1)],[]⟩,s.ld++[s.x],0⟩
 else if a % 8=1/\s.q.rows=[]/\s.q.givens.length<12 then⟨s.ps,⟨s.q.name,s.q.givens++[TU ws ((s.ps.length:Int)+1+(s.q.givens.length:Int))],s.q.rows⟩,s.ld,s.x⟩
 else if 3<a % 8/\s.q.rows ≠ []/\K0 (JH s.q.rows).2.1=true then⟨s.ps,⟨s.q.name,s.q.givens,s.q.rows.dropLast++[((JH s.q.rows).1,(JH s.q.rows).2.1,(JH s.q.rows).2.2++[QY b (JF s.q-1)])]⟩,s.ld,s.x⟩
 else⟨s.ps,⟨s.q.name,s.q.givens,s.q.rows++[(jp ws s.ps s.q s.ld s.x (a / 8) b).1]⟩,s.ld,(jp ws s.ps s.q s.ld s.x (a / 8) b).2⟩
structure Bsz (s:Bst):Prop where
 ll:s.ld.length=s.ps.length
 g1:1<=s.q.givens.length
 ga:∀r∈s.ps++[s.q],r.givens.length<=12
 ra:s.q.rows.length<=100
 ta:∀z∈s.q.rows,asc z.1/\asc z.2.1/\1<=z.2.2.length/\z.2.2.length<=100
 na:s.ps.length<=100
def fG:j6:=(TV (qa (vL (Tn 0)) (jm (J3 (qW 5 [0] (Ts T7 (Tn 2) (T3 T5 (Jt (Tn 0) Tp)))) (J3 (jm (J3 (qW 5 [0] (Ts T7 (Tn 2) (Ts T6 (T3 T5 (Jt (Tn 0) Tp)) (dC (.int 1))))) TZ)) (J3 (jm TZ) TZ))))) (qa (vL (Tn 1)) (vL (dC (.int 0)))))
def fF:j6:=(qa (ye (vL (Tn 5)) (vL (dC (.int 1)))) (qW 5 [0,5] (Ts T7 (Tn 2) (Ts TY (Ts T6 (T3 T5 (Jt (Tn 0) Tp)) (T3 T5 (Jt (Ts T7 (Tn 5) (dC (.int 1))) Tp))) (T3 T5 (Jt (Tn 2) Tp))))))
def fE:j6:=(TV (qd 7 (qW 5 [5] (Ts T7 (Ts T7 (Tn 5) (dC (.int 2))) (jb jI (dC (.int 1)))))) (yB (ye (vL (Tn 5)) (vL (dC (.int 2)))) (vL (jb jI (dC (.int 1)))) (qW 5 [5] (jn (Jt (Ts T7 (Tn 7) (dC (.int 0))) (Jt (Ts T7 (Tn 7) (dC (.int 1))) (Jt (Ts AB (Ts T7 (Tn 7) (dC (.int 2))) (jn (Jt (J0 WI (Jt (Tn 4) (Jt (Ts xX (Ts T6 (T3 T5 (Jt (Ts T7 (Tn 5) (dC (.int 1))) Tp)) (T3 T5 (Jt (Ts T7 (Tn 5) (dC (.int 2))) Tp))) (dC (.int 1))) Tp))) Tp))) Tp)))))))
def fD:j6:=(qa (ye (vL (Tn 5)) (vL (dC (.int 2)))) (Wj XT (J3 (vL (Tn 0)) (J3 (vL (Tn 1)) (J3 (vL (Tn 2)) (J3 (vL (Ts K6 (Tn 3) (dC (.int 8)))) (J3 (vL (Tn 4)) TZ)))))))
def uZ:XU=(TV (qd 5 (ye (vL (Tn 0)) (vL (jb jI (dC (.int 1)))))) (TV (zL (TK 6 (Ts TY (Tn 3) (dC (.int 8))))) (Kg (qP 5 [5] (Qv (Jx (Ts qi (Tn 6) (dC (.int 0)))) (Jx (Ts x9 (Ts T7 (Tn 5) (dC (.int 2))) (jQ Tp))))) fG (Kg (qP 5 [5] (Qv (Jx (Ts qi (Tn 6) (dC (.int 1)))) (Qv (Jx (Ts qi (Ts T7 (Tn 5) (dC (.int 2))) (jQ Tp))) (Jx (Ts z9 (T3 T5 (Jt (Ts T7 (Tn 5) (dC (.int 1))) Tp)) (dC (.int 12))))))) fF (Kg (qP 5 [5] (Qv (Jx (Ts yK (Tn 6) (dC (.int 3)))) (Qv (Jx (Ts x9 (Ts T7 (Tn 5) (dC (.int 2))) (jQ Tp))) (Jx (Ts (jY false) (Ts T7 (Ts T7 (Ts T7 (Tn 5) (dC (.int 2))) (jb jI (dC (.int 1)))) (dC (.int 1))) (jn (Jt (dC (.str "all")) (Jt (dC (.str "first")) Tp)))))))) fE fD))))):=rfl
def Gs {rs:List (Str×Str×Jr)}(h:∀z∈rs,asc z.1/\asc z.2.1):plN 12 (.lst (rs.map T8))=true:=by
 show(rs.map T8).all (plN 11)=true;rw[Uq];intro d b;obtain⟨z,a,rfl⟩:=Ja.mp b;show[D.str z.1,D.str z.2.1,jz z.2.2].all (plN 10)=true;rw[Ui,Ui,K8 (h z a).1,K8 (h z a).2,Ui,ur 7];rfl
def Bg {rs:List (Str×Str×Jr)}(h:rs ≠ []):rs=rs.dropLast++[JH rs]:=by
 unfold JH;rw[List.getLast?_eq_getLast h];exact(List.dropLast_concat_getLast h).symm
section
variable {hp:HP}{p l:Addr}{as:List (Addr×Addr×Addr)}{a:Addr×Addr×Addr}{s:Bst}{ws:Yh}
abbrev qp (p l:Addr)(ws:Yh)(what cell:Int)(a:Addr):SD:=[~~~(.adr p),~~~(.adr l),~~~(.lst (ws.map .str)),~~~(.int what),~~~(.int cell),~~~(.adr a),~~~(.int (what % 8)),none]
def Px (h:StB hp p l as a s.ps s.q (s.ld++[s.x]))(z:Bsz s)(c d:Int):XU [~~~(.adr p),~~~(.adr l),~~~(.lst (ws.map .str)),~~~(.int c),~~~(.int d),none,none,none] hp =
 if c % 8=0/\s.q.rows ≠ [] then fG (qp p l ws c d a.1) hp else if c % 8=1/\s.q.rows=[]/\s.q.givens.length<12 then fF (qp p l ws c d a.1) hp else if 3<c % 8/\s.q.rows ≠ []/\K0 (JH s.q.rows).2.1=true then fE (qp p l ws c d a.1) hp else fD (qp p l ws c d a.1) hp:=by
 have j:xf (.adr p) (.int (-1),hp)=.ok (.adr a.1,hp):=by
  rw[XG (q:=(D.int (-1),hp)) h.hp_];show(Wr.of (.ofO (j0 ((as++[a]).map λb=>D.adr b.1) (-1)))).bind _=_;rw[Uc,List.map_singleton,VW];rfl
 have m:=h.da;have v:=Gs λy t=>⟨(z.ta y t).1,(z.ta y t).2.1⟩;have f:=OT v;have g:=CH v;have n:T5 [D.lst (s.q.givens.map D.str)]=some (.int (s.q.givens.length:Int)):=by show some (D.int ((s.q.givens.map D.str).length:Int))=_;rw[Zql]
 have w:((s.q.givens.length:Int)<12)↔s.q.givens.length<12:=()
 rw[uZ];by_cases i:s.q.rows=[]
 .rw[i] at f g;simp at f g;by_cases o:c % 8=1
  .by_cases A:s.q.givens.length<12
   .simp[qp,j,m,i,f,g,n,o,w,A]
   .simp[qp,j,m,i,f,g,n,o,w,A]
  .by_cases r:3<c % 8
   .simp[qp,j,m,i,f,g,n,o,r]
   .simp[qp,j,m,i,f,g,n,o,r]
 .have B:=Bg i;have E:JH s.q.rows∈s.q.rows:=by
   have:=Uf s.q.rows.dropLast (Jc.mpr (rfl:JH s.q.rows=JH s.q.rows));rw[<- B] at this;exact this
  have F:asc (JH s.q.rows).2.1:=(z.ta _ E).2.1;have x1:T7 (.lst (s.q.rows.map T8)) (.int (-1))=some (T8 (JH s.q.rows)):=by
   show j0 (s.q.rows.map T8) (-1)=_;have:s.q.rows.map T8=s.q.rows.dropLast.map T8++[T8 (JH s.q.rows)]:=by
    conv=>lhs;rw[B]
    simp
   rw[this,VW]
  have x2:jY false (.str (JH s.q.rows).2.1) (.tup [D.str "all",D.str "first"])=some (.bl (K0 (JH s.q.rows).2.1)):=by
   have:=CN (neg:=false) (x:=(JH s.q.rows).2.1) (xs:=["all", "first"]) F (by
    intro y t;have:y = "all" \/ y = "first" := by simpa using t
    rcases this with rfl|rfl<;>unfold asc<;>decide +kernel)
   rw[show D.tup (List.map D.str ["all", "first"])=D.tup [D.str "all",D.str "first"] from rfl] at this;rw[this];unfold K0;simp
  have G:s.q.rows.isEmpty=false:=by cases e:s.q.rows with|nil=>exact Zn e i|cons _ _=>rfl
  rw[G] at f g;by_cases u:c % 8=0
  .simp[qp,j,m,i,f,g,n,u]
  .by_cases o:c % 8=1
   .simp[qp,j,m,i,f,g,n,o]
   .by_cases r:3<c % 8
    .cases C:K0 (JH s.q.rows).2.1
     .simp[qp,j,m,i,f,g,n,u,o,r,x1,x2,C]
     .simp[qp,j,m,i,f,g,n,u,o,r,x1,x2,C]
    .simp[qp,j,m,i,f,g,n,u,o,r]
def Bh (h:StB hp p l as a s.ps s.q (s.ld++[s.x])):xf (.adr a.1) (.int 1,hp)=.ok (.adr a.2.1,hp)/\xf (.adr a.1) (.int 2,hp)=.ok (.adr a.2.2,hp):=by
 constructor<;>rw[XG (es:=[.str s.q.name,.adr a.2.1,.adr a.2.2]) h.at_.pl]<;>rfl
def Py (h:StB hp p l as a s.ps s.q (s.ld++[s.x]))(z:Bsz s)(hw:0<ws.length)(b c:Int):fF (qp p l ws b c a.1) hp=.ok (.next (qp p l ws b c a.1) (JD hp a.2.1 (.lst ((s.q.givens++[TU ws ((s.ps.length:Int)+1+(s.q.givens.length:Int))]).map .str)))):=by
 have d:=h.dp;have e:=h.da;have f:=(Bh h).1;have g:=Dd hw ((s.ps.length:Int)+1+(s.q.givens.length:Int));have i:T5 [D.lst (ws.map D.str)]=some (.int (ws.length:Int)):=by show some (D.int ((ws.map D.str).length:Int))=_;rw[Zql]
 have j:T5 [xm (s.ps++[s.q])]=some (.int ((s.ps.length:Int)+1)):=by show some (D.int (((s.ps++[s.q]).map Ko).length:Int))=_;rw[Zql,Ua,Ue];simp
 have m:T5 [D.lst (s.q.givens.map D.str)]=some (.int (s.q.givens.length:Int)):=by show some (D.int ((s.q.givens.map D.str).length:Int))=_;rw[Zql]
 have n:(s.q.givens.map D.str).length<sizeLine:=by rw[Zql];exact JV (by have:=z.ga s.q ();lia)
 unfold fF;simp[qp,f,W9 h.at_.gv,d,e,g,i,j,m,hw,WA h.at_.gv n]
def Pz (h:StB hp p l as a s.ps s.q (s.ld++[s.x]))(z:Bsz s)(e b:Int)(i:s.q.rows ≠ []):∃sd,fE (qp p l ws e b a.1) hp=.ok (.next sd (JD hp a.2.2 (.lst ((s.q.rows.dropLast++[((JH s.q.rows).1,(JH s.q.rows).2.1,(JH s.q.rows).2.2++[QY b (JF s.q-1)])]).map T8)))):=by
 have n:=h.da;have o:=(Bh h).2;have m:=Bg i;have q:JH s.q.rows∈s.q.rows:=by
  have:=Uf s.q.rows.dropLast (Jc.mpr (rfl:JH s.q.rows=JH s.q.rows));rw[<- m] at this;exact this
 obtain⟨_,_,B,C⟩:=z.ta _ q;have f:s.q.rows.map T8=s.q.rows.dropLast.map T8++[T8 (JH s.q.rows)]:=by
  conv=>lhs;rw[m]
  simp
 have x1:T7 (.lst (s.q.rows.map T8)) (.int (-1))=some (T8 (JH s.q.rows)):=by
  show j0 (s.q.rows.map T8) (-1)=_;rw[f,VW]
 have r:T5 [D.lst (s.q.givens.map D.str)]=some (.int (s.q.givens.length:Int)):=by show some (D.int ((s.q.givens.map D.str).length:Int))=_;rw[Zql]
 have t:T5 [D.lst (s.q.rows.map T8)]=some (.int (s.q.rows.length:Int)):=by show some (D.int ((s.q.rows.map T8).length:Int))=_;rw[Zql]
 have u:(s.q.givens.length:Int)+(s.q.rows.length:Int)=JF s.q:=rfl;have E:=z.g1;have F:=z.ga s.q ();have G:=z.ra;have v:=Dc (c:=b) (a:=JF s.q-1) (by unfold JF;have:=Ji.mpr i;lia) (by unfold JF;lia);have w:AB (jz (JH s.q.rows).2.2) (.tup [qu (QY b (JF s.q-1))])=some (jz ((JH s.q.rows).2.2++[QY b (JF s.q-1)])):=by
  show(if((JH s.q.rows).2.2.map qu).length+1<=sizeLine then some (D.tup ((JH s.q.rows).2.2.map qu++[qu (QY b (JF s.q-1))])) else none)=_;rw[Zd (small (by rw[Zql];lia))];unfold jz;rw[Uc,List.map_singleton]
 have x:=CZ 5 ((JH s.q.rows).1,(JH s.q.rows).2.1,(JH s.q.rows).2.2++[QY b (JF s.q-1)]);have g:Kx 8 (.tup [.str (JH s.q.rows).1,.str (JH s.q.rows).2.1,jz ((JH s.q.rows).2.2++[QY b (JF s.q-1)])])=true:=x;have y:∀sd d,W7 sd d a.2.2 (.int (-1),hp)=.ok (.next sd (JD hp a.2.2 (.lst (s.q.rows.dropLast.map T8++[d])))):=λsd d=>by
  rw[C7 h.at_.rw_ (j:=s.q.rows.dropLast.length) (by rw[f,<- @List.length_map _ _ s.q.rows.dropLast T8];exact CY _ _),f,<- @List.length_map _ _ s.q.rows.dropLast T8,CC]
 have A:=CZ 5 (JH s.q.rows);refine⟨[~~~(.adr p),~~~(.adr l),~~~(.lst (ws.map .str)),~~~(.int e),~~~(.int b),~~~(.adr a.1),~~~(.int (e % 8)),~~~(T8 (JH s.q.rows))],?_⟩;unfold fE;simp[qp,o,n,x1,r,t,u,v,w,g,A,y];rfl
def P0 (h:StB hp p l as a s.ps s.q (s.ld++[s.x]))(z:Bsz s)(hw:0<ws.length)(c d:Int):∃hp',fD (qp p l ws c d a.1) hp=.ok (.next (qp p l ws c d a.1) hp')/\(∀b,Tq hp b≠none->Tq hp' b≠none) /\
 StB hp' p l as a s.ps ⟨s.q.name,s.q.givens,s.q.rows++[(jp ws s.ps s.q s.ld s.x (c / 8) d).1]⟩ (s.ld++[(jp ws s.ps s.q s.ld s.x (c / 8) d).2]):=by
 have f:=(Bh h).2;have n:=z.g1;have o:=z.ga s.q ();have q:=z.ra;obtain⟨hp',e,k,h'⟩:=Gr h z.ll hw (by unfold JF;lia) (by unfold JF;lia) (c / 8) d λr g=>by have:=z.ga r (by simp[g]);lia
 have i:(s.q.rows.map T8).length<sizeLine:=by rw[Zql];exact JV ()
 have j:=h'.rows (s.q.rows++[(jp ws s.ps s.q s.ld s.x (c / 8) d).1]);refine⟨JD hp' a.2.2 (.lst ((s.q.rows++[(jp ws s.ps s.q s.ld s.x (c / 8) d).1]).map T8)),?_,λb m=>ZG ?_,j⟩
 .unfold fD;simp[qp,f,W9 h.at_.rw_,e,WA h'.at_.rw_ i]
 .by_cases y:b=l
  .rw[y,h'.hl];simp
  .rw[k _ y];exact m
def Bi {k:Nat}(b:k<ws.length):T7 (.lst (ws.map .str)) (.int (k:Int))=some (.str (TU ws (k:Int))):=by
 have:=Dd (ws:=ws) () (k:Int);rw[Int.emod_eq_of_lt () ()] at this;exact this
def P1 (h:StB hp p l as a s.ps s.q (s.ld++[s.x]))(z:Bsz s)(hw:s.ps.length+2<ws.length)(e f:Int):(fG (qp p l ws e f a.1) hp).need (λo=>∃sd hp' A U,o=.next sd hp'/\(∀b,Tq hp b≠none->Tq hp' b≠none) /\
 StB hp' p l A U (s.ps++[s.q]) ⟨TU ws ((s.ps.length:Int)+1),[TU ws ((s.ps.length:Int)+1+1)],[]⟩ ((s.ld++[s.x])++[0])) λ_ _=>False:=by
 have X:=h.dp;have Y:T5 [xm (s.ps++[s.q])]=some (.int ((s.ps.length:Int)+1)):=by show some (D.int (((s.ps++[s.q]).map Ko).length:Int))=_;rw[Zql,Ua,Ue];simp
 have O:=Bi (ws:=ws) (k:=s.ps.length+1) ();have P:=Bi (ws:=ws) (k:=s.ps.length+1+1) ();rw[show((s.ps.length+1:Nat):Int)=(s.ps.length:Int)+1 by lia] at O;rw[show((s.ps.length+1+1:Nat):Int)=(s.ps.length:Int)+1+1 by lia] at P;obtain⟨Q,Z,n3,n4,n5,n6,n7,n8,n9,n10,B⟩:=h.ne;have C:(jm (J3 (qW 5 [0] (Ts T7 (Tn 2) (T3 T5 (Jt (Tn 0) Tp)))) (J3 (jm (J3 (qW 5 [0] (Ts T7 (Tn 2) (Ts T6 (T3 T5 (Jt (Tn 0) Tp)) (dC (.int 1))))) TZ)) (J3 (jm TZ) TZ)))) (qp p l ws e f a.1) hp =
  .new hp λg=>.new ((g,.lst [.str (TU ws ((s.ps.length:Int)+1+1))])::hp) λr=>.new ((r,.lst [])::(g,.lst [.str (TU ws ((s.ps.length:Int)+1+1))])::hp) λb=>.ok (.adr b,(b,.lst [.str (TU ws ((s.ps.length:Int)+1)),.adr g,.adr r])::(r,.lst [])::(g,.lst [.str (TU ws ((s.ps.length:Int)+1+1))])::hp):=by
  simp[qp,X,Y,O,P]
 unfold fG;rw[F8];refine Wr.need_bind.mpr ?_;have e0:qa (vL (Tn 0)) (jm (J3 (qW 5 [0] (Ts T7 (Tn 2) (T3 T5 (Jt (Tn 0) Tp)))) (J3 (jm (J3 (qW 5 [0] (Ts T7 (Tn 2) (Ts T6 (T3 T5 (Jt (Tn 0) Tp)) (dC (.int 1))))) TZ)) (J3 (jm TZ) TZ)))) (qp p l ws e f a.1) hp =
  ((jm (J3 (qW 5 [0] (Ts T7 (Tn 2) (T3 T5 (Jt (Tn 0) Tp)))) (J3 (jm (J3 (qW 5 [0] (Ts T7 (Tn 2) (Ts T6 (T3 T5 (Jt (Tn 0) Tp)) (dC (.int 1))))) TZ)) (J3 (jm TZ) TZ)))) (qp p l ws e f a.1) hp).bind (Wl (qp p l ws e f a.1) p):=by
  show Xm _ (qp p l ws e f a.1) (.adr p,hp)=_;rw[W9 h.hp_]
 rw[e0,C];intro g hg r u b q;rw[JT] at u;have E:r≠g:=λy=>by rw[Zd y] at u;cases u
 rw[Ze E] at u;rw[JT] at q;have F:b≠r:=λy=>by rw[Zd y] at q;cases q
 rw[Ze F,JT] at q;have G:b≠g:=λy=>by rw[Zd y] at q;cases q
 rw[Ze G] at q;obtain⟨m,h3e⟩:∃m:HP,m=(b,.lst [.str (TU ws ((s.ps.length:Int)+1)),.adr g,.adr r])::(r,.lst [])::(g,.lst [.str (TU ws ((s.ps.length:Int)+1+1))])::hp:=⟨_,rfl⟩;have i:∀c,Tq hp c≠none->Tq m c=Tq hp c/\c≠b/\c≠r/\c≠g:=λc hc=>by
  have w:c≠b:=λy=>hc (by rw[y];exact q);have x:c≠r:=λy=>hc (by rw[y];exact u);have R:c≠g:=λy=>hc (by rw[y];exact hg);refine⟨?_,w,x,R⟩;rw[h3e,JT,Ze w,JT,Ze x,JT,Ze R]
 have H:Tq m b=some (.lst [.str (TU ws ((s.ps.length:Int)+1)),.adr g,.adr r]):=by rw[h3e,JT,Zd rfl]
 have I:Tq m r=some (.lst []):=by rw[h3e,JT,Ze F.symm,JT,Zd rfl]
 have J:Tq m g=some (.lst [.str (TU ws ((s.ps.length:Int)+1+1))]):=by rw[h3e,JT,Ze G.symm,JT,Ze E.symm,JT,Zd rfl]
 obtain⟨K,pb,pr,pg⟩:=i p (by rw[h.hp_];simp);obtain⟨S,lb,lr,lg⟩:=i l (by rw[h.hl];simp);rw[h.hp_] at K;rw[h.hl] at S;have la:=h.len;have zn:=z.na;show(Wl (qp p l ws e f a.1) p (.adr b,_)).need _ _;rw[<- h3e,WA K (by rw[Zql,Ua,Ue];exact JV ())];show(qa (vL (Tn 1)) (vL (dC (.int 0))) (qp p l ws e f a.1) _).need _ _;obtain⟨n,h4e⟩:∃n,n=JD m p (.lst ((as++[a]).map (λb=>D.adr b.1)++[.adr b])):=⟨_,rfl⟩;rw[<- h4e];have T:Tq m p≠none:=by rw[K];simp
 have v:∀c,c≠p->Tq n c=Tq m c:=λc hc=>by rw[h4e];exact Qr T hc
 have t:Tq n l=some (.lst ((s.ld++[s.x]).map .int)):=(v l Q.symm).trans S;have L:((s.ld++[s.x]).map D.int).length<sizeLine:=by rw[Zql,Ua,Ue];exact JV (by have:=z.ll;lia)
 have e5:qa (vL (Tn 1)) (vL (dC (.int 0))) (qp p l ws e f a.1) n=.ok (.next (qp p l ws e f a.1) (JD n l (.lst ((s.ld++[s.x]).map D.int++[.int 0])))):=by
  show Xm _ (qp p l ws e f a.1) (.adr l,n)=_;rw[W9 t];show Wl _ _ (.int 0,n)=_;rw[WA t L]
 rw[e5];have M:Tq n l≠none:=by rw[t];simp
 have j:∀c,c≠p->c≠l->Tq (JD n l (.lst ((s.ld++[s.x]).map D.int++[.int 0]))) c=Tq m c:=λc w x=>by rw[Qr M x,v c w]
 refine⟨_,_,as++[a],(b,g,r),rfl,λc hc=>ZG (by rw[h4e];exact ZG (by rw[(i c hc).1];exact hc)),?_⟩;refine⟨?_,?_,(h.all.mono λc hc=>?_).snoc (h.at_.mono λc hc=>?_),⟨?_,?_,?_⟩,?_⟩
 .rw[Qr M Q,h4e,V5 T];simp
 .rw[V5 M];simp
 .obtain⟨k1,k2,_⟩:=B c hc;exact(j c k1 k2).trans (i c (h.all.has c hc)).1
 .have hh:=h.at_.has c hc;have:c=a.1\/c=a.2.1\/c=a.2.2:=by simpa using hc
  refine(j c ?_ ?_).trans (i c hh).1
  .rcases this with rfl|rfl|rfl
   .exact Z.symm
   .exact n3.symm
   .exact n4.symm
  .rcases this with rfl|rfl|rfl
   .exact n5.symm
   .exact n6.symm
   .exact n7.symm
 .exact(j b pb.symm lb.symm).trans H
 .exact(j g pg.symm lg.symm).trans J
 .exact(j r pr.symm lr.symm).trans I
 .have nd:=h.nd;have has:∀c∈p::l::jl (as++[a]),Tq hp c≠none:=λc hc=>by
   rcases UB.mp hc with rfl|hc
   .rw[h.hp_];simp
   .rcases UB.mp hc with rfl|hc
    .rw[h.hl];simp
    .exact(h.all.snoc h.at_).has c hc
  rw[Ba];show((p::l::jl (as++[a]))++[b,g,r]).Nodup;refine Jf.mpr ⟨nd,?_,λc hc d hd y=>?_⟩
  .simp[G,F,E.symm]
  .have N:=i c (has c hc);have:d=b\/d=g\/d=r:=by simpa using hd
   rcases this with rfl|rfl|rfl
   .exact N.2.1 y
   .exact N.2.2.2 y
   .exact N.2.2.1 y
def P3 (h:StB hp p l as a s.ps s.q (s.ld++[s.x]))(z:Bsz s)(hw:s.ps.length+2<ws.length)(d f:Int):(ZR [.adr p,.adr l,.lst (ws.map .str),.int d,.int f] hp).need (λr=>∃g i,StB r.2 p l g i (VY ws s d f).ps (VY ws s d f).q ((VY ws s d f).ld++[(VY ws s d f).x])) λ_ _=>False:=by
 refine XH rfl ?_;show(Wr.bind (XU [~~~(.adr p),~~~(.adr l),~~~(.lst (ws.map .str)),~~~(.int d),~~~(.int f),none,none,none] hp) ju).need _ _;rw[Px h z];unfold VY
 split
 .refine Wr.need_bind.mpr ((P1 h z hw d f).mono (λo m=>?_) λ_ _ y=>y);obtain⟨sd,hp',g,i,rfl,k,h'⟩:=m;exact⟨k,g,i,h'⟩
 .split
  .rw[Py h z ()];exact⟨λb j=>ZG j,as,a,h.given _⟩
  .split
   .rename_i c;obtain⟨sd,e⟩:=Pz (ws:=ws) h z d f c.2.1;rw[e];exact⟨λb j=>ZG j,as,a,h.rows _⟩
   .obtain⟨hp',e,k,h'⟩:=P0 (ws:=ws) h z () d f;rw[e];exact⟨k,as,a,h'⟩
end
def Bj:FS:=(T1 (TK 2 (dC (.str "abcdefghijklmnopqrstuvwxyz0123456789"))) (T1 (TK 3 (jQ (Jt (dC (.str "plan")) (Jt (dC (.str "given")) (Jt (dC (.str "all")) (Jt (dC (.str "first")) (Jt (dC (.str "part")) Tp))))))) (T1 (j9 (vc (Jt (Ts T6 (T3 T5 (Jt (Tn 1) Tp)) (dC (.int 6))) Tp)) (.one 4) (T1 (TK 5 (Ts T7 (Tn 2) (Ts TY (Ts T6 (Tn 0) (Tn 4)) (dC (.int 26))))) (T1 (TK 6 (Ts K6 (Ts T6 (Tn 0) (Tn 4)) (dC (.int 26)))) (T1 (K7 (Jx (Ts yK (Tn 6) (dC (.int 0)))) (T1 (TK 5 (Ts T6 (Tn 5) (Ts T7 (Tn 2) (Ts TY (Tn 6) (dC (.int 36)))))) (TK 6 (Ts K6 (Tn 6) (dC (.int 36))))) 60) (jq (Qv (Jx (Ts (jY true) (Tn 5) (Tn 1))) (Jx (Ts (jY true) (Tn 5) (Tn 3)))) (TN (Tn 5)) JA))))) (TN (dC (.str ""))))))
def XV:Yt->Res D:=jc 7 2 Bj
def wC:FT:=Jx (Ts yK (Tn 6) (dC (.int 0)))
def wB:FS:=T1 (TK 5 (Ts T6 (Tn 5) (Ts T7 (Tn 2) (Ts TY (Tn 6) (dC (.int 36)))))) (TK 6 (Ts K6 (Tn 6) (dC (.int 36))))
theorem Gu {x0 x1 x3 x4:Option SV}:∀(f n:Nat) (a:Yg),n<36 ^ f->a.length+f<=100->K7 wC wB (f+1) [x0,x1,~~~(.str yZ),x3,x4,~~~(.str (z7 a)),~~~(.int n)] =
 .ok (.next [x0,x1,~~~(.str yZ),x3,x4,~~~(.str (z7 (a++jP f n))),~~~(.int 0)])
 |f,n,a,hn,ha=>by
  by_cases z:n=0
  .subst z;have e:jP f 0=[]:=by cases f<;>simp[jP]
   rw[e,ZA];rw[Gk];simp[wC]
  .cases f with
   |zero=>simp at hn;lia
   |succ f =>
    have b:=Ga (k:=(n:Int) % 36) () ();rw[show((n:Int) % 36).toNat=n % 36 by lia] at b;have c:T6 (.str (z7 a)) (.str ⟨#[qk (n % 36)]⟩)=some (.str (z7 (a++[qk (n % 36)]))):=by
     rw[<- Pg];refine Zd (small ?_);rw[FZ];show a.length+1<=1000;lia
    have d:=Gu (x0:=x0) (x1:=x1) (x3:=x3) (x4:=x4) f (n / 36) (a++[qk (n % 36)]) (by rw[Va] at hn;exact UY ()) (by rw[Ua,Ue];lia);have g:jP (f+1) n=qk (n % 36)::jP f (n / 36):=by
     show(if n=0 then _ else _)=_;rw[Ze z]
    rw[g];rw[show a++qk (n % 36)::jP f (n / 36)=a++[qk (n % 36)]++jP f (n / 36) by simp,<- d];rw[Gk];have hp:0<n:=()
    simp[wC,wB,b,c,hp]
def nB:FS:=(T1 (TK 5 (Ts T7 (Tn 2) (Ts TY (Ts T6 (Tn 0) (Tn 4)) (dC (.int 26))))) (T1 (TK 6 (Ts K6 (Ts T6 (Tn 0) (Tn 4)) (dC (.int 26)))) (T1 (K7 wC wB 60) (jq (Qv (Jx (Ts (jY true) (Tn 5) (Tn 1))) (Jx (Ts (jY true) (Tn 5) (Tn 3)))) (TN (Tn 5)) JA))))
def P4 {n k:Nat}{us:Yh}{x5 x6:Option SV}(d:n+k<26*36 ^ 11)(e:∀u∈us,asc u):∃f g,nB [~~~(.int n),~~~(.lst (us.map .str)),~~~(.str yZ),~~~(.lst (xT.map .str)),~~~(.int k),x5,x6] =
 if Ql (n+k)∉us/\Ql (n+k)∉xT then .ok (.ret (.str (Ql (n+k)))) else .ok (.next [~~~(.int n),~~~(.lst (us.map .str)),~~~(.str yZ),~~~(.lst (xT.map .str)),~~~(.int k),f,g]):=by
 have c:=Ga (k:=((n:Int)+k) % 26) () ();rw[show(((n:Int)+k) % 26).toNat=(n+k) % 26 by lia] at c;have hw:=Gu (x0:= ~~~(.int n)) (x1:= ~~~(.lst (us.map .str))) (x3:= ~~~(.lst (xT.map .str))) (x4:= ~~~(.int k)) 59 ((n+k) / 26) [qk ((n+k) % 26)] (Zg (UY d) Gf) ();have h:z7 ([qk ((n+k) % 26)]++jP 59 ((n+k) / 26))=Ql (n+k):=rfl;have i:(⟨#[qk ((n+k) % 26)]⟩:Str)=z7 [qk ((n+k) % 26)]:=rfl;rw[i] at c;rw[h,show(((n+k) / 26:Nat):Int)=((n:Int)+k) / 26 by lia] at hw;have j:=Gj (neg:=true) (CM (n+k)) e;have l:=Gj (neg:=true) (CM (n+k)) Pf;refine⟨~~~(.str (Ql (n+k))),~~~(.int 0),?_⟩;unfold nB;simp[c,hw,j,l];by_cases a:Ql (n+k)∈us
 .simp[a]
 .by_cases b:Ql (n+k)∈xT
  .simp[a,b]
  .simp[a,b]
theorem Gv {n:Nat}{us:Yh}(a:∀u∈us,asc u):∀(ks:Yg) (x4 x5 x6:Option SV),(∀k∈ks,n+k<26*36 ^ 11)->(∃k∈ks,Ql (n+k)∉us/\Ql (n+k)∉xT) ->
 ∃k∈ks,(Ql (n+k)∉us/\Ql (n+k)∉xT)/\j4 (.one 4) nB (ks.map λk:Nat=>D.int k) [~~~(.int n),~~~(.lst (us.map .str)),~~~(.str yZ),~~~(.lst (xT.map .str)),x4,x5,x6]=.ok (.ret (.str (Ql (n+k))))
 | [],_,_,_,_,h=>by obtain⟨k,d,_⟩:=h;cases d
 |k::ks,x4,x5,x6,hb,h=>by
  obtain⟨f,g,e⟩:=P4 (x5:=x5) (x6:=x6) (hb k Zqs) a;by_cases c:Ql (n+k)∉us/\Ql (n+k)∉xT
  .refine⟨k,Zqs,c,?_⟩;rw[Zd c] at e;rw[Zl,Xq];simp[e]
  .rw[Ze c] at e;obtain⟨j,hj,i,l⟩:=Gv a ks (~~~(.int k)) f g (λz m=>hb z (Zqm _ m)) (by
    obtain⟨j,hj,b⟩:=h;rcases UB.mp hj with rfl|hj
    .exact Zn b c
    .exact⟨j,hj,b⟩)
   refine⟨j,Zqm _ hj,i,?_⟩;rw[<- l,Zl,Xq];simp[e]
def kR {n:Nat}{us:Yh}(c:n+us.length+6<26*36 ^ 11)(o:us.length<=100)(d:∀u∈us,asc u):∃w,XV [.int n,.lst (us.map .str)]=.ok (.str w)/\zg w/\w∉us:=by
 obtain⟨k0,f,g⟩:=Pe c;obtain⟨k,a,⟨h,i⟩,e⟩:=Gv d (List.range (us.length+6)) none none none (λk a=>by rw[List.mem_range] at a;lia) ⟨k0,Jk.mpr f,g⟩;rw[List.mem_range] at a;refine⟨Ql (n+k),?_,⟨n+k,(),rfl,i⟩,h⟩;have j:XC [.int ((us.length:Int)+6)]=.ok ((List.range (us.length+6)).map λk:Nat=>D.int k):=by
  rw[A8 () ()];show Res.ok ((List.range ((us.length:Int)+6).toNat).map λk:Nat=>D.int (0+k))=_;rw[show((us.length:Int)+6).toNat=us.length+6 by lia];simp
 show XV [.int n,.lst (us.map .str)]=_;unfold XV Bj;rw[MK];have l:D.lst [D.str "plan",D.str "given",D.str "all",D.str "first",D.str "part"]=.lst (xT.map .str):=rfl;have m:D.str "abcdefghijklmnopqrstuvwxyz0123456789" = .str yZ:=rfl;have b:=e;unfold nB wC wB at b;simp[j,l,m,b]
def Bk:FS:=(T1 (TK 2 (Ts TY (J0 Q9 (Jt (Tn 0) (Jt (dC (.int 0)) Tp))) (Ts j7 (dC (.int 26)) (Ts xn (dC (.int 36)) (dC (.int 10)))))) (T1 (TK 3 (Ts T7 (jQ (Jt (dC (.int 1)) (Jt (dC (.int 26)) (Jt (dC (.int 936)) (Jt (dC (.int 33696)) (Jt (dC (.int 1213056)) Tp)))))) (Ts TY (J0 Q9 (Jt (Tn 0) (Jt (dC (.int 1)) Tp))) (dC (.int 5))))) (T1 (xg 4 (jQ Tp)) (T1 (j9 (vc (Jt (Tn 1) Tp)) (.one 5) (VI 4 (yN [4] (J0 XV (Jt (Ts T6 (Tn 2) (Ts j7 (Tn 5) (Tn 3))) (Jt (Tn 4) Tp)))))) (Xa 4)))))
def Xu:Yt->Res D:=qo 6 2 Bk
def De (a:Yf)(k:Nat):Q9 [.lst (a.map .int),.int k]=.ok (.int (Qu a k)):=by
 unfold Qu;rw[Ul];have c:(a.map D.int).length=a.length:=by rw[Zql]
 by_cases h:k<a.length
 .have e:T7 (.lst (a.map .int)) (.int (k:Int))=some (.int a[k]):=by
   show j0 (a.map D.int) (k:Int)=_;rw[Wn (by rw[Zql];exact h),Zv,Zqg h];rfl
  have b:a.getD k 0=a[k]:=by rw[Uj,Zqg h];rfl
  rw[b];generalize a.map D.int=l at *;have h':k<l.length:=()
  simp[Q9,Xt] at e ⊢;simp[e,h']
 .have b:a.getD k 0=0:=by rw[Uj,Vm ()];rfl
  rw[b];generalize a.map D.int=l at *;have h':¬k<l.length:=()
  simp[Q9,Xt,h']
def kQ {d:Yf}{many:Nat}(F:many<=40):∃ws:Yh,Xu [.lst (d.map .int),.int many]=.ok (.lst (ws.map .str))/\ws.length=many/\ws.Nodup/\∀w∈ws,zg w:=by
 have m:Q9 [.lst (d.map .int),.int 0]=.ok (.int (Qu d 0)):=De d 0;have o:Q9 [.lst (d.map .int),.int 1]=.ok (.int (Qu d 1)):=De d 1;have p:xn (.int 36) (.int 10)=some (.int 3656158440062976):=rfl;have r:j7 (.int 26) (.int 3656158440062976)=some (.int 95060119441637376):=W0 (YQ () ());have G:(95060119441637376:Nat)*36=26*36 ^ 11:=by decide +kernel
 obtain⟨b,hb,b0,b1⟩:∃b:Nat,Qu d 0 % 95060119441637376=(b:Int)/\0<=b/\b<95060119441637376:=⟨(Qu d 0 % 95060119441637376).toNat,(),(),()⟩;obtain⟨q,hq,q0,q5⟩:∃q:Int,Qu d 1 % 5=q/\0<=q/\q<5:=⟨_,rfl,(),()⟩;obtain⟨st,hst,hs⟩:∃st:Nat,j0 [D.int 1,D.int 26,D.int 936,D.int 33696,D.int 1213056] q=some (.int st)/\st<=1213056:=by
  have:q=0\/q=1\/q=2\/q=3\/q=4:=()
  rcases this with rfl|rfl|rfl|rfl|rfl
  .exact⟨1,rfl,()⟩
  .exact⟨26,rfl,()⟩
  .exact⟨936,rfl,()⟩
  .exact⟨33696,rfl,()⟩
  .exact⟨1213056,rfl,()⟩
 have s:XC [.int many]=.ok (QD 0 many):=by rw[A8 () (),Ul]
 obtain⟨sd,e,ws,g,h,f,j,hw⟩:=Kl (tg:=.one 5) (b:=VI 4 (yN [4] (J0 XV (Jt (Ts T6 (Tn 2) (Ts j7 (Tn 5) (Tn 3))) (Jt (Tn 4) Tp))))) (ds:=QD 0 many) (sd:=[~~~(.lst (d.map .int)),~~~(.int many),~~~(.int b),~~~(.int st),some (.own false (.lst [])),none])
  (P:=λi sd=>∃(ws:Yh) (g:Option SV),sd=[~~~(.lst (d.map .int)),~~~(.int many),~~~(.int b),~~~(.int st),some (.own false (.lst (ws.map .str))),g]/\ws.length=i/\ws.Nodup/\∀w∈ws,zg w) ⟨[],none,rfl,rfl,.nil,λw hw=>by cases hw⟩ (by
   rintro i x sd hx ⟨ws,g,rfl,f,j,hw⟩;obtain⟨rfl,H⟩:=MN hx;have t:i*st<=40*1213056:=Nat.mul_le_mul () hs;obtain⟨w,e,v,y⟩:=kR (n:=b+i*st) (us:=ws) () () λu A=>(hw u A).ok.asc;have l:j7 (.int (i:Int)) (.int st)=some (.int ((i*st:Nat):Int)):=by
    rw[W0 (YQ () ())];simp
   have B:ws.length<sizeLine:=JV ();refine⟨[~~~(.lst (d.map .int)),~~~(.int many),~~~(.int b),~~~(.int st),some (.own false (.lst ((ws++[w]).map .str))),~~~(.int (0+(i:Int)))],?_,ws++[w],_,rfl,by simp[f],?_,λx hx=>?_⟩
   .rw[show((b+i*st:Nat):Int)=(b:Int)+((i*st:Nat):Int) by lia] at e;simp only[Int.natCast_mul] at e l;simp[l,e,B]
   .exact Jf.mpr ⟨j,List.pairwise_singleton _ _,λa C c E z=>y (by rw[Jc.mp E] at z;rw[<- z];exact C)⟩
   .rcases Jb.mp hx with z|z
    .exact hw x z
    .rw[Jc.mp z];exact v)
 rw[A9] at f;subst h;refine⟨ws,?_,f,j,hw⟩;simp[Xu,Bk,m,o,p,r,hb,hq,hst,s,e]
def ZS:j6:=(TV (zL (TK 1 (J0 Xu (Jt (Tn 0) (Jt (dC (.int 34)) Tp))))) (TV (qd 2 (jm (J3 (jm (J3 (vL (Ts T7 (Tn 1) (dC (.int 0)))) (J3 (jm (J3 (vL (Ts T7 (Tn 1) (dC (.int 1)))) TZ)) (J3 (jm TZ) TZ)))) TZ))) (TV (qd 3 (jm (J3 (vL (dC (.int 0))) TZ))) (TV (xH (uW (Jt (dC (.int 2)) (Jt (T3 Xf (Jt (T3 T5 (Jt (Tn 0) Tp)) (Jt (dC (.int 62)) Tp))) (Jt (dC (.int 2)) Tp)))) (.one 4) (AL (Wj ZR (J3 (vL (Tn 2)) (J3 (vL (Tn 3)) (J3 (vL (Tn 1)) (J3 (vL (Ts T7 (Tn 0) (Tn 4))) (J3 (vL (J0 Q9 (Jt (Tn 0) (Jt (Ts T6 (Tn 4) (dC (.int 1))) Tp)))) TZ)))))))) (TV (Kg (qP 5 [2] (Jx (Ts qi (Ts T7 (Ts T7 (Tn 2) (jb jI (dC (.int 1)))) (dC (.int 2))) (jQ Tp)))) (qa (ye (ye (vL (Tn 2)) (vL (jb jI (dC (.int 1))))) (vL (dC (.int 2)))) (Wj XT (J3 (vL (Tn 2)) (J3 (vL (Tn 3)) (J3 (vL (Tn 1)) (J3 (vL (dC (.int 0))) (J3 (vL (dC (.int 0))) TZ))))))) KS) (qz (vL (Tn 2))))))))
structure RwW (ps:List Pl)(ahead:Int)(n:Nat)(r:Str×Str×Jr):Prop where
 how:(K0 r.2.1=true/\r.2.2.length<=n+1)\/(K0 r.2.1=false/\∃p∈ps,r.2.1=p.name/\r.2.2.length=p.givens.length)
 low:1<=r.2.2.length
 its:ItOk ahead r.2.2
structure PlW (ws:Yh)(i:Nat)(ps:List Pl)(n:Nat)(q:Pl):Prop where
 nm:q.name=TU ws (i:Int)
 th:∀(k:Nat) (x:Str),(q.givens++q.rows.map (·.1))[k]? = some x->x=TU ws ((i:Int)+1+(k:Int))
 g1:1<=q.givens.length
 g12:q.givens.length<=12
 sz:i+q.givens.length+q.rows.length<=n+1
 rw_:∀(k:Nat) (r:Str×Str×Jr),q.rows[k]? = some r->RwW ps ((q.givens.length:Int)+(k:Int)) n r
structure BW (ws:Yh)(n:Nat)(s:Bst):Prop where
 all:∀(i:Nat) (q:Pl),s.ps[i]? = some q->PlW ws i (s.ps.take i) n q/\q.rows ≠ []
 last:PlW ws s.ps.length s.ps n s.q
 ll:s.ld.length=s.ps.length
def RwW.mono {ps e:List Pl}{d:Int}{n f:Nat}{r:Str×Str×Jr}(h:RwW ps d n r)(g:n<=f)(hp:∀p∈ps,p∈e):RwW e d f r:=
 ⟨h.how.imp (λ⟨a,b⟩=>⟨a,()⟩) λ⟨a,p,b,c⟩=>⟨a,p,hp p b,c⟩,h.low,h.its⟩
theorem PlW.mono {ws:Yh}{i:Nat}{ps:List Pl}{n a:Nat}{q:Pl}(h:PlW ws i ps n q)(b:n<=a):PlW ws i ps a q:=
 ⟨h.nm,h.th,h.g1,h.g12,by have:=h.sz;lia,λk r c=>(h.rw_ k r c).mono b λ_ y=>y⟩
structure WsOk (ws:Yh):Prop where
 len:ws.length=34
 nd:ws.Nodup
 ok:∀w∈ws,zg w
def WsOk.at_ {ws:Yh}(W:WsOk ws)(k:Int):TU ws k∈ws:=by
 have a:0<=k % (ws.length:Int):=Uw _ (by have:=W.len;lia);have b:k % (ws.length:Int)<(ws.length:Int):=UC _ (by have:=W.len;lia);unfold TU;rw[Uj,Zqg ()];exact UL _
def zg.noHow {x:Str}(h:zg x):K0 x=false:=by
 obtain⟨m,_,_,a⟩:=h;unfold K0;rw[Bool.or_eq_false_iff];refine⟨Zo λz=>a ?_,Zo λz=>a ?_⟩<;>rw[z]<;>simp[xT]
def P5 {h:Str}(e:K0 h=true):TxtOk 12 h:=by
 unfold K0 at e;rw[Ut,decide_eq_true_eq,decide_eq_true_eq] at e;rcases e with rfl|rfl
 .exact Qj (by decide +kernel)
 .exact Qj (by decide +kernel)
section
variable {ws:Yh}{n:Nat}{s:Bst}
def BW.names (B:BW ws n s)(W:WsOk ws):∀p∈s.ps++[s.q],p.name∈ws/\1<=p.givens.length/\p.givens.length<=12:=λp hp=>by
 rcases Jb.mp hp with z|z
 .obtain⟨i,a⟩:=Ux z;have:=(B.all i p a).1;exact⟨by rw[this.nm];exact W.at_ _,this.g1,this.g12⟩
 .rw[Jc.mp z];exact⟨by rw[B.last.nm];exact W.at_ _,B.last.g1,B.last.g12⟩
def PlW.rowTxt {i:Nat}{ps:List Pl}{q:Pl}(P:PlW ws i ps n q)(W:WsOk ws)(hp:∀p∈ps,p.name∈ws/\1<=p.givens.length/\p.givens.length<=12):∀z∈q.rows,zg z.1/\TxtOk 12 z.2.1/\1<=z.2.2.length/\z.2.2.length<=n+13:=λz f=>by
 obtain⟨k,d⟩:=Ux f;have R:=P.rw_ k z d;have e:(q.givens++q.rows.map (·.1))[q.givens.length+k]? = some z.1:=by
  rw[Uv (),Nat.add_sub_cancel_left,Zv,d];rfl
 have:=P.th _ _ e;refine⟨by rw[this];exact W.ok _ (W.at_ _),?_,R.low,?_⟩
 .rcases R.how with ⟨a,_⟩|⟨_,p,b,c,_⟩
  .exact P5 a
  .rw[c];exact(W.ok _ (hp p b).1).ok
 .rcases R.how with ⟨_,a⟩|⟨_,p,b,_,c⟩
  .omega
  .have:=(hp p b).2.2;lia
theorem BW.sz (B:BW ws n s)(W:WsOk ws)(h:n<=31):Bsz s:=by
 have L:=B.last.sz;have e:=B.last.g1;refine⟨B.ll,e,λr f=>(B.names W r f).2.2,(),λz g=>?_,()⟩;obtain⟨a,b,c,d⟩:=B.last.rowTxt W (λp hp=>B.names W p (by simp[hp])) z g;exact⟨a.ok.asc,b.asc,c,()⟩
def Df {c a:Int}(h:0<a):0<=(QY c a).1/\(QY c a).1<a:=⟨Uw _ (),UC _ h⟩
def P6 {ps:List Pl}{k:Int}(a:0<=k)(b:k<(ps.length:Int)):jr ps k∈ps:=by
 unfold jr;rw[Uj,Zqg ()];exact UL _
def P7 (B:BW ws n s)(W:WsOk ws)(a b:Int):(jp ws s.ps s.q s.ld s.x a b).1.1=TU ws ((s.ps.length:Int)+1+JF s.q)/\RwW s.ps (JF s.q) n (jp ws s.ps s.q s.ld s.x a b).1:=by
 have d:0<JF s.q:=by unfold JF;have:=B.last.g1;lia
 unfold jp
 split
 .rename_i c;have hp:0<(s.ps.length:Int):=by have:=Ji.mpr c.2.1;lia
  have f:0<=a / 4 % (s.ps.length:Int):=Uw _ ();have g:a / 4 % (s.ps.length:Int)<(s.ps.length:Int):=UC _ hp;have e:=P6 f g;obtain⟨i,l,m⟩:=B.names W _ (Ur _ e);refine⟨rfl,.inr ⟨(W.ok _ i).noHow,_,e,rfl,()⟩,by simpa using l,λp h=>?_,λp h=>?_⟩
  .obtain⟨j,_,rfl⟩:=Ja.mp h;exact Df d
  .obtain⟨j,_,rfl⟩:=Ja.mp h;exact Db _
 .refine⟨rfl,.inl ⟨?_,()⟩,(),λp h=>?_,λp h=>?_⟩
  .show K0 (xI a)=true;unfold xI K0
   split<;>simp
  .rw[Jc.mp h];exact Df d
  .rw[Jc.mp h];exact Db _
def Gw (B:BW ws n s)(W:WsOk ws)(a b x:Int):BW ws (n+1) ⟨s.ps,⟨s.q.name,s.q.givens,s.q.rows++[(jp ws s.ps s.q s.ld s.x a b).1]⟩,s.ld,x⟩:=by
 obtain⟨g,h⟩:=P7 B W a b;have L:=B.last;refine⟨λi q f=>⟨(B.all i q f).1.mono (),(B.all i q f).2⟩,⟨L.nm,λk x hx=>?_,L.g1,L.g12,by have:=L.sz;simp;lia,λk r c=>?_⟩,B.ll⟩
 .rw[Uc,List.map_singleton,<- Uo] at hx;rcases Vd k (s.q.givens++s.q.rows.map (·.1)).length with z|z
  .rw[Up z] at hx;exact L.th k x hx
  .rw[Uv z,Ua,Zql] at hx;rw[Ua,Zql] at z;have d:k-(s.q.givens.length+s.q.rows.length)=0:=by
    have:=(Jd.mp hx).1;simp at this;lia
   rw[d] at hx;have hx:(jp ws s.ps s.q s.ld s.x a b).1.1=x:=Zqi hx;rw[<- hx,g];show TU ws ((s.ps.length:Int)+1+JF s.q)=TU ws ((s.ps.length:Int)+1+(k:Int));unfold JF
   congr 1
   lia
 .rcases Vd k s.q.rows.length with z|z
  .rw[Up z] at c;exact(L.rw_ k r c).mono () λ_ y=>y
  .rw[Uv z] at c;have d:k-s.q.rows.length=0:=by
    have:=(Jd.mp c).1;simp at this;lia
   rw[d] at c;have c:(jp ws s.ps s.q s.ld s.x a b).1=r:=Zqi c;rw[<- c];have e:(s.q.givens.length:Int)+(k:Int)=JF s.q:=by unfold JF;lia
   rw[e];exact h.mono () λ_ y=>y
def P8 (B:BW ws n s)(W:WsOk ws)(e b:Int):BW ws (n+1) (VY ws s e b):=by
 have L:=B.last;have up:∀i q,s.ps[i]? = some q->PlW ws i (s.ps.take i) (n+1) q/\q.rows ≠ []:=λi q d=>⟨(B.all i q d).1.mono (),(B.all i q d).2⟩;unfold VY
 split
 .rename_i c;refine⟨λi q d=>?_,⟨(),λk x hx=>?_,(),(),by have:=L.sz;have:=L.g1;simp;lia,λk r a=>by simp at a⟩,by simp[B.ll]⟩
  .have d:(s.ps++[s.q])[i]? = some q:=d;rcases Vd i s.ps.length with z|z
   .rw[Up z] at d;obtain⟨j,u2⟩:=up i q d;rw[show(s.ps++[s.q]).take i=s.ps.take i by rw[Vp ()]];exact⟨j,u2⟩
   .have g:=(Jd.mp d).1;simp at g;have l:i=s.ps.length:=()
    subst l;rw[Uv (Zf _),Nat.sub_self] at d;have d:s.q=q:=Zqi d;subst d;rw[show(s.ps++[s.q]).take s.ps.length=s.ps by simp];exact⟨L.mono (),c.2⟩
  .have h:k=0:=by
    have:=(Jd.mp hx).1;simp at this;lia
   subst h;have hx:TU ws ((s.ps.length:Int)+1+1)=x:=Zqi hx;rw[<- hx];simp
 .split
  .rename_i c;refine⟨up,⟨L.nm,λk x hx=>?_,(),by simp;lia,by have:=L.sz;simp;lia,λk r a=>?_⟩,B.ll⟩
   .have hx:(s.q.givens++[TU ws ((s.ps.length:Int)+1+(s.q.givens.length:Int))]++s.q.rows.map (·.1))[k]? = some x:=hx;rw[c.2.1,List.map_nil,ZA] at hx;rcases Vd k s.q.givens.length with z|z
    .rw[Up z] at hx;refine L.th k x ?_;rw[Up z];exact hx
    .rw[Uv z] at hx;have h:k-s.q.givens.length=0:=by
      have:=(Jd.mp hx).1;simp at this;lia
     rw[h] at hx;have hx:TU ws ((s.ps.length:Int)+1+(s.q.givens.length:Int))=x:=Zqi hx;rw[<- hx];show _=TU ws ((s.ps.length:Int)+1+(k:Int))
     congr 1
     lia
   .have a:s.q.rows[k]? = some r:=a;rw[c.2.1] at a;simp at a
  .split
   .rename_i c;have g:=Bg c.2.1;have t:=Ji.mpr c.2.1;have ld:s.q.rows.dropLast.length=s.q.rows.length-1:=List.length_dropLast;have f:s.q.rows[s.q.rows.length-1]? = some (JH s.q.rows):=by
     conv=>lhs;rw[g]
     rw[Uv (by rw[List.length_dropLast];simp)];simp
    refine⟨up,⟨L.nm,λk x hx=>?_,L.g1,L.g12,by have:=L.sz;simp;lia,λk r a=>?_⟩,B.ll⟩
    .refine L.th k x ?_;rw[<- hx]
     congr 1
     show s.q.givens++s.q.rows.map (·.1)=s.q.givens++_
     congr 1
     conv=>lhs;rw[g]
     simp
    .have a:(s.q.rows.dropLast++[((JH s.q.rows).1,(JH s.q.rows).2.1,(JH s.q.rows).2.2++[QY b (JF s.q-1)])])[k]? = some r:=a;rcases Vd k s.q.rows.dropLast.length with z|z
     .rw[Up z] at a;refine(L.rw_ k r ?_).mono () λ_ y=>y
      conv=>lhs;rw[g]
      rw[Up z];exact a
     .rw[Uv z] at a;have h:k-s.q.rows.dropLast.length=0:=by
       have:=(Jd.mp a).1;simp at this;lia
      rw[h] at a;have a:((JH s.q.rows).1,(JH s.q.rows).2.1,(JH s.q.rows).2.2++[QY b (JF s.q-1)])=r:=Zqi a;have R:=L.rw_ _ _ f;have m:((s.q.rows.length-1:Nat):Int)=(k:Int):=()
      rw[m] at R;rw[<- a];have o:JF s.q-1=(s.q.givens.length:Int)+(k:Int):=by unfold JF;lia
      refine⟨.inl ⟨c.2.2,?_⟩,(),λp hp=>?_,λp hp=>?_⟩
      .rcases R.how with ⟨_,y⟩|⟨y,_⟩
       .simp;lia
       .rw[c.2.2] at y;cases y
      .rcases Jb.mp hp with y|y
       .exact R.its.rng p y
       .rw[Jc.mp y,o];exact Df (by have:=L.g1;lia)
      .rcases Jb.mp hp with y|y
       .exact R.its.far p y
       .rw[Jc.mp y];exact Db _
   .exact Gw B W (e / 8) b _
end
def Gx (a:Yf):∃ws:Yh,Xu [.lst (a.map .int),.int 34]=.ok (.lst (ws.map .str))/\ws.length=34/\ws.Nodup/\∀w∈ws,zg w:=kQ (many:=34) ()
def xc (a:Yf):Yh:=Classical.choose (Gx a)
def Wp (a:Yf):Xu [.lst (a.map .int),.int 34]=.ok (.lst ((xc a).map .str))/\WsOk (xc a):=by
 obtain⟨b,c,d,e⟩:=UG (Gx a);exact⟨b,c,d,e⟩
def jR (a:Yf):Bst:=⟨[],⟨TU (xc a) 0,[TU (xc a) 1],[]⟩,[],0⟩
def Qa (a:Yf):Nat->Bst
 | 0=>jR a
 |j+1=>VY (xc a) (Qa a j) (Qu a ((2+j*2:Nat):Int)) (Qu a ((2+j*2+1:Nat):Int))
def JN (a:Yf):Nat:=((min (a.length:Int) 62-2+1) / 2).toNat
def zQ (a:Yf)(s:Bst):Bst:=if s.q.rows=[] then⟨s.ps,⟨s.q.name,s.q.givens,s.q.rows++[(jp (xc a) s.ps s.q s.ld s.x 0 0).1]⟩,s.ld,(jp (xc a) s.ps s.q s.ld s.x 0 0).2⟩ else s
def KA (a:Yf):Bst:=zQ a (Qa a (JN a))
def QZ (a:Yf):List Pl:=(KA a).ps++[(KA a).q]
def P9 (a:Yf):BW (xc a) 0 (jR a):=by
 refine⟨λi q b=>by simp[jR] at b,⟨rfl,λk x hx=>?_,by simp[jR],by simp[jR],by simp[jR],λk r c=>by simp[jR] at c⟩,rfl⟩;have d:k=0:=by
  have:=(Jd.mp hx).1;simp[jR] at this;lia
 subst d;exact(Zqi hx).symm
theorem XX (a:Yf):∀j,BW (xc a) j (Qa a j)
 | 0=>P9 a
 |j+1=>P8 (XX a j) (Wp a).2 _ _
def Bl (a:Yf):JN a<=30:=by
 unfold JN;lia
def Gy (a:Yf):BW (xc a) 31 (KA a)/\(KA a).q.rows ≠ []:=by
 have h:=XX a (JN a);have d:=Bl a;unfold KA zQ
 split
 .have:=Gw h (Wp a).2 0 0 (jp (xc a) (Qa a (JN a)).ps (Qa a (JN a)).q (Qa a (JN a)).ld (Qa a (JN a)).x 0 0).2;refine⟨⟨λi q b=>⟨(this.all i q b).1.mono (),(this.all i q b).2⟩,this.last.mono (),this.ll⟩,()⟩
 .rename_i c;exact⟨⟨λi q b=>⟨(h.all i q b).1.mono (),(h.all i q b).2⟩,h.last.mono (),h.ll⟩,c⟩
open Classical in
def WK:Yt->Res D:=λds=>if h:∃a:Yf,ds=[.lst (a.map .int)] then .ok (xm (QZ (choose h))) else .no
theorem Gz:∀{a b:Yf},a.map D.int=b.map D.int->a=b
 | [],[],_=>rfl
 | [],_::_,h=>by cases h
 |_::_,[],h=>by cases h
 |x::a,y::b,h=>by
  rw[Zl,Zl] at h;injection h with h1 h2
  injection h1 with h1
  rw[h1,Gz h2]
def kM (a:Yf):WK [.lst (a.map .int)]=.ok (xm (QZ a)):=by
 unfold WK;have e:∃b:Yf,[D.lst (a.map .int)]=[.lst (b.map .int)]:=⟨a,rfl⟩;rw[dif_pos e];have:=UG e;injection this with this _
 injection this with this
 rw[<- Gz this]
def vn:∀ds,∀c fs,WK ds ≠ .ex c fs:=λds c fs h=>by
 unfold WK at h
 split at h<;>cases h
def Bm:j6:=(AL (Wj ZR (J3 (vL (Tn 2)) (J3 (vL (Tn 3)) (J3 (vL (Tn 1)) (J3 (vL (Ts T7 (Tn 0) (Tn 4))) (J3 (vL (J0 Q9 (Jt (Tn 0) (Jt (Ts T6 (Tn 4) (dC (.int 1))) Tp)))) TZ)))))))
def w5:j6:=(xH (uW (Jt (dC (.int 2)) (Jt (T3 Xf (Jt (T3 T5 (Jt (Tn 0) Tp)) (Jt (dC (.int 62)) Tp))) (Jt (dC (.int 2)) Tp)))) (.one 4) Bm)
def wZ:j6:=(Kg (qP 5 [2] (Jx (Ts qi (Ts T7 (Ts T7 (Tn 2) (jb jI (dC (.int 1)))) (dC (.int 2))) (jQ Tp)))) (qa (ye (ye (vL (Tn 2)) (vL (jb jI (dC (.int 1))))) (vL (dC (.int 2)))) (Wj XT (J3 (vL (Tn 2)) (J3 (vL (Tn 3)) (J3 (vL (Tn 1)) (J3 (vL (dC (.int 0))) (J3 (vL (dC (.int 0))) TZ))))))) KS)
def ut:ZS=(TV (zL (TK 1 (J0 Xu (Jt (Tn 0) (Jt (dC (.int 34)) Tp))))) (TV (qd 2 (jm (J3 (jm (J3 (vL (Ts T7 (Tn 1) (dC (.int 0)))) (J3 (jm (J3 (vL (Ts T7 (Tn 1) (dC (.int 1)))) TZ)) (J3 (jm TZ) TZ)))) TZ))) (TV (qd 3 (jm (J3 (vL (dC (.int 0))) TZ))) (TV w5 (TV wZ (qz (vL (Tn 2)))))))):=rfl
abbrev yf (ns:Yf)(p l:Addr)(y:Option SV):SD:=[~~~(.lst (ns.map .int)),~~~(.lst ((xc ns).map .str)),~~~(.adr p),~~~(.adr l),y]
def PD {c:Yf}{hp:HP}{p l:Addr}{a:Addr×Addr×Addr}(w:StB hp p l [] a (jR c).ps (jR c).q ((jR c).ld++[(jR c).x])):(w5 (yf c p l none) hp).need (λo=>∃y hp' f g,o=.next (yf c p l y) hp'/\StB hp' p l f g (Qa c (JN c)).ps (Qa c (JN c)).q ((Qa c (JN c)).ld++[(Qa c (JN c)).x])) λ_ _=>False:=by
 obtain⟨hw,W⟩:=Wp c;have J:=Bl c;have n:uW (Jt (dC (.int 2)) (Jt (T3 Xf (Jt (T3 T5 (Jt (Tn 0) Tp)) (Jt (dC (.int 62)) Tp))) (Jt (dC (.int 2)) Tp))) (yf c p l none)=.ok (V4 2 2 (JN c)):=by
  have A:Xf [.int (c.length:Int),.int 62]=some (.int (min (c.length:Int) 62)):=by
   rw[MM]
   congr 2
   split<;>lia
  have q:T5 [.lst (c.map .int)]=some (.int (c.length:Int)):=by rw[Co,Zql]
  have C:KQ (min (c.length:Int) 62)=true:=Cj () ();have s:KQ 2=true:=Cj () ();unfold uW;simp[yf,A,q,C,s,JN]
 unfold w5 xH;rw[n];have t:=Gq (tg:=.one 4) (b:=Bm) (Q:=λ_ _=>False) (λj sd hp=>j<=JN c->∃y f g,sd=yf c p l y/\StB hp p l f g (Qa c j).ps (Qa c j).q ((Qa c j).ld++[(Qa c j).x])) (ds:=V4 2 2 (JN c)) (sd:=yf c p l none) (hp:=hp) 0 (λ_=>⟨none,[],a,rfl,w⟩) λi x sd hp hx m=>by
  have v:i<JN c:=by
   have:=(Jd.mp hx).1;unfold V4 at this;simpa using this
  have E:x=.int ((2+i*2:Nat):Int):=by
   unfold V4 at hx;rw[Zv,U7 v] at hx;have:=(Zqi hx).symm;rw[this];simp
  subst E;rw[U6] at m ⊢;obtain⟨y,f,g,rfl,h⟩:=m ();have B:=XX c i;have d:2+i*2<c.length:=by unfold JN at v;lia
  have x1:T7 (.lst (c.map .int)) (.int ((2+i*2:Nat):Int))=some (.int (Qu c ((2+i*2:Nat):Int))):=by
   show j0 (c.map D.int) ((2+i*2:Nat):Int)=_;rw[Wn (by rw[Zql];exact d)];unfold Qu;rw[Ul,Uj,Zv,Zqg d];rfl
  have x2:=De c (2+i*2+1);have L:=B.last.sz;have K:=B.last.g1;have F:=P3 (ws:=xc c) h (B.sz W ()) (by rw[W.len];lia) (Qu c ((2+i*2:Nat):Int)) (Qu c ((2+i*2+1:Nat):Int));have e:QH (.one 4) Bm (.int ((2+i*2:Nat):Int)) (yf c p l y) hp=(ZR [.adr p,.adr l,.lst ((xc c).map .str),.int (Qu c ((2+i*2:Nat):Int)),.int (Qu c ((2+i*2+1:Nat):Int))] hp).bind λr=>.ok (.next (yf c p l (~~~(.int ((2+i*2:Nat):Int)))) r.2):=by
   rw[show((2+i*2+1:Nat):Int)=((2+i*2:Nat):Int)+1 by lia] at x2 ⊢;generalize ((2+i*2:Nat):Int)=k at x1 x2 ⊢;unfold QH Bm;simp[yf,x1,x2]
  rw[e];refine Wr.need_bind.mpr (F.mono (λr n=>?_) λ_ _ z=>z);obtain⟨u,G,H⟩:=n;exact⟨_,_,rfl,λ_=>⟨_,u,G,rfl,H⟩⟩
 refine t.mono (λo I=>?_) λ_ _ z=>z;obtain⟨sd,hp',rfl,m⟩:=I;have q:(V4 2 2 (JN c)).length=JN c:=by unfold V4;simp
 rw[q,U6] at m;obtain⟨y,f,g,rfl,h⟩:=m (Zf _);exact⟨y,hp',f,g,rfl,h⟩
def PF {d:Yf}{hp:HP}{p l:Addr}{g:List (Addr×Addr×Addr)}{a:Addr×Addr×Addr}{y:Option SV}(h:StB hp p l g a (Qa d (JN d)).ps (Qa d (JN d)).q ((Qa d (JN d)).ld++[(Qa d (JN d)).x])):∃hp',wZ (yf d p l y) hp=.ok (.next (yf d p l y) hp')/\StB hp' p l g a (KA d).ps (KA d).q ((KA d).ld++[(KA d).x]):=by
 obtain⟨hw,W⟩:=Wp d;have B:=XX d (JN d);have v:=Bl d;have z:=B.sz W ();have j:=h.dp;have n:=Gs λy m=>⟨(z.ta y m).1,(z.ta y m).2.1⟩;have f:=CH n;have x1:T7 (xm ((Qa d (JN d)).ps++[(Qa d (JN d)).q])) (.int (-1))=some (Ko (Qa d (JN d)).q):=by
  show j0 (((Qa d (JN d)).ps++[(Qa d (JN d)).q]).map Ko) (-1)=_;rw[Uc,List.map_singleton,VW]
 have o:xf (.adr p) (.int (-1),hp)=.ok (.adr a.1,hp):=by
  rw[XG (q:=(D.int (-1),hp)) h.hp_];show(Wr.of (.ofO (j0 ((g++[a]).map λb=>D.adr b.1) (-1)))).bind _=_;rw[Uc,List.map_singleton,VW];rfl
 have s:=(Bh h).2;unfold KA zQ;by_cases c:(Qa d (JN d)).q.rows=[]
 .rw[Zd c];have w:=z.g1;have x:=z.ga (Qa d (JN d)).q ();have A:=z.ra;obtain⟨hp',e,k,h'⟩:=Gr h z.ll (ws:=xc d) (by rw[W.len];lia) (by unfold JF;lia) (by unfold JF;lia) 0 0 λr t=>by have:=z.ga r (by simp[t]);lia
  have u:((Qa d (JN d)).q.rows.map T8).length<sizeLine:=by rw[Zql];exact JV ()
  refine⟨JD hp' a.2.2 (.lst (((Qa d (JN d)).q.rows++[(jp (xc d) (Qa d (JN d)).ps (Qa d (JN d)).q (Qa d (JN d)).ld (Qa d (JN d)).x 0 0).1]).map T8)),?_,h'.rows _⟩;have i:(Qa d (JN d)).q.rows.isEmpty=true:=by rw[c];rfl
  rw[i] at f;unfold wZ;simp[yf,j,x1,f,o,s,W9 h.at_.rw_,e,WA h'.at_.rw_ u]
 .rw[Ze c];refine⟨hp,?_,h⟩;have i:(Qa d (JN d)).q.rows.isEmpty=false:=by cases e:(Qa d (JN d)).q.rows with|nil=>exact Zn e c|cons _ _=>rfl
  rw[i] at f;unfold wZ;simp[yf,j,x1,f]
def PH (f:Yf):((ZS [~~~(.lst (f.map .int)),none,none,none,none] []).bind ju).need (λp=>dr p.2 5 p.1=xm (QZ f)) λ_ _=>False:=by
 obtain⟨hw,W⟩:=Wp f;have C:T7 (.lst ((xc f).map .str)) (.int 0)=some (.str (TU (xc f) 0)):=Bi (ws:=xc f) (k:=0) (by rw[W.len];lia);have E:T7 (.lst ((xc f).map .str)) (.int 1)=some (.str (TU (xc f) 1)):=Bi (ws:=xc f) (k:=1) (by rw[W.len];lia);rw[ut];simp[hw,C,E];intro g M r F a j p hp l i;have split:∀{c b:Addr} {d:D} {h:HP},Tq ((c,d)::h) b=none->b≠c/\Tq h b=none:=λ{c b d h} e=>by
  rw[JT] at e;by_cases z:b=c
  .rw[Zd z] at e;cases e
  .rw[Ze z] at e;exact⟨z,e⟩
 obtain⟨m,_⟩:=split F;obtain⟨s,j⟩:=split j;obtain⟨t,_⟩:=split j;obtain⟨u,hp⟩:=split hp;obtain⟨v,hp⟩:=split hp;obtain⟨w,_⟩:=split hp;obtain⟨n,i⟩:=split i;obtain⟨x,i⟩:=split i;obtain⟨A,i⟩:=split i;obtain⟨B,_⟩:=split i;have G:StB [(l,D.lst [D.int 0]),(p,D.lst [D.adr a]),(a,D.lst [D.str (TU (xc f) 0),D.adr g,D.adr r]),(r,D.lst []),(g,D.lst [D.str (TU (xc f) 1)])] p l [] (a,g,r) (jR f).ps (jR f).q ((jR f).ld++[(jR f).x]):=by
  refine⟨?_,?_,rfl,⟨?_,?_,?_⟩,?_⟩
  .simp[JT,n.symm]
  .simp[JT,jR]
  .simp[JT,x.symm,u.symm,jR]
  .simp[JT,B.symm,w.symm,t.symm,m.symm,jR]
  .simp[JT,A.symm,v.symm,s.symm,jR]
  .simp[jl,n,u,v,w,x,A,B,s,t,m,n.symm,m.symm]
 refine Wr.need_bind.mpr (Wr.need_bind.mpr ((PD G).mono (λo H=>?_) λ_ _ z=>z));obtain⟨y,hp',N,O,rfl,I⟩:=H;obtain⟨q,J,K⟩:=PF (y:=y) I;have L:zK (TV wZ (qz (vL (Tn 2)))) (.next (yf f p l y) hp')=.ok (.ret (.adr p) q):=by
  show(TV wZ (qz (vL (Tn 2)))) (yf f p l y) hp'=_;rw[F8,J];simp[yf]
 rw[L];exact K.dp
def vz:∀ds d,WK ds=.ok d->ds.length=1/\((ZS (Qw 5 ds) []).bind ju).need (λp=>dr p.2 5 p.1=d) λ_ _=>False:=λds d h=>by
 unfold WK at h
 split at h
 .rename_i e;have a:=UG e;generalize Classical.choose e=ms at a h;cases h;subst a;exact⟨rfl,PH _⟩
 .cases h
def XY:FS:=(T1 (TK 3 (Ts TY (Tn 2) (T3 T5 (Jt (Tn 0) Tp)))) (T1 (TK 4 (Ts TY (Ts TY (Ts j7 (Tn 2) (dC (.int 48271))) (dC (.int 2147483647))) (Ts T6 (T3 T5 (Jt (Tn 0) Tp)) (dC (.int 1))))) (T1 (jq (Jx (Ts qi (Tn 1) (dC (.int 3)))) (TN (Ts T6 (y9 (Tn 0) Qk (Q0 (Tn 3)) Qk) (y9 (Tn 0) (Q0 (Ts T6 (Tn 3) (dC (.int 1)))) Qk Qk))) JA) (T1 (jq (Jx (Ts qi (Tn 1) (dC (.int 4)))) (TN (Ts T6 (Ts T6 (y9 (Tn 0) Qk (Q0 (Tn 4)) Qk) (jQ (Jt (Ts T7 (Tn 0) (Tn 3)) Tp))) (y9 (Tn 0) (Q0 (Tn 4)) Qk Qk))) JA) (T1 (TK 5 (Ts T6 (y9 (Tn 0) (Q0 (Ts T6 (Tn 3) (dC (.int 1)))) (Q0 (Ts T6 (Tn 3) (dC (.int 2)))) Qk) (y9 (Tn 0) (Q0 (Tn 3)) (Q0 (Ts T6 (Tn 3) (dC (.int 1)))) Qk))) (TN (Ts T6 (Ts T6 (y9 (Tn 0) Qk (Q0 (Tn 3)) Qk) (Tn 5)) (y9 (Tn 0) (Q0 (Ts T6 (Tn 3) (dC (.int 2)))) Qk Qk))))))))
def XZ:Yt->Res D:=jc 6 3 XY
def Bn:FS:=(T1 (TK 1 (dC (.str " !\"#$&'()*+,-./0123456789:;<=>?@ABCDEFGHIJKLMNOPQRSTUVWXYZ[\\]^_`"))) (T1 (TK 1 (Ts T6 (Tn 1) (dC (.str "abcdefghijklmnopqrstuvwxyz{|}~\n")))) (TN (Ts T7 (Tn 1) (Ts TY (Tn 0) (T3 T5 (Jt (Tn 1) Tp)))))))
def Bo:Yt->Res D:=jc 2 1 Bn
def Xv:FS:=(T1 (TK 3 (Ts TY (Ts TY (Ts j7 (Tn 2) (dC (.int 48271))) (dC (.int 2147483647))) (Ts T6 (T3 T5 (Jt (Tn 0) Tp)) (dC (.int 1))))) (T1 (TK 4 (J0 Bo (Jt (Ts K6 (Ts TY (Ts T6 (Ts j7 (Tn 1) (dC (.int 48271))) (Tn 2)) (dC (.int 2147483647))) (dC (.int 6))) Tp))) (T1 (jq (Jx (Ts qi (Ts TY (Tn 1) (dC (.int 6))) (dC (.int 0)))) (TN (Ts T6 (Ts T6 (xM (Tn 0) Qk (Q0 (Tn 3))) (Tn 4)) (xM (Tn 0) (Q0 (Tn 3)) Qk))) JA) (T1 (jq (Jx (Ts qi (Ts TY (Tn 1) (dC (.int 6))) (dC (.int 1)))) (TN (Ts T6 (xM (Tn 0) Qk (Q0 (Tn 3))) (xM (Tn 0) (Q0 (Ts T6 (Tn 3) (dC (.int 1)))) Qk))) JA) (T1 (jq (Jx (Ts qi (Ts TY (Tn 1) (dC (.int 6))) (dC (.int 2)))) (TN (Ts T6 (Ts T6 (xM (Tn 0) Qk (Q0 (Tn 3))) (Tn 4)) (xM (Tn 0) (Q0 (Ts T6 (Tn 3) (dC (.int 1)))) Qk))) JA) (TN (TW Xn (dC (.str "\n")) (J0 XZ (Jt (TW KM (Tn 0) (dC (.str "\n"))) (Jt (Ts TY (Tn 1) (dC (.int 6))) (Jt (Tn 2) Tp)))))))))))
def WL:Yt->Res D:=jc 5 3 Xv
def xR:FS:=(T1 (jq (yO (Q1 (Jx (QF qA qA (dC (.int 1)) (T3 T5 (Jt (Tn 0) Tp)) (dC (.int 12))))) (yO (Jx (Ts (jY false) (Tn 0) (dC (.tup (List.map .str ["plan", "given", "all", "first", "part"]))))) (Jx (Ts (qh true) (Ts T7 (Tn 0) (dC (.int 0))) (dC (.str "abcdefghijklmnopqrstuvwxyz")))))) (TN (dC (.bl false))) JA) (TN (T3 yL (Jt (Q5 [none] (zN (Tn 0)) (.one 0) (zR (Ts (qh false) (Tn 0) (dC (.str "abcdefghijklmnopqrstuvwxyz"))) (Ts (qh false) (Tn 0) (dC (.str "0123456789"))))) Tp))))
def j8:Yt->Res D:=jc 1 1 xR
def kB (x:Str):Bool:=(List.map D.str ["plan", "given", "all", "first", "part"]).any λe=>sameD e (.str x)
def LT:Yg:=("abcdefghijklmnopqrstuvwxyz" : Str).cps.toList
def FG:Yg:=("0123456789" : Str).cps.toList
def VZ (x:Str):Bool:=decide (1<=x.length/\x.length<=12)&&(!kB x&&(decide (x.cps.toList.headD 0∈LT)&&x.cps.toList.all λc=>decide (c∈LT)||decide (c∈FG)))
def PJ {n:Nat}{x:Str}(h:TxtOk n x):jY false (.str x) (.tup (List.map D.str ["plan", "given", "all", "first", "part"]))=some (.bl (kB x)):=by
 have p:plN 12 (.str x)=true:=by
  show PyData.strOk x=true;unfold PyData.strOk;rw[<- Vo,Uq];exact λc a=>Zp (UO (xG.mp h.asc c a) ())
 have q:(List.map D.str ["plan", "given", "all", "first", "part"]).all (plN 12)=true:=by decide +kernel
 show(if plN 12 (.str x)&&(List.map D.str ["plan", "given", "all", "first", "part"]).all (plN 12) then some (D.bl (if false=true then _ else kB x)) else none)=_;rw[p,q];rfl
def zr {n:Nat}{x:Str}(h:TxtOk n x)(s:n<=1000):j8 [.str x]=.ok (.bl (VZ x)):=by
 have j:=XL h s;have b:=PJ h;have t:yQ x=true:=h.asc;unfold VZ;by_cases c:1<=x.length/\x.length<=12
 .rw[Zp c,UZ];have d:(1:Int)<=(x.length:Int):=()
  have m:(x.length:Int)<=12:=()
  cases k:kB x with
  |true =>
   rw[k] at b;simp[j8,xR,j,d,m] at b ⊢;simp[b]
  |false =>
   rw[k] at b;obtain⟨e,hx,f,_⟩:=AX (k:=0) h s () ();have u:x.cps.toList.headD 0=e:=by
    have f:x.cps.toList[0]? = some e:=f;cases l:x.cps.toList with
    |nil=>rw[l] at f;cases f
    |cons a y=>rw[l] at f;exact Zqi f
   have g:=YU true e "abcdefghijklmnopqrstuvwxyz";rw[u];have o:js (.one 0) (zR (Ts (qh false) (Tn 0) (dC (.str "abcdefghijklmnopqrstuvwxyz"))) (Ts (qh false) (Tn 0) (dC (.str "0123456789")))) [none] (ze x)=.ok ((x.cps.toList.map λc=>decide (c∈LT)||decide (c∈FG)).map .bl):=by
    rw[Zw];refine Q7 λc _=>?_;have i:=YU false c "abcdefghijklmnopqrstuvwxyz";have q:=YU false c "0123456789";have i:qh false (.str ⟨#[c]⟩) (.str "abcdefghijklmnopqrstuvwxyz")=some (.bl (decide (c∈LT))):=i;have q:qh false (.str ⟨#[c]⟩) (.str "0123456789")=some (.bl (decide (c∈FG))):=q;cases p:decide (c∈LT) with
    |true=>rw[p] at i;simp[i,p]
    |false=>rw[p] at i;simp[i,q,p]
   have r:=YS (x.cps.toList.map λc=>decide (c∈LT)||decide (c∈FG));have v:(x.cps.toList.map λc=>decide (c∈LT)||decide (c∈FG)).all id=x.cps.toList.all λc=>decide (c∈LT)||decide (c∈FG):=by rw[UW];rfl
   rw[v] at r;generalize (x.cps.toList.map λc=>decide (c∈LT)||decide (c∈FG)).map D.bl=bs at o r;have w:(ze x).length<sizeLine:=JV (by unfold ze;rw[Zql,Ud];have:x.length=x.cps.size:=rfl;lia);have g:qh true (.str ⟨#[e]⟩) (.str "abcdefghijklmnopqrstuvwxyz")=some (.bl (!decide (e∈LT))):=g;cases p:decide (e∈LT) with
   |true =>
    rw[p] at g;simp[j8,xR,j,d,m] at b hx ⊢;simp[b,hx,g,t,w,o,r]
   |false =>
    rw[p] at g;simp[j8,xR,j,d,m] at b hx ⊢;simp[b,hx,g]
 .rw[Zo c,Bool.false_and];have z:¬((1:Int)<=(x.length:Int)/\(x.length:Int)<=12):=()
  by_cases d:(1:Int)<=(x.length:Int)
  .have m:¬(x.length:Int)<=12:=()
   simp[j8,xR,j,d,m]
  .simp[j8,xR,j,d]
def Xw:FS:=(T1 (TK 2 (xM (Tn 1) (Q0 (T3 T5 (Jt (Tn 0) Tp))) Qk)) (TN (wm (Qv (Jx (TW ZE (Tn 1) (Tn 0))) (Jx (J0 j8 (Jt (Tn 2) Tp)))) (Tn 2) (dC .non))))
def Kp:Yt->Res D:=jc 3 2 Xw
def WM:FS:=(TN (WZ (QF qA qA (dC (.int 1)) (T3 T5 (Jt (Tn 0) Tp)) (dC (.int 30))) (WZ (Ts x9 (Ts T7 (Tn 0) (dC (.int 0))) (dC (.str "0"))) (T3 yL (Jt (Q5 [none] (zN (Tn 0)) (.one 0) (Ts (qh false) (Tn 0) (dC (.str "0123456789")))) Tp)))))
def V6:Yt->Res D:=jc 1 1 WM
def WN:FS:=(T1 (jq (Jx (J0 j8 (Jt (Tn 0) Tp))) (TN (jn (Jt (Tn 0) (Jt (dC (.int 0)) Tp)))) JA) (T1 (j9 (iS (jn (Jt (dC (.str "+")) (Jt (dC (.str "-")) Tp)))) (.one 1) (T1 (TK 2 (TW KM (Tn 0) (Tn 1))) (jq (Qv (Jx (Ts qi (T3 T5 (Jt (Tn 2) Tp)) (dC (.int 2)))) (Qv (Jx (J0 j8 (Jt (Ts T7 (Tn 2) (dC (.int 0))) Tp))) (Jx (J0 V6 (Jt (Ts T7 (Tn 2) (dC (.int 1))) Tp))))) (TN (jn (Jt (Ts T7 (Tn 2) (dC (.int 0))) (Jt (T3 Wm (Jt (Ts T6 (Tn 1) (Ts T7 (Tn 2) (dC (.int 1)))) Tp)) Tp)))) JA))) (TN (dC .non))))
def Kh:Yt->Res D:=jc 3 1 WN
def Yy:FS:=(T1 (TK 3 (Q5 [none] (iS (TW KM (TW Xn (dC (.str " ")) (Tn 2)) (dC (.str ", ")))) (.one 0) (J0 Kh (Jt (Tn 0) Tp)))) (TN (wm (Jx (Ts (jY false) (dC .non) (Tn 3))) (dC .non) (jn (Jt (Tn 0) (Jt (Tn 1) (Jt (Tn 3) Tp)))))))
def Wq:Yt->Res D:=jc 4 3 Yy
def K3:FS:=(T1 (TK 1 (TW KM (Tn 0) (dC (.str " ")))) (T1 (jq (yO (Jx (Ts z9 (T3 T5 (Jt (Tn 1) Tp)) (dC (.int 4)))) (yO (Jx (Ts x9 (Ts T7 (Tn 1) (dC (.int 0))) (dC (.str "")))) (Q1 (Jx (J0 j8 (Jt (Ts T7 (Tn 1) (dC (.int 1))) Tp)))))) (TN (dC .non)) JA) (T1 (jq (Jx (Ts (jY false) (Ts T7 (Tn 1) (dC (.int 2))) (jn (Jt (dC (.str "all")) (Jt (dC (.str "first")) Tp))))) (TN (J0 Wq (Jt (Ts T7 (Tn 1) (dC (.int 1))) (Jt (Ts T7 (Tn 1) (dC (.int 2))) (Jt (y9 (Tn 1) (Q0 (dC (.int 3))) Qk Qk) Tp))))) JA) (T1 (jq (Qv (Jx (Ts qi (Ts T7 (Tn 1) (dC (.int 2))) (dC (.str "part")))) (Jx (J0 j8 (Jt (Ts T7 (Tn 1) (dC (.int 3))) Tp)))) (TN (J0 Wq (Jt (Ts T7 (Tn 1) (dC (.int 1))) (Jt (Ts T7 (Tn 1) (dC (.int 3))) (Jt (y9 (Tn 1) (Q0 (dC (.int 4))) Qk Qk) Tp))))) JA) (TN (dC .non))))))
def QL:Yt->Res D:=jc 2 1 K3
def V7:j6:=(TV (zL (TK 3 (J0 Kp (Jt (dC (.str " given ")) (Jt (Tn 2) Tp))))) (TV (zL (TK 4 (J0 QL (Jt (Tn 2) Tp)))) (TV (Kg (qP 6 [0] (Qv (Jx (jb (jJ true) (Tn 3))) (Jx (Ts qi (jb (TF "Draft" "rows") (Tn 0)) (jQ Tp))))) (TV (qa (zE "Draft" "givens" (vL (Tn 0))) (vL (Tn 3))) (qz (vL (dC (.bl true))))) KS) (TV (Kg (f8 (Jx (jb (jJ true) (Tn 4)))) (TV (qa (zE "Draft" "rows" (vL (Tn 0))) (vL (jn (Jt (Tn 1) (Jt (Tn 4) Tp))))) (qz (vL (dC (.bl true))))) KS) (qz (vL (dC (.bl false))))))))
def WO:Yt->HP->Wr (D×HP):=xh 5 3 V7
def V8:j6:=(TV (zL (TK 3 (J0 Kp (Jt (dC (.str "plan ")) (Jt (Tn 2) Tp))))) (TV (Kg (f8 (Jx (jb (jJ true) (Tn 3)))) (TV (qa (vL (Tn 0)) (C9 "Draft" Bc (J3 (vL (Tn 3)) TZ))) (qz (vL (dC (.bl true))))) KS) (qz (wv (qW 6 [0] (Ts yJ (Tn 0) (jQ Tp))) (Wj WO (J3 (ye (vL (Tn 0)) (vL (jb jI (dC (.int 1))))) (J3 (vL (Tn 1)) (J3 (vL (Tn 2)) TZ))))))))
def Ka:Yt->HP->Wr (D×HP):=xh 4 3 V8
def Wa:j6:=(TV (qd 1 (jm TZ)) (TV (xH (zO (Jt (TW KM (Tn 0) (dC (.str "\n"))) Tp)) (.tup [2,3]) (Kg (AR (Xo (AU Ka (J3 (vL (Tn 1)) (J3 (vL (Tn 2)) (J3 (vL (Tn 3)) TZ)))))) (zL (JL "BadRow" (Tn 2))) KS)) (qz (vL (Tn 1)))))
def fz (ds:Yt)(d:D):Prop:=ds.length=1/\((Wa (Qw 4 ds) []).bind ju).need (λp=>dr p.2 6 p.1=d) λ_ _=>False
def nM (ds:Yt):Prop:=ds.length=1/\((Wa (Qw 4 ds) []).bind ju).need (λ_=>False) λc fs=>c = "BadRow" /\ fs=[]
open Classical in
def KY:Yt->Res D:=λds=>if h:∃d,fz ds d then .ok (choose h) else if nM ds then .ex "BadRow" [] else .no
def v0:∀ds d,KY ds=.ok d->ds.length=1/\((Wa (Qw 4 ds) []).bind ju).need (λp=>dr p.2 6 p.1=d) λ_ _=>False:=λds d h=>by
 unfold KY at h
 split at h
 .rename_i e;have:=UG e;cases h;exact this
 .split at h<;>cases h
def vp:∀ds c fs,KY ds=.ex c fs->ds.length=1/\((Wa (Qw 4 ds) []).bind ju).need (λ_=>False) λb a=>b=c/\a=fs:=λds c fs h=>by
 unfold KY at h
 split at h
 .cases h
 .split at h
  .rename_i e;cases h;exact e
  .cases h
def yU:FS:=(TN (WZ (T3 yL (Jt (Q5 [none] (iS (Tn 0)) (.one 0) (J0 j8 (Jt (Tn 0) Tp))) Tp)) (Ts qi (T3 Z1 (Jt (Tn 0) Tp)) (T3 T5 (Jt (Tn 0) Tp)))))
def xE:Yt->Res D:=jc 1 1 yU
def PK:∀k:Fin 10,FG[k.val]? = some (48+k.val):=by decide +kernel
theorem G0 {c:Nat}(h:y8 c=true):c∈LT:=by
 unfold y8 at h;rw[Ub,decide_eq_true_eq,decide_eq_true_eq] at h;have:=OS ⟨c-97,()⟩;rw[show 97+(c-97)=c by lia] at this;exact Uh this
def G1 {c:Nat}(h:yo c=true):c∈FG:=by
 unfold yo at h;rw[Ub,decide_eq_true_eq,decide_eq_true_eq] at h;have:=PK ⟨c-48,()⟩;rw[show 48+(c-48)=c by lia] at this;exact Uh this
def Bp {x:Str}(h:QX x=true):VZ x=true:=by
 unfold QX at h;rw[Ub,Ub,Ub,Ub,decide_eq_true_eq,decide_eq_true_eq] at h;obtain⟨i,j,e,l,b⟩:=h;have k:kB x=false:=by
  unfold kB;rw[List.any_eq_false];intro d f;obtain⟨w,hw,rfl⟩:=Ja.mp f;have:=Uq.mp e w hw;rw[Vk,decide_eq_false_iff_not] at this;rw[Bool.not_eq_true,z5];intro z;injection z with z
  exact this z
 have a:(x.cps.toList.all λc=>decide (c∈LT)||decide (c∈FG))=true:=by
  rw[Uq] at b ⊢;intro c g;rcases Bool.or_eq_true_iff.mp (b c g) with z|z
  .rw[Zp (G0 z)];rfl
  .rw[Zp (G1 z),UP]
 grind[VZ,decide_eq_true,G0]
def PM {xs:Yh}(h:xs.Nodup)(c:xs.length<=999):Z1 [.lst (xs.map .str)]=some (.int xs.length):=by
 have e:Ke Qg (xs.map .str)=some (xs.map Um):=YK (f:=Qg) (g:=D.str) (k:=Um) (λ_=>rfl) xs;have d:(xs.map (Um:Str->TM)).Nodup:=by
  rw[Vq,Vn];exact List.Pairwise.imp (λ{a b} n z=>n (by injection z)) (Vq.mp h)
 show(Ke Qg (xs.map .str)).bind _=_;rw[e];show(if(xs.map (Um:Str->TM)).length<=999 then _ else _)=_;rw[Zql,Zd c,L2.ST.dedL_nodup d,Zql]
def kO {xs:Yh}(a:∀x∈xs,ji x)(b:xs.Nodup)(d:xs.length<=60):xE [.lst (xs.map .str)]=.ok (.bl true):=by
 have c:js (.one 0) (J0 j8 (Jt (Tn 0) Tp)) [none] (xs.map .str)=.ok ((xs.map λ_=>true).map .bl):=by
  rw[Zw];exact Q7 λx hx=>by
   have:=zr (a x hx).1 ();rw[Bp (a x hx).2] at this;simp[this]
 have e:=YS (xs.map λ_=>true);have f:=PM b ();have g:(xs.map D.str).length<sizeLine:=JV (by rw[Zql];lia)
 simp_all [xE,yU]
def yV:FS:=(T1 (jq (Q1 (Jx (KI xE (Jt (Q5 [none] (iS (jb (TF "Book" "plans") (Tn 0))) (.one 0) (jb (TF "Plan" "name") (Tn 0))) Tp)))) (JL "BadName" (dC (.str "a plan's name is no name or stands twice"))) JA) (j9 (iS (jb (TF "Book" "plans") (Tn 0))) (.one 1) (jq (Q1 (Jx (KI xE (Jt (Ts T6 (jb (TF "Plan" "givens") (Tn 1)) (Q5 [none,none,none] (iS (jb (TF "Plan" "rows") (Tn 1))) (.tup [0,1,2]) (Tn 0))) Tp)))) (JL "BadName" (dC (.str "a thing's name is no name or stands twice in its plan"))) JA)))
def y0:Yt->Res D:=jc 2 1 yV
def mq {ps:List Pl}(L:LB ps)(W:WB ps):y0 [JB ps]=.ok .non:=by
 have j:=W.l2;have l:=JV (show ps.length<=1000 from ());have k0:js (.one 0) (jb (TF "Plan" "name") (Tn 0)) [none] (ps.map J7)=.ok ((ps.map (·.name)).map .str):=by
  rw[Zw];exact Q7 λp _=>by simp
 have a0:=kO (λx hx=>by
  obtain⟨p,hp,rfl⟩:=Ja.mp hx;obtain⟨i,P⟩:=L.mem hp;exact P.nm) W.nd (by rw[Zql];lia)
 obtain⟨f,m,a,d⟩:=Kl (tg:=.one 1) (b:=(jq (Q1 (Jx (KI xE (Jt (Ts T6 (jb (TF "Plan" "givens") (Tn 1)) (Q5 [none,none,none] (iS (jb (TF "Plan" "rows") (Tn 1))) (.tup [0,1,2]) (Tn 0))) Tp)))) (JL "BadName" (dC (.str "a thing's name is no name or stands twice in its plan"))) JA)) (ds:=ps.map J7)
  (P:=λi sd=>∃a:Option SV,sd=[~~~(JB ps),a]) ⟨none,rfl⟩ (by
   rintro i x sd hx ⟨a,rfl⟩;obtain⟨p,hp,rfl⟩:=QK hx;have P:=L i p hp;have n:=P.g2;have g:=P.r2;have h:=JV (show p.rows.length<=1000 from ());have k1:js (.tup [0,1,2]) (Tn 0) [none,none,none] (p.rows.map T8)=.ok ((p.rows.map (·.1)).map .str):=by
    rw[Zw];exact Q7 λr _=>by simp
   have c:T6 (.lst (p.givens.map .str)) (.lst ((p.rows.map (·.1)).map .str))=some (.lst ((p.givens++p.rows.map (·.1)).map .str)):=by
    rw[Uc];exact Zd (small (by rw[Zql,Zql,Zql];lia))
   have e:=kO P.tn P.td (by rw[Ua,Zql];lia);generalize (p.givens++p.rows.map (·.1)).map D.str=zs at c e;generalize (p.rows.map (·.1)).map D.str=ys at k1 c;simp[h,k1,c,e])
 simp_all [y0,yV]
def wc:FS:=(TN (Ts (jY true) (Tn 0) (jn (Jt (dC (.str "all")) (Jt (dC (.str "first")) Tp)))))
def xD:Yt->Res D:=jc 1 1 wc
def wG {how:Str}(h:asc how):xD [.str how]=.ok (.bl (jX how)):=by
 have p:plN 12 (.str how)=true:=K8 h;have q: [D.str "all",D.str "first"].all (plN 12)=true:=by decide +kernel
 have g:jY true (.str how) (.tup [.str "all",.str "first"])=some (.bl (jX how)):=by
  show(if plN 12 (.str how)&&[D.str "all",D.str "first"].all (plN 12) then some (D.bl (if true=true then !([D.str "all",D.str "first"].any λe=>sameD e (.str how)) else _)) else none)=_;rw[p,q];unfold jX sameD;have a:decide (("all" : Str)=how)=decide (how = "all"):=decide_eq_decide.mpr eq_comm;have b:decide (("first" : Str)=how)=decide (how = "first"):=decide_eq_decide.mpr eq_comm;simp[a,b]
 simp[xD,wc,g]
def zy:FS:=(T1 (xg 1 Wh) (j9 (iS (jb (TF "Book" "plans") (Tn 0))) (.one 2) (T1 (j9 (iS (jb (TF "Plan" "rows") (Tn 2))) (.tup [3,4,5]) (jq (Qv (Jx (KI xD (Jt (Tn 4) Tp))) (Jx (Ts x9 (XE [1] (Xj (Tn 1) (Tn 4))) (T3 T5 (Jt (Tn 5) Tp))))) (JL "BadPart" ((j5 Q2 (Tn 3) (TL " is made by no plan ahead that has as many given things as it has items" ja)) Str.empty)) JA)) (Wy 1 (jb (TF "Plan" "name") (Tn 2)) (T3 T5 (Jt (jb (TF "Plan" "givens") (Tn 2)) Tp))))))
def yX:Yt->Res D:=jc 6 1 zy
def PN {ps:List Pl}(m:(ps.map (·.name)).Nodup){x:Str}{n:Int}(h:(x,n)∈QU ps):jx (QU ps) x=some n:=by
 unfold jx;cases e:(QU ps).find? λp=>decide (p.1=x) with
 |none=>exact Zn (Zp rfl) (List.find?_eq_none.mp e (x,n) h)
 |some q =>
  obtain⟨a,o,s⟩:=Ja.mp (List.mem_of_find?_eq_some e);obtain⟨b,r,t⟩:=Ja.mp h;have nm:a.name=b.name:=by grind
  have ab:a=b:=by
   obtain⟨i,f,c⟩:=U4 o;obtain⟨j,g,d⟩:=U4 r;have l:=U9.mp (Vn.mp (Vq.mp m));rcases Nat.lt_trichotomy i j with z|z|z
   .exact Zn (by rwa [c,d]) (l i j f g z)
   .subst z;rw[<- c,<- d]
   .exact Zn (by rw[c,d];exact nm.symm) (l j i g f z)
  grind
def Dg (ps:List Pl):(QU ps).map (·.1)=ps.map (·.name):=by
 unfold QU;rw[Zw];rfl
def mm {ps:List Pl}(L:LB ps)(W:WB ps):yX [JB ps]=.ok .non:=by
 obtain⟨h,l,u2,u3,u4,a,c⟩:=Kl (tg:=.one 2) (b:=(T1 (j9 (iS (jb (TF "Plan" "rows") (Tn 2))) (.tup [3,4,5]) (jq (Qv (Jx (KI xD (Jt (Tn 4) Tp))) (Jx (Ts x9 (XE [1] (Xj (Tn 1) (Tn 4))) (T3 T5 (Jt (Tn 5) Tp))))) (JL "BadPart" ((j5 Q2 (Tn 3) (TL " is made by no plan ahead that has as many given things as it has items" ja)) Str.empty)) JA)) (Wy 1 (jb (TF "Plan" "name") (Tn 2)) (T3 T5 (Jt (jb (TF "Plan" "givens") (Tn 2)) Tp))))) (ds:=ps.map J7)
  (sd:=[~~~(JB ps),some (.own false (.dct [] [])),none,none,none,none])
  (P:=λi sd=>∃u2 u3 u4 a:Option SV,sd=[~~~(JB ps),some (.own false (dT (QU (ps.take i)))),u2,u3,u4,a]) ⟨none,none,none,none,rfl⟩ (by
   rintro i x sd hx ⟨u2,u3,u4,a,rfl⟩;obtain⟨p,hp,rfl⟩:=QK hx;have P:=L i p hp;have I:=(Jd.mp hp).1;have J:=W.l2;have m:((ps.take i).map (·.name)).Nodup:=by
    rw[List.map_take];exact List.Sublist.nodup (List.take_sublist _ _) W.nd
   obtain⟨t,ht⟩:∃t,QU (ps.take i)=t:=⟨_,rfl⟩;have n:p.name∉t.map (·.1):=by
    rw[<- ht,Dg,<- Xp];exact W.fresh hp
   have K:t.length<=20:=by
    rw[<- ht];unfold QU;rw[Zql,Uk];lia
   have o:∀r∈p.rows,jX r.2.1=true->jx t r.2.1=some (r.2.2.length:Int):=λr f q=>by
    rcases P.how r f with z|z|z
    .rw[z] at q;exact Zn q (by decide +kernel)
    .rw[z] at q;exact Zn q (by decide +kernel)
    .rw[<- ht];exact PN m z
   obtain⟨s,u,w,A,B,d⟩:=Kl (tg:=.tup [3,4,5]) (b:=(jq (Qv (Jx (KI xD (Jt (Tn 4) Tp))) (Jx (Ts x9 (XE [1] (Xj (Tn 1) (Tn 4))) (T3 T5 (Jt (Tn 5) Tp))))) (JL "BadPart" ((j5 Q2 (Tn 3) (TL " is made by no plan ahead that has as many given things as it has items" ja)) Str.empty)) JA)) (ds:=p.rows.map T8)
    (sd:=[~~~(JB ps),some (.own false (dT t)),~~~(J7 p),u3,u4,a])
    (P:=λ_ sd=>∃u3 u4 a:Option SV,sd=[~~~(JB ps),some (.own false (dT t)),~~~(J7 p),u3,u4,a]) ⟨u3,u4,a,rfl⟩ (by
     rintro j y sd C ⟨u3,u4,a,rfl⟩;obtain⟨r,f,rfl⟩:=QK C;have g:r∈p.rows:=Uh f;have e:=wG (W.hasc hp g);have E:T5 [jz r.2.2]=some (.int r.2.2.length):=by show some (D.int (r.2.2.map qu).length)=_;rw[Zql]
     refine⟨[~~~(JB ps),some (.own false (dT t)),~~~(J7 p),~~~(.str r.1),~~~(.str r.2.1),~~~(jz r.2.2)],?_,_,_,_,rfl⟩;cases q:jX r.2.1 with
     |false =>
      rw[q] at e;simp[e]
     |true =>
      rw[q] at e;have v:=Wo t r.2.1;rw[o r g q] at v;have F:Cp (dT t)=.ok (t.map λp=>.inr p.1,t.map λp=>.int p.2):=rfl;simp[e,E,F,v,Ki])
   subst d;have pt:=ZL n (p.givens.length:Int);have G:=JV (show t.length<=1000 from ());have tk:QU (ps.take (i+1))=t++[(p.name,(p.givens.length:Int))]:=by
    rw[Us,hp,<- ht];unfold QU;rw[Uc];rfl
   have H:zH (some (some (.own false (dT t))))=.ok (t.map λp=>.inr p.1,t.map λp=>.int p.2):=rfl;refine⟨[~~~(JB ps),some (.own false (dT (t++[(p.name,(p.givens.length:Int))]))),~~~(J7 p),w,A,B],?_,_,_,_,_,by rw[tk]⟩;rw[<- pt,ht];simp[u,H,G])
 subst c;simp[yX,zy,Wh,l]
def zz:FS:=(T1 (TK 1 (T3 T5 (Jt (jb (TF "Plan" "givens") (Tn 0)) Tp))) (j9 (iS (jb (TF "Plan" "rows") (Tn 0))) (.tup [2,3,4]) (T1 (jq (Q1 (Jx (QF qA qA (dC (.int 1)) (T3 T5 (Jt (Tn 4) Tp)) (dC (.int 40))))) (JL "BadPlan" ((j5 Q2 (Tn 2) (TL " has not 1 to 40 items" ja)) Str.empty)) JA) (T1 (j9 (iS (Tn 4)) (.tup [5,6]) (T1 (jq (Q1 (Jx (QF qA z9 (dC (.int 0)) (Tn 5) (Tn 1)))) (JL "BadPlan" ((TL "an item of " (j5 Q2 (Tn 2) (TL " is no thing ahead of it" ja))) Str.empty)) JA) (jq (Jx (Ts vd (T3 yq (Jt (Tn 6) Tp)) (Ts xn (dC (.int 10)) (dC (.int 30))))) (JL "BadPlan" ((TL "a wait of " (j5 Q2 (Tn 2) (TL " has more than 30 figures" ja))) Str.empty)) JA))) (yD 1 (dC (.int 1)))))))
def yb:Yt->Res D:=jc 7 1 zz
def mn {a:List Pl}{p:Pl}(P:PL a p):yb [J7 p]=.ok .non:=by
 have l:xn (.int 10) (.int 30)=some (.int 1000000000000000000000000000000):=rfl;obtain⟨m,G,u2,u3,u4,c,d,f⟩:=Kl (tg:=.tup [2,3,4]) (b:=(T1 (jq (Q1 (Jx (QF qA qA (dC (.int 1)) (T3 T5 (Jt (Tn 4) Tp)) (dC (.int 40))))) (JL "BadPlan" ((j5 Q2 (Tn 2) (TL " has not 1 to 40 items" ja)) Str.empty)) JA) (T1 (j9 (iS (Tn 4)) (.tup [5,6]) (T1 (jq (Q1 (Jx (QF qA z9 (dC (.int 0)) (Tn 5) (Tn 1)))) (JL "BadPlan" ((TL "an item of " (j5 Q2 (Tn 2) (TL " is no thing ahead of it" ja))) Str.empty)) JA) (jq (Jx (Ts vd (T3 yq (Jt (Tn 6) Tp)) (Ts xn (dC (.int 10)) (dC (.int 30))))) (JL "BadPlan" ((TL "a wait of " (j5 Q2 (Tn 2) (TL " has more than 30 figures" ja))) Str.empty)) JA))) (yD 1 (dC (.int 1)))))) (ds:=p.rows.map T8)
  (sd:=[~~~(J7 p),~~~(.int p.givens.length),none,none,none,none,none])
  (P:=λi sd=>∃u2 u3 u4 c d:Option SV,sd=[~~~(J7 p),~~~(.int ((p.givens.length:Int)+i)),u2,u3,u4,c,d]) ⟨none,none,none,none,none,()⟩ (by
   rintro i x sd hx ⟨u2,u3,u4,c,d,rfl⟩;obtain⟨r,n,rfl⟩:=QK hx;obtain⟨I,H,J⟩:=P.its i r n;obtain⟨g,hg⟩:∃g:Int,(p.givens.length:Int)+i=g:=⟨_,rfl⟩;rw[hg] at I;obtain⟨o,s,t,u,e⟩:=Kl (tg:=.tup [5,6]) (b:=(T1 (jq (Q1 (Jx (QF qA z9 (dC (.int 0)) (Tn 5) (Tn 1)))) (JL "BadPlan" ((TL "an item of " (j5 Q2 (Tn 2) (TL " is no thing ahead of it" ja))) Str.empty)) JA) (jq (Jx (Ts vd (T3 yq (Jt (Tn 6) Tp)) (Ts xn (dC (.int 10)) (dC (.int 30))))) (JL "BadPlan" ((TL "a wait of " (j5 Q2 (Tn 2) (TL " has more than 30 figures" ja))) Str.empty)) JA))) (ds:=r.2.2.map qu)
    (P:=λ_ sd=>∃c d:Option SV,sd=[~~~(J7 p),~~~(.int g),~~~(.str r.1),~~~(.str r.2.1),~~~(jz r.2.2),c,d]) ⟨c,d,rfl⟩ (by
     rintro j y sd v ⟨c,d,rfl⟩;obtain⟨q,w,rfl⟩:=QK v;have h:=Uh w;obtain⟨z,A⟩:=I.rng q h;obtain⟨K,L⟩:=I.far q h;have ab:¬(1000000000000000000000000000000:Int)<=(if q.2<0 then -q.2 else q.2):=by split<;>lia
     simp[z,A,l,ab])
   subst e;have B:(1:Int)<=(r.2.2.length:Int):=()
   have C:(r.2.2.length:Int)<=40:=()
   have E:g+1=(p.givens.length:Int)+((i+1:Nat):Int):=()
   refine⟨[~~~(J7 p),~~~(.int (g+1)),~~~(.str r.1),~~~(.str r.2.1),~~~(jz r.2.2),t,u],?_,_,_,_,_,_,by rw[E]⟩;have F:T5 [jz r.2.2]=some (.int r.2.2.length):=by show some (D.int (r.2.2.map qu).length)=_;rw[Zql]
   rw[hg];simp[F,B,C,s])
 simp_all [yb,zz]
def yy:FS:=(T1 (jq (Q1 (Jx (QF qA qA (dC (.int 1)) (T3 T5 (Jt (jb (TF "Book" "plans") (Tn 0)) Tp)) (dC (.int 20))))) (JL "BadPlan" (dC (.str "a book has 1 to 20 plans"))) JA) (j9 (iS (jb (TF "Book" "plans") (Tn 0))) (.one 1) (T1 (jq (Q1 (Jx (QF qA qA (dC (.int 1)) (T3 T5 (Jt (jb (TF "Plan" "givens") (Tn 1)) Tp)) (dC (.int 12))))) (JL "BadPlan" (dC (.str "a plan has 1 to 12 given things"))) JA) (T1 (jq (Q1 (Jx (QF qA qA (dC (.int 1)) (T3 T5 (Jt (jb (TF "Plan" "rows") (Tn 1)) Tp)) (dC (.int 40))))) (JL "BadPlan" (dC (.str "a plan has 1 to 40 rows"))) JA) (VH (J0 yb (Jt (Tn 1) Tp)))))))
def yc:Yt->Res D:=jc 2 1 yy
def mo {ps:List Pl}(L:LB ps)(j:1<=ps.length)(l:ps.length<=20):yc [JB ps]=.ok .non:=by
 obtain⟨d,m,a,c⟩:=Kl (tg:=.one 1) (b:=(T1 (jq (Q1 (Jx (QF qA qA (dC (.int 1)) (T3 T5 (Jt (jb (TF "Plan" "givens") (Tn 1)) Tp)) (dC (.int 12))))) (JL "BadPlan" (dC (.str "a plan has 1 to 12 given things"))) JA) (T1 (jq (Q1 (Jx (QF qA qA (dC (.int 1)) (T3 T5 (Jt (jb (TF "Plan" "rows") (Tn 1)) Tp)) (dC (.int 40))))) (JL "BadPlan" (dC (.str "a plan has 1 to 40 rows"))) JA) (VH (J0 yb (Jt (Tn 1) Tp)))))) (ds:=ps.map J7)
  (P:=λi sd=>∃a:Option SV,sd=[~~~(JB ps),a]) ⟨none,rfl⟩ (by
   rintro i x sd hx ⟨a,rfl⟩;obtain⟨p,hp,rfl⟩:=QK hx;have P:=L i p hp;have n:=P.g1;have o:=P.g2;have q:=P.r1;have r:=P.r2;have e:(1:Int)<=(p.givens.length:Int):=()
   have f:(p.givens.length:Int)<=12:=()
   have g:(1:Int)<=(p.rows.length:Int):=()
   have h:(p.rows.length:Int)<=40:=()
   simp[e,f,g,h,(mn P)])
 have s:(1:Int)<=(ps.length:Int):=()
 have t:(ps.length:Int)<=20:=()
 simp_all [yc,yy]
def wd:FS:=(T1 (xg 1 Wh) (T1 (j9 (iS (jb (TF "Book" "plans") (Tn 0))) (.one 2) (T1 (xg 3 (YX [1] (YP [none,none,none,some 1] (iS (jb (TF "Plan" "rows") (Tn 2))) (.tup [0,1,2]) (Jx (J0 xD (Jt (Tn 1) Tp))) (Ts T7 (Tn 3) (Tn 1))))) (Wy 1 (jb (TF "Plan" "name") (Tn 2)) (Ts T6 (T3 T5 (Jt (jb (TF "Plan" "rows") (Tn 2)) Tp)) (yN [3] (T3 yI (Jt (Tn 3) Tp))))))) (Xa 1)))
def we:Yt->Res D:=qo 4 1 wd
def kH {ps:List Pl}(W:WB ps):we [JB ps]=.ok (dT (jy ps)):=by
 obtain⟨g,j,u2,u3,a⟩:=Kl (tg:=.one 2) (b:=(T1 (xg 3 (YX [1] (YP [none,none,none,some 1] (iS (jb (TF "Plan" "rows") (Tn 2))) (.tup [0,1,2]) (Jx (J0 xD (Jt (Tn 1) Tp))) (Ts T7 (Tn 3) (Tn 1))))) (Wy 1 (jb (TF "Plan" "name") (Tn 2)) (Ts T6 (T3 T5 (Jt (jb (TF "Plan" "rows") (Tn 2)) Tp)) (yN [3] (T3 yI (Jt (Tn 3) Tp))))))) (ds:=ps.map J7)
  (sd:=[~~~(JB ps),some (.own false (.dct [] [])),none,none])
  (P:=λi sd=>∃(u2 u3:Option SV),sd=[~~~(JB ps),some (.own false (dT (jy (ps.take i)))),u2,u3]) ⟨none,none,rfl⟩ (by
   rintro i x sd hx ⟨u2,u3,rfl⟩;obtain⟨p,hp,rfl⟩:=QK hx;have l:p∈ps:=Uh hp;obtain⟨t,ht⟩:∃t,jy (ps.take i)=t:=⟨_,rfl⟩;have f:=W.fresh hp;have m:=OX W i;have d:∀r∈p.rows,(jx t r.2.1).isSome=jX r.2.1:=λr c=>by rw[<- ht];exact W.part hp c
   rw[ht] at f m;have n:=JV (show p.rows.length<=1000 by have:=(W.sz p l).1;lia);have e:Wz (.tup [0,1,2]) (Jx (J0 xD (Jt (Tn 1) Tp))) (Ts T7 (Tn 3) (Tn 1)) [none,none,none,~~~(dT t)] (p.rows.map T8)=.ok ((p.rows.filter λr=>jX r.2.1).map λr=>D.int ((jx t r.2.1).getD 0)):=MP (s:=λr=>[~~~(.str r.1),~~~(.str r.2.1),~~~(jz r.2.2),~~~(dT t)]) (λr _=>()) (λr c=>by
    have:=wG (W.hasc hp c);simp[this]) (λr c q=>by
    have h:=d r c;rw[q] at h;obtain⟨v,o⟩:=Jm.mp h;simp[o])
   have u:=OV (λr:Str×Str×Jr=>(jx t r.2.1).getD 0) (p.rows.filter λr=>jX r.2.1);have gs:=OW (λr:Str×Str×Jr=>(jx t r.2.1).getD 0) (p.rows.filter λr=>jX r.2.1);have pt:=ZL f (qO t p);have w:=JV (show t.length<=1000 from ());have tk:ps.take (i+1)=ps.take i++[p]:=by rw[Us,hp];rfl
   have y:jy (ps.take (i+1))=t++[(p.name,qO t p)]:=by rw[tk,AY,ht]
   refine⟨[~~~(JB ps),some (.own false (dT (jy (ps.take (i+1))))),~~~(J7 p),some (.own false (.lst ((p.rows.filter λr=>jX r.2.1).map λr=>D.int ((jx t r.2.1).getD 0))))],?_,_,_,rfl⟩;rw[y,<- pt,ht];simp[e,n,u,gs];simp[dT,w,qO])
 rw[Zql,Uu] at a;subst a;simp[we,wd,Wh,j]
def zx:FS:=(j9 (mi (KI we (Jt (Tn 0) Tp))) (.tup [1,2]) (jq (Jx (Ts yK (Tn 2) (dC (.int 2000)))) (JL "TooLong" ((TL "plan " (j5 Q2 (Tn 1) (TL " has a weight of more than 2000" ja))) Str.empty)) JA))
def yW:Yt->Res D:=jc 3 1 zx
def G3 (t:List (Str×Int)):Xk (t.map λp=>.inr p.1) (t.map λp=>.int p.2)=t.map λp=>D.tup [.str p.1,.int p.2]:=by
 unfold Xk;rw[List.zipWith_map]
 induction t with
 |nil=>rfl
 |cons p t a=>rw[List.zipWith_cons_cons,a];rfl
def ml {ps:List Pl}(L:LB ps)(W:WB ps):yW [JB ps]=.ok .non:=by
 have f:=kH W;obtain⟨t,ht⟩:∃t,jy ps=t:=⟨_,rfl⟩;have d:=L.wts;rw[ht] at f d;obtain⟨g,j,a,u2,e⟩:=Kl (tg:=.tup [1,2]) (b:=(jq (Jx (Ts yK (Tn 2) (dC (.int 2000)))) (JL "TooLong" ((TL "plan " (j5 Q2 (Tn 1) (TL " has a weight of more than 2000" ja))) Str.empty)) JA)) (ds:=t.map λp=>D.tup [.str p.1,.int p.2])
  (P:=λ_ sd=>∃a u2:Option SV,sd=[~~~(JB ps),a,u2]) ⟨none,none,rfl⟩ (by
   rintro i x sd hx ⟨a,u2,rfl⟩;obtain⟨q,h,rfl⟩:=QK hx;have:=d q (Uh h);have c:¬(2000:Int)<q.2:=()
   simp[c])
 have it:Z3 (dT t)=.ok (t.map λp=>D.tup [.str p.1,.int p.2]):=by rw[<- G3];rfl
 simp_all [yW,zx]
def xQ:FS:=(T1 (VH (J0 y0 (Jt (Tn 0) Tp))) (T1 (VH (J0 yc (Jt (Tn 0) Tp))) (T1 (VH (J0 yX (Jt (Tn 0) Tp))) (VH (J0 yW (Jt (Tn 0) Tp))))))
def xq:Yt->Res D:=jc 1 1 xQ
def mr {ps:List Pl}(L:LB ps)(e:1<=ps.length)(f:ps.length<=20):xq [JB ps]=.ok .non:=by
 have W:=L.wb e f;have a:=mq L W;have b:=mo L e f;have c:=mm L W;have d:=ml L W;simp[xq,xQ,a,b,c,d]
def Yz:FS:=(T1 (j9 (iS (Tn 0)) (.tup [3,4]) (jq (Jx (Ts (jY true) (Tn 3) (Tn 1))) (JL "NoName" (Tn 2)) JA)) (TN (T3 YO (Jt (Q5 [none,none,some 1] (iS (Tn 0)) (.tup [0,1]) (jn (Jt (Ts T7 (Tn 2) (Tn 0)) (Jt (Tn 1) Tp)))) Tp))))
def KZ:Yt->Res D:=jc 5 3 Yz
def ZT:FS:=(T1 (xg 1 Wh) (T1 (j9 (mj (Jt (Tn 0) Tp)) (.tup [2,3]) (WF 1 (Tn 3) (Tn 2))) (Xa 1)))
def Y0:Yt->Res D:=qo 4 1 ZT
def Y1:FS:=(T1 (TK 1 (KI Y0 (Jt (Ts T6 (jb (TF "Draft" "givens") (Tn 0)) (Q5 [none,none] (iS (jb (TF "Draft" "rows") (Tn 0))) (.tup [0,1]) (Ts T7 (Tn 1) (dC (.int 0))))) Tp))) (T1 (xg 2 (jQ Tp)) (T1 (j9 (iS (jb (TF "Draft" "rows") (Tn 0))) (.tup [3,4]) (VI 2 (jn (Jt (Ts T7 (Tn 4) (dC (.int 0))) (Jt (Ts T7 (Tn 4) (dC (.int 1))) (Jt (J0 KZ (Jt (Ts T7 (Tn 4) (dC (.int 2))) (Jt (Tn 1) (Jt (Tn 3) Tp)))) Tp)))))) (λsd=>(TN (AT "Plan" ["name", "givens", "rows"] XQ (Jt (jb (TF "Draft" "name") (Tn 0)) (Jt (jb (TF "Draft" "givens") (Tn 0)) (Jt (Tn 2) Tp))))) (qj [2] sd)))))
def K4:Yt->Res D:=qo 5 1 Y1
def WP:FS:=(T1 (TK 1 (AT "Book" ["plans"] XP (Jt (Q5 [none] (iS (J0 KY (Jt (Tn 0) Tp))) (.one 0) (J0 K4 (Jt (Tn 0) Tp))) Tp))) (T1 (VH (J0 xq (Jt (Tn 1) Tp))) (TN (Tn 1))))
def Vw:Yt->Res D:=jc 2 1 WP
def G4:∀c∈LT,y8 c=true:=by
 have h:(LT.all y8)=true:=by decide +kernel
 exact Uq.mp h
def G5:∀c∈FG,yo c=true:=by
 have h:(FG.all yo)=true:=by decide +kernel
 exact Uq.mp h
def G6 {x:Str}(h:VZ x=true):QX x=true:=by
 unfold VZ at h;rw[Ub,Ub,Ub,decide_eq_true_eq,decide_eq_true_eq] at h;obtain⟨⟨f,g⟩,b,i,d⟩:=h;have k:(kept.all λw => !decide (w=x))=true:=by
  rw[Uq];intro w hw;by_cases e:w=x
  .subst e;have:kB w=true:=by
    unfold kB;rw[List.any_eq_true];exact⟨.str w,Ja.mpr ⟨w,hw,rfl⟩,VM _⟩
   rw[this] at b;cases b
  .rw[Zo e];rfl
 have a:(x.cps.toList.all λc=>y8 c||yo c)=true:=by
  rw[Uq] at d ⊢;intro c j;rcases Bool.or_eq_true_iff.mp (d c j) with z|z
  .rw[G4 c (of_decide_eq_true z)];rfl
  .rw[G5 c (of_decide_eq_true z),UP]
 unfold QX;rw[Zp f,Zp g,k,G4 _ i,a];rfl
def PP (x:Str):VZ x=QX x:=by
 cases h:QX x with
 |true=>exact Bp h
 |false =>
  cases k:VZ x with
  |false=>rfl
  |true=>rw[G6 k] at h;cases h
def G7 {xs:Yh}(h:∀x∈xs,TxtOk 20 x)(l:xs.length<=920):∃b:Bool,xE [.lst (xs.map .str)]=.ok (.bl b)/\(b=true↔fB xs):=by
 have a:js (.one 0) (J0 j8 (Jt (Tn 0) Tp)) [none] (xs.map .str)=.ok ((xs.map QX).map .bl):=by
  rw[Zw];exact Q7 λx hx=>by
   have:=zr (h x hx) ();rw[PP] at this;simp[this]
 have d:=YS (xs.map QX);obtain⟨n,i,j⟩:=Pu (xs:=xs) ();have f:(xs.map D.str).length<sizeLine:=JV (by rw[Zql];lia);have g:T5 [.lst (xs.map .str)]=some (.int xs.length):=by rw[Co,Zql]
 obtain⟨b,hb⟩:∃b,(xs.map QX).all id=b:=⟨_,rfl⟩;have c:b=true↔∀x∈xs,QX x=true:=by
  rw[<- hb,UW,Uq];rfl
 rw[hb] at d;generalize (xs.map QX).map D.bl=bs at a d;generalize xs.map D.str=ds at a i f g ⊢;cases b with
 |false =>
  refine⟨false,by simp[xE,yU,f,a,d],?_⟩;constructor
  .intro z;cases z
  .intro z;exact c.mpr z.1
 |true =>
  refine⟨decide (n=xs.length),?_,?_⟩
  .have e:decide ((n:Int)=(xs.length:Int))=decide (n=xs.length):=decide_eq_decide.mpr ();simp[xE,yU,f,a,d,i] at g ⊢;simp[g];lia
  .rw[decide_eq_true_iff,j];exact⟨λz=>⟨c.mp rfl,z⟩,λz=>z.2⟩
def PQ {ps:List Pl}(S:SnB ps):y0 [JB ps]=qf (gZ ps) "BadName" := by
 have s:=S.len;have g:=JV (show ps.length<=1000 from ());have k0:js (.one 0) (jb (TF "Plan" "name") (Tn 0)) [none] (ps.map J7)=.ok ((ps.map (·.name)).map .str):=by
  rw[Zw];exact Q7 λp _=>by simp
 obtain⟨b,a0,j⟩:=G7 (xs:=ps.map (·.name)) (λx hx=>by
  obtain⟨p,hp,rfl⟩:=Ja.mp hx;exact(S.pl p hp).nm) (by rw[Zql];lia)
 generalize (ps.map (·.name)).map D.str=ns at k0 a0;cases b with
 |false =>
  rw[Kz λz=>by have:=j.mpr z.1;cases this];simp[y0,yV,g,k0,a0]
 |true =>
  have a:(j4 (.one 1) (jq (Q1 (Jx (KI xE (Jt (Ts T6 (jb (TF "Plan" "givens") (Tn 1)) (Q5 [none,none,none] (iS (jb (TF "Plan" "rows") (Tn 1))) (.tup [0,1,2]) (Tn 0))) Tp)))) (JL "BadName" (dC (.str "a thing's name is no name or stands twice in its plan"))) JA) (ps.map J7) [~~~(JB ps),none]).bind jT=qf (gZ ps) "BadName" := by
   refine Wi (R:=λz=>z.bind jT=qf (gZ ps) "BadName") (P:=λi sd=>(∀p∈ps.take i,fB (wh p))/\∃e:Option SV,sd=[~~~(JB ps),e]) ⟨λp hp=>by simp at hp,none,rfl⟩ ?_ ?_
   .rintro sd ⟨h,e,rfl⟩;rw[Zql,Uu] at h;rw[VX ⟨j.mp rfl,h⟩];rfl
   .rintro i x sd hx ⟨h,e,rfl⟩;obtain⟨p,hp,rfl⟩:=QK hx;have l:=Uh hp;have P:=S.pl p l;have t:=P.sz;have m:=JV (show p.rows.length<=1000 from ());have k1:js (.tup [0,1,2]) (Tn 0) [none,none,none] (p.rows.map T8)=.ok ((p.rows.map (·.1)).map .str):=by
     rw[Zw];exact Q7 λr _=>by simp
    have d:T6 (.lst (p.givens.map .str)) (.lst ((p.rows.map (·.1)).map .str))=some (.lst ((wh p).map .str)):=by
     unfold wh;rw[Uc];exact Zd (small (by rw[Zql,Zql,Zql];lia))
    obtain⟨o,f,c⟩:=G7 (Ps P) (by have:=Pr P;lia);generalize (wh p).map D.str=zs at d f;generalize (p.rows.map (·.1)).map D.str=ys at k1 d;cases o with
    |true =>
     refine .inl ⟨[~~~(JB ps),~~~(J7 p)],by simp[m,k1,d,f],λq n=>?_,_,rfl⟩;rw[Us,hp] at n;rcases Jb.mp n with z|z
     .exact h q z
     .rw[Jc.mp z];exact c.mp rfl
    |false =>
     refine .inr ⟨"BadName",[],by simp[m,k1,d,f],?_⟩;rw[Kz λz=>by have:=c.mpr (z.2 p l);cases this];rfl
  simp[y0,yV,g,k0,a0] at a ⊢;simp[a]
def G8 {x:Str}(h:TxtOk 20 x):(reprText x).length<=400:=by
 have b:=StrLaws.reprText_len x λc a=>UO (xG.mp h.asc c a) (by decide);have:=h.len;lia
def uP {x c:Str}(h:TxtOk 20 x)(g:c.length<=100){i:Nat}{sd:SD}(b:Tn i sd=.ok (.str x)):∃d,(j5 Q2 (Tn i) (TL c ja)) Str.empty sd=.ok d:=by
 have r:=G8 h;have j:(Str.empty:Str).length=0:=rfl;have e:(reprText x).length<=sizeLine:=small ();have f:((Str.empty:Str)++reprText x).length<=sizeLine:=small (by rw[JE];lia);have a:((Str.empty:Str)++reprText x++c).length<=sizeLine:=small (by rw[JE,JE];lia);refine⟨.str (Str.empty++reprText x++c),?_⟩;unfold j5;rw[b,Res.bind_ok];show(if(reprText x).length<=sizeLine/\((Str.empty:Str)++reprText x).length<=sizeLine then TL c ja ((Str.empty:Str)++reprText x) sd else .no)=_;rw[Zd ⟨e,f⟩];unfold TL;rw[Zd a];unfold ja;rw[Zd a]
def wA {x a c:Str}(h:TxtOk 20 x)(l:a.length<=100)(m:c.length<=100){i:Nat}{sd:SD}(f:Tn i sd=.ok (.str x)):∃d,(TL a (j5 Q2 (Tn i) (TL c ja))) Str.empty sd=.ok d:=by
 have r:=G8 h;have n:(Str.empty:Str).length=0:=rfl;have a0:((Str.empty:Str)++a).length<=sizeLine:=small (by rw[JE];lia);have g:(reprText x).length<=sizeLine:=small ();have j:((Str.empty:Str)++a++reprText x).length<=sizeLine:=small (by rw[JE,JE];lia);have e:((Str.empty:Str)++a++reprText x++c).length<=sizeLine:=small (by rw[JE,JE,JE];lia);refine⟨.str (Str.empty++a++reprText x++c),?_⟩;unfold TL;rw[Zd a0];unfold j5;rw[f,Res.bind_ok];show(if(reprText x).length<=sizeLine/\((Str.empty:Str)++a++reprText x).length<=sizeLine then(λb sd=>if(b++c).length<=sizeLine then ja (b++c) sd else .no) ((Str.empty:Str)++a++reprText x) sd else .no)=_;rw[Zd ⟨g,j⟩];show(if((Str.empty:Str)++a++reprText x++c).length<=sizeLine then _ else _)=_;rw[Zd e];unfold ja;rw[Zd e]
def PR {p:Pl}(S:Sn p):yb [J7 p]=qf (vl p) "BadPlan" := by
 have H:xn (.int 10) (.int 30)=some (.int 1000000000000000000000000000000):=rfl;have J:(" has not 1 to 40 items" : Str).length<=100:=by decide +kernel
 have K:("an item of " : Str).length<=100:=by decide +kernel
 have L:(" is no thing ahead of it" : Str).length<=100:=by decide +kernel
 have M:("a wait of " : Str).length<=100:=by decide +kernel
 have N:(" has more than 30 figures" : Str).length<=100:=by decide +kernel
 obtain⟨inner,hI⟩:∃b,(T1 (jq (Q1 (Jx (QF qA z9 (dC (.int 0)) (Tn 5) (Tn 1)))) (JL "BadPlan" ((TL "an item of " (j5 Q2 (Tn 2) (TL " is no thing ahead of it" ja))) Str.empty)) JA) (jq (Jx (Ts vd (T3 yq (Jt (Tn 6) Tp)) (Ts xn (dC (.int 10)) (dC (.int 30))))) (JL "BadPlan" ((TL "a wait of " (j5 Q2 (Tn 2) (TL " has more than 30 figures" ja))) Str.empty)) JA))=b:=⟨_,rfl⟩;have u:(j4 (.tup [2,3,4]) (T1 (jq (Q1 (Jx (QF qA qA (dC (.int 1)) (T3 T5 (Jt (Tn 4) Tp)) (dC (.int 40))))) (JL "BadPlan" ((j5 Q2 (Tn 2) (TL " has not 1 to 40 items" ja)) Str.empty)) JA) (T1 (j9 (iS (Tn 4)) (.tup [5,6]) inner) (yD 1 (dC (.int 1))))) (p.rows.map T8) [~~~(J7 p),~~~(.int p.givens.length),none,none,none,none,none]).bind jT=qf (vl p) "BadPlan" := by
  refine Wi (R:=λz=>z.bind jT=qf (vl p) "BadPlan") (P:=λi sd=>(∀(k:Nat) (r:Str×Str×Jr),k<i->p.rows[k]? = some r->nj ((p.givens.length:Int)+k) r.2.2)/\∃u2 u3 u4 d e:Option SV,sd=[~~~(J7 p),~~~(.int ((p.givens.length:Int)+i)),u2,u3,u4,d,e]) ⟨λk r h=>(),none,none,none,none,none,()⟩ ?_ ?_
  .rintro sd ⟨h,u2,u3,u4,d,e,rfl⟩;rw[Zql] at h;have ok:vl p:=λk r E=>h k r (Jd.mp E).1 E;rw[VX ok];rfl
  .rintro i x sd hx ⟨h,u2,u3,u4,d,e,rfl⟩;obtain⟨r,A,rfl⟩:=QK hx;have O:=Uh A;have F:=S.rn r O;obtain⟨g,hg⟩:∃g:Int,(p.givens.length:Int)+i=g:=⟨_,rfl⟩;rw[hg];have B:T5 [jz r.2.2]=some (.int r.2.2.length):=by show some (D.int (r.2.2.map qu).length)=_;rw[Zql]
   by_cases c:1<=r.2.2.length/\r.2.2.length<=40
   .have v:(1:Int)<=(r.2.2.length:Int):=()
    have C:(r.2.2.length:Int)<=40:=()
    have G:(∃f l:Option SV,j4 (.tup [5,6]) inner (r.2.2.map qu) [~~~(J7 p),~~~(.int g),~~~(.str r.1),~~~(.str r.2.1),~~~(jz r.2.2),d,e]=.ok (.next [~~~(J7 p),~~~(.int g),~~~(.str r.1),~~~(.str r.2.1),~~~(jz r.2.2),f,l])/\ItOk g r.2.2)\/(j4 (.tup [5,6]) inner (r.2.2.map qu) [~~~(J7 p),~~~(.int g),~~~(.str r.1),~~~(.str r.2.1),~~~(jz r.2.2),d,e]=.ex "BadPlan" []/\¬ItOk g r.2.2):=by
     refine Wi (R:=λz=>(∃f l:Option SV,z=.ok (.next [~~~(J7 p),~~~(.int g),~~~(.str r.1),~~~(.str r.2.1),~~~(jz r.2.2),f,l])/\ItOk g r.2.2)\/(z=.ex "BadPlan" []/\¬ItOk g r.2.2)) (P:=λj sd=>(∀q∈r.2.2.take j,(0<=q.1/\q.1<g) /\ -1000000000000000000000000000000<q.2/\q.2<1000000000000000000000000000000)/\∃d e:Option SV,sd=[~~~(J7 p),~~~(.int g),~~~(.str r.1),~~~(.str r.2.1),~~~(jz r.2.2),d,e]) ⟨λq m=>by simp at m,d,e,rfl⟩ ?_ ?_
     .rintro sd ⟨h,f,l,rfl⟩;rw[Zql,Uu] at h;exact .inl ⟨f,l,rfl,λq m=>(h q m).1,λq m=>(h q m).2⟩
     .rintro j y sd Q ⟨h,f,l,rfl⟩;obtain⟨q,m,rfl⟩:=QK Q;have I:q∈r.2.2:=Uh m;obtain⟨T,n⟩:=wA F K L (i:=2) (sd:=[~~~(J7 p),~~~(.int g),~~~(.str r.1),~~~(.str r.2.1),~~~(jz r.2.2),~~~(.int q.1),~~~(.int q.2)]) rfl;obtain⟨Z,s⟩:=wA F M N (i:=2) (sd:=[~~~(J7 p),~~~(.int g),~~~(.str r.1),~~~(.str r.2.1),~~~(jz r.2.2),~~~(.int q.1),~~~(.int q.2)]) rfl;subst hI;generalize TL "an item of " _=j1 at n ⊢;generalize TL "a wait of " _=j2 at s ⊢;by_cases a:0<=q.1/\q.1<g
      .obtain⟨o,w⟩:=a;by_cases b: -1000000000000000000000000000000<q.2/\q.2<1000000000000000000000000000000
       .have ab:¬(1000000000000000000000000000000:Int)<=(if q.2<0 then -q.2 else q.2):=by split<;>lia
        refine .inl ⟨[~~~(J7 p),~~~(.int g),~~~(.str r.1),~~~(.str r.2.1),~~~(jz r.2.2),~~~(.int q.1),~~~(.int q.2)],by simp[o,w,H,ab],λz t=>?_,_,_,rfl⟩;rw[Us,m] at t;rcases Jb.mp t with y|y
        .exact h z y
        .rw[Jc.mp y];exact⟨⟨o,w⟩,b⟩
       .have ab:(1000000000000000000000000000000:Int)<=(if q.2<0 then -q.2 else q.2):=by split<;>lia
        exact .inr ⟨"BadPlan",[],by simp[o,w,H,ab,s],.inr ⟨rfl,λz=>b (z.far q I)⟩⟩
      .refine .inr ⟨"BadPlan",[],?_,.inr ⟨rfl,λz=>a (z.rng q I)⟩⟩;by_cases o:0<=q.1
       .have w:¬q.1<g:=λz=>a ⟨o,z⟩;simp[o,w,n]
       .simp[o,n]
    rcases G with ⟨f,l,s,ok⟩|⟨s,U⟩
    .have X:g+1=(p.givens.length:Int)+((i+1:Nat):Int):=()
     refine .inl ⟨[~~~(J7 p),~~~(.int (g+1)),~~~(.str r.1),~~~(.str r.2.1),~~~(jz r.2.2),f,l],by simp[B,v,C,s],λk z E t=>?_,_,_,_,_,_,by rw[X]⟩;by_cases Y:k<i
     .exact h k z Y t
     .have:k=i:=()
      subst this;rw[A] at t;cases t;exact⟨c,by rw[hg];exact ok⟩
    .refine .inr ⟨"BadPlan",[],by simp[B,v,C,s],?_⟩;rw[Kz λz=>U (by rw[<- hg];exact(z i r A).2)];rfl
   .obtain⟨T,n⟩:=uP F J (i:=2) (sd:=[~~~(J7 p),~~~(.int g),~~~(.str r.1),~~~(.str r.2.1),~~~(jz r.2.2),d,e]) rfl;generalize j5 Q2 _ _=j1 at n ⊢;refine .inr ⟨"BadPlan",[],?_,?_⟩
    .by_cases v:(1:Int)<=(r.2.2.length:Int)
     .have C:¬(r.2.2.length:Int)<=40:=λz=>c ⟨(),()⟩;simp[B,v,C,n]
     .simp[B,v,n]
    .rw[Kz λz=>c (z i r A).1];rfl
 subst hI;simp[yb,zz] at u ⊢;simp[u]
def PU {ps:List Pl}(S:SnB ps):yc [JB ps]=qf (vh ps) "BadPlan" := by
 by_cases c:1<=ps.length/\ps.length<=20
 .have f:(1:Int)<=(ps.length:Int):=()
  have o:(ps.length:Int)<=20:=()
  have d:(j4 (.one 1) (T1 (jq (Q1 (Jx (QF qA qA (dC (.int 1)) (T3 T5 (Jt (jb (TF "Plan" "givens") (Tn 1)) Tp)) (dC (.int 12))))) (JL "BadPlan" (dC (.str "a plan has 1 to 12 given things"))) JA) (T1 (jq (Q1 (Jx (QF qA qA (dC (.int 1)) (T3 T5 (Jt (jb (TF "Plan" "rows") (Tn 1)) Tp)) (dC (.int 40))))) (JL "BadPlan" (dC (.str "a plan has 1 to 40 rows"))) JA) (VH (J0 yb (Jt (Tn 1) Tp))))) (ps.map J7) [~~~(JB ps),none]).bind jT=qf (vh ps) "BadPlan" := by
   refine Wi (R:=λz=>z.bind jT=qf (vh ps) "BadPlan") (P:=λi sd=>(∀p∈ps.take i,nA p)/\∃s:Option SV,sd=[~~~(JB ps),s]) ⟨λp hp=>by simp at hp,none,rfl⟩ ?_ ?_
   .rintro sd ⟨h,s,rfl⟩;rw[Zql,Uu] at h;rw[VX ⟨c,h⟩];rfl
   .rintro i x sd hx ⟨h,s,rfl⟩;obtain⟨p,hp,rfl⟩:=QK hx;have j:=Uh hp;have l:=PR (S.pl p j);by_cases g:1<=p.givens.length/\p.givens.length<=12
    .have a:(1:Int)<=(p.givens.length:Int):=()
     have b:(p.givens.length:Int)<=12:=()
     by_cases r:1<=p.rows.length/\p.rows.length<=40
     .have e:(1:Int)<=(p.rows.length:Int):=()
      have m:(p.rows.length:Int)<=40:=()
      by_cases n:vl p
      .rw[VX n] at l;refine .inl ⟨[~~~(JB ps),~~~(J7 p)],by simp[a,b,e,m,l],λq t=>?_,_,rfl⟩;rw[Us,hp] at t;rcases Jb.mp t with z|z
       .exact h q z
       .rw[Jc.mp z];exact⟨g,r,n⟩
      .rw[Kz n] at l;refine .inr ⟨"BadPlan",[],by simp[a,b,e,m,l],?_⟩;rw[Kz λz=>n (z.2 p j).2.2];rfl
     .refine .inr ⟨"BadPlan",[],?_,?_⟩
      .by_cases e:(1:Int)<=(p.rows.length:Int)
       .have m:¬(p.rows.length:Int)<=40:=λz=>r ⟨(),()⟩;simp[a,b,e,m]
       .simp[a,b,e]
      .rw[Kz λz=>r (z.2 p j).2.1];rfl
    .refine .inr ⟨"BadPlan",[],?_,?_⟩
     .by_cases a:(1:Int)<=(p.givens.length:Int)
      .have b:¬(p.givens.length:Int)<=12:=λz=>g ⟨(),()⟩;simp[a,b]
      .simp[a]
     .rw[Kz λz=>g (z.2 p j).1];rfl
  simp[yc,yy] at d ⊢;simp[f,o,d]
 .rw[Kz λz=>c z.1];by_cases f:(1:Int)<=(ps.length:Int)
  .have o:¬(ps.length:Int)<=20:=λz=>c ⟨(),()⟩;simp[yc,yy,f,o]
  .simp[yc,yy,f]
def PV {ps:List Pl}(S:SnB ps)(L:(ps.map (·.name)).Nodup):yX [JB ps]=qf (vg ps) "BadPart" := by
 have M:(" is made by no plan ahead that has as many given things as it has items" : Str).length<=100:=by decide +kernel
 obtain⟨inner,hI⟩:∃b,(jq (Qv (Jx (KI xD (Jt (Tn 4) Tp))) (Jx (Ts x9 (XE [1] (Xj (Tn 1) (Tn 4))) (T3 T5 (Jt (Tn 5) Tp))))) (JL "BadPart" ((j5 Q2 (Tn 3) (TL " is made by no plan ahead that has as many given things as it has items" ja)) Str.empty)) JA)=b:=⟨_,rfl⟩;have g:(j4 (.one 2) (T1 (j9 (iS (jb (TF "Plan" "rows") (Tn 2))) (.tup [3,4,5]) inner) (Wy 1 (jb (TF "Plan" "name") (Tn 2)) (T3 T5 (Jt (jb (TF "Plan" "givens") (Tn 2)) Tp)))) (ps.map J7) [~~~(JB ps),some (.own false (.dct [] [])),none,none,none,none]).bind jT=qf (vg ps) "BadPart" := by
  refine Wi (R:=λz=>z.bind jT=qf (vg ps) "BadPart") (P:=λi sd=>(∀(k:Nat) (p:Pl),k<i->ps[k]? = some p->∀r∈p.rows,zG (QU (ps.take k)) r)/\∃u2 u3 u4 a:Option SV,sd=[~~~(JB ps),some (.own false (dT (QU (ps.take i)))),u2,u3,u4,a]) ⟨λk p h=>(),none,none,none,none,rfl⟩ ?_ ?_
  .rintro sd ⟨h,u2,u3,u4,a,rfl⟩;rw[Zql] at h;have ok:vg ps:=λk p m=>h k p (Jd.mp m).1 m;rw[VX ok];rfl
  .rintro i x sd hx ⟨h,u2,u3,u4,a,rfl⟩;obtain⟨p,hp,rfl⟩:=QK hx;have N:=Uh hp;have P:=S.pl p N;have H:=(Jd.mp hp).1;have l2:=S.len;obtain⟨t,ht⟩:∃t,QU (ps.take i)=t:=⟨_,rfl⟩;have O:p.name∉t.map (·.1):=by
    rw[<- ht,Dg];intro z;obtain⟨y,o,Q⟩:=Ja.mp z;obtain⟨j,T,I⟩:=U4 o;have U:=U9.mp (Vn.mp (Vq.mp L));have s:j<i:=by rw[Uk] at T;lia
    have:=U j i () H s;rw[List.getElem_take] at I;rw[Zqg H] at hp;cases hp;rw[I] at this;exact this Q
   have tl:t.length<=920:=by
    rw[<- ht];unfold QU;rw[Zql,Uk];lia
   rw[ht];have u:(∃c d e:Option SV,j4 (.tup [3,4,5]) inner (p.rows.map T8) [~~~(JB ps),some (.own false (dT t)),~~~(J7 p),u3,u4,a]=.ok (.next [~~~(JB ps),some (.own false (dT t)),~~~(J7 p),c,d,e])/\∀r∈p.rows,zG t r)\/(j4 (.tup [3,4,5]) inner (p.rows.map T8) [~~~(JB ps),some (.own false (dT t)),~~~(J7 p),u3,u4,a]=.ex "BadPart" []/\¬ ∀r∈p.rows,zG t r):=by
    refine Wi (R:=λz=>(∃c d e:Option SV,z=.ok (.next [~~~(JB ps),some (.own false (dT t)),~~~(J7 p),c,d,e])/\∀r∈p.rows,zG t r)\/(z=.ex "BadPart" []/\¬ ∀r∈p.rows,zG t r)) (P:=λj sd=>(∀r∈p.rows.take j,zG t r)/\∃u3 u4 a:Option SV,sd=[~~~(JB ps),some (.own false (dT t)),~~~(J7 p),u3,u4,a]) ⟨λq w=>by simp at w,u3,u4,a,rfl⟩ ?_ ?_
    .rintro sd ⟨h,c,d,e,rfl⟩;rw[Zql,Uu] at h;exact .inl ⟨c,d,e,rfl,h⟩
    .rintro j y sd o ⟨h,c,d,e,rfl⟩;obtain⟨r,J,rfl⟩:=QK o;have l:r∈p.rows:=Uh J;have f:=wG (P.rh r l).asc;have A:T5 [jz r.2.2]=some (.int r.2.2.length):=by show some (D.int (r.2.2.map qu).length)=_;rw[Zql]
     have v:=Wo t r.2.1;have B:Cp (dT t)=.ok (t.map λp=>.inr p.1,t.map λp=>.int p.2):=rfl;have step:zG t r->∀q∈p.rows.take (j+1),zG t q:=λw q K=>by
      rw[Us,J] at K;rcases Jb.mp K with z|z
      .exact h q z
      .rw[Jc.mp z];exact w
     obtain⟨d1,C⟩:=uP (P.rn r l) M (i:=3) (sd:=[~~~(JB ps),some (.own false (dT t)),~~~(J7 p),~~~(.str r.1),~~~(.str r.2.1),~~~(jz r.2.2)]) rfl;subst hI;generalize j5 Q2 _ _=j1 at C ⊢;cases q:jX r.2.1 with
     |false =>
      rw[q] at f;exact .inl ⟨[~~~(JB ps),some (.own false (dT t)),~~~(J7 p),~~~(.str r.1),~~~(.str r.2.1),~~~(jz r.2.2)],by simp[f],step (λz=>nomatch q.symm.trans z),_,_,_,rfl⟩
     |true =>
      rw[q] at f;cases k:jx t r.2.1 with
      |none =>
       rw[k] at v;have X:x9 .non (.int r.2.2.length)=some (.bl true):=by
        have z:sameD .non (.int r.2.2.length)=false:=by
         rw[z5];intro z;cases z
        rw[A0 rfl rfl,z];rfl
       exact .inr ⟨"BadPart",[],by simp[f,A,B,v,Ki,X,C],.inr ⟨rfl,λz=>by have:=z r l q;rw[k] at this;cases this⟩⟩
      |some n =>
       rw[k] at v;by_cases E:n=(r.2.2.length:Int)
       .subst E;exact .inl ⟨[~~~(JB ps),some (.own false (dT t)),~~~(J7 p),~~~(.str r.1),~~~(.str r.2.1),~~~(jz r.2.2)],by simp[f,A,B,v,Ki],step (λ_=>k),_,_,_,rfl⟩
       .exact .inr ⟨"BadPart",[],by simp[f,A,B,v,Ki,E,C],.inr ⟨rfl,λz=>by have:=z r l q;rw[k] at this;exact E (Zqi this)⟩⟩
   rcases u with ⟨c,d,e,F,ok⟩|⟨F,Y⟩
   .have pt:=ZL O (p.givens.length:Int);have Z:=JV (show t.length<=1000 from ());have tk:QU (ps.take (i+1))=t++[(p.name,(p.givens.length:Int))]:=by
     rw[Us,hp,<- ht];unfold QU;rw[Uc];rfl
    have gk:zH (some (some (.own false (dT t))))=.ok (t.map λp=>.inr p.1,t.map λp=>.int p.2):=rfl;refine .inl ⟨[~~~(JB ps),some (.own false (dT (t++[(p.name,(p.givens.length:Int))]))),~~~(J7 p),c,d,e],?_,λk z m G=>?_,_,_,_,_,by rw[tk]⟩
    .rw[<- pt];simp[F,gk,Z]
    .by_cases ki:k<i
     .exact h k z ki G
     .have:k=i:=()
      subst this;rw[hp] at G;cases G;rw[ht];exact ok
   .refine .inr ⟨"BadPart",[],by simp[F],?_⟩;rw[Kz λz=>Y (by rw[<- ht];exact z i p hp)];rfl
 subst hI;simp[yX,zy,Wh] at g ⊢;simp[g]
def PX {ps:List Pl}(W:WB ps):yW [JB ps]=qf (∀q∈jy ps,q.2<=2000) "TooLong" := by
 have n:("plan " : Str).length<=100:=by decide +kernel
 have o:(" has a weight of more than 2000" : Str).length<=100:=by decide +kernel
 have f:=kH W;obtain⟨t,ht⟩:∃t,jy ps=t:=⟨_,rfl⟩;have ok:∀q∈t,TxtOk 20 q.1:=λq a=>by
  have g:q.1∈(jy ps).map (·.1):=by rw[ht];exact Ja.mpr ⟨q,a,rfl⟩
  rw[Xp] at g;obtain⟨p,hp,e⟩:=Ja.mp g;rw[<- e];exact(W.ok p hp).1.mono ()
 rw[ht] at f ⊢;have b:(j4 (.tup [1,2]) (jq (Jx (Ts yK (Tn 2) (dC (.int 2000)))) (JL "TooLong" ((TL "plan " (j5 Q2 (Tn 1) (TL " has a weight of more than 2000" ja))) Str.empty)) JA) (t.map λp=>D.tup [.str p.1,.int p.2]) [~~~(JB ps),none,none]).bind jT=qf (∀q∈t,q.2<=2000) "TooLong" := by
  refine Wi (R:=λz=>z.bind jT=qf (∀q∈t,q.2<=2000) "TooLong") (P:=λi sd=>(∀q∈t.take i,q.2<=2000)/\∃d u2:Option SV,sd=[~~~(JB ps),d,u2]) ⟨λq a=>by simp at a,none,none,rfl⟩ ?_ ?_
  .rintro sd ⟨h,d,u2,rfl⟩;rw[Zql,Uu] at h;rw[VX h];rfl
  .rintro i x sd hx ⟨h,d,u2,rfl⟩;obtain⟨q,a,rfl⟩:=QK hx;have j:=Uh a;obtain⟨r,l⟩:=wA (ok q j) n o (i:=1) (sd:=[~~~(JB ps),~~~(.str q.1),~~~(.int q.2)]) rfl;generalize TL "plan " _=j1 at l ⊢;by_cases c:(2000:Int)<q.2
   .refine .inr ⟨"TooLong",[],by simp[c,l],?_⟩;rw[Kz λz=>by have:=z q j;lia];rfl
   .refine .inl ⟨[~~~(JB ps),~~~(.str q.1),~~~(.int q.2)],by simp[c],λz m=>?_,_,_,rfl⟩;rw[Us,a] at m;rcases Jb.mp m with y|y
    .exact h z y
    .rw[Jc.mp y];lia
 have it:Z3 (dT t)=.ok (t.map λp=>D.tup [.str p.1,.int p.2]):=by rw[<- G3];rfl
 simp[yW,zx,f,it] at b ⊢;simp[b]
def bx {x s:Str}{i:Nat}:StrLaws.At x s x.length i↔i+s.length<=x.length/\(x.cps.toList.drop i).take s.length=s.cps.toList:=by
 unfold StrLaws.At;rw[StrLaws.subAt_eq,Yl]
theorem G9 {x s:Str}{c:Nat}{t:Yg}(j:s.cps.toList=c::t):∀(rs:Yh) (r:Str) (a:Nat) (g:Yg) (f:Nat),a<=x.length->x.cps.toList.drop a=(Txt.join s (r::rs)).cps.toList->(∀p∈r::rs,c∉p.cps.toList)->StrLaws.ChainG x s x.length a g f->(∀k,f<=k->¬StrLaws.At x s x.length k)->StrLaws.partsFrom x s.length a g=r::rs
 | [],r,a,[],f,ha,hx,fr,hG,hn=>by
  show[Builtin.Str.strSub x a x.length]=[r]
  congr 1
  apply Km;rw[StrLaws.strSub_toList,hx,Kn];apply UF;have:=Zt List.length hx;rw[Kn,Uy] at this;rw[<- this];exact Zf _
 | [],r,a,d::cs,f,ha,hx,fr,hG,hn=>by
  exfalso;have m:=(bx.mp hG.2.1).2;have e:x.cps.toList.drop d=r.cps.toList.drop (d-a):=by
   rw[<- Kn s r,<- hx,U0]
   congr 1
   have:=hG.1;lia
  rw[e,j] at m;have:c∈(r.cps.toList.drop (d-a)).take s.length:=by rw[m];exact Zqs
  exact fr r Zqs (UR (UD this))
 |r2::rs,r,a,g,f,ha,hx,fr,hG,hn=>by
  rw[KW,JM,JM] at hx;have u:s.length=t.length+1:=by
   show s.cps.size=_;rw[<- Ud,j];rfl
  have v:r.length=r.cps.toList.length:=(Ud).symm;have w:=Zt List.length hx;have y:x.cps.toList.length=x.length:=Ud;have i:s.cps.toList.length=s.length:=Ud;rw[Uy,Ua,Ua,y,i] at w;have o:x.cps.toList.drop (a+r.length)=s.cps.toList++(Txt.join s (r2::rs)).cps.toList:=by
   rw[<- U0,hx,v,Uo,List.drop_left]
  have q:StrLaws.At x s x.length (a+r.length):=by
   refine bx.mpr ⟨(),?_⟩;rw[o,<- i,Ve]
  have A:∀k,a<=k->k<a+r.length->¬StrLaws.At x s x.length k:=λk K m B=>by
   have n:=(bx.mp B).2;have e:x.cps.toList.drop k=(r.cps.toList++(s.cps.toList++(Txt.join s (r2::rs)).cps.toList)).drop (k-a):=by
    rw[<- Uo,<- hx,U0]
    congr 1
    lia
   rw[e,List.drop_append_of_le_length (),j,u] at n;obtain⟨b,l,hl⟩:∃b l,r.cps.toList.drop (k-a)=b::l:=by
    cases C:r.cps.toList.drop (k-a) with
    |nil =>
     have z:=Zt List.length C;rw[Uy,ZC] at z;lia
    |cons b l=>exact⟨b,l,rfl⟩
   rw[hl,List.cons_append,List.take_succ_cons] at n;injection n with h4 _
   exact fr r Zqs (UR (by rw[hl,h4];exact Zqs))
  cases g with
  |nil =>
   have L:f=a:=hG;exact Zn q (hn _ ())
  |cons d cs =>
   obtain⟨E,F,G,H⟩:=hG;have I:d=a+r.length:=by
    rcases Nat.lt_trichotomy d (a+r.length) with h|h|h
    .exact Zn F (A d E h)
    .exact h
    .exact Zn q (G _ () h)
   subst I;have J:Builtin.Str.strSub x a (a+r.length)=r:=by
    apply Km;rw[StrLaws.strSub_toList,hx,show a+r.length-a=r.cps.toList.length by lia,Uo,Ve]
   show Builtin.Str.strSub x a (a+r.length)::StrLaws.partsFrom x s.length (a+r.length+s.length) cs=_;rw[J,G9 j rs r2 (a+r.length+s.length) cs f () (by rw[<- U0,o,<- i,List.drop_left]) (λp hp=>fr p (Zqm _ hp)) H hn]
def Ws {s:Str}{c:Nat}{t:Yg}(d:s.cps.toList=c::t)(e:s.cps.all (· < 256)=true){r:Str}{rs:Yh}(g:∀p∈r::rs,c∉p.cps.toList):Txt.split (Txt.join s (r::rs)) s=r::rs:=by
 have m:s.length=t.length+1:=by
  show s.cps.size=_;rw[<- Ud,d];rfl
 obtain⟨f,i,j⟩:=StrLaws.occ_tight (Txt.join s (r::rs)) s ();have a:=G9 d rs r 0 _ f (Ug _) rfl g i j;unfold Txt.split
 split
 .rename_i b;cases rs with
  |nil=>rw[Kn]
  |cons n rs =>
   rw[KW] at b;simp only[Ut,decide_eq_true_eq,JE] at b;rcases b with h|h
   .omega
   .exfalso;unfold Builtin.Str.strKind at h;rw[Zd e] at h
    split at h
    .omega
    .split at h<;>lia
 .split
  .rename_i l;rw[List.isEmpty_iff.mp l] at a;refine Eq.trans ?_ a;show[_]=[_];rw[StrLaws.sub_whole]
  .rw[StrLaws.partsBetween_eq];exact a
def GA (a b:Str):Txt.startswith (a++b) a=true:=by
 show(decide (0+a.length<=(a++b).length)&&Builtin.Str.subAt (a++b) a 0)=true;rw[StrLaws.subAt_eq,JE,Zp (),UZ,Yl,JM,List.drop_zero];exact(Zt (List.take · _) rfl).trans (by rw[show a.length=a.cps.toList.length from (Ud).symm,Ve])
def GB {x y:Str}(h:(x.cps.toList).take y.length≠y.cps.toList):Txt.startswith x y=false:=by
 show(decide (0+y.length<=x.length)&&Builtin.Str.subAt x y 0)=false;rw[StrLaws.subAt_eq,List.drop_zero,beq_eq_false_iff_ne.mpr h,U3]
def Bq {x y:Str}(hx:asc x)(a:asc y):x9 (.str x) (.str y)=some (.bl (!decide (x=y))):=by
 rw[A0 (K8 hx) (K8 a)];by_cases z:x=y
 .rw[z,VM,Zp rfl]
 .rw[Zo z,z5.mpr λq=>z (D.str.inj q)]
def Dh {x y:Str}(hx:asc x)(a:asc y):qi (.str x) (.str y)=some (.bl (decide (x=y))):=by
 rw[Az (K8 hx) (K8 a)];by_cases z:x=y
 .rw[z,VM,Zp rfl]
 .rw[Zo z,z5.mpr λq=>z (D.str.inj q)]
def GC (a b:Str):Txt.slice (a++b) (some (a.length:Int)) none=b:=by
 have l:(a++b).cps.toList.length=a.length+b.length:=by rw[Ud];exact JE a b
 have e:Txt.slice (a++b) (some (a.length:Int)) none=StrLaws.sliceText (a++b) (some (a.length:Int)) none:=rfl;rw[e,StrLaws.sliceText_from ⟨(),by rw[l];lia⟩];apply Km;show(((a++b).cps.toList.drop _).take _)=_;rw[l,JM,Ul,show a.length=a.cps.toList.length from (Ud).symm,List.drop_left];refine UF ?_;have:b.length=b.cps.toList.length:=(Ud).symm;lia
def PY {x y:Str}(hx:x.cps.toList=43::y.cps.toList)(b:NumText.AllDigits y.cps.toList):intText? x=intText? y:=by
 have low:∀c∈x.cps.toList,43<=c/\c<58:=by
  rw[hx];intro c a;rcases UB.mp a with z|z
  .omega
  .have:=b c z;lia
 have d:numTextOf x=x.cps.toList:=Zd (by
  rw[<- Vo,Uq];intro c a;have:=low c a;exact Zp ())
 have g:numSeenOf x=x.cps.toList:=by
  show(numTextOf x).takeWhile _=_;rw[d];exact NumText.takeWhile_all λc a=>bne_iff_ne.mpr (by have:=low c a;lia)
 obtain⟨i,j⟩:=numText_signs (x:=y) λc a=>.inr (b c a);have e:NumText.sign (x.cps.toList.dropWhile NumText.blank)=(false,y.cps.toList):=by rw[hx,NumText.dropWhile_of (by decide)];rfl
 have f:(NumText.sign (y.cps.toList.dropWhile NumText.blank))=(false,y.cps.toList):=by
  rw[NumText.dropWhile_digits b];cases h:y.cps.toList with
  |nil=>rfl
  |cons c cs =>
   have:=(h ▸ b).head;exact NumText.sign_of () ()
 unfold intText?;rw[d,g,i,j,show NumText.core x.cps.toList=NumText.core y.cps.toList by unfold NumText.core;rw[e,f],e,f,beq_self_eq_true,beq_self_eq_true]
theorem GD:∀m:Nat,1<=m->((Nat.toDigits 10 m).map Char.toNat).headD 0≠48
 |m,h=>by
  by_cases g:m<10
  .rw[Vt g];have:∀k:Fin 10,1<=k.val->([Nat.digitChar k.val].map Char.toNat).headD 0≠48:=by decide
   exact this ⟨m,g⟩ h
  .rw[Vu () (),Uc];have a:=GD (m / 10) ();cases e:(Nat.toDigits 10 (m / 10)).map Char.toNat with
   |nil =>
    have:=Zt List.length e;rw[Zql,ZC] at this;have:=Vv (b:=10) (n:=m / 10);lia
   |cons c cs=>rw[e] at a;exact a
termination_by m=>m
theorem GE:∀(k m:Nat),m<10 ^ (k+1)->(Nat.toDigits 10 m).length<=k+1
 | 0,m,h=>by rw[Vt ()];exact Zf _
 |k+1,m,h=>by
  by_cases g:m<10
  .rw[Vt g];exact Nat.le_add_left _ _
  .rw[Vu () (),Ua];have:=GE k (m / 10) (by rw[Va] at h;lia);exact Nat.add_le_add_right this 1
def PZ (m:Nat):1<=((Nat.toDigits 10 m).map Char.toNat).length:=by
 rw[Zql];exact Vv
def GF (m:Nat):NumText.AllDigits (jd (m:Int)).cps.toList:=by
 rw[Xr];intro c a;obtain⟨d,b,rfl⟩:=Ja.mp a;have:=Nat.isDigit_of_mem_toDigits (by decide) (by decide) b;simp only[Char.isDigit,ge_iff_le,Ub,decide_eq_true_eq] at this;exact⟨this.1,this.2⟩
structure FigT (d:Str)(m:Nat):Prop where
 lo:1<=d.length
 hi:d.length<=30
 hd:d.cps.toList.headD 0≠48
 all:NumText.AllDigits d.cps.toList
 val:NumText.digitsVal d.cps.toList=m
def GG {m:Nat}(a:1<=m)(b:m<1000000000000000000000000000000):FigT (jd (m:Int)) m:=by
 have l:(jd (m:Int)).length=(Nat.toDigits 10 m).length:=by
  show(jd (m:Int)).cps.size=_;rw[<- Ud,Xr,Zql]
 have p:=PZ m;rw[Zql] at p;exact⟨(),by rw[l];exact GE 29 m b,by rw[Xr];exact GD m a,GF m,by rw[Xr];exact W.KIN.val_back m⟩
def FigT.ok {d:Str}{m:Nat}(h:FigT d m):TxtOk 30 d:=⟨h.hi,xG.mpr λc a=>by have:=h.all c a;lia⟩
def FigT.plus {d:Str}{m:Nat}(h:FigT d m):intText? (("+" : Str)++d)=some (m:Int):=by
 have:=h.lo;rw[PY (y:=d) (by rw[JM];rfl) h.all,intText_digits h.all (λz=>by have:d.length=d.cps.toList.length:=(Ud).symm;rw[z] at this;simp at this;lia) (by have:=h.hi;lia),h.val]
def FigT.minus {d:Str}{m:Nat}(h:FigT d m):intText? (("-" : Str)++d)=some (-(m:Int)):=by
 have:=h.lo;have:=h.hi;rw[intText_neg (cs:=d.cps.toList) (by rw[JM];rfl) h.all (λz=>by have:d.length=d.cps.toList.length:=(Ud).symm;rw[z] at this;simp at this;lia) (by rw[JE];show 1+d.length<=_;lia),h.val]
def Di {d:Str}{m:Nat}(h:FigT d m):V6 [.str d]=.ok (.bl true):=by
 have j:=XL h.ok ();have o:(1:Int)<=(d.length:Int):=by have:=h.lo;lia
 have p:(d.length:Int)<=30:=by have:=h.hi;lia
 obtain⟨b,hx,e,w⟩:=AX (k:=0) h.ok () () ();have q:b≠48:=λz=>h.hd (by
  have e:d.cps.toList[0]? = some b:=e;cases l:d.cps.toList with
  |nil=>rw[l] at e;cases e
  |cons a x=>rw[l] at e;rw[<- z];exact Zqi e)
 have a0:b<128:=by have:=h.all b (Uh e);lia
 have r:x9 (.str ⟨#[b]⟩) (.str "0")=some (.bl true):=by
  rw[Bq (CF a0).asc (Qj (n:=1) (by decide +kernel)).asc,Zo λz=>q ?_]
  .rfl
  .have:(⟨#[b]⟩:Str).cps.toList=("0" : Str).cps.toList:=by rw[z]
   have: [b]=[48]:=this;injection this
 have s:yQ d=true:=h.ok.asc;have f:js (.one 0) (Ts (qh false) (Tn 0) (dC (.str "0123456789"))) [none] (ze d)=.ok ((d.cps.toList.map λc=>decide (c∈FG)).map .bl):=by
  rw[Zw];refine Q7 λc _=>?_;have g:=YU false c "0123456789";have g:qh false (.str ⟨#[c]⟩) (.str "0123456789")=some (.bl (decide (c∈FG))):=g;simp[g]
 have i:=YS (d.cps.toList.map λc=>decide (c∈FG));have t:(d.cps.toList.map λc=>decide (c∈FG)).all id=true:=by
  rw[UW,Uq];intro c u;have z:=h.all c u;exact Zp (G1 (by unfold yo;rw[Zp z.1,Zp ()];rfl))
 rw[t] at i;generalize (d.cps.toList.map λc=>decide (c∈FG)).map D.bl=bs at f i;have v:(ze d).length<sizeLine:=JV (by unfold ze;rw[Zql,Ud];have:d.length=d.cps.size:=rfl;have:=h.hi;lia);simp[V6,WM,j,o,p,hx,r,s,v,f,i]
def Ra {x:Str}(h:ji x){c:Nat}(a:c∈x.cps.toList):(y8 c||yo c)=true:=by
 have z:=h.2;unfold QX at z;simp only[Ub] at z;exact Uq.mp z.2.2.2.2 c a
def Vx {x:Str}(h:ji x){c:Nat}(a:(y8 c||yo c)=false):c∉x.cps.toList:=λz=>by rw[Ra h z] at a;cases a
def Br {x:Str}(h:ji x):j8 [.str x]=.ok (.bl true):=by rw[zr h.1 (),Bp h.2]
def GH {n:Nat}{x:Str}{c:Nat}(h:TxtOk n x)(a:n<=1000)(b:c∈x.cps.toList)(d:c∉LT)(e:c∉FG):j8 [.str x]=.ok (.bl false):=by
 rw[zr h a];have:(x.cps.toList.all λc=>decide (c∈LT)||decide (c∈FG))=false:=List.all_eq_false.mpr ⟨c,b,by rw[Zo d,Zo e];exact Zj⟩;unfold VZ;rw[this,U3,U3,U3]
def Dj {d:Str}{m c:Nat}(h:FigT d m)(a:c<48\/57<c):c∉d.cps.toList:=λz=>by have:=h.all c z;lia
def Vy {n:Nat}{x s:Str}(h:TxtOk n x)(b:n<=16000000)(a:(s.length == 0)=false):KM x (.str s)=some (.lst ((Txt.split x s).map .str)):=by
 refine Zd ⟨a,?_⟩;have:=h.len;exact Zh (show x.length+2<=16000002 from ()) (by decide +kernel)
def zU {l:Yt}{k:Int}{d:D}(k0:0<=k)(h:l[k.toNat]? = some d):j0 l k=some d:=by
 have a:=(Jd.mp h).1;unfold j0 yn;rw[Zd k0,Zd ()];exact h
def jV (a:D)(l:Yt):j0 (a::l) 0=some a:=zU () rfl
def qq (a b:D)(l:Yt):j0 (a::b::l) 1=some b:=zU () rfl
def xA (a b c:D)(l:Yt):j0 (a::b::c::l) 2=some c:=zU () rfl
def zv (a b c d:D)(l:Yt):j0 (a::b::c::d::l) 3=some d:=zU () rfl
def ZU (s a b:Str):Txt.join s [a,b]=a++s++b:=by rw[KW,Kn]
def ZV {n:Nat}(h:n<=16000002):n<=sizeLine:=Zh h (by decide +kernel)
def GI {n:Nat}(h:n<=16000001):n<sizeLine:=Zg (Nat.lt_succ_of_le h) (by decide +kernel)
def Dk {n:Nat}{a:Str}(b:TxtOk n a)(h:n<=16000000):T5 [.str a]=some (.int a.length):=Zd (ZV (by have:=b.len;lia))
def Y2 {n:Nat}{a:Str}(b:TxtOk n a)(h:n<=16000000)(l u:Option Int):zP (.str a) l u=some (.str (Txt.slice a l u)):=Zd (ZV (by have:=b.len;lia))
def ZW {n:Nat}{x:Str}(h:TxtOk n x)(a:n<=16000000):(ji x/\j8 [.str x]=.ok (.bl true))\/(¬ji x/\j8 [.str x]=.ok (.bl false)):=by
 by_cases l:x.length<=12
 .have t:TxtOk 12 x:=⟨l,h.asc⟩;have e:=zr t ();cases c:VZ x with
  |true=>rw[c] at e;exact .inl ⟨⟨t,G6 c⟩,e⟩
  |false=>rw[c] at e;exact .inr ⟨λz=>(by rw[Bp z.2] at c;cases c),e⟩
 .have b:=Dk h a;have d:(1:Int)<=(x.length:Int):=()
  have f:¬(x.length:Int)<=12:=()
  exact .inr ⟨λz=>l z.1.len,by simp[j8,xR,b,d,f]⟩
def Rb:∀z:Fin 128,(Char.ofNat z.val).toNat=z.val:=by decide +kernel
def Dl {d:Str}{m:Nat}(h:FigT d m):d=jd (m:Int):=by
 apply Km;rw[Xr,<- h.val];have lo:=h.lo;have l:d.length=d.cps.toList.length:=(Ud).symm;have all:=h.all;have a:=h.hd;cases b:d.cps.toList with
 |nil=>rw[b] at l;simp at l;lia
 |cons c cs =>
  rw[b] at all a;have f:=all.head;have a:c≠48:=a;rw[NumText.toDigits_digitsVal cs.length (c::cs) rfl all (.inr ⟨c,cs,rfl,()⟩),Zw]
  conv=>lhs;rw[<- List.map_id (c::cs)]
  refine Vc λz e=>?_;have:=all z e;exact(Rb ⟨z,()⟩).symm
def Rc {n:Nat}{x:Str}(h:TxtOk n x)(w:n<=16000000):(∃m:Nat,FigT x m/\V6 [.str x]=.ok (.bl true))\/V6 [.str x]=.ok (.bl false):=by
 have e:=Dk h w;by_cases i:(1:Int)<=(x.length:Int)
 .by_cases p:(x.length:Int)<=30
  .have t:TxtOk 30 x:=⟨(),h.asc⟩;obtain⟨j,hx,b,y⟩:=AX (k:=0) t () () ();have o:=Bq (CF y).asc (Qj (n:=1) (x:= "0") (by decide +kernel)).asc;have A:x.cps.toList.headD 0=j:=by
    have b:x.cps.toList[0]? = some j:=b;cases l:x.cps.toList with
    |nil=>rw[l] at b;cases b
    |cons a F=>rw[l] at b;exact Zqi b
   by_cases q:(⟨#[j]⟩:Str) = "0"
   .rw[Zp q] at o;exact .inr (by simp[V6,WM,e,i,p,hx,o])
   .rw[Zo q] at o;have r:j≠48:=λz=>q (by rw[z];exact Km (by decide +kernel));have B:yQ x=true:=h.asc;have d:js (.one 0) (Ts (qh false) (Tn 0) (dC (.str "0123456789"))) [none] (ze x)=.ok ((x.cps.toList.map λc=>decide (c∈FG)).map .bl):=by
     rw[Zw];refine Q7 λc _=>?_;have s:=YU false c "0123456789";have s:qh false (.str ⟨#[c]⟩) (.str "0123456789")=some (.bl (decide (c∈FG))):=s;simp[s]
    have u:=YS (x.cps.toList.map λc=>decide (c∈FG));have C:(ze x).length<sizeLine:=JV (by unfold ze;rw[Zql,Ud];have:x.length=x.cps.size:=rfl;lia);cases v:(x.cps.toList.map λc=>decide (c∈FG)).all id with
    |true =>
     have f:FigT x (NumText.digitsVal x.cps.toList):=by
      refine⟨(),(),by rw[A];exact r,λc E=>?_,rfl⟩;rw[UW,Uq] at v;have g:=G5 c (of_decide_eq_true (v c E));unfold yo at g;rw[Ub,decide_eq_true_eq,decide_eq_true_eq] at g;lia
     exact .inl ⟨_,f,Di f⟩
    |false =>
     rw[v] at u;generalize (x.cps.toList.map λc=>decide (c∈FG)).map D.bl=bs at d u;exact .inr (by simp[V6,WM,e,i,p,hx,o,B,C,d,u])
  .exact .inr (by simp[V6,WM,e,i,p])
 .exact .inr (by simp[V6,WM,e,i])
theorem join_split (x s:Str):Txt.join s (Txt.split x s)=x:=(StrLaws.glued_eq_join s _).trans (StrLaws.join_split x s)
theorem GJ {s p:Str}:∀{l:Yh},p∈l->(∀c∈p.cps.toList,c∈(Txt.join s l).cps.toList)/\p.length<=(Txt.join s l).length
 | [],h=>nomatch h
 | [x],h=>by rw[Jc.mp h,Kn];exact⟨λ_ z=>z,Zf _⟩
 |x::y::r,h=>by
  rw[KW,JE,JE];rcases UB.mp h with rfl|h
  .exact⟨λc d=>by rw[JM,JM];exact Ur _ (Ur _ d),()⟩
  .obtain⟨a,b⟩:=GJ (s:=s) h;exact⟨λc d=>by rw[JM];exact Uf _ (a c d),()⟩
def Y3 {n:Nat}{x s p:Str}(h:TxtOk n x)(hp:p∈Txt.split x s):TxtOk n p:=by
 obtain⟨a,b⟩:=GJ (s:=s) hp;rw[join_split] at a b;exact⟨Zh b h.len,xG.mpr λc d=>xG.mp h.asc c (a c d)⟩
theorem Y4 (s:Str):∀l:Yh,(l.map (·.length)).sum+l.length*s.length<=(Txt.join s l).length+s.length
 | []=>by simp
 | [x]=>by rw[Kn];simp
 |x::y::r=>by
  have a:=Y4 s (y::r);rw[KW,JE,JE,Zl,Vf,Zu,Vb];lia
theorem GK (k:Nat):∀(l:Yh) (a:Nat),l.foldl (λa x=>a+x.length+k) a=a+(l.map (·.length)).sum+l.length*k
 | [],a=>by simp
 |x::l,a=>by
  rw[U5,GK k l,Zl,Vf,Zu,Vb];lia
def Dm {s:Str}{l:Yh}(h:(l.map (·.length)).sum+l.length*s.length<=16000002):JoinOk s l=true:=by
 unfold JoinOk;rw[Vk,List.foldl_toArray,GK];have:=ZV h;unfold Builtin.Str.tooLong;exact Zo ()
def rI (i:Str×Int):D:=.tup [.str i.1,.int i.2]
def yw (i:Str×Int):Prop:=ji i.1 /\ -1000000000000000000000000000000<i.2/\i.2<1000000000000000000000000000000
def qc (i:Str×Int):Str:=xF i.1 i.2
def Dn {i:Str×Int}(h:yw i):TxtOk 44 (qc i):=Gm h.1.1 h.2.1 h.2.2
def Dp {i:Str×Int}(h:yw i){c:Nat}(a:(y8 c||yo c)=false)(f:c≠43)(g:c≠45):c∉(qc i).cps.toList:=by
 have b:=Vx h.1 a;have d:∀m:Nat,c∉(jd (m:Int)).cps.toList:=λm z=>by
  have:=GF m c z;have:yo c=true:=by unfold yo;rw[Zp (),Zp ()];rfl
  rw[this,UP] at a;cases a
 unfold qc xF
 split
 .exact b
 .split
  .obtain⟨m,e⟩:=UQ (show 0<=i.2 from ());rw[e,JM,JM];intro z;rcases Jb.mp z with z|z
   .rcases Jb.mp z with z|z
    .exact b z
    .exact f (Jc.mp z)
   .exact d m z
  .obtain⟨m,e⟩:∃m:Nat,i.2 = -((m+1:Nat):Int):=⟨(-i.2).toNat-1,()⟩;rw[e,AZ,JM,JM];intro z;rcases Jb.mp z with z|z
   .exact b z
   .rcases Jb.mp z with z|z
    .exact g (Jc.mp z)
    .exact d (m+1) z
def GL {i:Str×Int}(h:yw i):plN 12 (rI i)=true:=by
 show[D.str i.1,D.int i.2].all (plN 11)=true;rw[Ui,K8 h.1.1.asc];rfl
theorem GM:∀(k m:Nat),(Nat.toDigits 10 m).length<=k->m<10 ^ k
 | 0,m,h=>by have:=Vv (b:=10) (n:=m);lia
 |k+1,m,h=>by
  by_cases g:m<10
  .have:10 ^ 1<=10 ^ (k+1):=Nat.pow_le_pow_right () ();lia
  .rw[Vu () (),Ua,Ue] at h;have:=GM k (m / 10) ();rw[Va];lia
def x8:FS:=(T1 (TK 2 (TW KM (Tn 0) (Tn 1))) (jq (Qv (Jx (Ts qi (T3 T5 (Jt (Tn 2) Tp)) (dC (.int 2)))) (Qv (Jx (J0 j8 (Jt (Ts T7 (Tn 2) (dC (.int 0))) Tp))) (Jx (J0 V6 (Jt (Ts T7 (Tn 2) (dC (.int 1))) Tp))))) (TN (jn (Jt (Ts T7 (Tn 2) (dC (.int 0))) (Jt (T3 Wm (Jt (Ts T6 (Tn 1) (Ts T7 (Tn 2) (dC (.int 1)))) Tp)) Tp)))) JA))
def Dq:WN=(T1 (jq (Jx (J0 j8 (Jt (Tn 0) Tp))) (TN (jn (Jt (Tn 0) (Jt (dC (.int 0)) Tp)))) JA) (T1 (j9 (iS (jn (Jt (dC (.str "+")) (Jt (dC (.str "-")) Tp)))) (.one 1) x8) (TN (dC .non)))):=rfl
def GN {n:Nat}{x s:Str}{u2:Option SV}(h:TxtOk n x)(e:n<=16000000)(i:(s.length == 0)=false)(j:TxtOk 1 s):
 (∃a d m,Txt.split x s=[a,d]/\ji a/\FigT d m/\∀w,Wm [.str (s++d)]=some (.int w)->x8 [~~~(.str x),~~~(.str s),u2]=.ok (.ret (.tup [.str a,.int w])))\/(∃o,x8 [~~~(.str x),~~~(.str s),u2]=.ok (.next [~~~(.str x),~~~(.str s),o])):=by
 have g:=Vy h e i;have sp:∀p∈Txt.split x s,TxtOk n p:=λp hp=>Y3 h hp;obtain⟨l,hl⟩:∃l,l=Txt.split x s:=⟨_,rfl⟩;rw[<- hl] at g sp ⊢;by_cases c:l.length=2
 .obtain⟨a,d,rfl⟩:∃a d,l=[a,d]:=by
   cases l with
   |nil=>cases c
   |cons a l =>
    cases l with
    |nil=>cases c
    |cons d l =>
     cases l with
     |nil=>exact⟨a,d,rfl⟩
     |cons _ _=>simp at c
  have g:KM x (.str s)=some (.lst [.str a,.str d]):=g;rcases ZW (sp a ()) e with ⟨f,b⟩|⟨f,b⟩
  .rcases Rc (sp d ()) e with ⟨m,hf,ed⟩|ed
   .refine .inl ⟨a,d,m,rfl,f,hf,λw hw=>?_⟩;have q:=CQ j hf.ok ();simp[x8,TW,g,jV,qq,b,ed,q,hw]
   .exact .inr ⟨_,by simp[x8,TW,g,jV,qq,b,ed];rfl⟩
  .exact .inr ⟨_,by simp[x8,TW,g,jV,qq,b];rfl⟩
 .have r:¬((l.length:Int)=2):=()
  exact .inr ⟨_,by simp[x8,TW,g,r];rfl⟩
def Re {n:Nat}{x:Str}(h:TxtOk n x)(g:n<=16000000):(∃i,yw i/\qc i=x/\Kh [.str x]=.ok (rI i))\/Kh [.str x]=.ok .non:=by
 rcases ZW h g with ⟨hx,e⟩|⟨hx,e⟩
 .exact .inl ⟨(x,0),⟨hx,(),()⟩,show xF x 0=x from Zd rfl,by simp[Kh,WN,e,rI]⟩
 have big:∀{d:Str} {m:Nat},FigT d m->1<=m/\m<1000000000000000000000000000000:=λ{d m} f=>by
  have q:=Dl f;constructor
  .rcases Vi m with z|z
   .exfalso;have r:=f.hd;rw[q,z] at r;exact r (by decide +kernel)
   .exact z
  .have j:=f.hi;rw[q] at j;have l:(jd (m:Int)).length=(Nat.toDigits 10 m).length:=by
    show(jd (m:Int)).cps.size=_;rw[<- Ud,Xr,Zql]
   rw[l] at j;exact GM 30 m j
 have t:∀{s a d:Str},Txt.split x s=[a,d]->x=a++s++d:=λ{s a d} z=>by rw[<- ZU s a d,<- z,join_split]
 have v:TxtOk 1 ("+" : Str):=Qj (by decide +kernel);have w:TxtOk 1 ("-" : Str):=Qj (by decide +kernel);rcases GN (s:= "+") (u2:=none) h g (by decide +kernel) v with ⟨a,d,m,sp,o,c,k⟩|⟨y,k⟩
 .obtain⟨A,B⟩:=big c;have p:Wm [.str (("+" : Str)++d)]=some (.int (m:Int)):=by
   show(if(("+" : Str)++d).length<=640 then(intText? _).map D.int else none)=_;rw[Zd (by rw[JE];have:=c.hi;show 1+_<=_;lia),c.plus];rfl
  have k:=k _ p;refine .inl ⟨(a,(m:Int)),⟨o,by show -_<(m:Int);lia,by show(m:Int)<_;lia⟩,?_,?_⟩
  .show xF a (m:Int)=x;unfold xF;rw[Ze (),Zd (),<- Dl c,t sp]
  .unfold Kh;rw[Dq];generalize x8=b at k;simp[e,Xq,WH,k,rI]
 .rcases GN (s:= "-") (u2:=y) h g (by decide +kernel) w with ⟨a,d,m,sp,o,c,k2⟩|⟨C,k2⟩
  .obtain⟨A,B⟩:=big c;have p:Wm [.str (("-" : Str)++d)]=some (.int (-(m:Int))):=by
    show(if(("-" : Str)++d).length<=640 then(intText? _).map D.int else none)=_;rw[Zd (by rw[JE];have:=c.hi;show 1+_<=_;lia),c.minus];rfl
   have k2:=k2 _ p;refine .inl ⟨(a,-(m:Int)),⟨o,by show -_ < -(m:Int);lia,by show -(m:Int)<_;lia⟩,?_,?_⟩
   .show xF a (-(m:Int))=x;unfold xF;obtain⟨u,rfl⟩:∃u,m=u+1:=⟨m-1,()⟩;rw[Ze (),Ze (),AZ,<- Dl c,<- K9,t sp]
   .unfold Kh;rw[Dq];generalize x8=b at k k2;simp[e,Xq,WH,k,k2,rI]
  .refine .inr ?_;unfold Kh;rw[Dq];generalize x8=b at k k2;simp[e,Xq,WH,k,k2]
def oD:Option (Str×Int)->D
 |none=>.non
 |some i=>rI i
open Classical in
def QM (x:Str):Option (Str×Int):=if h:∃i,yw i/\qc i=x/\Kh [.str x]=.ok (rI i) then some (choose h) else none
def Rf {n:Nat}{x:Str}(h:TxtOk n x)(a:n<=16000000):Kh [.str x]=.ok (oD (QM x)):=by
 unfold QM
 split
 .rename_i e;exact(UG e).2.2
 .rename_i e;rcases Re h a with z|z
  .exact Zn z e
  .exact z
def GO {x:Str}{i:Str×Int}(h:QM x=some i):yw i/\qc i=x:=by
 unfold QM at h
 split at h
 .rename_i e;obtain rfl:=Zqi h;exact⟨(UG e).1,(UG e).2.1⟩
 .cases h
theorem GP:∀{l:Yh},(∀x∈l,QM x≠none)->∃a:List (Str×Int),l.map QM=a.map some/\a.map qc=l/\∀i∈a,yw i
 | [],_=>⟨[],rfl,rfl,λ_ h=>nomatch h⟩
 |x::l,h=>by
  obtain⟨a,b,c,d⟩:=GP (l:=l) λy f=>h y (Zqm _ f);cases e:QM x with
  |none=>exact Zn e (h x Zqs)
  |some i =>
   obtain⟨k1,k2⟩:=GO e;exact⟨i::a,by rw[Zl,Zl,e,b],by rw[Zl,k2,c],λj g=>(UB.mp g).elim (λz=>z ▸ k1) (d j)⟩
def GQ {i:Str×Int}(h:yw i):1<=(qc i).length:=by
 have:=h.1.ne.1;unfold qc xF
 split
 .exact this
 .split
  .rw[JE,JE];lia
  .rw[JE];lia
def Ds (x s:Str):1<=(Txt.split x s).length:=by
 rcases Vi (Txt.split x s).length with z|z
 .exfalso;unfold Txt.split at z
  split at z
  .simp at z
  .split at z
   .simp at z
   .rw[StrLaws.partsBetween_eq] at z;rename_i h _
    revert z
    generalize Builtin.Str.occurrences _ _ _ _ _=cs;cases cs<;>simp[StrLaws.partsFrom]
 .exact z
def GR {n how:Str}{ws:Yh}{N:Nat}(h:TxtOk N (Txt.join " " ws))(o:N<=16000000)(q:JoinOk " " ws=true):
 (∃a:List (Str×Int),(∀i∈a,yw i)/\1<=a.length/\Txt.join ", " (a.map qc)=Txt.join " " ws/\Wq [.str n,.str how,.lst (ws.map .str)]=.ok (.tup [.str n,.str how,.lst (a.map rI)]))\/Wq [.str n,.str how,.lst (ws.map .str)]=.ok .non:=by
 have r:=ZN q;generalize I:Txt.join " " ws=t at *;have u:=Vy (s:= ", ") h o (by decide +kernel);have v:=Ds t ", ";have w:=join_split t ", ";have sp:∀p∈Txt.split t ", ",TxtOk N p:=λp hp=>Y3 h hp;have B:(Txt.split t ", ").length<=16000001:=by
  have C:=Y4 ", " (Txt.split t ", ");have E:(", " : Str).length=2:=by decide +kernel
  rw[w,E] at C;have:=h.len;lia
 generalize J:Txt.split t ", " = l at *;have b:js (.one 0) (J0 Kh (Jt (Tn 0) Tp)) [none] (l.map .str)=.ok (l.map λx=>oD (QM x)):=Q7 λx hx=>by
  have e:=Rf (sp x hx) o;simp[e]
 have y:(l.map D.str).length<sizeLine:=GI (by rw[Zql];exact B);have pl:(l.map λx=>oD (QM x)).all (plN 12)=true:=Uq.mpr λd g=>by
  obtain⟨x,_,rfl⟩:=Ja.mp g;cases e:QM x with
  |none=>rfl
  |some i=>exact GL (GO e).1
 have f:jY false .non (.lst (l.map λx=>oD (QM x)))=some (.bl ((l.map λx=>oD (QM x)).any λe=>sameD e .non)):=by
  show(if plN 12 D.non&&(l.map λx=>oD (QM x)).all (plN 12) then some (D.bl (if false=true then _ else(l.map λx=>oD (QM x)).any λe=>sameD e .non)) else none)=_;rw[pl];rfl
 by_cases c:∀x∈l,QM x≠none
 .obtain⟨a,F,A,G⟩:=GP c;have H:(l.map λx=>oD (QM x))=a.map rI:=by
   have:(l.map QM).map oD=(a.map some).map oD:=by rw[F]
   rw[Zw,Zw] at this;exact this
  rw[H] at b f;have m:((a.map rI).any λe=>sameD e .non)=false:=Jo.mpr λd g=>by
   obtain⟨j,q,rfl⟩:=Ja.mp g;rw[z5.mpr (λz=>by cases z)];exact Zj
  rw[m] at f;refine .inl ⟨a,G,by rw[<- A,Zql] at v;exact v,by rw[A];exact w,?_⟩;generalize a.map rI=rs at *;generalize l.map D.str=xs at *;simp[Wq,Yy,TW,r,u,b,y,f]
 .obtain⟨x,hx,ex⟩:∃x∈l,QM x=none:=by
   refine Vr λz=>c λx hx e=>z ⟨x,hx,e⟩
  have m:((l.map λx=>oD (QM x)).any λe=>sameD e .non)=true:=List.any_eq_true.mpr ⟨.non,Ja.mpr ⟨x,hx,by rw[ex];rfl⟩,VM _⟩;rw[m] at f;generalize (l.map λx=>oD (QM x))=rs at *;generalize l.map D.str=xs at *;exact .inr (by simp[Wq,Yy,TW,r,u,b,y,f])
structure RowR (n how:Str)(its:List (Str×Int)):Prop where
 nm:ji n
 hw:how = "all" \/ how = "first" \/ ji how
 is:∀i∈its,yw i
 lo:1<=its.length
def jA (n how:Str)(a:List (Str×Int)):Str:= " " ++ n ++ " " ++ qm how ++ " " ++ Txt.join ", " (a.map qc)
def Kq (n how:Str)(a:List (Str×Int)):D:=.tup [.str n,.str how,.lst (a.map rI)]
def ZX (a:Str):("" : Str)++a=a:=Km (by rw[JM];rfl)
def GS (a:Str):("part" : Str)++(" " ++ a) = "part " ++ a:=Km (by simp only[JM,<- Uo];rfl)
def KB (x y:Str)(r:Yh):Txt.join " " (x::y::r)=x ++ " " ++ Txt.join " " (y::r):=KW _ _ _ _
def Dt {x:Str}(hx:asc x):jY false (.str x) (.tup [.str "all",.str "first"])=some (.bl (!jX x)):=by
 have e:=CN (neg:=false) hx (xs:=["all", "first"]) (λy hy=>by
  rcases UB.mp hy with rfl|hy;· unfold asc;decide +kernel
  .rw[Jc.mp hy];unfold asc;decide +kernel)
 refine Eq.trans e ?_;unfold jX;by_cases z:x = "all"<;>by_cases q:x = "first"<;>simp[z,q]
def Xx {w:Str}{l:Yh}{N:Nat}(h:((w::l).map (·.length)).sum+(w::l).length*1<=N):(l.map (·.length)).sum+l.length*1<=N:=by
 rw[Zl,Vf,Zu] at h;lia
def Bt {N:Nat}{w x:Str}{l:Yh}(h:TxtOk N (Txt.join " " (w::x::l))):TxtOk N (Txt.join " " (x::l)):=by
 rw[KB] at h;have a:=h.len;rw[JE] at a;exact⟨(),xG.mpr λc b=>xG.mp h.asc c (by rw[JM];exact Uf _ b)⟩
def Rg (N:Nat):TxtOk N (Txt.join " " []):=by rw[XM];exact⟨Ug _,by unfold asc;decide +kernel⟩
def Rh {a:List (Str×Int)}(h:∀i∈a,yw i)(lo:1<=a.length):Txt.join ", " (a.map qc)≠Txt.join " " []:=λe=>by
 have l:=Y4 ", " (a.map qc);rw[e,XM] at l;cases a with
 |nil=>simp at lo
 |cons i r =>
  have:=GQ (h i Zqs);have b:(", " : Str).length=2:=by decide +kernel
  have c:(Str.empty:Str).length=0:=rfl;rw[Zl,Zl,Vf,Zu,b,c] at l;lia
def Ri {N:Nat}{row:Str}(h:TxtOk N row)(w:N<=16000000):(∃n how e,RowR n how e/\jA n how e=row/\QL [.str row]=.ok (Kq n how e))\/QL [.str row]=.ok .non:=by
 have g:=Vy (s:= " ") h w (by decide +kernel);have A:=join_split row " ";have sp:∀p∈Txt.split row " ",TxtOk N p:=λp hp=>Y3 h hp;have y:=Y4 " " (Txt.split row " ");have H:(" " : Str).length=1:=by decide +kernel
 rw[A,H] at y;have X:=h.len;have y:((Txt.split row " ").map (·.length)).sum+(Txt.split row " ").length*1<=16000001:=()
 obtain⟨l,hl'⟩:∃l,l=Txt.split row " " := ⟨_,rfl⟩;rw[<- hl'] at g A sp y;by_cases c:l.length<4
 .have R:(l.length:Int)<4:=()
  exact .inr (by simp[QL,K3,TW,g,R])
 obtain⟨i,f,d,b,r,rfl⟩:∃i f d b r,l=i::f::d::b::r:=by
  rcases l with _|⟨i,_|⟨f,_|⟨d,_|⟨b,r⟩⟩⟩⟩
  .simp at c
  .simp at c
  .simp at c
  .simp at c
  .exact⟨i,f,d,b,r,rfl⟩
 have O:TxtOk N (Txt.join " " (b::r)):=Bt (Bt (Bt (by rw[A];exact h)));have S:JoinOk " " (b::r)=true:=Dm (by rw[H];have:=Xx (Xx (Xx y));lia);have T:JoinOk " " r=true:=Dm (by rw[H];have:=Xx (Xx (Xx (Xx y)));lia);have U:TxtOk N (Txt.join " " r):=by
  cases r with
  |nil=>exact Rg N
  |cons x r=>exact Bt O
 have k0:=sp i ();have k1:=sp f ();have k2:=sp d ();have k3:=sp b ();obtain⟨z,hz⟩:∃z:Int,z=((r.length+1+1+1+1:Nat):Int):=⟨_,rfl⟩;have m:T5 [.lst ((i::f::d::b::r).map .str)]=some (.int z):=by
  show some (D.int _)=_;simp only[Zql,Zu];exact Zt (λa=>some (D.int a)) hz.symm
 have I:zd (.lst ((i::f::d::b::r).map .str)) (some 3) none none=some (.lst ((b::r).map .str)):=by
  show some (D.lst (JW _ (some 3) none none))=_;rw[ZK _ ()];rfl
 have J:zd (.lst ((i::f::d::b::r).map .str)) (some 4) none none=some (.lst (r.map .str)):=by
  show some (D.lst (JW _ (some 4) none none))=_;rw[ZK _ ()];rfl
 have o:¬z<4:=()
 have j:=Bq k0.asc (show asc ("" : Str) by unfold asc;decide +kernel);have q:=Dt k2.asc;have v:=Dh k2.asc (show asc ("part" : Str) by unfold asc;decide +kernel);have P:row=i ++ " " ++ (f ++ " " ++ (d ++ " " ++ Txt.join " " (b::r))):=by rw[<- A,KB,KB,KB]
 have Q:=GR (n:=f) (how:=d) O w S;have wb:=GR (n:=f) (how:=b) U w T;simp only[Zl] at g m I J Q;by_cases B:i = ""
 .rw[Zp B] at j;rcases ZW k1 w with ⟨K,t⟩|⟨K,t⟩
  .cases u:jX d with
   |false =>
    rw[u] at q;rcases Q with ⟨e,C,E,F,f2⟩|f2
    .refine .inl ⟨f,d,e,⟨K,?_,C,E⟩,?_,?_⟩
     .unfold jX at u;rw[Bool.not_eq_false',Ut,decide_eq_true_eq,decide_eq_true_eq] at u;exact u.imp_right .inl
     .have hw:d = "all" \/ d = "first" := by
       unfold jX at u;rw[Bool.not_eq_false',Ut,decide_eq_true_eq,decide_eq_true_eq] at u;exact u
      unfold jA;rw[show qm d=d from Zd hw,F,P,B];simp only[K9,ZX]
     .simp[QL,K3,TW,g,m,I,jV,qq,xA,j,t,q,f2,Kq,o]
    .exact .inr (by simp[QL,K3,TW,g,m,I,jV,qq,xA,j,t,q,f2,o])
   |true =>
    rw[u] at q;by_cases L:d = "part"
    .rw[Zp L] at v;rcases ZW k3 w with ⟨M,G⟩|⟨M,G⟩
     .rcases wb with ⟨e,C,E,F,f2⟩|f2
      .refine .inl ⟨f,b,e,⟨K,.inr (.inr M),C,E⟩,?_,?_⟩
       .have hw:¬(b = "all" \/ b = "first"):=λz=>by
         have:=M.ne;rcases z with z|z
         .exact this.2.1 z
         .exact this.2.2 z
        cases r with
        |nil=>exact Zn F (Rh C E)
        |cons x r =>
         unfold jA;rw[show qm b = "part " ++ b from Ze hw,F,P,B,L,KB];simp only[K9,ZX,GS]
       .simp[QL,K3,TW,g,m,J,jV,qq,xA,zv,j,t,G,q,v,f2,Kq,o]
      .exact .inr (by simp[QL,K3,TW,g,m,J,jV,qq,xA,zv,j,t,G,q,v,f2,o])
     .exact .inr (by simp[QL,K3,TW,g,m,jV,qq,xA,zv,j,t,G,q,v,o])
    .rw[Zo L] at v;exact .inr (by simp[QL,K3,TW,g,m,jV,qq,xA,zv,j,t,q,v,o])
  .exact .inr (by simp[QL,K3,TW,g,m,jV,qq,j,t,o])
 .rw[Zo B] at j;exact .inr (by simp[QL,K3,TW,g,m,jV,j,o])
def Bu {n m:Nat}{st row:Str}(a:TxtOk m st)(b:m<=1000)(c:TxtOk n row)(d:n<=16000000)(h:Txt.startswith row st=false):Kp [.str st,.str row]=.ok .non:=by
 have e:=XL a b;have gs:=Y2 c d (some (st.length:Int)) none;have f:ZE row (.str st)=some (.bl false):=by show some (D.bl (Txt.startswith row st))=_;rw[h]
 simp[Kp,Xw,e,gs,TW,f]
def Du {m:Nat}{st x:Str}(a:TxtOk m st)(d:m<=900)(hx:ji x):Kp [.str st,.str (st++x)]=.ok (.str x):=by
 have b:=XL a ();have gs:=Y2 (a.app hx.1) () (some (st.length:Int)) none;rw[GC] at gs;have c:ZE (st++x) (.str st)=some (.bl true):=by show some (D.bl (Txt.startswith (st++x) st))=_;rw[GA]
 have nx:=Br hx;simp[Kp,Xw,b,gs,TW,c,nx]
def Rj {x a:Str}(h:Txt.startswith x a=true):∃b,x=a++b:=by
 have h:(decide (0+a.length<=x.length)&&Builtin.Str.subAt x a 0)=true:=h;rw[Ub,StrLaws.subAt_eq,Yl,List.drop_zero] at h;refine⟨⟨(x.cps.toList.drop a.length).toArray⟩,Km ?_⟩;rw[JM,<- h.2];exact(UX _ _).symm
def GT {m N:Nat}{st row:Str}(f:TxtOk m st)(l:m<=900)(a:TxtOk N row)(d:N<=16000000):(∃x,ji x/\row=st++x/\Kp [.str st,.str row]=.ok (.str x))\/Kp [.str st,.str row]=.ok .non:=by
 cases c:Txt.startswith row st with
 |false=>exact .inr (Bu f () a d c)
 |true =>
  obtain⟨b,rfl⟩:=Rj c;have i:TxtOk N b:=by
   have:=a.len;rw[JE] at this;exact⟨(),xG.mpr λc j=>xG.mp a.asc c (by rw[JM];exact Uf _ j)⟩
  have g:=XL f ();have gs:=Y2 a d (some (st.length:Int)) none;rw[GC] at gs;have h:ZE (st++b) (.str st)=some (.bl true):=by show some (D.bl (Txt.startswith (st++b) st))=_;rw[GA]
  rcases ZW i d with ⟨nb,e⟩|⟨nb,e⟩
  .exact .inl ⟨b,nb,rfl,by simp[Kp,Xw,g,gs,TW,h,e]⟩
  .exact .inr (by simp[Kp,Xw,g,gs,TW,h,e])
def Bv:TxtOk 5 ("plan " : Str):=Qj (by decide +kernel)
def wX:TxtOk 7 (" given " : Str):=Qj (by decide +kernel)
def GU (y:Str):Txt.startswith (" " ++ y) "plan " = false:=GB λh=>by
 rw[JM] at h;have h:(32::y.cps.toList).take 5=[112,108,97,110,32]:=h;rw[List.take_succ_cons] at h;injection h with h
 cases h
def Rk (x:Str):(" given " : Str)++x = " " ++ ("given " ++ x):=by
 rw[<- K9];exact Zt (· ++ x) (Km (by decide +kernel))
def Rl {n how:Str}{a:List (Str×Int)}(R:RowR n how a):Txt.startswith (jA n how a) " given " = false:=GB λh=>by
 unfold jA at h;simp only[K9] at h;rw[JM,JM,JM] at h;generalize ((qm how++((" " : Str)++Txt.join ", " (a.map qc)))).cps.toList=t at h;have h:(32::(n.cps.toList++(32::t))).take 7=[32,103,105,118,101,110,32]:=h;rw[List.take_succ_cons] at h;injection h with _ h
 have e:=UX 6 (n.cps.toList++(32::t));rw[h] at e;have b:(n.cps.toList++(32::t)).takeWhile (λc=>c != 32)=n.cps.toList:=by
  rw[List.takeWhile_append_of_pos λc d=>bne_iff_ne.mpr λz=>Vx R.nm (c:=32) (by decide) (by rw[<- z];exact d)];simp
 rw[<- e] at b;have f: [103,105,118,101,110]=n.cps.toList:=by
  rw[<- b];rfl
 have g:("given" : Str)=n:=Km (by rw[<- f];decide +kernel);have z:=R.nm.2;unfold QX at z;simp only[Ub] at z;have:=Uq.mp z.2.2.1 "given" (by decide +kernel);rw[Zp g] at this;cases this
def GV {x:Str}(hx:ji x):QL [.str (" given " ++ x)]=.ok .non:=by
 have k:=wX.app hx.1;have g:=Vy (s:= " ") k () (by decide +kernel);have e:(" given " : Str)++x=Txt.join " " ["", "given",x]:=by
  rw[KB,KB,Kn,ZX,<- K9,<- K9];exact Zt (· ++ x) (Km (by decide +kernel))
 have sp:=Ws (s:= " ") (c:=32) (t:=[]) rfl (by decide +kernel) (r:= "") (rs:=["given",x]) λp hp=>by
  rcases UB.mp hp with rfl|hp
  .decide +kernel
  rcases UB.mp hp with rfl|hp
  .decide +kernel
  .rw[Jc.mp hp];exact Vx hx (by decide)
 rw[e,sp] at g;rw[e];simp only[Zl,List.map_nil] at g;generalize Txt.join " " ["", "given",x]=tx at *;simp[QL,K3,TW,g]
structure Dr where
 name:Str
 givens:Yh
 rows:List (Int×Str×Str×List (Str×Int))
def jO (r:Int×Str×Str×List (Str×Int)):D:=.tup [.int r.1,Kq r.2.1 r.2.2.1 r.2.2.2]
def Qm (q:Dr):D:=.ins "Draft" ["name", "givens", "rows"] [.str q.name,.lst (q.givens.map .str),.lst (q.rows.map jO)]
structure AtR (hp:HP)(a:Addr×Addr×Addr)(q:Dr):Prop where
 pl:Tq hp a.1=some (.ins "Draft" ["name", "givens", "rows"] [.str q.name,.adr a.2.1,.adr a.2.2])
 gv:Tq hp a.2.1=some (.lst (q.givens.map .str))
 rw_:Tq hp a.2.2=some (.lst (q.rows.map jO))
def jC (hp:HP):List (Addr×Addr×Addr)->List Dr->Prop
 | [],ps=>ps=[]
 |a::as,ps=>∃q r,ps=q::r/\AtR hp a q/\jC hp as r
structure StR (hp:HP)(p:Addr)(as:List (Addr×Addr×Addr))(qs:List Dr):Prop where
 hp_:Tq hp p=some (.lst (as.map λb=>.adr b.1))
 all:jC hp as qs
 nd:(p::jl as).Nodup
theorem jC.snoc {hp:HP}{a:Addr×Addr×Addr}{q:Dr}(d:AtR hp a q):∀{c:List (Addr×Addr×Addr)} {ps:List Dr},jC hp c ps->jC hp (c++[a]) (ps++[q])
 | [],ps,h=>by rw[show ps=[] from h];exact⟨q,[],rfl,d,rfl⟩
 |b::c,ps,h=>by
  obtain⟨q',r,rfl,e,h⟩:=h;exact⟨q',r++[q],rfl,e,h.snoc d⟩
theorem jC.last {hp:HP}{q:Dr}:∀{d:List (Addr×Addr×Addr)} {ps:List Dr},jC hp d (ps++[q])->∃bs a,d=bs++[a]/\jC hp bs ps/\AtR hp a q
 | [],ps,h=>by have:=Zt List.length (show ps++[q]=[] from h);simp at this
 |a::d,[],h=>by
  obtain⟨q',r,e,f,h⟩:=h;injection e with e1 e2
  subst e1 e2;cases d with
  |nil=>exact⟨[],a,rfl,rfl,f⟩
  |cons b d=>obtain⟨_,_,e,_⟩:=h;cases e
 |a::d,p::ps,h=>by
  obtain⟨q',r,e,f,h⟩:=h;injection e with e1 e2
  subst e1 e2;obtain⟨bs,c,rfl,g,i⟩:=h.last;exact⟨a::bs,c,rfl,⟨_,_,rfl,f,g⟩,i⟩
def AtR.mono {hp hp':HP}{a:Addr×Addr×Addr}{q:Dr}(h:AtR hp a q)(e:∀b ∈ [a.1,a.2.1,a.2.2],Tq hp' b=Tq hp b):AtR hp' a q:=
 ⟨(e _ ()).trans h.pl,(e _ ()).trans h.gv,(e _ ()).trans h.rw_⟩
theorem jC.mono {hp hp':HP}:∀{c:List (Addr×Addr×Addr)} {ps:List Dr},jC hp c ps->(∀b∈jl c,Tq hp' b=Tq hp b)->jC hp' c ps
 | [],ps,h,_=>h
 |a::c,ps,h,e=>by
  obtain⟨q,r,rfl,f,h⟩:=h;exact⟨q,r,rfl,f.mono λb d=>e b (Ur _ d),h.mono λb d=>e b (Uf _ d)⟩
def AtR.has {hp:HP}{a:Addr×Addr×Addr}{q:Dr}(h:AtR hp a q):∀c ∈ [a.1,a.2.1,a.2.2],Tq hp c≠none:=λc b=>by
 have:c=a.1\/c=a.2.1\/c=a.2.2:=by simpa using b
 rcases this with rfl|rfl|rfl
 .rw[h.pl];simp
 .rw[h.gv];simp
 .rw[h.rw_];simp
theorem jC.has {hp:HP}:∀{b:List (Addr×Addr×Addr)} {ps:List Dr},jC hp b ps->∀c∈jl b,Tq hp c≠none
 | [],_,_,c,hc=>by cases hc
 |a::b,ps,h,c,hc=>by
  obtain⟨q,r,rfl,d,h⟩:=h;rcases Jb.mp (show c ∈ [a.1,a.2.1,a.2.2]++jl b from hc) with z|z
  .exact d.has c z
  .exact h.has c z
theorem jC.len {hp:HP}:∀{b:List (Addr×Addr×Addr)} {ps:List Dr},jC hp b ps->b.length=ps.length
 | [],ps,h=>by rw[show ps=[] from h];rfl
 |a::b,ps,h=>by
  obtain⟨q,r,rfl,_,h⟩:=h;rw[Zu,Zu,h.len]
def Rm {α: Type}{f:α -> D}{g:D->D}(h:∀x,g (f x)=f x)(l:List α):(l.map f).map g=l.map f:=by
 rw[Zw];exact Vc λx _=>h x
def GX (hp:HP)(l:Yt):l.map (dr hp 0)=l:=by
 conv=>rhs;rw[<- List.map_id l]
 exact Vc λx _=>rfl
def AtR.dr4 {hp:HP}{a:Addr×Addr×Addr}{q:Dr}(h:AtR hp a q):dr hp 4 (.adr a.1)=Qm q:=by
 rw[Ky _ h.pl];show D.ins "Draft" ["name", "givens", "rows"] [L2.DL.dr hp 2 (.str q.name),L2.DL.dr hp 2 (.adr a.2.1),L2.DL.dr hp 2 (.adr a.2.2)]=_;rw[Xs,Ky _ h.gv,Ky _ h.rw_];show D.ins "Draft" ["name", "givens", "rows"] [.str q.name,.lst ((q.givens.map D.str).map (L2.DL.dr hp 0)),.lst ((q.rows.map jO).map (L2.DL.dr hp 0))]=_;rw[GX,GX];rfl
theorem jC.dr {hp:HP}:∀{c:List (Addr×Addr×Addr)} {ps:List Dr},jC hp c ps->(c.map λb=>D.adr b.1).map (dr hp 4)=ps.map Qm
 | [],ps,h=>by rw[show ps=[] from h];rfl
 |a::c,ps,h=>by
  obtain⟨q,r,rfl,d,h⟩:=h;rw[Zl,Zl,d.dr4,h.dr];rfl
def Wb (a:List Dr):D:=.lst (a.map Qm)
def StR.dp {hp:HP}{p:Addr}{a:List (Addr×Addr×Addr)}{c:List Dr}(h:StR hp p a c):dr hp 6 (.adr p)=Wb c:=by
 rw[Ky _ h.hp_];show D.lst ((a.map λb=>D.adr b.1).map (dr hp 4))=_;rw[h.all.dr];rfl
def GY (a:Addr×Addr×Addr):jl [a]=[a.1,a.2.1,a.2.2]:=rfl
def StR.ne {hp:HP}{p:Addr}{d:List (Addr×Addr×Addr)}{a:Addr×Addr×Addr}{i:List Dr}(h:StR hp p (d++[a]) i):p≠a.2.1/\p≠a.2.2/\a.1≠a.2.1/\a.1≠a.2.2/\a.2.1≠a.2.2/\∀b∈jl d,b≠a.2.1/\b≠a.2.2:=by
 have c:=h.nd;rw[Ba,GY] at c;obtain⟨e,c⟩:=Je.mp c;obtain⟨l,j,f⟩:=Jf.mp c;obtain⟨k1,k2⟩:=Je.mp j;obtain⟨k3,_⟩:=Je.mp k2;exact⟨λz=>e (by rw[z];simp),λz=>e (by rw[z];simp),λz=>k1 (by rw[z];simp),λz=>k1 (by rw[z];simp),λz=>k3 (by rw[z];simp),λb g=>⟨f b g _ (),f b g _ ()⟩⟩
def StR.given {hp:HP}{p:Addr}{d:List (Addr×Addr×Addr)}{a:Addr×Addr×Addr}{e:List Dr}{q:Dr}(h:StR hp p (d++[a]) (e++[q]))(f:AtR hp a q)(g:jC hp d e)(gs:Yh):StR (JD hp a.2.1 (.lst (gs.map .str))) p (d++[a]) (e++[⟨q.name,gs,q.rows⟩]):=by
 have c:Tq hp a.2.1≠none:=by rw[f.gv];simp
 obtain⟨i,o,j,r,l,m⟩:=h.ne;exact⟨(Qr c i).trans h.hp_,jC.snoc (q:=⟨q.name,gs,q.rows⟩) ⟨(Qr c j).trans f.pl,V5 c,(Qr c l.symm).trans f.rw_⟩ (g.mono λb n=>Qr c (m b n).1),h.nd⟩
def StR.made {hp:HP}{p:Addr}{d:List (Addr×Addr×Addr)}{a:Addr×Addr×Addr}{e:List Dr}{q:Dr}(h:StR hp p (d++[a]) (e++[q]))(f:AtR hp a q)(g:jC hp d e)(rs:List (Int×Str×Str×List (Str×Int))):StR (JD hp a.2.2 (.lst (rs.map jO))) p (d++[a]) (e++[⟨q.name,q.givens,rs⟩]):=by
 have c:Tq hp a.2.2≠none:=by rw[f.rw_];simp
 obtain⟨o,i,r,j,l,m⟩:=h.ne;exact⟨(Qr c i).trans h.hp_,jC.snoc (q:=⟨q.name,q.givens,rs⟩) ⟨(Qr c j).trans f.pl,(Qr c l).trans f.gv,V5 c⟩ (g.mono λb n=>Qr c (m b n).2),h.nd⟩
def StR.plan {hp hp':HP}{p x g r:Addr}{f:List (Addr×Addr×Addr)}{m:List Dr}{q:Dr}(h:StR hp p f m)(hx:Tq hp x=none)(i:Tq hp g=none)(j:Tq hp r=none)(o:x≠g)(s:x≠r)(t:g≠r)(u:AtR hp' (x,g,r) q)(v:Tq hp' p=some (.lst ((f++[(x,g,r)]).map λb=>.adr b.1)))(e:∀b,b≠x->b≠g->b≠r->b≠p->Tq hp' b=Tq hp b):StR hp' p (f++[(x,g,r)]) (m++[q]):=by
 have d:=h.all.has;obtain⟨n,w⟩:=Je.mp h.nd;have l:Tq hp p≠none:=by rw[h.hp_];simp
 have ne:∀{b c:Addr},Tq hp b≠none->Tq hp c=none->b≠c:=λy A z=>y (by rw[z];exact A);refine⟨v,jC.snoc u (h.all.mono λb a=>e b (ne (d b a) hx) (ne (d b a) i) (ne (d b a) j) λz=>n (by rw[<- z];exact a)),?_⟩;rw[Ba,GY];refine Je.mpr ⟨λz=>?_,Jf.mpr ⟨w,by simp[o,s,t],λb a c B=>?_⟩⟩
 .rcases Jb.mp z with z|z
  .exact n z
  .have:p=x\/p=g\/p=r:=by simpa using z
   rcases this with z|z|z
   .exact ne l hx z
   .exact ne l i z
   .exact ne l j z
 .have:c=x\/c=g\/c=r:=by simpa using B
  rcases this with rfl|rfl|rfl
  .exact ne (d b a) hx
  .exact ne (d b a) i
  .exact ne (d b a) j
section
variable {hp:HP}{a:Addr×Addr×Addr}{q:Dr}
def GZ {x:Str}(h:AtR hp a q)(c:q.rows=[])(hx:ji x)(d:q.givens.length<=1000)(k:Int):WO [.adr a.1,.int k,.str (" given " ++ x)] hp=.ok (.bl true,JD hp a.2.1 (.lst ((q.givens++[x]).map .str))):=by
 have e:=Du wX () hx;have f:=GV hx;have g:(q.givens.map D.str).length<sizeLine:=by rw[Zql];exact JV d
 have i:dr hp 6 (.adr a.1)=Qm q:=by
  rw[Ky _ h.pl];show D.ins "Draft" ["name", "givens", "rows"] [dr hp 4 (.str q.name),dr hp 4 (.adr a.2.1),dr hp 4 (.adr a.2.2)]=_;rw[Xs,Ky _ h.gv,Ky _ h.rw_,CW,c];unfold Qm;rw[c];rfl
 have j:TF "Draft" "rows" (Qm q)=some (.lst []):=by unfold Qm;rw[c];rfl
 have l:TF "Draft" "givens" (.ins "Draft" ["name", "givens", "rows"] [.str q.name,.adr a.2.1,.adr a.2.2])=some (.adr a.2.1):=rfl;have m:qi (.lst []) (.lst [])=some (.bl true):=by rw[Az rfl rfl,VM]
 refine ZP rfl ?_ λb n=>?_
 .generalize (" given " : Str)++x=row at *;show((V7 [~~~(.adr a.1),~~~(.int k),~~~(.str row),none,none] hp).bind ju)=_;simp[V7,e,f,i,j,m,show jJ true (D.str x)=some (.bl true) from rfl,FC h.pl l,W9 h.gv,WA h.gv g]
 .have o:Tq hp a.2.1≠none:=by rw[h.gv];simp
  rw[KJ b o]
  split
  .simp
  .exact n
def Ha {n how row:Str}{c:List (Str×Int)}(h:AtR hp a q)(d:Kp [.str " given ",.str row]=.ok .non)(e:QL [.str row]=.ok (Kq n how c))(f:q.rows.length<=1000)(k:Int):WO [.adr a.1,.int k,.str row] hp=.ok (.bl true,JD hp a.2.2 (.lst ((q.rows++[(k,n,how,c)]).map jO))):=by
 have g:(q.rows.map jO).length<sizeLine:=by rw[Zql];exact JV f
 have i:TF "Draft" "rows" (.ins "Draft" ["name", "givens", "rows"] [.str q.name,.adr a.2.1,.adr a.2.2])=some (.adr a.2.2):=rfl;refine ZP rfl ?_ λb j=>?_
 .show((V7 [~~~(.adr a.1),~~~(.int k),~~~(.str row),none,none] hp).bind ju)=_;simp[V7,d,e,Kq,jO,show ∀l,jJ true (D.tup l)=some (.bl true) from λ_=>rfl,show jJ true D.non=some (.bl false) from rfl,FC h.pl i,W9 h.rw_,WA h.rw_ g]
 .have m:Tq hp a.2.2≠none:=by rw[h.rw_];simp
  rw[KJ b m]
  split
  .simp
  .exact j
def Rn {row:Str}(c:Kp [.str " given ",.str row]=.ok .non)(d:QL [.str row]=.ok .non)(k:Int):WO [.adr a.1,.int k,.str row] hp=.ok (.bl false,hp):=by
 refine ZP rfl ?_ λb e=>e;show((V7 [~~~(.adr a.1),~~~(.int k),~~~(.str row),none,none] hp).bind ju)=_;simp[V7,c,d,show jJ true D.non=some (.bl false) from rfl]
structure DrG (q:Dr):Prop where
 nm:ji q.name
 gs:∀g∈q.givens,ji g
 rs:∀z∈q.rows,RowR z.2.1 z.2.2.1 z.2.2.2
def Dv {n how:Str}{b:List (Str×Int)}(R:RowR n how b):TxtOk 12 how:=by
 rcases R.hw with rfl|rfl|h
 .exact Qj (by decide +kernel)
 .exact Qj (by decide +kernel)
 .exact h.1
def Ro {z:Int×Str×Str×List (Str×Int)}(R:RowR z.2.1 z.2.2.1 z.2.2.2):plN 11 (jO z)=true:=by
 have b:plN 9 (.lst (z.2.2.2.map rI))=true:=by
  show(z.2.2.2.map rI).all (plN 8)=true;refine Uq.mpr λd c=>?_;obtain⟨j,e,rfl⟩:=Ja.mp c;show[D.str j.1,D.int j.2].all (plN 7)=true;rw[Ui,K8 (R.is j e).1.1.asc];rfl
 have f:plN 10 (Kq z.2.1 z.2.2.1 z.2.2.2)=true:=by
  show[D.str z.2.1,D.str z.2.2.1,.lst (z.2.2.2.map rI)].all (plN 9)=true;rw[Ui,Ui,Ui,K8 R.nm.1.asc,K8 (Dv R).asc,b];rfl
 show[D.int z.1,Kq z.2.1 z.2.2.1 z.2.2.2].all (plN 10)=true;rw[Ui,Ui,f];rfl
def Rp (hp:HP)(z:Int×Str×Str×List (Str×Int)):dr hp 2 (jO z)=jO z:=rfl
def Rq {x:Str}(h:AtR hp a q)(G:DrG q)(c:q.rows ≠ [])(hx:ji x)(k:Int):WO [.adr a.1,.int k,.str (" given " ++ x)] hp=.ok (.bl false,hp):=by
 have f:=Du wX () hx;have g:=GV hx;have i:dr hp 6 (.adr a.1)=Qm q:=by
  rw[Ky _ h.pl];show D.ins "Draft" ["name", "givens", "rows"] [dr hp 4 (.str q.name),dr hp 4 (.adr a.2.1),dr hp 4 (.adr a.2.2)]=_;rw[Xs,Ky _ h.gv,Ky _ h.rw_,CW];show D.ins "Draft" ["name", "givens", "rows"] [.str q.name,.lst (q.givens.map .str),.lst ((q.rows.map jO).map (dr hp 2))]=_;rw[Rm (Rp hp)];rfl
 have j:TF "Draft" "rows" (Qm q)=some (.lst (q.rows.map jO)):=rfl;have l:qi (.lst (q.rows.map jO)) (.lst [])=some (.bl false):=by
  rw[CH (by
   show(q.rows.map jO).all (plN 11)=true;refine Uq.mpr λd m=>?_;obtain⟨z,n,rfl⟩:=Ja.mp m;exact Ro (G.rs z n))]
  cases e:q.rows with
  |nil=>exact Zn e c
  |cons _ _=>rfl
 refine ZP rfl ?_ λb o=>o;generalize (" given " : Str)++x=row at *;show((V7 [~~~(.adr a.1),~~~(.int k),~~~(.str row),none,none] hp).bind ju)=_;simp[V7,f,g,i,j,l,show jJ true (D.str x)=some (.bl true) from rfl,show jJ true D.non=some (.bl false) from rfl]
end
def fg (hp:HP)(x:Addr)(nm:Str)(o:D×HP):Prop:=o.1=.non/\∃g r,x≠g/\x≠r/\g≠r/\Tq hp g=none/\Tq hp r=none/\AtR o.2 (x,g,r) ⟨nm,[],[]⟩/\∀b,b≠x->b≠g->b≠r->Tq o.2 b=Tq hp b
def Rr {hp:HP}{x:Addr}{nm:Str}(hx:Tq hp x=none):(Bc [.adr x,.str nm] ((x,.ins "Draft" [] [])::hp)).need (fg hp x nm) λ_ _=>False:=by
 obtain⟨H0,eH⟩:∃H:HP,H=(x,D.ins "Draft" [] [])::hp:=⟨_,rfl⟩;have m:Tq H0 x=some (.ins "Draft" [] []):=by rw[eH,JT,Zd rfl]
 have k0:∀b,b≠x->Tq H0 b=Tq hp b:=λb z=>by rw[eH,JT,Ze z]
 rw[<- eH];have n:Tq H0 x≠none:=by rw[m];simp
 unfold Bc;refine XH rfl ?_;have B:WE "Draft" "name" [~~~(.adr x),~~~(.str nm)] (.str nm) (.adr x,H0)=.ok (.next [~~~(.adr x),~~~(.str nm)] (JD H0 x (.ins "Draft" ["name"] [.str nm]))):=CA m () ();show((ZQ [~~~(.adr x),~~~(.str nm)] H0).bind ju).need _ _;have o:Tq (JD H0 x (.ins "Draft" ["name"] [.str nm])) x=some (.ins "Draft" ["name"] [.str nm]):=V5 n;have k1:∀b,b≠x->Tq (JD H0 x (.ins "Draft" ["name"] [.str nm])) b=Tq hp b:=λb z=>(Qr n z).trans (k0 b z);unfold ZQ;simp[B];generalize JD H0 x (.ins "Draft" ["name"] [.str nm])=H1 at *;intro g i;have c:x≠g:=λz=>by rw[<- z,o] at i;cases i
 obtain⟨H2,eH2⟩:∃H:HP,H=(g,D.lst [])::H1:=⟨_,rfl⟩;rw[<- eH2];have p:Tq H2 x=some (.ins "Draft" ["name"] [.str nm]):=by rw[eH2,JT,Ze c,o]
 have C:Tq H2 g=some (.lst []):=by rw[eH2,JT,Zd rfl]
 have k2:∀b,b≠x->b≠g->Tq H2 b=Tq hp b:=λb z y=>by rw[eH2,JT,Ze y,k1 b z]
 have j:Tq H2 x≠none:=by rw[p];simp
 have E:WE "Draft" "givens" [~~~(.adr x),~~~(.str nm)] (.adr g) (.adr x,H2)=.ok (.next [~~~(.adr x),~~~(.str nm)] (JD H2 x (.ins "Draft" ["name", "givens"] [.str nm,.adr g]))):=CA p (by decide +kernel) ();have q:Tq (JD H2 x (.ins "Draft" ["name", "givens"] [.str nm,.adr g])) x=some (.ins "Draft" ["name", "givens"] [.str nm,.adr g]):=V5 j;have s:Tq (JD H2 x (.ins "Draft" ["name", "givens"] [.str nm,.adr g])) g=some (.lst []):=(Qr j c.symm).trans C;have k3:∀b,b≠x->b≠g->Tq (JD H2 x (.ins "Draft" ["name", "givens"] [.str nm,.adr g])) b=Tq hp b:=λb z y=>(Qr j z).trans (k2 b z y);simp[E];generalize JD H2 x (.ins "Draft" ["name", "givens"] [.str nm,.adr g])=H3 at *;intro r d;have h:x≠r:=λz=>by rw[<- z,q] at d;cases d
 have l:g≠r:=λz=>by rw[<- z,s] at d;cases d
 obtain⟨H4,eH4⟩:∃H:HP,H=(r,D.lst [])::H3:=⟨_,rfl⟩;rw[<- eH4];have t:Tq H4 x=some (.ins "Draft" ["name", "givens"] [.str nm,.adr g]):=by rw[eH4,JT,Ze h,q]
 have F:Tq H4 g=some (.lst []):=by rw[eH4,JT,Ze l,s]
 have G:Tq H4 r=some (.lst []):=by rw[eH4,JT,Zd rfl]
 have u:∀b,b≠x->b≠g->b≠r->Tq H4 b=Tq hp b:=λb z y w=>by rw[eH4,JT,Ze w,k3 b z y]
 have v:Tq H4 x≠none:=by rw[t];simp
 have I:WE "Draft" "rows" [~~~(.adr x),~~~(.str nm)] (.adr r) (.adr x,H4)=.ok (.next [~~~(.adr x),~~~(.str nm)] (JD H4 x (.ins "Draft" ["name", "givens", "rows"] [.str nm,.adr g,.adr r]))):=CA t (by decide +kernel) ();have A:Tq (JD H4 x (.ins "Draft" ["name", "givens", "rows"] [.str nm,.adr g,.adr r])) x=some (.ins "Draft" ["name", "givens", "rows"] [.str nm,.adr g,.adr r]):=V5 v;have k5:∀b,b≠x->Tq (JD H4 x (.ins "Draft" ["name", "givens", "rows"] [.str nm,.adr g,.adr r])) b=Tq H4 b:=λb z=>Qr v z;rw[I];generalize JD H4 x (.ins "Draft" ["name", "givens", "rows"] [.str nm,.adr g,.adr r])=H5 at *;have e:Tq hp g=none:=by rw[<- k1 g c.symm];exact i
 have f:Tq hp r=none:=by rw[<- k3 r h.symm l.symm];exact d
 show(∀b,Tq H0 b≠none->Tq H5 b≠none)/\fg hp x nm (.non,H5);refine⟨λb J=>?_,rfl,g,r,c,h,l,e,f,⟨A,(k5 g c.symm).trans F,(k5 r h.symm).trans G⟩,λb z y w=>(k5 b z).trans (u b z y w)⟩;by_cases z:b=x
 .rw[z,A];simp
 .have a:Tq hp b≠none:=by rw[<- k0 b z];exact J
  rw[k5 b z,u b z (λy=>a (by rw[y];exact e)) λy=>a (by rw[y];exact f)];exact a
section
variable {hp:HP}{p:Addr}{as:List (Addr×Addr×Addr)}{qs:List Dr}
def wM (p:Addr)(hp:HP)(a:List Dr)(o:D×HP):Prop:=o.1=.bl true/\(∃c,StR o.2 p c a)/\∀b,Tq hp b≠none->Tq o.2 b≠none
def Hb {x:Str}(h:StR hp p as qs)(hx:ji x)(t:qs.length<=1000)(k:Int):(Ka [.adr p,.int k,.str ("plan " ++ x)] hp).need (wM p hp (qs++[⟨x,[],[]⟩])) λ_ _=>False:=by
 have u:=Du Bv () hx;unfold Ka;refine XH rfl ?_;generalize ("plan " : Str)++x=row at *;show((V8 [~~~(.adr p),~~~(.int k),~~~(.str row),none] hp).bind ju).need _ _;unfold V8;simp[u,show jJ true (D.str x)=some (.bl true) from rfl,W9 h.hp_];intro y e;refine Wr.need_bind.mpr (Wr.need_bind.mpr (Wr.need_bind.mpr (Wr.need_bind.mpr (Wr.need_bind.mpr ((Rr e).mono (λo v=>?_) λ_ _ z=>z)))));obtain⟨d,H⟩:=o;obtain⟨rfl,g,r,w,A,B,i,j,C,l⟩:=v;have m:Tq hp p≠none:=by rw[h.hp_];simp
 have n:p≠y:=λz=>m (by rw[z];exact e);have q:p≠g:=λz=>m (by rw[z];exact i);have s:p≠r:=λz=>m (by rw[z];exact j);have c:Tq H p=some (.lst (as.map λb=>.adr b.1)):=(l p n q s).trans h.hp_;have E:(as.map λb=>D.adr b.1).length<sizeLine:=by rw[Zql,h.all.len];exact JV t
 show(Wr.need (ZH y (.non,H)) _ _);rw[O9];show(Wr.need (Wl _ p (.adr y,H)) _ _);rw[WA c E];have f:Tq H p≠none:=by rw[c];simp
 have st:StR (JD H p (.lst ((as.map λb=>D.adr b.1)++[.adr y]))) p (as++[(y,g,r)]) (qs++[⟨x,[],[]⟩]):=by
  refine h.plan e i j w A B (C.mono λb a=>Qr f ?_) ?_ λb F G I J=>(Qr f J).trans (l b F G I)
  .have:b=y\/b=g\/b=r:=by simpa using a
   rcases this with rfl|rfl|rfl
   .exact n.symm
   .exact q.symm
   .exact s.symm
  .rw[V5 f,Uc];rfl
 have keep:∀b,Tq hp b≠none->Tq (JD H p (.lst ((as.map λb=>D.adr b.1)++[.adr y]))) b≠none:=λb a=>by
  rw[KJ b f]
  split
  .simp
  .rw[l b (λz=>a (by rw[z];exact e)) (λz=>a (by rw[z];exact i)) λz=>a (by rw[z];exact j)];exact a
 exact⟨keep,rfl,⟨_,st⟩,keep⟩
def Bw {q q':Dr}{row:Str}{k:Int}(h:StR hp p as (qs++[q]))(d:Kp [.str "plan ",.str row]=.ok .non)
 (f:∀(bs:List (Addr×Addr×Addr)) (a:Addr×Addr×Addr),as=bs++[a]->jC hp bs qs->AtR hp a q->∃hp',WO [.adr a.1,.int k,.str row] hp=.ok (.bl true,hp')/\StR hp' p as (qs++[q'])/\∀b,Tq hp b≠none->Tq hp' b≠none):
 (Ka [.adr p,.int k,.str row] hp).need (wM p hp (qs++[q'])) λ_ _=>False:=by
 obtain⟨bs,a,c,g,i⟩:=h.all.last;obtain⟨hp',e,st,keep⟩:=f bs a c g i;have j:xf (.adr p) (.int (-1),hp)=.ok (.adr a.1,hp):=by
  rw[XG (q:=(D.int (-1),hp)) h.hp_];show(Wr.of (.ofO (j0 (as.map λb=>D.adr b.1) (-1)))).bind _=_;rw[c,Uc,List.map_singleton,VW];rfl
 have dp:=h.dp;have l:yJ (Wb (qs++[q])) (.lst [])=some (.bl true):=by
  show some (D.bl (!((qs++[q]).map Qm).isEmpty))=_;simp
 unfold Ka;refine XH rfl ?_;show((V8 [~~~(.adr p),~~~(.int k),~~~(.str row),none] hp).bind ju).need _ _;unfold V8;simp[d,show jJ true D.non=some (.bl false) from rfl,dp,l,j,e];exact⟨keep,rfl,⟨_,st⟩,keep⟩
def Hc {q:Dr}{row:Str}{k:Int}(h:StR hp p as (qs++[q]))(c:Kp [.str "plan ",.str row]=.ok .non)
 (f:∀(a:Addr×Addr×Addr),AtR hp a q->WO [.adr a.1,.int k,.str row] hp=.ok (.bl false,hp)):
 (Ka [.adr p,.int k,.str row] hp).need (λo=>o.1=.bl false) λ_ _=>False:=by
 obtain⟨bs,a,d,l,g⟩:=h.all.last;have e:=f a g;have i:xf (.adr p) (.int (-1),hp)=.ok (.adr a.1,hp):=by
  rw[XG (q:=(D.int (-1),hp)) h.hp_];show(Wr.of (.ofO (j0 (as.map λb=>D.adr b.1) (-1)))).bind _=_;rw[d,Uc,List.map_singleton,VW];rfl
 have dp:=h.dp;have j:yJ (Wb (qs++[q])) (.lst [])=some (.bl true):=by
  show some (D.bl (!((qs++[q]).map Qm).isEmpty))=_;simp
 unfold Ka;refine XH rfl ?_;show((V8 [~~~(.adr p),~~~(.int k),~~~(.str row),none] hp).bind ju).need _ _;unfold V8;simp[c,show jJ true D.non=some (.bl false) from rfl,dp,j,i,e]
def Rs {row:Str}{k:Int}(h:StR hp p as [])(a:Kp [.str "plan ",.str row]=.ok .non):(Ka [.adr p,.int k,.str row] hp).need (λo=>o.1=.bl false) λ_ _=>False:=by
 have dp:=h.dp;have b:yJ (Wb []) (.lst [])=some (.bl false):=rfl;unfold Ka;refine XH rfl ?_;show((V8 [~~~(.adr p),~~~(.int k),~~~(.str row),none] hp).bind ju).need _ _;unfold V8;simp[a,show jJ true D.non=some (.bl false) from rfl,dp,b]
end
def V9 (q:Dr):Yh:=(("plan " : Str)++q.name)::(q.givens.map (λg=>(" given " : Str)++g)++q.rows.map λz=>jA z.2.1 z.2.2.1 z.2.2.2)
def Kb (a:List Dr):Yh:=a.flatMap V9
def ZY (a b:List Dr):Kb (a++b)=Kb a++Kb b:=List.flatMap_append
def ZZ (q:Dr):Kb [q]=V9 q:=by unfold Kb;simp
def Rt (q:Dr):(V9 q).length=1+(q.givens.length+q.rows.length):=by unfold V9;simp;lia
theorem Dw:∀a:List Dr,a.length<=(Kb a).length/\∀q∈a,q.givens.length+q.rows.length<=(Kb a).length
 | []=>⟨Ug _,λ_ h=>nomatch h⟩
 |q::a=>by
  obtain⟨c,b⟩:=Dw a;have e:Kb (q::a)=V9 q++Kb a:=rfl;rw[e,Ua,Rt,Zu];refine⟨(),λz hz=>?_⟩;rcases UB.mp hz with rfl|hz
  .omega
  .have:=b z hz;lia
def Ru {N:Nat}{row:Str}(l:TxtOk N row)(m:N<=16000000){d:List Dr}(G:∀q∈d,DrG q)(v:(Kb d).length<=1000)(k:Int):
 (∃i,Kb i=Kb d++[row]/\(∀q∈i,DrG q)/\∀hp p f,StR hp p f d->(Ka [.adr p,.int k,.str row] hp).need (wM p hp i) λ_ _=>False)\/(∀hp p f,StR hp p f d->(Ka [.adr p,.int k,.str row] hp).need (λo=>o.1=.bl false) λ_ _=>False):=by
 obtain⟨w,u⟩:=Dw d;rcases GT Bv () l m with ⟨x,hx,rfl,_⟩|e1
 .refine .inl ⟨d++[⟨x,[],[]⟩],by rw[ZY,ZZ];rfl,λq hq=>?_,λhp p f st=>Hb st hx () k⟩;rcases Jb.mp hq with hq|hq
  .exact G q hq
  .rw[Jc.mp hq];exact⟨hx,λ_ h=>(nomatch h),λ_ h=>(nomatch h)⟩
 rcases List.eq_nil_or_concat d with rfl|⟨d,q,rfl⟩
 .exact .inr λhp p f st=>Rs st e1
 rw[List.concat_eq_append] at *;have j:DrG q:=G q ();have y:=u q ();have rest:∀q',DrG q'->∀z∈d++[q'],DrG z:=λq' g z hz=>by
  rcases Jb.mp hz with hz|hz
  .exact G z (Ur _ hz)
  .rw[Jc.mp hz];exact g
 rcases GT wX () l m with ⟨x,hx,rfl,_⟩|e2
 .by_cases c:q.rows=[]
  .refine .inl ⟨d++[⟨q.name,q.givens++[x],q.rows⟩],?_,rest _ ⟨j.nm,λg hg=>?_,j.rs⟩,λhp p f st=>Bw st e1 λbs a r s e=>⟨_,GZ e c hx () k,?_,λb t=>?_⟩⟩
   .rw[ZY,ZY,ZZ,ZZ,Uo];unfold V9;simp[c]
   .rcases Jb.mp hg with hg|hg
    .exact j.gs g hg
    .rw[Jc.mp hg];exact hx
   .subst r;exact st.given e s _
   .rw[KJ b (by rw[e.gv];simp)]
    split
    .simp
    .exact t
  .exact .inr λhp p f st=>Hc st e1 λa e=>Rq e j c hx k
 .rcases Ri l m with ⟨n,how,its,R,er,e3⟩|e3
  .refine .inl ⟨d++[⟨q.name,q.givens,q.rows++[(k,n,how,its)]⟩],?_,rest _ ⟨j.nm,j.gs,λz hz=>?_⟩,λhp p f st=>Bw st e1 λbs a r s e=>⟨_,Ha e e2 e3 () k,?_,λb t=>?_⟩⟩
   .rw[ZY,ZY,ZZ,ZZ,Uo];unfold V9;simp[er]
   .rcases Jb.mp hz with hz|hz
    .exact j.rs z hz
    .rw[Jc.mp hz];exact R
   .subst r;exact st.made e s _
   .rw[KJ b (by rw[e.rw_];simp)]
    split
    .simp
    .exact t
  .exact .inr λhp p f st=>Hc st e1 λa e=>Rn e2 e3 k
def xy:Nat->List Str->Yt
 |_,[]=>[]
 |k,x::r=>.tup [.int ((k:Int)+1),.str x]::xy (k+1) r
theorem Hd:∀(xs:Yh) (k i:Nat),(xy k xs)[i]? = xs[i]?.map λx=>D.tup [.int (((k+i:Nat):Int)+1),.str x]
 | [],k,i=>by simp[xy]
 |x::xs,k,0=>rfl
 |x::xs,k,i+1=>by
  show(xy (k+1) xs)[i]? = xs[i]?.map _;rw[Hd xs (k+1) i,show k+1+i=k+(i+1) by lia]
def Dx (xs:Yh):WD (xs.map .str)=xy 0 xs:=by
 apply List.ext_getElem?;intro i;rw[F9,Hd,Zv,Option.map_map,U6];rfl
def yt:j6:=(Kg (AR (Xo (AU Ka (J3 (vL (Tn 1)) (J3 (vL (Tn 2)) (J3 (vL (Tn 3)) TZ)))))) (zL (JL "BadRow" (Tn 2))) KS)
def Dy:Wa=(TV (qd 1 (jm TZ)) (TV (xH (zO (Jt (TW KM (Tn 0) (dC (.str "\n"))) Tp)) (.tup [2,3]) yt) (qz (vL (Tn 1))))):=rfl
def Dz (t:D)(p:Addr)(r:List Dr)(o:Out3):Prop:=∃x2 x3 hp' a,o=.next [~~~t,~~~(.adr p),x2,x3] hp'/\StR hp' p a r
def Rv {t:D}{p:Addr}{x2 x3:Option SV}{hp:HP}{row:Str}{k:Int}{a:List Dr}{Q:Str->Yt->Prop}(h:(Ka [.adr p,.int k,.str row] hp).need (wM p hp a) λ_ _=>False):
 (QH (.tup [2,3]) yt (.tup [.int k,.str row]) [~~~t,~~~(.adr p),x2,x3] hp).need (Dz t p a) Q:=by
 have b:JY (.tup [2,3]) (.tup [.int k,.str row]) [~~~t,~~~(.adr p),x2,x3]=.ok [~~~t,~~~(.adr p),~~~(.int k),~~~(.str row)]:=rfl;unfold QH;rw[b];show(yt [~~~t,~~~(.adr p),~~~(.int k),~~~(.str row)] hp).need _ _;unfold yt;simp;refine Wr.need_bind.mpr (Wr.need_bind.mpr (Wr.need_bind.mpr ((jB h).mono (λo c=>?_) λ_ _ z=>z)));obtain⟨d,H⟩:=o;obtain⟨rfl,⟨e,st⟩,_⟩:=c;exact⟨_,_,_,_,rfl,st⟩
def wU (c:Str)(fs:Yt):Prop:=c = "BadRow" /\ fs=[]
def Rw {t:D}{p:Addr}{x2 x3:Option SV}{hp:HP}{row:Str}{k:Int}{P:Out3->Prop}(h:(Ka [.adr p,.int k,.str row] hp).need (λo=>o.1=.bl false) λ_ _=>False):
 (QH (.tup [2,3]) yt (.tup [.int k,.str row]) [~~~t,~~~(.adr p),x2,x3] hp).need P wU:=by
 have a:JY (.tup [2,3]) (.tup [.int k,.str row]) [~~~t,~~~(.adr p),x2,x3]=.ok [~~~t,~~~(.adr p),~~~(.int k),~~~(.str row)]:=rfl;unfold QH;rw[a];show(yt [~~~t,~~~(.adr p),~~~(.int k),~~~(.str row)] hp).need _ _;unfold yt;simp;refine Wr.need_bind.mpr (Wr.need_bind.mpr (Wr.need_bind.mpr ((jB h).mono (λo b=>?_) λ_ _ z=>z)));obtain⟨d,H⟩:=o;obtain rfl:d=.bl false:=b;exact⟨rfl,rfl⟩
def He {b:D->j6}{x:D}{xs:Yt}{sd:SD}{hp:HP}{P:Out3->Prop}{Q:Str->Yt->Prop}(h:(b x sd hp).need (λo=>∃a hp',o=.next a hp'/\(jN b xs a hp').need P Q) Q):(jN b (x::xs) sd hp).need P Q:=by
 unfold jN;refine Wr.need_bind.mpr (h.mono (λo c=>?_) λ_ _ z=>z);obtain⟨a,hp',rfl,h⟩:=c;exact h
def Aa {t:D}{p:Addr}{x2 x3:Option SV}{hp:HP}{row:Str}{k:Int}{a:List Dr}{ds:Yt}{P:Out3->Prop}{Q:Str->Yt->Prop}(h:(Ka [.adr p,.int k,.str row] hp).need (wM p hp a) λ_ _=>False)
 (e:∀(x2 x3:Option SV) (hp:HP) (f:List (Addr×Addr×Addr)),StR hp p f a->(jN (QH (.tup [2,3]) yt) ds [~~~t,~~~(.adr p),x2,x3] hp).need P Q):
 (jN (QH (.tup [2,3]) yt) (.tup [.int k,.str row]::ds) [~~~t,~~~(.adr p),x2,x3] hp).need P Q:=by
 have g:=Rv (t:=t) (x2:=x2) (x3:=x3) (Q:=Q) h;generalize QH (.tup [2,3]) yt=b at *;apply He;refine g.mono (λo i=>?_) λ_ _ z=>z;obtain⟨j,l,hp',c,rfl,d⟩:=i;exact⟨_,_,rfl,e j l hp' c d⟩
def Rx {t:D}{p:Addr}{x2 x3:Option SV}{hp:HP}{row:Str}{k:Int}{ds:Yt}{P:Out3->Prop}(h:(Ka [.adr p,.int k,.str row] hp).need (λo=>o.1=.bl false) λ_ _=>False):
 (jN (QH (.tup [2,3]) yt) (.tup [.int k,.str row]::ds) [~~~t,~~~(.adr p),x2,x3] hp).need P wU:=by
 have a:=Rw (t:=t) (x2:=x2) (x3:=x3) (P:=λ_=>False) h;generalize QH (.tup [2,3]) yt=b at *;apply He;exact a.mono (λo c=>c.elim) λ_ _ z=>z
theorem Hf {t:D}{N:Nat}(c:N<=16000000):∀(rs:Yh) (k:Nat) (b:List Dr),(∀r∈rs,TxtOk N r)->(∀q∈b,DrG q)->(Kb b).length+rs.length<=1000 ->
 (∃r,Kb r=Kb b++rs/\(∀q∈r,DrG q)/\∀(p:Addr) (x2 x3:Option SV) (hp:HP) (a:List (Addr×Addr×Addr)),StR hp p a b->(jN (QH (.tup [2,3]) yt) (xy k rs) [~~~t,~~~(.adr p),x2,x3] hp).need (Dz t p r) λ_ _=>False) \/
 (∀(p:Addr) (x2 x3:Option SV) (hp:HP) (a:List (Addr×Addr×Addr)),StR hp p a b->(jN (QH (.tup [2,3]) yt) (xy k rs) [~~~t,~~~(.adr p),x2,x3] hp).need (λ_=>False) wU)
 | [],k,b,_,G,_=>.inl ⟨b,(ZA _).symm,G,λp x2 x3 hp a st=>by
  unfold xy jN;exact⟨x2,x3,hp,a,rfl,st⟩⟩
 |row::rs,k,b,hr,G,hl=>by
  rw[Zu] at hl;rcases Ru (hr row Zqs) c G () ((k:Int)+1) with ⟨qs',e,G',f⟩|f
  .rcases Hf (t:=t) c rs (k+1) qs' (λr h=>hr r (Zqm _ h)) G' (by rw[e,Ua,Ue];lia) with ⟨r,e2,G2,f2⟩|f2
   .exact .inl ⟨r,by rw[e2,e,Uo];rfl,G2,λp x2 x3 hp a st=>Aa (f hp p a st) λx2 x3 hp a st=>f2 p x2 x3 hp a st⟩
   .exact .inr λp x2 x3 hp a st=>Aa (f hp p a st) λx2 x3 hp a st=>f2 p x2 x3 hp a st
  .exact .inr λp x2 x3 hp a st=>Rx (f hp p a st)
def Hg (hp:HP):∃a,Tq hp a=none:=by
 have:∀l:Yg,∃a,∀b∈l,b<a:=λl=>by
  induction l with
  |nil=>exact⟨0,λb h=>nomatch h⟩
  |cons c l d =>
   obtain⟨a,h⟩:=d;refine⟨a+c+1,λb hb=>?_⟩;rcases UB.mp hb with rfl|hb
   .omega
   .have:=h b hb;lia
 obtain⟨a,h⟩:=this (hp.map (·.1));exact⟨a,f5.mpr λz=>by have:=h a z;lia⟩
theorem D0 {α: Type}{p q:α -> Prop}:∀{w:Wr α},(w.need p λ_ _=>False)->(w.need q λ_ _=>False)->∃a,p a/\q a
 | .ok a,h1,h2=>⟨a,h1,h2⟩
 | .ex _ _,h1,_=>h1.elim
 | .no,h1,_=>h1.elim
 | .new hp k,h1,h2=>by
  obtain⟨a,b⟩:=Hg hp;exact D0 (h1 a b) (h2 a b)
theorem Hh {α: Type}{p:α -> Prop}{q:Str->Yt->Prop}:∀{w:Wr α},(w.need p λ_ _=>False)->(w.need (λ_=>False) q)->False
 | .ok _,_,h2=>h2
 | .ex _ _,h1,_=>h1
 | .no,h1,_=>h1
 | .new hp k,h1,h2=>by
  obtain⟨a,b⟩:=Hg hp;exact Hh (h1 a b) (h2 a b)
def Ry {n:Nat}{x:Str}(hx:TxtOk n x)(j:n<=16000000)(w:(Txt.split x "\n").length<=1000):(∃r,Kb r=Txt.split x "\n" /\ (∀q∈r,DrG q)/\KY [.str x]=.ok (Wb r))\/KY [.str x]=.ex "BadRow" []:=by
 have g:=Vy (s:= "\n") hx j (by decide +kernel);have st:∀p:Addr,StR [(p,D.lst [])] p [] []:=λp=>⟨by rw[JT,Zd rfl];rfl,rfl,by simp[jl]⟩;rcases Hf (t:=.str x) j (Txt.split x "\n") 0 [] (λr l=>Y3 hx l) (λ_ h=>nomatch h) (by show 0+_<=_;lia) with ⟨r,e,G,f⟩|f
 .have b:fz [.str x] (Wb r):=by
   refine⟨rfl,?_⟩;show((Wa [~~~(.str x),none,none,none] []).bind ju).need _ _;rw[Dy];simp[TW,g,xH];intro p hp;rw[Dx];refine Wr.need_bind.mpr (Wr.need_bind.mpr ((f p none none _ _ (st p)).mono (λo c=>?_) λ_ _ z=>z));obtain⟨y,A,hp',m,rfl,i⟩:=c;exact i.dp
  refine .inl ⟨r,e,G,?_⟩;unfold KY;rw[dif_pos ⟨_,b⟩];obtain⟨a,u,v⟩:=D0 (UG (⟨_,b⟩:∃d,fz [.str x] d)).2 b.2;rw[<- u,v]
 .have b:nM [.str x]:=by
   refine⟨rfl,?_⟩;show((Wa [~~~(.str x),none,none,none] []).bind ju).need _ _;rw[Dy];simp[TW,g,xH];intro p hp;rw[Dx];exact Wr.need_bind.mpr (Wr.need_bind.mpr ((f p none none _ _ (st p)).mono (λo c=>c.elim) λ_ _ z=>z))
  refine .inr ?_;unfold KY;rw[dif_neg λ⟨d,h⟩=>Hh h.2 b.2];exact @if_pos _ (Classical.propDecidable _) b _ _ _
structure NbT (xs:Yh)(t:List (Str×Int)):Prop where
 len:t.length<=xs.length
 yes:∀x∈xs,∃j:Nat,jx t x=some (j:Int)/\xs[j]? = some x
 no:∀x,x∉xs->jx t x=none
def Rz {xs:Yh}(F:xs.length<=920):∃t,NbT xs t/\Y0 [.lst (xs.map .str)]=.ok (dT t):=by
 obtain⟨u,v,t,u2,u3,e,T⟩:=Kl (tg:=.tup [2,3]) (b:=(WF 1 (Tn 3) (Tn 2))) (ds:=KH (xs.map .str))
  (sd:=[~~~(.lst (xs.map .str)),some (.own false (.dct [] [])),none,none])
  (P:=λi sd=>∃(t:List (Str×Int)) (u2 u3:Option SV),sd=[~~~(.lst (xs.map .str)),some (.own false (dT t)),u2,u3]/\NbT (xs.take i) t) ⟨[],none,none,rfl,Ug _,λ_ h=>by simp at h,λ_ _=>rfl⟩ (by
   rintro i d sd hx ⟨t,u2,u3,rfl,T⟩;rw[Ct,Zv] at hx;cases f:xs[i]? with
   |none=>rw[f] at hx;cases hx
   |some x =>
    rw[f] at hx;obtain rfl:=Zqi hx;have G:=(Jd.mp f).1;have tk:xs.take (i+1)=xs.take i++[x]:=by rw[Us,f];rfl
    have w:(xs.take i).length=i:=by rw[Uk];lia
    have A:=T.len;rw[w] at A;have q:=JV (show t.length<=1000 from ());have n:=Wo t x;have g:(JY (.tup [2,3]) (.tup [.int (i:Int),.str x]) [~~~(.lst (xs.map .str)),some (.own false (dT t)),u2,u3]).bind (WF 1 (Tn 3) (Tn 2))=ZI 1 [~~~(.lst (xs.map .str)),some (.own false (dT t)),~~~(.int i),~~~(.str x)] (t.map λp=>.inr p.1) (t.map λp=>D.int p.2) (.int i) (Qg (.str x)):=rfl;have H:Qg (.str x)=some (.inr x):=rfl;have a:∀y∈xs.take i,∃j:Nat,jx t y=some (j:Int)/\(xs.take (i+1))[j]? = some y:=λy hy=>by
     obtain⟨j,l,m⟩:=T.yes y hy;exact⟨j,l,by rw[tk,Up (Jd.mp m).1];exact m⟩
    by_cases c:x∈xs.take i
    .obtain⟨j,l,m⟩:=T.yes x c;rw[l] at n;refine⟨[~~~(.lst (xs.map .str)),some (.own false (dT t)),~~~(.int i),~~~(.str x)],?_,t,_,_,rfl,by rw[tk,Ua];have:=T.len;lia,λy hy=>?_,λy hy=>?_⟩
     .show(JY (.tup [2,3]) (.tup [.int (i:Int),.str x]) _).bind _=_;rw[g];show(if(t.map λp:Str×Int=>(Um p.1:TM)).length<sizeLine then(match jk (t.map λp=>.inr p.1) (t.map λp=>D.int p.2) (.inr x) with
       |some _=>_
       |none=>_) else _)=_
      rw[Zql,Zd q,n];rfl
     .rw[tk] at hy;rcases Jb.mp hy with hy|hy
      .exact a y hy
      .rw[Jc.mp hy];exact a x c
     .exact T.no y λz=>hy (by rw[tk];exact Ur _ z)
    .have r:=T.no x c;rw[r] at n;have s:=wW.mp r;have pt:=ZL s (i:Int);refine⟨[~~~(.lst (xs.map .str)),some (.own false (dT (t++[(x,(i:Int))]))),~~~(.int i),~~~(.str x)],?_,t++[(x,(i:Int))],_,_,rfl,by rw[tk,Ua,Ua];have:=T.len;simp;lia,λy hy=>?_,λy hy=>?_⟩
     .show(JY (.tup [2,3]) (.tup [.int (i:Int),.str x]) _).bind _=_;rw[g,<- pt];show(if(t.map λp:Str×Int=>(Um p.1:TM)).length<sizeLine then(match jk (t.map λp=>.inr p.1) (t.map λp=>D.int p.2) (.inr x) with
       |some _=>_
       |none=>_) else _)=_
      rw[Zql,Zd q,n];rfl
     .have o:∃j:Nat,jx (t++[(x,(i:Int))]) x=some (j:Int)/\(xs.take (i+1))[j]? = some x:=⟨i,by rw[FW s,CI],by rw[Vs ()];exact f⟩;rw[tk] at hy;rcases Jb.mp hy with hy|hy
      .obtain⟨j,l,m⟩:=a y hy;have ne:x≠y:=λz=>c (by rw[z];exact hy);exact⟨j,by rw[FY ne];exact l,m⟩
      .rw[Jc.mp hy];exact o
     .have B:y∉xs.take i:=λz=>hy (by rw[tk];exact Ur _ z);have C:x≠y:=λz=>hy (by rw[tk,z];simp);rw[FY C];exact T.no y B)
 have E:(KH (xs.map D.str)).length=xs.length:=by unfold KH;simp
 rw[E,Uu] at T;subst e;exact⟨t,T,by simp[Y0,ZT,Wh,v]⟩
def R0 {xs:Yh}{t:List (Str×Int)}(T:NbT xs t){a:List (Str×Int)}(u:a.length<=16000001)(m:Int):
 (∃is:Jr,(a=is.map λi=>(jf xs i.1,i.2))/\(∀i∈is,0<=i.1/\i.1<(xs.length:Int))/\KZ [.lst (a.map rI),dT t,.int m]=.ok (jz is))\/KZ [.lst (a.map rI),dT t,.int m]=.ex "NoName" []:=by
 obtain⟨L,hL⟩:∃L,L=a.map rI:=⟨_,rfl⟩;rw[<- hL];have step:∀{i:Nat} {d:D} {u3 u4:Option SV},L[i]? = some d->∃p∈a,a[i]? = some p/\((p.1∈xs->(JY (.tup [3,4]) d [~~~(.lst L),~~~(dT t),~~~(.int m),u3,u4]).bind (jq (Jx (Ts (jY true) (Tn 3) (Tn 1))) (JL "NoName" (Tn 2)) JA)=.ok (.next [~~~(.lst L),~~~(dT t),~~~(.int m),~~~(.str p.1),~~~(.int p.2)]))/\(p.1∉xs->(JY (.tup [3,4]) d [~~~(.lst L),~~~(dT t),~~~(.int m),u3,u4]).bind (jq (Jx (Ts (jY true) (Tn 3) (Tn 1))) (JL "NoName" (Tn 2)) JA)=.ex "NoName" [])):=λ{i d u3 u4} hx=>by
  rw[hL] at hx;obtain⟨p,hp,rfl⟩:=QK hx;refine⟨p,Uh hp,hp,λn=>?_,λn=>?_⟩
  .obtain⟨j,e,_⟩:=T.yes _ n;have g:=FU true t p.1;rw[e] at g;simp[rI,g]
  .have g:=FU true t p.1;rw[T.no _ n] at g;simp[rI,g]
 by_cases c:∀p∈a,p.1∈xs
 .refine .inl ⟨a.map λp=>((jx t p.1).getD 0,p.2),?_,λi o=>?_,?_⟩
  .rw[Zw]
   conv=>lhs;rw[<- List.map_id a]
   refine Vc λp hp=>?_;obtain⟨j,e,f⟩:=T.yes _ (c p hp);show p=(jf xs ((jx t p.1).getD 0),p.2);rw[e];show p=(jf xs (j:Int),p.2);unfold jf;rw[Ul,Uj,f];rfl
  .obtain⟨p,hp,rfl⟩:=Ja.mp o;obtain⟨j,e,f⟩:=T.yes _ (c p hp);have:=(Jd.mp f).1;show 0<=(jx t p.1).getD 0/\(jx t p.1).getD 0<_;rw[e];show(0:Int)<=(j:Int)/\(j:Int)<_;lia
  .obtain⟨v,w,u3,u4,l⟩:=Kl (tg:=.tup [3,4]) (b:=(jq (Jx (Ts (jY true) (Tn 3) (Tn 1))) (JL "NoName" (Tn 2)) JA)) (ds:=L)
    (sd:=[~~~(.lst L),~~~(dT t),~~~(.int m),none,none])
    (P:=λi sd=>∃(u3 u4:Option SV),sd=[~~~(.lst L),~~~(dT t),~~~(.int m),u3,u4]) ⟨none,none,rfl⟩ (by
     rintro i d sd hx ⟨u3,u4,rfl⟩;obtain⟨p,hp,_,e,_⟩:=step (u3:=u3) (u4:=u4) hx;exact⟨_,e (c p hp),_,_,rfl⟩)
   have q:js (.tup [0,1]) (jn (Jt (Ts T7 (Tn 2) (Tn 0)) (Jt (Tn 1) Tp))) [none,none,~~~(dT t)] L=.ok ((a.map λp=>((jx t p.1).getD 0,p.2)).map qu):=by
    rw[hL,Zw];refine Q7 λp hp=>?_;obtain⟨j,e,_⟩:=T.yes _ (c p hp);have g:=kt t p.1;rw[e] at g;simp[rI,g,qu,e]
   have x:L.length<sizeLine:=GI (by rw[hL,Zql];exact u);subst l;simp[KZ,Yz,w,q,x,jz]
 .have r:j4 (.tup [3,4]) (jq (Jx (Ts (jY true) (Tn 3) (Tn 1))) (JL "NoName" (Tn 2)) JA) L [~~~(.lst L),~~~(dT t),~~~(.int m),none,none]=.ex "NoName" []:=by
   refine Wi (R:=λz=>z=.ex "NoName" []) (P:=λi sd=>(∀p∈a.take i,p.1∈xs)/\∃(u3 u4:Option SV),sd=[~~~(.lst L),~~~(dT t),~~~(.int m),u3,u4]) ⟨λp hp=>by simp at hp,none,none,rfl⟩ ?_ ?_
   .rintro sd ⟨h,_⟩;rw[hL,Zql,Uu] at h;exact Zn h c
   .rintro i d sd hx ⟨h,u3,u4,rfl⟩;obtain⟨p,hp,o,e,f⟩:=step (u3:=u3) (u4:=u4) hx;by_cases s:p.1∈xs
    .refine .inl ⟨_,e s,λz hz=>?_,_,_,rfl⟩;rw[Us,o] at hz;rcases Jb.mp hz with hz|hz
     .exact h z hz
     .rw[Jc.mp hz];exact s
    .exact .inr ⟨_,_,f s,rfl⟩
  exact .inr (by simp[KZ,Yz,r])
def D1 (xs:Yh)(r:Str×Str×Jr):qR xs r=jA r.1 r.2.1 (r.2.2.map λi=>(jf xs i.1,i.2)):=by
 unfold qR jA xW;rw[Zw];rfl
def Hi (nm:Str)(a b:Yt):XQ [.str nm,.lst a,.lst b]=.ok [.str nm,.lst a,.lst b]:=rfl
def mO (xs:Yh)(z:Int×Str×Str×List (Str×Int))(r:Str×Str×Jr):Prop:=z.2=(r.1,r.2.1,r.2.2.map λi=>(jf xs i.1,i.2))/\∀i∈r.2.2,0<=i.1/\i.1<(xs.length:Int)
def xC (xs:Yh):List (Int×Str×Str×List (Str×Int))->List (Str×Str×Jr)->Prop
 | [],rs=>rs=[]
 |z::zs,rs=>∃r a,rs=r::a/\mO xs z r/\xC xs zs a
theorem xC.snoc {xs:Yh}{z:Int×Str×Str×List (Str×Int)}{r:Str×Str×Jr}(h:mO xs z r):∀{c:List (Int×Str×Str×List (Str×Int))} {rs:List (Str×Str×Jr)},xC xs c rs->xC xs (c++[z]) (rs++[r])
 | [],rs,e=>by rw[show rs=[] from e];exact⟨r,[],rfl,h,rfl⟩
 |y::c,rs,e=>by
  obtain⟨a,b,rfl,d,f⟩:=e;exact⟨a,b++[r],rfl,d,f.snoc h⟩
theorem xC.out {xs:Yh}:∀{c:List (Int×Str×Str×List (Str×Int))} {rs:List (Str×Str×Jr)},xC xs c rs->rs.length=c.length/\rs.map (·.1)=c.map (·.2.1)/\rs.map (qR xs)=c.map (λz=>jA z.2.1 z.2.2.1 z.2.2.2)/\∀r∈rs,∃z∈c,mO xs z r
 | [],rs,e=>by rw[show rs=[] from e];exact⟨rfl,rfl,rfl,λ_ h=>nomatch h⟩
 |y::c,rs,e=>by
  obtain⟨a,b,rfl,d,f⟩:=e;obtain⟨k1,k2,k3,g⟩:=f.out;have q:=d.1;refine⟨by rw[Zu,Zu,k1],by rw[Zl,Zl,k2,q],by rw[Zl,Zl,k3,D1,q],λr hr=>?_⟩;rcases UB.mp hr with rfl|hr
  .exact⟨y,Zqs,d⟩
  .obtain⟨z,i,j⟩:=g r hr;exact⟨z,Zqm _ i,j⟩
structure PlM (q:Dr)(p:Pl):Prop where
 nm:p.name=q.name
 gs:p.givens=q.givens
 rs:xC (q.givens++q.rows.map (·.2.1)) q.rows p.rows
def R1 {q:Dr}(b:q.givens.length+q.rows.length<=920)(c:∀z∈q.rows,z.2.2.2.length<=16000001):(∃p,PlM q p/\K4 [Qm q]=.ok (J7 p))\/K4 [Qm q]=.ex "NoName" []:=by
 obtain⟨nm,gs,R⟩:=q;have b:gs.length+R.length<=920:=b;have c:∀z∈R,z.2.2.2.length<=16000001:=c;obtain⟨xs,a⟩:∃xs,xs=gs++R.map (·.2.1):=⟨_,rfl⟩;have w:xs.length<=920:=by rw[a,Ua,Zql];exact b
 obtain⟨t,T,l⟩:=Rz w;obtain⟨L,hL⟩:∃L,L=R.map jO:=⟨_,rfl⟩;have x:L.length=R.length:=by rw[hL,Zql]
 have m:js (.tup [0,1]) (Ts T7 (Tn 1) (dC (.int 0))) [none,none] L=.ok (R.map λz=>.str z.2.1):=by
  rw[hL];refine Q7 λz f=>?_;have g:T7 (Kq z.2.1 z.2.2.1 z.2.2.2) (.int 0)=some (.str z.2.1):=jV _ _;simp[jO,g]
 have n:T6 (.lst (gs.map .str)) (.lst (R.map λz=>.str z.2.1))=some (.lst (xs.map .str)):=by
  show(if(gs.map D.str).length+(R.map λz=>D.str z.2.1).length<=sizeLine then some (D.lst (gs.map D.str++R.map λz=>D.str z.2.1)) else none)=_;rw[Zd (small (by rw[Zql,Zql];lia)),a,Uc,Zw];rfl
 have y:Qm ⟨nm,gs,R⟩=.ins "Draft" ["name", "givens", "rows"] [.str nm,.lst (gs.map .str),.lst L]:=by rw[hL];rfl
 rw[y];obtain⟨dd,hdd⟩:∃dd,dd=D.ins "Draft" ["name", "givens", "rows"] [.str nm,.lst (gs.map .str),.lst L]:=⟨_,rfl⟩;have r:TF "Draft" "name" dd=some (.str nm):=by rw[hdd];rfl
 have s:TF "Draft" "givens" dd=some (.lst (gs.map .str)):=by rw[hdd];rfl
 have u:TF "Draft" "rows" dd=some (.lst L):=by rw[hdd];rfl
 rw[<- hdd];have v:L.length<sizeLine:=JV ();have j:(∃rs,xC xs R rs/\∃u3 u4:Option SV,j4 (.tup [3,4]) (VI 2 (jn (Jt (Ts T7 (Tn 4) (dC (.int 0))) (Jt (Ts T7 (Tn 4) (dC (.int 1))) (Jt (J0 KZ (Jt (Ts T7 (Tn 4) (dC (.int 2))) (Jt (Tn 1) (Jt (Tn 3) Tp)))) Tp))))) L [~~~dd,~~~(dT t),some (.own false (.lst [])),none,none]=.ok (.next [~~~dd,~~~(dT t),some (.own false (.lst (rs.map T8))),u3,u4]))\/j4 (.tup [3,4]) (VI 2 (jn (Jt (Ts T7 (Tn 4) (dC (.int 0))) (Jt (Ts T7 (Tn 4) (dC (.int 1))) (Jt (J0 KZ (Jt (Ts T7 (Tn 4) (dC (.int 2))) (Jt (Tn 1) (Jt (Tn 3) Tp)))) Tp))))) L [~~~dd,~~~(dT t),some (.own false (.lst [])),none,none]=.ex "NoName" []:=by
  refine Wi (R:=λo=>(∃rs,xC xs R rs/\∃u3 u4:Option SV,o=.ok (.next [~~~dd,~~~(dT t),some (.own false (.lst (rs.map T8))),u3,u4]))\/o=.ex "NoName" []) (P:=λi sd=>∃rs,xC xs (R.take i) rs/\∃u3 u4:Option SV,sd=[~~~dd,~~~(dT t),some (.own false (.lst (rs.map T8))),u3,u4]) ⟨[],rfl,none,none,rfl⟩ ?_ ?_
  .rintro sd ⟨rs,h,u3,u4,rfl⟩;rw[x,Uu] at h;exact .inl ⟨rs,h,u3,u4,rfl⟩
  .rintro i d sd hx ⟨rs,h,u3,u4,rfl⟩;rw[hL] at hx;obtain⟨z,f,rfl⟩:=QK hx;have A:=Uh f;have tk:R.take (i+1)=R.take i++[z]:=by rw[List.take_add_one,f];rfl
   obtain⟨md,hmd⟩:∃md,md=Kq z.2.1 z.2.2.1 z.2.2.2:=⟨_,rfl⟩;have k0:T7 md (.int 0)=some (.str z.2.1):=by rw[hmd];exact jV _ _
   have k1:T7 md (.int 1)=some (.str z.2.2.1):=by rw[hmd];exact qq _ _ _
   have k2:T7 md (.int 2)=some (.lst (z.2.2.2.map rI)):=by rw[hmd];exact xA _ _ _ _
   have B:=h.out.1;have C:=JV (show(rs.map T8).length<=1000 by rw[Zql,B,Uk];lia);have E:jO z=.tup [.int z.1,md]:=by rw[hmd];rfl
   rw[E];rcases R0 T (c z A) z.1 with ⟨is,F,G,e⟩|e
   .refine .inl ⟨[~~~dd,~~~(dT t),some (.own false (.lst ((rs++[(z.2.1,z.2.2.1,is)]).map T8))),~~~(.int z.1),~~~md],?_,rs++[(z.2.1,z.2.2.1,is)],?_,_,_,rfl⟩
    .rw[Uc];generalize rs.map T8=acc at *;generalize z.2.2.2.map rI=its at *;simp[k0,k1,k2,e,C,T8]
    .rw[tk];exact h.snoc ⟨by rw[<- F],G⟩
   .refine .inr ⟨"NoName",[],?_,.inr rfl⟩;generalize rs.map T8=acc at *;generalize z.2.2.2.map rI=its at *;simp[k0,k1,k2,e]
 rcases j with ⟨rs,h,u3,u4,e1⟩|e1
 .refine .inl ⟨⟨nm,gs,rs⟩,⟨rfl,rfl,by rw[<- a];exact h⟩,?_⟩;have H:J7 ⟨nm,gs,rs⟩=.ins "Plan" ["name", "givens", "rows"] [.str nm,.lst (gs.map .str),.lst (rs.map T8)]:=rfl;rw[H];generalize rs.map T8=acc at *;simp[K4,Y1,r,s,u,m,v,n,l,e1,Hi]
 .exact .inr (by simp[K4,Y1,r,s,u,m,v,n,l,e1])
def wa:List Dr->List Pl->Prop
 | [],ps=>ps=[]
 |q::qs,ps=>∃p r,ps=p::r/\PlM q p/\wa qs r
theorem PlM.rows {q:Dr}{p:Pl}(h:PlM q p):Qe p=V9 q:=by
 obtain⟨k1,k2,k3,a⟩:=h.rs.out;unfold Qe V9;have e:p.givens++p.rows.map (·.1)=q.givens++q.rows.map (·.2.1):=by rw[h.gs,k2]
 rw[e,k3,h.nm,h.gs];simp
theorem wa.out:∀{a:List Dr} {ps:List Pl},wa a ps->Q3 ps=Kb a/\ps.length=a.length/\∀p∈ps,∃q∈a,PlM q p
 | [],ps,h=>by rw[show ps=[] from h];exact⟨rfl,rfl,λ_ h=>nomatch h⟩
 |q::a,ps,h=>by
  obtain⟨p,r,rfl,b,c⟩:=h;obtain⟨k1,k2,k3⟩:=c.out;refine⟨?_,by rw[Zu,Zu,k2],λz hz=>?_⟩
  .show Qe p++Q3 r=V9 q++Kb a;rw[b.rows,k1]
  .rcases UB.mp hz with rfl|hz
   .exact⟨q,Zqs,b⟩
   .obtain⟨y,d,e⟩:=k3 z hz;exact⟨y,Zqm _ d,e⟩
theorem Hj:∀(a:List Dr),(∀q∈a,q.givens.length+q.rows.length<=920/\∀z∈q.rows,z.2.2.2.length<=16000001)->(∃ps,wa a ps/\js (.one 0) (J0 K4 (Jt (Tn 0) Tp)) [none] (a.map Qm)=.ok (ps.map J7))\/js (.one 0) (J0 K4 (Jt (Tn 0) Tp)) [none] (a.map Qm)=.ex "NoName" []
 | [],_=>.inl ⟨[],rfl,rfl⟩
 |q::a,h=>by
  have e:js (.one 0) (J0 K4 (Jt (Tn 0) Tp)) [none] ((q::a).map Qm)=(K4 [Qm q]).bind λy=>(js (.one 0) (J0 K4 (Jt (Tn 0) Tp)) [none] (a.map Qm)).bind λb=>.ok (y::b):=rfl;rw[e];rcases R1 (h q Zqs).1 (h q Zqs).2 with ⟨p,h1,e1⟩|e1
  .rw[e1];rcases Hj a λz c=>h z (Zqm _ c) with ⟨ps,h2,e2⟩|e2
   .exact .inl ⟨p::ps,⟨p,ps,rfl,h1,h2⟩,by rw[e2];rfl⟩
   .exact .inr (by rw[e2];rfl)
  .exact .inr (by rw[e1];rfl)
def gL:Yh:=["BadName", "BadPart", "BadPlan", "BadRow", "NoName", "TooLong"]
def vu {ps:List Pl}(S:SnB ps)(n:gZ ps)(p:vh ps)(q:vg ps):WB ps:=by
 have b:∀x∈ps,ji x.name:=λx hx=>Pt (S.pl x hx).nm (n.1.1 x.name (Ja.mpr ⟨x,hx,rfl⟩));refine⟨p.1.1,p.1.2,n.1.2,λx hx=>⟨(b x hx).1,(b x hx).ne⟩,λi x c r d=>?_,λx hx=>⟨(p.2 x hx).2.1.2,(p.2 x hx).1.2⟩⟩;by_cases a:r.2.1 = "all"
 .exact .inl a
 .by_cases f:r.2.1 = "first"
  .exact .inr (.inl f)
  .have g:jX r.2.1=true:=by unfold jX;simp[a,f]
   have e:=q i x c r d g;refine .inr (.inr ?_);rw[<- Dg];refine Vr λz=>?_;rw[wW.mpr z] at e;cases e
def R3 {ps:List Pl}(S:SnB ps):(xq [JB ps]=.ok .non/\vh ps)\/∃c∈gL,xq [JB ps]=.ex c []:=by
 have a:=PQ S;by_cases n:gZ ps
 .rw[VX n] at a;have b:=PU S;by_cases p:vh ps
  .rw[VX p] at b;have c:=PV S n.1.2;by_cases q:vg ps
   .rw[VX q] at c;have d:=PX (vu S n p q);by_cases w:∀q∈jy ps,q.2<=2000
    .rw[VX w] at d;exact .inl ⟨by simp[xq,xQ,a,b,c,d],p⟩
    .rw[Kz w] at d;exact .inr ⟨"TooLong",by decide +kernel,by simp[xq,xQ,a,b,c,d]⟩
   .rw[Kz q] at c;exact .inr ⟨"BadPart",by decide +kernel,by simp[xq,xQ,a,b,c]⟩
  .rw[Kz p] at b;exact .inr ⟨"BadPlan",by decide +kernel,by simp[xq,xQ,a,b]⟩
 .rw[Kz n] at a;exact .inr ⟨"BadName",by decide +kernel,by simp[xq,xQ,a]⟩
def R4 {n how:Str}{a:List (Str×Int)}(R:RowR n how a):a.length<=(jA n how a).length:=by
 have c:(", " : Str).length=2:=by decide +kernel
 have l:=Y4 ", " (a.map qc);have b:∀l:List (Str×Int),(∀i∈l,yw i)->l.length<=((l.map qc).map (·.length)).sum:=λl h=>by
  induction l with
  |nil=>exact Ug _
  |cons i r d =>
   have:=GQ (h i Zqs);have:=d λj e=>h j (Zqm _ e);rw[Zl,Zl,Vf,Zu];lia
 have:=b a R.is;rw[c,Zql] at l;have lo:=R.lo;unfold jA;rw[JE];lia
def R5 {n:Nat}{x:Str}(hx:TxtOk n x)(N:n<=16000000)(hl:(Txt.split x "\n").length<=920):(∃ps,Vw [.str x]=.ok (JB ps)/\KN ps=x/\(∀p∈ps,PlT p)/\ps.length<=20)\/∃c∈gL,Vw [.str x]=.ex c []:=by
 rcases Ry hx N () with ⟨d,e,G,e1⟩|e1
 .obtain⟨O,B⟩:=Dw d;rw[e] at O B;have big:∀q∈d,q.givens.length+q.rows.length<=920/\∀z∈q.rows,z.2.2.2.length<=16000001:=λq f=>⟨by have:=B q f;lia,λz h=>by
   have C:jA z.2.1 z.2.2.1 z.2.2.2∈Kb d:=Jj.mpr ⟨q,f,by unfold V9;exact Zqm _ (Uf _ (Ja.mpr ⟨z,h,rfl⟩))⟩;rw[e] at C;have a:=(Y3 hx C).len;have b:=R4 ((G q f).rs z h);lia⟩
  have u:(d.map Qm).length<sizeLine:=JV (by rw[Zql];lia);unfold Wb at e1;have E:∀l:Yt,XP [.lst l]=.ok [.lst l]:=λ_=>rfl;rcases Hj d big with ⟨ps,M,e2⟩|e2
  .obtain⟨k1,k2,k3⟩:=M.out;have S:SnB ps:=⟨λp hp=>by
    obtain⟨q,f,m⟩:=k3 p hp;have g:=G q f;obtain⟨v,P,Q,t⟩:=m.rs.out;refine⟨by rw[m.nm];exact g.nm.1.mono (),λy w=>(g.gs y (by rw[<- m.gs];exact w)).1.mono (),λr j=>?_,λr j=>?_,by rw[m.gs,v];exact(big q f).1⟩
    .obtain⟨z,h,o,_⟩:=t r j;have R:=(g.rs z h).nm.1;rw[o] at R;exact R.mono ()
    .obtain⟨z,h,o,_⟩:=t r j;have R:=Dv (g.rs z h);rw[o] at R;exact R.mono (),by rw[k2];lia⟩
   have F:JB ps=.ins "Book" ["plans"] [.lst (ps.map J7)]:=rfl;rcases R3 S with ⟨s,p⟩|⟨c,T,s⟩
   .refine .inl ⟨ps,?_,?_,λH hp=>?_,p.1.2⟩
    .rw[F] at s ⊢;generalize ps.map J7=ds at *;generalize d.map Qm=es at *;simp[Vw,WP,e1,e2,s,u,E]
    .unfold KN;rw[k1,e,join_split]
    .obtain⟨q,f,m⟩:=k3 H hp;have g:=G q f;obtain⟨v,P,Q,t⟩:=m.rs.out;obtain⟨U,X,Y⟩:=p.2 H hp;refine⟨by rw[m.nm];exact g.nm.1,λy w=>(g.gs y (by rw[<- m.gs];exact w)).1,U.2,X.2,λr j=>?_⟩;obtain⟨z,h,o,Z⟩:=t r j;have R:=g.rs z h;have I:=R.nm.1;have R2:=Dv R;have J:=R.is;rw[o] at I R2 J;obtain⟨k,hk⟩:=Ux j;have it:=Y k r hk;refine⟨I,R2,by have:=it.1.2;lia,λi K=>?_⟩;have A:=Z i K;have L:=J (jf (q.givens++q.rows.map (·.2.1)) i.1,i.2) (Ja.mpr ⟨i,K,rfl⟩);rw[Ua,Zql] at A;refine⟨A.1,by rw[m.gs,v];exact A.2,L.2.1,L.2.2⟩
   .refine .inr ⟨c,T,?_⟩;rw[F] at s;generalize ps.map J7=ds at *;generalize d.map Qm=es at *;simp[Vw,WP,e1,e2,s,u,E]
  .refine .inr ⟨"NoName",by decide +kernel,?_⟩;generalize d.map Qm=es at *;simp[Vw,WP,e1,e2,u]
 .exact .inr ⟨"BadRow",by decide +kernel,by simp[Vw,WP,e1]⟩
def Wc:Yh->List Str
 | []=>[]
 | [x]=>[x]
 |x::y::r=>(x ++ ",")::Wc (y::r)
def Hk (x:Str)(r:Yh):∃y l,Wc (x::r)=y::l:=by
 cases r with
 |nil=>exact⟨_,_,rfl⟩
 |cons y r=>exact⟨_,_,rfl⟩
theorem D2:∀(x:Str) (r:Yh),Txt.join " " (Wc (x::r))=Txt.join ", " (x::r)
 |x,[]=>by show Txt.join " " [x]=_;rw[Kn,Kn]
 |x,y::r=>by
  have a:=D2 y r;obtain⟨z,l,e⟩:=Hk y r;show Txt.join " " ((x ++ ",")::Wc (y::r))=_;rw[e] at a ⊢;rw[KW,a,KW,K9 x,K9 x,K9 x]
  congr 1
theorem D3:∀l:Yh,(Wc l).length=l.length
 | []=>rfl
 | [_]=>rfl
 |x::y::r=>Zt (· + 1) (D3 (y::r))
theorem D4:∀(l:Yh),∀w∈Wc l,∃x∈l,w=x\/w=x ++ ","
 | [],w,h=>nomatch h
 | [x],w,h=>⟨x,Zqs,.inl (Jc.mp h)⟩
 |x::y::r,w,h=>by
  rcases UB.mp h with z|z
  .exact⟨x,Zqs,.inr z⟩
  .obtain⟨a,b,c⟩:=D4 (y::r) w z;exact⟨a,Zqm _ b,c⟩
def R6 {a:List (Str×Int)}(h:∀i∈a,yw i):∀w∈Wc (a.map qc),32∉w.cps.toList:=λw hw=>by
 obtain⟨x,hx,e⟩:=D4 _ w hw;obtain⟨i,b,rfl⟩:=Ja.mp hx;have f:=Dp (h i b) (c:=32) (by decide) () ();rcases e with rfl|rfl
 .exact f
 .rw[JM];intro z;rcases Jb.mp z with z|z
  .exact f z
  .exact Zn (show(32:Nat)=44 from Jc.mp z) (by decide)
def R7 {a:List (Str×Int)}(h:∀i∈a,yw i):∀w∈Wc (a.map qc),TxtOk 45 w:=λw hw=>by
 obtain⟨x,hx,e⟩:=D4 _ w hw;obtain⟨i,b,rfl⟩:=Ja.mp hx;have f:=Dn (h i b);rcases e with rfl|rfl
 .exact f.mono ()
 .exact f.app (Qj (n:=1) (by decide +kernel))
def kZ {x:Str}{w:Int}(hx:ji x)(o: -1000000000000000000000000000000<w)(r:w<1000000000000000000000000000000):Kh [.str (xF x w)]=.ok (.tup [.str x,.int w]):=by
 have nx:=Br hx;unfold xF;by_cases l:w=0
 .subst l;simp[Kh,WN,nx]
 .rw[Ze l];by_cases e:0<w
  .rw[Zd e];obtain⟨m,rfl⟩:=UQ (Int.le_of_lt e);have f:=GG (m:=m) () ();have k:TxtOk 44 (x ++ "+" ++ jd (m:Int)):=((hx.1.app (Qj (n:=1) (by decide +kernel))).app f.ok).mono ();have g:j8 [.str (x ++ "+" ++ jd (m:Int))]=.ok (.bl false):=GH (c:=43) k () (by rw[JM,JM];simp;exact .inr (.inl (by decide +kernel))) (by decide +kernel) (by decide +kernel);have b:=Vy (s:= "+") k () (by decide +kernel);rw[<- ZU "+",Ws (c:=43) (t:=[]) rfl (by decide +kernel) (λp hp=>by
    rcases UB.mp hp with rfl|hp
    .exact Vx hx (by decide)
    .rw[Jc.mp hp];exact Dj f ()),ZU] at b
   have b:KM (x ++ "+" ++ jd (m:Int)) (.str "+")=some (.lst [.str x,.str (jd (m:Int))]):=b;have h:=Di f;have i:=CQ (a:= "+") (Qj (n:=1) (by decide +kernel)) f.ok ();have j:Wm [.str (("+" : Str)++jd (m:Int))]=some (.int (m:Int)):=by
    show(if(("+" : Str)++jd (m:Int)).length<=640 then(intText? _).map D.int else none)=_;rw[Zd (by rw[JE];have:=f.hi;show 1+_<=_;lia),f.plus];rfl
   simp[Kh,WN,Xq,WH,jV,qq,g,TW,b,nx,h,i,j]
  .rw[Ze e];obtain⟨m,rfl⟩:∃m:Nat,w = -((m+1:Nat):Int):=⟨(-w).toNat-1,()⟩;rw[AZ,<- K9];have f:=GG (m:=m+1) () ();have k:TxtOk 44 (x ++ "-" ++ jd ((m+1:Nat):Int)):=((hx.1.app (Qj (n:=1) (by decide +kernel))).app f.ok).mono ();have g:j8 [.str (x ++ "-" ++ jd ((m+1:Nat):Int))]=.ok (.bl false):=GH (c:=45) k () (by rw[JM,JM];simp;exact .inr (.inl (by decide +kernel))) (by decide +kernel) (by decide +kernel);have d:=Vy (s:= "+") k () (by decide +kernel);rw[<- Kn "+" (x ++ "-" ++ jd ((m+1:Nat):Int)),Ws (c:=43) (t:=[]) rfl (by decide +kernel) (λp hp=>by
    rw[Jc.mp hp,JM,JM];intro z;rcases Jb.mp z with z|z
    .rcases Jb.mp z with z|z
     .exact Vx hx (by decide) z
     .revert z;decide +kernel
    .exact Dj f () z),Kn] at d
   have d:KM (x ++ "-" ++ jd ((m+1:Nat):Int)) (.str "+")=some (.lst [.str (x ++ "-" ++ jd ((m+1:Nat):Int))]):=d;have b:=Vy (s:= "-") k () (by decide +kernel);rw[<- ZU "-",Ws (c:=45) (t:=[]) rfl (by decide +kernel) (λp hp=>by
    rcases UB.mp hp with rfl|hp
    .exact Vx hx (by decide)
    .rw[Jc.mp hp];exact Dj f ()),ZU] at b
   have b:KM (x ++ "-" ++ jd ((m+1:Nat):Int)) (.str "-")=some (.lst [.str x,.str (jd ((m+1:Nat):Int))]):=b;have h:=Di f;have i:=CQ (a:= "-") (Qj (n:=1) (by decide +kernel)) f.ok ();have j:Wm [.str (("-" : Str)++jd ((m+1:Nat):Int))]=some (.int (-((m+1:Nat):Int))):=by
    show(if(("-" : Str)++jd ((m+1:Nat):Int)).length<=640 then(intText? _).map D.int else none)=_;rw[Zd (by rw[JE];have:=f.hi;show 1+_<=_;lia),f.minus];rfl
   generalize ((m+1:Nat):Int)=q at *;simp[Kh,WN,Xq,WH,jV,qq,g,TW,d,b,nx,h,i,j]
def gb {n how:Str}{i:Str×Int}{a:List (Str×Int)}(h:∀j∈i::a,yw j)(y:a.length<=43):Wq [.str n,.str how,.lst ((Wc ((i::a).map qc)).map .str)]=.ok (.tup [.str n,.str how,.lst ((i::a).map rI)]):=by
 have r:=D3 ((i::a).map qc);rw[Zql,Zu] at r;have f:=ZN (sep:= " ") (CP (m:=1) (n:=45) (k:=44) (by decide +kernel) (λw hw=>(R7 h w hw).len) () ());rw[Zl] at f;rw[D2,<- Zl] at f;have k:TxtOk 2024 (Txt.join ", " ((i::a).map qc)):=(XN (m:=2) (n:=44) (k:=44) (Qj (by decide +kernel)) (λx hx=>by obtain⟨j,b,rfl⟩:=Ja.mp hx;exact Dn (h j b)) (by rw[Zql,Zu];lia)).mono ();have o:=Vy (s:= ", ") k () (by decide +kernel);have sp:Txt.split (Txt.join ", " ((i::a).map qc)) ", " = (i::a).map qc:=Ws (c:=44) (t:=[32]) rfl (by decide +kernel) λp hp=>by
  obtain⟨j,b,rfl⟩:=Ja.mp (show p∈(i::a).map qc from hp);exact Dp (h j b) (by decide) () ()
 rw[sp,Zw] at o;have g:js (.one 0) (J0 Kh (Jt (Tn 0) Tp)) [none] ((i::a).map (D.str ∘ qc))=.ok ((i::a).map rI):=Q7 λj b=>by
  have e:=kZ (h j b).1 (h j b).2.1 (h j b).2.2;have e:Kh [.str (qc j)]=.ok (rI j):=e;simp[e]
 have u:jY false .non (.lst ((i::a).map rI))=some (.bl false):=by
  have p:((i::a).map rI).all (plN 12)=true:=Uq.mpr λd l=>by
   obtain⟨j,b,rfl⟩:=Ja.mp l;exact GL (h j b)
  show(if plN 12 D.non&&((i::a).map rI).all (plN 12) then some (D.bl (if false=true then _ else((i::a).map rI).any λe=>sameD e .non)) else none)=_;rw[p];have q:(((i::a).map rI).any λe=>sameD e .non)=false:=Jo.mpr λd l=>by
   obtain⟨j,b,rfl⟩:=Ja.mp l;rw[z5.mpr (λz=>by cases z)];exact Zj
  rw[q];rfl
 have v:((i::a).map (D.str ∘ qc)).length<sizeLine:=JV (by rw[Zql,Zu];lia);generalize (i::a).map rI=rs at *;generalize (i::a).map (D.str ∘ qc)=xs at *;generalize Txt.join ", " ((i::a).map qc)=tx at *;generalize (Wc ((i::a).map qc)).map D.str=ws at *;simp[Wq,Yy,TW,f,o,g,v,u]
def RowR.ok {n how:Str}{a:List (Str×Int)}(R:RowR n how a)(c:a.length<=44):TxtOk 2056 (jA n how a)/\TxtOk 12 how:=by
 have b:TxtOk 12 how:=by
  rcases R.hw with rfl|rfl|h
  .exact Qj (by decide +kernel)
  .exact Qj (by decide +kernel)
  .exact h.1
 have k:TxtOk 2024 (Txt.join ", " (a.map qc)):=(XN (m:=2) (n:=44) (k:=44) (Qj (by decide +kernel)) (λx hx=>by obtain⟨j,d,rfl⟩:=Ja.mp hx;exact Dn (R.is j d)) (by rw[Zql];exact c)).mono ();exact⟨(((((wV.app R.nm.1).app wV).app (CU b)).app wV).app k).mono (),b⟩
def gc {n how:Str}{b:List (Str×Int)}(R:RowR n how b)(u:b.length<=44):QL [.str (jA n how b)]=.ok (Kq n how b):=by
 obtain⟨k,F⟩:=R.ok u;have lo:=R.lo;have v:=Br R.nm;obtain⟨i,r,rfl⟩:∃i r,b=i::r:=by
  cases b with
  |nil=>have:=R.lo;simp at this
  |cons i r=>exact⟨i,r,rfl⟩
 obtain⟨w,ws,j⟩:=Hk (qc i) (r.map qc);have jw:=D2 (qc i) (r.map qc);rw[j] at jw;have x:=D3 (qc i::r.map qc);rw[j] at x;rw[Zu,Zu,Zql] at x;rw[Zu] at lo u;have d:=gb (n:=n) (how:=how) R.is ();rw[Zl,j] at d;have l:=R6 R.is;rw[Zl,j] at l;have g:=Vy (s:= " ") k () (by decide +kernel);have y:x9 (.str "") (.str "")=some (.bl false):=by
  have a:asc ("" : Str):=by unfold asc;decide +kernel
  rw[Bq a a,Zp rfl];rfl
 have A:(32:Nat)∉("" : Str).cps.toList:=by decide +kernel
 have B:(32:Nat)∉n.cps.toList:=Vx R.nm (by decide);by_cases c:how = "all" \/ how = "first"
 .have G:jX how=false:=by unfold jX;rcases c with rfl|rfl<;>decide +kernel
  have e:jA n how (i::r)=Txt.join " " ("" :: n::how::w::ws):=by
   unfold jA;rw[show qm how=how from Zd c,KB,KB,KB,jw,Zl];simp only[K9,ZX]
  have m:(32:Nat)∉how.cps.toList:=by rcases c with rfl|rfl<;>decide +kernel
  have sp:=Ws (s:= " ") (c:=32) (t:=[]) rfl (by decide +kernel) (r:= "") (rs:=n::how::w::ws) λp hp=>by
   rcases UB.mp hp with rfl|hp
   .exact A
   rcases UB.mp hp with rfl|hp
   .exact B
   rcases UB.mp hp with rfl|hp
   .exact m
   .exact l p hp
  rw[e,sp] at g;rw[e];have f:=Dt F.asc;rw[G] at f;obtain⟨z,hz⟩:∃z:Int,z=((ws.length+1+1+1+1:Nat):Int):=⟨_,rfl⟩;have h:T5 [.lst ((("" : Str)::n::how::w::ws).map .str)]=some (.int z):=by
   show some (D.int _)=_;simp only[Zql,Zu];exact Zt (λa=>some (D.int a)) hz.symm
  have gs:zd (.lst ((("" : Str)::n::how::w::ws).map .str)) (some 3) none none=some (.lst ((w::ws).map .str)):=by
   show some (D.lst (JW _ (some 3) none none))=_;rw[ZK _ ()];rfl
  have o:¬z<4:=()
  simp only[Zl] at g h gs d;generalize Txt.join " " ("" :: n::how::w::ws)=tx at *;simp[QL,K3,TW,g,h,gs,jV,qq,xA,y,v,f,d,Kq,o]
 .have C:ji how:=by
   rcases R.hw with z|z|z
   .exact Zn (.inl z) c
   .exact Zn (.inr z) c
   .exact z
  have e:jA n how (i::r)=Txt.join " " ("" :: n :: "part" :: how::w::ws):=by
   unfold jA;rw[show qm how = "part " ++ how from Ze c,KB,KB,KB,KB,jw,Zl];simp only[K9,ZX,GS]
  have m:(32:Nat)∉how.cps.toList:=Vx C (by decide);have H:(32:Nat)∉("part" : Str).cps.toList:=by decide +kernel
  have sp:=Ws (s:= " ") (c:=32) (t:=[]) rfl (by decide +kernel) (r:= "") (rs:=n :: "part" :: how::w::ws) λp hp=>by
   rcases UB.mp hp with rfl|hp
   .exact A
   rcases UB.mp hp with rfl|hp
   .exact B
   rcases UB.mp hp with rfl|hp
   .exact H
   rcases UB.mp hp with rfl|hp
   .exact m
   .exact l p hp
  rw[e,sp] at g;rw[e];have q:asc ("part" : Str):=by unfold asc;decide +kernel
  have f:=Dt q;rw[show jX "part" = true by decide +kernel] at f;have E:=Dh q q;rw[Zp rfl] at E;have I:=Br C;obtain⟨z,hz⟩:∃z:Int,z=((ws.length+1+1+1+1+1:Nat):Int):=⟨_,rfl⟩;have h:T5 [.lst ((("" : Str)::n :: "part" :: how::w::ws).map .str)]=some (.int z):=by
   show some (D.int _)=_;simp only[Zql,Zu];exact Zt (λa=>some (D.int a)) hz.symm
  have gs:zd (.lst ((("" : Str)::n :: "part" :: how::w::ws).map .str)) (some 4) none none=some (.lst ((w::ws).map .str)):=by
   show some (D.lst (JW _ (some 4) none none))=_;rw[ZK _ ()];rfl
  have o:¬z<4:=()
  simp only[Zl] at g h gs d;generalize Txt.join " " ("" :: n :: "part" :: how::w::ws)=tx at *;simp[QL,K3,TW,g,h,gs,jV,qq,xA,zv,y,v,I,f,E,d,Kq,o]
section
variable {hp:HP}{p:Addr}{as:List (Addr×Addr×Addr)}{qs:List Dr}
def R8 {q:Dr}{x:Str}(h:StR hp p as (qs++[q]))(hx:ji x)(d:q.rows=[])(e:q.givens.length<=1000)(k:Int):(Ka [.adr p,.int k,.str (" given " ++ x)] hp).need (wM p hp (qs++[⟨q.name,q.givens++[x],q.rows⟩])) λ_ _=>False:=by
 refine Bw h (Bu Bv () (wX.app hx.1) () (by rw[Rk];exact GU _)) λbs a f g c=>⟨_,GZ c d hx e k,?_,λb i=>?_⟩
 .subst f;exact h.given c g _
 .rw[KJ b (by rw[c.gv];simp)]
  split
  .simp
  .exact i
def R9 {q:Dr}{n how:Str}{c:List (Str×Int)}(h:StR hp p as (qs++[q]))(R:RowR n how c)(e:c.length<=44)(g:q.rows.length<=1000)(k:Int):(Ka [.adr p,.int k,.str (jA n how c)] hp).need (wM p hp (qs++[⟨q.name,q.givens,q.rows++[(k,n,how,c)]⟩])) λ_ _=>False:=by
 have f:=(R.ok e).1;refine Bw h (Bu Bv () f () (by unfold jA;simp only[K9];exact GU _)) λbs a i j d=>⟨_,Ha d (Bu wX () f () (Rl R)) (gc R e) g k,?_,λb l=>?_⟩
 .subst i;exact h.made d j _
 .rw[KJ b (by rw[d.rw_];simp)]
  split
  .simp
  .exact l
end
structure RowH (n how:Str)(its:List (Str×Int)):Prop extends RowR n how its where
 hi:its.length<=44
inductive Rd:Nat->List Str->List Dr->List Dr->Prop
 |nil (k:Nat) (qs:List Dr):Rd k [] qs qs
 |plan {k:Nat} {x:Str} {rs:Yh} {qs r:List Dr}:ji x->qs.length<=1000->Rd (k+1) rs (qs++[⟨x,[],[]⟩]) r->Rd k (("plan " ++ x)::rs) qs r
 |given {k:Nat} {x:Str} {rs:Yh} {qs r:List Dr} {q:Dr}:ji x->q.givens.length<=1000->q.rows=[]->Rd (k+1) rs (qs++[⟨q.name,q.givens++[x],q.rows⟩]) r->Rd k ((" given " ++ x)::rs) (qs++[q]) r
 |made {k:Nat} {n how:Str} {its:List (Str×Int)} {rs:Yh} {qs r:List Dr} {q:Dr}:RowH n how its->q.rows.length<=1000->Rd (k+1) rs (qs++[⟨q.name,q.givens,q.rows++[((k:Int)+1,n,how,its)]⟩]) r->Rd k (jA n how its::rs) (qs++[q]) r
def RA {t:D}{p:Addr}:∀{k:Nat} {rs:Yh} {a r:List Dr},Rd k rs a r->∀(x2 x3:Option SV) (hp:HP) (b:List (Addr×Addr×Addr)),StR hp p b a ->
 (jN (QH (.tup [2,3]) yt) (xy k rs) [~~~t,~~~(.adr p),x2,x3] hp).need (Dz t p r) λ_ _=>False:=by
 intro k rs a r R
 induction R with
 |nil k a =>
  intro x2 x3 hp b st;unfold xy jN;exact⟨x2,x3,hp,b,rfl,st⟩
 | @plan k x rs a r hx c _ d =>
  intro x2 x3 hp b st;have e:=Hb st hx c ((k:Int)+1);exact Aa e d
 | @given k x rs a r q hx c g _ d =>
  intro x2 x3 hp b st;have e:=R8 st hx g c ((k:Int)+1);exact Aa e d
 | @made k n how h rs a r q f c _ d =>
  intro x2 x3 hp b st;have e:=R9 st f.toRowR f.hi c ((k:Int)+1);exact Aa e d
def gd {n:Nat}{x:Str}{rs:Yh}{r:List Dr}(hx:TxtOk n x)(e:n<=16000000)(f:Txt.split x "\n" = rs)(R:Rd 0 rs [] r):KY [.str x]=.ok (Wb r):=by
 have b:fz [.str x] (Wb r):=by
  refine⟨rfl,?_⟩;have g:=Vy (s:= "\n") hx e (by decide +kernel);rw[f] at g;show((Wa [~~~(.str x),none,none,none] []).bind ju).need _ _;rw[Dy];simp[TW,g,xH];intro p hp;rw[Dx];have st:StR [(p,D.lst [])] p [] []:=⟨by rw[JT,Zd rfl];rfl,rfl,by simp[jl]⟩;refine Wr.need_bind.mpr (Wr.need_bind.mpr ((RA R none none _ _ st).mono (λo h=>?_) λ_ _ z=>z));obtain⟨m,q,hp',i,rfl,c⟩:=h;exact c.dp
 unfold KY;rw[dif_pos ⟨_,b⟩];obtain⟨a,j,l⟩:=D0 (UG (⟨_,b⟩:∃d,fz [.str x] d)).2 b.2;rw[<- j,l]
def xr (xs:Yh):List (Str×Int):=xs.zipIdx.map λp=>(p.1,(p.2:Int))
def Hl (xs:Yh):(xr xs).map (·.1)=xs:=by
 unfold xr;rw[Zw];show xs.zipIdx.map Prod.fst=xs;simp
def RB (xs:Yh)(x:Str):xr (xs++[x])=xr xs++[(x,(xs.length:Int))]:=by
 unfold xr;rw[List.zipIdx_append,Uc];simp
def RC (xs:Yh):(xr xs).length=xs.length:=by unfold xr;simp
theorem D5 {x:Str}{v:Int}:∀{t:List (Str×Int)},(t.map (·.1)).Nodup->(x,v)∈t->jx t x=some v
 | [],_,h=>nomatch h
 | (y,w)::t,nd,h=>by
  rw[Zl] at nd;obtain⟨a,b⟩:=Je.mp nd;rcases UB.mp h with e|h
  .cases e;exact CI _ _ _
  .have:y≠x:=λz=>a (Ja.mpr ⟨(x,v),h,z.symm⟩);have e:jx ((y,w)::t) x=jx t x:=by
    unfold jx;rw[List.find?_cons,Zo this]
   rw[e];exact D5 b h
def uQ {xs:Yh}(a:xs.Nodup){k:Int}(b:0<=k)(c:k<(xs.length:Int)):jx (xr xs) (jf xs k)=some k:=by
 refine D5 (by rw[Hl];exact a) (Ja.mpr ⟨(jf xs k,k.toNat),?_,by show(_,_)=_;congr 1;lia⟩);refine Uh (i:=k.toNat) ?_;rw[List.getElem?_zipIdx];unfold jf;rw[Zqg (),Uj,Zqg ()];simp
def kX {xs:Yh}(h:xs.Nodup)(q:xs.length<=900):Y0 [.lst (xs.map .str)]=.ok (dT (xr xs)):=by
 obtain⟨j,l,u2,u3,a⟩:=Kl (tg:=.tup [2,3]) (b:=(WF 1 (Tn 3) (Tn 2))) (ds:=KH (xs.map .str))
  (sd:=[~~~(.lst (xs.map .str)),some (.own false (.dct [] [])),none,none])
  (P:=λi sd=>∃(u2 u3:Option SV),sd=[~~~(.lst (xs.map .str)),some (.own false (dT (xr (xs.take i)))),u2,u3]) ⟨none,none,rfl⟩ (by
   rintro i d sd hx ⟨u2,u3,rfl⟩;rw[Ct,Zv] at hx;cases c:xs[i]? with
   |none=>rw[c] at hx;cases hx
   |some x =>
    rw[c] at hx;obtain rfl:=Zqi hx;have r:=(Jd.mp c).1;have tk:xs.take (i+1)=xs.take i++[x]:=by rw[Us,c];rfl
    have e:x∉(xr (xs.take i)).map (·.1):=by
     rw[Hl];have:=h.sublist (List.take_sublist (i+1) xs);rw[tk] at this;exact λz=>(Jf.mp this).2.2 x z x () rfl
    have f:(xs.take i).length=i:=by rw[Uk];lia
    have m:xr (xs.take (i+1))=xr (xs.take i)++[(x,(i:Int))]:=by rw[tk,RB,f]
    have pt:=ZL e (i:Int);have g:=Wo (xr (xs.take i)) x;rw[wW.mpr e] at g;have n:=JV (show(xr (xs.take i)).length<=1000 by rw[RC,f];lia);refine⟨[~~~(.lst (xs.map .str)),some (.own false (dT (xr (xs.take (i+1))))),~~~(.int i),~~~(.str x)],?_,_,_,rfl⟩;rw[m,<- pt];generalize xr (xs.take i)=t at *;show((Res.ok _).bind _)=_;show WF 1 (Tn 3) (Tn 2) [~~~(.lst (xs.map .str)),some (.own false (dT t)),~~~(.int i),~~~(.str x)]=_;unfold WF;show ZI 1 _ (t.map λp=>.inr p.1) (t.map λp=>D.int p.2) (.int i) (Qg (.str x))=_;show(if(t.map λp:Str×Int=>(Um p.1:TM)).length<sizeLine then(match jk (t.map λp=>.inr p.1) (t.map λp=>D.int p.2) (.inr x) with
     |some _=>_
     |none=>_) else _)=_
    rw[Zql,Zd n,g];rfl)
 have o:(KH (xs.map D.str)).length=xs.length:=by unfold KH;simp
 rw[o,Uu] at a;subst a;simp[Y0,ZT,Wh,l]
def kW {xs:Yh}(l:xs.Nodup)(s:xs.length<=900){is:Jr}(h:∀i∈is,0<=i.1/\i.1<(xs.length:Int))(u:is.length<=900)(m:Int):KZ [.lst ((is.map λi=>(jf xs i.1,i.2)).map rI),dT (xr xs),.int m]=.ok (jz is):=by
 have f:∀i∈is,jx (xr xs) (jf xs i.1)=some i.1:=λi j=>uQ l (h i j).1 (h i j).2;generalize xr xs=t at *;rw[Zw];obtain⟨L,hL⟩:∃L,L=is.map (rI ∘ λi=>(jf xs i.1,i.2)):=⟨_,rfl⟩;rw[<- hL];obtain⟨n,o,u2,u3,a⟩:=Kl (tg:=.tup [3,4]) (b:=(jq (Jx (Ts (jY true) (Tn 3) (Tn 1))) (JL "NoName" (Tn 2)) JA)) (ds:=L)
  (sd:=[~~~(.lst L),~~~(dT t),~~~(.int m),none,none])
  (P:=λi sd=>∃(u3 u4:Option SV),sd=[~~~(.lst L),~~~(dT t),~~~(.int m),u3,u4]) ⟨none,none,rfl⟩ (by
   rintro i d sd hx ⟨u3,u4,rfl⟩;rw[hL] at hx;obtain⟨p,hp,rfl⟩:=QK hx;have c:=f p (Uh hp);have g:jY true (.str (jf xs p.1)) (dT t)=some (.bl false):=by
    show(Qg (.str (jf xs p.1))).map (λq=>D.bl (if true=true then !(jk (t.map λp=>.inr p.1) (t.map λp=>D.int p.2) q).isSome else _))=_;show some (D.bl (!(jk (t.map λp=>.inr p.1) (t.map λp=>D.int p.2) (.inr (jf xs p.1))).isSome))=_;rw[Wo,c];rfl
   refine⟨[~~~(.lst L),~~~(dT t),~~~(.int m),~~~(.str (jf xs p.1)),~~~(.int p.2)],?_,_,_,rfl⟩;simp[rI,g])
 have e:js (.tup [0,1]) (jn (Jt (Ts T7 (Tn 2) (Tn 0)) (Jt (Tn 1) Tp))) [none,none,~~~(dT t)] L=.ok (is.map qu):=by
  rw[hL];refine Q7 λp hp=>?_;have c:=f p hp;have g:T7 (dT t) (.str (jf xs p.1))=some (.int p.1):=by
   show jk (t.map λp=>.inr p.1) (t.map λp=>D.int p.2) (.inr (jf xs p.1))=_;rw[Wo,c];rfl
  simp[rI,g,qu]
 have r:L.length<sizeLine:=JV (by rw[hL,Zql];lia);subst a;simp[KZ,Yz,o,e,r,jz]
def qI (xs:Yh)(z:Int×Str×Str×Jr):Int×Str×Str×List (Str×Int):=(z.1,z.2.1,z.2.2.1,z.2.2.2.map λi=>(jf xs i.1,i.2))
def xU (gs:Yh)(R:List (Int×Str×Str×Jr)):Yh:=gs++R.map (·.2.1)
structure DrOk (gs:Yh)(R:List (Int×Str×Str×Jr)):Prop where
 nd:(xU gs R).Nodup
 gl:gs.length<=400
 rl:R.length<=400
 is:∀z∈R,z.2.2.2.length<=400/\∀i∈z.2.2.2,0<=i.1/\i.1<((xU gs R).length:Int)
def zu (a:List (Str×Yh×List (Int×Str×Str×Jr))):List Dr:=a.map λp=>⟨p.1,p.2.1,p.2.2.map (qI (xU p.2.1 p.2.2))⟩
def zf (a:List (Str×Yh×List (Int×Str×Str×Jr))):List Pl:=a.map λp=>⟨p.1,p.2.1,p.2.2.map (·.2)⟩
def Hm {i:Nat}(h:i<36):(y8 (qk i)||yo (qk i))=true:=by
 unfold qk y8 yo;by_cases z:i<26
 .rw[Zd z,Zp (show 97<=97+i from ()),Zp (show 97+i<123 from ())];rfl
 .rw[Ze z,Zp (show 48<=22+i from ()),Zp (show 22+i<58 from ()),Bool.and_self,UP]
def zg.nm {x:Str}(h:zg x):ji x:=by
 refine⟨h.ok,?_⟩;have d:=h.ok.len;obtain⟨m,l,rfl,e⟩:=h;have b:(Ql m).cps.toList=qk (m % 26)::jP 59 (m / 26):=by show((WG m).toArray).toList=_;simp[WG]
 have lo:1<=(Ql m).length:=by
  show 1<=(Ql m).cps.size;rw[<- Ud,b,Zu];lia
 have a:m % 26<26:=Nat.mod_lt _ ();have f:y8 (qk (m % 26))=true:=by
  unfold qk y8;rw[Zd a,Zp (),Zp ()];rfl
 have g:(kept.all λw => !decide (w=Ql m))=true:=Uq.mpr λw hw=>by
  rw[Zo λz=>e (by rw[<- z];exact hw)];rfl
 unfold QX;rw[Zp lo,Zp d,g,b,UZ,UZ,UZ,List.headD_cons,f,UZ,Uq];intro c hc;rcases UB.mp hc with rfl|hc
 .exact Hm ()
 .obtain⟨i,j,rfl⟩:=CL _ _ _ hc;exact Hm j
def kY {nm:Str}{gs:Yh}{R:List (Int×Str×Str×Jr)}(h:DrOk gs R):K4 [Qm ⟨nm,gs,R.map (qI (xU gs R))⟩]=.ok (J7 ⟨nm,gs,R.map (·.2)⟩):=by
 have m:(xU gs R).length<=900:=by unfold xU;rw[Ua,Zql];have:=h.gl;have:=h.rl;lia
 have n:=kX h.nd m;have j:∀z∈R,KZ [.lst ((z.2.2.2.map λi=>(jf (xU gs R) i.1,i.2)).map rI),dT (xr (xU gs R)),.int z.1]=.ok (jz z.2.2.2):=λz f=>kW h.nd m (h.is z f).2 (by have:=(h.is z f).1;lia) z.1;obtain⟨xs,ex⟩:∃xs,xs=xU gs R:=⟨_,rfl⟩;have th:xU gs R=gs++R.map (·.2.1):=rfl;rw[<- ex] at n j th ⊢;obtain⟨L,hL⟩:∃L,L=(R.map (qI xs)).map jO:=⟨_,rfl⟩;have c:L=R.map (jO ∘ qI xs):=by rw[hL,Zw]
 have o:L.length=R.length:=by rw[c,Zql]
 have A:=h.rl;have B:=h.gl;have p:js (.tup [0,1]) (Ts T7 (Tn 1) (dC (.int 0))) [none,none] L=.ok (R.map λz=>.str z.2.1):=by
  rw[c];refine Q7 λz f=>?_;have g:T7 (Kq z.2.1 z.2.2.1 (z.2.2.2.map λi=>(jf xs i.1,i.2))) (.int 0)=some (.str z.2.1):=jV _ _;simp[jO,qI,g]
 have q:T6 (.lst (gs.map .str)) (.lst (R.map λz=>.str z.2.1))=some (.lst (xs.map .str)):=by
  show(if(gs.map D.str).length+(R.map λz=>D.str z.2.1).length<=sizeLine then some (D.lst (gs.map D.str++R.map λz=>D.str z.2.1)) else none)=_;rw[Zd (small (by rw[Zql,Zql];lia)),th,Uc,Zw];rfl
 have r:Qm ⟨nm,gs,R.map (qI xs)⟩=.ins "Draft" ["name", "givens", "rows"] [.str nm,.lst (gs.map .str),.lst L]:=by rw[hL];rfl
 rw[r];obtain⟨dd,hdd⟩:∃dd,dd=D.ins "Draft" ["name", "givens", "rows"] [.str nm,.lst (gs.map .str),.lst L]:=⟨_,rfl⟩;have s:TF "Draft" "name" dd=some (.str nm):=by rw[hdd];rfl
 have u:TF "Draft" "givens" dd=some (.lst (gs.map .str)):=by rw[hdd];rfl
 have v:TF "Draft" "rows" dd=some (.lst L):=by rw[hdd];rfl
 rw[<- hdd];generalize xr xs=t at *;obtain⟨w,x,u3,u4,a⟩:=Kl (tg:=.tup [3,4]) (b:=(VI 2 (jn (Jt (Ts T7 (Tn 4) (dC (.int 0))) (Jt (Ts T7 (Tn 4) (dC (.int 1))) (Jt (J0 KZ (Jt (Ts T7 (Tn 4) (dC (.int 2))) (Jt (Tn 1) (Jt (Tn 3) Tp)))) Tp)))))) (ds:=L)
  (sd:=[~~~dd,~~~(dT t),some (.own false (.lst [])),none,none])
  (P:=λi sd=>∃(u3 u4:Option SV),sd=[~~~dd,~~~(dT t),some (.own false (.lst ((R.take i).map λz=>T8 z.2))),u3,u4]) ⟨none,none,rfl⟩ (by
   rintro i d sd hx ⟨u3,u4,rfl⟩;rw[c] at hx;obtain⟨z,f,rfl⟩:=QK hx;have e:=j z (Uh f);obtain⟨md,hmd⟩:∃md,md=Kq z.2.1 z.2.2.1 (z.2.2.2.map λi=>(jf xs i.1,i.2)):=⟨_,rfl⟩;have k0:T7 md (.int 0)=some (.str z.2.1):=by rw[hmd];exact jV _ _
   have k1:T7 md (.int 1)=some (.str z.2.2.1):=by rw[hmd];exact qq _ _ _
   have k2:T7 md (.int 2)=some (.lst ((z.2.2.2.map λi=>(jf xs i.1,i.2)).map rI)):=by rw[hmd];exact xA _ _ _ _
   have tk:R.take (i+1)=R.take i++[z]:=by rw[List.take_add_one,f];rfl
   have l:=JV (show((R.take i).map λz=>T8 z.2).length<=1000 by rw[Zql,Uk];lia);refine⟨[~~~dd,~~~(dT t),some (.own false (.lst ((R.take (i+1)).map λz=>T8 z.2))),~~~(.int z.1),~~~md],?_,_,_,rfl⟩;rw[tk,Uc];generalize (R.take i).map (λz=>T8 z.2)=acc at *;generalize (z.2.2.2.map λi=>(jf xs i.1,i.2)).map rI=its at *;show((JY (.tup [3,4]) (.tup [.int z.1,Kq z.2.1 z.2.2.1 (z.2.2.2.map λi=>(jf xs i.1,i.2))]) _).bind _)=_;rw[<- hmd];simp[k0,k1,k2,e,l,T8])
 rw[o,Uu] at a;subst a;have l:L.length<sizeLine:=JV ();have C:Kk [.lst (gs.map .str)]=some (.lst (gs.map .str)):=rfl;have E:Kk [.lst (R.map λz=>T8 z.2)]=some (.lst (R.map λz=>T8 z.2)):=rfl;have y:J7 ⟨nm,gs,R.map (·.2)⟩=.ins "Plan" ["name", "givens", "rows"] [.str nm,.lst (gs.map .str),.lst (R.map λz=>T8 z.2)]:=by
  unfold J7;simp only[Zw];rfl
 rw[y];generalize R.map (λz=>T8 z.2)=acc at *;simp[K4,Y1,s,u,v,p,l,q,n,x,Hi]
def gf {n:Nat}{x:Str}{rs:Yh}{a:List (Str×Yh×List (Int×Str×Str×Jr))}(hx:TxtOk n x)(g:n<=16000000)(h:Txt.split x "\n" = rs)(R:Rd 0 rs [] (zu a))(i:∀p∈a,DrOk p.2.1 p.2.2)(L:LB (zf a))(j:1<=a.length)(m:a.length<=20):Vw [.str x]=.ok (JB (zf a)):=by
 have c:=gd hx g h R;have f:=mr L (by unfold zf;rw[Zql];exact j) (by unfold zf;rw[Zql];exact m);have b:js (.one 0) (J0 K4 (Jt (Tn 0) Tp)) [none] ((zu a).map Qm)=.ok ((zf a).map J7):=by
  unfold zu zf;rw[Zw,Zw];refine Q7 λp hp=>?_;have e:=kY (nm:=p.1) (i p hp);have e:K4 [(Qm ∘ λp:Str×Yh×List (Int×Str×Str×Jr)=>(⟨p.1,p.2.1,p.2.2.map (qI (xU p.2.1 p.2.2))⟩:Dr)) p]=.ok ((J7 ∘ λp:Str×Yh×List (Int×Str×Str×Jr)=>(⟨p.1,p.2.1,p.2.2.map (·.2)⟩:Pl)) p):=e;generalize (Qm ∘ λp:Str×Yh×List (Int×Str×Str×Jr)=>(⟨p.1,p.2.1,p.2.2.map (qI (xU p.2.1 p.2.2))⟩:Dr)) p=d at *;simp[e]
 have o:((zu a).map Qm).length<sizeLine:=JV (by rw[Zql];unfold zu;rw[Zql];lia);have q:∀l:Yt,XP [.lst l]=.ok [.lst l]:=λ_=>rfl;have r:JB (zf a)=.ins "Book" ["plans"] [.lst ((zf a).map J7)]:=rfl;unfold Wb at c;rw[r] at f ⊢;generalize (zf a).map J7=ps at *;generalize (zu a).map Qm=qs at *;simp[Vw,WP,c,f,b,o,q]
def Y5:FS:=(T1 (jq (Jx (Ts qi (Tn 1) (dC (.int 0)))) (TN (Tn 0)) JA) (TN (wm (Jx (Ts yK (Tn 1) (dC (.int 0)))) ((j5 Qt (Tn 0) (TL "+" (j5 Qt (Tn 1) ja))) Str.empty) ((j5 Qt (Tn 0) (j5 Qt (Tn 1) ja)) Str.empty))))
def Xy:Yt->Res D:=jc 2 2 Y5
def kS {x:Str}{w:Int}(hx:TxtOk 12 x)(a: -1000000000000000000000000000000<w)(b:w<1000000000000000000000000000000):Xy [.str x,.int w]=.ok (.str (xF x w)):=by
 have f:=CO a b;have g:=hx.len;have h:=f.len;have gs:Qt (.int w)=some (jd w):=Zd (UO (Ph a b) ());unfold xF;by_cases c:w=0
 .simp[Xy,Y5,c]
 .by_cases d:0<w
  .have e:(j5 Qt (Tn 0) (TL "+" (j5 Qt (Tn 1) ja))) Str.empty [~~~(.str x),~~~(.int w)]=.ok (.str (x ++ "+" ++ jd w)):=by
    have i:(("+" : Str)).length=1:=by decide +kernel
    rw[z8 (d:=.str x) (z:=x) rfl rfl (by rw[KU];lia),KU,yk (by rw[JE];lia),z8 (d:=.int w) (z:=jd w) rfl gs (by rw[JE,JE];lia),yG (by rw[JE,JE];lia)]
   simp[Xy,Y5,c,d,e]
  .have e:(j5 Qt (Tn 0) (j5 Qt (Tn 1) ja)) Str.empty [~~~(.str x),~~~(.int w)]=.ok (.str (x++jd w)):=by
    rw[z8 (d:=.str x) (z:=x) rfl rfl (by rw[KU];lia),KU,z8 (d:=.int w) (z:=jd w) rfl gs (by rw[JE];lia),yG (by rw[JE];lia)]
   simp[Xy,Y5,c,d,e]
def Bx:FS:=(T1 (TK 4 (wm (Jx (Ts (jY false) (Tn 1) (jn (Jt (dC (.str "all")) (Jt (dC (.str "first")) Tp))))) (Tn 1) ((TL "part " (j5 Qt (Tn 1) ja)) Str.empty))) (T1 (TK 5 (TW Xn (dC (.str ", ")) (Q5 [none,none,some 3] (iS (Tn 2)) (.tup [0,1]) (J0 Xy (Jt (Ts T7 (Tn 2) (Tn 0)) (Jt (Tn 1) Tp)))))) (TN ((TL " " (j5 Qt (Tn 0) (TL " " (j5 Qt (Tn 4) (TL " " (j5 Qt (Tn 5) ja)))))) Str.empty))))
def Ab:Yt->Res D:=jc 6 4 Bx
def kT {xs:Yh}{r:Str×Str×Jr}(hx:∀x∈xs,TxtOk 12 x)(n:TxtOk 12 r.1)(j:TxtOk 12 r.2.1)(o:r.2.2.length<=44)(h:∀i∈r.2.2,0<=i.1/\i.1<(xs.length:Int) /\ -1000000000000000000000000000000<i.2/\i.2<1000000000000000000000000000000):
 Ab [.str r.1,.str r.2.1,jz r.2.2,.lst (xs.map .str)]=.ok (.str (qR xs r)):=by
 obtain⟨a,b,c⟩:=Gn hx o h;have mk:js (.tup [0,1]) (J0 Xy (Jt (Ts T7 (Tn 2) (Tn 0)) (Jt (Tn 1) Tp))) [none,none,~~~(.lst (xs.map .str))] (r.2.2.map qu)=.ok (r.2.2.map λp=>.str (xF (jf xs p.1) p.2)):=Q7 λp hp=>by
  obtain⟨k0,k1,k2,k3⟩:=h p hp;obtain⟨q,s⟩:=CT k0 k1;have t:=kS (hx _ s) k2 k3;simp[q,t]
 have f:=ZN c;rw[Zw] at f;have f:Xn ", " (.lst (r.2.2.map λp=>D.str (xF (jf xs p.1) p.2)))=some (.str (xW xs r.2.2)):=f;have u:=JV (show r.2.2.length<=1000 from ());have x2:jY false (.str r.2.1) (.tup [D.str "all",D.str "first"])=some (.bl (decide (r.2.1 = "all" \/ r.2.1 = "first"))):=by
  have:=CN (neg:=false) (x:=r.2.1) (xs:=["all", "first"]) j.asc (by
   intro y v;have:y = "all" \/ y = "first" := by simpa using v
   rcases this with rfl|rfl<;>unfold asc<;>decide +kernel)
  rw[show D.tup (List.map D.str ["all", "first"])=D.tup [D.str "all",D.str "first"] from rfl] at this;rw[this];simp
 have B:=n.len;have C:=j.len;have E:=b.len;have F:=(CU j).len;have G:((" " : Str)).length=1:=by decide +kernel
 have H:(("part " : Str)).length=5:=by decide +kernel
 have w:∀l:Option SV,wm (Jx (Ts (jY false) (Tn 1) (jn (Jt (dC (.str "all")) (Jt (dC (.str "first")) Tp))))) (Tn 1) ((TL "part " (j5 Qt (Tn 1) ja)) Str.empty) [~~~(.str r.1),~~~(.str r.2.1),~~~(jz r.2.2),~~~(.lst (xs.map .str)),none,l]=.ok (.str (qm r.2.1)):=λl=>by
  unfold qm;by_cases g:r.2.1 = "all" \/ r.2.1 = "first"
  .rw[Zd g];simp[x2,g]
  .rw[Ze g];have e:(TL "part " (j5 Qt (Tn 1) ja)) Str.empty [~~~(.str r.1),~~~(.str r.2.1),~~~(jz r.2.2),~~~(.lst (xs.map .str)),none,l]=.ok (.str ("part " ++ r.2.1)):=by
    rw[yk (by rw[KU];lia),KU,z8 (d:=.str r.2.1) (z:=r.2.1) rfl rfl (by rw[JE];lia),yG (by rw[JE];lia)]
   simp[x2,g,e]
 have A:(TL " " (j5 Qt (Tn 0) (TL " " (j5 Qt (Tn 4) (TL " " (j5 Qt (Tn 5) ja)))))) Str.empty [~~~(.str r.1),~~~(.str r.2.1),~~~(jz r.2.2),~~~(.lst (xs.map .str)),~~~(.str (qm r.2.1)),~~~(.str (xW xs r.2.2))]=.ok (.str (qR xs r)):=by
  rw[yk (by rw[KU];lia),KU,z8 (d:=.str r.1) (z:=r.1) rfl rfl (by rw[JE];lia),yk (by simp only[JE];lia),z8 (d:=.str (qm r.2.1)) (z:=qm r.2.1) rfl rfl (by simp only[JE];lia),yk (by simp only[JE];lia),z8 (d:=.str (xW xs r.2.2)) (z:=xW xs r.2.2) rfl rfl (by simp only[JE];lia),yG (by simp only[JE];lia)];rfl
 have m:=w none;unfold Ab Bx;rw[ML];simp only[MI,MJ];show Res.bind (Res.bind (Res.bind (wm _ _ _ [~~~(.str r.1),~~~(.str r.2.1),~~~(jz r.2.2),~~~(.lst (xs.map .str)),none,none]) _) _) _=_;rw[m];simp[mk,u,TW,f,A]
def Bz:FS:=(T1 (TK 1 (jb (TF "Plan" "name") (Tn 0))) (T1 (TK 2 (Ts T6 (jb (TF "Plan" "givens") (Tn 0)) (Q5 [none,none,none] (iS (jb (TF "Plan" "rows") (Tn 0))) (.tup [0,1,2]) (Tn 0)))) (T1 (TK 3 (Ts T6 (jQ (Jt ((TL "plan " (j5 Qt (Tn 1) ja)) Str.empty) Tp)) (Q5 [none] (iS (jb (TF "Plan" "givens") (Tn 0))) (.one 0) ((TL " given " (j5 Qt (Tn 0) ja)) Str.empty)))) (TN (Ts Cy (Tn 3) (Q5 [none,none,none,some 2] (iS (jb (TF "Plan" "rows") (Tn 0))) (.tup [0,1,2]) (J0 Ab (Jt (Tn 0) (Jt (Tn 1) (Jt (Tn 2) (Jt (Tn 3) Tp)))))))))))
def Ac:Yt->Res D:=qo 4 1 Bz
def kU {p:Pl}(h:PlT p):Ac [J7 p]=.ok (.lst ((Qe p).map .str)):=by
 have B:=h.gl;have f:=h.rl;have C:(("plan " : Str)).length=5:=by decide +kernel
 have E:((" given " : Str)).length=7:=by decide +kernel
 have F:=h.nm.len;have s:js (.tup [0,1,2]) (Tn 0) [none,none,none] (p.rows.map T8)=.ok (p.rows.map λr=>.str r.1):=Q7 λr f=>by simp[T8]
 have t:js (.one 0) ((TL " given " (j5 Qt (Tn 0) ja)) Str.empty) [none] (p.givens.map .str)=.ok (p.givens.map λg=>.str (" given " ++ g)):=Q7 λg u=>by
  have:=(h.gs g u).len;have e:(TL " given " (j5 Qt (Tn 0) ja)) Str.empty [~~~(.str g)]=.ok (.str (" given " ++ g)):=by
   rw[yk (by rw[KU];lia),KU,z8 (d:=.str g) (z:=g) rfl rfl (by rw[JE];lia),yG (by rw[JE];lia)]
  simp[e]
 have j:js (.tup [0,1,2]) (J0 Ab (Jt (Tn 0) (Jt (Tn 1) (Jt (Tn 2) (Jt (Tn 3) Tp))))) [none,none,none,~~~(.lst ((qQ p).map .str))] (p.rows.map T8)=.ok (p.rows.map λr=>.str (qR (qQ p) r)):=Q7 λr f=>by
  obtain⟨a,b,c,d⟩:=h.rs r f;have e:=kT (xs:=qQ p) h.th a b c λi v=>by rw[CS];exact d i v
  simp[T8,e]
 have w:=JV (show p.rows.length<=1000 from ());have x:=JV (show p.givens.length<=1000 from ());have y:∀sd:SD,sd[1]? = some (~~~(.str p.name))->(TL "plan " (j5 Qt (Tn 1) ja)) Str.empty sd=.ok (.str ("plan " ++ p.name)):=λsd A=>by
  rw[yk (by rw[KU];lia),KU,z8 (d:=.str p.name) (z:=p.name) (by simp[A]) rfl (by rw[JE];lia),yG (by rw[JE];lia)]
 have l:T6 (.lst (p.givens.map .str)) (.lst (p.rows.map λr=>.str r.1))=some (.lst ((qQ p).map .str)):=by
  show(if(p.givens.map D.str).length+(p.rows.map λr=>D.str r.1).length<=sizeLine then some (D.lst (p.givens.map D.str++p.rows.map λr=>D.str r.1)) else none)=_;rw[Zd (small (by rw[Zql,Zql];lia))];unfold qQ;simp
 have m:T6 (.lst [.str ("plan " ++ p.name)]) (.lst (p.givens.map λg=>.str (" given " ++ g)))=some (.lst (([("plan " : Str)++p.name]++p.givens.map λg=>(" given " : Str)++g).map .str)):=by
  show(if 1+(p.givens.map λg=>D.str (" given " ++ g)).length<=sizeLine then some (D.lst ([.str ("plan " ++ p.name)]++p.givens.map λg=>D.str (" given " ++ g))) else none)=_;rw[Zd (small (by rw[Zql];lia))];simp
 have n:Cy (.lst (([("plan " : Str)++p.name]++p.givens.map λg=>(" given " : Str)++g).map .str)) (.lst (p.rows.map λr=>.str (qR (qQ p) r)))=some (.lst ((Qe p).map .str)):=by
  show(if(([("plan " : Str)++p.name]++p.givens.map λg=>(" given " : Str)++g).map D.str).length+(p.rows.map λr=>D.str (qR (qQ p) r)).length<=sizeLine then some (D.lst ((([("plan " : Str)++p.name]++p.givens.map λg=>(" given " : Str)++g).map D.str)++p.rows.map λr=>D.str (qR (qQ p) r))) else none)=_;rw[Zd (small (by simp;lia))];unfold Qe qQ;simp
 obtain⟨o,hL1⟩:∃o,o=D.lst (([("plan " : Str)++p.name]++p.givens.map λg=>(" given " : Str)++g).map .str):=⟨_,rfl⟩;rw[<- hL1] at m n;obtain⟨q,hL2⟩:∃q,q=D.lst ((qQ p).map .str):=⟨_,rfl⟩;rw[<- hL2] at l j;simp[Ac,Bz,s,t,j,w,x,y,l,m,n]
def B0:FS:=(T1 (xg 1 (jQ Tp)) (T1 (j9 (iS (jb (TF "Book" "plans") (Tn 0))) (.one 2) (X9 1 (J0 Ac (Jt (Tn 2) Tp)))) (λsd=>(TN (TW Xn (dC (.str "\n")) (Tn 1))) (qj [1] sd))))
def Y6:Yt->Res D:=jc 3 1 B0
def Hn {ps:List Pl}(h:∀p∈ps,PlT p)(d:ps.length<=32):Y6 [JB ps]=.ok (.str (KN ps)):=by
 obtain⟨s,t⟩:=ZO h;obtain⟨_,g⟩:=Gp h d;obtain⟨sd,e,u2,a⟩:=Kl (tg:=.one 2) (b:=X9 1 (J0 Ac (Jt (Tn 2) Tp))) (ds:=ps.map J7) (sd:=[~~~(JB ps),some (.own false (.lst [])),none])
  (P:=λi sd=>∃u2:Option SV,sd=[~~~(JB ps),some (.own false (.lst ((Q3 (ps.take i)).map .str))),u2]) ⟨none,by simp[Q3]⟩ (by
   rintro i x sd hx ⟨u2,rfl⟩;obtain⟨p,hp,rfl⟩:=QK hx;have u:=(Jd.mp hp).1;have c:=Uh hp;have f:=kU (h p c);have j:ps.take (i+1)=ps.take i++[p]:=by rw[Us,hp];rfl
   obtain⟨v,w⟩:=Go (h p c);obtain⟨y,l⟩:=ZO (ps:=ps.take i) λq m=>h q (UD m);have n:(Q3 (ps.take i)).length+(Qe p).length<=sizeLine:=by
    rw[Uk] at l;have z:min i ps.length*53<=32*53:=Nat.mul_le_mul_right _ ();exact Zh (show _<=1000000 from ()) (by decide +kernel)
   refine⟨[~~~(JB ps),some (.own false (.lst ((Q3 (ps.take (i+1))).map .str))),~~~(J7 p)],?_,_,rfl⟩;have o:Q3 (ps.take (i+1))=Q3 (ps.take i)++Qe p:=by
    rw[j];unfold Q3;rw[List.flatMap_append];simp
   rw[o];simp[f,n])
 rw[Zql,Uu] at a;subst a;have r:=ZN g;unfold Y6 B0;simp[e,TW,r];rfl
def B4:FS:=(T1 (TK 1 (J0 Y6 (Jt (J0 Be (Jt (J0 WK (Jt (Ts T6 (y9 (Tn 0) Qk (Q0 (dC (.int 2))) Qk) (y9 (Tn 0) (Q0 (dC (.int 9))) (Q0 (dC (.int 69))) Qk)) Tp)) Tp)) Tp))) (T1 (jq (Q1 (Jx (T3 xK (Jt (Tn 1) (Jt (dC (.ty "str")) Tp))))) (TN (dC (.bl false))) JA) (T1 (TK 2 (Ts TY (J0 Q9 (Jt (Tn 0) (Jt (dC (.int 2)) Tp))) (dC (.int 4)))) (T1 (j9 (vc (Jt (Tn 2) Tp)) (.one 3) (TK 1 (J0 WL (Jt (Tn 1) (Jt (J0 Q9 (Jt (Tn 0) (Jt (Ts T6 (dC (.int 3)) (Ts j7 (dC (.int 2)) (Tn 3))) Tp))) (Jt (J0 Q9 (Jt (Tn 0) (Jt (Ts T6 (dC (.int 4)) (Ts j7 (dC (.int 2)) (Tn 3))) Tp))) Tp)))))) (T1 (TK 4 (dC .non)) (T1 (ZJ ["BadName", "BadPart", "BadPlan", "BadRow", "NoName", "TooLong"] (TK 4 (YT Vw (Jt (Tn 1) Tp))) (TK 4 (dC .non))) (T1 (jq (Jx (jb (jJ false) (Tn 4))) (TN (Ts yK (Tn 2) (dC (.int 0)))) JA) (T1 (TK 5 (J0 Y6 (Jt (Tn 4) Tp))) (TN (WZ (T3 xK (Jt (Tn 5) (Jt (dC (.ty "str")) Tp))) (Ts qi (Tn 5) (Tn 1))))))))))))
def wg:Yt->Res D:=jc 6 1 B4
def Wd {c:Nat}{a b:Str}(d:c∉a.cps.toList)(e:c∉b.cps.toList):c∉(a++b).cps.toList:=by
 rw[JM];exact λz=>(Jb.mp z).elim d e
theorem Ho {c:Nat}{s:Str}(a:c∉s.cps.toList):∀l:Yh,(∀x∈l,c∉x.cps.toList)->c∉(Txt.join s l).cps.toList
 | [],_=>by rw[XM];exact λz=>nomatch z
 | [x],h=>by rw[Kn];exact h x Zqs
 |x::y::r,h=>by
  rw[KW];exact Wd (Wd (h x Zqs) a) (Ho a (y::r) λz b=>h z (Zqm _ b))
def RD {n how:Str}{a:List (Str×Int)}(R:RowR n how a):10∉(jA n how a).cps.toList:=by
 have sp:(10:Nat)∉(" " : Str).cps.toList:=by decide +kernel
 have hw:10∉(qm how).cps.toList:=by
  unfold qm
  split
  .rename_i h;rcases h with rfl|rfl<;>decide +kernel
  .rename_i h;refine Wd (by decide +kernel) ?_;rcases R.hw with z|z|z
   .exact Zn (.inl z) h
   .exact Zn (.inr z) h
   .exact Vx z (by decide)
 unfold jA;refine Wd (Wd (Wd (Wd (Wd sp (Vx R.nm (by decide))) sp) hw) sp) (Ho (by decide +kernel) _ λx hx=>?_);obtain⟨i,b,rfl⟩:=Ja.mp hx;exact Dp (R.is i b) (by decide) () ()
def Kr:Nat->List (Str×Str×Jr)->List (Int×Str×Str×Jr)
 |_,[]=>[]
 |k,r::rs=>((k:Int)+1,r)::Kr (k+1) rs
theorem Ad:∀(rs:List (Str×Str×Jr)) (k:Nat),(Kr k rs).map (·.2)=rs
 | [],_=>rfl
 |r::rs,k=>Zt (r :: ·) (Ad rs (k+1))
def RE (rs:List (Str×Str×Jr))(k:Nat):(Kr k rs).length=rs.length:=by
 have:=Zt List.length (Ad rs k)
 rwa [Zql] at this
theorem Hq {nm:Str}{rest:Yh}{b r:List Dr}:∀(gs a:Yh) (k:Nat),(∀g∈gs,ji g)->a.length+gs.length<=1000->Rd (k+gs.length) rest (b++[⟨nm,a++gs,[]⟩]) r->Rd k (gs.map (λg=>(" given " : Str)++g)++rest) (b++[⟨nm,a,[]⟩]) r
 | [],a,k,_,_,h=>by rw[ZA] at h;exact h
 |g::gs,a,k,hn,hl,h=>by
  rw[Zu] at hl h;refine .given (hn g Zqs) (by show a.length<=1000;lia) rfl (Hq gs (a++[g]) (k+1) (λx hx=>hn x (Zqm _ hx)) (by rw[Ua,Ue];lia) ?_);rw[Uo,List.singleton_append,show k+1+gs.length=k+(gs.length+1) by lia];exact h
theorem Hr {nm:Str}{gs xs:Yh}{rest:Yh}{b r:List Dr}:∀(rs:List (Str×Str×Jr)) (a:List (Int×Str×Str×List (Str×Int))) (k:Nat),(∀z∈rs,RowH z.1 z.2.1 (z.2.2.map λi=>(jf xs i.1,i.2)))->a.length+rs.length<=1000->Rd (k+rs.length) rest (b++[⟨nm,gs,a++(Kr k rs).map (qI xs)⟩]) r->Rd k (rs.map (qR xs)++rest) (b++[⟨nm,gs,a⟩]) r
 | [],a,k,_,_,h=>by
  have h:Rd k rest (b++[⟨nm,gs,a++[]⟩]) r:=h;rw[ZA] at h;exact h
 |z::rs,a,k,hn,hl,h=>by
  rw[Zu] at hl h;rw[Zl,List.cons_append,D1];refine .made (hn z Zqs) (by show a.length<=1000;lia) (Hr rs (a++[qI xs ((k:Int)+1,z)]) (k+1) (λx hx=>hn x (Zqm _ hx)) (by rw[Ua,Ue];lia) ?_);rw[Uo,List.singleton_append,show k+1+rs.length=k+(rs.length+1) by lia];exact h
def uq (k:Nat)(p:Pl):Str×Yh×List (Int×Str×Str×Jr):=(p.name,p.givens,Kr (k+1+p.givens.length) p.rows)
def We:Nat->List Pl->List (Str×Yh×List (Int×Str×Str×Jr))
 |_,[]=>[]
 |k,p::ps=>uq k p::We (k+(Qe p).length) ps
theorem Hs:∀(ps:List Pl) (k:Nat),zf (We k ps)=ps
 | [],_=>rfl
 |p::ps,k=>by
  show Pl.mk p.name p.givens ((Kr _ p.rows).map (·.2))::zf (We _ ps)=_;rw[Ad,Hs ps]
def Ht (k:Nat)(p:Pl):xU p.givens (Kr k p.rows)=qQ p:=by
 unfold xU qQ
 conv=>rhs;rw[<- Ad p.rows k]
 rw[Zw];rfl
structure PlR (p:Pl):Prop where
 nm:ji p.name
 gs:∀g∈p.givens,ji g
 gl:p.givens.length<=400
 rl:p.rows.length<=400
 nd:(qQ p).Nodup
 rs:∀z∈p.rows,RowH z.1 z.2.1 (z.2.2.map λi=>(jf (qQ p) i.1,i.2))/\∀i∈z.2.2,0<=i.1/\i.1<((qQ p).length:Int)
def RF {p:Pl}(h:PlR p){k:Nat}{rest:Yh}{a r:List Dr}(b:a.length<=1000)(c:Rd (k+(Qe p).length) rest (a++[⟨p.name,p.givens,(Kr (k+1+p.givens.length) p.rows).map (qI (qQ p))⟩]) r):Rd k (Qe p++rest) a r:=by
 have f:=h.gl;have i:=h.rl;have e:Qe p++rest=(("plan " : Str)++p.name)::(p.givens.map (λg=>(" given " : Str)++g)++(p.rows.map (qR (qQ p))++rest)):=by
  unfold Qe qQ;simp
 have j:(Qe p).length=1+p.givens.length+p.rows.length:=by
  unfold Qe;simp;lia
 rw[e];refine .plan h.nm b (Hq p.givens [] (k+1) h.gs (by show 0+_<=_;lia) (Hr p.rows [] (k+1+p.givens.length) (λz d=>(h.rs z d).1) (by show 0+_<=_;lia) ?_));rw[List.nil_append,List.nil_append,show k+1+p.givens.length+p.rows.length=k+(Qe p).length by lia];exact c
theorem Hu:∀(ps:List Pl) (k:Nat) (a:List Dr),(∀p∈ps,PlR p)->a.length+ps.length<=1000->Rd k (Q3 ps) a (a++zu (We k ps))
 | [],k,a,_,_=>by rw[show a++zu (We k [])=a from ZA _];exact .nil _ _
 |p::ps,k,a,h,hl=>by
  rw[Zu] at hl;have hp:=h p Zqs;refine RF hp () ?_;have b:=Hu ps (k+(Qe p).length) (a++[⟨p.name,p.givens,(Kr (k+1+p.givens.length) p.rows).map (qI (qQ p))⟩]) (λq c=>h q (Zqm _ c)) (by rw[Ua,Ue];lia);have e:a++zu (We k (p::ps))=a++[⟨p.name,p.givens,(Kr (k+1+p.givens.length) p.rows).map (qI (qQ p))⟩]++zu (We (k+(Qe p).length) ps):=by
   show a++(Dr.mk p.name p.givens ((Kr (k+1+p.givens.length) p.rows).map (qI (xU p.givens (Kr (k+1+p.givens.length) p.rows))))::zu (We (k+(Qe p).length) ps))=_;rw[Ht,Uo,List.singleton_append]
  rw[e];exact b
theorem Hv:∀(ps:List Pl) (k:Nat),(∀p∈ps,PlR p)->∀q∈We k ps,DrOk q.2.1 q.2.2
 | [],_,_,q,hq=>nomatch hq
 |p::ps,k,h,q,hq=>by
  rcases UB.mp hq with rfl|hq
  .have hp:=h p Zqs;have b:=Ht (k+1+p.givens.length) p;refine⟨by show(xU p.givens (Kr _ p.rows)).Nodup;rw[b];exact hp.nd,hp.gl,by show(Kr _ p.rows).length<=400;rw[RE];exact hp.rl,λz a=>?_⟩;have a:z∈Kr (k+1+p.givens.length) p.rows:=a;have c:z.2∈p.rows:=by rw[<- Ad p.rows (k+1+p.givens.length)];exact Ja.mpr ⟨z,a,rfl⟩
   obtain⟨d,e⟩:=hp.rs z.2 c;have f:=d.hi;rw[Zql] at f;show z.2.2.2.length<=400/\∀i∈z.2.2.2,0<=i.1/\i.1<((xU p.givens (Kr _ p.rows)).length:Int);rw[b];exact⟨(),e⟩
  .exact Hv ps _ (λq hq=>h q (Zqm _ hq)) q hq
def LB.plr {ps:List Pl}(L:LB ps):∀p∈ps,PlR p:=λp hp=>by
 obtain⟨i,a⟩:=Ux hp;have P:=L i p a;have u:((qQ p).length:Int)=(p.givens.length:Int)+p.rows.length:=by rw[CS];lia
 refine⟨P.nm,λg l=>P.tn g (Ur _ l),by have:=P.g2;lia,by have:=P.r2;lia,P.td,λz b=>?_⟩;obtain⟨k,d⟩:=Ux b;obtain⟨I,m,v⟩:=P.its k z d;have w:=(Jd.mp d).1;have f:∀i∈z.2.2,0<=i.1/\i.1<((qQ p).length:Int):=λi a=>by
  have:=I.rng i a;lia
 refine⟨⟨⟨P.tn z.1 (Uf _ (Ja.mpr ⟨z,b,rfl⟩)),?_,λj c=>?_,by rw[Zql];exact m⟩,by rw[Zql];lia⟩,f⟩
 .rcases P.how z b with h|h|h
  .exact .inl h
  .exact .inr (.inl h)
  .obtain⟨q,n,e⟩:=Ja.mp h;have o:q∈ps:=UD n;obtain⟨j,c⟩:=L.mem o;have r:q.name=z.2.1:=Zt Prod.fst e;exact .inr (.inr (by rw[<- r];exact c.nm))
 .obtain⟨i,a,rfl⟩:=Ja.mp c;obtain⟨s,t⟩:=f i a;exact⟨P.tn _ (CT (xs:=qQ p) s t).2,I.far i a⟩
def Hw {ps:List Pl}(h:∀p∈ps,PlR p):∀x∈Q3 ps,10∉x.cps.toList:=λx hx=>by
 obtain⟨p,hp,hx⟩:=Jj.mp hx;have P:=h p hp;unfold Qe at hx;rcases Jb.mp hx with hx|hx
 .rcases Jb.mp hx with hx|hx
  .rw[Jc.mp hx];exact Wd (by decide +kernel) (Vx P.nm (by decide))
  .obtain⟨g,a,rfl⟩:=Ja.mp hx;exact Wd (by decide +kernel) (Vx (P.gs g a) (by decide))
 .obtain⟨z,b,rfl⟩:=Ja.mp hx;rw[D1];exact RD (P.rs z b).1.toRowR
def RG {α: Type}{l:List α}{i:Nat}{x:α}(h:l[i]? = some x):l.take (i+1)=l.take i++[x]:=by rw[List.take_add_one,h];rfl
def vr {ps:List Pl}{i:Nat}{p:Pl}(h:ps[i]? = some p):(p.name,qO (jy (ps.take i)) p)∈jy ps:=by
 obtain⟨u,a⟩:=CJ (ps.drop (i+1)) (jy (ps.take (i+1)));have e:jy ps=jy (ps.take (i+1))++u:=by
  rw[<- a];unfold jy;rw[<- Vl,UX]
 rw[e,RG h,AY];simp
def vq {ps:List Pl}(a:(ps.map (·.name)).Nodup){i:Nat}{p:Pl}(h:ps[i]? = some p):jx (jy ps) p.name=some (qO (jy (ps.take i)) p):=D5 (by rw[Xp];exact a) (vr h)
def RH (t:List (Str×Int))(q:Pl)(r:Str×Str×Jr):qO t ⟨q.name,q.givens,q.rows++[r]⟩=qO t q+1+(if jX r.2.1 then(jx t r.2.1).getD 0 else 0):=by
 unfold qO;show(((q.rows++[r]).length:Nat):Int)+(((q.rows++[r]).filter λr=>jX r.2.1).map λr=>(jx t r.2.1).getD 0).sum=_;rw[List.filter_append,Uc,List.sum_append,Ua];cases c:jX r.2.1 with
 |true =>
  rw[List.filter_cons_of_pos (p:=λr:Str×Str×Jr=>jX r.2.1) c];simp;lia
 |false =>
  rw[List.filter_cons_of_neg (by rw[c];exact Zj)];simp;lia
def Hx {ws:Yh}(W:WsOk ws){i:Nat}(h:i<34):ws[i]? = some (TU ws (i:Int)):=by
 have a:=W.len;unfold TU;rw[Int.emod_eq_of_lt () (),Ul,Uj,Zqg ()];rfl
def Hy {ws:Yh}(W:WsOk ws){i j:Nat}(l:i<34)(m:j<34)(e:TU ws (i:Int)=TU ws (j:Int)):i=j:=by
 have a:=Hx W l;have b:=Hx W m;rw[<- e] at b;obtain⟨d,f⟩:=Jd.mp a;obtain⟨g,h⟩:=Jd.mp b;have c:=W.nd;rw[List.Nodup,U9] at c;rcases Nat.lt_trichotomy i j with z|z|z
 .exact Zn (f.trans h.symm) (c i j d g z)
 .exact z
 .exact Zn (h.trans f.symm) (c j i g d z)
def BW.nodup {ws:Yh}{n:Nat}{s:Bst}(B:BW ws n s)(W:WsOk ws)(r:s.ps.length<33):((s.ps++[s.q]).map (·.name)).Nodup:=by
 have d:∀(i:Nat) (x:Str),((s.ps++[s.q]).map (·.name))[i]? = some x->x=TU ws (i:Int)/\i<34:=λi x h=>by
  rw[Zv] at h;by_cases c:i<s.ps.length
  .rw[Up c] at h;cases f:s.ps[i]? with
   |none=>rw[f] at h;cases h
   |some p =>
    rw[f] at h;obtain rfl:=Zqi h;exact⟨(B.all i p f).1.nm,()⟩
  .rw[Uv ()] at h;have:i-s.ps.length=0:=by
    rcases Vi (i-s.ps.length) with z|z
    .exact z
    .rw[Vm (by simp;lia)] at h;cases h
   rw[this] at h;obtain rfl:=Zqi h;have g:i=s.ps.length:=()
   exact⟨by rw[g];exact B.last.nm,()⟩
 rw[List.Nodup,U9];intro i j f l m e;obtain⟨a,o⟩:=d i _ (Zqg f);obtain⟨b,q⟩:=d j _ (Zqg l);have:=Hy W o q (a.symm.trans (e.trans b));lia
structure GW (n:Nat)(s:Bst):Prop where
 two:2*s.ps.length<=n/\(s.q.rows ≠ []->2*s.ps.length+1<=n)
 ld:∀(i:Nat) (p:Pl),s.ps[i]? = some p->jM s.ld (i:Int)=qO (jy (s.ps.take i)) p/\qO (jy (s.ps.take i)) p<=1900+n
 x:s.x=qO (jy s.ps) s.q
 xb:s.x<=1900+n
def GW.row {ws:Yh}{n:Nat}{s:Bst}(G:GW n s)(B:BW ws n s)(W:WsOk ws)(m:n<=31)(a b:Int):GW (n+1) ⟨s.ps,⟨s.q.name,s.q.givens,s.q.rows++[(jp ws s.ps s.q s.ld s.x a b).1]⟩,s.ld,(jp ws s.ps s.q s.ld s.x a b).2⟩:=by
 have two:=G.two;have o:=G.xb;refine⟨⟨by show 2*s.ps.length<=n+1;lia,λ_=>by show 2*s.ps.length+1<=n+1;lia⟩,λi p e=>⟨(G.ld i p e).1,U1 (G.ld i p e).2 ()⟩,?_,?_⟩
 .show(jp ws s.ps s.q s.ld s.x a b).2=qO (jy s.ps) ⟨s.q.name,s.q.givens,s.q.rows++[(jp ws s.ps s.q s.ld s.x a b).1]⟩;rw[RH,<- G.x];unfold jp
  split
  .rename_i c;obtain⟨_,g,_⟩:=c;have pl:0<s.ps.length:=Ji.mpr g;have k0:0<=a / 4 % (s.ps.length:Int):=Uw _ ();have k1:a / 4 % (s.ps.length:Int)<(s.ps.length:Int):=UC _ ();obtain⟨k,hk⟩:∃k:Nat,a / 4 % (s.ps.length:Int)=k:=⟨(a / 4 % (s.ps.length:Int)).toNat,()⟩;rw[hk] at k0 k1 ⊢;have h:k<s.ps.length:=()
   have hp:s.ps[k]? = some (jr s.ps (k:Int)):=by
    unfold jr;rw[Ul,Uj,Zqg h];rfl
   have f:=B.nodup W ();rw[Uc] at f;have j:=vq (Jf.mp f).1 hp;have d:jX (jr s.ps (k:Int)).name=true:=by
    have l:(jr s.ps (k:Int)).name∈ws:=by rw[(B.all k _ hp).1.nm];exact W.at_ _
    have:=(W.ok _ l).noHow;unfold jX;unfold K0 at this;rw[this];rfl
   show s.x+1+jM s.ld (k:Int)=s.x+1+(if jX (jr s.ps (k:Int)).name then(jx (jy s.ps) (jr s.ps (k:Int)).name).getD 0 else 0);rw[d,Zd rfl,j,(G.ld k _ hp).1];rfl
  .have d:jX (xI a)=false:=by unfold xI;split<;>decide +kernel
   show s.x+1=s.x+1+(if jX (xI a) then _ else 0);rw[d];simp
 .show(jp ws s.ps s.q s.ld s.x a b).2<=_;unfold jp
  split
  .rename_i c;have:=c.2.2;show s.x+1+_<=_;lia
  .show s.x+1<=_;lia
def RI (t:List (Str×Int))(nm c:Str)(gs d:Yh){rs a:List (Str×Str×Jr)}(h:rs.map (·.2.1)=a.map (·.2.1)):qO t ⟨nm,gs,rs⟩=qO t ⟨c,d,a⟩:=by
 have b:∀l:List (Str×Str×Jr),((l.filter λr=>jX r.2.1).map λr=>(jx t r.2.1).getD 0)=((l.map (·.2.1)).filter jX).map λw=>(jx t w).getD 0:=λl=>by
  rw[List.filter_map,Zw];rfl
 unfold qO;show((rs.length:Nat):Int)+((rs.filter λr=>jX r.2.1).map λr=>(jx t r.2.1).getD 0).sum=((a.length:Nat):Int)+((a.filter λr=>jX r.2.1).map λr=>(jx t r.2.1).getD 0).sum;rw[b,b,h];have:=Zt List.length h;rw[Zql,Zql] at this;rw[this]
def GW.up {n:Nat}{s s':Bst}(G:GW n s)(a:s'.ps=s.ps)(e:s'.ld=s.ld)(d:s'.x=s.x)(b:s'.q.rows.map (·.2.1)=s.q.rows.map (·.2.1)):GW (n+1) s':=by
 have two:=G.two;have g:=G.xb;have f:s'.q.rows ≠ []->s.q.rows ≠ []:=λh z=>h (by rw[z] at b;exact List.map_eq_nil_iff.mp b);refine⟨⟨by rw[a];lia,λh=>by have:=two.2 (f h);rw[a];lia⟩,λi p c=>?_,?_,by rw[d];lia⟩
 .rw[a] at c ⊢;rw[e];exact⟨(G.ld i p c).1,U1 (G.ld i p c).2 ()⟩
 .rw[d,a,G.x];exact RI _ _ _ _ _ b.symm
def RJ {ws:Yh}{n:Nat}{s:Bst}(G:GW n s)(B:BW ws n s)(W:WsOk ws)(m:n<=31)(f g:Int):GW (n+1) (VY ws s f g):=by
 unfold VY
 split
 .rename_i c;have two:=G.two.2 c.2;have u:=G.xb;have o:=B.ll;refine⟨⟨by show 2*(s.ps++[s.q]).length<=n+1;rw[Ua,Ue];lia,λh=>Zn rfl h⟩,λi p d=>?_,?_,by show(0:Int)<=_;lia⟩
  .have d:(s.ps++[s.q])[i]? = some p:=d;show jM (s.ld++[s.x]) (i:Int)=qO (jy ((s.ps++[s.q]).take i)) p/\_;by_cases z:i<s.ps.length
   .rw[Up z] at d;obtain⟨a,b⟩:=G.ld i p d;have j:(s.ps++[s.q]).take i=s.ps.take i:=Vp ();have l:jM (s.ld++[s.x]) (i:Int)=jM s.ld (i:Int):=by
     unfold jM;rw[Ul,Uj,Uj,Up ()]
    rw[j,l];exact⟨a,U1 b ()⟩
   .have q:=(Jd.mp d).1;rw[Ua,Ue] at q;have t:i=s.ps.length:=()
    subst t;rw[Uv (Zf _),Nat.sub_self] at d;obtain rfl:=Zqi d;have j:(s.ps++[s.q]).take s.ps.length=s.ps:=Ve;have l:jM (s.ld++[s.x]) (s.ps.length:Int)=s.x:=by
     unfold jM;rw[Ul,Uj,<- o,Uv (Zf _),Nat.sub_self];rfl
    rw[j,l,G.x];exact⟨rfl,by rw[<- G.x];lia⟩
  .show(0:Int)=qO (jy (s.ps++[s.q])) ⟨_,_,[]⟩;unfold qO;rfl
 .split
  .exact G.up rfl rfl rfl rfl
  .split
   .rename_i c;refine G.up rfl rfl rfl ?_;have e:=Bg c.2.1;show(s.q.rows.dropLast++[((JH s.q.rows).1,(JH s.q.rows).2.1,_)]).map (λr:Str×Str×Jr=>r.2.1)=s.q.rows.map (·.2.1)
    conv=>rhs;rw[e]
    rw[Uc,Uc];rfl
   .exact G.row B W m _ _
theorem Hz (a:Yf):∀j,j<=31->GW j (Qa a j)
 | 0,_=>by
  refine⟨⟨Zf _,λh=>Zn rfl h⟩,λi p b=>?_,?_,?_⟩
  .have b:([]:List Pl)[i]? = some p:=b;simp at b
  .show(0:Int)=qO (jy []) ⟨_,_,[]⟩;unfold qO;rfl
  .show(0:Int)<=1900+((0:Nat):Int);lia
 |j+1,h=>RJ (Hz a j ()) (XX a j) (Wp a).2 () _ _
def RK (a:Yf):GW 31 (KA a):=by
 have c:=Bl a;have G:=Hz a (JN a) ();have up:∀{n m:Nat} {s:Bst},n<=m->GW n s->GW m s:=λ{n m s} h g=>by
  have:=g.two;have:=g.xb;exact⟨⟨(),λz=>by have:=g.two.2 z;lia⟩,λi p b=>⟨(g.ld i p b).1,U1 (g.ld i p b).2 ()⟩,g.x,()⟩
 unfold KA zQ
 split
 .exact up () (G.row (XX a _) (Wp a).2 () 0 0)
 .exact up () G
def PlW.pl {ws:Yh}{i:Nat}{c:List Pl}{q:Pl}(P:PlW ws i c 31 q)(W:WsOk ws)(g:q.rows ≠ [])(m:∀p∈c,p.givens.length<=12)(n:∀p∈c,p.name≠q.name)(o:qO (jy c) q<=2000):PL c q:=by
 have sz:=P.sz;have B:=P.g1;have d:∀k:Int,ji (TU ws k):=λk=>(W.ok _ (W.at_ k)).nm;have s:(q.givens++q.rows.map (·.1)).length=q.givens.length+q.rows.length:=by rw[Ua,Zql]
 have t:0<q.rows.length:=Ji.mpr g;refine⟨by rw[P.nm];exact d _,n,λx hx=>?_,?_,P.g1,P.g12,t,(),λk r f=>?_,λr g=>?_,o⟩
 .obtain⟨k,f⟩:=Ux hx;rw[P.th k x f];exact d _
 .rw[List.Nodup,U9];intro a b j l u e;have v:=P.th a _ (Zqg j);have w:=P.th b _ (Zqg l);rw[s] at j l;have y:TU ws ((i+1+a:Nat):Int)=TU ws ((i+1+b:Nat):Int):=by
   rw[show((i+1+a:Nat):Int)=(i:Int)+1+(a:Int) by lia,show((i+1+b:Nat):Int)=(i:Int)+1+(b:Int) by lia,<- v,<- w];exact e
  have:=Hy W () () y;lia
 .have R:=P.rw_ k r f;refine⟨R.its,R.low,?_⟩;rcases R.how with ⟨_,h⟩|⟨_,p,hp,_,h⟩
  .omega
  .have:=m p hp;lia
 .obtain⟨k,f⟩:=Ux g;rcases(P.rw_ k r f).how with ⟨h,_⟩|⟨_,p,hp,z,A⟩
  .unfold K0 at h;rw[Ut,decide_eq_true_eq,decide_eq_true_eq] at h;exact h.imp_right .inl
  .refine .inr (.inr ?_);rw[z,A];exact OY hp
def RL (d:Yf):LB (QZ d)/\1<=(QZ d).length/\(QZ d).length<=20:=by
 obtain⟨B,g⟩:=Gy d;have G:=RK d;have W:=(Wp d).2;have two:=G.two.2 g;have r:=B.nodup W ();have nm:=B.names W;unfold QZ;generalize KA d=s at *;refine⟨λi p f=>?_,by rw[Ua,Ue];lia,by rw[Ua,Ue];lia⟩;have t:=(Jd.mp f).1;have h:∀q∈(s.ps++[s.q]).take i,q.name≠p.name:=λq m e=>by
  obtain⟨j,n⟩:=Ux m;have u:=(Jd.mp n).1;rw[Uk] at u;rw[Vs ()] at n;rw[List.Nodup,U9] at r;have a:((s.ps++[s.q]).map (·.name))[j]? = some q.name:=by rw[Zv,n];rfl
  have b:((s.ps++[s.q]).map (·.name))[i]? = some p.name:=by rw[Zv,f];rfl
  obtain⟨v,w⟩:=Jd.mp a;obtain⟨x,y⟩:=Jd.mp b;exact r j i v x () (w.trans (e.trans y.symm))
 have l:∀q∈(s.ps++[s.q]).take i,q.givens.length<=12:=λq m=>(nm q (UD m)).2.2;by_cases c:i<s.ps.length
 .have o:(s.ps++[s.q]).take i=s.ps.take i:=Vp ();rw[o] at h l ⊢;rw[Up c] at f;obtain⟨P,z⟩:=B.all i p f;exact P.pl W z l h (U1 (G.ld i p f).2 ())
 .rw[Ua,Ue] at t;have A:i=s.ps.length:=()
  subst A;have o:(s.ps++[s.q]).take s.ps.length=s.ps:=Ve;rw[o] at h l ⊢;rw[Uv (Zf _),Nat.sub_self] at f;obtain rfl:=Zqi f;exact B.last.pl W g l h (by rw[<- G.x];have:=G.xb;lia)
def RM {ps:List Pl}{n:Nat}(L:LB ps)(b:1<=ps.length)(g:ps.length<=20)(d:TxtOk n (KN ps))(e:n<=16000000):Vw [.str (KN ps)]=.ok (JB ps):=by
 have P:=L.plr;have R:=Hu ps 0 [] P (by show 0+_<=_;lia);rw[List.nil_append] at R;obtain⟨x,xs,ex⟩:∃x xs,Q3 ps=x::xs:=by
  cases ps with
  |nil=>simp at b
  |cons p ps=>exact⟨_,_,rfl⟩
 have sp:Txt.split (KN ps) "\n" = Q3 ps:=by
  unfold KN;rw[ex];exact Ws (c:=10) (t:=[]) rfl (by decide +kernel) λy f=>Hw P y (by rw[ex];exact f)
 have a:=Hs ps 0;have bl:(We 0 ps).length=ps.length:=by
  have:=Zt List.length a;unfold zf at this
  rwa [Zql] at this
 have:=gf d e sp R (Hv ps 0 P) (by rw[a];exact L) () ();rw[a] at this;exact this
def RN (e:Yf):(∀p∈QZ e,PlT p/\(Qe p).length<=33)/\(QZ e).length<=32:=by
 obtain⟨B,_⟩:=Gy e;have W:=(Wp e).2;have nm:=B.names W;have one:∀(i:Nat) (ps:List Pl) (q:Pl),(∀p∈ps,p∈(KA e).ps)->PlW (xc e) i ps 31 q->PlT q/\(Qe q).length<=33:=λi ps q m P=>by
  have sz:=P.sz;have s:=P.g1;have rt:=P.rowTxt W λp hp=>nm p (Ur _ (m p hp));refine⟨⟨by rw[P.nm];exact(W.ok _ (W.at_ _)).ok,λg n=>?_,P.g12,(),λr l=>?_⟩,?_⟩
  .obtain⟨k,h⟩:=Ux n;have:(q.givens++q.rows.map (·.1))[k]? = some g:=by rw[Up (Jd.mp h).1];exact h
   rw[P.th k g this];exact(W.ok _ (W.at_ _)).ok
  .obtain⟨a,b,c,d⟩:=rt r l;obtain⟨k,h⟩:=Ux l;have o:=(Jd.mp h).1;have R:=P.rw_ k r h;refine⟨a.ok,b,(),λi j=>?_⟩;have:=R.its.rng i j;have f:=R.its.far i j;exact⟨this.1,(),f.1,f.2⟩
  .unfold Qe;rw[Ua,Ua,Zql,Zql,Ue];lia
 unfold QZ;refine⟨λp hp=>?_,?_⟩
 .rcases Jb.mp hp with z|z
  .obtain⟨i,j⟩:=Ux z;exact one i _ p (λx hx=>UD hx) (B.all i p j).1
  .rw[Jc.mp z];exact one _ _ _ (λx hx=>hx) B.last
 .have:=B.last.sz;have:=B.last.g1;rw[Ua,Ue];lia
theorem HA:∀{ps:List Pl},(∀p∈ps,(Qe p).length<=33)->(Q3 ps).length<=ps.length*33
 | [],_=>Ug _
 |p::ps,h=>by
  have a:=h p Zqs;have b:=HA (ps:=ps) λq c=>h q (Zqm _ c);show(Qe p++Q3 ps).length<=_;rw[Ua,Zu,Vb];lia
def kK (c:Int):∃s,Bo [.int c]=.ok (.str s)/\TxtOk 1 s:=by
 obtain⟨a,ha⟩:∃a:Str,a = " !\"#$&'()*+,-./0123456789:;<=>?@ABCDEFGHIJKLMNOPQRSTUVWXYZ[\\]^_`" := ⟨_,rfl⟩;obtain⟨b,hb⟩:∃b:Str,b = "abcdefghijklmnopqrstuvwxyz{|}~\n" := ⟨_,rfl⟩;have d:TxtOk 100 a:=by rw[ha];exact Qj (by decide +kernel)
 have e:TxtOk 100 b:=by rw[hb];exact Qj (by decide +kernel)
 have m:1<=b.length:=by rw[hb];decide +kernel
 have f:=OR d e ();have g:=XL (d.app e) ();have h:=JE a b;have k0:0<=c % ((a++b).length:Int):=Uw _ ();have k1:c % ((a++b).length:Int)<((a++b).length:Int):=UC _ ();have n:((a++b).length:Int)≠0:=()
 have i:TY (.int c) (.int ((a++b).length:Int))=some (.int (c % ((a++b).length:Int))):=V0 ();obtain⟨ch,j,_,l⟩:=AX (d.app e) () k0 k1;generalize a++b=ab at *;refine⟨⟨#[ch]⟩,?_,CF l⟩;unfold Bo Bn;rw[<- ha,<- hb];simp[f,g,i,j]
def jD (l:Yh):Nat:=(l.map (·.length)).sum
def Xz (a b:Yh):jD (a++b)=jD a+jD b:=by unfold jD;rw[Uc,List.sum_append]
def HB (l:Yh)(k:Nat):jD (l.take k)+jD (l.drop k)=jD l:=by rw[<- Xz,UX]
def RO {l:Yh}{x:Str}(h:x∈l):x.length<=jD l:=by
 induction l with
 |nil=>cases h
 |cons y l a =>
  show x.length<=y.length+jD l;rcases UB.mp h with rfl|h
  .omega
  .have:=a h;lia
def RP (x:Str):jD [x]=x.length:=by unfold jD;simp
def RQ {α: Type}(l:List α){a b:Int}(f:0<=a)(g:a<=b):JW l (some a) (some b) none=(l.drop a.toNat).take (b.toNat-a.toNat):=by
 obtain⟨i,rfl⟩:=UQ f;obtain⟨j,rfl⟩:=UQ (U1 f g);have e:sliceBounds (some (i:Int)) (some (j:Int)) none l.length=(((min i l.length:Nat):Int),((min j l.length:Nat):Int),1):=by
  unfold sliceBounds;simp only[Option.getD_none];simp;rw[Ze (Int.not_lt.mpr f),Ze (),AV,AV];exact⟨Int.max_eq_right (Int.natCast_nonneg _),Int.max_eq_right (Int.natCast_nonneg _)⟩
 unfold JW;rw[e];show(sliceRange _ _ 1).filterMap _=_;have p:=pick_run l.toArray (min i l.length) (min j l.length-min i l.length);rw[sliceRange_one];have h:(λx:Nat=>l[x]?)=λx:Nat=>l.toArray[x]?:= by funext x;simp
 rw[h,p];simp;by_cases c:i<=l.length
 .rw[Nat.min_eq_left c];by_cases d:j<=l.length
  .rw[Nat.min_eq_left d]
  .rw[Nat.min_eq_right (),UF (),UF (by simp;lia)]
 .rw[show min i l.length=l.length from Nat.min_eq_right (),U8 (Zf _),U8 ()];simp
def RR {α: Type}{f:α -> D}{l:List α}{a:Nat}{x:α}(h:l[a]? = some x):j0 (l.map f) (a:Int)=some (f x):=by
 rw[Wn (by rw[Zql];exact(Jd.mp h).1),Zv,h];rfl
def kJ {rows:Yh}(K:1<=rows.length)(L:rows.length<=1000000)(i c:Int):∃rs:Yh,XZ [.lst (rows.map .str),.int i,.int c]=.ok (.lst (rs.map .str))/\(∀r∈rs,r∈rows)/\rs.length<=rows.length+1/\jD rs<=2*jD rows:=by
 have o:T5 [.lst (rows.map .str)]=some (.int (rows.length:Int)):=by rw[Co,Zql]
 obtain⟨d,ha,a1⟩:∃k:Nat,c % (rows.length:Int)=(k:Int)/\k<rows.length:=⟨(c % (rows.length:Int)).toNat,by have:=Uw c (show(rows.length:Int)≠0 by lia);lia,by have:=UC c (show(0:Int)<rows.length by lia);have:=Uw c (show(rows.length:Int)≠0 by lia);lia⟩;have p:TY (.int c) (.int (rows.length:Int))=some (.int (d:Int)):=by rw[V0 (),ha]
 have q:j7 (.int c) (.int 48271)=some (.int (c*48271)):=W0 (Cn () ());have s:TY (.int (c*48271)) (.int 2147483647)=some (.int (c*48271 % 2147483647)):=V0 ();have t:T6 (.int (rows.length:Int)) (.int 1)=some (.int ((rows.length:Int)+1)):=rfl;obtain⟨e,ht,j⟩:∃k:Nat,c*48271 % 2147483647 % ((rows.length:Int)+1)=(k:Int)/\k<rows.length+1:=⟨(c*48271 % 2147483647 % ((rows.length:Int)+1)).toNat,by have:=Uw (c*48271 % 2147483647) (show(rows.length:Int)+1≠0 by lia);lia,by have:=UC (c*48271 % 2147483647) (show(0:Int)<(rows.length:Int)+1 by lia);have:=Uw (c*48271 % 2147483647) (show(rows.length:Int)+1≠0 by lia);lia⟩;have v:TY (.int (c*48271 % 2147483647)) (.int ((rows.length:Int)+1))=some (.int (e:Int)):=by rw[V0 (),ht]
 have up:∀k:Nat,zd (.lst (rows.map .str)) none (some (k:Int)) none=some (.lst ((rows.take k).map .str)):=λk=>by
  show some (D.lst (JW _ none (some (k:Int)) none))=_;rw[YR,ON _ (),Ul]
 have w:∀k:Nat,zd (.lst (rows.map .str)) (some (k:Int)) none none=some (.lst ((rows.drop k).map .str)):=λk=>by
  show some (D.lst (JW _ (some (k:Int)) none none))=_;rw[YR,ZK _ (),Ul]
 have B:∀k:Nat,zd (.lst (rows.map .str)) (some (k:Int)) (some ((k+1:Nat):Int)) none=some (.lst (((rows.drop k).take 1).map .str)):=λk=>by
  show some (D.lst (JW _ (some (k:Int)) (some ((k+1:Nat):Int)) none))=_;rw[YR,RQ _ () (),Ul,Ul,show k+1-k=1 by lia]
 have l:∀{a b:Yh},a.length+b.length<=3000000->T6 (.lst (a.map .str)) (.lst (b.map .str))=some (.lst ((a++b).map .str)):=λ{a b} h=>by
  rw[Uc];exact Zd (ZV (by rw[Zql,Zql];lia))
 have m:∀k,(rows.take k).length<=rows.length:=λk=>by rw[Uk];lia
 have dl:∀k,(rows.drop k).length<=rows.length:=λk=>by rw[Uy];lia
 have C:T6 (.int (d:Int)) (.int 1)=some (.int ((d+1:Nat):Int)):=rfl;have H:T6 (.int (d:Int)) (.int 2)=some (.int ((d+2:Nat):Int)):=rfl;have x:=HB rows;have dd:∀k,jD (rows.drop (k+1))<=jD (rows.drop k)/\jD ((rows.drop k).take 1)+jD (rows.drop (k+1))=jD (rows.drop k):=λk=>by
  have:=HB (rows.drop k) 1;rw[U0] at this;lia
 by_cases E:i=3
 .refine⟨rows.take d++rows.drop (d+1),?_,λr n=>?_,?_,?_⟩
  .have g:=l (a:=rows.take d) (b:=rows.drop (d+1)) (by have:=m d;have:=dl (d+1);lia);have u:=up d;have f:=w (d+1);generalize rows.map D.str=ds at *;simp[XZ,XY,o,p,q,s,t,v,E,C] at g u f ⊢;simp[u,f,g]
  .rcases Jb.mp n with z|z
   .exact UD z
   .exact UR z
  .rw[Ua,Uk,Uy];lia
  .rw[Xz];have:=x d;have:=(dd d).1;lia
 .by_cases F:i=4
  .have hx:rows[d]? = some rows[d]:=Zqg a1;have gx:T7 (.lst (rows.map .str)) (.int (d:Int))=some (.str rows[d]):=RR hx;refine⟨rows.take e++[rows[d]]++rows.drop e,?_,λr n=>?_,?_,?_⟩
   .have g:=l (a:=rows.take e) (b:=[rows[d]]) (by have:=m e;simp;lia);have y:=l (a:=rows.take e++[rows[d]]) (b:=rows.drop e) (by have:=m e;have:=dl e;rw[Ua,Ue];lia);have u:=up e;have f:=w e;have g:T6 (.lst ((rows.take e).map .str)) (.lst [.str rows[d]])=some (.lst ((rows.take e++[rows[d]]).map .str)):=g;generalize rows.map D.str=ds at *;generalize (rows.take e).map D.str=d1 at *;generalize (rows.drop e).map D.str=G at *;generalize (rows.take e++[rows[d]]).map D.str=d3 at *;simp[XZ,XY,o,p,q,s,t,v,F,gx,u,f,g,y]
   .rcases Jb.mp n with z|z
    .rcases Jb.mp z with z|z
     .exact UD z
     .rw[Jc.mp z];exact UL a1
    .exact UR z
   .rw[Ua,Ua,Uk,Uy,Ue];lia
   .rw[Xz,Xz,RP];have:=x e;have:=RO (UL a1);lia
  .refine⟨rows.take d++((rows.drop (d+1)).take 1++(rows.drop d).take 1)++rows.drop (d+2),?_,λr n=>?_,?_,?_⟩
   .have j:∀k,((rows.drop k).take 1).length<=1:=λk=>by rw[Uk];lia
    have g:=l (a:=(rows.drop (d+1)).take 1) (b:=(rows.drop d).take 1) (by have:=j d;have:=j (d+1);lia);have y:=l (a:=rows.take d) (b:=(rows.drop (d+1)).take 1++(rows.drop d).take 1) (by have:=m d;have:=j d;have:=j (d+1);rw[Ua];lia);have I:=l (a:=rows.take d++((rows.drop (d+1)).take 1++(rows.drop d).take 1)) (b:=rows.drop (d+2)) (by have:=m d;have:=dl (d+2);have:=j d;have:=j (d+1);rw[Ua,Ua];lia);have u:=up d;have f:=w (d+2);have J:=B d;have A:=B (d+1);have A:zd (.lst (rows.map .str)) (some ((d+1:Nat):Int)) (some ((d+2:Nat):Int)) none=some (.lst (((rows.drop (d+1)).take 1).map .str)):=A;generalize rows.map D.str=ds at *;generalize ((rows.drop (d+1)).take 1).map D.str=e1 at *;generalize ((rows.drop d).take 1).map D.str=e2 at *;generalize ((rows.drop (d+1)).take 1++(rows.drop d).take 1).map D.str=e3 at *;generalize (rows.take d).map D.str=e4 at *;generalize (rows.drop (d+2)).map D.str=e5 at *;generalize (rows.take d++((rows.drop (d+1)).take 1++(rows.drop d).take 1)).map D.str=e6 at *;generalize ((d+1:Nat):Int)=z1 at *;generalize ((d+2:Nat):Int)=z2 at *;simp[XZ,XY,o,p,q,s,t,v,E,F,C,H,u,f,J,A,g,y,I]
   .rcases Jb.mp n with z|z
    .rcases Jb.mp z with z|z
     .exact UD z
     .rcases Jb.mp z with z|z
      .exact UR (UD z)
      .exact UR (UD z)
    .exact UR z
   .rw[Ua,Ua,Ua,Uk,Uk,Uk,Uy,Uy,Uy];lia
   .rw[Xz,Xz,Xz];have:=x d;have:=dd d;have G:=dd (d+1);rw[show d+1+1=d+2 from rfl] at G;lia
def RU:("\n" : Str)=⟨#[10]⟩:=Km (by decide +kernel)
def HC (x:Str):∀p∈Txt.split x "\n",10∉p.cps.toList:=by rw[RU];exact StrLaws.split_free x 10
theorem D6:∀{l:Yh},l ≠ []->(∀p∈l,10∉p.cps.toList)->(Txt.join "\n" l).cps.toList.count 10+1=l.length
 | [],h,_=>Zn rfl h
 | [x],_,h=>by rw[Kn,List.count_eq_zero.mpr (h x Zqs)];rfl
 |x::y::r,_,h=>by
  have a:=D6 (l:=y::r) () λp hp=>h p (Zqm _ hp);have e:("\n" : Str).cps.toList.count 10=1:=by decide +kernel
  rw[KW,JM,JM,UM,UM,List.count_eq_zero.mpr (h x Zqs),e,Zu];lia
def Y7 (x:Str):(Txt.split x "\n").length=x.cps.toList.count 10+1:=by
 have:=D6 (l:=Txt.split x "\n") (λz=>by have:=Ds x "\n";rw[z] at this;simp at this) (HC x);rw[join_split] at this;lia
theorem HD {s:Str}(a:asc s):∀{l:Yh},(∀p∈l,asc p)->asc (Txt.join s l)
 | [],_=>by rw[XM];unfold asc;decide +kernel
 | [x],h=>by rw[Kn];exact h x Zqs
 |x::y::r,h=>by rw[KW];exact AW (AW (h x Zqs) a) (HD a λp hp=>h p (Zqm _ hp))
def Ae {m n:Nat}{a b:Str}(c:TxtOk m a)(d:TxtOk n b)(h:m+n<=16000002):T6 (.str a) (.str b)=some (.str (a++b)):=Zd (ZV (by have:=c.len;have:=d.len;lia))
def RV {x:Str}{k:Nat}(h:k<=x.length):(Txt.slice x none (some (k:Int))).cps.toList=x.cps.toList.take k:=by
 have a:x.cps.toList.length=x.length:=Ud;have e:Txt.slice x none (some (k:Int))=StrLaws.sliceText x none (some (k:Int)):=rfl;rw[e,StrLaws.sliceText_to ⟨(),by rw[a];lia⟩];simp
def HE {x:Str}{k:Nat}:(Txt.slice x (some (k:Int)) none).cps.toList=x.cps.toList.drop k:=by
 have a:x.cps.toList.length=x.length:=Ud;by_cases c:k<=x.length
 .rw[PyProof.Rows.slice_from_eq (b:=(x.length:Int)) () () rfl];show((x.cps.toList.drop _).take _)=_;rw[Ul,UF (by rw[Uy,a];lia)]
 .rw[PyProof.Rows.slice_beyond (),U8 (by rw[a];lia)];rfl
def kI {a:Str}{n:Nat}(h:TxtOk n a)(Z:2*n+2<=16000000)(R:(Txt.split a "\n").length<=1000000)(b c:Int):∃t,WL [.str a,.int b,.int c]=.ok (.str t)/\TxtOk (2*n+2) t/\(Txt.split t "\n").length<=(Txt.split a "\n").length+1:=by
 have hl:=h.len;have g:=Dk h ();have j:j7 (.int c) (.int 48271)=some (.int (c*48271)):=W0 (Cn () ());have m:TY (.int (c*48271)) (.int 2147483647)=some (.int (c*48271 % 2147483647)):=V0 ();have o:T6 (.int (a.length:Int)) (.int 1)=some (.int ((a.length:Int)+1)):=rfl;obtain⟨k,hk,k1⟩:∃k:Nat,c*48271 % 2147483647 % ((a.length:Int)+1)=(k:Int)/\k<a.length+1:=⟨(c*48271 % 2147483647 % ((a.length:Int)+1)).toNat,by have:=Uw (c*48271 % 2147483647) (show(a.length:Int)+1≠0 by lia);lia,by have:=UC (c*48271 % 2147483647) (show(0:Int)<(a.length:Int)+1 by lia);have:=Uw (c*48271 % 2147483647) (show(a.length:Int)+1≠0 by lia);lia⟩;have q:TY (.int (c*48271 % 2147483647)) (.int ((a.length:Int)+1))=some (.int (k:Int)):=by rw[V0 (),hk]
 have v:j7 (.int b) (.int 48271)=some (.int (b*48271)):=W0 (Cn () ());have w:T6 (.int (b*48271)) (.int c)=some (.int (b*48271+c)):=rfl;have y:TY (.int (b*48271+c)) (.int 2147483647)=some (.int ((b*48271+c) % 2147483647)):=V0 ();obtain⟨s,fs,ks⟩:=kK ((b*48271+c) % 2147483647 / 6);have A:K6 (.int ((b*48271+c) % 2147483647)) (.int 6)=some (.int ((b*48271+c) % 2147483647 / 6)):=ET () ();have K:T6 (.int (k:Int)) (.int 1)=some (.int ((k+1:Nat):Int)):=rfl;have E:=Y2 h () none (some (k:Int));have S:=Y2 h () (some (k:Int)) none;have L:=Y2 h () (some ((k+1:Nat):Int)) none;have B:=RV (x:=a) (k:=k) ();have M:=HE (x:=a) (k:=k);have F:=HE (x:=a) (k:=k+1);have d:TxtOk k (Txt.slice a none (some (k:Int))):=⟨by show(Txt.slice a none (some (k:Int))).cps.size<=k;rw[<- Ud,B,Uk];lia,CD h.asc⟩;have N:TxtOk (n-k) (Txt.slice a (some (k:Int)) none):=⟨by show(Txt.slice a (some (k:Int)) none).cps.size<=_;rw[<- Ud,M,Uy,Ud];show a.length-k<=n-k;lia,CD h.asc⟩;have C:TxtOk (n-k) (Txt.slice a (some ((k+1:Nat):Int)) none):=⟨by show(Txt.slice a (some ((k+1:Nat):Int)) none).cps.size<=_;rw[<- Ud,F,Uy,Ud];show a.length-(k+1)<=n-k;lia,CD h.asc⟩
 have ct:a.cps.toList.count 10=(a.cps.toList.take k).count 10+(a.cps.toList.drop k).count 10:=by rw[<- UM,UX]
 have cd:(a.cps.toList.drop (k+1)).count 10<=(a.cps.toList.drop k).count 10:=by
  rw[<- U0 (i:=1)];exact List.Sublist.count_le _ (List.drop_sublist _ _)
 have cs:s.cps.toList.count 10<=1:=Zh List.count_le_length (by rw[Ud];exact ks.len);have go:TY (.int b) (.int 6)=some (.int (b % 6)):=V0 ();have G:=Y7 a;by_cases O:b % 6=0
 .refine⟨Txt.slice a none (some (k:Int))++s++Txt.slice a (some (k:Int)) none,?_,((d.app ks).app N).mono (),?_⟩
  .have e:=Ae d ks ();have H:=Ae (d.app ks) N ();generalize Txt.slice a none (some (k:Int))=u at *;generalize Txt.slice a (some (k:Int)) none=f at *;simp[WL,Xv,g,j,m,o,q,v,w,y,A,fs,go,O,E,S,e,H]
  .rw[Y7,G,JM,JM,UM,UM,B,M];lia
 .by_cases P:b % 6=1
  .refine⟨Txt.slice a none (some (k:Int))++Txt.slice a (some ((k+1:Nat):Int)) none,?_,(d.app C).mono (),?_⟩
   .have e:=Ae d C ();generalize Txt.slice a none (some (k:Int))=u at *;generalize Txt.slice a (some ((k+1:Nat):Int)) none=f at *;generalize ((k+1:Nat):Int)=z at *;simp[WL,Xv,g,j,m,o,q,v,w,y,A,fs,go,P,K,E,L,e]
   .rw[Y7,G,JM,UM,B,F];lia
  .by_cases Q:b % 6=2
   .refine⟨Txt.slice a none (some (k:Int))++s++Txt.slice a (some ((k+1:Nat):Int)) none,?_,((d.app ks).app C).mono (),?_⟩
    .have e:=Ae d ks ();have H:=Ae (d.app ks) C ();generalize Txt.slice a none (some (k:Int))=u at *;generalize Txt.slice a (some ((k+1:Nat):Int)) none=f at *;generalize ((k+1:Nat):Int)=z at *;simp[WL,Xv,g,j,m,o,q,v,w,y,A,fs,go,Q,K,E,L,e,H]
    .rw[Y7,G,JM,JM,UM,UM,B,F];lia
   .have gs:=Vy (s:= "\n") h () (by decide +kernel);have T:=Ds a "\n";obtain⟨rs,U,sub,lr,ls⟩:=kJ T R (b % 6) c;have I:("\n" : Str).length=1:=by decide +kernel
    have J:=Y4 "\n" (Txt.split a "\n");rw[join_split,I] at J;have J:jD (Txt.split a "\n")+(Txt.split a "\n").length*1<=a.length+1:=J;have X:jD rs+rs.length*1<=2*n+2:=()
    have Y:=ZN (sep:= "\n") (xs:=rs) (Dm (by rw[I];show jD rs+rs.length*1<=_;lia));refine⟨Txt.join "\n" rs,?_,⟨?_,HD (by unfold asc;decide +kernel) λp hp=>(Y3 h (sub p hp)).asc⟩,?_⟩
    .generalize (Txt.split a "\n").map D.str=ds at *;generalize rs.map D.str=es at *;simp[WL,Xv,g,j,m,o,q,v,w,y,A,fs,go,O,P,Q,TW,gs,U,Y]
    .have:=StrLaws.join_length_le "\n" rs;rw[<- StrLaws.glued_eq_join] at this;have this:(Txt.join "\n" rs).length<=jD rs+rs.length*("\n" : Str).length:=this;rw[I] at this;lia
    .cases rs with
     |nil =>
      rw[XM,Y7];show 0+1<=_;lia
     |cons r rs =>
      have cj:=D6 (l:=r::rs) () λp hp=>HC a p (sub p hp);rw[Y7];lia
def zo (a:Yf)(h:a.length<=63):wg [.scr a]=.ok (.bl true):=by
 obtain⟨g,hms⟩:∃g,g=JW a none (some 2) none++JW a (some 9) (some 69) none:=⟨_,rfl⟩;have C:T6 (.lst ((JW a none (some 2) none).map .int)) (.lst ((JW a (some 9) (some 69) none).map .int))=some (.lst (g.map .int)):=by
  rw[hms,Uc];refine Zd (small ?_);rw[Zql,Zql];have:=Cq a none (some 2) none;have:=Cq a (some 9) (some 69) none;lia
 obtain⟨t,l⟩:=RN g;obtain⟨L,q,E⟩:=RL g;have F:=kM g;have G:=kL (ps:=QZ g) ();have v:=Hn (λp hp=>(t p hp).1) l;obtain⟨b1,b2⟩:=Gp (λp hp=>(t p hp).1) l;have H:=HA λp hp=>(t p hp).2;have r:TxtOk 1400000 (KN (QZ g)):=by
  have I:TxtOk 1 ("\n" : Str):=Qj (by decide +kernel);exact(XN I (ZO λp hp=>(t p hp).1).1 (k:=660) ()).mono ()
 have w:=RM L q E r ();have A:(Txt.split (KN (QZ g)) "\n").length<=660:=by
  have P:=L.plr;obtain⟨x,xs,ex⟩:∃x xs,Q3 (QZ g)=x::xs:=by
   cases hp:QZ g with
   |nil=>rw[hp] at q;simp at q
   |cons p ps=>exact⟨_,_,rfl⟩
  have sp:Txt.split (KN (QZ g)) "\n" = Q3 (QZ g):=by
   unfold KN;rw[ex];exact Ws (c:=10) (t:=[]) rfl (by decide +kernel) λy J=>Hw P y (by rw[ex];exact J)
  rw[sp];lia
 obtain⟨k,hk,k4⟩:∃k:Nat,Qu a 2 % 4=(k:Int)/\k<4:=⟨(Qu a 2 % 4).toNat,(),()⟩;have K:Q9 [.scr a,.int 2]=.ok (.int (Qu a 2)):=Da a 2;have M:TY (.int (Qu a 2)) (.int 4)=some (.int (k:Int)):=by rw[V0 (),hk]
 have N:XC [.int (k:Int)]=.ok (QD 0 k):=by rw[A8 () (),Ul]
 obtain⟨m,htx⟩:∃m,m=KN (QZ g):=⟨_,rfl⟩;rw[<- htx] at r w A v;obtain⟨O,Q,x,u3,n,j,nx,x0⟩:=Kl (tg:=.one 3) (b:=TK 1 (J0 WL (Jt (Tn 1) (Jt (J0 Q9 (Jt (Tn 0) (Jt (Ts T6 (dC (.int 3)) (Ts j7 (dC (.int 2)) (Tn 3))) Tp))) (Jt (J0 Q9 (Jt (Tn 0) (Jt (Ts T6 (dC (.int 4)) (Ts j7 (dC (.int 2)) (Tn 3))) Tp))) Tp))))) (ds:=QD 0 k)
  (sd:=[~~~(.scr a),~~~(.str m),~~~(.int (k:Int)),none,none,none])
  (P:=λi sd=>∃(x:Str) (u3:Option SV),sd=[~~~(.scr a),~~~(.str x),~~~(.int (k:Int)),u3,none,none]/\TxtOk (2 ^ i*1400000+2*(2 ^ i-1)) x/\(Txt.split x "\n").length<=660+i/\(i=0->x=m)) ⟨m,none,rfl,r.mono (by show 1400000<=2 ^ 0*1400000+2*(2 ^ 0-1);lia),A,λ_=>rfl⟩ (by
   rintro i d sd o ⟨x,u3,rfl,j,nx,_⟩;have R:i<k:=by
    have:=(Jd.mp o).1
    rwa [A9] at this
   have S:d=.int (i:Int):=by
    unfold QD at o;rw[Zv,U7 R] at o;have:=(Zqi o).symm;rw[this];simp
   subst S;have B:i=0\/i=1\/i=2:=()
   have T:Q9 [.scr a,.int (3+2*(i:Int))]=.ok (.int (Qu a (3+2*(i:Int)))):=by
    have:=Da a (3+2*i);rw[show((3+2*i:Nat):Int)=3+2*(i:Int) by lia] at this;exact this
   have U:Q9 [.scr a,.int (4+2*(i:Int))]=.ok (.int (Qu a (4+2*(i:Int)))):=by
    have:=Da a (4+2*i);rw[show((4+2*i:Nat):Int)=4+2*(i:Int) by lia] at this;exact this
   have X:j7 (.int 2) (.int (i:Int))=some (.int (2*(i:Int))):=W0 (YQ () ());have s:2*(2 ^ i*1400000+2*(2 ^ i-1))+2<=16000000:=by rcases B with rfl|rfl|rfl<;>decide
   obtain⟨y,Y,Z,ny⟩:=kI j s () (Qu a (3+2*(i:Int))) (Qu a (4+2*(i:Int)));refine⟨[~~~(.scr a),~~~(.str y),~~~(.int (k:Int)),~~~(.int (i:Int)),none,none],?_,y,_,rfl,Z.mono ?_,(),λz=>()⟩
   .generalize Qu a (3+2*(i:Int))=v1 at *;generalize Qu a (4+2*(i:Int))=v2 at *;simp[T,U,X,Y]
   .rcases B with rfl|rfl|rfl<;>decide)
 rw[A9] at j nx x0;subst n;have s:2 ^ k*1400000+2*(2 ^ k-1)<=16000000:=by
  have:k=0\/k=1\/k=2\/k=3:=()
  rcases this with rfl|rfl|rfl|rfl<;>decide
 have u:∀z:Res D,((T1 (TK 4 (dC .non)) (T1 (ZJ ["BadName", "BadPart", "BadPlan", "BadRow", "NoName", "TooLong"] (TK 4 (YT Vw (Jt (Tn 1) Tp))) (TK 4 (dC .non))) (T1 (jq (Jx (jb (jJ false) (Tn 4))) (TN (Ts yK (Tn 2) (dC (.int 0)))) JA) (T1 (TK 5 (J0 Y6 (Jt (Tn 4) Tp))) (TN (WZ (T3 xK (Jt (Tn 5) (Jt (dC (.ty "str")) Tp))) (Ts qi (Tn 5) (Tn 1)))))))) [~~~(.scr a),~~~(.str x),~~~(.int (k:Int)),u3,none,none]).bind jT=z->wg [.scr a]=z:=λz hz=>by
  rw[<- hz];generalize QZ g=ps at *;simp[wg,B4,C,F,G,v,K,M,N,Q]
 refine u _ ?_;rcases R5 j s () with ⟨ps,e,et,P,lp⟩|⟨c,hc,e⟩
 .have f:=Hn P ();rw[et] at f;have ge:qi (.str x) (.str x)=some (.bl true):=by rw[Dh j.asc j.asc,Zp rfl]
  have gn:jJ false (JB ps)=some (.bl false):=rfl;generalize JB ps=b at *;simp[e,f,ge,gn]
 .have k0:k≠0:=λz=>by
   rw[x0 z,w] at e;cases e
  have kp:(0:Int)<(k:Int):=()
  have te:=FM (cs:=["BadName", "BadPart", "BadPlan", "BadRow", "NoName", "TooLong"]) (c:=c) (TK 4 (dC .non)) [~~~(.scr a),~~~(.str x),~~~(.int (k:Int)),u3,~~~(.non),none] hc;simp[e,te,kp,show jJ false D.non=some (.bl true) from rfl];lia
end My
set_option maxHeartbeats 4000000
namespace My
open PySem L2 L2.DL
def y7 (i:Nat):Stmt:=PySem.Challenge.pw_allfirst_k58_whole_read_is_written.main.body.getD i (.Pass ⟨0,0,0,0⟩)
abbrev tbl:List (Str×Nat):=List.zip (List.map Str.ofString ["_law_book_by", "_law_cell_at", "_law_number_by", "_law_item", "_law_row_by", "_law_grow", "_law_name_by", "_law_names_by", "_law_plans_by", "_law_rows_turned", "_law_sign_by", "_law_turned", "is_name", "name_behind", "are_figures", "item_of", "with_items", "made_thing", "takes_thing", "takes_row", "drafts_of", "are_names", "look_at_names", "is_part", "look_at_parts", "look_at_items", "look_at_plans", "weights", "look_at_weights", "looked", "numbered", "numbers_of", "plan_of", "read", "item_text", "made_row", "plan_rows", "shown"]) [53,45,48,49,50,51,46,47,52,55,54,56,15,31,35,34,33,32,30,29,28,18,17,24,21,20,19,23,22,16,38,37,36,27,43,42,41,40]
abbrev bl:Yh:=List.map Str.ofString ["abs", "all", "enumerate", "int", "isinstance", "len", "list", "min", "range", "set", "str", "sum", "tuple"]
structure All (e:Ev):Prop extends Al e y7 tbl bl where
 x_AllError:Exc e.K e.mg "AllError" (e.C 0)
 x_BadName:Exc e.K e.mg "BadName" (e.C 1)
 x_BadPart:Exc e.K e.mg "BadPart" (e.C 2)
 x_BadPlan:Exc e.K e.mg "BadPlan" (e.C 3)
 x_BadRow:ExcI e.K e.mg "BadRow" (e.C 4) (e.C 5) "row"
 f_BadRow:∃fd,Fun e.K "__init__" "BadRow.__init__" (VD (y7 6) 0) (e.C 5) fd
 x_NoName:ExcI e.K e.mg "NoName" (e.C 6) (e.C 7) "row"
 f_NoName:∃fd,Fun e.K "__init__" "NoName.__init__" (VD (y7 7) 0) (e.C 7) fd
 x_TooLong:Exc e.K e.mg "TooLong" (e.C 8)
 u_BadName_AllError:W.subIn e.K (.ref (e.C 1)) (.ref (e.C 0))=some true
 u_BadPart_AllError:W.subIn e.K (.ref (e.C 2)) (.ref (e.C 0))=some true
 u_BadPlan_AllError:W.subIn e.K (.ref (e.C 3)) (.ref (e.C 0))=some true
 u_BadRow_AllError:W.subIn e.K (.ref (e.C 4)) (.ref (e.C 0))=some true
 u_NoName_AllError:W.subIn e.K (.ref (e.C 6)) (.ref (e.C 0))=some true
 u_TooLong_AllError:W.subIn e.K (.ref (e.C 8)) (.ref (e.C 0))=some true
 w_FIGURES:e.mg "FIGURES" = some (.str "0123456789" (e.t 0))
 y_KEPT_WORDS:KTup e.K e.mg "KEPT_WORDS" ["plan", "given", "all", "first", "part"]
 w_LETTERS:e.mg "LETTERS" = some (.str "abcdefghijklmnopqrstuvwxyz" (e.t 1))
 k_Book:ClsD e.K e.mg "Book" (e.C 9) ["plans"]
 l_Book:∃f fd,Mk e.K (e.C 9) f/\Fun e.K "__init__" "Book.__init__" (VD (y7 10) 0) f fd
 k_Draft:ClsD e.K e.mg "Draft" (e.C 10) ["name", "givens", "rows"]
 l_Draft:∃f fd,Mk e.K (e.C 10) f/\Fun e.K "__init__" "Draft.__init__" (VD (y7 26) 0) f fd
 k_Plan:ClsD e.K e.mg "Plan" (e.C 11) ["name", "givens", "rows"]
 l_Plan:∃f fd,Mk e.K (e.C 11) f/\Fun e.K "__init__" "Plan.__init__" (VD (y7 9) 0) f fd
section
variable {e:Ev}{k j:Nat}
def HF (a:All e):bu e.P e.w e.K e.mg e.base "Book" ["plans"] 1 ["self", "plans"] XP:=by
 obtain⟨f,d,c,b⟩:=a.l_Book;have m:=a.m;have k:=a.k_Book;exact⟨_,_,_,k,c,kC (k:=0) (N:=["plans"]) (g:=(Jt (T3 Kk (Jt (Tn 1) Tp)) Tp)) b (JK (N:=["self", "plans"])) (by decide) (by decide) λ_ _ _ _ _ _ h=>(AH k (by decide) (pv 0) (T9 (YI (x:= "list") YN rfl (J8 m) YF (Ju (qv 1) Jw))) Ff),b.binds λ_ _ _ _ _ _=>wY λ_ _=>rfl⟩
def RW (a:All e):nI e.P e.w e.K e.mg e.base "Draft" ["name", "givens", "rows"] 1 ["self", "name"] Bc:=by
 obtain⟨f,d,c,b⟩:=a.l_Draft;have m:=a.m;have k:=a.k_Draft;exact⟨_,_,_,k,c,zp (k:=0) (N:=["self", "name"]) (g:=ZQ) b (JK (N:=["self", "name"])) λ_ _ _ _ _ _ h=>by
  unfold ZQ;exact(Qi (C8 k (by decide) (J9 (qv 0)) (J9 (qv 1))) (Qi (C8 k (by decide) (J9 (qv 0)) (V3 Kf)) (Qi (C8 k (by decide) (J9 (qv 0)) (V3 Kf)) W5))),b.binds λ_ _ _ _ _ _=>wY λ_ _=>rfl⟩
def HG (a:All e):bu e.P e.w e.K e.mg e.base "Plan" ["name", "givens", "rows"] 1 ["self", "name", "givens", "rows"] XQ:=by
 obtain⟨f,d,c,b⟩:=a.l_Plan;have m:=a.m;have k:=a.k_Plan;exact⟨_,_,_,k,c,kC (k:=0) (N:=["name", "givens", "rows"]) (g:=(Jt (Tn 1) (Jt (T3 Kk (Jt (Tn 2) Tp)) (Jt (T3 Kk (Jt (Tn 3) Tp)) Tp)))) b (JK (N:=["self", "name", "givens", "rows"])) (by decide) (by decide) λ_ _ _ _ _ _ h=>(AH k (by decide) (pv 0) (qv 1) (AH k (by decide) (pv 0) (T9 (YI (x:= "list") YN rfl (J8 m) YF (Ju (qv 2) Jw))) (AH k (by decide) (pv 0) (T9 (YI (x:= "list") YN rfl (J8 m) YF (Ju (qv 3) Jw))) Ff))),b.binds λ_ _ _ _ _ _=>b5 λ_ _ _ _=>rfl⟩
def RX (a:All e):XI e.P e.w e.K e.mg e.base "BadRow" := by
 obtain⟨b,h⟩:=a.f_BadRow;exact⟨_,_,_,b,["self", "row"],a.x_BadRow,FI h (JK (N:=["self", "row"])) λ_ _ _ _ _ _=>Ag (FH a.x_BadRow (pv 0) (pv 1) rfl),h.binds λ_ _ _ _ _ _=>wY λ_ _=>rfl⟩
def RY (a:All e):XI e.P e.w e.K e.mg e.base "NoName" := by
 obtain⟨b,h⟩:=a.f_NoName;exact⟨_,_,_,b,["self", "row"],a.x_NoName,FI h (JK (N:=["self", "row"])) λ_ _ _ _ _ _=>Ag (FH a.x_NoName (pv 0) (pv 1) rfl),h.binds λ_ _ _ _ _ _=>wY λ_ _=>rfl⟩
def RZ (a:All e):Ca e "_law_book_by" 3 ["plans"] (zC e.K Be):=
 qF a.toAl 0 53 λF=>zq (N:=["plans"]) (g:=Bd) F JK λ_ _ _ _ _ _ d=>by
 have m:=a.m;have b:=HF a;have c:=HG a;unfold Bd;exact(J1 (BT (Fg b (d.mono ()) rfl (Ju (T9 (KF ["plan"] [none] rfl rfl (Qz (qv 0)) (λ_ _ _ _ _=>(QR (qT 0 TJ))) (λ_ _ _ _ _=>(T9 (Fg c (d.mono ()) rfl (Ju (J6 (J5 d) (qv 0) Jv (λ_ _=>rfl) (λ_ _=>rfl)) (Ju (T9 (YI (x:= "list") YN rfl (J8 m) YF (Ju (J6 (J5 d) (qv 0) Jv (λ_ _=>rfl) (λ_ _=>rfl)) Jw))) (Ju (T9 (YI (x:= "list") YN rfl (J8 m) YF (Ju (J6 (J5 d) (qv 0) Jv (λ_ _=>rfl) (λ_ _=>rfl)) Jw))) Jw)))))))) Jw))))
def D7 (a:All e):Ca e "_law_cell_at" 1 ["script", "k"] (qU e.K Q9):=
 qF a.toAl 1 45 λF=>jU (N:=["script", "k"]) (g:=Xt) F JK λ_ _ _ _ _ _ b=>by
 have m:=a.m;unfold Xt;exact(J2 (Qp (Qf zM (qv 1) (JJ (x:= "len") JZ rfl (J8 m) JU (Ju (qv 0) Jw)) (Qb _)) (J1 (JR (J6 (J5 b) (qv 0) (qv 1) (λ_ _=>rfl) (λ_ _=>rfl)))) Qo) (J1 (JR Jv)))
def Sa (a:All e):Ca e "_law_number_by" 1 ["cell"] (qU e.K XS):=
 qF a.toAl 2 48 λF=>jU (N:=["cell", "size"]) (g:=XR) F JK λ_ _ _ _ _ _ b=>by
 unfold XR;exact(J2 (JS TJ rfl (.inl rfl) (T4 Qx (T4 Xc (qv 0) Jv) (T4 Cb Jv Jv))) (J2 (Qp (Qf (qb b.units) (T4 Qx (qv 0) Jv) Jv (Qb _)) (J1 (JR Jv)) Qo) (J2 (Qp (Qf (qb b.units) (T4 Qx (qv 0) Jv) Jv (Qb _)) (J1 (JR (qv 1))) Qo) (J1 (JR (T4 BZ Jv (qv 1)))))))
def HH (a:All e):Ca e "_law_item" 2 ["cell", "ahead"] (qU e.K WI):=
 qF a.toAl 3 49 λF=>jU (N:=["cell", "ahead"]) (g:=Bf) F JK λ_ _ _ _ _ _ c=>by
 have b:=(Sa a).mono (k:=1) ();unfold Bf;exact(J1 (JR (Kd (Ju (T4 Qx (qv 0) (qv 1)) (Ju (jj b c rfl (Ju (T4 Xc (qv 0) (qv 1)) Jw)) Jw)))))
def HI (a:All e):Ca e "_law_row_by" 3 ["plans", "loads", "names", "what", "cell"] (zw e.K XT):=
 qF a.toAl 4 50 λF=>zp (N:=["plans", "loads", "names", "what", "cell", "plan", "ahead", "name", "part", "many"]) (g:=WJ) F JK λ_ _ _ _ _ _ b=>by
 have m:=a.m;have c:=(HH a).mono (k:=2) ();unfold WJ
 exact(Qi (VU TJ rfl (.inl rfl) (W4 (J9 (qv 0)) (J9 (qS KG Jv)) (λ_ _=>rfl))) (Qi (VU TJ rfl (.inr rfl) (KL 5 [5] (T4 JG (JJ (x:= "len") JZ rfl (J8 m) JU (Ju (J6 (J5 b) (qv 5) Jv (λ_ _=>rfl) (λ_ _=>rfl)) Jw)) (JJ (x:= "len") JZ rfl (J8 m) JU (Ju (J6 (J5 b) (qv 5) Jv (λ_ _=>rfl) (λ_ _=>rfl)) Jw))))) (Qi (VU TJ rfl (.inl rfl) (KL 5 [0] (J6 (J5 b) (qv 2) (T4 Qx (T4 JG (JJ (x:= "len") JZ rfl (J8 m) JU (Ju (qv 0) Jw)) (qv 6)) (JJ (x:= "len") JZ rfl (J8 m) JU (Ju (qv 2) Jw))) (λ_ _=>rfl) (λ_ _=>rfl)))) (Qi (C6 (J9 (qv 1)) (J9 (qS KG Jv)) (KL 5 [1] (T4 JG (J6 (J5 b) (qv 1) (qS KG Jv) (λ_ _=>rfl) (λ_ _=>rfl)) Jv))) (Qi (VV (Xl 5 [0] (jZ (KE (Qf (qb b.units) (T4 Qx (qv 3) Jv) Jv (Qb _)) (VG (Qf yE (JJ (x:= "len") JZ rfl (J8 m) JU (Ju (qv 0) Jw)) Jv (Qb _)))))) (Qi (VU TJ rfl (.inl rfl) (KL 5 [0] (T4 Qx (T4 Xc (qv 3) Jv) (T4 BZ (JJ (x:= "len") JZ rfl (J8 m) JU (Ju (qv 0) Jw)) Jv)))) (Q8 (VV (Xl 5 [1] (Qf qE (T4 JG (J6 (J5 b) (qv 1) (qS KG Jv) (λ_ _=>rfl) (λ_ _=>rfl)) (J6 (J5 b) (qv 1) (qv 8) (λ_ _=>rfl) (λ_ _=>rfl))) Jv (Qb _))) (Qi (C6 (J9 (qv 1)) (J9 (qS KG Jv)) (KL 5 [1] (T4 JG (J6 (J5 b) (qv 1) (qS KG Jv) (λ_ _=>rfl) (λ_ _=>rfl)) (J6 (J5 b) (qv 1) (qv 8) (λ_ _=>rfl) (λ_ _=>rfl))))) (Qi (VU TJ rfl (.inl rfl) (KL 5 [0] (JJ (x:= "len") JZ rfl (J8 m) JU (Ju (J6 (J5 b) (J6 (J5 b) (qv 0) (qv 8) (λ_ _=>rfl) (λ_ _=>rfl)) Jv (λ_ _=>rfl) (λ_ _=>rfl)) Jw)))) (Q8 (Wk (KL 5 [0] (Kd (Ju (qv 7) (Ju (J6 (J5 b) (J6 (J5 b) (qv 0) (qv 8) (λ_ _=>rfl) (λ_ _=>rfl)) Jv (λ_ _=>rfl) (λ_ _=>rfl)) (Ju (BS (x:= "tuple") EJ rfl (J8 m) E2 (Ju (T9 (KF ["j", "cell", "ahead"] [none,some 4,some 6] rfl rfl (A7 rfl (J8 m) (Ju (qv 9) Jw)) (λ_ _ _ _ _=>(QR (qT 0 TJ))) (λ_ _ _ _ _=>(jj c b rfl (Ju (T4 JG (qv 1) (T4 Wg (T4 Wg Jv (qv 0)) (qv 0))) (Ju (qv 2) Jw)))))) Jw)) Jw))))))))) W5))) W5) (Q8 (Wk (J9 (Kd (Ju (qv 7) (Ju (J6 (J5 b) (T9 (K5 (Ju JQ (Ju JQ Jw)))) (T4 Qx (qv 3) Jv) (λ_ _=>rfl) (λ_ _=>rfl)) (Ju (Kd (Ju (jj c b rfl (Ju (qv 4) (Ju (qv 6) Jw))) Jw)) Jw))))))))))))
def Sb (a:All e):Ca e "_law_grow" 4 ["plans", "loads", "names", "what", "cell"] (zw e.K ZR):=
 qF a.toAl 5 51 λF=>zp (N:=["plans", "loads", "names", "what", "cell", "plan", "kind", "row"]) (g:=XU) F JK λ_ _ _ _ _ _ b=>by
 have m:=a.m;have c:=(HH a).mono (k:=3) ();have d:=(HI a).mono (k:=3) ();unfold XU
 exact(Qi (VU TJ rfl (.inl rfl) (W4 (J9 (qv 0)) (J9 (qS KG Jv)) (λ_ _=>rfl))) (Qi (XF (m:=some false) (JS TJ rfl (.inl rfl) (T4 Qx (qv 3) Jv))) (Q8 (VV (Xl 5 [5] (jZ (KE (Qf (qb b.units) (qv 6) Jv (Qb _)) (VG (Qf (zm b.units) (J6 (J5 b) (qv 5) Jv (λ_ _=>rfl) (λ_ _=>rfl)) (T9 (K5 Jw)) (Qb _)))))) (Qi (W6 (J9 (qv 0)) (V3 (Qd (KL 5 [0] (J6 (J5 b) (qv 2) (JJ (x:= "len") JZ rfl (J8 m) JU (Ju (qv 0) Jw)) (λ_ _=>rfl) (λ_ _=>rfl))) (Qd (V3 (Qd (KL 5 [0] (J6 (J5 b) (qv 2) (T4 JG (JJ (x:= "len") JZ rfl (J8 m) JU (Ju (qv 0) Jw)) Jv) (λ_ _=>rfl) (λ_ _=>rfl))) Kf)) (Qd (V3 Kf) Kf)))) (λf h=>Q4 Yn Yo Yp VC f h)) (Q8 (W6 (J9 (qv 1)) (J9 Jv) (λf h=>Q4 Yn Yo Yp VC f h)))) (Q8 (VV (Xl 5 [5] (jZ (KE (Qf (qb b.units) (qv 6) Jv (Qb _)) (KE (Qf (qb b.units) (J6 (J5 b) (qv 5) Jv (λ_ _=>rfl) (λ_ _=>rfl)) (T9 (K5 Jw)) (Qb _)) (VG (Qf zM (JJ (x:= "len") JZ rfl (J8 m) JU (Ju (J6 (J5 b) (qv 5) Jv (λ_ _=>rfl) (λ_ _=>rfl)) Jw)) Jv (Qb _))))))) (Q8 (W6 (W4 (J9 (qv 5)) (J9 Jv) (λ_ _=>rfl)) (KL 5 [0,5] (J6 (J5 b) (qv 2) (T4 Qx (T4 JG (JJ (x:= "len") JZ rfl (J8 m) JU (Ju (qv 0) Jw)) (JJ (x:= "len") JZ rfl (J8 m) JU (Ju (J6 (J5 b) (qv 5) Jv (λ_ _=>rfl) (λ_ _=>rfl)) Jw))) (JJ (x:= "len") JZ rfl (J8 m) JU (Ju (qv 2) Jw))) (λ_ _=>rfl) (λ_ _=>rfl))) (λf h=>Q4 Yn Yo Yp VC f h))) (Q8 (VV (Xl 5 [5] (jZ (KE (Qf yE (qv 6) Jv (Qb _)) (KE (Qf (zm b.units) (J6 (J5 b) (qv 5) Jv (λ_ _=>rfl) (λ_ _=>rfl)) (T9 (K5 Jw)) (Qb _)) (VG (A1 b.units (J6 (J5 b) (J6 (J5 b) (J6 (J5 b) (qv 5) Jv (λ_ _=>rfl) (λ_ _=>rfl)) (qS KG Jv) (λ_ _=>rfl) (λ_ _=>rfl)) Jv (λ_ _=>rfl) (λ_ _=>rfl)) (Kd (Ju JQ (Ju JQ Jw))))))))) (Qi (VU TJ rfl (.inl rfl) (KL 5 [5] (J6 (J5 b) (J6 (J5 b) (qv 5) Jv (λ_ _=>rfl) (λ_ _=>rfl)) (qS KG Jv) (λ_ _=>rfl) (λ_ _=>rfl)))) (Q8 (C6 (W4 (J9 (qv 5)) (J9 Jv) (λ_ _=>rfl)) (J9 (qS KG Jv)) (KL 5 [5] (Kd (Ju (J6 (J5 b) (qv 7) Jv (λ_ _=>rfl) (λ_ _=>rfl)) (Ju (J6 (J5 b) (qv 7) Jv (λ_ _=>rfl) (λ_ _=>rfl)) (Ju (T4 Nb (J6 (J5 b) (qv 7) Jv (λ_ _=>rfl) (λ_ _=>rfl)) (Kd (Ju (jj c b rfl (Ju (qv 4) (Ju (T4 BZ (T4 JG (JJ (x:= "len") JZ rfl (J8 m) JU (Ju (J6 (J5 b) (qv 5) Jv (λ_ _=>rfl) (λ_ _=>rfl)) Jw)) (JJ (x:= "len") JZ rfl (J8 m) JU (Ju (J6 (J5 b) (qv 5) Jv (λ_ _=>rfl) (λ_ _=>rfl)) Jw))) Jv) Jw))) Jw))) Jw)))))))) (Q8 (W6 (W4 (J9 (qv 5)) (J9 Jv) (λ_ _=>rfl)) (AK d b rfl (Qd (J9 (qv 0)) (Qd (J9 (qv 1)) (Qd (J9 (qv 2)) (Qd (J9 (T4 Xc (qv 3) Jv)) (Qd (J9 (qv 4)) Kf)))))) (λf h=>Q4 Yn Yo Yp VC f h)))))))))))
def Sc (a:All e):Ca e "_law_name_by" 1 ["number", "used"] (qU e.K XV):=
 qF a.toAl 6 46 λF=>jU (N:=["number", "used", "letters", "words", "more", "name", "rest"]) (g:=Bj) F JK λ_ _ _ _ _ _ b=>by
 have m:=a.m;unfold Bj;exact(J2 (JS TJ rfl (.inl rfl) JQ) (J2 (JS TJ rfl (.inl rfl) (T9 (K5 (Ju JQ (Ju JQ (Ju JQ (Ju JQ (Ju JQ Jw)))))))) (J2 (Kj PassesOwn.never rfl (A7 rfl (J8 m) (Ju (T4 JG (JJ (x:= "len") JZ rfl (J8 m) JU (Ju (qv 1) Jw)) Jv) Jw)) (QR (Qn TJ rfl (.inl rfl))) (J2 (JS TJ rfl (.inl rfl) (J6 (J5 b) (qv 2) (T4 Qx (T4 JG (qv 0) (qv 4)) Jv) (λ_ _=>rfl) (λ_ _=>rfl))) (J2 (JS TJ rfl (.inl rfl) (T4 Xc (T4 JG (qv 0) (qv 4)) Jv)) (J2 (Oj 60 PassesOwn.never (Qf yE (qv 6) Jv (Qb _)) (J2 (JS TJ rfl (.inl rfl) (T4 JG (qv 5) (J6 (J5 b) (qv 2) (T4 Qx (qv 6) Jv) (λ_ _=>rfl) (λ_ _=>rfl)))) (J1 (JS TJ rfl (.inl rfl) (T4 Xc (qv 6) Jv))))) (J1 (Qp (jZ (KE (Ch b.units (qv 5) (qv 1)) (VG (Ch b.units (qv 5) (qv 3))))) (J1 (JR (qv 5))) Qo)))))) (J1 (JR JQ)))))
def Sd (a:All e):Ca e "_law_names_by" 2 ["script", "many"] (zC e.K Xu):=
 qF a.toAl 7 47 λF=>zq (N:=["script", "many", "base", "step", "found", "k"]) (g:=Bk) F JK λ_ _ _ _ _ _ d=>by
 have m:=a.m;have b:=(D7 a).mono (k:=1) ();have c:=(Sc a).mono (k:=1) ();unfold Bk;exact(J2 (JS TJ rfl (.inl rfl) (T4 Qx (jj b d rfl (Ju (qv 0) (Ju Jv Jw))) (T4 Wg Jv (T4 Cb Jv Jv)))) (J2 (JS TJ rfl (.inl rfl) (J6 (J5 d) (T9 (K5 (Ju Jv (Ju Jv (Ju Jv (Ju Jv (Ju Jv Jw))))))) (T4 Qx (jj b d rfl (Ju (qv 0) (Ju Jv Jw))) Jv) (λ_ _=>rfl) (λ_ _=>rfl))) (J2 (X7 TJ rfl (.inl rfl) (K5 Jw)) (J2 (Kj PassesOwn.never rfl (A7 rfl (J8 m) (Ju (qv 1) Jw)) (QR (Qn TJ rfl (.inl rfl))) (J1 (E7 (pv 4) (E5 [4] (jj c d rfl (Ju (T4 JG (qv 2) (T4 Wg (qv 5) (qv 3))) (Ju (qv 4) Jw)))) (λf h=>Q4 Yn Yo Yp VC f h)))) (J1 (BU (pv 4)))))))
def Se (a:All e):Ca e "_law_plans_by" 5 ["script"] (qU e.K WK):=
 qF a.toAl 8 52 λF=>k9 (kk:=5) (hw:=vz) (hx:=vn) (N:=["script", "names", "plans", "loads", "k"]) (g:=ZS) F JK λ_ _ _ _ _ _ b=>by
 have m:=a.m;have c:=(D7 a).mono (k:=4) ();have d:=(Sb a).mono (k:=4) ();have f:=(Sd a).mono (k:=4) ();have h:=(HI a).mono (k:=4) ();unfold ZS
 exact(Qi (XF (m:=some false) (JS TJ rfl (.inl rfl) (T9 (BR f b rfl (Ju (qv 0) (Ju Jv Jw)))))) (Qi (VU TJ rfl (.inl rfl) (V3 (Qd (V3 (Qd (J9 (J6 (J5 b) (qv 1) Jv (λ_ _=>rfl) (λ_ _=>rfl))) (Qd (V3 (Qd (J9 (J6 (J5 b) (qv 1) Jv (λ_ _=>rfl) (λ_ _=>rfl))) Kf)) (Qd (V3 Kf) Kf)))) Kf))) (Qi (VU TJ rfl (.inl rfl) (V3 (Qd (J9 Jv) Kf))) (Qi (Fw PassesOwn.never rfl (Oi rfl (J8 m) (Ju Jv (Ju (JJ (x:= "min") (Mv rfl) rfl (J8 m) LW (Ju (JJ (x:= "len") JZ rfl (J8 m) JU (Ju (qv 0) Jw)) (Ju Jv Jw))) (Ju Jv Jw)))) (QR (Qn TJ rfl (.inl rfl))) (Q8 (Ob (AK d b rfl (Qd (J9 (qv 2)) (Qd (J9 (qv 3)) (Qd (J9 (qv 1)) (Qd (J9 (J6 (J5 b) (qv 0) (qv 4) (λ_ _=>rfl) (λ_ _=>rfl))) (Qd (J9 (jj c b rfl (Ju (qv 0) (Ju (T4 JG (qv 4) Jv) Jw)))) Kf))))))))) (Qi (VV (Xl 5 [2] (Qf (qb b.units) (J6 (J5 b) (J6 (J5 b) (qv 2) (qS KG Jv) (λ_ _=>rfl) (λ_ _=>rfl)) Jv (λ_ _=>rfl) (λ_ _=>rfl)) (T9 (K5 Jw)) (Qb _))) (Q8 (W6 (W4 (W4 (J9 (qv 2)) (J9 (qS KG Jv)) (λ_ _=>rfl)) (J9 Jv) (λ_ _=>rfl)) (AK h b rfl (Qd (J9 (qv 2)) (Qd (J9 (qv 3)) (Qd (J9 (qv 1)) (Qd (J9 Jv) (Qd (J9 Jv) Kf)))))) (λi l=>Q4 Yn Yo Yp VC i l))) W5) (Q8 (Wk (J9 (qv 2)))))))))
def Sf (a:All e):Ca e "_law_rows_turned" 1 ["rows", "way", "cell"] (qU e.K XZ):=
 qF a.toAl 9 55 λF=>jU (N:=["rows", "way", "cell", "at", "to", "pair"]) (g:=XY) F JK λ_ _ _ _ _ _ b=>by
 have m:=a.m;unfold XY;exact(J2 (JS TJ rfl (.inl rfl) (T4 Qx (qv 2) (JJ (x:= "len") JZ rfl (J8 m) JU (Ju (qv 0) Jw)))) (J2 (JS TJ rfl (.inl rfl) (T4 Qx (T4 Qx (T4 Wg (qv 2) Jv) Jv) (T4 JG (JJ (x:= "len") JZ rfl (J8 m) JU (Ju (qv 0) Jw)) Jv))) (J2 (Qp (Qf (qb b.units) (qv 1) Jv (Qb _)) (J1 (JR (T4 JG (T9 (KR (qv 0) Qq (Q6 (qv 3)) Qq)) (T9 (KR (qv 0) (Q6 (T4 JG (qv 3) Jv)) Qq Qq))))) Qo) (J2 (Qp (Qf (qb b.units) (qv 1) Jv (Qb _)) (J1 (JR (T4 JG (T4 JG (T9 (KR (qv 0) Qq (Q6 (qv 4)) Qq)) (T9 (K5 (Ju (J6 (J5 b) (qv 0) (qv 3) (λ_ _=>rfl) (λ_ _=>rfl)) Jw)))) (T9 (KR (qv 0) (Q6 (qv 4)) Qq Qq))))) Qo) (J2 (JS TJ rfl (.inl rfl) (T4 JG (T9 (KR (qv 0) (Q6 (T4 JG (qv 3) Jv)) (Q6 (T4 JG (qv 3) Jv)) Qq)) (T9 (KR (qv 0) (Q6 (qv 3)) (Q6 (T4 JG (qv 3) Jv)) Qq)))) (J1 (JR (T4 JG (T4 JG (T9 (KR (qv 0) Qq (Q6 (qv 3)) Qq)) (qv 5)) (T9 (KR (qv 0) (Q6 (T4 JG (qv 3) Jv)) Qq Qq))))))))))
def Sg (a:All e):Ca e "_law_sign_by" 1 ["cell"] (qU e.K Bo):=
 qF a.toAl 10 54 λF=>jU (N:=["cell", "some"]) (g:=Bn) F JK λ_ _ _ _ _ _ b=>by
 have m:=a.m;unfold Bn;exact(J2 (JS TJ rfl (.inl rfl) JQ) (J2 (JS TJ rfl (.inl rfl) (T4 JG (qv 1) JQ)) (J1 (JR (J6 (J5 b) (qv 1) (T4 Qx (qv 0) (JJ (x:= "len") JZ rfl (J8 m) JU (Ju (qv 1) Jw))) (λ_ _=>rfl) (λ_ _=>rfl))))))
def Sh (a:All e):Ca e "_law_turned" 2 ["text", "what", "cell"] (qU e.K WL):=
 qF a.toAl 11 56 λF=>jU (N:=["text", "what", "cell", "at", "sign"]) (g:=Xv) F JK λ_ _ _ _ _ _ d=>by
 have m:=a.m;have b:=(Sf a).mono (k:=1) ();have c:=(Sg a).mono (k:=1) ();unfold Xv;exact(J2 (JS TJ rfl (.inl rfl) (T4 Qx (T4 Qx (T4 Wg (qv 2) Jv) Jv) (T4 JG (JJ (x:= "len") JZ rfl (J8 m) JU (Ju (qv 0) Jw)) Jv))) (J2 (JS TJ rfl (.inl rfl) (jj c d rfl (Ju (T4 Xc (T4 Qx (T4 JG (T4 Wg (qv 1) Jv) (qv 2)) Jv) Jv) Jw))) (J2 (Qp (Qf (qb d.units) (T4 Qx (qv 1) Jv) Jv (Qb _)) (J1 (JR (T4 JG (T4 JG (Xi (qv 0) Qq (Q6 (qv 3))) (qv 4)) (Xi (qv 0) (Q6 (qv 3)) Qq)))) Qo) (J2 (Qp (Qf (qb d.units) (T4 Qx (qv 1) Jv) Jv (Qb _)) (J1 (JR (T4 JG (Xi (qv 0) Qq (Q6 (qv 3))) (Xi (qv 0) (Q6 (T4 JG (qv 3) Jv)) Qq)))) Qo) (J2 (Qp (Qf (qb d.units) (T4 Qx (qv 1) Jv) Jv (Qb _)) (J1 (JR (T4 JG (T4 JG (Xi (qv 0) Qq (Q6 (qv 3))) (qv 4)) (Xi (qv 0) (Q6 (T4 JG (qv 3) Jv)) Qq)))) Qo) (J1 (JR (Z8 (id:= "str.join") JQ (jj b d rfl (Ju (T9 (ZD (id:= "str.split") (qv 0) JQ (λf h=>Q4 PySem.F.plainAttrs_str PySem.F.slot_str_split PySem.F.type_str_split ZF f h))) (Ju (T4 Qx (qv 1) Jv) (Ju (qv 2) Jw)))) (λf h=>Q4 PySem.F.plainAttrs_str PySem.F.slot_str_join PySem.F.type_str_join AN f h)))))))))
def B5 (a:All e):Ca e "is_name" 1 ["text"] (qU e.K j8):=
 qF a.toAl 12 15 λF=>jU (N:=["text"]) (g:=xR) F JK λ_ _ _ _ _ _ f=>by
 have m:=a.m;have d:=a.w_FIGURES;have c:=a.y_KEPT_WORDS;have b:=a.w_LETTERS;unfold xR;exact(J2 (Qp (jZ (Aq (VF (XD qE qE Jv (JJ (x:= "len") JZ rfl (J8 m) JU (Ju (qv 0) Jw)) Jv)) (Aq (N7 (ws:=["plan", "given", "all", "first", "part"]) f.units c rfl (qv 0)) (E4 (Qf N5 (J6 (J5 f) (qv 0) Jv (λ_ _=>rfl) (λ_ _=>rfl)) (AG b rfl) rfl))))) (J1 (JR X6)) Qo) (J1 (JR (JJ (x:= "all") (Cr rfl) rfl (J8 m) Cs (Ju (T9 (KF ["sign"] [none] rfl rfl (Fd (qv 0)) (λ_ _ _ _ _=>(QR (qT 0 TJ))) (λ_ _ _ _ _=>(ma (Ww Cz (qv 0) (AG b rfl) rfl) (Ar (Ww Cz (qv 0) (AG d rfl) rfl)))))) Jw)))))
def HJ (a:All e):Ca e "name_behind" 2 ["start", "row"] (qU e.K Kp):=
 qF a.toAl 13 31 λF=>jU (N:=["start", "row", "name"]) (g:=Xw) F JK λ_ _ _ _ _ _ c=>by
 have m:=a.m;have b:=(B5 a).mono (k:=1) ();unfold Xw;exact(J2 (JS TJ rfl (.inl rfl) (Xi (qv 1) (Q6 (JJ (x:= "len") JZ rfl (J8 m) JU (Ju (qv 0) Jw))) Qq)) (J1 (JR (Av (jZ (KE (KP (Z8 (id:= "str.startswith") (qv 1) (qv 0) (λd f=>Q4 PySem.F.plainAttrs_str PySem.F.slot_str_startswith PySem.F.type_str_startswith Ol d f))) (VG (KP (jj b c rfl (Ju (qv 2) Jw)))))) (qv 2) Wv))))
def Si (a:All e):Ca e "are_figures" 1 ["text"] (qU e.K V6):=
 qF a.toAl 14 35 λF=>jU (N:=["text"]) (g:=WM) F JK λ_ _ _ _ _ _ c=>by
 have m:=a.m;have b:=a.w_FIGURES;unfold WM;exact(J1 (JR (Au (Nu qE qE Jv (JJ (x:= "len") JZ rfl (J8 m) JU (Ju (qv 0) Jw)) Jv) (Au (Ww (zm c.units) (J6 (J5 c) (qv 0) Jv (λ_ _=>rfl) (λ_ _=>rfl)) JQ (Qb _)) (Ar (JJ (x:= "all") (Cr rfl) rfl (J8 m) Cs (Ju (T9 (KF ["sign"] [none] rfl rfl (Fd (qv 0)) (λ_ _ _ _ _=>(QR (qT 0 TJ))) (λ_ _ _ _ _=>(Ww Cz (qv 0) (AG b rfl) rfl)))) Jw)))))))
def Sj (a:All e):Ca e "item_of" 2 ["text"] (qU e.K Kh):=
 qF a.toAl 15 34 λF=>jU (N:=["text", "sign", "sides"]) (g:=WN) F JK λ_ _ _ _ _ _ b=>by
 have m:=a.m;have d:=(Si a).mono (k:=1) ();have c:=(B5 a).mono (k:=1) ();unfold WN;exact(J2 (Qp (KP (jj c b rfl (Ju (qv 0) Jw))) (J1 (JR (Kd (Ju (qv 0) (Ju Jv Jw))))) Qo) (J2 (Kj PassesOwn.never rfl (Qz (Kd (Ju JQ (Ju JQ Jw)))) (QR (Qn TJ rfl (.inl rfl))) (J2 (JS TJ rfl (.inl rfl) (T9 (ZD (id:= "str.split") (qv 0) (qv 1) (λf h=>Q4 PySem.F.plainAttrs_str PySem.F.slot_str_split PySem.F.type_str_split ZF f h)))) (J1 (Qp (jZ (KE (Qf (qb b.units) (JJ (x:= "len") JZ rfl (J8 m) JU (Ju (qv 2) Jw)) Jv (Qb _)) (KE (KP (jj c b rfl (Ju (J6 (J5 b) (qv 2) Jv (λ_ _=>rfl) (λ_ _=>rfl)) Jw))) (VG (KP (jj d b rfl (Ju (J6 (J5 b) (qv 2) Jv (λ_ _=>rfl) (λ_ _=>rfl)) Jw))))))) (J1 (JR (Kd (Ju (J6 (J5 b) (qv 2) Jv (λ_ _=>rfl) (λ_ _=>rfl)) (Ju (BS (x:= "int") OC rfl (J8 m) LY (Ju (T4 JG (qv 1) (J6 (J5 b) (qv 2) Jv (λ_ _=>rfl) (λ_ _=>rfl))) Jw)) Jw))))) Qo)))) (J1 (JR Wv))))
def Sk (a:All e):Ca e "with_items" 3 ["name", "how", "words"] (qU e.K Wq):=
 qF a.toAl 16 33 λF=>jU (N:=["name", "how", "words", "items"]) (g:=Yy) F JK λ_ _ _ _ _ _ f=>by
 have m:=a.m;have b:=(Sj a).mono (k:=2) ();unfold Yy;exact(J2 (MH ["text"] [none] TJ rfl (.inl rfl) rfl rfl (Qz (T9 (ZD (id:= "str.split") (Z8 (id:= "str.join") JQ (qv 2) (λc d=>Q4 PySem.F.plainAttrs_str PySem.F.slot_str_join PySem.F.type_str_join AN c d)) JQ (λc d=>Q4 PySem.F.plainAttrs_str PySem.F.slot_str_split PySem.F.type_str_split ZF c d)))) (λ_ _ _ _ _=>(QR (qT 0 TJ))) (λ_ _ _ _ _=>(jj b f rfl (Ju (qv 0) Jw)))) (J1 (JR (Av (A1 f.units Wv (qv 3)) Wv (Kd (Ju (qv 0) (Ju (qv 1) (Ju (qv 3) Jw))))))))
def Sl (a:All e):Ca e "made_thing" 4 ["row"] (qU e.K QL):=
 qF a.toAl 17 32 λF=>jU (N:=["row", "words"]) (g:=K3) F JK λ_ _ _ _ _ _ b=>by
 have m:=a.m;have d:=(B5 a).mono (k:=3) ();have c:=(Sk a).mono (k:=3) ();unfold K3;exact(J2 (JS TJ rfl (.inl rfl) (T9 (ZD (id:= "str.split") (qv 0) JQ (λf h=>Q4 PySem.F.plainAttrs_str PySem.F.slot_str_split PySem.F.type_str_split ZF f h)))) (J2 (Qp (jZ (Aq (Qf zM (JJ (x:= "len") JZ rfl (J8 m) JU (Ju (qv 1) Jw)) Jv (Qb _)) (Aq (Qf (zm b.units) (J6 (J5 b) (qv 1) Jv (λ_ _=>rfl) (λ_ _=>rfl)) JQ (Qb _)) (E4 (VF (KP (jj d b rfl (Ju (J6 (J5 b) (qv 1) Jv (λ_ _=>rfl) (λ_ _=>rfl)) Jw)))))))) (J1 (JR Wv)) Qo) (J2 (Qp (A1 b.units (J6 (J5 b) (qv 1) Jv (λ_ _=>rfl) (λ_ _=>rfl)) (Kd (Ju JQ (Ju JQ Jw)))) (J1 (JR (jj c b rfl (Ju (J6 (J5 b) (qv 1) Jv (λ_ _=>rfl) (λ_ _=>rfl)) (Ju (J6 (J5 b) (qv 1) Jv (λ_ _=>rfl) (λ_ _=>rfl)) (Ju (T9 (KR (qv 1) (Q6 Jv) Qq Qq)) Jw)))))) Qo) (J2 (Qp (jZ (KE (Qf (qb b.units) (J6 (J5 b) (qv 1) Jv (λ_ _=>rfl) (λ_ _=>rfl)) JQ (Qb _)) (VG (KP (jj d b rfl (Ju (J6 (J5 b) (qv 1) Jv (λ_ _=>rfl) (λ_ _=>rfl)) Jw)))))) (J1 (JR (jj c b rfl (Ju (J6 (J5 b) (qv 1) Jv (λ_ _=>rfl) (λ_ _=>rfl)) (Ju (J6 (J5 b) (qv 1) Jv (λ_ _=>rfl) (λ_ _=>rfl)) (Ju (T9 (KR (qv 1) (Q6 Jv) Qq Qq)) Jw)))))) Qo) (J1 (JR Wv))))))
def Sm (a:All e):Ca e "takes_thing" 5 ["draft", "number", "row"] (zw e.K WO):=
 qF a.toAl 18 30 λF=>zp (N:=["draft", "number", "row", "given", "made"]) (g:=V7) F JK λ_ _ _ _ _ _ f=>by
 have m:=a.m;have c:=(Sl a).mono (k:=4) ();have d:=(HJ a).mono (k:=4) ();have b:=a.k_Draft;unfold V7;exact(Qi (XF (m:=some false) (JS TJ rfl (.inl rfl) (jj d f rfl (Ju JQ (Ju (qv 2) Jw))))) (Qi (XF (m:=some false) (JS TJ rfl (.inl rfl) (jj c f rfl (Ju (qv 2) Jw)))) (Qi (VV (Xl 6 [0] (jZ (KE (Cm (qv 3)) (VG (Qf (qb f.units) (Qh b (by decide) (qv 0)) (T9 (K5 Jw)) (Qb _)))))) (Qi (W6 (Fv b (by decide) (J9 (qv 0))) (J9 (qv 3)) (λh i=>Q4 Yn Yo Yp VC h i)) (Q8 (Wk (J9 X6)))) W5) (Qi (VV (Fu (Cm (qv 4))) (Qi (W6 (Fv b (by decide) (J9 (qv 0))) (J9 (Kd (Ju (qv 1) (Ju (qv 4) Jw)))) (λh i=>Q4 Yn Yo Yp VC h i)) (Q8 (Wk (J9 X6)))) W5) (Q8 (Wk (J9 X6)))))))
def So (a:All e):Ca e "takes_row" 6 ["drafts", "number", "row"] (zw e.K Ka):=
 qF a.toAl 19 29 λF=>zp (N:=["drafts", "number", "row", "name"]) (g:=V8) F JK λ_ _ _ _ _ _ f=>by
 have m:=a.m;have c:=(HJ a).mono (k:=5) ();have d:=(Sm a).mono (k:=5) ();have b:=RW a;unfold V8;exact(Qi (XF (m:=some false) (JS TJ rfl (.inl rfl) (jj c f rfl (Ju JQ (Ju (qv 2) Jw))))) (Qi (VV (Fu (Cm (qv 3))) (Qi (W6 (J9 (qv 0)) (O4 b (f.mono ()) rfl (Qd (J9 (qv 3)) Kf)) (λh i=>Q4 Yn Yo Yp VC h i)) (Q8 (Wk (J9 X6)))) W5) (Q8 (Wk (O7 (KL 6 [0] (Ww (uM f.units) (qv 0) (T9 (K5 Jw)) (Qb _))) (O8 (AK d f rfl (Qd (W4 (J9 (qv 0)) (J9 (qS KG Jv)) (λ_ _=>rfl)) (Qd (J9 (qv 1)) (Qd (J9 (qv 2)) Kf))))))))))
def Sq (a:All e):z3 e "drafts_of" 7 ["text"] (qJ e.K KY):=
 xz a.toAl 20 28 λF=>OM (kk:=6) (hw:=v0) (hx:=vp) (N:=["text", "drafts", "number", "row"]) (g:=Wa) F JK λ_ _ _ _ _ _ f=>by
 have m:=a.m;have c:=(So a).mono (k:=6) ();have d:=a.x_BadRow;have b:=RX a;unfold Wa;exact(Qi (VU TJ rfl (.inl rfl) (V3 Kf)) (Qi (Fw VP rfl (O3 rfl (J8 m) (Ju (T9 (ZD (id:= "str.split") (qv 0) JQ (λh i=>Q4 PySem.F.plainAttrs_str PySem.F.slot_str_split PySem.F.type_str_split ZF h i))) Jw)) (Kv [2,3] (Kt rfl (JX (Qn TJ rfl (.inl rfl)) (JX (Qn TJ rfl (.inl rfl)) Ks)))) (Q8 (VV (O6 (O5 (OL c f rfl (Qd (J9 (qv 1)) (Qd (J9 (qv 2)) (Qd (J9 (qv 3)) Kf)))))) (Q8 (XF (m:=some false) (FN FL b (f.mono ()) rfl rfl (qv 2)))) W5))) (Q8 (Wk (J9 (qv 1))))))
def uJ (a:All e):Ca e "are_names" 2 ["texts"] (qU e.K xE):=
 qF a.toAl 21 18 λF=>jU (N:=["texts"]) (g:=yU) F JK λ_ _ _ _ _ _ c=>by
 have m:=a.m;have b:=(B5 a).mono (k:=1) ();unfold yU;exact(J1 (JR (Au (JJ (x:= "all") (Cr rfl) rfl (J8 m) Cs (Ju (T9 (KF ["text"] [none] rfl rfl (Qz (qv 0)) (λ_ _ _ _ _=>(QR (qT 0 TJ))) (λ_ _ _ _ _=>(jj b c rfl (Ju (qv 0) Jw))))) Jw)) (Ar (Ww (qb c.units) (NI (λh=>Eh L2.ST.call_lenK rfl (J8 m) JU (WT (BF (L2.ST.call_setK rfl) rfl (J8 m) L2.bt_set h) WS)) (Ju (qv 0) Jw)) (JJ (x:= "len") JZ rfl (J8 m) JU (Ju (qv 0) Jw)) (Qb _))))))
def uK (a:All e):z3 e "look_at_names" 3 ["book"] (qJ e.K y0):=
 xz a.toAl 22 17 λF=>W3 (N:=["book", "plan"]) (g:=yV) F JK λ_ _ _ _ _ _ h=>by
 have f:=(uJ a).mono (k:=2) ();have b:=a.x_BadName;have d:=a.k_Book;have c:=a.k_Plan;unfold yV;exact(J2 (Qp (VF (KP (Cv f h rfl (Ju (T9 (KF ["plan"] [none] rfl rfl (Qz (Qh d (by decide) (qv 0))) (λ_ _ _ _ _=>(QR (qT 0 TJ))) (λ_ _ _ _ _=>(Qh c (by decide) (qv 0))))) Jw)))) (J1 (VO VN b rfl rfl JQ)) Qo) (J1 (Kj VP rfl (Qz (Qh d (by decide) (qv 0))) (QR (Qn TJ rfl (.inl rfl))) (J1 (Qp (VF (KP (Cv f h rfl (Ju (T4 JG (Qh c (by decide) (qv 1)) (T9 (KF ["name", "how", "items"] [none,none,none] rfl rfl (Qz (Qh c (by decide) (qv 1))) (λ_ _ _ _ _=>(Kv [0,1,2] (Kt rfl (JX (qT 0 TJ) (JX (qT 1 TJ) (JX (qT 2 TJ) Ks)))))) (λ_ _ _ _ _=>(qv 0))))) Jw)))) (J1 (VO VN b rfl rfl JQ)) Qo)))))
def HK (a:All e):Ca e "is_part" 1 ["how"] (qU e.K xD):=
 qF a.toAl 23 24 λF=>jU (N:=["how"]) (g:=wc) F JK λ_ _ _ _ _ _ b=>by
 unfold wc;exact(J1 (JR (Ms b.units (qv 0) (Kd (Ju JQ (Ju JQ Jw))))))
def uG (a:All e):z3 e "look_at_parts" 2 ["book"] (qJ e.K yX):=
 xz a.toAl 24 21 λF=>W3 (N:=["book", "givens", "plan", "name", "how", "items"]) (g:=zy) F JK λ_ _ _ _ _ _ h=>by
 have m:=a.m;have f:=(HK a).mono (k:=1) ();have c:=a.x_BadPart;have d:=a.k_Book;have b:=a.k_Plan;unfold zy;exact(J2 (X7 TJ rfl (.inl rfl) Ci) (J1 (Kj VP rfl (Qz (Qh d (by decide) (qv 0))) (QR (Qn TJ rfl (.inl rfl))) (J2 (Kj VP rfl (Qz (Qh b (by decide) (qv 2))) (Kv [3,4,5] (Kt rfl (JX (Qn TJ rfl (.inl rfl)) (JX (Qn TJ rfl (.inl rfl)) (JX (Qn TJ rfl (.inl rfl)) Ks))))) (J1 (Qp (jZ (KE (KP (Cv f h rfl (Ju (qv 4) Jw))) (VG (Qf (zm h.units) (NT [1] (NB (J5 h) (qv 1) (qv 4) ⟨rfl,rfl,rfl,rfl⟩)) (JJ (x:= "len") JZ rfl (J8 m) JU (Ju (qv 5) Jw)) (Qb _))))) (J1 (VO VN c rfl rfl (V2 (YY (qv 3) (Kw V1))))) Qo))) (J1 (EK (J5 h) (pv 1) (Qh b (by decide) (qv 2)) (JJ (x:= "len") JZ rfl (J8 m) JU (Ju (Qh b (by decide) (qv 2)) Jw))))))))
def uH (a:All e):z3 e "look_at_items" 1 ["plan"] (qJ e.K yb):=
 xz a.toAl 25 20 λF=>W3 (N:=["plan", "ahead", "name", "how", "items", "thing", "wait"]) (g:=zz) F JK λ_ _ _ _ _ _ d=>by
 have m:=a.m;have b:=a.x_BadPlan;have c:=a.k_Plan;unfold zz;exact(J2 (JS TJ rfl (.inl rfl) (JJ (x:= "len") JZ rfl (J8 m) JU (Ju (Qh c (by decide) (qv 0)) Jw))) (J1 (Kj VP rfl (Qz (Qh c (by decide) (qv 0))) (Kv [2,3,4] (Kt rfl (JX (Qn TJ rfl (.inl rfl)) (JX (Qn TJ rfl (.inl rfl)) (JX (Qn TJ rfl (.inl rfl)) Ks))))) (J2 (Qp (VF (XD qE qE Jv (JJ (x:= "len") JZ rfl (J8 m) JU (Ju (qv 4) Jw)) Jv)) (J1 (VO VN b rfl rfl (V2 (YY (qv 2) (Kw V1))))) Qo) (J2 (Kj VP rfl (Qz (qv 4)) (Kv [5,6] (Kt rfl (JX (Qn TJ rfl (.inl rfl)) (JX (Qn TJ rfl (.inl rfl)) Ks)))) (J2 (Qp (VF (XD qE zM Jv (qv 5) (qv 1))) (J1 (VO VN b rfl rfl (V2 (Kw (YY (qv 2) (Kw V1)))))) Qo) (J1 (Qp (Qf me (JJ (x:= "abs") gN rfl (J8 m) Nk (Ju (qv 6) Jw)) (T4 Cb Jv Jv) (Qb _)) (J1 (VO VN b rfl rfl (V2 (Kw (YY (qv 2) (Kw V1)))))) Qo)))) (J1 (NS TJ rfl (.inl rfl) Jv)))))))
def uI (a:All e):z3 e "look_at_plans" 2 ["book"] (qJ e.K yc):=
 xz a.toAl 26 19 λF=>W3 (N:=["book", "plan"]) (g:=yy) F JK λ_ _ _ _ _ _ h=>by
 have m:=a.m;have f:=(uH a).mono (k:=1) ();have b:=a.x_BadPlan;have c:=a.k_Book;have d:=a.k_Plan;unfold yy;exact(J2 (Qp (VF (XD qE qE Jv (JJ (x:= "len") JZ rfl (J8 m) JU (Ju (Qh c (by decide) (qv 0)) Jw)) Jv)) (J1 (VO VN b rfl rfl JQ)) Qo) (J1 (Kj VP rfl (Qz (Qh c (by decide) (qv 0))) (QR (Qn TJ rfl (.inl rfl))) (J2 (Qp (VF (XD qE qE Jv (JJ (x:= "len") JZ rfl (J8 m) JU (Ju (Qh d (by decide) (qv 1)) Jw)) Jv)) (J1 (VO VN b rfl rfl JQ)) Qo) (J2 (Qp (VF (XD qE qE Jv (JJ (x:= "len") JZ rfl (J8 m) JU (Ju (Qh d (by decide) (qv 1)) Jw)) Jv)) (J1 (VO VN b rfl rfl JQ)) Qo) (J1 (X8 (W2 f W1 h rfl (Ju (qv 1) Jw)))))))))
def uE (a:All e):Ca e "weights" 2 ["book"] (zC e.K we):=
 qF a.toAl 27 23 λF=>zq (N:=["book", "told", "plan", "parts"]) (g:=wd) F JK λ_ _ _ _ _ _ f=>by
 have m:=a.m;have d:=(HK a).mono (k:=1) ();have c:=a.k_Book;have b:=a.k_Plan;unfold wd;exact(J2 (X7 TJ rfl (.inr rfl) Ci) (J2 (Kj PassesOwn.never rfl (Qz (Qh c (by decide) (qv 0))) (QR (Qn TJ rfl (.inl rfl))) (J2 (NA [1] ["name", "how", "items", "told"] [none,none,none,some 1] TJ rfl (.inl rfl) rfl rfl (Qz (Qh b (by decide) (qv 2))) (λ_ _ _ _ _=>(Kv [0,1,2] (Kt rfl (JX (qT 0 TJ) (JX (qT 1 TJ) (JX (qT 2 TJ) Ks)))))) (λ_ _ _ _ _=>(KP (jj d f rfl (Ju (qv 1) Jw)))) (λ_ _ _ _ _=>(J6 (J5 f) (qv 3) (qv 1) (λ_ _=>rfl) (λ_ _=>rfl)))) (J1 (EK (J5 f) (pv 1) (Qh b (by decide) (qv 2)) (T4 JG (JJ (x:= "len") JZ rfl (J8 m) JU (Ju (Qh b (by decide) (qv 2)) Jw)) (E5 [3] (JJ (x:= "sum") (gM rfl) rfl (J8 m) LX (Ju (qv 3) Jw)))))))) (J1 (BU (pv 1)))))
def uF (a:All e):z3 e "look_at_weights" 3 ["book"] (qJ e.K yW):=
 xz a.toAl 28 22 λF=>W3 (N:=["book", "name", "own"]) (g:=zx) F JK λ_ _ _ _ _ _ d=>by
 have c:=(uE a).mono (k:=2) ();have b:=a.x_TooLong;unfold zx;exact(J1 (Kj VP rfl (NR (Fa c d rfl (Ju (qv 0) Jw))) (Kv [1,2] (Kt rfl (JX (Qn TJ rfl (.inl rfl)) (JX (Qn TJ rfl (.inl rfl)) Ks)))) (J1 (Qp (Qf yE (qv 2) Jv (Qb _)) (J1 (VO VN b rfl rfl (V2 (Kw (YY (qv 1) (Kw V1)))))) Qo))))
def uL (a:All e):z3 e "looked" 4 ["book"] (qJ e.K xq):=
 xz a.toAl 29 16 λF=>W3 (N:=["book"]) (g:=xQ) F JK λ_ _ _ _ _ _ h=>by
 have b:=(uK a).mono (k:=3) ();have c:=(uG a).mono (k:=3) ();have d:=(uI a).mono (k:=3) ();have f:=(uF a).mono (k:=3) ();unfold xQ;exact(J2 (X8 (W2 b W1 h rfl (Ju (qv 0) Jw))) (J2 (X8 (W2 d W1 h rfl (Ju (qv 0) Jw))) (J2 (X8 (W2 c W1 h rfl (Ju (qv 0) Jw))) (J1 (X8 (W2 f W1 h rfl (Ju (qv 0) Jw)))))))
def Sr (a:All e):z3 e "numbered" 3 ["items", "numbers", "row"] (qJ e.K KZ):=
 xz a.toAl 30 38 λF=>W3 (N:=["items", "numbers", "row", "name", "wait"]) (g:=Yz) F JK λ_ _ _ _ _ _ d=>by
 have m:=a.m;have c:=a.x_NoName;have b:=RY a;unfold Yz;exact(J2 (Kj VP rfl (Qz (qv 0)) (Kv [3,4] (Kt rfl (JX (Qn TJ rfl (.inl rfl)) (JX (Qn TJ rfl (.inl rfl)) Ks)))) (J1 (Qp (Ch d.units (qv 3) (qv 1)) (J1 (FN FL b (d.mono ()) rfl rfl (qv 2))) Qo))) (J1 (JR (BS (x:= "tuple") EJ rfl (J8 m) E2 (Ju (T9 (KF ["name", "wait", "numbers"] [none,none,some 1] rfl rfl (Qz (qv 0)) (λ_ _ _ _ _=>(Kv [0,1] (Kt rfl (JX (qT 0 TJ) (JX (qT 1 TJ) Ks))))) (λ_ _ _ _ _=>(Kd (Ju (J6 (J5 d) (qv 2) (qv 0) (λ_ _=>rfl) (λ_ _=>rfl)) (Ju (qv 1) Jw)))))) Jw)))))
def Ss (a:All e):Ca e "numbers_of" 1 ["names"] (zC e.K Y0):=
 qF a.toAl 31 37 λF=>zq (N:=["names", "numbers", "number", "name"]) (g:=ZT) F JK λ_ _ _ _ _ _ d=>by
 have m:=a.m;unfold ZT;exact(J2 (X7 TJ rfl (.inl rfl) Ci) (J2 (Kj PassesOwn.never rfl (Nj rfl (J8 m) (Ju (qv 0) Jw)) (Kv [2,3] (Kt rfl (JX (Qn TJ rfl (.inl rfl)) (JX (Qn TJ rfl (.inl rfl)) Ks)))) (J1 (OB (pv 1) (qv 3) (qv 2) (λb c=>Q4 PySem.F.plainAttrs_dict PySem.F.slot_dict_setdefault PySem.F.type_dict_setdefault OA b c)))) (J1 (BU (pv 1)))))
def Su (a:All e):z3 e "plan_of" 4 ["draft"] (zX e.K K4):=
 xz a.toAl 32 36 λF=>kA (N:=["draft", "numbers", "rows", "number", "made"]) (g:=Y1) F JK λ_ _ _ _ _ _ d=>by
 have m:=a.m;have f:=(Sr a).mono (k:=3) ();have h:=(Ss a).mono (k:=3) ();have b:=a.k_Draft;have c:=HG a;unfold Y1;exact(J2 (JS TJ rfl (.inl rfl) (T9 (Fa h d rfl (Ju (T4 JG (Qh b (by decide) (qv 0)) (T9 (KF ["number", "made"] [none,none] rfl rfl (Qz (Qh b (by decide) (qv 0))) (λ_ _ _ _ _=>(Kv [0,1] (Kt rfl (JX (qT 0 TJ) (JX (qT 1 TJ) Ks))))) (λ_ _ _ _ _=>(J6 (J5 d) (qv 1) Jv (λ_ _=>rfl) (λ_ _=>rfl)))))) Jw)))) (J2 (X7 TJ rfl (.inl rfl) (K5 Jw)) (J2 (Kj VP rfl (Qz (Qh b (by decide) (qv 0))) (Kv [3,4] (Kt rfl (JX (Qn TJ rfl (.inl rfl)) (JX (Qn TJ rfl (.inl rfl)) Ks)))) (J1 (E7 (pv 2) (Kd (Ju (J6 (J5 d) (qv 4) Jv (λ_ _=>rfl) (λ_ _=>rfl)) (Ju (J6 (J5 d) (qv 4) Jv (λ_ _=>rfl) (λ_ _=>rfl)) (Ju (W2 f W1 d rfl (Ju (J6 (J5 d) (qv 4) Jv (λ_ _=>rfl) (λ_ _=>rfl)) (Ju (qv 1) (Ju (qv 3) Jw)))) Jw)))) (λi l=>Q4 Yn Yo Yp VC i l)))) (J1 (E6 [2] (BT (FP c (d.mono ()) rfl (Ju (Qh b (by decide) (qv 0)) (Ju (Qh b (by decide) (qv 0)) (Ju (qv 2) Jw))))))))))
def Sv (a:All e):z3 e "read" 8 ["text"] (qJ e.K Vw):=
 xz a.toAl 33 27 λF=>W3 (N:=["text", "book"]) (g:=WP) F JK λ_ _ _ _ _ _ h=>by
 have c:=(Sq a).mono (k:=7) ();have f:=(uL a).mono (k:=7) ();have d:=(Su a).mono (k:=7) ();have b:=HF a;unfold WP;exact(J2 (JS TJ rfl (.inl rfl) (T9 (FP b (h.mono ()) rfl (Ju (T9 (NY ["draft"] [none] rfl rfl (Qz (W2 c W1 h rfl (Ju (qv 0) Jw))) (λ_ _ _ _ _=>(QR (qT 0 TJ))) (λ_ _ _ _ _ i=>(T9 (Nm d (NX rfl rfl rfl NW i) h rfl (Ju (qv 0) Jw)))))) Jw)))) (J2 (X8 (W2 f W1 h rfl (Ju (qv 1) Jw))) (J1 (JR (qv 1)))))
def Sw (a:All e):Ca e "item_text" 1 ["name", "wait"] (qU e.K Xy):=
 qF a.toAl 34 43 λF=>jU (N:=["name", "wait"]) (g:=Y5) F JK λ_ _ _ _ _ _ b=>by
 unfold Y5;exact(J2 (Qp (Qf (qb b.units) (qv 1) Jv (Qb _)) (J1 (JR (qv 0))) Qo) (J1 (JR (Av (Qf yE (qv 1) Jv (Qb _)) (V2 (VR (qv 0) (Kw (VR (qv 1) V1)))) (V2 (VR (qv 0) (VR (qv 1) V1)))))))
def Sx (a:All e):Ca e "made_row" 2 ["made", "how", "items", "things"] (qU e.K Ab):=
 qF a.toAl 35 42 λF=>jU (N:=["made", "how", "items", "things", "way", "texts"]) (g:=Bx) F JK λ_ _ _ _ _ _ c=>by
 have m:=a.m;have b:=(Sw a).mono (k:=1) ();unfold Bx;exact(J2 (JS TJ rfl (.inl rfl) (Av (A1 c.units (qv 1) (Kd (Ju JQ (Ju JQ Jw)))) (qv 1) (V2 (Kw (VR (qv 1) V1))))) (J2 (JS TJ rfl (.inl rfl) (Z8 (id:= "str.join") JQ (T9 (KF ["thing", "wait", "things"] [none,none,some 3] rfl rfl (Qz (qv 2)) (λ_ _ _ _ _=>(Kv [0,1] (Kt rfl (JX (qT 0 TJ) (JX (qT 1 TJ) Ks))))) (λ_ _ _ _ _=>(jj b c rfl (Ju (J6 (J5 c) (qv 2) (qv 0) (λ_ _=>rfl) (λ_ _=>rfl)) (Ju (qv 1) Jw)))))) (λd f=>Q4 PySem.F.plainAttrs_str PySem.F.slot_str_join PySem.F.type_str_join AN d f))) (J1 (JR (V2 (Kw (VR (qv 0) (Kw (VR (qv 4) (Kw (VR (qv 5) V1)))))))))))
def Sy (a:All e):Ca e "plan_rows" 3 ["plan"] (zC e.K Ac):=
 qF a.toAl 36 41 λF=>zq (N:=["plan", "name", "things", "told"]) (g:=Bz) F JK λ_ _ _ _ _ _ d=>by
 have c:=(Sx a).mono (k:=2) ();have b:=a.k_Plan;unfold Bz;exact(J2 (JS TJ rfl (.inl rfl) (Qh b (by decide) (qv 0))) (J2 (JS TJ rfl (.inr rfl) (T4 JG (Qh b (by decide) (qv 0)) (T9 (KF ["made", "how", "items"] [none,none,none] rfl rfl (Qz (Qh b (by decide) (qv 0))) (λ_ _ _ _ _=>(Kv [0,1,2] (Kt rfl (JX (qT 0 TJ) (JX (qT 1 TJ) (JX (qT 2 TJ) Ks)))))) (λ_ _ _ _ _=>(qv 0)))))) (J2 (JS TJ rfl (.inl rfl) (T4 JG (T9 (K5 (Ju (V2 (Kw (VR (qv 1) V1))) Jw))) (T9 (KF ["given"] [none] rfl rfl (Qz (Qh b (by decide) (qv 0))) (λ_ _ _ _ _=>(QR (qT 0 TJ))) (λ_ _ _ _ _=>(V2 (Kw (VR (qv 0) V1)))))))) (J1 (BT (ub Nx (qv 3) (T9 (KF ["made", "how", "items", "things"] [none,none,none,some 2] rfl rfl (Qz (Qh b (by decide) (qv 0))) (λ_ _ _ _ _=>(Kv [0,1,2] (Kt rfl (JX (qT 0 TJ) (JX (qT 1 TJ) (JX (qT 2 TJ) Ks)))))) (λ_ _ _ _ _=>(jj c d rfl (Ju (qv 0) (Ju (qv 1) (Ju (qv 2) (Ju (qv 3) Jw))))))))))))))
def Sz (a:All e):Ca e "shown" 4 ["book"] (qU e.K Y6):=
 qF a.toAl 37 40 λF=>jU (N:=["book", "rows", "plan"]) (g:=B0) F JK λ_ _ _ _ _ _ h=>by
 have m:=a.m;have c:=(Sy a).mono (k:=3) ();have b:=a.k_Book;unfold B0;exact(J2 (X7 TJ rfl (.inl rfl) (K5 Jw)) (J2 (Kj PassesOwn.never rfl (Qz (Qh b (by decide) (qv 0))) (QR (Qn TJ rfl (.inl rfl))) (J1 (Mc (pv 1) (BR c h rfl (Ju (qv 2) Jw)) (λd f=>Q4 Yn PySem.F.slot_list_extend PySem.F.type_list_extend Lv d f)))) (J1 (E6 [1] (JR (Z8 (id:= "str.join") JQ (qv 1) (λd f=>Q4 PySem.F.plainAttrs_str PySem.F.slot_str_join PySem.F.type_str_join AN d f)))))))
def S0 (a:All e){f:Addr}{G:FuncData}(F:Fun e.K "law" "law" (y7 57) f G):FnOk e.P e.w e.K e.mg e.base xa 9 f G ["script"] (qU e.K wg):=
 jU (N:=["script", "text", "turns", "k", "found", "again"]) (g:=B4) F JK λ_ _ _ _ _ _ z=>by
 have m:=a.m;have A:=(RZ a).mono (k:=8) ();have q:=(D7 a).mono (k:=8) ();have B:=(Se a).mono (k:=8) ();have C:=(Sh a).mono (k:=8) ();have E:=(Sv a).mono (k:=8) ();have y:=(Sz a).mono (k:=8) ();have p:=a.x_AllError;have r:=a.x_BadName;have s:=a.x_BadPart;have t:=a.x_BadPlan;have v:=a.x_BadRow;have w:=a.x_NoName;have u:=a.x_TooLong;have b:=a.u_BadName_AllError;have c:=a.u_BadPart_AllError;have d:=a.u_BadPlan_AllError;have l:=a.u_BadRow_AllError;have o:=a.u_NoName_AllError;have i:=a.u_TooLong_AllError;unfold B4
 exact(J2 (JS TJ rfl (.inl rfl) (jj y z rfl (Ju (T9 (BR A z rfl (Ju (jj B z rfl (Ju (T4 JG (T9 (KR (qv 0) Qq (Q6 Jv) Qq)) (T9 (KR (qv 0) (Q6 Jv) (Q6 Jv) Qq))) Jw)) Jw))) Jw))) (J2 (Qp (VF (KP (JJ (x:= "isinstance") EH rfl (J8 m) Ez (Ju (qv 1) (Ju (EI (n:= "str") (x:= "str") rfl (J8 m) E1 rfl) Jw))))) (J1 (JR X6)) Qo) (J2 (JS TJ rfl (.inl rfl) (T4 Qx (jj q z rfl (Ju (qv 0) (Ju Jv Jw))) Jv)) (J2 (Kj PassesOwn.never rfl (A7 rfl (J8 m) (Ju (qv 2) Jw)) (QR (Qn TJ rfl (.inl rfl))) (J1 (JS TJ rfl (.inl rfl) (jj C z rfl (Ju (qv 1) (Ju (jj q z rfl (Ju (qv 0) (Ju (T4 JG Jv (T4 Wg Jv (qv 3))) Jw))) (Ju (jj q z rfl (Ju (qv 0) (Ju (T4 JG Jv (T4 Wg Jv (qv 3))) Jw))) Jw))))))) (J2 (JS TJ rfl (.inl rfl) Wv) (J2 (OK (cs:=["BadName", "BadPart", "BadPlan", "BadRow", "NoName", "TooLong"]) rfl rfl (Nz TJ rfl (.inl rfl) E z rfl (Ju (qv 1) Jw)) p rfl (λ_=>(J1 (JS TJ rfl (.inl rfl) Wv))) (λH h=>by rcases UB.mp h with rfl|h;(exact⟨_,r.ns,b⟩);rcases UB.mp h with rfl|h;(exact⟨_,s.ns,c⟩);rcases UB.mp h with rfl|h;(exact⟨_,t.ns,d⟩);rcases UB.mp h with rfl|h;(exact⟨_,v.ns,l⟩);rcases UB.mp h with rfl|h;(exact⟨_,w.ns,o⟩);rcases UB.mp h with rfl|h;(exact⟨_,u.ns,i⟩);cases h)) (J2 (Qp (MC (qv 4)) (J1 (JR (Ww yE (qv 2) Jv (Qb _)))) Qo) (J2 (JS TJ rfl (.inl rfl) (jj y z rfl (Ju (qv 4) Jw))) (J1 (JR (Au (JJ (x:= "isinstance") EH rfl (J8 m) Ez (Ju (qv 5) (Ju (EI (n:= "str") (x:= "str") rfl (J8 m) E1 rfl) Jw))) (Ar (Ww (qb z.units) (qv 5) (qv 1) (Qb _))))))))))))))
end
def B6 (K:W.Frag):Sp:=λc H Q _=>∃(a:Addr) (b:Yf),c=[.ref a]/\jL K H a (b.map V.int)/\b.length<=63/\∀d,Q (.bl true) d
def S1 (K:W.Frag)(b:Yr)(H:Hp)(Q:VK)(E:XK)(h:B6 K b H Q E):qU K wg b H Q E:=by
 obtain⟨a,c,rfl,d,f,q⟩:=h;refine⟨H,[.scr c],Tx.refl _,IsDs.mk (je.mpr ⟨a,rfl,d⟩) .nil,?_⟩;rw[zo c f];intro v j g e i;rw[Tz.mp i];exact q g
def all_mk {l:W.OpenLaw}{w:World}{K:W.Frag}{h:Heap}{mg:Yc}{fa:Addr}(X:K.In h)(G:h.Ns mainGlobals mg)(hfa:mg "law" = some (.ref fa))
 {a:Addr}
 {b:Addr}
 {c:Addr}
 {f:Addr}
 {u T:Addr}
 {x U:Addr}
 {g:Addr}
 {q:Tok}
 {p:Addr} {A:Option Addr} {Q:Nat} {B:Array Ye} {C E F I J:Tok}
 {L:Tok}
 (d:vm K y7 tbl) (z:Nn K bl) (dl:wf K "law" (y7 57))
 (y:W.nsIn K mainGlobals "AllError" = some (some (.ref a))) (q_AllError:W.excIn K a [.type "ValueError",.type "Exception",.type "BaseException",.type "object"] "ValueError.__new__" = true)
 (M:W.nsIn K mainGlobals "BadName" = some (some (.ref b))) (q_BadName:W.excIn K b [.type "ValueError",.type "Exception",.type "BaseException",.type "object"] "ValueError.__new__" = true)
 (N:W.nsIn K mainGlobals "BadPart" = some (some (.ref c))) (q_BadPart:W.excIn K c [.type "ValueError",.type "Exception",.type "BaseException",.type "object"] "ValueError.__new__" = true)
 (O:W.nsIn K mainGlobals "BadPlan" = some (some (.ref f))) (q_BadPlan:W.excIn K f [.type "ValueError",.type "Exception",.type "BaseException",.type "object"] "ValueError.__new__" = true)
 (Y:CB K "BadRow" "BadRow.__init__" "row" (VD (y7 6) 0) u T)
 (Z:CB K "NoName" "NoName.__init__" "row" (VD (y7 7) 0) x U)
 (P:W.nsIn K mainGlobals "TooLong" = some (some (.ref g))) (q_TooLong:W.excIn K g [.type "ValueError",.type "Exception",.type "BaseException",.type "object"] "ValueError.__new__" = true)
 (i:W.subIn K (.ref b) (.ref a)=some true)
 (j:W.subIn K (.ref c) (.ref a)=some true)
 (m:W.subIn K (.ref f) (.ref a)=some true)
 (r:W.subIn K (.ref u) (.ref a)=some true)
 (t:W.subIn K (.ref x) (.ref a)=some true)
 (o:W.subIn K (.ref g) (.ref a)=some true)
 (g_FIGURES:W.nsIn K mainGlobals "FIGURES" = some (some (.str "0123456789" q)))
 (R:W.nsIn K mainGlobals "KEPT_WORDS" = some (some (.ref p))) (S:K.lookup p=some ⟨.type "tuple",A,.seq #[.str "plan" C,.str "given" E,.str "all" F,.str "first" I,.str "part" J] Q,B⟩)
 (g_LETTERS:W.nsIn K mainGlobals "LETTERS" = some (some (.str "abcdefghijklmnopqrstuvwxyz" L)))
 (l_Book:C2 K "Book" "Book.__init__" ["plans"] (VD (y7 10) 0))
 (l_Draft:C2 K "Draft" "Draft.__init__" ["name", "givens", "rows"] (VD (y7 26) 0))
 (l_Plan:C2 K "Plan" "Plan.__init__" ["name", "givens", "rows"] (VD (y7 9) 0)):
 ∃fd:FuncData,(∀(s:Shared) (v:Value),BindsTo s fd ⟨[v],[]⟩ [("script",v)])/\∀base:Heap,K.In base->base.Ns mainGlobals mg->FnOk l.prog w K mg base xa 9 fa fd ["script"] (B6 K):=by
 obtain⟨f_law,fd_law,a_law,wg⟩:=dl;cases hfa.symm.trans (W.mg_of X G a_law);obtain⟨D_Book,fI_Book,fdI_Book,l1_Book,l2_Book,l3_Book,l4_Book,l5_Book⟩:=l_Book;obtain⟨D_Draft,fI_Draft,fdI_Draft,l1_Draft,l2_Draft,l3_Draft,l4_Draft,l5_Draft⟩:=l_Draft;obtain⟨D_Plan,fI_Plan,fdI_Plan,l1_Plan,l2_Plan,l3_Plan,l4_Plan,l5_Plan⟩:=l_Plan
 exact⟨fd_law,(by obtain⟨_,_,_,_,_,_,_,_,_,rfl,_,_⟩:=id wg.ex;exact λs v=>.of_eq rfl),λbase _ _=>(S0 (e:=⟨l.prog,w,K,mg,base,λn=>[a,b,c,f,u,T,x,U,g,D_Book,D_Draft,D_Plan].getD n 0,λn=>[q,L].getD n q⟩) ⟨⟨⟨h,X,G⟩,d,Fs X G z⟩,⟨y,W.mg_of X G y,q_AllError⟩,⟨M,W.mg_of X G M,q_BadName⟩,⟨N,W.mg_of X G N,q_BadPart⟩,⟨O,W.mg_of X G O,q_BadPlan⟩,Y.1 X G,Y.2,Z.1 X G,Z.2,⟨P,W.mg_of X G P,q_TooLong⟩,i,j,m,r,t,o,W.mg_of X G g_FIGURES,⟨_,W.mg_of X G R,λH=>.inr ⟨_,_,_,S,rfl,rfl,by show 5<=sizeLine;decide,.cons ⟨_,rfl⟩ (.cons ⟨_,rfl⟩ (.cons ⟨_,rfl⟩ (.cons ⟨_,rfl⟩ (.cons ⟨_,rfl⟩ .nil))))⟩⟩,W.mg_of X G g_LETTERS,⟨l1_Book,W.mg_of X G l1_Book,l2_Book,l3_Book⟩,⟨_,_,l4_Book,l5_Book⟩,⟨l1_Draft,W.mg_of X G l1_Draft,l2_Draft,l3_Draft⟩,⟨_,_,l4_Draft,l5_Draft⟩,⟨l1_Plan,W.mg_of X G l1_Plan,l2_Plan,l3_Plan⟩,⟨_,_,l4_Plan,l5_Plan⟩⟩ wg).imp (S1 K)⟩
def walk {l:W.OpenLaw}{q:Program}{c:Yh}{o:(Yc)->Heap->Prop}{i:World->Heap->Prop}{d:DefRec}{K:Params->W.Frag}(p:l.most=some 63)(g:d.params.defaults=[])
 (r:∀(w:World) (h:Heap),i w h->(K w.params).In h)
 (F:∀(w:World) (e:Yc) (j:Addr) (h:Heap),(K w.params).In h->h.Ns mainGlobals e->e d.name=some (.ref j) ->
  ∃m:FuncData,(∀(s:Shared) (u:Value),BindsTo s m ⟨[u],[]⟩ [("script",u)])/\∀b:Heap,(K w.params).In b->b.Ns mainGlobals e->FnOk l.prog w (K w.params) e b xa 9 j m ["script"] (B6 (K w.params))):
 W.WalkO q c o i l.row.toRowW d [] (λf t=>PySem.call f t):=
 L2.walk_of (n:=63) (k:=9) (x:= "script") (CX:=λ_=>xa) (sp:=λw=>B6 (K w.params)) p (by decide) g ⟨rfl,by decide,by decide⟩ r F (λ_ _ a v y _ A=>⟨a,v,rfl,A,y,λ_=>rfl⟩) λ_ _ _ _ _ z=>z
end My
end
open PySem PySem.W PyProof.Rows
namespace PySem.W.Fast
def tw8767790976184229435:=()
def tw339989589538634467:=()
def tw6887134001306474951:=()
def tw1088275084578190750:=()
def tw6953301718746413500:=()
def tw9847421470346484402:=()
def tw9353763682411694913:=()
def tw10360826741490822190:=()
def tw8212553180985697325:=()
def tw16334499962988099308:=()
def tw1192420600091785913:=()
def tw12503775061159760615:=()
def tw7788545620203606286:=()
def tw3286436775673081345:=()
def tw12923296384636631331:=()
def tw7933264640098456890:=()
def tw13308009321316956302:=()
def tw12223960579928651214:=()
def tw16267662338369054556:=()
def tw17623459037051791712:=()
def tw7881638996716438877:=()
def tw1106851775570790151:=()
def tw11524171029512236828:=()
def tw12043182535735914942:=()
def tw9692593789485176746:=()
def tw5797184043118203201:=()
def tw7439370259823994956:=()
def tw10075541441758502331:=()
def tw8308048041766779047:=()
def tw18432354420980190397:=()
def tw10124985201386176421:=()
def tw17445106256118744157:=()
def tw17128113293294747621:=()
def tw16881576899964776712:=()
def tw12177576488360993263:=()
def tw12297942443906685121:=()
def tw8809673473198700083:=()
def tw17459947121993676146:=()
def tw1936857877893025349:=()
def tw9954805206677738049:=()
def tw8065000441887030722:=()
def tw12970653672780590365:=()
def tw11978201482685518232:=()
def tw318934828788544826:=()
def tw1560091142896235201:=()
def tw12089877801426805971:=()
def tw13161137591845153539:=()
def tw18095484223752419055:=()
def tw5413158829446699680:=()
def tw9498023012367109274:=()
def tw8902651746347890599:=()
def tw12412093208961234005:=()
def tw8642013132436530215:=()
def tw13967850775039420196:=()
def tw975980749271166654:=()
def tw15060531692724520113:=()
def tw6346599685150762375:=()
def tw6446736448008665846:=()
def tw7100202814986958156:=()
def tw11136338290678737054:=()
def tw15130100979193366716:=()
def tw11734193850219940828:=()
def tw2644933464421578406:=()
def tw2463872988941883716:=()
def tw8533459278087348818:=()
def tw16748596672201053428:=()
def tw5375593437572338815:=()
def tw3111142073137910864:=()
def tw11654702475466633896:=()
def tw1037031139523964459:=()
def tw6726859565618104239:=()
def tw18148391386699444841:=()
def tw4206522908938151846:=()
def tw14864972582498985592:=()
def tw3772346495248461076:=()
def tw3792569313278337797:=()
def tw12847862690618801276:=()
def tw17604775303915237453:=()
def tw1731018448890090427:=()
def tw5933948188325852735:=()
def tw1539464159569993274:=()
def tw13984958736871060325:=()
def tw7873689581854686326:=()
def tw7392945868453833147:=()
def tw11492480765613407251:=()
def tw2240127424193513326:=()
def tw15083836513802562093:=()
def tw4407185347992516032:=()
def tw16362910910655801769:=()
def tw16581015928562462957:=()
def tw9399117319092423195:=()
def tw889051962267856229:=()
def tw7617358208408086080:=()
def tw15854031968069087170:=()
def tw4953227362539388568:=()
def tw16746030188702929671:=()
def tw6080159024221823562:=()
def tw4553178331233279080:=()
def tw1144939376751722943:=()
def tw14803465680704899020:=()
def tw3605031217672062339:=()
def tw17512707627679367994:=()
def tw6961479441761492808:=()
def tw1498059902638702669:=()
def tw14367526772066462417:=()
def tw16319046794055496955:=()
def tw5549098798775854894:=()
def tw16274086818515672034:=()
def tw16573419858170479599:=()
def tw1657235341619358694:=()
def tw14560975996263848607:=()
def tw13224711108654358535:=()
def tw9778660862400803789:=()
def tw5282381268104878308:=()
def tw2756078226055180456:=()
def tw12025928424356489288:=()
def tw10240509390942777560:=()
def tw7882721784982842503:=()
def tw17223179682301004548:=()
def tw14351749280769386318:=()
def tw7532865388148924940:=()
def tw4085891590957628758:=()
def tw9866457617957049381:=()
def tw14428046118380985712:=()
def tw2547087811254345434:=()
def tw6640247461534281088:=()
def tw12407188576903037428:=()
def tw2556501167934314910:=()
def tw12912933984009737997:=()
def tw3756914563600196300:=()
def tw9088353264672598966:=()
def tw5823523064285847737:=()
def tw12674280423037303775:=()
def tw6242307557067558159:=()
def tw4900287579674236531:=()
def tw5145210199499605643:=()
def tw13925453812289879883:=()
def tw13342627397180033789:=()
def tw9626531143849947234:=()
def tw9835968884517802655:=()
def tw4315412089269461932:=()
def tw16136027115090209509:=()
def tw13738379123370797646:=()
def tw17061042706703042551:=()
def tw12669926175352687799:=()
def tw7554560065302623424:=()
def tw16091665028957656832:=()
def tw16791787511314635313:=()
def tw2729042951446730155:=()
def tw2560964203796353511:=()
def tw16593562755886696384:=()
def tw3064985250914331525:=()
def tw5468439586657231138:=()
def tw15987671985540661906:=()
def tw15994335899491143159:=()
def tw4712609972960671763:=()
def tw16094235252663413930:=()
def tw10571654169194134068:=()
def tw9816371872588213742:=()
def tw14935237626861602814:=()
def tw5061192105143914249:=()
def tw11802255283160410128:=()
def tw2117504779960724555:=()
def tw16637399154227072494:=()
def tw16491547882781235160:=()
def tw3989538270611217147:=()
def tw2358883770984240122:=()
def tw4299341951242376031:=()
def tw688660286432676929:=()
def tw15047711210430584969:=()
def tw15874682833696769271:=()
def tw14277141387467161399:=()
def tw6205439541253026885:=()
def tw16186722218327856560:=()
def tw612322864454194769:=()
def tw9252135169867678005:=()
def tw3279729707590639310:=()
def tw6898174857326898567:=()
def tw3756138089196334151:=()
def tw2076244123559993187:=()
def tw8511298086453392534:=()
def tw10379039920858762479:=()
def tw7152756546551554894:=()
def tw9246207952695497735:=()
def tw13168684262739385060:=()
def tw7766211857169958063:=()
def tw16645172340397137795:=()
def tw656711569618714588:=()
def tw16631449760860796447:=()
def tw14609876522967326630:=()
def tw2495788059288054376:=()
def tw2334825693498607721:=()
def tw7483650294878150800:=()
def tw3566776782528962995:=()
def tw10087346900442198919:=()
def tw12227171740428160707:=()
def tw18306075851957397757:=()
def tw13006452608218964394:=()
def tw6229996071808942923:=()
def tw6865880315348671011:=()
def tw17970156423064888528:=()
def tw10173483437125803240:=()
def tw13156282113334842316:=()
def tw4717837596676608835:=()
def tw18296742964512625609:=()
def tw16029939803230102489:=()
def tw1217429986260495086:=()
def tw9339474276351037748:=()
def tw4955720734628625486:=()
def tw4419762807222693551:=()
def tw17381974987618923706:=()
def tw8438142571455169880:=()
def tw17117685945410051678:=()
def tw7980294132467339755:=()
def tw1956742129784848538:=()
def tw10468057285526550170:=()
def tw208967855772052342:=()
def tw3881297249679638485:=()
def tw12804136649329273797:=()
def tw13573476743335112092:=()
def tw5911492150285408365:=()
def tw1060496585283148188:=()
def tw9789000848446593171:=()
def tw9750076508579285335:=()
def tw1203290446455135788:=()
def tw13769890241894953926:=()
def tw14328806396868703393:=()
def tw14842751405986423756:=()
def tw17849056507268615976:=()
def tw4413542554541380320:=()
def tw4055327859965532785:=()
def tw10826109481476077433:=()
def tw12957205364108978879:=()
end PySem.W.Fast
set_option maxRecDepth 100000 in
set_option maxHeartbeats 0 in
theorem PySem.Challenge.cw_allfirst_k58_whole_read_is_written_holds : PySem.Challenge.rw_allfirst_k58_whole_read_is_written.Holds := by
 w_on;o_law;k_head;(case hw=>w_witness2)
 k_fill
 refine My.walk (l:=PySem.Challenge.rw_allfirst_k58_whole_read_is_written) rfl rfl (fun w h Y=>PySem.W.kIn_of Y) ?F
 case F =>
  intro w mg fa h KX G hmg;refine' My.all_mk KX G hmg ?d ?z ?dl ?a_AllError ?q_AllError ?a_BadName ?q_BadName ?a_BadPart ?q_BadPart ?a_BadPlan ?q_BadPlan ?x_BadRow ?x_NoName ?a_TooLong ?q_TooLong ?u_BadName_AllError ?u_BadPart_AllError ?u_BadPlan_AllError ?u_BadRow_AllError ?u_NoName_AllError ?u_TooLong_AllError ?g_FIGURES ?g_KEPT_WORDS ?h_KEPT_WORDS ?g_LETTERS ?l_Book ?l_Draft ?l_Plan
  (case d =>
   repeat (apply L2.DL.dfs_cons;focus (refine' ⟨_,_,?a,L2.fun_mk ?l ?c ?k⟩;(case a=>k_is);(case l=>k_is);(case c=>k_is);(case k=>k_is)))
   exact True.intro)
  (case z =>
   repeat (apply L2.DL.nn_cons;focus k_is)
   exact True.intro)
  (case dl=>refine' ⟨_,_,?a,L2.fun_mk ?l ?c ?k⟩;(case a=>k_is);(case l=>k_is);(case c=>k_is);(case k=>k_is))
  (case a_AllError=>k_is)
  (case q_AllError=>k_exc)
  (case a_BadName=>k_is)
  (case q_BadName=>k_exc)
  (case a_BadPart=>k_is)
  (case q_BadPart=>k_exc)
  (case a_BadPlan=>k_is)
  (case q_BadPlan=>k_exc)
  (case x_BadRow=>refine' L2.excI_mk ?ua ?ul ?um ?ud ?uh ?ue ?ui ?un ?uo ?us (L2.fun_mk ?uf ?uc ?uk);(case ua=>k_is);(case ul=>k_is);(case um=>rfl);(case ud=>rfl);(case uh=>rfl);(case ue=>k_exc);(case ui=>k_is);(case un=>k_is);(case uo=>show PySem.W.findIn _ _ _=_;k_is);(case us=>k_is);(case uf=>k_is);(case uc=>k_is);(case uk=>k_is))
  (case x_NoName=>refine' L2.excI_mk ?ua ?ul ?um ?ud ?uh ?ue ?ui ?un ?uo ?us (L2.fun_mk ?uf ?uc ?uk);(case ua=>k_is);(case ul=>k_is);(case um=>rfl);(case ud=>rfl);(case uh=>rfl);(case ue=>k_exc);(case ui=>k_is);(case un=>k_is);(case uo=>show PySem.W.findIn _ _ _=_;k_is);(case us=>k_is);(case uf=>k_is);(case uc=>k_is);(case uk=>k_is))
  (case a_TooLong=>k_is)
  (case q_TooLong=>k_exc)
  (case u_BadName_AllError|u_BadPart_AllError|u_BadPlan_AllError|u_BadRow_AllError|u_NoName_AllError|u_TooLong_AllError|g_FIGURES|g_KEPT_WORDS|h_KEPT_WORDS|g_LETTERS=>k_is)
  (case l_Book=>refine' ⟨_,_,_,?ua,⟨?up,?uh,?uo,?us⟩,List.forall_mem_cons.mpr ⟨?uf0,List.forall_mem_nil _⟩,⟨?um,?ui,?un,?ue⟩,L2.fun_mk ?ul ?uc ?uk⟩;(case ua=>k_is);(case ui=>k_is);(case ul=>k_is);(case uc=>k_is);(case uk=>k_is);(case up=>k_is);(case uh=>k_is);(case uo=>k_is);(case us=>k_is);(case um=>k_is);(case un=>k_is);(case ue=>k_is);(case uf0=>show PySem.W.findIn _ _ _=_;k_is))
  (case l_Draft=>refine' ⟨_,_,_,?ua,⟨?up,?uh,?uo,?us⟩,List.forall_mem_cons.mpr ⟨?uf0,List.forall_mem_cons.mpr ⟨?uf1,List.forall_mem_cons.mpr ⟨?uf2,List.forall_mem_nil _⟩⟩⟩,⟨?um,?ui,?un,?ue⟩,L2.fun_mk ?ul ?uc ?uk⟩;(case ua=>k_is);(case ui=>k_is);(case ul=>k_is);(case uc=>k_is);(case uk=>k_is);(case up=>k_is);(case uh=>k_is);(case uo=>k_is);(case us=>k_is);(case um=>k_is);(case un=>k_is);(case ue=>k_is);(case uf0=>show PySem.W.findIn _ _ _=_;k_is);(case uf1=>show PySem.W.findIn _ _ _=_;k_is);(case uf2=>show PySem.W.findIn _ _ _=_;k_is))
  (case l_Plan=>refine' ⟨_,_,_,?ua,⟨?up,?uh,?uo,?us⟩,List.forall_mem_cons.mpr ⟨?uf0,List.forall_mem_cons.mpr ⟨?uf1,List.forall_mem_cons.mpr ⟨?uf2,List.forall_mem_nil _⟩⟩⟩,⟨?um,?ui,?un,?ue⟩,L2.fun_mk ?ul ?uc ?uk⟩;(case ua=>k_is);(case ui=>k_is);(case ul=>k_is);(case uc=>k_is);(case uk=>k_is);(case up=>k_is);(case uh=>k_is);(case uo=>k_is);(case us=>k_is);(case um=>k_is);(case un=>k_is);(case ue=>k_is);(case uf0=>show PySem.W.findIn _ _ _=_;k_is);(case uf1=>show PySem.W.findIn _ _ _=_;k_is);(case uf2=>show PySem.W.findIn _ _ _=_;k_is))
