import PyProof.Rows.All
import Wide.All
import OpenK.AllK
import Wide.FinOn
import Lean
import PyProof.EqAt
import PyProof.EqKinds
import PyProof.TupleCall
import PyProof.P3Eq
import PyProof.NeData
import PySem.Challenge.RW_allfirst_k71_whole_holding_by_runs
set_option autoImplicit true
set_option relaxedAutoImplicit true
set_option Elab.async false
set_option linter.all false
set_option maxRecDepth 100000
open PySem PySem.Spec PyProof.Rows
theorem Zqi.{u} {α:Type u}{a b:α}(h:some a=some b):a=b:=Option.some.inj h
theorem Zqg.{u} {α:Type u}{l:List α}{i:Nat}(h:i<l.length):l[i]? = some l[i]:=List.getElem?_eq_getElem h
theorem Zqs.{u} {α:Type u}{a:α}{l:List α}:a∈a::l:=List.mem_cons_self
theorem Zqm.{u} {α:Type u}(y:α){a:α}{l:List α}(h:a∈l):a∈y::l:=List.mem_cons_of_mem y h
theorem Zql.{u,v} {α:Type u}{β:Type v}{l:List α}(f:α->β):(l.map f).length=l.length:=List.length_map f
abbrev Za:=@wpAny_bind
abbrev Zb:=@wpAny_pure
abbrev Zc:=@wpAny_mono
abbrev Zd:=@if_pos
abbrev Ze:=@if_neg
abbrev Zf:=@Nat.le_refl
abbrev Zg:=@Nat.lt_of_lt_of_le
abbrev Zh:=@Nat.le_trans
abbrev Zi:=@Nat.ne_of_lt
abbrev Zj:=@Bool.false_ne_true
abbrev Zk:=@Heap.lt_size
abbrev Zl:=@List.map_cons
abbrev Zm:=@List.size_toArray
abbrev Zn:=@absurd
abbrev Zo:=@decide_eq_false
abbrev Zp:=@decide_eq_true
abbrev Zq:=@Heap.get?_push_of_some
abbrev Zr:=@Heap.get?_push_size
abbrev Zs:=@iff_of_false
abbrev Zt:=@congrArg
abbrev Zu:=@List.length_cons
abbrev Zv:=@List.getElem?_map
abbrev Zw:=@List.map_map
abbrev Zx:=@List.getElem?_set_ne
abbrev Zy:=@Nat.lt_irrefl
abbrev Zz:=@Nat.le_of_lt
abbrev ZA:=@List.append_nil
abbrev ZB:=@List.length_range
abbrev ZC:=@List.length_nil
set_option maxHeartbeats 4000000
abbrev Ya:=PySem.Value->PySem.Shared->Prop
abbrev Yb:=List (PySem.Addr×PySem.Obj)
abbrev Yc:=List (Nat×Nat×Nat)
abbrev Yd:=Nat->Nat->Bool
abbrev Ye:=PySem.Str->Option PySem.Value
abbrev Yf:=List PySem.Value
abbrev Yg:=Option PySem.Value
abbrev Yh:=List Int
abbrev Yi:=Array Nat
abbrev Yj:=List Nat
abbrev Yk:=List PySem.Str
abbrev Yl:=List PySem.Addr
abbrev Ym:=List PySem.Expr
abbrev Yn:=Array PySem.Value
abbrev Yo:=@PyProof.Rows.wpS_bind
abbrev Yp:=@PyProof.Rows.wpS_pure
abbrev Yq:=@PyProof.Rows.wpS_mono
abbrev Yr:=@PyProof.Rows.wpS_forRange
abbrev Ys:=@beq_iff_eq
abbrev Yt:=@Unit.unit
abbrev Yu:=@Bool.eq_false_iff
abbrev Yv:=@Nat.lt_of_not_le
abbrev Yw:=@Nat.one_pos
abbrev Yx:=@Nat.le_of_eq
abbrev Yy:=@PySem.F.plainAttrs_list
abbrev Yz:=@PySem.F.slot_list_append
abbrev YA:=@PySem.F.type_list_append
abbrev YB:=PyProof.Rows.SortSt->Prop
abbrev YC:=PySem.Shared->Prop
abbrev YD:=PySem.SetTable
noncomputable section
local macro_rules | `(tactic| trivial) => `(tactic| first|exact .inl rfl|exact .inr rfl|assumption)
local macro_rules | `(()) => `(by first|lia|omega|(simp;done)|grind|simp_all)
abbrev Ua:=@List.length_append
abbrev Ub:=@Nat.zero_le
abbrev Uc:=@List.map_append
abbrev Ud:=@List.append_assoc
abbrev Ue:=@Sum.inl
abbrev Uf:=@List.length_take
abbrev Ug:=@Nat.lt_trans
abbrev Uh:=@Bool.and_eq_true
abbrev Ui:=@Array.length_toList
abbrev Uj:=@List.length_singleton
abbrev Ul:=@Array.size_map
abbrev Uo:=@Nat.le_add_right
abbrev Uq:=@Nat.le_of_lt_succ
abbrev Ur:=@List.mem_of_getElem?
abbrev Us:=@Nat.blt
abbrev Ut:=@List.mem_append_right
abbrev Uu:=@List.drop_eq_getElem_cons
abbrev Uv:=@Array.getElem?_eq_getElem
abbrev Uw:=@Nat.le_of_succ_le
abbrev Uy:=@Nat.mod_lt
abbrev Uz:=@List.filterMap_cons
abbrev UA:=@Nat.lt_succ_self
abbrev UB:=@Nat.lt_of_le_of_ne
abbrev UC:=@Nat.lt_succ_of_lt
abbrev UD:=@Bool.false_eq_true
abbrev UE:=@List.map_congr_left
abbrev UF:=@Nat.blt_eq
abbrev UG:=@List.getElem_of_mem
abbrev UH:=@Nat.lt_of_le_of_lt
abbrev UI:=@List.take_append_drop
abbrev UJ:=@Nat.succ.inj
abbrev UK:=@List.getElem_mem
abbrev UL:=@List.getD_eq_getElem?_getD
abbrev UM:=@List.drop_length
abbrev UN:=@Sum.inr
abbrev UO:=@Array.getElem?_map
abbrev UP:=@Nat.not_lt_zero
abbrev UQ:=@List.take_of_length_le
abbrev UR:=@Nat.mod_eq_of_lt
abbrev US:=@Int.le_refl
abbrev UT:=@List.getElem?_set_self
abbrev UU:=@Nat.lt_of_succ_lt
abbrev UV:=@List.mem_cons
abbrev UW:=@Nat.lt_trichotomy
abbrev UX:=@List.pairwise_map
abbrev UY:=@Int.le_trans
abbrev UZ:=@Nat.ne_of_gt
abbrev U0:=@Bool.or_eq_true
abbrev U4:=@List.foldl_cons
abbrev U5:=@Nat.sub_le
abbrev U6:=@Array.ext'
abbrev U7:=@Nat.exists_eq_add_of_le
abbrev U8:=@List.length_set
abbrev U9:=@List.all_cons
abbrev Va:=@Nat.succ_pos
abbrev Vb:=@List.length_filter_le
abbrev Vc:=@Bool.eq_iff_iff
abbrev Vd:=@List.zip_cons_cons
abbrev Ve:=@List.drop_eq_nil_of_le
abbrev Vf:=@Nat.min_eq_left
abbrev Vg:=@List.Perm.trans
abbrev Vh:=@List.Perm.refl
abbrev Vi:=@Nat.zero_add
abbrev Vj:=@Nat.le_succ_of_le
abbrev Vk:=@Array.getElem?_toList
abbrev Vl:=@List.getElem?_append_left
abbrev Vm:=@List.getElem?_append_right
abbrev Vn:=@List.not_mem_nil
abbrev Vo:=@Array.forIn_toList
abbrev Vp:=@List.foldl_append
abbrev Vq:=@Nat.lt_or_ge
abbrev Vr:=@List.take_succ
abbrev Vs:=@Nat.add_sub_of_le
abbrev Vt:=@Nat.succ_le_succ
abbrev Vu:=@Nat.lt_of_add_lt_add_left
abbrev Vv:=@Array.size_extract
abbrev Vw:=@List.nodup_nil
abbrev Vx:=@Nat.le_of_ble_eq_true
abbrev Vy:=@Int.toNat_natCast
abbrev Vz:=@Int.zero_add
abbrev VA:=@Nat.mul_le_mul
abbrev VB:=@List.take_length
abbrev VC:=@Array.swapIfInBounds_def
abbrev VD:=@List.pairwise_append
abbrev VE:=@Nat.add_sub_cancel_left
abbrev VF:=@Array.getElem?_eq_none
abbrev VG:=@List.getElem_map
abbrev VH:=@List.any_eq_true
abbrev VI:=@Nat.eq_zero_or_pos
abbrev VJ:=@Array.mem_toList_iff
abbrev VL:=@Array.getElem_mem
abbrev VM:=@List.ext_getElem?
abbrev VN:=@List.all_eq_true
abbrev VO:=@List.getLastD_concat
abbrev VP:=@List.getElem?_take_of_lt
abbrev VQ:=@List.getElem?_zip_eq_some
abbrev VR:=@Array.getElem?_extract
abbrev VS:=@List.extract_eq_drop_take
abbrev VT:=@Nat.le_of_add_le_add_left
abbrev VU:=@List.pairwise_singleton
abbrev VV:=@Array.getD_eq_getD_getElem?
abbrev VW:=@List.Nodup.length_le_of_subset
abbrev Ja:=@List.mem_map
abbrev Jb:=@List.mem_append
abbrev Jc:=@List.getElem?_eq_some_iff
abbrev Jd:=@List.map_eq_nil_iff
abbrev Je:=@List.mem_singleton
abbrev Jf:=@List.mem_filter
abbrev Jg:=@Option.bind_eq_some_iff
abbrev Jh:=@List.mem_range
abbrev Ji:=@List.pairwise_cons
abbrev Jj:=@List.pairwise_iff_getElem
abbrev Jk:=@Option.map_eq_some_iff
abbrev Jl:=@List.nodup_cons
abbrev Jm:=@List.mem_iff_getElem?
abbrev Jn:=@Nat.lt_succ_iff
abbrev Jo:=@List.length_pos_iff
abbrev Jp:=@Array.perm_iff_toList_perm
abbrev Jq:=@List.length_eq_zero_iff
abbrev Jr:=@List.mem_filterMap
abbrev Js:=@Option.isSome_iff_exists
abbrev Jt:=@Bool.and_eq_true_iff
abbrev Ju:=@List.mem_iff_getElem
abbrev Jv:=@Array.getElem?_eq_some_iff
abbrev Jw:=@List.find?_range_eq_none
abbrev Jx:=@List.append_eq_nil_iff
abbrev Jy:=List (Int×Int)
abbrev Jz:=List Jy
namespace L2
abbrev j0:=Sum Int Str
def WA:j0->Value->Bool
 | .inl k,v=>Value.isInt k v
 | .inr x,v=>Value.isStrOf x v
def mP (w:World):j0->Int
 | .inl k=>hashInt k
 | .inr x=>hashStr w x
def KG:∀{k:j0} {v:Value},WA k v=true->(∃i t,k=Ue i/\v=Value.int i t)\/(∃x t,k=UN x/\v=Value.str x t)
 | .inl i,v,h=>by
  obtain⟨t,e⟩:=Value.isInt_shape (k:=i) (v:=v) h;exact .inl ⟨i,t,rfl,e⟩
 | .inr x,v,h=>by
  obtain⟨t,e⟩:=Value.isStrOf_shape (x:=x) (v:=v) h;exact .inr ⟨x,t,rfl,e⟩
def E7 (i:Int)(t:Tok):WA (.inl i) (.int i t)=true:=by simp[WA,Value.isInt]
def M3 (x:Str)(t:Tok):WA (.inr x) (.str x t)=true:=by simp[WA,Value.isStrOf]
def M4 (a b:Int):decide ((Ue a:j0)=Ue b)=(a == b):=()
def M5 (a b:Str):decide ((UN a:j0)=UN b)=decide (a=b):=()
def M6 (a:Int)(b:Str):decide ((Ue a:j0)=UN b)=false:=rfl
def M7 (a:Str)(b:Int):decide ((UN a:j0)=Ue b)=false:=rfl
def Qt (prog:Program)(w:World):PySem.KeyKind prog w j0 where
 is:=WA
 hash:=mP w
 inj:=λv a b g f=>by
  rcases KG g with ⟨i,t,rfl,rfl⟩|⟨x,t,rfl,rfl⟩
  .rcases KG f with ⟨j,u,rfl,e⟩|⟨y,u,rfl,e⟩
   .injection e with e1 _;rw[e1]
   .exact nomatch e
  .rcases KG f with ⟨j,u,rfl,e⟩|⟨y,u,rfl,e⟩
   .exact nomatch e
   .injection e with e1 _;rw[e1]
 byValue:=λk v h=>by
  rcases KG h with ⟨i,t,rfl,rfl⟩|⟨x,t,rfl,rfl⟩<;>rfl
 pyHash:=λc h=>by
  rcases KG c with ⟨i,t,rfl,rfl⟩|⟨x,t,rfl,rfl⟩
  .exact wpAny_pyHash_int h
  .exact wpAny_pyHash_str h
 eqBool:=λl c h=>by
  rcases KG l with ⟨i,t,rfl,rfl⟩|⟨x,t,rfl,rfl⟩
  .rcases KG c with ⟨j,u,rfl,rfl⟩|⟨y,u,rfl,rfl⟩
   .rw[M4] at h;exact wpAny_eqBool_int h
   .rw[M6] at h;exact SeqAt.EqAt.int_str i t y u _ _ _ _ h
  .rcases KG c with ⟨j,u,rfl,rfl⟩|⟨y,u,rfl,rfl⟩
   .rw[M7] at h;exact SeqAt.EqAt.str_int x t j u _ _ _ _ h
   .rw[M5] at h;exact wpAny_eqBool_str h
 «strs»:=λk x t v h=>by
  rcases KG h with ⟨i,u,rfl,e⟩|⟨y,u,rfl,e⟩
  .exact nomatch e
  .injection e with e1 _
   subst e1;cases v<;>rfl
def M8 (prog:Program)(w:World)(i:Int)(t:Tok):(Qt prog w).is (.inl i) (.int i t)=true:=E7 i t
def M9 (prog:Program)(w:World)(x:Str)(t:Tok):(Qt prog w).is (.inr x) (.str x t)=true:=M3 x t
inductive V where
 |non|bl (b:Bool)|int (i:Int)|str (x:Str)|byt (b:Array UInt8)|flt (b:UInt64)|ref (a:Addr)|ty (n:String)
 deriving DecidableEq
abbrev _root_.YE:=List V
abbrev _root_.YF:=Option V
def jq:V->Value->Prop
 | .non,u=>u=Value.none
 | .bl b,u=>u=Value.bool b
 | .int i,u=>∃t,u=Value.int i t
 | .str x,u=>∃t,u=Value.str x t
 | .byt b,u=>∃t,u=Value.bytes b t
 | .flt b,u=>∃t,u=Value.float b t
 | .ref a,u=>u=Value.ref a
 | .ty n,u=>u=Value.type n
abbrev jp:YE->List Value->Prop:=Paired jq
theorem jp.length {a:YE}{b:Yf}(r:jp a b):a.length=b.length:=Paired.length r
theorem jp.get:∀{a:YE} {b:Yf} {i:Nat} {x:V},jp a b->a[i]? = some x->∃u,b[i]? = some u/\jq x u
 |_,_,_,_,.nil,e=>by simp at e
 |_,_,0,_,.cons r _,e=>by simp_all
 |_,_,i+1,x,.cons _ t,e=>by
  obtain⟨u,c,f⟩:=jp.get t (by simpa using e)
  simp_all
theorem jp.set {x:V}{u:Value}(r:jq x u):∀{a:YE} {b:Yf} (i:Nat),jp a b->jp (a.set i x) (b.set i u)
 |_,_,_,.nil=>.nil
 |_,_,0,.cons _ t=>.cons r t
 |_,_,i+1,.cons q t=>.cons q (jp.set r i t)
def jp.append:∀{a ys:YE} {b c:Yf},jp a b->jp ys c->jp (a++ys) (b++c):=λh s=>by
 induction h with
 |nil=>exact s
 |cons r _ e=>exact .cons r e
def jp.none_of:∀{a:YE} {b:Yf} {i:Nat},jp a b->a[i]? = none->b[i]? = none:=λ{a b i} r e=>by
 have c:=r.length
 simp_all
def xt:YF->Option Value->Prop
 |some v,some u=>jq v u
 |none,none=>True
 |_,_=>False
def KV {κ: Type}:List (κ × V)->List (κ × Value)->Prop:=Paired λ(p:κ × V) (q:κ × Value)=>p.1=q.1/\jq p.2 q.2
def kV:j0->V
 | .inl i=>.int i
 | .inr x=>.str x
inductive HO where
 |lst (xs:YE)
 |tup (xs:YE)
 |dK (kvs:List (j0×V))|dT (kvs:List (List j0×V))
 |set (S:Int->Bool) (n:Nat)
 |ins (C dx:Addr) (fs:List (Str×V))
 |own (x:Addr)
 |xd (fs:List (Str×V))
 |met (f x:Addr)
 |rng (lo hi:Int)
 |frz (o:Obj) (u:HO)
 |tbl (ps:Yn)
 |ext (φ: Heap->Prop)
abbrev Hp:=Addr->Option HO
def j9 (H:Hp)(a:Addr)(o:HO):Hp:=λb=>if b=a then some o else H b
def JL {H:Hp}{a:Addr}{o:HO}:j9 H a o a=some o:=by unfold j9;rw[Zd rfl]
def JJ {H:Hp}{a b:Addr}{o:HO}(h:b≠a):j9 H a o b=H b:=by unfold j9;rw[Ze h]
def Ka {H:Hp}{a b:Addr}{o:HO}(h:H a=some o)(h':H b=none):a≠b:=()
section
variable (P:Program)(w:World)
def xX (H:Hp)(h:Heap)(a:Addr):HO->Prop
 | .lst b=>b.length<=sizeLine/\∃(its:Yf) (n:Nat),jp b its/\h.get? a=some { cls:=.type "list",data:=.seq its.toArray n }
 | .tup b=>(b.length<=sizeLine/\∃o,h.get? a=some o/\o.dict=none)/\∃its:Yf,jp b its/\IsTup h a its.toArray
 | .dK kvs=>kvs.length<=sizeLine/\(a == sysModules)=false/\∃c,KV kvs c/\h.DictOf (Qt P w) a c
 | .dT kvs=>kvs.length<=sizeLine/\(a == sysModules)=false/\∃b:List (List j0×Addr×Value),
  Paired (λ(p:List j0×V) (q:List j0×Addr×Value)=>p.1=q.1/\H q.2.1=some (.tup (p.1.map kV))/\jq p.2 q.2.2) kvs b /\
  ∃o es ep,h.get? a=some o/\o.ExactDict/\o.data=.dict es ep/\es.toList=b.map (entryOfKey (tupleKind (Qt P w)))/\(b.map (·.1)).Nodup
 | .set S n=>h.SetOf (intKind P w) a S n
 | .ins C dx fs=>H dx=some (.own a)/\fs.length<=1000/\dx≠a/\h.get? a=some (W.instObj C dx) /\
  ∃mA,h.Ns1 dx mA/\(∀f,xt (fs.lookup f) (mA f))/\PySem.Within mA (fs.map (·.1))
 | .own _=>∃o,h.get? a=some o
 | .xd fs=>∃mA,h.Ns1 a mA/\∀f,xt (fs.lookup f) (mA f)
 | .rng lo hi=>∃t u v,h.get? a=some { cls:=.type "range",data:=.fields #[.int lo t,.int hi u,.int 1 v] }
 | .frz o u=>h.get? a=some o/\xX H h a u
 | .tbl ps=>h.get? a=some { cls:=.none,data:=.fields ps }
 | .met f x=>h.get? a=some (W.methodObj (.ref f) (.ref x))
 | .ext φ => φ h/\(∃o,h.get? a=some o)/\∀e g:Heap,φ e->(∀o,e.get? a=some o->g.get? a=some o) -> φ g
def qR (H:Hp)(h:Heap):Prop:=∀a o,H a=some o->xX P w H h a o
end
section
variable {P:Program}{w:World}{H H':Hp}{h h':Heap}{a:Addr}{o:HO}
theorem xX.lt (x:xX P w H h a o):a<h.objs.size:=by
 cases o with
 |lst c=>obtain⟨_,_,_,_,e⟩:=x;exact Zk e
 |tup c=>obtain⟨_,_,_,p⟩:=x;exact p.lt
 |dK b=>obtain⟨_,_,_,_,o,_,_,e,_⟩:=x;exact Zk e
 |dT b=>obtain⟨_,_,_,_,o,_,_,e,_⟩:=x;exact Zk e
 |set S n=>obtain⟨o,_,_,_,e,_⟩:=x;exact Zk e
 |ins C g fs=>obtain⟨_,_,_,e,_⟩:=x;exact Zk e
 |own y=>obtain⟨_,e⟩:=x;exact Zk e
 |xd fs=>obtain⟨_,⟨_,_,_,e,_⟩,_⟩:=x;exact Zk e
 |rng lo i=>obtain⟨_,_,_,e⟩:=x;exact Zk e
 |frz j u=>obtain⟨e,_⟩:=x;exact Zk e
 |tbl ps=>exact Zk (show h.get? a=some _ from x)
 |met f y=>exact Zk (show h.get? a=some _ from x)
 |ext φ => obtain⟨_,⟨_,e⟩,_⟩:=x;exact Zk e
def xH {α β: Type}{F G:α -> β -> Prop}:∀{l₁:List α} {l₂:List β},Paired F l₁ l₂->(∀a b,F a b->G a b)->Paired G l₁ l₂:=λh f=>by
 induction h with
 |nil=>exact .nil
 |cons r _ c=>exact .cons (f _ _ r) c
def xX.stay (x:xX P w H h a o)(k:∀b u,(b=a\/H b=some (.own a))->h.get? b=some u->h'.get? b=some u)
 (m:∀b,H b=some (.own a)->H' b=some (.own a)) (E:∀b i,H b=some (.tup i)->H' b=some (.tup i)):xX P w H' h' a o:=by
 induction o with
 |lst i=>obtain⟨z,its,n,r,e⟩:=x;exact⟨z,its,n,r,k _ _ (.inl rfl) e⟩
 |tup i=>obtain⟨⟨z,j,F,dd⟩,its,r,g,e,c⟩:=x;exact⟨(),its,r,g,k _ _ (.inl rfl) e,c⟩
 |dK l=>have ⟨z,y,s,r,g,es,ep,e,c⟩:=x;exact⟨z,y,s,r,g,es,ep,k _ _ (.inl rfl) e,c⟩
 |dT l =>
  obtain⟨z,y,i,r,g,es,ep,e,c⟩:=x;exact⟨z,y,i,xH r (),g,es,ep,k _ _ (.inl rfl) e,c⟩
 |set S n=>have ⟨g,es,ep,t,e,c⟩:=x;exact⟨g,es,ep,t,k _ _ (.inl rfl) e,c⟩
 |ins C G fs =>
  obtain⟨d,z,ne,e,mA,⟨j,es,ep,A,c⟩,r⟩:=x;exact⟨m _ d,z,ne,k _ _ (.inl rfl) e,mA,⟨j,es,ep,k _ _ (.inr d) A,c⟩,r⟩
 |own y=>have ⟨g,e⟩:=x;exact⟨g,k _ _ (.inl rfl) e⟩
 |xd fs=>obtain⟨mA,⟨j,es,ep,e,c⟩,r⟩:=x;exact⟨mA,⟨j,es,ep,k _ _ (.inl rfl) e,c⟩,r⟩
 |rng lo I=>have ⟨t,u,v,e⟩:=x;exact⟨t,u,v,k _ _ (.inl rfl) e⟩
 |frz g u B=>exact⟨k _ _ (.inl rfl) x.1,B x.2⟩
 |tbl ps =>
  exact k a _ (.inl rfl) x
 |met f y =>
  exact k a _ (.inl rfl) x
 |ext φ => have ⟨p,⟨o,e⟩,st⟩:=x;exact⟨st _ _ p λo q=>k _ _ (.inl rfl) q,⟨o,k _ _ (.inl rfl) e⟩,st⟩
theorem qR.lt (x:qR P w H h)(e:H a=some o):a<h.objs.size:=(x a o e).lt
def qR.fresh (x:qR P w H h)(e:h.objs.size<=a):H a=none:=by
 cases q:H a with
 |none=>rfl
 |some u=>exact Zn (Zg (x.lt q) e) (Zy _)
def qR.kept (x:qR P w H h)(k:∀b u,h.get? b=some u->h'.get? b=some u):qR P w H h':=λa o e =>
 (x a o e).stay () (λ_ q=>q) λ_ _ q=>q
def qR.laid (x:qR P w H h)(k:∀b u,h.get? b=some u->h'.get? b=some u)(hp:h.objs.size<=a)(new:xX P w (j9 H a o) h' a o):qR P w (j9 H a o) h':=λb u e=>by
 have f:=x.fresh hp;by_cases g:b=a
 .simp_all [JL]
 .rw[JJ g] at e;exact(x b u e).stay () (λc q=>by rwa [JJ (Ka q f)]) λc i q=>by rwa [JJ (Ka q f)]
end
def Rd (H:Hp)(a:Addr)(u:HO):Prop:=H a=some u\/∃o,H a=some (.frz o u)
def Rd.ok {P:Program}{w:World}{H:Hp}{h:Heap}{a:Addr}{u:HO}(r:Rd H a u)(x:qR P w H h):xX P w H h a u:=by
 rcases r with r|⟨o,r⟩
 .exact x a u r
 .obtain⟨_,q⟩:=x a _ r;exact q
def fL:Option HO->Prop
 |some (.lst _)=>True
 |some (.dK _)=>True
 |some (.dT _)=>True
 |some (.set _ _)=>True
 |some (.ins _ _ _)=>True
 |some (.ext _)=>True
 |_=>False
section
variable {P:Program}{w:World}{H:Hp}{h h':Heap}{x e:Addr}{o':HO}
def qR.write (ok:qR P w H h)(l:fL (H x))(o:e=x\/H e=some (.own x))(k:∀b u,b≠e->h.get? b=some u->h'.get? b=some u)(i:∃u,h'.get? e=some u)
 (new:xX P w (j9 H x o') h' x o'):qR P w (j9 H x o') h':=λb u q=>by
 have a:∀c y,H c=some (.own y)->c≠x:=λc y r z=>by subst z;rwa [r] at l
 have f:∀c g,H c=some (.tup g)->c≠x:=λc g r z=>by subst z;rwa [r] at l
 by_cases n:b=x
 .simp_all [JL]
 .rw[JJ n] at q;by_cases j:b=e
  .have m:H b=some (.own x):=by
    simp_all
   rw[q] at m;cases m;obtain⟨v,p⟩:=i;exact⟨v,by rwa [j]⟩
  .refine(ok b u q).stay (λc v s r=>k c v ?_ r) (λc r=>by rwa [JJ (a c b r)]) λc g r=>by rwa [JJ (f c g r)]
   grind
end
structure Un (fs ex:Yl)(H H':Hp)(h h':Heap):Prop where
 keep:∀b o,h.get? b=some o->H b=none->b∉fs->b∉ex->h'.get? b=some o
 slot:∀b o,h.get? b=some o->H b=none->b∈fs->b∉ex->∃sl,h'.get? b=some { o with slots:=sl }
 free:∀b o,h.get? b=some o->H b=none->b∉ex->H' b=none
 there:∀b o,h.get? b=some o->b∉ex->∃o',h'.get? b=some o'
 tups:∀b xs,H b=some (.tup xs)->H' b=some (.tup xs)
 frzs:∀b o u,H b=some (.frz o u)->H' b=some (.frz o u)
 tbls:∀b ps,H b=some (.tbl ps)->∃more,H' b=some (.tbl (ps++more))
section
variable {fs fs' ex ex':Yl}{H H1 H2:Hp}{h h1 h2 h':Heap}{a x e:Addr}{o:HO}
def Un.any (u:Un fs ex H H1 h h1){b:Addr}{c:Obj}(q:h.get? b=some c)(n:H b=none)(f:b∉ex):∃i,h1.get? b=some { c with slots:=i }:=by
 by_cases g:b∈fs
 .exact u.slot b c q n g f
 .exact⟨c.slots,u.keep b c q n g f⟩
def Un.kept (k:∀b u,h.get? b=some u->h'.get? b=some u):Un fs ex H H h h':=
 ⟨(),λb c q _ _ _=>⟨c.slots,k b c q⟩,λ_ _ _ n _=>n,(),λ_ _ q=>q,λ_ _ _ q=>q,λ_ ps q=>⟨#[],by rw[q];simp⟩⟩
def Un.refl:Un fs ex H H h h:=Un.kept λ_ _ q=>q
def Un.laid (k:∀b u,h.get? b=some u->h'.get? b=some u)(hp:h.objs.size<=a)(c:H a=none):Un fs ex H (j9 H a o) h h' where
 keep:=by grind
 slot:=λb u q _ _ _=>⟨u.slots,k b u q⟩
 free:=λb u q n _=>by rwa [JJ (Zi (Zg (Zk q) hp))]
 there:=by grind
 tups:=λb f q=>by rwa [JJ (Ka q c)]
 frzs:=λb u f q=>by rwa [JJ (Ka q c)]
 tbls:=λb ps q=>⟨#[],by rw[JJ (Ka q c),q];simp⟩
def Un.write (f:fL (H x))(m:e=x\/H e=some (.own x))(k:∀b u,b≠e->h.get? b=some u->h'.get? b=some u)(g:∃u,h'.get? e=some u):Un fs ex H (j9 H x o) h h':=by
 have i:∀b,H b=none->b≠x:=λb n z=>by subst z;rwa [n] at f
 have j:∀b,H b=none->b≠e:=by grind
 have c:∀b u,H b=some u->¬fL (some u)->b≠x:=by grind
 refine⟨(),λb u q n _ _=>⟨u.slots,k b u (j b n) q⟩,λb u q n _=>by rwa [JJ (i b n)],λb u q _=>?_,
  λb l q=>by rwa [JJ (c b _ q λz=>z)],λb u l q=>by rwa [JJ (c b _ q λz=>z)],λb ps q=>⟨#[],by rw[JJ (c b _ q λz=>z),q];simp⟩⟩
 grind
end
def trk (h:Heap)(H:Hp):Yl:=(List.range h.objs.size).filter λa=>(H a).isSome
def y9 (h:Heap)(H:Hp):Heap:=W.hideAll h (trk h H)
def MA (h:Heap)(H:Hp):(y9 h H).objs.size=h.objs.size:=W.hideAll_size _ _
def MB {h:Heap}{H:Hp}{b:Addr}{o:Obj}(e:h.get? b=some o)(n:H b=none):(y9 h H).get? b=some o:=
 W.hideAll_get _ e λa=>by
  have q:=(Jf.mp a).2;rw[n] at q;simp at q
def MC {h:Heap}{H:Hp}{b:Addr}{o:Obj}(e:(y9 h H).get? b=some o):h.get? b=some o/\H b=none:=by
 have a:=W.of_hideAll (trk h H) e;refine⟨a,?_⟩;cases q:H b with
 |none=>rfl
 |some x =>
  have c:b∈trk h H:=Jf.mpr ⟨Jh.mpr (Zk a),by simp[q]⟩;have z:(y9 h H).get? b=none:=W.hideAll_none (trk h H) c;rw[z] at e;cases e
structure Mod (K:W.Frag)(mg:Ye)(base:Heap):Prop where
 kin:K.In base
 glob:base.Ns mainGlobals mg
 blt:∃mb,base.Ns builtinsNs mb/\∀x:Str,x ≠ "__name__" -> mb x=bootBuiltins x
 nolimit:base.NoLimit
structure Cx where
 prog:Program
 w:World
 K:W.Frag
 mg:Ye
 base:Heap
 A:Around
 N:Yk
 s₀:Shared
 H₀:Hp
 env:Env
 outer:List Env
 stack:List Env
 ex:Yl
 fn:Str->Bool
 calm:Bool
 pn:Yb
 xe:Ya
abbrev _root_.YI(X:Cx){α:Type}(m:Sem α):=wpAny (model X.prog X.w) X.A m
abbrev _root_.YJ(P:Program)(w:World)(A:Around){α:Type}(m:Sem α):=wpAny (model P w) A m
abbrev _root_.YK(P:Program)(w:World)(A:Around)(E:Value->Shared->Prop)(s:Shared){α:Type}(m:StateT PyProof.Rows.SortSt Sem α):=PyProof.Rows.wpS (model P w) A E s m
def xl (l:List Env):Yl:=l.filterMap (·.frame)
abbrev Cx.fs (X:Cx):Yl:=xl X.outer
def bH (a:Scope)(x:Str):Prop:=a.names.lookup x=some .local\/a.names.lookup x=some .cell\/a.names.lookup x=some .free
def yJ (a:Scope)(x:Str):Prop:=a.names.lookup x=some .local\/a.names.lookup x=some .cell
def nW (env:Env)(h:Heap)(m:Ye)(x:Str)(u:Value):Prop:=
 (env.kindOf x=some .local/\m x=some u)\/((env.kindOf x=some .cell\/env.kindOf x=some .free)/\∃c,env.cells.lookup x=some c/\h.IsCell c (some u))
structure Cx.Ok (X:Cx):Prop where
 mod:Mod X.K X.mg X.base
 kind:X.env.scope.kind=.function
 glob:X.env.globals=mainGlobals
 blt:X.env.builtins=builtinsNs
 above:X.s₀.heap.objs.size<=X.env.locals
 inj:∀x y c,X.env.cells.lookup x=some c->X.env.cells.lookup y=some c->x=y
 has:∀x,(X.env.kindOf x=some .cell\/X.env.kindOf x=some .free)->∃c,X.env.cells.lookup x=some c
 cab:∀x c,X.fn x=true->X.env.cells.lookup x=some c->X.s₀.heap.objs.size<=c
 hd:X.calm=true->X.A.handled=none
 frames:X.A.frames=some X.stack
 stk:X.stack=X.outer\/(X.stack=X.env::X.outer/\X.env.frame=some X.env.locals)
 exf:∀b∈X.ex,b≠X.env.locals/\∀x c,X.env.cells.lookup x=some c->c≠b
 bs:∀b o,X.base.get? b=some o->X.s₀.heap.get? b=some o/\X.H₀ b=none
 bsz:X.base.objs.size<=X.s₀.heap.objs.size
 noex:∀b o,X.base.get? b=some o->b∉X.ex
 exfs:∀b∈X.ex,b∉X.fs
 funs:X.s₀.heap.FunFrames X.base X.outer
 frf:∀b∈X.fs,X.H₀ b=none
structure Inv (X:Cx)(Y:Yb)(Z: List YF)(H:Hp)(s:Shared):Prop where
 ok:X.Ok
 os:s.os=X.s₀.os
 bare:AllBare s.gens
 base:Un X.fs X.ex X.H₀ H X.s₀.heap s.heap
 loc:∃m,s.heap.Ns X.env.locals m/\∀(i:Nat) (x:Str) (v:V),X.N[i]? = some x -> Z[i]? = some (some v)->bH X.env.scope x->∃u,jq v u/\nW X.env s.heap m x u
 cell:∀x c,X.env.cells.lookup x=some c->∃v,s.heap.IsCell c v
 free:H X.env.locals=none
 freeC:∀x c,X.env.cells.lookup x=some c->H c=none
 pin:∀p∈X.pn++Y,s.heap.get? p.1=some p.2/\H p.1=none/\p.1≠X.env.locals/\p.1∉X.fs/\∀v,p.2.data ≠ .cell v
 hok:qR X.prog X.w H s.heap
 len:Z.length=X.N.length
section
variable {X:Cx}{Y:Yb}{Z: List YF}{H H':Hp}{s:Shared}{h':Heap}
def Cx.Ok.nofr (ok:X.Ok){b:Addr}{o:Obj}(e:X.base.get? b=some o):b∉X.fs:=λa=>by
 have:=(ok.funs.mem a).1;rw[e] at this;cases this
theorem Inv.bs (I:Inv X Y Z H s):∀b o,X.base.get? b=some o->s.heap.get? b=some o/\H b=none:=λb o e =>
 ⟨I.base.keep b o (I.ok.bs b o e).1 (I.ok.bs b o e).2 (I.ok.nofr e) (I.ok.noex b o e),I.base.free b o (I.ok.bs b o e).1 (I.ok.bs b o e).2 (I.ok.noex b o e)⟩
def Inv.bk (I:Inv X Y Z H s):∀b o,X.base.get? b=some o->s.heap.get? b=some o:=λb o e=>(I.bs b o e).1
theorem Inv.mod (I:Inv X Y Z H s):Mod X.K X.mg X.base:=I.ok.mod
def Inv.kIn (I:Inv X Y Z H s):X.K.In s.heap:=I.ok.mod.kin.keeps I.bk
theorem Inv.lt (I:Inv X Y Z H s):X.env.locals<s.heap.objs.size:=let ⟨_,hn,_⟩:=I.loc;hn.lt
theorem Inv.sz (I:Inv X Y Z H s):X.s₀.heap.objs.size<=s.heap.objs.size:=Zh I.ok.above (Zz I.lt)
def Inv.nofs (I:Inv X Y Z H s){a:Addr}(h:s.heap.objs.size<=a):a∉X.fs:=λb=>by
 obtain⟨_,o,c,_⟩:=I.ok.funs.mem b;exact Zn (Zg (Zk c) (Zh I.sz h)) (Zy _)
def Inv.cne (I:Inv X Y Z H s):∀x c,X.env.cells.lookup x=some c->c≠X.env.locals:=λx c e z=>by
 obtain⟨v,o,f,g⟩:=I.cell x c e;obtain⟨m,⟨h,es,ep,a,b,_⟩,_⟩:=I.loc;rw[z,a] at f;cases f;rw[b] at g;cases g
theorem Inv.funs (I:Inv X Y Z H s):s.heap.FunFrames X.base X.outer:=by
 have all:∀(l:List Env),(∀b∈xl l,b∈X.fs)->X.s₀.heap.FunFrames X.base l->s.heap.FunFrames X.base l:=by
  intro l
  induction l with
  |nil=>intro _ _;trivial
  |cons env r g =>
   intro hs h;obtain⟨i,⟨L,o,a,j,m,n⟩,p⟩:=h;have c:L∈X.fs:=hs L (by unfold xl;rw[Uz,a];exact Zqs);obtain⟨q,e⟩:=I.base.slot L o m (I.ok.frf L c) c λz=>I.ok.exfs L z c;exact⟨i,⟨L,_,a,j,e,n⟩,g (λb f=>hs b (by unfold xl;rw[Uz,a];exact Zqm _ f)) p⟩
 exact all X.outer (λ_ f=>f) I.ok.funs
theorem Inv.stack (I:Inv X Y Z H s):s.heap.FunFrames X.base X.stack:=by
 rcases I.ok.stk with e|⟨e,hf⟩
 .rw[e];exact I.funs
 .rw[e];obtain⟨m,a,_⟩:=I.loc;exact .cons (by rw[I.ok.kind];decide) hf a (Heap.get?_none_of_le (Zh I.ok.bsz I.ok.above)) I.funs
def Inv.stkSub (I:Inv X Y Z H s):∀b∈xl X.stack,b∈X.env.locals::X.fs:=λb a=>by
 rcases I.ok.stk with e|⟨e,hf⟩
 .exact by grind
 simp_all [xl]
def Inv.stkFree (I:Inv X Y Z H s):∀b∈xl X.stack,H b=none:=λb hb=>by
 rcases UV.mp (I.stkSub b hb) with e|hb
 .rw[e];exact I.free
 .obtain⟨_,o,a,_⟩:=I.ok.funs.mem hb;exact I.base.free b o a (I.ok.frf b hb) λz=>I.ok.exfs b z hb
def Inv.step {g':Array GenState}{t':Nat}{d':Drawn}{ch:Yl}(I:Inv X Y Z H s)
 (h:∀b∈ch,(b∈X.ex\/X.s₀.heap.objs.size<=b)/\b≠X.env.locals/\(∀x c,X.env.cells.lookup x=some c->c≠b)/\∀p∈X.pn++Y,p.1≠b)
 (keep:∀b o,b≠X.env.locals->b∉X.fs->b∉ch->s.heap.get? b=some o->H b=none->h'.get? b=some o)
 (w:∀b o,b≠X.env.locals->b∈X.fs->b∉ch->s.heap.get? b=some o->H b=none->∃M,h'.get? b=some { o with slots:=M }) (free:∀b o,b∉ch->s.heap.get? b=some o->H b=none->H' b=none)
 (A:∀b o,b∉ch->s.heap.get? b=some o->∃E,h'.get? b=some E)
 (F:∀b y,H b=some (.tup y)->H' b=some (.tup y)) (G:∀b o u,H b=some (.frz o u)->H' b=some (.frz o u)) (J:∀b ps,H b=some (.tbl ps)->∃more,H' b=some (.tbl (ps++more)))
 (ns:∀m,s.heap.Ns X.env.locals m->h'.Ns X.env.locals m) (N:qR X.prog X.w H' h') (S:AllBare g'):
 Inv X Y Z H' { s with heap:=h',gens:=g',drawn:=d',toks:=t' }:=by
 have K:∀b o,X.s₀.heap.get? b=some o->b≠X.env.locals:=λb o e=>Zi (Zg (Zk e) I.ok.above);have j:∀b o,X.s₀.heap.get? b=some o->b∉X.ex->b∉ch:=λb o e a B=>by
  rcases(h b B).1 with z|z
  .exact a z
  .exact Zn (Zg (Zk e) z) (Zy _)
 have f:∀x c,X.env.cells.lookup x=some c->∀v,s.heap.IsCell c v->h'.IsCell c v:=λx c e v T=>by
  obtain⟨o,C,O⟩:=T;have g:c∉ch:=by grind
  by_cases Q:c∈X.fs
  .obtain⟨M,q⟩:=w c o (I.cne x c e) Q g C (I.freeC x c e);exact⟨_,q,O⟩
  .exact⟨o,keep c o (I.cne x c e) Q g C (I.freeC x c e),O⟩
 refine⟨I.ok,I.os,S,⟨λb o e n B a=>?_,λb o e n B a=>?_,λb o e n a=>?_,λb o e a=>?_,λb y e=>F b y (I.base.tups b y e),λb o y e=>G b o y (I.base.frzs b o y e),λb ps e=>?_⟩,?_,λx c e=>?_,?_,λx c e=>?_,λp hp=>?_,N,I.len⟩
 .exact keep b o (K b o e) B (j b o e a) (I.base.keep b o e n B a) (I.base.free b o e n a)
 .obtain⟨M,t⟩:=I.base.slot b o e n B a;obtain⟨P,L⟩:=w b _ (K b o e) B (j b o e a) t (I.base.free b o e n a);exact⟨P,L⟩
 .obtain⟨E,t⟩:=I.base.there b o e a;exact free b E (j b o e a) t (I.base.free b o e n a)
 .obtain⟨E,t⟩:=I.base.there b o e a;exact A b E (j b o e a) t
 .obtain⟨m1,t⟩:=I.base.tbls b ps e;obtain⟨m2,L⟩:=J b _ t;exact by grind
 .obtain⟨m,U,hl⟩:=I.loc;refine⟨m,ns m U,λi x v t L e3=>?_⟩;obtain⟨u,r,l⟩:=hl i x v t L e3;refine⟨u,r,?_⟩;rcases l with l|⟨k,c,e,z⟩
  .exact .inl l
  .exact .inr ⟨k,c,e,f x c e _ z⟩
 .obtain⟨v,z⟩:=I.cell x c e;exact⟨v,f x c e v z⟩
 .obtain⟨m,⟨o,_,_,C,_⟩,_⟩:=I.loc;exact free _ o (λz=>(h _ z).2.1 rfl) C I.free
 .obtain⟨v,o,C,O⟩:=I.cell x c e;exact free c o (λz=>(h c z).2.2.1 x c e rfl) C (I.freeC x c e)
 .obtain⟨e,n,ne,R,d⟩:=I.pin p hp;have g:=λz=>(h p.1 z).2.2.2 p hp rfl;exact⟨keep p.1 p.2 ne R g e n,free p.1 p.2 g e n,ne,R,d⟩
def Inv.un {t':Nat}(I:Inv X Y Z H s)(u:Un X.fs [] H H' s.heap h')(c:qR X.prog X.w H' h'):Inv X Y Z H' { s with heap:=h',toks:=t' }:=have ⟨m,⟨o,es,ep,h,r⟩,_⟩:=id I.loc;have ⟨p,i⟩:=u.any h I.free ();I.step (ch:=[]) () (λb o _ f _ e n=>u.keep b o e n f ()) (λb o _ f _ e n=>u.slot b o e n f ()) (λb o _ e n=>u.free b o e n ()) (λb o _ e=>u.there b o e ()) u.tups u.frzs u.tbls (λq j=>by
 obtain⟨t,es',g,a,l⟩:=j;rw[h] at a;cases a;exact⟨_,es',g,i,l⟩) c I.bare
def Inv.call {g':Array GenState}{t':Nat}{d':Drawn}{ch:Yl}(I:Inv X Y Z H s)(u:Un (xl X.stack) ch H H' s.heap h')(g:qR X.prog X.w H' h')(q:AllBare g')
 (h:∀b∈ch,(b∈X.ex\/X.s₀.heap.objs.size<=b)/\b≠X.env.locals/\(∀x c,X.env.cells.lookup x=some c->c≠b)/\∀p∈X.pn++Y,p.1≠b):
 Inv X Y Z H' { s with heap:=h',gens:=g',drawn:=d',toks:=t' }:=have ⟨m,⟨o,es,ep,l,r⟩,_⟩:=id I.loc;have ⟨y,i⟩:=u.any l I.free ();I.step h (λb o i t a e n=>u.keep b o e n (λz=>(UV.mp (I.stkSub b z)).elim i t) a) (λb o _ _ a e n=>u.any e n a) (λb o a e n=>u.free b o e n a) (λb o a e=>u.there b o e a) u.tups u.frzs u.tbls (λA v=>by
 obtain⟨B,es',j,f,w⟩:=v;rw[l] at f;cases f;exact⟨_,es',j,i,w⟩) g q
def Inv.turned {t':Nat}{it:Addr}(I:Inv X Y Z H s)(k:∀b o,b≠it->s.heap.get? b=some o->h'.get? b=some o)(i:H it=none)(f:it≠X.env.locals)
 (j:it∈X.ex\/X.s₀.heap.objs.size<=it) (l:∀x c,X.env.cells.lookup x=some c->c≠it) (t:∀p∈X.pn++Y,p.1≠it):Inv X Y Z H { s with heap:=h',toks:=t' }:=by
 refine I.step (ch:=[it]) (λb w=>?_) () (λb o _ _ a e _=>⟨o.slots,k b o (λz=>a (by simp[z])) e⟩) (λ_ _ _ _ n=>n)
  () (λ_ _ e=>e) (λ_ _ _ e=>e) (λb ps e=>⟨#[],by rw[e];simp⟩) (λm g=>?_) (λb u e=>?_) I.bare
 .grind
 .obtain⟨o,es,ep,h,r⟩:=g;exact⟨o,es,ep,k _ o (Ne.symm f) h,r⟩
 .refine(I.hok b u e).stay (λc v a q=>k c v ?_ q) (λ_ q=>q) λ_ _ q=>q
  grind
def Inv.tok (I:Inv X Y Z H s)(t:Nat):Inv X Y Z H { s with toks:=t }:=I.un Un.refl I.hok
theorem Inv.kept {t':Nat}(I:Inv X Y Z H s)(k:∀b u,s.heap.get? b=some u->h'.get? b=some u):Inv X Y Z H { s with heap:=h',toks:=t' }:=I.un (Un.kept k) (I.hok.kept k)
theorem Inv.laid {a:Addr}{o:HO}{t':Nat}(I:Inv X Y Z H s)(k:∀b u,s.heap.get? b=some u->h'.get? b=some u)(hp:s.heap.objs.size<=a)(new:xX X.prog X.w (j9 H a o) h' a o):
 Inv X Y Z (j9 H a o) { s with heap:=h',toks:=t' }:=I.un (Un.laid k hp (I.hok.fresh hp)) (I.hok.laid k hp new)
theorem Inv.write {x e:Addr}{o:HO}{t':Nat}(I:Inv X Y Z H s)(c:fL (H x))(f:e=x\/H e=some (.own x))(k:∀b u,b≠e->s.heap.get? b=some u->h'.get? b=some u)(a:∃u,h'.get? e=some u)
 (new:xX X.prog X.w (j9 H x o) h' x o):Inv X Y Z (j9 H x o) { s with heap:=h',toks:=t' }:=I.un (Un.write c f k a) (I.hok.write c f k a new)
def Inv.pins_of {Y':Yb}(I:Inv X Y Z H s)(h:∀p∈Y',s.heap.get? p.1=some p.2/\H p.1=none/\p.1≠X.env.locals/\p.1∉X.fs/\∀v,p.2.data ≠ .cell v):Inv X Y' Z H s:=
 ⟨I.ok,I.os,I.bare,I.base,I.loc,I.cell,I.free,I.freeC,λp hp=>(Jb.mp hp).elim (λz=>I.pin p ()) (h p),I.hok,I.len⟩
def E8 {N:Yk}(c:N.Nodup){i j:Nat}{x:Str}(a:N[i]? = some x)(b:N[j]? = some x):i=j:=by
 obtain⟨g,e⟩:=Jc.mp a;obtain⟨h,f⟩:=Jc.mp b;exact(List.getElem_inj c).mp (e.trans f.symm)
def ME {M:Model}{A:Around}{E:Ya}{i:Nat}{x:Str}{v:V}{u:Value}{Q:Unit->YC}(I:Inv X Y Z H s)(hN:X.N.Nodup)(B:X.N[i]? = some x)(l:yJ X.env.scope x)(r:jq v u)
 (h:∀s',Inv X Y (Z.set i (some v)) H s'->(∃a,Heap.SameBut a s.heap s'.heap/\(a=X.env.locals\/X.env.cells.lookup x=some a))->Q Yt s') (hf:X.fn x=true\/X.env.scope.names.lookup x=some .local:=by trivial):wpAny M A (storeName X.env x u) Q E s:=by
 obtain⟨m,S,hl⟩:=id I.loc;have J:(X.env.scope.kind == .class||(X.env.scope.kind == .module&&X.env.locals != X.env.globals))=false:=by rw[I.ok.kind];rfl
 have hiσ: i < Z.length:=by rw[I.len];exact(Jc.mp B).1
 have cne:=I.cne;have f:∀{a:Addr} {h':Heap},(∃o,s.heap.get? a=some o/\H a=none)->Heap.SameBut a s.heap h'->qR X.prog X.w H h':=λ{a h'} ha hs b ob e=>by
  obtain⟨_,_,t⟩:=ha;refine(I.hok b ob e).stay (λc P hc q=>(hs.2 c ?_).trans q) (λ_ q=>q) λ_ _ q=>q;rintro rfl;rcases hc with rfl|hc
  .rw[t] at e;cases e
  .rw[t] at hc;cases hc
 rcases l with hk|hk
 .refine wpAny_storeName_local hk S (λh' T hs=>?_) J;obtain⟨oL,_,_,U,_⟩:=id S;refine h _ ⟨I.ok,I.os,I.bare,⟨λb o e n C l=>?_,λb o e n C l=>?_,I.base.free,λb o e l=>?_,I.base.tups,I.base.frzs,I.base.tbls⟩,⟨_,T,λj y v' g w e3=>?_⟩,λy c e=>?_,I.free,I.freeC,λp hp=>?_,f ⟨oL,U,I.free⟩ hs,by simpa using I.len⟩ ⟨_,hs,.inl rfl⟩
  .exact(hs.2 b (Zi (Zg (Zk e) I.ok.above))).trans (I.base.keep b o e n C l)
  .obtain⟨sl,g⟩:=I.base.slot b o e n C l;exact⟨sl,(hs.2 b (Zi (Zg (Zk e) I.ok.above))).trans g⟩
  .obtain⟨o',g⟩:=I.base.there b o e l;exact⟨o',(hs.2 b (Zi (Zg (Zk e) I.ok.above))).trans g⟩
  .by_cases F:j=i
   .subst F;rw[B] at g;cases g;rw[UT hiσ] at w;cases w;exact⟨u,r,.inl ⟨hk,()⟩⟩
   .rw[Zx (Ne.symm F)] at w;obtain⟨u',r',q⟩:=hl j y v' g w e3;refine⟨u',r',?_⟩;rcases q with ⟨k,e⟩|⟨k,c,e,z⟩
    .refine .inl ⟨k,?_⟩;have:y≠x:=λe=>F (E8 hN g (e ▸ B));simp[this,e]
    .exact .inr ⟨k,c,e,z.sameBut hs (cne y c e)⟩
  .obtain⟨P,z⟩:=I.cell y c e;exact⟨P,z.sameBut hs (cne y c e)⟩
  .obtain⟨e,n,ne,nf,d⟩:=I.pin p hp;exact⟨(hs.2 p.1 ne).trans e,n,ne,nf,d⟩
 .have G:X.fn x=true:=by
   rcases hf with z|z
   .exact z
   .rw[z] at hk;cases hk
  obtain⟨c,hc⟩:=I.ok.has x (.inl hk);obtain⟨P,z⟩:=I.cell x c hc;refine wpAny_storeName_cell I.ok.kind hk hc z (λh' K hs=>?_);obtain⟨oc,L,N⟩:=id z;refine h { s with heap:=h' } ⟨I.ok,I.os,I.bare,⟨λb o e n C l=>?_,λb o e n C l=>?_,I.base.free,λb o e l=>?_,I.base.tups,I.base.frzs,I.base.tbls⟩,⟨m,S.sameBut hs (Ne.symm (cne x c hc)),λj y v' g w e3=>?_⟩,λy R e=>?_,I.free,I.freeC,λp hp=>?_,f ⟨oc,L,I.freeC x c hc⟩ hs,by simpa using I.len⟩ ⟨c,hs,.inr hc⟩
  .exact(hs.2 b (Zi (Zg (Zk e) (I.ok.cab x c G hc)))).trans (I.base.keep b o e n C l)
  .obtain⟨sl,g⟩:=I.base.slot b o e n C l;exact⟨sl,(hs.2 b (Zi (Zg (Zk e) (I.ok.cab x c G hc)))).trans g⟩
  .obtain⟨o',g⟩:=I.base.there b o e l;exact⟨o',(hs.2 b (Zi (Zg (Zk e) (I.ok.cab x c G hc)))).trans g⟩
  .by_cases F:j=i
   .subst F;rw[B] at g;cases g;rw[UT hiσ] at w;cases w;exact⟨u,r,.inr ⟨.inl hk,c,hc,K⟩⟩
   .rw[Zx (Ne.symm F)] at w;obtain⟨u',r',q⟩:=hl j y v' g w e3;refine⟨u',r',?_⟩;rcases q with q|⟨k,R,e,z'⟩
    .exact .inl q
    .refine .inr ⟨k,R,e,z'.sameBut hs ?_⟩;rintro rfl;exact F (E8 hN g (I.ok.inj _ _ _ e hc ▸ B))
  .by_cases O:R=c
   .subst O;exact⟨_,K⟩
   .obtain⟨w2,z2⟩:=I.cell y R e;exact⟨w2,z2.sameBut hs O⟩
  .obtain⟨e,n,ne,nf,d⟩:=I.pin p hp;refine⟨(hs.2 p.1 ?_).trans e,n,ne,nf,d⟩;intro q;rw[q,L] at e;have q':oc=p.2:=Zqi e;exact d P (by rw[<- q'];exact N)
def Af {M:Model}{A:Around}{E:Ya}{i:Nat}{x:Str}{v:V}{u:Value}{Q:Unit->YC}(I:Inv X Y Z H s)(a:X.N.Nodup)(b:X.N[i]? = some x)(c:yJ X.env.scope x)(r:jq v u)
 (h:∀s',Inv X Y (Z.set i (some v)) H s'->Q Yt s') (e:X.fn x=true\/X.env.scope.names.lookup x=some .local:=by trivial):wpAny M A (storeName X.env x u) Q E s:=
 ME I a b c r (λs' f _=>h s' f) e
def Inv.call' {s':Shared}{ch:Yl}(I:Inv X Y Z H s)(f:s'.os=s.os)(u:Un (xl X.stack) ch H H' s.heap s'.heap)(a:qR X.prog X.w H' s'.heap)(g:AllBare s'.gens)
 (e:∀b∈ch,(b∈X.ex\/X.s₀.heap.objs.size<=b)/\b≠X.env.locals/\(∀x c,X.env.cells.lookup x=some c->c≠b)/\∀p∈X.pn++Y,p.1≠b):Inv X Y Z H' s':=by
 obtain⟨h',g',d',t',h⟩:=s';subst f;exact I.call u a g e
end
abbrev XK:=Value->Option Addr->Hp->Prop
abbrev St:=List YF
abbrev VK:=V->Hp->Prop
abbrev TE:=St->Hp->VK->Prop
abbrev TT:=St->Hp->(Bool->Hp->Prop)->Prop
abbrev TA:=St->Hp->(YE->Hp->Prop)->Prop
structure Ends where
 nx:St->Hp->Prop
 rt:VK
 bk:St->Hp->Prop:=λ_ _=>False
 ct:St->Hp->Prop:=λ_ _=>False
abbrev TS:=Ends->St->Hp->Prop
def EP (X:Cx)(Y:Yb)(Z: St)(Q:VK)(u:Value)(s':Shared):Prop:=∃v a,Inv X Y Z a s'/\jq v u/\Q v a
def TP (X:Cx)(Y:Yb)(Z: St)(Q:Bool->Hp->Prop)(b:Bool)(s':Shared):Prop:=∃a,Inv X Y Z a s'/\Q b a
def AP (X:Cx)(Y:Yb)(Z: St)(Q:YE->Hp->Prop)(c:Yf)(s':Shared):Prop:=∃a b,Inv X Y Z b s'/\jp a c/\Q a b
def SP (X:Cx)(Y:Yb)(D:Ends)(f:Flow)(s':Shared):Prop:=
 match f with
 | .next=>∃b a,Inv X Y b a s'/\D.nx b a
 | .brk=>∃b a,Inv X Y b a s'/\D.bk b a
 | .cont=>∃b a,Inv X Y b a s'/\D.ct b a
 | .ret u=>∃v b a,Inv X Y b a s'/\jq v u/\D.rt v a
def PE (X:Cx)(e:Expr)(t:TE):Prop:=
 ∀(Y:Yb) (s:Shared) (Z: St) (H:Hp) (Q:VK),Inv X Y Z H s->t Z H Q->YI X (eval e X.env) (EP X Y Z Q) X.xe s
def PT (X:Cx)(e:Expr)(t:TT):Prop:=
 ∀(Y:Yb) (s:Shared) (Z: St) (H:Hp) (Q:Bool->Hp->Prop),Inv X Y Z H s->t Z H Q->YI X (isTrue e X.env (eval e X.env)) (TP X Y Z Q) X.xe s
def PW (X:Cx)(e:Expr)(t:TT):Prop:=
 ∀(a:Sem Value) (Y:Yb) (s:Shared) (Z: St) (H:Hp) (Q:Bool->Hp->Prop),Inv X Y Z H s->t Z H Q->YI X (isTrue e X.env a) (TP X Y Z Q) X.xe s
def fI {X:Cx}{e:Expr}{t:TT}(h:PW X e t):PT X e t:=h _
def PA (X:Cx)(es:Ym)(t:TA):Prop:=
 ∀(a:Pos) (Y:Yb) (s:Shared) (Z: St) (H:Hp) (Q:YE->Hp->Prop),Inv X Y Z H s->t Z H Q->YI X (spliced (backTo a (starEach es X.env))) (AP X Y Z Q) X.xe s
def PS (X:Cx)(st:Stmt)(t:TS):Prop:=
 ∀(Y:Yb) (s:Shared) (Z: St) (H:Hp) (D:Ends),Inv X Y Z H s->t D Z H->YI X (exec st X.env) (SP X Y D) X.xe s
def qP (X:Cx)(st:List Stmt)(t:TS):Prop:=
 ∀(Y:Yb) (s:Shared) (Z: St) (H:Hp) (D:Ends),Inv X Y Z H s->t D Z H->YI X (execs st X.env) (SP X Y D) X.xe s
def jK {α: Type}{t:Sem α}{Q b: α -> YC}{M:Model}{A:Around}{E:Ya}{s:Shared}(h:wpAny M A t Q E s)(c:∀a s,Q a s->b a s):wpAny M A t b E s:=Zc h c λ_ _ x=>x
section
variable {X:Cx}
def xM (i:Nat):TE:=λZ H Q=>∃v,Z[i]? = some (some v)/\Q v H
def tC (v:V):TE:=λ_ H Q=>Q v H
def MF {i:Nat}{x:Str}{f:Pos}(o:X.N[i]? = some x)(p:bH X.env.scope x)(g:(x == ("__debug__" : Str))=false:=by decide)(j:(x == ("__classdict__" : Str))=false:=by decide):PE X (.Name x f) (xM i):=by
 intro Y s Z H Q I h;obtain⟨v,e,h⟩:=h;obtain⟨m,q,t⟩:=I.loc;obtain⟨u,r,l⟩:=t i x v o e p;have b:EP X Y Z Q u s:=⟨v,H,I,r,h⟩;rcases l with ⟨hk,w⟩|⟨hk,c,n,a⟩
 .exact wpAny_Name (wpAny_loadName_local I.ok.kind hk q w b) g
 .rcases hk with hk|hk
  .exact wpAny_Name (wpAny_loadName_cell I.ok.kind hk n a b) g
  .exact wpAny_Name (wpAny_loadName_free I.ok.kind hk n a b j) g
def MG {i j pos}:PE X (.Constant (.int i) j pos) (tC (.int i)):=λ_ _ _ H _ I h=>wpAny_Constant_int ⟨.int i,H,I.tok _,⟨_,rfl⟩,h⟩
def uZ {b j pos}:PE X (.Constant (.bool b) j pos) (tC (.bl b)):=λ_ _ _ H _ I h=>Constant_bool ⟨.bl b,H,I,rfl,h⟩
def MI {j pos}:PE X (.Constant .none j pos) (tC .non):=λ_ _ _ H _ I h=>Constant_none ⟨.non,H,I,rfl,h⟩
def E9 {x j pos}:PE X (.Constant (.str x) j pos) (tC (.str x)):=λ_ _ _ H _ I h=>Calls.Constant_str ⟨.str x,H,I.tok _,⟨_,rfl⟩,h⟩
def Gl (X:Cx)(x:Str):Prop:=X.env.kindOf x=some .globalImplicit
def XJ {E:Ya}{Y:Yb}{s:Shared}{Z: St}{H:Hp}{x:Str}{u:Value}{a:Pos}{Q:Ya}(I:Inv X Y Z H s)(b:Gl X x)(c:X.mg x=some u)(h:Q u s)
 (e:(x == ("__debug__" : Str))=false:=by decide):YI X (eval (.Name x a) X.env) Q E s:=
 Calls.Name_function_global I.ok.kind b (Calls.loadGlobal_global (by rw[I.ok.glob];exact I.mod.glob.keeps I.bk) c h) e
def Xc {E:Ya}{Y:Yb}{s:Shared}{Z: St}{H:Hp}{x:Str}{u:Value}{a:Pos}{Q:Ya}(I:Inv X Y Z H s)(b:Gl X x)(c:X.mg x=none)(e:bootBuiltins x=some u)(h:Q u s)
 (f:x ≠ "__name__" := by decide) (g:(x == ("__debug__" : Str))=false:=by decide):YI X (eval (.Name x a) X.env) Q E s:=by
 obtain⟨l,i,j⟩:=I.mod.blt;exact Calls.Name_function_global I.ok.kind b (Calls.loadGlobal_builtin (by rw[I.ok.glob];exact I.mod.glob.keeps I.bk) c (by rw[I.ok.blt];exact i.keeps I.bk) ((j x f).trans e) h) g
def MJ {x:Str}{v:V}{u:Value}{a:Pos}(b:Gl X x)(c:X.mg x=none)(e:bootBuiltins x=some u)(r:jq v u)(f:x ≠ "__name__" := by decide)(g:(x == ("__debug__" : Str))=false:=by decide):PE X (.Name x a) (tC v):=
 λ_ _ _ H _ I h=>Xc I b c e ⟨v,H,I,r,h⟩ f g
variable {a b:Expr}{ta tb:TE}{pos:Pos}
def PC (X:Cx)(op:CmpOp)(a b:Expr)(t:TE):Prop:=
 ∀(Y:Yb) (s:Shared) (Z: St) (H:Hp) (Q:VK),Inv X Y Z H s->t Z H Q ->
  YI X (eval a X.env) (λv s₁=>YI X (eval b X.env) (λu s₂=>YI X (compareOp op v u) (EP X Y Z Q) X.xe s₂) X.xe s₁) X.xe s
def MK (b:Expr){op:CmpOp}(h:op ≠ .In)(c:op ≠ .NotIn):behindInMarks op b=false:=by
 cases b<;>first|rfl|(show(_&&(_||_)&&_)=false;simp_all)
def ut (ta:TE):TE:=λZ H Q=>ta Z H λx c=>Q (.bl (decide (x=.non))) c
def EA (ta:TE):TE:=λZ H Q=>ta Z H λx c=>Q (.bl (!decide (x=.non))) c
def jq.none_iff {x:V}{v:Value}(r:jq x v):(v == Value.none)=decide (x=.non):=by
 cases x with
 |non=>cases r;rfl
 |bl _=>cases r;rfl
 |int _=>obtain⟨t,rfl⟩:=r;rfl
 |str _=>obtain⟨t,rfl⟩:=r;rfl
 |byt _=>obtain⟨t,rfl⟩:=r;rfl
 |flt _=>obtain⟨t,rfl⟩:=r;rfl
 |ref _=>cases r;rfl
 |ty _=>cases r;rfl
def ML {j pos'}(c:PE X a ta):PC X .Is a (.Constant .none j pos') (ut ta):=λY s Z H Q I h=>jK (c Y s Z H _ I h) λv l ⟨x,e,f,g,i⟩=>(Constant_none (is_none_gen ⟨.bl _,e,f,by rw[g.none_iff];rfl,i⟩))
def MM {j pos'}(c:PE X a ta):PC X .IsNot a (.Constant .none j pos') (EA ta):=λY s Z H Q I h=>jK (c Y s Z H _ I h) λv l ⟨x,e,f,g,i⟩=>(Constant_none (isnot_none_gen ⟨.bl _,e,f,by rw[g.none_iff];rfl,i⟩))
def tB (t:TE):TT:=λZ H Q=>t Z H λx e=>∃c,x=.bl c/\Q c e
def BQ {op:CmpOp}{t:TE}(h:PC X op a b t)(e:behindInMarks op b=false:=by first|exact MK _ (by decide) (by decide)|rfl):PT X (.Compare a [op] [b] pos) (tB t):=by
 intro Y s Z H Q I f;refine wpAny_isTrue_Compare1 (jK (h Y s Z H _ I f) λv n e=>jK e λu o g=>jK g λc p ⟨x,i,j,l,m⟩=>?_) e;obtain⟨d,rfl,q⟩:=m;cases l;exact wpAny_truthy_bool ⟨i,j,q⟩
def MN {e:Expr}{t:TE}(h:PE X e t)(f:∀c,isTrue e X.env c=(do let v <- c;standAt e.pos;holding [v] (truthy v)):=by intro _;rfl):PT X e (tB t):=by
 intro Y s Z H Q I g;refine isTrue_plain (jK (h Y s Z H _ I g) λv n ⟨x,i,j,l,m⟩=>?_) (f _);obtain⟨d,rfl,q⟩:=m;cases l;exact wpAny_truthy_bool ⟨i,j,q⟩
variable {tA tB':TT}{rest:Ym}
def mo (t u:TT):TT:=λZ H Q=>t Z H λc e=>if c=true then u Z e Q else Q false e
def cC (t u:TT):TT:=λZ H Q=>t Z H λc e=>if c=true then Q true e else u Z e Q
def me (t:TT):TT:=λZ H Q=>t Z H λc e=>Q (!c) e
def MO (f:PT X a tA):PW X (.BoolOp .And [a] pos) tA:=by
 intro g Y s Z H Q I h;refine isTrue_and (jK (f Y s Z H Q I h) λc i e=>?_)
 grind[isTrue_and_nil]
def MP (f:PT X a tA):PW X (.BoolOp .Or [a] pos) tA:=by
 intro g Y s Z H Q I h;refine isTrue_or (jK (f Y s Z H Q I h) λc i e=>?_)
 grind[isTrue_or_nil]
def MQ (i:PT X a tA)(j:PW X (.BoolOp .And (b::rest) pos) tB'):PW X (.BoolOp .And (a::b::rest) pos) (mo tA tB'):=by
 intro l Y s Z H Q I h;refine isTrue_and (jK (i Y s Z H _ I h) λc m ⟨e,f,g⟩=>?_);cases c with
 |true=>exact j l Y m Z e Q f g
 |false=>exact⟨e,f,g⟩
def uW (i:PT X a tA)(j:PW X (.BoolOp .Or (b::rest) pos) tB'):PW X (.BoolOp .Or (a::b::rest) pos) (cC tA tB'):=by
 intro l Y s Z H Q I h;refine isTrue_or (jK (i Y s Z H _ I h) λc m ⟨e,f,g⟩=>?_);cases c with
 |true=>exact⟨e,f,g⟩
 |false=>exact j l Y m Z e Q f g
def MS (e:PT X a tA):PT X (.UnaryOp .Not a pos) (me tA):=λY s Z H Q I h=>isTrue_not (e Y s Z H (λc f=>Q (!c) f) I h)
def u5 (ta tb:TE):TE:=λZ H Q=>ta Z H λx e=>∃c,x=.bl c/\if c=true then tb Z e Q else Q (.bl false) e
def uj (ta:TE):TE:=λZ H Q=>ta Z H λx e=>∃c,x=.bl c/\Q (.bl (!c)) e
def MT {op}{t:TE}(h:PE X a t):PE X (.BoolOp op [a] pos) t:=λY s Z H Q I c=>BoolOp_one (h Y s Z H Q I c)
def MU (i:PE X a ta)(j:PE X (.BoolOp .And (b::rest) pos) tb):PE X (.BoolOp .And (a::b::rest) pos) (u5 ta tb):=by
 intro Y s Z H Q I h;refine BoolOp_and (jK (i Y s Z H _ I h) λv l ⟨x,f,g,m,e⟩=>?_);obtain⟨c,rfl,e⟩:=e;cases m;refine wpAny_truthy_bool ?_;cases c with
 |true=>exact j Y l Z f Q g e
 |false=>exact⟨.bl false,f,g,rfl,e⟩
def MV (f:PE X a ta):PE X (.UnaryOp .Not a pos) (uj ta):=by
 intro Y s Z H Q I h;refine UnaryOp_ (jK (f Y s Z H _ I h) λv l ⟨x,g,i,j,e⟩=>?_);obtain⟨c,rfl,e⟩:=e;cases j;exact not_of (wpAny_truthy_bool ⟨.bl (!c),g,i,rfl,e⟩)
end
def qZ (K:W.Frag)(H:Hp)(a:Addr)(b:YE):Prop:=
 Rd H a (.lst b) \/
  ∃(o:Obj) (its:Yn) (n:Nat),K.lookup a=some o/\o.cls=.type "list" /\ o.dict=none/\o.data=.seq its n/\its.size<=sizeLine/\jp b its.toList
def yC (K:W.Frag)(H:Hp)(a:Addr)(b:YE):Prop:=
 Rd H a (.tup b) \/
  ∃(o:Obj) (its:Yn) (n:Nat),K.lookup a=some o/\o.cls=.type "tuple" /\ o.data=.seq its n/\its.size<=sizeLine/\jp b its.toList
def nQ:Value->YF
 | .none=>some .non
 | .bool b=>some (.bl b)
 | .int i _=>some (.int i)
 | .str x _=>some (.str x)
 | .bytes b _=>some (.byt b)
 | .float b _=>some (.flt b)
 | .ref a=>some (.ref a)
 | .type n=>some (.ty n)
 |_=>none
def jq.abs {x:V}{u:Value}(r:jq x u):nQ u=some x:=by
 cases x with
 |non=>cases r;rfl
 |bl _=>cases r;rfl
 |int _=>obtain⟨t,rfl⟩:=r;rfl
 |str _=>obtain⟨t,rfl⟩:=r;rfl
 |byt _=>obtain⟨t,rfl⟩:=r;rfl
 |flt _=>obtain⟨t,rfl⟩:=r;rfl
 |ref _=>cases r;rfl
 |ty _=>cases r;rfl
def jq.inj {x y:V}{u:Value}(r:jq x u)(q:jq y u):x=y:=Zqi (r.abs.symm.trans q.abs)
theorem jp.inj:∀{a ys:YE} {b:Yf},jp a b->jp ys b->a=ys:=λ{a ys b} g h=>by
 induction g generalizing ys with
 |nil=>cases h;rfl
 |cons r _ c =>
  cases h with
  |cons e t'=>rw[r.inj e,c t']
section
variable {X:Cx}{Y:Yb}{Z: St}{H:Hp}{s:Shared}{a:Addr}{xs ys:YE}
def qZ.of {K:W.Frag}(h:H a=some (.lst xs)):qZ K H a xs:=.inl (.inl h)
def yC.of {K:W.Frag}(h:H a=some (.tup xs)):yC K H a xs:=.inl (.inl h)
def Inv.list (I:Inv X Y Z H s)(h:qZ X.K H a xs):∃its:Yf,jp xs its/\PlainL s.heap a its.toArray/\xs.length<=sizeLine:=by
 rcases h with h|⟨o,its,n,hk,hc,hd,hs,hz,r⟩
 .obtain⟨z,its,n,r,e⟩:=h.ok I.hok;exact⟨its,r,⟨_,n,e,rfl,rfl,rfl⟩,z⟩
 .refine⟨its.toList,r,⟨o,n,I.kIn a o hk,hc,hd,by simpa using hs⟩,?_⟩;have e:=r.length
  simp_all
def Inv.tuple (I:Inv X Y Z H s)(h:yC X.K H a xs):∃its:Yf,jp xs its/\IsTup s.heap a its.toArray/\xs.length<=sizeLine:=by
 rcases h with h|⟨o,its,n,hk,hc,hs,hz,r⟩
 .obtain⟨z,its,r,p⟩:=h.ok I.hok;exact⟨its,r,p,z.1⟩
 .refine⟨its.toList,r,⟨o,I.kIn a o hk,hc,n,by simpa using hs⟩,?_⟩;have e:=r.length
  simp_all
def Inv.list_inj (I:Inv X Y Z H s)(h:qZ X.K H a xs)(h':qZ X.K H a ys):xs=ys:=by
 obtain⟨its,r,⟨o,n,e,_,_,d⟩,_⟩:=I.list h;obtain⟨b,c,⟨f,g,i,_,_,d'⟩,_⟩:=I.list h';have:its=b:=by simp_all
 subst this;exact r.inj c
def Inv.tuple_inj (I:Inv X Y Z H s)(h:yC X.K H a xs)(h':yC X.K H a ys):xs=ys:=by
 obtain⟨its,r,⟨o,e,_,n,d⟩,_⟩:=I.tuple h;obtain⟨b,c,⟨f,g,_,i,d'⟩,_⟩:=I.tuple h';have:its=b:=by simp_all
 subst this;exact r.inj c
end
abbrev Cx.wish (X:Cx)(E:Ya):Cx:={ X with xe:=E }
abbrev Cx.nox (X:Cx):Cx:=X.wish λ_ _=>False
theorem Cx.Ok.wish {X:Cx}(ok:X.Ok)(E:Ya):(X.wish E).Ok:=
 ⟨ok.mod,ok.kind,ok.glob,ok.blt,ok.above,ok.inj,ok.has,ok.cab,ok.hd,ok.frames,ok.stk,ok.exf,ok.bs,ok.bsz,ok.noex,ok.exfs,ok.funs,ok.frf⟩
def Cx.Ok.unwish {X:Cx}{E:Ya}(ok:(X.wish E).Ok):X.Ok:=
 ⟨ok.mod,ok.kind,ok.glob,ok.blt,ok.above,ok.inj,ok.has,ok.cab,ok.hd,ok.frames,ok.stk,ok.exf,ok.bs,ok.bsz,ok.noex,ok.exfs,ok.funs,ok.frf⟩
section
variable {X:Cx}{Y:Yb}{Z: St}{H:Hp}{s:Shared}{E:Ya}
theorem Inv.wish (I:Inv X Y Z H s)(E:Ya):Inv (X.wish E) Y Z H s:=⟨I.ok.wish E,I.os,I.bare,I.base,I.loc,I.cell,I.free,I.freeC,I.pin,I.hok,I.len⟩
theorem Inv.unwish (I:Inv (X.wish E) Y Z H s):Inv X Y Z H s:=⟨I.ok.unwish,I.os,I.bare,I.base,I.loc,I.cell,I.free,I.freeC,I.pin,I.hok,I.len⟩
theorem SP.unwish {D:Ends}{f:Flow}{s':Shared}(h:SP (X.wish E) Y D f s'):SP X Y D f s':=by
 cases f with
 |next=>obtain⟨a,b,I,q⟩:=h;exact⟨a,b,I.unwish,q⟩
 |brk=>obtain⟨a,b,I,q⟩:=h;exact⟨a,b,I.unwish,q⟩
 |cont=>obtain⟨a,b,I,q⟩:=h;exact⟨a,b,I.unwish,q⟩
 |ret u=>obtain⟨v,a,b,I,r,q⟩:=h;exact⟨v,a,b,I.unwish,r,q⟩
theorem qP.nox {st:List Stmt}{t:TS}(h:qP X.nox st t):qP X st t:=λY s Z H D I a =>
 Zc (h Y s Z H D (I.wish _) a) (λ_ _ q=>q.unwish) ()
end
section
variable {X:Cx}{st:Stmt}{rest:List Stmt}{t u:TS}{e:Expr}{te:TE}{pos:Pos}
def uq:TS:=λD Z H=>D.nx Z H
def bZ (t u:TS):TS:=λD Z H=>t { D with nx:=u D } Z H
def Ag:qP X [] uq:=λ_ _ Z H _ I h=>wpAny_execs_nil ⟨Z,H,I,h⟩
def XL (a:PS X st t)(b:qP X rest u):qP X (st::rest) (bZ t u):=by
 intro Y s Z H D I h;refine wpAny_execs_cons (jK (a Y s Z H { D with nx:=u D } I h) λf c q=>?_);cases f with
 |next =>
  obtain⟨g,i,j,q⟩:=q;exact b Y c g i D j q
 |ret v=>exact q
 |brk=>exact q
 |cont=>exact q
def BR (a:PS X st t):qP X [st] t:=by
 intro Y s Z H D I h;refine wpAny_execs_cons (jK (a Y s Z H D I h) λf b q=>?_)
 grind[wpAny_execs_nil]
def MW:TS:=λD Z H=>D.bk Z H
def MX:PS X (.Break pos) MW:=λ_ _ Z H _ I h=>wpAny_Break ⟨Z,H,I,h⟩
def Inv.quiet {Y:Yb}{Z: St}{H:Hp}{s:Shared}(I:Inv X Y Z H s):interactive X.env=false:=by simp[interactive,I.ok.kind]
def uu (te:TE):TS:=λD Z H=>te Z H λ_ a=>D.nx Z a
def Ah (a:PE X e te)(hs:swapsWith e none pos.line X.env=pure false:=by rfl):PS X (.Expr e pos) (uu te):=λY s Z H D I h=>wpAny_Expr_any (jK (a Y s Z H _ I h) λv g ⟨x,b,c,i,f⟩=>⟨Z,b,c,f⟩) I.quiet hs
def ma (te:TE):TS:=λD Z H=>te Z H D.rt
def Ai (a:PE X e te):PS X (.Return (some e) pos) (ma te):=λY s Z H D I h=>wpAny_Return_some (jK (a Y s Z H _ I h) λv i ⟨x,b,c,f,g⟩=>⟨x,Z,b,c,f,g⟩)
def mh (c:TT)(t u:TS):TS:=λD Z H=>c Z H λb a=>if b=true then t D Z a else u D Z a
def BS {c:Expr}{a b:List Stmt}{f:TT}(m:PT X c f)(n:qP X a t)(o:qP X b u):PS X (.If c a b pos) (mh f t u):=by
 intro Y s Z H D I h;refine wpAny_If (jK (m Y s Z H _ I h) λd g ⟨i,j,l⟩=>?_);cases d with
 |true=>exact n Y g Z i D j l
 |false=>exact o Y g Z i D j l
end
abbrev TG:=V->St->Hp->(St->Hp->Prop)->Prop
abbrev vt:=YE->St->Hp->(St->Hp->Prop)->Prop
def PG (X:Cx)(a:Expr)(t:TG):Prop:=
 ∀(Y:Yb) (s:Shared) (Z: St) (H:Hp) (v:V) (u:Value) (Q:St->Hp->Prop),Inv X Y Z H s->jq v u->t v Z H Q ->
  YI X (assign a X.env u) (λ_ s'=>∃b c,Inv X Y b c s'/\Q b c) X.xe s
def bI (X:Cx)(f:Ym)(t:vt):Prop:=
 ∀(Y:Yb) (s:Shared) (Z: St) (H:Hp) (a:YE) (b:Yf) (Q:St->Hp->Prop),Inv X Y Z H s->jp a b->t a Z H Q ->
  YI X (assignInOrder ((assignEach f X.env).map (·.2)) b) (λ_ s'=>∃c e,Inv X Y c e s'/\Q c e) X.xe s
abbrev vB:=V->V->V->Hp->(Hp->Prop)->Prop
def fJ (X:Cx)(t:vB):Prop:=
 ∀(Y:Yb) (s:Shared) (Z: St) (H:Hp) (o i v:V) (a b u:Value) (Q:Hp->Prop),Inv X Y Z H s->jq o a->jq i b->jq v u->t o i v H Q ->
  YI X (setItem a b u) (λ_ s'=>∃c,Inv X Y Z c s'/\Q c) X.xe s
section
variable {X:Cx}{pos:Pos}
def Ux (i:Nat):TG:=λv Z H Q=>Q (Z.set i (some v)) H
def Qe {i:Nat}{x:Str}(a:X.N.Nodup)(b:X.N[i]? = some x)(c:yJ X.env.scope x)(e:X.fn x=true\/X.env.scope.names.lookup x=some .local:=by trivial):PG X (.Name x pos) (Ux i):=λY s Z H v u Q I r h=>wpAny_assign_Name (Af I a b c r (λs' f=>⟨_,H,f,h⟩) e)
def gb:vt:=λa Z H Q=>a=[]/\Q Z H
def EB (t:TG)(u:vt):vt:=λa Z H Q=>∃v r,a=v::r/\t v Z H λb c=>u r b c Q
def V0:bI X [] gb:=λY s Z H a b Q I r h=>have ⟨e,h⟩:=h;assignInOrder_nil ⟨Z,H,I,h⟩
def Qu {e:Expr}{es:Ym}{t:TG}{u:vt}(a:PG X e t)(b:bI X es u)
 (hs:(assignEach (e::es) X.env).map (·.2)=assign e X.env::(assignEach es X.env).map (·.2):=by rfl):bI X (e::es) (EB t u):=by
 intro Y s Z H n o Q I r h;obtain⟨v,p,c,h⟩:=h;subst c;cases r with
 |cons r f =>
  rw[hs];exact assignInOrder_cons (jK (a Y s Z H _ _ _ I r h) λ_ g ⟨i,j,l,m⟩=>(b Y g i j _ _ Q l f m))
def kX (K:W.Frag)(n:Nat)(t:vt):TG:=λv Z H Q=>∃a b,v=.ref a/\yC K H a b/\b.length=n/\t b Z H Q
def V1 {es:Ym}{k:Nat}{t:vt}{n:Nat}(i:X.calm=true)(h:bI X es t)
 (j:(assignEach es X.env).length=n:=by rfl) (c:(assignEach es X.env).findIdx? (·.1)=none:=by rfl):PG X (.Tuple es k pos) (kX X.K n t):=by
 intro Y s Z H v u Q I r f;obtain⟨a,l,m,p,q,f⟩:=f;subst m;cases r;obtain⟨its,g,w,hz⟩:=I.tuple p;refine assign_Tuple_tuple (I.ok.hd i) w (by simp[j,<- q,g.length]) c λh' x=>?_;have y:Inv X Y Z H { s with heap:=h' }:=I.kept λb o e=>x b o (Zi (Zk e)) e;exact h Y _ Z H l _ Q y (by simpa using g) f
def qA (a b:TE)(t:vB):TG:=λv Z H Q=>a Z H λo c=>b Z c λi e=>t o i v e λf=>Q Z f
def EC {o i:Expr}{c e:TE}{t:vB}(f:PE X o c)(g:PE X i e)(hs:fJ X t)
 (G:∀v,assign (.Subscript o i pos) X.env v=(do
  let a <- holding [v] (eval o X.env)
  let b <- holding [v,a] (eval i X.env)
  standAt pos
  holding [v,a,b] (setItem a b v)
  release [v,a,b] []):=by intro _;rfl):PG X (.Subscript o i pos) (qA c e t):=λY s Z H v u Q I r h=>Za (wpAny_holding (jK (f Y s Z H _ I h) λa j ⟨x,l,m,n,p⟩=>(Za (wpAny_holding (jK (g Y j Z l _ m p) λb q ⟨y,w,z,A,B⟩=>(Za (wpAny_standAt (Za (wpAny_holding (jK (hs Y q Z w x y v a b u _ z n A r B) λ_ J ⟨C,E,F⟩=>(wpAny_release ⟨Z,C,E,F⟩)))))))))))
def zQ (a:TE)(g:TG):TS:=λD Z H=>a Z H λx b=>g x Z b D.nx
def ED {tg e:Expr}{a:TE}{g:TG}(b:PE X e a)(c:PG X tg g)(hs:swapsWithSole [tg] e pos.line X.env=pure false:=by rfl)(f:swappedStores [tg] e X.env=pure none:=by rfl)
 (i:(assignEach [tg] X.env).map (·.2)=[assign tg X.env]:=by rfl):PS X (.Assign [tg] e pos) (zQ a g):=by
 intro Y s Z H D I h;refine wpAny_Assign_stores (jK (b Y s Z H _ I h) λv j ⟨x,l,m,n,o⟩=>?_) hs f;rw[i];exact jK (c Y j Z l x v _ m n o) λ_ p q=>q
def XM {i:Nat}{x:Str}{e:Expr}{b:TE}{a:Pos}(c:X.N.Nodup)(f:X.N[i]? = some x)(g:yJ X.env.scope x)(j:PE X e b)(hs:swapsWith e (some (.Name x a)) pos.line X.env=pure false:=by rfl)(l:X.fn x=true\/X.env.scope.names.lookup x=some .local:=by trivial):
 PS X (.Assign [.Name x a] e pos) (zQ b (Ux i)):=λY s Z H D I h=>wpAny_Assign_Name (jK (j Y s Z H _ I h) λv r ⟨y,m,n,o,p⟩=>(Af n c f g o (λt q=>⟨_,m,q,p⟩) l)) hs
end
structure It where
 go:Nat->Hp->Prop
 yld:Nat->Hp->V->Hp->Prop
 stop:Nat->Hp->Prop
def yq (X:Cx)(Y:Yb)(H:Hp)(b:Addr):Prop:=
 H b=none/\b≠X.env.locals/\b∉X.fs/\(b∈X.ex\/X.s₀.heap.objs.size<=b)/\(∀x c,X.env.cells.lookup x=some c->c≠b)/\∀p∈X.pn++Y,p.1≠b
def Inv.fpOk {X:Cx}{Y:Yb}{Z: St}{H f:Hp}{s:Shared}{b:Addr}(I:Inv X Y Z H s)(a:s.heap.objs.size<=b)(g:f b=none):yq X Y f b:=by
 refine⟨g,UZ (Zg I.lt a),I.nofs a,.inr (Zh I.sz a),λx c e z=>?_,λp hp z=>?_⟩
 .obtain⟨v,q⟩:=I.cell x c e;exact Zn (Zg q.lt (by rwa [z])) (Zy _)
 .exact Zn (Zg (Zk (I.pin p hp).1) (by rwa [z])) (Zy _)
structure Turn (P:Program)(w:World)(K:W.Frag)(tg:Expr)(J:It)(fp:Yl)(it:Addr)(tn:Nat->Heap->Prop):Prop where
 mem:it∈fp
 obj:∀i h,tn i h->∀b∈fp,∃o,h.get? b=some o/\∀v,o.data ≠ .cell v
 keep:∀i h h',tn i h->(∀b∈fp,∀o,h.get? b=some o->h'.get? b=some o)->tn i h'
 item:∀(X:Cx),X.prog=P->X.w=w->X.K=K->X.calm=true->∀(i:Nat) (Y:Yb) (s:Shared) (Z: St) (H:Hp) (E:Ya),Inv X Y Z H s->(∀b∈fp,yq X Y H b)->tn i s.heap->J.go i H ->
  wpAny (model P w) X.A (pyNext (.ref it)) (λr s1=>∃u,r=some u /\
   wpAny (model P w) X.A (letOwnedTupleGo tg (.ref it) u) (λ_ s2=>∃x H',Inv X Y Z H' s2/\jq x u/\J.yld i H x H'/\tn (i+1) s2.heap/\∀b∈fp,H' b=none) E s1) E s
 done:∀(X:Cx),X.prog=P->X.w=w->X.K=K->X.calm=true->∀(i:Nat) (Y:Yb) (s:Shared) (Z: St) (H:Hp) (E:Ya),Inv X Y Z H s->(∀b∈fp,yq X Y H b)->tn i s.heap->J.stop i H ->
  wpAny (model P w) X.A (pyNext (.ref it)) (λr s1=>r=none/\Inv X Y Z H s1) E s
 self:∀(A:Around) (i:Nat) (s:Shared) (Q:Ya) (E:Ya),tn i s.heap->Q (.ref it) s->wpAny (model P w) A (pyIter (.ref it)) Q E s
abbrev TI:=St->Hp->(It->Hp->Prop)->Prop
def rP (X:Cx)(Y:Yb)(Z: St)(tg:Expr)(R:It->Hp->Prop)(a:Value)(e:Shared):Prop:=
 ∃(it:Addr) (f:Yl) (g:Nat->Heap->Prop) (J:It) (c:Hp),a=.ref it/\Inv X Y Z c e/\Turn X.prog X.w X.K tg J f it g/\g 0 e.heap/\(∀b∈f,yq X Y c b)/\R J c
def PI (X:Cx)(tg a:Expr)(wi:TI):Prop:=
 ∀(Y:Yb) (s:Shared) (Z: St) (H:Hp) (R:It->Hp->Prop),Inv X Y Z H s->wi Z H R ->
  YI X (eval a X.env) (λv b=>YI X (pyIter v) (rP X Y Z tg R) X.xe b) X.xe s
def BT {M:Model}{A:Around}{E:Ya}{s:Shared}{tg:Expr}{it:Addr}{u:Value}{o:Obj}{n:String}{b:Yn}{Q:Unit->YC}(c:s.heap.get? it=some o)(e:o.cls=.type n)(f:o.data=.fields b)
 (g: ["enumerate", "zip", "dict_itemiterator", "dict_reverseitemiterator", "odict_iterator", "itertools.zip_longest", "itertools.pairwise"].contains n=false) (a:Q Yt s):wpAny M A (letOwnedTupleGo tg (.ref it) u) Q E s:=by
 unfold letOwnedTupleGo;cases tg<;>first
  |exact Zb a
  | (cases u<;>first
   |exact Zb a
   | (
    refine Za (wpAny_load c ?_);rw[e,f];show wpAny M A (if(["enumerate", "zip", "dict_itemiterator", "dict_reverseitemiterator", "odict_iterator", "itertools.zip_longest", "itertools.pairwise"].contains n&&b[0]? == some (rawInt _))=true then _ else _) Q E s;rw[Ze (by intro h;rw[g,Bool.false_and] at h;cases h)];exact Zb a))
def rT (K:W.Frag)(a:Addr):It:=
 ⟨λi H=>∃b x,qZ K H a b/\b[i]? = some x,λi H x c=>c=H/\∀b,qZ K H a b->b[i]? = some x,λi H=>∃b,qZ K H a b/\b.length<=i⟩
def rS (K:W.Frag)(a:Addr):It:=
 ⟨λi H=>∃b x,yC K H a b/\b[i]? = some x,λi H x c=>c=H/\∀b,yC K H a b->b[i]? = some x,λi H=>∃b,yC K H a b/\b.length<=i⟩
def bL (lo:Int)(n:Nat):It:=⟨λi _=>i<n,λi H x a=>a=H/\x=.int (lo+i),λi _=>n<=i⟩
def MY {P:Program}{w:World}{K:W.Frag}{tg:Expr}(a it:Addr):Turn P w K tg (rT K a) [it] it (λi h=>h.IsListIter it a i) where
 mem:=by simp
 obj:=λi h st b f=>by
  have e:b=it:=by simpa using f
  subst e;obtain⟨o,e,c,d⟩:=st;exact⟨o,e,λv z=>by rw[d] at z;cases z⟩
 keep:=λi h h' st k=>st.at λo e=>k it () o e
 item:=by
  intro X m n q J i Y s Z H E I j st r;subst m n q;obtain⟨L,x,l,t⟩:=r;obtain⟨its,y,p,hz⟩:=I.list l;obtain⟨u,M,N⟩:=y.get t;obtain⟨A,B,O,C,F,G⟩:=j it ();refine wpAny_pyNext_list_item st p.isList (x:=u) (by simpa using M) λh' g Q=>?_;have R:Inv X Y Z H { s with heap:=h' }:=I.turned (t':=s.toks) (λb o f e=>(Q.2 b f).trans e) A B C F G;obtain⟨o,e,c,d⟩:=id g;exact⟨u,rfl,BT (s:={ s with heap:=h' }) e c d (by decide) ⟨x,H,R,N,⟨rfl,λys S=>by rw[I.list_inj S l];exact t⟩,g,λb f=>(j b f).1⟩⟩
 done:=by
  intro X m n q J i Y s Z H E I j st r;subst m n q;obtain⟨L,l,t⟩:=r;obtain⟨its,y,p,hz⟩:=I.list l;obtain⟨A,B,O,C,F,G⟩:=j it ();have U:=y.length;exact wpAny_pyNext_list_end (I.ok.hd J) st p.isList (by simp;lia) λh' T=>⟨rfl,I.turned (t':=s.toks) (λb o f e=>T b o f e) A B C F G⟩
 self:=λ_ _ _ _ _ st h=>wpAny_pyIter_listiter st h
def MZ {P:Program}{w:World}{K:W.Frag}{tg:Expr}(a it:Addr):Turn P w K tg (rS K a) [it] it (λi h=>h.IsTupleIter it a i) where
 mem:=by simp
 obj:=λi h st b f=>by
  have e:b=it:=by simpa using f
  subst e;obtain⟨o,e,c,d⟩:=st
  simp_all
 keep:=λi h h' st k=>st.at ()
 item:=by
  intro X l m n C i Y s Z H E I q st r;subst l m n;obtain⟨G,x,j,F⟩:=r;obtain⟨its,t,p,hz⟩:=I.tuple j;obtain⟨u,J,L⟩:=t.get F;obtain⟨v,y,M,z,A,B⟩:=q it ();refine wpAny_pyNext_tuple_item st (p) (by simpa using J) λh' g N=>?_;have O:Inv X Y Z H { s with heap:=h' }:=I.turned (λb o f e=>(N.2 b f).trans e) v y z A B;obtain⟨o,e,c,d⟩:=id g;exact⟨u,rfl,BT e c d (by decide) ⟨x,H,O,L,⟨rfl,λys Q=>by rwa [I.tuple_inj Q j]⟩,g,()⟩⟩
 done:=by
  intro X l m n C i Y s Z H E I q st r;subst l m n;obtain⟨G,j,F⟩:=r;obtain⟨its,t,p,hz⟩:=I.tuple j;obtain⟨v,y,M,z,A,B⟩:=q it ();have S:=t.length;exact wpAny_pyNext_tuple_end (I.ok.hd C) st (p) (by simp;lia) λh' R=>⟨rfl,I.turned (λb o f e=>R b o f e) v y z A B⟩
 self:=λ_ _ _ _ _ st h=>wpAny_pyIter_tupleiter st h
def Na {P:Program}{w:World}{K:W.Frag}{tg:Expr}(it:Addr)(lo:Int)(n:Nat):Turn P w K tg (bL lo n) [it] it (λi h=>IsRangeIter h it (lo+(i:Nat)*1) ((n:Int)-(i:Nat)) 1) where
 mem:=by simp
 obj:=by grind
 keep:=by grind
 item:=by
  intro X u x y f i Y s Z H E I c st g;subst u x y;obtain⟨j,l,z,m,p,q⟩:=c it ();refine(Walks.range (prog:=X.prog) (w:=X.w) (I.ok.hd f) it lo 1 n).item i s _ _ g st λv h' tk A a F=>?_;obtain⟨t,rfl⟩:=A;have B:Inv X Y Z H { s with heap:=h',toks:=tk }:=I.turned () j l m p q;refine⟨_,rfl,BT a rfl rfl (by decide) ⟨.int (lo+i),H,B,⟨t,?_⟩,⟨rfl,rfl⟩,a,λb r=>(c b r).1⟩⟩;rw[Int.mul_one]
 done:=by
  intro X u x y f i Y s Z H E I c st g;obtain⟨j,l,z,m,p,q⟩:=c it ();exact wpAny_pyNext_range_end (I.ok.hd f) st (by have:n<=i:=g;lia) λh' C=>⟨rfl,I.turned (λb o r e=>C b o r e) j l m p q⟩
 self:=λ_ _ _ _ _ st h=>wpAny_pyIter_rangeiter st h
section
variable {X:Cx}{tg:Expr}
def kN (K:W.Frag)(c:TE):TI:=λZ H R=>c Z H λx b=>∃a,x=.ref a/\(∃e,qZ K b a e)/\R (rT K a) b
def mR (K:W.Frag)(c:TE):TI:=λZ H R=>c Z H λx b=>∃a,x=.ref a/\(∃e,yC K b a e)/\R (rS K a) b
def Nb {l:Expr}{g:TE}(i:PE X l g):PI X tg l (kN X.K g):=by
 intro Y s Z H R I h;refine jK (i Y s Z H _ I h) λv c ⟨x,j,f,m,n⟩=>?_;obtain⟨a,e,⟨u,r⟩,q⟩:=n;subst e;cases m;obtain⟨its,w,p,hz⟩:=f.list r;refine wpAny_pyIter_list p.isList ?_;refine⟨c.heap.objs.size,[c.heap.objs.size],_,_,j,rfl,f.kept (t':=c.toks) λb o e=>Zq _ e,MY a _,⟨_,Zr _ rfl,rfl,rfl⟩,λb t=>?_,q⟩;have e:b=c.heap.objs.size:=by simpa using t
 subst e;exact f.fpOk (Zf _) (f.hok.fresh (Zf _))
def Nc {l:Expr}{g:TE}(i:PE X l g):PI X tg l (mR X.K g):=by
 intro Y s Z H R I h;refine jK (i Y s Z H _ I h) λv f ⟨x,j,c,m,n⟩=>?_;obtain⟨a,e,⟨u,r⟩,q⟩:=n;subst e;cases m;obtain⟨its,w,p,hz⟩:=c.tuple r;refine wpAny_pyIter_tuple (p) (⟨f.heap.objs.size,[f.heap.objs.size],_,_,j,rfl,c.kept λb o e=>Zq _ e,MZ a _,⟨_,Zr _ rfl,rfl,rfl⟩,λb t=>?_,q⟩);have e:b=f.heap.objs.size:=by simpa using t
 subst e;exact c.fpOk (Zf _) (c.hok.fresh (Zf _))
def Nd {Y:Yb}{Z: St}{H:Hp}{s:Shared}{R:It->Hp->Prop}{E:Ya}{lo a:Int}{t u v:Tok}{tk:Nat}(I:Inv X Y Z H s)(f: -(2 ^ 62)<=lo)(g:lo<2 ^ 62)(h: -(2 ^ 62)<=a)(i:a<2 ^ 62)
 (q:R (bL lo (a-lo).toNat) H):YI X (pyIter (.ref s.heap.objs.size)) (rP X Y Z tg R) E { s with heap:=s.heap.push { cls:=.type "range",data:=.fields #[.int lo t,.int a u,.int 1 v] },toks:=tk }:=by
 refine wpAny_pyIter_range (IsRange.new ..) (small_one f g h i) ?_;have c:Inv X Y Z H { s with heap:=s.heap.push { cls:=.type "range",data:=.fields #[.int lo t,.int a u,.int 1 v] },toks:=tk }:=I.kept λb o e=>Zq _ e;refine⟨(s.heap.push { cls:=.type "range",data:=.fields #[.int lo t,.int a u,.int 1 v] }).objs.size,[(s.heap.push { cls:=.type "range",data:=.fields #[.int lo t,.int a u,.int 1 v] }).objs.size],_,_,H,rfl,
  c.kept λb o e=>Zq _ e,Na _ lo (a-lo).toNat,?_,λb j=>?_,q⟩
 .have l:lo+((0:Nat):Int)*1=lo:=by simp
  have m:(((a-lo).toNat:Nat):Int)-((0:Nat):Int)=Builtin.Range.rangeSize lo a 1:=by grind[rangeSize_one]
  rw[l,m];exact Zr _ rfl
 .have e:b=(s.heap.push { cls:=.type "range",data:=.fields #[.int lo t,.int a u,.int 1 v] }).objs.size:=by simpa using j
  subst e;exact c.fpOk (Zf _) (c.hok.fresh (Zf _))
def kM (a:TA):TI:=λZ H R=>a Z H λb c=>∃j:Int,b=[.int j] /\ -(2 ^ 62)<=j/\j<2 ^ 62/\R (bL 0 j.toNat) c
def EE {a:Expr}{f:TA}{p b:Pos}(g:Gl X "range")(i:X.mg "range" = none)(l:PA X [a] f)(hs:starEach [a] X.env=[(false,eval a X.env)]:=by rfl):PI X tg (.Call (.Name "range" p) [a] [] b) (kM f):=by
 intro Y s Z H R I h;refine Call_ (Xc I g i boot_range (PyProof.Rows.callWith_type1 (jK (l b Y s Z H _ I h) λv w ⟨x,y,m,n,c⟩=>?_) hs rfl));obtain⟨j,e,c,o,q⟩:=c;subst e;cases n with
 |cons r u =>
  cases u;obtain⟨t,rfl⟩:=r;exact call_range_1 (Nd m () () c o (by simpa using q))
def mi (wi:TI)(g:TG)(e:TS):TS:=λD Z H=>wi Z H λJ f=>∃W:Nat->Nat->St->Hp->Prop,(∃m,W 0 m Z f)/\∀i m Z H,W i m Z H ->
 (J.stop i H/\D.nx Z H)\/(J.go i H/\∃N:St->Hp->Prop,(∀b a,N b a->∃c,c<m/\W (i+1) c b a)/\∀x a,J.yld i H x a->g x Z a λh j=>e { D with nx:=N,ct:=N,bk:=D.nx } h j)
def XN (a:Yl)(h:Heap):Yb:=a.filterMap λb=>(h.get? b).map λo=>(b,o)
def Aj {a:Yl}{h:Heap}{b:Addr}{o:Obj}(c:b∈a)(e:h.get? b=some o):(b,o)∈XN a h:=Jr.mpr ⟨b,c,by rw[e];rfl⟩
def Nf {a:Yl}{h:Heap}{p:Addr×Obj}(hp:p∈XN a h):p.1∈a/\h.get? p.1=some p.2:=by
 obtain⟨b,c,e⟩:=Jr.mp hp;cases q:h.get? b with
 |none=>rw[q] at e;cases e
 |some o =>
  grind
def Inv.pinned {Y:Yb}{Z: St}{H:Hp}{s:Shared}{a:Yl}(I:Inv X Y Z H s)(c:∀b∈a,yq X Y H b)(g:∀b∈a,∃o,s.heap.get? b=some o/\∀v,o.data ≠ .cell v):Inv X (Y++XN a s.heap) Z H s:=
 I.pins_of λp hp=>(Jb.mp hp).elim (λz=>I.pin p ()) λz=>by
  obtain⟨f,e⟩:=Nf z;obtain⟨h,i,j,_⟩:=c p.1 f
  grind
def Inv.unpinned {Y pl:Yb}{Z: St}{H:Hp}{s:Shared}(I:Inv X (Y++pl) Z H s):Inv X Y Z H s:=I.pins_of λp hp=>I.pin p ()
def BU {a:Expr}{t:List Stmt}{wi:TI}{g:TG}{S:TS}{L:Pos}(hp:PassesOwn (model X.prog X.w) X.A X.env X.xe)(U:X.calm=true)(hi:PI X tg a wi)(hg:PG X tg g)(c:qP X t S)
 (hs:∀x,foldedSetIterable a X.env x=pure x:=by intro _;rfl):PS X (.For tg a t [] L) (mi wi g S):=by
 intro Y s Z H D I h;refine wpAny_For (jK (hi Y s Z H _ I h) λv s1 h1=>jK h1 λitv s2 h2=>?_) hs;obtain⟨it,y,tn,J,H2,e,I2,T,M,f2,W,⟨m0,w0⟩,z⟩:=h2;subst e;have j:∀{q:Hp},(∀b∈y,q b=none)->∀b∈y,yq X Y q b:=λhn b c=>⟨hn b c,(f2 b c).2⟩;refine codeAny_forLoop_any (λn s'=>∃i A q,Inv X Y A q s'/\tn i s'.heap/\(∀b∈y,q b=none)/\W i n A q) ?_ m0 ⟨0,Z,H2,I2,M,λb c=>(f2 b c).1,w0⟩;rintro n s3 ⟨i,B,K,I3,C,E,w3⟩;rcases z i n B K w3 with ⟨F,qn⟩|⟨go,N,hN,step⟩
 .refine wpAny_passesOwn hp (jK (T.done X rfl rfl rfl U i Y s3 B K X.xe I3 (j E) C F) λr s4 ⟨O,I4⟩=>?_);subst O;exact wpAny_execs_nil ⟨B,K,I4,qn⟩
 .refine wpAny_passesOwn hp (jK (T.item X rfl rfl rfl U i Y s3 B K X.xe I3 (j E) C go) λr s4 ⟨u,O,h4⟩=>?_);subst O;refine wpAny_passesOwn hp (jK h4 λ_ s5 ⟨x,H5,I5,r5,y5,wN,P⟩=>?_);have Q:=I5.pinned (j P) (T.obj _ _ wN);refine wpAny_passesOwn hp (jK (hg _ s5 B H5 x u _ Q r5 (step x H5 y5)) λ_ s6 ⟨Z6,H6,I6,q6⟩=>?_);refine wpAny_passesOwn hp (jK (c _ s6 Z6 H6 _ I6 q6) λf R w=>?_);have again:∀{l:St} {H7:Hp},Inv X (Y++XN y s5.heap) l H7 R->N l H7->∃m,m<n/\∃i A q,Inv X Y A q R/\tn i R.heap/\(∀b∈y,q b=none)/\W i m A q:=λ{l H7} p G=>by
   obtain⟨m',hm,w7⟩:=hN l H7 G;refine⟨m',hm,i+1,l,H7,p.unpinned,T.keep _ _ _ wN λb c o e=>(p.pin (b,o) (Ut _ (Ut _ (Aj c e)))).1,λb c=>?_,w7⟩;obtain⟨o,e,d⟩:=T.obj _ _ wN b c;exact(p.pin (b,o) (Ut _ (Ut _ (Aj c e)))).2.1
  cases f with
  |next=>obtain⟨l,H7,p,G⟩:=w;exact again p G
  |cont=>obtain⟨l,H7,p,G⟩:=w;exact again p G
  |brk=>obtain⟨l,H7,p,w⟩:=w;exact⟨l,H7,p.unpinned,w⟩
  |ret v=>obtain⟨x7,l,H7,p,r7,w⟩:=w;exact⟨x7,l,H7,p.unpinned,r7,w⟩
end
abbrev R2:=V->V->Hp->VK->Prop
def xg (X:Cx)(f:Value->Value->Sem Value)(r:R2):Prop:=
 ∀(Y:Yb) (s:Shared) (Z: St) (H:Hp) (x y:V) (v u:Value) (Q:VK),Inv X Y Z H s->jq x v->jq y u->r x y H Q ->
  YI X (f v u) (EP X Y Z Q) X.xe s
def wV (X:Cx)(f:Value->Sem Value)(r:V->Hp->VK->Prop):Prop:=
 ∀(Y:Yb) (s:Shared) (Z: St) (H:Hp) (x:V) (v:Value) (Q:VK),Inv X Y Z H s->jq x v->r x H Q ->
  YI X (f v) (EP X Y Z Q) X.xe s
def jS (X:Cx)(f:Value)(r:YE->Hp->VK->Prop):Prop:=
 ∀(Y:Yb) (s:Shared) (Z: St) (H:Hp) (a:YE) (b:Yf) (Q:VK),Inv X Y Z H s->jp a b->r a H Q ->
  YI X (call f b) (EP X Y Z Q) X.xe s
def vm (r:R2)(a b:TE):TE:=λZ H Q=>a Z H λx c=>b Z c λy e=>r x y e Q
def rg (r:V->Hp->VK->Prop)(a:TE):TE:=λZ H Q=>a Z H λx b=>r x b Q
def rI (C:Int->Int->Prop)(g:Int->Int->V):R2:=λx y H Q=>∃i j,x=.int i/\y=.int j/\C i j/\Q (g i j) H
def vn (g:Int->Int->V):R2:=λx y H Q=>∃i j,x=.int i/\y=.int j/\Q (g i j) H
def rU (g:Int->V):V->Hp->VK->Prop:=λx H Q=>∃i,x=.int i/\Q (g i) H
section
variable {X:Cx}{a b c:Expr}{ta tb tc:TE}{pos:Pos}
def vA (j:PE X a ta)(l:PE X b tb){Y:Yb}{s:Shared}{Z: St}{H:Hp}{R:V->V->Hp->Prop}(I:Inv X Y Z H s)
 (h:ta Z H λx i=>tb Z i λy e=>R x y e) {Q:Ya} {f:Value->Value->Sem Value}
 (m:∀v u g x y e,Inv X Y Z e g->jq x v->jq y u->R x y e->YI X (f v u) Q X.xe g):
 YI X (eval a X.env) (λv s₁=>YI X (eval b X.env) (λu s₂=>YI X (f v u) Q X.xe s₂) X.xe s₁) X.xe s:=by
 refine jK (j Y s Z H _ I h) λv n ⟨x,i,o,p,q⟩=>?_;refine jK (l Y n Z i _ o q) λu g ⟨y,e,r,t,w⟩=>?_;exact m v u g x y e r p t w
def BV {op:Operator}{r:R2}(e:xg X (binaryOp op) r)(f:PE X a ta)(g:PE X b tb):PE X (.BinOp a op b pos) (vm r ta tb):=λY s Z H Q I h=>wpAny_BinOp (vA f g I h λv u i x y j l m n q=>e Y i Z j x y v u Q l m n q)
def uY {op:UnaryOp}{r:V->Hp->VK->Prop}(e:wV X (unaryOp op) r)(f:PE X a ta):PE X (.UnaryOp op a pos) (rg r ta):=λY s Z H Q I h=>UnaryOp_ (jK (f Y s Z H _ I h) λv g ⟨x,i,j,l,m⟩=>e Y g Z i x v Q j l m)
def kq {f:Value->Value->Sem Value}{C:Int->Int->Prop}{g:Int->Int->Int}
 (rule:∀(i j:Int) (t u:Tok) (s:Shared) (Q:Ya) (E:Ya),C i j->Q (.int (g i j) s.toks) { s with toks:=s.toks+1 }->YI X (f (.int i t) (.int j u)) Q E s):
 xg X f (rI C λi j=>.int (g i j)):=by
 intro Y s Z H x y v u Q I e l h;obtain⟨i,j,rfl,rfl,m,q⟩:=h;obtain⟨t,rfl⟩:=e;obtain⟨t',rfl⟩:=l;exact rule i j t t' s _ _ m ⟨.int (g i j),H,I.tok _,⟨_,rfl⟩,q⟩
def kn {f:Value->Value->Sem Value}{g:Int->Int->Int}
 (rule:∀(i j:Int) (t u:Tok) (s:Shared) (Q:Ya) (E:Ya),Q (.int (g i j) s.toks) { s with toks:=s.toks+1 }->YI X (f (.int i t) (.int j u)) Q E s):
 xg X f (vn λi j=>.int (g i j)):=by
 intro Y s Z H x y v u Q I e l h;obtain⟨i,j,rfl,rfl,q⟩:=h;obtain⟨t,rfl⟩:=e;obtain⟨t',rfl⟩:=l;exact rule i j t t' s _ _ ⟨.int (g i j),H,I.tok _,⟨_,rfl⟩,q⟩
def v7 {f:Value->Value->Sem Value}{g:Int->Int->Bool}
 (rule:∀(i j:Int) (t u:Tok) (s:Shared) (Q:Ya) (E:Ya),Q (.bool (g i j)) s->YI X (f (.int i t) (.int j u)) Q E s):
 xg X f (vn λi j=>.bl (g i j)):=by
 intro Y s Z H x y v u Q I e l h;obtain⟨i,j,rfl,rfl,q⟩:=h;obtain⟨t,rfl⟩:=e;obtain⟨t',rfl⟩:=l;exact rule i j t t' s _ _ ⟨.bl (g i j),H,I,rfl,q⟩
def fR (i j:Int):Prop:=0<j/\j<1073741824
def fQ (i j:Int):Prop:=0<=j/\j<=1000000/\i.natAbs<2 ^ 64
def Ng:xg X (binaryOp .Add) (vn λi j=>.int (i+j)):=kn λ_ _ _ _ _ _ _ q=>add_int q
def Nh:xg X (binaryOp .Sub) (vn λi j=>.int (i-j)):=kn λ_ _ _ _ _ _ _ q=>sub_int q
def Ni:xg X (binaryOp .FloorDiv) (rI fR λi j=>.int (i / j)):=kq λi j _ _ _ _ _ e q=>have f:=e.1;have g:=e.2;floordiv_int () (by rwa [Int.fdiv_eq_ediv_of_nonneg i ()]) (.inl (PyProof.noPylong_small ()))
def Nj:xg X (binaryOp .Mod) (rI (λ_ j=>0<j) λi j=>.int (i % j)):=kq λi j _ _ _ _ _ e q=>by
 have f:(0:Int)<j:=e;exact mod_int' () (by rw[Int.fmod_eq_emod_of_nonneg i ()];exact q)
def Nk:xg X (binaryOp .Pow) (rI fQ λi j=>.int (i ^ j.toNat)):=kq λ_ _ _ _ _ _ _ e q=>pow_int_small e.1 e.2.1 e.2.2 q
def cB {f:Value->Sem Value}{g:Int->Int}
 (rule:∀(i:Int) (t:Tok) (s:Shared) (Q:Ya) (E:Ya),Q (.int (g i) s.toks) { s with toks:=s.toks+1 }->YI X (f (.int i t)) Q E s):
 wV X f (rU λi=>.int (g i)):=by
 intro Y s Z H x v Q I e h;obtain⟨i,rfl,q⟩:=h;obtain⟨t,rfl⟩:=e;exact rule i t s _ _ ⟨.int (g i),H,I.tok _,⟨_,rfl⟩,q⟩
def Nl:wV X (unaryOp .USub) (rU λi=>.int (-i)):=cB λ_ _ _ _ _ q=>neg_int q
end
def scal:V->V->Bool
 | .non,.non=>true | .non,.int _=>true | .int _,.non=>true | .non,.bl _=>true | .bl _,.non=>true | .non,.str _=>true | .str _,.non=>true
 | .int _,.int _=>true | .bl _,.bl _=>true | .str _,.str _=>true | .byt _,.byt _=>true
 | .int _,.str _=>true | .str _,.int _=>true | .bl _,.str _=>true | .str _,.bl _=>true
 |_,_=>false
def cN:R2:=λx y H Q=>scal x y=true/\Q (.bl (decide (x=y))) H
def cL:R2:=λx y H Q=>scal x y=true/\Q (.bl (!decide (x=y))) H
def EF {i j:Int}:decide (V.int i=V.int j)=(i == j):=by
 rw[Vc];simp
def EG {i j:Bool}:decide (V.bl i=V.bl j)=(i == j):=by
 rw[Vc];simp
def EH {i j:Str}:decide (V.str i=V.str j)=(i == j):=by
 rw[Vc];simp
def EI {i j:Array UInt8}:decide (V.byt i=V.byt j)=(i.toList == j.toList):=by
 rw[Vc];cases i;cases j;simp
section
variable {X:Cx}{a b c:Expr}{ta tb tc:TE}{pos:Pos}
def JV {Y:Yb}{Z: St}{H:Hp}{s:Shared}{Q:VK}{k f:Bool}(I:Inv X Y Z H s)(q:Q (.bl k) H)(e:k=f):EP X Y Z Q (.bool f) s:=by
 subst e;exact⟨.bl k,H,I,rfl,q⟩
def km:xg X (compareOp .Eq) cN:=by
 intro Y s Z H x y v u Q I f e h;obtain⟨hs,q⟩:=h;cases x with
 |non =>
  cases f;cases y with
  |non=>cases e;exact PySem.EqNone.eq_none_none (JV I q ())
  |bl j=>cases e;exact PySem.EqNone.eq_none_bool (JV I q ())
  |int j=>obtain⟨t',rfl⟩:=e;exact PySem.EqNone.eq_none_int (JV I q ())
  |str j=>obtain⟨t',rfl⟩:=e;exact PySem.EqNone.eq_none_str (JV I q ())
  |_=>exact Zn (show false=true from hs) Zj
 |bl i =>
  cases f;cases y with
  |non=>cases e;exact PySem.EqNone.eq_bool_none (JV I q ())
  |bl j=>cases e;exact eq_bool (JV I q EG)
  |str j=>obtain⟨t',rfl⟩:=e;exact PySem.EqMixed.eq_bool_str (JV I q ())
  |_=>exact Zn (show false=true from hs) Zj
 |int i =>
  obtain⟨t,rfl⟩:=f;cases y with
  |non=>cases e;exact PySem.EqNone.eq_int_none (JV I q ())
  |int j=>obtain⟨t',rfl⟩:=e;exact eq_int (JV I q EF)
  |str j=>obtain⟨t',rfl⟩:=e;exact PySem.EqMixed.eq_int_str (JV I q ())
  |_=>exact Zn (show false=true from hs) Zj
 |str i =>
  obtain⟨t,rfl⟩:=f;cases y with
  |non=>cases e;exact PySem.EqNone.eq_str_none (JV I q ())
  |bl j=>cases e;exact PySem.EqMixed.eq_str_bool (JV I q ())
  |int j=>obtain⟨t',rfl⟩:=e;exact PySem.EqMixed.eq_str_int (JV I q ())
  |str j=>obtain⟨t',rfl⟩:=e;exact eq_str (JV I q EH)
  |_=>exact Zn (show false=true from hs) Zj
 |byt i =>
  obtain⟨t,rfl⟩:=f;cases y with
  |byt j=>obtain⟨t',rfl⟩:=e;exact W.eq_bytes (JV I q EI)
  |_=>exact Zn (show false=true from hs) Zj
 |_=>cases y<;>exact Zn (show false=true from hs) Zj
def kh:xg X (compareOp .NotEq) cL:=by
 intro Y s Z H x y v u Q I f e h;obtain⟨hs,q⟩:=h;cases x with
 |non =>
  cases f;cases y with
  |non=>cases e;exact PySem.EqNone.ne_none_none (JV I q ())
  |bl j=>cases e;exact PySem.EqNone.ne_none_bool (JV I q ())
  |int j=>obtain⟨t',rfl⟩:=e;exact PySem.EqNone.ne_none_int (JV I q ())
  |str j=>obtain⟨t',rfl⟩:=e;exact PySem.EqNone.ne_none_str (JV I q ())
  |_=>exact Zn (show false=true from hs) Zj
 |bl i =>
  cases f;cases y with
  |non=>cases e;exact PySem.EqNone.ne_bool_none (JV I q ())
  |bl j=>cases e;exact ne_bool (JV I q (Zt not EG))
  |str j=>obtain⟨t',rfl⟩:=e;exact PySem.EqMixed.ne_bool_str (JV I q ())
  |_=>exact Zn (show false=true from hs) Zj
 |int i =>
  obtain⟨t,rfl⟩:=f;cases y with
  |non=>cases e;exact PySem.EqNone.ne_int_none (JV I q ())
  |int j=>obtain⟨t',rfl⟩:=e;exact ne_int (JV I q (Zt not EF))
  |str j=>obtain⟨t',rfl⟩:=e;exact PySem.EqMixed.ne_int_str (JV I q ())
  |_=>exact Zn (show false=true from hs) Zj
 |str i =>
  obtain⟨t,rfl⟩:=f;cases y with
  |non=>cases e;exact PySem.EqNone.ne_str_none (JV I q ())
  |bl j=>cases e;exact PySem.EqMixed.ne_str_bool (JV I q ())
  |int j=>obtain⟨t',rfl⟩:=e;exact PySem.EqMixed.ne_str_int (JV I q ())
  |str j=>obtain⟨t',rfl⟩:=e;exact ne_str (JV I q (Zt not EH))
  |_=>exact Zn (show false=true from hs) Zj
 |byt i =>
  obtain⟨t,rfl⟩:=f;cases y with
  |byt j=>obtain⟨t',rfl⟩:=e;exact W.ne_bytes (JV I q (Zt not EI))
  |_=>exact Zn (hs) Zj
 |_=>cases y<;>exact Zn (show false=true from hs) Zj
def ki:xg X (compareOp .Lt) (vn λi j=>.bl (decide (i<j))):=v7 λ_ _ _ _ _ _ _ q=>lt_int q
def kj:xg X (compareOp .Gt) (vn λi j=>.bl (decide (j<i))):=v7 λ_ _ _ _ _ _ _ q=>gt_int q
def kl:xg X (compareOp .GtE) (vn λi j=>.bl (decide (j<=i))):=v7 λ_ _ _ _ _ _ _ q=>ge_int q
def Qg (b:Expr){op:CmpOp}(h:op ≠ .In:=by decide)(e:op ≠ .NotIn:=by decide):behindInMarks op b=false:=by
 cases b<;>first|rfl|(show(_&&(_||_)&&_)=false;simp_all)
def Nm {op:CmpOp}{r:R2}(e:xg X (compareOp op) r)(f:PE X a ta)(g:PE X b tb)(i:behindInMarks op b=false):PE X (.Compare a [op] [b] pos) (vm r ta tb):=λY s Z H Q I h=>wpAny_Compare1 (vA f g I h λv u j x y l m n o q=>e Y j Z l x y v u Q m n o q) i
def uf (t:TE):TT:=λZ H Q=>t Z H λx e=>∃k,x=.bl k/\Q k e
def BW {op:CmpOp}{r:R2}(f:xg X (compareOp op) r)(g:PE X a ta)(i:PE X b tb)(j:behindInMarks op b=false):PT X (.Compare a [op] [b] pos) (uf (vm r ta tb)):=by
 intro Y s Z H Q I h;refine wpAny_isTrue_Compare1 (jK (g Y s Z H _ I h) λv l ⟨x,m,n,o,p⟩=>jK (i Y l Z m _ n p) λu q ⟨y,t,w,A,B⟩ =>
  jK (f Y q Z t x y v u _ w o A B) λc J ⟨z,C,E,F,k,e,G⟩=>?_) j
 subst e;cases F;exact wpAny_truthy_bool ⟨C,E,G⟩
def Xd:(sizeLine:Nat)<2 ^ 63:=by decide
def No:xg X (binaryOp .Add) (λx y H Q=>∃i j,x=.str i/\y=.str j/\i.length+j.length<=sizeLine/\Q (.str (i++j)) H):=by
 intro Y s Z H x y v u Q I e f h;obtain⟨i,j,rfl,rfl,hz,q⟩:=h;obtain⟨t,rfl⟩:=e;obtain⟨t',rfl⟩:=f;exact add_str (λt' tk=>⟨.str (i++j),H,I.tok _,⟨_,rfl⟩,q⟩) hz
def QM {x:V}{e:Yf}(r:jp [x] e):∃u,e=[u]/\jq x u:=by
 cases r with
 |cons f g=>cases g;exact⟨_,rfl,f⟩
def XO {x y:V}{e:Yf}(r:jp [x,y] e):∃u f,e=[u,f]/\jq x u/\jq y f:=by
 cases r with
 |cons g h =>
  cases h with
  |cons i j=>cases j;exact⟨_,_,rfl,g,i⟩
def Np (g:X.calm=true):jS X (.builtin "max") (λf H Q=>∃i j,f=[.int i,.int j]/\Q (.int (if j > i then j else i)) H):=by
 intro Y s Z H f l Q I r h;obtain⟨i,j,rfl,q⟩:=h;obtain⟨u,m,rfl,⟨t,rfl⟩,⟨t',rfl⟩⟩:=XO r;refine max_two_ints (I.ok.hd g) λh' tk k=>⟨_,H,I.kept k,?_,q⟩;by_cases e:j > i
 .rw[Zd e,Zd e];exact⟨_,rfl⟩
 .rw[Ze e,Ze e];exact⟨_,rfl⟩
def Nq (g:X.calm=true):jS X (.builtin "min") (λf H Q=>∃i j,f=[.int i,.int j]/\Q (.int (if j<i then j else i)) H):=by
 intro Y s Z H f l Q I r h;obtain⟨i,j,rfl,q⟩:=h;obtain⟨u,m,rfl,⟨t,rfl⟩,⟨t',rfl⟩⟩:=XO r;refine min_two_ints (I.ok.hd g) λh' tk k=>⟨_,H,I.kept k,?_,q⟩;by_cases e:j<i
 .rw[Zd e,Zd e];exact⟨_,rfl⟩
 .rw[Ze e,Ze e];exact⟨_,rfl⟩
def Nr:jS X (.type "str") (λe H Q=>∃i,e=[.int i]/\i.natAbs.log2<1920/\Q (.str (toString i)) H):=by
 intro Y s Z H e f Q I r h;obtain⟨i,rfl,hz,q⟩:=h;obtain⟨u,rfl,t,rfl⟩:=QM r;exact PySem.P.str_of_int hz ⟨.str _,H,I.tok _,⟨_,rfl⟩,q⟩
end
structure ObjM (h:Heap)(x dx C:Addr)(mA:Ye):Prop where
 obj:h.get? x=some (W.instObj C dx)
 ns:h.Ns1 dx mA
 ne:dx≠x
def Nt {h:Heap}{c:Addr}{mA:Ye}(n:h.Ns1 c mA):∃f,h.get? c=some f/\∀name,W.lookIn name f=some (mA name):=by
 obtain⟨o,es,ep,g,i,j,_,l⟩:=n;refine⟨o,g,λname=>?_⟩;have e:=l name;unfold nsFind findBy at e;rw[<- Array.find?_toList] at e;unfold W.lookIn;rw[i];dsimp only
 split
 .simp_all
 .have a:es.toList.any (·.refKey)=false:=by
   rw[List.any_eq_false];intro y m;obtain⟨z,t,b⟩:=j y ();simp[DictEntry.refKey,b]
  simp_all
def ObjM.look {h:Heap}{x b C:Addr}{mA:Ye}(I:ObjM h x b C mA):∃a,W.InstAt h x (W.instObj C b) C (some a)/\∀name,W.lookIn name a=some (mA name):=
 let ⟨a,ho,hl⟩:=Nt I.ns
 ⟨a,⟨I.obj,rfl,rfl,ho⟩,hl⟩
section
variable {prog:Program}{w:World}{A:Around}{E:Ya}{s:Shared}{K:W.Frag}{x dx C f:Addr}{mA:Ye}{name:Str}{v:Value}
def Nu {a:Bool}{Q:Ya}(X:K.In s.heap)(I:ObjM s.heap x dx C mA)(c:W.plainGet K C name=true)(e:W.hasDictIn K C=true)
 (g:W.findIn K (.ref C) name=some none) (i:mA name=some v) (b:W.handedIn v=true) (h:Q v { s with toks:=s.toks+1 }):
 YJ prog w A (getAttr (.ref x) name a) Q E s:=by
 obtain⟨l,J,j⟩:=I.look;exact W.get_value X J (W.plainGet_of c).1 (W.findObj_own e g rfl (by rw[j,i])) b h
def Nv {ns:Yk}{Q:Unit->YC}(X:K.In s.heap)(I:ObjM s.heap x dx C mA)
 (hs:W.findIn K (.ref C) "__setattr__" = some (some (.builtin "object.__setattr__"))) (hp:W.plainOver K C=true) (j:W.takerIn K C name=some none) (l:W.hasDictIn K C=true)
 (m:PySem.Within mA ns) (hsz:ns.length<=sizeLine)
 (h:∀h',ObjM h' x dx C (λy=>if y=name then some v else mA y)->Heap.SameBut dx s.heap h'->Q Yt { s with heap:=h',toks:=s.toks+2 }):
 YJ prog w A (setAttr (.ref x) name v) Q E s:=by
 obtain⟨r,J,t⟩:=I.look;refine W.set_plain X J hs (W.osa_open X J hp j λb=>?_);obtain⟨u,n,e⟩:=W.any_some l;refine Za (Zb (Za (Za (wpAny_loadPart I.obj (Za (W.Looks.here (W.looks_clsIn X n) ?_))))));rw[e];refine Zb (Za (Zb (Za (wpAny_nsSet1 I.ns λh' a c=>?_))));obtain⟨z,o,p,g,i,q⟩:=a.count (PySem.Within.cons name v m);exact Za (wpAny_lookBehind g (by rw[i];exact pastItsLine_dict ()) (Zb (h _ ⟨(c.2 _ (Ne.symm I.ne)).trans I.obj,a,I.ne⟩ c)))
def Nw {R:Result->YC}{b:Yf}{c:List (Str×Value)}(X:K.In s.heap)(e:W.makesIn K C=true)
 (g:W.findIn K (.ref C) "__init__" = some (some (.ref f))) (i:W.typeIn K (.ref f)=some (.type "function"))
 (h:codeAny (model prog w) (A.under (.builtin "type.__call__" ⟨.ref C::b,c⟩)) (.call (.ref f) ⟨.ref (s.heap.objs.size+1)::b,c⟩) (W.InitBack (s.heap.objs.size+1) R)
  { s with heap:=(s.heap.push W.emptyDict).push (W.instObj C s.heap.objs.size) }):
 codeAny (model prog w) A (.call (.ref C) ⟨b,c⟩) R s:=W.make_core (W.makes_of X e) (W.looks_findIn X g) (λa=>W.bind_fn X a i) (.inl rfl) h
end
def qS (f:Str)(v:V):List (Str×V)->List (Str×V)
 | []=>[(f,v)]
 | (g,x)::r=>if g=f then(g,v)::r else(g,x)::qS f v r
theorem EJ (f g:Str)(v:V):∀fs:List (Str×V),(qS f v fs).lookup g=if g=f then some v else fs.lookup g
 | []=>by
  show List.lookup g [(f,v)]=_
  grind
 | (k,x)::r=>by
  have a:=EJ f g v r;rw[show qS f v ((k,x)::r)=(if k=f then(k,v)::r else(k,x)::qS f v r) from rfl]
  grind
theorem BX (f:Str)(v:V):∀fs:List (Str×V),f∈(qS f v fs).map (·.1)/\∀g,g∈fs.map (·.1)->g∈(qS f v fs).map (·.1)
 | []=>⟨by simp[qS],()⟩
 | (k,x)::r=>by
  obtain⟨a,b⟩:=BX f v r;rw[show qS f v ((k,x)::r)=(if k=f then(k,v)::r else(k,x)::qS f v r) from rfl]
  grind
theorem EK (f:Str)(v:V):∀fs:List (Str×V),(qS f v fs).length<=fs.length+1
 | []=>by simp[qS]
 | (k,x)::r=>by
  have a:=EK f v r;rw[show qS f v ((k,x)::r)=(if k=f then(k,v)::r else(k,x)::qS f v r) from rfl]
  grind
def qH {v:V}{o:Yg}(r:xt (some v) o):∃u,o=some u/\jq v u:=by
 cases o with
 |none=>exact(r).elim
 |some u=>exact⟨u,rfl,r⟩
def Nx {v:V}{u:Value}(r:jq v u):W.handedIn u=true:=by
 cases v with
 |non=>cases (r);rfl
 |bl b=>cases (r);rfl
 |int i=>have ⟨t,e⟩:=(r);cases e;rfl
 |str x=>have ⟨t,e⟩:=(r);cases e;rfl
 |byt b=>have ⟨t,e⟩:=(r);cases e;rfl
 |flt b=>have ⟨t,e⟩:=(r);cases e;rfl
 |ref a=>cases (r);rfl
 |ty n=>cases (r);rfl
section
variable {P:Program}{w:World}{H H':Hp}{h h':Heap}{a C dx:Addr}{fs fs':List (Str×V)}
def BY (b:qR P w H h)(e:H a=some (.ins C dx fs)):∃mA,ObjM h a dx C mA/\(∀f,xt (fs.lookup f) (mA f))/\PySem.Within mA (fs.map (·.1))/\fs.length<=1000/\H dx=some (.own a):=have ⟨d,z,ne,c,mA,n,r,q⟩:=(b a _ e);⟨mA,⟨c,n,ne⟩,r,q,z,d⟩
end
structure Cls (K:W.Frag)(C:Addr):Prop where
 pg:W.plainGet K C Str.empty=true
 hd:W.hasDictIn K C=true
 po:W.plainOver K C=true
 sa:W.findIn K (.ref C) "__setattr__" = some (some (.builtin "object.__setattr__"))
def Cls.get {K:W.Frag}{C:Addr}(c:Cls K C)(f:Str):W.plainGet K C f=true:=c.pg
def vj (K:W.Frag)(C:Addr)(f:Str):Prop:=W.findIn K (.ref C) f=some none
def vj.taker {K:W.Frag}{C:Addr}{f:Str}(n:vj K C f):W.takerIn K C f=some none:=by
 unfold W.takerIn;rw[n];rfl
section
variable {X:Cx}{Y:Yb}{Z: St}{H:Hp}{s:Shared}{a C dx:Addr}{fs:List (Str×V)}{f:Str}{v:V}{A:Around}{E:Ya}
def Ny {b:Bool}{Q:Ya}(I:Inv X Y Z H s)(e:H a=some (.ins C dx fs))(c:Cls X.K C)(n:vj X.K C f)(l:fs.lookup f=some v)
 (h:∀u s',Inv X Y Z H s'->jq v u->Q u s'):wpAny (model X.prog X.w) A (getAttr (.ref a) f b) Q E s:=by
 obtain⟨mA,O,r,_,_,_⟩:=BY I.hok e;obtain⟨u,i,g⟩:=qH (v:=v) (o:=mA f) (by rw[<- l];exact r f);exact Nu I.kIn O (c.get f) c.hd n i (Nx g) (h u _ (I.tok _) g)
def Nz {y:V}{u:Value}{Q:Unit->YC}(I:Inv X Y Z H s)(e:H a=some (.ins C dx fs))(c:Cls X.K C)(n:vj X.K C f)(w:fs.length<1000)(x:jq y u)
 (h:∀s',Inv X Y Z (j9 H a (.ins C dx (qS f y fs))) s'->Q Yt s'):wpAny (model X.prog X.w) A (setAttr (.ref a) f u) Q E s:=by
 obtain⟨mA,O,r,wi,_,j⟩:=BY I.hok e;have hz:(fs.map (·.1)).length<=sizeLine:=by rw[Zql,sizeLine_eq];lia
 refine Nv I.kIn O c.sa c.po n.taker c.hd wi hz λh' i l=>h _ ?_;have m:∃o,h'.get? dx=some o:=let ⟨o,_,_,e',_⟩:=i.ns;⟨o,e'⟩
 refine I.write (by rw[e];exact True.intro) (.inr j) (λb q p z=>(l.2 b p).trans z) m ⟨by rwa [JJ O.ne],?_,O.ne,i.obj,_,i.ns,λg=>?_,λg t=>?_⟩
 .have:=EK f y fs;lia
 .rw[EJ];by_cases q:g=f
  .rwa [Zd q,Zd q]
  simp_all
 .by_cases q:g=f
  .rw[q];exact(BX f y fs).1
  .refine(BX f y fs).2 g (wi g λz=>t ?_)
   simp_all
def Inv.made (I:Inv X Y Z H s):Inv X Y Z (j9 (j9 H s.heap.objs.size (.own (s.heap.objs.size+1))) (s.heap.objs.size+1) (.ins C s.heap.objs.size []))
 { s with heap:=(s.heap.push W.emptyDict).push (W.instObj C s.heap.objs.size) }:=by
 have c:(s.heap.push W.emptyDict).get? s.heap.objs.size=some W.emptyDict:=Zr s.heap rfl;have g:((s.heap.push W.emptyDict).push (W.instObj C s.heap.objs.size)).get? (s.heap.objs.size+1)=some (W.instObj C s.heap.objs.size):=by
  have:=Zr (s.heap.push W.emptyDict) (o:=W.instObj C s.heap.objs.size) rfl
  rwa [Heap.size_push] at this
 have h:(s.heap.push W.emptyDict).Ns s.heap.objs.size (λ_=>none):=⟨W.emptyDict,#[],_,c,rfl,(λe i=>Zn i ()),λ_=>rfl⟩;refine(I.laid (o:=.own (s.heap.objs.size+1)) (t':=s.toks) (λb u q=>Zq _ q) (Zf _) ⟨_,c⟩).laid (λb u q=>Zq _ q) () ?_;have ne:s.heap.objs.size≠s.heap.objs.size+1:=()
 refine⟨by rw[JJ ne,JL],Ub _,ne,g,λ_=>none,(Heap.Ns1.of_empty h).at λo q=>Zq _ q,λ_=>True.intro,λy j=>Zn rfl j⟩
def N0 {prog:Program}{w:World}{env:Env}{e:Expr}{f:Str}{b:Pos}{s:Shared}{Q:Ya}(c:attributeBase e f env (eval e env)=eval e env)
 (h:YJ prog w A (eval e env) (λo s₁=>YJ prog w A (getAttr o f true) Q E s₁) E s):YJ prog w A (eval (.Attribute e f b) env) Q E s:=
 Attribute_any_ h (by rw[arm_eval_Attribute,c])
end
def ml (K:W.Frag)(c:TE)(f:Str):TE:=λZ H Q=>c Z H λx b=>∃a C e fs v,x=.ref a/\b a=some (.ins C e fs)/\Cls K C/\vj K C f/\fs.lookup f=some v/\Q v b
def ms (K:W.Frag)(e g:TE)(f:Str):TS:=λD Z H=>g Z H λy h=>e Z h λx b=>∃a C c fs,x=.ref a/\b a=some (.ins C c fs)/\Cls K C/\vj K C f/\fs.length<1000 /\
 D.nx Z (j9 b a (.ins C c (qS f y fs)))
section
variable {X:Cx}{o e value:Expr}{f:Str}{pos pos' tpos:Pos}{ta tv:TE}
def N1 (b:PE X e ta)(g:attributeBase e f X.env (eval e X.env)=eval e X.env):PE X (.Attribute e f pos) (ml X.K ta f):=by
 intro Y s Z H Q I h;refine N0 g (jK (b Y s Z H _ I h) λu y ⟨x,i,j,m,a,C,z,fs,v,p,r,c,n,l,q⟩=>?_);subst p;obtain rfl:=m;exact Ny j r c n l λA B t w=>⟨v,i,t,w,q⟩
def N2 (b:PE X o ta)(g:PE X value tv)(hs:swapsWith value (some (.Attribute o f pos')) pos.line X.env=pure false):PS X (.Assign [.Attribute o f pos'] value pos) (ms X.K ta tv f):=by
 intro Y s Z H D I h;refine plainObj_wpAny_Assign_Attribute (jK (g Y s Z H _ I h) λu i ⟨y,j,m,p,q⟩=>jK (b Y i Z j _ m q) λB E ⟨x,F,r,t,a,C,G,fs,v,w,c,n,l,z⟩=>?_) hs;subst v;obtain rfl:=t;exact Nz r w c n l p λJ A=>⟨Z,_,A,z⟩
end
section
variable {X:Cx}{Y:Yb}{Z: St}{H:Hp}{s:Shared}{A:Around}{E:Ya}{Q:Ya}{c:Value}{b:Bool}
inductive TyOf (K:W.Frag)(H:Hp):V->Value->Prop where
 |non:TyOf K H .non (.type "NoneType")
 |bl (x:Bool):TyOf K H (.bl x) (.type "bool")
 |int (i:Int):TyOf K H (.int i) (.type "int")
 |str (x:Str):TyOf K H (.str x) (.type "str")
 |flt (x:UInt64):TyOf K H (.flt x) (.type "float")
 |lst {a:Addr} {xs:YE} (e:H a=some (.lst xs)):TyOf K H (.ref a) (.type "list")
 |frz {a:Addr} {o:Obj} {xs:YE} (e:H a=some (.frz o (.lst xs))):TyOf K H (.ref a) (.type "list")
 |tup {a:Addr} {xs:YE} (e:H a=some (.tup xs)):TyOf K H (.ref a) (.type "tuple")
 |dK {a:Addr} {kvs:List (j0×V)} (e:H a=some (.dK kvs)):TyOf K H (.ref a) (.type "dict")
 |dT {a:Addr} {kvs:List (List j0×V)} (e:H a=some (.dT kvs)):TyOf K H (.ref a) (.type "dict")
 |ins {a C dx:Addr} {fs:List (Str×V)} (e:H a=some (.ins C dx fs)) (cl:Cls K C) (ha:W.findIn K (.ref C) "__class__" = some (some (.builtin "object.__class__")))
  (hn:W.specialIn K (.builtin "object.__class__") "__get__" = some (some (.builtin "getset_descriptor.__get__"))) (htk:W.takesIn K (.builtin "object.__class__")=some true)
  (hm:W.mroIn K C (.type "object")=some true):TyOf K H (.ref a) (.ref C)
def N3 {x:V}{u t:Value}(I:Inv X Y Z H s)(f:jq x u)(B:TyOf X.K H x t)(e:W.kitOne X.K t c=some b)(h:∀tk,Q (.bool b) { s with toks:=tk }):
 wpAny (model X.prog X.w) A (call (.builtin "isinstance") [u,c]) Q E s:=by
 cases B with
 |non=>cases (f);exact W.kia_one W.kitx_none I.kIn True.intro e (λz=>nomatch z) h
 |bl y=>cases (f);exact W.kia_one W.kitx_bool I.kIn True.intro e (λz=>nomatch z) h
 |int i=>have ⟨t,q⟩:=(f);cases q;exact W.kia_one W.kitx_int I.kIn True.intro e (λz=>nomatch z) h
 |str y=>have ⟨t,q⟩:=(f);cases q;exact W.kia_one W.kitx_str I.kIn True.intro e (λz=>nomatch z) h
 |flt y=>have ⟨t,q⟩:=(f);cases q;exact W.kia_one W.kitx_float I.kIn True.intro e (λz=>nomatch z) h
 | @lst a m g =>
  cases (f);obtain⟨_,_,n,_,j⟩:=(I.hok a _ g);exact W.kia_one W.kitx_list I.kIn ⟨_,j,rfl⟩ e (λz=>nomatch z) h
 | @frz a L m g =>
  cases (f);obtain⟨_,_,_,n,_,j⟩:=(I.hok a _ g);exact W.kia_one W.kitx_list I.kIn ⟨_,j,rfl⟩ e (λz=>nomatch z) h
 | @tup a m g =>
  cases (f);obtain⟨_,_,_,p⟩:=(I.hok a _ g);obtain⟨o,j,l,_⟩:=p;exact W.kia_one W.kitx_tuple I.kIn ⟨o,j,l⟩ e (λz=>nomatch z) h
 | @dK a r g =>
  cases (f);obtain⟨_,_,M,_,p⟩:=(I.hok a _ g);obtain⟨o,es,ep,j,l,_⟩:=p;exact W.kia_one W.kitx_dict I.kIn ⟨o,j,l.1⟩ e (λz=>nomatch z) h
 | @dT a r g =>
  cases (f);obtain⟨_,_,m,_,o,es,ep,j,l,_⟩:=(I.hok a _ g);exact W.kia_one W.kitx_dict I.kIn ⟨o,j,l.1⟩ e (λz=>nomatch z) h
 | @ins a C N fs g w F G v K =>
  cases (f);obtain⟨mA,O,_⟩:=BY I.hok g;obtain⟨P,J,_⟩:=O.look;exact W.kia_one (W.kitx_own (w.get _) w.hd F G v K) I.kIn J e (λz=>nomatch z) h
end
structure Room (k:Nat)(A:Around):Prop where
 hd:A.handled=none
 dp:A.depth+3*k+5<recursionLimit
 un:A.units+16*k+200<cLine
def Room.mono {j k:Nat}{A:Around}(r:Room k A)(h:j<=k):Room j A:=⟨r.hd,by have:=r.dp;lia,by have:=r.un;lia⟩
theorem Room.deeper {k:Nat}{A:Around}(r:Room (k+1) A)(env:Env):Room k (A.deeper env):=
 ⟨r.hd,by have:=r.dp;show A.depth+1+3*k+5<_;lia,by have:=r.un;show A.units+3+16*k+200<_;lia⟩
def N4 {A:Around}{C:Addr}{a:Yf}{b:List (Str×Value)}:(A.under (.builtin "type.__call__" ⟨.ref C::a,b⟩)).depth=A.depth+1:=by
 rfl
def N5 {A:Around}{C:Addr}{a:Yf}{b:List (Str×Value)}:(A.under (.builtin "type.__call__" ⟨.ref C::a,b⟩)).units=A.units+1:=by
 rfl
def Room.make {k:Nat}{A:Around}(r:Room (k+1) A)(C:Addr)(a:Yf)(b:List (Str×Value)):Room k (A.under (.builtin "type.__call__" ⟨.ref C::a,b⟩)):=
 ⟨r.hd,by have:=r.dp;rw[N4];lia,by have:=r.un;rw[N5];lia⟩
theorem Room.depth {k:Nat}{A:Around}(r:Room k A):A.depth<recursionLimit:=by have:=r.dp;lia
theorem Room.units {k:Nat}{A:Around}(r:Room k A):A.units+64<cLine:=by have:=r.un;lia
def v0:TA:=λ_ H Q=>Q [] H
def BZ (a:TE)(b:TA):TA:=λZ H Q=>a Z H λx c=>b Z c λe f=>Q (x::e) f
section
variable {X:Cx}{e:Expr}{es:Ym}{te:TE}{t:TA}{pos:Pos}
def V2:PA X [] v0:=λ_ _ _ _ H Q I h=>Calls.spliced_nil ⟨[],H,I,.nil,h⟩
def KH (a:PE X e te)(b:PA X es t)(hs:starEach (e::es) X.env=(false,eval e X.env)::starEach es X.env:=by rfl):PA X (e::es) (BZ te t):=by
 intro pos Y s Z H Q I h;rw[hs];exact Calls.spliced_cons (jK (a Y s Z H _ I h) λu c ⟨x,f,g,i,j⟩=>(jK (b pos Y c Z f _ g j) λq r ⟨l,m,n,o,p⟩=>⟨x::l,m,n,.cons i o,p⟩))
def bX (t:TA):TE:=λZ H Q=>t Z H λa b=>a.length<=sizeLine/\∀p,b p=none->Q (.ref p) (j9 b p (.tup a))
def mf (t:TA):TE:=λZ H Q=>t Z H λa b=>a.length<=sizeLine/\∀p,b p=none->Q (.ref p) (j9 b p (.lst a))
def EL {x1}(h:PA X es t):PE X (.Tuple es x1 pos) (bX t):=λY s Z H Q I f=>wpAny_Tuple_spliced (jK (h pos Y s Z H _ I f) λg a ⟨i,j,c,r,z,q⟩=>⟨by rwa [<- r.length],⟨.ref a.heap.objs.size,j9 j a.heap.objs.size (.tup i),c.laid (λb u e=>Zq _ e) (Zf _) (⟨⟨z,⟨_,Zr _ rfl,rfl⟩⟩,g,r,⟨_,Zr _ rfl,rfl,_,rfl⟩⟩),rfl,q _ (c.hok.fresh (Zf _))⟩⟩)
def N6 (h:PA X es t):PE X (.List es pos) (mf t):=λY s Z H Q I f=>wpAny_List_spliced (jK (h pos Y s Z H _ I f) λg a ⟨i,j,c,r,z,q⟩=>⟨by rwa [<- r.length],⟨.ref a.heap.objs.size,j9 j a.heap.objs.size (.lst i),c.laid (λb u e=>Zq _ e) (Zf _) ⟨z,g,0,r,Zr _ rfl⟩,rfl,q _ (c.hok.fresh (Zf _))⟩⟩)
end
abbrev Sp:=YE->Hp->VK->XK->Prop
abbrev zF:=List Env->Hp->Shared->XK->Ya
structure Env0 (P:Program)(w:World)(K:W.Frag)(mg:Ye)(base:Heap)(A:Around)(outer:List Env)(s:Shared)(H:Hp):Prop where
 frames:A.frames=some outer
 mod:Mod K mg base
 bs:∀b o,base.get? b=some o->s.heap.get? b=some o/\H b=none
 bsz:base.objs.size<=s.heap.objs.size
 funs:s.heap.FunFrames base outer
 frf:∀b∈xl outer,H b=none
 hok:qR P w H s.heap
 bare:AllBare s.gens
def CE (a:List Env)(P:Program)(w:World)(H:Hp)(s:Shared)(Q:VK)(u:Value)(s':Shared):Prop:=
 ∃v b,s'.os=s.os/\AllBare s'.gens/\Un (xl a) [] H b s.heap s'.heap/\qR P w b s'.heap/\jq v u/\Q v b
def CR (CX:zF)(a:List Env)(P:Program)(w:World)(H:Hp)(s:Shared)(Q:VK)(E:XK)(r:Result)(s':Shared):Prop:=
 match r with
 | .ok (.ret u)=>CE a P w H s Q u s'
 | .ok _=>False
 | .error e=>CX a H s E e s'
structure FnOk (P:Program)(w:World)(K:W.Frag)(mg:Ye)(base:Heap)(CX:zF)(k:Nat)(f:Addr)(fd:FuncData)(ps:Yk)(sp:Sp):Prop where
 len:∀vs H Q E,sp vs H Q E->vs.length=ps.length
 run:∀(A:Around) (outer:List Env) (s:Shared) (H:Hp) (args:Args) (us:Yf) (vs:YE) (Q:VK) (E:XK),Room k A->Env0 P w K mg base A outer s H->BindsTo s fd args (ps.zip us)->jp vs us->sp vs H Q E ->
  codeAny (model P w) A (.call (.ref f) args) (CR CX outer P w H s Q E) s
theorem FnOk.mono {P:Program}{w:World}{K:W.Frag}{mg:Ye}{a:Heap}{CX:zF}{j k:Nat}{f:Addr}{c:FuncData}{ps:Yk}{sp:Sp}(F:FnOk P w K mg a CX j f c ps sp)(h:j<=k):
 FnOk P w K mg a CX k f c ps sp:=⟨F.len,λA b s H args e g Q E i=>F.run A b s H args e g Q E (i.mono h)⟩
def FnOk.imp {P:Program}{w:World}{K:W.Frag}{mg:Ye}{a:Heap}{CX:zF}{k:Nat}{f:Addr}{g:FuncData}{ps:Yk}{sp e:Sp}(F:FnOk P w K mg a CX k f g ps sp)
 (h:∀c H Q E,e c H Q E->sp c H Q E):FnOk P w K mg a CX k f g ps e:=
 ⟨λc H Q E q=>F.len c H Q E (h _ _ _ _ q),λA b s H args i c Q E j l m n hs=>F.run A b s H args i c Q E j l m n (h _ _ _ _ hs)⟩
def Env0.make {P:Program}{w:World}{K:W.Frag}{mg:Ye}{b:Heap}{A:Around}{a:List Env}{s:Shared}{H:Hp}(e:Env0 P w K mg b A a s H)(C:Addr)(c:Yf)(f:List (Str×Value)):
 Env0 P w K mg b (A.under (.builtin "type.__call__" ⟨.ref C::c,f⟩)) a s H:=⟨by first|exact e.frames|(simpa using e.frames),e.mod,e.bs,e.bsz,e.funs,e.frf,e.hok,e.bare⟩
section
variable {X:Cx}{Y:Yb}{Z: St}{H:Hp}{s s':Shared}
def Inv.env0 (I:Inv X Y Z H s):Env0 X.prog X.w X.K X.mg X.base X.A X.stack s H:=
 ⟨I.ok.frames,I.ok.mod,I.bs,Zh I.ok.bsz I.sz,I.stack,I.stkFree,I.hok,I.bare⟩
def Inv.after {Q:VK}{u:Value}(I:Inv X Y Z H s)(h:CE X.stack X.prog X.w H s Q u s'):EP X Y Z Q u s':=by
 obtain⟨v,e,os,bare,un,a,r,q⟩:=h;obtain⟨f,g,d,t,c⟩:=s';obtain rfl:c=s.os:=os;exact⟨v,e,I.call (h':=f) (g':=g) (d':=d) (t':=t) (ch:=[]) un a bare (λb z=>Zn z ()),r,q⟩
end
def Cb (sp:Sp)(a:YE)(E:XK)(t:TA):TE:=λZ H Q=>t Z H λb c=>sp (b++a) c Q E
def ur (C:Addr)(sp:Sp)(b:YE)(E:XK)(t:TA):TE:=λZ H Q=>t Z H λe c=>∀x a,c x=none->c a=none->a≠x ->
 sp (.ref x::(e++b)) (j9 (j9 c a (.own x)) x (.ins C a [])) (λv f=>v=.non/\Q (.ref x) f) E
def zL (K:W.Frag)(b:FuncData)(ps:Yk)(ds:Yf):Prop:=
 ∀(s:Shared) (a:Yf),K.In s.heap->(a++ds).length=ps.length->BindsTo s b ⟨a,[]⟩ (ps.zip (a++ds))
def zL.all {K:W.Frag}{b:FuncData}{ps:Yk}(h:∀a:Yf,a.length=ps.length->bindArgs b ⟨a,[]⟩=pure (ps.zip a)):zL K b ps []:=λs a _ c=>by
 rw[ZA] at c ⊢;exact .of_eq (h a c)
def Xe (CX:zF)(X:Cx)(E:XK):Prop:=∀(Y:Yb) (Z: St) (H:Hp) (s:Shared) (e:Value) (s':Shared),Inv X Y Z H s->CX X.stack H s E e s'->X.xe e s'
section
variable {X:Cx}{CX:zF}{k:Nat}{f C:Addr}{fd:FuncData}{ps:Yk}{sp:Sp}{dvs:YE}{ds:Yf}{E:XK}{x m:Str}{p pos apos:Pos}{e o:Expr}{es:Ym}{ta:TE}{t:TA}
def N7 {Y:Yb}{Z: St}{H:Hp}{s:Shared}{Q:VK}{a:Yf}{c:YE}(F:FnOk X.prog X.w X.K X.mg X.base CX k f fd ps sp)(i:Room k X.A)(j:zL X.K fd ps ds)(l:jp dvs ds)(n:Xe CX X E)
 (I:Inv X Y Z H s) (r:jp c a) (h:sp (c++dvs) H Q E):YI X (call (.ref f) a) (EP X Y Z Q) X.xe s:=by
 have g:=r.append l;have q:(a++ds).length=ps.length:=by rw[<- g.length];exact F.len _ _ _ _ h
 refine wpAny_call (codeAny_mono (F.run X.A X.stack s H ⟨a,[]⟩ (a++ds) (c++dvs) Q E i I.env0 (j s a I.kIn q) g h) λr s' b=>?_);cases r with
 |error e=>exact n Y Z H s e s' I b
 |ok v =>
  cases v with
  |ret u=>exact I.after b
  |next=>exact False.elim b
  |brk=>exact False.elim b
  |cont=>exact False.elim b
def EM (F:FnOk X.prog X.w X.K X.mg X.base CX k f fd ps sp)(g:Room k X.A)(i:Gl X x)(j:X.mg x=some (.ref f))(l:W.keepIn X.K (.ref f)=true)(n:zL X.K fd ps ds)(u:jp dvs ds)(v:Xe CX X E)
 (w:PA X (e::es) t) (a:(x == ("__debug__" : Str))=false:=by decide) (y:starEach (e::es) X.env=(false,eval e X.env)::starEach es X.env:=by rfl) (b:(backTo pos (starEach es X.env)).any (·.1)=false:=by rfl):
 PE X (.Call (.Name x p) (e::es) [] pos) (Cb sp dvs E t):=by
 intro Y s Z H Q I h;exact wpAny_Call_Name_kw (XJ I i j (W.callWith_K I.ok.mod.kin l (jK (w pos Y s Z H _ I h) λz A ⟨B,G,c,r,q⟩=>⟨c.kIn,N7 F g n u v c r q⟩) y b) a)
structure Mk (K:W.Frag)(C f:Addr):Prop where
 makes:W.makesIn K C=true
 init:W.findIn K (.ref C) "__init__" = some (some (.ref f))
 fn:W.isFn K (.ref f)=true
 kp:W.keepIn K (.ref C)=true
def N8 {Y:Yb}{Z: St}{H:Hp}{s:Shared}{Q:VK}{b:Yf}{i:YE}(M:Mk X.K C f)(F:FnOk X.prog X.w X.K X.mg X.base CX k f fd ps sp)(n:Room (k+1) X.A)(q:zL X.K fd ps ds)(w:jp dvs ds)
 (y:Xe CX X E) (I:Inv X Y Z H s) (r:jp i b)
 (h:∀x c,H x=none->H c=none->c≠x->sp (.ref x::(i++dvs)) (j9 (j9 H c (.own x)) x (.ins C c [])) (λv z=>v=.non/\Q (.ref x) z) E):
 YI X (call (.ref C) b) (EP X Y Z Q) X.xe s:=by
 have j:=h (s.heap.objs.size+1) s.heap.objs.size (I.hok.fresh (Nat.le_succ _)) (I.hok.fresh (Zf _)) (Zi (UA _));have g:=Inv.made (C:=C) I;have l:jp (V.ref (s.heap.objs.size+1)::(i++dvs)) (Value.ref (s.heap.objs.size+1)::(b++ds)):=.cons rfl (r.append w);have A:(Value.ref (s.heap.objs.size+1)::b++ds).length=ps.length:=by
  have e:=l.length;rw[F.len _ _ _ _ j] at e;exact e.symm
 refine wpAny_call (Nw (f:=f) I.kIn M.makes M.init (Ys.mp M.fn) (codeAny_mono (F.run _ X.stack _ _ ⟨Value.ref (s.heap.objs.size+1)::b,[]⟩ (Value.ref (s.heap.objs.size+1)::(b++ds)) _ _ E (n.make C b [])
  (g.env0.make C b []) (q _ (Value.ref (s.heap.objs.size+1)::b) g.kIn A) l j) λr s' a=>?_))
 cases r with
 |error e=>exact y Y Z _ _ e s' g a
 |ok B =>
  cases B with
  |ret u =>
   obtain⟨v,G,J,K,L,N⟩:=g.after a;subst L;exact⟨K,⟨V.ref (s.heap.objs.size+1),G,J,rfl,N⟩⟩
  |next=>exact False.elim a
  |brk=>exact False.elim a
  |cont=>exact False.elim a
def N9 (M:Mk X.K C f)(F:FnOk X.prog X.w X.K X.mg X.base CX k f fd ps sp)(g:Room (k+1) X.A)(i:Gl X x)(j:X.mg x=some (.ref C))(l:zL X.K fd ps ds)(n:jp dvs ds)(u:Xe CX X E)
 (v:PA X (e::es) t) (a:(x == ("__debug__" : Str))=false:=by decide) (w:starEach (e::es) X.env=(false,eval e X.env)::starEach es X.env:=by rfl) (b:(backTo pos (starEach es X.env)).any (·.1)=false:=by rfl):
 PE X (.Call (.Name x p) (e::es) [] pos) (ur C sp dvs E t):=by
 intro Y s Z H Q I h;exact wpAny_Call_Name_kw (XJ I i j (W.callWith_K I.ok.mod.kin M.kp (jK (v pos Y s Z H _ I h) λy z ⟨A,B,c,r,q⟩=>⟨c.kIn,N8 M F g l n u c r q⟩) w b) a)
end
structure FnScope (N P:Yk)(sc:Scope):Prop where
 kind:sc.kind=.function
 co:sc.isCoroutine=false
 gen:sc.isGenerator=false
 nd:N.Nodup
 pre:N.take P.length=P
 par:∀x∈P,sc.names.lookup x=some .local\/sc.names.lookup x=some .cell
 nofree:∀y∈sc.names,y.2 ≠ .free
theorem EN {kindOf:Str->Option NameKind}{x:Str}:∀{binds:List (Str×Value)} {m:Ye},(∀v,(x,v)∉binds)->bindL kindOf binds m x=m x
 | [],_,_=>rfl
 | (n,v)::r,m,h=>by
  unfold bindL;rw[EN ()]
  split
  .grind
  .rfl
theorem EO {kindOf:Str->Option NameKind}{x:Str}:∀{binds:List (Str×Value)} {m:Ye},(∀v,(x,v)∉binds)->bindC kindOf binds m x=m x
 | [],_,_=>rfl
 | (n,v)::r,m,h=>by
  unfold bindC;rw[EO ()]
  split
  .rfl
  grind
theorem EQ {kindOf:Str->Option NameKind}{x:Str}{v:Value}:∀{P:Yk} {a:Yf} {i:Nat} {m:Ye},P.Nodup->P[i]? = some x->a[i]? = some v->kindOf x=some .local ->
 bindL kindOf (P.zip a) m x=some v
 | [],_,_,_,_,h,_,_=>by simp at h
 |_::_,[],_,_,_,_,h,_=>by simp at h
 |p::P,w::a,0,m,nd,h1,h2,hk=>by
  simp at h1 h2;subst h1;subst h2;show bindL kindOf ((p,w)::P.zip a) m p=_;unfold bindL;rw[EN λv b=>(Jl.mp nd).1 (List.of_mem_zip b).1,Zd hk];simp
 |p::P,w::a,i+1,m,nd,h1,h2,hk=>by
  show bindL kindOf ((p,w)::P.zip a) m x=_;exact EQ () (by simpa using h1) (by simpa using h2) hk
theorem ER {kindOf:Str->Option NameKind}{x:Str}{v:Value}:∀{P:Yk} {a:Yf} {i:Nat} {m:Ye},P.Nodup->P[i]? = some x->a[i]? = some v->kindOf x≠some .local ->
 bindC kindOf (P.zip a) m x=some v
 | [],_,_,_,_,h,_,_=>by simp at h
 |_::_,[],_,_,_,_,h,_=>by simp at h
 |p::P,w::a,0,m,nd,h1,h2,hk=>by
  simp at h1 h2;subst h1;subst h2;show bindC kindOf ((p,w)::P.zip a) m p=_;unfold bindC;rw[EO λv b=>(Jl.mp nd).1 (List.of_mem_zip b).1,Ze hk];simp
 |p::P,w::a,i+1,m,nd,h1,h2,hk=>by
  show bindC kindOf ((p,w)::P.zip a) m x=_;exact ER () (by simpa using h1) (by simpa using h2) hk
def start (N:Yk)(a:YE):St:=a.map some++List.replicate (N.length-a.length) none
def jX (CX:zF)(P:Program)(w:World)(K:W.Frag)(mg:Ye)(base:Heap)(N:Yk)(b:Str)(a:Scope)(f:Addr)(g:Value)(A:Around)(outer:List Env)(s:Shared)(H:Hp)(E:XK):Cx where
 prog:=P
 w:=w
 K:=K
 mg:=mg
 base:=base
 A:=A.deeper (envOfC b a s.heap.objs.size f g)
 N:=N
 s₀:=s
 H₀:=H
 env:=envOfC b a s.heap.objs.size f g
 outer:=outer
 stack:=envOfC b a s.heap.objs.size f g::outer
 ex:=[]
 calm:=true
 fn:=λ_=>true
 pn:=[]
 xe:=λe s'=>wpAny (model P w) (A.deeper (envOfC b a s.heap.objs.size f g)) (leaving (envOfC b a s.heap.objs.size f g) e) (λ_ c=>CX outer H s E e c) (λh c=>CX outer H s E h c) s'
def ES {a:Scope}{n:Nat}{x:Str}(h:a.names.lookup x=some .cell):∃c,(cellsFrom n a.names []).lookup x=some c:=have q:=W.cellsFrom_some a.names n [] (.inl h);Js.mp q
def NA {CX:zF}{P:Program}{w:World}{K:W.Frag}{mg:Ye}{l:Heap}{N ps:Yk}{j:Str}{a:Scope}{f:Addr}{C:Value}{A:Around}{g:List Env}{s I:Shared}{H:Hp}{E:XK}{G:Yf}{o:YE}
 (S:FnScope N ps a) (O:A.handled=none) (m:Env0 P w K mg l A g s H) (U:o.length=ps.length) (r:jp o G)
 (x:InCallC s s.heap.objs.size (bindL (envOfC j a s.heap.objs.size f C).kindOf (ps.zip G) λ_=>none) (cellsFrom (s.heap.objs.size+1) a.names []) (bindC (envOfC j a s.heap.objs.size f C).kindOf (ps.zip G) λ_=>none) I):
 Inv (jX CX P w K mg l N j a f C A g s H E) [] (start N o) H I:=by
 have Q:ps.length<=N.length:=by have:=Zt List.length S.pre;rw[Uf] at this;lia
 obtain⟨F,tk,rfl,J⟩:=x.done;have t:∀b:Addr,b∉(jX CX P w K mg l N j a f C A g s H E).ex:=λb z=>Zn (show b∈([]:Yl) from z) ();refine⟨⟨m.mod,S.kind,rfl,rfl,Zf _,λy z c F L=>?_,λy hy=>?_,λy c _ h=>?_,λ_=>O,Around.frames_deeper m.frames,.inr ⟨rfl,rfl⟩,λb z=>Zn z (t b),m.bs,m.bsz,λb _ _=>t b,(),m.funs,m.frf⟩,
  rfl,m.bare,Un.kept J,⟨_,x.toInCall.ns,λi y v F L X=>?_⟩,λy c h=>⟨_,x.cell y c h⟩,m.hok.fresh (Zf _),λy c h=>?_,λp hp=>Zn (show p∈([]:Yb) from hp) (),m.hok.kept J,?_⟩
 .exact name_of_addr x.apart (PySem.mem_of_lookup F) (PySem.mem_of_lookup L)
 .have hy:a.names.lookup y=some .cell\/a.names.lookup y=some .free:=hy;rcases hy with hy|hy
  .exact ES hy
  .exact Zn rfl (S.nofree _ (PySem.mem_of_lookup hy))
 .exact Zz (x.above y c (PySem.mem_of_lookup h))
 .have Y:i<o.length:=by
   grind[start,List.getElem?_replicate]
  have R:o[i]? = some v:=by
   grind[start,List.getElem?_map]
  obtain⟨u,M,T⟩:=r.get R;have hp:ps[i]? = some y:=by
   rw[<- S.pre,VP ()];exact F
  have B:ps.Nodup:=by rw[<- S.pre];exact S.nd.sublist (List.take_sublist _ _)
  refine⟨u,T,?_⟩;rcases S.par y (Ur hp) with k|k
  .exact .inl ⟨k,EQ B hp M k⟩
  .obtain⟨c,e⟩:=ES (n:=s.heap.objs.size+1) k;refine .inr ⟨.inl k,c,e,?_⟩;have q:=x.cell y c e;rw[ER B hp M (by show a.names.lookup y≠_;rw[k];decide)] at q;exact q
 .exact m.hok.fresh (Zz (x.above y c (PySem.mem_of_lookup h)))
 .unfold start;show _=N.length
  grind[List.length_append,Zql,List.length_replicate]
def ET {CX:zF}{P:Program}{w:World}{K:W.Frag}{mg:Ye}{i:Heap}{k:Nat}{f:Addr}{name g:Str}{params:Arguments}{j:List Stmt}{a:Scope}{X kV B Y h ct oc:Value}{Z od:Option Addr}
 {M:Array Yg} {N ps:Yk} {sp:Sp} (lk:K.lookup f=some ⟨oc,od,.func (W.fnOf name g params j a X kV B Y Z h ct),M⟩) (O:W.codeIn K h g=true) (S:FnScope N ps a)
 (len:∀l H Q E,sp l H Q E->l.length=ps.length)
 (p:∀(A:Around) (c:List Env) (s:Shared) (H:Hp) (l:YE) (Q:VK) (E:XK),Room k (A.deeper (envOfC g a s.heap.objs.size f h))->sp l H Q E ->
  ∃t,qP (jX CX P w K mg i N g a f h A c s H E) j t/\t { nx:=λ_ m=>Q .non m,rt:=Q } (start N l) H):
 FnOk P w K mg i CX (k+1) f (W.fnOf name g params j a X kV B Y Z h ct) ps sp:=by
 refine⟨len,λA c s H args us l Q E R C hb r F=>?_⟩;have hl:=len _ _ _ _ F;have KX:K.In s.heap:=C.mod.kin.keeps λb o e=>(C.bs b o e).1;have T:s.heap.NoLimit:=C.mod.nolimit.keeps λb o e=>(C.bs b o e).1;have z:∀y∈ps.zip us,a.names.lookup y.1=some .local\/(a.names.lookup y.1=some .cell/\((cellsFrom (s.heap.objs.size+1) a.names []).lookup y.1).isSome=true):=λ⟨n,v⟩ hy=>by
  rcases S.par n (List.of_mem_zip hy).1 with q|q
  .exact .inl q
  .exact .inr ⟨q,W.cellsFrom_some _ _ _ (.inl q)⟩
 refine codeAny_call_function R.depth (KX _ _ lk) rfl S.co S.gen rfl (W.codeRec_of KX O) (hb _ _ _ _ ?_);refine wpAny_newFunctionEnv_cells S.kind z λenv he s1 x=>?_;subst he;refine⟨T.keeps x.toInCall.keep,codeAny_func ?_⟩;obtain⟨t,ht,hq⟩:=p A c s H l Q E (R.deeper _) F;have I:Inv (jX CX P w K mg i N g a f h A c s H E) [] (start N l) H s1:=NA S R.hd C hl r x;refine Zc (ht [] s1 (start N l) H _ I hq) (λfl s' hs=>?_) λe s' hs=>hs;have G:∀{L:St} {m:Hp} {v:V} {u:Value},Inv (jX CX P w K mg i N g a f h A c s H E) [] L m s'->jq v u->Q v m->CE c P w H s Q u s':=
  λ{L m v u} J U q=>⟨v,m,J.os,J.bare,J.base,J.hok,U,q⟩
 cases fl with
 |ret u =>
  obtain⟨v,L,m,J,U,q⟩:=hs;exact G J U q
 |next =>
  obtain⟨L,m,J,q⟩:=hs;exact G (v:=V.non) (u:=Value.none) J rfl q
 |brk =>
  obtain⟨_,_,_,q⟩:=hs;exact False.elim q
 |cont =>
  obtain⟨_,_,_,q⟩:=hs;exact False.elim q
section
variable {X:Cx}{x:Str}{p pos:Pos}{e:Expr}{es:Ym}{t:TA}{id T:String}{r:YE->Hp->VK->Prop}
def v3 (r:YE->Hp->VK->Prop)(t:TA):TE:=λZ H Q=>t Z H λa b=>r a b Q
def Ak (c:jS X (.builtin id) r)(f:Gl X x)(g:X.mg x=none)(i:bootBuiltins x=some (.builtin id))(j:PA X (e::es) t)(l:x ≠ "__name__" := by decide)(a:(x == ("__debug__" : Str))=false:=by decide)
 (m:starEach (e::es) X.env=(false,eval e X.env)::starEach es X.env:=by rfl) (b:(backTo pos (starEach es X.env)).any (·.1)=false:=by rfl):PE X (.Call (.Name x p) (e::es) [] pos) (v3 r t):=by
 intro Y s Z H Q I h;exact wpAny_Call_Name_kw (Xc I f g i (PyProof.Rows.callWith_builtin1 (jK (j pos Y s Z H _ I h) λn o ⟨q,u,v,w,y⟩=>c Y o Z u q n Q v w y) m b) l a)
def Cc (c:jS X (.type T) r)(f:Gl X x)(g:X.mg x=none)(i:bootBuiltins x=some (.type T))(j:PA X (e::es) t)(l:x ≠ "__name__" := by decide)(a:(x == ("__debug__" : Str))=false:=by decide)
 (m:starEach (e::es) X.env=(false,eval e X.env)::starEach es X.env:=by rfl) (b:(backTo pos (starEach es X.env)).any (·.1)=false:=by rfl):PE X (.Call (.Name x p) (e::es) [] pos) (v3 r t):=by
 intro Y s Z H Q I h;exact wpAny_Call_Name_kw (Xc I f g i (PyProof.Rows.callWith_type1 (jK (j pos Y s Z H _ I h) λn o ⟨q,u,v,w,y⟩=>c Y o Z u q n Q v w y) m b) l a)
end
end L2
namespace HT
open PySem PyProof.Rows
def lexLt:Yh->List Int->Bool
 | [],[]=>false
 | [],_::_=>true
 |_::_,[]=>false
 |x::xs,y::ys=>if x=y then lexLt xs ys else decide (x<y)
theorem lexLt_cons (x y:Int)(a ys:Yh):lexLt (x::a) (y::ys)=if x=y then lexLt a ys else decide (x<y):=rfl
theorem lexLt_nil_nil:lexLt [] []=false:=rfl
def NB (y:Int)(ys:Yh):lexLt [] (y::ys)=true:=rfl
def NC (x:Int)(a:Yh):lexLt (x::a) []=false:=rfl
def ND (A:Around)(s:Shared)(a:Int)(t:Tok)(c:Int)(u:Tok):∃e,SeqAt.EqAt A s (.int a t) (.int c u) e/\(e=true↔a=c):=
 ⟨(a == c),SeqAt.EqAt.int_int a t c u,()⟩
def NE (A:Around)(s:Shared)(a:Int)(t:Tok)(c:Int)(u:Tok)(prog:Program)(w:World)(E:Ya)(Q:Ya)(h:Q (.bool (decide (a<c))) s):
 YJ prog w A (richCompare .Lt (.int a t) (.int c u)) Q E s:=
 (PyProof.Rows.lt_int h:YJ prog w A (compareOp .Lt (.int a t) (.int c u)) Q E s)
section
open PySem.SeqAt
open PySem.AutoSeq1 (wpAny_loadPart')
open PySem.MeetsSeq PySem.MeetsSeq2 PySem.MeetsSeq3
def NF (l b:Addr)(i f:Yn)(n G:Nat)(dd v:Option Addr)(H z:Array Yg)(ns B:Yh)(I:IntsAre i.toList ns)(J:IntsAre f.toList B):
 Meets (Builtin.«tuple.__lt__» ⟨[.ref l,.ref b],[]⟩)
  (λ_ R s=>s.heap.get? l=some { cls:=.type "tuple",dict:=dd,data:=.seq i n,slots:=H }/\s.heap.get? b=some { cls:=.type "tuple",dict:=v,data:=.seq f G,slots:=z } /\
   R (.ok (.ret (.bool (lexLt ns B)))) s):=
 .of_wp λprog w A R s h=>by
  obtain⟨hp,g,d,tk,os⟩:=s;obtain⟨K,L,h⟩:=h;have P:=AutoSeq1.sub_tuple_tuple;have Q:i.size=ns.length:=by rw[<- I.length];simp
  have S:f.size=B.length:=by rw[<- J.length];simp
  wp_walk using wpAny_loadPart' K,wpAny_loadPart' L,wpAny_forIn_list _ (λrest b s'=>b.1=none/\s'=⟨hp,g,d,tk,os⟩/\∃(p r:Yf) (j m:Yh),rest=p.zip r /\
   IntsAre p j/\IntsAre r m/\j.length+f.size=m.length+i.size/\R (.ok (.ret (.bool (lexLt j m)))) ⟨hp,g,d,tk,os⟩) _
  case turn =>
   rintro⟨y,x⟩ rest b s' ⟨hb',rfl,p,r,j,m,hz,hvi,hwi,hlen,hR⟩;cases hvi with
   |nil=>rw[List.zip_nil_left] at hz;cases hz
   |cons a t E =>
    cases hwi with
    |nil=>rw[List.zip_nil_right] at hz;cases hz
    |cons c u F =>
     rw[Vd] at hz;injection hz with hyx hrest
     injection hyx with hy hx
     subst hy hx;rw[lexLt_cons] at hR;simp only[Zu] at hlen;obtain⟨e,M,o⟩:=ND A.in1 ⟨hp,g,d,tk,os⟩ a t c u;refine Za (M prog w _ _ ?_);cases e with
     |true =>
      rw[Zd (o.mp rfl)] at hR
      wp_walk
      exact()
     |false =>
      rw[Ze (λq=>Zn (o.mpr q) Zj)] at hR;have C:=NE A.in1 ⟨hp,g,d,tk,os⟩ a t c u prog w
      wp_walk using C
      exact()
  case fin =>
   rintro⟨T,U⟩ s' ⟨hb',rfl,p,r,j,m,hz,hvi,hwi,hlen,hR⟩;simp only at hb';subst hb';have N:lexLt j m=decide (i.size<f.size):=by
    cases hvi with
    |nil =>
     cases hwi with
     |nil =>
      simp only[ZC] at hlen;rw[lexLt_nil_nil];exact()
     |cons c u O =>
      simp only[ZC,Zu] at hlen;rw[NB];exact()
    |cons a t N =>
     cases hwi with
     |nil =>
      simp only[ZC,Zu] at hlen;rw[NC];exact()
     |cons c u O =>
      cases hz
   wp_walk
   grind[Builtin.Tuple.tupleCompareSizes]
  case h =>
   exact()
end
section
variable {prog:Program}{w:World}{A:Around}{E:Ya}{s:Shared}
def lt_tupInts {l b:Addr}{c a:Yn}{ns g:Yh}{Q:Ya}(r:IsTup s.heap l c)(t:IsTup s.heap b a)(u:IntsAre c.toList ns)(v:IntsAre a.toList g)
 (x:A.units<cLine) (h:Q (.bool (lexLt ns g)) s):YJ prog w A (compareOp .Lt (.ref l) (.ref b)) Q E s:=by
 obtain⟨⟨cls,dd,data,y⟩,z,o,n,p⟩:=id r;obtain⟨⟨q,i,data2,j⟩,m,e,B,f⟩:=id t;simp only at o p e f;subst o p e f;exact richCompare_meets_room (op:=.Lt) ⟨_,z,rfl⟩ ⟨_,m,rfl⟩ PySem.F.slot_tuple_lt PySem.F.entry_tuple_lt (PySem.F.args_tuple_lt_2 _ _) (NF l b c a n B dd i y j ns g u v)
  () x
def cat_tup {t b:Addr}{f a:Yf}{Q:Ya}(u:IsTup s.heap t f.toArray)(v:IsTup s.heap b a.toArray)(o:f ≠ [])
 (x:a=[]->Q (.ref t) s) (y:a ≠ []->Q (.ref s.heap.objs.size) { s with heap:=s.heap.push { cls:=.type "tuple",data:=.seq (f++a).toArray } })
 (hsz:f.length+a.length<=sizeLine):YJ prog w A (binaryOp .Add (.ref t) (.ref b)) Q E s:=by
 obtain⟨⟨cls,dd,data,p⟩,i,z,n,B⟩:=id u;obtain⟨⟨q,g,data2,h⟩,c,l,r,m⟩:=id v;subst z B l m;have e:f.toArray++a.toArray=(f++a).toArray:=by simp
 by_cases j:a=[]
 .exact concat_meets ⟨_,i,rfl⟩ ⟨_,c,rfl⟩ noFill_tuple_add seq_tuple_add PySem.F.slot_tuple_add PySem.F.entry_tuple_add (PySem.F.args_tuple_add_2 _ _)
   (tuple_addW1 t b f.toArray a.toArray n r dd g p h (by simpa using o) (by simp[j])) ⟨i,c,x j⟩
 .refine concat_meets ⟨_,i,rfl⟩ ⟨_,c,rfl⟩ noFill_tuple_add seq_tuple_add PySem.F.slot_tuple_add PySem.F.entry_tuple_add (PySem.F.args_tuple_add_2 _ _)
   (tuple_addW2 t b f.toArray a.toArray n r dd g p h (by simpa using o) (by simpa using j) ()) ⟨i,c,?_⟩
  rw[e];exact y j
end
end HT
namespace L2
abbrev TO:=St->Hp->(Option Int->Hp->Prop)->Prop
def PO (X:Cx)(e:Option Expr)(t:TO):Prop:=
 ∀(Y:Yb) (s:Shared) (Z: St) (H:Hp) (Q:Option Int->Hp->Prop),Inv X Y Z H s->t Z H Q ->
  YI X (evalPart e X.env) (λu s'=>∃o a,Inv X Y Z a s'/\IsPart u o/\Q o a) X.xe s
def NG:TO:=λ_ H Q=>Q none H
def ug (t:TE):TO:=λZ H Q=>t Z H λx a=>∃i,x=.int i/\Q (some i) a
def Cd {ns:Yh}:∀{a:Yf},jp (ns.map V.int) a->IntsAre a ns:=by
 induction ns with
 |nil=>intro a r;cases r;exact .nil
 |cons n ns b =>
  intro a r;cases r with
  |cons c f =>
   obtain⟨t,e⟩:=c;subst e;exact .cons n t (b f)
section
variable {X:Cx}{e:Expr}{te:TE}{lo hi:Option Expr}{tl th:TO}{pos p2:Pos}
def NH:PO X none NG:=λY s Z H Q I h=>Zb ⟨none,H,I,.none,h⟩
def NI (h:PE X e te):PO X (some e) (ug te):=by
 intro Y s Z H Q I a;refine jK (h Y s Z H _ I a) λu j ⟨x,b,c,f,g⟩=>?_;obtain⟨i,rfl,q⟩:=g;obtain⟨t,rfl⟩:=f;exact⟨some i,b,c,.int i t,q⟩
def uN (K:W.Frag):R2:=λx y H Q=>∃a b c ys,x=.ref a/\y=.ref b/\yC K H a c/\yC K H b ys/\c ≠ []/\c.length+ys.length<=sizeLine /\
 (ys=[]->Q (.ref a) H)/\(ys ≠ []->∀p,H p=none->Q (.ref p) (j9 H p (.tup (c++ys))))
def jp.nil_iff {a:YE}{b:Yf}(r:jp a b):b=[]↔a=[]:=by
 cases r with
 |nil=>simp
 |cons _ _=>simp
def NJ:xg X (binaryOp .Add) (uN X.K):=by
 intro Y s Z H x y v u Q I i j h;obtain⟨a,b,t,ys,rfl,rfl,l,m,n,hz,o,p⟩:=h;cases i;cases j;obtain⟨its,f,r,_⟩:=I.tuple l;obtain⟨g,c,p2,_⟩:=I.tuple m;refine HT.cat_tup r p2 (λz=>n (f.nil_iff.mp z)) (λz=>⟨.ref a,H,I,rfl,o (c.nil_iff.mp z)⟩) (λz=>⟨.ref s.heap.objs.size,_,I.laid (λb A q=>Zq _ q) (Zf _) ?_,rfl,p (λw=>z (c.nil_iff.mpr w)) _ (I.hok.fresh (Zf _))⟩) (by rwa [<- f.length,<- c.length]);exact⟨⟨(),⟨_,Zr _ rfl,rfl⟩⟩,_,f.append c,IsTup.new _ _⟩
end
def yf (n:Nat)(i:Int):Option Nat:=if 0<=i then(if i<n then some i.toNat else none) else if -(n:Int)<=i then some (i+n).toNat else none
def qQ {α: Type}(a:List α)(i:Int):Option α:= (yf a.length i).bind λj=>a[j]?
def EU {n:Nat}{i:Int}{j:Nat}(h:yf n i=some j):seqIndex? i n=some j/\j<n /\ -(n:Int)<=i/\i<n:=by
 unfold yf at h;by_cases b:0<=i
 .by_cases a:i<n
  .grind[Zqi,seqIndex_of]
  simp_all
 .by_cases a: -(n:Int)<=i
  .grind[Zqi,seqIndex_neg]
  simp_all
def Ce {α: Type}{a:List α}{i:Int}{v:α}(h:qQ a i=some v):∃j,seqIndex? i a.length=some j/\a[j]? = some v/\j<a.length /\ -(a.length:Int)<=i/\i<a.length:=by
 unfold qQ at h;cases e:yf a.length i with
 |none=>rw[e] at h;cases h
 |some j =>
  rw[e] at h;obtain⟨b,c,f,g⟩:=EU e;exact⟨j,b,h,c,f,g⟩
def Xf (b:Expr):Prop:=∀o i,subscripted b false o i=operate [o,i] (getItem o i)
def yY (X:Cx)(r:R2):Prop:=
 ∀(b a:Expr) (Y:Yb) (s:Shared) (Z: St) (H:Hp) (x y:V) (v u:Value) (Q:VK),Inv X Y Z H s->jq x v->jq y u->r x y H Q ->
  subscripted a false v u=operate [v,u] (getItem v u)->YI X (subscriptTail b a v u) (EP X Y Z Q) X.xe s
def nU (X:Cx)(id:String)(r:V->YE->Hp->VK->Prop):Prop:=
 ∀(Y:Yb) (s:Shared) (Z: St) (H:Hp) (x:V) (a:YE) (v:Value) (b:Yf) (Q:VK),Inv X Y Z H s->jq x v->jp a b->r x a H Q ->
  YI X (call (.builtin id) (v::b)) (EP X Y Z Q) X.xe s
section
variable {X:Cx}{a b:Expr}{ta tb:TE}{pos:Pos}
def yY.or {r f:R2}(h:yY X r)(h':yY X f):yY X (λx y H Q=>r x y H Q\/f x y H Q):=by
 intro c e Y s Z H x y v u Q I g i q hs;rcases q with q|q
 .exact h c e Y s Z H x y v u Q I g i q hs
 .exact h' c e Y s Z H x y v u Q I g i q hs
def XP {r:R2}(c:yY X r)(e:PE X a ta)(f:PE X b tb)(hs:Xf b):PE X (.Subscript a b pos) (vm r ta tb):=λY s Z H Q I h=>Subscript_ (vA e f I h λv u g x y i j l m q=>c a b Y g Z i x y v u Q j l m q (hs _ _))
def uL (K:W.Frag):R2:=λx y H Q=>∃p c i v,x=.ref p/\y=.int i/\qZ K H p c/\qQ c i=some v/\Q v H
def uJ (K:W.Frag):R2:=λx y H Q=>∃p c i v,x=.ref p/\y=.int i/\yC K H p c/\qQ c i=some v/\Q v H
def uK:R2:=λx y H Q=>∃z i c,x=.str z/\y=.int i/\z.length<=sizeLine/\qQ z.cps.toList i=some c/\Q (.str ⟨#[c]⟩) H
def fU:yY X (uL X.K):=by
 intro e f Y s Z H x y v u Q I A B h hs;obtain⟨p,K,i,z,rfl,rfl,C,E,q⟩:=h;cases A;obtain⟨t,rfl⟩:=B;obtain⟨its,r,pl,hz⟩:=I.list C;obtain⟨j,g,F,L,G,J⟩:=Ce E;obtain⟨w,n,l⟩:=r.get F;have M:=r.length;have N:=Xd;have c:EP X Y Z Q w s:=⟨z,H,I,l,q⟩;by_cases o:0<=i
 .have m:i.toNat=j:=by
   rw[seqIndex_of o J] at g;exact Zqi g
  exact item_listR pl.isList o () (by rw[m];simpa using n) c hs
 .have m:(i+(its.toArray.size:Int)).toNat=j:=by
   rw[seqIndex_neg () G] at g
   simp_all
  exact subscriptTail_builtinR pl.isList.typeIs slot_list_getitem.lookup
   (wpAny_getItem_list_neg pl.isList () () () (by rw[m];simpa using n) ⟨rfl,c⟩) hs
def sj:yY X (uJ X.K):=by
 intro c e Y s Z H x y v u Q I l m h hs;obtain⟨p,C,i,z,rfl,rfl,n,o,q⟩:=h;cases l;obtain⟨t,rfl⟩:=m;obtain⟨its,r,pl,hz⟩:=I.tuple n;obtain⟨j,E,A,F,G,J⟩:=Ce o;obtain⟨w,B,f⟩:=r.get A;have K:=r.length;have L:=Xd;have g:EP X Y Z Q w s:=⟨z,H,I,f,q⟩;exact subscriptTail_builtinR pl.typeIs slot_tuple_getitem.lookup
  (getItem_tuple (j:=j) pl () () () (by simpa using B) ⟨rfl,g⟩) hs
def NK:yY X uK:=by
 intro e f Y s Z H x y v u Q I l m h hs;obtain⟨z,i,c,rfl,rfl,hz,n,q⟩:=h;obtain⟨t,rfl⟩:=l;obtain⟨t',rfl⟩:=m;obtain⟨j,g,o,A,p,r⟩:=Ce n;have w:z.cps.toList.length=z.length:=by simp[Str.length]
 rw[w] at g p r;have B:=Xd;exact tail_any (typeIs_str s z t) slot_str_getitem.lookup (getItem_str (by
  grind) (by rw[g];simpa using o) ⟨.str ⟨#[c]⟩,H,I.tok _,⟨_,rfl⟩,q⟩) hs
def cM (K:W.Frag):R2:=λx y H Q=>uL K x y H Q\/uJ K x y H Q\/uK x y H Q
def NL:yY X (cM X.K):=fU.or (sj.or NK)
def NM (its:Yf)(n j:Nat)(u:Value):Obj.mapSeq (·.setIfInBounds j u) { cls:=.type "list",data:=.seq its.toArray n }={ cls:=.type "list",data:=.seq (its.set j u).toArray n }:=by
 simp[Obj.mapSeq]
theorem Inv.lst {Y:Yb}{Z: St}{H:Hp}{s:Shared}{p:Addr}{c:YE}(I:Inv X Y Z H s)(h:H p=some (.lst c)):
 ∃(its:Yf) (n:Nat),jp c its/\s.heap.get? p=some { cls:=.type "list",data:=.seq its.toArray n }/\c.length<=sizeLine:=have ⟨z,its,n,r,e⟩:=I.hok p _ h;⟨its,n,r,e,z⟩
def Inv.lstUpd {Y:Yb}{Z: St}{H:Hp}{s:Shared}{p:Addr}{j ys:YE}{its c:Yf}{n g:Nat}{f:Obj->Obj}(I:Inv X Y Z H s)(h:H p=some (.lst j))
 (l:s.heap.get? p=some { cls:=.type "list",data:=.seq its.toArray n }) (i:f { cls:=.type "list",data:=.seq its.toArray n }={ cls:=.type "list",data:=.seq c.toArray g }) (r:jp ys c) (hz:ys.length<=sizeLine) (t:Nat):
 Inv X Y Z (j9 H p (.lst ys)) { s with heap:=s.heap.update p f,toks:=t }:=by
 have e:(s.heap.update p f).get? p=some { cls:=.type "list",data:=.seq c.toArray g }:=by
  rw[Heap.get?_update_self f l (by rw[i]<;>rfl),i]
 exact I.write (by rw[h];trivial) (.inl rfl) (λb u m q=>(Heap.get?_update_other _ _ (Ne.symm m)).trans q) ⟨_,e⟩ ⟨hz,c,g,r,e⟩
def uI:V->V->V->Hp->(Hp->Prop)->Prop:=λo i v H Q=>∃p c k j,o=.ref p/\i=.int k/\H p=some (.lst c)/\yf c.length k=some j/\Q (j9 H p (.lst (c.set j v)))
def EV:fJ X uI:=by
 intro Y s Z H o i v m w u Q I c e f h;obtain⟨p,x,k,j,rfl,rfl,hp,g,q⟩:=h;cases c;obtain⟨t,rfl⟩:=e;obtain⟨its,n,r,l,hz⟩:=I.lst hp;obtain⟨y,z,A,B⟩:=EU g;have C:=r.length;have E:=Xd;have F:=
  I.lstUpd hp l (NM its n j u) (r.set f j) () s.toks
 grind[seqIndex_of,Zqi,W.ki_setAt,seqIndex_neg,W.ki_setBack]
def NN:jS X (.builtin "len") (λf H Q=>∃p ys,f=[.ref p]/\(qZ X.K H p ys\/yC X.K H p ys)/\Q (.int ys.length) H):=by
 intro Y s Z H f i Q I r h;obtain⟨p,ys,rfl,hq,q⟩:=h;obtain⟨u,rfl,g⟩:=QM r;cases g;have j:=Xd;rcases hq with hq|hq
 .obtain⟨its,e,pl,hz⟩:=I.list hq;have c:=e.length;exact Calls.call_len_list pl.isList () ⟨.int ys.length,H,I.tok _,⟨s.toks+1,by rw[Zm,c]⟩,q⟩
 .obtain⟨its,e,pl,hz⟩:=I.tuple hq;have c:=e.length;exact len_tuple pl () ⟨.int ys.length,H,I.tok _,⟨s.toks+1,by rw[Zm,c]⟩,q⟩
def NO:jS X (.builtin "len") (λc H Q=>∃z,c=[.str z]/\z.length<=sizeLine/\Q (.int z.length) H):=by
 intro Y s Z H c e Q I r h;obtain⟨z,rfl,hz,q⟩:=h;obtain⟨u,rfl,t,rfl⟩:=QM r;have f:=Xd;exact len_str () ⟨.int z.length,H,I.tok _,⟨_,rfl⟩,q⟩
def jS.or {f:Value}{r e:YE->Hp->VK->Prop}(h:jS X f r)(h':jS X f e):jS X f (λc H Q=>r c H Q\/e c H Q):=by
 intro Y s Z H c g Q I rs q;rcases q with q|q
 .exact h Y s Z H c g Q I rs q
 .exact h' Y s Z H c g Q I rs q
def NP:jS X (.type "list") (λw H Q=>∃p ys,w=[.ref p]/\(qZ X.K H p ys\/yC X.K H p ys)/\∀l,H l=none->Q (.ref l) (j9 H l (.lst ys))):=by
 intro Y s Z H w z Q I r h;obtain⟨p,ys,rfl,hq,q⟩:=h;obtain⟨u,rfl,y⟩:=QM r;cases y;have g:∀(its:Yf),jp ys its->ys.length<=sizeLine->∀(h':Heap) (c:Nat),(∀b x,s.heap.get? b=some x->h'.get? b=some x) ->
  h'.get? s.heap.objs.size=some { cls:=.type "list",dict:=none,data:=.seq its.toArray c,slots:=#[] }->EP X Y Z Q (.ref s.heap.objs.size) { s with heap:=h' }:=λits f hz h' c i e =>
  ⟨.ref s.heap.objs.size,_,I.laid (t':=s.toks) i (Zf _) (show xX X.prog X.w _ h' _ (.lst ys) from ⟨hz,its,c,f,e⟩),rfl,q _ (I.hok.fresh (Zf _))⟩
 rcases hq with hq|hq
 .obtain⟨its,f,pl,hz⟩:=I.list hq;have j:=f.length;obtain⟨o,m,t,n,v⟩:=pl.isList;exact call_list_seq p (.inl rfl) m t v (λh' c i e=>g its f hz h' c i e) (by simp only[Zm]<;>lia)
 .obtain⟨its,f,pl,hz⟩:=I.tuple hq;have j:=f.length;obtain⟨o,m,t,n,v⟩:=pl;exact call_list_seq p (.inr rfl) m t v (λh' c i e=>g its f hz h' c i e) (by simp only[Zm]<;>lia)
def NQ:jS X (.type "tuple") (λg H Q=>∃p ys,g=[.ref p]/\((qZ X.K H p ys/\∀l,H l=none->Q (.ref l) (j9 H l (.tup ys)))\/(yC X.K H p ys/\Q (.ref p) H))):=by
 intro Y s Z H g v Q I r h;obtain⟨p,ys,rfl,h⟩:=h;obtain⟨u,rfl,m⟩:=QM r;cases m;rcases h with ⟨c,q⟩|⟨c,q⟩
 .obtain⟨its,f,pl,hz⟩:=I.list c;have i:=f.length;refine call_tuple_list pl.isList (λh' n=>?_) ();have j:Inv X Y Z H { s with heap:=h' }:=I.kept n;have t:Inv X Y Z (j9 H h'.objs.size (.tup ys)) { s with heap:=h'.push { cls:=.type "tuple",data:=.seq its.toArray } } :=
   j.laid (λb o e=>Zq _ e) (Zf _) (⟨⟨hz,⟨_,Zr _ rfl,rfl⟩⟩,its,f,IsTup.new _ _⟩)
  exact⟨.ref h'.objs.size,_,t,rfl,q _ (j.hok.fresh (Zf _))⟩
 .obtain⟨its,f,pl,hz⟩:=I.tuple c;exact call_tuple_same pl ⟨.ref p,H,I,rfl,q⟩
def bV (K:W.Frag)(T:String)(x:V)(H:Hp):Prop:=match x with
 | .str _=>T = "str"
 | .int _=>T = "int"
 | .ref p=>(T = "list" /\ ∃e,qZ K H p e)\/(T = "tuple" /\ ∃o,K.lookup p=some o/\o.cls=.type "tuple" /\ o.dict=none) \/
  (T = "dict" /\ ((∃c,H p=some (.dK c))\/∃c,H p=some (.dT c)))\/(T = "set" /\ ∃S n,H p=some (.set S n))
 |_=>False
def EW {Y:Yb}{Z: St}{H:Hp}{s:Shared}{T:String}{x:V}{v:Value}(I:Inv X Y Z H s)(r:jq x v)(h:bV X.K T x H):
 s.TypeIs v T/\∀a,v=.ref a->∃q,s.heap.get? a=some q/\q.dict=none:=by
 cases x with
 |str z =>
  obtain⟨t,rfl⟩:=r;cases (show T = "str" from h);exact⟨typeIs_str s z t,λ_ e=>nomatch e⟩
 |int i =>
  obtain⟨t,rfl⟩:=r;cases (show T = "int" from h);exact⟨typeIs_int s i t,λ_ e=>nomatch e⟩
 |ref p =>
  cases r;rcases h with ⟨rfl,y,u⟩|⟨rfl,o,f,w,j⟩|⟨rfl,f⟩|⟨rfl,S,n,f⟩
  .obtain⟨its,_,pl,_⟩:=I.list u;refine⟨pl.isList.typeIs,λa e=>?_⟩;cases e;obtain⟨o,n,e,c,j,_⟩:=pl;exact⟨o,e,j⟩
  .refine⟨⟨o,I.kIn p o f,w⟩,λa e=>?_⟩;cases e;exact⟨o,I.kIn _ o f,j⟩
  .have z:∃o,s.heap.get? p=some o/\o.ExactDict:=by
    rcases f with ⟨l,f⟩|⟨l,f⟩
    .obtain⟨_,_,_,_,o,_,_,e,g,_⟩:=I.hok p _ f;exact⟨o,e,g⟩
    .obtain⟨_,_,_,_,o,_,_,e,g,_⟩:=I.hok p _ f;exact⟨o,e,g⟩
   obtain⟨o,e,g⟩:=z;refine⟨⟨o,e,g.1⟩,λa m=>?_⟩;cases m;exact⟨o,e,g.2.1⟩
  .obtain⟨o,_,_,_,e,g,_⟩:=I.hok p _ f;refine⟨⟨o,e,g.1⟩,λa m=>?_⟩;cases m;exact⟨o,e,g.2.1⟩
 |_=>exact False.elim h
def u3 (K:W.Frag)(T:String)(r:V->YE->Hp->VK->Prop)(e:TE):TE:=λZ H Q=>e Z H λx c=>bV K T x c/\r x [] c Q
def u4 (K:W.Frag)(T:String)(r:V->YE->Hp->VK->Prop)(e:TE)(t:TA):TE:=λZ H Q=>e Z H λx c=>bV K T x c/\t Z c λf g=>r x f g Q
variable {o e:Expr}{es:Ym}{to:TE}{t:TA}{name:Str}{apos cpos:Pos}{T id:String}{r:V->YE->Hp->VK->Prop}
def NR (m:PlainAttrs T)(g:Slot T name id)(i:typeOf (.builtin id)=pure (.type "method_descriptor"))(n:nU X id r)(p:PE X o to)
 (c:attributeBase o name X.env (eval o X.env)=eval o X.env:=by rfl) (f:(apos.endLine == cpos.line)=true:=by rfl):PE X (.Call (.Attribute o name apos) [] [] cpos) (u3 X.K T r to):=by
 intro Y s Z H Q I h;refine wpAny_Call_method0_late c f (jK (p Y s Z H _ I h) λv q ⟨x,u,j,l,w,y⟩=>?_);obtain⟨z,A⟩:=EW j l w;exact⟨T,id,m,g,i,z,A,Calls.callWith_builtin rfl (PySem.evalArgs_none (n Y q Z u x [] v [] Q j l .nil y))⟩
def KI (q:PlainAttrs T)(i:Slot T name id)(l:typeOf (.builtin id)=pure (.type "method_descriptor"))(u:nU X id r)(w:PE X o to)(y:PA X (e::es) t)
 (f:attributeBase o name X.env (eval o X.env)=eval o X.env:=by rfl)
 (j:((backTo cpos (starEach (e::es) X.env)).all (λx => !x.1)&&(backToKw cpos (keywordEach [] X.env)).all (λx=>x.1.isSome)
  && decide ((e::es).length+([]:List Keyword).length+(if([]:List Keyword).isEmpty then 0 else 1)<30))=true:=by rfl)
 (g:(apos.endLine == cpos.line)=true:=by rfl) (hs:starEach (e::es) X.env=(false,eval e X.env)::starEach es X.env:=by rfl) (c:(backTo cpos (starEach es X.env)).any (·.1)=false:=by rfl):
 PE X (.Call (.Attribute o name apos) (e::es) [] cpos) (u4 X.K T r to t):=by
 intro Y s Z H Q I h;refine wpAny_Call_method_late f j g rfl (jK (w Y s Z H _ I h) λv z ⟨x,A,m,n,B,C⟩=>?_);obtain⟨E,F⟩:=EW m n B;refine⟨T,id,q,i,l,E,F,?_⟩;have p:=y cpos Y z Z A _ m C;rw[hs] at p ⊢;refine Calls.callWith_builtin (by show(false||(backTo cpos (starEach es X.env)).any (·.1))=false;rw[c]<;>rfl) (Calls.evalArgs_plain ?_);exact jK p λG J ⟨K,L,M,N,O⟩=>u Y J Z L x K v G Q M n N O
end
def rQ (X:Cx)(id:String)(r:V->YE->Hp->VK->Prop):Prop:=
 ∀(Y:Yb) (s:Shared) (Z: St) (H:Hp) (x:V) (a:YE) (v:Value) (b:Yf) (Q:VK),Inv X Y Z H s->jq x v->jp a b->r x a H Q ->
  YI X (call (.builtin id) (v::b)) (EP X Y Z Q) X.xe s
def jp.one:∀{x:V} {a:Yf},jp [x] a->∃u,a=[u]/\jq x u:=λh=>by
 cases h with
 |cons r t=>cases t;exact⟨_,rfl,r⟩
def z8:∀{a:Yf},jp [] a->a=[]
 |_,.nil=>rfl
section
variable {X:Cx}{Y:Yb}{Z: St}{H:Hp}{s:Shared}{l b:Addr}{xs ys zs:YE}
def Inv.lset {its a:Yf}{n:Nat}{f:Yn->Array Value}{t':Nat}(I:Inv X Y Z H s)(c:H l=some (.lst xs))
 (e:s.heap.get? l=some { cls:=.type "list",data:=.seq its.toArray n }) (g:f its.toArray=a.toArray) (h:jp ys a) (hz:ys.length<=sizeLine):
 Inv X Y Z (j9 H l (.lst ys)) { s with heap:=s.heap.update l (Obj.mapSeq f),toks:=t' }:=by
 have q:=PySem.IsL.update e f;rw[g] at q;exact I.write (by rw[c];exact trivial) (.inl rfl) (λm u i j=>(Heap.get?_update_other s.heap (Obj.mapSeq f) (Ne.symm i)).trans j) ⟨_,q⟩ ⟨hz,a,_,h,q⟩
def Inv.lnew {its:Yf}{t':Nat}(I:Inv X Y Z H s)(a:jp ys its)(hz:ys.length<=sizeLine):
 Inv X Y Z (j9 H s.heap.objs.size (.lst ys)) { s with heap:=s.heap.push { cls:=.type "list",data:=.seq its.toArray },toks:=t' } :=
 I.laid (λ_ _ q=>Zq _ q) (Zf _) ⟨hz,its,0,a,Zr _ rfl⟩
theorem Inv.fresh (I:Inv X Y Z H s):H s.heap.objs.size=none:=I.hok.fresh (Zf _)
def Inv.lstM (I:Inv X Y Z H s)(a:H l=some (.lst xs)):xs.length<=sizeLine/\∃(its:Yf) (n:Nat),jp xs its/\xs.length=its.length/\s.heap.get? l=some { cls:=.type "list",data:=.seq its.toArray n }:=have ⟨z,its,n,r,e⟩:=I.hok l _ a;⟨z,its,n,r,r.length,e⟩
def NS {n:Nat}(h:n<=sizeLine):Builtin.List.listTooLong n=false:=by
 simp_all [Builtin.List.listTooLong]
end
section
variable {X:Cx}
def Am:V->YE->Hp->VK->Prop:=λx b H Q=>∃l a y,x=.ref l/\b=[y]/\H l=some (.lst a)/\a.length<sizeLine/\Q .non (j9 H l (.lst (a++[y])))
def V3:rQ X "list.append" Am:=by
 intro Y s Z H x g v i Q I b c h;obtain⟨l,j,y,rfl,rfl,a,hz,q⟩:=h;cases b;obtain⟨u,rfl,f⟩:=c.one;obtain⟨z,its,n,r,m,e⟩:=I.lstM a;refine call_meets F.slot_list_append ⟨_,e,rfl⟩ F.entry_list_append (F.args_list_append_2 _ _) (PySem.list_append l its.toArray n u (by rw[Zm];lia)) ⟨e,⟨.non,_,I.lset a e () (r.append (.cons f .nil)) ?_,rfl,q⟩⟩
 grind
def EX:V->YE->Hp->VK->Prop:=λx e H Q=>∃l b a c,x=.ref l/\e=[.ref b]/\H l=some (.lst a)/\H b=some (.lst c)/\a.length+c.length<=sizeLine/\Q .non (j9 H l (.lst (a++c)))
def NT:rQ X "list.extend" EX:=by
 intro Y s Z H x y v A Q I g i h;obtain⟨l,b,B,C,rfl,rfl,f,j,hz,q⟩:=h;cases g;obtain⟨u,rfl,m⟩:=i.one;cases m;obtain⟨z,its,n,r,E,e⟩:=I.lstM f;obtain⟨G,a,o,p,t,w⟩:=I.lstM j;have hsz:its.toArray.size+a.toArray.size<=sizeLine:=by simp_all
 have c:¬(!its.toArray.isEmpty&&Builtin.List.listTooLong (its.toArray.size+a.toArray.size))=true:=by
  rw[NS hsz,Bool.and_false];exact Zj
 refine call_meets F.slot_list_extend ⟨_,e,rfl⟩ F.entry_list_extend (F.args_list_extend_2 _ _)
  (AutoSeq1.list_extend_list_list_0 l its.toArray n b a.toArray o c () ()) ⟨e,w,⟨.non,_,I.lset f e () (r.append p) ?_,rfl,q⟩⟩
 rw[Ua];lia
end
section
variable {prog:Program}{w:World}{A:Around}{E:Ya}{s:Shared}
set_option maxRecDepth 100000 in
end
section
variable {κ: Type}[DecidableEq κ]
def qw (a:List (κ × V))(k:κ):YF:=(a.find? λb=>decide (b.1=k)).map (·.2)
def qy (a:List (κ × V))(k:κ)(v:V):List (κ × V):=
 if(a.any λb=>decide (b.1=k))=true then a.map (λb=>if b.1=k then(b.1,v) else b) else a++[(k,v)]
def Cf {p:κ × V}{r:List (κ × V)}{k:κ}(e:p.1=k):qw (p::r) k=some p.2:=by simp[qw,e]
theorem Cg {p:κ × V}{r:List (κ × V)}{k:κ}(e:¬p.1=k):qw (p::r) k=qw r k:=by simp[qw,e]
theorem EY (k:κ):∀a:List (κ × V),(a.any λb=>decide (b.1=k))=(qw a k).isSome
 | []=>rfl
 |p::r=>by
  rw[List.any_cons];by_cases e:p.1=k
  .simp[Cf e,Zp e]
  .rw[Cg e,Zo e,Bool.false_or];exact EY k r
def Ch (a:List (κ × V))(k:κ)(v:V):(qy a k v).length<=a.length+1:=by
 grind[qy,Zql,List.length_append,List.length_cons,List.length_nil]
def xt.isSome_eq {o:YF}{u:Yg}(r:xt o u):o.isSome=u.isSome:=by
 cases o with
 |none=>cases u with
  |none=>rfl
  |some _=>exact(r).elim
 |some _=>cases u with
  |none=>exact(r).elim
  |some _=>rfl
theorem xt.getD {o:YF}{u:Yg}{d:V}{d':Value}(r:xt o u)(a:jq d d'):jq (o.getD d) (u.getD d'):=by
 cases o with
 |none=>cases u with
  |none=>exact a
  |some _=>exact(r).elim
 |some _=>cases u with
  |none=>exact(r).elim
  |some _=>exact r
def KV.val {a:List (κ × V)}{c:List (κ × Value)}(r:KV a c)(k:κ):xt (qw a k) (valueAt c k):=by
 induction r with
 |nil=>exact True.intro
 | @cons p q ps f h t i =>
  obtain⟨g,j⟩:=h;by_cases e:p.1=k
  .have b:valueAt (q::f) k=some q.2:=by simp[valueAt,(g.symm.trans e)]
   rwa [Cf e,b]
  grind[valueAt,Cg]
theorem KV.any {a:List (κ × V)}{c:List (κ × Value)}(r:KV a c)(k:κ):(a.any λb=>decide (b.1=k))=c.any λb=>decide (b.1=k):=by
 induction r with
 |nil=>rfl
 |cons h t e=>simp_all
def KV.repl {b:List (κ × V)}{c:List (κ × Value)}(r:KV b c)(k:κ){y:V}{u:Value}(f:jq y u):
 KV (b.map λa=>if a.1=k then(a.1,y) else a) (c.map λa=>if a.1=k then(a.1,u) else a):=by
 induction r with
 |nil=>exact .nil
 | @cons p q ps g h t e =>
  refine .cons ?_ e
  grind
def KV.put {a:List (κ × V)}{b:List (κ × Value)}(r:KV a b)(k:κ){y:V}{u:Value}(c:jq y u):KV (qy a k y) (stored b k u):=by
 unfold qy stored;rw[r.any k];by_cases e:(b.any λf=>decide (f.1=k))=true
 .rw[Zd e,Zd e];exact r.repl k c
 .rw[Ze e,Ze e];exact Paired.snoc r ⟨rfl,c⟩
theorem KV.length {a:List (κ × V)}{b:List (κ × Value)}(r:KV a b):a.length=b.length:=Paired.length r
end
def XQ {P:Program}{w:World}{k:j0}{u:Value}(r:jq (kV k) u):(Qt P w).is k u=true:=by
 cases k with
 |inl i=>have ⟨t,e⟩:=(r);subst e;exact M8 P w i t
 |inr x=>have ⟨t,e⟩:=(r);subst e;exact M9 P w x t
theorem EZ {P:Program}{w:World}:∀{ks:List j0} {a:Yf},jp (ks.map kV) a->ItemsAre (Qt P w) ks a
 | [],_,r=>by cases r;exact .nil
 |k::ks,_,r=>by
  cases r with
  |cons h t=>exact .cons (XQ h) (EZ t)
abbrev KT (H:Hp):List (List j0×V)->List (List j0×Addr×Value)->Prop:=Paired λp q=>p.1=q.1/\H q.2.1=some (.tup (p.1.map kV))/\jq p.2 q.2.2
def KT.val {H:Hp}{a:List (List j0×V)}{c:List (List j0×Addr×Value)}(r:KT H a c)(k:List j0):xt (qw a k) ((atKey c k).map (·.2)):=by
 induction r with
 |nil=>exact True.intro
 | @cons p q ps f h t i =>
  obtain⟨g,_,j⟩:=h;by_cases e:p.1=k
  .have b:atKey (q::f) k=some q.2:=by simp[atKey,(g.symm.trans e)]
   rwa [Cf e,b]
  grind[atKey,Cg]
def KT.repl {H:Hp}{a:List (List j0×V)}{c:List (List j0×Addr×Value)}(r:KT H a c)(k:List j0){y:V}{u:Value}(f:jq y u):
 KT H (a.map λb=>if b.1=k then(b.1,y) else b) (c.map (putAt k u)):=by
 induction r with
 |nil=>exact .nil
 | @cons p q ps g h t e =>
  refine .cons ?_ e
  grind[putAt]
def KT.put {H:Hp}{a:List (List j0×V)}{c:List (List j0×Addr×Value)}(r:KT H a c)(k:List j0){b:Addr}{y:V}{u:Value}(g:H b=some (.tup (k.map kV)))(f:jq y u):
 KT H (qy a k y) (storedH c k b u):=by
 have e:(a.any λh=>decide (h.1=k))=(atKey c k).isSome:=by
  rw[EY,(r.val k).isSome_eq,Option.isSome_map]
 unfold qy storedH;rw[e];by_cases q:(atKey c k).isSome=true
 .rw[Zd q,Zd q];exact r.repl k f
 .rw[Ze q,Ze q];exact Paired.snoc r ⟨rfl,g,f⟩
def KT.keeps {H c:Hp}{a:List (List j0×V)}{e:List (List j0×Addr×Value)}(r:KT H a e)(f:∀b ys,H b=some (.tup ys)->c b=some (.tup ys)):KT c a e:=
 xH r ()
section
variable {P:Program}{w:World}{H:Hp}{h:Heap}{a:Addr}
def Fa {u:HO}(ok:qR P w H h)(e:Rd H a u):xX P w H h a u:=e.ok ok
def WC {b:List (j0×V)}(ok:qR P w H h)(e:Rd H a (.dK b)):b.length<=sizeLine/\(a == sysModules)=false/\∃c,KV b c/\h.DictOf (Qt P w) a c:=
 Fa ok e
def Ci {b:List (j0×V)}(ok:qR P w H h)(e:H a=some (.dK b)):b.length<=sizeLine/\(a == sysModules)=false/\∃c,KV b c/\h.DictOf (Qt P w) a c:=WC ok (.inl e)
theorem XR {ks:List j0}(ok:qR P w H h)(e:H a=some (.tup (ks.map kV))):(tupleKind (Qt P w)).is h ks a:=have ⟨_,its,r,o,b,c,n,f⟩:=(ok a _ e);⟨o,its.toArray,n,b,c,f,by simpa using EZ r⟩
def Xg {b:List (List j0×V)}(ok:qR P w H h)(e:Rd H a (.dT b)):b.length<=sizeLine/\(a == sysModules)=false /\
 ∃c,KT H b c/\h.DictOfH (tupleKind (Qt P w)) a c:=by
 obtain⟨z,y,c,r,o,es,ep,g,i,j,n,s⟩:=(Fa ok e);refine⟨z,y,c,r,o,es,ep,g,i,j,n,λx f=>?_,s⟩;have all:∀{l:List (List j0×V)} {m:List (List j0×Addr×Value)},KT H l m->∀x∈m,(tupleKind (Qt P w)).is h x.1 x.2.1:=by
  intro l m q
  induction q with
  |nil=>intro x f;exact nomatch f
  | @cons p q ps u v t A =>
   grind[XR]
 exact all r x f
def fj {b:List (List j0×V)}(ok:qR P w H h)(e:H a=some (.dT b)):b.length<=sizeLine/\(a == sysModules)=false /\
 ∃c,KT H b c/\h.DictOfH (tupleKind (Qt P w)) a c:=Xg ok (.inl e)
end
def xF (H:Hp)(a:Addr)(y:V)(r:YF):Prop:=
 (∃c k,Rd H a (.dK c)/\y=kV k/\r=qw c k)\/∃c k b,Rd H a (.dT c)/\y=.ref b/\H b=some (.tup (k.map kV))/\r=qw c k
def zE (H:Hp)(a:Addr)(y v:V)(e:Hp):Prop:=
 (∃c k,H a=some (.dK c)/\y=kV k/\c.length<sizeLine/\e=j9 H a (.dK (qy c k v))) \/
 ∃c k b,H a=some (.dT c)/\y=.ref b/\H b=some (.tup (k.map kV))/\c.length<sizeLine/\e=j9 H a (.dT (qy c k v))
theorem xF.k {H:Hp}{a:Addr}{b:List (j0×V)}{k:j0}(e:H a=some (.dK b)):xF H a (kV k) (qw b k):=.inl ⟨b,k,.inl e,rfl,rfl⟩
theorem zE.k {H:Hp}{a:Addr}{b:List (j0×V)}{k:j0}{v:V}(e:H a=some (.dK b))(c:b.length<sizeLine):zE H a (kV k) v (j9 H a (.dK (qy b k v))):=.inl ⟨b,k,e,rfl,c,rfl⟩
section
variable {X:Cx}{Y:Yb}{Z: St}{H:Hp}{s:Shared}{a:Addr}{y v:V}{u r:Value}{o:YF}{A:Around}{E:Ya}
def Inv.big (I:Inv X Y Z H s):sysModules<s.heap.objs.size:=have h:=(I.mod.glob.keeps I.bk).lt;Ug (by decide) h
def NU {Q:Ya}(w:A.units+1<cLine)(I:Inv X Y Z H s)(g:xF H a y (some v))(t:jq y u)(h:∀i s',Inv X Y Z H s'->jq v i->Q i s'):
 wpAny (model X.prog X.w) A (getItem (.ref a) u) Q E s:=by
 rcases g with ⟨j,k,e,m,l⟩|⟨j,k,b,e,m,x,l⟩
 .subst m;obtain⟨z,B,C,c,dd⟩:=WC I.hok e;obtain⟨i,n,f⟩:=qH (by rw[l];exact c.val k);exact wpAny_getItem_of (XQ t) dd.mapOf n (h i _ (I.tok _) f)
 .subst m;cases (t);obtain⟨z,B,F,c,dd⟩:=Xg I.hok e;obtain⟨i,n,f⟩:=qH (by rw[l];exact c.val k);obtain⟨p,hp,q⟩:=Jk.mp n;refine wpAny_getItem_heap (tupleKind_room_in1 w) (XR I.hok x) dd hp ?_;rw[q];exact h i _ (I.tok _) f
def NV {Q:Ya}(n:A.units+1<cLine)(I:Inv X Y Z H s)(g:xF H a y o)(m:jq y u)(h:∀s',Inv X Y Z H s'->Q (.bool (!o.isSome)) s'):
 wpAny (model X.prog X.w) A (compareOp .NotIn u (.ref a)) Q E s:=by
 rcases g with ⟨f,k,e,i,l⟩|⟨f,k,b,e,i,p,l⟩
 .subst i;obtain⟨z,j,t,c,dd⟩:=WC I.hok e;refine wpAny_notIn_of (XQ m) j dd.mapOf ?_;rw[<- (c.val k).isSome_eq,<- l];exact h _ (I.tok _)
 .subst i;cases (m);obtain⟨z,j,w,c,dd⟩:=Xg I.hok e;refine wpAny_notIn_heap (tupleKind_room_in1 n) (XR I.hok p) j dd ?_;have q:=(c.val k).isSome_eq;rw[Option.isSome_map] at q;rw[<- q,<- l];exact h _ (I.tok _)
def Fb {h':Heap}{t':Nat}{c:HO}(I:Inv X Y Z H s)(e:fL (H a))(hs:Heap.SameBut a s.heap h')(f:∃q,h'.get? a=some q)(new:xX X.prog X.w (j9 H a c) h' a c):
 Inv X Y Z (j9 H a c) { s with heap:=h',toks:=t' } :=
 I.write e (.inl rfl) (λb q g z=>(hs.2 b g).trans z) f new
def Fc {P:Program}{w:World}{f:Hp}{h':Heap}{b:List (j0×V)}{c:List (j0×Value)}(z:b.length<=sizeLine)(g:(a == sysModules)=false)(e:KV b c)(dd:h'.DictOf (Qt P w) a c):
 xX P w f h' a (.dK b):=⟨z,g,c,e,dd⟩
def NW {x:Hp}{Q:Unit->YC}(G:A.units+1<cLine)(I:Inv X Y Z H s)(g:zE H a y v x)(B:jq y u)(C:jq v r)(h:∀s',Inv X Y Z x s'->Q Yt s'):
 wpAny (model X.prog X.w) A (setItem (.ref a) u r) Q E s:=by
 rcases g with ⟨f,k,e,n,l,p⟩|⟨f,k,b,e,n,F,l,p⟩
 .subst n p;obtain⟨z,t,J,i,dd⟩:=Ci I.hok e;have hz:J.length<=sizeLine:=by rwa [<- i.length]
  have w:(qy f k v).length<=sizeLine:=by have:=Ch f k v;lia
  refine wpAny_setItem_pairs (hsz:=hz) (XQ B) dd λh' j hs=>h _ ?_;have K:∃q,h'.get? a=some q:=let ⟨q,_,_,m,_⟩:=j;⟨q,m⟩
  exact Fb I (by rw[e];exact True.intro) hs K (Fc w t (i.put k C) j)
 .subst n p;cases (B);obtain⟨z,t,L,i,dd⟩:=fj I.hok e;have hz:L.length<=sizeLine:=by rwa [<- Paired.length i]
  have w:(qy f k v).length<=sizeLine:=by have:=Ch f k v;lia
  refine wpAny_setItem_heap (hsz:=hz) (tupleKind_room_in1 G) (XR I.hok F) dd λh' j hs=>h _ ?_;obtain⟨q,es,ep,m,M,N,O,_,P⟩:=j;refine Fb I (by rw[e];exact True.intro) hs ⟨q,m⟩ ⟨w,t,_,(i.put k F C).keeps λc ys R=>?_,q,es,ep,m,M,N,O,P⟩
  rwa [JJ ()]
end
section
variable {X:Cx}{Y:Yb}{Z: St}{H:Hp}{s:Shared}{a:Addr}{kvs:List (j0×V)}{k:j0}{u:Value}{A:Around}{E:Ya}
def fw {Q:Ya}(I:Inv X Y Z H s)(e:Rd H a (.dK kvs))(h:∀t s',Inv X Y Z H s'->Q (.int kvs.length t) s'):wpAny (model X.prog X.w) A (call (.builtin "len") [.ref a]) Q E s:=by
 obtain⟨z,c,f,b,dd⟩:=WC I.hok e;refine call_len_dict c dd (by rw[<- b.length];rw[sizeLine_eq] at z;lia) ?_;rw[<- b.length];exact h _ _ (I.tok _)
end
def wl (i:Expr):Prop:=∀a b,subscripted i false a b=operate [a,b] (getItem a b)
def NX {prog:Program}{w:World}{A:Around}{E:Ya}{s:Shared}{env:Env}{b a:Expr}{c:Pos}{T id:String}{Q:Ya}
 (e:typeLookup (.type T) "__getitem__" = pure (some (.builtin id))) (hs:wl a)
 (h:YJ prog w A (eval b env) (λo s₁=>YJ prog w A (eval a env) (λi s₂=>s₂.TypeIs o T/\YJ prog w A (getItem o i) Q E s₂) E s₁) E s):
 YJ prog w A (eval (.Subscript b a c) env) Q E s:=by
 refine Subscript_ (Zc h (λo s₁ h₁=>Zc h₁ (λi s₂ h₂=>?_) λ_ _ x=>x) λ_ _ x=>x);obtain⟨f,h₂⟩:=h₂;refine Za (Za (wpAny_specialOf f e ?_));have g:YJ prog w A (subscripted a false o i) (λr s₃=>YJ prog w A (letTemporaryGo b o r >>= λ_=>pure r) Q E s₃) E s₂:=by
  rw[hs o i];exact wpAny_operating (Zc h₂ (λr s₃ h₃=>Za (wpAny_letTemporaryGo (Zb h₃))) λ_ _ x=>x)
 grind[wpAny_pure,wpAny_bind]
def NY {X:Cx}{Y:Yb}{Z: St}{H:Hp}{s:Shared}{a:Addr}{y:V}{o:YF}(I:Inv X Y Z H s)(g:xF H a y o):s.TypeIs (.ref a) "dict" := by
 rcases g with ⟨c,k,e,_,_⟩|⟨c,k,b,e,_,_,_⟩
 .obtain⟨_,_,f,_,dd⟩:=WC I.hok e;exact dd.typeIs
 .obtain⟨_,_,h,_,dd⟩:=Xg I.hok e;exact dd.typeIs
def u2 (c e:TE):TE:=λZ H Q=>c Z H λx f=>e Z f λy b=>∃a v,x=.ref a/\xF b a y (some v)/\Q v b
def NZ (c e:TE):TE:=λZ H Q=>c Z H λy f=>e Z f λx b=>∃a o,x=.ref a/\xF b a y o/\Q (.bl (!o.isSome)) b
def uG (c e f:TE):TS:=λD Z H=>f Z H λv g=>c Z g λx h=>e Z h λy i=>∃a b,x=.ref a/\zE i a y v b/\D.nx Z b
section
variable {X:Cx}{o i e value:Expr}{pos pos' tpos:Pos}{td ty tv:TE}
def Cj (f:X.A.units+1<cLine)(j:PE X o td)(l:PE X i ty)(hs:wl i):PE X (.Subscript o i pos) (u2 td ty):=by
 intro Y s Z H Q I h;refine NX PySem.F.slot_dict_getitem.lookup hs (jK (j Y s Z H _ I h) λu m ⟨x,n,p,q,r⟩=>jK (l Y m Z n _ p r) λC E ⟨y,t,c,w,a,v,z,g,A⟩=>?_);subst z;obtain rfl:=q;exact⟨NY c g,NU f c g w λF G B b=>⟨v,t,B,b,A⟩⟩
def Oa (b:X.A.units+1<cLine)(c:PE X i ty)(f:PE X o td):PC X .NotIn i o (NZ ty td):=by
 intro Y s Z H Q I h;refine jK (c Y s Z H _ I h) λB j ⟨y,l,m,n,p⟩=>jK (f Y j Z l _ m p) λu C ⟨x,q,r,t,a,v,w,g,z⟩=>?_;subst w;obtain rfl:=t;exact NV b r g n λE A=>⟨.bl (!v.isSome),q,A,rfl,z⟩
def Fd (b:X.A.units+1<cLine)(c:PE X o td)(f:PE X i ty)(j:PE X value tv)(hs:swapsWith value (some (.Subscript o i pos')) pos.line X.env=pure false):
 PS X (.Assign [.Subscript o i pos'] value pos) (uG td ty tv):=by
 intro Y s Z H D I h;refine wpAny_Assign_Subscript (jK (j Y s Z H _ I h) λr l ⟨v,m,n,p,q⟩=>jK (c Y l Z m _ n q) λu t ⟨x,w,z,A,B⟩=>jK (f Y t Z w _ z B) λL M ⟨y,N,C,E,a,F,G,g,J⟩=>?_) hs;subst G;obtain rfl:=A;exact NW b C g E p λO K=>⟨Z,F,K,J⟩
end
def Ob {P:Program}{w:World}{H:Hp}(h:Heap)(a:sysModules<h.objs.size):xX P w H (h.push { cls:=.type "dict",data:=.dict #[] }) h.objs.size (.dK []):=
 ⟨Ub _,(),[],.nil,Heap.DictOf.new h⟩
def Oc:TE:=λ_ H Q=>∀p,H p=none->Q (.ref p) (j9 H p (.dK []))
section
variable {X:Cx}{pos:Pos}
def Od:PE X (.Dict [] [] pos) Oc:=λY s Z H Q I h =>
 wpAny_Dict_empty ⟨.ref s.heap.objs.size,_,I.laid (λ_ _ q=>Zq _ q) (Zf _) (Ob s.heap I.big),rfl,h _ (I.hok.fresh (Zf _))⟩
end
def WD (a more:List (j0×V)):List (j0×V):=more.foldl (λb c=>qy b c.1 c.2) a
def wp:∀{more:List (j0×V)} {rs:List (j0×Value)} {a:List (j0×V)} {b:List (j0×Value)},KV more rs->KV a b->KV (WD a more) (merged b rs):=by
 intro more rs a b r
 induction r generalizing a b with
 |nil=>intro q;exact q
 | @cons p q ps g h t c =>
  intro f;have e:KV (qy a p.1 p.2) (stored b q.1 q.2):=by
   have:=f.put p.1 h.2
   rwa [<- h.1]
  exact c e
theorem Fe:∀(more a:List (j0×V)),(WD a more).length<=a.length+more.length
 | [],a=>by show a.length<=a.length+0;lia
 |p::r,a=>by
  have b:=Fe r (qy a p.1 p.2);have c:=Ch a p.1 p.2;show(WD (qy a p.1 p.2) r).length<=_;rw[Zu];lia
structure M2 (X:Cx)(o:Expr)(m:Str)(apos:Pos)(e f:Expr)(cpos:Pos):Prop where
 base:attributeBase o m X.env (eval o X.env)=eval o X.env
 few:((backTo cpos (starEach [e,f] X.env)).all (λx => !x.1)&&(backToKw cpos (keywordEach [] X.env)).all (λx=>x.1.isSome)
  && decide (([e,f]:Ym).length+([]:List Keyword).length+(if([]:List Keyword).isEmpty then 0 else 1)<30))=true
 line:(apos.endLine == cpos.line)=true
 trees:backTo cpos (starEach [e,f] X.env)=[(false,eval e X.env),(false,eval f X.env)]
def jf (H:Hp)(a:Addr):Prop:=(∃b,Rd H a (.dK b))\/∃b,Rd H a (.dT b)
def Oe {X:Cx}{Y:Yb}{Z: St}{H:Hp}{s:Shared}{a:Addr}(I:Inv X Y Z H s)(d:jf H a):
 s.TypeIs (.ref a) "dict" /\ (∀b,Value.ref a=.ref b->∃c,s.heap.get? b=some c/\c.dict=none)/\(a == sysModules)=false:=by
 rcases d with ⟨f,e⟩|⟨f,e⟩
 .obtain⟨_,g,j,_,dd⟩:=WC I.hok e;refine⟨dd.typeIs,λb q=>?_,g⟩;cases q;obtain⟨c,_,_,h,i,_⟩:=dd;exact⟨c,h,i.2.1⟩
 .obtain⟨_,g,l,_,dd⟩:=Xg I.hok e;refine⟨dd.typeIs,λb q=>?_,g⟩;cases q;obtain⟨c,_,_,h,i,_⟩:=dd;exact⟨c,h,i.2.1⟩
section
variable {X:Cx}{Y:Yb}{Z: St}{H:Hp}{s:Shared}{a:Addr}{y d:V}{u r:Value}{o:YF}{A:Around}{E:Ya}
def Og {Q:Ya}(q:A.units+1<cLine)(I:Inv X Y Z H s)(g:xF H a y o)(m:jq y u)(n:jq d r)(h:∀p s',Inv X Y Z H s'->jq (o.getD d) p->Q p s'):
 wpAny (model X.prog X.w) A (call (.builtin "dict.get") [.ref a,u,r]) Q E s:=by
 rcases g with ⟨f,k,e,i,l⟩|⟨f,k,b,e,i,t,l⟩
 .subst i;obtain⟨z,j,w,c,dd⟩:=WC I.hok e;refine call_meetsIn PySem.F.slot_dict_get dd.typeIs PySem.F.entry_dict_get (PySem.F.args_dict_get_3 _ _ _) (meets_dict_get_default (Qt X.prog X.w) a (XQ m) j r) ⟨_,dd.mapOf,h _ _ (I.tok _) ?_⟩;rw[l];exact(c.val k).getD n
 .subst i;cases (m);obtain⟨z,j,v,c,dd⟩:=Xg I.hok e;refine call_meetsIn PySem.F.slot_dict_get dd.typeIs PySem.F.entry_dict_get (PySem.F.args_dict_get_3 _ _ _) (meetsH_dict_get_default (tupleKind (Qt X.prog X.w)) a b j r) ⟨tupleKind_room_in1 q,k,v,XR I.hok t,dd,h _ _ (I.tok _) ?_⟩;rw[l];exact(c.val k).getD n
end
def Oh (e f g:TE):TE:=λZ H Q=>e Z H λx b=>∃a,x=.ref a/\jf b a/\f Z b λy h=>g Z h λz c=>∃o,xF c a y o/\Q (o.getD z) c
section
variable {X:Cx}{o e f:Expr}{apos cpos:Pos}{td ty tx:TE}
def Oi (i:X.A.units+1<cLine)(j:PE X o td)(l:PE X e ty)(n:PE X f tx)(m:M2 X o "get" apos e f cpos):PE X (.Call (.Attribute o "get" apos) [e,f] [] cpos) (Oh td ty tx):=by
 intro Y s Z H Q I h;refine wpAny_Call_method m.base m.few m.line PySem.F.plainAttrs_dict PySem.F.slot_dict_get PySem.F.type_dict_get (jK (j Y s Z H _ I h) λu p ⟨x,q,c,r,a,t,d,v⟩=>?_);subst t;obtain rfl:=r;obtain⟨w,A,_⟩:=Oe c d;refine⟨w,A,?_⟩;rw[m.trees];exact Calls.callWith_builtin rfl (Calls.evalArgs_plain (Calls.spliced_cons (jK (l Y p Z q _ c v) λO B ⟨y,C,E,F,G⟩ =>
  Calls.spliced_cons (jK (n Y B Z C _ E G) λP R ⟨z,J,K,L,S,g,M⟩=>Calls.spliced_nil (Og i K g F L λT U N b=>⟨_,J,N,b,M⟩)))))
end
end L2
namespace Att
open PySem PySem.W PySem.Calls PyProof.Rows
theorem Oj {P:Params}{h:Heap}:∀(ns:Yh) (c:Yf),WellAll P h c (ns.map WData.int)->IntsAre c ns:=by
 intro ns
 induction ns with
 |nil =>
  intro c w;cases w;exact .nil
 |cons n ns e =>
  intro c w;cases w with
  |cons a b =>
   cases a;exact .cons _ _ (e _ b)
def Ol {l:OpenLaw}{n:Nat}(m:l.most=some n){P:Params}{h:Heap}{args:List WData}{b:Yf}
 (c:l.row.toRowW.claim.pre args=true) (e:WellAll P h b args):
 ∃a g ns,b=[Value.ref a]/\args=[WData.list (ns.map WData.int)]/\h.get? a=some { cls:=.type "list",data:=.seq g.toArray }/\IntsAre g ns/\ns.length<=n:=by
 obtain⟨d,r,rfl,o,p⟩:=hasAllW_cons ((pre_splitW c).1);obtain rfl:=hasAllW_nil p;obtain⟨u,rfl,q⟩:=hasW_list o;obtain⟨ns,rfl⟩:=items_int q;have i:ns.length<=n:=by
  have f:(WTm.not (.lt (.lit (.int (n:Int))) (.len (.arg 0)))).holds [] { args:=[.list (ns.map .int)] }=true:=by
   have f:=(holds_andW ((pre_splitW c).2)).1
   rwa [m] at f
  have v:=condW_of f rfl
  simp_all
 cases e with
 |cons s t =>
  cases t;cases s with
  |list w j=>grind[Oj]
def Om (l:OpenLaw)(args:List WData):l.row.toRowW.claim.post args (.bool true) args=true:=
 postW_of
  rfl
  (w_eq_bool (w_res rfl) w_lit) rfl
def attach_call {l:OpenLaw}{n:Nat}{q:Program}{b:Yk}{A:(Ye)->Heap->Prop}{B:World->Heap->Prop}{d:DefRec}
 (H:l.most=some n) (t:d.params.defaults=[])
 (call:∀(w:World) (s₀ s₁:Shared) (mg u:Ye) (h:Addr) (o:Obj) (v p c:Value) (a:Addr) (g:Yf) (ns:Yh),
  Ground q b [] A w s₀ mg u s₁.heap->B w s₁.heap ->
  s₁.heap.get? h=some o->o.data=.func (docDef d.name d.params d.body d.scope v p c)->s₁.heap.CodeRec p d.name->mg d.name=some (.ref h) ->
  s₁.heap.get? a=some { cls:=.type "list",data:=.seq g.toArray }->IntsAre g ns->ns.length<=n->s₁.gens = #[] ->
  codeAny (model l.prog w) callerA (.call (.ref h) ⟨[.ref a],[]⟩) (λr s'=>r=.ok (.ret (.bool true))/\OldK s₁.heap s'.heap/\s'.os=s₁.os/\AllBare s'.gens) s₁):
 WalkO q b A B l.row.toRowW d [] (λf g=>PySem.call f g):=by
 intro w s₀ s₁ mg u G Yy h o v p c S kV I J x C y K args E T i F L z M;obtain rfl:=Dflts.none C t;obtain rfl:=Dflts.noKw C;obtain⟨a,g,ns,rfl,rfl,j,e,m⟩:=Ol H i z;refine enter_call (codeAny_mono (call w s₀ s₁ mg u h o v p c a g ns G Yy I (fd_plain J) x y j e m K) λr s' N=>?_);obtain⟨rfl,O,P,Q⟩:=N;exact⟨.inl ⟨.bool true,.bool true,[],rfl,λ_=>rfl,.bool true,Om l _,λ_=>⟨List.Pairwise.nil,λ_ R=>(nomatch R)⟩⟩,O,P,Q⟩
end Att
namespace L2
def Oo:∀{a:Yf} {ns:Yh},IntsAre a ns->jp (ns.map V.int) a:=λh=>by
 induction h with
 |nil=>exact .nil
 |cons n t _ b=>exact .cons ⟨t,rfl⟩ b
def vE (H:Hp):Prop:=∀b,H b=none\/∃o a,H b=some (.frz o (.lst a))
def Op {P:Program}{w:World}{K:W.Frag}{mg G:Ye}{CX:zF}{k:Nat}{I a:Addr}{S:FuncData}{x:Str}{sp:Sp}{s₁:Shared}{p:Yf}{ns:Yh}
 (T:K.In s₁.heap) (t:s₁.heap.Ns mainGlobals mg) (f:s₁.heap.Ns builtinsNs G) (J:∀x:Str,x ≠ "__name__" -> G x=bootBuiltins x) (y:s₁.heap.NoLimit) (hg:s₁.gens = #[])
 (L:s₁.heap.get? a=some { cls:=.type "list",data:=.seq p.toArray }) (U:IntsAre p ns) (hl:ns.length<=sizeLine) (hr:Room k callerA)
 (F:∀g:Heap,K.In g->g.Ns mainGlobals mg->FnOk P w K mg g CX k I S [x] sp) (l:∀(s:Shared) (u:Value),BindsTo s S ⟨[u],[]⟩ [(x,u)])
 (M:∀H:Hp,vE H->qZ K H a (ns.map V.int)->sp [.ref a] H (λv _=>v=.bl true) λ_ _ _=>False)
 (N:∀H e s',CX [] H s₁ (λ_ _ _=>False) e s'->False):
 codeAny (model P w) callerA (.call (.ref I) ⟨[.ref a],[]⟩) (λr s'=>r=.ok (.ret (.bool true))/\OldK s₁.heap s'.heap/\s'.os=s₁.os/\AllBare s'.gens) s₁:=by
 have X:=Oo U;have A:=U.length;have j:∀H:Hp,vE H->qZ K H a (ns.map V.int)->qR P w H s₁.heap->(∀b,H b≠none->b=a)->(H a≠none->K.lookup a=none) ->
  codeAny (model P w) callerA (.call (.ref I) ⟨[.ref a],[]⟩) (λr s'=>r=.ok (.ret (.bool true))/\OldK s₁.heap s'.heap/\s'.os=s₁.os/\AllBare s'.gens) s₁:=by
  intro H Y hS B hA hK;have c:∀{b:Addr} {o:Obj},s₁.heap.get? b=some o->H b=none->(y9 s₁.heap H).get? b=some o:=λe n=>MB e n;have O:∀{b:Addr} {o:Obj} {es:Array DictEntry} {ep:Nat},s₁.heap.get? b=some o->o.data=.dict es ep->H b=none:=by grind
  have i:∀{b:Addr} {m:Ye},s₁.heap.Ns b m->(y9 s₁.heap H).Ns b m:=λ{b m} ⟨o,es,ep,e,d,r⟩=>⟨o,es,ep,c e (O e d),d,r⟩;have C:K.In (y9 s₁.heap H):=λb o e=>c (T b o e) (by
   grind)
  have hM:Mod K mg (y9 s₁.heap H):=⟨C,i t,⟨G,i f,J⟩,let ⟨mc,h1,h2⟩:=y;⟨mc,i h1,h2⟩⟩;have e0:Env0 P w K mg (y9 s₁.heap H) callerA [] s₁ H:=⟨rfl,hM,λb o e=>MC e,Yx (MA _ _),trivial,λb f=>Zn (show b∈([]:Yl) from f) (),B,.of_eq hg⟩;refine codeAny_mono ((F _ C (i t)).run callerA [] s₁ H ⟨[.ref a],[]⟩ [.ref a] [.ref a] _ _ hr e0 (l s₁ (.ref a)) (.cons rfl .nil) (M H Y hS)) λr s' h=>?_;cases r with
  |error e=>exact(N H e s' h).elim
  |ok fl =>
   cases fl with
   |next=>exact False.elim h
   |brk=>exact False.elim h
   |cont=>exact False.elim h
   |ret u =>
    obtain⟨v,H',os,bare,un,E,r',q⟩:=h;have q':v=.bl true:=q;subst q';obtain rfl:u=Value.bool true:=r';refine⟨rfl,OldK.of_keep λb o e=>?_,os,bare⟩;cases q:H b with
    |none=>exact un.keep b o e q (by intro z;exact Zn (show b∈([]:Yl) from z) ()) ()
    |some u =>
     rcases Y b with z|⟨ob,xs,z⟩
     .rw[q] at z;cases z
     .have z2:=un.frzs b ob _ z;obtain⟨Z,_⟩:=B b _ z;obtain⟨e2,_⟩:=E b _ z2;rw[e] at Z;cases Z;exact e2
 cases Q:K.lookup a with
 |some o =>
  have e:=T a o Q;rw[L] at e;cases e;refine j (λ_=>none) (λ_=>.inl rfl) (.inr ⟨_,p.toArray,_,Q,rfl,rfl,rfl,by rw[Zm,A];exact hl,by simpa using X⟩) (λb u z=>by have R:(none:Option HO)=some u:=z;cases R) () λz=>Zn rfl z
 |none =>
  refine j (λb=>if b=a then some (.frz { cls:=.type "list",data:=.seq p.toArray } (.lst (ns.map V.int))) else none) (λb=>?_) (.inl (.inr ⟨{ cls:=.type "list",data:=.seq p.toArray },Zd rfl⟩)) (λb u z=>?_) (λb z=>?_) λ_=>Q
  .by_cases f:b=a
   .exact by grind
   .exact .inl (Ze f)
  .by_cases f:b=a
   .have R:=(Zd f).symm.trans z;cases R;subst f;exact⟨L,by rwa [Zql],p,_,X,L⟩
   .cases ((Ze f).symm.trans z)
  .by_cases f:b=a
   .exact f
   .exact Zn (Ze f) z
def walk_of {l:W.OpenLaw}{n k:Nat}{q:Program}{g:Yk}{I:(Ye)->Heap->Prop}{B:World->Heap->Prop}{d:DefRec}{K:Params->W.Frag}{CX:World->zF}{sp:World->Sp}{x:Str}
 (J:l.most=some n) (p:n<=sizeLine) (r:d.params.defaults=[]) (L:Room k callerA)
 (M:∀(w:World) (h:Heap),B w h->(K w.params).In h)
 (F:∀(w:World) (mg:Ye) (m:Addr) (h:Heap),(K w.params).In h->h.Ns mainGlobals mg->mg d.name=some (.ref m) ->
  ∃t:FuncData,(∀(s:Shared) (u:Value),BindsTo s t ⟨[u],[]⟩ [(x,u)]) /\
   ∀b:Heap,(K w.params).In b->b.Ns mainGlobals mg->FnOk l.prog w (K w.params) mg b (CX w) k m t [x] (sp w))
 (y:∀(w:World) (H:Hp) (a:Addr) (ns:Yh),ns.length<=n->vE H->qZ (K w.params) H a (ns.map V.int)->sp w [.ref a] H (λv _=>v=.bl true) λ_ _ _=>False)
 (z:∀(w:World) (H:Hp) (s:Shared) (e:Value) (s':Shared),CX w [] H s (λ_ _ _=>False) e s'->False):
 W.WalkO q g I B l.row.toRowW d [] (λf C=>PySem.call f C):=by
 refine Att.attach_call J r λw s₀ s₁ mg U m o X Y N a C ns G Yy Z hd O A j i c P=>?_;have E:=M w _ Yy;obtain⟨t,Q,R⟩:=F w mg m _ E G.T.g A;exact Op E G.T.g G.T.b G.T.builtins G.T.nolimit P j i (Zh c p) L R Q (λH S T=>y w H a ns c S T) λH e s'=>z w H s₁ e s'
def An (s:Stmt)(j:Nat):Stmt:=match s with
 | .ClassDef _ _ _ body _ _ _ _ _ _ _=>body.getD j (.Pass ⟨0,0,0,0⟩)
 |_=>.Pass ⟨0,0,0,0⟩
def WE (s:Stmt):Arguments:=match s with
 | .FunctionDef _ a _ _ _ _ _ _ _ _=>a
 |_=>{ posonlyargs:=[],args:=[],vararg:=none,kwonlyargs:=[],kw_defaults:=[],kwarg:=none,defaults:=[] }
def QD (s:Stmt):List Stmt:=match s with
 | .FunctionDef _ _ b _ _ _ _ _ _ _=>b
 |_=>[]
def JR (s:Stmt):Scope:=match s with
 | .FunctionDef _ _ _ _ _ _ sc _ _ _=>sc
 |_=>{ kind:=.function,names:=[],isGenerator:=false,isCoroutine:=false }
abbrev yw:zF:=λ_ _ _ _ _ _=>False
abbrev E0:XK:=λ_ _ _=>False
def Ff {X:Cx}:Xe yw X E0:=λ_ _ _ _ _ _ _ h=>h.elim
structure Fun (K:W.Frag)(x qual:Str)(st:Stmt)(f:Addr)(fd:FuncData):Prop where
 ex:∃(oc:Value) (od:Option Addr) (kV doc pm:Value) (an:Option Addr) (cdv ct:Value) (osl:Array Yg),
  fd=W.fnOf x qual (WE st) (QD st) (JR st) .none kV doc pm an cdv ct/\K.lookup f=some ⟨oc,od,.func fd,osl⟩/\W.codeIn K cdv qual=true
 kp:W.keepIn K (.ref f)=true
section
variable {P:Program}{w:World}{K:W.Frag}{mg:Ye}{base:Heap}
def Fun.ok {x b:Str}{st:Stmt}{f:Addr}{l:FuncData}{N ps:Yk}{k:Nat}{sp:Sp}(F:Fun K x b st f l)(S:FnScope N ps (JR st))(len:∀e H Q E,sp e H Q E->e.length=ps.length)
 (g:∀(c:Value) (A:Around) (a:List Env) (s:Shared) (H:Hp) (e:YE) (Q:VK) (E:XK),Room k (A.deeper (envOfC b (JR st) s.heap.objs.size f c))->sp e H Q E ->
  ∃t,qP (jX yw P w K mg base N b (JR st) f c A a s H E).nox (QD st) t/\t { nx:=λ_ m=>Q .non m,rt:=Q } (start N e) H):FnOk P w K mg base yw (k+1) f l ps sp:=by
 obtain⟨u,v,kV,n,y,z,c,ct,o,rfl,p,i⟩:=F.ex;refine ET p i S len λA a s H e Q E r j=>?_;obtain⟨t,h,q⟩:=g c A a s H e Q E r j;exact⟨t,h.nox,q⟩
def Fun.binds {x a:Str}{st:Stmt}{f:Addr}{j:FuncData}{ps:Yk}(F:Fun K x a st f j)
 (h:∀(kV b e:Value) (g:Option Addr) (c ct:Value) (i:Yf),i.length=ps.length->bindArgs (W.fnOf x a (WE st) (QD st) (JR st) .none kV b e g c ct) ⟨i,[]⟩=pure (ps.zip i)):zL K j ps []:=by
 obtain⟨n,o,kV,b,e,g,c,ct,l,rfl,p,m⟩:=F.ex;exact .all (h kV b e g c ct)
def fun_mk {x a:Str}{st:Stmt}{f:Addr}{j:Value}{m h:Option Addr}{g:Array Yg}{kV e i b ct:Value}(l:K.lookup f=some ⟨j,m,.func (W.fnOf x a (WE st) (QD st) (JR st) .none kV e i h b ct),g⟩)
 (c:W.codeIn K b a=true) (k:W.keepIn K (.ref f)=true):Fun K x a st f (W.fnOf x a (WE st) (QD st) (JR st) .none kV e i h b ct):=⟨⟨j,m,kV,e,i,h,b,ct,g,rfl,l,c⟩,k⟩
end
def Qn {A:Around}{k:Nat}(a:Room k A):A.units+1<cLine:=UH () a.units
def Fg {n:Nat}(h:n<=1000):n<sizeLine:=UH h (by decide)
section
variable {X:Cx}
def pv (i:Nat){x:Str}{a:Pos}(c:X.N[i]? = some x:=by rfl)(e:bH X.env.scope x:=by first|exact Or.inl rfl|exact Or.inr (Or.inl rfl)|exact Or.inr (Or.inr rfl))(f:(x == ("__debug__" : Str))=false:=by decide)
 (b:(x == ("__classdict__" : Str))=false:=by decide):PE X (.Name x a) (xM i):=MF c e f b
end
def jk (H a:Hp):Prop:=∀b o,H b=some o->a b=some o
def jk.refl (H:Hp):jk H H:=λ_ _ h=>h
theorem jk.trans {H e f:Hp}(a:jk H e)(b:jk e f):jk H f:=λc o h=>b c o (a c o h)
def jk.free {H a:Hp}(e:jk H a){l:Addr}(h:a l=Option.none):H l=Option.none:=by
 cases q:H l with
 |none=>rfl
 |some o =>
  rw[e l o q] at h;cases h
def jk.seq {K:W.Frag}{H b:Hp}{a:Addr}{c:YE}(e:jk H b)(h:qZ K H a c):qZ K b a c:=by
 rcases h with (h|⟨o,h⟩)|h
 .exact .inl (.inl (e _ _ h))
 .exact .inl (.inr ⟨o,e _ _ h⟩)
 .exact .inr h
section
variable {X:Cx}
def Oq:jS X (.builtin "len") (λc H Q=>∃a b,c=[V.ref a]/\H a=some (.dK b)/\Q (.int b.length) H):=by
 intro Y s Z H c i Q I r h;obtain⟨a,b,rfl,e,q⟩:=h;obtain⟨u,rfl,f⟩:=QM r;cases f;exact fw I (.inl e) λt s' g=>⟨.int b.length,H,g,⟨t,rfl⟩,q⟩
end
end L2
def J2 {P:Prop}{α: Type}{z:α}(h:none=some z):P:=by cases  h
def J9 {P:Prop}(h:false=true):P:=by cases  h
namespace L2
theorem Ck (env:Env):∀(names:List (Str×NameKind)) (b:List (Str×Addr)),(∀y∈names,y.2=.free->∃c,env.cells.lookup y.1=some c) ->
 ∃f,(forIn names b λ(x:Str×NameKind) (r:List (Str×Addr))=>(match x with
  | (name,kind)=>if(kind == NameKind.free)=true then do let a <- cellOf env name;pure (ForInStep.yield ((name,a)::r)) else pure (ForInStep.yield r):Sem (ForInStep (List (Str×Addr)))))=(pure f:Sem (List (Str×Addr))) /\
  (∀x c,f.lookup x=some c->env.cells.lookup x=some c\/b.lookup x=some c)/\(∀x c,b.lookup x=some c->∃g,f.lookup x=some g)/\∀y∈names,y.2=.free->∃c,f.lookup y.1=some c
 | [],b,_=>⟨b,rfl,λ_ _ h=>.inr h,λx c h=>⟨c,h⟩,λ_ h=>nomatch h⟩
 | (n,k)::r,b,h=>by
  rw[List.forIn_cons];cases j:(k == NameKind.free) with
  |true =>
   have i:k=.free:=by cases k<;>first|rfl|(exact Zn j (by decide))
   obtain⟨c,l⟩:=h (n,k) Zqs i;obtain⟨f,e,m,o,p⟩:=Ck env r ((n,c)::b) ();refine⟨f,?_,λx g q=>?_,λx g q=>?_,λy s t=>?_⟩
   .simp only[j,if_true,cellOf,l];exact e
   .grind[List.lookup_cons]
   .grind[List.lookup_cons]
   grind
  |false =>
   obtain⟨f,e,m,o,p⟩:=Ck env r b ()
   grind
def Os (env:Env)(a:Scope)(h:∀y∈a.names,y.2=.free->∃c,env.cells.lookup y.1=some c):
 ∃b,closureFor a env=pure b/\(∀x c,b.lookup x=some c->env.cells.lookup x=some c)/\∀y∈a.names,y.2=.free->∃c,b.lookup y.1=some c:=by
 obtain⟨b,e,f,_,g⟩:=Ck env a.names [] h;refine⟨b,?_,λx c i=>(f x c i).elim id (λq=>by simp at q),g⟩;simp only[closureFor]
 first
 | (rw[e];rfl)
 |exact(Zt (· >>= λj=>pure j) e)
theorem Ao {env:Env}{x:Str}:∀{names:List (Str×NameKind)},
 (names.lookup x=some .free->(names.map λ(n,k)=>if(k == NameKind.free&&env.scope.kind == .function&&env.kindOf n == some .cell) then(n,NameKind.cell) else(n,k)).lookup x=some .cell\/(names.map λ(n,k)=>if(k == NameKind.free&&env.scope.kind == .function&&env.kindOf n == some .cell) then(n,NameKind.cell) else(n,k)).lookup x=some .free) /\
 (∀a,(names.map λ(n,k)=>if(k == NameKind.free&&env.scope.kind == .function&&env.kindOf n == some .cell) then(n,NameKind.cell) else(n,k)).lookup x=some a->(a=.cell\/a=.free)->names.lookup x=some .free\/names.lookup x=some .cell)
 | []=>by simp
 | (n,k)::r=>by
  obtain⟨b,c⟩:=@Ao env x r
  grind
theorem XS:∀(names:List (Str×NameKind)) (n:Nat) (a:List (Str×Addr)),cellsFrom n names a=cellsFrom n names []++a
 | [],_,_=>rfl
 | (name,kind)::r,n,a=>by
  unfold cellsFrom
  split
  .rw[XS r (n+1) ((name,n)::a),XS r (n+1) [(name,n)],Ud];rfl
  .exact XS r n a
theorem Cm:∀(names:List (Str×NameKind)) (n:Nat) (a:List (Str×Addr)),(x,c)∈cellsFrom n names a->(x,c)∈a\/(x,NameKind.cell)∈names
 | [],_,_,h=>.inl h
 | (name,kind)::r,n,a,h=>by
  unfold cellsFrom at h
  split at h
  .rename_i b;rcases Cm r (n+1) ((name,n)::a) h with z|z
   .rcases UV.mp z with z|z
    .cases z;have:kind=.cell:=by cases kind<;>first|rfl|(exact Zn b (by decide))
     subst this;exact by simp
    .exact .inl z
   simp_all
  .rcases Cm r n a h with z|z
   .exact .inl z
   simp_all
def Fh:Option NameKind->Bool
 |some .cell=>true
 |_=>false
def Ot (h:Fh o=true):o=some .cell:=by
 cases o with
 |none=>exact J9 h
 |some k=>cases k<;>first|rfl|exact J9 h
structure CellsAt (scope:Scope)(env:Env)(cl:List (Str×Addr))(C:Addr)(h1:Heap):Prop where
 from_:∀x c,cl.lookup x=some c->(env.cells.lookup x=some c/\scope.names.lookup x≠some .cell)\/(C<c/\h1.IsCell c none)
 free:∀x,scope.names.lookup x=some .free->∃c,cl.lookup x=some c/\env.cells.lookup x=some c
 own:∀x,scope.names.lookup x=some .cell->∃c,cl.lookup x=some c
 inj:∀x y c,cl.lookup x=some c->cl.lookup y=some c->x=y
def Ou (f:∀x c,cl.lookup x=some c->env.cells.lookup x=some c)(g:∀y∈a.names,y.2=.free->∃c,cl.lookup y.1=some c)
 (inj:∀x y c,env.cells.lookup x=some c->env.cells.lookup y=some c->x=y) (low:∀x c,env.cells.lookup x=some c->c<=C) (h:h0.objs.size=C+1) (i:∀y∈a.names,y.2=.cell->a.names.lookup y.1=some .cell):
 CellsAt a env (cellsFrom (C+1) a.names cl) C (pushCells h0 a.names):=by
 have ok:=cellsFrom_ok a.names h0 (C+1) [] ⟨(),List.Pairwise.nil⟩ ();rw[h] at ok;have look:∀x c,(cellsFrom (C+1) a.names cl).lookup x=some c->((x,c)∈cellsFrom (C+1) a.names [])\/(cl.lookup x=some c/\a.names.lookup x≠some .cell):=λx c e=>by
  rw[XS,List.lookup_append] at e;cases q:(cellsFrom (C+1) a.names []).lookup x with
  |some d =>
   grind[Zqi,PySem.mem_of_lookup]
  |none =>
   rw[q] at e;refine .inr ⟨e,λz=>?_⟩;have:=W.cellsFrom_some a.names (C+1) [] (.inl z);rw[q] at this;exact J9 this
 refine⟨λx c e=>?_,λx e=>?_,λx e=>?_,λx y c j l=>?_⟩
 .rcases look x c e with z|⟨z1,z2⟩
  .exact .inr ⟨(ok.empty x c z).2,(ok.empty x c z).1⟩
  .exact by grind
 .obtain⟨c,b⟩:=g (x,.free) (PySem.mem_of_lookup e) rfl;refine⟨c,?_,f x c b⟩;rw[XS,List.lookup_append];cases q:(cellsFrom (C+1) a.names []).lookup x with
  |some d =>
   rcases Cm _ _ _ (PySem.mem_of_lookup q) with z|z
   .cases z
   .have:=i (x,.cell) z rfl;rw[e] at this;cases this
  |none=>exact b
 .exact Js.mp (W.cellsFrom_some a.names (C+1) cl (.inl e))
 .rcases look x c j with z|⟨z1,_⟩<;>rcases look y c l with w|⟨w1,_⟩
  .exact PySem.name_of_addr ok.apart z w
  .exact Zn (low y c (f y c w1)) (Nat.not_le_of_lt (ok.empty x c z).2)
  .exact Zn (low x c (f x c z1)) (Nat.not_le_of_lt (ok.empty y c w).2)
  .exact by grind
def Ov
 (a:Q (newEnv scope s.heap.objs.size globals (cellsFrom (s.heap.objs.size+1) scope.names cl) qual none .none (some env) builtinsNs) { s with heap:=pushCells (s.heap.push { cls:=.type "dict",data:=.dict #[] }) scope.names }):
 wpAny M A (newFunctionEnv scope globals cl [] qual none .none (some env)) Q E s:=by
 refine Za (wpAny_alloc (Za (wpAny_layCells _ () _ _ _ _ ?_)));rw[Heap.size_push ..];exact Za (Zb (Zb a))
def XT (X:Cx)(C:Addr):Ya:=λx s'=>∃m,s'.heap.Ns C m/\∀h',Heap.SameBut C s'.heap h'->∀a:Env,a.locals=C->YI X (passOn "comprehension.variables-let-go" x a:Sem Value) (λ_ _=>False) X.xe { s' with heap:=h' }
def JK (X:Cx)(a:Scope)(N:Yk)(b:List (Str×Addr))(C:Addr)(s:Shared)(H:Hp)(ex:Yl):Cx where
 prog:=X.prog
 w:=X.w
 K:=X.K
 mg:=X.mg
 base:=X.base
 A:=X.A
 N:=N
 s₀:=s
 H₀:=H
 env:=compEnvC a b C X.env
 outer:=X.stack
 stack:=X.stack
 ex:=ex
 fn:=λx=>Fh (a.names.lookup x)
 calm:=X.calm
 pn:=[]
 xe:=notedBy (model X.prog X.w) X.A (compEnvC a b C X.env) (XT X C)
def WF (X:Cx)(C:Addr)(s:Shared)(H:Hp)(a:Yl):Prop:=∃Y Z,Inv X Y Z H s/\(∀b∈a,yq X Y H b)/\s.heap.objs.size<=C
def KJ (cap:List (Option Nat))(Z: St):St:=cap.map λo=>o.bind λj=>(Z[j]?).join
structure CompOk (X:Cx)(scope:Scope)(N:Yk)(cap:List (Option Nat)):Prop where
 kind:scope.kind=.function
 loc:∀y∈scope.names,y.2=.local->scope.names.lookup y.1=some .local
 cell:∀y∈scope.names,y.2=.cell->scope.names.lookup y.1=some .cell
 free:∀y∈scope.names,y.2=.free->X.env.kindOf y.1=some .cell\/X.env.kindOf y.1=some .free
 len:cap.length=N.length
 cap:∀(i j:Nat) (x:Str),cap[i]? = some (some j)->N[i]? = some x->X.N[j]? = some x/\scope.names.lookup x=some .free
def QF (a:Scope)(env:Env)(b N:Yk)(cap:List (Option Nat)):Bool:=
 decide (a.kind=.function)&&a.names.all (λy => !decide (y.2=.local)||decide (a.names.lookup y.1=some .local))&&a.names.all (λy => !decide (y.2=.cell)||decide (a.names.lookup y.1=some .cell)) &&
 a.names.all (λy => !decide (y.2=.free)||(decide (env.kindOf y.1=some .cell)||decide (env.kindOf y.1=some .free)))&&decide (cap.length=b.length) &&
 (b.zip cap).all (λp=>match p.2 with|none=>true|some j=>decide (N[j]? = some p.1)&&decide (a.names.lookup p.1=some .free))
def CompOk.of {X:Cx}{a:Scope}{N:Yk}{cap:List (Option Nat)}(h:QF a X.env N X.N cap=true):CompOk X a N cap:=by
 unfold QF at h;simp only[Uh,decide_eq_true_eq,U0] at h;obtain⟨⟨⟨⟨⟨c,m⟩,n⟩,o⟩,e⟩,p⟩:=h;refine⟨c,λy b f=>?_,λy b f=>?_,λy b q=>?_,e,λi j x g l=>?_⟩
 .grind
 .grind
 .grind
 .have r:(x,some j)∈N.zip cap:=by
   refine Ur (i:=i) ?_;rw[VQ];exact⟨l,g⟩
  grind
section
variable {X:Cx}{scope:Scope}{N:Yk}{cap:List (Option Nat)}{Y:Yb}{Z: St}{H:Hp}{s:Shared}{cl:List (Str×Addr)}{C D:Addr}{fp:Yl}
def Ow (ok:CompOk X scope N cap)(I:Inv X Y Z H s)(E:∀b∈fp,yq X Y H b)(A:∀b∈fp,b<s.heap.objs.size)
 (a:CellsAt scope X.env cl C h1)
 (y:s.heap.objs.size<=C) (n:∀b o,s.heap.get? b=some o->h1.get? b=some o) (F:h1.Ns C m):
 Inv (JK X scope N cl C s H fp) [] (KJ cap Z) H { s with heap:=h1,toks:=tk }:=by
 have M:∀x,(JK X scope N cl C s H fp).env.kindOf x=some .cell\/(JK X scope N cl C s H fp).env.kindOf x=some .free->scope.names.lookup x=some .free\/scope.names.lookup x=some .cell:=λx h=>by
  rcases h with h|h
  .exact(Ao (env:=X.env) (x:=x) (names:=scope.names)).2 _ h (.inl rfl)
  .exact(Ao (env:=X.env) (x:=x) (names:=scope.names)).2 _ h (.inr rfl)
 refine⟨⟨I.ok.mod,ok.kind,I.ok.glob,I.ok.blt,y,a.inj,λx h=>?_,λx c z e=>?_,I.ok.hd,I.ok.frames,.inl rfl,λb t=>⟨?_,λx c e=>?_⟩,I.bs,Zh I.ok.bsz I.sz,
  λb o e t=>?_,λb t z=>?_,I.stack,I.stkFree⟩,rfl,I.bare,Un.kept n,⟨m,F,λi x v G g e3=>?_⟩,λx c e=>?_,I.hok.fresh y,λx c e=>?_,λp hp=>Zn hp (by show ¬p∈([]:Yb)++[];simp),I.hok.kept n,?_⟩
 .rcases M x h with q|q
  .obtain⟨c,e,_⟩:=a.free x q;exact⟨c,e⟩
  .exact a.own x q
 .rcases a.from_ x c e with ⟨_,q⟩|⟨q,_⟩
  .exact Zn (Ot z) q
  .exact Zh y (Zz q)
 .exact Zi (Zg (A b t) y)
 .rcases a.from_ x c e with ⟨q,_⟩|⟨q,_⟩
  .exact(E b t).2.2.2.2.1 x c q
  .exact UZ (Ug (Zg (A b t) y) q)
 .rcases(E b t).2.2.2.1 with z|z
  .exact I.ok.noex b o e z
  .exact Zn (Zg (Zk e) (Zh I.ok.bsz z)) (Zy _)
 .rcases UV.mp (I.stkSub b z) with q|q
  .exact(E b t).2.1 q
  .exact(E b t).2.2.1 q
 .have G:N[i]? = some x:=G;have O:∃j,cap[i]? = some (some j) /\ Z[j]? = some (some v):=by
   have g:(cap.map λo=>o.bind λj=>(Z[j]?).join)[i]? = some (some v):=g;rw[Zv] at g;cases q:cap[i]? with
   |none=>rw[q] at g;exact J2 g
   |some o =>
    rw[q] at g;cases o with
    |none=>cases g
    |some j =>
     have g:some ((Z[j]?).join)=some (some v):=g;cases J:Z[j]? with
     |none=>rw[J] at g;cases g
     |some w=>rw[J] at g;exact⟨j,rfl,by cases g;exact J⟩
  obtain⟨j,P,Q⟩:=O;obtain⟨R,K⟩:=ok.cap i j x P G;obtain⟨m0,_,S⟩:=I.loc;have L:=ok.free (x,.free) (PySem.mem_of_lookup K) rfl;obtain⟨u,r,l⟩:=S j x v R Q (L.elim (λz=>.inr (.inl z)) λz=>.inr (.inr z));refine⟨u,r,.inr ⟨(Ao (env:=X.env) (x:=x) (names:=scope.names)).1 K,?_⟩⟩;rcases l with ⟨k,_⟩|⟨_,c,T,z⟩
  .have k:X.env.kindOf x=some .local:=k;rcases L with f|f<;>· rw[k] at f;cases f
  .obtain⟨c',U,B⟩:=a.free x K;rw[T] at B;obtain rfl:=Zqi B;exact⟨c,U,z.keeps n⟩
 .rcases a.from_ x c e with ⟨q,_⟩|⟨_,q⟩
  .obtain⟨v,z⟩:=I.cell x c q;exact⟨v,z.keeps n⟩
  .exact⟨none,q⟩
 .rcases a.from_ x c e with ⟨q,_⟩|⟨q,_⟩
  .exact I.freeC x c q
  .exact I.hok.fresh (Zh y (Zz q))
 .show(cap.map _).length=N.length;rw[Zql];exact ok.len
def Ox (I:Inv X Y Z H s)(g:∀b∈fp,yq X Y H b)(l:s.heap.objs.size<=C)(m:s.heap.objs.size<=D)(h:D≠C)
 (J:Inv (JK X scope N cl C s H fp) [] Z' H' s') (p:s'.heap.get? D=some { cls:=.type "list",data:=.seq its.toArray k }) (y:H' D=none) (r:jp ys its) (hz:ys.length<=sizeLine) (hs:Heap.SameBut C s'.heap h')
 (q:Q (.ref D) (j9 H' D (.lst ys))):EP X Y Z Q (.ref D) { s' with heap:=h' }:=by
 have i:∀b o,s.heap.get? b=some o->b≠C:=λb o e=>Zi (Zg (Zk e) l);have t:∀b o,s.heap.get? b=some o->b≠D:=λb o e=>Zi (Zg (Zk e) m);have tD:∀b u,H' b=some u->b≠D:=by grind
 have tC:∀b u,H' b=some u->b≠C:=λb u e z=>by
  have:=J.free;rw[z,show H' C=none from this] at e;exact J2 e
 have B:=J.base;refine⟨.ref D,j9 H' D (.lst ys),I.call' J.os ?_ ?_ J.bare (λb a=>⟨(g b a).2.2.2.1,(g b a).2.1,(g b a).2.2.2.2.1,(g b a).2.2.2.2.2⟩),rfl,q⟩
 .refine⟨λb o e n a f=>(hs.2 b (i b o e)).trans (B.keep b o e n a f),λb o e n a f=>?_,λb o e n f=>?_,λb o e f=>?_,λb j e=>?_,λb o u e=>?_,λb ps e=>?_⟩
  .obtain⟨w,z⟩:=B.slot b o e n a f;exact⟨w,(hs.2 b (i b o e)).trans z⟩
  .rw[JJ (t b o e)];exact B.free b o e n f
  .obtain⟨x,z⟩:=B.there b o e f;exact⟨x,(hs.2 b (i b o e)).trans z⟩
  .have z:=B.tups b j e
   rwa [JJ (tD b _ z)]
  .have z:=B.frzs b o u e
   rwa [JJ (tD b _ z)]
  .obtain⟨more,z⟩:=B.tbls b ps e;exact⟨more,by rwa [JJ (tD b _ z)]⟩
 .intro b u e;by_cases a:b=D
  .subst a;rw[JL] at e;obtain rfl:=Zqi e;exact⟨hz,its,k,r,(hs.2 b h).trans p⟩
  .rw[JJ a] at e;refine(J.hok b u e).stay (λc v hc z=>(hs.2 c ?_).trans z) (λc z=>by rwa [JJ (tD c _ z)]) (λc j z=>by rwa [JJ (tD c _ z)]);rcases hc with hc|hc
   .rw[hc];exact tC b u e
   .exact tC c _ hc
end
def f7 (cap:List (Option Nat))(g:TG)(h:TE)(Z: St)(Q:VK):It->Hp->Prop:=λJ j=>∃W:Nat->Nat->YE->St->Hp->Prop,(∃m,W 0 m [] (KJ cap Z) j)/\∀i m ys b a,W i m ys b a->ys.length<sizeLine /\
 (
  (J.stop i a/\∀D,a D=none->Q (.ref D) (j9 a D (.lst ys))) \/
  (J.go i a/\∀x c,J.yld i a x c->g x b c λe l=>h e l λy n=>∃f,f<m/\W (i+1) f (ys++[y]) e n))
def Xh (cap:List (Option Nat))(wi:TI)(g:TG)(a:TE):TE:=λZ H Q=>wi Z H (f7 cap g a Z Q)
def Oy (cap:List (Option Nat))(g:TG)(l:TT)(n:TE)(Z: St)(Q:VK):It->Hp->Prop:=λJ o=>∃W:Nat->Nat->YE->St->Hp->Prop,(∃m,W 0 m [] (KJ cap Z) o)/\∀i m ys f a,W i m ys f a->ys.length<sizeLine /\
 (
  (J.stop i a/\∀D,a D=none->Q (.ref D) (j9 a D (.lst ys))) \/
  (J.go i a/\∀x h,J.yld i a x h->g x f h λe p=>l e p λb j=>if b=true then n e j (λy q=>∃c,c<m/\W (i+1) c (ys++[y]) e q) else ∃c,c<m/\W (i+1) c ys e j))
def XU (cap:List (Option Nat))(wi:TI)(g:TG)(a:TT)(b:TE):TE:=λZ H Q=>wi Z H (Oy cap g a b Z Q)
section
variable {X:Cx}{tg iter elt c:Expr}{scope:Scope}{pos:Pos}{wi:TI}{g:TG}{te:TE}{tt:TT}
def XV (X:Cx)(Y:Yb)(Z: St)(Q:VK)(use:Option (Value->Sem Unit))(R:Ya):Prop:=
 ∀(C D:Addr) (m:Ye) (a:Shared) (r:Flow),a.heap.Ns C m->¬C=X.env.locals->C∉X.fs->X.s₀.heap.objs.size<=C->(∀x c,X.env.cells.lookup x=some c->c≠C)->(∀p∈X.pn++Y,p.1≠C) ->
  (∀h',Heap.SameBut C a.heap h'->EP X Y Z (λv b=>b C=none/\Q v b) (.ref D) { a with heap:=h' })->compPost (model X.prog X.w) X.A X.xe use R (.ref D) C (.ok r) a
def Fi:XV X Y Z Q none (EP X Y Z Q):=λC D m i r b _ _ _ _ _ k=>⟨m,b,λh' a=>by
 obtain⟨v,e,f,h,_,q⟩:=k h' a;exact⟨v,e,f,h,q⟩⟩
def fH (X:Cx)(tg elt:Expr)(it a:Value)(env:Env)(R:Result->YC)(I:Nat->YC)(test:(Bool->YC)->YC)(n:Nat)(s:Shared):Prop:=
 let E:Ya:=notedBy (model X.prog X.w) X.A env λe s'=>R (.error e) s'
 YI X (pyNext it) (λr b=>match r with
  |none=>R (.ok .next) b
  |some v=>YI X (letOwnedTupleGo tg it v) (λ_ h=>YI X (assign tg env v) (λ_ i=>test (λok f=>if ok=true then YI X (eval elt env) (λx j=>YI X (call (.builtin "list.append") [a,x]) (λ_ l=>∃m,m<n/\I m l) E j) E f else ∃m,m<n/\I m f) i) E h) E b) E s
def Fj {ifs:Ym}(N:Yk){test:Env->(Result->YC)->(Bool->YC)->YC}
 (lp:∀{it acc:Value} {env:Env} {R:Result->YC} {s:Shared} (I:Nat->YC),(∀n s,I n s->fH X tg elt it acc env R I (test env R) n s)->∀n,I n s->codeAny (model X.prog X.w) X.A (.compLoop (.ListComp elt [⟨tg,iter,ifs,0⟩] scope pos) 0 it acc env) R s)
 (ht:∀t C s H S {Y:Yb} {s7:Shared} {U:St} {H7:Hp} {R:Result->YC} {q:Bool->Hp->Prop} {Q:Bool->YC},WF X C s H S->(∀e s',XT X C e s'->R (.error e) s')->Inv (JK X scope N t C s H S) Y U H7 s7->tt U H7 q->(∀b s8 H8,Inv (JK X scope N t C s H S) Y U H8 s8->q b H8->Q b s8)->test (compEnvC scope t C X.env) R Q s7)
 (cap:List (Option Nat)) (hc:X.calm=true) (okB:QF scope X.env N X.N cap=true) (hi:PI X tg iter wi) (hg:∀t C s H S,PG (JK X scope N t C s H S) tg g) (he:∀t C s H S,WF X C s H S->PE (JK X scope N t C s H S) elt te)
 (hs:∀x,foldedSetIterable iter X.env x=pure x) {use:Option (Value->Sem Unit)} {R:Ya} {fpos:Pos} {Y:Yb} {s:Shared} {Z: St} {H:Hp} {Q:VK} (I:Inv X Y Z H s) (h:XU cap wi g tt te Z H Q) (fin:XV X Y Z Q use R):
 YI X (comprehension (.ListComp elt [⟨tg,iter,ifs,0⟩] scope pos) scope X.env fpos (newList []) false (eval iter X.env) use) R X.xe s:=by
 have ok:=CompOk.of okB;obtain⟨cl0,hcl,hcl1,hcl2⟩:=Os X.env scope λy hy hf=>I.ok.has y.1 (ok.free y hy hf);refine wpAny_comprehension_free (use:=use) rfl hs hcl ok.kind ok.loc (jK (hi Y s Z H _ I h) λxv s1 h1=>jK h1 λitv a h2=>?_);obtain⟨it,l,tn,J,B,e,A,T,st2,f2,W,⟨m0,w0⟩,turn⟩:=h2;subst e;have G:∀b∈l,b<a.heap.objs.size:=λb w=>let ⟨_,e,_⟩:=T.obj _ _ st2 b w;Zk e
 refine wpAny_newObj_type (Ov ?_);dsimp only;generalize hP:a.heap.push { cls:=.type "list",dict:=none,data:=.seq ([]:Yf).toArray }=P2;have hC:P2.objs.size=a.heap.objs.size+1:=by rw[<- hP,Heap.size_push]
 have K:a.heap.objs.size≠P2.objs.size:=by rw[hC];exact by lia
 have j:a.heap.objs.size<=P2.objs.size:=by rw[hC];exact Nat.le_succ _
 have below:∀b,b<a.heap.objs.size->b≠P2.objs.size/\b≠a.heap.objs.size:=()
 have L:CellsAt scope X.env (cellsFrom (P2.objs.size+1) scope.names cl0) P2.objs.size (pushCells (P2.push { cls:=.type "dict",data:=.dict #[] }) scope.names):=
  Ou hcl1 hcl2 A.ok.inj (λx c e=>Zh (Zz (let ⟨_,_,ho,_⟩:=A.cell x c e;Zk ho)) j) (Heap.size_push ..) ok.cell
 have hns1:(pushCells (P2.push { cls:=.type "dict",data:=.dict #[] }) scope.names).Ns P2.objs.size (λ_=>none):=(Heap.Ns.new P2 (.type "dict")).keeps (pushCells_keeps _ _);generalize cellsFrom (P2.objs.size+1) scope.names cl0=t at L ⊢;have M:∀b o,a.heap.get? b=some o->(pushCells (P2.push { cls:=.type "dict",data:=.dict #[] }) scope.names).get? b=some o:=λb o e=>pushCells_keeps _ _ b o (Zq _ (hP ▸ Zq _ e));have hacc:(pushCells (P2.push { cls:=.type "dict",data:=.dict #[] }) scope.names).get? a.heap.objs.size=some { cls:=.type "list",data:=.seq ([]:Yf).toArray 0 }:=pushCells_keeps _ _ _ _ (Zq _ (hP ▸ Zr _ rfl));generalize pushCells (P2.push { cls:=.type "dict",data:=.dict #[] }) scope.names=g1 at L hns1 M hacc ⊢;have E:∀{H':Hp} {pl:Yb},(∀b∈l,H' b=none)->(∀p∈pl,p.1∉l)->∀b∈l,yq (JK X scope N t P2.objs.size a B l) pl H' b:=λ{H' pl} hn hp b w=>by
  refine⟨hn b w,(below b (G b w)).1,λz=>?_,.inl w,λx c e=>?_,λp hq z=>?_⟩
  .rcases UV.mp (A.stkSub b z) with q|q
   .exact(f2 b w).2.1 q
   .exact(f2 b w).2.2.1 q
  .rcases L.from_ x c e with ⟨q,_⟩|⟨q,_⟩
   .exact(f2 b w).2.2.2.2.1 x c q
   .exact UZ (Ug (Zg (G b w) j) q)
  .have hq:p∈([]:Yb)++pl:=hq
   grind[List.nil_append]
 have nD:a.heap.objs.size∉l:=λz=>Zn (G _ z) (Zy _);have loop:∀s3:Shared,s3={ a with heap:=g1 } ->
  codeAny (model X.prog X.w) X.A (.compLoop (.ListComp elt [⟨tg,iter,ifs,0⟩] scope pos) 0 (.ref it) (.ref a.heap.objs.size) (compEnvC scope t P2.objs.size X.env))
   (compPost (model X.prog X.w) X.A X.xe use R (.ref a.heap.objs.size) P2.objs.size) s3:=by
  rintro s3 rfl;have I0:=Ow (tk:=a.toks) ok A f2 G L j M hns1;refine lp (λn s'=>∃i ys its k Z' H',Inv (JK X scope N t P2.objs.size a B l) [] Z' H' s'/\tn i s'.heap/\(∀b∈l,H' b=none)/\s'.heap.get? a.heap.objs.size=some { cls:=.type "list",data:=.seq (List.toArray its) k } /\
   H' a.heap.objs.size=none/\jp ys its/\W i n ys Z' H') ?_ m0
   ⟨0,[],[],0,KJ cap Z,B,I0,T.keep _ _ _ st2 (λb _ o e=>M b o e),λb w=>(f2 b w).1,hacc,A.hok.fresh (Zf _),.nil,w0⟩
  have cat:WF X P2.objs.size a B l:=⟨_,_,A,f2,j⟩;have ce:∀e s',XT X P2.objs.size e s'->compPost (model X.prog X.w) X.A X.xe use R (.ref a.heap.objs.size) P2.objs.size (.error e) s':=λe s' h=>by cases use<;>exact h
  have xe:∀e s',(JK X scope N t P2.objs.size a B l).xe e s'->notedBy (model X.prog X.w) X.A (compEnvC scope t P2.objs.size X.env) (λe s'=>compPost (model X.prog X.w) X.A X.xe use R (.ref a.heap.objs.size) P2.objs.size (.error e) s') e s':=λe s' h=>Zc h (λ_ a q=>ce e a q) λe a q=>ce e a q;rintro n s4 ⟨i,ys,its,k,Z4,H4,I4,st4,fr4,hd4,hn4,O,w4⟩;obtain⟨hz,tn4⟩:=turn i n ys Z4 H4 w4;have J4:Inv (JK X scope N t P2.objs.size a B l) [(a.heap.objs.size,{ cls:=.type "list",data:=.seq its.toArray k })] Z4 H4 s4:=I4.pins_of λp hp=>by
   have e:=Je.mp hp;subst e;refine⟨hd4,hn4,K,?_,λv z=>by cases z⟩;exact λz=>Zn (Zg (by
    rcases UV.mp (A.stkSub _ z) with q|q
    .exact UH (Yx q) A.lt
    .obtain⟨_,o,ho,_⟩:=A.ok.funs.mem q;exact Zg (Zk ho) A.sz) (Zf a.heap.objs.size)) (Zy _)
  have np:∀p ∈ [(a.heap.objs.size,({ cls:=.type "list",data:=.seq its.toArray k }:Obj))],p.1∉l:=λp hp=>by
   have e:=Je.mp hp;subst e;exact nD
  rcases tn4 with ⟨stop,qn⟩|⟨go,step⟩
  .refine Zc (T.done (JK X scope N t P2.objs.size a B l) rfl rfl rfl hc i _ s4 Z4 H4 (λ_ _=>False) J4 (E fr4 np) st4 stop) (λr s5 h5=>?_) λ_ _ f=>f.elim;obtain⟨rfl,I5⟩:=h5;obtain⟨m,hm,_⟩:=id I5.loc;have p5:=I5.pin (a.heap.objs.size,_) (Ut _ Zqs);refine fin _ _ m _ _ hm (UZ (Zg A.lt j)) (A.nofs j) (Zh A.sz j) (λx c e z=>?_) (λp hp z=>?_) λh' hs'=>Ox A f2 j (Zf _) K (I5.pins_of λp hp=>nomatch hp) p5.1 p5.2.1 O (Zz hz) hs' ⟨by rw[JJ (Ne.symm K)];exact I5.free,qn _ p5.2.1⟩
   .obtain⟨v,o,ho,hd⟩:=A.cell x c e;have:=Zk ho;rw[z] at this;exact Zn (Zg this j) (Zy _)
   .have:=Zk (A.pin p hp).1;rw[z] at this;exact Zn (Zg this j) (Zy _)
  .refine Zc (T.item (JK X scope N t P2.objs.size a B l) rfl rfl rfl hc i _ s4 Z4 H4 (λ_ _=>False) J4 (E fr4 np) st4 go) (λr s5 h5=>?_) λ_ _ f=>f.elim;obtain⟨u,rfl,h5⟩:=h5;refine Zc h5 (λ_ s6 h6=>?_) λ_ _ f=>f.elim;obtain⟨x,H6,I6,r6,y6,P,fr6⟩:=h6;have I6':=I6.pinned (E fr6 np) (T.obj _ _ P);refine Zc (hg t P2.objs.size a B l _ s6 Z4 H6 x u _ I6' r6 (step x H6 y6)) (λ_ s7 h7=>?_) xe;obtain⟨U,H7,I7,q7⟩:=h7;refine ht t P2.objs.size a B l cat ce I7 q7 λbv s8 H8 I8 q8=>?_;have F:∀(H9:Hp) (s9:Shared) (Z9:St),Inv (JK X scope N t P2.objs.size a B l) ([(a.heap.objs.size,{ cls:=.type "list",data:=.seq its.toArray k })]++XN l s6.heap) Z9 H9 s9->(∀b∈l,∀o,s6.heap.get? b=some o->s9.heap.get? b=some o)/\∀b∈l,H9 b=none:=λH9 s9 Z9 I9=>by
    refine⟨λb w o e=>(I9.pin (b,o) (Ut _ (Ut _ (Aj w e)))).1,λb w=>?_⟩;obtain⟨o,e,d⟩:=T.obj _ _ P b w;exact(I9.pin (b,o) (Ut _ (Ut _ (Aj w e)))).2.1
   have p8:=I8.pin (a.heap.objs.size,_) (Ut _ (List.mem_append_left _ Zqs));cases bv with
   |false =>
    rw[Ze ()] at q8 ⊢;obtain⟨m',hm',w8⟩:=q8;obtain⟨z1,z2⟩:=F _ _ _ I8;exact⟨m',hm',i+1,ys,its,k,U,H8,I8.pins_of (λp hp=>nomatch hp),T.keep _ _ _ P z1,z2,p8.1,p8.2.1,O,w8⟩
   |true =>
    rw[Zd rfl] at q8 ⊢;refine Zc (he t P2.objs.size a B l cat _ s8 U H8 _ I8 q8) (λyv s9 h9=>?_) xe;obtain⟨y,H9,I9,ry,m',hm',w9⟩:=h9;have p9:=I9.pin (a.heap.objs.size,_) (Ut _ (List.mem_append_left _ Zqs));have hl:=O.length;refine append_at (hsz:=by show its.toArray.size<=sizeLine;rw[Zm,<- hl];exact Zz hz) p9.1 λh10 hs10 hd10=>?_;have I10:Inv (JK X scope N t P2.objs.size a B l) [] U H9 { s9 with heap:=h10 }:=(I9.pins_of (Y':=[]) λp hp=>nomatch hp).turned (t':=s9.toks) (it:=a.heap.objs.size) (λb o w e=>(hs10.2 b w).trans e) p9.2.1 K (.inr (Zf _))
     (λx c e z=>by
      obtain⟨v,o,ho,hd⟩:=I9.cell x c e;rw[z,p9.1] at ho;cases ho;cases hd) (λp hp=>Zn hp (by show ¬p∈([]:Yb)++[];simp))
    obtain⟨z1,z2⟩:=F _ _ _ I9;refine⟨m',hm',i+1,ys++[y],its++[yv],k+1,U,H9,I10,T.keep _ _ _ P (λb w o e=>?_),z2,?_,p9.2.1,jp.append O (.cons ry .nil),w9⟩
    .have hb':b≠a.heap.objs.size:=λz=>nD (by rw[<- z];exact w);exact(hs10.2 b hb').trans (z1 b w o e)
    .refine hd10.trans ?_;simp
 exact codeAny_compStart_list (loop _ rfl) (T.self _ 0 _ _ _ (T.keep _ _ _ st2 (λb _ o e=>M b o e)) (loop _ rfl))
def Fk (N:Yk)(cap:List (Option Nat))(l:X.calm=true)(f:QF scope X.env N X.N cap=true)(m:PI X tg iter wi)(o:∀i C s H e,PG (JK X scope N i C s H e) tg g)(p:∀i C s H e,WF X C s H e->PE (JK X scope N i C s H e) elt te)
 (hs:∀x,foldedSetIterable iter X.env x=pure x) {use:Option (Value->Sem Unit)} {R:Ya} {a:Pos} {Y:Yb} {s:Shared} {Z: St} {H:Hp} {Q:VK} (I:Inv X Y Z H s) (h:Xh cap wi g te Z H Q) (j:XV X Y Z Q use R):
 YI X (comprehension (.ListComp elt [⟨tg,iter,[],0⟩] scope pos) scope X.env a (newList []) false (eval iter X.env) use) R X.xe s:=
 Fj (test:=λ_ _ Q s=>Q true s) N (λI b n h=>W.kcp_loop I b n h) (λ_ _ _ _ _ _ _ _ _ _ _ _ _ _ I q k=>k true _ _ I q) cap l f m o p hs I h j
def Fl (N:Yk)(cap:List (Option Nat))(f:X.calm=true)(b:QF scope X.env N X.N cap=true)(i:PI X tg iter wi)(j:∀e C s H a,PG (JK X scope N e C s H a) tg g)(l:∀e C s H a,WF X C s H a->PE (JK X scope N e C s H a) elt te)
 (hs:∀x,foldedSetIterable iter X.env x=pure x:=by intro _;rfl):PE X (.ListComp elt [⟨tg,iter,[],0⟩] scope pos) (Xh cap wi g te):=λY s Z H Q I h=>Fk N cap f b i j l hs I h Fi
def Oz (N:Yk)(cap:List (Option Nat))(f:X.calm=true)(a:QF scope X.env N X.N cap=true)(h:PI X tg iter wi)(i:∀b C s H e,PG (JK X scope N b C s H e) tg g)(j:∀b C s H e,PE (JK X scope N b C s H e) elt te)
 (hs:∀x,foldedSetIterable iter X.env x=pure x:=by intro _;rfl):PE X (.ListComp elt [⟨tg,iter,[],0⟩] scope pos) (Xh cap wi g te):=Fl N cap f a h i () hs
end
mutual
def Is (H:Hp):PyData->V->Prop
 | .none,v=>v=.non
 | .bool b,v=>v=.bl b
 | .int i,v=>v=.int i
 | .str x,v=>v=.str x
 | .list ds,v=>∃a c,v=.ref a/\H a=some (.lst c)/\qc H ds c
 | .tuple ds,v=>∃a c,v=.ref a/\H a=some (.tup c)/\qc H ds c
 | .dict _,_=>False
def qc (H:Hp):List PyData->YE->Prop
 | [],xs=>xs=[]
 |d::ds,xs=>∃x r,xs=x::r/\Is H d x/\qc H ds r
end
mutual
theorem Is.same (e:jk H H'):∀(d:PyData) (v:V),Is H d v->Is H' d v
 | .none,_,h=>h
 | .bool _,_,h=>h
 | .int _,_,h=>h
 | .str _,_,h=>h
 | .list ds,v,h=>have ⟨a,b,c,f,g⟩:=h;⟨a,b,c,e _ _ f,qc.same e ds b g⟩
 | .tuple ds,v,h=>have ⟨a,b,c,f,g⟩:=h;⟨a,b,c,e _ _ f,qc.same e ds b g⟩
 | .dict _,_,h=>h.elim
theorem qc.same (e:jk H H'):∀(ds:List PyData) (a:YE),qc H ds a->qc H' ds a
 | [],_,h=>by simp_all [qc]
 |d::ds,a,h=>have ⟨x,r,b,c,f⟩:=h;⟨x,r,b,Is.same e d x c,qc.same e ds r f⟩
end
theorem qc.length:∀{ds:List PyData} {a:YE},qc H ds a->a.length=ds.length
 | [],_,h=>by simp_all [qc]
 |d::ds,a,h=>by
  obtain⟨x,r,rfl,_,b⟩:=h;rw[Zu,Zu,qc.length b]
theorem qc.get:∀{ds:List PyData} {a:YE} {i:Nat} {d:PyData},qc H ds a->ds[i]? = some d->∃x,a[i]? = some x/\Is H d x
 | [],_,_,_,_,e=>by simp at e
 |d::ds,a,0,d',h,e=>by
  grind[qc]
 |d::ds,a,i+1,d',h,e=>by
  obtain⟨x,r,rfl,_,b⟩:=h;obtain⟨y,c,f⟩:=qc.get b (by simpa using e)
  simp_all
theorem Fo:∀(ns:Yh),qc H (ns.map PyData.int) (ns.map V.int)
 | []=>by rfl
 |n::ns=>⟨_,_,rfl,by rfl,Fo ns⟩
theorem Fp:∀{ns:Yh} {a:YE},qc H (ns.map PyData.int) a->a=ns.map V.int
 | [],_,h=>by
  simp_all [qc]
 |n::ns,a,h=>by
  obtain⟨x,r,rfl,b,c⟩:=h;rw[b,Fp c];rfl
def xI:Is H (.list ds) v↔∃a b,v=.ref a/\H a=some (.lst b)/\qc H ds b:=Iff.rfl
def yE:Is H (.tuple ds) v↔∃a b,v=.ref a/\H a=some (.tup b)/\qc H ds b:=Iff.rfl
mutual
def QP:PyData->Bool
 | .int _=>true
 | .list xs=>XX xs
 | .tuple xs=>XX xs
 | .none=>false
 | .bool _=>false
 | .str _=>false
 | .dict _=>false
def XX:List PyData->Bool
 | []=>true
 |x::xs=>QP x&&XX xs
end
mutual
theorem Co:∀d e:PyData,QP d=true->QP e=true->(PyData.eqv d e=true↔d=e)
 | .int i,.int j,_,_=>by unfold PyData.eqv;simp
 | .int i,.list ys,_,_=>by unfold PyData.eqv;simp
 | .int i,.tuple ys,_,_=>by unfold PyData.eqv;simp
 | .list xs,.int j,_,_=>by unfold PyData.eqv;simp
 | .list xs,.list ys,h1,h2=>by
  have q:=Cp xs ys h1 h2
  simp_all [PyData.eqv]
 | .list xs,.tuple ys,_,_=>by unfold PyData.eqv;simp
 | .tuple xs,.int j,_,_=>by unfold PyData.eqv;simp
 | .tuple xs,.list ys,_,_=>by unfold PyData.eqv;simp
 | .tuple xs,.tuple ys,h1,h2=>by
  have q:=Cp xs ys h1 h2
  simp_all [PyData.eqv]
 | .none,_,h,_=>by simp_all [QP]
 | .bool _,_,h,_=>by simp_all [QP]
 | .str _,_,h,_=>by simp_all [QP]
 | .dict _,_,h,_=>by simp_all [QP]
 |_,.none,_,h=>by simp_all [QP]
 |_,.bool _,_,h=>by simp_all [QP]
 |_,.str _,_,h=>by simp_all [QP]
 |_,.dict _,_,h=>by simp_all [QP]
theorem Cp:∀a ys:List PyData,XX a=true->XX ys=true->(PyData.eqvAll a ys=true↔a=ys)
 | [],[],_,_=>by unfold PyData.eqvAll;simp
 | [],y::ys,_,_=>by unfold PyData.eqvAll;simp
 |x::a,[],_,_=>by unfold PyData.eqvAll;simp
 |x::a,y::ys,h1,h2=>by
  obtain⟨b,c⟩:=Jt.mp h1;obtain⟨e,f⟩:=Jt.mp h2;unfold PyData.eqvAll;rw[Bool.and_eq_true_iff,Co x y b e,Cp a ys c f];simp
end
def O0 (a:QP d=true)(b:QP e=true)(h:d≠e):PyData.eqv d e=false:=by
 grind[Co]
def O1 (a:QP d=true):PyData.eqv d d=true:=(Co d d a a).mpr rfl
section
variable {X:Cx}
def jW:Yh->Int
 | []=>0
 |x::r=>r.foldl max x
def q0:Yh->Int
 | []=>0
 |x::r=>r.foldl min x
theorem Fq:∀(r:Yh) (x:Int),x<=r.foldl max x/\(∀y∈r,y<=r.foldl max x)/\(r.foldl max x=x\/r.foldl max x∈r)
 | [],x=>by simp
 |y::r,x=>by
  obtain⟨b,a,c⟩:=Fq r (max x y);show x<=r.foldl max (max x y)/\(∀z∈y::r,z<=r.foldl max (max x y))/\(r.foldl max (max x y)=x\/r.foldl max (max x y)∈y::r);refine⟨(),λz hz=>?_,?_⟩
  .rcases UV.mp hz with rfl|hz
   .omega
   .exact a z hz
  grind
def Wo (h:l ≠ []):jW l∈l/\∀y∈l,y<=jW l:=by
 cases l with
 |nil=>exact Zn rfl h
 |cons x r =>
  obtain⟨a,b,h3⟩:=Fq r x;refine⟨?_,λy hy=>?_⟩
  .rcases h3 with h3|h3
   .show r.foldl max x∈x::r;rw[h3];exact Zqs
   .exact Zqm _ h3
  .rcases UV.mp hy with rfl|hy
   .exact a
   .exact b y hy
def Fs (a:M∈l)(b:∀y∈l,y<=M):M=jW l:=by
 obtain⟨c,f⟩:=Wo (l:=l) (by intro e;rw[e] at a;cases a)
 grind
theorem Ft:∀(r:Yh) (x:Int),r.foldl min x<=x/\(∀y∈r,r.foldl min x<=y)/\(r.foldl min x=x\/r.foldl min x∈r)
 | [],x=>by simp
 |y::r,x=>by
  obtain⟨b,a,c⟩:=Ft r (min x y);show r.foldl min (min x y)<=x/\(∀z∈y::r,r.foldl min (min x y)<=z)/\(r.foldl min (min x y)=x\/r.foldl min (min x y)∈y::r);refine⟨(),λz hz=>?_,?_⟩
  .rcases UV.mp hz with rfl|hz
   .omega
   .exact a z hz
  grind
def XY (h:l ≠ []):q0 l∈l/\∀y∈l,q0 l<=y:=by
 cases l with
 |nil=>exact Zn rfl h
 |cons x r =>
  obtain⟨a,b,h3⟩:=Ft r x;refine⟨?_,λy hy=>?_⟩
  .rcases h3 with h3|h3
   .show r.foldl min x∈x::r;rw[h3];exact Zqs
   .exact Zqm _ h3
  .rcases UV.mp hy with rfl|hy
   .exact a
   .exact b y hy
def Cq (a:M∈l)(b:∀y∈l,M<=y):M=q0 l:=by
 obtain⟨c,f⟩:=XY (l:=l) (by intro e;rw[e] at a;cases a)
 grind
def O2 (o:X.calm=true):jS X (.builtin "max") (λi H Q=>∃a ns,i=[.ref a]/\qZ X.K H a (ns.map V.int)/\ns ≠ []/\Q (.int (jW ns)) H):=by
 intro Y s Z H i E Q I r h;obtain⟨a,ns,rfl,w,g,q⟩:=h;obtain⟨u,rfl,x⟩:=QM r;obtain rfl:u=Value.ref a:=x;obtain⟨its,y,p,hz⟩:=I.list w;have l:IntsAre its ns:=Cd y;obtain⟨ys,e⟩:=l.allInts.items;have c:ns=ys.toList.map (·.1):=by
  rw[<- l.numsOf,<- nums_intItems,<- e]
 have hsz:0<ys.size:=by
  have m:0<ns.length:=Jo.mpr g;rw[c,Zql,Ui] at m;exact m
 have f:=p.isList;rw[e] at f;refine max_intList (I.ok.hd o) f hsz λv h' tk z A=>?_;obtain⟨t,rfl⟩:=intItems_at z;obtain⟨F,B⟩:=argBest_gt (numAt ys) (ys.size-1);refine⟨.int (jW ns),H,I.kept A,⟨t,?_⟩,q⟩
 congr 1
 refine Fs ?_ λb n=>?_
 .rw[c,numAt_eq];exact PySem.getD_mem (by rw[Zql,Ui];lia)
 .rw[c] at n;obtain⟨j,C,rfl⟩:=PySem.mem_getD n;rw[Zql,Ui] at C;rw[<- numAt_eq];exact B j ()
def O3 (o:X.calm=true):jS X (.builtin "min") (λi H Q=>∃a ns,i=[.ref a]/\qZ X.K H a (ns.map V.int)/\ns ≠ []/\Q (.int (q0 ns)) H):=by
 intro Y s Z H i E Q I r h;obtain⟨a,ns,rfl,w,g,q⟩:=h;obtain⟨u,rfl,x⟩:=QM r;obtain rfl:u=Value.ref a:=x;obtain⟨its,y,p,hz⟩:=I.list w;have l:IntsAre its ns:=Cd y;obtain⟨ys,e⟩:=l.allInts.items;have c:ns=ys.toList.map (·.1):=by
  rw[<- l.numsOf,<- nums_intItems,<- e]
 have hsz:0<ys.size:=by
  have m:0<ns.length:=Jo.mpr g;rw[c,Zql,Ui] at m;exact m
 have f:=p.isList;rw[e] at f;refine min_intList (I.ok.hd o) f hsz λv h' tk z A=>?_;obtain⟨t,rfl⟩:=intItems_at z;obtain⟨F,B⟩:=argBest_lt (numAt ys) (ys.size-1);refine⟨.int (q0 ns),H,I.kept A,⟨t,?_⟩,q⟩
 congr 1
 refine Cq ?_ λb n=>?_
 .rw[c,numAt_eq];exact PySem.getD_mem (by rw[Zql,Ui];lia)
 .rw[c] at n;obtain⟨j,C,rfl⟩:=PySem.mem_getD n;rw[Zql,Ui] at C;rw[<- numAt_eq];exact B j ()
def O4:jS X (.builtin "isinstance") (λa H Q=>∃x n t b,a=[x,.ty n]/\TyOf X.K H x t/\W.kitOne X.K t (.type n)=some b/\Q (.bl b) H):=by
 intro Y s Z H a i Q I r h;obtain⟨x,n,t,b,rfl,c,e,q⟩:=h;obtain⟨u,j,rfl,f,g⟩:=XO r;obtain rfl:=g;exact N3 I f c e λtk=>⟨.bl b,H,I.tok tk,rfl,q⟩
def zG (P:Program)(w:World)(K:W.Frag)(mg:Ye)(a:Heap)(name:Str)(k:Nat)(ps:Yk)(sp:Sp):Prop:=
 ∃f b,FnOk P w K mg a yw k f b ps sp/\zL K b ps []/\W.keepIn K (.ref f)=true/\mg name=some (.ref f)
theorem zG.mono {P:Program}{w:World}{K:W.Frag}{mg:Ye}{a:Heap}{name:Str}{j k:Nat}{ps:Yk}{sp:Sp}(c:zG P w K mg a name j ps sp)(h:j<=k):zG P w K mg a name k ps sp:=by
 obtain⟨f,b,F,r⟩:=c;exact⟨f,b,F.mono h,r⟩
def Xi (c:zG X.prog X.w X.K X.mg X.base name k ps sp)(h:Room k X.A)(i:Gl X name)(j:PA X (e::es) t)
 (a:(name == ("__debug__" : Str))=false:=by decide) (l:starEach (e::es) X.env=(false,eval e X.env)::starEach es X.env:=by rfl) (g:(backTo pos (starEach es X.env)).any (·.1)=false:=by rfl):
 PE X (.Call (.Name name p) (e::es) [] pos) (Cb sp [] E0 t):=by
 obtain⟨f,o,F,b,m,n⟩:=c;exact EM F h i n m b .nil Ff j a l g
end
def K7 (h:H p=none)(o:HO):jk H (j9 H p o):=λb u q=>by rwa [JJ (Ka q h)]
def Q6 (h:n<=1000):n<=sizeLine:=Zz (Fg h)
def pD (p:Int×Int):PyData:=.tuple [.int p.1,.int p.2]
def rD (r:Jy):PyData:=.tuple (r.map pD)
def bO:Is H (pD p) v↔∃a,v=.ref a/\H a=some (.tup [.int p.1,.int p.2]):=by
 constructor
 .rintro⟨a,g,b,c,f⟩;have e:=Fp (ns:=[p.1,p.2]) f;subst e;exact⟨a,b,c⟩
 .rintro⟨a,b,c⟩;exact⟨a,_,b,c,Fo [p.1,p.2]⟩
def Cr (o:HO)(s:jk H H')(h:H l=none):jk H (j9 H' l o):=λb u e=>by
 rw[JJ (Ka e h)];exact s b u e
def Cs (p:Int×Int):QP (pD p)=true:=by rfl
def KL:bootBuiltins "len" = some (.builtin "len"):=boot_len
def XZ:bootBuiltins "max" = some (.builtin "max"):=boot_max
def Ap:bootBuiltins "min" = some (.builtin "min"):=boot_min
def Fu:bootBuiltins "isinstance" = some (.builtin "isinstance"):=boot_isinstance
def Ct:bootBuiltins "sorted" = some (.builtin "sorted"):=boot_sorted
def O5:bootBuiltins "sum" = some (.builtin "sum"):=boot_sum
def O6:bootBuiltins "int" = some (.type "int"):=boot_int
def O7:bootBuiltins "bool" = some (.type "bool"):=boot_bool
def Cu:bootBuiltins "str" = some (.type "str"):=boot_str
def Y0:bootBuiltins "list" = some (.type "list"):=boot_list
def Cv:bootBuiltins "tuple" = some (.type "tuple"):=boot_tuple
def Cw:bootBuiltins "dict" = some (.type "dict"):=boot_dict
def bt_set:bootBuiltins "set" = some (.type "set"):=boot_set
def Fv:entryFor table "dict.update.loop" = some Builtin.«dict.update.loop»:=entryFor_of_tree (by kernel_rfl)
def Aq:plainId "dict.update.loop" = true:=by decide +kernel
section
variable {prog:Program}{w:World}{K:Type}[DecidableEq K]{knd:KeyKind prog w K}
def fk (knd:KeyKind prog w K)(it t d:Addr)(c:Yn)(ps:List (K×Value))(y:Heap)(hlen:c.size=ps.length)
 (J:∀(j:Nat) k v,ps[j]? = some (k,v)->∃n h,c[j]? = some (.ref n)/\y.IsTuple n #[h,v]/\knd.is k h=true/\n≠it/\n≠d)
 (z:y.IsTuple t c) (n1:t≠it) (n2:t≠d) (L:d≠it) (m:Nat):
 ∀i:Nat,ps.length-i=m->∀(A:Around) (R:Result->YC) (s:Shared) (a:List (K×Value)),A.handled=none->s.heap.IsTupleIter it t i->(∀b o,b≠it->b≠d->y.get? b=some o->s.heap.get? b=some o) ->
  s.heap.DictOf knd d a->a.length+(ps.length-i)<=sizeLine ->
  (∀h' tk,h'.DictOf knd d (merged a (ps.drop i))->(∀b o,b≠it->b≠d->y.get? b=some o->h'.get? b=some o)->R (.ok (.ret .none)) { s with heap:=h',toks:=tk }) ->
  wpAny (model prog w) A.in1 (Builtin.«dict.update.loop» ⟨[.ref d,.ref it,rawInt i,.none],[]⟩) (λq s'=>match q with | .done f=>R (.ok f) s' | .again c'=>c'.quiet=true/\codeAny (model prog w) A c' R s') (λe s'=>R (.error e) s') s:=by
 induction m with
 |zero =>
  intro i H A R s a M st keep N hz I;have O:c[i]? = none:=by rw[Array.getElem?_eq_none_iff];lia
  have P:s.heap.IsTuple t c:=by
   obtain⟨o,l,r⟩:=z;exact⟨o,keep t o n1 n2 l,r⟩
  unfold Builtin.«dict.update.loop»;refine Za (wpAny_pyNext_tuple_end M st P O λh' eb=>?_);have Q:ps.drop i=[]:=Ve ();rw[Q] at I;have B:h'.DictOf knd d a:=by
   obtain⟨o,es,ep,l,r⟩:=N;exact⟨o,es,ep,eb d o L l,r⟩
  have q:=I h' s.toks B (λb o C E e=>eb b o C (keep b o C E e));unfold Builtin.Dict.addKeywords;exact Za (Zb (Zb q))
 |succ m ih =>
  intro i H A R s a M st keep N hz I;have u:i<ps.length:=()
  obtain⟨g,hkv⟩:∃g,ps[i]? = some g:=⟨_,Zqg u⟩;obtain⟨n,h,O,S,F,a1,a2⟩:=J i g.1 g.2 hkv;have P:s.heap.IsTuple t c:=by
   obtain⟨o,l,r⟩:=z;exact⟨o,keep t o n1 n2 l,r⟩
  unfold Builtin.«dict.update.loop»;refine Za (wpAny_pyNext_tuple_item st P O λC U x=>?_);obtain⟨X,Y,Z,nn,hod⟩:=S;have p:C.get? n=some X:=(x.2 n a1).trans (keep n X a1 a2 Y);have hD1:C.DictOf knd d a:=by
   obtain⟨o,es,ep,l,r⟩:=N;exact⟨o,es,ep,(x.2 d L).trans l,r⟩
  dsimp only;refine Za (wpAny_holding (Za (wpAny_tryCatch ?_)));unfold Builtin.Dict.pairItems;refine Za (wpAny_typeOf (T:= "tuple") ⟨X,p,Z⟩ ?_);rw[Zd (by decide)];refine Za (wpAny_seqItems p hod (Zb ?_));show wpAny _ _ (holding [h,g.2] (dictSet d h g.2)) _ _ _;refine wpAny_holding (wpAny_dictSet_pairs F hD1 (λE hD2 G=>?_) ());have hc:((i:Int)+1)=((i+1:Nat):Int):=by push_cast;rfl
  refine Zb ?_;rw[hc];have st2:E.IsTupleIter it t (i+1):=by
   obtain⟨o,l,r⟩:=U;exact⟨o,(G.2 it (Ne.symm L)).trans l,r⟩
  have k2:∀b o,b≠it->b≠d->y.get? b=some o->E.get? b=some o:=λb o b1 b2 e=>(G.2 b b2).trans ((x.2 b b1).trans (keep b o b1 b2 e));have z2:(stored a g.1 g.2).length+(ps.length-(i+1))<=sizeLine:=by
   have:(stored a g.1 g.2).length<=a.length+1:=by
    unfold stored
    split
    .rw[Zql];lia
    .rw[Ua,Uj];lia
   rw[H] at hz;rw[Nat.sub_succ,H];exact Zh (Nat.add_le_add_right this m) (Zh (Yx (Nat.succ_add_eq_add_succ a.length m)) hz)
  have e:merged a (ps.drop i)=merged (stored a g.1 g.2) (ps.drop (i+1)):=by
   rw[Uu u];have:ps[i]=g:=by
    have:=Zqg u;rw[this] at hkv;exact Zqi hkv
   rw[this];rfl
  exact⟨plainId_quiet Aq _,codeAny_builtin Fv (by
   rw[Around.under_plainId Aq _];exact ih (i+1) (by rw[Nat.sub_succ,H];rfl) A R { s with heap:=E,toks:=s.toks+1 } (stored a g.1 g.2) M st2 k2 hD2 z2 λh' tk B kk=>I h' tk (by rwa [e]) kk)⟩
end
def O8:typeLookup (.type "tuple") "keys" = pure none:=by rw[typeLookup_type,builtinLookup_eq_fast];kernel_rfl
def O9
 (n:s.heap.get? a=some o) (p:o.cls=.type "tuple") (f:o.data=.seq xs k) (q:o.dict=none) (i:typeLookup (.type "tuple") name=pure none) (j:(["__module__", "__name__", "__qualname__", "__doc__", "__annotations__"]:Yk).contains name=false) (t:A.handled=none)
 (h:∀h' tk,(∀b o,s.heap.get? b=some o->h'.get? b=some o)->Q none { s with heap:=h',toks:=tk }) (hsz:name.length+100<=sizeLine:=by size_fits):
 YJ prog w A (getAttr? (.ref a) name) Q E s:=by
 obtain⟨c,u,v,x⟩:=o;simp only at p f q;subst p f q;obtain⟨hp,g,d,tk,os⟩:=s;have r:∀l,(⟨hp,g,d,l,os⟩:Shared).TypeIs (.ref a) "tuple" := λ_=>⟨_,n,rfl⟩;have y:=sub_AttributeError;have z:=F.slot_tuple_getattribute.lookup;have B:=F.slot_tuple_getattribute.bind (.ref a);have C:=am_tuple_getattr_none;unfold getAttr? getAttrBy? getAttrBy
 repeat (any_goals (first|assumption|exact r _|((with_reducible show wpAny _ _ (call (Value.builtin "tuple.__getattribute__") _ _) _ _ _);refine call_meets F.slot_tuple_getattribute (r _) am_entry_tuple_getattribute (F.args_tuple_getattribute_2 _ _) (meets_getattribute_miss_tuple a xs k x name _ i j hsz) ⟨n,t,λh' l e m=>?_⟩)|wp_step))
 obtain⟨t',G,H⟩:=m.there;show wpAny _ _ (getattributeRaised _ _ _ _ _ _ _) _ _ _;unfold getattributeRaised
 repeat (any_goals (first|assumption|wp_step))
 exact h _ _ m.of.keeps
section
variable {prog:Program}{w:World}{K:Type}[DecidableEq K]{A:Around}{E:Ya}{s:Shared}
def OA (knd:KeyKind prog w K)(M:A.handled=none)(C:s.heap.get? t=some o)(G:o.cls=.type "tuple")(l:o.data=.seq items n)(O:o.dict=none)
 (p:items.size=ps.length) (H:∀(j:Nat) k v,ps[j]? = some (k,v)->∃g a,items[j]? = some (.ref g)/\s.heap.IsTuple g #[a,v]/\knd.is k a=true) (hz:ps.length<=sizeLine)
 (h:∀h' tk,h'.DictOf knd s.heap.objs.size (merged [] ps)->(∀b u,s.heap.get? b=some u->h'.get? b=some u)->Q (.ref s.heap.objs.size) { s with heap:=h',toks:=tk }):
 YJ prog w A (call (.type "dict") [.ref t]) Q E s:=by
 refine callType_codes (Q₁:=λq s₁=>q=.ref s.heap.objs.size/\s₁={ s with heap:=s.heap.push { cls:=.type "dict",data:=.dict #[] } }) F.kt_called_dict (F.kt_typeCall_dict_1 _) F.entry_dict_init (kt_code_dict_new _ ⟨rfl,rfl⟩) ?_;rintro q s₁ ⟨rfl,rfl⟩;have c:(s.heap.push { cls:=.type "dict",data:=.dict #[] }).DictOf knd s.heap.objs.size []:=Heap.DictOf.new s.heap;refine⟨c.typeIs,F.args_dict_init_2 _ _,?_⟩;have m:(s.heap.push { cls:=.type "dict",data:=.dict #[] }).get? t=some o:=Zq _ C;unfold Builtin.«dict.__init__»;refine Za ?_;unfold Builtin.Dict.selfAndRest;refine Za (wpAny_notOrdered_dict c.typeIs ?_);show wpAny _ _ (pure (s.heap.objs.size,[Value.ref t])) _ _ _;refine Zb ?_;show wpAny _ _ (Builtin.Dict.updateFrom "dict.__init__" s.heap.objs.size (.ref t) [] .none) _ _ _;unfold Builtin.Dict.updateFrom;refine Za (wpAny_typeOf (T:= "tuple") ⟨o,m,G⟩ ?_);rw[Zd (by decide)];refine Za (O9 m G l O O8 (by decide +kernel) M (λi P k2=>?_) (by decide));rw[Zd (by rfl)];have x:i.IsTuple t items:=⟨o,k2 _ _ m,G,n,l⟩;have lt:s.heap.objs.size<i.objs.size:=by
  obtain⟨B,_,_,e,_⟩:=c;exact Zk (k2 _ _ e)
 have R:i.DictOf knd s.heap.objs.size []:=by
  obtain⟨B,es,ep,e,r⟩:=c;exact⟨B,es,ep,k2 _ _ e,r⟩
 refine Za (wpAny_rule ?_);refine Za (wpAny_pyIter_tuple x ?_);have f:∀b u,s.heap.get? b=some u->b≠s.heap.objs.size/\b≠i.objs.size:=λb u e=>by
  have z:=Zk e;exact⟨Zi z,Zi (Ug z lt)⟩
 have N:∀b u,s.heap.get? b=some u->i.get? b=some u:=λb u e=>k2 b u (Zq _ e);have y:∀(j:Nat) k v,ps[j]? = some (k,v)->∃g a,items[j]? = some (.ref g)/\i.IsTuple g #[a,v]/\knd.is k a=true/\g≠i.objs.size/\g≠s.heap.objs.size:=λj k v e=>by
  obtain⟨g,a,S,⟨I,J,U⟩,X⟩:=H j k v e;exact⟨g,a,S,⟨I,N _ _ J,U⟩,X,(f g I J).2,(f g I J).1⟩
 refine Zb ⟨plainId_quiet Aq _,codeAny_builtin Fv ?_⟩;rw[Around.under_plainId Aq _];refine fk knd i.objs.size t s.heap.objs.size items ps i p y x (f t o C).2 (f t o C).1 (Zi lt) ps.length 0 () A.in1 _ _ [] M ⟨_,Zr _ rfl,rfl,rfl⟩ (λb u _ _ e=>Zq _ e) ?_ (by simpa using hz) ?_
 .obtain⟨B,es,ep,e,r⟩:=R;exact⟨B,es,ep,Zq _ e,r⟩
 .intro h' tk L Y;exact⟨rfl,h h' tk L λb u e=>Y b u (f b u e).2 (f b u e).1 (N b u e)⟩
end
def x9 (r:Jy):List (j0×V):=r.map λp=>(Ue p.1,V.int p.2)
def Ar (r:Jy):List (j0×V):=WD [] (x9 r)
theorem Fw (ok:qR P w H h):∀{r:Jy} {f:YE} {b:Yf},qc H (r.map pD) f->jp f b ->
 ∃ps:List (j0×Value),KV (x9 r) ps/\b.length=ps.length/\∀(j:Nat) k v,ps[j]? = some (k,v)->∃g c,b[j]? = some (.ref g)/\h.IsTuple g #[c,v]/\(Qt P w).is k c=true
 | [],f,b,ha,r=>by
  subst ha;cases r;exact⟨[],.nil,rfl,()⟩
 |p::r,f,b,ha,rv=>by
  obtain⟨x,ys,rfl,l,m⟩:=ha;cases rv with
  | @cons _ u _ q s t =>
   obtain⟨ps,k1,k2,k3⟩:=Fw ok m t;obtain⟨a,rfl,y⟩:=bO.mp l;obtain rfl:=s;obtain⟨_,its,z,o,A,B,n,C⟩:=(ok a _ y);obtain⟨I,E,rfl,F,G⟩:=XO z;obtain⟨i,rfl⟩:=(F);refine⟨(Ue p.1,E)::ps,.cons ⟨rfl,G⟩ k1,by rw[Zu,Zu,k2],λj k v e=>?_⟩;cases j with
   |zero =>
    cases e;exact⟨a,.int p.1 i,rfl,⟨o,A,B,n,C⟩,E7 p.1 i⟩
   |succ j =>
    exact k3 j k v (by simpa using e)
section
variable {X:Cx}
def OB (g:X.calm=true):jS X (.type "dict") (λb H Q=>∃a r,b=[.ref a]/\Is H (rD r) (.ref a)/\r.length<=100/\∀p,H p=none->Q (.ref p) (j9 H p (.dK (Ar r)))):=by
 intro Y s Z H b G Q I i h;obtain⟨a,r,rfl,l,hz,q⟩:=h;obtain⟨u,rfl,m⟩:=QM i;obtain rfl:=m;obtain⟨J,b,t,w,x⟩:=l;cases t;obtain⟨⟨K,L,c,d0⟩,its,y,o,f,A,n,B⟩:=(I.hok a _ w);rw[c] at f;obtain rfl:=Zqi f;obtain⟨ps,k1,k2,k3⟩:=Fw I.hok x y;have M:=k1.length;have C:(x9 r).length=r.length:=Zql _;refine OA (Qt X.prog X.w) (I.ok.hd g) c A B d0 () (λj k v e=>?_) (Q6 ()) λh' tk E F=>?_
 .simp_all
 .refine⟨.ref s.heap.objs.size,j9 H s.heap.objs.size (.dK (Ar r)),I.laid F (Zf _) (Fc ?_ (beq_eq_false_iff_ne.mpr (Ne.symm (Zi I.big))) (wp k1 .nil) E),rfl,q _ (I.hok.fresh (Zf _))⟩;have z:=Fe (x9 r) [];rw[ZC,C] at z;exact Q6 (by unfold Ar;lia)
end
def J6:Jy->Int->Option Int
 | [],_=>none
 |p::r,t=>match J6 r t with
  |some w=>some w
  |none=>if p.1=t then some p.2 else none
def OC (r s:Jy)(t:Int):J6 (r++s) t=match J6 s t with|some w=>some w|none=>J6 r t:=by
 induction r with
 |nil=>grind[J6]
 |cons p r a =>
  grind[List.cons_append,J6]
def Qh (h:J6 r t=some w):(t,w)∈r:=by
 induction r with
 |nil=>simp[J6] at h
 |cons p r a =>
  grind[J6]
theorem Cy (h:J6 r t=none):∀w,(t,w)∉r:=by
 induction r with
 |nil=>intro w a;cases a
 |cons p r b =>
  grind[J6]
def j6 (r:Jy):Prop:=(r.map (·.1)).Nodup
def j6.eq (h:j6 r)(a:(t,v)∈r)(b:(t,w)∈r):v=w:=by
 induction r with
 |nil=>cases a
 |cons p r c =>
  obtain⟨f,e⟩:=Jl.mp (h);rcases UV.mp a with e1|e1<;>rcases UV.mp b with e2|e2
  .grind
  .grind
  .grind
  .exact c e e1 e2
def j6.look (h:j6 r)(a:(t,w)∈r):J6 r t=some w:=by
 cases q:J6 r t with
 |none=>exact Zn a (Cy q w)
 |some v=>rw[h.eq (Qh q) a]
def yb (o:Jy)(p:Int×Int):Bool:=match J6 o p.1 with
 |some w=>decide (p.2<=w)
 |none=>false
def JC (r o:Jy):Bool:=r.all (yb o)
def Fx {r o:Jy}{i:Nat}{p:Int×Int}(hp:r[i]? = some p)(h:yb o p=false):JC r o=false:=by
 unfold JC;rw[List.all_eq_false];exact⟨p,Ur hp,by rw[h];simp⟩
def Kv {α: Type}{r:List α}{p:α}(hp:r[i]? = some p):r.take (i+1)=r.take i++[p]:=by
 rw[Vr,hp];rfl
def OD {r o:Jy}{i:Nat}{p:Int×Int}(hp:r[i]? = some p)(h:JC (r.take i) o=true)(a:yb o p=true):JC (r.take (i+1)) o=true:=by
 rw[Kv hp]
 simp_all [JC]
open PySem PyProof.Rows
def Fy (h:l<r)(c:r-l<=k-x):∃m,(l+r) / 2=m/\l<=m/\m<r/\m-l<=k-(x+1)/\r-(m+1)<=k-(x+1):=by
 have a:l<=(l+r) / 2:=()
 have b:(l+r) / 2<r:=()
 generalize (l+r) / 2=m at a b ⊢;exact⟨m,rfl,a,b,Nat.le_pred_of_lt (Zg (Nat.sub_lt_sub_right a b) c),Nat.pred_le_pred (Zh (Nat.sub_le_sub_left a r) c)⟩
structure Wk (lt:Yd):Prop where
 asy:∀i j,lt i j=true->lt j i=false
 neg:∀i j k,lt i k=true->lt i j=true\/lt j k=true
def jJ (lt:Yd)(i j:Nat):Prop:=lt i j=true\/(lt j i=false/\i<j)
section
variable {lt:Yd}(W:Wk lt)
include W
theorem jJ.no (h:jJ lt i j):lt j i=false:=by
 rcases h with h|h
 .exact W.asy _ _ h
 .exact h.1
theorem jJ.trans (c:jJ lt i j)(e:jJ lt j k):jJ lt i k:=by
 have f:=jJ.no W e;have g:lt k i=false:=by
  cases q:lt k i with
  |false=>rfl
  |true =>
   rcases W.neg k j i q with z|z
   .rw[f] at z;exact J9 z
   .rw[(jJ.no W c)] at z;exact J9 z
 rcases c with a|a
 .rcases W.neg i k j a with z|z
  .exact .inl z
  .rw[f] at z;exact J9 z
 .rcases e with b|b
  .rcases W.neg j i k b with z|z
   .rw[a.1] at z;exact J9 z
   .exact .inl z
  .exact .inr ⟨g,()⟩
end
def gx (ix:Yi)(k:Nat):Nat:=(ix[k]?).getD 0
def Cz (h:k<ix.size):ix[k]? = some (gx ix k):=by
 simp_all [gx]
def Fz (hs:src<ix.size)(a:d<=src)(k:Nat):gx (bubble ix src d) k=if k=src-d then gx ix src else if src-d<k/\k<=src then gx ix (k-1) else gx ix k:=by
 unfold gx;rw[getElem?_bubble hs d a k]
 repeat' split
 all_goals rfl
def Y1 (a:j<=ix.size)(k:Nat):gx (mirror ix i j ((j-i) / 2)) k=if i<=k/\k<j then gx ix (i+j-1-k) else gx ix k:=by
 unfold gx;rw[getElem?_mirror_all a k]
 split
 all_goals rfl
def OE {α β: Type}(f:α -> β)(b:Array α)(i j:Nat):(b.map f).swapIfInBounds i j=(b.swapIfInBounds i j).map f:=by
 apply Array.ext_getElem?;intro k;by_cases a:i<b.size
 .by_cases c:j<b.size
  .rw[getElem?_swapIB (by simpa using a) (by simpa using c),UO,UO,UO,UO,getElem?_swapIB a c]
   repeat' split
   all_goals rfl
  .rw[VC,VC,dif_pos (by simpa using a),dif_neg (by simpa using c),dif_pos a,dif_neg c]
 .rw[VC,VC,dif_neg (by simpa using a),dif_neg a]
theorem C0 {α β γ: Type}(f:α -> β)(p q:γ -> Nat):∀(l:List γ) (b:Array α),l.foldl (λa k=>a.swapIfInBounds (p k) (q k)) (b.map f)=(l.foldl (λa k=>a.swapIfInBounds (p k) (q k)) b).map f
 | [],b=>rfl
 |k::l,b=>by
  rw[U4,U4,OE,C0 f p q l]
def OF {α β: Type}(f:α -> β)(b:Array α)(a d:Nat):bubble (b.map f) a d=(bubble b a d).map f:=C0 f _ _ _ b
def OG {α β: Type}(f:α -> β)(a:Array α)(i j d:Nat):mirror (a.map f) i j d=(mirror a i j d).map f:=C0 f _ _ _ a
structure Pl (n:Nat)(ix:Yi)(k:Nat):Prop where
 size:ix.size=n
 perm:ix.Perm (Array.range n)
 pre:∀a,a<k->gx ix a<k
 suf:∀a,k<=a->a<n->gx ix a=a
def Pl.lt (h:Pl n ix k)(b:k<=n)(e:a<n):gx ix a<n:=by
 by_cases c:a<k
 .exact Zg (h.pre a c) b
 .rwa [h.suf a () e]
def Up (lt:Yd)(ix:Yi)(k:Nat):Prop:=∀a b,a<b->b<k->jJ lt (gx ix a) (gx ix b)
structure SB (it:Nat->Keyed)(kind:SortKind)(ix:Yi)(st:SortSt):Prop where
 arr:arrOf st=ix.map it
 kd:kindOf st=kind
 fl:failedOf st=none
 pd:pendingOf st = #[]
def yp (prog:Program)(w:World)(A:Around)(s:Shared)(kind:SortKind)(it:Nat->Keyed)(lt:Yd)(n:Nat):Prop:=
 ∀i j,i<n->j<n->∀(E:Ya) (Q:Bool->YC),Q (lt i j) s->YJ prog w A (keyLt' kind (it i).1 (it j).1) Q E s
end L2
set_option maxHeartbeats 4000000
namespace L2
def Wp:Bool->Keyed->Array Keyed->Nat->Nat->Nat->StateT SortSt Sem (Option Nat):=sortPriv% PySem.Builtin.gallop
def C1:Array Keyed->Array Keyed->StateT SortSt Sem (Array Keyed):=sortPriv% PySem.Builtin.mergeLo
def C4:Array Keyed->Array Keyed->StateT SortSt Sem (Array Keyed):=sortPriv% PySem.Builtin.mergeHi
abbrev KA:=Array Keyed
abbrev SM:=StateT SortSt Sem
abbrev C3:=Option (Option Nat)×Nat×Nat
def be (lt:Yd)(left:Bool)(x k:Nat):Bool:=if left then lt x k else !lt k x
section
variable {prog:Program}{w:World}{A:Around}{E:Ya}{s:Shared}{kind:SortKind}{it:Nat->Keyed}{lt:Yd}{N:Nat}{st:SortSt}
def Y2 {i j:Nat}{Q:Option Bool->YB}(O:yp prog w A s kind it lt N)(a:kindOf st=kind)(b:i<N)(c:j<N)(h:Q (some (lt i j)) st):YK prog w A E s (lt' (it i) (it j)) Q st:=by
 rw[lt'_eq];refine Yo (wpS_get ?_);rw[a];exact Yo (wpS_lift (wpAny_attempt (O _ _ b c _ _ ⟨rfl,Yp h⟩)))
def Qr {a:Yi}{p:Nat}{Q:Keyed->YB}(hp:p<a.size)(h:Q (it (gx a p)) st):YK prog w A E s (elem' (a.map it) p) Q st:=by
 have e:(a.map it)[p]? = some (it (gx a p)):=by rw[UO,Cz hp];rfl
 rw[elem'_eq,e];exact Yp h
noncomputable def wi {α: Type}{c:Prop}[Decidable c]{m n:SM α}{Q:α -> YB}(h:c->YK prog w A E s m Q st)(k:¬c->YK prog w A E s n Q st):YK prog w A E s (if c then m else n) Q st:=()
noncomputable def kW (left:Bool)(a:Keyed)(e:KA)(c i:Nat):SM (Option Bool):=elem' e (c+i) >>= λx=>if left=true then lt' x a else lt' a x >>= λr=>pure (r.map λb => !b)
def nc {left:Bool}{k:Nat}{b:Yi}{p a:Nat}{Q:Option Bool->YB}(O:yp prog w A s kind it lt N)(c:kindOf st=kind)(e:k<N)(hp:a+p<b.size)(f:gx b (a+p)<N)(h:Q (some (be lt left (gx b (a+p)) k)) st):
 YK prog w A E s (kW left (it k) (b.map it) a p) Q st:=by
 refine Yo (Qr hp ?_);cases left with
 |true=>exact Y2 O c f e h
 |false=>exact Yo (Y2 O c e f (Yp h))
noncomputable def cW (b:Nat->SM (Option Bool))(lo a:Nat):SM (ForInStep C3):=if lo ≥ a then pure (.done (none,lo,a)) else b (lo+(a-lo) / 2) >>= λr=>match r with
 |some t=>if t=true then pure (.yield (none,lo+(a-lo) / 2+1,a)) else pure (.yield (none,lo,lo+(a-lo) / 2))
 |_=>pure (.done (some none,lo,a))
noncomputable def kU (b:Nat->SM (Option Bool))(n lo a:Nat):SM (Option Nat):=(forIn [:n] ((none,lo,a):C3) λ_ c=>cW b c.2.1 c.2.2) >>= λc=>match c.1 with
 |some r=>pure r
 |none=>pure (some c.2.2)
noncomputable def cY (b:Nat->SM (Option Bool))(a c l o:Nat):SM (ForInStep C3):=if o ≥ c then pure (.done (none,l,o)) else b (a+o) >>= λr=>match r with
 |some t=>if(!t)=true then pure (.done (none,l,o)) else pure (.yield (none,o,2*o+1))
 |_=>pure (.done (some none,l,o))
noncomputable def cX (b:Nat->SM (Option Bool))(a c l o:Nat):SM (ForInStep C3):=if o ≥ c then pure (.done (none,l,o)) else b (a-o) >>= λr=>match r with
 |some t=>if t=true then pure (.done (none,l,o)) else pure (.yield (none,o,2*o+1))
 |_=>pure (.done (some none,l,o))
noncomputable def rA (b:Nat->SM (Option Bool))(n a:Nat):SM (Option Nat):=(forIn [:n] ((none,0,1):C3) λ_ c=>cY b a (n-a) c.2.1 c.2.2) >>= λc=>match c.1 with
 |some r=>pure r
 |none=>kU b n (a+c.2.1+1) (a+min c.2.2 (n-a))
noncomputable def rB (b:Nat->SM (Option Bool))(n a:Nat):SM (Option Nat):=(forIn [:n] ((none,0,1):C3) λ_ c=>cX b a (a+1) c.2.1 c.2.2) >>= λc=>match c.1 with
 |some r=>pure r
 |none=>kU b n (a+1-min c.2.2 (a+1)) (a-c.2.1)
set_option smartUnfolding false in
def kR {left:Bool}{k:Keyed}{a:KA}{b n c:Nat}:Wp left k a b n c=(kW left k a b c >>= λr=>match r with
 |some t=>if t=true then rA (kW left k a b) n c else rB (kW left k a b) n c
 |_=>pure none):=rfl
section
variable {P:Nat->Bool}{b:Nat->SM (Option Bool)}{n:Nat}{Q:Option Nat->YB}(hb:∀{i:Nat} {Q:Option Bool->YB},i<n->Q (some (P i)) st->YK prog w A E s (b i) Q st)
 (mono:∀i j,i<j->j<n->P j=true->P i=true) (h:∀m,m<=n->(∀i,i<m->P i=true)->(∀i,m<=i->i<n->P i=false)->Q (some m) st)
include hb mono h
theorem kT {lo a:Nat}(o:lo<=a)(f:a<=n)(t:∀i,i<lo->P i=true)(u:∀i,a<=i->i<n->P i=false):YK prog w A E s (kU b n lo a) Q st:=by
 refine Yo (Yq (Yr (I:=λx c l=>l=st/\∃lo a,c=(none,lo,a)/\lo<=a/\a<=n/\(∀i,i<lo->P i=true)/\(∀i,a<=i->i<n->P i=false)/\a-lo<=n-x) (Q:=λc l=>l=st/\∃m,c=(none,m,m)/\m<=n/\(∀i,i<m->P i=true)/\∀i,m<=i->i<n->P i=false) ?_ ?_ ⟨rfl,lo,a,rfl,o,f,t,u,()⟩) ?_)
 .rintro x c l _ F ⟨rfl,lo,a,rfl,o,f,t,u,g⟩;refine wi (λc=>?_) λc=>?_
  .have e:lo=a:=Nat.le_antisymm o c;subst e;exact Yp ⟨rfl,lo,rfl,f,t,u⟩
  .have c:lo<a:=Yv c;obtain⟨m,em,m0,j⟩:∃m,lo+(a-lo) / 2=m/\lo<=m/\m<a:=⟨_,rfl,Uo _ _,Nat.add_lt_of_lt_sub' (Nat.div_lt_self (Nat.sub_pos_of_lt c) (by decide))⟩;have p:a-(m+1)<=n-(x+1):=Nat.pred_le_pred (Zh (Nat.sub_le_sub_left m0 a) g);have r:m-lo<=n-(x+1):=Nat.le_pred_of_lt (Zg (Nat.sub_lt_sub_right m0 j) g);show wpS _ _ _ _ (b (lo+(a-lo) / 2) >>= _) _ _;rw[em];refine Yo (hb (Zg j f) (wi (λq=>Yp ⟨rfl,_,_,rfl,j,f,λi v=>?_,u,p⟩) λq=>Yp ⟨rfl,_,_,rfl,m0,Zh (Zz j) f,t,λi G B=>?_,r⟩))
   .by_cases z:i=m
    .rw[z];exact q
    .exact mono _ _ () (Zg j f) q
   .cases y:P i with
    |false=>rfl
    |true =>
     by_cases z:i=m
     .rw[z] at y;exact Zn y q
     .exact Zn (mono _ _ () B y) q
 .rintro c l ⟨rfl,lo,a,rfl,o,f,t,u,g⟩;rw[Nat.zero_max,Nat.sub_self] at g;have e:lo=a:=Nat.le_antisymm o (Nat.le_of_sub_eq_zero (Nat.le_zero.mp g));subst e;exact⟨rfl,lo,rfl,f,t,u⟩
 .rintro c l ⟨rfl,m,rfl,j,m2,C⟩;exact Yp (h m j m2 C)
theorem mY {a:Nat}(t:a<n)(e:P a=true):YK prog w A E s (rA b n a) Q st:=by
 refine Yo (Yq (Yr (I:=λx c j=>j=st/\∃l o,c=(none,l,o)/\l<o/\x+1<=o/\a+l<n/\P (a+l)=true) (Q:=λc j=>j=st/\∃l o,c=(none,l,o)/\l<o/\a+l<n/\P (a+l)=true/\(n-a<=o\/(o<n-a/\P (a+o)=false))) ?_ ?_ ⟨rfl,0,1,rfl,Yw,Zf _,t,e⟩) ?_)
 .rintro x c j _ _ ⟨rfl,l,o,rfl,m,u,f,g⟩;refine wi (λc=>Yp ⟨rfl,l,o,rfl,m,f,g,.inl c⟩) λc=>?_;have v:o<n-a:=Yv c;have B:a+o<n:=Nat.add_lt_of_lt_sub' v;refine Yo (hb B (wi (λq=>Yp ⟨rfl,l,o,rfl,m,f,g,.inr ⟨v,by simpa using q⟩⟩) λq=>Yp ⟨rfl,o,2*o+1,rfl,(),(),B,by simpa using q⟩))
 .rintro c j ⟨rfl,l,o,rfl,m,u,f,g⟩;rw[Nat.zero_max] at u;exact⟨rfl,l,o,rfl,m,f,g,.inl (Zh (U5 _ _) (Uw u))⟩
 .rintro c j ⟨rfl,l,o,rfl,m,f,g,p⟩;show wpS _ _ _ _ (kU b n (a+l+1) (a+min o (n-a))) _ _;refine kT hb mono h (Nat.add_lt_add_left (Nat.lt_min.mpr ⟨m,Nat.lt_sub_iff_add_lt'.mpr f⟩) a) (Zh (Nat.add_le_add_left (Nat.min_le_right _ _) _) (Yx (Vs (Zz t)))) (λi F=>?_) λi r C=>?_
  .by_cases z:i=a+l
   .rw[z];exact g
   .exact mono _ _ () f g
  .rcases p with p|⟨p,h8⟩
   .rw[Nat.min_eq_right p,Vs (Zz t)] at r;exact Zn C (Nat.not_lt_of_le r)
   .rw[Vf (Zz p)] at r;cases y:P i with
    |false=>rfl
    |true =>
     by_cases z:i=a+o
     .rw[z,h8] at y;cases y
     .rw[mono _ _ (UB r (Ne.symm z)) C y] at h8;cases h8
theorem mZ {a:Nat}(r:a<n)(e:P a=false):YK prog w A E s (rB b n a) Q st:=by
 refine Yo (Yq (Yr (I:=λx c g=>g=st/\∃l o,c=(none,l,o)/\l<o/\x+1<=o/\l<=a/\P (a-l)=false) (Q:=λc g=>g=st/\∃l o,c=(none,l,o)/\l<o/\l<=a/\P (a-l)=false/\(a+1<=o\/(o<a+1/\P (a-o)=true))) ?_ ?_ ⟨rfl,0,1,rfl,Yw,Zf _,Ub _,e⟩) ?_)
 .rintro x c g _ _ ⟨rfl,l,o,rfl,j,u,m,f⟩;refine wi (λc=>Yp ⟨rfl,l,o,rfl,j,m,f,.inl c⟩) λc=>?_;have v:o<a+1:=Yv c;refine Yo (hb (UH (U5 _ _) r) (wi (λq=>Yp ⟨rfl,l,o,rfl,j,m,f,.inr ⟨v,q⟩⟩) λq=>Yp ⟨rfl,o,2*o+1,rfl,(),(),Uq v,Yu.mpr q⟩))
 .rintro c g ⟨rfl,l,o,rfl,j,u,m,f⟩;rw[Nat.zero_max] at u;exact⟨rfl,l,o,rfl,j,m,f,.inl (Zh r (Uw u))⟩
 .rintro c g ⟨rfl,l,o,rfl,j,m,f,p⟩;show wpS _ _ _ _ (kU b n (a+1-min o (a+1)) (a-l)) _ _;refine kT hb mono h (Zh (Nat.sub_le_sub_left (Nat.lt_min.mpr ⟨j,Nat.lt_succ_of_le m⟩) (a+1)) (Yx (Nat.add_sub_add_right a 1 l))) (Zh (U5 _ _) (Zz r)) (λi t=>?_) λi F B=>?_
  .rcases p with p|⟨p,h8⟩
   .rw[Nat.min_eq_right p,Nat.sub_self] at t;exact Zn t (UP _)
   .rw[Vf (Zz p),Nat.succ_sub (Uq p)] at t;have C:a-o<n:=UH (U5 _ _) r;by_cases z:i=a-o
    .rw[z];exact h8
    .exact mono _ _ (UB (Uq t) z) C h8
  .cases y:P i with
   |false=>rfl
   |true =>
    by_cases z:i=a-l
    .rw[z,f] at y;cases y
    .rw[mono _ _ () B y] at f;cases f
end
def Xj {left:Bool}{k:Nat}{b:Yi}{a n c:Nat}{Q:Option Nat->YB}(O:yp prog w A s kind it lt N)(l:kindOf st=kind)(o:k<N)(hz:a+n<=b.size)(p:∀i,i<n->gx b (a+i)<N)(f:c<n)
 (mono:∀i j,i<j->j<n->be lt left (gx b (a+j)) k=true->be lt left (gx b (a+i)) k=true)
 (h:∀m,m<=n->(∀i,i<m->be lt left (gx b (a+i)) k=true)->(∀i,m<=i->i<n->be lt left (gx b (a+i)) k=false)->Q (some m) st):YK prog w A E s (Wp left (it k) (b.map it) a n c) Q st:=by
 have g:∀{i:Nat} {Q:Option Bool->YB},i<n->Q (some (be lt left (gx b (a+i)) k)) st->YK prog w A E s (kW left (it k) (b.map it) a i) Q st:=λr q=>nc O l o () (p _ r) q;rw[kR];exact Yo (g f (wi (λe=>mY g mono h f e) λe=>mZ g mono h f (Yu.mpr e)))
end
structure MInv (lt:Yd)(xs ys:Yi)(ia ib:Nat)(o:Yj):Prop where
 a:(o++xs.toList.drop ia).Pairwise (jJ lt)
 b:(o++ys.toList.drop ib).Pairwise (jJ lt)
 pm:(o++xs.toList.drop ia++ys.toList.drop ib).Perm (xs.toList++ys.toList)
def zK (lt:Yd)(a ys:Yi)(o:Yj):Prop:=o.Perm (a.toList++ys.toList)/\o.Pairwise (jJ lt)
section
variable {lt:Yd}{xs ys:Yi}{ia ib:Nat}{o:Yj}
theorem Xk {ix:Yi}{i:Nat}(h:i<ix.size):ix.toList.drop i=gx ix i::ix.toList.drop (i+1):=by
 rw[Uu (by simpa using h)]
 congr 1
 unfold gx;rw[Uv h];simp
def Qz {ix:Yi}{i:Nat}(h:i<ix.size):gx ix i∈ix.toList:=by
 simp_all [gx]
def F6 {ix:Yi}{i x:Nat}(h:x∈ix.toList.drop i):∃j,i<=j/\j<ix.size/\x=gx ix j:=by
 obtain⟨j,a,e⟩:=Ju.mp h;rw[List.length_drop] at a;have hz:i+j<ix.size:=by simpa using (show i+j<ix.toList.length from ())
 refine⟨i+j,(),hz,?_⟩
 simp_all [gx]
def MInv.addA {k:Nat}(M:MInv lt xs ys ia ib o)(h:∀c∈(xs.toList.drop ia).take k,∀y∈ys.toList.drop ib,jJ lt c y):MInv lt xs ys (ia+k) ib (o++(xs.toList.drop ia).take k):=by
 have e:xs.toList.drop ia=(xs.toList.drop ia).take k++xs.toList.drop (ia+k):=by rw[<- List.drop_drop,UI]
 have a:=M.a;have b:=M.b;have f:=M.pm;rw[e,<- Ud] at a f;refine⟨a,?_,f⟩;rw[VD] at a b ⊢;refine⟨a.1,b.2.1,λx i y g=>?_⟩;rcases Jb.mp i with z|z
 .exact b.2.2 x z y g
 .exact h x z y g
def MInv.addB {k:Nat}(M:MInv lt xs ys ia ib o)(g:∀c∈(ys.toList.drop ib).take k,∀x∈xs.toList.drop ia,jJ lt c x):MInv lt xs ys ia (ib+k) (o++(ys.toList.drop ib).take k):=by
 have e:ys.toList.drop ib=(ys.toList.drop ib).take k++ys.toList.drop (ib+k):=by rw[<- List.drop_drop,UI]
 have b:=M.a;have a:=M.b;have h:=M.pm;rw[e] at a h;rw[<- Ud] at a;refine⟨?_,a,?_⟩
 .rw[VD] at b a ⊢;refine⟨a.1,b.2.1,λx i y f=>?_⟩;rcases Jb.mp i with z|z
  .exact b.2.2 x z y f
  .exact g x z y f
 .exact by grind
def MInv.doneA (M:MInv lt xs ys ia ib o)(h:ys.size<=ib):zK lt xs ys (o++xs.toList.drop ia++ys.toList.drop ib):=by
 have e:ys.toList.drop ib=[]:=Ve (by simpa using h);refine⟨M.pm,?_⟩;rw[e,ZA];exact M.a
def MInv.doneB (M:MInv lt xs ys ia ib o)(h:xs.size<=ia):zK lt xs ys (o++xs.toList.drop ia++ys.toList.drop ib):=by
 have e:xs.toList.drop ia=[]:=Ve (by simpa using h);refine⟨M.pm,?_⟩;rw[e,ZA];exact M.b
def MInv.last (M:MInv lt xs ys ia ib o)(h:ia+1=xs.size)(a:∀y∈ys.toList,jJ lt y (gx xs ia)):zK lt xs ys (o++ys.toList.drop ib++xs.toList.drop ia):=by
 have e:xs.toList.drop ia=[gx xs ia]:=by
  grind[Xk,List.drop_eq_nil_of_le]
 have b:=M.a;have c:=M.b;refine⟨Vg ?_ M.pm,?_⟩
 .exact by grind
 grind
def MInv.one (W:Wk lt)(M:MInv lt xs ys ia ib o)(a:ib<ys.size)(b:ia<xs.size)(q:lt (gx ys ib) (gx xs ia)=true):MInv lt xs ys ia (ib+1) (o++[gx ys ib]):=by
 have e:(ys.toList.drop ib).take 1=[gx ys ib]:=by rw[Xk a];rfl
 have:=M.addB λc f x g=>by
  rw[e] at f;rw[Je.mp f];have hs:=(VD.mp M.a).2.1;rw[Xk b] at g hs;rcases UV.mp g with z|z
  .rw[z];exact .inl q
  .exact jJ.trans W (.inl q) ((Ji.mp hs).1 x z)
 rwa [e] at this
def MInv.two (W:Wk lt)(f:∀x∈xs.toList,∀y∈ys.toList,x<y)(M:MInv lt xs ys ia ib o)(a:ib<ys.size)(b:ia<xs.size)(q:lt (gx ys ib) (gx xs ia)=false):MInv lt xs ys (ia+1) ib (o++[gx xs ia]):=by
 have e:(xs.toList.drop ia).take 1=[gx xs ia]:=by rw[Xk b];rfl
 have r:jJ lt (gx xs ia) (gx ys ib):=.inr ⟨q,f _ (Qz b) _ (Qz a)⟩;have:=M.addA λc g y h=>by
  rw[e] at g;rw[Je.mp g];have hs:=(VD.mp M.b).2.1;rw[Xk a] at h hs;rcases UV.mp h with z|z
  .rwa [z]
  .exact jJ.trans W r ((Ji.mp hs).1 y z)
 rwa [e] at this
end
def ar (it:Nat->Keyed)(o:Yj):Array Keyed:=(o.map it).toArray
section
variable {it:Nat->Keyed}{o:Yj}{xs ys:Yi}{i j k:Nat}
def F7 {x:Nat}:(ar it o).push (it x)=ar it (o++[x]):=by simp[ar]
def Au:(xs.map it).extract i j=ar it ((xs.toList.take j).drop i):=by
 apply U6;simp[ar,List.drop_take]
def Av {p:Yj}:ar it o++ar it p=ar it (o++p):=by simp[ar]
def F8:(ar it o).reverse=ar it o.reverse:=by simp[ar]
def Aw {x:Nat} : #[it x]=ar it [x]:=by simp[ar]
def fz:(xs.toList.take (i+k)).drop i=(xs.toList.drop i).take k:=by simp_all [List.drop_take]
def OH:(xs.toList.take xs.size).drop i=xs.toList.drop i:=by rw[UQ ()]
def gA:ar it o++(xs.map it).extract i xs.size++(ys.map it).extract j ys.size=ar it (o++xs.toList.drop i++ys.toList.drop j):=by
 simp_all [Au,OH,Av]
theorem Xl (h:xs.toList.Pairwise R)(b:i<j)(a:j<xs.size):R (gx xs i) (gx xs j):=by
 have:=Jj.mp h i j (by simp;lia) (by simpa using a) b;unfold gx;rw[Uv (),Uv a];simpa using this
def C5 {x:Nat}(h:x∈(xs.toList.drop i).take k):∃j,j<k/\i+j<xs.size/\x=gx xs (i+j):=by
 obtain⟨j,a,e⟩:=Ju.mp h;rw[Uf,List.length_drop] at a;have hz:i+j<xs.size:=by grind[Nat.add_lt_of_lt_sub',Nat.lt_of_lt_of_le,Nat.min_le_right]
 refine⟨j,(),hz,?_⟩
 simp_all [gx]
end
structure SEq (s t:SortSt):Prop where
 arr:arrOf t=arrOf s
 kd:kindOf t=kindOf s
 fl:failedOf t=failedOf s
 pd:pendingOf t=pendingOf s
def SEq.refl (s:SortSt):SEq s s:=⟨rfl,rfl,rfl,rfl⟩
theorem SEq.trans {s t u:SortSt}(h:SEq s t)(k:SEq t u):SEq s u:=⟨k.arr.trans h.arr,k.kd.trans h.kd,k.fl.trans h.fl,k.pd.trans h.pd⟩
section
variable {lt:Yd}{xs ys:Yi}{ia ib m:Nat}{o:Yj}(W:Wk lt)
include W
theorem F9 {k:Nat}(a:xs.toList.Pairwise (jJ lt)){n:Nat}(b:ia+n<=xs.size):∀i j,i<j->j<n->be lt false (gx xs (ia+j)) k=true->be lt false (gx xs (ia+i)) k=true:=λi j c e h=>by
 have h:(!lt k (gx xs (ia+j)))=true:=h;show(!lt k (gx xs (ia+i)))=true;cases q:lt k (gx xs (ia+i)) with
 |false=>rfl
 |true =>
  rcases W.neg _ (gx xs (ia+j)) _ q with z|z
  .rw[z] at h;cases h
  grind[jJ.no,Xl]
theorem FB {k:Nat}(a:xs.toList.Pairwise (jJ lt)){n:Nat}(b:ia+n<=xs.size):∀i j,i<j->j<n->be lt true (gx xs (ia+j)) k=true->be lt true (gx xs (ia+i)) k=true:=λi j c e h=>by
 rcases W.neg _ (gx xs (ia+i)) _ h with z|z
 .grind[jJ.no,Xl]
 .exact z
theorem MInv.galA (a:∀x∈xs.toList,∀y∈ys.toList,x<y)(b:ys.toList.Pairwise (jJ lt))(M:MInv lt xs ys ia ib o)(e:ib<ys.size)(h:∀i,i<m->be lt false (gx xs (ia+i)) (gx ys ib)=true):MInv lt xs ys (ia+m) ib (o++(xs.toList.drop ia).take m):=by
 refine M.addA λc f y g=>?_;obtain⟨j,n,hz,rfl⟩:=C5 f;obtain⟨l,s,p,rfl⟩:=F6 g;have q:(!lt (gx ys ib) (gx xs (ia+j)))=true:=h j n;have q:lt (gx ys ib) (gx xs (ia+j))=false:=by simpa using q
 have r:jJ lt (gx xs (ia+j)) (gx ys ib):=.inr ⟨q,a _ (Qz hz) _ (Qz e)⟩;by_cases z:ib=l
 .rwa [<- z]
 .exact jJ.trans W r (Xl b () p)
theorem MInv.galB (f:xs.toList.Pairwise (jJ lt))(M:MInv lt xs ys ia ib o)(g:ia<xs.size)(h:∀i,i<m->be lt true (gx ys (ib+i)) (gx xs ia)=true):MInv lt xs ys ia (ib+m) (o++(ys.toList.drop ib).take m):=by
 refine M.addB λc a y b=>?_;obtain⟨j,e,hz,rfl⟩:=C5 a;obtain⟨l,n,p,rfl⟩:=F6 b;have r:jJ lt (gx ys (ib+j)) (gx xs ia):=.inl (h j e)
 grind[jJ.trans,Xl]
end
section
variable {prog:Program}{w:World}{A:Around}{E:Ya}{s:Shared}{kind:SortKind}{it:Nat->Keyed}{lt:Yd}{N:Nat}{st:SortSt}
structure MH (lt:Yd)(N:Nat)(xs ys:Yi):Prop where
 W:Wk lt
 xn:∀x∈xs.toList,x<N
 yn:∀y∈ys.toList,y<N
 hxy:∀x∈xs.toList,∀y∈ys.toList,x<y
 px:xs.toList.Pairwise (jJ lt)
 py:ys.toList.Pairwise (jJ lt)
abbrev G7 (α β γ: Type):=Option KA × α × β × γ × Nat×Nat×Nat
abbrev G6 (α β γ: Type):=Option KA × α × β × γ × Nat×Nat
abbrev G5 (α β γ: Type):=Option KA × α × β × γ × Nat
def Ax:Nat->SM PUnit:=sortPriv% PySem.Builtin.setMinGallop
def C6 {m:Nat}{a:SortSt}{Q:PUnit->YB}(b:SEq a st)(h:∀s',SEq a s'->Q ⟨⟩ s'):YK prog w A E s (Ax m) Q st:=wpS_modify (h _ (b.trans ⟨rfl,rfl,rfl,rfl⟩))
section
variable {α β γ: Type}(n:Nat)(f:Nat -> α -> β -> γ -> Nat->Nat->SM (ForInStep (G6 α β γ)))(k:α -> β -> γ -> Nat->Nat->Nat->SM (ForInStep (G7 α β γ)))
noncomputable def mC (c:G7 α β γ):SM (ForInStep (G5 α β γ)):=match c.1 with
 |some r=>pure (.done (some r,c.2.1,c.2.2.1,c.2.2.2.1,c.2.2.2.2.1))
 |none=>Ax (c.2.2.2.2.1+1) >>= λ_=>pure (.yield (none,c.2.1,c.2.2.1,c.2.2.2.1,c.2.2.2.2.1+1))
noncomputable def m2 (x:α)(y:β)(z:γ)(mg ac bc:Nat):SM (ForInStep (G7 α β γ)):=if mg > 1 then k x y z ac bc (mg-1) else k x y z ac bc mg
noncomputable def mB (mg:Nat)(c:G6 α β γ):SM (ForInStep (G5 α β γ)):=match c.1 with
 |some r=>pure (.done (some r,c.2.1,c.2.2.1,c.2.2.2.1,mg))
 |none=>(liftM (rule "list.sort.gallop"):SM PUnit) >>= λ_=>(forIn [:n] ((none,c.2.1,c.2.2.1,c.2.2.2.1,mg+1,c.2.2.2.2.1,c.2.2.2.2.2):G7 α β γ) λ_ c=>m2 k c.2.1 c.2.2.1 c.2.2.2.1 c.2.2.2.2.1 c.2.2.2.2.2.1 c.2.2.2.2.2.2) >>= mC
noncomputable def mA (c:G5 α β γ):SM (ForInStep (G5 α β γ)):=
 (forIn [:n] ((none,c.2.1,c.2.2.1,c.2.2.2.1,0,0):G6 α β γ) λ_ d=>f c.2.2.2.2 d.2.1 d.2.2.1 d.2.2.2.1 d.2.2.2.2.1 d.2.2.2.2.2) >>= mB n k c.2.2.2.2
noncomputable def mT (x:α)(y:β)(z:γ):SM KA:=get >>= λs=>(forIn [:n] ((none,x,y,z,gallopOf s):G5 α β γ) λ_ c=>mA n f k c) >>= λc=>match c.1 with
 |some r=>pure r
 |none=>liftM (unsupported "internal:list.sort.merge-bound")
variable {n f k}{P:Nat -> α -> β -> γ -> Prop}{D:KA->Prop}
structure MR (P:α -> β -> γ -> Prop)(D:KA->Prop)(st0:SortSt)(R:ForInStep (G7 α β γ)->YB):Prop where
 dn:∀{v t sy},SEq st0 sy->D v->R (.done (some v,t)) sy
 go:∀{x y z mg ac bc sy},SEq st0 sy->P x y z->R (.done (none,x,y,z,mg,ac,bc)) sy/\R (.yield (none,x,y,z,mg,ac,bc)) sy
def cO {x:α}{y:β}{z:γ}{mg ac bc:Nat}{R:ForInStep (G7 α β γ)->YB}(h:∀mg,YK prog w A E s (k x y z ac bc mg) R st):YK prog w A E s (m2 k x y z mg ac bc) R st:=wi (λ_=>h _) λ_=>h _
def rx {x:α}{y:β}{z:γ}{Q:KA->YB}(m:kindOf st=kind)(o:P 1 x y z)(l:∀{g x y z},P g x y z->1<=n/\g<=n)(le:∀{g g' x y z},P g x y z->g'<=g->P g' x y z)
 (q:∀{g mg x y z ac bc st} {R:ForInStep (G6 α β γ)->YB},kindOf st=kind->P g x y z->(∀{v t},D v->R (.done (some v,t)) st)->(∀{x y z ac bc},P (g+1) x y z->R (.done (none,x,y,z,ac,bc)) st/\R (.yield (none,x,y,z,ac,bc)) st)->YK prog w A E s (f mg x y z ac bc) R st)
 (r:∀{g x y z ac bc mg i R},MR (P g) D st R->SEq st i->P g x y z->YK prog w A E s (k x y z ac bc mg) R i)
 (h:∀{v i},SEq st i->D v->Q v i):YK prog w A E s (mT n f k x y z) Q st:=by
 refine Yo (wpS_get (Yo (Yq (Yr (I:=λg c j=>SEq st j/\c.1=none/\P (g+1) c.2.1 c.2.2.1 c.2.2.2.1) (Q:=λc j=>SEq st j/\∃v,D v/\c.1=some v) ?_ ?_ ⟨.refl _,rfl,o⟩) ?_)))
 .rintro g c j _ _ ⟨a,_,p⟩;refine Yo (Yq (Yr (I:=λy c b=>b=j/\c.1=none/\P (g+1+y) c.2.1 c.2.2.1 c.2.2.2.1) (Q:=λc b=>b=j/\((∃v,D v/\c.1=some v)\/c.1=none/\P (g+2) c.2.1 c.2.2.1 c.2.2.2.1)) ?_ ?_ ⟨rfl,rfl,p⟩) ?_)
  .rintro y c b _ _ ⟨rfl,_,p⟩;exact q (a.kd.trans m) p (λd=>⟨rfl,.inl ⟨_,d,rfl⟩⟩) λp=>⟨⟨rfl,.inr ⟨rfl,le p ()⟩⟩,rfl,rfl,p⟩
  .rintro c b ⟨rfl,e,p⟩;exact⟨rfl,.inr ⟨e,le p (by have:=(l p).1;lia)⟩⟩
  .rintro c b ⟨rfl,⟨v,d,e⟩|⟨e,p⟩⟩
   .unfold mB;rw[e];exact Yp ⟨a,v,d,rfl⟩
   .unfold mB;rw[e];refine Yo (wpS_lift (wpAny_rule ⟨rfl,?_⟩));refine Yo (Yq (Yr (I:=λ_ c b=>SEq st b/\c.1=none/\P (g+2) c.2.1 c.2.2.1 c.2.2.2.1) (Q:=λc b=>SEq st b/\((∃v,D v/\c.1=some v)\/c.1=none/\P (g+2) c.2.1 c.2.2.1 c.2.2.2.1)) ?_ (λc b h=>⟨h.1,.inr h.2⟩) ⟨a,rfl,p⟩) ?_)
    .rintro y c b _ _ ⟨a,_,p⟩;exact cO λ_=>r ⟨λa d=>⟨a,.inl ⟨_,d,rfl⟩⟩,λa p=>⟨⟨a,.inr ⟨rfl,p⟩⟩,a,rfl,p⟩⟩ a p
    .rintro c b ⟨a,⟨v,d,e⟩|⟨e,p⟩⟩
     .unfold mC;rw[e];exact Yp ⟨a,v,d,rfl⟩
     .unfold mC;rw[e];exact Yo (C6 a λb a=>Yp ⟨a,rfl,p⟩)
 .rintro c j ⟨_,_,p⟩;have:=(l p).2;lia
 .rintro c j ⟨a,v,d,e⟩;rw[e];exact Yp (h a d)
end
theorem sz {a:Yi}:(a.map it).size=a.size:=Ul
def bz {a:Yi}{p:Nat}(h:(p == (a.map it).size)=true):p=a.size:=()
def nz {a:Yi}{p:Nat}(h:¬(p == (a.map it).size)=true):p≠a.size:=()
def vp {v:KA}{o:Yj}{x:Nat}(e:v=ar it o):v.push (it x)=ar it (o++[x]):=by rw[e,F7]
def wb {a:Yi}{v:KA}{o:Yj}{i k:Nat}(e:v=ar it o):v++(a.map it).extract i (i+k)=ar it (o++(a.toList.drop i).take k):=by rw[e,Au,fz,Av]
def MD (lt:Yd)(it:Nat->Keyed)(a ys:Yi)(v:KA):Prop:=∃o,zK lt a ys o/\v=ar it o
abbrev L7:=G7 KA Nat Nat
def w6 (a b o:KA)(i j:Nat):KA:=o++a.extract i a.size++b.extract j b.size
def vK (a b o:KA)(i j:Nat):KA:=o++b.extract j b.size++a.extract i a.size
noncomputable def mM (a b:KA)(mg ac bc i:Nat)(o:KA)(j:Nat):SM (ForInStep L7):=
 elem' a i >>= λx=>if(i+1+1 == a.size)=true then pure (.done (some (vK a b (o.push x) (i+1) j),o.push x,i+1,j,mg,ac,bc))
  else if(decide (ac<7)&&decide (bc<7))=true then pure (.done (none,o.push x,i+1,j,mg,ac,bc)) else pure (.yield (none,o.push x,i+1,j,mg,ac,bc))
noncomputable def rz (a b:KA)(mg ac i:Nat)(o:KA)(j k:Nat):SM (ForInStep L7):=
 if k > 0 then if(j+k == b.size)=true then pure (.done (some (w6 a b (o++b.extract j (j+k)) i (j+k)),o++b.extract j (j+k),i,j+k,mg,ac,k))
  else mM a b mg ac k i (o++b.extract j (j+k)) (j+k) else mM a b mg ac k i o j
noncomputable def mO (a b:KA)(mg ac bc j:Nat)(o:KA)(i:Nat):SM (ForInStep L7):=
 elem' b j >>= λx=>if(j+1 == b.size)=true then pure (.done (some (w6 a b (o.push x) i (j+1)),o.push x,i,j+1,mg,ac,bc))
  else elem' a i >>= λy=>Wp true y b (j+1) (b.size-(j+1)) 0 >>= λr=>match r with
   |some k=>rz a b mg ac i (o.push x) (j+1) k
   |_=>pure (.done (some (w6 a b (o.push x) i (j+1)),o.push x,i,j+1,mg,ac,bc))
noncomputable def cP (a b:KA)(bc j:Nat)(o:KA)(i mg k:Nat):SM (ForInStep L7):=
 if k > 0 then if(i+k+1 == a.size)=true then pure (.done (some (vK a b (o++a.extract i (i+k)) (i+k) j),o++a.extract i (i+k),i+k,j,mg,k,bc))
  else if(i+k == a.size)=true then pure (.done (some (w6 a b (o++a.extract i (i+k)) (i+k) j),o++a.extract i (i+k),i+k,j,mg,k,bc))
  else mO a b mg k bc j (o++a.extract i (i+k)) (i+k) else mO a b mg k bc j o i
noncomputable def r0 (a b o:KA)(i j ac bc mg:Nat):SM (ForInStep L7):=
 Ax mg >>= λ_=>elem' b j >>= λx=>Wp false x a i (a.size-i) 0 >>= λr=>match r with
  |some k=>cP a b bc j o i mg k
  |_=>pure (.done (some (w6 a b o i j),o,i,j,mg,ac,bc))
noncomputable def zV (a b:KA)(mg:Nat)(o:KA)(i j ac bc:Nat):SM (ForInStep (G6 KA Nat Nat)):=
 elem' b j >>= λx=>elem' a i >>= λy=>lt' x y >>= λr=>match r with
  |some t=>if t=true then elem' b j >>= λx=>if(j+1 == b.size)=true then pure (.done (some (w6 a b (o.push x) i (j+1)),o.push x,i,j+1,0,bc+1))
   else if bc+1 ≥ mg then pure (.done (none,o.push x,i,j+1,0,bc+1)) else pure (.yield (none,o.push x,i,j+1,0,bc+1))
   else elem' a i >>= λx=>if(i+1+1 == a.size)=true then pure (.done (some (vK a b (o.push x) (i+1) j),o.push x,i+1,j,ac+1,0))
    else if ac+1 ≥ mg then pure (.done (none,o.push x,i+1,j,ac+1,0)) else pure (.yield (none,o.push x,i+1,j,ac+1,0))
  |_=>pure (.done (some (w6 a b o i j),o,i,j,ac,bc))
set_option smartUnfolding false in
noncomputable def kG {a b:KA}:C1 a b=((liftM (rule "list.sort.merge-lo"):SM PUnit) >>= λ_=>elem' b 0 >>= λx=>if(1 == b.size)=true then pure (w6 a b #[x] 0 1) else if(0+1 == a.size)=true then pure (vK a b #[x] 0 1)
 else mT (a.size+b.size) (zV a b) (r0 a b) #[x] 0 1):=rfl
end
structure LI (lt:Yd)(xs ys:Yi)(g i j:Nat)(o:Yj):Prop where
 M:MInv lt xs ys i j o
 a:i+1<xs.size
 b:j<ys.size
 g:g<=i+j
def LP (lt:Yd)(it:Nat->Keyed)(a ys:Yi)(g:Nat)(v:KA)(i j:Nat):Prop:=∃o,LI lt a ys g i j o/\v=ar it o
section
variable {prog:Program}{w:World}{A:Around}{E:Ya}{s:Shared}{kind:SortKind}{it:Nat->Keyed}{lt:Yd}{N:Nat}{st st0:SortSt}{xs ys:Yi}{g mg ac bc i j k:Nat}{o:Yj}{v:KA}{R:ForInStep L7->YB}
def Y3 (e:v=ar it o):w6 (xs.map it) (ys.map it) v i j=ar it (o++xs.toList.drop i++ys.toList.drop j):=by
 unfold w6;rw[sz,sz,e,gA]
def Ay (e:v=ar it o):vK (xs.map it) (ys.map it) v i j=ar it (o++ys.toList.drop j++xs.toList.drop i):=by
 unfold vK;rw[sz,sz,e,gA]
variable (lst:∀y∈ys.toList,jJ lt y (gx xs (xs.size-1)))
include lst
theorem hV (M:MInv lt xs ys i j o)(z:i+1=xs.size):zK lt xs ys (o++ys.toList.drop j++xs.toList.drop i):=M.last z ()
variable (H:MH lt N xs ys)(L:LI lt xs ys g i j o)(e:v=ar it o)
include H L e
section
variable (C:MR (LP lt it xs ys g) (MD lt it xs ys) st0 R)(se:SEq st0 st)
include C se
theorem kH (q:lt (gx ys j) (gx xs i)=false):YK prog w A E s (mM (xs.map it) (ys.map it) mg ac bc i v j) R st:=by
 have a:=UU L.a;refine Yo (Qr a ?_);have M2:=L.M.two H.W H.hxy L.b a q;refine wi (λz=>Yp (C.dn se ⟨_,hV lst M2 (bz z),Ay (vp e)⟩)) λz=>?_;have b:=C.go (mg:=mg) (ac:=ac) (bc:=bc) se ⟨_,⟨M2,UB L.a (nz z),L.b,by have:=L.g;lia⟩,vp e⟩;exact wi (λ_=>Yp b.1) λ_=>Yp b.2
theorem mJ (k2:j+k<=ys.size)(k3:∀m,m<k->be lt true (gx ys (j+m)) (gx xs i)=true)(q:j+k<ys.size->lt (gx ys (j+k)) (gx xs i)=false):YK prog w A E s (rz (xs.map it) (ys.map it) mg ac i v j k) R st:=by
 refine wi (λk0=>?_) λk0=>?_
 .have a:=L.M.galB H.W H.px (UU L.a) k3;refine wi (λz=>Yp (C.dn se ⟨_,a.doneA (Yx (bz z).symm),Y3 (wb e)⟩)) λz=>?_;have b:j+k<ys.size:=UB k2 (nz z);exact kH lst H ⟨a,L.a,b,by have:=L.g;lia⟩ (wb e) C se (q b)
 .have c:k=0:=Nat.eq_zero_of_not_pos k0;subst c;exact kH lst H L e C se (q L.b)
variable (O:yp prog w A s kind it lt N)(kd:kindOf st0=kind)
include O kd
theorem kI (q:lt (gx ys j) (gx xs i)=true):YK prog w A E s (mO (xs.map it) (ys.map it) mg ac bc j v i) R st:=by
 have a:=UU L.a;refine Yo (Qr L.b ?_);have c:=L.M.one H.W L.b a q;refine wi (λz=>Yp (C.dn se ⟨_,c.doneA (),Y3 (vp e)⟩)) λz=>?_;have b:=UB L.b (nz z);have z:(ys.map it).size=ys.size:=sz;exact Yo (Qr a (Yo (Xj O (se.kd.trans kd) (H.xn _ (Qz a)) () (λi h=>H.yn _ (Qz ())) () (FB H.W H.py ()) λk k2 k3 f=>(mJ lst H ⟨c,L.a,b,by have:=L.g;lia⟩ (vp e) C se () k3 λy=>f k (Zf _) ()))))
theorem mK:YK prog w A E s (r0 (xs.map it) (ys.map it) v i j ac bc mg) R st:=by
 have a:=L.a;have z:(xs.map it).size=xs.size:=sz;refine Yo (C6 se λst se=>Yo (Qr L.b (Yo (Xj O (se.kd.trans kd) (H.yn _ (Qz L.b)) () (λi h=>H.xn _ (Qz ())) () (F9 H.W H.px ()) λk k2 k3 f=>?_))));have q:=λhz=>by
  have:(!lt (gx ys j) (gx xs (i+k)))=false:=f k (Zf _) ();simpa using this
 refine wi (λk0=>?_) λk0=>?_
 .have M2:=L.M.galA H.W H.hxy H.py L.b k3;refine wi (λz=>Yp (C.dn se ⟨_,hV lst M2 (bz z),Ay (wb e)⟩)) λb=>wi (λz=>Yp (C.dn se ⟨_,M2.doneB (),Y3 (wb e)⟩)) λc=>?_;have b:=nz b;have c:=nz c;exact kI lst H ⟨M2,(),L.b,by have:=L.g;lia⟩ (wb e) C se O kd (q ())
 grind[kI]
end
theorem mL {R:ForInStep (G6 KA Nat Nat)->YB}(O:yp prog w A s kind it lt N)(f:kindOf st=kind)(c:∀{v t},MD lt it xs ys v->R (.done (some v,t)) st)(go:∀{v i j ac bc},LP lt it xs ys (g+1) v i j->R (.done (none,v,i,j,ac,bc)) st/\R (.yield (none,v,i,j,ac,bc)) st):
 YK prog w A E s (zV (xs.map it) (ys.map it) mg v i j ac bc) R st:=by
 have a:=UU L.a;refine Yo (Qr L.b (Yo (Qr a (Yo (Y2 O f (H.yn _ (Qz L.b)) (H.xn _ (Qz a)) (wi (λq=>Yo (Qr L.b ?_)) λq=>Yo (Qr a ?_)))))))
 .have M2:=L.M.one H.W L.b a q;refine wi (λz=>Yp (c ⟨_,M2.doneA (),Y3 (vp e)⟩)) λz=>?_;have b:=go (ac:=0) (bc:=bc+1) ⟨_,⟨M2,L.a,UB L.b (nz z),Vt L.g⟩,vp e⟩;exact wi (λ_=>Yp b.1) λ_=>Yp b.2
 .have M2:=L.M.two H.W H.hxy L.b a ();refine wi (λz=>Yp (c ⟨_,hV lst M2 (bz z),Ay (vp e)⟩)) λz=>?_;have b:=go (ac:=ac+1) (bc:=0) ⟨_,⟨M2,UB L.a (nz z),L.b,by have:=L.g;lia⟩,vp e⟩;exact wi (λ_=>Yp b.1) λ_=>Yp b.2
end
section
variable {prog:Program}{w:World}{A:Around}{E:Ya}{s:Shared}{kind:SortKind}{it:Nat->Keyed}{lt:Yd}{N:Nat}{st:SortSt}{xs ys:Yi}
def OI {Q:Array Keyed->YB}(H:MH lt N xs ys)(O:yp prog w A s kind it lt N)(b:kindOf st=kind)(l:1<=xs.size)(g:1<=ys.size)(c:lt (gx ys 0) (gx xs 0)=true)(lst:∀y∈ys.toList,jJ lt y (gx xs (xs.size-1)))
 (h:∀o a,SEq st a->zK lt xs ys o->Q (ar it o) a):YK prog w A E s (C1 (xs.map it) (ys.map it)) Q st:=by
 have M1:MInv lt xs ys 0 1 [gx ys 0]:=(MInv.one (o:=[]) (ia:=0) (ib:=0) H.W ⟨H.px,H.py,Vh _⟩ g l c);rw[kG];refine Yo (wpS_lift (wpAny_rule ⟨rfl,Yo (Qr g (wi (λz=>?_) λi=>wi (λz=>?_) λj=>?_))⟩))
 .rw[Y3 Aw];exact Yp (h _ _ (.refl _) (M1.doneA ()))
 .rw[Ay Aw];exact Yp (h _ _ (.refl _) (hV lst M1 (bz z)))
 have i:=nz i;have j:=nz j;have n:LI lt xs ys 1 0 1 [gx ys 0]:=⟨M1,(),(),()⟩;have q:(xs.map it).size=xs.size:=sz;have r:(ys.map it).size=ys.size:=sz;exact rx (P:=LP lt it xs ys) b ⟨_,n,Aw⟩ (λp=>by
  obtain⟨_,L,_⟩:=p;have:=L.a;have:=L.b;have:=L.g;lia) (λ⟨o,L,e⟩ h=>⟨o,⟨L.M,L.a,L.b,Zh h L.g⟩,e⟩) (λb ⟨_,L,e⟩ dn go=>mL lst H L e O b dn go) (λC f ⟨_,L,e⟩=>mK lst H L e C f O b) λf ⟨o,m,e⟩=>by rw[e];exact h o _ f m
end
structure MInvH (lt:Yd)(xs ys:Yi)(na nb:Nat)(o:Yj):Prop where
 a:(xs.toList.take na++o).Pairwise (jJ lt)
 b:(ys.toList.take nb++o).Pairwise (jJ lt)
 pm:(xs.toList.take na++ys.toList.take nb++o).Perm (xs.toList++ys.toList)
section
variable {it:Nat->Keyed}{o:Yj}{xs ys:Yi}{i j k:Nat}
def OJ {x:Nat}:(ar it o.reverse).push (it x)=ar it (x::o).reverse:=by rw[F7,List.reverse_cons]
def OK {p:Yj}:ar it o.reverse++(ar it p).reverse=ar it (p++o).reverse:=by rw[F8,Av,List.reverse_append]
def nh:(xs.map it).extract 0 i++(ys.map it).extract 0 j++(ar it o.reverse).reverse=ar it (xs.toList.take i++ys.toList.take j++o):=by
 simp_all [Au,F8,Av]
def FC (h:i<=j):xs.toList.take j=xs.toList.take i++(xs.toList.take j).drop i:=by
 grind[List.take_append_drop]
def C7 {x:Nat}(h:x∈(xs.toList.take j).drop i):∃l,i<=l/\l<j/\l<xs.size/\x=gx xs l:=by
 obtain⟨m,a,e⟩:=Ju.mp h;rw[List.length_drop,Uf] at a;have hz:i+m<xs.size:=by simpa using (show i+m<xs.toList.length from ())
 refine⟨i+m,(),(),hz,?_⟩
 simp_all [gx]
def C8 (h:j<=xs.size)(a:1<=j):(xs.toList.take j).drop (j-1)=[gx xs (j-1)]:=by
 grind[List.drop_take,Xk]
def FD {x:Nat}(h:x∈xs.toList.take j):∃l,l<j/\l<xs.size/\x=gx xs l:=have ⟨l,_,a,b,c⟩:=C7 (i:=0) (by simpa using h);⟨l,a,b,c⟩
end
section
variable {lt:Yd}{xs ys:Yi}{na nb m:Nat}{o:Yj}
def MInvH.addA (M:MInvH lt xs ys na nb o)(f:m<=na)(g:∀c∈(xs.toList.take na).drop m,∀y∈ys.toList.take nb,jJ lt y c):MInvH lt xs ys m nb ((xs.toList.take na).drop m++o):=by
 have a:=M.a;have b:=M.b;have h:=M.pm;rw[(FC f)] at a h;rw[Ud] at a;refine⟨a,?_,?_⟩
 .rw[VD] at a b ⊢;refine⟨b.1,a.2.1,λy e x i=>?_⟩;rcases Jb.mp i with z|z
  .exact g x z y e
  .exact b.2.2 y e x z
 .exact by grind
def MInvH.addB (M:MInvH lt xs ys na nb o)(g:m<=nb)(h:∀c∈(ys.toList.take nb).drop m,∀x∈xs.toList.take na,jJ lt x c):MInvH lt xs ys na m ((ys.toList.take nb).drop m++o):=by
 have b:=M.a;have a:=M.b;have e:=M.pm;rw[(FC g)] at a e;rw[Ud] at a;refine⟨?_,a,?_⟩
 .rw[VD] at b a ⊢;refine⟨b.1,a.2.1,λy f x i=>?_⟩;rcases Jb.mp i with z|z
  .exact h x z y f
  .exact b.2.2 y f x z
 .refine Vg ?_ e;rw[Ud,Ud,Ud]
def MInvH.doneA (M:MInvH lt xs ys na nb o)(h:na=0):zK lt xs ys (xs.toList.take na++ys.toList.take nb++o):=by
 refine⟨M.pm,?_⟩;rw[h,List.take_zero,List.nil_append];exact M.b
def MInvH.doneB (M:MInvH lt xs ys na nb o)(h:nb=0):zK lt xs ys (xs.toList.take na++ys.toList.take nb++o):=by
 refine⟨M.pm,?_⟩;rw[h,List.take_zero,ZA];exact M.a
def MInvH.first (M:MInvH lt xs ys na nb o)(h:nb=1)(a:1<=ys.size)(b:∀x∈xs.toList,jJ lt (gx ys 0) x):zK lt xs ys (ys.toList.take nb++xs.toList.take na++o):=by
 have c:=M.a;have f:=M.b;have e:ys.toList.take 1=[gx ys 0]:=by
  have:=C8 a (Zf _);simpa using this
 refine⟨Vg () M.pm,?_⟩
 grind
variable (W:Wk lt)
include W
theorem MInvH.galA (n:ys.toList.Pairwise (jJ lt))(M:MInvH lt xs ys na nb o)(a:m<=na)(p:1<=nb)(q:nb<=ys.size)(h:∀i,m<=i->i<na->lt (gx ys (nb-1)) (gx xs i)=true):MInvH lt xs ys m nb ((xs.toList.take na).drop m++o):=by
 refine M.addA a λc b y e=>?_;obtain⟨j,f,g,s,rfl⟩:=C7 b;obtain⟨l,t,u,rfl⟩:=FD e;have r:jJ lt (gx ys (nb-1)) (gx xs j):=.inl (h j f g)
 grind[jJ.trans,Xl]
theorem MInvH.galB (a:∀x∈xs.toList,∀y∈ys.toList,x<y)(q:xs.toList.Pairwise (jJ lt))(M:MInvH lt xs ys na nb o)(b:m<=nb)(s:1<=na)(t:na<=xs.size)(h:∀i,m<=i->i<nb->lt (gx ys i) (gx xs (na-1))=false):MInvH lt xs ys na m ((ys.toList.take nb).drop m++o):=by
 refine M.addB b λc e x f=>?_;obtain⟨j,g,n,p,rfl⟩:=C7 e;obtain⟨l,u,v,rfl⟩:=FD f;have r:jJ lt (gx xs (na-1)) (gx ys j):=.inr ⟨h j g n,a _ (Qz ()) _ (Qz p)⟩
 grind[jJ.trans,Xl]
theorem MInvH.one (a:ys.toList.Pairwise (jJ lt))(M:MInvH lt xs ys na nb o)(b:1<=na)(c:na<=xs.size)(e:1<=nb)(f:nb<=ys.size)(q:lt (gx ys (nb-1)) (gx xs (na-1))=true):MInvH lt xs ys (na-1) nb (gx xs (na-1)::o):=by
 have:=M.galA (m:=na-1) W a () e f ()
 rwa [C8 c b] at this
theorem MInvH.two (a:∀x∈xs.toList,∀y∈ys.toList,x<y)(b:xs.toList.Pairwise (jJ lt))(M:MInvH lt xs ys na nb o)(c:1<=na)(e:na<=xs.size)(f:1<=nb)(g:nb<=ys.size)(q:lt (gx ys (nb-1)) (gx xs (na-1))=false):MInvH lt xs ys na (nb-1) (gx ys (nb-1)::o):=by
 have:=M.galB (m:=nb-1) W a b () c e ()
 rwa [C8 g f] at this
end
abbrev H7:=G7 Nat Nat KA
def zj (a b:KA)(i j:Nat)(o:KA):KA:=a.extract 0 i++b.extract 0 j++o.reverse
noncomputable def mW (a b:KA)(mg ac bc i j:Nat)(o:KA):SM (ForInStep H7):=
 elem' a (i-1) >>= λx=>if(i-1 == 0)=true then pure (.done (some (zj a b (i-1) j (o.push x)),i-1,j,o.push x,mg,ac,bc))
  else if(decide (ac<7)&&decide (bc<7))=true then pure (.done (none,i-1,j,o.push x,mg,ac,bc)) else pure (.yield (none,i-1,j,o.push x,mg,ac,bc))
noncomputable def r8 (a b:KA)(mg ac i j:Nat)(o:KA)(t:Nat):SM (ForInStep H7):=
 if j-t > 0 then if(t == 1)=true then pure (.done (some (zj b a t i (o++(b.extract t j).reverse)),i,t,o++(b.extract t j).reverse,mg,ac,j-t))
  else if(t == 0)=true then pure (.done (some (zj a b i t (o++(b.extract t j).reverse)),i,t,o++(b.extract t j).reverse,mg,ac,j-t))
  else mW a b mg ac (j-t) i t (o++(b.extract t j).reverse) else mW a b mg ac (j-t) i j o
noncomputable def mX (a b:KA)(mg ac bc j i:Nat)(o:KA):SM (ForInStep H7):=
 elem' b (j-1) >>= λx=>if(j-1 == 1)=true then pure (.done (some (zj b a (j-1) i (o.push x)),i,j-1,o.push x,mg,ac,bc))
  else elem' a (i-1) >>= λy=>Wp true y b 0 (j-1) (j-1-1) >>= λr=>match r with
   |some t=>r8 a b mg ac i (j-1) (o.push x) t
   |_=>pure (.done (some (zj a b i (j-1) (o.push x)),i,j-1,o.push x,mg,ac,bc))
noncomputable def cQ (a b:KA)(bc j i:Nat)(o:KA)(mg t:Nat):SM (ForInStep H7):=
 if i-t > 0 then if(t == 0)=true then pure (.done (some (zj a b t j (o++(a.extract t i).reverse)),t,j,o++(a.extract t i).reverse,mg,i-t,bc))
  else mX a b mg (i-t) bc j t (o++(a.extract t i).reverse) else mX a b mg (i-t) bc j i o
noncomputable def r9 (a b:KA)(i j:Nat)(o:KA)(ac bc mg:Nat):SM (ForInStep H7):=
 Ax mg >>= λ_=>elem' b (j-1) >>= λx=>Wp false x a 0 i (i-1) >>= λr=>match r with
  |some t=>cQ a b bc j i o mg t
  |_=>pure (.done (some (zj a b i j o),i,j,o,mg,ac,bc))
noncomputable def hW (a b:KA)(mg i j:Nat)(o:KA)(ac bc:Nat):SM (ForInStep (G6 Nat Nat KA)):=
 elem' b (j-1) >>= λx=>elem' a (i-1) >>= λy=>lt' x y >>= λr=>match r with
  |some t=>if t=true then elem' a (i-1) >>= λx=>if(i-1 == 0)=true then pure (.done (some (zj a b (i-1) j (o.push x)),i-1,j,o.push x,ac+1,0))
   else if ac+1 ≥ mg then pure (.done (none,i-1,j,o.push x,ac+1,0)) else pure (.yield (none,i-1,j,o.push x,ac+1,0))
   else elem' b (j-1) >>= λx=>if(j-1 == 1)=true then pure (.done (some (zj b a (j-1) i (o.push x)),i,j-1,o.push x,0,bc+1))
    else if bc+1 ≥ mg then pure (.done (none,i,j-1,o.push x,0,bc+1)) else pure (.yield (none,i,j-1,o.push x,0,bc+1))
  |_=>pure (.done (some (zj a b i j o),i,j,o,ac,bc))
set_option smartUnfolding false in
noncomputable def kO {a b:KA}:C4 a b=((liftM (rule "list.sort.merge-hi"):SM PUnit) >>= λ_=>elem' a (a.size-1) >>= λx=>if(a.size-1 == 0)=true then pure (zj a b (a.size-1) b.size #[x]) else if(b.size == 1)=true then pure (zj b a b.size (a.size-1) #[x])
 else mT (a.size+b.size) (hW a b) (r9 a b) (a.size-1) b.size #[x]):=rfl
structure HI (lt:Yd)(xs ys:Yi)(g i j:Nat)(o:Yj):Prop where
 M:MInvH lt xs ys i j o
 a:1<=i
 b:2<=j
 ax:i<=xs.size
 bx:j<=ys.size
 g:g+i+j<=xs.size+ys.size
def HL (lt:Yd)(it:Nat->Keyed)(a ys:Yi)(g i j:Nat)(v:KA):Prop:=∃o,HI lt a ys g i j o/\v=ar it o.reverse
section
variable {prog:Program}{w:World}{A:Around}{E:Ya}{s:Shared}{kind:SortKind}{it:Nat->Keyed}{lt:Yd}{N:Nat}{st st0:SortSt}{xs ys:Yi}{g mg ac bc i j k t:Nat}{o:Yj}{v:KA}{R:ForInStep H7->YB}
def V4 (e:v=ar it o.reverse):zj (xs.map it) (ys.map it) i j v=ar it (xs.toList.take i++ys.toList.take j++o):=by
 unfold zj;rw[e,nh]
def yM {x:Nat}(e:v=ar it o.reverse):v.push (it x)=ar it (x::o).reverse:=by rw[e,OJ]
def wc (e:v=ar it o.reverse):v++((xs.map it).extract t i).reverse=ar it ((xs.toList.take i).drop t++o).reverse:=by rw[e,Au,OK]
variable (fst:∀x∈xs.toList,jJ lt (gx ys 0) x)(H:MH lt N xs ys)(L:HI lt xs ys g i j o)(e:v=ar it o.reverse)
include fst H L e
section
variable (C:MR (HL lt it xs ys g) (MD lt it xs ys) st0 R)(se:SEq st0 st)
include C se
theorem kP (q:lt (gx ys (j-1)) (gx xs (i-1))=true):YK prog w A E s (mW (xs.map it) (ys.map it) mg ac bc i j v) R st:=by
 have a:=L.a;have c:=L.ax;refine Yo (Qr () ?_);have M2:=L.M.one H.W H.py a c (Uw L.b) L.bx q;refine wi (λz=>Yp (C.dn se ⟨_,M2.doneA (Ys.mp z),V4 (yM e)⟩)) λz=>?_;have b:=C.go (mg:=mg) (ac:=ac) (bc:=bc) se ⟨_,⟨M2,(),L.b,(),L.bx,by have:=L.g;lia⟩,yM e⟩;exact wi (λ_=>Yp b.1) λ_=>Yp b.2
theorem mS (f:t<=j)(p:∀m,t<=m->m<j->lt (gx ys m) (gx xs (i-1))=false)(q:1<=t->lt (gx ys (t-1)) (gx xs (i-1))=true):YK prog w A E s (r8 (xs.map it) (ys.map it) mg ac i j v t) R st:=by
 have b:=L.b;have c:=L.bx;refine wi (λk0=>?_) λk0=>?_
 .have a:=L.M.galB (m:=t) H.W H.hxy H.px f L.a L.ax p;refine wi (λz=>Yp (C.dn se ⟨_,a.first (Ys.mp z) () fst,V4 (wc e)⟩)) λh=>wi (λz=>Yp (C.dn se ⟨_,a.doneB (Ys.mp z),V4 (wc e)⟩)) λl=>?_;have n:2<=t:=by
   have h:t≠1:=λy=>h (Ys.mpr y);have l:t≠0:=λy=>l (Ys.mpr y);lia
  exact kP fst H ⟨a,L.a,n,L.ax,Zh f c,by have:=L.g;lia⟩ (wc e) C se (q (Uw n))
 .have r:t=j:=()
  subst r;exact kP fst H L e C se (q (Uw b))
variable (O:yp prog w A s kind it lt N)(kd:kindOf st0=kind)
include O kd
theorem kQ (q:lt (gx ys (j-1)) (gx xs (i-1))=false):YK prog w A E s (mX (xs.map it) (ys.map it) mg ac bc j i v) R st:=by
 have a:=L.a;have b:=L.b;have c:=L.bx;have f:=L.ax;refine Yo (Qr () ?_);have h:=L.M.two H.W H.hxy H.px a f (Uw b) c q;refine wi (λz=>Yp (C.dn se ⟨_,h.first (Ys.mp z) () fst,V4 (yM e)⟩)) λz=>?_;have z:j-1≠1:=λy=>z (Ys.mpr y);have p:i-1<xs.size:=()
 refine Yo (Qr p (Yo (Xj O (se.kd.trans kd) (H.xn _ (Qz p)) () (λi r=>H.yn _ (Qz ())) () (FB H.W H.py ()) λt n l m=>?_)));simp only[Vi] at l m;exact mS fst H ⟨h,a,(),f,(),by have:=L.g;lia⟩ (yM e) C se n m λy=>l (t-1) (Nat.sub_lt y Yw)
theorem mU:YK prog w A E s (r9 (xs.map it) (ys.map it) i j v ac bc mg) R st:=by
 have a:=L.a;have b:=L.b;have c:=L.bx;have r:=L.ax;have p:j-1<ys.size:=()
 refine Yo (C6 se λst se=>Yo (Qr p (Yo (Xj O (se.kd.trans kd) (H.yn _ (Qz p)) () (λi F=>H.xn _ (Qz ())) () (F9 H.W H.px ()) λt f h l=>?_))));simp only[Vi] at h l;have q:1<=t->lt (gx ys (j-1)) (gx xs (t-1))=false:=λhz=>by
  have:(!lt (gx ys (j-1)) (gx xs (t-1)))=true:=h (t-1) (Nat.sub_lt hz Yw);simpa using this
 refine wi (λk0=>?_) λk0=>?_
 .have M2:=L.M.galA (m:=t) H.W H.py f (Uw b) c λi u x=>by
   have:(!lt (gx ys (j-1)) (gx xs i))=false:=l i u x;simpa using this
  refine wi (λz=>Yp (C.dn se ⟨_,M2.doneA (Ys.mp z),V4 (wc e)⟩)) λz=>?_;have n:1<=t:=Nat.pos_of_ne_zero λy=>z (Ys.mpr y);exact kQ fst H ⟨M2,n,b,Zh f r,c,by have:=L.g;lia⟩ (wc e) C se O kd (q n)
 .have B:t=i:=()
  subst B;exact kQ fst H L e C se O kd (q a)
end
theorem mV {R:ForInStep (G6 Nat Nat KA)->YB}(O:yp prog w A s kind it lt N)(p:kindOf st=kind)(n:∀{v t},MD lt it xs ys v->R (.done (some v,t)) st)(go:∀{i j v ac bc},HL lt it xs ys (g+1) i j v->R (.done (none,i,j,v,ac,bc)) st/\R (.yield (none,i,j,v,ac,bc)) st):
 YK prog w A E s (hW (xs.map it) (ys.map it) mg i j v ac bc) R st:=by
 have a:=L.a;have b:=L.b;have c:=L.bx;have m:=L.ax;have r:=L.g;have h:i-1<xs.size:=()
 have l:j-1<ys.size:=()
 refine Yo (Qr l (Yo (Qr h (Yo (Y2 O p (H.yn _ (Qz l)) (H.xn _ (Qz h)) (wi (λq=>Yo (Qr h ?_)) λq=>Yo (Qr l ?_)))))))
 .have M2:=L.M.one H.W H.py a m (Uw b) c q;refine wi (λz=>Yp (n ⟨_,M2.doneA (Ys.mp z),V4 (yM e)⟩)) λz=>?_;have f:=go (ac:=ac+1) (bc:=0) ⟨_,⟨M2,(),b,Zz h,c,()⟩,yM e⟩;exact wi (λ_=>Yp f.1) λ_=>Yp f.2
 .have M2:=L.M.two H.W H.hxy H.px a m (Uw b) c (Yu.mpr q);refine wi (λz=>Yp (n ⟨_,M2.first (Ys.mp z) () fst,V4 (yM e)⟩)) λz=>?_;have f:=go (ac:=0) (bc:=bc+1) ⟨_,⟨M2,a,(),m,Zz l,()⟩,yM e⟩;exact wi (λ_=>Yp f.1) λ_=>Yp f.2
end
section
variable {prog:Program}{w:World}{A:Around}{E:Ya}{s:Shared}{kind:SortKind}{it:Nat->Keyed}{lt:Yd}{N:Nat}{st:SortSt}{xs ys:Yi}
def OL {Q:Array Keyed->YB}(H:MH lt N xs ys)(O:yp prog w A s kind it lt N)(c:kindOf st=kind)(j:1<=xs.size)(i:1<=ys.size)(a:∀x∈xs.toList,jJ lt (gx ys 0) x)(lst:lt (gx ys (ys.size-1)) (gx xs (xs.size-1))=true)
 (h:∀o b,SEq st b->zK lt xs ys o->Q (ar it o) b):YK prog w A E s (C4 (xs.map it) (ys.map it)) Q st:=by
 have M1:MInvH lt xs ys (xs.size-1) ys.size [gx xs (xs.size-1)]:=by
  refine MInvH.one (o:=[]) (na:=xs.size) (nb:=ys.size) H.W H.py ⟨?_,?_,?_⟩ j (Zf _) i (Zf _) lst
  .rw[UQ (),ZA];exact H.px
  .rw[UQ (),ZA];exact H.py
  grind[List.append_nil,List.take_of_length_le]
 rw[kO,sz,sz];have p:xs.size-1<xs.size:=()
 have f: #[it (gx xs (xs.size-1))]=ar it [gx xs (xs.size-1)].reverse:=Aw;refine Yo (wpS_lift (wpAny_rule ⟨rfl,Yo (Qr p ?_)⟩));refine wi (λz=>?_) λl=>wi (λz=>?_) λn=>?_
 .rw[V4 f];exact Yp (h _ _ (.refl _) (M1.doneA (Ys.mp z)))
 .rw[V4 f];exact Yp (h _ _ (.refl _) (M1.first (Ys.mp z) i a))
 have l:xs.size-1≠0:=by grind
 have n:ys.size≠1:=by grind
 have q:HI lt xs ys 1 (xs.size-1) ys.size [gx xs (xs.size-1)]:=⟨M1,(),(),(),(),()⟩;exact rx (P:=HL lt it xs ys) c ⟨_,q,f⟩ (λr=>by
  obtain⟨_,L,_⟩:=r;have:=L.g;lia) (λ⟨o,L,e⟩ h=>⟨o,⟨L.M,L.a,L.b,L.ax,L.bx,by have:=L.g;lia⟩,e⟩) (λc ⟨_,L,e⟩ dn go=>mV a H L e O c dn go) (λC g ⟨_,L,e⟩=>mU a H L e C g O c) λg ⟨o,m,e⟩=>by rw[e];exact h o _ g m
end
theorem FF {α: Type}(k:Nat):∀(l:List α) (i:Nat) (a:Array α),k+i+l.length<=a.size->((l.zipIdx i).foldl (λa (p:α × Nat)=>a.setIfInBounds (k+p.2) p.1) a).toList=a.toList.take (k+i)++l++a.toList.drop (k+i+l.length)
 | [],i,a,h=>by simp
 |x::r,i,a,h=>by
  rw[Zu] at h;rw[List.zipIdx_cons,U4,FF k r (i+1) _ (by rw[Array.size_setIfInBounds];lia),Array.toList_setIfInBounds,Zu];have b:(a.toList.set (k+i) x).take (k+(i+1))=a.toList.take (k+i)++[x]:=by
   rw[show k+(i+1)=(k+i)+1 by lia,Vr,List.take_set_of_le (Zf _),UT (by simp;lia)];rfl
  grind[List.append_assoc,List.drop_set_of_lt]
def FG {α β: Type}(f:α -> β)(a:Array α)(i j:Nat):(a.map f).extract i j=(a.extract i j).map f:=()
theorem Y4 {ix:Yi}{i j a:Nat}(h:i+a<j)(b:j<=ix.size):gx (ix.extract i j) a=gx ix (i+a):=by
 unfold gx;rw[VR,Zd ()]
section
variable {prog:Program}{w:World}{A:Around}{E:Ya}{s:Shared}{kind:SortKind}{it:Nat->Keyed}{lt:Yd}{st:SortSt}{n:Nat}
def OM {a:SortSt}{Q:PUnit->YB}(h:Q ⟨⟩ a):YK prog w A E s (set a:StateT SortSt Sem PUnit) Q st:=Zb ⟨rfl,h⟩
theorem Wq {ix:Yi}{i j x:Nat}(a:j<=ix.size)(h:x∈(ix.extract i j).toList):∃l,i<=l/\l<j/\x=gx ix l:=by
 rw[Array.toList_extract,VS] at h;obtain⟨l,b,c,e⟩:=C5 h
 grind
def FH {ix:Yi}{R:Nat->Nat->Prop}{i j:Nat}(g:j<=ix.size)(h:∀a b,i<=a->a<b->b<j->R (gx ix a) (gx ix b)):(ix.extract i j).toList.Pairwise R:=by
 rw[List.pairwise_iff_getElem];have e:∀c (f:c<(ix.extract i j).toList.length),c<j-i->(ix.extract i j).toList[c]=gx ix (i+c):=λc f h=>by
  grind[gx,sz,Y4,Array.getElem?_eq_getElem]
 grind
def ON {x y k:Nat}(W:Wk lt)(b:jJ lt x y)(h:be lt false y k=true):be lt false x k=true:=by
 have h:(!lt k y)=true:=h;show(!lt k x)=true;cases q:lt k x with
 |false=>rfl
 |true =>
  rcases W.neg _ y _ q with z|z
  .rw[z] at h;cases h
  .rw[(jJ.no W b)] at z;cases z
def OO {x y k:Nat}(W:Wk lt)(b:jJ lt x y)(h:be lt true y k=true):be lt true x k=true:=by
 rcases W.neg _ x _ h with z|z
 .rw[(jJ.no W b)] at z;cases z
 .exact z
end
structure PlO (lo N:Nat)(bs ix:Yi)(k:Nat):Prop where
 size:ix.size=N
 perm:ix.Perm (Array.range N)
 low:∀a,a<lo->gx ix a=gx bs a
 mid:∀a,lo<=a->a<k->lo<=gx ix a/\gx ix a<k
 suf:∀a,k<=a->a<N->gx ix a=a
def FI {N a:Nat}{ix:Yi}(p:ix.Perm (Array.range N))(b:a<ix.size):gx ix a<N:=by
 have:=(Jp.mp p).mem_iff.mp (Qz b);simpa using this
section
variable {lo N k:Nat}{bs ix:Yi}
def PlO.all (h:PlO lo N bs ix k){a:Nat}(b:a<N):gx ix a<N:=FI h.perm (by rwa [h.size])
def PlO.succ (h:PlO lo N bs ix k)(g:lo<=k)(b:k<N):PlO lo N bs ix (k+1):=by
 refine⟨h.size,h.perm,h.low,λa e i=>?_,λa j f=>h.suf a () f⟩;by_cases c:a<k
 .have:=h.mid a e c;lia
 .have:a=k:=()
  subst this;rw[h.suf a (Zf _) b];lia
def PlO.rev {i:Nat}(h:PlO lo N bs ix k)(g:k<=N)(j:lo<=i)(l:i<=k):PlO lo N bs (mirror ix i k ((k-i) / 2)) k:=by
 have hz:k<=ix.size:=by rwa [h.size]
 refine⟨by rw[mirror_size];exact h.size,(mirror_perm _ _ _ _).trans h.perm,λa b=>?_,λa c b=>?_,λa e f=>?_⟩
 .rw[Y1 hz,Ze ()];exact h.low a b
 .rw[Y1 hz]
  split
  .exact h.mid _ () ()
  .exact h.mid a c b
 .rw[Y1 hz,Ze ()];exact h.suf a e f
end
def zl (lt:Yd)(lo:Nat)(ix:Yi)(k:Nat):Prop:=∀a b,lo<=a->a<b->b<k->jJ lt (gx ix a) (gx ix b)
def bM (lt:Yd)(lo:Nat)(ix:Yi)(k:Nat):Prop:=∀a b,lo<=a->a<b->b<k->jJ lt (gx ix b) (gx ix a)
structure SBp (it:Nat->Keyed)(kind:SortKind)(pn:Array (Nat×Nat×Nat))(ix:Yi)(st:SortSt):Prop where
 arr:arrOf st=ix.map it
 kd:kindOf st=kind
 fl:failedOf st=none
 pd:pendingOf st=pn
structure EqO (lt:Yd)(lo:Nat)(ix:Yi)(x u:Nat):Prop where
 le:lo<=u
 ux:u<x
 out:∀a b,lo<=a->a<b->b<x->a<u->lt (gx ix b) (gx ix a)=true\/(b<u/\jJ lt (gx ix b) (gx ix a))
 same:∀a b,u<=a->a<x->u<=b->b<x->lt (gx ix a) (gx ix b)=false
 rise:∀a b,u<=a->a<b->b<x->gx ix a<gx ix b
def Wr {ix:Yi}{i j k:Nat}(a:j<=ix.size)(b:i<=k)(c:k<j):∃m,i<=m/\m<j/\k+m+1=i+j/\gx (mirror ix i j ((j-i) / 2)) k=gx ix m:=by
 refine⟨i+j-1-k,(),(),(),?_⟩;rw[Y1 a,Zd ⟨b,c⟩]
def Y5 {ix:Yi}{i j k:Nat}(a:j<=ix.size)(h:k<i\/j<=k):gx (mirror ix i j ((j-i) / 2)) k=gx ix k:=by
 rw[Y1 a,Ze ()]
section
variable {lt:Yd}{lo:Nat}{ix:Yi}(W:Wk lt)
include W
theorem Az {a:Nat}:lt a a=false:=by
 cases z:lt a a with
 |false=>rfl
 |true=>have:=W.asy _ _ z;simp_all
theorem EqO.down {x u:Nat}(h:EqO lt lo ix x u)(hz:x<=ix.size):bM lt lo (mirror ix u x ((x-u) / 2)) x:=by
 intro a b l ab g;by_cases f:u<=b
 .obtain⟨o,j,m,q,e⟩:=Wr (i:=u) hz f g;rw[e];by_cases c:u<=a
  .obtain⟨r,p,n,s,e⟩:=Wr (i:=u) hz c (Ug ab g);rw[e];exact .inr ⟨h.same _ _ p n j m,h.rise _ _ j () n⟩
  .have c:=Yv c;rw[Y5 hz (.inl c)];rcases h.out a o l (Zg c j) m c with z|z
   .exact .inl z
   .exact z.2
 .have f:=Yv f;have c:=Ug ab f;rw[Y5 hz (.inl f),Y5 hz (.inl c)];rcases h.out a b l ab g c with z|z
  .exact .inl z
  .exact z.2
theorem EqO.down0 {x:Nat}(h:EqO lt lo ix (x+1) x):bM lt lo ix (x+1):=by
 intro a b e ab c;rcases h.out a b e ab c (Zg ab (Uq c)) with z|z
 .exact .inl z
 .exact z.2
theorem xy {x y:Nat}(m:y+1=x)(n:lo<=y)(D:bM lt lo ix x)(f:lt (gx ix x) (gx ix y)=true):EqO lt lo ix (x+1) x:=by
 have wJ:∀a,lo<=a->a<x->lt (gx ix x) (gx ix a)=true:=λa e g=>by
  by_cases c:a=y
  .rwa [c]
  .rcases W.neg _ (gx ix a) _ f with z|z
   .exact z
   .rw[jJ.no W (D a y e () ())] at z;exact J9 z
 have eq:∀{a},x<=a->a<x+1->a=x:=()
 refine⟨(),UA _,λa b e ab o g=>?_,λa b h i j l=>?_,()⟩
 .by_cases c:b<x
  .exact .inr ⟨c,D a b e ab c⟩
  simp_all
 .rw[eq h i,eq j l];exact Az W
theorem EqO.more {x y u:Nat}(h:EqO lt lo ix x u)(G:y+1=x)(A:gx ix x=x)(l:∀a,lo<=a->a<x->gx ix a<x)(B:lt (gx ix x) (gx ix y)=false)(q:lt (gx ix y) (gx ix x)=false):EqO lt lo ix (x+1) u:=by
 have le:=h.le;have C:=h.ux;have E:∀k,lt (gx ix y) k=true->lt (gx ix x) k=true:=λk z=>by
  rcases W.neg _ (gx ix x) _ z with y|y
  .rw[q] at y;exact J9 y
  .exact y
 have F:∀k,lt k (gx ix x)=true->lt k (gx ix y)=true:=λk z=>by
  rcases W.neg _ (gx ix y) _ z with y|y
  .exact y
  .rw[q] at y;exact J9 y
 have m:∀k,lt (gx ix x) k=true->lt (gx ix y) k=true:=λk z=>by
  rcases W.neg _ (gx ix y) _ z with y|y
  .rw[B] at y;exact J9 y
  .exact y
 have n:y<x:=()
 have i:u<=y:=()
 have e:∀{b},b<x+1->¬b=x->b<x:=λh k=>UB (Uq h) k;refine⟨le,UC C,λa b r ab o p=>?_,λa b g s t v=>?_,λa b g ab o=>?_⟩
 .by_cases c:b=x
  .rw[c];rcases h.out a y r (Zg p i) n p with z|z
   .exact .inl (E _ z)
   .exact Zn z.1 (Nat.not_lt_of_le i)
  .exact h.out a b r ab (e o c) p
 .by_cases j:a=x
  .by_cases f:b=x
   .rw[j,f];exact Az W
   .rw[j];cases z:lt (gx ix x) (gx ix b) with
    |false=>rfl
    |true =>
     have w:=m _ z;rw[h.same y b i n t (e v f)] at w;exact J9 w
  .by_cases f:b=x
   .rw[f];cases z:lt (gx ix a) (gx ix x) with
    |false=>rfl
    |true =>
     have w:=F _ z;rw[h.same a y g (e s j) i n] at w;exact J9 w
   .exact h.same a b g (e s j) t (e v f)
 .by_cases f:b=x
  .rw[f,A];exact l a (Zh le g) (f ▸ ab)
  .exact h.rise a b g ab (e o f)
end
abbrev C2:=Option (Option Nat)×Nat
noncomputable def bF (p c:Nat):SM (ForInStep C2):=ltAt' p (p-1) >>= λr=>match r with
 |some t=>if t=true then pure (.done (none,c)) else pure (.yield (none,c+1))
 |_=>pure (.done (some none,c))
noncomputable def nL (lo a n:Nat):SM (Option Nat):=reverseSlice' lo (lo+n) >>= λ_=>(forIn [n:a] ((none,n):C2) λ_ c=>bF (lo+c.2) c.2) >>= λc=>match c.1 with
 |some r=>pure r
 |none=>pure (some c.2)
noncomputable def rL (lo a n q:Nat):SM (Option Nat):=if q > 0 then reverseSlice' (lo+n-(q+1)) (lo+n) >>= λ_=>nL lo a n else nL lo a n
noncomputable def rK (p n q:Nat):SM (ForInStep C3):=ltAt' p (p-1) >>= λr=>match r with
 |some t=>if t=true then(if q > 0 then reverseSlice' (p-(q+1)) p >>= λ_=>pure (.yield (none,n+1,0)) else pure (.yield (none,n+1,0)))
  else ltAt' (p-1) p >>= λr=>match r with
   |some t=>if t=true then pure (.done (none,n,q)) else pure (.yield (none,n+1,q+1))
   |_=>pure (.done (some none,n,q))
 |_=>pure (.done (some none,n,q))
noncomputable def nM (lo a n:Nat):SM (Option Nat):=(liftM (rule "list.sort.descending-run"):SM PUnit) >>= λ_=>(forIn [n+1:a] ((none,n+1,0):C3) λ_ c=>rK (lo+c.2.1) c.2.1 c.2.2) >>= λc=>match c.1 with
 |some r=>pure r
 |none=>rL lo a c.2.1 c.2.2
noncomputable def pc (lo a n:Nat):SM (Option Nat):=if(n == a)=true then pure (some n) else if n > 1 then ltAt' lo (lo+n-1) >>= λr=>match r with
 |some t=>if t=true then pure (some n) else reverseSlice' lo (lo+n) >>= λ_=>nM lo a n
 |_=>pure none
 else nM lo a n
set_option smartUnfolding false in
def f5 {lo a:Nat}:countRun' lo a=((forIn [1:a] ((none,1):C2) λ_ c=>bF (lo+c.2) c.2) >>= λc=>match c.1 with|some r=>pure r|none=>pc lo a c.2):=rfl
section
variable {prog:Program}{w:World}{A:Around}{E:Ya}{s:Shared}{kind:SortKind}{it:Nat->Keyed}{lt:Yd}{lo N:Nat}{bs ix:Yi}{st:SortSt}{pn:Array (Nat×Nat×Nat)}
def Y6 {a b k:Nat}{Q:Option Bool->YB}(O:yp prog w A s kind it lt N)(B:SBp it kind pn ix st)(L:PlO lo N bs ix k)(c:a<N)(e:b<N)(h:Q (some (lt (gx ix a) (gx ix b))) st):
 YK prog w A E s (ltAt' a b) Q st:=by
 have f:(arrOf st)[a]? = some (it (gx ix a)):=by rw[B.arr,UO,Cz (by rwa [L.size])];rfl
 have g:(arrOf st)[b]? = some (it (gx ix b)):=by rw[B.arr,UO,Cz (by rwa [L.size])];rfl
 show wpS _ _ _ _ (elem' (arrOf st) a >>= λx=>elem' (arrOf st) b >>= λy=>lt' x y) Q st;rw[elem'_eq,elem'_eq,f,g];exact Yo (Yp (Yo (Yp (Y2 O B.kd (L.all c) (L.all e) h))))
def SBp.set {jx:Yi}(B:SBp it kind pn ix st){a:Array Keyed}(e:a=jx.map it):SBp it kind pn jx (setArr st a):=⟨e,B.kd,B.fl,B.pd⟩
def SBp.rev {i j m:Nat}(B:SBp it kind pn ix st):SBp it kind pn (mirror ix i j m) (setArr st (mirror (arrOf st) i j m)):=B.set (by rw[B.arr,OG])
variable (W:Wk lt)(O:yp prog w A s kind it lt N)
include W O
theorem OP {p c:Nat}{R:ForInStep C2->YB}(a:p<N)(g:lo<p)(B:SBp it kind pn ix st)(L:PlO lo N bs ix p)(U:zl lt lo ix p)
 (h:lt (gx ix p) (gx ix (p-1))=true->R (.done (none,c)) st) (go:PlO lo N bs ix (p+1)->zl lt lo ix (p+1)->R (.yield (none,c+1)) st):YK prog w A E s (bF p c) R st:=by
 obtain⟨y,rfl⟩:∃y,p=y+1:=⟨p-1,()⟩;have b:=Uq g;refine Yo (Y6 O B L a (UU a) (wi (λq=>Yp (h q)) λq=>Yp (go (L.succ (Vj b) a) λi j f l jx=>?_)));have last:jJ lt (gx ix y) (gx ix (y+1)):=.inr ⟨Yu.mpr q,by rw[L.suf _ (Zf _) a];exact(L.mid _ b (UA _)).2⟩;by_cases c:j<y+1
 .exact U i j f l c
 .have e:j=y+1:=()
  subst e;by_cases d:i=y
  .rw[d];exact last
  .exact jJ.trans W (U i y f () (UA _)) last
theorem FJ {a b:Nat}{Q:C2->YB}
 (j:lo+b<=N) (l:1<=a) (f:a<=b) (B:SBp it kind pn ix st) (L:PlO lo N bs ix (lo+a)) (U:zl lt lo ix (lo+a))
 (h:∀m,a<=m->m<=b->PlO lo N bs ix (lo+m)->zl lt lo ix (lo+m)->(m=b\/lt (gx ix (lo+m)) (gx ix (lo+m-1))=true)->Q (none,m) st):YK prog w A E s (forIn [a:b] ((none,a):C2) λ_ c=>bF (lo+c.2) c.2) Q st:=by
 refine Yr (I:=λx c e=>e=st/\c=(none,x)/\PlO lo N bs ix (lo+x)/\zl lt lo ix (lo+x)) ?_ ?_ ⟨rfl,rfl,L,U⟩
 .rintro x c e n o ⟨rfl,rfl,g,i⟩;exact OP W O () () B g i () ()
 simp_all
variable {nr x q u:Nat}{Q:Option Nat->YB}(hn:lo+nr<=N)(h:∀k jx st',SBp it kind pn jx st'->1<=k->k<=nr->PlO lo N bs jx (lo+k)->zl lt lo jx (lo+k)->Q (some k) st')
include hn h
theorem FK (c:1<=x)(j:x<=nr)(B:SBp it kind pn ix st)(L:PlO lo N bs ix (lo+x))(D:bM lt lo ix (lo+x)):YK prog w A E s (nL lo nr x) Q st:=by
 have hz:lo+x<=ix.size:=by rw[L.size];lia
 have l:=L.rev (i:=lo) () (Zf _) ();refine Yo (wpS_reverse (Yo (FJ W O hn c j B.rev l (λa b f ab g=>?_) λk k1 k2 m n _=>Yp (h k _ _ B.rev (Zh c k1) k2 m n))));obtain⟨t,v,o,y,e⟩:=Wr hz f (Ug ab g);obtain⟨z,p,C,F,r⟩:=Wr hz (Zz (UH f ab)) g;rw[e,r];exact D _ _ p () o
theorem OQ (a:1<=x)(b:x<=nr)(B:SBp it kind pn ix st)(L:PlO lo N bs ix (lo+x))(X:EqO lt lo ix (lo+x) u)(e:u+(q+1)=lo+x):YK prog w A E s (rL lo nr x q) Q st:=by
 refine wi (λc=>?_) λc=>?_
 .rw[show lo+x-(q+1)=u by lia];exact Yo (wpS_reverse (FK W O hn h a b B.rev (L.rev () X.le (Zz X.ux)) (X.down W (by rw[L.size];lia))))
 .have f:q=0:=()
  subst f;rw[<- e] at X;exact FK W O hn h a b B L (e ▸ X.down0 W)
omit hn h in
theorem OR {p:Nat}{R:ForInStep C3->YB}(b:p<N)(B:SBp it kind pn ix st)(L:PlO lo N bs ix p)(X:EqO lt lo ix p u)(e:u+(q+1)=p)
 (l:R (.done (none,x,q)) st) (go:∀jx u q c,SBp it kind pn jx c->PlO lo N bs jx (p+1)->EqO lt lo jx (p+1) u->u+(q+1)=p+1->R (.yield (none,x+1,q)) c):YK prog w A E s (rK p x q) R st:=by
 have le:=X.le;have g:=X.ux;have hz:p<=ix.size:=by rw[L.size];exact Zz b
 obtain⟨y,rfl⟩:∃y,p=y+1:=⟨p-1,()⟩;have i:=UU b;have f:lo<=y:=Zh le (Uq g);refine Yo (Y6 O B L b i (wi (λz=>wi (λj=>?_) λj=>?_) λz=>?_))
 .have z:lt (gx ix (y+1)) (gx ix y)=true:=z;rw[show y+1-(q+1)=u by lia];refine Yo (wpS_reverse (Yp (go _ _ 0 _ B.rev ((L.rev (Zz b) le (Zz g)).succ (Vj f) b) (xy W rfl f (X.down W hz) ?_) rfl)));obtain⟨m,n,m2,_,e⟩:=Wr hz (Uq g) (UA y);rw[Y5 hz (.inr (Zf _)),e];rcases W.neg _ (gx ix m) _ z with y|y
  .exact y
  .rw[X.same _ _ n m2 (Uq g) (UA _)] at y;exact J9 y
 .have o:q=0:=Nat.eq_zero_of_not_pos j;subst o;have e:u=y:=UJ e;subst e;exact Yp (go ix _ 0 st B (L.succ (Vj f) b) (xy W rfl f (X.down0 W) z) rfl)
 .refine Yo (Y6 O B L i b (wi (λ_=>Yp l) λr=>?_));exact Yp (go ix u _ st B (L.succ (Vj f) b) (X.more W rfl (L.suf _ (Zf _) b) (λa t v=>(L.mid a t v).2) (Yu.mpr z) (Yu.mpr r)) (Zt (· + 1) e))
theorem FL (m:x+1<=nr)(B:SBp it kind pn ix st)(L:PlO lo N bs ix (lo+x+1))(X:EqO lt lo ix (lo+x+1) (lo+x)):YK prog w A E s (nM lo nr x) Q st:=by
 refine Yo (wpS_lift (wpAny_rule ⟨rfl,?_⟩));refine Yo (Yq (Yr (I:=λx c i=>∃u q a,c=(none,x,q)/\SBp it kind pn a i/\PlO lo N bs a (lo+x)/\EqO lt lo a (lo+x) u/\u+(q+1)=lo+x) (Q:=λc i=>∃y u q a,c=(none,y,q)/\1<=y/\y<=nr/\SBp it kind pn a i/\PlO lo N bs a (lo+y)/\EqO lt lo a (lo+y) u/\u+(q+1)=lo+y) ?_ ?_ ⟨lo+x,0,ix,rfl,B,L,X,rfl⟩) ?_)
 .rintro y c i n o ⟨u,q,a,rfl,j,f,g,e⟩;exact OR W O (show lo+y<N from ()) j f g e ⟨y,u,q,a,rfl,Zh (Nat.le_add_left 1 x) n,Zz o,j,f,g,e⟩ λjx u q p b l x e=>⟨u,q,jx,rfl,b,l,x,e⟩
 .rintro c i ⟨u,q,a,rfl,j,f,g,e⟩;rw[Nat.max_eq_right m] at f g e ⊢;exact⟨nr,u,q,a,rfl,Zh (Nat.le_add_left 1 x) m,Zf _,j,f,g,e⟩
 .rintro c i ⟨x,u,q,a,rfl,r,m,j,f,g,e⟩;exact OQ W O hn h r m j f g e
theorem OS (T:1<=nr)(B:SBp it kind pn ix st)(L:PlO lo N bs ix (lo+1)):YK prog w A E s (countRun' lo nr) Q st:=by
 rw[f5];refine Yo (FJ W O hn (Zf 1) T B L (λa b g ab r=>()) λm S m2 j n G=>?_);refine wi (λ_=>Yp (h m ix st B S m2 j n)) λt=>?_;have t:m≠nr:=λz=>t (Ys.mpr z);have v:lt (gx ix (lo+m)) (gx ix (lo+m-1))=true:=G.resolve_left t;have m2:m+1<=nr:=UB m2 t;have l:lo+m<N:=()
 have C:lo<lo+m:=()
 have hz:lo+m<=ix.size:=by rw[j.size];exact Zz l
 refine wi (λU=>?_) λU=>?_
 .have H:=λ{I J}=>FL (E:=E) (bs:=bs) (ix:=I) (st:=J) W O hn h m2;have X:=h m ix st B S (Uw m2) j n;generalize lo+m=p at *;obtain⟨y,rfl⟩:∃y,p=y+1:=⟨p-1,()⟩;have v:lt (gx ix (y+1)) (gx ix y)=true:=v;have K:=Uq C;have Y:=UU l;have M:=UA y;refine Yo (Y6 O B j (Ug C l) Y (wi (λ_=>Yp X) λc=>?_));have c:lt (gx ix lo) (gx ix y)=false:=Yu.mpr c;have f:∀a b,lo<=a->a<y+1->lo<=b->b<y+1->lt (gx ix a) (gx ix b)=false:=λa b g Z lb i=>by
   cases z:lt (gx ix a) (gx ix b) with
   |false=>rfl
   |true =>
    rcases W.neg _ (gx ix lo) _ z with w|w
    .by_cases a0:a=lo
     .rw[a0,Az W] at w;exact J9 w
     .rw[jJ.no W (n lo a (Zf _) () Z)] at w;exact J9 w
    .rcases W.neg _ (gx ix y) _ w with u|u
     .rw[c] at u;exact J9 u
     .by_cases P:b=y
      .rw[P,Az W] at u;exact J9 u
      .rw[jJ.no W (n b y lb () M)] at u;exact J9 u
  have o:∀a b,lo<=a->a<b->b<y+1->gx ix a<gx ix b:=λa b g ab i=>by
   rcases n a b g ab i with z|z
   .rw[f a b g (Ug ab i) (Zh g (Zz ab)) i] at z;exact J9 z
   .exact z.2
  refine Yo (wpS_reverse (H B.rev ((j.rev (Zz l) (Zf _) (Zz C)).succ (Zz C) l) (xy W rfl K (λa b g ab i=>?_) ?_)))
  .obtain⟨a',R,F,a3,e⟩:=Wr hz g (Ug ab i);obtain⟨b',r,b2,b3,e'⟩:=Wr hz (Zh g (Zz ab)) i;rw[e,e'];exact .inr ⟨f _ _ R F r b2,o _ _ r () F⟩
  .obtain⟨m,R,F,_,e⟩:=Wr hz K M;rw[Y5 hz (.inr (Zf _)),e];rcases W.neg _ (gx ix m) _ v with z|z
   .exact z
   .rw[f _ _ R F K M] at z;exact J9 z
 .have e1:m=1:=()
  subst e1;exact FL W O hn h m2 B (j.succ (Uo _ _) l) (xy W rfl (Zf _) (λa b g ab r=>()) v)
omit hn h
omit O W in
theorem Xm {ix:Yi}{p l k:Nat}(hs:p<ix.size)(b:l<=p)(a:k<=p):(k<l/\gx (bubble ix p (p-l)) k=gx ix k)\/(k=l/\gx (bubble ix p (p-l)) k=gx ix p)\/∃j,k=j+1/\l<=j/\j<p/\gx (bubble ix p (p-l)) k=gx ix j:=by
 rw[Fz hs (U5 _ _),show p-(p-l)=l by lia];by_cases c:k=l
 .exact .inr (.inl ⟨c,Zd c⟩)
 .by_cases d:l<k
  .exact .inr (.inr ⟨k-1,(),(),(),by rw[Ze c,Zd ⟨d,a⟩]⟩)
  .exact .inl ⟨(),by rw[Ze c,Ze λz=>d z.1]⟩
omit O W in
theorem OT {p l:Nat}(v:p<N)(f:l<=p)(o:lo<=l)(L:PlO lo N bs ix p)(U:zl lt lo ix p)(low:∀i,lo<=i->i<l->lt p (gx ix i)=false)(y:∀i,l<=i->i<p->lt p (gx ix i)=true):PlO lo N bs (bubble ix p (p-l)) (p+1)/\zl lt lo (bubble ix p (p-l)) (p+1):=by
 have hs:p<ix.size:=by rw[L.size];exact v
 have ep:gx ix p=p:=L.suf p (Zf _) v;have md:∀{i},lo<=i->i<p->lo<=gx ix i/\gx ix i<p+1:=λh k=>⟨(L.mid _ h k).1,UC (L.mid _ h k).2⟩;refine⟨⟨by rw[bubble_size];exact L.size,(bubble_perm _ _ _).trans L.perm,λa r=>?_,λa B r=>?_,λa C F=>?_⟩,λa b t ab m=>?_⟩
 .rcases Xm hs f (Zz (Zg r (Zh o f))) with ⟨_,e⟩|⟨z,_⟩|⟨j,z,h,_⟩
  .rw[e];exact L.low a r
  .omega
  .omega
 .rcases Xm hs f (Uq r) with ⟨z,e⟩|⟨z,e⟩|⟨j,z,h,k,e⟩
  .rw[e];exact md B (Zg z f)
  .rw[e,ep];exact⟨Zh o f,UA _⟩
  .rw[e];exact md (Zh o h) k
 .rw[Fz hs (U5 _ _),Ze (),Ze ()];exact L.suf a (Uw C) F
 .have m:=Uq m;rcases Xm hs f (Zh (Zz ab) m) with ⟨z,e⟩|⟨z,e⟩|⟨i,z,h,k,e⟩
  .rcases Xm hs f m with ⟨g,c⟩|⟨g,c⟩|⟨j,g,h',n,c⟩
   .rw[e,c];exact U a b t ab (Zg g f)
   .rw[e,c,ep];exact .inr ⟨low a t z,(L.mid a t (Zg z f)).2⟩
   .rw[e,c];exact U a j t (Zg z h') n
  .rcases Xm hs f m with ⟨g,c⟩|⟨g,c⟩|⟨j,g,h',n,c⟩
   .omega
   .omega
   .rw[e,c,ep];exact .inl (y j h' n)
  .rcases Xm hs f m with ⟨g,c⟩|⟨g,c⟩|⟨j,g,h',n,c⟩
   .omega
   .omega
   .rw[e,c];exact U i j (Zh o h) () n
theorem OU {g ok:Nat}{Q:Bool->YB}(X:lo+g<=N)(Y:ok<=g)(o:1<=ok)(B:SBp it kind pn ix st)(L:PlO lo N bs ix (lo+ok))(U:zl lt lo ix (lo+ok))
 (h:∀jx f,SBp it kind pn jx f->PlO lo N bs jx (lo+g)->zl lt lo jx (lo+g)->Q true f):YK prog w A E s (binarySort' lo g ok) Q st:=by
 rw[binarySort'_eq];have G:max ok 1=ok:=()
 rw[G];refine Yo (Yq (Yr (I:=λk c f=>c=(none,Yt)/\∃jx,SBp it kind pn jx f/\PlO lo N bs jx (lo+k)/\zl lt lo jx (lo+k)) (Q:=λc f=>c=(none,Yt)/\∃jx,SBp it kind pn jx f/\PlO lo N bs jx (lo+g)/\zl lt lo jx (lo+g)) ?_ ?_ ⟨rfl,ix,B,L,U⟩) ?_)
 .rintro k c p Z hk2 ⟨rfl,jx,H,J,K⟩;have ek:gx jx (lo+k)=lo+k:=J.suf _ (Zf _) ();refine Yo (Yq (Yr (I:=λx c n=>n=p/\∃l r,c=(none,l,r)/\l<=r/\r<=k/\r-l<=k-x/\(∀i,i<l->lt (lo+k) (gx jx (lo+i))=false)/\(∀i,r<=i->i<k->lt (lo+k) (gx jx (lo+i))=true))
   (Q:=λc n=>n=p/\∃l r,c=(none,l,r)/\l<=k/\(∀i,i<l->lt (lo+k) (gx jx (lo+i))=false)/\(∀i,l<=i->i<k->lt (lo+k) (gx jx (lo+i))=true)) ?_ ?_ ⟨rfl,0,k,rfl,(),(),(),λi j=>(),λi a b=>()⟩) ?_)
  .rintro x c n _ hx ⟨rfl,l,r,rfl,lr,t,v,low,j⟩;dsimp only;by_cases M:l ≥ r
   .rw[Zd M];have e:l=r:=()
    subst e;exact Yp ⟨rfl,l,l,rfl,t,low,j⟩
   .rw[Ze M];obtain⟨m,G,m1,m2,m3,m4⟩:=Fy (Yv M) v;rw[G];have mk:=Zg m2 t;refine Yo (Y6 O H J () () ?_);rw[ek];cases q:lt (lo+k) (gx jx (lo+m)) with
    |true =>
     simp only[if_true];refine Yp ⟨rfl,l,m,rfl,m1,Zz mk,m3,low,λi a b=>?_⟩;by_cases P:i=m
     .rw[P];exact q
     .rcases W.neg (lo+k) (gx jx (lo+i)) _ q with z|z
      .exact z
      .rw[jJ.no W (K (lo+m) (lo+i) () () ())] at z;exact J9 z
    |false =>
     simp only[UD,if_false];refine Yp ⟨rfl,m+1,r,rfl,m2,t,m4,λi a=>?_,j⟩;by_cases P:i=m
     .rw[P];exact q
     .cases z:lt (lo+k) (gx jx (lo+i)) with
      |false=>rfl
      |true =>
       rcases W.neg (lo+k) (gx jx (lo+m)) _ z with y|y
       .rw[q] at y;exact J9 y
       .rw[jJ.no W (K (lo+i) (lo+m) () () ())] at y;exact J9 y
  .rintro c n ⟨rfl,l,r,rfl,lr,t,v,low,j⟩;have e:l=r:=()
   subst e;exact⟨rfl,l,l,rfl,t,low,j⟩
  .rintro c n ⟨rfl,l,r,rfl,lk,low,j⟩;show wpS _ _ _ _ (moveDown' (lo+k) (lo+l) >>= λ_=>pure (ForInStep.yield (none,Yt))) _ _;rw[moveDown'_eq];have low:∀i,lo<=i->i<lo+l->lt (lo+k) (gx jx i)=false:=λi o R=>by
    obtain⟨d,rfl⟩:=U7 o;exact low d (Vu R)
   have j:∀i,lo+l<=i->i<lo+k->lt (lo+k) (gx jx i)=true:=λi o R=>by
    obtain⟨d,rfl⟩:=U7 (Zh (Uo _ _) o);exact j d (VT o) (Vu R)
   have T:=OT (show lo+k<N from ()) (Nat.add_le_add_left lk lo) (Uo _ _) J K low j;exact Yo (wpS_modify (Yp ⟨rfl,bubble jx (lo+k) (lo+k-(lo+l)),H.set (by rw[H.arr,OF]),T.1,T.2⟩))
 .rintro c p ⟨rfl,jx,S,C,F⟩;have e:max ok g=g:=()
  rw[e] at C F;exact⟨rfl,jx,S,C,F⟩
 .rintro c p ⟨rfl,jx,S,C,F⟩;exact Yp (h jx p S C F)
end
structure Seg (lt:Yd)(ix:Yi)(a b:Nat):Prop where
 pl:∀i,a<=i->i<b->a<=gx ix i/\gx ix i<b
 up:∀i j,a<=i->i<j->j<b->jJ lt (gx ix i) (gx ix j)
def Seg.same {lt:Yd}{ix jx:Yi}{a b:Nat}(S:Seg lt ix a b)(h:∀i,a<=i->i<b->gx jx i=gx ix i):Seg lt jx a b:=⟨λi c e=>by rw[h i c e];exact S.pl i c e,λi j c e f=>by rw[h i c (),h j () f];exact S.up i j c e f⟩
section
variable {prog:Program}{w:World}{A:Around}{E:Ya}{s:Shared}{kind:SortKind}{it:Nat->Keyed}{lt:Yd}{st:SortSt}{N:Nat}
def Seg.join {a m b:Nat}{ix:Yi}(W:Wk lt)(S:Seg lt ix a m)(T:Seg lt ix m b)(l:m<b)(k:∀i,a<=i->i<m->jJ lt (gx ix i) (gx ix m))(n:a<=m):Seg lt ix a b:=by
 refine⟨λi c h=>?_,λi j c f g=>?_⟩
 .by_cases z:i<m
  .have:=S.pl i c z;lia
  .have:=T.pl i () h;lia
 .by_cases z:j<m
  .exact S.up i j c f z
  .by_cases y:m<=i
   .exact T.up i j y f g
   .by_cases e:j=m
    .simp_all
    .exact jJ.trans W (k i c ()) (T.up m j (Zf _) () g)
def Seg.put {a e b m k:Nat}{ix:Yi}{o:Yj}(W:Wk lt)(S:Seg lt ix a e)(T:Seg lt ix e b)(Z:b<=ix.size)(B:a<=m)(H:m<e)(hk:1<=k)(u:e+k<=b)(K:∀i,a<=i->i<m->lt (gx ix e) (gx ix i)=false)(L:∀i,e+k<=i->i<b->lt (gx ix i) (gx ix (e-1))=false)
 (M:zK lt (ix.extract m e) (ix.extract e (e+k)) o):∃jx:Yi,jx.toList=ix.toList.take m++o++ix.toList.drop (e+k)/\o.length=e+k-m/\jx.Perm ix/\Seg lt jx a b/\∀i,i<a\/b<=i->gx jx i=gx ix i:=by
 have ol:o.length=e+k-m:=by
  rw[M.1.length_eq,Ua,Ui,Ui,Vv,Vv,Vf (),Vf ()];lia
 have P:m+o.length=e+k:=()
 have C:ix.toList.take m++((ix.extract m e).toList++(ix.extract e (e+k)).toList)++ix.toList.drop (e+k)=ix.toList:=by
  have ex:(ix.extract m e).toList++ix.toList.drop e=ix.toList.drop m:=by
   rw[Array.toList_extract,VS];have:ix.toList.drop e=(ix.toList.drop m).drop (e-m):=by rw[List.drop_drop,Vs (Zz H)]
   rw[this,UI]
  have ey:(ix.extract e (e+k)).toList++ix.toList.drop (e+k)=ix.toList.drop e:=by
   rw[Array.toList_extract,VS,VE,<- List.drop_drop,UI]
  rw[Ud,Ud,ey,ex,UI]
 have pm:(ix.toList.take m++o++ix.toList.drop (e+k)).Perm ix.toList:=by
  conv=>rhs;rw[<- C]
  exact List.Perm.append_right _ (List.Perm.append_left _ M.1)
 have F:∀x∈o,(∃b,m<=b/\b<e/\x=gx ix b)\/∃b,e<=b/\b<e+k/\x=gx ix b:=λx hx=>by
  rcases Jb.mp (M.1.mem_iff.mp hx) with z|z
  .exact .inl (Wq () z)
  .exact .inr (Wq (Zh u Z) z)
 obtain⟨jx,ej⟩:∃jx:Yi,jx=(ix.toList.take m++o++ix.toList.drop (e+k)).toArray:=⟨_,rfl⟩;have G:jx.toList=ix.toList.take m++o++ix.toList.drop (e+k):=by rw[ej]
 have n:(ix.toList.take m).length=m:=by rw[Uf,Ui];exact Vf ()
 have v:∀i,i<m->gx jx i=gx ix i:=λi h=>by
  unfold gx;rw[<- Vk,<- Vk,G,Ud,Vl (by rw[n];exact h),List.getElem?_take,Zd h]
 have at2:∀j (h:j<o.length),gx jx (m+j)=o[j]:=λj h=>by
  unfold gx;rw[<- Vk,G,Ud,Vm (by rw[n];exact Uo _ _),n,VE,Vl h,Zqg h];rfl
 have g:∀j,gx jx (e+k+j)=gx ix (e+k+j):=λj=>by
  unfold gx;rw[<- Vk,<- Vk,G,Vm (by rw[Ua,n,P];exact Uo _ _),Ua,n,P,VE,List.getElem?_drop]
 have p:∀i,i<m\/(∃j,j<o.length/\i=m+j)\/∃j,i=e+k+j:=λi=>by
  by_cases c1:i<m
  .exact .inl c1
  .by_cases c2:i<e+k
   .exact .inr (.inl ⟨i-m,(),()⟩)
   .exact .inr (.inr ⟨i-(e+k),()⟩)
 have Q:∀i j,a<=i->i<m->e<=j->j<b->jJ lt (gx ix i) (gx ix j):=λi j I h f l=>by
  have nb:=UH f l;have R:jJ lt (gx ix i) (gx ix e):=.inr ⟨K i I h,Zg (S.pl i I (Ug h H)).2 (T.pl e (Zf _) nb).1⟩;by_cases z:j=e
  .rw[z];exact R
  .exact jJ.trans W R (T.up e j (Zf _) () l)
 have sq:∀i c,a<=i->i<e->e+k<=c->c<b->jJ lt (gx ix i) (gx ix c):=λi c I f l U=>by
  have X:jJ lt (gx ix (e-1)) (gx ix c):=.inr ⟨L c l U,Zg (S.pl (e-1) () ()).2 (T.pl c (Zh (Uo _ _) l) U).1⟩;by_cases z:i=e-1
  .rw[z];exact X
  .exact jJ.trans W (S.up i (e-1) I () ()) X
 have sp:∀{y},a<=y->y<e->a<=gx ix y/\gx ix y<b:=λf l=>⟨(S.pl _ f l).1,by have:=(S.pl _ f l).2;lia⟩;have Y:∀{y},e<=y->y<b->a<=gx ix y/\gx ix y<b:=λf l=>⟨by have:=(T.pl _ f l).1;lia,(T.pl _ f l).2⟩;refine⟨jx,G,ol,?_,⟨λi f l=>?_,λi j f O J=>?_⟩,λi h=>?_⟩
 .rw[Array.perm_iff_toList_perm,G];exact pm
 .rcases p i with c|⟨j,c,rfl⟩|⟨j,rfl⟩
  .rw[v i c];exact sp f (Ug c H)
  .rw[at2 j c];rcases F _ (UK c) with ⟨y,q,r,t⟩|⟨y,q,r,t⟩
   .rw[t];exact sp (Zh B q) r
   .rw[t];exact Y q (Zg r u)
  .rw[g j];exact Y () l
 .rcases p i with c|⟨i,c,rfl⟩|⟨i,rfl⟩
  .rw[v i c];rcases p j with d|⟨j,d,rfl⟩|⟨j,rfl⟩
   .rw[v j d];exact S.up i j f O (Ug d H)
   .rw[at2 j d];rcases F _ (UK d) with ⟨y,q,r,t⟩|⟨y,q,r,t⟩
    .rw[t];exact S.up i y f (Zg c q) r
    .rw[t];exact Q i y f c q (Zg r u)
   .rw[g j];exact Q i _ f c () J
  .rw[at2 i c];rcases p j with d|⟨j,d,rfl⟩|⟨j,rfl⟩
   .omega
   .rw[at2 j d];exact Jj.mp M.2 i j c d (Vu O)
   .rw[g j];rcases F _ (UK c) with ⟨y,q,r,t⟩|⟨y,q,r,t⟩
    .rw[t];exact sq y _ (Zh B q) r (Uo _ _) J
    .rw[t];exact T.up y _ q (Zg r (Uo _ _)) J
  .rcases p j with d|⟨j,d,rfl⟩|⟨j,rfl⟩
   .omega
   .omega
   .rw[g i,g j];exact T.up _ _ () O J
 .rcases h with z|z
  .exact v i (Zg z B)
  .obtain⟨j,rfl⟩:=U7 (Zh u z);exact g j
def OV {l r:Yc}{x y z:Nat×Nat×Nat}:((l++x::y::r).toArray.setIfInBounds l.length z).eraseIdxIfInBounds (l.length+1)=(l++z::r).toArray:=by
 simp_all [List.eraseIdx_append_of_length_le]
noncomputable def mI (b:Nat)(v:KA):SM Bool:=(modify λs=>setArr s (List.foldl (λa x=>match x with|(p,j)=>a.setIfInBounds (b+j) p) (arrOf s) v.toList.zipIdx)) >>= λ_=>get >>= λz=>pure (failedOf z).isNone
noncomputable def rp (a:KA)(c na b k:Nat):SM Bool:=if(k == 0)=true then pure true else if na<=k then C1 (a.extract c b) (a.extract b (b+k)) >>= mI c else C4 (a.extract c b) (a.extract b (b+k)) >>= mI c
noncomputable def rq (a:KA)(b na c nb:Nat):SM Bool:=if(na == 0)=true then pure true else elem' a (b+na-1) >>= λx=>Wp true x a c nb (nb-1) >>= λr=>match r with
 |some k=>rp a b na c k
 |_=>pure false
noncomputable def rr (a:KA)(b na c nb:Nat):SM Bool:=elem' a c >>= λx=>Wp false x a b na 0 >>= λr=>match r with
 |some k=>rq a (b+k) (na-k) c nb
 |_=>pure false
set_option smartUnfolding false in
def kC {i:Nat}:mergeAt' i=(get >>= λz=>match (pendingOf z)[i]?,(pendingOf z)[i+1]? with
 |some (sa,na,pw),some (sb,nb,_)=>set (setPending z (((pendingOf z).setIfInBounds i (sa,na+nb,pw)).eraseIdxIfInBounds (i+1))) >>= λ_=>rr (arrOf z) sa na sb nb
 |_,_=>liftM (unsupported "internal:list.sort.pending")):=rfl
def C9 {p:Array (Nat×Nat×Nat)}:pendingOf (setPending st p)=p:=by rfl
section
variable {a b q am u k x y:Nat}{ix:Yi}{pn:Array (Nat×Nat×Nat)}{Q:Bool->YB}(W:Wk lt)(S:Seg lt ix a (q+1))(T:Seg lt ix (q+1) b)(hz:ix.size=N)(hb:b<=N)(B:SBp it kind pn ix st)
 (h:∀jx st',SBp it kind pn jx st'->jx.Perm ix->Seg lt jx a b->(∀i,i<a\/b<=i->gx jx i=gx ix i)->Q true st')
include W S T hz hb B h
theorem FM {o:Yj}{j:SortSt}(e:a<=am)(g:am<q+1)(k1:1<=k)(l:q+1+k<=b)(m:∀i,a<=i->i<am->lt (gx ix (q+1)) (gx ix i)=false)(n:∀i,q+1+k<=i->i<b->lt (gx ix i) (gx ix q)=false)
 (c:SEq st j) (M:zK lt (ix.extract am (q+1)) (ix.extract (q+1) (q+1+k)) o):YK prog w A E s (mI am (ar it o)) Q j:=by
 obtain⟨jx,p,G,r,t,v⟩:=S.put W T (by rwa [hz]) e g k1 l m n M;refine Yo (wpS_modify (Yo (wpS_get (Yp ?_))));have f:=c.fl.trans B.fl;rw[f];refine h jx _ ⟨?_,c.kd.trans B.kd,f,c.pd.trans B.pd⟩ r t v;rw[c.arr,B.arr];apply U6;have C:(ar it o).toList=o.map it:=by simp[ar]
 refine Eq.trans (Zt (λz=>(List.foldl (λ(a:Array Keyed) (x:Keyed×Nat)=>a.setIfInBounds (am+x.2) x.1) (ix.map it) z.zipIdx).toList) C) ?_;have F:am+o.length=q+1+k:=()
 rw[FF am (o.map it) 0 _ (),Array.toList_map,Array.toList_map,p,Zql,Nat.add_zero,F,Uc,Uc,List.map_take,List.map_drop]
theorem FN (j:∀i,a<=i->i<q+1->jJ lt (gx ix i) (gx ix (q+1)))(c:a<=q+1)(e:q+1<b):Q true st:=h ix st B (.refl _) (S.join W T e j c) λ_ _=>rfl
variable (O:yp prog w A s kind it lt N)(zV:∀i,i<N->gx ix i<N)
include O zV
theorem mF (e:am+u=q+1)(u1:1<=u)(f:a<=am)(G:q+1<b)(r:q+1+k<=b)(m3:∀i,a<=i->i<am->lt (gx ix (q+1)) (gx ix i)=false)(m4:∀i,am<=i->i<q+1->lt (gx ix (q+1)) (gx ix i)=true)
 (k3:∀i,q+1<=i->i<q+1+k->lt (gx ix i) (gx ix q)=true) (I:∀i,q+1+k<=i->i<b->lt (gx ix i) (gx ix q)=false):YK prog w A E s (rp (ix.map it) am u (q+1) k) Q st:=by
 have g:am<q+1:=()
 have bz:b<=ix.size:=by rw[hz];exact hb
 refine wi (λc=>Yp (FN W S T hz hb B h (λi h3 hi=>?_) (Zz (UH f g)) G)) λc=>?_
 .have c:k=0:=Ys.mp c;subst c;have b:jJ lt (gx ix q) (gx ix (q+1)):=.inr ⟨I _ (Zf _) G,Zg (S.pl q (Zh f (Uq g)) (UA _)).2 (T.pl _ (Zf _) G).1⟩;by_cases z:i=q
  .rw[z];exact b
  .exact by grind
 have k1:1<=k:=by grind
 have t:q+1<=ix.size:=()
 have kz:=Zh r bz;have xn:∀x∈(ix.extract am (q+1)).toList,x<N:=λx m=>by
  grind[Wq]
 have yn:∀y∈(ix.extract (q+1) (q+1+k)).toList,y<N:=λx m=>by
  obtain⟨l,n,p,rfl⟩:=Wq kz m;exact zV _ ()
 have J:∀x∈(ix.extract am (q+1)).toList,∀y∈(ix.extract (q+1) (q+1+k)).toList,x<y:=λx m y K=>by
  obtain⟨l,n,p,rfl⟩:=Wq t m;obtain⟨l',L,P,rfl⟩:=Wq kz K;exact Zg (S.pl l (Zh f n) p).2 (T.pl l' L (Zg P r)).1
 have px:=FH (ix:=ix) (R:=jJ lt) (i:=am) (j:=q+1) t λa b h ab U=>S.up a b (Zh f h) ab U;have py:=FH (ix:=ix) (R:=jJ lt) (i:=q+1) (j:=q+1+k) kz λa b h ab U=>T.up a b h ab (Zg U r);have H:MH lt N (ix.extract am (q+1)) (ix.extract (q+1) (q+1+k)):=⟨W,xn,yn,J,px,py⟩;have F:(ix.extract am (q+1)).size=u:=by rw[Vv];lia
 have X:(ix.extract (q+1) (q+1+k)).size=k:=by rw[Vv];lia
 have Y:gx (ix.extract am (q+1)) 0=gx ix am:=Y4 g t;have v:gx (ix.extract am (q+1)) (u-1)=gx ix q:=by rw[Y4 () t,show am+(u-1)=q by lia]
 have C:gx (ix.extract (q+1) (q+1+k)) 0=gx ix (q+1):=Y4 () kz;have Z:gx (ix.extract (q+1) (q+1+k)) (k-1)=gx ix (q+k):=by rw[Y4 () kz,show q+1+(k-1)=q+k by lia]
 rw[FG,FG];refine wi (λ_=>Yo (OI H O B.kd (by rw[F];exact u1) (by rw[X];exact k1) (by rw[C,Y];exact m4 am (Zf _) g) (λy K=>?_) λo s2 se M=>FM W S T hz hb B h f g k1 r m3 I se M))
  λ_=>Yo (OL H O B.kd (by rw[F];exact u1) (by rw[X];exact k1) (λx m=>?_) (by rw[F,X,Z,v];exact k3 _ () ()) λo s2 se M=>FM W S T hz hb B h f g k1 r m3 I se M)
 .obtain⟨l,n,p,rfl⟩:=Wq kz K;rw[F,v];exact .inl (k3 l n p)
 .obtain⟨l,n,p,rfl⟩:=Wq t m;rw[C];exact .inl (m4 l n p)
theorem mG (e:am+u=q+1)(G:1<=y)(H:q+1+y=b)(g:a<=am)(m:∀i,a<=i->i<am->lt (gx ix (q+1)) (gx ix i)=false)(r:∀i,am<=i->i<q+1->lt (gx ix (q+1)) (gx ix i)=true):YK prog w A E s (rq (ix.map it) am u (q+1) y) Q st:=by
 have l:q+1<b:=()
 have t:q+1<N:=()
 have v:a<=q+1:=()
 refine wi (λc=>Yp (FN W S T hz hb B h (λi n o=>.inr ⟨m i n ?_,Zg (S.pl i n o).2 (T.pl _ (Zf _) l).1⟩) v l)) λc=>?_
 .simp_all
 have z:1<=u:=by grind
 rw[show am+u-1=q by rw[e];rfl];refine Yo (Qr () (Yo (Xj O B.kd (zV _ (UU t)) () (λi o=>zV _ ()) () (λi j C I q=>OO W (T.up _ _ (Uo _ _) (Nat.add_lt_add_left C _) ()) q) λk k2 k3 F=>(mF W S T hz hb B h O zV e z g l () m r (λi f p=>?_) λi f p=>?_))))
 .obtain⟨d,rfl⟩:=U7 f;exact k3 d (Vu p)
 .obtain⟨d,rfl⟩:=U7 (Zh (Uo _ _) f);exact F d (VT f) ()
theorem mH (e:a+x=q+1)(g:1<=x)(l:1<=y)(n:q+1+y=b):YK prog w A E s (rr (ix.map it) a x (q+1) y) Q st:=by
 have o:q+1<N:=()
 refine Yo (Qr () (Yo (Xj O B.kd (zV _ o) () (λi v=>zV _ ()) g (λi j p C q=>ON W (S.up _ _ (Uo _ _) (Nat.add_lt_add_left p _) ()) q) λm m2 r t=>?_)));refine mG W S T hz hb B h O zV (by rw[Nat.add_assoc,Vs m2];exact e) l n (Uo _ _) (λi c f=>?_) λi c f=>?_
 .obtain⟨d,rfl⟩:=U7 c;have z:(!lt (gx ix (q+1)) (gx ix (a+d)))=true:=r d (Vu f);simpa using z
 .obtain⟨d,rfl⟩:=U7 (Zh (Uo _ _) c);have z:(!lt (gx ix (q+1)) (gx ix (a+d)))=false:=t d (VT c) ();simpa using z
end
def OW {a x y b f:Nat}{l r:Yc}{ix:Yi}{Q:Bool->YB}(W:Wk lt)(O:yp prog w A s kind it lt N)(B:SBp it kind (l++(a,x,b)::(a+x,y,f)::r).toArray ix st)(hz:ix.size=N)(j:ix.Perm (Array.range N))(S:Seg lt ix a (a+x))(T:Seg lt ix (a+x) (a+x+y))(m:1<=x)(n:1<=y)(g:a+x+y<=N)
 (h:∀jx c,SBp it kind (l++(a,x+y,b)::r).toArray jx c->jx.Perm ix->Seg lt jx a (a+x+y)->(∀i,i<a\/a+x+y<=i->gx jx i=gx ix i)->Q true c):YK prog w A E s (mergeAt' l.length) Q st:=by
 have o:(pendingOf st)[l.length]? = some (a,x,b):=by rw[B.pd];simp
 have p:(pendingOf st)[l.length+1]? = some (a+x,y,f):=by
  rw[B.pd,List.getElem?_toArray,Vm (Uo _ _),VE];rfl
 rw[kC];refine Yo (wpS_get ?_);rw[o,p];refine Yo (OM ?_);rw[B.arr];have t:SBp it kind (l++(a,x+y,b)::r).toArray ix (setPending st (((pendingOf st).setIfInBounds l.length (a,x+y,b)).eraseIdxIfInBounds (l.length+1))):=⟨B.arr,B.kd,B.fl,by rw[C9,B.pd];exact OV⟩;clear B;obtain⟨q,e⟩:∃q,a+x=q+1:=⟨a+x-1,()⟩;rw[e] at S T g h ⊢;exact mH W S T hz g t h O (λi u=>FI j (by rw[hz];exact u)) e m n rfl
def yx (lt:Yd)(ix:Yi):Nat->List (Nat×Nat×Nat)->Nat->Prop
 |a,[],b=>a=b
 |a,p::r,b=>p.1=a/\1<=p.2.1/\Seg lt ix a (a+p.2.1)/\yx lt ix (a+p.2.1) r b
theorem yx.le {ix:Yi}:∀{l:Yc} {a b:Nat},yx lt ix a l b->a+l.length<=b
 | [],a,b,h=>by rw[h];exact Zf _
 |p::r,a,b,⟨_,h2,_,h4⟩=>by have:=h4.le;rw[Zu];lia
theorem yx.app {ix:Yi}:∀{l r:Yc} {a b:Nat},yx lt ix a (l++r) b->∃c,yx lt ix a l c/\yx lt ix c r b
 | [],r,a,b,h=>⟨a,rfl,h⟩
 |p::l,r,a,b,⟨h1,h2,h3,h4⟩=>have ⟨c,e,f⟩:=yx.app h4;⟨c,⟨h1,h2,h3,e⟩,f⟩
theorem yx.cat {ix:Yi}:∀{l r:Yc} {a b c:Nat},yx lt ix a l c->yx lt ix c r b->yx lt ix a (l++r) b
 | [],r,a,b,c,h,k=>by rwa [h]
 |p::l,r,a,b,c,⟨h1,h2,h3,h4⟩,k=>⟨h1,h2,h3,yx.cat h4 k⟩
theorem yx.same {ix jx:Yi}:∀{l:Yc} {a b:Nat},yx lt ix a l b->(∀i,a<=i->i<b->gx jx i=gx ix i)->yx lt jx a l b
 | [],a,b,h,_=>h
 |p::r,a,b,⟨h1,h2,h3,h4⟩,k=>⟨h1,h2,h3.same λi x y=>k i x (by have:=h4.le;lia),h4.same ()⟩
structure RI (it:Nat->Keyed)(kind:SortKind)(lt:Yd)(N:Nat)(ps:Yc)(lo:Nat)(ix:Yi)(st:SortSt):Prop where
 b:SBp it kind ps.toArray ix st
 size:ix.size=N
 perm:ix.Perm (Array.range N)
 ch:yx lt ix 0 ps lo
 le:lo<=N
def FP {i lo:Nat}{ps:Yc}{ix:Yi}{Q:Bool->YB}(W:Wk lt)(O:yp prog w A s kind it lt N)(R:RI it kind lt N ps lo ix st)(M:i+1<ps.length)
 (h:∀b jx a,b.length+1=ps.length->RI it kind lt N b lo jx a->(∀i,lo<=i->gx jx i=gx ix i)->Q true a):YK prog w A E s (mergeAt' i) Q st:=by
 obtain⟨l,x,y,r,rfl,hl⟩:∃l x y r,ps=l++x::y::r/\l.length=i:=⟨ps.take i,ps[i],ps[i+1],ps.drop (i+2),by
  simp,by rw[Uf];lia⟩
 obtain⟨c,n,o⟩:=R.ch.app;obtain⟨p,e,q⟩:=x;obtain⟨P,f,S⟩:=y;obtain⟨d1,t,u,v,z,B,C⟩:=o;have F:=d1;have G:=v;have H:=t;have I:=z;have J:=u;have K:=B;have g:yx lt ix (c+e+f) r lo:=C;subst F G;have T:=g.le;have le:=R.le;subst hl;refine OW W O R.b R.size R.perm J K H I () λjx a L j m U=>h (l++(p,e+f,q)::r) jx a () ⟨L,by rw[j.size_eq];exact R.size,j.trans R.perm,?_,R.le⟩ ();rw[Nat.add_assoc] at m;refine(n.same ()).cat ⟨rfl,(),m,?_⟩;rw[<- Nat.add_assoc];exact g.same ()
def OX {l:Yc}{x:Nat×Nat×Nat}(f:Nat×Nat×Nat->Nat×Nat×Nat):(l++[x]).toArray.modify ((l++[x]).toArray.size-1) f=(l++[f x]).toArray:=by
 apply U6;have e:∀l:Yc,(l++[x]).modify l.length f=l++[f x]:=λl=>by
  induction l with
  |nil=>rfl
  |cons y l a=>show y::(l++[x]).modify l.length f=_;rw[a];rfl
 simp[e]
abbrev U2:=Option Unit×Unit
abbrev U1:=Option Unit×Nat
noncomputable def rl (a:Nat):SM (ForInStep U2):=get >>= λz=>match (if(pendingOf z).size > 1 then(pendingOf z)[(pendingOf z).size-2]? else none) with
 |some (_,_,older)=>if older<=a then pure (.done (none,Yt)) else mergeAt' ((pendingOf z).size-2) >>= λb=>if(!b)=true then pure (.done (some Yt,Yt)) else pure (.yield (none,Yt))
 |_=>pure (.done (none,Yt))
noncomputable def mr (lo n:Nat):SM (ForInStep U1):=(modify λs=>setPending s ((pendingOf s).push (lo,n,0))) >>= λ_=>pure (.yield (none,lo+n))
noncomputable def rj (lo n a:Nat)(c:U2):SM (ForInStep U1):=match c.1 with
 |some r=>pure (.done (some r,lo))
 |none=>(modify λs=>setPending s ((pendingOf s).modify ((pendingOf s).size-1) λ(st,len,_)=>(st,len,a))) >>= λ_=>mr lo n
noncomputable def hO (N lo n:Nat):SM (ForInStep U1):=get >>= λz=>match (pendingOf z).back? with
 |some (s1,n1,_)=>(forIn [:N] ((none,Yt):U2) λ_ _=>rl (power' N (2*s1+n1) (2*s1+n1+n1+n) N)) >>= rj lo n (power' N (2*s1+n1) (2*s1+n1+n1+n) N)
 |_=>mr lo n
noncomputable def cF (N a lo:Nat):SM (ForInStep U1):=if lo ≥ N then pure (.done (none,lo)) else countRun' lo (N-lo) >>= λr=>match r with
 |some n=>if n<a then(liftM (rule "list.sort.binary-insertion"):SM PUnit) >>= λ_=>binarySort' lo (min (N-lo) a) n >>= λb=>if(!b)=true then pure (.done (some Yt,lo)) else hO N lo (min (N-lo) a) else hO N lo n
 |_=>pure (.done (some Yt,lo))
def rk (p:Array (Nat×Nat×Nat)):Nat:=if Option.any (λx=>decide (x<p[p.size-2+1]?.elim 0 λx=>x.2.1)) (if p.size-2 > 0 then p[p.size-2-1]?.map (λx=>x.2.1) else none)=true then p.size-2-1 else p.size-2
noncomputable def rm:SM (ForInStep U2):=get >>= λz=>if(pendingOf z).size<=1 then pure (.done (none,Yt)) else mergeAt' (rk (pendingOf z)) >>= λb=>if(!b)=true then pure (.done (some Yt,Yt)) else pure (.yield (none,Yt))
set_option smartUnfolding false in
def uA:sortRuns'=(get >>= λz=>(forIn [:(arrOf z).size] ((none,0):U1) λ_ c=>cF (arrOf z).size (minRun' (arrOf z).size (arrOf z).size 0) c.2) >>= λc=>match c.1 with
 |some r=>pure r
 |none=>(forIn [:(arrOf z).size] ((none,Yt):U2) λ_ _=>rm) >>= λc=>match c.1 with
  |some r=>pure r
  |none=>pure Yt):=rfl
def OY {c:Prop}[Decidable c]{x y z:Nat}(h:x<=z)(k:y<=z):(if c then x else y)<=z:=by split<;>assumption
def OZ {p:Array (Nat×Nat×Nat)}:rk p<=p.size-2:=OY (U5 _ _) (Zf _)
section
variable {ps:Yc}{lo k pw:Nat}{jx px:Yi}{R:ForInStep U1->YB}(Sg:Seg lt jx lo (lo+k))(k1:1<=k)(k2:lo+k<=N)(suf:∀i,lo+k<=i->i<N->gx jx i=i)
 (go:∀ps jx st',RI it kind lt N ps (lo+k) jx st'->(∀i,lo+k<=i->i<N->gx jx i=i)->R (.yield (none,lo+k)) st')
include Sg k1 k2 suf go
theorem FQ (a:RI it kind lt N ps lo jx st):YK prog w A E s (mr lo k) R st:=
 Yo (wpS_modify (Yp (go (ps++[(lo,k,0)]) jx _ ⟨⟨a.b.arr,a.b.kd,a.b.fl,by rw[C9,a.b.pd];simp⟩,a.size,a.perm,a.ch.cat ⟨rfl,k1,Sg,rfl⟩,k2⟩ suf)))
theorem Pa (b:1<=ps.length)(a:RI it kind lt N ps lo jx st):YK prog w A E s (rj lo k pw (none,Yt)) R st:=by
 rcases List.eq_nil_or_concat ps with z|⟨l2,v,z⟩
 .rw[z] at b;cases b
 .subst z;rw[List.concat_eq_append] at a;obtain⟨e,f,l⟩:=v;refine Yo (wpS_modify (FQ (ps:=l2++[(e,f,pw)]) (jx:=jx) Sg k1 k2 suf go ⟨⟨a.b.arr,a.b.kd,a.b.fl,?_⟩,a.size,a.perm,?_,a.le⟩))
  .rw[C9,a.b.pd];exact OX _
  .obtain⟨c,g,d1,h,i,j⟩:=a.ch.app;exact g.cat (r:=[(e,f,pw)]) ⟨d1,h,i,j⟩
end
def Pb {ps:Yc}{lo j:Nat}{jx:Yi}{Q:ForInStep U2->YB}(W:Wk lt)(O:yp prog w A s kind it lt N)(n:1<=ps.length)(f:RI it kind lt N ps lo jx st)(g:Q (.done (none,Yt)) st)
 (go:∀a c b,1<=a.length->RI it kind lt N a lo c b->(∀i,lo<=i->gx c i=gx jx i)->Q (.yield (none,Yt)) b):YK prog w A E s (rl j) Q st:=by
 refine Yo (wpS_get ?_);rw[f.b.pd]
 split
 .rename_i o p e h;have hp:2<=ps.length:=by
   split at h
   .rename_i z;rw[Zm] at z;exact z
   .exact J2 h
  refine wi (λ_=>Yp g) λ_=>Yo (FP W O f (by rw[Zm];lia) λa c b q l m=>Yp (go a c b () l m))
 .exact Yp g
def Pc {ps:Yc}{lo k:Nat}{ix a:Yi}{R:ForInStep U1->YB}(W:Wk lt)(O:yp prog w A s kind it lt N)(B:SBp it kind ps.toArray a st)(L:PlO lo N ix a (lo+k))(U:zl lt lo a (lo+k))(ch:yx lt ix 0 ps lo)(le:lo<=N)(k1:1<=k)(k2:lo+k<=N)
 (go:∀ps jx b,RI it kind lt N ps (lo+k) jx b->(∀i,lo+k<=i->i<N->gx jx i=i)->R (.yield (none,lo+k)) b):YK prog w A E s (hO N lo k) R st:=by
 have j:Seg lt a lo (lo+k):=⟨L.mid,U⟩;have m:RI it kind lt N ps lo a st:=⟨B,L.size,L.perm,ch.same λi _ f=>L.low i f,le⟩;refine Yo (wpS_get ?_);rw[B.pd];rcases List.eq_nil_or_concat ps with z|⟨l,y,z⟩
 .subst z;exact FQ j k1 k2 L.suf go m
 .have e:1<=ps.length:=by rw[z,List.concat_eq_append,Ua];exact Nat.le_add_left _ _
  rw[show ps.toArray.back? = some y by rw[z,List.concat_eq_append];simp];refine Yo (Yq (Yr (I:=λ_ c g=>c=(none,Yt)/\∃ps jx,1<=ps.length/\RI it kind lt N ps lo jx g/\∀i,lo<=i->gx jx i=gx a i) ?_ (λ_ _ z=>z) ⟨rfl,_,a,e,m,λ_ _=>rfl⟩) ?_)
  .rintro y c g _ _ ⟨rfl,ps,jx,e,h,un⟩;exact Pb W O e h () ()
  .rintro c g ⟨rfl,ps,jx,e,h,un⟩;exact Pa (j.same ()) k1 k2 (λi n f=>(un i (Zh (Uo _ _) n)).trans (L.suf i n f)) go e h
def Pd {ps:Yc}{jx:Yi}{Q:ForInStep U2->YB}(W:Wk lt)(O:yp prog w A s kind it lt N)(R:RI it kind lt N ps N jx st)(e:ps.length<=1->Q (.done (none,Yt)) st)
 (go:∀a f b,a.length+1=ps.length->RI it kind lt N a N f b->Q (.yield (none,Yt)) b):YK prog w A E s rm Q st:=by
 refine Yo (wpS_get ?_);rw[R.b.pd];refine wi (λc=>Yp (e c)) λc=>Yo (FP W O R ?_ λa jx b g h _=>Yp (go a jx b g h));have:=OZ (p:=ps.toArray)
 grind
def Pe {ix:Yi}{Q:Unit->YB}(W:Wk lt)(O:yp prog w A s kind it lt N)(z:RI it kind lt N [] 0 ix st)(j:∀i,i<N->gx ix i=i)(n:2<=N)
 (h:∀jx f,arrOf f=jx.map it->failedOf f=none->Pl N jx N->Up lt jx N->Q Yt f):YK prog w A E s sortRuns' Q st:=by
 have sz:(arrOf st).size=N:=by rw[z.b.arr,Ul];exact z.size
 rw[uA];refine Yo (wpS_get ?_);rw[sz];refine Yo (Yq (Yr (I:=λx c t=>∃lo ps ix,c=(none,lo)/\x<=lo/\RI it kind lt N ps lo ix t/\∀i,lo<=i->i<N->gx ix i=i) (Q:=λc t=>∃ps ix,c=(none,N)/\RI it kind lt N ps N ix t) ?_ ?_ ⟨0,[],ix,rfl,Zf _,z,λi _ X=>j i X⟩) ?_)
 .rintro x c t _ Y ⟨lo,ps,ix,rfl,K,R,j⟩;have le:=R.le;refine wi (λo=>?_) λo=>?_
  .have e:lo=N:=Nat.le_antisymm le o;subst e;exact Yp ⟨ps,ix,rfl,R⟩
  have o:lo<N:=Yv o;have Z:PlO lo N ix ix (lo+1):=⟨R.size,R.perm,λ_ _=>rfl,λa u n=>by
   rw[j a u (Zg n o)];exact⟨u,n⟩,λa u n=>j a (Uw u) n⟩
  have sub:∀{k},k<=N-lo->lo+k<=N:=λh=>Zh (Nat.add_le_add_left h _) (Yx (Vs le));have v:∀{k y C} {l:ForInStep U1->YB},SBp it kind ps.toArray y C->1<=k->k<=N-lo->PlO lo N ix y (lo+k)->zl lt lo y (lo+k)->(∀ps jx f,x+1<=lo+k->RI it kind lt N ps (lo+k) jx f->(∀i,lo+k<=i->i<N->gx jx i=i)->l (.yield (none,lo+k)) f)->YK prog w A E s (hO N lo k) l C:=
   λB k1 k2 L U g=>Pc W O B L U R.ch le k1 (sub k2) λps jx f l s'=>g ps jx f (Nat.add_le_add K k1) l s'
  exact Yo (OS W O (sub (Zf _)) (λm kx s2 M P m2 S U2=>wi (λT=>Yo (wpS_lift (wpAny_rule ⟨rfl,Yo (OU W O (sub (Nat.min_le_left _ _)) (Nat.le_min.mpr ⟨m2,Zz T⟩) P M S U2 λy C B3 L3 U3=>v B3 (Nat.le_min.mpr ⟨Nat.sub_pos_of_lt o,Nat.zero_lt_of_lt T⟩) (Nat.min_le_left _ _) L3 U3 λps jx f g l s'=>⟨_,ps,jx,rfl,g,l,s'⟩)⟩))) λ_=>v M P m2 S U2 λps jx f g l s'=>⟨_,ps,jx,rfl,g,l,s'⟩) (Nat.sub_pos_of_lt o) R.b Z)
 .rintro c t ⟨lo,ps,ix,rfl,K,R,j⟩;have le:=R.le;have e:lo=N:=()
  subst e;exact⟨ps,ix,rfl,R⟩
 .rintro c t ⟨ps,ix,rfl,R⟩;refine Yo (Yq (Yr (I:=λx c q=>∃ps ix,c=(none,Yt)/\(ps.length<=1\/ps.length+x<=N)/\RI it kind lt N ps N ix q) (Q:=λc q=>∃ps ix,c=(none,Yt)/\ps.length<=1/\RI it kind lt N ps N ix q) ?_ ?_ ⟨ps,ix,rfl,.inr (by have:=R.ch.le;lia),R⟩) ?_)
  .rintro x c q _ Y ⟨ps,ix,rfl,F,R⟩;exact Pd W O R (λc1=>⟨ps,ix,rfl,c1,R⟩) λG jx f l' l=>⟨G,jx,rfl,(),l⟩
  .rintro c q ⟨ps,ix,rfl,F,R⟩;exact⟨ps,ix,rfl,(),R⟩
  .rintro c q ⟨ps,ix,rfl,F,R⟩;cases ps with
   |nil =>
    have:0=N:=R.ch;lia
   |cons p r =>
    have e:r=[]:=List.eq_nil_of_length_eq_zero (Nat.le_zero.mp (Nat.le_of_succ_le_succ F));subst e;obtain⟨d1,d2,H,J⟩:=R.ch;have J:0+p.2.1=N:=J;rw[J] at H;exact Yp (h ix q R.b.arr R.b.fl ⟨R.size,R.perm,λa ha=>(H.pl a (Ub _) ha).2,λa u n=>Zn n (Nat.not_lt_of_le u)⟩ λa b ab bn=>H.up a b (Ub _) ab bn)
end
open PySem PyProof.Rows
section
variable {prog:Program}{w:World}{A:Around}{E:Ya}{s:Shared}{kind:SortKind}{it:Nat->Keyed}{lt:Yd}{n:Nat}{ix:Yi}{st:SortSt}
def FR (W:Wk lt)(O:yp prog w A s kind it lt n){Q:Unit->YB}(B:SB it kind ix st)(L:Pl n ix 1)(b:2<=n)(c:n<1000)
 (h:∀jx a,arrOf a=jx.map it->failedOf a=none->Pl n jx n->Up lt jx n->Q Yt a):YK prog w A E s sortRuns' Q st:=
 Pe W O ⟨⟨B.arr,B.kd,B.fl,B.pd⟩,L.size,L.perm,rfl,Ub _⟩ (λi e=>if z:i=0 then by rw[z];have:=L.pre 0 ();lia else L.suf i () e) b h
end
def jA (a:Yf)(i:Nat):Value:=a.getD i .none
def CA (a:Yf):a.toArray.zip a.toArray=(Array.range a.length).map λi=>(jA a i,jA a i):=by
 apply Array.ext_getElem?;intro k;rw[UO];by_cases h:k<a.length
 .rw[Array.getElem?_range,Zd h];have e:jA a k=a[k]:=by unfold jA;rw[UL,Zqg h];rfl
  simp[Array.getElem?_zip_eq_some,h,e]
 .rw[Array.getElem?_range,Ze h,VF (by simp;lia)];rfl
def FU (h:k<n):gx (Array.range n) k=k:=by
 simp_all [gx]
def A0 (n k:Nat)(b:k<=n):Pl n (Array.range n) k:=by
 refine⟨Array.size_range,Array.Perm.refl _,λa c=>?_,λa _ h=>FU h⟩
 rwa [FU ()]
section
variable {prog:Program}{w:World}{A:Around}{E:Ya}{s:Shared}{lt:Yd}
def wo (prog:Program)(w:World)(A:Around)(s:Shared)(a:Yf)(lt:Yd):Prop:=
 ∃kind,(∀(E:Ya) (Q:SortKind->YC),Q kind s->YJ prog w A (keyKind' a.toArray) Q E s)/\yp prog w A s kind (λi=>(jA a i,jA a i)) lt a.length
def FV (W:Wk lt)(l:s.heap.get? a=some (seqObj "list" vs.toArray n))(q:vs.length<1000)
 (x:∀h',(∀b o,b≠a->s.heap.get? b=some o->h'.get? b=some o)->2<=vs.length->wo prog w A { s with heap:=h' } vs lt)
 (h:∀jx,Pl vs.length jx vs.length->Up lt jx vs.length->P (.done (.ret .none)) { s with heap:=sortedHeap s.heap a vs (jx.map (jA vs)) }):
 YJ prog w A (Builtin.«list.sort» ⟨[.ref a],[]⟩) P E s:=by
 rw[list_sort_plain];have G:a<s.heap.objs.size:=Zk l;obtain⟨r,g1⟩:∃r,(s.heap.update a (Obj.mapSeq λ_ => #[])).get? a=some (seqObj "list" #[] r):=⟨_,get?_update_seq l (λ_ => #[])⟩;refine Za (listItems_at l rfl (Za (listUpdate_at l rfl (Za (seqEpoch_at g1 rfl (Za (wpAny_newTuple (Za (wpAny_newList (wpAny_holding ?_))))))))));have t:∀b,b<s.heap.objs.size->b≠(s.heap.update a (Obj.mapSeq λ_ => #[])).objs.size:=λb m=>by
  rw[Heap.size_update];exact Zi m
 have u:∀b,b<s.heap.objs.size->b≠((s.heap.update a (Obj.mapSeq λ_ => #[])).push (seqObj "tuple" vs.toArray 0)).objs.size:=λb m=>by
  rw[size_push',Heap.size_update];exact by lia
 have p:(((s.heap.update a (Obj.mapSeq λ_ => #[])).push (seqObj "tuple" vs.toArray 0)).push (seqObj "list" #[] 0)).get? a=some (seqObj "list" #[] r):=by
  grind[Heap.get?_push_ne]
 have y:∀b o,b≠a->s.heap.get? b=some o->(((s.heap.update a (Obj.mapSeq λ_ => #[])).push (seqObj "tuple" vs.toArray 0)).push (seqObj "list" #[] 0)).get? b=some o:=λb o m e=>by
  rw[Heap.get?_push_ne _ _ _ (u b (Zk e)),Heap.get?_push_ne _ _ _ (t b (Zk e)),Heap.get?_update_ne _ _ _ _ m];exact e
 have v:∀(jx:Yi),(jx.map λi=>(jA vs i,jA vs i)).map (·.2)=jx.map (jA vs):=by simp
 show YJ prog w A _ P E { s with heap:=((s.heap.update a (Obj.mapSeq λ_ => #[])).push (seqObj "tuple" vs.toArray 0)).push (seqObj "list" #[] 0) };dsimp only;have sz:vs.toArray.size=vs.length:=by simp
 by_cases f:vs.toArray.size<2
 .rw[Zd f,Zd f];refine Za (Zb ?_);rw[StateT.run_pure];refine Za (Zb ?_);dsimp only;refine Za (seqEpoch_at p rfl (Za (listUpdate_at p rfl ?_ (hsz2:=by rw[Ul,CA,Ul,Array.size_range,sizeLine_eq];lia))));simp only[bne_self_eq_false,UD,if_false];have c:=h (Array.range vs.length) (A0 _ _ (Zf _)) λi j H I=>()
  rw[<- v,<- CA] at c;exact Zb c
 .rw[Ze f,Ze f];obtain⟨kind,k1,k2⟩:=x _ y ();refine Za (k1 _ _ ?_);refine Za (Zc (FR W k2 (ix:=Array.range vs.length) (st:=SortSt.mk' kind (vs.toArray.zip vs.toArray) #[] 7 none) (Q:=λ_ g=>∃jx,arrOf g=jx.map (λi=>(jA vs i,jA vs i))/\failedOf g=none/\Pl vs.length jx vs.length/\Up lt jx vs.length)
   ⟨CA vs,rfl,rfl,rfl⟩ (A0 _ _ ()) () q λjx g z B C F=>⟨jx,z,B,C,F⟩) ?_ λ_ _ e=>e)
  rintro⟨⟨⟩,g⟩ s' ⟨rfl,jx,q1,q2,q3,q4⟩;dsimp only;refine Za (seqEpoch_at p rfl (Za (listUpdate_at p rfl ?_ (hsz2:=by
   rw[Ul,q1,Ul,q3.size,sizeLine_eq];lia))))
  rw[q2];simp only[bne_self_eq_false,UD,if_false];have c:=h jx q3 q4;rw[<- v,<- q1] at c;exact Zb c
def FW (W:Wk lt)
 (h:wpAny (model prog w) A.in1 (collect x) (λa c=>a.length<1000/\(∀h',(∀b o,c.heap.get? b=some o->h'.get? b=some o)->2<=a.length->wo prog w A.in1.in1 { c with heap:=h' } a lt) /\
  ∀jx h' l,Pl a.length jx a.length->Up lt jx a.length->(∀b o,c.heap.get? b=some o->h'.get? b=some o)->c.heap.objs.size<=l->(∃e,h'.get? l=some (seqObj "list" (jx.map (jA a)) e))->Q (.ref l) { c with heap:=h' }) E s):
 YJ prog w A (call (.builtin "sorted") [x]) Q E s:=by
 refine Calls.call_function_entry kind_sorted plain_sorted entry_sorted (args_sorted1 _) (Za (Zb (Za (Zc h (λa c z=>?_) λ_ _ e=>e))));obtain⟨f,i,j⟩:=z;have g:(c.heap.push (seqObj "list" a.toArray 0)).get? c.heap.objs.size=some (seqObj "list" a.toArray 0):=Zr _ rfl;have m:∀b o,c.heap.get? b=some o->b≠c.heap.objs.size:=λb o e=>Zi (Zk e);refine Za (wpAny_newList (Za (wpAny_holding (wpAny_call_entry slot_list_sort ⟨_,g,rfl⟩ entry_list_sort (FV W g f (λh' n=>i h' λb o e=>n b o (m b o e) (Zq _ e)) λjx p u=>⟨_,rfl,Zb ⟨_,rfl,j jx _ _ p u (λb o e=>?_) (Zf _) (sortedHeap_at g)⟩⟩) (args_list_sort _)))))
 grind[size_push',sortedHeap_old,Nat.lt_succ_of_lt,Heap.lt_size,Heap.get?_push_of_some]
end
structure Tot {α: Type}(ltb:α -> α -> Bool):Prop where
 asy:∀a b,ltb a b=true->ltb b a=false
 neg:∀a b c,ltb a c=true->ltb a b=true\/ltb b c=true
 tot:∀a b,ltb a b=false->ltb b a=false->a=b
def Tot.irr {α: Type}{ltb:α -> α -> Bool}(T:Tot ltb)(a:α):ltb a a=false:=by
 cases q:ltb a a with
 |false=>rfl
 |true=>have:=T.asy _ _ q;rw[q] at this;cases this
def Tot.wk {α: Type}{ltb:α -> α -> Bool}(T:Tot ltb)(f:Nat -> α):Wk λi j=>ltb (f i) (f j):=⟨λi j=>T.asy _ _,λi j k=>T.neg _ _ _⟩
def jR (p q:Int×Int):Bool:=decide (p.1<q.1)||(decide (p.1=q.1)&&decide (p.2<q.2))
theorem V5:jR p q=true↔p.1<q.1\/(p.1=q.1/\p.2<q.2):=by
 unfold jR;simp
theorem Y7:jR p q=false↔¬(p.1<q.1\/(p.1=q.1/\p.2<q.2)):=by
 rw[<- V5];simp
def wF:Tot jR:=by
 refine⟨λa b h=>?_,λa b c h=>?_,λa b e f=>?_⟩
 .rw[V5] at h;rw[Y7];lia
 .rw[V5] at h;rw[V5,V5];lia
 grind[Y7]
def j5:Jy->Jy->Bool
 | [],[]=>false
 | [],_::_=>true
 |_::_,[]=>false
 |p::r,q::s=>if p=q then j5 r s else jR p q
def V6 (p q:Int×Int)(r s:Jy):j5 (p::r) (q::s)=if p=q then j5 r s else jR p q:=rfl
theorem FY:∀a b:Jy,j5 a b=true->j5 b a=false
 | [],[],h=>J9 h
 | [],_::_,_=>rfl
 |_::_,[],h=>J9 h
 |p::r,q::s,h=>by
  rw[V6] at h ⊢;by_cases e:p=q
  .rw[Zd e] at h;rw[Zd e.symm];exact FY r s h
  .rw[Ze e] at h;rw[Ze (λz=>e z.symm)];exact wF.asy _ _ h
theorem FZ:∀a b c:Jy,j5 a c=true->j5 a b=true\/j5 b c=true
 | [],[],c,h=>.inr h
 | [],_::_,_,_=>.inl rfl
 |_::_,_,[],h=>J9 h
 |p::r,[],q::s,_=>.inr rfl
 |p::r,x::t,q::s,h=>by
  rw[V6] at h;rw[V6,V6];by_cases e:p=q
  .rw[Zd e] at h;by_cases f:p=x
   .rw[Zd f,Zd (f.symm.trans e)];exact FZ r t s h
   .rw[Ze f,Ze (λz=>f (e.trans z.symm))];cases z:jR p x with
    |true=>exact .inl rfl
    |false =>
     right;rw[<- e];cases y:jR x p with
     |true=>rfl
     |false=>exact Zn (wF.tot _ _ z y) f
  .rw[Ze e] at h;by_cases f:p=x
   .simp_all
   .rw[Ze f];by_cases g:x=q
    .left
     rwa [g]
    .rw[Ze g];exact wF.neg _ _ _ h
theorem Ga:∀a b:Jy,j5 a b=false->j5 b a=false->a=b
 | [],[],_,_=>rfl
 | [],_::_,h,_=>by cases h
 |_::_,[],_,h=>by cases h
 |p::r,q::s,h1,h2=>by
  rw[V6] at h1 h2;by_cases e:p=q
  .rw[Zd e] at h1;rw[Zd e.symm] at h2;rw[e,Ga r s h1 h2]
  .rw[Ze e] at h1;rw[Ze (λz=>e z.symm)] at h2;exact Zn (wF.tot _ _ h1 h2) e
def xY:Tot j5:=⟨FY,FZ,Ga⟩
section
variable {α: Type}(ltb:α -> α -> Bool)
def zr (x:α):List α -> List α
 | []=>[x]
 |y::r=>if ltb x y=true then x::y::r else y::zr x r
def JP:List α -> List α
 | []=>[]
 |x::r=>zr ltb x (JP r)
def Sd (l:List α):Prop:=l.Pairwise λa b=>ltb b a=false
variable {ltb}
theorem CB (x:α):∀l:List α,(zr ltb x l).Perm (x::l)
 | []=>Vh _
 |y::r=>by
  unfold zr
  split
  .exact Vh _
  .exact((CB x r).cons y).trans (List.Perm.swap x y r)
theorem Qv:∀l:List α,(JP ltb l).Perm l
 | []=>Vh _
 |x::r=>(CB x _).trans ((Qv r).cons x)
theorem Gb (T:Tot ltb)(x:α):∀l:List α,Sd ltb l->Sd ltb (zr ltb x l)
 | [],_=>VU _ _
 |y::r,h=>by
  obtain⟨a,b⟩:=Ji.mp h;unfold zr
  split
  .rename_i c;refine Ji.mpr ⟨λz hz=>?_,h⟩;rcases UV.mp hz with e|e
   .rw[e];exact T.asy _ _ c
   .cases q:ltb z x with
    |false=>rfl
    |true =>
     rcases T.neg x z y c with u|u
     .rw[T.asy _ _ u] at q;exact J9 q
     .rw[(a z e)] at u;exact J9 u
  .refine Ji.mpr ⟨λz hz=>?_,Gb T x r b⟩
   grind[CB]
theorem WG (T:Tot ltb):∀l:List α,Sd ltb (JP ltb l)
 | []=>List.Pairwise.nil
 |x::r=>Gb T x _ (WG T r)
theorem A1 (T:Tot ltb):∀{a b:List α},a.Perm b->Sd ltb a->Sd ltb b->a=b
 | [],b,p,_,_=>p.nil_eq
 |x::r,b,p,ha,hb=>by
  cases b with
  |nil=>simp_all
  |cons y t =>
   obtain⟨c,f⟩:=Ji.mp ha;obtain⟨g,h⟩:=Ji.mp hb;have e:x=y:=by
    rcases UV.mp (p.mem_iff.mp Zqs) with z|z
    .exact z
    .rcases UV.mp (p.mem_iff.mpr Zqs) with u|u
     .exact u.symm
     .exact T.tot _ _ (g x z) (c y u)
   subst e;rw[A1 T p.cons_inv f h]
def CC (T:Tot ltb){l:List α}{d:α}(p:Pl l.length jx l.length)(u:Up (λi j=>ltb (l.getD i d) (l.getD j d)) jx l.length):jx.toList.map (λi=>l.getD i d)=JP ltb l:=by
 refine A1 T ?_ ?_ (WG T l)
 .refine Vg ?_ (Qv l).symm;have q:jx.toList.Perm (List.range l.length):=by
   have:=Jp.mp p.perm;simpa using this
  refine(q.map _).trans (List.Perm.of_eq ?_);apply List.ext_getElem
  .simp
  .intro i m c;simp[c]
 .refine Jj.mpr λa b e f ab=>?_;rw[VG,VG];have sz:jx.toList.length=l.length:=by rw[Ui,p.size]
  rw[Zql] at e f;have g:jx.toList[a]=gx jx a:=by
   simp_all [gx]
  have h:jx.toList[b]=gx jx b:=by
   simp_all [gx]
  rw[g,h];exact jJ.no (T.wk λi=>l.getD i d) (u a b ab ())
end
theorem JX {α: Type}{l:List α}{d x:α}(h:l[i]? = some x):l.getD i d=x:=()
def WH (h:Heap)(b:Yf)(ps:Jy):Prop:=b.length=ps.length/\∀(i:Nat) p,ps[i]? = some p->∃a o n t u,b[i]? = some (.ref a)/\h.get? a=some o/\o.cls=.type "tuple" /\ o.data=.seq #[.int p.1 t,.int p.2 u] n
section
variable {prog:Program}{w:World}{A:Around}{s:Shared}
theorem Gc:∀{b:Yf} {ps:Jy},WH h b ps->∃fs,W.KatTups h b fs/\fs.length=b.length/\∀v∈fs,∃k t,v=Value.int k t
 | [],ps,q=>⟨[],.nil,rfl,()⟩
 |v::b,[],q=>by have:=q.1;simp at this
 |v::b,p::ps,q=>by
  obtain⟨a,o,n,t,u,c,e,f,g⟩:=q.2 0 p rfl;obtain rfl:=Zqi c;obtain⟨fs,k1,k2,k3⟩:=Gc ⟨by have:=q.1;simpa using this,λi p hp=>q.2 (i+1) p hp⟩;refine⟨.int p.1 t::fs,.cons e f g rfl k1,by simp[k2],λv j=>?_⟩
  grind
def Pf (q:WH s.heap vs ps)(B:2<=vs.length):wo prog w A s vs λi j=>jR (ps.getD i (0,0)) (ps.getD j (0,0)):=by
 obtain⟨fs,k1,k2,k3⟩:=Gc q;refine⟨tuples' (Value.type "int" != Value.type "tuple"),λE Q h=>W.kat_kind (T:=Value.type "int") k1 () (λv b=>?_) rfl h,λi j C F E Q h=>?_⟩
 .obtain⟨k,t,rfl⟩:=k3 v b;exact W.Looks.of_pure rfl
 .have G:=q.1;obtain⟨p,hp⟩:∃p,ps[i]? = some p:=⟨_,Zqg ()⟩;obtain⟨p',hp'⟩:∃p,ps[j]? = some p:=⟨_,Zqg ()⟩;obtain⟨a,o,n,t,u,e,f,H,l⟩:=q.2 i p hp;obtain⟨I,J,K,t',m,r,x,L,y⟩:=q.2 j p' hp';dsimp only at h;rw[JX hp,JX hp'] at h;show YJ prog w A (keyLt' _ (jA vs i) (jA vs j)) Q E s;unfold jA;rw[JX e,JX r];refine W.kat_lt f l x y ?_;refine W.kat_cons (PySem.SeqAt.EqAt.int_int p.1 t p'.1 t' prog w _ _ ?_);by_cases c:p.1=p'.1
  .rw[show(p.1 == p'.1)=true by simpa using c];refine W.kat_yes (W.kat_cons (PySem.SeqAt.EqAt.int_int p.2 u p'.2 m prog w _ _ ?_));by_cases d:p.2=p'.2
   .rw[show(p.2 == p'.2)=true by simpa using d];refine W.kat_yes (W.kat_nil ?_);have z:jR p p'=false:=by rw[Y7];lia
    rw[z] at h;exact h
   .rw[show(p.2 == p'.2)=false by simpa using d];refine W.kat_no (W.kat_one _ _ (lt_int ?_));have z:jR p p'=decide (p.2<p'.2):=by
     by_cases g:p.2<p'.2
     .rw[Zp g,V5];lia
     .rw[Zo g,Y7];lia
    rw[z] at h;exact h
  .rw[show(p.1 == p'.1)=false by simpa using c];refine W.kat_no (oneLt_int ?_);have z:jR p p'=decide (p.1<p'.1):=by
    by_cases g:p.1<p'.1
    .rw[Zp g,V5];lia
    .rw[Zo g,Y7];lia
   rw[z] at h;exact h
structure RowAt (h:Heap)(v:Value)(r:Jy)(a:Addr)(o:Obj)(us:Yf)(n:Nat):Prop where
 isv:v=.ref a
 get:h.get? a=some o
 cls:o.cls=.type "tuple"
 dat:o.data=.seq us.toArray n
 prs:WH h us r
def CD (ok:qR P w H h)(g:Is H (rD r) x)(j:jq x v):∃a o l n,RowAt h v r a o l n:=by
 obtain⟨a,K,rfl,m,c⟩:=g;obtain rfl:=j;obtain⟨_,its,e,o,q,t,n,y⟩:=(ok a _ m);refine⟨a,o,its,n,rfl,q,t,y,?_,λi p hp=>?_⟩
 .have z:=c.length;have L:=e.length;rw[Zql] at z;lia
 .obtain⟨x,B,C⟩:=c.get (by rw[Zv,hp];rfl);obtain⟨u,M,E⟩:=e.get B;obtain⟨b,rfl,F⟩:=bO.mp C;obtain rfl:=E;obtain⟨_,f,G,N,O,Q,R,S⟩:=(ok b _ F);obtain⟨T,U,rfl,I,J⟩:=XO G;obtain⟨X,rfl⟩:=(I);obtain⟨Y,rfl⟩:=(J)
  simp_all
theorem Gd (J:A.units+4<cLine){f:Bool}{E:Ya}{Q:Bool->YC}:∀{r g:Jy} {e b:Yf} (i:Nat),WH s.heap e r->WH s.heap b g ->
 f=decide (r.length<g.length)->Q (j5 r g) s->W.KatLex prog w A false f Q (e.zip b) i s
 | [],[],e,b,i,q,q',hf,h=>by
  obtain rfl:e=[]:=Jq.mp q.1;refine W.kat_nil ?_;rw[hf];exact h
 | [],p::g,e,b,i,q,q',hf,h=>by
  obtain rfl:e=[]:=Jq.mp q.1;refine W.kat_nil ?_;rw[hf,Zp ()];exact h
 |p::r,[],e,b,i,q,q',hf,h=>by
  obtain rfl:b=[]:=Jq.mp q'.1;rw[List.zip_nil_right];refine W.kat_nil ?_;rw[hf,Zo ()];exact h
 |p::r,p'::g,e,b,i,q,q',hf,h=>by
  obtain⟨a,o,n,t,u,j,m,x,y⟩:=q.2 0 p rfl;obtain⟨B,K,L,t',C,l,F,G,H⟩:=q'.2 0 p' rfl;cases e with
  |nil=>exact J2 j
  |cons v e =>
   cases b with
   |nil=>exact J2 l
   |cons M b =>
    have j:some v=some (Value.ref a):=j;have l:some M=some (Value.ref B):=l;obtain rfl:=Zqi j;obtain rfl:=Zqi l;have N:Reads s.heap (.ref a) (pD p) _:=.tuple m x y (.cons (.int p.1 t) (.cons (.int p.2 u) .nil));have R2:Reads s.heap (.ref B) (pD p') _:=.tuple F G H (.cons (.int p'.1 t') (.cons (.int p'.2 C) .nil));have I:∀z:Int×Int,(pD z).depth=1:=λz=>by
     rfl
    rw[Vd];refine W.kat_cons (PySem.SeqAt.eqAt_reads _ _ A s _ _ _ _ N R2 rfl rfl (by rw[I,I];lia) prog w _ _ ?_);rw[V6] at h;by_cases c:p=p'
    .subst c;rw[O1 (Cs p)];rw[Zd rfl] at h;refine W.kat_yes (Gd J (E:=E) (i+1) ⟨by have:=q.1;simpa using this,λi z hz=>q.2 (i+1) z hz⟩ ⟨by have:=q'.1;simpa using this,λi z hz=>q'.2 (i+1) z hz⟩ (by rw[hf];simp) h)
    .rw[Ze c] at h;have ne:pD p≠pD p':=λz=>c (by
      grind[pD])
     rw[O0 (Cs p) (Cs p') ne];have O:IntsAre (#[Value.int p.1 t,Value.int p.2 u]:Yn).toList [p.1,p.2]:=.cons _ _ (.cons _ _ .nil);have P:IntsAre (#[Value.int p'.1 t',Value.int p'.2 C]:Yn).toList [p'.1,p'.2]:=.cons _ _ (.cons _ _ .nil);refine W.kat_one _ _ (HT.lt_tupInts ⟨o,m,x,n,y⟩ ⟨K,F,G,L,H⟩ O P () ?_);have z:HT.lexLt [p.1,p.2] [p'.1,p'.2]=jR p p':=by
      grind[jR,HT.lexLt_cons,HT.lexLt_nil_nil]
     rwa [z]
def Ge {P:Program}{H:Hp}{rs:Jz}{K:YE}{c:Yf}(U:A.units+4<cLine)(ok:qR P w H s.heap)(L:qc H (rs.map rD) K)(M:jp K c)(e:∀r∈rs,r ≠ [])(h2:2<=c.length):
 wo prog w A s c λi j=>j5 (rs.getD i []) (rs.getD j []):=by
 have X:=L.length;have l2:=M.length;rw[Zql] at X;have l:∀(i:Nat) r,rs[i]? = some r->∃v a o m n,c[i]? = some v/\RowAt s.heap v r a o m n:=λi r g=>by
  obtain⟨x,Y,N⟩:=L.get (i:=i) (d:=rD r) (by rw[Zv,g];rfl);obtain⟨v,q,Z⟩:=M.get Y;obtain⟨a,o,m,n,R⟩:=CD ok N Z;exact⟨v,a,o,m,n,q,R⟩
 have f:∀(c:Yf) (rs:Jz),c.length=rs.length->(∀r∈rs,r ≠ [])->(∀(i:Nat) r,rs[i]? = some r->∃v a o m n,c[i]? = some v/\RowAt s.heap v r a o m n)->∃fs,W.KatTups s.heap c fs/\fs.length=c.length/\∀v∈fs,∃b B,v=Value.ref b/\s.heap.get? b=some B/\B.cls=.type "tuple" := by
  intro c
  induction c with
  |nil=>exact λ_ _ _ _=>⟨[],.nil,rfl,λv q=>nomatch q⟩
  |cons v c ih =>
   intro rs O e C;cases rs with
   |nil=>simp at O
   |cons r rs =>
    obtain⟨S,a,o,m,n,F,R⟩:=C 0 r rfl;have F:some v=some S:=F;obtain rfl:=Zqi F;obtain⟨fs,k1,k2,k3⟩:=ih rs (by simpa using O) (λr g=>e r (Zqm _ g)) λi r g=>C (i+1) r g;cases r with
    |nil=>exact Zn rfl (e [] Zqs)
    |cons p r =>
     obtain⟨b,B,nb,t,u,I,J,g3,g4⟩:=R.prs.2 0 p rfl;obtain rfl:v=Value.ref a:=R.isv;refine⟨.ref b::fs,.cons R.get R.cls R.dat (by simpa using I) k1,by simp[k2],λz hz=>?_⟩;rcases UV.mp hz with y|y
     .exact⟨b,B,y,J,g3⟩
     .exact k3 z y
 obtain⟨fs,k1,k2,k3⟩:=f c rs () e l;refine⟨tuples' (Value.type "tuple" != Value.type "tuple"),λE Q h=>W.kat_kind (T:=Value.type "tuple") k1 () (λv q=>?_) rfl h,λi j N hj E Q h=>?_⟩
 .obtain⟨b,B,rfl,I,J⟩:=k3 v q;rw[<- J];exact(W.Looks.ld I).andThen .now
 .obtain⟨r,g⟩:∃r,rs[i]? = some r:=⟨_,Zqg ()⟩;obtain⟨r',hr'⟩:∃r,rs[j]? = some r:=⟨_,Zqg ()⟩;obtain⟨v,a,o,m,n,F,R⟩:=l i r g;obtain⟨S,a',o',us',n',f1,G⟩:=l j r' hr';dsimp only at h;rw[JX g,JX hr'] at h;show YJ prog w A (keyLt' _ (jA c i) (jA c j)) Q E s;unfold jA;rw[JX F,JX f1,R.isv,G.isv];refine W.kat_lt R.get R.dat G.get G.dat ?_;exact Gd U (E:=E) 0 R.prs G.prs (by rw[Zm,Zm,R.prs.1,G.prs.1]) h
end
section
variable {X:Cx}{tg iter elt c:Expr}{scope:Scope}{pos:Pos}{wi:TI}{g:TG}{te:TE}{tt:TT}
def Gf (N:Yk)(cap:List (Option Nat))(p:X.calm=true)(l:QF scope X.env N X.N cap=true)(r:PI X tg iter wi)(t:∀a C s H f,PG (JK X scope N a C s H f) tg g)(u:∀a C s H f,PT (JK X scope N a C s H f) c tt)(v:∀a C s H f,PE (JK X scope N a C s H f) elt te)
 (hs:∀x,foldedSetIterable iter X.env x=pure x) {use:Option (Value->Sem Unit)} {R:Ya} {i:Pos} {Y:Yb} {s:Shared} {Z: St} {H:Hp} {Q:VK} (I:Inv X Y Z H s) (h:XU cap wi g tt te Z H Q) (m:XV X Y Z Q use R):
 YI X (comprehension (.ListComp elt [⟨tg,iter,[c],0⟩] scope pos) scope X.env i (newList []) false (eval iter X.env) use) R X.xe s:=
 Fj (test:=λenv R Q s=>YI X (isTrue c env (eval c env)) Q (notedBy (model X.prog X.w) X.A env λe s'=>R (.error e) s') s) N (λI j n h=>W.kct_loop I j n h)
  (λa C s H f _ _ _ _ _ _ _ _ o I q k=>Zc (u a C s H f _ _ _ _ _ I q) (λb w z=>by obtain⟨y,A,B⟩:=z;exact k b w y A B) λe s' E=>Zc E (λ_ F z=>o _ _ z) λ_ _ z=>o _ _ z) cap p l r t (λa C s H f _=>v a C s H f) hs I h m
def Pg (N:Yk)(cap:List (Option Nat))(f:X.calm=true)(e:QF scope X.env N X.N cap=true)(i:PI X tg iter wi)(j:∀a C s H b,PG (JK X scope N a C s H b) tg g)(l:∀a C s H b,PT (JK X scope N a C s H b) c tt)(m:∀a C s H b,PE (JK X scope N a C s H b) elt te)
 (hs:∀x,foldedSetIterable iter X.env x=pure x:=by intro _;rfl):PE X (.ListComp elt [⟨tg,iter,[c],0⟩] scope pos) (XU cap wi g tt te):=λY s Z H Q I h=>Gf N cap f e i j l m hs I h Fi
end
theorem Ph {L:List (Addr×HO)}{b:Addr}{u:HO}(h:L.lookup b=some u):(b,u)∈L:=by
 induction L with
 |nil=>exact J2 h
 |cons p r a =>
  grind
def qE (H:Hp)(L:List (Addr×HO)):Hp:=λb=>match L.lookup b with
 |some o=>some o
 |none=>H b
def A3 (h:∀p∈L,p.1≠b):qE H L b=H b:=by
 grind[qE,List.lookup_cons]
def Gg (b:(L.map (·.1)).Nodup)(h:(a,o)∈L):qE H L a=some o:=by
 unfold qE;have e:L.lookup a=some o:=by
  induction L with
  |nil=>cases h
  |cons p r c =>
   grind
 rw[e]
def Gh (h:qE H L b=some u):(b,u)∈L\/((∀p∈L,p.1≠b)/\H b=some u):=by
 grind[qE,Zqi,Ph]
def Inv.laidMany (I:Inv X Y Z H s)(k:∀b u,s.heap.get? b=some u->h'.get? b=some u)(hp:∀p∈L,s.heap.objs.size<=p.1)
 (ok:∀p∈L,xX X.prog X.w (qE H L) h' p.1 p.2):Inv X Y Z (qE H L) { s with heap:=h',toks:=t' }:=by
 have c:∀b u,s.heap.get? b=some u->∀p∈L,p.1≠b:=λb u e p f z=>Zn (Zg (Zk e) (by rw[<- z];exact hp p f)) (Zy _);have a:∀b u,H b=some u->qE H L b=some u:=λb u e=>by
  rwa [A3 λp f z=>Zn (Zg (I.hok.lt e) (by rw[<- z];exact hp p f)) (Zy _)]
 refine I.un ⟨(),λb u q _ _ _=>⟨u.slots,k b u q⟩,λb u q n _=>by rw[A3 (c b u q)];exact n,(),(),(),λb ps q=>⟨#[],by rw[a b _ q];simp⟩⟩ λb u e=>?_;rcases Gh e with z|⟨z,e'⟩
 .exact ok (b,u) z
 .exact(I.hok b u e').stay () () ()
theorem Gi:∀{L:Yj},(∀i∈L,Is H (f i) (g i))->qc H (L.map f) (L.map g)
 | [],_=>by rfl
 |i::L,h=>⟨_,_,rfl,(),Gi ()⟩
theorem Xn:∀{L:Yj},(∀i∈L,jq (g i) (u i))->jp (L.map g) (L.map u)
 | [],_=>.nil
 |i::L,h=>.cons () (Xn ())
def Pl.mem (p:Pl n jx n)(h:i∈jx.toList):i<n:=by
 have q:=(Jp.mp p.perm).mem_iff.mp h;simpa using q
def Pl.len (p:Pl n jx k):jx.toList.length=n:=by rw[Ui,p.size]
section
variable {X:Cx}
def Pi (O:X.A.units+64<cLine):jS X (.builtin "sorted") (λn H Q=>∃a ys rs,n=[.ref a]/\Rd H a (.lst ys)/\qc H (rs.map rD) ys/\(∀r∈rs,r ≠ [])/\rs.length<1000 /\
 ∀(l:Addr) (ix:Yj),H l=none->(∀i∈ix,i<rs.length)->ix.map (λi=>rs.getD i [])=JP j5 rs->Q (.ref l) (j9 H l (.lst (ix.map λi=>ys.getD i .non)))):=by
 intro Y s Z H n P Q I z h;obtain⟨a,ys,rs,rfl,A,f,g,B,q⟩:=h;obtain⟨u,rfl,C⟩:=QM z;obtain rfl:u=Value.ref a:=C;obtain⟨its,j,pl,hz⟩:=I.list (.inl A);have E:=f.length;have R:=j.length;rw[Zql] at E;have t:its.length=rs.length:=()
 have F:∀b o,s.heap.get? b=some o->((s.heap.push (seqObj "list" #[] 0)).update s.heap.objs.size (Obj.mapSeq (· ++ its.toArray))).get? b=some o:=λb o e=>by
  rw[Heap.get?_update_ne _ _ _ _ (Zi (Zk e)),Heap.get?_push_ne _ _ _ (Zi (Zk e))];exact e
 refine FW (xY.wk λi=>rs.getD i []) (collect_list pl.isList ⟨(),λh' w G=>Ge (by show X.A.units+1+1+4<cLine;lia) (I.hok.kept λb o e=>w b o (F b o e)) f j g G,λjx h' l p u w S m=>?_⟩ (by rw[t];exact Q6 ()));obtain⟨e,m⟩:=m;rw[t] at p u;have c:s.heap.objs.size<=l:=by
  grind[Heap.size_update,size_push']
 have J:∀i∈jx.toList,∃x v,ys[i]? = some x/\its[i]? = some v/\jq x v/\Is H (rD (rs.getD i [])) x:=λi K=>by
  have T:=p.mem K;obtain⟨x,y,L⟩:=f.get (i:=i) (d:=rD (rs.getD i [])) (by
   grind[List.getElem?_map,Zqg,JX])
  obtain⟨v,M,N⟩:=j.get y;exact⟨x,v,y,M,N,L⟩
 refine⟨.ref l,j9 H l (.lst (jx.toList.map λi=>ys.getD i .non)),I.laid (a:=l) (o:=.lst (jx.toList.map λi=>ys.getD i .non)) () c ⟨?_,jx.toList.map (jA its),e,?_,?_⟩,rfl,q l jx.toList (I.hok.fresh c) () (CC xY p u)⟩
 .rw[Zql,p.len];exact Q6 ()
 .grind[jA,Xn,JX]
 .rw[m]
  congr 3
  apply U6;simp
def Ws (a d:Addr):HO:=.ext λh=>h.IsItemsView a d
def Pj:nU X "dict.items" (λx c H Q=>∃d a,x=.ref d/\c=[]/\H d=some (.dK a)/\∀p,H p=none->Q (.ref p) (j9 H p (Ws p d))):=by
 intro Y s Z H x c v n Q I f g h;obtain⟨d,a,rfl,rfl,i,q⟩:=h;obtain rfl:=f;obtain rfl:=z8 g;obtain⟨z,lo,j,l,dd⟩:=Ci I.hok i;exact call_meetsIn PySem.F.slot_dict_items dd.typeIs PySem.F.entry_dict_items (PySem.F.args_dict_items_1 _) (meets_dict_items (Qt X.prog X.w) d lo) ⟨⟨j,dd⟩,⟨.ref s.heap.objs.size,j9 H s.heap.objs.size (Ws s.heap.objs.size d),I.laid (λb o e=>Zq _ e) (Zf _) (⟨⟨_,Zr _ rfl,rfl,rfl⟩,⟨_,Zr _ rfl⟩,λt u z m=>have ⟨o,e,r⟩:=z;⟨o,m o e,r⟩⟩),rfl,q _ (I.hok.fresh (Zf _))⟩⟩
def Pk (hc:X.calm=true):jS X (.builtin "sorted") (λxs H Q=>∃j d r,xs=[.ref j]/\H j=some (Ws j d)/\H d=some (.dK (x9 r))/\r ≠ []/\r.length<1000 /\
 ∀l L,(∀p∈L,H p.1=none)->(L.map (·.1)).Nodup->(∀G,Is (qE G L) (.list ((JP jR r).map pD)) (.ref l))->Q (.ref l) (qE H L)):=by
 intro Y s Z H xs us Q I rv h;obtain⟨j,d,r,rfl,hv,hd,R,h64,q⟩:=h;obtain⟨u,rfl,ru⟩:=QM rv;obtain rfl:u=Value.ref j:=ru;obtain⟨v,_,_⟩:=(show xX X.prog X.w H s.heap j (Ws j d) from I.hok j _ hv);obtain⟨z,lo,ws,F,od,es,ep,d1,d2,d3,d4,d5,d6⟩:=Ci I.hok hd;have lk:=F.length;have lr:(x9 r).length=r.length:=Zql _;have S:s.heap.DictAt (Qt X.prog X.w) d ws ep:=⟨od,es,d1,d2,d3,d4,d5,d6⟩;refine FW (wF.wk λi=>r.getD i (0,0)) (W.kdx_collect (knd:=Qt X.prog X.w) (I.ok.hd hc) v S (by rw[<- lk,lr];exact Q6 ()) λh1 tk c T la G=>?_);have U:(c.map Value.ref).length=r.length:=by rw[Zql];lia
 have pa:∀h',(∀b o,h1.get? b=some o->h'.get? b=some o)->WH h' (c.map Value.ref) r:=λh' w=>by
  refine⟨U,λi p hp=>?_⟩;have f:i<c.length:=by
   have:=(Jc.mp hp).1;lia
  obtain⟨A,k,x,g1,g2,g3⟩:=G.pairs i c[i] (Zqg f);have kv:KV (x9 r) ws:=F;have hk:(x9 r)[i]? = some (Ue p.1,V.int p.2):=by unfold x9;rw[Zv,hp];rfl
  have J:∀{l1:List (j0×V)} {l2:List (j0×Value)} {i:Nat} {a:j0×V} {b:j0×Value},KV l1 l2->l1[i]? = some a->l2[i]? = some b->a.1=b.1/\jq a.2 b.2:=by
   intro l1 l2 i a b K;unfold KV at K
   induction K generalizing i with
   |nil=>intro e;simp at e
   |cons hh tt ih =>
    cases i with
    |zero =>
     intro n B;simp at n B;subst n B;exact hh
    |succ i =>
     intro n B;exact ih (by simpa using n) (by simpa using B)
  obtain⟨b1,b2⟩:=J kv hk g1;have b1:(Ue p.1:j0)=k:=b1;subst b1;obtain⟨t1,rfl⟩:=(show ∃t,x=Value.int p.2 t from b2);obtain⟨t0,rfl⟩:∃t,A=Value.int p.1 t:=by
   rcases KG (show WA (Ue p.1) A=true from g2) with ⟨i0,t,n,B⟩|⟨x0,t,n,B⟩
   .cases n;exact⟨t,B⟩
   .cases n
  exact⟨c[i],_,_,t0,t1,by rw[Zv,Zqg f];rfl,w _ _ g3,rfl,rfl⟩
 refine⟨(),λh' w h2=>Pf (pa h' w) h2,λjx h' l p u w hl gl=>?_⟩;obtain⟨e,gl⟩:=gl;rw[U] at p u;have kk:∀b o,s.heap.get? b=some o->h'.get? b=some o:=λb o e=>w b o (T b o e);have M:∀a∈c,s.heap.objs.size<a:=G.above;have N:∀a∈c,a<l:=λa ha=>Zg (G.there ha) hl;have szl:s.heap.objs.size<=l:=by
  cases c with
  |nil=>exact Zn (Jq.mp (by rw[<- U];rfl)) R
  |cons a as'=>exact Zz (Ug (M a Zqs) (N a Zqs))
 obtain⟨L,hL⟩:∃L:List (Addr×HO),L=(l,.lst (jx.toList.map λi=>V.ref (c.getD i 0)))::(c.zip r).map λz=>(z.1,HO.tup [.int z.2.1,.int z.2.2]):=⟨_,rfl⟩;have g:L.map (·.1)=l::c:=by
  rw[hL,Zl,Zw];show l::(c.zip r).map (λz=>z.1)=_;rw[List.map_fst_zip ()]
 have nd:(L.map (·.1)).Nodup:=by
  rw[g];refine Jl.mpr ⟨λm=>Zy _ (N l m),?_⟩;exact G.rise.imp λhlt=>Zi hlt
 have O:∀p∈L,s.heap.objs.size<=p.1:=λp hp=>by
  have:p.1∈L.map (·.1):=Ja.mpr ⟨p,hp,rfl⟩;rw[g] at this;rcases UV.mp this with z|z
  .rw[z];exact szl
  .exact Zz (M _ z)
 have C:∀(G:Hp) (i:Nat) p,r[i]? = some p->qE G L (c.getD i 0)=some (.tup [.int p.1,.int p.2]):=λG i p hp=>by
  have f:i<c.length:=by
   have:=(Jc.mp hp).1;lia
  refine Gg nd ?_;rw[hL];refine Zqm _ (Ja.mpr ⟨(c[i],p),?_,by rw[JX (Zqg f)]⟩);refine Ur (i:=i) ?_;rw[VQ];exact⟨Zqg f,hp⟩
 refine⟨.ref l,qE H L,I.laidMany (t':=tk) kk O λy hy=>?_,rfl,q l L (λp hp=>I.hok.fresh (O p hp)) nd λG'=>?_⟩
 .rw[hL] at hy;rcases UV.mp hy with z'|z'
  .rw[z'];refine⟨?_,jx.toList.map (jA (c.map Value.ref)),e,?_,?_⟩
   .rw[Zql,p.len];exact Q6 ()
   .refine Xn λi f=>?_;have hn:=p.mem f;have P:i<c.length:=()
    unfold jA;rw[JX (Zqg P),JX (x:=Value.ref c[i]) (by rw[Zv,Zqg P];rfl)];rfl
   .rw[gl]
    congr 3
    apply U6;simp
  .obtain⟨⟨a,p'⟩,hm,rfl⟩:=Ja.mp z';obtain⟨i,f⟩:=Jm.mp hm;rw[VQ] at f;obtain⟨i1,i2⟩:=f;obtain⟨a',o',n',t',u',f1,f2,f3,f4⟩:=(pa h' w).2 i p' i2;rw[Zv,i1] at f1;cases f1;obtain⟨A,k,x,g1,g2,g3⟩:=G.pairs i a i1;have E:=w _ _ g3;rw[E] at f2;obtain rfl:=Zqi f2;exact⟨⟨(by show 2<=sizeLine;decide),_,E,rfl⟩,[.int p'.1 t',.int p'.2 u'],.cons ⟨t',rfl⟩ (.cons ⟨u',rfl⟩ .nil),_,E,rfl,n',f4⟩
 .rw[xI];refine⟨l,_,rfl,Gg nd (by rw[hL];exact Zqs),?_⟩;rw[<- CC wF p u,Zw];refine Gi λi f=>?_;have hn:=p.mem f;refine bO.mpr ⟨c.getD i 0,rfl,?_⟩;have:=C G' i (r.getD i (0,0)) (by rw[JX (Zqg hn)];exact Zqg hn);exact this
end
def qL (r:Jy)(t w:Int):Jy:=if(r.any λp=>decide (p.1=t))=true then r.map (λp=>if p.1=t then(p.1,w) else p) else r++[(t,w)]
def Gj:decide ((Ue a:j0)=Ue b)=decide (a=b):=()
def Pm (r:Jy)(t w:Int):qy (x9 r) (Ue t) (V.int w)=x9 (qL r t w):=by
 have e:((x9 r).any λa=>decide (a.1=Ue t))=r.any λp=>decide (p.1=t):=by
  unfold x9;rw[List.any_map]
  congr 1
  funext p
  exact Gj
 unfold qy qL;rw[e]
 split
 .unfold x9;rw[Zw,Zw];apply UE;intro p _;by_cases c:p.1=t
  .simp[c]
  .simp[c]
 .unfold x9;rw[Uc];rfl
theorem A4 (p:Int×Int)(r:Jy)(t:Int):J6 (p::r) t=match J6 r t with|some w=>some w|none=>if p.1=t then some p.2 else none:=rfl
def Pn (r:Jy)(t w j:Int):J6 (r.map λp=>if p.1=t then(p.1,w) else p) j=(J6 r j).map λx=>if j=t then w else x:=by
 induction r with
 |nil=>rfl
 |cons p r a =>
  grind[List.map_cons,A4,Option.map]
def Po (r:Jy)(t:Int):(r.any λp=>decide (p.1=t))=(J6 r t).isSome:=by
 cases q:J6 r t with
 |none =>
  grind[Option.isSome_none,List.any_eq_false,Cy]
 |some w =>
  rw[Option.isSome_some,VH];exact⟨_,Qh q,()⟩
def Pp (r:Jy)(t w j:Int):J6 (qL r t w) j=if j=t then some w else J6 r j:=by
 unfold qL;rw[Po];by_cases a:(J6 r t).isSome=true
 .rw[Zd a,Pn];by_cases e:j=t
  .rw[Zd e,e];obtain⟨x,b⟩:=Js.mp a;rw[b];simp
  simp_all
 .rw[Ze a,OC];show(match (if t=j then some w else none) with|some w=>some w|none=>J6 r j)=_
  grind
def Pq (r:Jy)(t w:Int):(qL r t w).map (·.1)=if(r.any λp=>decide (p.1=t))=true then r.map (·.1) else r.map (·.1)++[t]:=by
 unfold qL
 split
 .rw[Zw];apply UE;intro p _;by_cases c:p.1=t
  .simp[c]
  .simp[c]
 .rw[Uc];rfl
def Pr (h:j6 r):j6 (qL r t w):=by
 unfold j6;rw[Pq]
 split
 .exact h
 .rename_i c;unfold j6 at h;rw[List.nodup_append];refine⟨h,(),λa g b f=>?_⟩;simp at f;subst f;rintro rfl;obtain⟨p,hp,e⟩:=Ja.mp g;exact c (VH.mpr ⟨p,hp,by simp[e]⟩)
def Ps (r:Jy)(t w:Int):(qL r t w).length<=r.length+1:=by
 grind[qL,Zql,List.length_append]
theorem Gk:∀(r b:Jy),WD (x9 b) (x9 r)=x9 (r.foldl (λa p=>qL a p.1 p.2) b)
 | [],b=>rfl
 |p::r,b=>by
  have e:WD (x9 b) (x9 (p::r))=WD (qy (x9 b) (Ue p.1) (V.int p.2)) (x9 r):=rfl;rw[e,Pm,Gk r];rfl
theorem Gm:∀(r b:Jy),j6 (b++r)->r.foldl (λa p=>qL a p.1 p.2) b=b++r
 | [],b,_=>by simp
 |p::r,b,h=>by
  have c:(b.any λq=>decide (q.1=p.1))=false:=by
   grind[j6,List.any_eq_false,List.map_append,List.nodup_append]
  have e:qL b p.1 p.2=b++[p]:=by
   unfold qL;rw[c];simp
  rw[U4,e,Gm r (b++[p]) (),Ud];rfl
def jw:Option Int->Option Int->Option Int
 |none,b=>b
 |some x,none=>some x
 |some x,some y=>some (if x > y then x else y)
def V7 (a:Jy)(p:Int×Int):Jy:=qL a p.1 (if(J6 a p.1).getD p.2 > p.2 then(J6 a p.1).getD p.2 else p.2)
def JY (r o:Jy):Jy:=o.foldl V7 r
def Pt (a:Jy)(p:Int×Int)(t:Int):J6 (V7 a p) t=if t=p.1 then jw (J6 a t) (some p.2) else J6 a t:=by
 unfold V7;rw[Pp];by_cases e:t=p.1
 .rw[Zd e,Zd e,e];cases J6 a p.1 with
  |none=>simp[jw]
  |some x=>simp[jw]
 .rw[Ze e,Ze e]
theorem A5 (t:Int):∀(o r:Jy),j6 o->J6 (JY r o) t=jw (J6 r t) (J6 o t)
 | [],r,_=>by
  show J6 r t=jw (J6 r t) none;cases J6 r t<;>rfl
 |p::o,r,h=>by
  obtain⟨a,b⟩:=Jl.mp (h);have e:JY r (p::o)=JY (V7 r p) o:=rfl;rw[e,A5 t o _ b,Pt,A4];by_cases c:t=p.1
  .have n:J6 o t=none:=by
    cases q:J6 o t with
    |none=>rfl
    |some w=>exact Zn (Ja.mpr ⟨_,Qh q,c⟩) a
   rw[Zd c,n,Zd c.symm];cases jw (J6 r t) (some p.2)<;>rfl
  grind
theorem A6:∀(o r:Jy),j6 r->j6 (JY r o)
 | [],r,h=>h
 |p::o,r,h=>A6 o _ (Pr h)
theorem CF:∀(o r:Jy),(JY r o).length<=r.length+o.length
 | [],r=>Zf _
 |p::o,r=>by
  have a:=CF o (V7 r p);have b:(V7 r p).length<=r.length+1:=Ps _ _ _;show(JY (V7 r p) o).length<=_;rw[Zu];lia
def Gn (h:r ≠ [])(b:j6 o):JY r o ≠ []:=by
 intro z;cases r with
 |nil=>exact h rfl
 |cons p r =>
  have q:=A5 p.1 o (p::r) b;rw[z] at q;have:∃x,J6 (p::r) p.1=some x:=by
   grind[A4]
  obtain⟨x,c⟩:=this;rw[c] at q;cases a:J6 o p.1 with
  |none=>rw[a] at q;exact J2 q
  |some y=>rw[a] at q;exact J2 q
def Go (h:j6 r):(t,w)∈r↔J6 r t=some w:=⟨λm=>h.look m,Qh⟩
theorem WI {α: Type}{ltb:α -> α -> Bool}(T:Tot ltb):∀{a b:List α},a.Pairwise (λx y=>ltb x y=true)->b.Pairwise (λx y=>ltb x y=true)->(∀x,x∈a↔x∈b)->a=b
 | [],[],_,_,_=>rfl
 | [],y::b,_,_,h=>by
  cases ((h y).mpr Zqs)
 |x::a,[],_,_,h=>by
  cases ((h x).mp Zqs)
 |x::a,y::b,ha,hb,h=>by
  obtain⟨f,g⟩:=Ji.mp ha;obtain⟨c,i⟩:=Ji.mp hb;have e:x=y:=by
   rcases UV.mp ((h x).mp Zqs) with z|z
   .exact z
   .rcases UV.mp ((h y).mpr Zqs) with u|u
    .exact u.symm
    .have:=T.asy _ _ (c x z)
     simp_all
  subst e
  congr 1
  refine WI T g i λz=>⟨λhz=>?_,λhz=>?_⟩
  .rcases UV.mp ((h z).mp (Zqm _ hz)) with u|u
   .rw[u] at hz;have:=f x hz;rw[T.irr] at this;exact J9 this
   .exact u
  .rcases UV.mp ((h z).mpr (Zqm _ hz)) with u|u
   .rw[u] at hz;have:=c x hz;rw[T.irr] at this;exact J9 this
   .exact u
theorem Gp {α β: Type}(f:α -> β):∀{l:List α},(l.map f).Nodup->l.Nodup
 | [],_=>Vw
 |x::r,h=>by
  rw[Zl,List.nodup_cons] at h;exact Jl.mpr ⟨(),Gp f h.2⟩
def Pu (h:j6 r):(JP jR r).Pairwise λx y=>jR x y=true:=by
 refine(List.Pairwise.and (WG wF r) ((Qv r).nodup_iff.mpr (Gp (λp:Int×Int=>p.1) h))).imp λ{x y} z=>?_;cases q:jR x y with
 |true=>rfl
 |false=>exact Zn (wF.tot _ _ q z.1) z.2
end L2
namespace L2.DL
def CG {c:Prop}{_:Decidable c}{α: Type}{a z:α}(h:(if c then some a else none)=some z):c/\a=z:=()
inductive D where
 |non|bl (b:Bool)|int (i:Int)|str (x:Str)|ty (n:String)|scr (ns:Yh)
 |tup (ds:List D)|lst (ds:List D)|dct (ks:List j0) (ds:List D)|ins (c:Str) (fs:Yk) (ds:List D)
 |exc (c:Str)|ucl (c:Str)
 |adr (a:Addr)|dcf (ks:List j0) (ds:List D)
 |pin (a:Addr) (d:D)
abbrev _root_.YG:=List D
abbrev _root_.YH:=Option D
inductive Res (α: Type) where
 |ok (a:α)|ex (c:Str) (fs:YG)|no
noncomputable def Res.bind {α β: Type}(r:Res α)(g:α -> Res β):Res β:= match r with
 | .ok a=>g a
 | .ex c fs=>.ex c fs
 | .no=>.no
def Res.need {α: Type}(r:Res α)(p:α -> Prop)(q:Str->YG->Prop):Prop:=match r with
 | .ok a=>p a
 | .ex c fs=>q c fs
 | .no=>False
@[simp]theorem jh {α β: Type}(a:α)(g:α -> Res β):(Res.ok a).bind g=g a:=rfl
@[simp]def vv {α β: Type}(c:Str)(fs:YG)(g:α -> Res β):(Res.ex c fs:Res α).bind g=.ex c fs:=rfl
@[simp]def vu {α β: Type}(g:α -> Res β):(Res.no:Res α).bind g=.no:=rfl
def ja {α β: Type}{r:Res α}{g:α -> Res β}{p:β -> Prop}(h:(r.bind g).need p q):r.need (λa=>(g a).need p q) q:=by
 cases r<;>exact h
def Res.need.mono {α: Type}{r:Res α}{p b: α -> Prop}(h:r.need p q)(hp:∀a,p a->b a)(e:∀c fs,q c fs->q' c fs):r.need b q':=by
 cases r with
 |ok a=>exact hp a h
 |ex c fs=>exact e c fs h
 |no=>exact h
def Res.need.monoE {α: Type}{r:Res α}{p b: α -> Prop}(h:r.need p q)(hp:∀a,r=.ok a->p a->b a)(e:∀c fs,q c fs->q' c fs):r.need b q':=by
 cases r with
 |ok a=>exact hp a rfl h
 |ex c fs=>exact e c fs h
 |no=>exact h
def fO (C x:Addr):HO:=.ext λh=>∃o,h.get? x=some o/\o.cls=.ref C
def yk (_:W.Frag)(H:Hp)(a:Addr)(b:YE):Prop:=H a=some (.tup b)
def yk.same {K:W.Frag}{H b:Hp}{a:Addr}{c:YE}(e:jk H b)(h:yk K H a c):yk K b a c:=e _ _ h
def yk.of {K:W.Frag}{H:Hp}{a:Addr}{b:YE}(h:H a=some (.tup b)):yk K H a b:=h
def yk.sq {K:W.Frag}{H:Hp}{a:Addr}{b:YE}(h:yk K H a b):yC K H a b:=yC.of h
def xE (_:W.Frag)(H:Hp)(a:Addr)(b:YE):Prop:=Rd H a (.lst b)
def xE.same {K:W.Frag}{H b:Hp}{a:Addr}{c:YE}(e:jk H b)(h:xE K H a c):xE K b a c:=h.imp (λq=>e _ _ q) λ⟨o,q⟩=>⟨o,e _ _ q⟩
def xE.of {K:W.Frag}{H:Hp}{a:Addr}{b:YE}(h:H a=some (.lst b)):xE K H a b:=.inl h
def xE.sq {K:W.Frag}{H:Hp}{a:Addr}{b:YE}(h:xE K H a b):qZ K H a b:=.inl h
section
variable (K:W.Frag)
mutual
def jf (H:Hp):D->V->Prop
 | .non,v=>v=.non
 | .bl b,v=>v=.bl b
 | .int i,v=>v=.int i
 | .str x,v=>v=.str x
 | .ty n,v=>v=.ty n
 | .scr ns,v=>∃a,v=.ref a/\qZ K H a (ns.map V.int)
 | .tup ds,v=>∃a e,v=.ref a/\yk K H a e/\je H ds e
 | .lst ds,v=>∃a e,v=.ref a/\xE K H a e/\je H ds e
 | .dct ks ds,v=>∃a e,v=.ref a/\H a=some (.dK (ks.zip e))/\ks.length=e.length/\je H ds e
 | .ins c fs ds,v=>∃a C f e,v=.ref a/\W.nsIn K mainGlobals c=some (some (.ref C))/\H a=some (.ins C f (fs.zip e))/\fs.length=e.length/\je H ds e
 | .exc c,v=>∃a C,v=.ref a/\W.nsIn K mainGlobals c=some (some (.ref C))/\H a=some (fO C a)
 | .ucl c,v=>∃C,v=.ref C/\W.nsIn K mainGlobals c=some (some (.ref C))
 | .adr a,v=>v=.ref a
 | .dcf ks ds,v=>∃a o e,v=.ref a/\H a=some (.frz o (.dK (ks.zip e)))/\ks.length=e.length/\je H ds e
 | .pin a d,v=>v=.ref a/\jf H d v
def je (H:Hp):YG->YE->Prop
 | [],xs=>xs=[]
 |d::ds,xs=>∃x r,xs=x::r/\jf H d x/\je H ds r
end
end
section
variable {K:W.Frag}{H H':Hp}
def jB:jf K H .non v↔v=.non:=.rfl
def jm:jf K H (.bl b) v↔v=.bl b:=.rfl
def jd:jf K H (.int i) v↔v=.int i:=.rfl
def jn:jf K H (.str x) v↔v=.str x:=.rfl
def xm:jf K H (.ty n) v↔v=.ty n:=.rfl
def qp:jf K H (.scr ns) v↔∃a,v=.ref a/\qZ K H a (ns.map V.int):=.rfl
theorem js:jf K H (.tup ds) v↔∃a b,v=.ref a/\yk K H a b/\je K H ds b:=.rfl
theorem jj:jf K H (.lst ds) v↔∃a b,v=.ref a/\xE K H a b/\je K H ds b:=.rfl
def jO:jf K H (.dct ks ds) v↔∃a b,v=.ref a/\H a=some (.dK (ks.zip b))/\ks.length=b.length/\je K H ds b:=.rfl
def jZ:jf K H (.ins c fs ds) v↔∃a C e b,v=.ref a/\W.nsIn K mainGlobals c=some (some (.ref C))/\H a=some (.ins C e (fs.zip b))/\fs.length=b.length/\je K H ds b:=.rfl
def qY:jf K H (.exc c) v↔∃a C,v=.ref a/\W.nsIn K mainGlobals c=some (some (.ref C))/\H a=some (fO C a):=.rfl
def yV:jf K H (.ucl c) v↔∃C,v=.ref C/\W.nsIn K mainGlobals c=some (some (.ref C)):=.rfl
def jC:jf K H (.adr a) v↔v=.ref a:=.rfl
def qr:jf K H (.dcf ks ds) v↔∃a o b,v=.ref a/\H a=some (.frz o (.dK (ks.zip b)))/\ks.length=b.length/\je K H ds b:=.rfl
def qq:jf K H (.pin a d) v↔v=.ref a/\jf K H d v:=.rfl
def je.nil_iff:je K H [] xs↔xs=[]:=.rfl
theorem jr:je K H (d::ds) xs↔∃x r,xs=x::r/\jf K H d x/\je K H ds r:=.rfl
mutual
theorem jf.same (e:jk H H'):∀(d:D) (v:V),jf K H d v->jf K H' d v
 | .non,_,h=>h
 | .bl _,_,h=>h
 | .int _,_,h=>h
 | .str _,_,h=>h
 | .ty _,_,h=>h
 | .scr _,_,h=>by
  obtain⟨a,f,g⟩:=qp.mp h;exact qp.mpr ⟨a,f,jk.seq e g⟩
 | .tup ds,_,h=>by
  obtain⟨a,b,f,g,i⟩:=js.mp h;exact js.mpr ⟨a,b,f,g.same e,je.same e ds b i⟩
 | .lst ds,_,h=>by
  obtain⟨a,b,f,g,i⟩:=jj.mp h;exact jj.mpr ⟨a,b,f,g.same e,je.same e ds b i⟩
 | .dct ks ds,_,h=>by
  obtain⟨a,b,f,g,j,i⟩:=jO.mp h;exact jO.mpr ⟨a,b,f,e _ _ g,j,je.same e ds b i⟩
 | .ins c fs ds,_,h=>by
  obtain⟨a,C,l,b,f,m,g,j,i⟩:=jZ.mp h;exact jZ.mpr ⟨a,C,l,b,f,m,e _ _ g,j,je.same e ds b i⟩
 | .exc _,_,h=>by
  obtain⟨a,C,f,g,i⟩:=qY.mp h;exact qY.mpr ⟨a,C,f,g,e _ _ i⟩
 | .ucl _,_,h=>h
 | .adr _,_,h=>h
 | .dcf ks ds,_,h=>by
  obtain⟨a,o,b,f,g,j,i⟩:=qr.mp h;exact qr.mpr ⟨a,o,b,f,e _ _ g,j,je.same e ds b i⟩
 | .pin a d,v,h=>qq.mpr ⟨(qq.mp h).1,jf.same e d v (qq.mp h).2⟩
theorem je.same (e:jk H H'):∀(ds:YG) (a:YE),je K H ds a->je K H' ds a
 | [],_,h=>h
 |d::ds,_,h=>by
  obtain⟨x,r,b,c,f⟩:=jr.mp h;exact jr.mpr ⟨x,r,b,jf.same e d x c,je.same e ds r f⟩
end
def je.mk (h:jf K H d x)(r:je K H ds xs):je K H (d::ds) (x::xs):=jr.mpr ⟨x,xs,rfl,h,r⟩
def je.nil:je K H [] []:=je.nil_iff.mpr rfl
theorem je.length:∀{ds:YG} {a:YE},je K H ds a->a.length=ds.length
 | [],a,h=>by simp_all [je.nil_iff]
 |d::ds,a,h=>by
  obtain⟨x,r,rfl,_,b⟩:=h;rw[Zu,Zu,je.length b]
theorem je.get:∀{ds:YG} {a:YE} {i:Nat} {d:D},je K H ds a->ds[i]? = some d->∃x,a[i]? = some x/\jf K H d x
 | [],_,_,_,_,e=>J2 e
 |d::ds,a,i,e,h,q=>by
  obtain⟨x,r,rfl,c,b⟩:=h;cases i with
  |zero=>simp_all
  |succ i=>exact je.get (i:=i) b q
def je.getV {ds:YG}{a:YE}{i:Nat}{x:V}(h:je K H ds a)(q:a[i]? = some x):∃d,ds[i]? = some d/\jf K H d x:=by
 have c:=h.length;have b:i<ds.length:=();obtain⟨y,e,f⟩:=h.get (Zqg b)
 simp_all
theorem je.append:∀{ds es:YG} {a ys:YE},je K H ds a->je K H es ys->je K H (ds++es) (a++ys)
 | [],_,a,_,h,h'=>by simp_all [je.nil_iff]
 |d::ds,_,a,_,h,h'=>by
  obtain⟨x,r,rfl,b,c⟩:=h;exact je.mk b (je.append c h')
def je.snoc (h:je K H ds xs)(h':jf K H d x):je K H (ds++[d]) (xs++[x]):=h.append (.mk h' .nil)
theorem je.set:∀(n:Nat) {ds:YG} {a:YE} {d:D} {x:V},je K H ds a->jf K H d x->je K H (ds.set n d) (a.set n x)
 |_,[],a,_,_,h,_=>by simp_all [je.nil_iff]
 | 0,d::ds,a,_,_,h,q=>by
  grind[jr]
 |n+1,d::ds,a,_,_,h,q=>by
  obtain⟨x,r,rfl,b,c⟩:=h;exact je.mk b (je.set n c q)
theorem qC:∀(ns:Yh),je K H (ns.map D.int) (ns.map V.int)
 | []=>.nil
 |n::ns=>.mk (jd.mpr rfl) (qC ns)
theorem qu:∀{ns:Yh} {a:YE},je K H (ns.map D.int) a->a=ns.map V.int
 | [],_,h=>je.nil_iff.mp h
 |n::ns,a,h=>by
  obtain⟨x,r,rfl,b,c⟩:=h;rw[b,qu c];rfl
end
structure Ext (F H F' H':Hp):Prop where
 ff:jk F F'
 fh:jk F' H'
 hh:jk H H'
 new:∀a,F a=none->H a≠none->F' a=none
theorem Ext.refl (h:jk F H):Ext F H F H:=⟨.refl _,h,.refl _,λ_ e _=>e⟩
theorem Ext.trans (a:Ext F H F1 H1)(b:Ext F1 H1 F2 H2):Ext F H F2 H2:=
 ⟨a.ff.trans b.ff,b.fh,a.hh.trans b.hh,λx e n=>b.new x (a.new x e n) (by
  cases q:H x with
  |none=>exact Zn q n
  |some o=>rw[a.hh _ _ q];simp)⟩
def Qd (h:jk F H)(hp:H p=none):F p=none:=h.free hp
def qD (h:jk F H)(hp:H p=none)(o:HO):Ext F H (j9 F p o) (j9 H p o):=
 ⟨K7 (h.free hp) o,λb u e=>by
  by_cases q:b=p
  .simp_all [JL]
  .rw[JJ q] at e ⊢;exact h _ _ e,K7 hp o,λa e n=>by
  have q:a≠p:=by grind
  rwa [JJ q]⟩
def Ext.keep (h:jk F H)(hp:H p=none)(o:HO):Ext F H F (j9 H p o):=
 ⟨.refl _,h.trans (K7 hp o),K7 hp o,λ_ e _=>e⟩
def Ext.grow (h:jk F H)(a:jk H H'):Ext F H F H':=⟨.refl _,h.trans a,a,λ_ e _=>e⟩
inductive SV where
 |val (d:D)|own (p:Bool) (d:D)
structure Bs where
 F0:Hp
 H0:Hp
 pa:Nat->Option (Addr×YE)
abbrev SD:=List (Option SV)
def yK (K:W.Frag)(F H:Hp)(l:Addr):D->Prop
 | .lst ds=>∃a,H l=some (.lst a)/\je K F ds a
 | .dct ks ds=>∃a,H l=some (.dK (ks.zip a))/\ks.length=a.length/\je K F ds a
 | .ins c fs ds=>∃C b a,W.nsIn K mainGlobals c=some (some (.ref C))/\H l=some (.ins C b (fs.zip a))/\fs.length=a.length/\je K F ds a
 |_=>False
def yK.has {K:W.Frag}{F H:Hp}{l:Addr}{d:D}(h:yK K F H l d):∃o,H l=some o:=by
 cases d with
 |lst ds=>have ⟨a,e,_⟩:=h;exact⟨_,e⟩
 |dct ks ds=>have ⟨a,e,_⟩:=h;exact⟨_,e⟩
 |ins c fs ds=>have ⟨C,b,a,_,e,_⟩:=h;exact⟨_,e⟩
 |_=>exact False.elim h
def yK.ext {K:W.Frag}{F H g i:Hp}{l:Addr}{d:D}(h:yK K F H l d)(b:jk F g)(f:∀o,H l=some o->i l=some o):yK K g i l d:=by
 cases d with
 |lst ds=>obtain⟨a,e,q⟩:=h;exact⟨a,f _ e,je.same b _ _ q⟩
 |dct ks ds=>obtain⟨a,e,z,q⟩:=h;exact⟨a,f _ e,z,je.same b _ _ q⟩
 |ins c fs ds=>obtain⟨C,j,a,k,e,z,q⟩:=h;exact⟨C,j,a,k,f _ e,z,je.same b _ _ q⟩
 |_=>exact False.elim h
def yK.frz {K:W.Frag}{F H:Hp}{l:Addr}{d:D}{o:HO}(h:yK K F H l d)(e:H l=Option.some o)(n:F l=none):jf K (j9 F l o) d (.ref l):=by
 cases d with
 |lst ds =>
  obtain⟨b,a,q⟩:=h;rw[e] at a;obtain rfl:=Zqi a;exact jj.mpr ⟨l,b,rfl,.of JL,je.same (K7 n _) _ _ q⟩
 |dct ks ds =>
  obtain⟨b,a,z,q⟩:=h;rw[e] at a;obtain rfl:=Zqi a;exact jO.mpr ⟨l,b,rfl,JL,z,je.same (K7 n _) _ _ q⟩
 |ins c fs ds =>
  obtain⟨C,f,b,k,a,z,q⟩:=h;rw[e] at a;obtain rfl:=Zqi a;exact jZ.mpr ⟨l,C,f,b,rfl,k,JL,z,je.same (K7 n _) _ _ q⟩
 |_=>exact False.elim h
def fS (H:Hp)(l:Addr)(o:Option (Addr×YE)):Prop:=∃a,o=some (l,a)/\H l=some (.lst a)
structure RS (K:W.Frag)(B:Bs)(F H:Hp)(sd:SD)(Z: St):Prop where
 ext:Ext B.F0 B.H0 F H
 len:Z.length=sd.length
 val:∀{i:Nat} {d:D},sd[i]? = some (some (.val d))->∃v,Z[i]? = some (some v)/\jf K F d v
 own:∀{i:Nat} {p:Bool} {d:D},sd[i]? = some (some (.own p d))->∃l,Z[i]? = some (some (.ref l))/\B.H0 l=none/\F l=none/\yK K F H l d/\(p=true->fS H l (B.pa i))
 apart:∀{i j:Nat} {p q:Bool} {d e:D} {l:Addr},i≠j->sd[i]? = some (some (.own p d))->sd[j]? = some (some (.own q e)) -> Z[i]? = some (some (.ref l)) -> Z[j]? ≠ some (some (.ref l))
section
variable {K:W.Frag}{B:Bs}{F H F' H':Hp}{sd:SD}{Z: St}
def fS.mono (h:fS H l o)(k:∀u,H l=some u->H' l=some u):fS H' l o:=let ⟨xs,h1,h2⟩:=h;⟨xs,h1,k _ h2⟩
def RS.step (r:RS K B F H sd Z)(e:Ext F H F' H'):RS K B F' H' sd Z where
 ext:=r.ext.trans e
 len:=r.len
 val:=λh=>let ⟨v,a,b⟩:=r.val h;⟨v,a,jf.same e.ff _ _ b⟩
 own:=λh=>by
  obtain⟨l,a,b,f,c,g⟩:=r.own h;obtain⟨o,i⟩:=c.has;exact⟨l,a,b,e.new l f (by rw[i];simp),c.ext e.ff λo q=>e.hh _ _ q,λp=>(g p).mono λu q=>e.hh _ _ q⟩
 apart:=r.apart
def Q7 {α: Type}{l:List α}{a:α}(h:i≠j):(l.set i a)[j]? = l[j]?:= Zx h
def KM {α: Type}{l:List α}{a b:α}(h:(l.set i a)[i]? = some b):b=a/\i<l.length:=()
def RS.setVal (r:RS K B F H sd Z)(h:jf K F d v):RS K B F H (sd.set i (some (.val d))) (Z.set i (some v)) where
 ext:=r.ext
 len:=by rw[U8,U8,r.len]
 val:=λ{j e} q=>by
  by_cases z:i=j
  .subst z;obtain⟨a,g⟩:=KM q;cases a;exact⟨v,UT (by rw[r.len];exact g),h⟩
  .rw[Q7 z] at q ⊢;exact r.val q
 own:=λ{j p e} q=>by
  by_cases z:i=j
  .subst z;obtain⟨a,_⟩:=KM q;cases a
  .rw[Q7 z] at q ⊢;exact r.own q
 apart:=λ{j k s t d1 u l} n b c f=>by
  have m:i≠j:=λz=>by subst z;obtain⟨a,_⟩:=KM b;cases a
  have o:i≠k:=λz=>by subst z;obtain⟨a,_⟩:=KM c;cases a
  rw[Q7 m] at b f;rw[Q7 o] at c ⊢;exact r.apart n b c f
def RS.setOwn (r:RS K B F H sd Z)(u:B.H0 l=none)(v:F l=none)(h:yK K F H l d)(o:∀(j:Nat) (p:Bool) (e:D),sd[j]? = some (some (SV.own p e)) -> Z[j]? ≠ some (some (.ref l))):
 RS K B F H (sd.set i (some (.own false d))) (Z.set i (some (.ref l))) where
 ext:=r.ext
 len:=by rw[U8,U8,r.len]
 val:=λ{j e} q=>by
  by_cases z:i=j
  .subst z;obtain⟨g,_⟩:=KM q;cases g
  .rw[Q7 z] at q ⊢;exact r.val q
 own:=λ{j p e} q=>by
  by_cases z:i=j
  .subst z;obtain⟨g,a⟩:=KM q;cases g;exact⟨l,UT (by rw[r.len];exact a),u,v,h,λz=>by cases z⟩
  .rw[Q7 z] at q ⊢;exact r.own q
 apart:=λ{j k w x d1 y m} n f b c=>by
  by_cases s:i=j
  .subst s;obtain⟨_,a⟩:=KM f;rw[Q7 n] at b ⊢;rw[UT (by rw[r.len];exact a)] at c;cases c;exact o k x y b
  .rw[Q7 s] at f c;by_cases t:i=k
   .subst t;obtain⟨_,a⟩:=KM b;rw[UT (by rw[r.len];exact a)];intro e;cases e;exact o j w d1 f c
   .rw[Q7 t] at b ⊢;exact r.apart n f b c
def RS.chg {i:Nat}{p:Bool}{d d':D}{l:Addr}{o:HO}(r:RS K B F H sd Z)(b:sd[i]? = some (some (.own p d)))(c:Z[i]? = some (some (.ref l)))(h:yK K F (j9 H l o) l d'):
 RS K B F (j9 H l o) (sd.set i (some (.own false d'))) Z:= by
 obtain⟨N,a,t,v,_,_⟩:=r.own b;rw[c] at a;cases a;have w:i<sd.length:=by grind
 refine⟨⟨r.ext.ff,Cr o r.ext.fh v,Cr o r.ext.hh t,r.ext.new⟩,by rw[U8,r.len],λ{j e} q=>?_,λ{j p e} q=>?_,λ{j k f s d1 O m} n x y A=>?_⟩
 .by_cases z:i=j
  .subst z;obtain⟨a,_⟩:=KM q;cases a
  .rw[Q7 z] at q;exact r.val q
 .by_cases z:i=j
  .simp_all
  .rw[Q7 z] at q;obtain⟨m,C,m2,E,G,I⟩:=r.own q;have ne:m≠l:=λe=>r.apart z b q c (by rwa [<- e]);exact⟨m,C,m2,E,G.ext (.refl _) λu J=>by rwa [JJ ne],λp=>(I p).mono λu J=>by rwa [JJ ne]⟩
 .have g:∀{j:Nat} {p:Bool} {e:D},(sd.set i (some (.own false d')))[j]? = some (some (.own p e))->∃L M,sd[j]? = some (some (.own L M)):=by grind
  obtain⟨_,_,f⟩:=g x;obtain⟨_,_,s⟩:=g y;exact r.apart n f s A
def RS.frz1 (r:RS K B F H sd Z)(h:sd[i]? = some (some (.own p d))):∃F',jk F F'/\RS K B F' H (sd.set i (some (.val d))) Z:= by
 obtain⟨l,s,P,t,w,_⟩:=r.own h;obtain⟨o,e⟩:=w.has;have y:i<sd.length:=();have c:jk F (j9 F l o):=K7 t o;refine⟨j9 F l o,c,⟨r.ext.ff.trans c,λb u q=>?_,r.ext.hh,λa f g=>?_⟩,by rw[U8,r.len],λ{j x} q=>?_,λ{j p x} q=>?_,λ{j k Q R d1 S m} n f g A=>?_⟩
 .by_cases z:b=l
  .simp_all [JL]
  .rw[JJ z] at q;exact r.ext.fh _ _ q
 .have z:a≠l:=by grind
  rw[JJ z];exact r.ext.new a f g
 .by_cases z:i=j
  .subst z;obtain⟨C,_⟩:=KM q;cases C;exact⟨_,s,w.frz e t⟩
  .rw[Q7 z] at q;obtain⟨v,E,G⟩:=r.val q;exact⟨v,E,jf.same c _ _ G⟩
 .by_cases z:i=j
  .simp_all
  .rw[Q7 z] at q;obtain⟨m,I,m2,T,J,L⟩:=r.own q;have ne:m≠l:=λe=>r.apart z h q s (by rwa [<- e]);exact⟨m,I,m2,by rwa [JJ ne],J.ext c λu M=>M,L⟩
 .have N:i≠j:=λz=>by simp_all
  have O:i≠k:=λz=>by simp_all
  rw[Q7 N] at f;rw[Q7 O] at g;exact r.apart n f g A
def qN:Yj->SD->SD
 | [],sd=>sd
 |i::is,sd=>qN is (match sd[i]? with
  |some (some (.own _ d))=>sd.set i (some (.val d))
  |_=>sd)
theorem RS.frz:∀(is:Yj) {F:Hp} {sd:SD},RS K B F H sd Z -> ∃F',jk F F'/\RS K B F' H (qN is sd) Z
 | [],F,sd,r=>⟨F,.refl _,r⟩
 |i::is,F,sd,r=>by
  unfold qN
  split
  .rename_i p d h;obtain⟨g,a,b⟩:=r.frz1 h;obtain⟨c,e,f⟩:=RS.frz is b;exact⟨c,a.trans e,f⟩
  .exact RS.frz is r
end
def fP (K:W.Frag)(F H:Hp)(c:Str)(fs:YG)(b:Value)(a:Option Addr):Prop:=
 ∃C,b=.ref C/\W.nsIn K mainGlobals c=some (some (.ref C))/\(fs=[]\/∃p n d x,fs=[d]/\a=some p/\H p=some (.xd [(n,x)])/\jf K F d x)
def XW (K:W.Frag)(E:XK)(F H:Hp)(c:Str)(fs:YG):Prop:=∀e a f b,Ext F H f b->fP K f b c fs e a->E e a b
def XW.ext {K:W.Frag}{E:XK}{F H b f:Hp}{c:Str}{fs:YG}(h:XW K E F H c fs)(e:Ext F H b f):XW K E b f c fs:=λg a i j l q=>h g a i j (e.trans l) q
abbrev FE:=SD->Res D
abbrev FT:=SD->Res Bool
abbrev FA:=SD->Res YG
def yI (K:W.Frag)(F H:Hp)(Q:VK)(d:D):Prop:=∀v a b,Ext F H a b->jf K a d v->Q v b
def vF (F H:Hp)(Q:Bool->Hp->Prop)(b:Bool):Prop:=∀c a,Ext F H c a->Q b a
def pe (K:W.Frag)(F H:Hp)(Q:YE->Hp->Prop)(ds:YG):Prop:=∀a b c,Ext F H b c->je K b ds a->Q a c
def xR (K:W.Frag)(F H:Hp)(Q:VK)(d:D):Prop:=∀l a b,Ext F H a b->H l=none->a l=none->yK K a b l d->Q (.ref l) b
def tD (K:W.Frag)(E:XK)(f:FE):TE:=λZ H Q=>∃B F sd,RS K B F H sd Z /\ (f sd).need (yI K F H Q) (XW K E F H)
def hF (K:W.Frag)(E:XK)(f:FT):TT:=λZ H Q=>∃B F sd,RS K B F H sd Z /\ (f sd).need (vF F H Q) (XW K E F H)
def ri (K:W.Frag)(E:XK)(f:FA):TA:=λZ H Q=>∃B F sd,RS K B F H sd Z /\ (f sd).need (pe K F H Q) (XW K E F H)
def vJ (K:W.Frag)(E:XK)(f:FE):TE:=λZ H Q=>∃B F sd,RS K B F H sd Z /\ (f sd).need (xR K F H Q) (XW K E F H)
abbrev QE (X:Cx)(E:XK)(e:Expr)(f:FE):Prop:=PE X e (tD X.K E f)
abbrev QT (X:Cx)(E:XK)(e:Expr)(f:FT):Prop:=PT X e (hF X.K E f)
abbrev QW (X:Cx)(E:XK)(e:Expr)(f:FT):Prop:=PW X e (hF X.K E f)
abbrev QA (X:Cx)(E:XK)(es:Ym)(f:FA):Prop:=PA X es (ri X.K E f)
abbrev QN (X:Cx)(E:XK)(e:Expr)(f:FE):Prop:=PE X e (vJ X.K E f)
def PE.weak (h:PE X e t)(w:∀Z H Q,t' Z H Q->t Z H Q):PE X e t':=λY s Z H Q I q=>h Y s Z H Q I (w _ _ _ q)
def PT.weak (h:PT X e t)(w:∀Z H Q,t' Z H Q->t Z H Q):PT X e t':=λY s Z H Q I q=>h Y s Z H Q I (w _ _ _ q)
def PW.weak (h:PW X e t)(w:∀Z H Q,t' Z H Q->t Z H Q):PW X e t':=λa Y s Z H Q I q=>h a Y s Z H Q I (w _ _ _ q)
def PA.weak (h:PA X e t)(w:∀Z H Q,t' Z H Q->t Z H Q):PA X e t':=λa Y s Z H Q I q=>h a Y s Z H Q I (w _ _ _ q)
def PS.weak (h:PS X e t)(w:∀D Z H,t' D Z H->t D Z H):PS X e t':=λY s Z H D I q=>h Y s Z H D I (w _ _ _ q)
def qP.weak (h:qP X e t)(w:∀D Z H,t' D Z H->t D Z H):qP X e t':=λY s Z H D I q=>h Y s Z H D I (w _ _ _ q)
def PI.weak (h:PI X tg e t)(w:∀Z H R,t' Z H R->t Z H R):PI X tg e t':=λY s Z H R I q=>h Y s Z H R I (w _ _ _ q)
section
variable {K:W.Frag}{E:XK}{F H F' H':Hp}
def yI.ext (h:yI K F H Q d)(e:Ext F H F' H'):yI K F' H' Q d:=λv a b c q=>h v a b (e.trans c) q
def vF.ext (h:vF F H Q b)(e:Ext F H F' H'):vF F' H' Q b:=λa c f=>h a c (e.trans f)
def xR.ext (h:xR K F H Q d)(e:Ext F H F' H'):xR K F' H' Q d:=λl a b c q=>h l a b (e.trans c) (Qd e.hh q)
def A7 {Q:VK}{r:Res D}(h:r.need (yI K F H Q) (XW K E F H))(e:Ext F H F' H'):r.need (yI K F' H' Q) (XW K E F' H'):=h.mono (λ_ q=>q.ext e) λ_ _ q=>q.ext e
def Gq {Q:Bool->Hp->Prop}{r:Res Bool}(h:r.need (vF F H Q) (XW K E F H))(e:Ext F H F' H'):r.need (vF F' H' Q) (XW K E F' H'):=h.mono (λ_ q=>q.ext e) λ_ _ q=>q.ext e
def CH {Q:VK}{r:Res D}(h:r.need (xR K F H Q) (XW K E F H))(e:Ext F H F' H'):r.need (xR K F' H' Q) (XW K E F' H'):=h.mono (λ_ q=>q.ext e) λ_ _ q=>q.ext e
theorem yI.new (h:yI K F H Q d):xR K F H Q d:=λl F' H' e n c o=>by
 obtain⟨u,f⟩:=o.has;refine h (.ref l) (j9 F' l u) H' ⟨e.ff.trans (K7 c u),λb v q=>?_,e.hh,λa g i=>?_⟩ (o.frz f c)
 .by_cases z:b=l
  .simp_all [JL]
  .rw[JJ z] at q;exact e.fh _ _ q
 .have z:a≠l:=by grind
  rw[JJ z];exact e.new a g i
end
section
variable {X:Cx}{E:XK}
def j4 (h:QN X E e f):QE X E e f:=PE.weak h λZ H Q ⟨B,F,sd,r,n⟩=>⟨B,F,sd,r,n.mono (λ_ q=>q.new) λ_ _ q=>q⟩
def jb (i:Nat):FE:=λsd=>match sd[i]? with
 |some (some (.val d))=>.ok d
 |_=>.no
def dC (d:D):FE:=λ_=>.ok d
def uQ (h:PE X e (xM i)):QE X E e (jb i):=PE.weak h λZ H Q a=>by
 obtain⟨B,F,sd,r,n⟩:=a;unfold jb at n
 split at n
 .rename_i d q;obtain⟨v,b,c⟩:=r.val q;exact⟨v,b,n v F H (.refl r.ext.fh) c⟩
 .exact n.elim
def Y8 (h:PE X e (tC v))(i:∀F,jf X.K F d v):QE X E e (dC d):=PE.weak h λZ H Q ⟨B,F,sd,r,n⟩=>n v F H (.refl r.ext.fh) (i F)
def J7 {i j pos}:QE X E (.Constant (.int i) j pos) (dC (.int i)):=Y8 MG λ_=>jd.mpr rfl
def V8 {b j pos}:QE X E (.Constant (.bool b) j pos) (dC (.bl b)):=Y8 uZ λ_=>jm.mpr rfl
def A8 {j pos}:QE X E (.Constant .none j pos) (dC .non):=Y8 MI λ_=>jB.mpr rfl
def QQ {x j pos}:QE X E (.Constant (.str x) j pos) (dC (.str x)):=Y8 E9 λ_=>jn.mpr rfl
def Res.ofO {α: Type}:Option α -> Res α
 |some a=>.ok a
 |none=>.no
@[simp]def wX {α: Type}(a:α):Res.ofO (some a)=.ok a:=rfl
@[simp]def wY {α: Type}:Res.ofO (none:Option α)=.no:=rfl
def jg {α: Type}{o:Option α}{p:α -> Prop}(h:(Res.ofO o).need p q):∃a,o=some a/\p a:=by
 cases o with
 |none=>exact h.elim
 |some a=>exact⟨a,rfl,h⟩
def jo (g:D->D->YH)(a b:FE):FE:=λsd=>(a sd).bind λx=>(b sd).bind λy=>.ofO (g x y)
def qB (g:D->YH)(a:FE):FE:=λsd=>(a sd).bind λx=>.ofO (g x)
def vo (K:W.Frag)(g:D->D->YH):R2:=λv w H Q=>∃F d e z,jk F H/\jf K F d v/\jf K F e w/\g d e=some z/\yI K F H Q z
def uM (K:W.Frag)(g:D->D->YH):R2:=λv w H Q=>∃F d e z,jk F H/\jf K F d v/\jf K F e w/\g d e=some z/\xR K F H Q z
def m6 (K:W.Frag)(g:D->YH):V->Hp->VK->Prop:=λv H Q=>∃F d z,jk F H/\jf K F d v/\g d=some z/\yI K F H Q z
def zU (K:W.Frag)(g:YG->YH):YE->Hp->VK->Prop:=λa H Q=>∃F ds z,jk F H/\je K F ds a/\g ds=some z/\yI K F H Q z
def zT (K:W.Frag)(g:YG->YH):YE->Hp->VK->Prop:=λa H Q=>∃F ds z,jk F H/\je K F ds a/\g ds=some z/\xR K F H Q z
def Y9 {K:W.Frag}{g:D->D->YH}{c e:FE}{Z: St}{H:Hp}{Q:VK}(h:tD K E (jo g c e) Z H Q):vm (vo K g) (tD K E c) (tD K E e) Z H Q:=by
 obtain⟨B,F,sd,r,n⟩:=h;refine⟨B,F,sd,r,(ja n).mono (λx f v i p a j=>?_) λ_ _ q=>q⟩;refine⟨B,i,sd,r.step a,(ja f).mono (λy l w m s b o=>?_) λ_ _ q=>q.ext a⟩;obtain⟨z,hz,q⟩:=jg l;exact⟨m,x,y,z,b.fh,jf.same b.ff _ _ j,o,hz,q.ext (a.trans b)⟩
def Pv {K:W.Frag}{g:D->D->YH}{c e:FE}{Z: St}{H:Hp}{Q:VK}(h:vJ K E (jo g c e) Z H Q):vm (uM K g) (tD K E c) (tD K E e) Z H Q:=by
 obtain⟨B,F,sd,r,n⟩:=h;refine⟨B,F,sd,r,(ja n).mono (λx f v i p a j=>?_) λ_ _ q=>q⟩;refine⟨B,i,sd,r.step a,(ja f).mono (λy l w m s b o=>?_) λ_ _ q=>q.ext a⟩;obtain⟨z,hz,q⟩:=jg l;exact⟨m,x,y,z,b.fh,jf.same b.ff _ _ j,o,hz,q.ext (a.trans b)⟩
def uv {K:W.Frag}{g:D->YH}{a:FE}{Z: St}{H:Hp}{Q:VK}(h:tD K E (qB g a) Z H Q):rg (m6 K g) (tD K E a) Z H Q:=by
 obtain⟨B,F,sd,r,n⟩:=h;refine⟨B,F,sd,r,(ja n).mono (λx c v e i b f=>?_) λ_ _ q=>q⟩;obtain⟨z,hz,q⟩:=jg c;exact⟨e,x,z,b.fh,f,hz,q.ext b⟩
abbrev yu (X:Cx)(f:Value->Value->Sem Value)(g:D->D->YH):Prop:=xg X f (vo X.K g)
abbrev fK (X:Cx)(f:Value->Value->Sem Value)(g:D->D->YH):Prop:=xg X f (uM X.K g)
def xg.weak (h:xg X f r)(w:∀x y H Q,r' x y H Q->r x y H Q):xg X f r':=λY s Z H x y v u Q I a b q=>h Y s Z H x y v u Q I a b (w _ _ _ _ q)
def wV.weak (h:wV X f r)(w:∀x H Q,r' x H Q->r x H Q):wV X f r':=λY s Z H x v Q I a q=>h Y s Z H x v Q I a (w _ _ _ q)
def jS.weak (h:jS X f r)(w:∀x H Q,r' x H Q->r x H Q):jS X f r':=λY s Z H x v Q I a q=>h Y s Z H x v Q I a (w _ _ _ q)
def yY.weak (h:yY X r)(w:∀x y H Q,r' x y H Q->r x y H Q):yY X r':=λa b Y s Z H x y v u Q I c f q e=>h a b Y s Z H x y v u Q I c f (w _ _ _ _ q) e
variable {a b:Expr}{fa fb:FE}{pos:Pos}
def jt (c:yu X (binaryOp op) g)(e:QE X E a fa)(f:QE X E b fb):QE X E (.BinOp a op b pos) (jo g fa fb):=PE.weak (BV c e f) λ_ _ _ h=>Y9 h
def uR (c:fK X (binaryOp op) g)(e:QE X E a fa)(f:QE X E b fb):QN X E (.BinOp a op b pos) (jo g fa fb):=PE.weak (BV c e f) λ_ _ _ h=>Pv h
def v5 (c:wV X (unaryOp op) (m6 X.K g))(e:QE X E a fa):QE X E (.UnaryOp op a pos) (qB g fa):=PE.weak (uY c e) λ_ _ _ h=>uv h
def WJ (c:yu X (compareOp op) g)(e:QE X E a fa)(f:QE X E b fb)(i:behindInMarks op b=false):QE X E (.Compare a [op] [b] pos) (jo g fa fb):=PE.weak (Nm c e f i) λ_ _ _ h=>Y9 h
def JF (fa:FE):FT:=λsd=>(fa sd).bind λx=>match x with
 | .bl b=>.ok b
 |_=>.no
def WK {K:W.Frag}{Z: St}{H:Hp}{Q:Bool->Hp->Prop}(h:hF K E (JF fa) Z H Q):tD K E fa Z H (λx e=>∃k,x=.bl k/\Q k e):=by
 obtain⟨B,F,sd,r,n⟩:=h;refine⟨B,F,sd,r,(ja n).mono (λx c v f g i j=>?_) λ_ _ q=>q⟩;cases x with
 |bl k=>exact⟨k,jm.mp j,c f g i⟩
 |_=>exact c.elim
def Q8 {op:CmpOp}{g:D->D->YH}(c:yu X (compareOp op) g)(e:QE X E a fa)(f:QE X E b fb)(i:behindInMarks op b=false):QT X E (.Compare a [op] [b] pos) (JF (jo g fa fb)):=
 PT.weak (BW c e f i) λZ H Q h=>have h:=WK h;Y9 h
def KN (e:QE X E a fa)(f:∀c,isTrue a X.env c=(do let v <- c;standAt a.pos;holding [v] (truthy v)):=by intro _;rfl):QT X E a (JF fa):=PT.weak (MN e f) λZ H Q q=>WK q
def Kw (f:FT):FT:=λsd=>(f sd).bind λb=>.ok (!b)
def A9 (f g:FT):FT:=λsd=>(f sd).bind λb=>if b then g sd else .ok false
def wa (f g:FT):FT:=λsd=>(f sd).bind λb=>if b then .ok true else g sd
variable {f g:FT}{rest:Ym}
def Xo (c:QT X E a f):QT X E (.UnaryOp .Not a pos) (Kw f):=PT.weak (MS c) λZ H Q ⟨B,F,sd,r,n⟩ =>
 ⟨B,F,sd,r,(ja n).mono (λ_ q=>q) λ_ _ q=>q⟩
def Pw (c:QT X E a f):QW X E (.BoolOp .And [a] pos) f:=MO c
def Gr (c:QT X E a f):QW X E (.BoolOp .Or [a] pos) f:=MP c
def Px (i:QT X E a f)(j:QW X E (.BoolOp .And (b::rest) pos) g):QW X E (.BoolOp .And (a::b::rest) pos) (A9 f g):=PW.weak (MQ i j) λZ H Q l=>by
 obtain⟨B,F,sd,r,n⟩:=l;refine⟨B,F,sd,r,(ja n).mono (λk e h m c=>?_) λ_ _ q=>q⟩;cases k with
 |true=>exact⟨B,h,sd,r.step c,Gq e c⟩
 |false=>exact e h m c
def CI (i:QT X E a f)(j:QW X E (.BoolOp .Or (b::rest) pos) g):QW X E (.BoolOp .Or (a::b::rest) pos) (wa f g):=PW.weak (uW i j) λZ H Q l=>by
 obtain⟨B,F,sd,r,n⟩:=l;refine⟨B,F,sd,r,(ja n).mono (λk e h m c=>?_) λ_ _ q=>q⟩;cases k with
 |true=>exact e h m c
 |false=>exact⟨B,h,sd,r.step c,Gq e c⟩
def wh (h:QW X E e f):QT X E e f:=fI h
def Xp (fa fb:FE):FE:=λsd=>(JF fa sd).bind λb=>if b then fb sd else .ok (.bl false)
def CJ (fa:FE):FE:=λsd=>(JF fa sd).bind λb=>.ok (.bl !b)
def Gs {op}(h:QE X E a fa):QE X E (.BoolOp op [a] pos) fa:=MT h
def AA (i:QE X E a fa)(j:QE X E (.BoolOp .And (b::rest) pos) fb):QE X E (.BoolOp .And (a::b::rest) pos) (Xp fa fb):=PE.weak (MU i j) λZ H Q l=>by
 obtain⟨B,F,sd,r,n⟩:=l;refine WK ⟨B,F,sd,r,(ja n).mono (λk e h m c=>?_) λ_ _ q=>q⟩;cases k with
 |true=>exact⟨B,h,sd,r.step c,A7 e c⟩
 |false=>exact e _ h m c (jm.mpr rfl)
def uS (c:QE X E a fa):QE X E (.UnaryOp .Not a pos) (CJ fa):=PE.weak (MV c) λZ H Q ⟨B,F,sd,r,n⟩=>WK ⟨B,F,sd,r,(ja n).mono (λk e h i j=>(e _ h i j (jm.mpr rfl))) λ_ _ q=>q⟩
def jc:FA:=λ_=>.ok []
def J0 (fa:FE)(c:FA):FA:=λsd=>(fa sd).bind λx=>(c sd).bind λe=>.ok (x::e)
def J3:QA X E [] jc:=PA.weak V2 λZ H Q ⟨B,F,sd,r,n⟩=>n [] F H (.refl r.ext.fh) .nil
def J1 (i:QE X E e fe)(j:QA X E es fr)(hs:starEach (e::es) X.env=(false,eval e X.env)::starEach es X.env:=by rfl):QA X E (e::es) (J0 fe fr):=
 PA.weak (KH i j hs) λZ H Q ⟨B,F,sd,r,n⟩=>⟨B,F,sd,r,(ja n).mono (λx l v m w c o=>⟨B,m,sd,r.step c,(ja l).mono (λy p z s t h u=>(p _ s t (c.trans h) (.mk (jf.same h.ff _ _ o) u))) λ_ _ q=>q.ext c⟩) λ_ _ q=>q⟩
def qX (e:FA):FE:=λsd=>(e sd).bind λc=>if c.length<=1000 then .ok (.lst c) else .no
def zx (e:FA):FE:=λsd=>(e sd).bind λc=>if c.length<=1000 then .ok (.tup c) else .no
def Kb (h:QA X E es fr):QN X E (.List es pos) (qX fr):=PE.weak (N6 h) λZ H Q l=>by
 obtain⟨B,F,sd,r,n⟩:=l;refine⟨B,F,sd,r,(ja n).mono (λs e i m o c j=>?_) λ_ _ q=>q⟩
 split at e
 .have hz:=j.length;exact⟨Q6 (),λp hp=>(e p m (j9 o p (.lst i)) (c.trans (.keep c.fh hp _)) (Qd c.hh hp) (Qd c.fh hp) ⟨i,JL,j⟩)⟩
 .exact e.elim
def CK {x1}(h:QA X E es fr):QE X E (.Tuple es x1 pos) (zx fr):=PE.weak (EL h) λZ H Q m=>by
 obtain⟨B,F,sd,r,n⟩:=m;refine⟨B,F,sd,r,(ja n).mono (λo c e s t i j=>?_) λ_ _ q=>q⟩
 split at c
 .have hz:=j.length;refine⟨Q6 (),λp hp=>?_⟩;have l:=qD i.fh hp (.tup e);exact c _ _ _ (i.trans l) (js.mpr ⟨p,e,rfl,.of JL,je.same l.ff _ _ j⟩)
 .exact c.elim
def xc (K:W.Frag)(c:YG->Res D):Sp:=λe H Q _=>∃F ds,jk F H/\je K F ds e/\(c ds).need (yI K F H Q) (XW K E0 F H)
def z9 (K:W.Frag)(c:YG->Res D):Sp:=λe H Q _=>∃F ds,jk F H/\je K F ds e/\(c ds).need (xR K F H Q) (XW K E0 F H)
def J8 (c:YG->Res D)(e:FA):FE:=λsd=>(e sd).bind c
def jL {name:Str}{k:Nat}{ps:Yk}{h:YG->Res D}{p:Pos}{e:Expr}{es:Ym}{l:FA}(c:zG X.prog X.w X.K X.mg X.base name k ps (xc X.K h))(o:Room k X.A)(s:Gl X name)(t:QA X E0 (e::es) l)
 (i:(name == ("__debug__" : Str))=false:=by decide) (u:starEach (e::es) X.env=(false,eval e X.env)::starEach es X.env:=by rfl) (j:(backTo pos (starEach es X.env)).any (·.1)=false:=by rfl):
 QE X E0 (.Call (.Name name p) (e::es) [] pos) (J8 h l):=PE.weak (Xi c o s t i u j) λZ H Q v=>by
 obtain⟨B,F,sd,r,n⟩:=v;refine⟨B,F,sd,r,(ja n).mono (λw x y z A m C=>?_) λ_ _ q=>q⟩;show xc X.K h (y++[]) A Q E0;rw[ZA];exact⟨z,w,m.fh,C,A7 x m⟩
def AB {name:Str}{k:Nat}{ps:Yk}{h:YG->Res D}{p:Pos}{e:Expr}{es:Ym}{l:FA}(c:zG X.prog X.w X.K X.mg X.base name k ps (z9 X.K h))(o:Room k X.A)(s:Gl X name)(t:QA X E0 (e::es) l)
 (i:(name == ("__debug__" : Str))=false:=by decide) (u:starEach (e::es) X.env=(false,eval e X.env)::starEach es X.env:=by rfl) (j:(backTo pos (starEach es X.env)).any (·.1)=false:=by rfl):
 QN X E0 (.Call (.Name name p) (e::es) [] pos) (J8 h l):=PE.weak (Xi c o s t i u j) λZ H Q v=>by
 obtain⟨B,F,sd,r,n⟩:=v;refine⟨B,F,sd,r,(ja n).mono (λw x y z A m C=>?_) λ_ _ q=>q⟩;show z9 X.K h (y++[]) A Q E0;rw[ZA];exact⟨z,w,m.fh,C,CH x m⟩
def jy (g:YG->YH)(c:FA):FE:=λsd=>(c sd).bind λe=>.ofO (g e)
def Qo {id:String}{x:Str}{p:Pos}{e:Expr}{es:Ym}{g:YG->YH}{i:FA}(l:jS X (.builtin id) (zU X.K g))(m:Gl X x)(o:X.mg x=none)(s:bootBuiltins x=some (.builtin id))(t:QA X E (e::es) i)(u:x ≠ "__name__" := by decide)(c:(x == ("__debug__" : Str))=false:=by decide)
 (v:starEach (e::es) X.env=(false,eval e X.env)::starEach es X.env:=by rfl) (h:(backTo pos (starEach es X.env)).any (·.1)=false:=by rfl):QE X E (.Call (.Name x p) (e::es) [] pos) (jy g i):=
 PE.weak (Ak l m o s t u c v h) λZ H Q w=>by
  obtain⟨B,F,sd,r,n⟩:=w;refine⟨B,F,sd,r,(ja n).mono (λy A I C J j G=>?_) λ_ _ q=>q⟩;obtain⟨z,hz,q⟩:=jg A;exact⟨C,y,z,j.fh,G,hz,q.ext j⟩
def Py {id:String}{x:Str}{p:Pos}{e:Expr}{es:Ym}{g:YG->YH}{i:FA}(l:jS X (.builtin id) (zT X.K g))(m:Gl X x)(o:X.mg x=none)(s:bootBuiltins x=some (.builtin id))(t:QA X E (e::es) i)(u:x ≠ "__name__" := by decide)(c:(x == ("__debug__" : Str))=false:=by decide)
 (v:starEach (e::es) X.env=(false,eval e X.env)::starEach es X.env:=by rfl) (h:(backTo pos (starEach es X.env)).any (·.1)=false:=by rfl):QN X E (.Call (.Name x p) (e::es) [] pos) (jy g i):=
 PE.weak (Ak l m o s t u c v h) λZ H Q w=>by
  obtain⟨B,F,sd,r,n⟩:=w;refine⟨B,F,sd,r,(ja n).mono (λy A I C J j G=>?_) λ_ _ q=>q⟩;obtain⟨z,hz,q⟩:=jg A;exact⟨C,y,z,j.fh,G,hz,q.ext j⟩
def Xq {T:String}{x:Str}{p:Pos}{e:Expr}{es:Ym}{g:YG->YH}{i:FA}(l:jS X (.type T) (zU X.K g))(m:Gl X x)(o:X.mg x=none)(s:bootBuiltins x=some (.type T))(t:QA X E (e::es) i)(u:x ≠ "__name__" := by decide)(c:(x == ("__debug__" : Str))=false:=by decide)
 (v:starEach (e::es) X.env=(false,eval e X.env)::starEach es X.env:=by rfl) (h:(backTo pos (starEach es X.env)).any (·.1)=false:=by rfl):QE X E (.Call (.Name x p) (e::es) [] pos) (jy g i):=
 PE.weak (Cc l m o s t u c v h) λZ H Q w=>by
  obtain⟨B,F,sd,r,n⟩:=w;refine⟨B,F,sd,r,(ja n).mono (λy A I C J j G=>?_) λ_ _ q=>q⟩;obtain⟨z,hz,q⟩:=jg A;exact⟨C,y,z,j.fh,G,hz,q.ext j⟩
def Wt {T:String}{x:Str}{p:Pos}{e:Expr}{es:Ym}{g:YG->YH}{i:FA}(l:jS X (.type T) (zT X.K g))(m:Gl X x)(o:X.mg x=none)(s:bootBuiltins x=some (.type T))(t:QA X E (e::es) i)(u:x ≠ "__name__" := by decide)(c:(x == ("__debug__" : Str))=false:=by decide)
 (v:starEach (e::es) X.env=(false,eval e X.env)::starEach es X.env:=by rfl) (h:(backTo pos (starEach es X.env)).any (·.1)=false:=by rfl):QN X E (.Call (.Name x p) (e::es) [] pos) (jy g i):=
 PE.weak (Cc l m o s t u c v h) λZ H Q w=>by
  obtain⟨B,F,sd,r,n⟩:=w;refine⟨B,F,sd,r,(ja n).mono (λy A I C J j G=>?_) λ_ _ q=>q⟩;obtain⟨z,hz,q⟩:=jg A;exact⟨C,y,z,j.fh,G,hz,q.ext j⟩
def K8:D->Bool
 | .tup _=>false
 | .lst _=>false
 | .dct _ _=>false
 | .ins _ _ _=>false
 | .exc _=>false
 | .dcf _ _=>false
 | .pin _ _=>false
 | .scr _=>false
 |_=>true
def jf.scal {K:W.Frag}{F c:Hp}{d:D}{v:V}(s:K8 d=true)(h:jf K F d v):jf K c d v:=by
 cases d with
 |tup _=>exact J9 s
 |lst _=>exact J9 s
 |dct _ _=>exact J9 s
 |ins _ _ _=>exact J9 s
 |exc _=>exact J9 s
 |dcf _ _=>exact J9 s
 |pin _ _=>exact J9 s
 |scr _=>exact J9 s
 |_=>exact h
def Res.bare {α: Type}(r:Res α):Res α:= match r with
 | .ok a=>.ok a
 | .ex c []=>.ex c []
 |_=>.no
def yo {α: Type}{K:W.Frag}{F H e:Hp}{r:Res α}{p:α -> Prop}(i:jk F H)(h:r.bare.need p (XW K E0 F H)):r.need p (XW K E0 e H):=by
 cases r with
 |ok a=>exact h
 |no=>exact h
 |ex c fs =>
  cases fs with
  |nil=>exact λj a q l m ⟨C,n,o,_⟩=>h j none F l (.grow i m.hh) ⟨C,n,o,.inl rfl⟩
  |cons d r=>exact h.elim
def xr (is:Yj)(f:FE):FE:=λsd=>(f (qN is sd)).bare.bind λd=>if K8 d then .ok d else .no
def WL {e:Expr}{j:FE}(is:Yj)(h:QE X E0 e j):QE X E0 e (xr is j):=PE.weak h λZ H Q l=>by
 obtain⟨B,F,sd,r,n⟩:=l;obtain⟨m,u,o⟩:=r.frz is;refine⟨B,m,_,o,(yo r.ext.fh (ja n)).mono (λd i v w p s t=>?_) λc fs q=>q⟩
 split at i
 .rename_i hs;exact i v F p (.grow r.ext.fh s.hh) (t.scal hs)
 .exact i.elim
end
inductive Out where
 |next (sd:SD)|ret (d:D)|brk (sd:SD)|cont (sd:SD)
def bJ (K:W.Frag)(F H:Hp)(Q:VK)(d:D):Prop:=if K8 d=true then yI K F H Q d else xR K F H Q d
def AC (K:W.Frag)(m:Option Bool)(B:Bs)(Q:VK)(d:D):Prop:=match m with
 |some true=>xR K B.F0 B.H0 Q d
 |some false=>yI K B.F0 B.H0 Q d
 |none=>bJ K B.F0 B.H0 Q d
def zM (K:W.Frag)(m:Option Bool)(B:Bs)(F:Hp)(T:Ends):Out->Prop
 | .next sd=>∀Z a b,jk F a->RS K B a b sd Z -> T.nx Z b
 | .brk sd=>∀Z a b,jk F a->RS K B a b sd Z -> T.bk Z b
 | .cont sd=>∀Z a b,jk F a->RS K B a b sd Z -> T.ct Z b
 | .ret d=>AC K m B T.rt d
abbrev FS:=SD->Res Out
def u0 (K:W.Frag)(E:XK)(m:Option Bool)(g:FS):TS:=λT Z H=>∃B F sd,RS K B F H sd Z /\ (g sd).need (zM K m B F T) (XW K E B.F0 B.H0)
abbrev QS (X:Cx)(E:XK)(m:Option Bool)(st:Stmt)(g:FS):Prop:=PS X st (u0 X.K E m g)
abbrev zI (X:Cx)(E:XK)(m:Option Bool)(st:List Stmt)(g:FS):Prop:=qP X st (u0 X.K E m g)
section
variable {K:W.Frag}{E:XK}{m:Option Bool}{B:Bs}{F F' H:Hp}{T:Ends}
def zM.mono (h:zM K m B F T o)(e:jk F F'):zM K m B F' T o:=by
 cases o with
 |next sd=>exact λZ a b s r=>h Z a b (e.trans s) r
 |brk sd=>exact λZ a b s r=>h Z a b (e.trans s) r
 |cont sd=>exact λZ a b s r=>h Z a b (e.trans s) r
 |ret d=>exact h
end
section
variable {X:Cx}{E:XK}{m:Option Bool}{st:Stmt}{sts:List Stmt}{g g1 g2:FS}{pos:Pos}
def JZ:FS:=λsd=>.ok (.next sd)
def ju (g1 g2:FS):FS:=λsd=>(g1 sd).bind λo=>match o with
 | .next sd'=>g2 sd'
 |o=>.ok o
def Qw:zI X E m [] JZ:=qP.weak Ag λT Z H ⟨B,F,sd,r,n⟩=>n Z F H (.refl _) r
def JB (h:QS X E m st g):zI X E m [st] g:=BR h
def JG (b:QS X E m st g1)(c:zI X E m sts g2):zI X E m (st::sts) (ju g1 g2):=qP.weak (XL b c) λT Z H e=>by
 obtain⟨B,F,sd,r,n⟩:=e;refine⟨B,F,sd,r,(ja n).mono (λo a=>?_) λ_ _ q=>q⟩;cases o with
 |next sd'=>exact λi f j s h=>⟨B,f,sd',h,a.mono (λo q=>q.mono s) λ_ _ q=>q⟩
 |ret d=>exact a
 |brk sd'=>exact a
 |cont sd'=>exact a
def AD (is:Yj)(h:QS X E m st g):QS X E m st (λsd=>g (qN is sd)):=PS.weak h λT Z H a=>by
 obtain⟨B,F,sd,r,n⟩:=a;obtain⟨b,c,e⟩:=r.frz is;exact⟨B,b,_,e,n.mono (λ_ q=>q.mono c) λ_ _ q=>q⟩
def v4:FS:=λsd=>.ok (.brk sd)
def Pz:QS X E m (.Break pos) v4:=PS.weak MX λT Z H ⟨B,F,sd,r,n⟩=>n Z F H (.refl _) r
variable {e:Expr}{fe:FE}
def jD (i:Nat)(f:FE):FS:=λsd=>(f sd).bind λd=>.ok (.next (sd.set i (some (.val d))))
def qx (i:Nat)(f:FE):FS:=λsd=>(f sd).bind λd=>.ok (.next (sd.set i (some (.own false d))))
def Qk (b:X.N.Nodup)(c:X.N[i]? = some x)(f:yJ X.env.scope x)(h:QE X E e fe)(hs:swapsWith e (some (.Name x pos')) pos.line X.env=pure false:=by rfl)
 (j:X.fn x=true\/X.env.scope.names.lookup x=some .local:=by trivial):QS X E m (.Assign [.Name x pos'] e pos) (jD i fe):=PS.weak (XM b c f h hs j) λT Z H ⟨B,F,sd,r,n⟩=>⟨B,F,sd,r,(ja n).mono (λd l v o p a s=>(l _ o p a.ff ((r.step a).setVal s))) λ_ _ q=>q.ext r.ext⟩
def QH (h:X.N.Nodup)(s:X.N[i]? = some x)(t:yJ X.env.scope x)(u:QN X E e fe)(hs:swapsWith e (some (.Name x pos')) pos.line X.env=pure false:=by rfl)
 (v:X.fn x=true\/X.env.scope.names.lookup x=some .local:=by trivial):QS X E m (.Assign [.Name x pos'] e pos) (qx i fe):=PS.weak (XM h s t u hs v) λT Z H w=>by
 obtain⟨B,F,sd,r,n⟩:=w;refine⟨B,F,sd,r,(ja n).mono (λd y l z A a b C G=>?_) λ_ _ q=>q.ext r.ext⟩;refine y _ z A a.ff ((r.step a).setOwn (Qd r.ext.hh b) C G λj p d' I c=>?_);obtain⟨L,J,_,_,K,_⟩:=r.own I;rw[J] at c;cases c;obtain⟨o,f⟩:=K.has;rw[b] at f;exact J2 f
def j1 (f:FE):FS:=λsd=>(f sd).bind λd=>.ok (.ret d)
def JQ (a:QE X E e fe):QS X E false (.Return (some e) pos) (j1 fe):=PS.weak (Ai a) λT Z H ⟨B,F,sd,r,n⟩=>⟨B,F,sd,r,(ja n).mono (λd b v c f h i=>(b v c f (r.ext.trans h) i)) λ_ _ q=>q.ext r.ext⟩
def WM (a:QN X E e fe):QS X E true (.Return (some e) pos) (j1 fe):=PS.weak (Ai a) λT Z H ⟨B,F,sd,r,n⟩=>⟨B,F,sd,r,(ja n).mono (λd b l c f h i j o=>(b l c f (r.ext.trans h) (Qd r.ext.hh i) j o)) λ_ _ q=>q.ext r.ext⟩
def K9 (i:Nat):FS:=λsd=>match sd[i]? with
 |some (some (.own _ d))=>.ok (.ret d)
 |_=>.no
def AE (a:PE X e (xM i)):QS X E true (.Return (some e) pos) (K9 i):=PS.weak (Ai a) λT Z H b=>by
 obtain⟨B,F,sd,r,n⟩:=b;unfold K9 at n
 split at n
 .rename_i d q;obtain⟨l,c,f,h,j,_⟩:=r.own q;exact⟨.ref l,c,n l F H r.ext f h j⟩
 .exact n.elim
def xz (c:FT)(g1 g2:FS):FS:=λsd=>(c sd).bind λb=>if b then g1 sd else g2 sd
def Qx (j:QT X E c fc)(l:zI X E m a g1)(o:zI X E m b g2):QS X E m (.If c a b pos) (xz fc g1 g2):=PS.weak (BS j l o) λT Z H p=>by
 obtain⟨B,F,sd,r,n⟩:=p;refine⟨B,F,sd,r,(ja n).mono (λb h i s f=>?_) λ_ _ q=>q.ext r.ext⟩;cases b with
 |true=>exact⟨B,i,sd,r.step f,h.mono (λ_ q=>q.mono f.ff) λ_ _ q=>q⟩
 |false=>exact⟨B,i,sd,r.step f,h.mono (λ_ q=>q.mono f.ff) λ_ _ q=>q⟩
def KO (i:Nat)(f:FE):FS:=λsd=>match sd[i]? with
 |some (some (.own false (.lst ds)))=>(f sd).bind λd=>if ds.length<sizeLine then .ok (.next (sd.set i (some (.own false (.lst (ds++[d])))))) else .no
 |_=>.no
def YL (z:PE X o (xM i))(A:QE X E e fe)
 (hp:∀{p:TE} {t:TA},PE X o p->PA X [e] t->PE X (.Call (.Attribute o "append" apos) [e] [] cpos) (u4 X.K "list" Am p t))
 (hs:swapsWith (.Call (.Attribute o "append" apos) [e] [] cpos) none pos.line X.env=pure false:=by rfl)
 (f:starEach [e] X.env=(false,eval e X.env)::starEach [] X.env:=by rfl):QS X E m (.Expr (.Call (.Attribute o "append" apos) [e] [] cpos) pos) (KO i fe):=
 PS.weak (Ah (hp z (J1 A J3 f)) hs) λT Z H C=>by
  obtain⟨B,F,sd,r,n⟩:=C;unfold KO at n
  split at n
  .rename_i ds s;obtain⟨l,u,L,M,⟨h,x,y⟩,_⟩:=r.own s;refine⟨.ref l,u,.inl ⟨rfl,h,qZ.of x⟩,B,F,sd,r,?_⟩;unfold J0 jc;have a:=ja n;cases q:fe sd with
   |no=>rwa [q] at a
   |ex c fs=>rw[q] at a;exact a.ext r.ext
   |ok d =>
    rw[q] at a;intro N G O b I;obtain⟨v,w,rfl,J,K⟩:=I;subst K;have j:=a
    split at j
    .have P:=y.length;exact⟨l,h,v,rfl,rfl,b.hh _ _ x,(),j Z G _ b.ff ((r.step b).chg s u ⟨h++[v],JL,(je.same b.ff _ _ y).snoc J⟩)⟩
    .exact j.elim
  .exact n.elim
def Xr (i:Nat)(f:FE):FS:=λsd=>match sd[i]? with
 |some (some (.own false (.lst ds)))=>(f sd).bind λd=>match d with
  | .lst es=>if ds.length+es.length<=sizeLine then .ok (.next (sd.set i (some (.own false (.lst (ds++es)))))) else .no
  |_=>.no
 |_=>.no
def P0 (x:PE X o (xM i))(y:QN X E e fe)
 (hp:∀{j:TE} {t:TA},PE X o j->PA X [e] t->PE X (.Call (.Attribute o "extend" apos) [e] [] cpos) (u4 X.K "list" EX j t))
 (hs:swapsWith (.Call (.Attribute o "extend" apos) [e] [] cpos) none pos.line X.env=pure false:=by rfl)
 (c:starEach [e] X.env=(false,eval e X.env)::starEach [] X.env:=by rfl):QS X E m (.Expr (.Call (.Attribute o "extend" apos) [e] [] cpos) pos) (Xr i fe):=
 PS.weak (Ah (hp x (KH y V2 c)) hs) λT Z H z=>by
  obtain⟨B,F,sd,r,n⟩:=z;unfold Xr at n
  split at n
  .rename_i ds p;obtain⟨l,s,I,J,⟨f,u,v⟩,_⟩:=r.own p;refine⟨.ref l,s,.inl ⟨rfl,f,qZ.of u⟩,B,F,sd,r,(ja n).mono (λd w b A K a L M C=>?_) λ_ _ q=>q.ext r.ext⟩;cases d with
   |lst es =>
    obtain⟨ys,g1,g2⟩:=C;have h:(if ds.length+es.length<=sizeLine then Res.ok (Out.next (sd.set i (some (.own false (.lst (ds++es)))))) else .no).need (zM X.K m B F T) (XW X.K E B.F0 B.H0):=w
    split at h
    .have N:=v.length;have G:=g2.length;exact⟨l,b,f,ys,rfl,rfl,a.hh _ _ u,g1,(),h Z A _ a.ff ((r.step a).chg p s ⟨f++ys,JL,(je.same a.ff _ _ v).append g2⟩)⟩
    .exact h.elim
   |_=>exact w.elim
  .exact n.elim
inductive Tg where
 |one (i:Nat)|tup (is:Yj)
def setAll:Yj->YG->SD->SD
 |i::is,d::ds,sd=>setAll is ds (sd.set i (some (.val d)))
 |_,_,sd=>sd
def JO:Tg->D->SD->Res SD
 | .one i,d,sd=>.ok (sd.set i (some (.val d)))
 | .tup is,.tup ds,sd=>if ds.length=is.length then .ok (setAll is ds sd) else .no
 |_,_,_=>.no
def AF:Yj->YE->St->St
 |i::is,v::vs,Z => AF is vs (Z.set i (some v))
 |_,_,Z => Z
theorem RS.setAll {K:W.Frag}{B:Bs}{F H:Hp}:∀{is:Yj} {ds:YG} {a:YE} {sd:SD} {Z: St},RS K B F H sd Z -> je K F ds a->RS K B F H (setAll is ds sd) (AF is a Z)
 | [],ds,a,sd,Z,r,_=>r
 |i::is,[],a,sd,Z,r,h=>by
  subst h;exact r
 |i::is,d::ds,a,sd,Z,r,h=>by
  obtain⟨v,w,rfl,b,c⟩:=h;exact RS.setAll (is:=is) (r.setVal b) c
def RS.forget {K:W.Frag}{B:Bs}{F H:Hp}{sd sd':SD}{Z: St}(r:RS K B F H sd Z)(a:sd'.length=sd.length)(h:∀(i:Nat) (x:SV),sd'[i]? = some (some x)->sd[i]? = some (some x)):RS K B F H sd' Z:=
 ⟨r.ext,by rw[r.len,a],λq=>r.val (h _ _ q),λq=>r.own (h _ _ q),λn b c f=>r.apart n (h _ _ b) (h _ _ c) f⟩
def gT:Tg->W.Frag->TG
 | .one i,_=>Ux i
 | .tup is,K=>λv Z H Q=>∃a b,v=.ref a/\yC K H a b/\b.length=is.length/\Q (AF is b Z) H
def YM {K:W.Frag}{tg:Tg}{B:Bs}{F H:Hp}{sd:SD}{Z: St}{d:D}{v:V}{p:SD->Prop}{q:Str->YG->Prop}{Q:St->Hp->Prop}(r:RS K B F H sd Z)(f:jf K F d v)(n:(JO tg d sd).need p q)
 (h:∀sd' j,p sd'->JO tg d sd=.ok sd'->RS K B F H sd' j->Q j H):gT tg K v Z H Q:=by
 cases tg with
 |one i=>exact h _ _ n rfl (r.setVal f)
 |tup is =>
  cases d with
  |tup ds =>
   obtain⟨a,o,rfl,s,l⟩:=f;have b:JO (.tup is) (.tup ds) sd=if ds.length=is.length then .ok (setAll is ds sd) else .no:=rfl
   by_cases c:ds.length=is.length
   .rw[Zd c] at b;rw[b] at n;exact⟨a,o,rfl,(s.same r.ext.fh).sq,by rw[l.length,c],h _ _ n b (r.setAll l)⟩
   .rw[Ze c] at b;rw[b] at n;exact n.elim
  |_=>exact n.elim
abbrev QG (X:Cx)(e:Expr)(tg:Tg):Prop:=PG X e (gT tg X.K)
def wU (K:W.Frag)(h:Hp)(J:It)(ds:YG):Prop:=∀(i:Nat) (b a:Hp),jk h b->jk b a ->
 (i<ds.length->J.go i a/\∀x c,J.yld i a x c->∃d f,ds[i]? = some d/\Ext b a f c/\jf K f d x)/\(ds.length<=i->J.stop i a)
def hJ (K:W.Frag)(E:XK)(f:FA):TI:=λZ H R=>∃B F sd,RS K B F H sd Z /\ (f sd).need (λds=>∀J a b,Ext F H a b->wU K a J ds->R J b) (XW K E F H)
abbrev QI (X:Cx)(E:XK)(tg iter:Expr)(f:FA):Prop:=PI X tg iter (hJ X.K E f)
def yB (b:D->FS):YG->FS
 | [],sd=>.ok (.next sd)
 |x::xs,sd=>(b x sd).bind λo=>match o with
  | .next sd'=>yB b xs sd'
  | .cont sd'=>yB b xs sd'
  | .brk sd'=>.ok (.next sd')
  | .ret d=>.ok (.ret d)
def qj (it:FA)(tg:Tg)(b:FS):FS:=λsd=>(it sd).bind λds=>yB (λx sd=>(JO tg x sd).bind b) ds sd
def QJ (hp:PassesOwn (model X.prog X.w) X.A X.env X.xe)(Q:X.calm=true)(M:QI X E tg iter fi)(R:QG X tg t)(S:zI X E m body g)
 (w:∀x,foldedSetIterable iter X.env x=pure x:=by intro _;rfl):QS X E m (.For tg iter body [] pos) (qj fi t g):=PS.weak (BU hp Q M R S w) λT Z H U=>by
 obtain⟨B,F,sd,r,n⟩:=U;refine⟨B,F,sd,r,(ja n).mono (λds Y J z H1 N wk=>?_) λ_ _ q=>q.ext r.ext⟩;refine⟨λi k Z H=>k=ds.length-i/\i<=ds.length/\∃j sd,jk z j/\RS X.K B j H sd Z /\ (yB (λx sd=>(JO t x sd).bind g) (ds.drop i) sd).need (zM X.K m B j T) (XW X.K E B.F0 B.H0),
  ⟨ds.length,rfl,Ub _,z,sd,.refl _,r.step N,Y.mono (λ_ q=>q.mono N.ff) λ_ _ q=>q⟩,?_⟩
 rintro i k Z2 O ⟨rfl,M,j,sd2,A,C,p⟩;obtain⟨w1,w2⟩:=wk i j O A C.ext.fh;by_cases c:i<ds.length
 .obtain⟨go,yl⟩:=w1 c;refine .inr ⟨go,λG P=>∃f a,jk z f/\RS X.K B f P a G/\(yB (λx sd=>(JO t x sd).bind g) (ds.drop (i+1)) a).need (zM X.K m B f T) (XW X.K E B.F0 B.H0),
   λG P ⟨f,a,q1,q2,q3⟩=>⟨ds.length-(i+1),(),rfl,c,f,a,q1,q2,q3⟩,λx H3 y=>?_⟩
  obtain⟨d,f,hd,l,i3⟩:=yl x H3 y;rw[Uu c] at p;have I:ds[i]=d:=by grind[Zqg,Zqi]
  rw[I] at p;have r3:=C.step l;refine YM r3 i3 (ja (ja p)) λsd' G n4 _ r4=>⟨B,f,sd',r4,n4.mono (λo v=>?_) λ_ _ q=>q⟩;cases o with
  |next b=>exact λK s L h u=>⟨s,b,(A.trans l.ff).trans h,u,v.mono (λ_ q=>q.mono (l.ff.trans h)) λ_ _ q=>q⟩
  |cont b=>exact λK s L h u=>⟨s,b,(A.trans l.ff).trans h,u,v.mono (λ_ q=>q.mono (l.ff.trans h)) λ_ _ q=>q⟩
  |brk b=>exact λK s L h u=>v K s L (l.ff.trans h) u
  |ret d=>exact v
 .have he:i=ds.length:=()
  refine .inl ⟨w2 (),?_⟩;subst he;rw[UM] at p;exact p Z2 j O (.refl _) C
def ye {α β: Type}(f:α -> Res β):List α -> Res (List β)
 | []=>.ok []
 |x::xs=>(f x).bind λy=>(ye f xs).bind λys=>.ok (y::ys)
def jY (cap:List (Option Nat))(sd:SD):SD:=cap.map λo=>o.bind λj=>match sd[j]? with
 |some (some (.val d))=>some (.val d)
 |_=>none
def V9 (sd:SD)(i:Nat):Bool:=match sd[i]? with
 |some none=>true
 |_=>false
def VX (sd:SD):Tg->Bool
 | .one i=>V9 sd i
 | .tup is=>is.all (V9 sd)
def Q0 (cap:List (Option Nat))(it:FA)(tg:Tg)(f:FE):FE:=λsd=>(it sd).bind λds=>if VX (jY cap sd) tg=true/\ds.length<sizeLine then
 (ye (λx=>(JO tg x (jY cap sd)).bind f) ds).bind λys=>.ok (.lst ys) else .no
theorem RS.cap {K:W.Frag}{B:Bs}{F H:Hp}{sd:SD}{Z: St}(cap:List (Option Nat))(r:RS K B F H sd Z):RS K B F H (jY cap sd) (KJ cap Z):=by
 have a:∀{i:Nat} {x:SV},(jY cap sd)[i]? = some (some x)->∃j d,cap[i]? = some (some j)/\sd[j]? = some (some (.val d))/\x=.val d:=λ{i x} q=>by
  unfold jY at q;rw[Zv] at q;cases h:cap[i]? with
  |none=>rw[h] at q;exact J2 q
  |some o =>
   rw[h] at q;cases o with
   |none=>cases q
   |some j =>
    have q:(match sd[j]? with
     |some (some (.val d))=>some (SV.val d)
     |_=>none)=some x:=Zqi q
    split at q
    .rename_i d n;exact⟨j,d,rfl,n,(Zqi q).symm⟩
    .exact J2 q
 refine⟨r.ext,by unfold jY KJ;rw[Zql,Zql],λ{i d} q=>?_,λ{i p d} q=>?_,λ{i j p u d e l} _ q=>?_⟩
 .obtain⟨j,d',c,f,b⟩:=a q;cases b;obtain⟨v,s,t⟩:=r.val f;refine⟨v,?_,t⟩;unfold KJ;rw[Zv,c];show some (Option.bind (some j) λj=>(Z[j]?).join)=_;rw[Option.bind_some,s];rfl
 .obtain⟨j,d',c,f,b⟩:=a q;cases b
 .obtain⟨j,d',c,f,b⟩:=a q;cases b
theorem CL:∀(is:Yj) (ds:YG) (a sd:SD),is.all (V9 a)=true->sd.length=a.length->(∀(i:Nat) (x:SV),a[i]? = some (some x)->sd[i]? = some (some x)) ->
 (setAll is ds sd).length=a.length/\∀(i:Nat) (x:SV),a[i]? = some (some x)->(setAll is ds sd)[i]? = some (some x)
 | [],ds,a,sd,_,hl,h=>⟨hl,h⟩
 |i::is,[],a,sd,_,hl,h=>⟨hl,h⟩
 |i::is,d::ds,a,sd,hn,hl,h=>by
  rw[U9,Uh] at hn;refine CL is ds a (sd.set i (some (.val d))) hn.2 (by rw[U8,hl]) λj x q=>?_;have ne:i≠j:=λz=>by
   subst z;have:=hn.1;unfold V9 at this;rw[q] at this;exact J9 this
  rw[Q7 ne];exact h j x q
def CM (a:VX sd0 tg=true)(h:JO tg d sd0=.ok sd):sd0.length=sd.length/\∀(i:Nat) (x:SV),sd0[i]? = some (some x)->sd[i]? = some (some x):=by
 cases tg with
 |one i =>
  cases h;have:=CL [i] [d] sd0 sd0 (by rw[U9,List.all_nil,Bool.and_true];exact a) rfl λ_ _ q=>q;exact⟨this.1.symm,this.2⟩
 |tup is =>
  cases d with
  |tup ds =>
   have b:JO (.tup is) (.tup ds) sd0=if ds.length=is.length then .ok (setAll is ds sd0) else .no:=rfl
   rw[b] at h
   split at h
   .cases h;have:=CL is ds sd0 sd0 a rfl λ_ _ q=>q;exact⟨this.1.symm,this.2⟩
   .cases h
  |_=>cases h
def Gu {α β: Type}{f:α -> Res β}{a:List α}{x:α}{p:List β -> Prop}(l:a[i]? = some x)(h:(ye f (a.drop i)).need p q):(f x).need (λy=>(ye f (a.drop (i+1))).need (λys=>p (y::ys)) q) q:=by
 have b:i<a.length:=();rw[Uu b] at h;have e:a[i]=x:=by simp_all
 rw[e] at h;exact(ja h).mono (λy c=>((ja c).mono (λys j=>j) λ_ _ z=>z)) λ_ _ z=>z
def CN {K:W.Frag}{t:Tg}{fi:FA}{f:FE}{cap:List (Option Nat)}{Z: St}{H:Hp}{Q:VK}(o:vJ K E (Q0 cap fi t f) Z H Q):Xh cap (hJ K E fi) (gT t K) (tD K E f) Z H Q:=by
 obtain⟨B,F,sd,r,n⟩:=o;refine⟨B,F,sd,r,(ja n).mono (λds p J C I l wk=>?_) λ_ _ q=>q⟩
 split at p
 .rename_i o;obtain⟨L,hz⟩:=o;refine⟨λi k ys Z b=>k=ds.length-i/\i<=ds.length/\∃a es,Ext C I a b/\RS K B a b (jY cap sd) Z /\ je K a es ys/\es.length=i /\
   (ye (λx=>(JO t x (jY cap sd)).bind f) (ds.drop i)).need (λrs=>xR K a b Q (.lst (es++rs))) (XW K E a b),⟨ds.length,rfl,Ub _,C,[],.refl l.fh,(r.step l).cap cap,.nil,rfl,?_⟩,?_⟩
  .exact(ja p).mono (λrs q=>(show xR K F H Q (.lst rs) from q).ext l) λ_ _ q=>q.ext l
  rintro i k ys Z2 b ⟨rfl,hi,a,es,s,u,w,M,z⟩;have ly:=w.length;refine⟨(),?_⟩;obtain⟨N,O⟩:=wk i a b s.ff s.fh;by_cases h:i<ds.length
  .obtain⟨go,P⟩:=N h;refine .inr ⟨go,λx R y=>?_⟩;obtain⟨d,S,T,c,U⟩:=P x R y;have Y:=Gu T z;have r3:=u.step c;refine YM (K:=K) r3 U (ja Y) λsd' Z' n4 hb G=>?_;obtain⟨b1,b2⟩:=CM L hb;refine⟨B,S,sd',G,n4.mono (λy n5 v F4 H4 j i4=>?_) λ_ _ q=>q.ext c⟩;refine⟨ds.length-(i+1),(),rfl,h,F4,es++[y],(s.trans c).trans j,(G.step j).forget b1 b2,(je.same (c.ff.trans j.ff) _ _ w).snoc i4,by rw[Ua,M];rfl,?_⟩;refine n5.mono (λrs q=>?_) λ_ _ q=>q.ext (c.trans j);rw[Ud];exact q.ext (c.trans j)
  .have he:i=ds.length:=()
   subst he;refine .inl ⟨O (Zf _),λD A=>?_⟩;rw[UM] at z;have q:xR K a b Q (.lst (es++[])):=z;rw[ZA] at q;exact q D a _ (.keep u.ext.fh A _) A (Qd u.ext.fh A) ⟨ys,JL,w⟩
 .exact p.elim
def KP (N:Yk)(cap:List (Option Nat))(i:X.calm=true)(a:QF scope X.env N X.N cap=true)(j:QI X E tg iter fi)
 (l:∀b C s H c,QG (JK X scope N b C s H c) tg t) (n:∀b C s H c,QE (JK X scope N b C s H c) E elt f) (hs:∀x,foldedSetIterable iter X.env x=pure x:=by intro _;rfl):
 QN X E (.ListComp elt [⟨tg,iter,[],0⟩] scope pos) (Q0 cap fi t f):=PE.weak (Oz N cap i a j l n hs) λ_ _ _ h=>CN h
def JW (n:Nat)(ds:YG):SD:=ds.map (λd=>some (.val d))++List.replicate (n-ds.length) none
def jF (n ar:Nat)(g:FS)(ds:YG):Res D:=if ds.length=ar then(g (JW n ds)).bind λo=>match o with
 | .ret d=>.ok d
 | .next _=>.ok .non
 |_=>.no else .no
def qk (n ar:Nat)(g:FS)(ds:YG):Res D:=if ds.length=ar then(g (JW n ds)).bind λo=>match o with
 | .ret d=>.ok d
 |_=>.no else .no
theorem RS.start {K:W.Frag}{F H:Hp}{N:Yk}{ds:YG}{f:YE}(s:jk F H)(h:je K F ds f):RS K ⟨F,H,λ_=>none⟩ F H (JW N.length ds) (start N f):=by
 have a:∀{i:Nat} {x:SV},(JW N.length ds)[i]? = some (some x)->∃d,ds[i]? = some d/\x=.val d:=λ{i x} q=>by
  unfold JW at q;by_cases c:i<ds.length
  .rw[Vl (by rw[Zql];exact c),Zv,Zqg c] at q;exact⟨ds[i],Zqg c,(Zqi (Zqi q)).symm⟩
  .rw[Vm (by rw[Zql];lia),List.getElem?_replicate] at q
   split at q<;>(first|exact J2 q|cases q)
 refine⟨.refl s,by unfold JW L2.start;simp[h.length],λ{i d} q=>?_,λ{i p d} q=>?_,λ{i j p t d e l} _ q=>?_⟩
 .obtain⟨d',o,b⟩:=a q;cases b;obtain⟨v,n,r⟩:=h.get o;refine⟨v,?_,r⟩;unfold L2.start;rw[Vl (by rw[Zql];exact(Jc.mp n).1),Zv,n];rfl
 .obtain⟨_,_,b⟩:=a q;cases b
 .obtain⟨_,_,b⟩:=a q;cases b
section
variable {P:Program}{w:World}{K:W.Frag}{mg:Ye}{base:Heap}{x qual:Str}{f:Addr}{fd:FuncData}{N ps:Yk}{k:Nat}
def qG (F:Fun K x qual st f fd)(S:FnScope N ps (JR st))
 (i:∀(b:Value) (A:Around) (a:List Env) (s:Shared) (H:Hp) (E:XK),Room k (A.deeper (envOfC qual (JR st) s.heap.objs.size f b))->zI (jX yw P w K mg base N qual (JR st) f b A a s H E).nox E0 false (QD st) g):
 FnOk P w K mg base yw (k+1) f fd ps (xc K (jF N.length ps.length g)):=by
 refine F.ok S (λj H Q E ⟨F,ds,_,h,n⟩=>?_) λb A a s H j Q E l ⟨F,ds,hs,h,n⟩=>⟨_,i b A a s H E l,?_⟩
 .unfold jF at n
  split at n
  .rw[h.length];assumption
  .exact n.elim
 .unfold jF at n
  split at n
  .refine⟨⟨F,H,λ_=>none⟩,F,_,RS.start hs h,(ja n).mono (λo c=>?_) λ_ _ q=>q⟩;cases o with
   |next sd=>exact λZ p t _ r=>c .non p t r.ext (jB.mpr rfl)
   |ret d=>exact c
   |brk sd=>exact c.elim
   |cont sd=>exact c.elim
  .exact n.elim
def yR (F:Fun K x qual st f fd)(S:FnScope N ps (JR st))
 (i:∀(b:Value) (A:Around) (a:List Env) (s:Shared) (H:Hp) (E:XK),Room k (A.deeper (envOfC qual (JR st) s.heap.objs.size f b))->zI (jX yw P w K mg base N qual (JR st) f b A a s H E).nox E0 true (QD st) g):
 FnOk P w K mg base yw (k+1) f fd ps (z9 K (qk N.length ps.length g)):=by
 refine F.ok S (λj H Q E ⟨F,ds,_,h,n⟩=>?_) λb A a s H j Q E l ⟨F,ds,hs,h,n⟩=>⟨_,i b A a s H E l,?_⟩
 .unfold qk at n
  split at n
  .rw[h.length];assumption
  .exact n.elim
 .unfold qk at n
  split at n
  .refine⟨⟨F,H,λ_=>none⟩,F,_,RS.start hs h,(ja n).mono (λo c=>?_) λ_ _ q=>q⟩;cases o with
   |next sd=>exact c.elim
   |ret d=>exact c
   |brk sd=>exact c.elim
   |cont sd=>exact c.elim
  .exact n.elim
end
end
def qM (p:Int×Int):D:=.tup [.int p.1,.int p.2]
def j3 (r:Jy):D:=.tup (r.map qM)
def AG:D->Option (Int×Int)
 | .tup [.int i,.int j]=>some (i,j)
 |_=>none
def Q1 {α: Type}(f:D->Option α):YG->Option (List α)
 | []=>some []
 |d::ds=>(f d).bind λx=>(Q1 f ds).map λa=>x::a
def Kx:D->Option Jy
 | .tup ds=>Q1 AG ds
 |_=>none
def YN:D->Option Int
 | .int i=>some i
 |_=>none
theorem AH {α β: Type}{f:D->Option α}{g:β -> D}{k:β -> α}(h:∀x,f (g x)=some (k x)):∀l:List β,Q1 f (l.map g)=some (l.map k)
 | []=>rfl
 |x::r=>by rw[Zl];unfold Q1;rw[h,AH h r];rfl
theorem AI {α: Type}{f:D->Option α}{g:α -> D}(h:∀d x,f d=some x->d=g x):∀{ds:YG} {l:List α},Q1 f ds=some l->ds=l.map g
 | [],l,e=>by cases e;rfl
 |d::ds,l,e=>by
  unfold Q1 at e;cases a:f d with
  |none=>rw[a] at e;exact J2 e
  |some x =>
   cases b:Q1 f ds with
   |none=>rw[a,b] at e;exact J2 e
   |some c =>
    rw[a,b] at e;obtain rfl:=Zqi e;rw[Zl,<- h d x a,<- AI h b]
def P1 (p:Int×Int):AG (qM p)=some p:=rfl
def P3 (h:AG d=some p):d=qM p:=by
 cases d with
 |tup ds =>
  cases ds with
  |nil=>exact J2 h
  |cons x ds =>
   cases x with
   |int i =>
    cases ds with
    |nil=>exact J2 h
    |cons y ds =>
     cases y with
     |int j =>
      cases ds with
      |nil=>obtain rfl:=Zqi h;rfl
      |cons _ _=>exact J2 h
     |_=>exact J2 h
   |_=>exact J2 h
 |_=>exact J2 h
def Gv (r:Jy):Kx (j3 r)=some r:=by
 show Q1 AG (r.map qM)=some r;rw[AH (k:=id) P1,List.map_id]
def Gw (h:Kx d=some r):d=j3 r:=by
 cases d with
 |tup ds=>unfold j3;rw[<- AI (λ_ _=>P3) (h)]
 |_=>exact J2 h
def P4 (h:YN d=some i):d=.int i:=by
 cases d with
 |int j=>cases h;rfl
 |_=>exact J2 h
def P5 (h:Q1 YN ds=some l):ds=l.map D.int:=AI (λ_ _=>P4) h
def P6 (l:Yh):Q1 YN (l.map D.int)=some l:=by
 rw[(AH (f:=YN) (λ_=>rfl) l),List.map_id']
def CO (l:Jz):Q1 Kx (l.map j3)=some l:=by rw[AH (k:=id) Gv,List.map_id]
def CP (h:Q1 Kx ds=some l):ds=l.map j3:=AI (λ_ _=>Gw) h
section
variable {K:W.Frag}{H:Hp}
def ra:jf K H (qM p) v↔Is H (pD p) v:=by
 rfl
theorem vR:∀{r:Jy} {a:YE},je K H (r.map qM) a↔qc H (r.map pD) a
 | [],a=>by rfl
 |p::r,a=>by
  constructor
  .rintro⟨x,w,rfl,b,c⟩;exact⟨x,w,rfl,ra.mp b,vR.mp c⟩
  .intro h;obtain⟨x,w,e,b,c⟩:=h;exact⟨x,w,e,ra.mpr b,vR.mpr c⟩
def bN:jf K H (j3 r) v↔Is H (rD r) v:=by
 constructor
 .rintro⟨a,b,e,c,f⟩;exact⟨a,b,e,c,vR.mp f⟩
 .rintro⟨a,b,e,c,f⟩;exact⟨a,b,e,c,vR.mpr f⟩
theorem wy:∀{r:Jz} {a:YE},je K H (r.map j3) a↔qc H (r.map rD) a
 | [],a=>by rfl
 |p::r,a=>by
  constructor
  .rintro⟨x,w,rfl,b,c⟩;exact⟨x,w,rfl,bN.mp b,wy.mp c⟩
  .intro h;obtain⟨x,w,e,b,c⟩:=h;exact⟨x,w,e,bN.mpr b,wy.mpr c⟩
end
section
variable {X:Cx}{E:XK}
def gI (f:Int->Int->D):D->D->YH
 | .int i,.int j=>some (f i j)
 |_,_=>none
def vL (c:Int->Int->Bool)(f:Int->Int->D):D->D->YH
 | .int i,.int j=>if c i j then some (f i j) else none
 |_,_=>none
def AJ (o:xg X h (vn g))(a:∀i j F,jf X.K F (f i j) (g i j)):yu X h (gI f):=xg.weak o λx y H Q b=>by
 obtain⟨F,d,e,z,c,id,l,hz,q⟩:=b;cases d with
 |int i =>
  cases e with
  |int j=>cases hz;exact⟨i,j,jd.mp id,jd.mp l,q _ F H (.refl c) (a i j F)⟩
  |_=>exact J2 hz
 |_=>exact J2 hz
def YO (o:xg X h (rI C g))(b:∀i j,c i j=true->C i j)(l:∀i j F,jf X.K F (f i j) (g i j)):yu X h (vL c f):=xg.weak o λx y H Q m=>by
 obtain⟨F,d,e,z,n,id,p,hz,q⟩:=m;cases d with
 |int i =>
  cases e with
  |int j =>
   have hz:(if c i j then some (f i j) else none)=some z:=hz
   split at hz
   .rename_i a;cases hz;exact⟨i,j,jd.mp id,jd.mp p,b i j a,q _ F H (.refl n) (l i j F)⟩
   .exact J2 hz
  |_=>exact J2 hz
 |_=>exact J2 hz
def y7 (i:Int)(F:Hp):jf X.K F (.int i) (.int i):=jd.mpr rfl
def zH (b:Bool)(F:Hp):jf X.K F (.bl b) (.bl b):=jm.mpr rfl
def qA:=gI λi j=>.int (i-j)
def xW:Nat:=10715086071862673209484250490600018105614048117055336074437503883703510511249361224931983788156958581275946729175531468251871452856923140435984577574698574803934567774824230985421074605062371141877954182153046474983581941267398767559165543946077062914571196477686542167660429831652624386837205668069376
def Ky (i j:Int):Bool:=(Us i.natAbs 18446744073709551616||Us j.natAbs 18446744073709551616)||(Us i.natAbs xW&&Us j.natAbs xW)
def Gx (h:k.natAbs<xW):Builtin.Int.intBits k<=2 ^ 20:=by
 have e:xW<=2 ^ 1000:=Vx rfl;have a:k.natAbs<2 ^ 1000:=()
 unfold Builtin.Int.intBits
 split
 .exact Ub _
 .have l:k.natAbs.log2<1000:=by
   rcases VI k.natAbs with h0|hp
   .rw[h0];decide
   .exact(Nat.log2_lt (UZ hp)).mpr a
  lia
def P7 (h:Ky i j=true):IntMulOk i j:=by
 unfold Ky at h;rw[U0,U0,Uh,UF,UF,UF,UF] at h;rcases h with (h|h)|⟨h1,h2⟩
 .exact .of_left (intBits_le_64 () ())
 .exact .of_right (intBits_le_64 () ())
 .exact .of_bits (Gx h1) (Gx h2)
def P8:xg X (binaryOp .Mult) (rI (λi j=>Ky i j=true) λi j=>.int (i*j)):=kq λ_ _ _ _ _ _ _ a q=>mul_int q (P7 a)
def xU:=vL Ky λi j=>.int (i*j)
def YP:=vL (λ_ j=>Us 0 j.toNat&&Us j.toNat 1073741824) λi j=>.int (i / j)
def xQ:=vL (λ_ j=>Us 0 j.toNat) λi j=>.int (i % j)
def qT:=vL (λi j=>Nat.ble (-j).toNat 0&&(Nat.ble j.toNat 1000000&&Us i.natAbs 18446744073709551616)) λi j=>.int (i ^ j.toNat)
def hZ:=gI λi j=>.bl (decide (i<j))
def vM:=gI λi j=>.bl (decide (j<i))
def ng:=gI λi j=>.bl (decide (j<=i))
def Kc:yu X (binaryOp .Sub) qA:=AJ Nh λ_ _ F=>y7 _ F
def Xs:yu X (binaryOp .Mult) xU:=YO P8 (λi j h=>h) λ_ _ F=>y7 _ F
def CQ:yu X (binaryOp .FloorDiv) YP:=YO Ni (λi j h=>by simp_all [fR]) λ_ _ F=>y7 _ F
def KQ:yu X (binaryOp .Mod) xQ:=YO Nj () λ_ _ F=>y7 _ F
def KR:yu X (binaryOp .Pow) qT:=YO Nk (λi j h=>by simp_all [fQ]) λ_ _ F=>y7 _ F
def k8:yu X (compareOp .Lt) hZ:=AJ ki λ_ _ F=>zH _ F
def wR:yu X (compareOp .Gt) vM:=AJ kj λ_ _ F=>zH _ F
def mE:yu X (compareOp .GtE) ng:=AJ kl λ_ _ F=>zH _ F
def zu:D->YH
 | .int i=>some (.int (-i))
 |_=>none
def CS:wV X (unaryOp .USub) (m6 X.K zu):=wV.weak Nl λx H Q a=>by
 obtain⟨F,d,z,b,id,hz,q⟩:=a;cases d with
 |int i=>cases hz;exact⟨i,jd.mp id,q _ F H (.refl b) (y7 _ F)⟩
 |_=>exact J2 hz
def j8:D->D->YH
 | .int i,.int j=>some (.int (i+j))
 | .str x,.str y=>if x.length+y.length<=sizeLine then some (.str (x++y)) else none
 | .tup a,.tup b=>if a ≠ []/\b ≠ []/\a.length+b.length<=sizeLine then some (.tup (a++b)) else none
 | .lst a,.lst b=>if a.length+b.length<=sizeLine then some (.lst (a++b)) else none
 |_,_=>none
def uO (K:W.Frag):R2:=λx y H Q=>∃l b a c,x=.ref l/\y=.ref b/\xE K H l a/\xE K H b c/\a.length+c.length<=sizeLine/\∀p,H p=none->Q (.ref p) (j9 H p (.lst (a++c)))
def Gy:xg X (binaryOp .Add) (uO X.K):=by
 intro Y s Z H x y v u Q I f g h;obtain⟨l,b,w,z,rfl,rfl,i,j,hz,q⟩:=h;obtain rfl:=f;obtain rfl:=g;obtain⟨_,its,n,c,m⟩:=i.ok I.hok;obtain⟨_,a,A,e,o⟩:=j.ok I.hok;have p:=c.length;have r:=e.length;refine PySem.P.add_list m o ?_ ();have t:its.toArray++a.toArray=(its++a).toArray:=by simp
 rw[t];exact⟨.ref _,_,I.lnew (c.append e) (),rfl,q _ I.fresh⟩
def Qa:yu X (binaryOp .Add) j8:=by
 intro Y s Z H x y v u Q I m n ⟨F,d,e,z,c,id,o,hz,q⟩;cases d with
 |int i =>
  cases e with
  |int j=>cases hz;exact Ng Y s Z H x y v u Q I m n ⟨i,j,jd.mp id,jd.mp o,q _ F H (.refl c) (y7 _ F)⟩
  |_=>exact J2 hz
 |str a =>
  cases e with
  |str b =>
   have hz:(if a.length+b.length<=sizeLine then some (D.str (a++b)) else none)=some z:=hz
   split at hz
   .rename_i B;cases hz;exact No Y s Z H x y v u Q I m n ⟨a,b,jn.mp id,jn.mp o,B,q _ F H (.refl c) (jn.mpr rfl)⟩
   .exact J2 hz
  |_=>exact J2 hz
 |tup a =>
  cases e with
  |tup b =>
   have hz:(if a ≠ []/\b ≠ []/\a.length+b.length<=sizeLine then some (D.tup (a++b)) else none)=some z:=hz
   split at hz
   .obtain rfl:=Zqi hz;obtain⟨r,f,rfl,t,g⟩:=id;obtain⟨w,ys,rfl,A,h⟩:=o;have C:=g.length;have G:=h.length;have J:f ≠ []:=by grind
    have K:ys ≠ []:=by grind
    refine NJ Y s Z H _ _ v u Q I m n ⟨r,w,f,ys,rfl,rfl,(t.same c).sq,(A.same c).sq,J,(),λz=>Zn z K,λ_ p hp=>?_⟩;have l:=qD c hp (.tup (f++ys));exact q _ _ _ l (js.mpr ⟨p,_,rfl,.of JL,je.same l.ff _ _ (g.append h)⟩)
   .exact J2 hz
  |_=>exact J2 hz
 |lst a =>
  cases e with
  |lst b =>
   have hz:(if a.length+b.length<=sizeLine then some (D.lst (a++b)) else none)=some z:=hz
   split at hz
   .obtain rfl:=Zqi hz;obtain⟨r,f,rfl,t,g⟩:=id;obtain⟨w,ys,rfl,A,h⟩:=o;have C:=g.length;have G:=h.length;refine Gy Y s Z H _ _ v u Q I m n ⟨r,w,f,ys,rfl,rfl,t.same c,A.same c,(),λp hp=>?_⟩;have l:=qD c hp (.lst (f++ys));exact q _ _ _ l (jj.mpr ⟨p,_,rfl,.of JL,je.same l.ff _ _ (g.append h)⟩)
   .exact J2 hz
  |_=>exact J2 hz
 |_=>exact J2 hz
mutual
def xZ:D->PyData
 | .non=>.none
 | .bl b=>.bool b
 | .int i=>.int i
 | .str x=>.str x
 | .tup ds=>.tuple (KS ds)
 | .lst ds=>.list (KS ds)
 | .ty _=>.none
 | .scr _=>.none
 | .dct _ _=>.none
 | .ins _ _ _=>.none
 | .exc _=>.none
 | .ucl _=>.none
 | .adr _=>.none
 | .dcf _ _=>.none
 | .pin _ _=>.none
def KS:YG->List PyData
 | []=>[]
 |d::ds=>xZ d::KS ds
end
def qI:Nat->D->Bool
 | 0,_=>false
 |_+1,.int _=>true
 |_+1,.str x=>PyData.strOk x
 |_+1,.non=>true
 |n+1,.tup ds=>ds.all (qI n)
 |n+1,.lst ds=>ds.all (qI n)
 |_+1,_=>false
def Xt:∀(n:Nat) (d:D),qI n d=true->(xZ d).canLay0=true/\(xZ d).depth<=n:=λn=>by
 induction n with
 |zero=>intro _ h;exact J9 h
 |succ n a =>
  intro d h;have all:∀ds:YG,ds.all (qI n)=true->PyData.canLayAll0 (KS ds)=true/\PyData.depthAll (KS ds)<=n:=by
   intro ds
   induction ds with
   |nil=>intro _;exact⟨rfl,Ub _⟩
   |cons d ds b =>
    intro h;rw[U9,Uh] at h;obtain⟨c,e⟩:=a d h.1;obtain⟨f,g⟩:=b h.2;exact⟨Jt.mpr ⟨c,f⟩,Nat.max_le.mpr ⟨e,g⟩⟩
  cases d with
  |int i=>exact⟨rfl,Ub _⟩
  |str i=>exact⟨h,Ub _⟩
  |non=>exact⟨rfl,Ub _⟩
  |tup ds=>exact⟨(all ds h).1,Vt (all ds h).2⟩
  |lst ds=>exact⟨(all ds h).1,Vt (all ds h).2⟩
  |_=>exact J9 h
def D.ne {d e:D}(h:(d.ctorIdx == e.ctorIdx)=false):¬d=e:=λq=>by
 simp_all
def CT:∀(n:Nat) (d e:D),qI n d=true->qI n e=true->(PyData.eqv (xZ d) (xZ e)=true↔d=e):=λn=>by
 induction n with
 |zero=>intro _ _ h;exact J9 h
 |succ n a =>
  intro d e h h';have all:∀ds es:YG,ds.all (qI n)=true->es.all (qI n)=true->(PyData.eqvAll (KS ds) (KS es)=true↔ds=es):=by
   intro ds
   induction ds with
   |nil =>
    intro es _ _;cases es with
    |nil=>exact iff_of_true rfl rfl
    |cons e es=>exact Zs Zj ()
   |cons d ds b =>
    intro es c f;cases es with
    |nil=>exact Zs Zj ()
    |cons e es =>
     show(PyData.eqv (xZ d) (xZ e)&&PyData.eqvAll (KS ds) (KS es))=true↔_
     simp_all
  cases d with
  |int i =>
   cases e with
   |int j=>exact⟨λq=>Zt D.int (Ys.mp q),λq=>Ys.mpr (D.int.inj q)⟩
   |str _=>exact Zs Zj (D.ne rfl)
   |non=>exact Zs Zj (D.ne rfl)
   |tup _=>exact Zs Zj (D.ne rfl)
   |lst _=>exact Zs Zj (D.ne rfl)
   |_=>exact J9 h'
  |str i =>
   cases e with
   |str j=>exact⟨λq=>Zt D.str (of_decide_eq_true q),λq=>Zp (D.str.inj q)⟩
   |int _=>exact Zs Zj (D.ne rfl)
   |non=>exact Zs Zj (D.ne rfl)
   |tup _=>exact Zs Zj (D.ne rfl)
   |lst _=>exact Zs Zj (D.ne rfl)
   |_=>exact J9 h'
  |non =>
   cases e with
   |non=>exact iff_of_true rfl rfl
   |int _=>exact Zs Zj (D.ne rfl)
   |str _=>exact Zs Zj (D.ne rfl)
   |tup _=>exact Zs Zj (D.ne rfl)
   |lst _=>exact Zs Zj (D.ne rfl)
   |_=>exact J9 h'
  |tup ds =>
   cases e with
   |tup es=>exact(all ds es h h').trans ()
   |int _=>exact Zs Zj (D.ne rfl)
   |str _=>exact Zs Zj (D.ne rfl)
   |non=>exact Zs Zj (D.ne rfl)
   |lst _=>exact Zs Zj (D.ne rfl)
   |_=>exact J9 h'
  |lst ds =>
   cases e with
   |lst es=>exact(all ds es h h').trans ()
   |int _=>exact Zs Zj (D.ne rfl)
   |str _=>exact Zs Zj (D.ne rfl)
   |non=>exact Zs Zj (D.ne rfl)
   |tup _=>exact Zs Zj (D.ne rfl)
   |_=>exact J9 h'
  |_=>exact J9 h
theorem WN {P:Program}{w:World}{K:W.Frag}{H:Hp}{h:Heap}(ok:qR P w H h):∀(n:Nat) (d:D) (v:V) (u:Value),qI n d=true->jf K H d v->jq v u->∃g,Reads h u (xZ d) g
 | 0,_,_,_,p,_,_=>J9 p
 |n+1,d,v,u,p,q,r=>by
  have all:∀(ds:YG) (b:YE) (m:Yf),ds.all (qI n)=true->je K H ds b->jp b m->∃g,ReadsAll h m (KS ds) g:=by
   intro ds
   induction ds with
   |nil =>
    intro b m _ s f;subst s;cases f;exact⟨_,.nil⟩
   |cons d ds z =>
    intro b m hp s f;rw[U9,Uh] at hp;obtain⟨x,rs,rfl,j,A⟩:=s;cases f with
    |cons B C =>
     obtain⟨g,l⟩:=WN ok n d x _ hp.1 j B;obtain⟨bs,F⟩:=z rs _ hp.2 A C;exact⟨_,.cons l F⟩
  cases d with
  |int i =>
   subst q;obtain⟨t,rfl⟩:=(r);exact⟨_,.int i t⟩
  |str x =>
   subst q;obtain⟨t,rfl⟩:=(r);exact⟨_,.str x t⟩
  |non =>
   subst q;obtain rfl:=r;exact⟨_,.none⟩
  |tup ds =>
   obtain⟨a,b,rfl,f,j⟩:=q;obtain rfl:=r;obtain⟨_,its,y,o,e,c,G,I⟩:=(ok a _ f);obtain⟨g,l⟩:=all ds b its p j y;exact⟨_,.tuple e c I (by simpa using l)⟩
  |lst ds =>
   obtain⟨a,b,rfl,f,j⟩:=q;obtain rfl:=r;obtain⟨_,its,G,y,e⟩:=f.ok ok;obtain⟨g,l⟩:=all ds b its p j y;exact⟨_,.list e rfl rfl (by simpa using l)⟩
  |_=>exact J9 p
section
open Classical
def Qp (d e:D):Bool:=decide (d=e)
def AK (d:D):Qp d d=true:=Zp rfl
def bR:Qp d e=true↔d=e:=decide_eq_true_iff
def fV:Qp d e=false↔d≠e:=decide_eq_false_iff_not
def qU:D->D->YH
 | .bl a,.bl b=>some (.bl (a == b))
 |d,e=>if qI 12 d&&qI 12 e then some (.bl (Qp d e)) else none
def wS:D->D->YH
 | .bl a,.bl b=>some (.bl (a != b))
 |d,e=>if qI 12 d&&qI 12 e then some (.bl (!Qp d e)) else none
end
def CU (a:qI 12 d=true)(b:qI 12 e=true):qU d e=some (.bl (Qp d e)):=by
 unfold qU
 split
 .exact J9 a
 .rw[a,b];rfl
def P9 (a:qI 12 d=true)(b:qI 12 e=true):wS d e=some (.bl (!Qp d e)):=by
 unfold wS
 split
 .exact J9 a
 .rw[a,b];rfl
def PB (i j:Int):qU (.int i) (.int j)=some (.bl (decide (i=j))):=by
 rw[CU rfl rfl];by_cases h:i=j
 .simp_all [AK]
 .rw[Zo h,fV.mpr ()]
def PF (i j:Int):wS (.int i) (.int j)=some (.bl (!decide (i=j))):=by
 rw[P9 rfl rfl];by_cases h:i=j
 .simp_all [AK]
 .rw[Zo h,fV.mpr ()]
def xi (n:X.A.units+64<cLine):yu X (compareOp .Eq) qU:=by
 intro Y s Z H x y v u Q I g h ⟨F,d,e,z,c,id,f,hz,q⟩;unfold qU at hz
 split at hz
 .rename_i a b;obtain rfl:=Zqi hz;refine km Y s Z H x y v u Q I g h ⟨?_,?_⟩
  .rw[jm.mp id,jm.mp f];rfl
  .rw[jm.mp id,jm.mp f];refine q _ F H (.refl c) ?_;cases a<;>cases b<;>rfl
 .split at hz
  .rename_i hp;rw[Uh] at hp;obtain rfl:=Zqi hz;obtain⟨o,i⟩:=WN I.hok 12 d x v hp.1 (jf.same c _ _ id) g;obtain⟨bs,j⟩:=WN I.hok 12 e y u hp.2 (jf.same c _ _ f) h;obtain⟨l,p⟩:=Xt 12 d hp.1;obtain⟨m,r⟩:=Xt 12 e hp.2;refine PySem.SeqAt.compareEq_reads i j l m () ?_;rw[(Vc.mpr ((CT 12 d e hp.1 hp.2).trans bR.symm))];exact⟨.bl _,H,I,rfl,q _ F H (.refl c) (zH _ F)⟩
  .exact J2 hz
def k7 (n:X.A.units+64<cLine):yu X (compareOp .NotEq) wS:=by
 intro Y s Z H x y v u Q I g h ⟨F,d,e,z,c,id,f,hz,q⟩;unfold wS at hz
 split at hz
 .rename_i a b;obtain rfl:=Zqi hz;refine kh Y s Z H x y v u Q I g h ⟨?_,?_⟩
  .rw[jm.mp id,jm.mp f];rfl
  .rw[jm.mp id,jm.mp f];refine q _ F H (.refl c) ?_;cases a<;>cases b<;>rfl
 .split at hz
  .rename_i hp;rw[Uh] at hp;obtain rfl:=Zqi hz;obtain⟨o,i⟩:=WN I.hok 12 d x v hp.1 (jf.same c _ _ id) g;obtain⟨bs,j⟩:=WN I.hok 12 e y u hp.2 (jf.same c _ _ f) h;obtain⟨l,p⟩:=Xt 12 d hp.1;obtain⟨m,r⟩:=Xt 12 e hp.2;refine PySem.SeqAt.compareNe_reads i j l m () ?_;rw[(Vc.mpr ((CT 12 d e hp.1 hp.2).trans bR.symm))];exact⟨.bl _,H,I,rfl,q _ F H (.refl c) (zH _ F)⟩
  .exact J2 hz
end
def PE.or (h:PE X e t)(h':PE X e t'):PE X e (λZ H Q=>t Z H Q\/t' Z H Q):=λY s Z H Q I q=>q.elim (h Y s Z H Q I) (h' Y s Z H Q I)
def PT.or (h:PT X e t)(h':PT X e t'):PT X e (λZ H Q=>t Z H Q\/t' Z H Q):=λY s Z H Q I q=>q.elim (h Y s Z H Q I) (h' Y s Z H Q I)
def Q2:D->Option j0
 | .int i=>some (.inl i)
 | .str x=>some (.inr x)
 |_=>none
def WO {K:W.Frag}{H:Hp}{d:D}{k:j0}{v:V}(h:Q2 d=some k)(i:jf K H d v):v=kV k:=by
 cases d with
 |int j=>cases h;exact jd.mp i
 |str x=>cases h;exact jn.mp i
 |_=>exact J2 h
def jE:List j0->YG->j0->YH
 |k::ks,d::ds,q=>if k=q then some d else jE ks ds q
 |_,_,_=>none
theorem PH (k q:j0)(v:V)(r:List (j0×V)):qw ((k,v)::r) q=if k=q then some v else qw r q:=by
 grind[qw,List.find?_cons]
theorem CV:jE (k::ks) (d::ds) q=if k=q then some d else jE ks ds q:=rfl
theorem Xu {K:W.Frag}{H:Hp}(q:j0):∀{ks:List j0} {ds:YG} {a:YE},ks.length=a.length->je K H ds a ->
 (∀d,jE ks ds q=some d->∃x,qw (ks.zip a) q=some x/\jf K H d x)/\(jE ks ds q=none->qw (ks.zip a) q=none)
 | [],ds,a,hl,h=>by
  refine⟨λd e=>?_,λ_=>rfl⟩;cases ds<;>exact J2 e
 |k::ks,[],a,hl,h=>by
  simp_all [je.nil_iff]
 |k::ks,d::ds,a,hl,h=>by
  obtain⟨x,r,rfl,c,b⟩:=h;have f:=Xu q (UJ hl) b
  grind[List.zip_cons_cons,PH,CV]
def zz:List j0->YG->j0->D->YG
 |k::ks,d::ds,q,v=>(if k=q then v else d)::zz ks ds q v
 |_,_,_,_=>[]
def zy:List j0->YE->j0->V->YE
 |k::ks,d::ds,q,v=>(if k=q then v else d)::zy ks ds q v
 |_,_,_,_=>[]
def Gz:zz (k::ks) (d::ds) q v=(if k=q then v else d)::zz ks ds q v:=rfl
def PJ:zy (k::ks) (d::ds) q v=(if k=q then v else d)::zy ks ds q v:=rfl
theorem G0 {K:W.Frag}{H:Hp}{q:j0}{d:D}{v:V}(e:jf K H d v):∀{ks:List j0} {ds:YG} {a:YE},ks.length=a.length->je K H ds a->je K H (zz ks ds q d) (zy ks a q v)/\(zy ks a q v).length=ks.length /\
 (ks.zip a).map (λc=>if c.1=q then(c.1,v) else c)=ks.zip (zy ks a q v)
 | [],ds,a,hl,h=>by
  refine⟨?_,rfl,rfl⟩;cases ds<;>exact .nil
 |k::ks,[],a,hl,h=>by
  simp_all [je.nil_iff]
 |k::ks,d'::ds,a,hl,h=>by
  obtain⟨x,r,rfl,j,f⟩:=h;obtain⟨g,i,l⟩:=G0 e (UJ hl) f;rw[Gz,PJ];refine⟨je.mk ?_ g,by rw[Zu,i];rfl,?_⟩
  .by_cases b:k=q
   .rwa [Zd b,Zd b]
   .rwa [Ze b,Ze b]
  grind[List.zip_cons_cons,List.map_cons]
def yO (q:j0)(ks:List j0):Bool:=ks.any λk=>decide (k=q)
theorem G1 (q:j0):∀{ks:List j0} {a:YE},ks.length=a.length->((ks.zip a).any λb=>decide (b.1=q))=yO q ks
 | [],a,_=>rfl
 |k::ks,[],h=>by cases h
 |k::ks,x::a,h=>by
  rw[Vd,List.any_cons,G1 q (UJ h)];rfl
def VY (ks:List j0)(q:j0):List j0:=if yO q ks=true then ks else ks++[q]
def Wu (ks:List j0)(ds:YG)(q:j0)(v:D):YG:=if yO q ks=true then zz ks ds q v else ds++[v]
def G2 {K:W.Frag}{H:Hp}{q:j0}{d:D}{v:V}{ks:List j0}{ds:YG}{b:YE}(c:ks.length=b.length)(h:je K H ds b)(e:jf K H d v):
 ∃ys,qy (ks.zip b) q v=(VY ks q).zip ys/\(VY ks q).length=ys.length/\je K H (Wu ks ds q d) ys:=by
 unfold qy VY Wu;rw[G1 q c];by_cases a:yO q ks=true
 .rw[Zd a,Zd a,Zd a];obtain⟨f,g,i⟩:=G0 (q:=q) e c h;exact⟨_,i,g.symm,f⟩
 .rw[Ze a,Ze a,Ze a];exact⟨b++[v],by rw[List.zip_append c];rfl,by simp[c],h.snoc e⟩
section
variable {X:Cx}{E:XK}{m:Option Bool}{a b o i e:Expr}{fa fb fo fi fv:FE}{pos pos' apos cpos:Pos}
def YQ {K:W.Frag}{H:Hp}{ds:YG}{c:YE}{k:Int}{d:D}(h:je K H ds c)(e:qQ ds k=some d):∃x,qQ c k=some x/\jf K H d x:=by
 unfold qQ at e ⊢;rw[h.length];cases f:yf ds.length k with
 |none=>rw[f] at e;exact J2 e
 |some j =>
  rw[f] at e;exact h.get e
def qf:D->D->YH
 | .lst ds,.int k=>qQ ds k
 | .tup ds,.int k=>qQ ds k
 | .scr ns,.int k=>(qQ ns k).map .int
 | .str x,.int k=>if x.length<=sizeLine then(qQ x.cps.toList k).map λc=>.str ⟨#[c]⟩ else none
 | .dct ks ds,k=>(Q2 k).bind λq=>jE ks ds q
 | .dcf ks ds,k=>(Q2 k).bind λq=>jE ks ds q
 |_,_=>none
def G3 {K:W.Frag}{H:Hp}{d:D}{ks:List j0}{ds:YG}{v:V}(l:d=.dct ks ds\/d=.dcf ks ds)(h:jf K H d v):∃a c,v=.ref a/\Rd H a (.dK (ks.zip c))/\ks.length=c.length/\je K H ds c:=by
 rcases l with rfl|rfl
 .obtain⟨a,c,f,g,j⟩:=jO.mp h;exact⟨a,c,f,.inl g,j⟩
 .obtain⟨a,o,c,f,g,j⟩:=qr.mp h;exact⟨a,c,f,.inr ⟨o,g⟩,j⟩
def CW {H c:Hp}{a:Addr}{u:HO}(e:jk H c)(h:Rd H a u):Rd c a u:=h.imp (λq=>e _ _ q) λ⟨o,q⟩=>⟨o,e _ _ q⟩
def CY {H:Hp}{a:Addr}{c:List (j0×V)}{k:j0}(e:Rd H a (.dK c)):xF H a (kV k) (qw c k):=.inl ⟨c,k,e,rfl,rfl⟩
def G4:yY X (vo X.K λd e=>match d with
 | .dct _ _=>none
 | .dcf _ _=>none
 |d=>qf d e):=yY.weak NL λx y H Q ⟨F,d,e,z,f,id,l,hz,q⟩=>by
 cases d with
 |lst ds =>
  cases e with
  |int k =>
   obtain⟨p,n,rfl,g,r⟩:=id;obtain⟨x,h,s⟩:=YQ r (hz);exact .inl ⟨p,n,k,x,rfl,jd.mp l,(g.same f).sq,h,q _ F H (.refl f) s⟩
  |_=>exact J2 hz
 |tup ds =>
  cases e with
  |int k =>
   obtain⟨p,n,rfl,g,r⟩:=id;obtain⟨x,h,s⟩:=YQ r (hz);exact .inr (.inl ⟨p,n,k,x,rfl,jd.mp l,(g.same f).sq,h,q _ F H (.refl f) s⟩)
  |_=>exact J2 hz
 |scr ns =>
  cases e with
  |int k =>
   obtain⟨p,rfl,g⟩:=id;obtain⟨j,u,hz⟩:=Jk.mp (hz);subst hz;refine .inl ⟨p,_,k,.int j,rfl,jd.mp l,jk.seq f g,?_,q _ F H (.refl f) (y7 _ F)⟩;unfold qQ at u ⊢;cases h:yf ns.length k with
   |none=>rw[h] at u;exact J2 u
   |some i=>simp_all
  |_=>exact J2 hz
 |str t =>
  cases e with
  |int k =>
   have hz:(if t.length<=sizeLine then(qQ t.cps.toList k).map λc=>D.str ⟨#[c]⟩ else none)=some z:=hz
   split at hz
   .rename_i w;cases v:qQ t.cps.toList k with
    |none=>rw[v] at hz;exact J2 hz
    |some c =>
     rw[v] at hz;obtain rfl:=Zqi hz;exact .inr (.inr ⟨t,k,c,jn.mp id,jd.mp l,w,v,q _ F H (.refl f) (jn.mpr rfl)⟩)
   .exact J2 hz
  |_=>exact J2 hz
 |_=>exact J2 hz
def QK (C:X.A.units+1<cLine)(t:QE X E a fa)(u:QE X E b fb)(hs:Xf b)(j:wl b):QE X E (.Subscript a b pos) (jo qf fa fb):=
 PE.weak (PE.or (Cj C t u j) (XP (G4) t u hs)) λZ H Q h=>by
  obtain⟨B,F,sd,r,n⟩:=h;by_cases l:∃d ks ds,fa sd=.ok d/\(d=.dct ks ds\/d=.dcf ks ds)
  .obtain⟨d,ks,ds,l,A⟩:=l;refine .inl ⟨B,F,sd,r,(ja n).monoE (λx f G v I T g J=>?_) λ_ _ q=>q⟩;rw[l] at f;cases f;refine⟨B,I,sd,r.step g,(ja G).mono (λy K w L M s N=>?_) λ_ _ q=>q.ext g⟩;obtain⟨z,hz,q⟩:=jg K;obtain⟨k,O,hz⟩:=Jg.mp (show(Q2 y).bind (λq=>jE ks ds q)=some z by rcases A with rfl|rfl<;>exact hz);obtain⟨p,U,rfl,P,R,S⟩:=G3 A J;obtain⟨x,f,ix⟩:=(Xu k R S).1 z hz;refine⟨p,x,rfl,?_,q x L M (g.trans s) (jf.same s.ff _ _ ix)⟩;rw[WO O N,<- f];exact CY (CW s.hh (CW g.fh P))
  .refine .inr (Y9 ⟨B,F,sd,r,?_⟩);unfold jo at n ⊢;cases f:fa sd with
   |ok d =>
    simp_all
   |no=>rwa [f] at n
   |ex c fs=>rwa [f] at n
def wA (c:Bool):D->D->YH
 |k,.dct ks ds=>(Q2 k).map λq=>.bl (if c then !(jE ks ds q).isSome else(jE ks ds q).isSome)
 |k,.dcf ks ds=>(Q2 k).map λq=>.bl (if c then !(jE ks ds q).isSome else(jE ks ds q).isSome)
 |d,.lst ds=>if qI 12 d&&ds.all (qI 12) then some (.bl (if c then !ds.any (λe=>Qp e d) else ds.any λe=>Qp e d)) else none
 |d,.tup ds=>if qI 12 d&&ds.all (qI 12) then some (.bl (if c then !ds.any (λe=>Qp e d) else ds.any λe=>Qp e d)) else none
 |_,_=>none
theorem G8 {K:W.Frag}{H:Hp}:∀(n:Nat) (d e:D) (v:V),qI n d=true->qI n e=true->jf K H d v->jf K H e v->d=e
 | 0,_,_,_,h,_,_,_=>by exact J9 h
 |n+1,d,e,v,hd,he,f,c=>by
  have all:∀(ds es:YG) (g:YE),ds.all (qI n)=true->es.all (qI n)=true->je K H ds g->je K H es g->ds=es:=by
   intro ds
   induction ds with
   |nil =>
    intro es g _ _ f c;rw[je.nil_iff] at f;subst f;have:=c.length
    grind
   |cons d ds A =>
    intro es g w y f c;rw[U9,Uh] at w;rw[jr] at f;obtain⟨x,r,rfl,B,C⟩:=f;cases es with
    |nil=>rw[je.nil_iff] at c;cases c
    |cons e es =>
     rw[U9,Uh] at y;rw[jr] at c;obtain⟨J,L,t,F,G⟩:=c;cases t;rw[G8 n d e x w.1 y.1 B F,A es r w.2 y.2 C G]
  have ne:∀{a:Addr} {g ys:YE},yk K H a g->xE K H a ys->False:=λ{a g ys} p l=>by
   rcases l with l|⟨o,l⟩
   .rw[p] at l;cases l
   .rw[p] at l;cases l
  cases d with
  |int i =>
   rw[jd] at f;subst f;cases e with
   |int j=>rw[jd] at c;cases c;rfl
   |str j=>rw[jn] at c;cases c
   |non=>rw[jB] at c;cases c
   |tup es=>grind[js]
   |lst es=>grind[jj]
   |_=>exact J9 he
  |str i =>
   rw[jn] at f;subst f;cases e with
   |int j=>rw[jd] at c;cases c
   |str j=>rw[jn] at c;cases c;rfl
   |non=>rw[jB] at c;cases c
   |tup es=>simp_all [js]
   |lst es=>simp_all [jj]
   |_=>exact J9 he
  |non =>
   rw[jB] at f;subst f;cases e with
   |int j=>rw[jd] at c;cases c
   |str j=>rw[jn] at c;cases c
   |non=>rfl
   |tup es=>grind[js]
   |lst es=>grind[jj]
   |_=>exact J9 he
  |tup ds =>
   rw[js] at f;obtain⟨a,g,rfl,p,l⟩:=f;cases e with
   |int j=>rw[jd] at c;cases c
   |str j=>rw[jn] at c;cases c
   |non=>rw[jB] at c;cases c
   |tup es =>
    rw[js] at c;obtain⟨I,q,t,s,z⟩:=c;cases t;have u:H a=some (.tup g):=p;rw[show H a=some (.tup q) from s] at u;cases u;rw[all ds es _ hd he l z]
   |lst es =>
    grind[jj]
   |_=>exact J9 he
  |lst ds =>
   rw[jj] at f;obtain⟨a,g,rfl,p,l⟩:=f;cases e with
   |int j=>rw[jd] at c;cases c
   |str j=>rw[jn] at c;cases c
   |non=>cases c
   |tup es =>
    grind[js]
   |lst es =>
    rw[jj] at c;obtain⟨I,q,t,s,z⟩:=c;cases t;have:g=q:=by
     rcases p with p|⟨_,p⟩<;>rcases s with s|⟨_,s⟩<;>rw[p] at s<;>cases s<;>rfl
    subst this;rw[all ds es _ hd he l z]
   |_=>exact J9 he
  |_=>exact J9 hd
def fG (K:W.Frag)(H:Hp)(d:D)(u:Value):Prop:=∃v,jq v u/\jf K H d v
def xB (K:W.Frag)(H:Hp)(d:D)(u:Value):Bool:=@decide (fG K H d u) (Classical.propDecidable _)
def PK {K:W.Frag}{H:Hp}{d e:D}{v:V}{u:Value}(c:qI 12 d=true)(f:qI 12 e=true)(h:jf K H e v)(r:jq v u):xB K H d u=Qp e d:=by
 by_cases q:e=d
 .rw[q,AK];exact @decide_eq_true _ (Classical.propDecidable _) ⟨v,r,q ▸ h⟩
 .rw[fV.mpr q];refine @decide_eq_false _ (Classical.propDecidable _) λ⟨j,g,h'⟩=>q ?_;rw[g.inj r] at h';exact G8 12 e d v f c h h'
def G9 {P:Program}{w:World}{K:W.Frag}{A:Around}{s:Shared}{H:Hp}(C:A.units+60<cLine)(ok:qR P w H s.heap){d:D}{x:V}{v:Value}(hp:qI 12 d=true)(p:jf K H d x)(q:jq x v):
 ∀{ds:YG} {g:YE} {f:Yf},ds.all (qI 12)=true->je K H ds g->jp g f->f.map (xB K H d)=ds.map (λe=>Qp e d)/\∀u∈f,SeqAt.EqAt A s u v (xB K H d u):=by
 intro ds
 induction ds with
 |nil =>
  intro g f _ h j;subst h;cases j;simp
 |cons e ds r =>
  intro g f c h j;rw[U9,Uh] at c;obtain⟨y,rs,rfl,l,t⟩:=h;cases j with
  |cons n z =>
   obtain⟨F,B⟩:=r c.2 t z;obtain⟨G,I⟩:=WN ok 12 e y _ c.1 l n;obtain⟨J,L⟩:=WN ok 12 d x v hp p q;obtain⟨M,N⟩:=Xt 12 e c.1;obtain⟨O,Q⟩:=Xt 12 d hp;have es:=PK hp c.1 l n;refine⟨(),λu hm=>?_⟩;rcases UV.mp hm with hm|hm
   .subst hm;rw[es,<- (Vc.mpr ((CT 12 e d c.1 hp).trans bR.symm):PyData.eqv (xZ e) (xZ d)=Qp e d)]
    grind[SeqAt.eqAt_reads]
   .exact B u hm
def AL {α: Type}{f:α -> Bool}{l:List α}:l.any f=(l.map f).any id:=by rw[List.any_map];rfl
def PL (C:X.A.units+64<cLine)(c:Bool):xg X (compareOp (if c then .NotIn else .In)) (vo X.K λd e=>match e with
 | .dct _ _=>none
 | .dcf _ _=>none
 |e=>wA c d e):=by
 intro Y s Z H x y v u Q I r t ⟨F,d,e,z,f,id,h,hz,q⟩;have id':=jf.same f _ _ id;cases e with
 |lst ds =>
  have hz:(if qI 12 d&&ds.all (qI 12) then some (D.bl (if c then !ds.any (λe=>Qp e d) else ds.any λe=>Qp e d)) else none)=some z:=hz
  split at hz
  .rename_i hp;rw[Uh] at hp;obtain rfl:=Zqi hz;rw[jj] at h;obtain⟨p,w,rfl,j,l⟩:=h;obtain rfl:u=Value.ref p:=t;obtain⟨its,n,pl,B⟩:=I.list (j.same f).sq;obtain⟨k1,k2⟩:=G9 (A:=X.A.in1) (by show X.A.units+1+60<cLine;lia) I.hok hp.1 id' r hp.2 (je.same f _ _ l) n;have g:its.toArray.any (xB X.K H d)=ds.any (λe=>Qp e d):=by
    rw[show its.toArray.any (xB X.K H d)=its.any (xB X.K H d) by simp,AL,k1,<- AL]
   cases c with
   |true =>
    refine SeqAt.notIn_listAt (xB X.K H d) pl.isList () ⟨.bl _,H,I,rfl,?_⟩;rw[g];exact q _ F H (.refl f) (zH _ F)
   |false =>
    refine SeqAt.in_listAt (xB X.K H d) pl.isList () ⟨.bl _,H,I,rfl,?_⟩;rw[g];exact q _ F H (.refl f) (zH _ F)
  .exact J2 hz
 |tup ds =>
  have hz:(if qI 12 d&&ds.all (qI 12) then some (D.bl (if c then !ds.any (λe=>Qp e d) else ds.any λe=>Qp e d)) else none)=some z:=hz
  split at hz
  .rename_i hp;rw[Uh] at hp;obtain rfl:=Zqi hz;rw[js] at h;obtain⟨p,w,rfl,j,l⟩:=h;obtain rfl:u=Value.ref p:=t;obtain⟨its,n,pl,B⟩:=I.tuple (j.same f).sq;obtain⟨k1,k2⟩:=G9 (A:=X.A.in1) (by show X.A.units+1+60<cLine;lia) I.hok hp.1 id' r hp.2 (je.same f _ _ l) n;have g:its.toArray.any (xB X.K H d)=ds.any (λe=>Qp e d):=by
    rw[show its.toArray.any (xB X.K H d)=its.any (xB X.K H d) by simp,AL,k1,<- AL]
   cases c with
   |true =>
    refine SeqAt.notIn_tupleAt (xB X.K H d) pl () ⟨.bl _,H,I,rfl,?_⟩;rw[g];exact q _ F H (.refl f) (zH _ F)
   |false =>
    refine SeqAt.in_tupleAt (xB X.K H d) pl () ⟨.bl _,H,I,rfl,?_⟩;rw[g];exact q _ F H (.refl f) (zH _ F)
  .exact J2 hz
 |_=>exact J2 hz
def uw {K:W.Frag}{f:Bool}{Z: St}{H:Hp}{Q:VK}(h:tD K E (jo (wA f) fa fb) Z H Q):
 (λZ H Q=>tD K E fa Z H λy u=>tD K E fb Z u λx s=>∃a o,x=.ref a/\xF s a y o/\Q (.bl (if f then !o.isSome else o.isSome)) s) Z H Q\/vm (vo K λd e=>match e with
 | .dct _ _=>none
 | .dcf _ _=>none
 |e=>wA f d e) (tD K E fa) (tD K E fb) Z H Q:=by
 obtain⟨B,F,sd,r,n⟩:=h;by_cases j:∃d ks ds,fb sd=.ok d/\(d=.dct ks ds\/d=.dcf ks ds)
 .obtain⟨d,ks,ds,j,A⟩:=j;refine .inl ⟨B,F,sd,r,(ja n).mono (λx J v L u t M=>?_) λ_ _ q=>q⟩;refine⟨B,L,sd,r.step t,(ja J).monoE (λy g N w O s C P=>?_) λ_ _ q=>q.ext t⟩;rw[j] at g;cases g;obtain⟨z,hz,q⟩:=jg N;obtain⟨k,R,hz⟩:=Jk.mp (show(Q2 x).map (λq=>D.bl (if f then !(jE ks ds q).isSome else(jE ks ds q).isSome))=some z by rcases A with rfl|rfl<;>exact hz);subst hz;obtain⟨p,G,rfl,S,T,U⟩:=G3 A P;obtain⟨Y,g2⟩:=Xu k T U;refine⟨p,qw (ks.zip G) k,rfl,?_,?_⟩
  .rw[WO R M];exact CY (CW C.fh S)
  .have es:(qw (ks.zip G) k).isSome=(jE ks ds k).isSome:=by
    cases I:jE ks ds k with
    |none=>rw[g2 I];rfl
    |some d=>obtain⟨x,l,_⟩:=Y d I;rw[l];rfl
   rw[es];exact q _ O s (t.trans C) (jm.mpr rfl)
 .refine .inr (Y9 ⟨B,F,sd,r,?_⟩);unfold jo at n ⊢;cases l:fa sd with
  |ok d =>
   rw[l] at n;cases g:fb sd with
   |ok e =>
    rw[g] at n;cases e with
    |dct ks ds=>exact Zn ⟨_,ks,ds,g,.inl rfl⟩ j
    |dcf ks ds=>exact Zn ⟨_,ks,ds,g,.inr rfl⟩ j
    |_=>exact n
   |no=>rw[g] at n;exact n
   |ex c fs=>rw[g] at n;exact n
  |no=>rw[l] at n;exact n
  |ex c fs=>rw[l] at n;exact n
def CZ (j:X.A.units+64<cLine)(c:QE X E a fa)(f:QE X E b fb)(g:behindInMarks .NotIn b=false:=by rfl):QT X E (.Compare a [.NotIn] [b] pos) (JF (jo (wA true) fa fb)):=
 PT.weak (PT.or (BQ (Oa () c f) g) (BW (PL j true) c f g)) λZ H Q h=>uw (WK h)
end
section
variable {X:Cx}{E:XK}{m:Option Bool}{a b o i e f tg:Expr}{fa fb fo fi fv:FE}{fr:FA}{pos pos' apos cpos p:Pos}
def Q3 {K:W.Frag}{H:Hp}{d:D}{c:YE}(h:je K H [d] c):∃v,c=[v]/\jf K H d v:=by
 simp_all [jr,je.nil_iff]
def Da {K:W.Frag}{H:Hp}{d e:D}{c:YE}(h:je K H [d,e] c):∃v w,c=[v,w]/\jf K H d v/\jf K H e w:=by
 rw[jr] at h;obtain⟨v,r,rfl,g,j⟩:=h;obtain⟨w,rfl,l⟩:=Q3 j;exact⟨v,w,rfl,g,l⟩
def qs:YG->YH
 | [.lst ds]=>some (.int ds.length)
 | [.tup ds]=>some (.int ds.length)
 | [.dct ks _]=>some (.int ks.length)
 | [.scr ns]=>some (.int ns.length)
 | [.str x]=>if x.length<=sizeLine then some (.int x.length) else none
 |_=>none
def nX (ds:YG)(z:D):Prop:=(∃es,ds=[.lst es]/\z=.int es.length)\/(∃es,ds=[.tup es]/\z=.int es.length)\/(∃ks es,ds=[.dct ks es]/\z=.int ks.length)\/(∃ns,ds=[.scr ns]/\z=.int ns.length)\/∃x,x.length<=sizeLine/\ds=[.str x]/\z=.int x.length
def PM (hz:qs ds=some z):nX ds z:=by
 cases ds with
 |nil=>exact J2 hz
 |cons d ds =>
  cases ds with
  |nil =>
   cases d with
   |lst ds=>exact .inl ⟨_,rfl,(Zqi hz).symm⟩
   |tup ds=>exact .inr (.inl ⟨_,rfl,(Zqi hz).symm⟩)
   |dct ks ds=>exact .inr (.inr (.inl ⟨_,_,rfl,(Zqi hz).symm⟩))
   |scr ns=>exact .inr (.inr (.inr (.inl ⟨_,rfl,(Zqi hz).symm⟩)))
   |str x=>exact let q:=CG hz;.inr (.inr (.inr (.inr ⟨_,q.1,rfl,q.2.symm⟩)))
   |_=>exact J2 hz
  |cons e ds=>cases d<;>exact J2 hz
def KU:jS X (.builtin "len") (zU X.K qs):=jS.weak (jS.or NN (jS.or Oq NO)) λr H Q l=>by
 obtain⟨F,ds,z,c,id,hz,q⟩:=l;rcases PM hz with ⟨es,rfl,rfl⟩|⟨es,rfl,rfl⟩|⟨ks,es,rfl,rfl⟩|⟨ns,rfl,rfl⟩|⟨x,n,rfl,rfl⟩
 .obtain⟨v,rfl,h⟩:=Q3 id;obtain⟨a,ys,rfl,g,j⟩:=h;rw[<- j.length] at q;exact .inl ⟨a,ys,rfl,.inl (g.same c).sq,q _ F H (.refl c) (y7 _ F)⟩
 .obtain⟨v,rfl,h⟩:=Q3 id;obtain⟨a,ys,rfl,g,j⟩:=h;rw[<- j.length] at q;exact .inl ⟨a,ys,rfl,.inr (g.same c).sq,q _ F H (.refl c) (y7 _ F)⟩
 .obtain⟨v,rfl,h⟩:=Q3 id;obtain⟨a,ys,rfl,g,j,s⟩:=h;refine .inr (.inl ⟨a,_,rfl,c _ _ g,?_⟩);rw[List.length_zip,<- j,Nat.min_self];exact q _ F H (.refl c) (y7 _ F)
 .obtain⟨v,rfl,h⟩:=Q3 id;obtain⟨a,rfl,g⟩:=h;refine .inl ⟨a,_,rfl,.inl (jk.seq c g),?_⟩;rw[Zql];exact q _ F H (.refl c) (y7 _ F)
 .obtain⟨v,rfl,h⟩:=Q3 id;subst h;exact .inr (.inr ⟨_,rfl,n,q _ F H (.refl c) (y7 _ F)⟩)
def YR:YG->YH
 | [.int i,.int j]=>some (.int (if j > i then j else i))
 |_=>none
def AM:YG->YH
 | [.int i,.int j]=>some (.int (if j<i then j else i))
 |_=>none
def GA (ds:YG):Prop:=∃i j,ds=[.int i,.int j]
def PN (hz:YR ds=some z):GA ds:=by
 cases ds with
 |nil=>exact J2 hz
 |cons d ds =>
  cases ds with
  |nil=>cases d<;>exact J2 hz
  |cons e ds =>
   cases d with
   |int i =>
    cases e with
    |int j =>
     cases ds with
     |nil=>exact⟨_,_,rfl⟩
     |cons _ _=>exact J2 hz
    |_=>exact J2 hz
   |_=>exact J2 hz
def PP (hz:AM ds=some z):GA ds:=by
 cases ds with
 |nil=>exact J2 hz
 |cons d ds =>
  cases ds with
  |nil=>cases d<;>exact J2 hz
  |cons e ds =>
   cases d with
   |int i =>
    cases e with
    |int j =>
     cases ds with
     |nil=>exact⟨_,_,rfl⟩
     |cons _ _=>exact J2 hz
    |_=>exact J2 hz
   |_=>exact J2 hz
def GB (c:X.calm=true):jS X (.builtin "max") (zU X.K YR):=jS.weak (Np c) λr H Q g=>by
 obtain⟨F,ds,z,h,id,hz,q⟩:=g;obtain⟨i,j,rfl⟩:=PN hz;obtain rfl:=Zqi hz;obtain⟨v,w,rfl,l,n⟩:=Da id;exact⟨_,_,by rw[jd.mp l,jd.mp n],q _ F H (.refl h) (y7 _ F)⟩
def PQ (c:X.calm=true):jS X (.builtin "min") (zU X.K AM):=jS.weak (Nq c) λr H Q g=>by
 obtain⟨F,ds,z,h,id,hz,q⟩:=g;obtain⟨i,j,rfl⟩:=PP hz;obtain rfl:=Zqi hz;obtain⟨v,w,rfl,l,n⟩:=Da id;exact⟨_,_,by rw[jd.mp l,jd.mp n],q _ F H (.refl h) (y7 _ F)⟩
def Xv:D->Option Yh
 | .lst ds=>Q1 YN ds
 |_=>none
def Db {K:W.Frag}{H:Hp}{d:D}{ns:Yh}{v:V}(h:Xv d=some ns)(i:jf K H d v):∃a,v=.ref a/\xE K H a (ns.map V.int):=by
 cases d with
 |lst ds =>
  obtain⟨a,j,rfl,c,g⟩:=i;rw[P5 (h)] at g;rw[qu g] at c;exact⟨a,rfl,c⟩
 |_=>exact J2 h
def Dc (ns:Yh):Xv (.lst (ns.map D.int))=some ns:=P6 ns
def VZ:YG->YH
 | [d]=>(Xv d).bind λns=>if ns=[] then none else some (.int (jW ns))
 |_=>none
def Wa:YG->YH
 | [d]=>(Xv d).bind λns=>if ns=[] then none else some (.int (q0 ns))
 |_=>none
def Dd (g:X.calm=true):jS X (.builtin "max") (zU X.K VZ):=jS.weak (O2 g) λs H Q j=>by
 obtain⟨F,ds,z,c,id,hz,q⟩:=j;unfold VZ at hz
 split at hz
 .obtain⟨ns,l,hz⟩:=Jg.mp hz
  split at hz
  .exact J2 hz
  .rename_i n;obtain rfl:=Zqi hz;obtain⟨v,rfl,h⟩:=Q3 id;obtain⟨a,rfl,r⟩:=Db l h;exact⟨a,ns,rfl,(r.same c).sq,n,q _ F H (.refl c) (y7 _ F)⟩
 .exact J2 hz
def De (g:X.calm=true):jS X (.builtin "min") (zU X.K Wa):=jS.weak (O3 g) λs H Q j=>by
 obtain⟨F,ds,z,c,id,hz,q⟩:=j;unfold Wa at hz
 split at hz
 .obtain⟨ns,l,hz⟩:=Jg.mp hz
  split at hz
  .exact J2 hz
  .rename_i n;obtain rfl:=Zqi hz;obtain⟨v,rfl,h⟩:=Q3 id;obtain⟨a,rfl,r⟩:=Db l h;exact⟨a,ns,rfl,(r.same c).sq,n,q _ F H (.refl c) (y7 _ F)⟩
 .exact J2 hz
def bW:D->Option String
 | .non=>some "NoneType"
 | .bl _=>some "bool"
 | .int _=>some "int"
 | .str _=>some "str"
 | .lst _=>some "list"
 | .tup _=>some "tuple"
 | .dct _ _=>some "dict"
 |_=>none
def vz (t n:String):Bool:=(t == n)||(t == "bool" && n == "int")
def AN (t n:String):Bool:=["NoneType", "bool", "int", "str", "list", "tuple", "dict"].contains t&&["bool", "int", "str", "list", "tuple", "dict"].contains n
def PR (K:W.Frag)(t n:String)(h:AN t n=true):W.kitOne K (.type t) (.type n)=some (vz t n):=by
 unfold AN at h;rw[Uh,List.contains_iff_mem,List.contains_iff_mem] at h;obtain⟨c,g⟩:=h;simp only[UV,Vn,or_false] at c g;rcases c with rfl|rfl|rfl|rfl|rfl|rfl|rfl<;>rcases g with rfl|rfl|rfl|rfl|rfl|rfl<;>first|rfl|kernel_rfl
def yA:YG->YH
 | [d,.ty n]=>(bW d).bind λt=>if AN t n then some (.bl (vz t n)) else none
 |_=>none
def PU {K:W.Frag}{H:Hp}{d:D}{v:V}{t:String}(h:bW d=some t)(i:jf K H d v):TyOf K H v (.type t):=by
 cases d with
 |non=>cases h;rw[jB.mp i];exact .non
 |bl b=>cases h;rw[jm.mp i];exact .bl b
 |int j=>cases h;rw[jd.mp i];exact .int j
 |str x=>cases h;rw[jn.mp i];exact .str x
 |lst ds =>
  obtain rfl:=Zqi h;obtain⟨a,l,rfl,g,_⟩:=i;rcases g with g|⟨o,g⟩
  .exact .lst g
  .exact .frz g
 |tup ds =>
  obtain rfl:=Zqi h;obtain⟨a,l,rfl,g,_⟩:=i;exact .tup g
 |dct ks ds =>
  obtain rfl:=Zqi h;obtain⟨a,l,rfl,g,_⟩:=i;exact .dK g
 |ty n=>exact J2 h
 |scr n=>exact J2 h
 |ins C fs ds=>exact J2 h
 |exc c=>exact J2 h
 |ucl c=>exact J2 h
 |adr c=>exact J2 h
 |dcf c ds=>exact J2 h
 |pin c ds=>exact J2 h
def nY (ds:YG)(z:D):Prop:=∃d n t,ds=[d,.ty n]/\bW d=some t/\AN t n=true/\z=.bl (vz t n)
def PX (hz:yA ds=some z):nY ds z:=by
 cases ds with
 |nil=>exact J2 hz
 |cons d ds =>
  cases ds with
  |nil=>exact J2 hz
  |cons e ds =>
   cases ds with
   |nil =>
    cases e with
    |ty n =>
     obtain⟨t,c,hz⟩:=Jg.mp (hz);exact⟨d,n,t,rfl,c,(CG hz).1,(CG hz).2.symm⟩
    |_=>exact J2 hz
   |cons _ _=>cases e<;>exact J2 hz
def GC:jS X (.builtin "isinstance") (zU X.K yA):=jS.weak O4 λs H Q g=>by
 obtain⟨F,ds,z,c,id,hz,q⟩:=g;obtain⟨d,n,t,rfl,h,j,rfl⟩:=PX hz;obtain⟨v,w,rfl,l,r⟩:=Da id;exact⟨v,_,_,_,by rw[xm.mp r],PU h (jf.same c _ _ l),PR _ _ _ j,q _ F H (.refl c) (zH _ F)⟩
def GD (c:Gl X x)(g:X.mg x=none)(h:bootBuiltins x=some u)(r:jq (.ty n) u)(j:x ≠ "__name__" := by decide)(l:(x == ("__debug__" : Str))=false:=by decide):QE X E (.Name x pos) (dC (.ty n)):=
 Y8 (MJ c g h r j l) λ_=>xm.mpr rfl
def Kz:YG->YH
 | [.lst ds]=>some (.lst ds)
 | [.tup ds]=>some (.lst ds)
 | [.scr ns]=>some (.lst (ns.map .int))
 |_=>none
def fM (ds:YG)(z:D):Prop:=(∃es,ds=[.lst es]/\z=.lst es)\/(∃es,ds=[.tup es]/\z=.lst es)\/∃ns,ds=[.scr ns]/\z=.lst (ns.map .int)
def PY (hz:Kz ds=some z):fM ds z:=by
 cases ds with
 |nil=>exact J2 hz
 |cons d ds =>
  cases ds with
  |nil =>
   cases d with
   |lst ds=>exact .inl ⟨_,rfl,(Zqi hz).symm⟩
   |tup ds=>exact .inr (.inl ⟨_,rfl,(Zqi hz).symm⟩)
   |scr ns=>exact .inr (.inr ⟨_,rfl,(Zqi hz).symm⟩)
   |_=>exact J2 hz
  |cons e ds=>cases d<;>exact J2 hz
def YS:jS X (.type "list") (zT X.K Kz):=jS.weak NP λt H Q s=>by
 obtain⟨F,ds,z,g,id,hz,q⟩:=s;have c:∀{es:YG} {ys:YE},je X.K F es ys->xR X.K F H Q (.lst es)->∀l,H l=none->Q (.ref l) (j9 H l (.lst ys)):=λ{es ys} h q l n =>
  q l F _ (.keep g n _) n (Qd g n) ⟨ys,JL,h⟩
 rcases PY hz with ⟨es,rfl,rfl⟩|⟨es,rfl,rfl⟩|⟨ns,rfl,rfl⟩
 .obtain⟨v,rfl,h⟩:=Q3 id;obtain⟨a,ys,rfl,j,r⟩:=h;exact⟨a,ys,rfl,.inl (j.same g).sq,c r q⟩
 .obtain⟨v,rfl,h⟩:=Q3 id;obtain⟨a,ys,rfl,j,r⟩:=h;exact⟨a,ys,rfl,.inr (j.same g).sq,c r q⟩
 .obtain⟨v,rfl,h⟩:=Q3 id;obtain⟨a,rfl,j⟩:=h;exact⟨a,_,rfl,.inl (jk.seq g j),c (qC _) q⟩
def Xw:YG->YH
 | [.lst ds]=>some (.tup ds)
 | [.tup ds]=>some (.tup ds)
 |_=>none
def nR (ds:YG)(z:D):Prop:=(∃es,ds=[.lst es]/\z=.tup es)\/∃es,ds=[.tup es]/\z=.tup es
def PZ (hz:Xw ds=some z):nR ds z:=by
 cases ds with
 |nil=>exact J2 hz
 |cons d ds =>
  cases ds with
  |nil =>
   cases d with
   |lst ds=>exact .inl ⟨_,rfl,(Zqi hz).symm⟩
   |tup ds=>exact .inr ⟨_,rfl,(Zqi hz).symm⟩
   |_=>exact J2 hz
  |cons e ds=>cases d<;>exact J2 hz
def Df:jS X (.type "tuple") (zU X.K Xw):=jS.weak NQ λt H Q r=>by
 obtain⟨F,ds,z,c,id,hz,q⟩:=r;rcases PZ hz with ⟨es,rfl,rfl⟩|⟨es,rfl,rfl⟩
 .obtain⟨v,rfl,h⟩:=Q3 id;obtain⟨a,ys,rfl,g,j⟩:=h;refine⟨a,ys,rfl,.inl ⟨(g.same c).sq,λl s=>?_⟩⟩;have n:=qD c s (.tup ys);exact q _ _ _ n (js.mpr ⟨l,ys,rfl,.of JL,je.same n.ff _ _ j⟩)
 .obtain⟨v,rfl,h⟩:=Q3 id;have h':=h;obtain⟨a,ys,rfl,g,j⟩:=h;exact⟨a,ys,rfl,.inr ⟨(g.same c).sq,q _ F H (.refl c) h'⟩⟩
def yi (r:Jy):D:=.dct (r.map λp=>.inl p.1) (r.map λp=>.int p.2)
def Xx (r:Jy):Jy:=r.foldl (λa p=>qL a p.1 p.2) []
def Ra (r:Jy):Ar r=x9 (Xx r):=Gk r []
def Rb (h:j6 r):Xx r=r:=by
 have:=Gm r [] (by simpa using h);unfold Xx;simpa using this
def GE (r:Jy):x9 r=(r.map λp=>(Ue p.1:j0)).zip (r.map λp=>V.int p.2):=by
 grind[x9,List.map_cons]
def Rc (K:W.Frag)(F:Hp)(r:Jy):je K F (r.map λp=>D.int p.2) (r.map λp=>V.int p.2):=by
 have:=qC (K:=K) (H:=F) (r.map (·.2))
 rwa [Zw,Zw] at this
def WP:YG->YH
 | [d]=>(Kx d).bind λr=>if r.length<=100 then some (yi (Xx r)) else none
 |_=>none
def Dg (g:X.calm=true):jS X (.type "dict") (zT X.K WP):=jS.weak (OB g) λj H Q l=>by
 obtain⟨F,ds,z,c,id,hz,q⟩:=l;unfold WP at hz
 split at hz
 .obtain⟨r,n,hz⟩:=Jg.mp hz
  split at hz
  .rename_i s;obtain rfl:=Zqi hz;obtain⟨v,rfl,h⟩:=Q3 id;rw[Gw n,bN] at h;obtain⟨a,ys,e,_⟩:=(show ∃a j,v=.ref a/\_ by unfold rD at h;rwa [yE] at h);subst e;refine⟨a,r,rfl,(Is.same c _ _ h),s,λp hp=>(q p F _ (.keep c hp _) hp (Qd c hp) ⟨(Xx r).map λp=>V.int p.2,?_,(),Rc _ _ _⟩)⟩;rw[JL,Ra,GE]
  .exact J2 hz
 .exact J2 hz
def fy:FE:=λ_=>.ok (.dct [] [])
def Re:QN X E (.Dict [] [] pos) fy:=PE.weak Od λZ H Q ⟨B,F,sd,r,n⟩=>λp hp=>n p F _ (.keep r.ext.fh hp _) hp (Qd r.ext.fh hp) ⟨[],JL,rfl,.nil⟩
def AO (fo c g:FE):FE:=λsd=>(fo sd).bind λd=>match d with
 | .dct ks ds=>(c sd).bind λk=>(g sd).bind λx=>.ofO ((Q2 k).map λq=>(jE ks ds q).getD x)
 |_=>.no
def Rf (G:X.A.units+1<cLine)(I:QE X E o fo)(J:QE X E e fa)(K:QE X E f fb)(L:M2 X o "get" apos e f cpos):QE X E (.Call (.Attribute o "get" apos) [e,f] [] cpos) (AO fo fa fb):=PE.weak (Oi G I J K L) λZ H Q M=>by
 obtain⟨B,F,sd,r,n⟩:=M;refine⟨B,F,sd,r,(ja n).mono (λd s v N H1 c t=>?_) λ_ _ q=>q⟩;cases d with
 |dct ks ds =>
  rw[jO] at t;obtain⟨p,O,rfl,P,R,S⟩:=t;have hp:=c.fh _ _ P;refine⟨p,rfl,.inl ⟨_,.inl hp⟩,B,N,sd,r.step c,(ja s).mono (λk T w U H2 g Y=>?_) λ_ _ q=>q.ext c⟩;refine⟨B,U,sd,(r.step c).step g,(ja T).mono (λx n3 u A C h i3=>?_) λ_ _ q=>q.ext (c.trans g)⟩;obtain⟨z,hz,q⟩:=jg n3;obtain⟨l,hk,hz⟩:=Jk.mp hz;subst hz;obtain⟨g1,g2⟩:=Xu l R S;refine⟨qw (ks.zip O) l,?_,?_⟩
  .rw[WO hk Y];exact xF.k (h.hh _ _ (g.hh _ _ hp))
  .cases j:jE ks ds l with
   |none =>
    rw[j] at q;rw[g2 j];exact q _ A C ((c.trans g).trans h) i3
   |some d =>
    rw[j] at q;obtain⟨y,hy,iy⟩:=g1 d j;rw[hy];exact q _ A C ((c.trans g).trans h) (jf.same (g.ff.trans h.ff) _ _ iy)
 |_=>exact s.elim
def YT (i:Nat)(c fv:FE):FS:=λsd=>(fv sd).bind λv=>match sd[i]? with
 |some (some (.own false (.dct ks ds)))=>(c sd).bind λk=>match Q2 k with
  |some q=>if ks.length<sizeLine then .ok (.next (sd.set i (some (.own false (.dct (VY ks q) (Wu ks ds q v)))))) else .no
  |none=>.no
 |_=>.no
def Rg (x:X.A.units+1<cLine)(y:PE X o (xM j))(z:QE X E i fi)(A:QE X E e fv)(hs:swapsWith e (some (.Subscript o i pos')) pos.line X.env=pure false:=by rfl):
 QS X E m (.Assign [.Subscript o i pos'] e pos) (YT j fi fv):=PS.weak (Fd x y z A hs) λT Z H C=>by
 obtain⟨B,F,sd,r,n⟩:=C;refine⟨B,F,sd,r,(ja n).mono (λd s v G Y c I=>?_) λ_ _ q=>q.ext r.ext⟩
 split at s
 .rename_i ks ds t;obtain⟨l,u,h2,h3,⟨xs,J,L,M⟩,_⟩:=(r.step c).own t;refine⟨.ref l,u,B,G,sd,r.step c,(ja s).mono (λk g w N H2 h O=>?_) λ_ _ q=>q.ext (r.step c).ext⟩
  split at g
  .rename_i q P
   split at g
   .rename_i hz;obtain⟨ys,Q,R,S⟩:=G2 (K:=X.K) (q:=q) L (je.same h.ff _ _ M) (jf.same h.ff _ _ I);have U:=h.hh _ _ J;refine⟨l,_,rfl,(by rw[WO P O];exact zE.k U (by rw[List.length_zip];lia)),?_⟩;exact g Z N _ (c.ff.trans h.ff) (((r.step c).step h).chg t u ⟨ys,by rw[JL,Q],R,S⟩)
   .exact g.elim
  .exact g.elim
 .exact s.elim
def vX:D->Option YG
 | .lst ds=>some ds
 | .scr ns=>some (ns.map .int)
 |_=>none
def vT:D->Option YG
 | .tup ds=>some ds
 |_=>none
def iL (f:FE):FA:=λsd=>(f sd).bind λd=>.ofO (vX d)
def iT (f:FE):FA:=λsd=>(f sd).bind λd=>.ofO (vT d)
def Dh {K:W.Frag}{l:Hp}{J:It}{ds:YG}{c:YE}{S:Hp->Prop}(h:je K l ds c)(w:∀F H,jk l F->jk F H->S H)(g:∀i H x,S H->c[i]? = some x->J.go i H)(st:∀i H,S H->c.length<=i->J.stop i H)
 (z:∀i H x s,S H->J.yld i H x s->s=H/\c[i]? = some x):wU K l J ds:=λi t j u v=>by
 have n:=w t j u v;refine⟨λq=>?_,λq=>st i j n (by rw[h.length];exact q)⟩;obtain⟨x,A,_⟩:=h.get (Zqg q);refine⟨g i j x n A,λy B C=>?_⟩;obtain⟨rfl,r⟩:=z i j y B n C;obtain⟨d,G,id⟩:=h.getV r;exact⟨d,t,G,.refl v,jf.same u _ _ id⟩
def Rh (h:QE X E e fa):QI X E tg e (iL fa):=PI.weak (Nb h) λZ H R G=>by
 obtain⟨B,F,sd,r,n⟩:=G;refine⟨B,F,sd,r,(ja n).mono (λd I v z A l C=>?_) λ_ _ q=>q⟩;obtain⟨ds,hz,q⟩:=jg I;cases d with
 |lst es =>
  obtain rfl:=Zqi hz;obtain⟨a,s,rfl,g,J⟩:=C;refine⟨a,rfl,⟨s,(g.same l.fh).sq⟩,q _ z A l (Dh J (λF H t u=>((g.same t).same u).sq) (λi H x c w=>⟨s,x,c,w⟩) (λi H c y=>⟨s,c,y⟩) λi H x K c j=>⟨j.1,j.2 s c⟩)⟩
 |scr ns =>
  obtain rfl:=Zqi hz;obtain⟨a,rfl,g⟩:=C;refine⟨a,rfl,⟨_,jk.seq l.fh g⟩,q _ z A l (Dh (qC ns) (λF H t u=>jk.seq u (jk.seq t g)) (λi H x c w=>⟨_,x,c,w⟩) (λi H c y=>⟨_,c,y⟩) λi H x K c j=>⟨j.1,j.2 _ c⟩)⟩
 |_=>exact J2 hz
def Ri (h:QE X E e fa):QI X E tg e (iT fa):=PI.weak (Nc h) λZ H R t=>by
 obtain⟨B,F,sd,r,n⟩:=t;refine⟨B,F,sd,r,(ja n).mono (λd u v w y j z=>?_) λ_ _ q=>q⟩;obtain⟨ds,hz,q⟩:=jg u;cases d with
 |tup es =>
  obtain rfl:=Zqi hz;obtain⟨a,g,rfl,l,A⟩:=z;refine⟨a,rfl,⟨g,(l.same j.fh).sq⟩,q _ w y j (Dh A (λF H C G=>((l.same C).same G).sq) (λi H x c I=>⟨g,x,c,I⟩) (λi H c J=>⟨g,c,J⟩) λi H x K c s=>⟨s.1,s.2 g c⟩)⟩
 |_=>exact J2 hz
def nT {X:Cx}{tg e:Expr}{t t':TI}(h:PI X tg e t)(h':PI X tg e t'):PI X tg e (λZ H R=>t Z H R\/t' Z H R):=λY s Z H R I q=>q.elim (h Y s Z H R I) (h' Y s Z H R I)
def WQ:D->Option YG
 | .lst ds=>some ds
 | .scr ns=>some (ns.map .int)
 | .tup ds=>some ds
 |_=>none
def iS (f:FE):FA:=λsd=>(f sd).bind λd=>.ofO (WQ d)
def Qb (h:QE X E e fa):QI X E tg e (iS fa):=PI.weak (nT (Rh h) (Ri h)) λZ H R l=>by
 obtain⟨B,F,sd,r,n⟩:=l;by_cases g:∃ds,fa sd=.ok (.tup ds)
 .obtain⟨ds,g⟩:=g;refine .inr ⟨B,F,sd,r,?_⟩;unfold iS at n;unfold iT
  rwa [g] at n ⊢
 .refine .inl ⟨B,F,sd,r,?_⟩;unfold iS at n;unfold iL;cases j:fa sd with
  |ok d =>
   rw[j] at n;cases d with
   |tup ds=>exact by grind
   |_=>exact n
  |no=>rwa [j] at n
  |ex c fs=>rwa [j] at n
def JS (lo:Int)(n:Nat):YG:=(List.range n).map λk:Nat=>.int (lo+k)
def WR (j:Int):Bool:=Nat.ble j.toNat 1000000000&&Nat.ble (-j).toNat 1000000000
def AQ (h:WR j=true): -(2 ^ 62)<=j/\j<2 ^ 62:=by
 unfold WR at h;rw[Uh,Nat.ble_eq,Nat.ble_eq] at h;lia
def GF (c: -1000000000<=j)(g:j<=1000000000):WR j=true:=by
 unfold WR;rw[Uh,Nat.ble_eq,Nat.ble_eq];lia
def zt (fr:FA):FA:=λsd=>(fr sd).bind λds=>match ds with
 | [.int j]=>if WR j then .ok (JS 0 j.toNat) else .no
 |_=>.no
def GG {K:W.Frag}{g:Hp}(lo:Int)(n:Nat):wU K g (bL lo n) (JS lo n):=λi h r s j=>by
 have l:(JS lo n).length=n:=by unfold JS;rw[Zql,ZB]
 rw[l];refine⟨λc=>⟨c,λx t q=>?_⟩,λc=>c⟩;obtain⟨rfl,rfl⟩:=q;refine⟨.int (lo+i),h,?_,.refl j,jd.mpr rfl⟩
 simp_all [JS]
def Wv {a:Expr}(l:Gl X "range")(s:X.mg "range" = none)(t:QA X E [a] fr)(hs:starEach [a] X.env=[(false,eval a X.env)]:=by rfl):QI X E tg (.Call (.Name "range" p) [a] [] pos) (zt fr):=PI.weak (EE l s t hs) λZ H R u=>by
 obtain⟨B,F,sd,r,n⟩:=u;refine⟨B,F,sd,r,(ja n).mono (λds c A w x y z=>?_) λ_ _ q=>q⟩
 split at c
 .split at c
  .rename_i j g;obtain⟨v,rfl,h⟩:=Q3 z;rw[jd.mp h];exact⟨j,rfl,(AQ g).1,(AQ g).2,c _ w x y (GG 0 _)⟩
  .exact c.elim
 .exact c.elim
end
section
variable {X:Cx}{E:XK}{m:Option Bool}{a b o i e f tg:Expr}{fa fb fo fi fv:FE}{fr:FA}{pos pos' apos cpos p:Pos}
def PG.weak (h:PG X e t)(w:∀v Z H Q,t' v Z H Q->t v Z H Q):PG X e t':=λY s Z H v u Q I r q=>h Y s Z H v u Q I r (w _ _ _ _ q)
def Di:Yj->vt
 | []=>gb
 |i::is=>EB (Ux i) (Di is)
theorem GH:∀{is:Yj} {c:YE} {Z: St} {H:Hp} {Q:St->Hp->Prop},c.length=is.length->Q (AF is c Z) H->Di is c Z H Q
 | [],c,Z,H,Q,hl,q=>⟨(),q⟩
 |i::is,[],Z,H,Q,hl,q=>by cases hl
 |i::is,x::c,Z,H,Q,hl,q=>⟨x,c,rfl,GH (UJ hl) q⟩
def Qc {i:Nat}{e:Expr}(h:PG X e (Ux i)):QG X e (.one i):=h
def Wb (is:Yj)(h:PG X e (kX X.K is.length (Di is))):QG X e (.tup is):=PG.weak h λv Z H Q ⟨a,g,e,j,c,q⟩=>⟨a,g,e,j,c,GH c q⟩
def Ki (tg:Tg)(c:FT)(f:FE)(sd:SD):YG->Res YG
 | []=>.ok []
 |x::xs=>(JO tg x sd).bind λs=>(c s).bind λb=>if b then(f s).bind λy=>(Ki tg c f sd xs).bind λys=>.ok (y::ys) else Ki tg c f sd xs
def Wc (cap:List (Option Nat))(it:FA)(tg:Tg)(c:FT)(f:FE):FE:=λsd=>(it sd).bind λds=>if VX (jY cap sd) tg=true/\ds.length<sizeLine then
 (Ki tg c f (jY cap sd) ds).bind λys=>.ok (.lst ys) else .no
def GI {K:W.Frag}{t:Tg}{fi:FA}{G:FT}{f:FE}{cap:List (Option Nat)}{Z: St}{H:Hp}{Q:VK}(I:vJ K E (Wc cap fi t G f) Z H Q):XU cap (hJ K E fi) (gT t K) (hF K E G) (tD K E f) Z H Q:=by
 obtain⟨B,F,sd,r,n⟩:=I;refine⟨B,F,sd,r,(ja n).mono (λds L J P H1 w wk=>?_) λ_ _ q=>q⟩
 split at L
 .rename_i I;obtain⟨hn,hz⟩:=I;refine⟨λi k ys Z l=>k=ds.length-i/\i<=ds.length/\∃h es,Ext P H1 h l/\RS K B h l (jY cap sd) Z /\ je K h es ys/\es.length<=i /\
   (Ki t G f (jY cap sd) (ds.drop i)).need (λrs=>xR K h l Q (.lst (es++rs))) (XW K E h l),⟨ds.length,rfl,Ub _,P,[],.refl w.fh,(r.step w).cap cap,.nil,Zf _,?_⟩,?_⟩
  .exact(ja L).mono (λrs q=>(show xR K F H Q (.lst rs) from q).ext w) λ_ _ q=>q.ext w
  rintro i k ys Z2 l ⟨rfl,hi,h,es,z,M,A,R,s⟩;have ly:=A.length;refine⟨(),?_⟩;obtain⟨w1,w2⟩:=wk i h l z.ff z.fh;by_cases j:i<ds.length
  .obtain⟨go,yl⟩:=w1 j;refine .inr ⟨go,λx H3 y=>?_⟩;obtain⟨d,F3,hd,g,i3⟩:=yl x H3 y;rw[Uu j] at s;have N:ds[i]=d:=by grind[Zqg,Zqi]
   rw[N] at s;unfold Ki at s;have r3:=M.step g;refine YM r3 i3 (ja s) λsd' Z' n4 hb C=>?_;obtain⟨S,T⟩:=CM hn hb;refine⟨B,F3,sd',C,(ja n4).mono (λb U Y H4 c=>?_) λ_ _ q=>q.ext g⟩;cases b with
   |true =>
    refine⟨B,Y,sd',C.step c,(ja U).mono (λy n6 v F5 H5 u i5=>?_) λ_ _ q=>q.ext (g.trans c)⟩;refine⟨ds.length-(i+1),(),rfl,j,F5,es++[y],((z.trans g).trans c).trans u,((C.step c).step u).forget S T,(je.same ((g.ff.trans c.ff).trans u.ff) _ _ A).snoc i5,by rw[Ua];exact Vt R,(ja n6).mono (λrs q=>?_) λ_ _ q=>q.ext ((g.trans c).trans u)⟩;rw[Ud];exact(q).ext ((g.trans c).trans u)
   |false =>
    refine⟨ds.length-(i+1),(),rfl,j,Y,es,(z.trans g).trans c,(C.step c).forget S T,je.same (g.ff.trans c.ff) _ _ A,Vj R,?_⟩;exact(U).mono (λrs q=>q.ext (g.trans c)) λ_ _ q=>q.ext (g.trans c)
  .have he:i=ds.length:=()
   subst he;refine .inl ⟨w2 (Zf _),λD O=>?_⟩;rw[UM] at s;have q:xR K h l Q (.lst (es++[])):=s;rw[ZA] at q;exact q D h _ (.keep M.ext.fh O _) O (Qd M.ext.fh O) ⟨ys,JL,A⟩
 .exact L.elim
def Dj {tg j l c:Expr}{g:Scope}{t:Tg}{fi:FA}{u:FT}{f:FE}(N:Yk)(cap:List (Option Nat))(v:X.calm=true)(r:QF g X.env N X.N cap=true)(w:QI X E tg j fi)
 (y:∀n C s H q,QG (JK X g N n C s H q) tg t) (z:∀n C s H q,QT (JK X g N n C s H q) E c u) (A:∀n C s H q,QE (JK X g N n C s H q) E l f) (hs:∀x,foldedSetIterable j X.env x=pure x:=by intro _;rfl):
 QN X E (.ListComp l [⟨tg,j,[c],0⟩] g pos) (Wc cap fi t u f):=PE.weak (Pg N cap v r w y z A hs) λ_ _ _ h=>GI h
def YU:List j0->YG->Option Jy
 | .inl k::ks,.int v::ds=>(YU ks ds).map λr=>(k,v)::r
 | [],[]=>some []
 |_,_=>none
def Rj (ks:List j0)(ds:YG)(r:Jy):Prop:=ks=r.map (λp=>.inl p.1)/\ds=r.map λp=>.int p.2
def Rk (h:YU ks ds=some r):Rj ks ds r:=by
 induction ks generalizing ds r with
 |nil =>
  cases ds with
  |nil=>obtain rfl:=Zqi h;exact⟨rfl,rfl⟩
  |cons _ _=>exact J2 h
 |cons k ks c =>
  cases k with
  |inr _=>exact J2 h
  |inl k =>
   cases ds with
   |nil=>exact J2 h
   |cons d ds =>
    cases d with
    |int v =>
     obtain⟨l,g,j⟩:=Jk.mp (h);subst j;exact⟨Zt (Ue k :: ·) (c g).1,Zt (D.int v :: ·) (c g).2⟩
    |_=>exact J2 h
def Rl (r:Jy):YU (r.map λp=>.inl p.1) (r.map λp=>.int p.2)=some r:=by
 induction r with
 |nil=>rfl
 |cons p r c=>exact Zt (Option.map λr=>(p.1,p.2)::r) c
def ww (s:jk F H)(fr:∀p∈L,H p.1=none):Ext F H (qE F L) (qE H L):=by
 have c:∀{G:Hp} {b:Addr},H b≠none->qE G L b=G b:=λ{G b} g=>A3 ();have ne:∀{b:Addr} {o:HO},H b=some o->H b≠none:=by grind
 refine⟨λb o e=>by rwa [c (ne (s _ _ e))],λb o e=>?_,λb o e=>by rwa [c (ne e)],()⟩;rcases Gh e with h|⟨h1,h2⟩
 .grind[qE]
 .rw[A3 h1];exact s _ _ h2
def Dk:D->YH
 | .dct ks ds=>(YU ks ds).bind λr=>if r ≠ []/\r.length<1000 then some (.lst ((JP jR r).map qM)) else none
 |_=>none
def Dl (fo:FE):FE:=λsd=>(fo sd).bind λd=>.ofO (Dk d)
def Rm (h:∀{I:TE},PE X o I->PE X e (v3 (λt H Q=>∃c d r,t=[.ref c]/\H c=some (Ws c d)/\H d=some (.dK (x9 r))/\r ≠ []/\r.length<1000/\∀l L,(∀p∈L,H p.1=none)->(L.map (·.1)).Nodup->(∀G,Is (qE G L) (.list ((JP jR r).map pD)) (.ref l))->Q (.ref l) (qE H L))
 (BZ (u3 X.K "dict" (λx N H Q=>∃d u,x=.ref d/\N=[]/\H d=some (.dK u)/\∀p,H p=none->Q (.ref p) (j9 H p (Ws p d))) I) v0))) (O:QE X E o fo):QE X E e (Dl fo):=PE.weak (h O) λZ H Q P=>by
 obtain⟨B,F,sd,r,n⟩:=P;refine⟨B,F,sd,r,(ja n).mono (λd R v s J w S=>?_) λ_ _ q=>q⟩;obtain⟨z,hz,q⟩:=jg R;cases d with
 |dct ks ds =>
  obtain⟨y,T,A⟩:=Jg.mp (hz)
  split at A
  .rename_i K;obtain rfl:=Zqi A;obtain⟨k1,k2⟩:=Rk T;obtain⟨d,t,rfl,U,g2,Y⟩:=S;have ex:t=y.map λp=>V.int p.2:=by
    have C:=Y;rw[k2] at C;have:=qu (by rwa [Zw]);rw[this,Zw];rfl
   have hd:s d=some (.dK (x9 y)):=by rw[U,k1,ex,<- GE]
   have g:=w.fh _ _ hd;refine⟨.inr (.inr (.inl ⟨rfl,.inl ⟨_,g⟩⟩)),d,_,rfl,rfl,g,λc j=>?_⟩;refine⟨c,d,y,rfl,JL,(K7 j (Ws c d)) _ _ g,K.1,K.2,λl L fr nd hl=>?_⟩;have M:Ext s J s (j9 J c (Ws c d)):=.keep w.fh j _;refine q _ _ _ (w.trans (M.trans (ww M.fh fr))) ?_;obtain⟨l',ys,e',g4,g5⟩:=xI.mp (hl s);exact jj.mpr ⟨l',ys,e',.of g4,vR.mpr g5⟩
  .exact J2 A
 |_=>exact J2 hz
end
section
variable {P:Program}{w:World}{K:W.Frag}{mg:Ye}{base:Heap}{f:Addr}{fd:FuncData}{ps:Yk}{k:Nat}
def gv:FnOk P w K mg base yw k f fd ps (xc K λ_=>.no):=⟨λ_ _ _ _ ⟨_,_,_,_,n⟩=>n.elim,λ_ _ _ _ _ _ _ _ _ _ _ _ _ ⟨_,_,_,_,n⟩=>n.elim⟩
end
section
variable {X:Cx}{E:XK}{m:Option Bool}{a b o i e f tg:Expr}{fa fb fo fi fv:FE}{fr:FA}{pos pos' apos cpos p:Pos}
def xA (c:Bool):D->YH
 | .non=>some (.bl (!c))
 |_=>some (.bl c)
def Dm:D->Bool
 | .non=>true
 |_=>false
def GJ {K:W.Frag}{H:Hp}{d:D}{v:V}(h:jf K H d v):decide (v=.non)=Dm d:=by
 cases d with
 |non=>rw[jB.mp h];rfl
 |bl b=>rw[jm.mp h];rfl
 |int b=>rw[jd.mp h];rfl
 |str b=>rw[jn.mp h];rfl
 |ty b=>rw[xm.mp h];rfl
 |scr b=>obtain⟨a,rfl,_⟩:=qp.mp h;rfl
 |tup b=>obtain⟨a,_,rfl,_⟩:=js.mp h;rfl
 |lst b=>obtain⟨a,_,rfl,_⟩:=jj.mp h;rfl
 |dct b c=>obtain⟨a,_,rfl,_⟩:=jO.mp h;rfl
 |ins b c d=>obtain⟨a,_,_,_,rfl,_⟩:=jZ.mp h;rfl
 |exc b=>obtain⟨a,_,rfl,_⟩:=qY.mp h;rfl
 |ucl b=>obtain⟨a,rfl,_⟩:=yV.mp h;rfl
 |adr b=>rw[jC.mp h];rfl
 |dcf b c=>obtain⟨a,_,_,rfl,_⟩:=qr.mp h;rfl
 |pin b c=>rw[(qq.mp h).1];rfl
def Rn {K:W.Frag}{Z: St}{H:Hp}{Q:VK}(h:tD K E (qB (xA false) fa) Z H Q):ut (tD K E fa) Z H Q:=by
 obtain⟨B,F,sd,r,n⟩:=h;refine⟨B,F,sd,r,(ja n).mono (λx g v j c l s=>?_) λ_ _ q=>q⟩;show Q (V.bl (decide (v=V.non))) c;rw[GJ s];cases x<;>exact g _ j c l (jm.mpr rfl)
def Ro {K:W.Frag}{Z: St}{H:Hp}{Q:VK}(h:tD K E (qB (xA true) fa) Z H Q):EA (tD K E fa) Z H Q:=by
 obtain⟨B,F,sd,r,n⟩:=h;refine⟨B,F,sd,r,(ja n).mono (λx g v j c l s=>?_) λ_ _ q=>q⟩;show Q (V.bl !decide (v=V.non)) c;rw[GJ s];cases x<;>exact g _ j c l (jm.mpr rfl)
def GK {j pos'}(c:QE X E a fa):QT X E (.Compare a [.Is] [.Constant .none j pos'] pos) (JF (qB (xA false) fa)):=PT.weak (BQ (ML c)) λ_ _ _ h=>Rn (WK h)
def Rp {j pos'}(c:QE X E a fa):QT X E (.Compare a [.IsNot] [.Constant .none j pos'] pos) (JF (qB (xA true) fa)):=PT.weak (BQ (MM c)) λ_ _ _ h=>Ro (WK h)
def Ww (i:Nat)(fb:FE):FE:=λsd=>match sd[i]? with
 |some (some (.own _ d))=>(fb sd).bind λy=>.ofO (qf d y)
 |_=>.no
def GL {i:Nat}(M:X.A.units+1<cLine)(J:PE X a (xM i))(K:QE X E b fb)(hs:Xf b)(u:wl b):QE X E (.Subscript a b pos) (Ww i fb):=
 PE.weak (PE.or (Cj M J K u) (XP fU J K hs)) λZ H Q N=>by
  obtain⟨B,F,sd,r,n⟩:=N;unfold Ww at n
  split at n
  .rename_i p d O;obtain⟨l,v,S,T,A,_⟩:=r.own O;cases d with
   |lst ds =>
    obtain⟨L,C,G⟩:=A;refine .inr ⟨.ref l,v,B,F,sd,r,(ja n).mono (λy h w j s g t=>?_) λ_ _ q=>q⟩;obtain⟨z,hz,q⟩:=jg h;cases y with
    |int k =>
     obtain⟨x,I,ix⟩:=YQ G (show qQ ds k=some z from hz);exact⟨l,L,k,x,rfl,jd.mp t,qZ.of (g.hh _ _ C),I,q _ j s g (jf.same g.ff _ _ ix)⟩
    |_=>exact J2 hz
   |dct ks ds =>
    obtain⟨L,C,G,P⟩:=A;refine .inl ⟨.ref l,v,B,F,sd,r,(ja n).mono (λy h w j s g t=>?_) λ_ _ q=>q⟩;obtain⟨z,hz,q⟩:=jg h;obtain⟨k,R,hz⟩:=Jg.mp (show(Q2 y).bind (λq=>jE ks ds q)=some z from hz);obtain⟨x,I,ix⟩:=(Xu k G P).1 z hz;refine⟨l,x,rfl,?_,q x j s g (jf.same g.ff _ _ ix)⟩;rw[WO R t,<- I];exact xF.k (g.hh _ _ C)
   |ins c fs ds =>
    refine .inr ⟨.ref l,v,B,F,sd,r,(ja n).mono (λy h w j s g t=>?_) λ_ _ q=>q⟩;obtain⟨z,hz,q⟩:=jg h;cases y<;>exact J2 hz
   |_=>exact A.elim
  .exact n.elim
end
end L2.DL
namespace L2
section
variable {X:Cx}{tg iter elt c:Expr}{scope:Scope}{pos:Pos}{wi:TI}{g:TG}{te:TE}{tt:TT}
def GM (a:X.N.Nodup)(f:X.N[iy]? = some y)(h:yJ X.env.scope y)(i:X.fn y=true\/X.env.scope.names.lookup y=some .local):
 XV X Y Z (λv B=>DD.nx (Z.set iy (some v)) B) (some (assign (.Name y py) X.env)) (λ_ s'=>SP X Y DD .next s'):=λC D m j r E F N sz G H k=>by
 obtain⟨O,z,A,l,I,J⟩:=k j.heap ⟨rfl,λ_ _=>rfl⟩;obtain⟨n,q,s,K,t,u⟩:=id E;have L:Inv X (Y++[(C,n)]) Z z { j with heap:=j.heap }:=A.pins_of λp hp=>by
  rcases Jb.mp hp with hp|hp
  .exact A.pin p ()
  simp_all
 exact wpAny_assign_Name (Af L a f h l (λP w=>(⟨m,⟨n,q,s,(w.pin (C,n) ()).1,t,u⟩,λh' x=>⟨_,z,(w.pins_of λp hp=>w.pin p ()).turned (λb o M e=>(x.2 b M).trans e) I F (.inr sz) G H,J⟩⟩)) i)
def GN (a:swapsWith (.ListComp elt [⟨tg,iter,[],0⟩] scope pos) (some (.Name y py)) spos.line X.env=pure true)(b:X.N.Nodup)(f:X.N[iy]? = some y)(i:yJ X.env.scope y)(j:X.fn y=true\/X.env.scope.names.lookup y=some .local)(N:Yk)(cap:List (Option Nat))(o:X.calm=true)(l:QF scope X.env N X.N cap=true)(p:PI X tg iter wi)(q:∀m C s H n,PG (JK X scope N m C s H n) tg g)(t:∀m C s H n,PE (JK X scope N m C s H n) elt te)
 (hs:∀x,foldedSetIterable iter X.env x=pure x:=by intro _;rfl):PS X (.Assign [.Name y py] (.ListComp elt [⟨tg,iter,[],0⟩] scope pos) spos) (zQ (Xh cap wi g te) (Ux iy)):=by
 intro Y s Z H u I h;rw[exec_Assign_Name_used _ _ _ _ a];refine Za (wpAny_standAt (Za (Za (Zc (Fk N cap o l p q () hs I h (GM b f i j)) (λ_ s' r=>Zb (Zb r)) λ_ _ e=>e))))
def Rq (f:swapsWith (.ListComp elt [⟨tg,iter,[c],0⟩] scope pos) (some (.Name y py)) spos.line X.env=pure true)(i:X.N.Nodup)(j:X.N[iy]? = some y)(l:yJ X.env.scope y)(m:X.fn y=true\/X.env.scope.names.lookup y=some .local)(N:Yk)(cap:List (Option Nat))(o:X.calm=true)(n:QF scope X.env N X.N cap=true)(p:PI X tg iter wi)(q:∀a C s H b,PG (JK X scope N a C s H b) tg g)(r:∀a C s H b,PT (JK X scope N a C s H b) c tt)(t:∀a C s H b,PE (JK X scope N a C s H b) elt te)
 (hs:∀x,foldedSetIterable iter X.env x=pure x:=by intro _;rfl):PS X (.Assign [.Name y py] (.ListComp elt [⟨tg,iter,[c],0⟩] scope pos) spos) (zQ (XU cap wi g tt te) (Ux iy)):=by
 intro Y s Z H v I h;rw[exec_Assign_Name_used _ _ _ _ f];refine Za (wpAny_standAt (Za (Za (Zc (Gf N cap o n p q r t hs I h (GM i j l m)) (λ_ s' u=>Zb (Zb u)) λ_ _ e=>e))))
end
end L2
namespace L2.DL
section
variable {X:Cx}{E:XK}{m:Option Bool}{tg iter elt c:Expr}{scope:Scope}{pos spos py:Pos}{y:Str}{iy:Nat}{t:Tg}{fi:FA}{fc:FT}{f:FE}
def Dn {K:W.Frag}{a:TE}{i:Nat}{b:FE}(w:∀Z H Q,vJ K E b Z H Q->a Z H Q){T:Ends}{Z: St}{H:Hp}(h:u0 K E m (jD i b) T Z H):zQ a (Ux i) T Z H:=w _ _ _ (by
 obtain⟨B,F,sd,r,n⟩:=h;refine⟨B,F,sd,r,(ja n).mono (λd g=>yI.new λv j l e o=>?_) λ_ _ q=>q.ext r.ext⟩;exact g _ j l e.ff ((r.step e).setVal o))
def Rr (N:Yk)(cap:List (Option Nat))(a:X.N.Nodup)(b:X.N[iy]? = some y)(e:yJ X.env.scope y)(o:X.calm=true)(g:QF scope X.env N X.N cap=true)(p:QI X E tg iter fi)
 (r:∀i C s H j,QG (JK X scope N i C s H j) tg t) (u:∀i C s H j,QE (JK X scope N i C s H j) E elt f) (l:swapsWith (.ListComp elt [⟨tg,iter,[],0⟩] scope pos) (some (.Name y py)) spos.line X.env=pure true:=by rfl)
 (n:X.fn y=true\/X.env.scope.names.lookup y=some .local:=by trivial) (hs:∀x,foldedSetIterable iter X.env x=pure x:=by intro _;rfl):
 QS X E m (.Assign [.Name y py] (.ListComp elt [⟨tg,iter,[],0⟩] scope pos) spos) (jD iy (Q0 cap fi t f)):=PS.weak (GN l a b e n N cap o g p r u hs) λT Z H h=>Dn (λ_ _ _ q=>CN q) h
def GO (N:Yk)(cap:List (Option Nat))(e:X.N.Nodup)(g:X.N[iy]? = some y)(i:yJ X.env.scope y)(o:X.calm=true)(j:QF scope X.env N X.N cap=true)(p:QI X E tg iter fi)
 (r:∀a C s H b,QG (JK X scope N a C s H b) tg t) (u:∀a C s H b,QT (JK X scope N a C s H b) E c fc) (v:∀a C s H b,QE (JK X scope N a C s H b) E elt f) (l:swapsWith (.ListComp elt [⟨tg,iter,[c],0⟩] scope pos) (some (.Name y py)) spos.line X.env=pure true:=by rfl)
 (n:X.fn y=true\/X.env.scope.names.lookup y=some .local:=by trivial) (hs:∀x,foldedSetIterable iter X.env x=pure x:=by intro _;rfl):
 QS X E m (.Assign [.Name y py] (.ListComp elt [⟨tg,iter,[c],0⟩] scope pos) spos) (jD iy (Wc cap fi t fc f)):=PS.weak (Rq l e g i n N cap o j p r u v hs) λT Z H h=>Dn (λ_ _ _ q=>GI q) h
end
def GP:Option (Option SV)->Res D
 |some (some (.val d))=>.ok d
 |_=>.no
@[simp]def pC (d:D):GP (some (some (.val d)))=.ok d:=rfl
@[simp]def nv (i:Nat)(sd:SD):jb i sd=GP sd[i]?:= rfl
@[simp]def pb (d:D)(sd:SD):dC d sd=.ok d:=rfl
@[simp]def rH (g:D->D->YH)(a b:FE)(sd:SD):jo g a b sd=(a sd).bind λx=>(b sd).bind λy=>.ofO (g x y):=rfl
@[simp]def rF (g:D->YH)(a:FE)(sd:SD):qB g a sd=(a sd).bind λx=>.ofO (g x):=rfl
def rM:D->Res Bool
 | .bl b=>.ok b
 |_=>.no
@[simp]def nP (b:Bool):rM (.bl b)=.ok b:=rfl
@[simp]def bB (a:FE)(sd:SD):JF a sd=(a sd).bind rM:=by
 rfl
@[simp]def bu (f:FT)(sd:SD):Kw f sd=(f sd).bind λb=>.ok (!b):=rfl
@[simp]def bD (f g:FT)(sd:SD):A9 f g sd=(f sd).bind λb=>if b then g sd else .ok false:=rfl
@[simp]def nE (f g:FT)(sd:SD):wa f g sd=(f sd).bind λb=>if b then .ok true else g sd:=rfl
@[simp]def bC (a c:FE)(sd:SD):Xp a c sd=(JF a sd).bind λb=>if b then c sd else .ok (.bl false):=rfl
@[simp]def bt (a:FE)(sd:SD):CJ a sd=(JF a sd).bind λb=>.ok (.bl !b):=rfl
@[simp]def nF (sd:SD):jc sd=.ok []:=rfl
@[simp]def b8 (a:FE)(b:FA)(sd:SD):J0 a b sd=(a sd).bind λx=>(b sd).bind λc=>.ok (x::c):=rfl
@[simp]def nG (a:FA)(sd:SD):qX a sd=(a sd).bind λb=>if b.length<=1000 then .ok (.lst b) else .no:=rfl
@[simp]def ny (a:FA)(sd:SD):zx a sd=(a sd).bind λb=>if b.length<=1000 then .ok (.tup b) else .no:=rfl
@[simp]def bA (a:YG->Res D)(b:FA)(sd:SD):J8 a b sd=(b sd).bind a:=rfl
@[simp]def nK (g:YG->YH)(a:FA)(sd:SD):jy g a sd=(a sd).bind λb=>.ofO (g b):=rfl
@[simp]def bG {α: Type}(a:α):(Res.ok a).bare=.ok a:=rfl
@[simp]def n7 (is:Yj)(f:FE)(sd:SD):xr is f sd=(f (qN is sd)).bare.bind λd=>if K8 d then .ok d else .no:=rfl
@[simp]def uF (i:Int):K8 (.int i)=true:=rfl
@[simp]def hQ (i:Bool):K8 (.bl i)=true:=rfl
@[simp]def gt (sd:SD):qN [] sd=sd:=rfl
def frz1 (i:Nat)(sd:SD):Option (Option SV)->SD
 |some (some (.own _ d))=>sd.set i (some (.val d))
 |_=>sd
@[simp]def gu (i:Nat)(sd:SD)(p:Bool)(d:D):frz1 i sd (some (some (.own p d)))=sd.set i (some (.val d)):=rfl
@[simp]def pF (i:Nat)(is:Yj)(sd:SD):qN (i::is) sd=qN is (frz1 i sd sd[i]?):=by
 rfl
def xh (g:FS):Out->Res Out
 | .next sd=>g sd
 |o=>.ok o
@[simp]def pK (g:FS)(sd:SD):xh g (.next sd)=g sd:=rfl
@[simp]def uC (g:FS)(d:D):xh g (.ret d)=.ok (.ret d):=rfl
@[simp]def uD (g:FS)(d:SD):xh g (.brk d)=.ok (.brk d):=rfl
@[simp]def Rs (a b:FS)(sd:SD):ju a b sd=(a sd).bind (xh b):=by
 rfl
@[simp]def bw (sd:SD):JZ sd=.ok (.next sd):=rfl
@[simp]def nJ (sd:SD):v4 sd=.ok (.brk sd):=rfl
@[simp]def n9 (i:Nat)(f:FE)(sd:SD):jD i f sd=(f sd).bind λd=>.ok (.next (sd.set i (some (.val d)))):=rfl
@[simp]def nB (i:Nat)(f:FE)(sd:SD):qx i f sd=(f sd).bind λd=>.ok (.next (sd.set i (some (.own false d)))):=rfl
@[simp]def nA (f:FE)(sd:SD):j1 f sd=(f sd).bind λd=>.ok (.ret d):=rfl
def v6:Option (Option SV)->Res D
 |some (some (.own _ d))=>.ok d
 |_=>.no
@[simp]def ka (p:Bool)(d:D):v6 (some (some (.own p d)))=.ok d:=rfl
@[simp]def p0 (i:Nat)(sd:SD):K9 i sd=(v6 sd[i]?).bind λd=>.ok (.ret d):=by
 unfold K9;cases sd[i]? with
 |none=>rfl
 |some o =>
  cases o with
  |none=>rfl
  |some v=>cases v<;>rfl
@[simp]def nH (c:FT)(a e:FS)(sd:SD):xz c a e sd=(c sd).bind λb=>if b then a sd else e sd:=rfl
def wP:Option (Option SV)->Res YG
 |some (some (.own false (.lst ds)))=>.ok ds
 |_=>.no
@[simp]def kb (ds:YG):wP (some (some (.own false (.lst ds))))=.ok ds:=rfl
@[simp]def pE (i:Nat)(f:FE)(sd:SD):KO i f sd=(wP sd[i]?).bind λds=>(f sd).bind λd=>if ds.length<sizeLine then .ok (.next (sd.set i (some (.own false (.lst (ds++[d])))))) else .no:=by
 unfold KO;cases sd[i]? with
 |none=>rfl
 |some o =>
  cases o with
  |none=>rfl
  |some v =>
   cases v with
   |val d=>rfl
   |own p d=>cases p<;>cases d<;>rfl
def GQ:D->Res YG
 | .lst es=>.ok es
 |_=>.no
@[simp]def pi (es:YG):GQ (.lst es)=.ok es:=rfl
@[simp]def pA (i:Nat)(f:FE)(sd:SD):Xr i f sd=(wP sd[i]?).bind λds=>(f sd).bind λd=>(GQ d).bind λes=>if ds.length+es.length<=sizeLine then .ok (.next (sd.set i (some (.own false (.lst (ds++es)))))) else .no:=by
 unfold Xr;cases sd[i]? with
 |none=>rfl
 |some o =>
  cases o with
  |none=>rfl
  |some v =>
   cases v with
   |val d=>rfl
   |own p d =>
    cases p with
    |true=>cases d<;>rfl
    |false =>
     cases d with
     |lst ds =>
      cases f sd with
      |ok x=>cases x<;>rfl
      |ex c fs=>rfl
      |no=>rfl
     |_=>rfl
def ke:Option (Option SV)->Res (List j0×YG)
 |some (some (.own false (.dct ks ds)))=>.ok (ks,ds)
 |_=>.no
@[simp]def kc (ks:List j0)(ds:YG):ke (some (some (.own false (.dct ks ds))))=.ok (ks,ds):=rfl
@[simp]def b7 (i:Nat)(a b:FE)(sd:SD):YT i a b sd=(b sd).bind λv=>(ke sd[i]?).bind λo=>(a sd).bind λk=>(Res.ofO (Q2 k)).bind λq=>if o.1.length<sizeLine then .ok (.next (sd.set i (some (.own false (.dct (VY o.1 q) (Wu o.1 o.2 q v)))))) else .no:=by
 unfold YT;cases b sd with
 |ok v =>
  cases sd[i]? with
  |none=>rfl
  |some o =>
   cases o with
   |none=>rfl
   |some w =>
    cases w with
    |val d=>rfl
    |own p d =>
     cases p with
     |true=>cases d<;>rfl
     |false =>
      cases d with
      |dct ks ds =>
       cases a sd with
       |ok k=>show(match Q2 k with|some q=>_|none=>_)=(Res.ofO (Q2 k)).bind _;cases Q2 k<;>rfl
       |ex c fs=>rfl
       |no=>rfl
      |_=>rfl
 |ex c fs=>rfl
 |no=>rfl
def xp:Out->Res D
 | .ret d=>.ok d
 | .next _=>.ok .non
 |_=>.no
@[simp]def kf (d:D):xp (.ret d)=.ok d:=rfl
def uH (n ar:Nat)(g:FS)(ds:YG)(h:ds.length=ar):jF n ar g ds=(g (JW n ds)).bind xp:=by
 unfold jF;rw[Zd h];rfl
def yN:Out->Res D
 | .ret d=>.ok d
 |_=>.no
@[simp]def kg (d:D):yN (.ret d)=.ok d:=rfl
def GR (n ar:Nat)(g:FS)(ds:YG)(h:ds.length=ar):qk n ar g ds=(g (JW n ds)).bind yN:=by
 unfold qk;rw[Zd h];rfl
@[simp]def mz (n:Nat)(g:FS)(a:D):jF n 1 g [a]=(g (some (.val a)::List.replicate (n-1) none)).bind xp:=uH n 1 g [a] rfl
@[simp]def my (n:Nat)(g:FS)(a b:D):jF n 2 g [a,b]=(g (some (.val a)::some (.val b)::List.replicate (n-2) none)).bind xp:=rfl
@[simp]def mx (n:Nat)(g:FS)(a b c:D):jF n 3 g [a,b,c]=(g (some (.val a)::some (.val b)::some (.val c)::List.replicate (n-3) none)).bind xp:=rfl
@[simp]def mv (n:Nat)(g:FS)(a:D):qk n 1 g [a]=(g (some (.val a)::List.replicate (n-1) none)).bind yN:=GR n 1 g [a] rfl
@[simp]def mu (n:Nat)(g:FS)(a b:D):qk n 2 g [a,b]=(g (some (.val a)::some (.val b)::List.replicate (n-2) none)).bind yN:=rfl
@[simp]def mt (n:Nat)(g:FS)(a b c:D):qk n 3 g [a,b,c]=(g (some (.val a)::some (.val b)::some (.val c)::List.replicate (n-3) none)).bind yN:=rfl
@[simp]def gr (i j:Int):j8 (.int i) (.int j)=some (.int (i+j)):=rfl
@[simp]def kY (i j:Int):qA (.int i) (.int j)=some (.int (i-j)):=rfl
@[simp]def gc (i:Int):zu (.int i)=some (.int (-i)):=rfl
@[simp]def hY (i j:Int):hZ (.int i) (.int j)=some (.bl (decide (i<j))):=rfl
@[simp]def bm (i j:Int):vM (.int i) (.int j)=some (.bl (decide (j<i))):=rfl
@[simp]def bo (i j:Int):ng (.int i) (.int j)=some (.bl (decide (j<=i))):=rfl
@[simp]def gq (i j:Int):qU (.int i) (.int j)=some (.bl (decide (i=j))):=PB i j
@[simp]def gd (i j:Int):wS (.int i) (.int j)=some (.bl (!decide (i=j))):=PF i j
def AR (h:Ky i j=true):xU (.int i) (.int j)=some (.int (i*j)):=by
 show(if Ky i j then _ else _)=_;rw[Zd h]
def Rt (a: -18446744073709551616<j)(b:j<18446744073709551616):Ky i j=true:=by
 unfold Ky;rw[U0,U0,UF,UF];exact .inl ()
def GS (a: -18446744073709551616<i)(b:i<18446744073709551616):Ky i j=true:=by
 unfold Ky;rw[U0,U0,UF,UF];exact .inl ()
def Ru (a:i.natAbs<xW)(b:j.natAbs<xW):Ky i j=true:=by
 simp_all [Ky]
@[simp]def Rv (h:0<j):xQ (.int i) (.int j)=some (.int (i % j)):=by
 show(if Us 0 j.toNat then _ else _)=_;rw[Zd (by rw[UF];lia)]
@[simp]def GT (h:0<j)(a:j<1073741824):YP (.int i) (.int j)=some (.int (i / j)):=by
 show(if Us 0 j.toNat&&Us j.toNat 1073741824 then _ else _)=_;rw[Zd (by rw[Uh,UF,UF];lia)]
@[simp]def gg (ds:YG):qs [.lst ds]=some (.int ds.length):=rfl
@[simp]def gf (ns:Yh):qs [.scr ns]=some (.int ns.length):=rfl
@[simp]def p7 (i j:Int):YR [.int i,.int j]=some (.int (if j > i then j else i)):=rfl
@[simp]def pT (i j:Int):AM [.int i,.int j]=some (.int (if j<i then j else i)):=rfl
@[simp]def pR (ds:YG):Kz [.lst ds]=some (.lst ds):=rfl
@[simp]def pV (ds:YG):Xw [.lst ds]=some (.tup ds):=rfl
@[simp]def bh (ds:YG)(k:Int):qf (.lst ds) (.int k)=qQ ds k:=rfl
@[simp]def bd (ns:Yh)(k:Int):qf (.scr ns) (.int k)=(qQ ns k).map .int:=rfl
@[simp]def bi (ks:List j0)(ds:YG)(k:Int):qf (.dct ks ds) (.int k)=jE ks ds (.inl k):=rfl
@[simp]def bj (a:Bool)(ks:List j0)(ds:YG)(k:Int):wA a (.int k) (.dct ks ds)=some (.bl (if a then !(jE ks ds (.inl k)).isSome else(jE ks ds (.inl k)).isSome)):=rfl
@[simp]def pr (k:Int):Q2 (.int k)=some (.inl k):=rfl
@[simp]def Dp (h:r.length<=100)(o:j6 r):WP [j3 r]=some (yi r):=by
 show(Kx (j3 r)).bind _=_;rw[Gv];show(if r.length<=100 then some (yi (Xx r)) else none)=_;rw[Zd h,Rb o]
def AS (h:ns ≠ []):VZ [.lst (ns.map .int)]=some (.int (jW ns)):=by
 simp_all [VZ,Dc]
def Dq (h:ns ≠ []):Wa [.lst (ns.map .int)]=some (.int (q0 ns)):=by
 simp_all [Wa,Dc]
theorem AT:∀{r:Jy},j6 r->∀t:Int,jE (r.map λp=>.inl p.1) (r.map λp=>.int p.2) (.inl t)=(J6 r t).map .int
 | [],_,t=>rfl
 |p::r,o,t=>by
  have a:j6 r:=by simp_all [j6]
  have n:p.1∉r.map (·.1):=by simp_all [j6]
  rw[Zl,Zl,CV,A4];by_cases h:p.1=t
  .rw[Zd (by rw[h])];cases q:J6 r t with
   |none=>rw[Zd h];rfl
   |some w=>exact Zn (Ja.mpr ⟨(t,w),Qh q,h.symm⟩) n
  .rw[Ze (λz=>h (by injection z)),AT a t]
   grind
def GU:D->Res (List j0×YG)
 | .dct ks ds=>.ok (ks,ds)
 |_=>.no
@[simp]def pM (ks:List j0)(ds:YG):GU (.dct ks ds)=.ok (ks,ds):=rfl
@[simp]def b5 (fo a b:FE)(sd:SD):AO fo a b sd=(fo sd).bind λd=>(GU d).bind λo=>(a sd).bind λk=>(b sd).bind λx=>.ofO ((Q2 k).map λq=>(jE o.1 o.2 q).getD x):=by
 unfold AO;cases fo sd with
 |ok d=>cases d<;>rfl
 |ex c fs=>rfl
 |no=>rfl
def Rx (r:Jy)(t:Int):yO (.inl t) (r.map λp=>.inl p.1)=r.any λp=>decide (p.1=t):=by
 unfold yO;rw[List.any_map]
 congr 1
 funext p
 exact Gj
def Ry (r:Jy)(t w:Int):D.dct (VY (r.map λp=>.inl p.1) (.inl t)) (Wu (r.map λp=>.inl p.1) (r.map λp=>.int p.2) (.inl t) (.int w))=yi (qL r t w):=by
 unfold VY Wu yi qL;rw[Rx];have ch:∀r:Jy,zz (r.map λp=>.inl p.1) (r.map λp=>.int p.2) (.inl t) (.int w)=(r.map λp=>if p.1=t then(p.1,w) else p).map λp=>D.int p.2:=by
  intro r
  induction r with
  |nil=>rfl
  |cons p r a =>
   rw[Zl,Zl,Zl,Zl,Gz,a];by_cases h:p.1=t
   .rw[Zd (by rw[h]),Zd h]
   .rw[Ze (λz=>h (by injection z)),Ze h]
 have b:∀r:Jy,(r.map λp=>if p.1=t then(p.1,w) else p).map (λp=>(Ue p.1:j0))=r.map λp=>.inl p.1:=by
  intro r;rw[Zw]
  congr 1
  funext p
  show(Ue (if p.1=t then(p.1,w) else p).1:j0)=_;by_cases h:p.1=t
  .rw[Zd h]
  .rw[Ze h]
 by_cases q:(r.any λp=>decide (p.1=t))=true
 .rw[Zd q,Zd q,Zd q,ch,b]
 .rw[Ze q,Ze q,Ze q,Uc,Uc];rfl
@[simp]def lh (fo:FE)(sd:SD):Dl fo sd=(fo sd).bind λd=>.ofO (Dk d):=rfl
def Rz (h:r ≠ [])(a:r.length<1000):Dk (yi r)=some (.lst ((JP jR r).map qM)):=by
 show(YU _ _).bind _=_
 simp_all [Rl]
@[simp]def rJ (f:FE)(sd:SD):iS f sd=(f sd).bind λd=>.ofO (WQ d):=rfl
@[simp]def p6 (ds:YG):WQ (.lst ds)=some ds:=rfl
@[simp]def pQ (ds:YG):WQ (.tup ds)=some ds:=rfl
def KW:YG->Res YG
 | [.int j]=>if WR j then .ok (JS 0 j.toNat) else .no
 |_=>.no
@[simp]def nI (a:FA)(sd:SD):zt a sd=(a sd).bind KW:=by
 rfl
def Wx (a: -1000000000<=j)(b:j<=1000000000):KW [.int j]=.ok (JS 0 j.toNat):=Zd (GF a b)
def Xy {lo:Int}{n i:Nat}{x:D}(h:(JS lo n)[i]? = some x):x=.int (lo+i)/\i<n:=by
 grind[JS,List.getElem?_map,List.length_range]
def WS (lo:Int)(n:Nat):(JS lo n).length=n:=by unfold JS;simp
def xq (tg:Tg)(b:FS)(ds:YG)(sd:SD):Res Out:=yB (λx sd=>(JO tg x sd).bind b) ds sd
@[simp]def R0 (it:FA)(tg:Tg)(b:FS)(sd:SD):qj it tg b sd=(it sd).bind λds=>xq tg b ds sd:=rfl
@[simp]def GV (i:Nat)(d:D)(sd:SD):JO (.one i) d sd=.ok (sd.set i (some (.val d))):=rfl
@[simp]def ph (i j:Nat)(a b:D)(sd:SD):JO (.tup [i,j]) (.tup [a,b]) sd=.ok ((sd.set i (some (.val a))).set j (some (.val b))):=rfl
@[simp]def pX (i j:Nat)(p:Int×Int)(sd:SD):JO (.tup [i,j]) (qM p) sd=.ok ((sd.set i (some (.val (.int p.1)))).set j (some (.val (.int p.2)))):=rfl
def Xz (P:Nat->SD->Prop)(n:P 0 sd)(hs:∀(i:Nat) (x:D) (sd:SD),ds[i]? = some x->P i sd->∃sd',(JO tg x sd).bind b=.ok (.next sd')/\P (i+1) sd'):∃sd',xq tg b ds sd=.ok (.next sd')/\P ds.length sd':=by
 have f:∀(k i:Nat) (sd:SD),ds.length-i=k->i<=ds.length->P i sd->∃sd',xq tg b (ds.drop i) sd=.ok (.next sd')/\P ds.length sd':=by
  intro k
  induction k with
  |zero =>
   intro i sd e g p;have:i=ds.length:=()
   subst this;rw[UM];exact⟨sd,rfl,p⟩
  |succ k h =>
   intro i sd e g p;have a:i<ds.length:=()
   rw[Uu a];obtain⟨sd',j,l⟩:=hs i ds[i] sd () p;obtain⟨c,o,m⟩:=h (i+1) sd' () a l;refine⟨c,?_,m⟩;unfold xq yB
   rwa [j]
 grind
def X0 (R:Res Out->Prop)(P:Nat->SD->Prop)(l:P 0 sd)(g:∀sd,P ds.length sd->R (.ok (.next sd)))
 (hs:∀(i:Nat) (x:D) (sd:SD),ds[i]? = some x->P i sd->(∃sd',((JO tg x sd).bind b=.ok (.next sd')\/(JO tg x sd).bind b=.ok (.cont sd'))/\P (i+1) sd')\/(∃sd',(JO tg x sd).bind b=.ok (.brk sd')/\R (.ok (.next sd')))\/∃d,(JO tg x sd).bind b=.ok (.ret d)/\R (.ok (.ret d))):R (xq tg b ds sd):=by
 have h:∀(k i:Nat) (sd:SD),ds.length-i=k->i<=ds.length->P i sd->R (xq tg b (ds.drop i) sd):=by
  intro k
  induction k with
  |zero =>
   intro i sd e j p;have:i=ds.length:=()
   subst this;rw[UM];exact g sd p
  |succ k f =>
   intro i sd e j p;have a:i<ds.length:=()
   rw[Uu a];unfold xq yB;rcases hs i ds[i] sd () p with ⟨sd',h1|h1,c⟩|⟨sd',h1,c⟩|⟨d,h1,c⟩
   .rw[h1];exact f (i+1) sd' () a c
   .rw[h1];exact f (i+1) sd' () a c
   .rwa [h1]
   .rwa [h1]
 grind
def GW {α β γ: Type}{f:α -> Res β}{k:γ -> α}{g:γ -> β}{a:List γ}(h:∀x∈a,f (k x)=.ok (g x)):ye f (a.map k)=.ok (a.map g):=by
 induction a with
 |nil=>rfl
 |cons x a b =>
  simp_all [ye]
def qh (tg:Tg)(f:FE)(c:SD)(ds:YG):Res YG:=ye (λx=>(JO tg x c).bind f) ds
@[simp]def b9 (cap:List (Option Nat))(it:FA)(tg:Tg)(f:FE)(sd:SD):Q0 cap it tg f sd=(it sd).bind λds=>if VX (jY cap sd) tg=true/\ds.length<sizeLine then(qh tg f (jY cap sd) ds).bind λys=>.ok (.lst ys) else .no:=rfl
def fA:Option (Option SV)->Option SV
 |some (some (.val d))=>some (.val d)
 |_=>none
@[simp]def f9 (d:D):fA (some (some (.val d)))=some (.val d):=rfl
@[simp]def fB (sd:SD):jY [] sd=[]:=rfl
@[simp]def nO (cap:List (Option Nat))(sd:SD):jY (none::cap) sd=none::jY cap sd:=rfl
@[simp]def nN (j:Nat)(cap:List (Option Nat))(sd:SD):jY (some j::cap) sd=fA sd[j]? :: jY cap sd:=rfl
@[simp]def pW (sd:SD)(i:Nat):VX sd (.one i)=V9 sd i:=rfl
@[simp]def pY (sd:SD)(is:Yj):VX sd (.tup is)=is.all (V9 sd):=rfl
@[simp]def kB (sd:SD):V9 (none::sd) 0=true:=rfl
@[simp]def kA (o:Option SV)(sd:SD)(i:Nat):V9 (o::sd) (i+1)=V9 sd i:=rfl
def K0 {α: Type}{k:α -> D}{g:α -> D}{a:List α}(h:∀x∈a,(JO tg (k x) c).bind f=.ok (g x)):qh tg f c (a.map k)=.ok (a.map g):=GW h
def Dr {tg:Tg}{f:FE}{c:SD}{lo:Int}{n:Nat}{g:Nat->D}(h:∀i,i<n->(JO tg (.int (lo+i)) c).bind f=.ok (g i)):qh tg f c (JS lo n)=.ok ((List.range n).map g):=GW ()
@[simp]def pO (cap:List (Option Nat))(it:FA)(tg:Tg)(c:FT)(f:FE)(sd:SD):Wc cap it tg c f sd=(it sd).bind λds=>if VX (jY cap sd) tg=true/\ds.length<sizeLine then(Ki tg c f (jY cap sd) ds).bind λys=>.ok (.lst ys) else .no:=rfl
def YV {α: Type}{k:α -> D}{s:α -> SD}{p:α -> Bool}{g:α -> D}{a:List α}(b:∀x∈a,JO tg (k x) sd=.ok (s x))(e:∀x∈a,c (s x)=.ok (p x))(h:∀x∈a,p x=true->f (s x)=.ok (g x)):
 Ki tg c f sd (a.map k)=.ok ((a.filter p).map g):=by
 induction a with
 |nil=>rfl
 |cons x a i =>
  grind[Ki,List.map_cons,List.filter_cons,jh]
def JT (h:n<=1000):n<sizeLine:=Fg h
@[simp]def lj (i:Int):yA [.int i,.ty "bool"]=some (.bl false):=rfl
@[simp]def lf (i:Int):yA [.int i,.ty "int"]=some (.bl true):=rfl
def Qf {α: Type}(a:List α)(lo b st:Option Int):List α:= (sliceRange (sliceBounds lo b st a.length).1 (sliceBounds lo b st a.length).2.1 (sliceBounds lo b st a.length).2.2).filterMap (a[·]?)
def GX (its:Yf)(lo a st:Option Int):slicePick its.toArray lo a st=(Qf its lo a st).toArray:=by
 simp_all [slicePick,Qf]
def R1 {a:YE}{its:Yf}(r:jp a its)(lo b st:Option Int):jp (Qf a lo b st) (Qf its lo b st):=by
 unfold Qf;rw[r.length];generalize sliceRange _ _ _=ix
 induction ix with
 |nil=>exact .nil
 |cons i ix c =>
  rw[Uz,Uz];cases e:a[i]? with
  |none=>rw[r.none_of e];exact c
  |some x =>
   obtain⟨u,f,g⟩:=r.get e;rw[f];exact .cons g c
def R3 {K:W.Frag}{H:Hp}{ds:YG}{a:YE}(r:je K H ds a)(lo b st:Option Int):je K H (Qf ds lo b st) (Qf a lo b st):=by
 unfold Qf;rw[r.length];generalize sliceRange _ _ _=ix
 induction ix with
 |nil=>exact .nil
 |cons i ix c =>
  rw[Uz,Uz];cases e:ds[i]? with
  |none =>
   have f:a[i]? = none:=List.getElem?_eq_none_iff.mpr (by rw[r.length];simp_all)
   rwa [f]
  |some x =>
   obtain⟨u,g,h⟩:=r.get e;rw[g];exact .mk h c
def GY {α β: Type}(f:α -> β)(a:List α)(lo b st:Option Int):Qf (a.map f) lo b st=(Qf a lo b st).map f:=by
 grind[Qf,Zql,List.filterMap_cons,List.getElem?_map]
def R4 {α: Type}(a:List α)(lo b st:Option Int):(Qf a lo b st).length<=a.length:=by
 have h:=slicePick_size_le (a.map λ_=>Value.none).toArray lo b st
 simp_all [GX,GY]
section
variable {X:Cx}{E:XK}{m:Option Bool}{a b o i e f tg:Expr}{fa fb fo fi fv fe:FE}{fr:FA}{pos pos' apos cpos p p2:Pos}{lo hi st:Option Expr}
abbrev FO:=SD->Res (Option Int)
def cE (K:W.Frag)(E:XK)(f:FO):TO:=λZ H Q=>∃B F sd,RS K B F H sd Z /\ (f sd).need (λo=>∀g c,Ext F H g c->Q o c) (XW K E F H)
def Wy:FO:=λ_=>.ok none
def Wz (f:FE):FO:=λsd=>(f sd).bind λd=>match d with
 | .int i=>.ok (some i)
 |_=>.no
abbrev QO (X:Cx)(E:XK)(e:Option Expr)(f:FO):Prop:=PO X e (cE X.K E f)
def PO.weak {e:Option Expr}{t t':TO}(h:PO X e t)(w:∀Z H Q,t' Z H Q->t Z H Q):PO X e t':=λY s Z H Q I q=>h Y s Z H Q I (w _ _ _ q)
def YW:QO X E none Wy:=PO.weak NH λZ H Q ⟨B,F,sd,r,n⟩=>n F H (.refl r.ext.fh)
def AU (h:QE X E e fe):QO X E (some e) (Wz fe):=PO.weak (NI h) λZ H Q g=>by
 obtain⟨B,F,sd,r,n⟩:=g;refine⟨B,F,sd,r,(ja n).mono (λd c v j l s t=>?_) λ_ _ q=>q⟩;cases d with
 |int i=>exact⟨i,jd.mp t,c j l s⟩
 |_=>exact c.elim
def m5 (K:W.Frag):V->Option Int->Option Int->Option Int->Hp->VK->Prop:=λx lo hi st H Q=>∃a c,x=.ref a/\qZ K H a c/\st≠some 0/\∀p,H p=none->Q (.ref p) (j9 H p (.lst (Qf c lo hi st)))
def bY (r:V->Option Int->Option Int->Option Int->Hp->VK->Prop)(g:TE)(h j n:TO):TE:=λZ H Q=>g Z H λx q=>h Z q λl s=>j Z s λu t=>n Z t λc v=>r x l u c v Q
def R5 {t:TE}{w y z:TO}(J:PE X e t)(K:PO X lo w)(L:PO X hi y)(hs:PO X st z):PE X (.Subscript e (.Slice lo hi st p2) pos) (bY (m5 X.K) t w y z):=by
 intro Y s Z H Q I h;refine Subscript_ (jK (J Y s Z H _ I h) λv M ⟨x,N,O,P,R⟩=>(wpAny_Slice (jK (K Y M Z N _ O R) λA S ⟨l,T,U,pl,q2⟩=>jK (L Y S Z T _ U q2) λB s3 ⟨u,H3,I3,pu,q3⟩=>jK (hs Y s3 Z H3 _ I3 q3) λC g ⟨c,H4,I4,ps,q4⟩=>?_)));obtain⟨a,F,rfl,hx,h0,q⟩:=q4;obtain rfl:=P;have j:Inv X Y Z H4 { g with heap:=g.heap.push { cls:=.type "slice",data:=.fields #[A,B,C] } }:=I4.kept λb ob q=>Zq _ q;obtain⟨its,r,n,hz⟩:=j.list hx;have G:=r.length
 suffices fin:YI X (getItem (.ref a) (.ref g.heap.objs.size)) (EP X Y Z Q) X.xe { g with heap:=g.heap.push { cls:=.type "slice",data:=.fields #[A,B,C] } } by
  cases st with
  |none=>exact tail_any n.isList.typeIs slot_list_getitem.lookup fin (by with_unfolding_all rfl)
  |some c=>exact tail_any n.isList.typeIs slot_list_getitem.lookup fin (by with_unfolding_all rfl)
 refine wpAny_getItem_list_slice n.isList (Heap.IsSliceOf.new ..) pl pu ps h0 ?_ ();rw[GX];exact⟨.ref _,_,j.laid (o:=.lst (Qf F l u c)) (λb ob q=>Zq _ q) (Zf _) ⟨Zh (R4 F l u c) hz,_,0,R1 r l u c,Zr _ rfl⟩,rfl,q _ (j.hok.fresh (Zf _))⟩
def hX:D->Option Int->Option Int->Option Int->YH
 | .lst ds,lo,hi,st=>if st=some 0 then none else some (.lst (Qf ds lo hi st))
 | .scr ns,lo,hi,st=>if st=some 0 then none else some (.lst ((Qf ns lo hi st).map .int))
 |_,_,_,_=>none
def vN (fe:FE)(g j fs:FO):FE:=λsd=>(fe sd).bind λd=>(g sd).bind λl=>(j sd).bind λh=>(fs sd).bind λc=>.ofO (hX d l h c)
def Ds {A C fs:FO}(J:QE X E e fe)(K:QO X E lo A)(L:QO X E hi C)(hs:QO X E st fs):QN X E (.Subscript e (.Slice lo hi st p2) pos) (vN fe A C fs):=PE.weak (R5 J K L hs) λZ H Q M=>by
 obtain⟨B,F,sd,r,n⟩:=M;refine⟨B,F,sd,r,(ja n).mono (λd N v O H1 j G=>⟨B,O,sd,r.step j,(ja N).mono (λl P R H2 s=>(⟨B,R,sd,(r.step j).step s,(ja P).mono (λh S T H3 w=>⟨B,T,sd,((r.step j).step s).step w,(ja S).mono (λc U I H4 t=>?_) λ_ _ q=>q.ext ((j.trans s).trans w)⟩) λ_ _ q=>q.ext (j.trans s)⟩)) λ_ _ q=>q.ext j⟩) λ_ _ q=>q⟩;obtain⟨z,hz,q⟩:=jg U;have g:=((s.trans w).trans t);have u:=j.trans g;cases d with
 |lst ds =>
  have hz:(if c=some 0 then none else some (D.lst (Qf ds l h c)))=some z:=hz
  split at hz
  .exact J2 hz
  .rename_i x;obtain rfl:=Zqi hz;obtain⟨a,Y,rfl,y,h2⟩:=G;exact⟨a,Y,rfl,((y.same g.ff).same g.fh).sq,x,λp hp=>q p I _ (u.trans (.keep t.fh hp _)) (Qd u.hh hp) (Qd t.fh hp) ⟨_,JL,R3 (je.same g.ff _ _ h2) l h c⟩⟩
 |scr ns =>
  have hz:(if c=some 0 then none else some (D.lst ((Qf ns l h c).map .int)))=some z:=hz
  split at hz
  .exact J2 hz
  .rename_i x;obtain rfl:=Zqi hz;obtain⟨a,rfl,y⟩:=G;refine⟨a,_,rfl,jk.seq g.fh (jk.seq g.ff y),x,λp hp=>q p I _ (u.trans (.keep t.fh hp _)) (Qd u.hh hp) (Qd t.fh hp) ⟨_,JL,?_⟩⟩;rw[GY];exact qC _
 |_=>exact J2 hz
@[simp]def rG (fe:FE)(g j fs:FO)(sd:SD):vN fe g j fs sd=(fe sd).bind λd=>(g sd).bind λl=>(j sd).bind λh=>(fs sd).bind λc=>.ofO (hX d l h c):=rfl
@[simp]def pL (sd:SD):Wy sd=.ok none:=rfl
def Dt:D->Res (Option Int)
 | .int i=>.ok (some i)
 |_=>.no
@[simp]def lc (i:Int):Dt (.int i)=.ok (some i):=rfl
@[simp]def br (f:FE)(sd:SD):Wz f sd=(f sd).bind Dt:=by
 rfl
@[simp]def kZ (ds:YG)(lo hi:Option Int):hX (.lst ds) lo hi none=some (.lst (Qf ds lo hi none)):=rfl
def R6 {ds:Yh}{lo hi:Option Int}{c:Int}(h:c≠0):hX (.scr ds) lo hi (some c)=some (.lst ((Qf ds lo hi (some c)).map .int)):=Ze λz=>h (Zqi z)
def YX (i:Nat)(c fv:FE):FS:=λsd=>(fv sd).bind λv=>match sd[i]? with
 |some (some (.own false (.lst ds)))=>(c sd).bind λk=>match k with
  | .int k=>match yf ds.length k with
   |some j=>.ok (.next (sd.set i (some (.own false (.lst (ds.set j v))))))
   |none=>.no
  |_=>.no
 |_=>.no
def GZ {j:Nat}(A:PE X o (xM j))(hi:QE X E i fi)(C:QE X E e fv)(G:∀v,assign (.Subscript o i pos') X.env v=(do
 let s <- holding [v] (eval o X.env)
 let u <- holding [v,s] (eval i X.env)
 standAt pos'
 holding [v,s,u] (setItem s u v)
 release [v,s,u] []):=by intro _;rfl) (hs:swapsWithSole [.Subscript o i pos'] e pos.line X.env=pure false:=by rfl) (I:swappedStores [.Subscript o i pos'] e X.env=pure none:=by rfl)
 (t:(assignEach [.Subscript o i pos'] X.env).map (·.2)=[assign (.Subscript o i pos') X.env]:=by rfl):QS X E m (.Assign [.Subscript o i pos'] e pos) (YX j fi fv):=PS.weak (ED C (EC A hi EV G) hs I t) λT Z H J=>by
 obtain⟨B,F,sd,r,n⟩:=J;refine⟨B,F,sd,r,(ja n).mono (λd x v K U c L=>?_) λ_ _ q=>q.ext r.ext⟩
 split at x
 .rename_i ds y;obtain⟨l,t,Y,h3,⟨M,N,z⟩,_⟩:=(r.step c).own y;refine⟨.ref l,t,B,K,sd,r.step c,(ja x).mono (λk g w O H2 h P=>?_) λ_ _ q=>q.ext (r.step c).ext⟩
  split at g
  .rename_i k
   split at g
   .rename_i q Q;have R:=h.hh _ _ N;have S:=z.length;refine⟨l,M,k,q,rfl,jd.mp P,R,by rw[S];exact Q,?_⟩;exact g Z O _ (c.ff.trans h.ff) (((r.step c).step h).chg y t ⟨_,JL,(je.same h.ff _ _ z).set q (jf.same h.ff _ _ L)⟩)
   .exact g.elim
  .exact g.elim
 .exact x.elim
@[simp]def b4 (i:Nat)(g fv:FE)(sd:SD):YX i g fv sd=(fv sd).bind λv=>(wP sd[i]?).bind λds=>(g sd).bind λk=>(Dt k).bind λk=>(Res.ofO (yf ds.length (k.getD 0))).bind λj=>.ok (.next (sd.set i (some (.own false (.lst (ds.set j v)))))):=by
 unfold YX;cases fv sd with
 |ok v =>
  cases sd[i]? with
  |none=>rfl
  |some o =>
   cases o with
   |none=>rfl
   |some w =>
    cases w with
    |val d=>rfl
    |own p d =>
     cases p with
     |true=>cases d<;>rfl
     |false =>
      cases d with
      |lst ds =>
       cases g sd with
       |ok k =>
        cases k with
        |int k=>show(match yf ds.length k with|some j=>_|none=>_)=(Res.ofO (yf ds.length k)).bind _;cases yf ds.length k<;>rfl
        |_=>rfl
       |ex c fs=>rfl
       |no=>rfl
      |_=>rfl
 |ex c fs=>rfl
 |no=>rfl
@[simp]def gW (i:Nat)(fb:FE)(sd:SD):Ww i fb sd=(v6 sd[i]?).bind λd=>(fb sd).bind λy=>.ofO (qf d y):=by
 unfold Ww;cases sd[i]? with
 |none=>rfl
 |some o =>
  cases o with
  |none=>rfl
  |some v=>cases v<;>rfl
@[simp]def gn (c:Bool):xA c .non=some (.bl (!c)):=rfl
@[simp]def gp (c:Bool)(i:Int):xA c (.int i)=some (.bl c):=rfl
def X1:YG->YH
 | [.lst ds]=>(Q1 Kx ds).bind λrs=>if(∀r∈rs,r ≠ [])/\rs.length<1000 then some (.lst ((JP j5 rs).map j3)) else none
 |_=>none
def R7 (w:X.A.units+64<cLine):jS X (.builtin "sorted") (zT X.K X1):=jS.weak (Pi w) λK H Q y=>by
 obtain⟨F,ds,z,g,id,hz,q⟩:=y;unfold X1 at hz
 split at hz
 .obtain⟨rs,A,hz⟩:=Jg.mp hz
  split at hz
  .rename_i t;obtain rfl:=Zqi hz;obtain⟨v,rfl,h⟩:=Q3 id;rw[CP A,jj] at h;obtain⟨a,ys,rfl,B,r⟩:=h;refine⟨a,ys,rs,rfl,B.same g,wy.mp (je.same g _ _ r),t.1,t.2,λl ix n c u=>?_⟩;have L:H l=none:=n;refine q l F _ (.keep g n _) n (Qd g n) ⟨_,JL,?_⟩;rw[<- u,Zw];have C:=r.length;rw[Zql] at C;clear u
   induction ix with
   |nil=>exact .nil
   |cons i ix G =>
    rw[Zl,Zl];have hi:=c i Zqs;obtain⟨x,I,s⟩:=r.get (i:=i) (d:=j3 (rs.getD i [])) (by rw[Zv,Zqg hi,JX (Zqg hi)];rfl);rw[JX I];exact .mk s (G λj J=>c j (Zqm _ J))
  .exact J2 hz
 .exact J2 hz
end
end L2.DL
namespace L2
section
variable {X:Cx}
def R8 (i:X.calm=true):jS X (.builtin "sum") (λf H Q=>∃(a:Addr) (ns:Yh),f=[.ref a]/\qZ X.K H a (ns.map V.int)/\Q (.int ns.sum) H):=by
 intro Y s Z H f o Q I r h;obtain⟨a,ns,rfl,j,q⟩:=h;obtain⟨u,rfl,l⟩:=QM r;obtain rfl:u=Value.ref a:=l;obtain⟨its,m,p,hz⟩:=I.list j;have g:IntsAre its ns:=Cd m;obtain⟨ys,e⟩:=g.allInts.items;have c:ns=ys.toList.map (·.1):=by
  rw[<- g.numsOf,<- nums_intItems,<- e]
 have b:=p.isList;rw[e] at b;refine sum_intListG (I.ok.hd i) b λh' tk t' n=>?_;refine⟨.int ns.sum,H,I.kept n,⟨t',?_⟩,q⟩;rw[preSum_eq,UQ (),<- c]
end
end L2
namespace L2.DL
def zX:YG->YH
 | [d]=>(Xv d).bind λns=>some (.int ns.sum)
 |_=>none
section
variable {X:Cx}{E:XK}{m:Option Bool}{a b o i e f tg:Expr}{fa fb fo fi fv fe:FE}{fr:FA}{pos pos' apos cpos p p2:Pos}{lo hi st:Option Expr}
def fD (g:X.calm=true):jS X (.builtin "sum") (zU X.K zX):=jS.weak (R8 g) λr H Q j=>by
 obtain⟨F,ds,z,c,id,hz,q⟩:=j;unfold zX at hz
 split at hz
 .obtain⟨ns,l,hz⟩:=Jg.mp hz;obtain rfl:=Zqi hz;obtain⟨v,rfl,h⟩:=Q3 id;obtain⟨a,rfl,n⟩:=Db l h;exact⟨a,ns,rfl,(n.same c).sq,q _ F H (.refl c) (y7 _ F)⟩
 .exact J2 hz
end
@[simp]def pN (ns:Yh):zX [.lst (ns.map .int)]=some (.int ns.sum):=by
 show(Xv _).bind _=_;rw[Dc];rfl
end L2.DL
namespace L2
end L2
namespace L2.DL
end L2.DL
namespace L2.ST
open PySem
def yH:Nat->Nat->Nat
 | 0,z=>z
 |n+1,z=>yH n (5*z+1)
def Ha (a b z:Nat):yH (a+b) z=yH b (yH a z):=by
 induction a generalizing z with
 |zero=>rw[Vi];rfl
 |succ a c=>rw[Nat.succ_add];exact c _
def Hb (n z d:Nat):yH n (z+d)=yH n z+5 ^ n*d:=by
 induction n generalizing z d with
 |zero=>simp[yH]
 |succ n a =>
  show yH n (5*(z+d)+1)=yH n (5*z+1)+5 ^ (n+1)*d
  grind
def m7 (n:Nat):5 ^ n % 4=1:=by
 induction n with
 |zero=>rfl
 |succ n a=>lia
def R9 (k z:Nat):∃u,yH (2 ^ k) z=z+2 ^ k*(2*u+1):=by
 induction k generalizing z with
 |zero=>exact⟨2*z,by show 5*z+1=z+1*(2*(2*z)+1);lia⟩
 |succ k b =>
  obtain⟨u,a⟩:=b z;have e:2 ^ (k+1)=2 ^ k+2 ^ k:=()
  rw[e,Ha,a,Hb,a];have c:=m7 (2 ^ k);have ⟨v,hv⟩:∃v,5 ^ (2 ^ k)=4*v+1:=⟨5 ^ (2 ^ k) / 4,()⟩;refine⟨2*u*(2*v+1) / 2+v,?_⟩;have:2*u*(2*v+1) / 2=u*(2*v+1):=by grind
  grind
def RA (m n z:Nat):yH n z % m=yH n (z % m) % m:=by
 have h:=Hb n (z % m) (m*(z / m));rw[Nat.mod_add_div] at h;rw[h,<- Nat.mul_assoc,Nat.mul_comm _ m,Nat.mul_assoc,Nat.add_mul_mod_self_left]
theorem Du:∀(k x y:Nat),y<2 ^ k->∃q,q<2 ^ k/\yH q x % 2 ^ k=y
 | 0,x,y,h=>by grind
 |k+1,x,y,h=>by
  have e:2 ^ (k+1)=2*2 ^ k:=by rw[Nat.pow_succ];lia
  have hp:0<2 ^ k:=Nat.two_pow_pos k;obtain⟨q,n,f⟩:=Du k x (y % 2 ^ k) (Uy _ hp);rw[e] at h ⊢;by_cases c:yH q x % (2*2 ^ k)=y
  .exact⟨q,(),c⟩
  .refine⟨q+2 ^ k,(),?_⟩;rw[Ha];obtain⟨u,i⟩:=R9 k (yH q x);rw[i];generalize yH q x=w at *;generalize 2 ^ k=m at *;have j:w+m*(2*u+1)=(w+m)+(2*m)*u:=by grind
   rw[j,Nat.add_mul_mod_self_left];have d1:=Nat.div_add_mod w m;have o:=Nat.div_add_mod y m;have p:=Nat.div_add_mod w (2*m);have g:=Uy w (show 0<2*m from ());rw[f] at d1;have a:w % (2*m) % m=y % m:=by rw[Nat.mod_mul_left_mod];exact f
   have a1:w % (2*m)<m\/m<=w % (2*m):=()
   have a2:y<m\/m<=y:=()
   have b:∀t,t<2*m->m<=t->t % m=t-m:=λt r l=>by
    rw[Nat.mod_eq_sub_mod l,UR ()]
   rw[Nat.add_mod,UR (show m<2*m from ())];generalize w % (2*m)=t at *;rcases a1 with a1|a1<;>rcases a2 with a2|a2
   .rw[UR a1,UR a2] at a;exact Zn a c
   .rw[UR a1,b y h a2] at a;rw[UR ()];lia
   .rw[UR a2,b t g a1] at a;rw[Nat.mod_eq_sub_mod (),UR ()];lia
   .rw[b t g a1,b y h a2] at a;exact Zn () c
def JE (t:YD):Nat->SetTable.Probe->SetTable.Probe
 | 0,p=>p
 |n+1,p=>JE t n (t.advance p)
def YY (t:YD)(a b:Nat)(p:SetTable.Probe):JE t (a+b) p=JE t b (JE t a p):=by
 induction a generalizing p with
 |zero=>rw[Vi];rfl
 |succ a c=>rw[Nat.succ_add];exact c _
def RB (t:YD)(n:Nat)(p:SetTable.Probe):JE t (n+1) p=t.advance (JE t n p):=YY t n 1 p
def Kj (mask i pert:Nat):SetTable.Probe:={ j:=i,more:=SetTable.runEnd mask i-i,i:=i,perturb:=pert,dummy:=none }
def qK (mask:Nat):Nat->Nat×Nat->Nat×Nat
 | 0,s=>s
 |n+1,s=>qK mask n (SetTable.leap mask s.1 s.2)
def AV (mask i:Nat):SetTable.runEnd mask i-i<=9:=by
 grind[SetTable.runEnd]
def Hc (t:YD)(m:Nat):∀(p:SetTable.Probe),p.more=m->p.dummy=none->JE t (m+1) p=Kj t.mask (SetTable.leap t.mask p.i p.perturb).1 (SetTable.leap t.mask p.i p.perturb).2:=by
 induction m with
 |zero =>
  intro p a b;show t.advance p=_
  simp_all [SetTable.advance,Kj]
 |succ m c =>
  intro p a b;show JE t (m+1) (t.advance p)=_
  simp_all [SetTable.advance]
theorem Hd (t:YD):∀(r i pert:Nat),∃n,n<=10*r/\JE t n (Kj t.mask i pert)=Kj t.mask (qK t.mask r (i,pert)).1 (qK t.mask r (i,pert)).2
 | 0,i,pert=>⟨0,Zf _,rfl⟩
 |r+1,i,pert=>by
  obtain⟨n,a,b⟩:=Hd t r (SetTable.leap t.mask i pert).1 (SetTable.leap t.mask i pert).2;have c:=AV t.mask i;refine⟨(SetTable.runEnd t.mask i-i+1)+n,(),?_⟩
  rwa [YY,(Hc t (SetTable.runEnd t.mask i-i) (Kj t.mask i pert) rfl rfl)]
def He (mask a b:Nat)(s:Nat×Nat):qK mask (a+b) s=qK mask b (qK mask a s):=by
 induction a generalizing s with
 |zero=>rw[Vi];rfl
 |succ a c=>rw[Nat.succ_add];exact c _
theorem Dv (mask:Nat):∀(r:Nat) (s:Nat×Nat),(qK mask r s).2=s.2 / 32 ^ r
 | 0,s=>by show s.2=_;rw[Nat.pow_zero,Nat.div_one]
 |r+1,s=>by
  show(qK mask r (SetTable.leap mask s.1 s.2)).2=_;rw[Dv mask r];show s.2 / 32 / 32 ^ r=_;rw[Nat.div_div_eq_div_mul,Nat.pow_succ,Nat.mul_comm 32]
theorem Dw (mask:Nat):∀(r i:Nat),i<mask+1->qK mask r (i,0)=(yH r i % (mask+1),0)
 | 0,i,h=>by
  show(i,0)=(i % (mask+1),0);rw[UR h]
 |r+1,i,h=>by
  show qK mask r ((i*5+1+0 / 32) % (mask+1),0 / 32)=(yH r (5*i+1) % (mask+1),0);rw[Nat.zero_div,Nat.add_zero,Dw mask r _ (Uy _ ()),<- RA,Nat.mul_comm i 5]
def Hf (mask r:Nat)(s:Nat×Nat)(h:s.1<mask+1):(qK mask r s).1<mask+1:=by
 induction r generalizing s with
 |zero=>exact h
 |succ r a=>exact a _ (Uy _ ())
def f6 (c:t.mask+1=2 ^ k)(h:Int)(f:y<=t.mask):∃n,n<10*SetTable.turns t.mask/\(JE t n (t.probeStart h)).j=y:=by
 have hs:t.probeStart h=Kj t.mask (SetTable.bits h % (t.mask+1)) (SetTable.bits h):=rfl;have g:SetTable.bits h<2 ^ 64:=by
  grind[SetTable.bits]
 have i:=Hf t.mask 13 (SetTable.bits h % (t.mask+1),SetTable.bits h) (Uy _ ());have hp:(qK t.mask 13 (SetTable.bits h % (t.mask+1),SetTable.bits h)).2=0:=by
  grind[Dv]
 obtain⟨q,j,e⟩:=Du k (qK t.mask 13 (SetTable.bits h % (t.mask+1),SetTable.bits h)).1 y ();have a:qK t.mask (13+q) (SetTable.bits h % (t.mask+1),SetTable.bits h)=(y,0):=by
  rw[He]
  grind[Dw]
 obtain⟨n,l,b⟩:=Hd t (13+q) (SetTable.bits h % (t.mask+1)) (SetTable.bits h);refine⟨n,by unfold SetTable.turns;lia,?_⟩;rw[hs,b,a];rfl
def Hg {t:YD}{p:SetTable.Probe}(h:p.dummy=none):(t.advance p).dummy=none:=by
 grind[SetTable.advance]
def RC {t:YD}{p:SetTable.Probe}(h:p.dummy=none)(n:Nat):(JE t n p).dummy=none:=by
 induction n generalizing p with
 |zero=>exact h
 |succ n a=>exact a (Hg h)
theorem Hh {t:YD}{hashAt:Nat->Int}{h:Int}:∀(k fuel:Nat) (p:SetTable.Probe),k<fuel->p.dummy=none->(∀m,m<k->∃i,t.slot (JE t m p).j=.live i)->t.slot (JE t k p).j=.empty ->
 (∃m i,m<k/\t.slot (JE t m p).j=.live i/\hashAt i=h/\SetTable.probe.go t hashAt h fuel p=some (.candidate (JE t m p).j i (JE t (m+1) p))/\∀a b,a<m->t.slot (JE t a p).j=.live b->hashAt b≠h) \/
 (SetTable.probe.go t hashAt h fuel p=some (.empty (JE t k p).j none)/\∀a b,a<k->t.slot (JE t a p).j=.live b->hashAt b≠h)
 | 0,0,p,hf,_,_,_=>()
 | 0,fuel+1,p,_,hd,_,f=>by
  have f:t.slot p.j=.empty:=f;refine .inr ⟨?_,()⟩;unfold SetTable.probe.go;rw[f];rw[hd];rfl
 |k+1,0,p,hf,_,_,_=>()
 |k+1,fuel+1,p,hf,hd,hl,f=>by
  obtain⟨i,e⟩:=hl 0 (Va _);have e:t.slot p.j=.live i:=e;by_cases c:hashAt i=h
  .refine .inl ⟨0,i,Va _,e,c,?_,()⟩;unfold SetTable.probe.go;rw[e];show(if(hashAt i == h)=true then _ else _)=_;rw[Zd ()];rfl
  .have j:SetTable.probe.go t hashAt h (fuel+1) p=SetTable.probe.go t hashAt h fuel (t.advance p):=by
    simp_all [SetTable.probe.go]
   rcases Hh k fuel (t.advance p) () (Hg hd) (λm l=>hl (m+1) ()) f with ⟨m,n,o,g,q,s,r⟩|⟨o,g⟩
   .refine .inl ⟨m+1,n,(),g,q,by rwa [j],λa b l hs=>?_⟩;cases a with
    |zero =>
     have hs:t.slot p.j=.live b:=hs;rw[e] at hs;cases hs;exact c
    |succ a=>exact r a b () hs
   .refine .inr ⟨by rwa [j],λa b l hs=>?_⟩;cases a with
    |zero =>
     have hs:t.slot p.j=.live b:=hs;rw[e] at hs;cases hs;exact c
    |succ a=>exact g a b () hs
open PySem
def wg (a:Yi):Prop:=∀i j,i<j->j<a.size->a.getD i 0<a.getD j 0
def Kd {α: Type}{a:Array α}(h:i<a.size)(d:α):a.getD i d=a[i]:=()
theorem Dx (u:wg xs):∀(fuel lo a:Nat),a-lo<=fuel->lo<=a->a<=xs.size->(∀i,i<lo->xs.getD i 0<j)->(∀i,a<=i->i<xs.size->j<=xs.getD i 0) ->
 SetTable.below.go xs j fuel lo a<=xs.size/\(∀i,i<SetTable.below.go xs j fuel lo a->xs.getD i 0<j)/\∀i,SetTable.below.go xs j fuel lo a<=i->i<xs.size->j<=xs.getD i 0
 | 0,lo,a,hf,hl,hs,h1,h2=>by
  have e:lo=a:=()
  subst e;unfold SetTable.below.go;exact⟨hs,h1,h2⟩
 |fuel+1,lo,a,hf,hl,hs,h1,h2=>by
  unfold SetTable.below.go;by_cases c:lo<a
  .rw[Zd c];obtain⟨m,e,l,m2,n,o⟩:=Fy (k:=fuel+1) (x:=0) c hf;have f:m<xs.size:=Zg m2 hs;have h:xs.getD m j=xs.getD m 0:=by rw[Kd f,Kd f]
   show(if xs.getD ((lo+a) / 2) j<j then _ else _)<=xs.size/\(∀i,i<(if xs.getD ((lo+a) / 2) j<j then _ else _)->_)/\∀i,(if xs.getD ((lo+a) / 2) j<j then _ else _)<=i->_;rw[e];by_cases d:xs.getD m j<j
   .rw[Zd d];rw[h] at d;refine Dx u fuel (m+1) a o m2 hs (λi b=>?_) h2;by_cases q:i=m
    .rw[q];exact d
    .exact Ug (u i m (UB (Uq b) q) f) d
   .rw[Ze d];rw[h] at d;refine Dx u fuel lo m n l (Zz f) h1 λi b g=>?_;by_cases q:i=m
    .rw[q];exact Nat.le_of_not_lt d
    .exact Zz (UH (Nat.le_of_not_lt d) (u m i (UB b (Ne.symm q)) g))
  .rw[Ze c];have e:lo=a:=()
   subst e;exact⟨hs,h1,h2⟩
def AW (u:wg xs)(j:Nat):SetTable.below xs j<=xs.size/\(∀i,i<SetTable.below xs j->xs.getD i 0<j)/\∀i,SetTable.below xs j<=i->i<xs.size->j<=xs.getD i 0:=
 Dx u xs.size 0 xs.size () () (Zf _) () ()
def RE (u:wg xs)(c:i<xs.size):SetTable.below xs (xs.getD i 0)=i:=by
 obtain⟨g,e,f⟩:=AW u (xs.getD i 0);generalize SetTable.below xs (xs.getD i 0)=p at *;rcases UW p i with q|q|q
 .have a:=u p i q c;have b:=f p (Zf _) ();lia
 .exact q
 .have:=e i q;lia
def y0 (t:YD)(j:Nat):Prop:=∃i,i<t.place.size/\t.place.getD i 0=j
def Hi (j:Nat):SetTable.has #[] j=false:=rfl
def Hj {t:YD}(u:wg t.place){i j:Nat}(a:i<t.place.size)(e:t.place.getD i 0=j):t.slot j=.live i:=by
 unfold SetTable.slot;have b:SetTable.below t.place j=i:=by rw[<- e];exact RE u a
 simp_all
def RF (b:t.dummies = #[])(h:¬y0 t j):t.slot j=.empty:=by
 unfold SetTable.slot;have c:¬(t.place[SetTable.below t.place j]? == some j)=true:=by
  intro z;have z:t.place[SetTable.below t.place j]? = some j:=by simpa using z
  obtain⟨a,e⟩:=Jv.mp z;exact h ⟨_,a,by rwa [Kd a]⟩
 simp_all [Hi]
def RG (u:wg t.place)(h:y0 t j):∃i,t.slot j=.live i/\i<t.place.size/\t.place.getD i 0=j:=by
 obtain⟨i,a,e⟩:=h;exact⟨i,Hj u a e,a,e⟩
def RH {t t':YD}(h:t.mask=t'.mask)(p:SetTable.Probe):t.advance p=t'.advance p:=by
 unfold SetTable.advance;rw[h]
def Hk {t t':YD}(h:t.mask=t'.mask)(n:Nat)(p:SetTable.Probe):JE t n p=JE t' n p:=by
 induction n generalizing p with
 |zero=>rfl
 |succ n a=>show JE t n (t.advance p)=JE t' n (t'.advance p);rw[RH h,a]
def Hl {t t':YD}(h:t.mask=t'.mask)(x:Int):t.probeStart x=t'.probeStart x:=by
 unfold SetTable.probeStart;rw[h]
def vr (t:YD)(o:Nat->Prop)(x:Int)(y:Nat):Prop:=∃n,(JE t n (t.probeStart x)).j=y/\∀m,m<n->o (JE t m (t.probeStart x)).j
def vr.mono {t t':YD}{o c:Nat->Prop}{x:Int}{y:Nat}(h:vr t o x y)(a:t.mask=t'.mask)(e:∀j,o j->c j):vr t' c x y:=by
 obtain⟨n,f,g⟩:=h;refine⟨n,?_,λm b=>?_⟩
 .rw[<- Hk a,<- Hl a];exact f
 .rw[<- Hk a,<- Hl a];exact e _ (g m b)
structure TabOk (t:YD)(hs:Array Int):Prop where
 size:t.place.size=hs.size
 up:wg t.place
 le:∀i,i<t.place.size->t.place.getD i 0<=t.mask
 nod:t.dummies = #[]
 pow:∃k,t.mask+1=2 ^ k
 room:t.place.size<=t.mask
 ways:∀i,i<t.place.size->vr t (y0 t) (hs.getD i 0) (t.place.getD i 0)
def RJ (u:wg xs)(hs:xs.size<=m):∃y,y<=m/\∀i,i<xs.size->xs.getD i 0≠y:=by
 by_cases h:∀i,i<xs.size->xs.getD i 0=i
 .exact⟨m,Zf _,λi g e=>by have:=h i g;lia⟩
 .obtain⟨i,g,hne,hmin⟩:∃i,i<xs.size/\xs.getD i 0≠i/\∀k,k<i->xs.getD k 0=k:=by
   have j:∀n,n<=xs.size->(∀k,k<n->xs.getD k 0=k)\/∃i,i<xs.size/\xs.getD i 0≠i/\∀k,k<i->xs.getD k 0=k:=by
    intro n
    induction n with
    |zero=>intro _;exact .inl λk f=>Zn f (UP _)
    |succ n l =>
     intro o;rcases l () with q|q
     .by_cases c:xs.getD n 0=n
      .refine .inl λk f=>?_;by_cases e:k=n
       .rw[e];exact c
       .exact q k ()
      .exact .inr ⟨n,(),c,q⟩
     .exact .inr q
   rcases j xs.size (Zf _) with q|q
   .exact Zn q h
   .exact q
  refine⟨i,(),λk f e=>?_⟩;rcases UW k i with q|q|q
  .have:=hmin k q;lia
  .subst q;exact hne e
  .have a:=u i k q f;have b:i<=xs.getD i 0:=by
    cases i with
    |zero=>exact Ub _
    |succ i =>
     have:=u i (i+1) () g;have:=hmin i ();lia
   lia
def RK (T:TabOk t hs)(x:Int):∃n,n<10*SetTable.turns t.mask/\(∀m,m<n->y0 t (JE t m (t.probeStart x)).j)/\¬y0 t (JE t n (t.probeStart x)).j:=by
 obtain⟨k,h⟩:=T.pow;obtain⟨y,j,l⟩:=RJ T.up T.room;obtain⟨n,b,e⟩:=f6 h x j;have a:¬y0 t (JE t n (t.probeStart x)).j:=by
  rw[e];rintro⟨i,o,q⟩;exact l i o q
 have f:∀d n,n<=d->n<10*SetTable.turns t.mask->¬y0 t (JE t n (t.probeStart x)).j->∃n,n<10*SetTable.turns t.mask/\(∀m,m<n->y0 t (JE t m (t.probeStart x)).j)/\¬y0 t (JE t n (t.probeStart x)).j:=by
  intro d
  induction d with
  |zero =>
   intro n p b a;have:n=0:=()
   subst this;exact⟨0,b,λm g=>Zn g (UP _),a⟩
  |succ d r =>
   intro n p b a;by_cases c:∀m,m<n->y0 t (JE t m (t.probeStart x)).j
   .exact⟨n,b,c,a⟩
   .obtain⟨m,g⟩:=Classical.not_forall.mp c;obtain⟨u,s⟩:=Classical.not_imp.mp g;exact r m () () s
 exact f n n (Zf _) b a
def Dy {α: Type}(a:Array α)(hp:p<=a.size)(x:α):(SetTable.insertAt a p x).size=a.size+1:=by
 grind[SetTable.insertAt]
def Hm {α: Type}(f:Array α)(hp:p<=f.size)(x d:α)(i:Nat):(SetTable.insertAt f p x).getD i d=if i<p then f.getD i d else if i=p then x else f.getD (i-1) d:=by
 unfold SetTable.insertAt;simp only[VV];rw[Array.getElem?_append,Array.getElem?_push,VR,VR];simp only[Array.size_push,Vv];have e:min p f.size-0=p:=()
 rw[e];rcases UW i p with c|c|c
 .have a:i<p+1:=()
  have b:¬i=p:=()
  simp only[a,b,c,if_true,if_false];simp
 .subst c;have a:¬i<i:=Zy _;simp only[UA,a,if_true,if_false];rfl
 .have a:¬i<p+1:=()
  have b:¬i<p:=()
  have g:¬i=p:=()
  simp only[a,b,g,if_false];have h:p+(i-(p+1))=i-1:=()
  rw[h];by_cases j:i-1<f.size
  .rw[Zd (by simp only[Nat.min_self];lia)]
  .rw[Ze (by simp only[Nat.min_self];lia),VF ()]
def RL (T:TabOk t hs)(w:y<=t.mask)(A:¬y0 t y)(B:vr t (y0 t) x y)(C:t.place.size+1<=t.mask):TabOk (t.put y).1 (SetTable.insertAt hs (t.put y).2 x)/\(t.put y).2<=hs.size/\(t.put y).1.mask=t.mask:=by
 obtain⟨q,E,F⟩:=AW T.up y;have hp:(t.put y).2=SetTable.below t.place y:=rfl;have a:(t.put y).1.place=SetTable.insertAt t.place (SetTable.below t.place y) y:=rfl;have b:(t.put y).1.mask=t.mask:=rfl;have m:(t.put y).1.dummies = #[]:=by
  show(if SetTable.has t.dummies y then SetTable.eraseAt t.dummies (SetTable.below t.dummies y) else t.dummies)=_;rw[T.nod,Hi];rfl
 rw[hp];have G:∀i,SetTable.below t.place y<=i->i<t.place.size->y<t.place.getD i 0:=λi H r=>by
  have:=F i H r;have:t.place.getD i 0≠y:=λz=>A ⟨i,r,z⟩;lia
 generalize SetTable.below t.place y=p at *;have sz:(SetTable.insertAt t.place p y).size=t.place.size+1:=Dy _ q _;have h:=Hm t.place q y 0;have n:∀j,y0 t j->y0 (t.put y).1 j:=by
  rintro j ⟨i,l,e⟩;by_cases c:i<p
  .exact⟨i,by rw[a,sz];lia,by rw[a,h,Zd c];exact e⟩
  .exact⟨i+1,by rw[a,sz];lia,by rw[a,h,Ze (),Ze (),Nat.add_sub_cancel];exact e⟩
 have hsz:=T.size;refine⟨⟨?_,?_,?_,m,by rw[b];exact T.pow,by rw[a,sz,b];exact C,?_⟩,(),b⟩
 .rw[a,sz,Dy _ ()];lia
 .intro i j o s;rw[a] at s ⊢;rw[sz] at s;rw[h,h];by_cases f:j<p
  .rw[Zd f,Zd ()];exact T.up i j o ()
  .rw[Ze f];by_cases g:j=p
   .rw[Zd g,Zd ()];exact E i ()
   .rw[Ze g];by_cases u:i<p
    .rw[Zd u];exact T.up i (j-1) () ()
    .rw[Ze u];by_cases v:i=p
     .rw[Zd v];exact G (j-1) () ()
     .rw[Ze v];exact T.up (i-1) (j-1) (Nat.sub_lt_sub_right () (by assumption)) ()
 .intro i l;rw[a] at l ⊢;rw[sz] at l;rw[h,b]
  split
  .exact T.le i ()
  .split
   .exact w
   .exact T.le (i-1) ()
 .intro i l;rw[a] at l ⊢;rw[sz] at l;rw[h,Hm hs () x 0];by_cases f:i<p
  .rw[Zd f,Zd f];exact(T.ways i ()).mono b.symm n
  .rw[Ze f,Ze f];by_cases g:i=p
   .rw[Zd g,Zd g];exact B.mono b.symm n
   .rw[Ze g,Ze g];exact(T.ways (i-1) ()).mono b.symm n
open PySem
theorem AX (t:YD)(i pert:Nat):∀k,k<=SetTable.runEnd t.mask i-i->JE t k (Kj t.mask i pert)={ j:=i+k,more:=SetTable.runEnd t.mask i-i-k,i:=i,perturb:=pert,dummy:=none }
 | 0,_=>rfl
 |k+1,h=>by
  rw[RB,AX t i pert k ()]
  grind[SetTable.advance]
def Dz {mask i:Nat}(h:i<=mask):i<=SetTable.runEnd mask i/\SetTable.runEnd mask i<=mask:=by
 grind[SetTable.runEnd]
def yc (owner:Array (Option Nat))(j:Nat):Prop:=∃i,owner.getD j none=some i
theorem Hn {t:YD}{owner:Array (Option Nat)}(hs:owner.size=t.mask+1):∀(fuel i pert y:Nat),i<=t.mask->SetTable.layClean.free t.mask owner fuel i pert=some y ->
 y<=t.mask/\owner.getD y none=none/\∃n,(JE t n (Kj t.mask i pert)).j=y/\∀m,m<n->yc owner (JE t m (Kj t.mask i pert)).j
 | 0,i,pert,y,_,h=>by unfold SetTable.layClean.free at h;exact J2 h
 |fuel+1,i,pert,y,hi,h=>by
  have j:=Dz hi;unfold SetTable.layClean.free at h;have l:∀{k},k<SetTable.runEnd t.mask i+1-i->k<=SetTable.runEnd t.mask i-i:=λa=>by
   rw[Nat.succ_sub j.1] at a;exact Uq a
  have o:∀{k},k<SetTable.runEnd t.mask i+1-i->i+k<owner.size:=λa=>by
   rw[hs];exact Nat.lt_succ_of_le (Zh (Nat.add_le_of_le_sub' j.1 (l a)) j.2)
  have e:∀k,k<SetTable.runEnd t.mask i+1-i->owner.getD (i+k) (some 0)=owner.getD (i+k) none:=λk a=>by
   rw[Kd (o a),Kd (o a)]
  have bz:∀k,k<SetTable.runEnd t.mask i+1-i->(!(owner.getD (i+k) (some 0)).isNone)=true->yc owner (i+k):=λk a p=>by
   rw[e k a] at p;unfold yc;cases q:owner.getD (i+k) none with
   |none=>rw[q] at p;exact J9 p
   |some v=>exact⟨v,rfl⟩
  split at h
  .rename_i k a;obtain⟨r,b,s⟩:=List.find?_range_eq_some.mp a;have b:=Jh.mp b;obtain rfl:=Zqi h;refine⟨Uq (by have:=o b;rwa [hs] at this),?_,k,?_,λm f=>?_⟩
   .rw[e k b] at r;cases q:owner.getD (i+k) none with
    |none=>rfl
    |some v=>rw[q] at r;exact J9 r
   .rw[AX t i pert k (l b)]
   .rw[AX t i pert m (l (Ug f b))];exact bz m (Ug f b) (s m f)
  .rename_i a;have s:=Jw.mp a;have w:(SetTable.leap t.mask i pert).1<=t.mask:=Jn.mp (Uy _ (Va _));obtain⟨x,z,n,A,B⟩:=Hn hs fuel _ _ y w h;have g:=Hc t (SetTable.runEnd t.mask i-i) (Kj t.mask i pert) rfl rfl;have g:JE t (SetTable.runEnd t.mask i-i+1) (Kj t.mask i pert)=Kj t.mask (SetTable.leap t.mask i pert).1 (SetTable.leap t.mask i pert).2:=g;refine⟨x,z,SetTable.runEnd t.mask i-i+1+n,by rw[YY,g];exact A,λm f=>?_⟩;by_cases c:m<=SetTable.runEnd t.mask i-i
   .rw[AX t i pert m c];exact bz m () (s m ())
   .obtain⟨u,rfl⟩:∃u,m=SetTable.runEnd t.mask i-i+1+u:=⟨m-(SetTable.runEnd t.mask i-i+1),()⟩;rw[YY,g];exact B u ()
theorem Ho {mask:Nat}{owner:Array (Option Nat)}(hs:owner.size=mask+1):∀(fuel i pert:Nat),i<=mask->SetTable.layClean.free mask owner fuel i pert=none->∀r,r<fuel->yc owner (qK mask r (i,pert)).1
 | 0,i,pert,_,_,r,hr=>Zn hr (UP _)
 |fuel+1,i,pert,hi,h,r,hr=>by
  have b:=Dz hi;unfold SetTable.layClean.free at h
  split at h
  .cases h
  .rename_i c;have f:(SetTable.leap mask i pert).1<=mask:=Jn.mp (Uy _ (Va _));cases r with
   |zero =>
    have a:=(Jw.mp c) 0 ();have e:owner.getD (i+0) (some 0)=owner.getD i none:=by grind
    rw[e] at a;show yc owner i;unfold yc;cases q:owner.getD i none with
    |none=>rw[q] at a;exact J9 a
    |some v=>exact⟨v,rfl⟩
   |succ r=>exact Ho hs fuel _ _ f h r ()
def RM {mask k:Nat}(a:mask+1=2 ^ k)(h:Int){y:Nat}(b:y<=mask):∃r,r<SetTable.turns mask/\(qK mask r (SetTable.bits h % (mask+1),SetTable.bits h)).1=y:=by
 have c:SetTable.bits h<2 ^ 64:=by
  grind[SetTable.bits]
 have f:=Hf mask 13 (SetTable.bits h % (mask+1),SetTable.bits h) (Uy _ ());have hp:(qK mask 13 (SetTable.bits h % (mask+1),SetTable.bits h)).2=0:=by
  grind[Dv]
 obtain⟨q,g,e⟩:=Du k (qK mask 13 (SetTable.bits h % (mask+1),SetTable.bits h)).1 y ();refine⟨13+q,by unfold SetTable.turns;lia,?_⟩;rw[He]
 grind[Dw]
structure LayOk (t:YD)(owner:Array (Option Nat))(hs:Yh):Prop where
 size:owner.size=t.mask+1
 lt:∀j i,owner.getD j none=some i->i<hs.length
 one:∀j j' i,owner.getD j none=some i->owner.getD j' none=some i->j=j'
 all:∀i,i<hs.length->∃j,j<=t.mask/\owner.getD j none=some i/\vr t (yc owner) (hs.getD i 0) j
def RN {f:Nat->Nat}{n:Nat}(h:∀a b,a<n->b<n->f a=f b->a=b):((List.range n).map f).Nodup:=by
 grind[List.Nodup,List.pairwise_map,List.Pairwise.imp_of_mem,List.nodup_range]
def RO {t:YD}{owner:Array (Option Nat)}{hs:Yh}(L:LayOk t owner hs)(p:hs.length<=t.mask):∃y,y<=t.mask/\owner.getD y none=none:=by
 apply Classical.byContradiction;intro j;have g:∀y,y<t.mask+1->∃i,owner.getD y none=some i:=λy h=>by
  cases q:owner.getD y none with
  |none=>exact by grind
  |some i=>exact⟨i,rfl⟩
 have l:((List.range (t.mask+1)).map λy=>(owner.getD y none).getD 0).Nodup:=RN λa b m n e=>by
  obtain⟨i,c⟩:=g a m;obtain⟨o,f⟩:=g b n;rw[c,f] at e;have e:i=o:=e;subst e;exact L.one a b i c f
 have sub:((List.range (t.mask+1)).map λy=>(owner.getD y none).getD 0) ⊆ List.range hs.length:=λz hz=>by
  obtain⟨y,h,rfl⟩:=Ja.mp hz;obtain⟨i,c⟩:=g y (Jh.mp h);rw[c];exact Jh.mpr (L.lt y i c)
 have:=VW l sub
 grind
def RP {owner:Array (Option Nat)}{y:Nat}(a:y<owner.size)(v:Option Nat)(j:Nat):(owner.setIfInBounds y v).getD j none=if j=y then v else owner.getD j none:=by
 simp
 grind
def RQ {t:YD}{owner:Array (Option Nat)}{hs:Yh}(L:LayOk t owner hs)(x:hs.length<=t.mask)(hp:∃k,t.mask+1=2 ^ k)(h:Int):
 ∃y,SetTable.layClean.free t.mask owner (SetTable.turns t.mask) (SetTable.bits h % (t.mask+1)) (SetTable.bits h)=some y/\LayOk t (owner.setIfInBounds y (some hs.length)) (hs++[h]):=by
 have s:SetTable.bits h % (t.mask+1)<=t.mask:=Jn.mp (Uy _ (Va _));cases q:SetTable.layClean.free t.mask owner (SetTable.turns t.mask) (SetTable.bits h % (t.mask+1)) (SetTable.bits h) with
 |none =>
  obtain⟨k,A⟩:=hp;obtain⟨y,B,C⟩:=RO L x;obtain⟨r,E,e⟩:=RM A h B;obtain⟨i,hz⟩:=Ho L.size _ _ _ s q r E;rw[e,C] at hz;exact J2 hz
 |some y =>
  obtain⟨F,u,n,G,H⟩:=Hn L.size _ _ _ y s q;have l:=RP (owner:=owner) (y:=y) (by rw[L.size];lia) (some hs.length);have v:∀j,yc owner j->yc (owner.setIfInBounds y (some hs.length)) j:=by
   rintro j ⟨i,f⟩;refine⟨i,?_⟩;rw[l,Ze λz=>by rw[z,u] at f;cases f];exact f
  refine⟨y,rfl,⟨by rw[Array.size_setIfInBounds];exact L.size,λj i f=>?_,λj w i f g=>?_,λi o=>?_⟩⟩
  .rw[Ua,Uj];rw[l] at f
   split at f
   .cases f;lia
   .have:=L.lt j i f;lia
  .rw[l] at f g
   split at f
   .rename_i a;obtain rfl:=Zqi f
    split at g
    .rename_i b;rw[a,b]
    .have:=L.lt w _ g;lia
   .split at g
    .obtain rfl:=Zqi g;have:=L.lt j _ f;lia
    .exact L.one j w i f g
  .rw[Ua,Uj] at o;by_cases c:i<hs.length
   .obtain⟨j,I,p,J⟩:=L.all i c;refine⟨j,I,?_,?_⟩
    .rw[l,Ze λz=>by rw[z,u] at p;cases p];exact p
    .have e:(hs++[h]).getD i 0=hs.getD i 0:=by
      rw[UL,UL,Vl c]
     rw[e];exact J.mono rfl v
   .have e:i=hs.length:=()
    subst e;refine⟨y,F,by rw[l,Zd rfl],?_⟩;have e:(hs++[h]).getD hs.length 0=h:=by
     rw[UL,Vm (Zf _),Nat.sub_self];rfl
    rw[e];exact⟨n,G,λm K=>v _ (H m K)⟩
theorem Hq {t:YD}(hp:∃k,t.mask+1=2 ^ k):∀(rest:Yh) (hs:Yh) (owner:Array (Option Nat)),LayOk t owner hs->hs.length+rest.length<=t.mask+1 ->
 ∃a,rest.foldl (init:=some (owner,hs.length)) (λb h=>do
  let (owner,k) <- b
  let j <- SetTable.layClean.free t.mask owner (SetTable.turns t.mask) (SetTable.bits h % (t.mask+1)) (SetTable.bits h)
  pure (owner.setIfInBounds j (some k),k+1))=some (a,hs.length+rest.length)/\LayOk t a (hs++rest)
 | [],hs,owner,L,_=>by grind
 |h::rest,hs,owner,L,hl=>by
  rw[Zu] at hl;obtain⟨y,e,c⟩:=RQ L () hp h;obtain⟨f,g,i⟩:=Hq hp rest (hs++[h]) _ c (by rw[Ua,Uj];lia)
  grind
def RR {t:YD}(hp:∃k,t.mask+1=2 ^ k)(hs:Array Int)(a:hs.size<=t.mask+1):∃owner,SetTable.layClean t.mask hs=some owner/\LayOk t owner hs.toList:=by
 have b:LayOk t (Array.replicate (t.mask+1) none) []:=by
  have z:∀j i,(Array.replicate (t.mask+1) (none:Option Nat)).getD j none≠some i:=λj i h=>by
   simp[Array.getElem?_replicate] at h
   split at h<;>exact J2 h
  exact⟨(),(),(),()⟩
 obtain⟨o,e,L⟩:=Hq hp hs.toList [] _ b (by simpa using a)
 simp_all [SetTable.layClean]
open PySem
def RU {owner:Array (Option Nat)}{j i:Nat}(h:owner.getD j none=some i):j<owner.size:=()
def KB (mask:Nat)(owner:Array (Option Nat)):List (Nat×Nat):=(List.range (mask+1)).filterMap λj=>(owner.getD j none).map (j,·)
def RV:p∈KB mask owner↔p.1<=mask/\owner.getD p.1 none=some p.2:=by
 unfold KB;rw[List.mem_filterMap];constructor
 .rintro⟨j,a,e⟩;obtain⟨i,b,e⟩:=Jk.mp e;subst e;exact⟨Jn.mp (Jh.mp a),b⟩
 .rintro⟨f,c⟩;exact⟨p.1,Jh.mpr (),by rw[c];rfl⟩
def RW (mask:Nat)(owner:Array (Option Nat)):(KB mask owner).Pairwise λa b=>a.1<b.1:=by
 unfold KB;rw[List.pairwise_filterMap];refine List.pairwise_lt_range.imp λ{a b} c x e y f=>?_;obtain⟨i,_,rfl⟩:=Jk.mp e;obtain⟨g,_,rfl⟩:=Jk.mp f;exact c
def D0 {α: Type}(l:List α)(i:Nat)(d:α):l.toArray.getD i d=l.getD i d:=()
def D1 {α β: Type}(l:List α)(f:α -> β)(i:Nat)(a:i<l.length)(d:β):(l.map f).getD i d=f l[i]:=()
def RX {mask:Nat}(hp:∃k,mask+1=2 ^ k)(hs:Array Int)(S:hs.size<=mask)(finger moves:Nat)(led plain:Bool):
 ∃t' c,SetTable.laid mask finger moves led plain hs=some (t',c)/\t'.mask=mask/\t'.moves=moves/\t'.led=led/\t'.plain=plain/\t'.finger=finger/\c.size=hs.size/\(∀k,k<c.size->c.getD k 0<hs.size)/\(∀k l,k<c.size->l<c.size->c.getD k 0=c.getD l 0->k=l)/\(∀i,i<hs.size->∃k,k<c.size/\c.getD k 0=i)/\TabOk t' (c.map λi=>hs.getD i 0):=by
 let C:YD:={ mask:=mask,place:=#[],dummies:=#[],finger:=0,led:=false,moves:=0,plain:=true }
 obtain⟨owner,e,L⟩:=RR (t:=C) hp hs (by show hs.size<=mask+1;lia);have e:SetTable.layClean mask hs=some owner:=e;have hsz:owner.size=mask+1:=L.size;have mem:=λp=>RV (mask:=mask) (owner:=owner) (p:=p);have B:=RW mask owner;have x:((KB mask owner).map (·.2)).Nodup:=by
  unfold List.Nodup;rw[UX];refine List.Pairwise.imp_of_mem (λ{a b} E F G n=>?_) B;have m:=((mem a).mp E).2;have u:=((mem b).mp F).2;rw[n] at m;have:=L.one _ _ _ m u;lia
 have v:((KB mask owner).map (·.2)) ⊆ List.range hs.size:=λz hz=>by
  obtain⟨p,hp,rfl⟩:=Ja.mp hz;have:=L.lt _ _ ((mem p).mp hp).2;exact Jh.mpr (by simpa using this)
 have o:List.range hs.size ⊆ ((KB mask owner).map (·.2)):=λi g=>by
  obtain⟨j,m,u,_⟩:=L.all i (by simpa using Jh.mp g);exact Ja.mpr ⟨(j,i),(mem (j,i)).mpr ⟨m,u⟩,rfl⟩
 have len:(KB mask owner).length=hs.size:=by
  have a:=VW x v;have b:=VW List.nodup_range o;rw[Zql,ZB] at a b;lia
 have H:SetTable.laid mask finger moves led plain hs=some ({ mask:=mask,place:=((KB mask owner).map (·.1)).toArray,dummies:=#[],finger:=finger,led:=led,moves:=moves,plain:=plain },((KB mask owner).map (·.2)).toArray):=by
  unfold SetTable.laid;rw[e];rfl
 generalize I:KB mask owner=lv at *;have w:∀i (g:i<lv.length),((lv.map (·.1)).toArray).getD i 0=lv[i].1:=λi g=>by rw[D0,D1 _ _ _ g]
 have go:∀i (g:i<lv.length),((lv.map (·.2)).toArray).getD i 0=lv[i].2:=λi g=>by rw[D0,D1 _ _ _ g]
 have r:=Jj.mp B;refine⟨_,_,H,rfl,rfl,rfl,rfl,rfl,by simpa using len,λk f=>?_,λk l f h n=>?_,λi g=>?_,?_⟩
 .have f:k<lv.length:=by simpa using f
  rw[go k f];have:=L.lt _ _ ((mem lv[k]).mp (UK f)).2;simpa using this
 .have f:k<lv.length:=by simpa using f
  have h:l<lv.length:=by simpa using h
  rw[go k f,go l h] at n;have m:=((mem lv[k]).mp (UK f)).2;have u:=((mem lv[l]).mp (UK h)).2;rw[n] at m;have T:=L.one _ _ _ m u;rcases UW k l with q|q|q
  .have:=r k l f h q;lia
  .exact q
  .have:=r l k h f q;lia
 .obtain⟨p,hp,n⟩:=Ja.mp (o (Jh.mpr g));obtain⟨k,f,rfl⟩:=UG hp;exact⟨k,by simpa using f,by rw[go k f];exact n⟩
 .have J:∀j,yc owner j->y0 { mask:=mask,place:=(lv.map (·.1)).toArray,dummies:=#[],finger:=finger,led:=led,moves:=moves,plain:=plain } j:=by
   rintro j ⟨i,s⟩;have K:=RU s;have M:(j,i)∈lv:=(mem (j,i)).mpr ⟨by show j<=mask;lia,s⟩;obtain⟨k,f,n⟩:=UG M;exact⟨k,by simpa using f,by show((lv.map (·.1)).toArray).getD k 0=j;rw[w k f,n]⟩
  refine⟨(),λi j y s=>?_,λi g=>?_,rfl,hp,by show((lv.map (·.1)).toArray).size<=mask;simp;lia,λk f=>?_⟩
  .have s:j<lv.length:=by simpa using s
   show((lv.map (·.1)).toArray).getD i 0<((lv.map (·.1)).toArray).getD j 0;rw[w i (),w j s];exact r i j () s y
  .have g:i<lv.length:=by simpa using g
   show((lv.map (·.1)).toArray).getD i 0<=mask;rw[w i g];exact((mem lv[i]).mp (UK g)).1
  .have f:k<lv.length:=by simpa using f
   have m:=((mem lv[k]).mp (UK f)).2;have A:=L.lt _ _ m;obtain⟨j,U,N,O⟩:=L.all lv[k].2 A;have P:=L.one _ _ _ N m;subst P;have Q:(((lv.map (·.2)).toArray).map λi=>hs.getD i 0).getD k 0=hs.toList.getD lv[k].2 0:=by
    have R:((lv.map (·.2)).toArray).map (λi=>hs.getD i 0)=((lv.map (·.2)).map λi=>hs.getD i 0).toArray:=by simp
    rw[R,D0,Zw,D1 _ _ _ f];show hs.getD lv[k].2 0=_;rw[VV,UL,Vk]
   rw[Q];show vr _ _ _ (((lv.map (·.1)).toArray).getD k 0);rw[w k f];exact O.mono rfl J
theorem Hr:∀(fuel a n:Nat),(∃k,a=2 ^ k)->n<a*2 ^ fuel->(∃k,SetTable.sizeAbove.go n fuel a=2 ^ k)/\n<SetTable.sizeAbove.go n fuel a
 | 0,a,n,hp,h=>by
  simp_all [SetTable.sizeAbove.go]
 |fuel+1,a,n,⟨k,hk⟩,h=>by
  unfold SetTable.sizeAbove.go
  split
  .exact Hr fuel (a*2) n ⟨k+1,by rw[Nat.pow_succ,hk]⟩ (by rwa [Nat.mul_assoc,<- Nat.pow_succ'])
  grind
def Hs (h:n<1000000000):(∃k,SetTable.sizeAbove n=2 ^ k)/\n<SetTable.sizeAbove n:=
 Hr 64 8 n ⟨3,rfl⟩ (Zg h (by decide))
theorem Ht:∀(fuel a n:Nat),a<=2*n+8->SetTable.sizeAbove.go n fuel a<=2*n+8
 | 0,a,n,h=>by unfold SetTable.sizeAbove.go;exact h
 |fuel+1,a,n,h=>by
  unfold SetTable.sizeAbove.go
  split
  .exact Ht fuel (a*2) n ()
  .exact h
def RY (n:Nat):SetTable.sizeAbove n<=2*n+8:=Ht 64 8 n ()
def RZ {t:YD}{hs:Array Int}{wanted:Nat}(r:hs.size<=wanted)(f:wanted<1000000000):
 ∃t' a,t.relaid hs wanted=some (t',a)/\t'.led=t.led/\t'.plain=t.plain/\t'.mask+1=SetTable.sizeAbove wanted/\a.size=hs.size/\(∀k,k<a.size->a.getD k 0<hs.size)/\(∀k b,k<a.size->b<a.size->a.getD k 0=a.getD b 0->k=b)/\(∀i,i<hs.size->∃k,k<a.size/\a.getD k 0=i)/\TabOk t' (a.map λi=>hs.getD i 0):=by
 obtain⟨⟨k,s⟩,g⟩:=Hs f;have h:SetTable.sizeAbove wanted-1+1=SetTable.sizeAbove wanted:=()
 obtain⟨t',a,e,j,_,l,m,_,n,o,p,q,c⟩:=RX ⟨k,by rwa [h]⟩ hs () t.finger (t.movedTo (SetTable.sizeAbove wanted-1)) t.led t.plain;exact⟨t',a,e,l,m,by rwa [j],n,o,p,q,c⟩
open PySem
variable {prog:Program}{w:World}{A:Around}{E:Ya}{s:Shared}
theorem TabOk.fits {t:YD}{es:Array (Int×Value)}(T:TabOk t (es.map (·.1))):t.fits es.size=true:=by
 have a:=T.size;rw[Ul] at a;unfold SetTable.fits SetTable.fill;rw[T.nod];simp[a,show es.size<=t.mask by have:=T.room;lia]
def Hu {es:Array (Int×Value)}{i:Nat}(a:i<es.size):(es.map (·.1)).getD i 0=es[i].1:=()
def D2 {es:Array (Int×Value)}{i:Nat}(a:i<es.size):(es[i]?.map (·.1)).getD 0=es[i].1:=()
def Wd (t:YD)(p:SetTable.Probe):Prop:=p.j+p.more<=t.mask
def Hv (t:YD)(h:i<=t.mask):Wd t (Kj t.mask i pert):=by
 have:=Dz h;show i+(SetTable.runEnd t.mask i-i)<=t.mask;lia
def Sa (h:Wd t p):Wd t (t.advance p):=by
 unfold Wd at h;unfold SetTable.advance
 split
 .show p.j+1+(p.more-1)<=t.mask;lia
 .have a:(SetTable.leap t.mask p.i p.perturb).1<=t.mask:=Jn.mp (Uy _ (Va _));exact Hv t (pert:=(SetTable.leap t.mask p.i p.perturb).2) a
def Sb (h:Wd t p)(n:Nat):Wd t (JE t n p):=by
 induction n generalizing p with
 |zero=>exact h
 |succ n a=>exact a (Sa h)
def Sc (t:YD)(h:Int):Wd t (t.probeStart h):=Hv t (Jn.mp (Uy _ (Va _)))
def Se (h:Wd t p)(n:Nat):(JE t n p).j<=t.mask:=by
 have:=Sb h n;unfold Wd at this;lia
theorem Hw {a:Addr}{o:Obj}{es:Array (Int×Value)}{ep:Nat}{t:YD}{x:Value}{h:Int}{same:Value->Bool}{Q:SetFound->YC}{e:Nat}
 (O:s.heap.get? a=some o) (P:o.data=.set es ep t) (T:TabOk t (es.map (·.1))) (u:t.mask % 2=1)
 (hq:∀i (l:i<es.size),es[i].1=h->∀Q:Bool->YC,Q (same es[i].2) s->YJ prog w A (eqBool es[i].2 x) Q E s)
 (hr:∀i (l:i<es.size),∃b,es[i].2=.ref b)
 (hsn:t.led=true\/∀Q:Bool->YC,Q false s->YJ prog w A (searchCouldBeSeen x ((es.filter (·.1 == h)).toList.map (·.2))) Q E s)
 (he:e<10*SetTable.turns t.mask) (H:∀m,m<e->y0 t (JE t m (t.probeStart h)).j) (r:¬y0 t (JE t e (t.probeStart h)).j)
 (I:∀i (l:i<es.size),es[i].1=h->same es[i].2=true->Q (.there none) s)
 (v:(∀i (l:i<es.size),es[i].1=h->same es[i].2=false)->Q (.free (JE t e (t.probeStart h)).j false) s):
 ∀(fuel c:Nat) (st:Option SetTable.Probe),c<=e->e-c<fuel->st.getD (t.probeStart h)=JE t c (t.probeStart h) ->
  (∀m i (l:i<es.size),m<c->t.slot (JE t m (t.probeStart h)).j=.live i->es[i].1=h->same es[i].2=false) ->
  YJ prog w A (setSearchFrom a x h true fuel st) Q E s
 | 0,c,st,hc,hf,_,_=>Zn hf (UP _)
 |fuel+1,c,st,hc,hf,hst,hno=>by
  have hsz:t.place.size=es.size:=by have:=T.size;rwa [Ul] at this
  show wpAny _ _ (_ >>= _) _ _ _;refine Za (wpAny_setState_of O P T.fits ?_);dsimp only;have hg:t.gaveWay=false:=by unfold SetTable.gaveWay;rw[u];rfl
  rw[hg];simp only[UD,if_false];have live:∀m,m<e->∃i,t.slot (JE t m (t.probeStart h)).j=.live i/\i<es.size/\t.place.getD i 0=(JE t m (t.probeStart h)).j:=λm hm=>by
   obtain⟨i,R,h2,h3⟩:=RG T.up (H m hm);exact⟨i,R,(),h3⟩
  have step:∀m,JE t m (JE t c (t.probeStart h))=JE t (c+m) (t.probeStart h):=λm=>(YY t c m _).symm;have F:∀g:Nat->Int,(∀i,g i=(es[i]?.map (·.1)).getD 0)->(∃m i,c<=m/\m<e/\t.slot (JE t m (t.probeStart h)).j=.live i/\g i=h/\t.probe g h (st.getD (t.probeStart h))=some (.candidate (JE t m (t.probeStart h)).j i (JE t (m+1) (t.probeStart h)))/\∀f j,c<=f->f<m->t.slot (JE t f (t.probeStart h)).j=.live j->g j≠h) \/
   (t.probe g h (st.getD (t.probeStart h))=some (.empty (JE t e (t.probeStart h)).j none)/\∀f j,c<=f->f<e->t.slot (JE t f (t.probeStart h)).j=.live j->g j≠h):=λg _=>by
   rw[hst];have sd:(JE t c (t.probeStart h)).dummy=none:=RC rfl c;have ek:c+(e-c)=e:=()
   rcases Hh (t:=t) (hashAt:=g) (h:=h) (e-c) (10*SetTable.turns t.mask) (JE t c (t.probeStart h)) () sd (λm hm=>by
    rw[step];obtain⟨i,R,_⟩:=live (c+m) ();exact⟨i,R⟩) (by rw[step,ek];exact RF T.nod r) with ⟨m,i,g1,g2,g3,g4,g5⟩|⟨g1,g2⟩
   .rw[step] at g2 g4;rw[step] at g4;refine .inl ⟨c+m,i,(),(),g2,g3,g4,λf j a1 a2 S=>g5 (f-c) j () (by rw[step,show c+(f-c)=f by lia];exact S)⟩
   .rw[step,ek] at g1;exact .inr ⟨g1,λf j a1 a2 S=>g2 (f-c) j () (by rw[step,show c+(f-c)=f by lia];exact S)⟩
  generalize B:t.probe _ h (st.getD (t.probeStart h))=met;have J:∀i (l:i<es.size),es[i].1=h->∃m,m<e/\t.slot (JE t m (t.probeStart h)).j=.live i:=λi l C=>by
   obtain⟨n,U,n2⟩:=T.ways i ();rw[Hu l,C] at U n2;refine⟨n,?_,by rw[U];exact Hj T.up () rfl⟩;rcases UW n e with q|q|q
   .exact q
   .subst q;exact Zn ⟨i,(),U.symm⟩ r
   .exact Zn (n2 e q) r
  rcases F _ (λi=>rfl) with ⟨m,i,c1,X,Y,c4,c5,c6⟩|⟨c1,X⟩
  .have Z:=B.symm.trans c5;subst Z;obtain⟨i2,k1,k2,k3⟩:=live m X;rw[Y] at k1;cases k1;have C:es[i].1=h:=by rw[<- D2 k2];exact c4
   dsimp only;have rest:YJ prog w A (do
    let some (_,y):=es[i]? | unsupported "internal:set-entry"
    let p <- holding [y] (eqBool y x)
    let (es',_,t') <- setState a
    if true&&p then return SetFound.there none
    let some same:=t'.sameMemory t.moves t.mask|unsupported "set.changed-during-lookup:is-the-new-block-at-the-old-address"
    let G <- match (if same then t'.slot (JE t m (t.probeStart h)).j else .empty) with
     | .live j=>match es'[j]? with
      |some (_,y')=>do pure (if <- isSame y' y then some j else none)
      |none=>pure none
     |_=>pure none
    match G with
    |none=>rule "set.search.anew";setSearchFrom a x h true fuel none
    |some j=>if p then return .there (some j) else setSearchFrom a x h true fuel (some (JE t (m+1) (t.probeStart h)))) Q E s:=by
    rw[Uv k2];dsimp only;refine Za (wpAny_holding (hq i k2 C _ ?_));refine Za (wpAny_setState_of O P T.fits ?_);dsimp only;cases hs:same es[i].2 with
    |true =>
     simp only[Bool.and_self,if_true];exact Zb (I i k2 C hs)
    |false =>
     simp only[Bool.and_false,UD,if_false];have hsm:t.sameMemory t.moves t.mask=some true:=by unfold SetTable.sameMemory;rw[Zd (beq_self_eq_true _)]
     rw[hsm];dsimp only;simp only[if_true];rw[Y];dsimp only;rw[Uv k2];dsimp only;obtain⟨b,hb⟩:=hr i k2;have his:∀{Q':Bool->YC},Q' true s->YJ prog w A (isSame es[i].2 es[i].2) Q' E s:=λ{Q'} hq'=>by
      rw[hb];unfold isSame;dsimp only;rw[Zd (beq_self_eq_true _)];exact Zb hq'
     refine Za (his ?_);simp only[if_true];refine Za (Zb ?_);dsimp only;refine Hw O P T u hq hr hsn he H r I v fuel (m+1) _ () () rfl λf j K hm' N L=>?_;by_cases d1:f<c
     .exact hno f j K d1 N L
     .by_cases d2:f=m
      .subst d2;rw[Y] at N;cases N;exact hs
      .exact Zn (by rw[D2 K];exact L) (c6 f j () () N)
   cases M:t.led with
   |true =>
    rw[Ze ()];exact rest
   |false =>
    rw[Zd ()];rcases hsn with z|hsn
    .rw[z] at M;cases M
    .refine Za (hsn _ ?_);rw[Ze ()];exact rest
  .have Z:=B.symm.trans c1;subst Z;dsimp only;refine Zb (v λi l C=>?_);obtain⟨m,m1,m2⟩:=J i l C;by_cases d1:m<c
   .exact hno m i l d1 m2 C
   .exact Zn (by rw[D2 l];exact C) (X m i () m1 m2)
def Sf {a:Addr}{o:Obj}{es:Array (Int×Value)}{ep:Nat}{t:YD}{x:Value}{h:Int}{same:Value->Bool}{Q:SetFound->YC}
 (p:s.heap.get? a=some o) (q:o.data=.set es ep t) (T:TabOk t (es.map (·.1))) (c:t.mask % 2=1) (B:t.mask<=9000)
 (r:∀i (l:i<es.size),es[i].1=h->∀Q:Bool->YC,Q (same es[i].2) s->YJ prog w A (eqBool es[i].2 x) Q E s)
 (u:∀i (l:i<es.size),∃b,es[i].2=.ref b)
 (m:t.led=true\/∀Q:Bool->YC,Q false s->YJ prog w A (searchCouldBeSeen x ((es.filter (·.1 == h)).toList.map (·.2))) Q E s)
 (n:∀i (l:i<es.size),es[i].1=h->same es[i].2=true->Q (.there none) s)
 (f:(∀i (l:i<es.size),es[i].1=h->same es[i].2=false)->∀y,y<=t.mask->¬y0 t y->vr t (y0 t) h y->Q (.free y false) s):
 YJ prog w A (setSearch a x h true) Q E s:=have ⟨e,v,g,j⟩:=RK T h;Hw p q T c r u m v g j n (λz=>f z _ (Se (Sc t h) e) j ⟨e,rfl,g⟩) 100000 0 none (Ub _) (by grind[SetTable.turns]) rfl ()
open PySem
theorem Hx:∀(fuel a n:Nat),a<=SetTable.sizeAbove.go n fuel a
 | 0,a,n=>by simp_all [SetTable.sizeAbove.go]
 |fuel+1,a,n=>by
  unfold SetTable.sizeAbove.go
  split
  .exact Zh () (Hx fuel (a*2) n)
  .exact Zf _
def Sh (n:Nat):8<=SetTable.sizeAbove n:=Hx 64 8 n
def Si {m k:Nat}(h:m+1=2 ^ k)(a:7<=m):m % 2=1:=by
 cases k with
 |zero=>lia
 |succ k=>lia
def Sj {b:Yi}{n:Nat}(o:∀k,k<b.size->b.getD k 0<n)(p:∀k m,k<b.size->m<b.size->b.getD k 0=b.getD m 0->k=m)(q:∀i,i<n->∃k,k<b.size/\b.getD k 0=i):b.toList.Perm (List.range n):=by
 have r:b.toList.Nodup:=by
  unfold List.Nodup;rw[List.pairwise_iff_getElem];intro i j t u v e;have c:i<b.size:=by simpa using t
  have f:j<b.size:=by simpa using u
  have:=p i j c f (by rw[Kd c,Kd f];simpa using e);lia
 refine List.perm_iff_count.mpr λa=>?_;rw[r.count,List.nodup_range.count];have:a∈b.toList↔a∈List.range n:=by
  rw[List.mem_range];constructor
  .intro h;obtain⟨k,l,e⟩:=UG h;have g:k<b.size:=by simpa using l
   have:=o k g;rw[Kd g] at this;have e:b[k]=a:=by simpa using e
   lia
  .intro h;obtain⟨k,l,e⟩:=q a h;rw[Kd l] at e;rw[<- e,VJ];exact VL l
 simp only[this]
def Sk {α: Type}{es:Array α}{a:Yi}(d:α)(c:∀k,k<a.size->a.getD k 0<es.size):(a.filterMap (es[·]?))=a.map λi=>es.getD i d:=by
 apply Array.toList_inj.mp;rw[Array.toList_filterMap,Array.toList_map];have:∀l:Yj,(∀i∈l,i<es.size)->l.filterMap (es[·]?)=l.map λi=>es.getD i d:=by
  intro l
  induction l with
  |nil=>intro _;rfl
  |cons i l f =>
   intro h;rw[Uz,Zl,Uv (h i Zqs),f λj g=>h j (Zqm _ g),Kd (h i Zqs)]
 refine this _ λi m=>?_;obtain⟨k,n,e⟩:=UG m;have b:k<a.size:=by simpa using n
 have:=c k b
 simp_all
structure SetIs (hp:Heap)(a:Addr)(es:Array (Int×Value))(t:YD):Prop where
 at_:∃ep,hp.get? a=some { cls:=.type "set",dict:=none,data:=.set es ep t,slots:=#[] }
 tab:TabOk t (es.map (·.1))
 seven:7<=t.mask
 most:t.mask<=8*es.size+7
 room:es.size*5<t.mask*3
 refs:∀i (hi:i<es.size),∃b,es[i].2=.ref b
def SetIs.odd {hp:Heap}{a:Addr}{es:Array (Int×Value)}{t:YD}(S:SetIs hp a es t):t.mask % 2=1:=have ⟨k,b⟩:=S.tab.pow;Si b S.seven
variable {prog:Program}{w:World}{A:Around}{E:Ya}{s:Shared}
def Hy {hp:Heap}{a:Addr}{es es':Array (Int×Value)}{ep:Nat}{t t':YD}(b:hp.get? a=some { cls:=.type "set",dict:=none,data:=.set es ep t,slots:=#[] }):
 (hp.update a (Obj.putSet es' t')).get? a=some { cls:=.type "set",dict:=none,data:=.set es' (ep+1) t',slots:=#[] }:=by
 have:=Heap.get?_update_self (Obj.putSet es' t') b (by rfl)
 rwa [(putSet_of es' t' rfl)] at this
def Sl {α β: Type}(f:α -> β)(a:Array α)(p:Nat)(x:α):(SetTable.insertAt a p x).map f=SetTable.insertAt (a.map f) p (f x):=by
 unfold SetTable.insertAt;simp
def Sm {a:Addr}{es:Array (Int×Value)}{ep:Nat}{t:YD}{Q:Unit->YC}
 (m:s.heap.get? a=some { cls:=.type "set",dict:=none,data:=.set es ep t,slots:=#[] }) (T:TabOk t (es.map (·.1))) (U:1<=es.size) (X:es.size<=1000) (C:∀i (f:i<es.size),∃b,es[i].2=.ref b)
 (h:∀es' t',es'.toList.Perm es.toList->t'.led=t.led->t'.plain=t.plain->SetIs (s.heap.update a (Obj.putSet es' t')) a es' t'->Q Yt { s with heap:=s.heap.update a (Obj.putSet es' t') }):
 YJ prog w A (setRelay a (SetTable.grown es.size)) Q E s:=by
 have F:SetTable.grown es.size=es.size*4:=by unfold SetTable.grown;rw[Ze ()]
 have G:=RY (es.size*4);obtain⟨_,H⟩:=Hs (n:=es.size*4) ();have I:=Sh (es.size*4);obtain⟨t',c,e,J,K,Y,r,l,L,u,M⟩:=RZ (t:=t) (hs:=es.map (·.1)) (wanted:=es.size*4) (by rw[Ul];lia) ();rw[Ul] at r l u;rw[F];unfold setRelay;refine Za (wpAny_setState_of m rfl T.fits ?_);dsimp only;rw[Ze (by rw[sizeLine_eq];lia)];rw[e];have v:=Sk (es:=es) (0,Value.none) l;have g:(c.filterMap (es[·]?)).size=es.size:=by rw[v,Ul];exact r
 have o:(c.filterMap (es[·]?)).toList.Perm es.toList:=by
  rw[Array.toList_filterMap];exact((Sj l L u).filterMap _).trans (by rw[filterMap_getElem?_range])
 have x:(c.filterMap (es[·]?)).map (·.1)=c.map λi=>(es.map (·.1)).getD i 0:=by
  rw[v,Array.map_map];apply Array.map_congr_left;intro i f;obtain⟨k,y,N⟩:=Array.getElem_of_mem f;have:=l k y;rw[Kd y,N] at this;show(es.getD i (0,Value.none)).1=_;rw[Kd this,Hu this]
 have z:TabOk t' ((c.filterMap (es[·]?)).map (·.1)):=by rw[x];exact M
 have B:∀i (f:i<(c.filterMap (es[·]?)).size),∃b,(c.filterMap (es[·]?))[i].2=.ref b:=λi f=>by
  have O:(c.filterMap (es[·]?))[i]∈es.toList:=o.mem_iff.mp (by rw[VJ];exact VL f);obtain⟨j,P,R⟩:=UG O;have p:j<es.size:=by simpa using P
  obtain⟨b,S⟩:=C j p;refine⟨b,?_⟩;rw[<- R];simpa using S
 have q:¬((c.filterMap (es[·]?)).size != es.size)=true:=by rw[g];simp
 refine Za (wpAny_of_eq (a:=(c.filterMap (es[·]?),t')) ?_ ?_)
 .show(if((c.filterMap (es[·]?)).size != es.size)=true then _ else _)=_;rw[Ze q]
 .dsimp only;generalize c.filterMap (es[·]?)=es' at g o z B x;exact wpAny_storeSet_of m rfl (h es' t' o J K ⟨⟨ep+1,Hy m⟩,z,(),(),(),B⟩) (by rw[sizeLine_eq];lia)
def Sn {es es':Array (Int×Value)}(e:∀i (a:i<es.size),∃b,es[i].2=.ref b){x:Value}{h:Int}{b:Addr}(f:x=.ref b)(g:es'.toList.Perm (es.toList++[(h,x)])):∀i (a:i<es'.size),∃b,es'[i].2=.ref b:=λi a=>by
 have l:es'[i]∈es.toList++[(h,x)]:=g.mem_iff.mp (by rw[VJ];exact VL a);rcases Jb.mp l with z|z
 .obtain⟨j,m,n⟩:=UG z;have c:j<es.size:=by simpa using m
  obtain⟨b,o⟩:=e j c;refine⟨b,?_⟩;rw[<- n];simpa using o
 .rw[Je.mp z];exact⟨b,f⟩
def So {a:Addr}{es:Array (Int×Value)}{t:YD}{x:Value}{b:Addr}{h:Int}{same:Value->Bool}{Q:Bool->YC}
 (S:SetIs s.heap a es t) (O:x=.ref b) (hl:es.size+1<=1000)
 (T:∀i (C:i<es.size),es[i].1=h->∀Q:Bool->YC,Q (same es[i].2) s->YJ prog w A (eqBool es[i].2 x) Q E s)
 (H:t.led=true\/∀Q:Bool->YC,Q false s->YJ prog w A (searchCouldBeSeen x ((es.filter (·.1 == h)).toList.map (·.2))) Q E s)
 (U:∀Q:Bool->YC,Q true s->YJ prog w A (hashByValue 8 x) Q E s)
 (I:∀i (C:i<es.size),es[i].1=h->same es[i].2=true->Q false s)
 (l:(∀i (C:i<es.size),es[i].1=h->same es[i].2=false)->∀h' es' t',Heap.SameBut a s.heap h'->SetIs h' a es' t'->es'.toList.Perm (es.toList++[(h,x)])->t'.led=t.led->t'.plain=t.plain->Q true { s with heap:=h' }):
 YJ prog w A (setAddHashed a x h) Q E s:=by
 obtain⟨ep,o⟩:=S.at_;have J:t.mask<=9000:=by have:=S.most;lia
 unfold setAddHashed setAddHashedIn;refine wpAny_holding (Za (wpAny_setState_of o rfl S.tab.fits ?_));dsimp only;have X:byScan x es=false:=by subst O;rfl
 rw[X];simp only[UD,if_false];refine Za (Sf o rfl S.tab S.odd J T S.refs H (λi C Y Z=>Zb (I i C Y Z)) λq y hy hf hw=>?_);dsimp only;refine Za (wpAny_setState_of o rfl S.tab.fits ?_);dsimp only;have hsz:t.place.size=es.size:=by have:=S.tab.size;rwa [Ul] at this
 have K:=S.room;have F:=S.seven;obtain⟨m,f,r⟩:=RL S.tab hy hf hw ();rw[Ul] at f;have g:(t.put y).1.led=t.led:=rfl;have j:(t.put y).1.plain=t.plain:=rfl;generalize P:t.put y=tp at m f r g j;obtain⟨e,p⟩:=tp;dsimp only at m f r g j ⊢;have em:(SetTable.insertAt es p (h,x)).map (·.1)=SetTable.insertAt (es.map (·.1)) p h:=Sl _ _ _ _;rw[<- em] at m;have G:(SetTable.insertAt es p (h,x)).toList.Perm (es.toList++[(h,x)]):=by
  have:=SetTable.insertAt_perm es p (h,x)
  rwa [Array.toList_push] at this
 have u:(SetTable.insertAt es p (h,x)).size=es.size+1:=Dy es f _;have n:=Sn S.refs O G;generalize SetTable.insertAt es p (h,x)=es1 at m G u n;have R:YJ prog w A (do
  storeSet a es1 e
  if !false&&e.tooFull then setRelay a (SetTable.grown (es.size+1))
  return true) Q E s:=by
  refine Za (wpAny_storeSet_of o rfl ?_ (by rw[sizeLine_eq];lia));have v:=Hy (es':=es1) (t':=e) o;have B:=Heap.SameBut.update s.heap a (Obj.putSet es1 e);by_cases c:e.tooFull=true
  .rw[Zd (by rw[c];rfl)];rw[<- u];refine Za (Sm v m () () n λL t2 M l2 p2 S2=>(Zb (l q _ L t2 (B.trans (Heap.SameBut.update _ a _)) S2 (M.trans G) (l2.trans g) (p2.trans j))))
  .rw[Ze (by simpa using c)];have N:¬(e.fill*5 ≥ e.mask*3):=by
    intro z;exact c (by exact Zp z)
   have hfl:e.fill=es1.size:=by
    unfold SetTable.fill;have:=m.size;rw[Ul] at this;rw[this,m.nod];rfl
   have S1:SetIs (s.heap.update a (Obj.putSet es1 e)) a es1 e:=⟨⟨ep+1,v⟩,m,(),by have:=S.most;lia,(),n⟩;exact Zb (l q _ es1 e B S1 G g j)
 grind[wpAny_bind,wpAny_pure]
open PySem
variable {prog:Program}{w:World}{A:Around}{E:Ya}{s:Shared}
inductive HashAll (prog:Program)(w:World)(A:Around)(E:Ya)(s:Shared):Yf->List Int->Prop
 |nil:HashAll prog w A E s [] []
 |cons {v:Value} {vs:Yf} {h:Int} {hs:Yh}:(∀(tk:Nat) (Q:Int->YC),(∀tk',tk<=tk'->Q h { s with toks:=tk' })->YJ prog w A (pyHash v) Q E { s with toks:=tk })->HashAll prog w A E s vs hs->HashAll prog w A E s (v::vs) (h::hs)
def D3 (hs:Yh):Int:=reduceHash (Builtin.Tuple.tupleHashOf hs)
def Hz (l:s.heap.get? a=some o)(m:o.cls=.type "tuple")(p:o.data=.seq items n)(q:A.units<cLine)
 (H:HashAll prog w A.in1 E s items.toList hs) (h:∀tk,tk0<=tk->Q (D3 hs) { s with toks:=tk }):YJ prog w A (pyHash (.ref a)) Q E { s with toks:=tk0 }:=by
 have r:Shared.TypeIs { s with toks:=tk0 } (.ref a) "tuple" := ⟨o,l,m⟩;unfold pyHash;refine W.pyHash_slot (T:= "tuple") r F.slot_tuple_hash F.entry_tuple_hash (F.args_tuple_hash_1 _) (beq_builtin_none _) (.inr q) ?_;show wpAny _ _ (Builtin.Tuple.tupleItemsOf (.ref a) >>= _) _ _ _;refine Za (wpAny_tupleItemsOf l p ?_);refine Za ?_;rw[<- Vo];refine wpAny_forIn_list _ (λrest (b:Array Int) s'=>∃left tk,HashAll prog w A.in1 E s rest left/\b.toList++left=hs/\s'={ s with toks:=tk }/\tk0<=tk) _ ?_ ?_ _ _ ⟨hs,tk0,H,rfl,rfl,Zf _⟩
 .rintro x rest b s' ⟨left,tk,g,f,rfl,c⟩;cases g with
  |cons t i =>
   refine Za (t tk _ λj e=>?_);exact Zb ⟨_,j,i,by simp[<- f],rfl,Zh c e⟩
 .rintro b s' ⟨left,tk,g,f,rfl,c⟩;cases g;rw[ZA] at f;show wpAny _ _ (retInt (Builtin.Tuple.tupleHashOf b.toList)) _ _ _;rw[f];exact Za (wpAny_mkInt (Zb ⟨_,_,rfl,h _ (Vj c)⟩))
theorem HA:∀{a:Yf} {ns:Yh},PyProof.Rows.IntsAre a ns->HashAll prog w A E s a (ns.map hashInt)
 |_,_,.nil=>.nil
 |_,_,.cons n t r=>.cons (λtk Q h=>wpAny_pyHash_int (h _ (Nat.le_succ tk))) (HA r)
inductive PlainV (hp:Heap):Nat->Value->Prop
 |int (n:Nat) (i:Int) (t:Tok):PlainV hp n (.int i t)
 |tup {n:Nat} {a:Addr} {o:Obj} {items:Yn} {k:Nat}:hp.get? a=some o->o.cls=.type "tuple" -> o.data=.seq items k->(∀v∈items.toList,PlainV hp n v)->PlainV hp (n+1) (.ref a)
def Sq (p:PlainV s.heap n v):∀(d:Nat) (Q:Bool->YC),n<=d->Q true s->YJ prog w A (hashByValue d v) Q E s:=by
 induction p with
 |int n i t =>
  intro d Q _ h;cases d<;>exact Zb h
 |tup a b c _ e =>
  intro d Q j h;cases d with
  |zero=>lia
  |succ d =>
   have f:Shared.TypeIs s (.ref _) "tuple" := ⟨_,a,b⟩;refine Za (wpAny_specialOf f F.slot_tuple_hash.lookup (Za (wpAny_seqItems a c (Za ?_))));rw[Option.getD_some,<- Vo];refine wpAny_forIn_list _ (λrest r s'=>r.1=none/\s'=s/\∀v∈rest,v∈_) _ ?_ ?_ _ _ ⟨rfl,rfl,λv g=>g⟩
   .rintro x rest r s' ⟨l,rfl,m⟩;exact Za (e x () d _ () (Zb ()))
   grind[wpAny_pure]
def HB (p:PlainV s.heap n v):∀(d:Nat) (Q:Bool->YC),n<=d->Q true s->YJ prog w A (eqIsQuiet d v) Q E s:=by
 induction p with
 |int n i t =>
  intro d Q _ h;exact wpAny_of_eq (eqIsQuiet_byValue d rfl) h
 |tup a c e _ f =>
  intro d Q j h;cases d with
  |zero=>lia
  |succ d =>
   have b:Shared.TypeIs s (.ref _) "tuple" := ⟨_,a,c⟩;unfold eqIsQuiet;refine Za (wpAny_specialOf b F.slot_tuple_eq.lookup (Za (wpAny_isInstance b isSubtype_tuple_tuple (Za (wpAny_seqItems a e (Za ?_))))));rw[Option.getD_some,<- Vo];refine wpAny_forIn_list _ (λrest r s'=>r.1=none/\s'=s/\∀v∈rest,v∈_) _ ?_ ?_ _ _ ⟨rfl,rfl,λv g=>g⟩
   .rintro x rest r s' ⟨l,rfl,m⟩;exact Za (f x () d _ () (Zb ()))
   grind[wpAny_pure]
def HC (p:PlainV s.heap n v):∀(d:Nat) (Q:Bool->YC),n<=d->Q false s->YJ prog w A (ofAClassStatement d v) Q E s:=by
 induction p with
 |int n i t =>
  intro d Q _ h;cases d<;>exact Zb h
 |tup a b c _ e =>
  intro d Q j h;cases d with
  |zero=>lia
  |succ d =>
   have f:Shared.TypeIs s (.ref _) "tuple" := ⟨_,a,b⟩;unfold ofAClassStatement;refine Za (wpAny_typeOf f ?_);simp;refine Za (wpAny_seqItems a c (Za ?_));rw[<- Vo];refine wpAny_forIn_list _ (λrest r s'=>r.1=none/\s'=s/\∀v∈rest,v∈_) _ ?_ ?_ _ _ ⟨rfl,rfl,λv g=>g⟩
   .rintro x rest r s' ⟨l,rfl,m⟩;exact Za (e x () d _ () (Zb ()))
   grind[wpAny_pure]
def Sr (a:n<=8)(b:PlainV s.heap n x)(e:∀y∈ys,PlainV s.heap n y)(h:Q false s):YJ prog w A (searchCouldBeSeen x ys) Q E s:=by
 refine Za (wpAny_forIn_list _ (λrest r s'=>r.1=none/\s'=s/\∀v∈rest,v∈ys) _ ?_ ?_ _ _ ())
 .rintro y rest r s' ⟨g,rfl,f⟩;have c:=e y (f y Zqs);have nx:∀v∈rest,v∈ys:=by grind
  dsimp only
  split
  all_goals
   split
   .exact Zb ⟨rfl,rfl,nx⟩
   .refine Za (HB b 8 _ a ?_);refine Za (HB c 8 _ a ?_);simp;refine Za (HC b 8 _ a ?_);exact Za (HC c 8 _ a (Zb ⟨rfl,rfl,nx⟩))
 grind[wpAny_pure]
structure KeyFam (prog:Program)(w:World)(hp:Heap)(PV:Value->Prop)(hsh:Value->Int)(same:Value->Value->Bool):Prop where
 ref:∀v,PV v->∃b,v=.ref b
 plain:∀v,PV v->PlainV hp 8 v
 hash:∀v,PV v->∀(A:Around) (E:Ya) (s:Shared) (Q:Int->YC),(∀b o,hp.get? b=some o->s.heap.get? b=some o)->A.units+8<cLine->(∀tk,s.toks<=tk->Q (hsh v) { s with toks:=tk })->YJ prog w A (pyHash v) Q E s
 eq:∀v u,PV v->PV u->∀(A:Around) (E:Ya) (s:Shared) (Q:Bool->YC),(∀b o,hp.get? b=some o->s.heap.get? b=some o)->A.units+8<cLine->Q (same v u) s->YJ prog w A (eqBool v u) Q E s
 coh:∀v u,PV v->PV u->same v u=true->hsh v=hsh u
def PlainV.keep (k:∀b o,hp.get? b=some o->hp'.get? b=some o)(p:PlainV hp n v):PlainV hp' n v:=by
 induction p with
 |int n i t=>exact .int n i t
 |tup a c e _ f=>exact .tup (k _ _ a) c e f
def W0 (same:Value->Value->Bool)(D:Yf)(v:Value):Yf:=if D.any (same · v) then D else D++[v]
def yh (same:Value->Value->Bool)(val:Nat->Value)(i:Nat):Yf:=((List.range i).map val).foldl (W0 same) []
theorem AY (same:Value->Value->Bool)(val:Nat->Value)(i:Nat):yh same val (i+1)=W0 same (yh same val i) (val i):=by
 unfold yh;rw[List.range_succ,Uc,Vp];rfl
theorem HD (same:Value->Value->Bool)(val:Nat->Value):∀i,(yh same val i).length<=i
 | 0=>Zf _
 |i+1=>by
  have:=HD same val i
  grind[W0,AY,List.length_append,List.length_singleton]
theorem D4 (same:Value->Value->Bool)(val:Nat->Value):∀i v,v∈yh same val i->∃j,j<i/\v=val j
 | 0,v,h=>by cases h
 |i+1,v,h=>by
  rw[AY] at h;unfold W0 at h
  split at h
  .obtain⟨j,a,e⟩:=D4 same val i v h;exact⟨j,(),e⟩
  .rcases Jb.mp h with z|z
   .obtain⟨j,a,e⟩:=D4 same val i v z;exact⟨j,(),e⟩
   grind
def Holds (a:Value->Int)(hp:Heap)(S:Addr)(ld:Bool)(D:Yf):Prop:=∃es t,SetIs hp S es t/\es.toList.Perm (D.map λv=>(a v,v))/\t.led=ld/\t.plain=true
section
variable {prog:Program}{w:World}{A:Around}{E:Ya}{s:Shared}
def Ss {hp:Heap}{u:Value->Prop}{a:Value->Int}{same:Value->Value->Bool}(K:KeyFam prog w hp u a same){S:Addr}{ld:Bool}{D:Yf}{x:Value}{Q:Bool->YC}
 (B:∀b o,hp.get? b=some o->s.heap.get? b=some o) (P:A.units+8<cLine) (H:Holds a s.heap S ld D) (C:∀v∈D,u v) (q:u x) (hl:D.length<=999)
 (h:∀h' b,Heap.SameBut S s.heap h'->Holds a h' S ld (W0 same D x)->Q b { s with heap:=h' }):YJ prog w A (setAddHashed S x (a x)) Q E s:=by
 obtain⟨es,t,L,j,l,m⟩:=H;obtain⟨b,R⟩:=K.ref x q;have M:es.size=D.length:=by
  have:=j.length_eq;rw[Zql,Ui] at this;exact this
 have f:∀i (c:i<es.size),es[i].2∈D/\es[i].1=a es[i].2:=λi c=>by
  have F:es[i]∈D.map λv=>(a v,v):=j.mem_iff.mp (by rw[VJ];exact VL c);obtain⟨v,g,e⟩:=Ja.mp F;rw[<- e];exact⟨g,rfl⟩
 have n:∀v∈D,∃i,∃c:i<es.size,es[i]=(a v,v):=λv g=>by
  have F:(a v,v)∈es.toList:=j.mem_iff.mpr (Ja.mpr ⟨v,g,rfl⟩);obtain⟨i,c,e⟩:=UG F;exact⟨i,by simpa using c,by simpa using e⟩
 have N:=(K.plain x q).keep B;refine So (same:=λy=>same y x) L R () (λi c _ r p=>K.eq _ _ (C _ (f i c).1) q A E s r B P p) (.inr λr p=>?_) (λr p=>Sq N 8 r (Zf _) p) (λi c h1 T=>?_) λG h' es' t' U X I Y Z=>?_
 .refine Sr (Zf 8) N (λy hy=>?_) p;obtain⟨e,J,rfl⟩:=Ja.mp hy;have J:e∈es:=by
   have:=VJ.mp J;exact(Array.mem_filter.mp this).1
  obtain⟨i,c,rfl⟩:=Array.getElem_of_mem J;exact(K.plain _ (C _ (f i c).1)).keep B
 .have e:W0 same D x=D:=Zd (VH.mpr ⟨_,(f i c).1,T⟩);have:=h s.heap false (Heap.SameBut.refl S s.heap) ⟨es,t,L,by rw[e];exact j,l,m⟩;exact this
 .have e:W0 same D x=D++[x]:=Ze λz=>by
   obtain⟨v,g,hs⟩:=VH.mp z;obtain⟨i,c,O⟩:=n v g;have:=G i c (by rw[O];exact K.coh v x (C v g) q hs);rw[O] at this;rw[hs] at this;cases this
  refine h h' true U ⟨es',t',X,?_,Y.trans l,Z.trans m⟩;rw[e,Uc];exact I.trans (j.append_right _)
end
section
variable {prog:Program}{w:World}{A:Around}{R:Result->YC}{I:Addr}{fp wr:Yl}{G:Array GenState->Array GenState->Prop}{n:Nat}{P:Nat->Value->Prop}{St:Nat->YC}
def Holds.keep {b:Value->Int}{hp hp':Heap}{S:Addr}{ld:Bool}{D:Yf}(H:Holds b hp S ld D)(k:∀o,hp.get? S=some o->hp'.get? S=some o):Holds b hp' S ld D:=by
 obtain⟨es,t,a,r⟩:=H;obtain⟨ep,c⟩:=a.at_;exact⟨es,t,⟨⟨ep,k _ c⟩,a.tab,a.seven,a.most,a.room,a.refs⟩,r⟩
def Su (W:WalksS prog w A.in1 I fp wr G n P St)(S:Addr)(B:S∉fp)(p:∀b o,hp.get? b=some o->b∉wr/\b≠S)
 {C:Value->Prop} {f:Value->Int} {same:Value->Value->Bool} (K:KeyFam prog w hp C f same) (val:Nat->Value) (q:∀i v,P i v->v=val i) (J:∀i,i<n->C (val i)) (hn:n<=999) (Q:A.in1.units+8<cLine) (ld:Bool):
 ∀(k i:Nat) (s:Shared),n-i=k->i<=n->St i s->(∀b o,hp.get? b=some o->s.heap.get? b=some o)->Holds f s.heap S ld (yh same val i) ->
  (∀s',Moved (S::wr) G s s'->Holds f s'.heap S ld (yh same val n)->R (.ok (.ret .none)) s') ->
  codeAny (model prog w) A (.builtin "set.update.loop" ⟨[.ref S,.ref I],[]⟩) R s:=by
 have r:S∉wr:=λh=>B (W.sub _ h);have c:∀b∈wr,b∈S::wr:=by grind
 intro k
 induction k with
 |zero =>
  intro i s T Z g t H L;have M:i=n:=()
  subst M;refine codeAny_builtin F.entry_set_update_loop ?_;rw[Around.under_plainId F.plain_set_update_loop _];show wpAny _ A.in1 (pyNext (.ref I) >>= _) _ _ s;refine Za (W.done s _ _ g λs' m=>?_);show wpAny _ A.in1 (ret Value.none) _ _ s';exact Zb (L s' (m.mono c) (H.keep λo e=>m.heap S _ r e))
 |succ k ih =>
  intro i s T Z g t H L;have j:i<n:=()
  refine codeAny_builtin F.entry_set_update_loop ?_;rw[Around.under_plainId F.plain_set_update_loop _];show wpAny _ A.in1 (pyNext (.ref I) >>= _) _ _ s;refine Za (W.item i s _ _ j g λv s' hP x m=>?_);have U:=q i v hP;have H':=H.keep (hp':=s'.heap) λo e=>m.heap S _ r e;have a:∀b o,hp.get? b=some o->s'.heap.get? b=some o:=λb o e=>m.heap b o (p b o e).1 (t b o e);have X:C v:=by rw[U];exact J i j
  show wpAny _ A.in1 (holding [v] (setAdd S v) >>= _) _ _ s';refine Za (wpAny_holding ?_);unfold setAdd;refine wpAny_holding ?_;refine Za (K.hash v X _ _ _ _ a Q λtk y=>?_);have hl:=HD same val i;refine Ss K (s:={ s' with toks:=tk }) a Q H' (λu hu'=>?_) X () λh' b l Y=>?_
  .grind[D4]
  .rw[U,<- AY] at Y;refine Zb ⟨plainId_quiet F.plain_set_update_loop _,ih (i+1) _ (by rw[Nat.sub_succ,T];rfl) j (W.frame _ s' _ _ x ?_ λb hb o e=>?_) (λb o e=>?_) Y λN z O=>?_⟩
   .exact y
   .rw[l.2 b ()];exact e
   .rw[l.2 b (p b o e).2];exact a b o e
   .refine L N (Moved.trans W.gtrans ((m.mono c).then_heap ?_ λb o hb e=>?_) z) O
    .exact y
    .rw[l.2 b ()];exact e
end
def Sv (led:Bool):TabOk (SetTable.fresh 0 0 led) ((#[]:Array (Int×Value)).map (·.1)):=by
 refine⟨by rw[Ul];rfl,λi j _ h=>Zn h (UP _),λi h=>Zn h (UP _),rfl,⟨3,rfl⟩,Ub _,λi h=>Zn h (UP _)⟩
def Sw (a:hp.get? S=some { cls:=.type "set",dict:=none,data:=.set #[] 0 (.fresh 0 0 led) }):Holds hsh hp S led []:=
 ⟨#[],.fresh 0 0 led,⟨⟨0,a⟩,Sv led,Zf _,Zf _,(show 0*5<7*3 by decide),λi h=>Zn h (UP _)⟩,Vh _,rfl,rfl⟩
section
variable {prog:Program}{w:World}{A:Around}{E:Ya}{s:Shared}
def zd (w:World):Bool:=!w.params.followText "set-order"
def Sx (a:Value)
 (h:Q₁ (.ref s.heap.objs.size) { s with heap:=s.heap.push { cls:=.type "set",dict:=none,data:=.set #[] 0 (.fresh 0 0 (zd w)) } }):
 codeAny (model prog w) A (.call (.builtin "set.__new__") ⟨[.type "set",a],[]⟩) (wants Q₁ E) s:=by
 refine codeAny_of_tree ?_;show wpAny _ A.in1 (do checkBuiltinCall "set.__new__" ⟨[.type "set",a],[]⟩;again (.builtin "set.__new__" ⟨[.type "set",a],[]⟩)) _ _ s;refine Za (wpAny_of_eq (F.newCall_set_1 a) (Zb ⟨plainId_quiet F.plain_set_new _,codeAny_builtin F.entry_set_new ?_⟩));rw[Around.under_plainId F.plain_set_new _];unfold Builtin.«set.__new__» Builtin.Frozenset.newClass;have b:=sub_set_self;obtain⟨hp,g,d,tk,os⟩:=s;dsimp only
 wp_walk
 refine wpAny_askSetting (Zb ?_);dsimp only;simp only[newObj];refine Za (wpAny_alloc (Zb ?_));exact Zb h
set_option maxRecDepth 100000 in
set_option maxHeartbeats 3200000 in
def Sy {l:Addr}{a:Yn}{Y:Value->Prop}{m:Value->Int}{same:Value->Value->Bool}{Q:Ya}(hh:A.handled=none)(hl:s.heap.IsList l a)(K:KeyFam prog w s.heap Y m same)
 (I:∀(i:Nat) (v:Value),a[i]? = some v->Y v) (hn:a.size<=999) (hu:A.in1.in1.in1.units+8<cLine)
 (h:∀(h':Heap) (tk:Nat),Holds m h' s.heap.objs.size (zd w) (yh same (λi=>a.getD i .none) a.size)->(∀b o,b<s.heap.objs.size->s.heap.get? b=some o->h'.get? b=some o)->Q (.ref s.heap.objs.size) { s with heap:=h',toks:=tk }):
 YJ prog w A (call (.type "set") [.ref l]) Q E s:=by
 have Z:=λA:Around=>Sx (prog:=prog) (w:=w) (A:=A) (E:=E) (s:=s) (.ref l) (Q₁:=λq s₁=>q=.ref s.heap.objs.size/\s₁={ s with heap:=s.heap.push { cls:=.type "set",dict:=none,data:=.set #[] 0 (.fresh 0 0 (zd w)) } }) ⟨rfl,rfl⟩;generalize zd w=led at h Z;obtain⟨c,tl,hmro⟩:=F.called_set.mro;have J:=F.called_set.made;have hsub:=F.called_set.sub;refine wpAny_call (codeAny_of_tree ?_);show wpAny _ _ (callAny (.type "set") _) _ _ _;refine Zb ⟨Code.quiet_builtin _ (by decide +kernel),codeAny_builtin F.entry_type_call ?_⟩;rw[Around.under_plain (weight_type_call_type "set" [.ref l] []) rfl];have h1:=F.called_set.notType;have h2:=F.called_set.canCreate;have hct:=F.typeCall_set_1 (.ref l)
 repeat (any_goals (first|assumption|wp_step))
 refine codeAny_mono (Z _) λr s₁ n=>?_;cases r with
 |error e=>exact n
 |ok L =>
  cases L with
  |ret q =>
   obtain⟨rfl,rfl⟩:=n;generalize f:({ cls:=.type "set",dict:=none,data:=.set #[] 0 (.fresh 0 0 led) }:Obj)=no at *;have hS:(s.heap.push no).get? s.heap.objs.size=some no:=Zr _ (by rw[<- f];rfl);have hT:Shared.TypeIs { s with heap:=s.heap.push no } (.ref s.heap.objs.size) "set" := ⟨_,hS,by rw[<- f]⟩;have hli:=F.called_set.init.lookup;have hbi:=F.called_set.init.bind (.ref s.heap.objs.size)
   repeat (any_goals (first|assumption|wp_step))
   refine codeAny_mono (codeAny_call_builtin (R:=wants (λr s₂=>r=.none/\∃h' tk,s₂={ s with heap:=h',toks:=tk }/\Holds m h' s.heap.objs.size led (yh same (λi=>a.getD i .none) a.size) /\
    (∀b o,b<s.heap.objs.size->s.heap.get? b=some o->h'.get? b=some o)) E) F.called_set.init.plain F.entry_set_init (check_set_init_1 hT ?_)) λr₂ s₂ hr₂=>?_
   .obtain⟨ol,t,u,nl,x⟩:=hl;obtain⟨ocls,p,M,g⟩:=ol;simp only at u x;subst u;subst x;have y:(s.heap.push no).get? l=some { cls:=.type "list",dict:=p,data:=.seq a nl,slots:=g }:=Zq _ t;have hsls:=F.sub_list_set;have hslf:=F.sub_list_frozenset;have hne:(Value.type "list" == Value.type "dict")=false:=by decide
    have z:(s.heap.push no).IsList l a:=⟨_,y,rfl,nl,rfl⟩;subst f;unfold Builtin.«set.__init__» noKeywords Builtin.Frozenset.updateFrom;generalize N:pyIter=PI
    wp_walk
    subst N;refine wpAny_pyIter_list z ?_;refine Za (wpAny_runValue ?_);have B:l<s.heap.objs.size:=Zk t;have O:A.in1.in1.in1.handled=none:=by simp[hh]
    generalize f:({ cls:=.type "set",dict:=none,data:=.set #[] 0 (.fresh 0 0 led) }:Obj)=no at *;have j:(s.heap.push no).objs.size=s.heap.objs.size+1:=Heap.size_push ..;have C:l≠(s.heap.push no).objs.size:=by rw[j];exact Zi (UC B)
    have P:s.heap.objs.size ∉ [(s.heap.push no).objs.size,l]:=by
     simp only[UV,Vn,or_false,not_or];exact⟨by rw[j];exact Zi (UA _),UZ B⟩
    have hw:∀(i:Nat) (v:Value),a[i]? = some v->v=(λi=>a.getD i .none) i:=λi v hv=>by
     show v=a.getD i .none;rw[VV,hv];rfl
    refine Su ((Walks.list O _ l C a).toS) s.heap.objs.size P (hp:=s.heap) (λb o e=>?_) K (λi=>a.getD i .none) hw (λi hi=>?_) hn (by exact hu) led (a.size-0) 0 _ () (Ub _)
     ⟨⟨_,Zr _ rfl,rfl,rfl⟩,(z.push _)⟩ (λb o e=>Zq _ (Zq _ e)) (Sw (by rw[f];exact Zq _ hS)) λs' H H'=>?_
    .have G:=Zk e;refine⟨?_,Zi G⟩;simp only[UV,Vn,or_false];rw[j];exact Zi (UC G)
    .exact I i _ (by show a[i]? = some (a.getD i .none);rw[Kd hi,Uv hi])
    .obtain⟨h',g',d',S,T⟩:=s';have eg:g'=s.gens:=H.gens;have ed:d'=s.drawn:=H.drawn;have eo:T=s.os:=H.os;subst eg;subst ed;subst eo;show wpAny _ _ _ _ _ _;refine Zb ?_;show wpAny _ _ (ret Value.none) _ _ _;refine Zb ⟨rfl,h',S,rfl,H',λb o G e=>?_⟩;exact H.heap b o (by simp only[UV,Vn,or_false,not_or];exact⟨Zi G,by rw[j];exact Zi (UC G)⟩) (Zq _ (Zq _ e))
   .cases r₂ with
    |error e=>exact hr₂
    |ok fl₂ =>
     cases fl₂ with
     |ret r =>
      obtain⟨rfl,h',tk,rfl,U,X⟩:=hr₂
      repeat (any_goals (first|assumption|wp_step))
      exact h _ _ U X
     |_=>exact hr₂.elim
  |_=>exact n.elim
end
def KC (p:Int×Int):PyData:=.tuple [.int p.1,.int p.2]
def zc (r:Jy):PyData:=.tuple (r.map KC)
def HE (p:Int×Int):Int:=D3 ([p.1,p.2].map hashInt)
def HF (r:Jy):Int:=D3 (r.map HE)
def wD (hp:Heap)(v:Value)(p:Int×Int):Prop:=∃a o b n t u,v=.ref a/\hp.get? a=some o/\o.cls=.type "tuple" /\ o.data=.seq b n/\b.toList=[.int p.1 t,.int p.2 u]
inductive IsPairs (hp:Heap):Yf->Jy->Prop
 |nil:IsPairs hp [] []
 |cons {v vs p r}:wD hp v p->IsPairs hp vs r->IsPairs hp (v::vs) (p::r)
def yZ (hp:Heap)(v:Value)(r:Jy):Prop:=∃a o b n,v=.ref a/\hp.get? a=some o/\o.cls=.type "tuple" /\ o.data=.seq b n/\IsPairs hp b.toList r
def Sz (h:wD hp v p):Reads hp v (KC p) []:=by
 obtain⟨a,o,g,n,t,u,rfl,b,c,e,f⟩:=h;refine .tuple b c e ?_;rw[f];exact .cons (.int _ _) (.cons (.int _ _) .nil)
def S0:∀{a:Yf} {r:Jy},IsPairs hp a r->ReadsAll hp a (r.map KC) []:=λh=>by
 induction h with
 |nil=>exact .nil
 |cons b _ c=>exact .cons (Sz b) c
def HG (h:yZ hp v r):Reads hp v (zc r) []:=by
 obtain⟨a,o,g,n,rfl,b,c,e,f⟩:=h;exact .tuple b c e (S0 f)
def wD.keep (k:∀b o,hp.get? b=some o->hp'.get? b=some o)(h:wD hp v p):wD hp' v p:=by
 obtain⟨a,o,c,n,t,u,e,f,r⟩:=h;exact⟨a,o,c,n,t,u,e,k _ _ f,r⟩
theorem IsPairs.keep (k:∀b o,hp.get? b=some o->hp'.get? b=some o)(h:IsPairs hp vs r):IsPairs hp' vs r:=by
 induction h with
 |nil=>exact .nil
 |cons a _ c=>exact .cons (a.keep k) c
theorem yZ.keep (k:∀b o,hp.get? b=some o->hp'.get? b=some o)(h:yZ hp v r):yZ hp' v r:=by
 obtain⟨a,o,c,n,e,f,g,i,j⟩:=h;exact⟨a,o,c,n,e,k _ _ f,g,i,j.keep k⟩
theorem S3 (h:wD hp v p)(n:Nat):PlainV hp (n+1) v:=by
 obtain⟨a,o,j,k,t,u,rfl,c,f,g,i⟩:=h;refine .tup c f g λx b=>?_;rw[i] at b;rcases UV.mp b with e|e
 .rw[e];exact .int _ _ _
 .rw[Je.mp e];exact .int _ _ _
def S4 (h:yZ hp v r)(n:Nat):PlainV hp (n+2) v:=by
 obtain⟨a,o,c,k,rfl,e,f,g,b⟩:=h;refine .tup e f g ?_;generalize c.toList=l at b
 induction b with
 |nil=>intro x i;cases i
 |cons j _ m =>
  grind[S3]
section
variable {prog:Program}{w:World}{A:Around}{E:Ya}{s:Shared}
def S5 (c:A.units<cLine):∀{b:Yf} {r:Jy},IsPairs s.heap b r->HashAll prog w A E s b (r.map HE):=λh=>by
 induction h with
 |nil=>exact .nil
 |cons e _ f =>
  refine .cons (λtk Q h=>?_) f;obtain⟨a,o,b,n,t,u,rfl,g,i,j,l⟩:=e;refine Hz g i j c ?_ h;rw[l];exact HA (.cons _ _ (.cons _ _ .nil))
def S6 (c:yZ s.heap v r)(e:A.units<cLine)(b:A.in1.units<cLine)(h:∀tk,s.toks<=tk->Q (HF r) { s with toks:=tk }):YJ prog w A (pyHash v) Q E s:=by
 obtain⟨a,o,l,n,rfl,f,g,i,j⟩:=c;exact Hz f g i e (S5 b j) h
end
def S7 (p q:Int×Int):PyData.eqv (KC p) (KC q)=decide (p=q):=by
 grind[KC,PyData.eqv,PyData.eqvAll]
theorem HH:∀r q:Jy,PyData.eqvAll (r.map KC) (q.map KC)=decide (r=q)
 | [],[]=>by rfl
 | [],_::_=>by rfl
 |_::_,[]=>by rfl
 |p::r,q::s=>by
  rw[Zl,Zl];unfold PyData.eqvAll;rw[S7,HH r s,Vc];simp
def S8 (r q:Jy):PyData.eqv (zc r) (zc q)=decide (r=q):=HH r q
theorem HJ:∀r:Jy,PyData.canLayAll0 (r.map KC)=true
 | []=>rfl
 |p::r=>by
  rw[Zl];unfold PyData.canLayAll0;rw[HJ r];rfl
def HK (r:Jy):(zc r).canLay0=true:=HJ r
theorem HM:∀r:Jy,PyData.depthAll (r.map KC)<=1
 | []=>Ub _
 |p::r=>by
  rw[Zl];unfold PyData.depthAll;have a:(KC p).depth=1:=rfl;have b:=HM r;rw[a];lia
def S9 (r:Jy):(zc r).depth<=2:=Vt (HM r)
def wD.inj (h:wD hp v p)(h':wD hp v q):p=q:=by
 obtain⟨a,o,c,n,t,u,rfl,f,g,i,j⟩:=h;obtain⟨l,m,b,r,t',x,e,k1,k2,k3,y⟩:=h'
 grind
theorem IsPairs.inj:∀{a:Yf} {r q:Jy},IsPairs hp a r->IsPairs hp a q->r=q:=λ{a r q} g h=>by
 induction g generalizing q with
 |nil=>cases h;rfl
 |cons b _ c =>
  cases h with
  |cons k1 k2=>rw[b.inj k1,c k2]
theorem yZ.inj (h:yZ hp v r)(h':yZ hp v q):r=q:=by
 obtain⟨a,o,j,n,rfl,b,l,c,f⟩:=h;obtain⟨m,p,g,t,e,k1,k2,k3,i⟩:=h';cases e;rw[b] at k1;obtain rfl:=Zqi k1;rw[c] at k3;cases k3;exact f.inj i
open Classical in
def zb (hp:Heap)(v:Value):Jy:=if h:∃r,yZ hp v r then h.choose else[]
theorem AZ (h:yZ hp v r):zb hp v=r:=by
 unfold zb;have e:∃r,yZ hp v r:=⟨r,h⟩;rw[dif_pos e];exact e.choose_spec.inj h
def SA (prog:Program)(w:World)(hp:Heap):KeyFam prog w hp (λv=>∃r,yZ hp v r) (λv=>HF (zb hp v)) (λv u=>decide (zb hp v=zb hp u)) where
 ref:=by
  rintro v ⟨r,a,o,b,n,e,_⟩;exact⟨a,e⟩
 plain:=by
  rintro v ⟨r,h⟩;exact S4 h 6
 hash:=by
  rintro v ⟨r,h⟩ A E s Q hk hu hq;rw[AZ h] at hq;exact S6 (h.keep hk) () (show A.units+1<cLine from ()) hq
 eq:=by
  rintro v u ⟨r,h⟩ ⟨q,h'⟩ A E s Q hk hu hq;rw[AZ h,AZ h',<- S8] at hq;have d1:=S9 r;exact SeqAt.eqBoolOverData prog w A E s v u (zc r) (zc q) [] [] Q (HG (h.keep hk)) (HG (h'.keep hk)) (HK r) (HK q) () hq
 coh:=()
def vI:Slot "set_iterator" "__next__" "set_iterator.__next__" :=
 .of (owner:= "set_iterator") (n:= "__next__") (by kernel_rfl) (by decide +kernel) (by decide +kernel) (by decide +kernel)
  (by first|exact .inl (by decide +kernel)|exact .inr (by decide +kernel)) (by kernel_rfl)
def HN:entryFor table "set_iterator.__next__" = some Builtin.«set_iterator.__next__»:=entryFor_of_tree (by kernel_rfl)
def HQ:Manifest.owners.lookup (String.ofList ['r','o','t','a','r','e','t','i','_','t','e','s'].reverse)=some Manifest.sig_set_iterator:=by kernel_rfl
def HR (a:Value):argsOk "set_iterator.__next__" ⟨[a],[]⟩:=by
 unfold argsOk;rw[signature?_of (n:=['_','_','t','x','e','n','_','_']) (by kernel_rfl) HQ];kernel_rfl
def SC:entryFor table "set.__iter__" = some Builtin.«frozenset.__iter__»:=entryFor_alias (id':= "frozenset.__iter__") (by kernel_rfl) rfl (by decide +kernel) (by kernel_rfl)
def HS:Slot "set_iterator" "__iter__" "set_iterator.__iter__" :=
 .of (owner:= "set_iterator") (n:= "__iter__") (by rw[typeLookup_type,builtinLookup_eq_fast];kernel_rfl) (by decide +kernel) (by decide +kernel) (by decide +kernel)
  (by first|exact .inl (by decide +kernel)|exact .inr (by decide +kernel)) (by rw[isSubtype_type];kernel_rfl)
def SE:entryFor table "set_iterator.__iter__" = some Builtin.«dict_keyiterator.__iter__» :=
 entryFor_alias (id':= "dict_keyiterator.__iter__") (by kernel_rfl) (by rfl) (by decide +kernel) (by kernel_rfl)
def SF (a:Value):argsOk "set_iterator.__iter__" ⟨[a],[]⟩:=by
 unfold argsOk;rw[signature?_of (n:=['_','_','r','e','t','i','_','_']) (by kernel_rfl) HQ];kernel_rfl
abbrev HU (h:Heap)(it S:Addr)(slot i n ep:Nat):Prop:=h.get? it=some { cls:=.type "set_iterator",dict:=none,data:=.fields #[.int slot 0,.int i 0,.ref S,.int n 0,.int ep 0],slots:=#[] }
abbrev WT (es:Array (Int×Value))(ep:Nat)(t:YD):Obj:={ cls:=.type "set",dict:=none,data:=.set es ep t,slots:=#[] }
def Ke (w:World)(S ep:Nat)(es:Array (Int×Value)):Array (Int×Value):=if w.params.followText "set-order" then pickOrder (w.params.setOrder S ep) es else es
theorem HV {α: Type}(next:Nat->Nat):∀(fuel k:Nat) (left:List α) (a:Array α),left.length<=fuel->(pickOrder.go next fuel k left a).toList.Perm (a.toList++left)
 | 0,k,left,a,h=>by
  simp_all [pickOrder.go,ZA]
 |fuel+1,k,left,a,h=>by
  unfold pickOrder.go;cases q:left[next k % left.length]? with
  |none =>
   have b:left.length=0:=by
    grind[Nat.eq_zero_or_pos,Nat.mod_lt,Zqg]
   simp_all
  |some x =>
   have c:=(Jc.mp q).1;have b:=List.length_eraseIdx_of_lt c;refine(HV next fuel (k+1) _ _ ()).trans ?_;rw[Array.toList_push,Ud];refine List.Perm.append_left _ ?_;have e:left=left.take (next k % left.length)++x::left.drop (next k % left.length+1):=by
    grind[List.take_append_drop,List.drop_eq_getElem_cons]
   rw[List.eraseIdx_eq_take_drop_succ];exact Vg ((List.perm_middle (l₁:=left.take (next k % left.length))).symm) (List.Perm.of_eq e.symm)
def SG {α: Type}(next:Nat->Nat)(es:Array α):(pickOrder next es).toList.Perm es.toList:=by
 unfold pickOrder;have:=HV next es.size 0 es.toList #[] ();simpa using this
def HW (w:World)(S ep:Nat)(es:Array (Int×Value)):(Ke w S ep es).toList.Perm es.toList:=by
 unfold Ke
 split
 .exact SG _ _
 .exact Vh _
def D5 (w:World)(S ep:Nat)(es:Array (Int×Value)):(Ke w S ep es).size=es.size:=by
 have:=(HW w S ep es).length_eq;simpa using this
def SH (u:wg xs)(c:i<xs.size):SetTable.below xs (xs[i]+1)=i+1:=by
 obtain⟨h,f,g⟩:=AW u (xs[i]+1);have e:xs.getD i 0=xs[i]:=Kd c 0;rcases UW (SetTable.below xs (xs[i]+1)) (i+1) with q|q|q
 .have:=g i () c;lia
 .exact q
 .have a:=f (i+1) q;have b:=u i (i+1) () ();lia
def SI (a:Yi)(u:wg a):SetTable.below a 0=0:=by
 obtain⟨c,b,e⟩:=AW u 0;rcases VI (SetTable.below a 0) with q|q
 .exact q
 .have:=b 0 q;lia
section
variable {prog:Program}{w:World}{A:Around}{E:Ya}{s:Shared}
def SJ (a:s.heap.get? S=some (WT es ep t))(c:t.fits es.size=true)(hp:t.plain=true)
 (g:Q (.ref s.heap.objs.size) { s with heap:=s.heap.push { cls:=.type "set_iterator",data:=.fields #[.int 0 0,.int 0 0,.ref S,.int es.size 0,.int ep 0] } }):YJ prog w A (pyIter (.ref S)) Q E s:=by
 have f:s.TypeIs (.ref S) "set" := ⟨_,a,rfl⟩;refine wpAny_pyIter_slot f F.slot_set_iter (wpAny_call_entry F.slot_set_iter f SC ?_ (F.args_set_iter_1 _));unfold Builtin.«frozenset.__iter__» Builtin.Frozenset.slot0 slotArgs;simp only[bind_assoc];refine Za (Zb (Za (Zb (Za (Za (wpAny_setEntries_of a rfl c (Zb ?_)))))));have h:wpAny (model prog w) A.in1 (setDrawn S) (λb s'=>b=false/\s'=s) E s:=by
  refine Za (wpAny_setState_of a rfl c (Za (Za (wpAny_askSetting (Zb (Zb ⟨?_,rfl⟩))))));obtain⟨mask,place,dummies,finger,led,moves,plain⟩:=t;cases hp;exact Bool.and_false _
 refine Za (Zc h (λb s' z=>?_) λ_ _ e=>e);obtain⟨rfl,rfl⟩:=z;refine Za (Zb (Za (Za (wpAny_setState_of a rfl c (Zb (Za (wpAny_newObj_type (Zb ⟨_,rfl, "set_iterator",_,⟨_,Zr _ rfl,rfl⟩,vI.lookup,g⟩) (by simp_all [sizeOk,sizeLine_eq]))))))))
def HX (f:s.heap.get? S=some (WT es ep t))(g:t.fits es.size=true)(hp:t.plain=true)(b:t.led=zd w)(l:wg t.place)(hz:t.place.size=es.size)
 (m:w.params.followText "set-order" = false->SetTable.below t.place slot=i)
 (c:∀a,(w.params.followText "set-order" = false->i<es.size->SetTable.below t.place a=i+1)->Q (((Ke w S ep es)[i]?).map λe=>(e.2,a)) s):YJ prog w A (setNext S slot i ep) Q E s:=by
 unfold setNext;refine Za (wpAny_setState_of f rfl g ?_);unfold setsByText;refine Za (Za (wpAny_askSetting (Zb ?_)));cases q:w.params.followText "set-order" with
 |true =>
  have e:({ program:=(model prog w).prog,params:=(model prog w).w.params }:Setting).params.followText "set-order" = true:=q;rw[Zd e];dsimp only;rw[Ze ()];unfold setWalk;refine Za (Za (wpAny_setState_of f rfl g ?_));unfold setsByText;refine Za (Za (wpAny_askSetting (Zb ?_)));rw[Zd e];refine Za (wpAny_askSetting (Zb (Zb ?_)));have:=c slot λz=>by rw[q] at z;cases z
  unfold Ke at this;rw[Zd q] at this;exact this
 |false =>
  have e:¬({ program:=(model prog w).prog,params:=(model prog w).w.params }:Setting).params.followText "set-order" = true:=by
   show ¬w.params.followText "set-order" = true;rw[q];simp
  rw[Ze e];dsimp only;have n:Ke w S ep es=es:=by unfold Ke;rw[q];rfl
  rw[n] at c;rw[(m q)];have b:t.led=true:=by rw[b];unfold zd;rw[q];rfl
  obtain⟨mask,place,dummies,finger,led,moves,plain⟩:=t;cases hp;cases b
  split
  .rename_i z;exact Zn z Zj
  .refine Za (Zb ?_);refine Zb ?_;by_cases h:i<es.size
   .have j:i<place.size:=by rwa [hz]
    have:=c (place[i]+1) λ_ _=>SH l j;rw[Uv h] at this
    rwa [Uv h,Uv j]
   grind[Array.getElem?_eq_none]
abbrev YZ (w:World)(it S:Addr)(es:Array (Int×Value))(ep:Nat)(t:YD)(i:Nat)(h:Heap):Prop:=(∃slot,HU h it S slot i es.size ep/\(w.params.followText "set-order" = false->i<=es.size->SetTable.below t.place slot=i))/\h.get? S=some (WT es ep t)
structure SetGood (w:World)(es:Array (Int×Value))(t:YD):Prop where
 fits:t.fits es.size=true
 plain:t.plain=true
 led:t.led=zd w
 up:wg t.place
 size:t.place.size=es.size
def SK (G:SetGood w es t)(st:YZ w it S es ep t i s.heap)(n:i<es.size)
 (o:∀h' x,(∃k,(Ke w S ep es)[i]? = some (k,x))->YZ w it S es ep t (i+1) h'->Heap.SameBut it s.heap h'->Q (some x) { s with heap:=h' }):YJ prog w A (pyNext (.ref it)) Q E s:=by
 obtain⟨⟨l,a,f⟩,g⟩:=st;have m:s.TypeIs (.ref it) "set_iterator" := ⟨_,a,rfl⟩;have e:S≠it:=by grind
 unfold pyNext;refine Za (wpAny_attempt (wpAny_callSpecial?_slot (name:=Str.ofString "__next__") m vI
  (wpAny_call_entry vI m HN ?_ (HR _))))
 unfold Builtin.«set_iterator.__next__» slotArgs;simp only[List.isEmpty_nil,Bool.not_true,UD,↓reduceIte,bind_assoc,ZC];refine Za (Zb ?_);refine Za (wpAny_fieldsOf a rfl ?_);refine Za (wpAny_setEntries_of g rfl G.fits ?_);simp[Vy];refine Za (HX g G.fits G.plain G.led G.up G.size () λc hs=>?_);have p:i<(Ke w S ep es).size:=by rwa [D5]
 rw[Uv p];refine Za (wpAny_setField_rec a () λh₁ he₁ hs₁=>?_);refine Za (wpAny_setField_rec he₁ () λh₂ he₂ hs₂=>?_);have hs₂:=hs₂;have hs₁:=hs₁;refine Zb ⟨_,rfl,Zb (o h₂ _ () ⟨⟨c,?_,λz _=>hs z n⟩,hs₂.extBut _ _ e (hs₁.extBut _ _ e g)⟩ ⟨hs₂.1.trans hs₁.1,λb f=>(hs₂.2 b f).trans (hs₁.2 b f)⟩)⟩;unfold HU;simpa [rawInt] using he₂
def SL (g:A.handled=none)(G:SetGood w es t)(st:YZ w it S es ep t i s.heap)(j:i=es.size)
 (h:∀h',Heap.ExtBut it s.heap h'->Q none { s with heap:=h' }):YJ prog w A (pyNext (.ref it)) Q E s:=by
 obtain⟨⟨c,a,l⟩,e⟩:=st;have f:s.TypeIs (.ref it) "set_iterator" := ⟨_,a,rfl⟩;unfold pyNext;refine Za (wpAny_attempt (wpAny_callSpecial?_slot (name:=Str.ofString "__next__") f vI
  (wpAny_call_entry vI f HN ?_ (HR _))))
 unfold Builtin.«set_iterator.__next__» slotArgs;simp only[List.isEmpty_nil,Bool.not_true,UD,↓reduceIte,bind_assoc,ZC,bne_self_eq_false];refine Za (Zb ?_)
 try dsimp only
 refine Za (wpAny_fieldsOf a rfl ?_);dsimp only;refine Za (wpAny_setEntries_of e rfl G.fits ?_);rw[Ze ()];simp only[Vy];refine Za (HX e G.fits G.plain G.led G.up G.size () λb hs=>?_);rw[VF (by rw[D5];lia)];refine Za (wpAny_setField a rfl () ?_);refine Za ?_;simp[newExc];refine Za (wpAny_newObj_type ?_ (by size_fits));refine Za (wpAny_of_eq (by first|rfl|(simp only)) ?_);refine wpAny_newObj_type ?_ (by size_fits);refine Za (wpAny_handled ?_);rw[g];refine Za (Zb (wpAny_throw ?_));exact Za (wpAny_isInstance ⟨_,Zr _ rfl,rfl⟩ isSubtype_stop (Zb (h _ (((Heap.SameBut.update ..).extBut.push _).push _))))
end
def SN (n:A.handled=none)(G:SetGood w es t):WalksS prog w A it [it,S] [it] (λg g'=>g'=g) es.size (λi v=>∃k,(Ke w S ep es)[i]? = some (k,v)) (λi s=>YZ w it S es ep t i s.heap):=
 (show Walks prog w A it [it,S] [it] es.size (λi v=>∃k,(Ke w S ep es)[i]? = some (k,v)) (λi h=>YZ w it S es ep t i h) from {
  sub:=by simp
  frame:=by grind
  item:=λi s Q E p st a=>SK G st p λh' x q c r=>a x h' s.toks q c λb o l e=>r.extBut b o () e
  done:=λs Q E st a=>SL n G st rfl λh' u=>a h' s.toks λb o l e=>u b o () e
  self:=λi s Q E st a=>have ⟨⟨m,f,l⟩,y⟩:=st;have j:=⟨_,f,rfl⟩;wpAny_pyIter_slot j HS (wpAny_call_entry HS j SE (Zb ⟨_,rfl, "set_iterator",_,j,vI.lookup,a⟩) (SF _)) }).toS
def SO:typeLookup (.type "set") "__len__" = pure (some (.builtin "set.__len__")):=by rw[typeLookup_type,builtinLookup_eq_fast];kernel_rfl
section
variable {prog:Program}{w:World}{A:Around}{E:Ya}{s:Shared}
def SQ (a:s.TypeIs (.ref r) "set")(h:Q false s):YJ prog w A (Builtin.List.listLengthHint (.ref r)) Q E s:=by
 refine Za (wpAny_specialOf a SO ?_);generalize c:("set.__len__" : String)=id0;subst c;exact Za (wpAny_isInstance (b:=true) a (by rw[isSubtype_type];kernel_rfl) (wpAny_ite_split (λe=>Zn e (by decide)) (λ_=>(Za (wpAny_typeOf a (Zb h))))))
def SR (Z:A.handled=none)(i:s.heap.get? S=some (WT es ep t))(G:SetGood w es t)(hn:es.size<=1000)
 (h:∀(h':Heap) (tk:Nat) (U:Yf),(∀b o,s.heap.get? b=some o->h'.get? b=some o)->U.Perm (es.toList.map (·.2))->s.heap.objs.size<h'.objs.size->R U { s with heap:=h',toks:=tk }):YJ prog w A (collect (.ref S)) R E s:=by
 have H:S<s.heap.objs.size:=Zk i;have X:s.TypeIs (.ref S) "set" := ⟨_,i,rfl⟩;unfold collect;refine Za (wpAny_runValue (codeAny_builtin F.entry_proto_collect ?_));rw[Around.under_plainId F.plain_proto_collect _];show wpAny _ A.in1 (newList [] >>= λl=>again (.builtin "list.__iadd__" ⟨[l,.ref S],[]⟩)) _ _ s;refine Za (wpAny_newObj_type ?_);refine Zb ⟨plainId_quiet F.plain_list_iadd _,codeAny_builtin F.entry_list_iadd ?_⟩;rw[Around.under_plainId F.plain_list_iadd _];generalize p:({ cls:=.type "list",data:=.seq ([]:Yf).toArray }:Obj)=no;have hL₁:(s.heap.push no).get? s.heap.objs.size=some no:=Zr _ (by rw[<- p];rfl);have ho₁:(s.heap.push no).get? S=some (WT es ep t):=Zq _ i;have hT₁:Shared.TypeIs { s with heap:=s.heap.push no } (.ref S) "set" := ⟨_,ho₁,rfl⟩;have m:S≠s.heap.objs.size:=Zi H;show wpAny _ A.in1 (Builtin.List.listExtendWith (.ref s.heap.objs.size) (.ref S) (.ref s.heap.objs.size)) _ _ _;unfold Builtin.List.listExtendWith;refine Za (wpAny_typeOf hT₁ ?_);have h1:Builtin.List.listSameRef (.ref s.heap.objs.size) (.ref S)=false:=by simp[Builtin.List.listSameRef,Ne.symm m]
 have h2:(Value.type "set" == Value.type "list")=false:=by decide
 have h3:(Value.type "set" == Value.type "tuple")=false:=by decide
 simp only[h1,h2,h3,Bool.or_false,UD,if_false];refine Za (SJ (s:={ s with heap:=s.heap.push no }) ho₁ G.fits G.plain ?_);have K:(s.heap.push no).objs.size=s.heap.objs.size+1:=Heap.size_push ..;generalize L:(s.heap.push no).objs.size=I at *;generalize q:({ cls:=.type "set_iterator",data:=.fields #[.int 0 0,.int 0 0,.ref S,.int es.size 0,.int ep 0] }:Obj)=ni;have hS₂:=Zq ni ho₁;have hL₂:=Zq ni hL₁;have hI₂:((s.heap.push no).push ni).get? I=some ni:=by rw[<- L];exact Zr _ (by rw[<- q];rfl)
 refine Za (wpAny_holding (SQ ⟨_,hS₂,rfl⟩ ?_));have r:I≠s.heap.objs.size:=()
 have u:∀(M:Result->YC),(∀(h':Heap) (tk c:Nat) (a:Yn),(∀b o,s.heap.get? b=some o->h'.get? b=some o)->h'.get? s.heap.objs.size=some { cls:=.type "list",dict:=none,data:=.seq a c,slots:=#[] }->a.toList.Perm (es.toList.map (·.2))->M (.ok (.ret (.ref s.heap.objs.size))) { s with heap:=h',toks:=tk }) ->
  ∀(h:Heap) (c₁ tk:Nat),(∀b o,b≠s.heap.objs.size->((s.heap.push no).push ni).get? b=some o->h.get? b=some o)->h.get? s.heap.objs.size=some { cls:=.type "list",dict:=none,data:=.seq #[] c₁,slots:=#[] } ->
  codeAny (model prog w) A (.builtin "list.extend.loop" ⟨[.ref s.heap.objs.size,.ref I,.ref s.heap.objs.size],[]⟩) M { s with heap:=h,toks:=tk }:=by
  intro M hR h₀ c₁ tk v f;have N:s.heap.objs.size ∉ [I,S]:=by
   simp only[UV,Vn,or_false,not_or];exact⟨Ne.symm r,Ne.symm m⟩
  have x:h₀.get? I=some ni:=v I _ r hI₂;rw[<- q] at x;refine codeAny_extend_loopS (SN (prog:=prog) (w:=w) (A:=A.in1) (it:=I) (S:=S) (ep:=ep) Z G) (Zh hn (by rw[sizeLine_eq];lia)) s.heap.objs.size N _ es.size 0 { s with heap:=h₀,toks:=tk } #[] c₁ rfl (Ub _)
   ⟨⟨0,x,λ_ _=>SI _ G.up⟩,v S _ m hS₂⟩ f (ItemsOf.nil _) λs' a c J O g=>?_
  obtain⟨h',g',d',P,Q⟩:=s';have eg:g'=s.gens:=J.gens;have ed:d'=s.drawn:=J.drawn;have eo:Q=s.os:=J.os;subst eg;subst ed;subst eo;refine hR h' P c a (λb o e=>?_) O ?_
  .have y:=Zk e;have z:b≠s.heap.objs.size:=Zi y;have T:b≠I:=Zi (Zg y (by rw[K];exact Nat.le_succ _));exact J.heap b o (by simp only[UV,Vn,or_false,not_or];exact⟨z,T⟩) (v b o z (Zq _ (Zq _ e)))
  .have el:a.toList=(Ke w S ep es).toList.map (·.2):=by
    apply VM;intro j;rw[Zv];by_cases Y:j<a.size
    .obtain⟨k,v⟩:=g.2 j a[j] (Uv Y);have:(Ke w S ep es).toList[j]? = some (k,a[j]):=by simpa using v
     rw[this];simp[Y]
    .have hw:(Ke w S ep es).toList[j]? = none:=List.getElem?_eq_none (by rw[Ui,D5,<- g.1];lia);rw[hw];exact List.getElem?_eq_none (by rw[Ui];lia)
   rw[el];exact(HW w S ep es).map _
 have B:∀(h':Heap) (tk c:Nat) (a:Yn),(∀b o,s.heap.get? b=some o->h'.get? b=some o)->h'.get? s.heap.objs.size=some { cls:=.type "list",dict:=none,data:=.seq a c,slots:=#[] }->a.toList.Perm (es.toList.map (·.2)) ->
  YJ prog w A (do
   let o <- load s.heap.objs.size
   match o.data with
    | .seq xs _=>pure xs.toList
    |_=>unsupported "internal:collect") R E { s with heap:=h',toks:=tk }:=λh' tk c a C n hp=>by
  refine Za (wpAny_load n ?_);exact Zb (h h' tk a.toList C hp (Zk n))
 have hL₂':((s.heap.push no).push ni).get? s.heap.objs.size=some { cls:=.type "list",dict:=none,data:=.seq #[] 0,slots:=#[] }:=by rw[hL₂,<- p]
 refine wpAny_ite_split (λ_=>?_) (λ_=>Zb ⟨plainId_quiet F.plain_extend_loop _,u _ (λh' tk c a C n hp=>B h' tk c a C n hp) _ 0 _ (λb o _ e=>e) hL₂'⟩);refine Za (wpAny_rule ?_);refine Za ?_;show wpAny _ _ (updateSeq s.heap.objs.size (·.push .none) >>= λ_=>updateSeq s.heap.objs.size (·.pop)) _ _ _;refine Za (wpAny_updateSeq hL₂' rfl ?_);have hL₃:=Heap.get?_update_self (Obj.mapSeq (·.push Value.none)) hL₂' rfl;refine wpAny_updateSeq (hz:=by seq_fits) hL₃ rfl ?_;have hL₄:=Heap.get?_update_self (Obj.mapSeq (·.pop)) hL₃ rfl;refine Zb ⟨plainId_quiet F.plain_extend_loop _,u _ (λh' tk c a C n hp=>B h' tk c a C n hp) _ _ _ (λb o y e=>?_) hL₄⟩;exact(Heap.get?_update_other _ _ (Ne.symm y)).trans ((Heap.get?_update_other _ _ (Ne.symm y)).trans e)
end
theorem HY:∀{a:Yf} {r:Jy},WH h a r->IsPairs h a r
 | [],[],_=>.nil
 | [],_::_,p=>by have:=p.1;simp at this
 |_::_,[],p=>by have:=p.1;simp at this
 |u::a,q::r,p=>by
  obtain⟨b,c,nb,t,v,e,f,g,j⟩:=p.2 0 q rfl;obtain rfl:=Zqi e;refine .cons ⟨b,c,_,nb,t,v,rfl,f,g,j,rfl⟩ (HY ⟨by have:=p.1;simpa using this,λi x l=>p.2 (i+1) x l⟩)
def SS (R:RowAt h v r a o us n):yZ h v r:=
 ⟨a,o,us.toArray,n,R.isv,R.get,R.cls,R.dat,HY R.prs⟩
def jU (rs:Jz):Nat->List Nat
 | 0=>[]
 |n+1=>if(jU rs n).any (λi=>decide (rs.getD i []=rs.getD n [])) then jU rs n else jU rs n++[n]
def SU (rs:Jz)(n:Nat):jU rs (n+1)=if(jU rs n).any (λi=>decide (rs.getD i []=rs.getD n [])) then jU rs n else jU rs n++[n]:=rfl
def qW (rs:Jz):Jz:=(jU rs rs.length).map λi=>rs.getD i []
theorem X2 (rs:Jz):∀n i,i∈jU rs n->i<n
 | 0,i,h=>by cases h
 |n+1,i,h=>by
  unfold jU at h
  split at h
  .have:=X2 rs n i h;lia
  .rcases Jb.mp h with q|q
   .have:=X2 rs n i q;lia
   simp_all
theorem D6 (rs:Jz):∀n,(jU rs n).length<=n
 | 0=>Zf _
 |n+1=>by
  have:=D6 rs n
  grind[jU,List.length_append,List.length_singleton]
theorem HZ (rs:Jz):∀n,((jU rs n).map λi=>rs.getD i []).Nodup
 | 0=>Vw
 |n+1=>by
  have a:=HZ rs n;unfold jU
  grind
theorem Ia (rs:Jz):∀n (r:Jy),r∈((jU rs n).map λi=>rs.getD i [])↔∃i,i<n/\rs.getD i []=r
 | 0,r=>by
  constructor
  .intro h;cases h
  lia
 |n+1,r=>by
  have a:=Ia rs n;unfold jU
  grind
def Ib (rs:Jz):(qW rs).Nodup:=HZ rs _
def Ic (rs:Jz):(qW rs).length<=rs.length:=by unfold qW;rw[Zql];exact D6 rs _
theorem bQ:r∈qW rs↔r∈rs:=by
 unfold qW;rw[Ia];constructor
 .grind
 .intro h;obtain⟨i,a,z⟩:=UG h;exact⟨i,a,()⟩
theorem Ie {same:Value->Value->Bool}{val:Nat->Value}{rs:Jz}{n:Nat}(h:∀i j,i<n->j<n->same (val i) (val j)=decide (rs.getD i []=rs.getD j [])):∀k,k<=n->yh same val k=(jU rs k).map val
 | 0,_=>rfl
 |k+1,hk=>by
  rw[AY,Ie h k (),SU];unfold W0;have e:((jU rs k).map val).any (same · (val k))=(jU rs k).any (λi=>decide (rs.getD i []=rs.getD k [])):=by
   rw[List.any_map,Vc,VH,VH];constructor
   .rintro⟨i,a,z⟩;exact⟨i,a,by rwa [<- h i k (by have:=X2 rs k i a;lia) ()]⟩
   .rintro⟨i,a,z⟩;exact⟨i,a,by show same (val i) (val k)=true;rwa [h i k (by have:=X2 rs k i a;lia) ()]⟩
  grind
theorem Ba {G:Hp}{rs:Jz}{ys:YE}(h:qc G (rs.map rD) ys):∀ix:Yj,(∀i∈ix,i<rs.length)->qc G ((ix.map λi=>rs.getD i []).map rD) (ix.map λi=>ys.getD i .non)
 | [],_=>by rfl
 |i::ix,hi=>by
  obtain⟨x,a,b⟩:=h.get (i:=i) (d:=rD (rs.getD i [])) ();rw[Zl,Zl,Zl];refine⟨x,_,?_,b,Ba h ix ()⟩;rw[JX a]
def zA (w:World)(S:Addr)(ys:YE):HO:=.ext λh=>∃es ep t a,h.get? S=some (WT es ep t)/\SetGood w es t/\es.size<=1000/\(es.toList.map (·.2)).Perm a/\jp ys a
def Ig (w:World):YE->Hp->VK->Prop:=λb H Q=>∃a ys rs,b=[.ref a]/\Rd H a (.lst ys)/\qc H (rs.map rD) ys/\rs.length<=999/\∀S,H S=none->Q (.ref S) (j9 H S (zA w S ((jU rs rs.length).map λi=>ys.getD i .non)))
def Ih (w:World):YE->Hp->VK->Prop:=λb H Q=>∃S ys rs,b=[.ref S]/\H S=some (zA w S ys)/\qc H (rs.map rD) ys/\(∀r∈rs,r ≠ [])/\rs.length<1000 /\
 ∀l a,H l=none->(∀G,qc G (rs.map rD) ys->qc G ((JP j5 rs).map rD) a)->Q (.ref l) (j9 H l (.lst a))
def SW (p:us.Perm vs):∀{g:YE} {rs:Jz},jp g us->g.length=rs.length->∃(a:YE) (b:Jz),jp a vs/\b.Perm rs/\a.length=b.length/\∀G,qc G (rs.map rD) g->qc G (b.map rD) a:=by
 induction p with
 |nil=>exact λ{g rs} h c=>⟨g,rs,h,.refl _,c,λ_ h=>h⟩
 |cons x _ C =>
  intro g rs h c;cases h with
  |cons r h =>
   cases rs with
   |nil=>simp at c
   |cons q rs =>
    obtain⟨a,b,m,n,o,t⟩:=C h (by simpa using c);refine⟨_::a,q::b,.cons r m,n.cons q,by simp[o],λG f=>?_⟩;rw[Zl] at f ⊢;unfold qc at f ⊢;obtain⟨y,w,e,i,j⟩:=f;cases e;exact⟨_,_,rfl,i,t G j⟩
 |swap x y l =>
  intro g rs h c;cases h with
  |cons r h =>
   cases h with
   |cons F h =>
    cases rs with
    |nil=>simp at c
    |cons q rs =>
     cases rs with
     |nil=>simp at c
     |cons H rs =>
      refine⟨_,H::q::rs,.cons F (.cons r h),.swap _ _ _,by simpa using c,λG f=>?_⟩;rw[Zl,Zl] at f ⊢;unfold qc at f ⊢;obtain⟨y,w,e,i,j⟩:=f;cases e;unfold qc at j;obtain⟨y,w,e,I,J⟩:=j;cases e;refine⟨_,_,rfl,I,?_⟩;unfold qc;exact⟨_,_,rfl,i,J⟩
 |trans _ _ u v =>
  intro g rs h c;obtain⟨a,b,m,n,o,t⟩:=u h c;obtain⟨z,B,i,K,L,M⟩:=v m o;exact⟨z,B,i,K.trans n,L,λG f=>M G (t G f)⟩
section
variable {X:Cx}
def call_setRows (L:X.calm=true)(hu:X.A.units+64<cLine):jS X (.type "set") (Ig X.w):=by
 intro Y s Z H xs G Q I M h;obtain⟨a,ys,rs,rfl,N,J,hl,q⟩:=h;obtain⟨u,rfl,O⟩:=QM M;obtain rfl:u=Value.ref a:=O;obtain⟨its,p,pl,hz⟩:=I.list (.inl N);have P:=J.length;have l2:=p.length;rw[Zql] at P;have sz:its.toArray.size=its.length:=Zm;have S:∀i,its.toArray.getD i .none=its.getD i .none:=λi=>by
  simp
 have T:∀i,i<its.length->yZ s.heap (its.getD i .none) (rs.getD i []):=λi f=>by
  have hr:i<rs.length:=()
  obtain⟨x,g,U⟩:=J.get (i:=i) (d:=rD (rs.getD i [])) ();obtain⟨v,l,y⟩:=p.get g;obtain⟨b,o,ws,n,R⟩:=CD I.hok U y;rw[JX l];exact SS R
 refine Sy (I.ok.hd L) pl.isList (SA X.prog X.w s.heap) (λi v l=>?_) (by rw[sz];lia) () λh' tk H' kk=>?_
 .grind
 .have same:∀i j,i<its.toArray.size->j<its.toArray.size->(λv u=>decide (zb s.heap v=zb s.heap u)) ((λi=>its.toArray.getD i .none) i) ((λi=>its.toArray.getD i .none) j)=decide (rs.getD i []=rs.getD j []):=λi j f hj=>by
   grind[AZ]
  obtain⟨es,t,m,B,led,plain⟩:=H';rw[Ie same _ (Zf _)] at B;obtain⟨ep,K⟩:=m.at_;have en:its.toArray.size=rs.length:=()
  rw[en] at B;have c:(es.toList.map (·.2)).Perm ((jU rs rs.length).map λi=>its.getD i .none):=by
   have:=B.map (·.2);rw[Zw,Zw] at this;refine this.trans (List.Perm.of_eq (UE λi _=>?_));exact S i
  have vl:jp ((jU rs rs.length).map λi=>ys.getD i .non) ((jU rs rs.length).map λi=>its.getD i .none):=Xn λi f=>by
   have f:=X2 rs _ i f;obtain⟨x,g⟩:∃x,ys[i]? = some x:=⟨ys[i]'(),Zqg ()⟩;obtain⟨v,l,y⟩:=p.get g;rw[JX g,JX l];exact y
  have C:es.size<=1000:=by
   have:=c.length_eq;rw[Zql,Zql,Ui] at this;have:=D6 rs rs.length;lia
  have F:t.place.size=es.size:=by
   have:=m.tab.size;rw[Ul] at this;exact this
  refine⟨.ref s.heap.objs.size,j9 H s.heap.objs.size (zA X.w s.heap.objs.size ((jU rs rs.length).map λi=>ys.getD i .non)),I.laid (t':=tk) (λb o e=>kk b o (Zk e) e) (Zf _) ?_,rfl,q _ (I.hok.fresh (Zf _))⟩;refine⟨⟨es,ep,t,_,K,⟨m.tab.fits,plain,led,m.tab.up,F⟩,C,c,vl⟩,⟨_,K⟩,λh1 h2 z kp=>?_⟩;obtain⟨es,ep,t,G,e,r⟩:=z;exact⟨es,ep,t,G,kp _ e,r⟩
def SX (I:Inv X Y Z H s)(h:H S=some (zA X.w S ys)):∃es ep t a,s.heap.get? S=some (WT es ep t)/\SetGood X.w es t/\es.size<=1000/\(es.toList.map (·.2)).Perm a/\jp ys a:=(I.hok S _ h).1
def SY
 (h:wpAny (model prog w) A.in1 (collect x) (λa c=>∃lt,Wk lt/\a.length<1000/\(∀h',(∀b o,c.heap.get? b=some o->h'.get? b=some o)->2<=a.length->wo prog w A.in1.in1 { c with heap:=h' } a lt) /\
  ∀jx h' l,Pl a.length jx a.length->Up lt jx a.length->(∀b o,c.heap.get? b=some o->h'.get? b=some o)->c.heap.objs.size<=l->(∃e,h'.get? l=some (seqObj "list" (jx.map (jA a)) e))->Q (.ref l) { c with heap:=h' }) E s):
 YJ prog w A (call (.builtin "sorted") [x]) Q E s:=by
 refine Calls.call_function_entry kind_sorted plain_sorted entry_sorted (args_sorted1 _) ?_;refine Za (Zb (Za (Zc h (λa c z=>?_) λ_ _ e=>e)));obtain⟨lt,W,f,i,j⟩:=z;have g:(c.heap.push (seqObj "list" a.toArray 0)).get? c.heap.objs.size=some (seqObj "list" a.toArray 0):=Zr _ rfl;have m:∀b o,c.heap.get? b=some o->b≠c.heap.objs.size:=λb o e=>Zi (Zk e);refine Za (wpAny_newList (Za (wpAny_holding (wpAny_call_entry slot_list_sort ⟨_,g,rfl⟩ entry_list_sort (FV W g f (λh' n=>i h' λb o e=>n b o (m b o e) (Zq _ e)) λjx p u=>⟨_,rfl,Zb ⟨_,rfl,?_⟩⟩) (args_list_sort _)))));refine j jx _ _ p u (λb o e=>?_) (Zf _) (sortedHeap_at g)
 grind[size_push',sortedHeap_old,Nat.lt_succ_of_lt,Heap.lt_size,Heap.get?_push_of_some]
def call_sortedSet (hc:X.calm=true)(hu:X.A.units+64<cLine):jS X (.builtin "sorted") (Ih X.w):=by
 intro Y s Z H xs us Q I rv h;obtain⟨S,ys,rs,rfl,hS,U,F,h64,q⟩:=h;obtain⟨u,rfl,ru⟩:=QM rv;obtain rfl:u=Value.ref S:=ru;obtain⟨es,ep,t,ws,ho,G,hsz,pm,vl⟩:=SX I hS;have l1:=U.length;rw[Zql] at l1;have J:∀m:Yf,m.Perm (es.toList.map (·.2))->m.length=rs.length:=λm n=>by
  have a:=n.length_eq;have b:=pm.length_eq;have c:=vl.length;lia
 refine SY (SR (A:=X.A.in1) (E:=X.xe) (I.ok.hd hc) ho G hsz λh1 tk m kk n hsz1=>?_);obtain⟨g,f,y,K,l2,g2⟩:=SW (pm.symm.trans n.symm) vl ();have lv:=J m n;have lr:=K.length_eq;have A2:=g2 H U;have L:∀r∈f,r ≠ []:=λr hr=>F r (K.mem_iff.mp hr);refine⟨λi j=>j5 (f.getD i []) (f.getD j []),xY.wk λi=>f.getD i [],(),λh' M h2=>Ge (by show X.A.units+1+1+4<cLine;lia) (I.hok.kept λb o e=>M b o (kk b o e)) A2 y L h2,λjx h' l p u M hl N=>?_⟩;obtain⟨e,N⟩:=N;have O:m.length=f.length:=()
 rw[O] at p u;have z:s.heap.objs.size<=l:=by
  have hl:h1.objs.size<=l:=hl;lia
 have P:∀i∈jx.toList,∃x v,g[i]? = some x/\m[i]? = some v/\jq x v:=λi B=>by
  have hn:=p.mem B;obtain⟨x,C⟩:∃x,g[i]? = some x:=⟨g[i]'(),Zqg ()⟩;obtain⟨v,n,R⟩:=y.get C;exact⟨x,v,C,n,R⟩
 have sp:=CC xY p u;have se:JP j5 f=JP j5 rs:=A1 xY (((Qv (ltb:=j5) f).trans K).trans (Qv (ltb:=j5) rs).symm) (WG xY f) (WG xY rs);have T:=q l (jx.toList.map λi=>g.getD i .non) (I.hok.fresh z) λG hG=>by
  have:=Ba (g2 G hG) jx.toList λi B=>p.mem B;rw[sp,se] at this;exact this
 refine⟨.ref l,j9 H l (.lst (jx.toList.map λi=>g.getD i .non)),I.laid (a:=l) (o:=.lst (jx.toList.map λi=>g.getD i .non)) (t':=tk) (λb o e=>M b o (kk b o e)) z ⟨?_,jx.toList.map (jA m),e,?_,?_⟩,rfl,T⟩
 .rw[Zql,p.len];exact Q6 ()
 .refine Xn λi B=>?_;obtain⟨x,v,C,n,R⟩:=P i B;unfold jA;rw[JX C,JX n];exact R
 .rw[N]
  congr 3
  apply U6;simp
end
end L2.ST
namespace L2.DL
open PySem PySem.Spec PyProof.Rows L2.ST
def Z1:YG->YH
 | [.lst ds]=>(Q1 Kx ds).bind λrs=>if(∀r∈rs,r ≠ [])/\(qW rs).length<1000/\rs.length<=999 then some (.lst ((JP j5 (qW rs)).map j3)) else none
 |_=>none
section
variable {X:Cx}{E:XK}{fr:FA}{es:Ym}{e:Expr}
def SZ (h:∀{s:TA},PA X es s->PE X e (v3 (Ih X.w) (BZ (v3 (Ig X.w) s) v0)))(y:QA X E es fr):QN X E e (jy Z1 fr):=PE.weak (h y) λZ H Q A=>by
 obtain⟨B,F,sd,r,n⟩:=A;refine⟨B,F,sd,r,(ja n).mono (λds C O c g b I=>?_) λ_ _ q=>q⟩;obtain⟨z,hz,q⟩:=jg C;unfold Z1 at hz
 split at hz
 .obtain⟨rs,J,hz⟩:=Jg.mp hz
  split at hz
  .rename_i j;obtain rfl:=Zqi hz;obtain⟨v,rfl,h⟩:=Q3 I;rw[CP J,jj] at h;obtain⟨a,ys,rfl,K,m⟩:=h;refine⟨a,ys,rs,rfl,K.same b.fh,wy.mp (je.same b.fh _ _ m),j.2.2,λS t=>?_⟩;have u:∀G,qc G (rs.map rD) ys->qc G ((qW rs).map rD) ((jU rs rs.length).map λi=>ys.getD i .non):=λG o=>Ba o _ λi L=>X2 rs _ i L;refine⟨S,_,qW rs,rfl,JL,u _ (qc.same (K7 t (zA X.w S ((jU rs rs.length).map λi=>ys.getD i .non))) _ _ (wy.mp (je.same b.fh _ _ m))),λr M=>j.1 r (bQ.mp M),j.2.1,λl N w o=>?_⟩;have p:l≠S:=λz=>by simp_all [JL]
   have f:g l=none:=by rwa [JJ p] at w
   have x:Ext c g c (j9 g S (zA X.w S ((jU rs rs.length).map λi=>ys.getD i .non))):=.keep b.fh t _;exact(q.ext b) l c _ (x.trans (.keep x.fh w _)) f (Qd b.fh f) ⟨N,JL,wy.mpr (o c (u c (wy.mp m)))⟩
  .exact J2 hz
 .exact J2 hz
end
def bt_set:bootBuiltins "set" = some (.type "set"):=by kernel_rfl
def Ta (h:∀r∈rs,r ≠ [])(a:(qW rs).length<1000)(b:rs.length<=999):Z1 [.lst (rs.map j3)]=some (.lst ((JP j5 (qW rs)).map j3)):=by
 show(Q1 Kx (rs.map j3)).bind _=_
 simp_all [CO]
end L2.DL
namespace L2.ST
def zi (a b:Jy):Bool:=decide (a.length<b.length)||(decide (a.length=b.length)&&j5 a b)
theorem X3:zi a b=true↔a.length<b.length\/(a.length=b.length/\j5 a b=true):=by
 simp_all [zi]
def D7:zi a b=false↔b.length<a.length\/(a.length=b.length/\j5 a b=false):=by
 grind[X3]
def vH:Tot zi where
 asy:=λa b h=>by
  rw[X3] at h;rw[D7];rcases h with h|⟨f,e⟩
  .exact .inl h
  .exact .inr ⟨f.symm,xY.asy _ _ e⟩
 neg:=λa b c h=>by
  rw[X3] at h;rw[X3,X3];rcases h with h|⟨f,e⟩
  .omega
  .rcases UW a.length b.length with z|z|z
   .exact .inl (.inl z)
   .rcases xY.neg a b c e with y|y
    .exact by grind
    .exact by grind
   lia
 tot:=λa b f e=>by
  rw[D7] at f e;rcases f with f|⟨f,h3⟩<;>rcases e with e|⟨e,h4⟩
  .omega
  .omega
  .omega
  .exact xY.tot _ _ h3 h4
def Tb (hs:l.Pairwise λa b=>j5 a b=true)(p:Pl l.length jx l.length)(u:Up (λi j=>decide (((l.getD i []).length:Int)<((l.getD j []).length:Int))) jx l.length):jx.toList.map (λi=>l.getD i [])=JP zi l:=by
 refine A1 vH ?_ ?_ (WG vH l)
 .refine Vg ?_ (Qv (ltb:=zi) l).symm;have q:jx.toList.Perm (List.range l.length):=by
   have:=Jp.mp p.perm;simpa using this
  refine(q.map _).trans (List.Perm.of_eq ?_);apply List.ext_getElem
  .simp
  .intro i r g;simp[g]
 .refine Jj.mpr λa b h m ab=>?_;rw[VG,VG];have sz:jx.toList.length=l.length:=by rw[Ui,p.size]
  rw[Zql] at h m;have n:jx.toList[a]=gx jx a:=by
   simp_all [gx]
  have o:jx.toList[b]=gx jx b:=by
   simp_all [gx]
  rw[n,o];have e:=p.lt (Zf _) (show a<l.length from ());have f:=p.lt (Zf _) (show b<l.length from ());have c:=u a b ab ();generalize gx jx a=i at c e;generalize gx jx b=j at c f;rw[D7];rcases c with c|⟨c,ij⟩
  .simp_all
  .have:=of_decide_eq_false c;rcases Vq (l.getD i []).length (l.getD j []).length with z|z
   .exact .inl z
   .refine .inr ⟨(),xY.asy _ _ ?_⟩;have:=Jj.mp hs i j e f ij
    grind[JX,Zqg]
section
variable {prog:Program}{w:World}{A:Around}{E:Ya}{s:Shared}
def Tc (f:IntsAre a kz)(g:kz.length=vs.length):yp prog w A s oneType' (λi=>(jA a i,jA vs i)) (λi j=>decide (kz.getD i 0<kz.getD j 0)) vs.length:=by
 have c:∀{a:Yf} {kz:Yh},IntsAre a kz->∀i,i<kz.length->∃t,jA a i=.int (kz.getD i 0) t:=by
  intro a kz h
  induction h with
  |nil=>simp
  |cons n t _ e =>
   intro i b;cases i with
   |zero=>exact⟨t,rfl⟩
   |succ i=>exact e i (by simpa using b)
 intro i j b l E Q m
 grind[W.kat_lt_int]
def Td (kz:Yh):Wk λi j=>decide (kz.getD i 0<kz.getD j 0):=
 ⟨λi j h=>(),()⟩
def Te (n:IntsAre keys.toList kz)(F:kz.length=vs.length)(p:vs.length<1000)(q:kS≠a)
 (v:s.heap.get? kS=some (seqObj "list" keys e)) (G:s.heap.get? a=some (seqObj "list" #[] e1))
 (h:∀jx h',Pl vs.length jx vs.length->Up (λi j=>decide (kz.getD i 0<kz.getD j 0)) jx vs.length->(∀b o,b≠kS->b≠a->s.heap.get? b=some o->h'.get? b=some o)->(∃c,h'.get? a=some (seqObj "list" (jx.map (jA vs)) c))->P (.done (.ret .none)) { s with heap:=h' }):
 YJ prog w A (ksk_end a false vs.toArray e1 (.ref kS) keys) P E s:=by
 have hsz:keys.size=vs.length:=by
  have K:=n.length
  simp_all
 have L:keys=keys.toList.toArray:=Array.toArray_toList.symm;have x:keys.zip vs.toArray=(Array.range vs.length).map λi=>(jA keys.toList i,jA vs i):=by
  apply Array.ext_getElem?;intro k;rw[UO];by_cases r:k<vs.length
  .rw[Array.getElem?_range,Zd r]
   grind[jA,List.getD_eq_getElem?_getD,Array.length_toList,Array.getElem?_zip_eq_some,Zqg]
  grind
 have m:∀(st:SortSt) (jx:Yi),arrOf st=jx.map (λi=>(jA keys.toList i,jA vs i))->failedOf st=none->Pl vs.length jx vs.length->Up (λi j=>decide (kz.getD i 0<kz.getD j 0)) jx vs.length->YJ prog w A (ksk_tail a false e1 (.ref kS) st) P E s:=by
  intro st jx y z t B;have H:(arrOf st).map (·.2)=jx.map (jA vs):=by rw[y,Array.map_map];rfl
  unfold ksk_tail;dsimp only;rw[H,z];obtain⟨C,g1⟩:∃C,(s.heap.update kS (Obj.mapSeq λ_ => #[])).get? kS=some (seqObj "list" #[] C):=⟨_,get?_update_seq v (λ_ => #[])⟩;have f:(s.heap.update kS (Obj.mapSeq λ_ => #[])).get? a=some (seqObj "list" #[] e1):=by rw[Heap.get?_update_ne _ _ _ _ (Ne.symm q)];exact G
  refine Za (listUpdate_at v rfl ?_ (by rw[hsz,sizeLine_eq];lia) (Ub _));refine Za (wpAny_letGo ?_);refine Za (seqEpoch_at (s:={ s with heap:=s.heap.update kS (Obj.mapSeq λ_ => #[]) }) f rfl (Za (listUpdate_at (s:={ s with heap:=s.heap.update kS (Obj.mapSeq λ_ => #[]) }) f rfl ?_ (Ub _) (by rw[Ze Zj,Ul,t.size,sizeLine_eq];lia))));simp only[bne_self_eq_false,UD,if_false];refine Zb (h jx _ t B (λb o I u J=>?_) ?_)
  .show((s.heap.update kS (Obj.mapSeq λ_ => #[])).update a (Obj.mapSeq λ_=>jx.map (jA vs))).get? b=some o;rw[Heap.get?_update_ne _ _ _ _ u,Heap.get?_update_ne _ _ _ _ I];exact J
  .exact⟨_,get?_update_seq f (λ_=>jx.map (jA vs))⟩
 unfold ksk_end;dsimp only;simp only[UD,if_false];by_cases l:vs.toArray.size<2
 .rw[Zd l,Zd l];refine Za (Zb ?_);rw[StateT.run_pure];refine Za (Zb ?_);refine m _ (Array.range vs.length) x rfl (A0 _ _ (Zf _)) λi j M N=>?_;rw[Zm] at l;lia
 .rw[Ze l,Ze l];rw[Zm] at l;rw[ksk_kind n (by rw[hsz];lia)];refine Za (Zb ?_);refine Za (Zc (FR (Td kz) (Tc n F) (ix:=Array.range vs.length) (Q:=λ_ g=>∃jx,arrOf g=jx.map (λi=>(jA keys.toList i,jA vs i))/\failedOf g=none/\Pl vs.length jx vs.length/\Up (λi j=>decide (kz.getD i 0<kz.getD j 0)) jx vs.length)
   ⟨x,rfl,rfl,rfl⟩ (A0 _ _ ()) () p ()) ?_ λ_ _ e=>e)
  rintro⟨⟨⟩,g⟩ s' ⟨rfl,jx,y,z,t,B⟩;exact()
def Th {a n:Addr}{f:Value}{l:Yf}{kz:Yh}{N:Nat}{P:PySem.Fin->YC}(Q:kz.length=l.length)(G:l.length<1000)(y:n≠a)
 (R:s.heap.get? n=some (seqObj "list" #[] 0)) (S:s.heap.get? a=some (seqObj "list" #[] N))
 (z:∀(i:Nat) (v:Value) (k:Int),l[i]? = some v->kz[i]? = some k->∀(h:Heap) (tk:Nat),(∀b o,b≠n->b≠a->s.heap.get? b=some o->h.get? b=some o) ->
  YJ prog w A (call f [v]) (λr s'=>∃t H,r=.int k t/\s'={ s with heap:=h,toks:=H }) (λ_ _=>False) { s with heap:=h,toks:=tk })
 (h:∀jx h' tk,Pl l.length jx l.length->Up (λi j=>decide (kz.getD i 0<kz.getD j 0)) jx l.length->(∀b o,b≠n->b≠a->s.heap.get? b=some o->h'.get? b=some o)->(∃c,h'.get? a=some (seqObj "list" (jx.map (jA l)) c))->P (.done (.ret .none)) { s with heap:=h',toks:=tk }):
 YJ prog w A (ksk_rest a f false l.toArray N (.ref n)) P E s:=by
 unfold ksk_rest;refine Za (wpAny_rule ?_)
 first
  |rw[List.forIn_toArray]
  | (rw[<- Vo];simp only[List.toList_toArray])
  |rw[<- Vo]
 refine Za (ksk_fold (λi s'=>∃h' tk q e,s'={ s with heap:=h',toks:=tk }/\(∀b o,b≠n->s.heap.get? b=some o->h'.get? b=some o)/\h'.get? n=some (seqObj "list" q e)/\IntsAre q.toList (kz.take i)) l 0 s
  ⟨s.heap,s.toks,#[],0,rfl,λ_ _ _ e=>e,R,by simpa using IntsAre.nil⟩ ?step ?done)
 case step =>
  rintro j x s' T ⟨h',tk,q,e,rfl,C,m,I⟩;simp only[Vi] at I ⊢;have hj:j<l.length:=();obtain⟨k,hkj⟩:∃k,kz[j]? = some k:=⟨_,Zqg ()⟩;have hz:q.size<=l.length:=by
   have U:=I.length;rw[Ui,Uf] at U;lia
  refine Za (wpAny_attempt (Zc (z j x k T hkj h' tk λb o F _ J=>C b o F J) (λv X Y=>?_) λ_ _ Z=>Z.elim));obtain⟨B,K,rfl,rfl⟩:=Y
  try dsimp only
  obtain⟨O,hc2⟩:∃O,(h'.update n (Obj.mapSeq (·.push (.int k B)))).get? n=some (seqObj "list" (q.push (.int k B)) O):=⟨_,get?_update_seq m (·.push (.int k B))⟩;have ek:kz.take (j+1)=kz.take j++[k]:=by rw[List.take_add_one,hkj];simp
  have ea:(q.push (Value.int k B)).toList=q.toList++[Value.int k B]:=by simp
  refine Za (listUpdate_at (s:={ s with heap:=h',toks:=K }) m rfl ?_ (by rw[sizeLine_eq];lia) (Zh (Yx (Array.size_push ..)) (by rw[sizeLine_eq];lia)))
  grind[wpAny_pure,ksk_snoc,Heap.get?_update_ne]
 case done =>
  rintro s' ⟨h',tk,q,e,rfl,C,m,I⟩;have L:IntsAre q.toList kz:=by
   grind[List.take_of_length_le]
  try dsimp only
  refine Za (listItems_at (s:={ s with heap:=h',toks:=tk }) m rfl ?_);exact Te (s:={ s with heap:=h',toks:=tk }) L Q G y m (C a _ (Ne.symm y) S) λjx h2 p u k2 g=>h jx h2 tk p u (λb o F M J=>k2 b o F M (C b o F J)) g
def Ti {a:Addr}{f:Value}{l:Yf}{kz:Yh}{n:Nat}{P:PySem.Fin->YC}(m:s.heap.get? a=some (seqObj "list" l.toArray n))(C:kz.length=l.length)(q:l.length<1000)
 (z:∀(i:Nat) (v:Value) (k:Int),l[i]? = some v->kz[i]? = some k->∀(h:Heap) (tk:Nat),(∀b o,b≠a->s.heap.get? b=some o->h.get? b=some o) ->
  YJ prog w A (call f [v]) (λr s'=>∃t x,r=.int k t/\s'={ s with heap:=h,toks:=x }) (λ_ _=>False) { s with heap:=h,toks:=tk })
 (h:∀jx h' tk,Pl l.length jx l.length->Up (λi j=>decide (kz.getD i 0<kz.getD j 0)) jx l.length->(∀b o,b≠a->s.heap.get? b=some o->h'.get? b=some o)->(∃c,h'.get? a=some (seqObj "list" (jx.map (jA l)) c))->P (.done (.ret .none)) { s with heap:=h',toks:=tk }):
 YJ prog w A (ksk_tree a f false) P E s:=by
 have F:a<s.heap.objs.size:=Zk m;obtain⟨B,ho1⟩:∃B,(s.heap.update a (Obj.mapSeq λ_=>(#[]:Yn))).get? a=some (seqObj "list" #[] B):=⟨_,get?_update_seq m λ_ => #[]⟩;have y:((s.heap.update a (Obj.mapSeq λ_=>(#[]:Yn))).push (seqObj "tuple" l.toArray 0)).objs.size=s.heap.objs.size+1:=by rw[size_push',Heap.size_update]
 unfold ksk_tree;refine Za (listItems_at m rfl ?_);refine Za (listUpdate_at m rfl ?_ (by rw[Zm,sizeLine_eq];lia) (Ub _));refine Za (seqEpoch_at ho1 rfl ?_);refine Za (wpAny_newTuple ?_ (by show l.length<=_;rw[sizeLine_eq];lia));refine Za (wpAny_newList ?_ (Ub _));refine wpAny_holding ?_;have G:∀{b o},s.heap.get? b=some o->b≠s.heap.objs.size/\b≠s.heap.objs.size+1:=λe=>⟨Zi (Zk e),Zi (UC (Zk e))⟩;have keep:∀b o,b≠a->s.heap.get? b=some o->(((s.heap.update a (Obj.mapSeq λ_=>(#[]:Yn))).push (seqObj "tuple" l.toArray 0)).push (seqObj "list" #[] 0)).get? b=some o:=λb o H e=>by
  grind[Heap.get?_push_of_some,Heap.get?_update_ne]
 refine Th
  C q (by rw[y];exact UZ (UC F)) (Zr _ rfl) (Zq _ (Zq _ ho1))
  ()
  (λjx h' tk p u I g=>())
end
section
variable {X:Cx}
def Ii:YE->Hp->VK->Prop:=λe H Q=>∃a ys rs,e=[.ref a]/\Rd H a (.lst ys)/\qc H (rs.map rD) ys/\rs.Pairwise (λa b=>j5 a b=true)/\rs.length<1000/\(∀r∈rs,r.length<=1000) /\
 ∀l c,H l=none->(∀G,qc G (rs.map rD) ys->qc G ((JP zi rs).map rD) c)->Q (.ref l) (j9 H l (.lst c))
def Tj {Y:Yb}{Z: St}{H:Hp}{s:Shared}{a:Addr}{ys:YE}{rs:Jz}{Q:VK}(I:Inv X Y Z H s)(U:Rd H a (.lst ys))(P:qc H (rs.map rD) ys)(hs:rs.Pairwise (λa b=>j5 a b=true))(h64:rs.length<1000)(C:∀r∈rs,r.length<=1000)
 (q:∀l S,H l=none->(∀G,qc G (rs.map rD) ys->qc G ((JP zi rs).map rD) S)->Q (.ref l) (j9 H l (.lst S))):
 YI X (call (.builtin "sorted") [.ref a] [(Str.ofString "key",.builtin "len")]) (EP X Y Z Q) X.xe s:=by
 obtain⟨its,E,pl,hz⟩:=I.list (.inl U);have l1:=P.length;have l2:=E.length;rw[Zql] at l1;have F:its.length=rs.length:=()
 have hl:=pl.isList;have keep:∀b o,s.heap.get? b=some o->(((s.heap.push (seqObj "list" #[] 0)).update s.heap.objs.size (Obj.mapSeq (· ++ its.toArray))).push (seqObj "list" its.toArray 0)).get? b=some o:=λb o q=>by
  have t:b<s.heap.objs.size:=Zk q;refine Zq _ ?_;rw[Heap.get?_update_ne _ _ _ _ (Zi t),Heap.get?_push_ne _ _ _ (Zi t)];exact q
 have hsz:((s.heap.push (seqObj "list" #[] 0)).update s.heap.objs.size (Obj.mapSeq (· ++ its.toArray))).objs.size=s.heap.objs.size+1:=by
  rw[Heap.size_update,size_push']
 have h:(((s.heap.push (seqObj "list" #[] 0)).update s.heap.objs.size (Obj.mapSeq (· ++ its.toArray))).push (seqObj "list" its.toArray 0)).get? (s.heap.objs.size+1)=some (seqObj "list" its.toArray 0):=by
  rw[<- hsz];exact Zr _ rfl
 refine call_function_entry_kw kind_sorted plain_sorted entry_sorted (ksk_s1 _ _) ?_;unfold Builtin.«sorted»;refine Za (m:=checkCount "sorted" 1 1 _) (Zb ?_);refine Za (collect_list hl ?_ (by rw[F,sizeLine_eq];lia));refine Za (wpAny_newList ?_ (by rw[F,sizeLine_eq];lia));show wpAny _ _ _ _ _ { s with heap:=((s.heap.push (seqObj "list" #[] 0)).update s.heap.objs.size (Obj.mapSeq (· ++ its.toArray))).push (seqObj "list" its.toArray 0) };rw[hsz];generalize hH:((s.heap.push (seqObj "list" #[] 0)).update s.heap.objs.size (Obj.mapSeq (· ++ its.toArray))).push (seqObj "list" its.toArray 0)=hp at keep h;refine Za (wpAny_holding (wpAny_call_entry_kw slot_list_sort ⟨_,h,rfl⟩ entry_list_sort ?body (ksk_l1 _ _)))
 case body =>
  show wpAny (model X.prog X.w) X.A.in1.in1 (Builtin.«list.sort» ⟨[.ref (s.heap.objs.size+1)],[(Str.ofString "key",.builtin "len")]⟩) _ _ _;rw[ksk_t4];refine Ti (s:={ s with heap:=hp }) (kz:=rs.map λr=>(r.length:Int)) h (by rw[Zql];lia) () (λi v k w J h' tk K=>?_) λjx h' tk p u K g=>⟨_,rfl,Zb ⟨_,rfl,?_⟩⟩
  .have f:i<rs.length:=by
    have:=(Jc.mp J).1
    rwa [Zql] at this
   obtain⟨x,n,hI⟩:=P.get (i:=i) (d:=rD (rs.getD i [])) (by rw[Zv,Zqg f,JX (Zqg f)];rfl);obtain⟨v',y,z⟩:=E.get n;rw[w] at y;obtain rfl:=Zqi y;obtain⟨b,o,L,m,R⟩:=CD I.hok hI z;obtain rfl:v=Value.ref b:=R.isv;have hb:b≠s.heap.objs.size+1:=Zi (UC (Zk R.get));have ht:IsTup h' b L.toArray:=⟨o,K b o hb (keep b o R.get),R.cls,m,R.dat⟩;have A:L.length=(rs.getD i []).length:=R.prs.1;have ek:k=((rs.getD i []).length:Int):=by
    rw[Zv,Zqg f] at J;rw[JX (Zqg f)];exact(Zqi J).symm
   have T:(rs.getD i []).length<=1000:=by
    rw[JX (Zqg f)];exact C _ (UK f)
   have ev:Value.int ((L.toArray.size:Nat):Int) (tk+1)=Value.int k (tk+1):=by rw[Zm,A,ek]
   exact len_tuple (s:={ s with heap:=h',toks:=tk }) ht (by rw[Zm,A];lia) ⟨tk+1,tk+1+1,ev,rfl⟩
  .obtain⟨c,g⟩:=g;have M:∀b o,s.heap.get? b=some o->h'.get? b=some o:=λb o e=>K b o (Zi (UC (Zk e))) (keep b o e);rw[F] at p u;have ud:(λi j=>decide ((rs.map λr=>(r.length:Int)).getD i 0<(rs.map λr=>(r.length:Int)).getD j 0))=λi j=>decide (((rs.getD i []).length:Int)<((rs.getD j []).length:Int)):=by
    have e:∀i,(rs.map λr=>(r.length:Int)).getD i 0=((rs.getD i []).length:Int):=λi=>by
     rw[UL,Zv,UL];cases rs[i]?<;>rfl
    funext i j
    rw[e,e]
   rw[ud] at u;have sp:=Tb hs p u;have B:s.heap.objs.size<=s.heap.objs.size+1:=Nat.le_succ _;have N:∀i∈jx.toList,∃x v,ys[i]? = some x/\its[i]? = some v/\jq x v:=λi f=>by
    have hn:=p.mem f;obtain⟨x,n⟩:∃x,ys[i]? = some x:=⟨ys[i]'(),Zqg ()⟩;obtain⟨v,w,z⟩:=E.get n;exact⟨x,v,n,w,z⟩
   have O:=q (s.heap.objs.size+1) (jx.toList.map λi=>ys.getD i .non) (I.hok.fresh B) λG hG=>by
    have:=Ba hG jx.toList λi f=>p.mem f;rw[sp] at this;exact this
   refine⟨.ref (s.heap.objs.size+1),j9 H (s.heap.objs.size+1) (.lst (jx.toList.map λi=>ys.getD i .non)),I.laid (a:=s.heap.objs.size+1) (o:=.lst (jx.toList.map λi=>ys.getD i .non)) (t':=tk) M B ⟨?_,jx.toList.map (jA its),c,?_,?_⟩,rfl,O⟩
   .rw[Zql,p.len];exact Q6 ()
   .refine Xn λi f=>?_;obtain⟨x,v,n,w,z⟩:=N i f;unfold jA;rw[JX n,JX w];exact z
   .rw[g]
    congr 3
    apply U6;simp
def pe_sortLen (i:Gl X "sorted")(j:X.mg "sorted" = none)(b:Gl X "len")(c:X.mg "len" = none)(l:PA X [e] t)
 (m:backTo pos (starEach [e] X.env)=(false,eval e X.env)::backTo pos (starEach [] X.env):=by rfl) (f:(backTo pos (starEach [e] X.env)).any (·.1)=false:=by rfl):PE X (.Call (.Name "sorted" p) [e] [⟨some "key",.Name "len" lp,kp⟩] pos) (v3 Ii t):=by
 intro Y s Z H Q I h;refine wpAny_Call_Name_kw (Xc I i j (show bootBuiltins "sorted" = some (.builtin "sorted") by kernel_rfl) ?_ (by decide) (by decide));refine callWith_kw (jK (l pos Y s Z H _ I h) λA B ⟨C,E,g,n,o⟩=>(kws_cons (Xc g b c boot_len (kws_nil ?_) (by decide) (by decide)))) m f;obtain⟨a,ys,rs,rfl,r,v,w,x,y,q⟩:=o;obtain⟨u,rfl,z⟩:=QM n;obtain rfl:=z;exact Tj g r v w x y q
end
end L2.ST
namespace L2.DL
open PySem PySem.Spec PyProof.Rows L2.ST
def Z3:YG->YH
 | [.lst ds]=>(Q1 Kx ds).bind λrs=>if rs.Pairwise (λa b=>j5 a b=true)/\rs.length<1000/\∀r∈rs,r.length<=1000 then some (.lst ((JP zi rs).map j3)) else none
 |_=>none
section
variable {X:Cx}{E:XK}{fr:FA}{es:Ym}{e:Expr}
def Tk (h:∀{g:TA},PA X es g->PE X e (v3 Ii g))(m:QA X E es fr):QN X E e (jy Z3 fr):=PE.weak (h m) λZ H Q o=>by
 obtain⟨B,F,sd,r,n⟩:=o;refine⟨B,F,sd,r,(ja n).mono (λds p y i A b s=>?_) λ_ _ q=>q⟩;obtain⟨z,hz,q⟩:=jg p;unfold Z3 at hz
 split at hz
 .obtain⟨rs,t,hz⟩:=Jg.mp hz
  split at hz
  .rename_i c;obtain rfl:=Zqi hz;obtain⟨v,rfl,h⟩:=Q3 s;rw[CP t,jj] at h;obtain⟨a,ys,rfl,u,j⟩:=h;refine⟨a,ys,rs,rfl,u.same b.fh,wy.mp (je.same b.fh _ _ j),c.1,c.2.1,c.2.2,λl w f x=>?_⟩;exact(q.ext b) l i _ (.keep b.fh f _) f (Qd b.fh f) ⟨w,JL,wy.mpr (x i (wy.mp j))⟩
  .exact J2 hz
 .exact J2 hz
end
def Tl (h:rs.Pairwise (λa b=>j5 a b=true))(c:rs.length<1000)(e:∀r∈rs,r.length<=1000):Z3 [.lst (rs.map j3)]=some (.lst ((JP zi rs).map j3)):=by
 show(Q1 Kx (rs.map j3)).bind _=_
 simp_all [CO]
end L2.DL
namespace L2
def xX.has {P:Program}{w:World}{H:Hp}{h:Heap}{a:Addr}{o:HO}(x:xX P w H h a o):∃u,h.get? a=some u:=by
 cases o with
 |lst c=>obtain⟨_,_,_,_,e⟩:=x;exact⟨_,e⟩
 |tup c=>obtain⟨_,_,_,o,e,_⟩:=x;exact⟨_,e⟩
 |dK b=>obtain⟨_,_,_,_,o,_,_,e,_⟩:=x;exact⟨_,e⟩
 |dT b=>obtain⟨_,_,_,_,o,_,_,e,_⟩:=x;exact⟨_,e⟩
 |set S n=>obtain⟨o,_,_,_,e,_⟩:=x;exact⟨_,e⟩
 |ins C g fs=>obtain⟨_,_,_,e,_⟩:=x;exact⟨_,e⟩
 |own y=>exact x
 |xd fs=>obtain⟨_,⟨_,_,_,e,_⟩,_⟩:=x;exact⟨_,e⟩
 |rng lo i=>obtain⟨_,_,_,e⟩:=x;exact⟨_,e⟩
 |frz j u=>exact⟨_,x.1⟩
 |tbl ps=>exact⟨_,show h.get? a=some _ from x⟩
 |met f y=>exact⟨_,show h.get? a=some _ from x⟩
 |ext φ => exact x.2.1
structure FlyAt (l:List Env)(h₀:Heap)(H:Hp)(x C:Addr)(B h:Heap):Prop where
 fly:∃t,Heap.FlyingW B l x (.ref C) (.ref t) h
 trk:∀b o,h.get? b=some o->(H b≠none\/((∃u,h₀.get? b=some u)/\b∉xl l))->B.get? b=some o
def xG (P:Program)(w:World):zF:=λa H s E e s'=>∃b x C B,e=.ref x/\s'.os=s.os/\AllBare s'.gens/\Un (xl a) [] H b s.heap s'.heap/\qR P w b s'.heap/\FlyAt a s.heap b x C B s'.heap/\E (.ref C) none b
structure Thrown (X:Cx)(E:XK):Prop where
 on:∀(Y:Yb) (Z: St) (H:Hp) (s:Shared) (h₀:Heap) (x C:Addr) (B:Heap),Inv X Y Z H s->(∀b u,X.s₀.heap.get? b=some u->b∉X.ex->∃u',h₀.get? b=some u')->FlyAt X.stack h₀ H x C B s.heap->E (.ref C) none H->X.xe (.ref x) s
structure Raises (X:Cx)(E:XK):Prop where
 new:∀(Y:Yb) (Z: St) (H:Hp) (s:Shared) (h':Heap) (x C:Addr) (args:Yf),Inv X Y Z H s->Heap.MadeExcOf s.heap h' x (.ref C) args->E (.ref C) none H->X.xe (.ref x) { s with heap:=h' }
def Thrown.passes {X:Cx}{E:XK}(T:Thrown X E):Xe (xG X.prog X.w) X E:=by
 intro Y Z H s e s' I ⟨c,x,C,B,f,os,bare,un,a,g,h⟩;subst f;exact T.on Y Z c s' s.heap x C B (I.call' os un a bare ()) (λb u e i=>I.base.there b u e i) g h
section
variable {P:Program}{w:World}{K:W.Frag}{mg:Ye}{base:Heap}{N:Yk}{qual:Str}{scope:Scope}{f:Addr}{cd:Value}{A:Around}{outer:List Env}{s:Shared}{H:Hp}{E:XK}
def D8 {Y:Yb}{Z: St}{m:Hp}{s':Shared}{h₀ g B:Heap}{x C t:Addr}(I:Inv (jX (xG P w) P w K mg base N qual scope f cd A outer s H E) Y Z m s')
 (U:∀b u,s.heap.get? b=some u->∃J,h₀.get? b=some J) (p:Heap.FlyingW B outer x (.ref C) (.ref t) g) (L:s'.heap.UpToSlots g)
 (trk:∀b o,s'.heap.get? b=some o->(m b≠none\/((∃u,h₀.get? b=some u)/\b∉xl (envOfC qual scope s.heap.objs.size f cd::outer)))->B.get? b=some o) (M:E (.ref C) none m):
 xG P w outer H s E (.ref x) { s' with heap:=g }:=by
 have O:∀b u,s.heap.get? b=some u->b∉xl outer->b∉xl (envOfC qual scope s.heap.objs.size f cd::outer):=λb u e i z=>by
  unfold xl at z i;rw[Uz] at z;have z:b∈s.heap.objs.size::outer.filterMap (·.frame):=z;rcases UV.mp z with q|q
  .exact Zn (Zk e) (by rw[q];exact Zy _)
  .exact i q
 have a:∀b:Addr,b∉(jX (xG P w) P w K mg base N qual scope f cd A outer s H E).ex:=λb z=>Zn (show b∈([]:Yl) from z) ();have keep:∀b o,s'.heap.get? b=some o->(m b≠none\/((∃u,s.heap.get? b=some u)/\b∉xl outer))->B.get? b=some o:=by grind
 have y:∀b o,s.heap.get? b=some o->b∈xl outer->∃F,g.get? b=some { o with slots:=F }:=λb o e i=>by
  obtain⟨F,Q⟩:=I.base.slot b o e (I.ok.frf b i) i (a b);obtain⟨_,j,l,R⟩:=I.ok.funs.mem i;have l:s.heap.get? b=some j:=l;rw[e] at l;obtain rfl:=Zqi l;obtain⟨r,S⟩:=L b _ Q R;exact⟨r,S⟩
 refine⟨m,x,C,B,rfl,I.os,I.bare,⟨λb o e n i _=>?_,(),λb o e n _=>I.base.free b o e n (a b),λb o e _=>?_,I.base.tups,I.base.frzs,I.base.tbls⟩,λb u e=>?_,⟨⟨t,p⟩,λb o e c=>?_⟩,M⟩
 .exact p.1 b o (keep b o (I.base.keep b o e n i (a b)) ())
 .by_cases i:b∈xl outer
  .grind
  .obtain⟨j,G⟩:=I.base.there b o e (a b);exact⟨j,p.1 b j ()⟩
 .refine(I.hok b u e).stay (λc v X q=>p.1 c v (keep c v q (.inl ?_))) (λ_ q=>q) λ_ _ q=>q
  grind
 .have T:∃j,s'.heap.get? b=some j:=by
   rcases c with c|⟨⟨u,hu⟩,_⟩
   .cases q:m b with
    |none=>exact Zn q c
    |some u=>exact(I.hok b u q).has
   .exact I.base.there b u hu (a b)
  obtain⟨j,G⟩:=T;have:=p.1 b j (keep b j G c)
  grind[Zqi]
def Kk:Thrown (jX (xG P w) P w K mg base N qual scope f cd A outer s H E) E:=by
 refine⟨λY Z m s' h₀ x C B I i a j=>?_⟩;obtain⟨⟨t,c⟩,trk⟩:=a;have g:∀b:Addr,b∉(jX (xG P w) P w K mg base N qual scope f cd A outer s H E).ex:=λb z=>Zn (show b∈([]:Yl) from z) ();exact wpAny_leaves_onW I.ok.frames rfl c λh' a l=>D8 I (λb u e=>i b u e (g b)) a l trk j
def Tn:Raises (jX (xG P w) P w K mg base N qual scope f cd A outer s H E) E:=by
 refine⟨λY Z r s' h' x C args I h i=>?_⟩;have g:∀env∈(envOfC qual scope s.heap.objs.size f cd::outer),∀a,env.frame=some a->a∈xl (envOfC qual scope s.heap.objs.size f cd::outer):=λenv j a l=>Jr.mpr ⟨env,j,l⟩;refine wpAny_leaves_madeW I.ok.frames rfl (λb o e=>W.of_hideAll _ e) (W.funFrames_hide I.stack g) h λm t n p v q=>(D8 (s':=s') I (λb u e=>I.base.there b u e (by show b∉([]:Yl);simp)) n ((Heap.UpToSlots.of_keeps h.keeps).trans q) (λb o e c=>(W.hideAll_get _ e λz=>?_)) i);rcases c with c|c
 .exact c (I.stkFree b z)
 .exact c.2 z
end
def yF (P:Program)(w:World)(K:W.Frag)(mg:Ye)(a:Heap)(name:Str)(k:Nat)(ps:Yk)(sp:Sp):Prop:=
 ∃f b,FnOk P w K mg a (xG P w) k f b ps sp/\zL K b ps []/\W.keepIn K (.ref f)=true/\mg name=some (.ref f)
theorem yF.mono {P:Program}{w:World}{K:W.Frag}{mg:Ye}{a:Heap}{name:Str}{j k:Nat}{ps:Yk}{sp:Sp}(c:yF P w K mg a name j ps sp)(h:j<=k):yF P w K mg a name k ps sp:=by
 obtain⟨f,b,F,r⟩:=c;exact⟨f,b,F.mono h,r⟩
section
variable {X:Cx}{E:XK}{name:Str}{k:Nat}{ps:Yk}{sp:Sp}{p pos:Pos}{e:Expr}{es:Ym}{t:TA}
def Z5 (c:yF X.prog X.w X.K X.mg X.base name k ps sp)(T:Thrown X E)(h:Room k X.A)(i:Gl X name)(j:PA X (e::es) t)
 (a:(name == ("__debug__" : Str))=false:=by decide) (l:starEach (e::es) X.env=(false,eval e X.env)::starEach es X.env:=by rfl) (g:(backTo pos (starEach es X.env)).any (·.1)=false:=by rfl):
 PE X (.Call (.Name name p) (e::es) [] pos) (Cb sp [] E t):=by
 obtain⟨f,o,F,b,m,n⟩:=c;exact EM F h i n m b .nil T.passes j a l g
end
def Fun.okX {P:Program}{w:World}{K:W.Frag}{mg:Ye}{e:Heap}{x b:Str}{st:Stmt}{f:Addr}{l:FuncData}{N ps:Yk}{k:Nat}{sp:Sp}(F:Fun K x b st f l)(S:FnScope N ps (JR st))(len:∀g H Q E,sp g H Q E->g.length=ps.length)
 (h:∀(c:Value) (A:Around) (a:List Env) (s:Shared) (H:Hp) (g:YE) (Q:VK) (E:XK),Room k (A.deeper (envOfC b (JR st) s.heap.objs.size f c))->sp g H Q E ->
  ∃t,qP (jX (xG P w) P w K mg e N b (JR st) f c A a s H E) (QD st) t/\t { nx:=λ_ m=>Q .non m,rt:=Q } (start N g) H):FnOk P w K mg e (xG P w) (k+1) f l ps sp:=by
 obtain⟨r,u,kV,n,v,y,c,ct,o,rfl,p,i⟩:=F.ex;exact ET p i S len λA a s H g Q E q j=>h c A a s H g Q E q j
end L2
namespace L2.DL
def xD (K:W.Frag)(a:YG->Res D):Sp:=λb H Q E=>∃F ds,jk F H/\je K F ds b/\(a ds).need (yI K F H Q) (XW K E F H)
def ym (K:W.Frag)(a:YG->Res D):Sp:=λb H Q E=>∃F ds,jk F H/\je K F ds b/\(a ds).need (xR K F H Q) (XW K E F H)
def Res.strict {α: Type}:Res α -> Res α
 | .ok a=>.ok a
 |_=>.no
@[simp]def wC {α: Type}(a:α):(Res.ok a).strict=.ok a:=rfl
def jI {α: Type}{r:Res α}{p:α -> Prop}{q b:Str->YG->Prop}(h:r.strict.need p q):r.need p b:=by
 cases r with
 |ok a=>exact h
 |ex c fs=>exact h.elim
 |no=>exact h
def Kf (a:YG->Res D)(b:FA):FE:=λsd=>(b sd).bind λds=>(a ds).strict
@[simp]def gY (a:YG->Res D)(b:FA)(sd:SD):Kf a b sd=(b sd).bind λds=>(a ds).strict:=rfl
section
variable {X:Cx}{E:XK}{name:Str}{k:Nat}{ps:Yk}{Fn:YG->Res D}{p pos:Pos}{e:Expr}{es:Ym}{fr:FA}
def Bb (c:yF X.prog X.w X.K X.mg X.base name k ps (xD X.K Fn))(T:Thrown X E)(g:Room k X.A)(h:Gl X name)(i:QA X E (e::es) fr)
 (a:(name == ("__debug__" : Str))=false:=by decide) (j:starEach (e::es) X.env=(false,eval e X.env)::starEach es X.env:=by rfl) (b:(backTo pos (starEach es X.env)).any (·.1)=false:=by rfl):
 QE X E (.Call (.Name name p) (e::es) [] pos) (J8 Fn fr):=PE.weak (Z5 c T g h i a j b) λZ H Q l=>by
 obtain⟨B,F,sd,r,n⟩:=l;refine⟨B,F,sd,r,(ja n).mono (λm o s t u f v=>?_) λ_ _ q=>q⟩;show xD X.K Fn (s++[]) u Q E;rw[ZA];exact⟨t,m,f.fh,v,A7 o f⟩
def X4 (c:yF X.prog X.w X.K X.mg X.base name k ps (ym X.K Fn))(T:Thrown X E)(g:Room k X.A)(h:Gl X name)(i:QA X E (e::es) fr)
 (a:(name == ("__debug__" : Str))=false:=by decide) (j:starEach (e::es) X.env=(false,eval e X.env)::starEach es X.env:=by rfl) (b:(backTo pos (starEach es X.env)).any (·.1)=false:=by rfl):
 QN X E (.Call (.Name name p) (e::es) [] pos) (J8 Fn fr):=PE.weak (Z5 c T g h i a j b) λZ H Q l=>by
 obtain⟨B,F,sd,r,n⟩:=l;refine⟨B,F,sd,r,(ja n).mono (λm o s t u f v=>?_) λ_ _ q=>q⟩;show ym X.K Fn (s++[]) u Q E;rw[ZA];exact⟨t,m,f.fh,v,CH o f⟩
def uU (c:zG X.prog X.w X.K X.mg X.base name k ps (xc X.K Fn))(g:Room k X.A)(h:Gl X name)(i:QA X E (e::es) fr)
 (a:(name == ("__debug__" : Str))=false:=by decide) (j:starEach (e::es) X.env=(false,eval e X.env)::starEach es X.env:=by rfl) (b:(backTo pos (starEach es X.env)).any (·.1)=false:=by rfl):
 QE X E (.Call (.Name name p) (e::es) [] pos) (Kf Fn fr):=PE.weak (Xi c g h i a j b) λZ H Q l=>by
 obtain⟨B,F,sd,r,n⟩:=l;refine⟨B,F,sd,r,(ja n).mono (λm o s t u f v=>?_) λ_ _ q=>q⟩;show xc X.K Fn (s++[]) u Q E0;rw[ZA];exact⟨t,m,f.fh,v,jI (A7 o f)⟩
def Z7 (c:zG X.prog X.w X.K X.mg X.base name k ps (z9 X.K Fn))(g:Room k X.A)(h:Gl X name)(i:QA X E (e::es) fr)
 (a:(name == ("__debug__" : Str))=false:=by decide) (j:starEach (e::es) X.env=(false,eval e X.env)::starEach es X.env:=by rfl) (b:(backTo pos (starEach es X.env)).any (·.1)=false:=by rfl):
 QN X E (.Call (.Name name p) (e::es) [] pos) (Kf Fn fr):=PE.weak (Xi c g h i a j b) λZ H Q l=>by
 obtain⟨B,F,sd,r,n⟩:=l;refine⟨B,F,sd,r,(ja n).mono (λm o s t u f v=>?_) λ_ _ q=>q⟩;show z9 X.K Fn (s++[]) u Q E0;rw[ZA];exact⟨t,m,f.fh,v,jI (CH o f)⟩
end
section
variable {P:Program}{w:World}{K:W.Frag}{mg:Ye}{base:Heap}{x qual:Str}{f:Addr}{fd:FuncData}{N ps:Yk}{k:Nat}{st:Stmt}
def Bc {g:FS}(F:Fun K x qual st f fd)(S:FnScope N ps (JR st))
 (e:∀(b:Value) (A:Around) (a:List Env) (s:Shared) (H:Hp) (E:XK),Room k (A.deeper (envOfC qual (JR st) s.heap.objs.size f b))->zI (jX (xG P w) P w K mg base N qual (JR st) f b A a s H E) E false (QD st) g):
 FnOk P w K mg base (xG P w) (k+1) f fd ps (xD K (jF N.length ps.length g)):=by
 refine F.okX S (λi H Q E ⟨F,ds,_,h,n⟩=>?_) λb A a s H i Q E j ⟨F,ds,hs,h,n⟩=>⟨_,e b A a s H E j,?_⟩
 .unfold jF at n
  split at n
  .rw[h.length];assumption
  .exact n.elim
 .unfold jF at n
  split at n
  .refine⟨⟨F,H,λ_=>none⟩,F,_,RS.start hs h,(ja n).mono (λo c=>?_) λ_ _ q=>q⟩;cases o with
   |next sd=>exact λZ l m _ r=>c .non l m r.ext (jB.mpr rfl)
   |ret d=>exact c
   |brk sd=>exact c.elim
   |cont sd=>exact c.elim
  .exact n.elim
def D9 {g:FS}(F:Fun K x qual st f fd)(S:FnScope N ps (JR st))
 (e:∀(b:Value) (A:Around) (a:List Env) (s:Shared) (H:Hp) (E:XK),Room k (A.deeper (envOfC qual (JR st) s.heap.objs.size f b))->zI (jX (xG P w) P w K mg base N qual (JR st) f b A a s H E) E true (QD st) g):
 FnOk P w K mg base (xG P w) (k+1) f fd ps (ym K (qk N.length ps.length g)):=by
 refine F.okX S (λi H Q E ⟨F,ds,_,h,n⟩=>?_) λb A a s H i Q E j ⟨F,ds,hs,h,n⟩=>⟨_,e b A a s H E j,?_⟩
 .unfold qk at n
  split at n
  .rw[h.length];assumption
  .exact n.elim
 .unfold qk at n
  split at n
  .refine⟨⟨F,H,λ_=>none⟩,F,_,RS.start hs h,(ja n).mono (λo c=>?_) λ_ _ q=>q⟩;cases o with
   |next sd=>exact c.elim
   |ret d=>exact c
   |brk sd=>exact c.elim
   |cont sd=>exact c.elim
  .exact n.elim
end
end L2.DL
namespace L2
def Tp (h:n<1000000):n.log2<20:=by
 by_cases z:n=0
 .subst z;decide
 .exact(Nat.log2_lt z).mpr (Zg h (by decide))
section
variable {X:Cx}{x:Str}{v e:Expr}{tv:TE}{t:TA}{p1 p2 np cpos pos:Pos}{k}
def mj (x:Str)(tv:TE):TE:=λZ H Q=>tv Z H λy b=>∃a:Int,y=.int a/\a.natAbs<1000000/\Q (.str (Str.empty++x++Str.ofString (toString a))) b
def Tq (B:x.length<=1000)(g:PE X v tv):PE X (.JoinedStr [.Constant (.str x) k p1,.FormattedValue v (-1) none p2] pos) (mj x tv):=by
 intro Y s Z H Q I h;refine wpAny_JoinedStr ?_;have i:(Str.empty:Str).length=0:=rfl;have C:=sizeLine_eq;refine jK (E9 Y s Z H (λy b=>y=.str x/\b=H) I ⟨rfl,rfl⟩) λu j ⟨y,b,l,m,c,n⟩=>?_;subst c n;obtain⟨o,rfl⟩:=m;refine⟨x,o,rfl,by grind[strLen_append,sizeLine_eq],?_⟩;refine wpAny_FormattedValue_plain (jK (g Y j Z b _ l h) λu E ⟨y,p,r,w,a,c,z,q⟩=>?_);subst c;obtain⟨F,rfl⟩:=w;have A:=Tp z;have G:=int_text_length_le (a:=a) (k:=20) (by decide) A;have f:(Str.empty++x++Str.ofString (toString a)).length<=sizeLine:=by rw[strLen_append,strLen_append,i,PySem.ofString_length,sizeLine_eq];lia
 exact wpAny_formatField_int () ⟨_,_,rfl,f,f,⟨.str (Str.empty++x++Str.ofString (toString a)),p,r.tok _,⟨_,rfl⟩,q⟩⟩
structure Exc (K:W.Frag)(mg:Ye)(c:Str)(C:Addr):Prop where
 ns:W.nsIn K mainGlobals c=some (some (.ref C))
 mgc:mg c=some (.ref C)
 exc:W.excIn K C [.type "ValueError",.type "Exception",.type "BaseException",.type "object"] "ValueError.__new__" = true
def nZ (m:Yf)(l:List Yg)(g:Addr->List Value->Option Value->Option Value->Option Value->Option Value->String->Option Value->Bool):Prop:=
 ∃C a k0 k1 k2 k3 n k5,m=.ref C::a/\l=[k0,k1,k2,k3,some (.builtin n),k5]/\g C a k0 k1 k2 k3 n k5=true
def Tr
 (q:W.excIn.match_1 (λ_ _=>Bool) m l g (λ_ _=>false)=true):nZ m l g:=by
 cases m with
 |nil=>exact J9 q
 |cons v b =>
  cases v with
  |ref C =>
   cases l with
   |nil=>exact J9 q
   |cons k0 l =>
    cases l with
    |nil=>exact J9 q
    |cons k1 l =>
     cases l with
     |nil=>exact J9 q
     |cons k2 l =>
      cases l with
      |nil=>exact J9 q
      |cons k3 l =>
       cases l with
       |nil=>exact J9 q
       |cons a l =>
        cases a with
        |none=>exact J9 q
        |some u =>
         cases u with
         |builtin n =>
          cases l with
          |nil=>exact J9 q
          |cons k5 l =>
           cases l with
           |nil=>exact⟨_,_,_,_,_,_,_,_,rfl,rfl,q⟩
           |cons _ _=>exact J9 q
         |_=>exact J9 q
  |_=>exact J9 q
def Ij {K:W.Frag}{h:Heap}{C:Addr}{f:Yf}{a:String}{P:Prop}(i:K.In h)(q:W.excIn K C f a=true)
 (k:∀j N nm m bs hdct sn sub ab col dd k0 k1 k2 k3 k5 p,h.get? C=some (excClassObj nm m C N bs j hdct sn sub ab col dd k0 k1 k2 k3 k5 a)->h.Ns N p->p "__init__" = none->OwnTail h f j->P):P:=by
 unfold W.excIn at q
 split at q
 .rename_i dd w r y;obtain⟨H,j,k0,k1,k2,k3,n,k5,s,hs,q⟩:=Tr q;simp only[Uh,Ys,Bool.not_eq_true'] at q;obtain⟨⟨⟨⟨⟨z,A⟩,b⟩,B⟩,c⟩,g⟩:=q;subst z A;have u:=i _ _ y;obtain⟨nm,bs,E,ns,m,F,sn,sub,ab,col,G⟩:=w;dsimp only at s b c g u;subst s b;have o:r = #[k0,k1,k2,k3,some (.builtin n),k5]:=by
   obtain⟨l⟩:=r;exact Zt Array.mk hs
  subst o;exact k j ns nm m bs F sn sub ab col dd k0 k1 k2 k3 k5 _ u (.of_isNs (W.isNs_of_in i c)) (W.nsMap_none_of_in i c g) (W.tail_of_in i B)
 .exact J9 q
def Ts (C:Addr)(E:XK)(t:TA):TS:=λ_ Z H=>t Z H λa b=>a.length<=1000/\E (.ref C) none b
def Tt {E:XK}{c:Str}{C:Addr}(R:Raises X E)(f:Exc X.K X.mg c C)(j:X.calm=true)(l:Gl X c)(m:PA X [e] t)(n:(c == ("__debug__" : Str))=false:=by decide)
 (g:starEach [e] X.env=(false,eval e X.env)::starEach [] X.env:=by rfl):PS X (.Raise (some (.Call (.Name c np) [e] [] cpos)) none pos) (Ts C E t):=by
 intro Y s Z H D I h;refine Ij I.mod.kin f.exc λB N nm q bs hdct sn sub ab col dd k0 k1 k2 k3 k5 F o p b T=>(wpAny_Raise_call_subU (nm:=nm) (q:=q) (N:=N) (bs:=bs) (hdct:=hdct) (sn:=sn) (sub:=sub) (ab:=ab) (col:=col) (dd:=dd) (k0:=k0) (k1:=k1) (k2:=k2) (k3:=k3) (k5:=k5)
  PySem.F.excBase_ValueError (by decide +kernel) PySem.F.excBase_ValueError (T.hasType PySem.F.excBase_ValueError.hasBase) (I.ok.hd j) (by rw[g];rfl) b (XJ I l f.mgc ⟨rfl,?_⟩ n))
 have i:=m cpos Y s Z H _ I h;rw[g] at i ⊢;refine Calls.evalArgs_plain (Zc i (λG r ⟨J,u,a,w,K,z⟩=>?_) λ_ _ y=>y);have L:=w.length;refine⟨rfl,Q6 (),a.bk _ _ o,p.keeps a.bk,T.keeps a.bk,λh' x A=>R.new Y Z u r h' x C _ a A z⟩
end
end L2
namespace L2.DL
def wT (x:Str):D->YH
 | .int a=>if Nat.ble a.natAbs 999999=true then some (.str (Str.empty++x++Str.ofString (toString a))) else none
 |_=>none
def Tu (b: -999999<=a)(c:a<=999999):∃z,wT x (.int a)=some (.str z):=⟨_,Zd (Nat.ble_eq.mpr ())⟩
def Bd (c:Str)(f:FE):FS:=λsd=>(f sd).bind λ_=>.ex c []
@[simp]def gV (c:Str)(f:FE)(sd:SD):Bd c f sd=(f sd).bind λ_=>.ex c []:=rfl
section
variable {X:Cx}{E:XK}{m:Option Bool}{x:Str}{v e:Expr}{fv fe:FE}{p1 p2 np cpos pos:Pos}{k}
def uV (b:x.length<=1000)(c:QE X E v fv):QE X E (.JoinedStr [.Constant (.str x) k p1,.FormattedValue v (-1) none p2] pos) (qB (wT x) fv):=
 PE.weak (Tq b c) λZ H Q f=>by
  obtain⟨B,F,sd,r,n⟩:=f;refine⟨B,F,sd,r,(ja n).mono (λd g y h i j l=>?_) λ_ _ q=>q⟩;obtain⟨z,hz,q⟩:=jg g;unfold wT at hz
  split at hz
  .rename_i a
   split at hz
   .rename_i o;obtain rfl:=Zqi hz;exact⟨a,jd.mp l,by have:=Nat.ble_eq.mp o;lia,q _ h i j (jn.mpr rfl)⟩
   .exact J2 hz
  .exact J2 hz
def Tv (R:Raises X E)(ex:Exc X.K X.mg c C)(f:X.calm=true)(g:Gl X c)(h:QE X E e fe)(i:(c == ("__debug__" : Str))=false:=by decide)
 (a:starEach [e] X.env=(false,eval e X.env)::starEach [] X.env:=by rfl):QS X E m (.Raise (some (.Call (.Name c np) [e] [] cpos)) none pos) (Bd c fe):=
 PS.weak (Tt R ex f g (J1 h J3 a) i a) λT Z H j=>by
  obtain⟨B,F,sd,r,n⟩:=j;have l:(J0 fe jc sd).need (λds=>ds.length=1/\XW X.K E B.F0 B.H0 c []) (XW X.K E F H):=by
   unfold Bd at n;unfold J0 jc;cases b:fe sd with
   |ok d=>rw[b] at n;exact⟨rfl,n⟩
   |ex o fs=>rw[b] at n;exact XW.ext (n:XW X.K E B.F0 B.H0 o fs) r.ext
   |no=>rwa [b] at n
  refine⟨B,F,sd,r,l.mono (λds p y s t u w=>?_) λ_ _ q=>q⟩;have:=w.length;exact⟨(),p.2 (.ref C) none s t (r.ext.trans u) ⟨C,rfl,ex.ns,.inl rfl⟩⟩
end
end L2.DL
namespace L2
def DA (X:Cx)(Y:Yb)(Z: St)(E:XK)(e:Value)(s':Shared):Prop:=
 ∃a h₀ x C B,e=.ref x/\Inv X Y Z a s'/\(∀b u,X.s₀.heap.get? b=some u->b∉X.ex->∃c,h₀.get? b=some c)/\(∀p∈X.pn++Y,∃u,h₀.get? p.1=some u)/\FlyAt X.stack h₀ a x C B s'.heap/\E (.ref C) none a
section
variable {X:Cx}{Y:Yb}{Z: St}{H:Hp}{s:Shared}{E:XK}
def Tw (F:FnOk X.prog X.w X.K X.mg X.base (xG X.prog X.w) k f fd ps sp)(j:Room k X.A)(l:zL X.K fd ps [])
 (I:Inv X Y Z H s) (r:jp vs us) (h:sp vs H Q E):YI X (call (.ref f) us) (EP X Y Z Q) (DA X Y Z E) s:=by
 have m:(us++[]).length=ps.length:=by rw[ZA,<- r.length];exact F.len _ _ _ _ h
 have a:=l s us I.kIn m;rw[ZA] at a;refine wpAny_call (codeAny_mono (F.run X.A X.stack s H ⟨us,[]⟩ us vs Q E j I.env0 a r h) λr s' c=>?_);cases r with
 |error e =>
  obtain⟨n,x,C,B,o,os,bare,un,g,i,q⟩:=c;subst o;exact⟨n,s.heap,x,C,B,rfl,I.call' (s':=s') (ch:=[]) os un g bare (λb z=>Zn z ()),λb u e t=>I.base.there b u e t,λp hp=>⟨_,(I.pin p hp).1⟩,i,q⟩
 |ok i =>
  cases i with
  |ret u=>exact I.after c
  |next=>exact False.elim c
  |brk=>exact False.elim c
  |cont=>exact False.elim c
def Tx (c:yF X.prog X.w X.K X.mg X.base name k ps sp)(m:Room k X.A)(n:Gl X name)(o:PA X.nox (e::es) t)
 (a:(name == ("__debug__" : Str))=false) (u:starEach (e::es) X.env=(false,eval e X.env)::starEach es X.env) (g:(backTo pos (starEach es X.env)).any (·.1)=false)
 (I:Inv X Y Z H s) (h:t Z H λi j=>sp i j Q E):YI X (eval (.Call (.Name name p) (e::es) [] pos) X.env) (EP X Y Z Q) (DA X Y Z E) s:=by
 obtain⟨f,x,F,b,v,w⟩:=c;refine wpAny_Call_Name_kw (XJ I n w ?_ a);refine W.callWith_K (h₀:=X.base) I.ok.mod.kin v (Zc (o pos Y s Z H _ (I.wish _) h) (λy A ⟨i,j,l,r,q⟩=>⟨l.kIn,?_⟩) λ_ _ z=>z.elim) u g;exact Tw F m b l.unwish r q
def Inv.flown {h₀ h' B:Heap}{x C t:Addr}(I:Inv X Y Z H s)(O:∀b u,X.s₀.heap.get? b=some u->b∉X.ex->∃R,h₀.get? b=some R)(hp:∀p∈X.pn++Y,∃u,h₀.get? p.1=some u)
 (trk:∀b o,s.heap.get? b=some o->(H b≠none\/((∃u,h₀.get? b=some u)/\b∉xl X.stack))->B.get? b=some o) (G:Heap.FlyingW B X.stack x (.ref C) (.ref t) h') (M:s.heap.UpToSlots h'):Inv X Y Z H { s with heap:=h' }:=by
 have w:∀b u,X.s₀.heap.get? b=some u->b∉X.fs->b∉xl X.stack:=λb u e a z=>by
  rcases UV.mp (I.stkSub b z) with q|q
  .exact Zn (Zk e) (by rw[q];exact Nat.not_lt.mpr I.ok.above)
  .exact a q
 have g:∀b o,X.s₀.heap.get? b=some o->b∈X.fs->b∉X.ex->∃J,h'.get? b=some { o with slots:=J }:=λb o e a f=>by
  obtain⟨J,S⟩:=I.base.slot b o e (I.ok.frf b a) a f;obtain⟨_,K,A,L⟩:=I.ok.funs.mem a;rw[e] at A;obtain rfl:=Zqi A;obtain⟨N,T⟩:=M b _ S L;exact⟨N,T⟩
 have j:∀c v,s.heap.IsCell c v->h'.IsCell c v:=λc v U=>by
  obtain⟨o,ho,L⟩:=U;obtain⟨J,e⟩:=M c o ho λvs q=>by rw[L] at q;cases q
  exact⟨_,e,L⟩
 obtain⟨m,hn,hl⟩:=id I.loc;refine⟨I.ok,I.os,I.bare,⟨λb o e n a f=>?_,λb o e n a f=>g b o e a f,λb o e n f=>I.base.free b o e n f,λb o e f=>?_,I.base.tups,I.base.frzs,I.base.tbls⟩,⟨m,M.ns hn,λi y v h1 h2 h3=>?_⟩,λy c e=>?_,I.free,I.freeC,λp F=>?_,λb u e=>?_,I.len⟩
 .exact G.1 b o (trk b o (I.base.keep b o e n a f) (.inr ⟨O b o e f,w b o e a⟩))
 .by_cases a:b∈X.fs
  .obtain⟨J,q⟩:=g b o e a f;exact⟨_,q⟩
  .obtain⟨K,e'⟩:=I.base.there b o e f;exact⟨K,G.1 b K (trk b K e' (.inr ⟨O b o e f,w b o e a⟩))⟩
 .obtain⟨u,r,l⟩:=hl i y v h1 h2 h3;refine⟨u,r,?_⟩;rcases l with l|⟨k,c,e,z⟩
  .exact .inl l
  .exact .inr ⟨k,c,e,j c _ z⟩
 .obtain⟨v,q⟩:=I.cell y c e;exact⟨v,j c v q⟩
 .obtain⟨q1,q2,P,Q,q5⟩:=I.pin p F;refine⟨G.1 _ _ (trk _ _ q1 (.inr ⟨hp p F,λz=>?_⟩)),q2,P,Q,q5⟩;rcases UV.mp (I.stkSub _ z) with q|q
  .exact P q
  .exact Q q
 .refine(I.hok b u e).stay (λc v hc q=>G.1 c v (trk c v q (.inl ?_))) (λ_ q=>q) λ_ _ q=>q;rcases hc with z|z
  .rw[z,e];simp
  .rw[z];simp
abbrev Cx.inSuite (X:Cx)(x:Addr):Cx:={ X with A:=X.A.mark (some (.ref x)),calm:=false,xe:=λ_ _=>False }
def Inv.suite (I:Inv X Y Z H s)(x:Addr):Inv (X.inSuite x) Y Z H s:=
 ⟨⟨I.ok.mod,I.ok.kind,I.ok.glob,I.ok.blt,I.ok.above,I.ok.inj,I.ok.has,I.ok.cab,(),I.ok.frames,I.ok.stk,I.ok.exf,I.ok.bs,I.ok.bsz,I.ok.noex,I.ok.exfs,I.ok.funs,I.ok.frf⟩,I.os,I.bare,I.base,I.loc,I.cell,I.free,I.freeC,I.pin,I.hok,I.len⟩
def Inv.unsuite (I:Inv (X.inSuite x) Y Z H s)(ok:X.Ok):Inv X Y Z H s:=⟨ok,I.os,I.bare,I.base,I.loc,I.cell,I.free,I.freeC,I.pin,I.hok,I.len⟩
theorem SP.unsuite (h:SP (X.inSuite x) Y D f s')(ok:X.Ok):SP X Y D f s':=by
 cases f with
 |next=>obtain⟨a,b,I,q⟩:=h;exact⟨a,b,I.unsuite ok,q⟩
 |brk=>obtain⟨a,b,I,q⟩:=h;exact⟨a,b,I.unsuite ok,q⟩
 |cont=>obtain⟨a,b,I,q⟩:=h;exact⟨a,b,I.unsuite ok,q⟩
 |ret u=>obtain⟨v,a,b,I,r,q⟩:=h;exact⟨v,a,b,I.unsuite ok,r,q⟩
def Tz {r:Ya}{c:Str}{C:Addr}{b₀:Stmt}{suite:List Stmt}{L j:Pos}{F:TS}{D:Ends}{e:Value}(a:X.stack=X.env::X.outer)(u:X.env.frame=some X.env.locals)(G:Exc X.K X.mg c C)(M:Gl X c)
 (hs:∀x,qP (X.inSuite x) (b₀::suite) F) (g:DA X Y Z (λO _ P=>O=.ref C/\F D Z P) e s) (Q:(c == ("__debug__" : Str))=false):
 YI X (noteFrame e X.env) (λ_ s₂=>YI X (setFlight e none) (λ_ s₃=>YI X (handleBy e X.env [.ExceptHandler (some (.Name c L)) none (b₀::suite) j]) (SP X Y D) r s₃) r s₂) r s:=by
 obtain⟨R,h₀,x,C',B,rfl,I,J,hp,⟨⟨t,v⟩,trk⟩,w,y⟩:=g;cases w;have i:=v;rw[a] at i;refine wpAny_looks_onW (I.ok.frames.trans (by rw[a])) u i λh₄ held₄ up₄=>(wpAny_landsW held₄ λh₅ fl₅ up₅=>?_);have n:=fl₅;rw[<- a] at n;have o:=up₄.trans up₅;have K:=I.flown J hp trk n o;refine wpAny_handleBy_cons (codeAny_handlers_test (XJ (K.suite x) M G.mgc (Ij K.kIn G.exc λtl N nm q bs hdct sn sub ab col dd k0 k1 k2 k3 k5 mN S hN U T=>?_) Q)) (by intro q;cases q);obtain⟨ob,A,p⟩:=fl₅.there;refine wpAny_excMatches_sub_self S A p (T.hasType PySem.F.excBase_ValueError.hasBase) (codeAny_handlers_suite (lands_againW fl₅ λh₆ fl₆ up₆=>?_));rw[<- a] at fl₆;exact Zc (hs x Y _ Z R D ((I.flown J hp trk fl₆ (o.trans up₆)).suite x) y) (λf s2 q=>q.unsuite I.ok) λ_ _ z=>z.elim
def ub (i:Nat)(C:Addr)(sp:Sp)(t:TA)(b:TS):TS:=λD Z H=>t Z H λc e=>sp c e (λv a=>D.nx (Z.set i (some v)) a) (λf _ a=>f=.ref C/\b D Z a)
def T1 (a:X.stack=X.env::X.outer)(f:X.env.frame=some X.env.locals)
 (n:X.N.Nodup) (o:X.N[i]? = some y) (r:yJ X.env.scope y) (u:yF X.prog X.w X.K X.mg X.base name k ps sp) (w:Room k X.A) (A:Gl X name) (B:PA X.nox (e::es) t) (F:Exc X.K X.mg c C) (g:Gl X c) (hs:∀x,qP (X.inSuite x) (b₀::suite) ts)
 (j:(name == ("__debug__" : Str))=false:=by decide) (G:starEach (e::es) X.env=(false,eval e X.env)::starEach es X.env:=by rfl) (l:(backTo cpos (starEach es X.env)).any (·.1)=false:=by rfl) (J:(c == ("__debug__" : Str))=false:=by decide)
 (m:swapsWith (.Call (.Name name p) (e::es) [] cpos) (some (.Name y py)) apos.line X.env=pure false:=by rfl) (K:X.fn y=true\/X.env.scope.names.lookup y=some .local:=by trivial):
 PS X (.Try [.Assign [.Name y py] (.Call (.Name name p) (e::es) [] cpos) apos] [.ExceptHandler (some (.Name c np)) none (b₀::suite) hpos] [] [] pos) (ub i C sp t ts):=by
 intro Y s Z H D I h;refine Za (wpAny_standAt (wpAny_tryStmt_except (wpAny_execs_cons (wpAny_Assign_Name (Zc (Tx u w A B j G l I h) (λv L q=>?_) λe L M=>Tz a f F g hs M J) m))));obtain⟨z,N,O,P,Q⟩:=q;exact Af O n o r P (λS R=>wpAny_execs_nil (wpAny_execs_nil ⟨_,N,R,Q⟩)) K
end
end L2
namespace L2.DL
def zP (i:Nat)(c:Str)(a:FS)(sd:SD):Res D->Res Out
 | .ok d=>.ok (.next (sd.set i (some (.val d))))
 | .ex c' [] => @ite _ (c'=c) (Classical.propDecidable _) (a sd).strict .no
 |_=>.no
@[simp]def hD (i:Nat)(c:Str)(a:FS)(sd:SD)(d:D):zP i c a sd (.ok d)=.ok (.next (sd.set i (some (.val d)))):=rfl
@[simp]def T2 (i:Nat)(c:Str)(a:FS)(sd:SD):zP i c a sd (.ex c [])=(a sd).strict:=@if_pos _ (Classical.propDecidable _) rfl _ _ _
def zR (i:Nat)(c:Str)(a:YG->Res D)(b:FA)(e:FS):FS:=λsd=>(b sd).strict.bind λds=>zP i c e sd (a ds)
@[simp]def n0 (i:Nat)(c:Str)(a:YG->Res D)(b:FA)(e:FS)(sd:SD):zR i c a b e sd=(b sd).strict.bind λds=>zP i c e sd (a ds):=rfl
section
variable {X:Cx}{E:XK}{m:Option Bool}
def T3 (ex:Exc X.K X.mg c C)(h:u0 X.K E m (zR i c Fn fr gs) T Z H):
 ub i C (xD X.K Fn) (ri X.K E0 fr) (u0 X.K E0 m gs) T Z H:=by
 obtain⟨B,F,sd,r,n⟩:=h;refine⟨B,F,sd,r,?_⟩;unfold zR at n;cases f:fr sd with
 |ex g fs=>rw[f] at n;exact n.elim
 |no=>rwa [f] at n
 |ok ds =>
  rw[f] at n;have n:(zP i c gs sd (Fn ds)).need (zM X.K m B F T) (XW X.K E B.F0 B.H0):=n;intro z u A b w;refine⟨u,ds,b.fh,w,?_⟩;cases j:Fn ds with
  |ok d =>
   rw[j] at n;exact λv l p e x=>n _ l p (b.ff.trans e.ff) (((r.step b).step e).setVal x)
  |no=>rwa [j] at n
  |ex g fs =>
   rw[j] at n;cases fs with
   |cons d r=>exact n.elim
   |nil =>
    by_cases s:g=c
    .subst s;rw[T2] at n;intro G a l p e ⟨I,y,t,_⟩;rw[ex.ns] at t;cases t;exact⟨y,B,l,sd,(r.step b).step e,(jI n).mono (λo (q:zM X.K m B F T o)=>q.mono (b.ff.trans e.ff)) λ_ _ q=>q⟩
    .have n:(@ite _ (g=c) (Classical.propDecidable _) (gs sd).strict Res.no).need (zM X.K m B F T) (XW X.K E B.F0 B.H0):=n;rw[@if_neg _ (Classical.propDecidable _) s] at n;exact n.elim
def ym.d {K:W.Frag}{a:YG->Res D}{b:YE}{H:Hp}{Q:VK}{E:XK}(h:xD K a b H Q E):ym K a b H Q E:=by
 obtain⟨F,ds,c,e,n⟩:=h;exact⟨F,ds,c,e,n.mono (λ_ q=>q.new) λ_ _ q=>q⟩
theorem yF.d {P:Program}{w:World}{K:W.Frag}{mg:Ye}{a:Heap}{name:Str}{k:Nat}{ps:Yk}{b:YG->Res D}(c:yF P w K mg a name k ps (ym K b)):yF P w K mg a name k ps (xD K b):=by
 obtain⟨f,e,F,r⟩:=c;exact⟨f,e,F.imp λ_ _ _ _ h=>ym.d h,r⟩
def T4 (a:X.stack=X.env::X.outer)(f:X.env.frame=some X.env.locals)
 (q:X.N.Nodup) (r:X.N[i]? = some y) (s:yJ X.env.scope y) (t:yF X.prog X.w X.K X.mg X.base name k ps (xD X.K Fn)) (u:Room k X.A) (v:Gl X name) (w:QA X.nox E0 (e::es) fr) (o:Exc X.K X.mg c C) (g:Gl X c) (hs:∀x,zI (X.inSuite x) E0 m (b₀::suite) gs)
 (j:(name == ("__debug__" : Str))=false:=by decide) (z:starEach (e::es) X.env=(false,eval e X.env)::starEach es X.env:=by rfl) (l:(backTo cpos (starEach es X.env)).any (·.1)=false:=by rfl) (A:(c == ("__debug__" : Str))=false:=by decide)
 (n:swapsWith (.Call (.Name name p) (e::es) [] cpos) (some (.Name y py)) apos.line X.env=pure false:=by rfl) (B:X.fn y=true\/X.env.scope.names.lookup y=some .local:=by trivial):
 QS X E m (.Try [.Assign [.Name y py] (.Call (.Name name p) (e::es) [] cpos) apos] [.ExceptHandler (some (.Name c np)) none (b₀::suite) hpos] [] [] pos) (zR i c Fn fr gs):=
 PS.weak (T1 a f q r s t u v w o g hs j z l A n B) λT Z H h=>T3 o h
end
end L2.DL
namespace L2
def DB {P:Program}{w:World}{K:W.Frag}{mg:Ye}{c:Heap}{N:Yk}{g:Str}{b:Scope}{f:Addr}{h:Value}{A:Around}{a:List Env}{s:Shared}{H:Hp}{E:XK} :
 PassesOwn (model (jX (xG P w) P w K mg c N g b f h A a s H E).prog (jX (xG P w) P w K mg c N g b f h A a s H E).w) (jX (xG P w) P w K mg c N g b f h A a s H E).A (jX (xG P w) P w K mg c N g b f h A a s H E).env (jX (xG P w) P w K mg c N g b f h A a s H E).xe:=
 PassesOwn.leaving (Q₁:=λe i=>xG P w a H s E e i)
end L2
namespace L2.DL
def xV (H:Hp)(l:Addr):Hp:=λa=>if a=l then none else H a
def T5:jk (xV H l) H:=λa o e=>by
 simp_all [xV]
def T6:xV H l l=none:=by unfold xV;rw[Zd rfl]
def T7 (h:a≠l):xV H l a=H a:=by unfold xV;rw[Ze h]
def Ik (R:Res Out->Prop)(P:Nat->SD->Prop)(n:P 0 sd)(h:∀sd,P ds.length sd->R (.ok (.next sd)))
 (hs:∀(i:Nat) (x:D) (sd:SD),ds[i]? = some x->P i sd->(∃sd',(JO tg x sd).bind b=.ok (.next sd')/\P (i+1) sd')\/∃c es,(JO tg x sd).bind b=.ex c es/\R (.ex c es)):R (xq tg b ds sd):=by
 have j:∀(k i:Nat) (sd:SD),ds.length-i=k->i<=ds.length->P i sd->R (xq tg b (ds.drop i) sd):=by
  intro k
  induction k with
  |zero =>
   intro i sd e l p;have:i=ds.length:=()
   subst this;rw[UM];exact h sd p
  |succ k m =>
   intro i sd e l p;have a:i<ds.length:=()
   rw[Uu a];unfold xq yB;rcases hs i ds[i] sd () p with ⟨sd',f,g⟩|⟨c,es,f,g⟩
   .rw[f];exact m (i+1) sd' () a g
   .rwa [f]
 grind
section
variable {X:Cx}{pos:Pos}
def DC:D->D->YH
 | .lst a,.lst b=>if a.length+b.length<=sizeLine then some (.lst (a++b)) else none
 |_,_=>none
def T8:fK X (binaryOp .Add) DC:=xg.weak Gy λx y H Q h=>by
 obtain⟨F,d,e,z,c,id,i,hz,q⟩:=h;cases d with
 |lst a =>
  cases e with
  |lst b =>
   have hz:(if a.length+b.length<=sizeLine then some (D.lst (a++b)) else none)=some z:=hz
   split at hz
   .obtain rfl:=Zqi hz;obtain⟨l,j,rfl,m,f⟩:=id;obtain⟨n,ys,rfl,o,g⟩:=i;have r:=f.length;have s:=g.length;exact⟨l,n,j,ys,rfl,rfl,m.same c,o.same c,(),λp hp=>q p F _ (.keep c hp _) hp (Qd c hp) ⟨_,JL,f.append g⟩⟩
   .exact J2 hz
  |_=>exact J2 hz
 |_=>exact J2 hz
@[simp]def pG (a b:YG):DC (.lst a) (.lst b)=if a.length+b.length<=sizeLine then some (.lst (a++b)) else none:=rfl
end
end L2.DL
namespace L2
def wx (K:W.Frag)(x:Str)(st:Stmt):Prop:=∃f a,W.nsIn K mainGlobals x=some (some (.ref f))/\Fun K x x st f a
def wx.callee {P:Program}{w:World}{K:W.Frag}{h b:Heap}{mg:Ye}{x:Str}{st:Stmt}{k:Nat}{ps:Yk}{sp:Sp}(X:K.In h)(G:h.Ns mainGlobals mg)(d:wx K x st)
 (ok:∀{f:Addr} {c:FuncData},Fun K x x st f c->FnOk P w K mg b yw k f c ps sp)
 (j:∀(kV e l:Value) (m:Option Addr) (g ct:Value) (i:Yf),i.length=ps.length->bindArgs (W.fnOf x x (WE st) (QD st) (JR st) .none kV e l m g ct) ⟨i,[]⟩=pure (ps.zip i)):zG P w K mg b x k ps sp:=by
 obtain⟨f,c,a,F⟩:=d;exact⟨f,c,ok F,F.binds j,F.kp,W.mg_of X G a⟩
def wx.calleeX {P:Program}{w:World}{K:W.Frag}{h b:Heap}{mg:Ye}{x:Str}{st:Stmt}{k:Nat}{ps:Yk}{sp:Sp}(X:K.In h)(G:h.Ns mainGlobals mg)(d:wx K x st)
 (ok:∀{f:Addr} {c:FuncData},Fun K x x st f c->FnOk P w K mg b (xG P w) k f c ps sp)
 (j:∀(kV e l:Value) (m:Option Addr) (g ct:Value) (i:Yf),i.length=ps.length->bindArgs (W.fnOf x x (WE st) (QD st) (JR st) .none kV e l m g ct) ⟨i,[]⟩=pure (ps.zip i)):yF P w K mg b x k ps sp:=have ⟨f,c,a,F⟩:=d;⟨f,c,ok F,F.binds j,F.kp,W.mg_of X G a⟩
end L2
namespace L2.DL
def yQ:YG->YH
 | [.int i]=>if Nat.ble i.natAbs.log2 1900 then some (.str (toString i)) else none
 |_=>none
section
variable {X:Cx}{E:XK}{tg e a b:Expr}{fe fa fb:FE}{lo hi:Option Expr}{p2 pos p:Pos}
def DE:jS X (.type "str") (zU X.K yQ):=jS.weak Nr λl H Q c=>by
 obtain⟨F,ds,z,f,id,hz,q⟩:=c;unfold yQ at hz
 split at hz
 .rename_i i
  split at hz
  .rename_i g;obtain rfl:=Zqi hz;obtain⟨m,n,h,j,id⟩:=jr.mp id;rw[je.nil_iff] at id;subst id h;exact⟨i,by rw[jd.mp j],UH (Nat.ble_eq.mp g) (by decide),q _ F H (.refl f) (jn.mpr rfl)⟩
  .exact J2 hz
 .exact J2 hz
end
structure ClsD (K:W.Frag)(mg:Ye)(c:Str)(C:Addr)(fs:Yk):Prop where
 ns:W.nsIn K mainGlobals c=some (some (.ref C))
 mgc:mg c=some (.ref C)
 cls:Cls K C
 no:∀f∈fs,vj K C f
def zY (f:Str):Yk->YG->YH
 |g::gs,d::ds=>if g=f then some d else zY f gs ds
 |_,_=>none
theorem Il {K:W.Frag}{H:Hp}{f:Str}:∀{fs:Yk} {ds:YG} {a:YE} {d:D},je K H ds a->fs.length=a.length->zY f fs ds=some d->∃x,(fs.zip a).lookup f=some x/\jf K H d x
 | [],ds,a,d,_,_,h=>J2 h
 |g::gs,[],a,d,i,l,h=>by
  simp_all [je.nil_iff]
 |g::gs,e::ds,a,d,i,l,h=>by
  obtain⟨x,r,rfl,c,b⟩:=jr.mp i;unfold zY at h;rw[Vd];by_cases q:g=f
  .simp_all
  .rw[Ze q] at h;obtain⟨y,j,m⟩:=Il b (by simpa using l) h
   grind
def jH (c f:Str):D->YH
 | .ins c' fs ds=>if c'=c then zY f fs ds else none
 |_=>none
section
variable {X:Cx}{E:XK}{e:Expr}{fe:FE}{pos:Pos}
def Kl {c f:Str}{C:Addr}{fs:Yk}(k:ClsD X.K X.mg c C fs)(l:f∈fs)(m:QE X E e fe)(o:attributeBase e f X.env (eval e X.env)=eval e X.env:=by rfl):QE X E (.Attribute e f pos) (qB (jH c f) fe):=PE.weak (N1 m o) λZ H Q p=>by
 obtain⟨B,F,sd,r,n⟩:=p;refine⟨B,F,sd,r,(ja n).mono (λd s v t u h w=>?_) λ_ _ q=>q⟩;obtain⟨z,hz,q⟩:=jg s;cases d with
 |ins i y ds =>
  have b:(if i=c then zY f y ds else none)=some z:=hz;by_cases g:i=c
  .rw[Zd g] at b;subst g;obtain⟨a,M,A,N,rfl,j,G,I,J⟩:=jZ.mp w;rw[k.ns] at j;cases j;obtain⟨x,K,L⟩:=Il J I b;exact⟨a,C,A,_,x,rfl,h.fh _ _ G,k.cls,k.no f l,K,q _ t u h L⟩
  .rw[Ze g] at b;exact J2 b
 |_=>exact J2 hz
end
theorem Im (f:Str)(v:V):∀fs:List (Str×V),f∉fs.map (·.1)->qS f v fs=fs++[(f,v)]
 | [],_=>rfl
 | (g,x)::r,h=>by
  rw[Zl,UV,not_or] at h;show(if g=f then(g,v)::r else(g,x)::qS f v r)=_;rw[Ze (λz=>h.1 z.symm),Im f v r h.2];rfl
def tI (K:W.Frag)(c:Str)(names:Yk)(g:FA):TS:=λT Z H=>∃B F sd x C j fs e b,RS K B F H sd Z /\ (∀(i:Nat) (p:Bool) (d:D),sd[i]? ≠ some (some (SV.own p d))) /\ Z[0]? = some (some (.ref x))/\B.H0 x=none/\F x=none/\W.nsIn K mainGlobals c=some (some (.ref C))/\H x=some (.ins C j (fs.zip e))/\fs.length=e.length/\(fs++names).Nodup/\(fs++names).length<900/\je K F b e /\
 (g sd).need (λds=>∀f h a,Ext B.F0 B.H0 f h->f x=none->h x=some (.ins C j ((fs++names).zip a))->(fs++names).length=a.length->je K f (b++ds) a->T.nx Z h) (XW K E0 B.F0 B.H0)
section
variable {X:Cx}{o e:Expr}{fe:FE}{g:FA}{pos pos':Pos}{ss:List Stmt}{c f:Str}{C:Addr}{fs names:Yk}
def Io:qP X [] (tI X.K c [] jc):=qP.weak Ag λT Z H j=>by
 obtain⟨B,F,sd,x,C,l,fs,m,b,r,no,u,v,p,w,q,s,y,z,t,n⟩:=j;have n:∀h i a,Ext B.F0 B.H0 h i->h x=none->i x=some (.ins C l ((fs++[]).zip a))->(fs++[]).length=a.length->je X.K h (b++[]) a->T.nx Z i:=n;simp at n;exact n F H m r.ext p q s t
def Be (k:ClsD X.K X.mg c C fs)(J:f∈fs)(K:PE X o (xM 0))(L:QE X E0 e fe)(M:qP X ss (tI X.K c names g))(hs:swapsWith e (some (.Attribute o f pos')) pos.line X.env=pure false:=by rfl):
 qP X (.Assign [.Attribute o f pos'] e pos::ss) (tI X.K c (f::names) (J0 fe g)):=qP.weak (XL (N2 K L hs) M) λT Z H N=>by
 obtain⟨B,F,sd,x,m,w,b,i,p,r,no,y,z,O,s,A,E,P,G,Q,n⟩:=N;refine⟨B,F,sd,r,(ja n).mono (λd R v I H1 l S=>?_) λ_ _ q=>q.ext r.ext⟩;have U:m=C:=by
  rw[k.ns] at s;cases s;rfl
 subst U;have t:=l.hh _ _ A;have j:I x=none:=l.new x O (by rw[A];simp);have Y:(b.zip i).map (·.1)=b:=by rw[List.map_fst_zip ()]
 have hfn:f∉b:=by grind
 have ll:(b.zip i).length<1000:=by
  rw[List.length_zip];simp at G;lia
 refine⟨.ref x,y,x,m,w,_,rfl,t,k.cls,k.no f J,ll,?_⟩;rw[Im f v _ (by rwa [Y])];have ez:b.zip i++[(f,v)]=(b++[f]).zip (i++[v]):=by rw[List.zip_append E];rfl
 rw[ez];have h:=r.step l;have hW:=je.snoc (je.same l.ff _ _ Q) S;refine⟨B,I,sd,x,m,w,b++[f],i++[v],p++[d],⟨⟨h.ext.ff,λa o e=>?_,λa o e=>?_,h.ext.new⟩,h.len,h.val,(),()⟩,no,y,z,j,s,JL,by simp[E],by simpa using P,by simpa using G,hW,(ja R).mono (λds n2 F2 H2 u e2 f2 q1 q2 q3=>?_) λ_ _ q=>q⟩
 .rw[JJ (Ka e j)];exact h.ext.fh _ _ e
 .rw[JJ (Ka e z)];exact h.ext.hh _ _ e
 .exact n2 F2 H2 u e2 f2 (by simpa using q1) (by simpa using q2) (by simpa using q3)
end
def rN (K:W.Frag)(c:Str)(names:Yk)(h:YG->Res YG):Sp:=λi H Q _=>∃F ds x C f g,jk F H/\i=.ref x::g/\je K F ds g/\F x=none/\W.nsIn K mainGlobals c=some (some (.ref C))/\H x=some (.ins C f []) /\
 (h ds).need (λes=>∀a b e,Ext F (xV H x) a b->a x=none->b x=some (.ins C f (names.zip e))->names.length=e.length->je K a es e->Q .non b) (XW K E0 F (xV H x))
def za (n ar:Nat)(g:FA)(ds:YG):Res YG:=if ds.length+1=ar then g (none::JW (n-1) ds) else .no
def zB {K:W.Frag}{F H:Hp}{N:Yk}{ds:YG}{c:YE}{x:Addr}(s:jk F H)(h:je K F ds c):
 RS K ⟨F,xV H x,λ_=>none⟩ F H (none::JW N.length ds) (some (.ref x)::L2.start N c)/\∀(i:Nat) (p:Bool) (d:D),(none::JW N.length ds:SD)[i]? ≠ some (some (SV.own p d)):=by
 have a:=RS.start (N:=N) s h;have no:∀(i:Nat) (p:Bool) (d:D),(none::JW N.length ds:SD)[i]? ≠ some (some (SV.own p d)):=λi p d q=>by
  cases i with
  |zero=>cases q
  |succ i =>
   obtain⟨l,_,b,_,g,_⟩:=a.own (i:=i) (p:=p) (d:=d) q;obtain⟨o,f⟩:=g.has;have b:H l=none:=b;rw[b] at f;exact J2 f
 refine⟨⟨⟨.refl _,s,T5,λ_ e _=>e⟩,by simp[a.len],λ{i d} q=>?_,λq=>Zn q (no _ _ _),λ_ q _ _=>Zn q (no _ _ _)⟩,no⟩;cases i with
 |zero=>cases q
 |succ i=>exact a.val (i:=i) q
section
variable {P:Program}{w:World}{K:W.Frag}{mg:Ye}{base:Heap}{x qual:Str}{st:Stmt}{f:Addr}{fd:FuncData}{N ps:Yk}{k:Nat}
def gw {c y:Str}{names:Yk}{g:FA}(F:Fun K x qual st f fd)(S:FnScope (y::N) ps (JR st))(m:names.Nodup)(o:names.length<900)
 (p:∀(b:Value) (A:Around) (a:List Env) (s:Shared) (H:Hp) (E:XK),Room k (A.deeper (envOfC qual (JR st) s.heap.objs.size f b))->qP (jX yw P w K mg base (y::N) qual (JR st) f b A a s H E).nox (QD st) (tI K c names g)):
 FnOk P w K mg base yw (k+1) f fd ps (rN K c names (za (y::N).length ps.length g)):=by
 refine F.ok S (λq H Q E ⟨F,ds,x,C,l,j,_,e,i,_,_,_,n⟩=>?_) λb A a s H q Q E t ⟨F,ds,x,C,l,j,hs,e,i,u,v,z,n⟩=>⟨_,p b A a s H E t,?_⟩
 .unfold za at n
  split at n
  .rename_i h;rw[e,<- h,Zu,i.length]
  .exact n.elim
 .subst e;unfold za at n
  split at n
  .have es:L2.start (y::N) (.ref x::j)=some (.ref x)::L2.start N j:=by
    unfold L2.start;simp
   rw[es];obtain⟨r,no⟩:=zB hs i;exact⟨_,F,_,x,C,l,[],[],[],r,no,rfl,T6,u,v,z,rfl,m,o,.nil,n⟩
  .exact n.elim
end
def nV (P:Program)(w:World)(K:W.Frag)(mg:Ye)(a:Heap)(c:Str)(names:Yk)(k:Nat)(ps:Yk)(e:YG->Res YG):Prop:=
 ∃C f b,ClsD K mg c C names/\Mk K C f/\FnOk P w K mg a yw k f b ps (rN K c names e)/\zL K b ps []
def Bf (c:Str)(names:Yk)(a:YG->Res YG)(b:FA):FE:=λsd=>(b sd).bind λds=>(a ds).bind λes=>.ok (.ins c names es)
section
variable {X:Cx}{pos:Pos}
def Ip (M:nV X.prog X.w X.K X.mg X.base c names k ps Fn)(A:Room (k+1) X.A)(E:Gl X c)(I:QA X E0 (e::es) fa)
 (m:(c == ("__debug__" : Str))=false:=by decide) (J:starEach (e::es) X.env=(false,eval e X.env)::starEach es X.env:=by rfl) (t:(backTo pos (starEach es X.env)).any (·.1)=false:=by rfl):
 QN X E0 (.Call (.Name c p) (e::es) [] pos) (Bf c names Fn fa):=by
 obtain⟨C,f,fd,u,mk,F,b⟩:=M;refine PE.weak (N9 mk F A E u.mgc b .nil Ff I m J t) λZ H Q ⟨B,F,sd,r,n⟩=>?_;refine⟨B,F,sd,r,(ja n).mono (λds K L j l i N x g nx j7 ne=>?_) λ_ _ q=>q⟩;have O:=ja K;have v:j x=none:=by
  cases q:j x with
  |none=>rfl
  |some o=>rw[i.fh _ _ q] at nx;cases nx
 have w:H x=none:=by
  cases q:H x with
  |none=>rfl
  |some o=>rw[i.hh _ _ q] at nx;cases nx
 have y:∀{G:Hp},jk G l->jk G (xV (j9 (j9 l g (.own x)) x (.ins C g [])) x):=λ{G} s a o q=>by
  have h:=s _ _ q;rw[T7 (Ka h nx),JJ (Ka h nx),JJ (Ka h j7)];exact h
 have P:jk j (j9 (j9 l g (.own x)) x (.ins C g [])):=λa o q=>by
  have h:=i.fh _ _ q;rw[JJ (Ka h nx),JJ (Ka h j7)];exact h
 have z:Ext F H j (xV (j9 (j9 l g (.own x)) x (.ins C g [])) x):=⟨i.ff,y i.fh,y i.hh,i.new⟩;rw[ZA];refine⟨j,ds,x,C,g,L,P,rfl,N,v,u.ns,JL,O.mono (λes R S T U Y f2 h2 l2 i2=>⟨rfl,?_⟩) λ_ _ q=>q.ext z⟩;exact R x S T (z.trans Y) w f2 ⟨C,g,U,u.ns,h2,l2,i2⟩
end
def Iq (K:W.Frag)(c a:Str)(fs:Yk)(st:Stmt):Prop:=∃C e b,W.nsIn K mainGlobals c=some (some (.ref C))/\Cls K C/\(∀f∈fs,vj K C f)/\Mk K C e/\Fun K "__init__" a st e b
section
variable {K:W.Frag}{B:Bs}{F H F' H':Hp}{sd:SD}{Z: St}
def g0:D->Bool
 | .tup ds=>ds.all K8
 |d=>K8 d
def Ir:D->Bool
 | .lst ds=>ds.all g0
 |_=>false
def fx (is:Yj)(f:FE):FE:=λsd=>(f (qN is sd)).bare.bind λd=>if Ir d then .ok d else .no
end
end L2.DL
namespace L2
open PySem
def JM (a:h.kind=.function:=by rfl)(b:h.isCoroutine=false:=by rfl)(c:h.isGenerator=false:=by rfl)(d:N.Nodup:=by decide +kernel)(e:N.take P.length=P:=by rfl)
 (f:∀x∈P,h.names.lookup x=some .local\/h.names.lookup x=some .cell:=by decide +kernel) (g:∀y∈h.names,y.2 ≠ .free:=by decide +kernel):FnScope N P h:=⟨a,b,c,d,e,f,g⟩
def xT (i:Nat)(a:X.N.Nodup)(b:X.N[i]? = some x:=by rfl)(c:yJ X.env.scope x:=by trivial)(e:X.fn x=true\/X.env.scope.names.lookup x=some .local:=by trivial):PG X (.Name x pos) (Ux i):=Qe a b c e
section
variable {p:Yf->Prop}
def bU (h:∀a,p [a]):∀b:Yf,b.length=1->p b:=λb e=>by
 obtain⟨a,rfl⟩:=List.length_eq_one_iff.mp e;exact h a
def fY (h:∀a b,p [a,b]):∀c:Yf,c.length=2->p c:=λc e=>by
 cases c with
 |nil=>exact Zn e (by decide)
 |cons a c=>exact bU (p:=λc=>p (a::c)) (λb=>h a b) c (UJ e)
def bS (h:∀a b c,p [a,b,c]):∀f:Yf,f.length=3->p f:=λf e=>by
 cases f with
 |nil=>exact Zn e (by decide)
 |cons a f=>exact fY (p:=λf=>p (a::f)) (λb c=>h a b c) f (UJ e)
def fX (h:∀a b c d,p [a,b,c,d]):∀f:Yf,f.length=4->p f:=λf e=>by
 cases f with
 |nil=>exact Zn e (by decide)
 |cons a f=>exact bS (p:=λf=>p (a::f)) () f (UJ e)
def re (h:∀a b c d e,p [a,b,c,d,e]):∀f:Yf,f.length=5->p f:=λf e=>by
 cases f with
 |nil=>exact Zn e (by decide)
 |cons a f=>exact fX (p:=λf=>p (a::f)) () f (UJ e)
end
section
variable {M:Model}{A:Around}{E:Ya}{s:Shared}{base:Heap}{e:Addr}{cls a0 fl:Value}
def T9 (x:base.StaysIn s.heap)(y:s.heap.FunFrames base l)(B:s.heap.TracedAtW base e cls a0 fl)
 (h:∀h' T,base.get? T=none->(∀b,b≠T->h'.get? b=s.heap.get? b)->(∃o j,s.heap.get? T=some o/\o.data=.fields j)->base.StaysIn h'->h'.FunFrames base l->(∃m,h'.TracedAtW base e cls a0 m)->Q Yt { s with heap:=h' }):wpAny M A (setFlight (.ref e) f) Q E s:=by
 obtain⟨C,j,T,F,G,r,H,t,u,p,v,g,c,I⟩:=B;have w:=(Jv.mp I).1;have i:∀b,b≠T->(s.heap.update T (Obj.mapFields (·.setIfInBounds 3 (f.elim Value.none λa=>rawInt a)))).get? b=s.heap.get? b:=λb n=>Heap.get?_update_other _ _ n.symm;have J:∀b o,s.heap.get? b=some o->(∀K,o.data ≠ .fields K)->b≠T:=λb o q n z=>by
  subst z;rw[g] at q;cases q;exact n _ c
 unfold setFlight;refine Za (wpAny_field r t u ?_);rw[Zd ()];refine wpAny_setField g c w (h _ T p i ⟨F,G,g,c⟩ (λb o q=>(i b λz=>by rw[z,p] at q;cases q).trans (x b o q)) (y.of_keeps λb o q n=>⟨o,(i b (J b o q n)).trans q,rfl⟩) ⟨f.elim Value.none λa=>rawInt a,C,j,T,_,_,(i e v.symm).trans r,H,t,u,p,v,Heap.get?_update_self _ g (Obj.isFreed_of_fields (Obj.data_mapFields c _)),Obj.data_mapFields c _,?_⟩);rw[Array.getElem?_setIfInBounds_self_of_lt w]
def TB (a:A.frames=some (env::outer))(f:env.frame=some L)(i:base.StaysIn s.heap)(g:base.get? e=none)(j:s.heap.FunFrames base (env::outer))(h:s.heap.TracedAtW base e cls a0 fl)
 (l:∀h',Heap.FlyingW base outer e cls a0 h'->s.heap.UpToSlots h'->Q Yt { s with heap:=h' }):wpAny M A (leaving env (.ref e)) Q E s:=by
 by_cases c:fl=rawInt L
 .subst c;unfold leaving;refine Za (wpAny_noteFrame_againW f h ?_);exact wpAny_setFlight_noneW i j h λh' k1 k2 k3 v=>l h' ⟨k1,g,k2.2.2,k3⟩ λb o q n=>⟨o.slots,v b o q n⟩
 .obtain⟨O,P,T,R,S,w,⟨x,y⟩,m,B,C,U,p,r,t⟩:=h;subst x;have F:=(Jv.mp t).1;have u:∀b,b≠T->(s.heap.update T (Obj.mapFields (·.setIfInBounds 3 Value.none))).get? b=s.heap.get? b:=λb n=>Heap.get?_update_other _ _ n.symm;have G:∀b o,s.heap.get? b=some o->(∀H,o.data ≠ .fields H)->b≠T:=by grind
  unfold leaving noteFrame;simp only[f];refine Za (Za (wpAny_field w m B ?_));refine Za (wpAny_field p r t ?_);rw[Ze (λz=>c (Ys.mp z))];refine Za (wpAny_setField p r F ?_);refine wpAny_newEntryW a (j.of_keeps ()) f () (λb o q=>(u b λz=>by rw[z,C] at q;cases q).trans (i b o q)) g m () y λh' ⟨I,J,K,N⟩=>?_;exact l h' ⟨I,g,J.2.2,K⟩ λb o q n=>N b o ((u b (G b o q n)).trans q) n
end
structure FlyAny (l:List Env)(h₀:Heap)(H:Hp)(x C:Addr)(B h:Heap):Prop where
 st:B.StaysIn h
 no:B.get? x=none
 fr:h.FunFrames B l
 tr:∃t fl,h.TracedAtW B x (.ref C) (.ref t) fl
 trk:∀b o,h.get? b=some o->(H b≠none\/((∃u,h₀.get? b=some u)/\b∉xl l))->B.get? b=some o
structure ThrownA (X:Cx)(E:XK):Prop where
 on:∀(Y:Yb) (Z: St) (H:Hp) (s:Shared) (x C:Addr) (B:Heap),Inv X Y Z H s->FlyAny X.stack X.s₀.heap H x C B s.heap->E (.ref C) none H->X.xe (.ref x) s
def TC {P:Program}{w:World}{K:W.Frag}{mg:Ye}{g:Heap}{N:Yk}{i:Str}{a:Scope}{f:Addr}{n:Value}{A:Around}{c:List Env}{s:Shared}{H:Hp}{E:XK}:ThrownA (jX (xG P w) P w K mg g N i a f n A c s H E) E:=by
 refine⟨λY Z r s' x C B I j o=>?_⟩;obtain⟨t,m,p⟩:=j.tr;exact TB I.ok.frames rfl j.st j.no j.fr p λh' l q=>D8 (h₀:=s.heap) I (λb u e=>⟨u,e⟩) l q j.trk o
theorem Iu {h h' B a:Heap}(k0:∀b,B.get? b=none->a.get? b=none):∀{l:List Env},(∀b∈xl l,h'.get? b=h.get? b)->h.FunFrames B l->h'.FunFrames a l
 | [],_,_=>trivial
 |env::rest,k,⟨g1,⟨L,o,g2,g3,g4,g5⟩,r⟩=>by
  have e:L∈xl (env::rest):=by
   unfold xl;rw[Uz,g2];exact Zqs
  refine⟨g1,⟨L,o,g2,k0 L g3,(k L e).trans g4,g5⟩,Iu k0 (λb c=>k b ?_) r⟩;unfold xl at c ⊢;rw[Uz,g2];exact Zqm _ c
def TD {X:Cx}{E:XK}{f:Scope}{N:Yk}{cl:List (Str×Addr)}{C:Addr}{s:Shared}{H:Hp}{L:Yl}(A:X.stack=X.env::X.outer)(hfr:X.env.frame=some X.env.locals)(M:X.ex=[])(T:ThrownA X E)(at_:WF X C s H L):Thrown (JK X f N cl C s H L) E:=by
 obtain⟨F,Z0,I0,O,hC⟩:=at_;refine⟨λY Z H' s' h₀ x D B I h0 fl hE=>?_⟩;obtain⟨⟨t,fly⟩,trk⟩:=fl;have P:Heap.FlyingW B (X.env::X.outer) x (.ref D) (.ref t) s'.heap:=by rw[<- A];exact fly
 have Q:noteFrame (.ref x) (compEnvC f cl C X.env)=noteFrame (.ref x) X.env:=rfl;show YI X (noteFrame (.ref x) (compEnvC f cl C X.env)) (λ_ s''=>XT X C (.ref x) s'') (XT X C) s';rw[Q];refine wpAny_looks_onW (I0.ok.frames.trans (by rw[A])) hfr P λh1 R up1=>?_;obtain⟨m,hm,_⟩:=id I.loc;have S:h1.Ns C m:=up1.ns hm;refine⟨m,S,λG i cenv _=>?_⟩;obtain⟨hc1,hc2,hc3,hc4⟩:=R;obtain⟨oC,es,ep,hoC,hdC,_⟩:=id S;have nC:∀b o ws,h1.get? b=some o->o.data=.fields ws->b≠C:=by grind
 have g:∀b o,s.heap.get? b=some o->b≠C:=λb o q=>Zi (Zg (Zk q) hC);have U:∀b∈xl X.stack,b≠C:=λb a=>by
  obtain⟨_,J,j,_⟩:=I.ok.funs.mem a;exact g b J j
 obtain⟨p,hB'⟩:∃p,W.hideAll B [C]=p:=⟨_,rfl⟩;have inB:∀b o,p.get? b=some o->B.get? b=some o:=λb o q=>by rw[<- hB'] at q;exact W.of_hideAll _ q
 have toB:∀b o,B.get? b=some o->b≠C->p.get? b=some o:=λb o q n=>by grind[W.hideAll_get]
 have K:∀b,B.get? b=none->p.get? b=none:=λb q=>by
  cases z:p.get? b with
  |none=>rfl
  |some o=>rw[inB b o z] at q;cases q
 have nBC:∀b o,p.get? b=some o->b≠C:=λb o q z=>by
  grind[W.hideAll_none]
 have st2:p.StaysIn G:=λb o q=>(i.2 b (nBC b o q)).trans (hc1 b o (inB b o q));have fr2:G.FunFrames p X.stack:=Iu K (λb a=>i.2 b (U b a)) (by rw[A];exact hc3);obtain⟨oe,vs,T0,oT,ts,g1,g2,g3,g4,g5,g6,g7,g8,g9⟩:=hc4;have tr2:G.TracedAtW p x (.ref D) (.ref t) (rawInt X.env.locals):=⟨oe,vs,T0,oT,ts,(i.2 x (nC _ _ _ g1 g3)).trans g1,g2,g3,g4,K T0 g5,g6,(i.2 T0 (nC _ _ _ g7 g8)).trans g7,g8,g9⟩;unfold PySem.passOn;refine Za (wpAny_field (s:={ s' with heap:=G }) ((i.2 x (nC _ _ _ g1 g3)).trans g1) g3 g4 ?_);rw[Ze ()];refine Za (T9 (s:={ s' with heap:=G }) st2 fr2 tr2 λh3 T' t1 t2 t3 st3 fr3 tr3=>wpAny_throw ?_);have K1:∀b o,B.get? b=some o->b≠C->h3.get? b=some o:=λb o q n=>st3 b o (toB b o q n);have nex:∀b u,X.s₀.heap.get? b=some u->b∉L:=λb u q a=>by
  rcases(O b a).2.2.2.1 with z|z
  .rw[M] at z;cases z
  .exact Zn (Zk q) (Nat.not_lt.mpr z)
 have w:∀b o,s.heap.get? b=some o->b∈xl X.stack->b∉L->∃sl,h3.get? b=some { o with slots:=sl }:=λb o q a l=>by
  obtain⟨_,J,j,hd⟩:=I.ok.funs.mem a;have j:s.heap.get? b=some J:=j;rw[q] at j;obtain rfl:=Zqi j;obtain⟨sl,e1⟩:=I.base.slot b o q (I.ok.frf b a) a l;obtain⟨sl',e2⟩:=up1 b _ e1 hd;have e3:G.get? b=some { o with slots:=sl' }:=(i.2 b (U b a)).trans e2;refine⟨sl',(t2 b λz=>?_).trans e3⟩;obtain⟨oz,wz,z1,z2⟩:=t3;rw[<- z] at z1;have z1:G.get? b=some oz:=z1;rw[e3] at z1;cases z1;exact hd _ z2
 refine T.on F Z0 H' _ x D p (I0.call' (s':={ s' with heap:=h3 }) (ch:=L) I.os ⟨λb o e n a l=>?_,λb o e n a l=>w b o e a l,λb o e n l=>I.base.free b o e n l,λb o e l=>?_,I.base.tups,I.base.frzs,I.base.tbls⟩ (λb u e=>?_) I.bare λb a=>⟨(O b a).2.2.2.1,(O b a).2.1,(O b a).2.2.2.2.1,(O b a).2.2.2.2.2⟩) ⟨st3,K x hc2,fr3,?_,λb o e c=>?_⟩ hE
 .exact K1 b o (trk b o (I.base.keep b o e n a l) (.inr ⟨h0 b o e l,a⟩)) (g b o e)
 .by_cases a:b∈xl X.stack
  .obtain⟨sl,q⟩:=w b o e a l;exact⟨_,q⟩
  .obtain⟨J,e'⟩:=I.base.there b o e l;exact⟨J,K1 b J (trk b J e' (.inr ⟨h0 b o e l,a⟩)) (g b o e)⟩
 .refine(I.hok b u e).stay (λc v hc q=>K1 c v (trk c v q (.inl ?_)) ?_) (λ_ q=>q) λ_ _ q=>q
  .rcases hc with z|z
   .rw[z,e];simp
   .rw[z];simp
  .intro z;have fC:H' C=none:=I.free;rcases hc with y|y
   .rw[<- y,z,fC] at e;exact J2 e
   .rw[z,fC] at y;exact J2 y
 .obtain⟨fl',q⟩:=tr3;exact⟨t,fl',q⟩
 .have key:∃r,B.get? b=some r/\b≠C:=by
   rcases c with c|⟨⟨u,hu⟩,a⟩
   .cases q:H' b with
    |none=>exact Zn q c
    |some u =>
     obtain⟨r,h2'⟩:=(I.hok b u q).has;exact⟨r,trk b r h2' (.inl c),λz=>by rw[z] at q;rw[show H' C=none from I.free] at q;exact J2 q⟩
   .obtain⟨o1,e1⟩:=I0.base.there b u hu (by rw[M];simp);obtain⟨r,e2⟩:=I.base.there b o1 e1 (nex b u hu);exact⟨r,trk b r e2 (.inr ⟨h0 b o1 e1 (nex b u hu),a⟩),g b o1 e1⟩
  obtain⟨r,k1,k2⟩:=key;have:=K1 b r k1 k2;have e:=e;rw[e] at this;cases this;exact toB b o k1 k2
end L2
namespace L2.DL
def TF (N:Yk)(cap:List (Option Nat))(e:X.calm=true)(b:QF scope X.env N X.N cap=true)(g:QI X E tg iter fi)
 (i:∀c C s H a,QG (JK X scope N c C s H a) tg t) (j:∀c C s H a,WF X C s H a->QE (JK X scope N c C s H a) E elt f) (hs:∀x,foldedSetIterable iter X.env x=pure x:=by intro _;rfl):
 QN X E (.ListComp elt [⟨tg,iter,[],0⟩] scope pos) (Q0 cap fi t f):=PE.weak (Fl N cap e b g i j hs) λ_ _ _ h=>CN h
abbrev HP:=List (Addr×D)
def jl:HP->Addr->YH
 | [],_=>none
 |p::r,a=>if a=p.1 then some p.2 else jl r a
def We:HP->Addr->D->HP
 | [],_,_=>[]
 |p::r,a,d=>if a=p.1 then(p.1,d)::r else p::We r a d
def Bg (a:Addr):jl [] a=none:=rfl
theorem Q4 (p:Addr×D)(r:HP)(a:Addr):jl (p::r) a=if a=p.1 then some p.2 else jl r a:=rfl
theorem DF:∀{hp:HP} {a:Addr} {d:D} (b:Addr),jl hp a≠none->jl (We hp a d) b=if b=a then some d else jl hp b
 | [],a,d,b,h=>Zn rfl h
 |p::r,a,d,b,h=>by
  unfold We;by_cases z:a=p.1
  .simp_all [Q4]
  .rw[Ze z,Q4,Q4];rw[Q4,Ze z] at h;rw[DF b h]
   grind
structure RT (K:W.Frag)(B B':Bs)(F H:Hp)(sd:SD)(hp:HP)(Z: St):Prop where
 rs:RS K B' F H sd Z
 f0:B'.F0=B.F0
 pa:B'.pa=B.pa
 out:∀a,jl hp a=none->B'.H0 a=B.H0 a
 obj:∀a d,jl hp a=some d->B.F0 a=none/\B.H0 a=none/\yK K F B'.H0 a d
section
variable {K:W.Frag}{B B':Bs}{F F' H H':Hp}{sd sd':SD}{hp:HP}{Z Z':St}{a:Addr}{d:D}
def RT.sub (t:RT K B B' F H sd hp Z):jk B.H0 B'.H0:=λa o e=>by
 cases q:jl hp a with
 |none=>rwa [t.out a q]
 |some d=>rw[(t.obj a d q).2.1] at e;exact J2 e
def RT.ext0 (t:RT K B B' F H sd hp Z)(e:Ext B'.F0 B'.H0 F2 H2):Ext B.F0 B.H0 F2 H2:=
 ⟨by rw[<- t.f0];exact e.ff,e.fh,t.sub.trans e.hh,λa c b=>e.new a (by rwa [t.f0]) λz=>b (Qd t.sub z)⟩
def RT.go (t:RT K B B' F H sd hp Z)(s:jk F F')(r:RS K B' F' H' sd' Z'):RT K B B' F' H' sd' hp Z':=
 ⟨r,t.f0,t.pa,t.out,λa d h=>let ⟨h1,h2,h3⟩:=t.obj a d h;⟨h1,h2,h3.ext s λ_ q=>q⟩⟩
def RT.free (t:RT K B B' F H sd hp Z)(h:jl hp a=some d):F a=none:=have ⟨e,f,b⟩:=t.obj a d h;have ⟨o,c⟩:=b.has;t.rs.ext.new a (by rwa [t.f0]) (by rw[c];simp)
def RT.lies (t:RT K B B' F H sd hp Z)(h:jl hp a=some d):yK K F H a d:=(t.obj a d h).2.2.ext (.refl _) λo q=>t.rs.ext.hh _ _ q
def RT.no_own (t:RT K B B' F H sd hp Z)(h:jl hp a=some d)(b:B'.H0 l=none):l≠a:=λz=>by
 obtain⟨o,c⟩:=(t.obj a d h).2.2.has
 simp_all
def RT.ret (t:RT K B B' F H sd hp Z)(h:AC K m B Q d):AC K m B' Q d:=by
 have g:yI K B.F0 B.H0 Q d->yI K B'.F0 B'.H0 Q d:=λh v c f e i=>h v c f (t.ext0 e) i;have j:xR K B.F0 B.H0 Q d->xR K B'.F0 B'.H0 Q d:=λh l c f e n p o=>h l c f (t.ext0 e) (Qd t.sub n) p o;cases m with
 |none =>
  have h:bJ K B.F0 B.H0 Q d:=h;show bJ K B'.F0 B'.H0 Q d
  grind[bJ]
 |some b =>
  cases b with
  |true=>exact j h
  |false=>exact g h
def RT.xw (t:RT K B B' F H sd hp Z)(h:XW K E B.F0 B.H0 c fs):XW K E B'.F0 B'.H0 c fs:=λb a f g e q=>h b a f g (t.ext0 e) q
def RT.chg (t:RT K B B' F H sd hp Z)(f:jl hp a=some d)(h:yK K F (j9 H a o) a d'):RT K B ⟨B'.F0,j9 B'.H0 a o,B'.pa⟩ F (j9 H a o) sd (We hp a d') Z:= by
 have m:=t.free f;obtain⟨n,r,L⟩:=t.obj a d f;have g:jl hp a≠none:=by rw[f];simp
 refine⟨⟨⟨t.rs.ext.ff,Cr o t.rs.ext.fh m,λb u e=>?_,λb s v=>?_⟩,t.rs.len,t.rs.val,λ{i p e} q=>?_,t.rs.apart⟩,t.f0,t.pa,λb c=>?_,λb e c=>?_⟩
 .have e:j9 B'.H0 a o b=some u:=e;by_cases z:b=a
  .simp_all [JL]
  .rw[JJ z] at e ⊢;exact t.rs.ext.hh _ _ e
 .by_cases z:b=a
  .rwa [z]
  .exact t.rs.ext.new b s λy=>v (by show j9 B'.H0 a o b=none;rwa [JJ z])
 .obtain⟨l,w,j,x,A,C⟩:=t.rs.own q;have ne:=t.no_own f j;exact⟨l,w,(JJ ne).trans j,x,A.ext (.refl _) (λu E=>by rwa [JJ ne]),λz=>(C z).mono λu E=>by rwa [JJ ne]⟩
 .rw[DF b g] at c;by_cases z:b=a
  .simp_all
  .rw[Ze z] at c;show j9 B'.H0 a o b=B.H0 b;rw[JJ z];exact t.out b c
 .rw[DF b g] at c;by_cases z:b=a
  .rw[Zd z] at c;obtain rfl:=Zqi c;subst z;exact⟨n,r,h.ext (.refl _) λu q=>by simp_all [JL]⟩
  .rw[Ze z] at c;obtain⟨G,I,J⟩:=t.obj b e c;exact⟨G,I,J.ext (.refl _) λu q=>by show j9 B'.H0 a o b=some u;rwa [JJ z]⟩
def z7 (F b:Hp)(hp:HP):Hp:=λa=>match jl hp a with
 |some _=>b a
 |none=>F a
theorem RT.frz (t:RT K B B' F H sd hp Z):∃h,jk F h/\RS K B h H sd Z /\ ∀a d,jl hp a=some d->jf K h d (.ref a):=by
 have s:∀b d,jl hp b=some d->z7 F B'.H0 hp b=B'.H0 b:=λb d e=>by unfold z7;rw[e]
 have g:∀b,jl hp b=none->z7 F B'.H0 hp b=F b:=λb e=>by unfold z7;rw[e]
 have f:jk F (z7 F B'.H0 hp):=λb u e=>by
  cases q:jl hp b with
  |none=>rwa [g b q]
  |some d=>rw[t.free q] at e;exact J2 e
 refine⟨z7 F B'.H0 hp,f,⟨⟨?_,λb u e=>?_,t.sub.trans t.rs.ext.hh,λb E j=>?_⟩,t.rs.len,λq=>let ⟨v,j,h2⟩:=t.rs.val q;⟨v,j,jf.same f _ _ h2⟩,λ{i p e} q=>?_,t.rs.apart⟩,λb e m=>?_⟩
 .rw[<- t.f0];exact t.rs.ext.ff.trans f
 .cases q:jl hp b with
  |none=>rw[g b q] at e;exact t.rs.ext.fh _ _ e
  |some d=>rw[s b d q] at e;exact t.rs.ext.hh _ _ e
 .cases q:jl hp b with
  |none=>rw[g b q];exact t.rs.ext.new b (by rwa [t.f0]) (by rwa [t.out b q])
  |some d=>exact Zn (t.obj b d q).2.1 j
 .obtain⟨l,w,n,G,x,y⟩:=t.rs.own q;have A:jl hp l=none:=by
   cases z:jl hp l with
   |none=>rfl
   |some d'=>exact Zn rfl (t.no_own z n)
  exact⟨l,w,Qd t.sub n,by rwa [g l A],x.ext f λ_ q=>q,λz=>by rw[<- t.pa];exact y z⟩
 .obtain⟨I,J,r⟩:=t.obj b e m;obtain⟨o,C⟩:=r.has;refine jf.same (λc u q=>?_) _ _ (r.frz C (t.free m));by_cases z:c=b
  .simp_all [JL]
  .rw[JJ z] at q;exact f _ _ q
end
mutual
def der (hp:HP):D->D
 | .adr a=>match jl hp a with
  |some d=>d
  |none=>.adr a
 | .lst ds=>.lst (zZ hp ds)
 | .non=>.non
 | .bl b=>.bl b
 | .int i=>.int i
 | .str x=>.str x
 | .ty n=>.ty n
 | .scr ns=>.scr ns
 | .tup ds=>.tup ds
 | .dct ks ds=>.dct ks ds
 | .ins c fs ds=>.ins c fs ds
 | .exc c=>.exc c
 | .ucl c=>.ucl c
 | .dcf ks ds=>.dcf ks ds
 | .pin a d=>.pin a d
def zZ (hp:HP):YG->YG
 | []=>[]
 |d::ds=>der hp d::zZ hp ds
end
theorem TH (hp:HP)(a:Addr):der hp (.adr a)=match jl hp a with
 |some d=>d
 |none=>.adr a:=by rw[der]
def TJ (hp:HP):zZ hp []=[]:=by rw[zZ]
section
variable {K:W.Frag}{B:Bs}{F H:Hp}{sd:SD}{hp:HP}{Z: St}
mutual
theorem jf.der (f:∀a d,jl hp a=some d->jf K F d (.ref a)):∀(d:D) (v:V),jf K F d v->jf K F (der hp d) v
 | .adr a,v,h=>by
  obtain rfl:=jC.mp h
  grind[TH]
 | .lst ds,v,h=>have ⟨a,e,g,i,j⟩:=jj.mp h;jj.mpr ⟨a,e,g,i,je.der f ds e j⟩
 | .non,v,h=>by rwa [L2.DL.der]
 | .bl b,v,h=>by rwa [L2.DL.der]
 | .int b,v,h=>h
 | .str b,v,h=>by rwa [L2.DL.der]
 | .ty b,v,h=>h
 | .scr b,v,h=>by rwa [L2.DL.der]
 | .tup b,v,h=>by rwa [L2.DL.der]
 | .dct b c,v,h=>h
 | .ins b c d,v,h=>by rwa [L2.DL.der]
 | .exc b,v,h=>by rwa [L2.DL.der]
 | .ucl b,v,h=>by rwa [L2.DL.der]
 | .dcf b c,v,h=>by rwa [L2.DL.der]
 | .pin b c,v,h=>by rwa [L2.DL.der]
theorem je.der (c:∀a d,jl hp a=some d->jf K F d (.ref a)):∀(ds:YG) (b:YE),je K F ds b->je K F (zZ hp ds) b
 | [],b,h=>by rwa [TJ]
 |d::ds,b,h=>have ⟨x,r,e,f,g⟩:=jr.mp h;jr.mpr ⟨x,r,e,jf.der c d x f,je.der c ds r g⟩
end
def derI (hp:HP):Yj->SD->SD
 | [],sd=>sd
 |i::is,sd=>derI hp is (match sd[i]? with
  |some (some (.val d))=>sd.set i (some (.val (der hp d)))
  |_=>sd)
def Z8 {α: Type}{l:List α}{a:α}(h:l[i]? = some a):l.set i a=l:=by
 apply VM;intro j;by_cases z:i=j
 .subst z;rw[UT (Jc.mp h).1,h]
 .rw[Zx z]
def RS.reval (r:RS K B F H sd Z)(a:sd[i]? = some (some (.val d)))(h:∀v,jf K F d v->jf K F d' v):RS K B F H (sd.set i (some (.val d'))) Z:= by
 obtain⟨v,b,c⟩:=r.val a;have:=r.setVal (i:=i) (h v c)
 rwa [Z8 b] at this
theorem RS.derI (b:∀a d,jl hp a=some d->jf K F d (.ref a)):∀(is:Yj) {sd:SD},RS K B F H sd Z -> RS K B F H (derI hp is sd) Z
 | [],sd,r=>r
 |i::is,sd,r=>by
  unfold L2.DL.derI
  split
  .rename_i d h;exact RS.derI b is (r.reval h λv q=>jf.der b d v q)
  .exact RS.derI b is r
end
inductive Out2 where
 |next (sd:SD) (hp:HP)|ret (d:D)|brk (sd:SD) (hp:HP)|cont (sd:SD) (hp:HP)
def vk (K:W.Frag)(m:Option Bool)(B:Bs)(F:Hp)(T:Ends):Out2->Prop
 | .next sd hp=>∀Z c a b,jk F a->RT K B c a b sd hp Z -> T.nx Z b
 | .brk sd hp=>∀Z c a b,jk F a->RT K B c a b sd hp Z -> T.bk Z b
 | .cont sd hp=>∀Z c a b,jk F a->RT K B c a b sd hp Z -> T.ct Z b
 | .ret d=>AC K m B T.rt d
abbrev qo:=SD->HP->Res Out2
def v1 (K:W.Frag)(E:XK)(m:Option Bool)(g:qo):TS:=λT Z H=>∃B a F sd hp,RT K B a F H sd hp Z /\ (g sd hp).need (vk K m B F T) (XW K E B.F0 B.H0)
abbrev zJ (X:Cx)(E:XK)(m:Option Bool)(st:Stmt)(g:qo):Prop:=PS X st (v1 X.K E m g)
abbrev yT (X:Cx)(E:XK)(m:Option Bool)(st:List Stmt)(g:qo):Prop:=qP X st (v1 X.K E m g)
def fZ (hp:HP):Out->Out2
 | .next sd=>.next sd hp
 | .ret d=>.ret d
 | .brk sd=>.brk sd hp
 | .cont sd=>.cont sd hp
section
variable {K:W.Frag}{E:XK}{m:Option Bool}{B B':Bs}{F F' H:Hp}{T:Ends}{sd:SD}{hp:HP}{Z: St}
def vk.mono (h:vk K m B F T o)(e:jk F F'):vk K m B F' T o:=by
 cases o with
 |next sd hp=>exact λZ a b c s r=>h Z a b c (e.trans s) r
 |brk sd hp=>exact λZ a b c s r=>h Z a b c (e.trans s) r
 |cont sd hp=>exact λZ a b c s r=>h Z a b c (e.trans s) r
 |ret d=>exact h
def RT.lift (t:RT K B B' F H sd hp Z)(h:vk K m B F T (fZ hp o)):zM K m B' F T o:=by
 cases o with
 |next sd'=>exact λa F' b s r=>h a B' F' b s (t.go s r)
 |brk sd'=>exact λa F' b s r=>h a B' F' b s (t.go s r)
 |cont sd'=>exact λa F' b s r=>h a B' F' b s (t.go s r)
 |ret d=>exact t.ret h
end
section
variable {X:Cx}{E:XK}{m:Option Bool}{st:Stmt}{sts:List Stmt}{g:FS}{g1 g2:qo}{pos pos':Pos}{o i e:Expr}{fo fi fv:FE}
def ya (g:FS):qo:=λsd hp=>(g sd).bind λo=>.ok (fZ hp o)
def QR (h:QS X E m st g):zJ X E m st (ya g):=PS.weak h λT Z H ⟨B,a,F,sd,hp,t,n⟩=>⟨a,F,sd,t.rs,(ja n).mono (λo b=>t.lift b) λ_ _ q=>t.xw q⟩
def Bh:qo:=λsd hp=>.ok (.next sd hp)
def Q9 (g1 g2:qo):qo:=λsd hp=>(g1 sd hp).bind λo=>match o with
 | .next sd' hp'=>g2 sd' hp'
 |o=>.ok o
def Iv:yT X E m [] Bh:=qP.weak Ag λT Z H ⟨B,a,F,sd,hp,t,n⟩=>n Z a F H (.refl _) t
def ZD (h:zJ X E m st g1):yT X E m [st] g1:=BR h
def KY (b:zJ X E m st g1)(c:yT X E m sts g2):yT X E m (st::sts) (Q9 g1 g2):=qP.weak (XL b c) λT Z H f=>by
 obtain⟨B,h,F,sd,hp,t,n⟩:=f;refine⟨B,h,F,sd,hp,t,(ja n).mono (λo a=>?_) λ_ _ q=>q⟩;cases o with
 |next sd' hp'=>exact λr j l u s p=>⟨B,j,l,sd',hp',p,a.mono (λo q=>q.mono s) λ_ _ q=>q⟩
 |ret d=>exact a
 |brk sd' hp'=>exact a
 |cont sd' hp'=>exact a
abbrev vw:=SD->HP->Res Bool
def mn (K:W.Frag)(E:XK)(f:vw):TT:=λZ H Q=>∃B a F sd hp,RT K B a F H sd hp Z /\ (f sd hp).need (vF F H Q) (XW K E F H)
abbrev nS (X:Cx)(E:XK)(e:Expr)(f:vw):Prop:=PT X e (mn X.K E f)
def mq (f:FT):vw:=λsd _=>f sd
def TK (h:QT X E e f):nS X E e (mq f):=PT.weak h λZ H Q ⟨B,a,F,sd,hp,t,n⟩=>⟨a,F,sd,t.rs,n⟩
def zn (c:vw)(g1 g2:qo):qo:=λsd hp=>(c sd hp).bind λb=>if b then g1 sd hp else g2 sd hp
def Iw (p:nS X E c fc)(r:yT X E m a g1)(s:yT X E m b g2):zJ X E m (.If c a b pos) (zn fc g1 g2):=PS.weak (BS p r s) λT Z H u=>by
 obtain⟨B,h,F,sd,hp,t,n⟩:=u;refine⟨B,h,F,sd,hp,t,(ja n).mono (λb j l v f=>?_) λ_ _ q=>q.ext (t.ext0 t.rs.ext)⟩;cases b with
 |true=>exact⟨B,h,l,sd,hp,t.go f.ff (t.rs.step f),j.mono (λ_ q=>q.mono f.ff) λ_ _ q=>q⟩
 |false=>exact⟨B,h,l,sd,hp,t.go f.ff (t.rs.step f),j.mono (λ_ q=>q.mono f.ff) λ_ _ q=>q⟩
def qi (b:D->qo):YG->qo
 | [],sd,hp=>.ok (.next sd hp)
 |x::xs,sd,hp=>(b x sd hp).bind λo=>match o with
  | .next sd' hp'=>qi b xs sd' hp'
  | .cont sd' hp'=>qi b xs sd' hp'
  | .brk sd' hp'=>.ok (.next sd' hp')
  | .ret d=>.ok (.ret d)
def QU (tg:Tg)(b:qo)(x:D):qo:=λsd hp=>(JO tg x sd).bind λs=>b s hp
def ZE (it:FA)(tg:Tg)(b:qo):qo:=λsd hp=>(it sd).bind λds=>qi (QU tg b) ds sd hp
def Ix (wk:wU X.K F1 J ds)(r:RT X.K B B1 F1 H1 sd hp Z)(n1:(qi (QU t g1) ds sd hp).need (vk X.K m B F1 T) (XW X.K E B.F0 B.H0)):
 ∃W:Nat->Nat->St->Hp->Prop,(∃m,W 0 m Z H1)/\∀i S Z H,W i S Z H->(J.stop i H/\T.nx Z H)\/(J.go i H/\∃N:St->Hp->Prop,(∀s j,N s j->∃m2,m2<S/\W (i+1) m2 s j)/\∀x j,J.yld i H x j->gT t X.K x Z j λK C=>v1 X.K E m g1 { T with nx:=N,ct:=N,bk:=T.nx } K C):=by
 refine⟨λi k Z H=>k=ds.length-i/\i<=ds.length/\∃F u sd hp,jk F1 u/\RT X.K B F u H sd hp Z /\ (qi (QU t g1) (ds.drop i) sd hp).need (vk X.K m B u T) (XW X.K E B.F0 B.H0),
  ⟨ds.length,rfl,Ub _,B1,F1,sd,hp,.refl _,r,n1⟩,?_⟩
 rintro i k K C ⟨rfl,hi,F,u,sd2,L,M,G,v⟩;obtain⟨w1,w2⟩:=wk i u C M G.rs.ext.fh;by_cases a:i<ds.length
 .obtain⟨go,yl⟩:=w1 a;refine .inr ⟨go,λs j=>∃O l b c,jk F1 l/\RT X.K B O l j b c s/\(qi (QU t g1) (ds.drop (i+1)) b c).need (vk X.K m B l T) (XW X.K E B.F0 B.H0),
   λs j ⟨O,l,b,c,q1,q2,q3⟩=>⟨ds.length-(i+1),(),rfl,a,O,l,b,c,q1,q2,q3⟩,λx H3 y=>?_⟩
  obtain⟨d,l,U,n,i3⟩:=yl x H3 y;rw[Uu a] at v;have P:ds[i]=d:=by rw[Zqg a] at U;exact Zqi U
  rw[P] at v;have Y:=G.go n.ff (G.rs.step n);unfold qi at v;have n3:=ja (ja v);refine YM Y.rs i3 n3 λsd' s n4 _ r4=>?_;refine⟨B,F,l,sd',L,Y.go (.refl _) r4,n4.mono (λo I=>?_) λ_ _ q=>q⟩;cases o with
  |next f h=>exact λQ w z R p A=>⟨w,z,f,h,(M.trans n.ff).trans p,A,I.mono (λ_ q=>q.mono (n.ff.trans p)) λ_ _ q=>q⟩
  |cont f h=>exact λQ w z R p A=>⟨w,z,f,h,(M.trans n.ff).trans p,A,I.mono (λ_ q=>q.mono (n.ff.trans p)) λ_ _ q=>q⟩
  |brk f h=>exact λQ w z R p A=>I Q w z R (n.ff.trans p) A
  |ret d=>exact I
 .have he:i=ds.length:=()
  refine .inl ⟨w2 (),?_⟩;subst he;rw[UM] at v;exact v K F u C (.refl _) G
def Iy (hp:PassesOwn (model X.prog X.w) X.A X.env X.xe)(c:X.calm=true)(f:QI X E tg iter it)(h:QG X tg t)(j:yT X E m body g1)
 (a:∀x,foldedSetIterable iter X.env x=pure x:=by intro _;rfl):zJ X E m (.For tg iter body [] pos) (ZE it t g1):=PS.weak (BU hp c f h j a) λT Z H ⟨B,l,F,sd,hp,r,n⟩=>⟨l,F,sd,r.rs,(ja n).mono (λds p J s u b wk=>(Ix wk (r.go b.ff (r.rs.step b)) (p.mono (λ_ q=>q.mono b.ff) λ_ _ q=>q))) λ_ _ q=>q.ext (r.ext0 r.rs.ext)⟩
end
@[simp]def vZ (hp:HP)(sd:SD):fZ hp (.next sd)=.next sd hp:=rfl
@[simp]def TL (g:FS)(sd:SD)(hp:HP):ya g sd hp=(g sd).bind λo=>.ok (fZ hp o):=rfl
def uE (g:qo):Out2->Res Out2
 | .next sd hp=>g sd hp
 |o=>.ok o
@[simp]def pI (g:qo)(sd:SD)(hp:HP):uE g (.next sd hp)=g sd hp:=rfl
@[simp]def TM (a b:qo)(sd:SD)(hp:HP):Q9 a b sd hp=(a sd hp).bind (uE b):=by
 rfl
@[simp]def pJ (sd:SD)(hp:HP):Bh sd hp=.ok (.next sd hp):=rfl
@[simp]def Iz (c:vw)(a e:qo)(sd:SD)(hp:HP):zn c a e sd hp=(c sd hp).bind λb=>if b then a sd hp else e sd hp:=rfl
@[simp]def n8 (f:FT)(sd:SD)(hp:HP):mq f sd hp=f sd:=rfl
@[simp]def I1 (it:FA)(tg:Tg)(b:qo)(sd:SD)(hp:HP):ZE it tg b sd hp=(it sd).bind λds=>qi (QU tg b) ds sd hp:=rfl
@[simp]def fm (hp:HP)(sd:SD):derI hp [] sd=sd:=rfl
def fu (hp:HP)(i:Nat)(sd:SD):Option (Option SV)->SD
 |some (some (.val d))=>sd.set i (some (.val (der hp d)))
 |_=>sd
@[simp]def fq (hp:HP)(i:Nat)(sd:SD)(d:D):fu hp i sd (some (some (.val d)))=sd.set i (some (.val (der hp d))):=rfl
@[simp]def pz (hp:HP)(i:Nat)(is:Yj)(sd:SD):derI hp (i::is) sd=derI hp is (fu hp i sd sd[i]?):=by
 rfl
def IA (b:D->qo)(a:YG):Out2->Res Out2
 | .next sd hp=>qi b a sd hp
 | .cont sd hp=>qi b a sd hp
 | .brk sd hp=>.ok (.next sd hp)
 | .ret d=>.ok (.ret d)
@[simp]def TN (b:D->qo)(a:YG)(sd:SD)(hp:HP):IA b a (.next sd hp)=qi b a sd hp:=rfl
def TQ (b:D->qo)(x:D)(a:YG)(sd:SD)(hp:HP):qi b (x::a) sd hp=(b x sd hp).bind (IA b a):=by
 rfl
@[simp]def TR (tg:Tg)(b:qo)(x:D)(sd:SD)(hp:HP):QU tg b x sd hp=(JO tg x sd).bind λs=>b s hp:=rfl
theorem DG:∀{ds:YG} {sd:SD} {hp:HP} (P:Nat->SD->HP->Prop),P 0 sd hp->(∀(i:Nat) (x:D) (sd:SD) (hp:HP),ds[i]? = some x->P i sd hp->∃sd' hp',b x sd hp=.ok (.next sd' hp')/\P (i+1) sd' hp') ->
 ∃sd' hp',qi b ds sd hp=.ok (.next sd' hp')/\P ds.length sd' hp'
 | [],sd,hp,P,h0,_=>⟨sd,hp,rfl,h0⟩
 |x::xs,sd,hp,P,h0,hs=>by
  obtain⟨e,f,g,h⟩:=hs 0 x sd hp rfl h0;obtain⟨a,c,j,l⟩:=DG (ds:=xs) (λi=>P (i+1)) h λi y sd hp m p=>hs (i+1) y sd hp m p;refine⟨a,c,?_,l⟩;rw[TQ,g,jh,TN,j]
def wn (K:W.Frag)(F H:Hp)(hp:HP):Prop:=∀a d,jl hp a=some d->F a=none/\yK K F H a d
def RT.lent {K:W.Frag}{B a:Bs}{F H:Hp}{sd:SD}{hp:HP}{Z: St}(t:RT K B a F H sd hp Z):wn K F H hp:=λ_ _ h=>⟨t.free h,t.lies h⟩
section
variable {K:W.Frag}{B B':Bs}{F H:Hp}{sd:SD}{hp:HP}{Z: St}
def RT.drop (t:RT K B B' F H sd hp Z):RS K B F H sd Z:= ⟨t.ext0 t.rs.ext,t.rs.len,t.rs.val,λq=>let ⟨l,l1,l2,l3,l4,l5⟩:=t.rs.own q;⟨l,l1,Qd t.sub l2,l3,l4,λz=>by rw[<- t.pa];exact l5 z⟩,t.rs.apart⟩
end
abbrev jQ:=SD->HP->Res (D×HP)
abbrev xx:=SD->HP->Res (YG×HP)
abbrev ze:=SD->HP->Res (Bool×HP)
def wK (K:W.Frag)(E:XK)(f:jQ):TE:=λZ H Q=>∃B c F sd hp,RT K B c F H sd hp Z /\ (f sd hp).need (λp=>∀v e a b,jk F a->RT K B e a b sd p.2 Z -> jf K a p.1 v->Q v b) (XW K E B.F0 B.H0)
abbrev x4 (X:Cx)(E:XK)(e:Expr)(f:jQ):Prop:=PE X e (wK X.K E f)
def uz (K:W.Frag)(E:XK)(f:xx):TA:=λZ H Q=>∃B e F sd hp,RT K B e F H sd hp Z /\ (f sd hp).need (λp=>∀b g a c,jk F a->RT K B g a c sd p.2 Z -> je K a p.1 b->Q b c) (XW K E B.F0 B.H0)
abbrev zC (X:Cx)(E:XK)(es:Ym)(f:xx):Prop:=PA X es (uz X.K E f)
def uy (K:W.Frag)(E:XK)(f:ze):TT:=λZ H Q=>∃B c F sd hp,RT K B c F H sd hp Z /\ (f sd hp).need (λp=>∀e a b,jk F a->RT K B e a b sd p.2 Z -> Q p.1 b) (XW K E B.F0 B.H0)
abbrev vC (X:Cx)(E:XK)(e:Expr)(f:ze):Prop:=PT X e (uy X.K E f)
section
variable {X:Cx}{E:XK}{m:Option Bool}{a b e o i:Expr}{es:Ym}{fa fb fe fo fi:FE}{f2 g2:jQ}{fr:xx}{pos pos':Pos}
def xf (fe:FE):jQ:=λsd hp=>(fe sd).bind λd=>.ok (d,hp)
def Ql (h:QE X E e fe):x4 X E e (xf fe):=PE.weak h λZ H Q ⟨B,f,F,sd,hp,t,n⟩=>⟨f,F,sd,t.rs,(ja n).mono (λd g v j l c p=>g v f j l c.ff (t.go c.ff (t.rs.step c)) p) λ_ _ q=>q.ext (t.ext0 t.rs.ext)⟩
def zm (fo fi:FE):jQ:=λsd hp=>(fo sd).bind λo=>match o with
 | .adr a=>match jl hp a with
  |some (.lst es)=>(fi sd).bind λk=>(Res.ofO (qf (.lst es) k)).bind λz=>.ok (z,hp)
  |_=>.no
 |_=>.no
def IB (p:QE X E o fo)(r:QE X E i fi)(hs:Xf i):x4 X E (.Subscript o i pos) (zm fo fi):=PE.weak (XP fU p r hs) λZ H Q s=>by
 obtain⟨B,g,F,sd,hp,t,n⟩:=s;refine⟨g,F,sd,t.rs,(ja n).mono (λd c v u O h A=>?_) λ_ _ q=>q.ext (t.ext0 t.rs.ext)⟩
 split at c
 .rename_i a;obtain rfl:=jC.mp A
  split at c
  .rename_i es C;have f:=t.go h.ff (t.rs.step h);refine⟨g,u,sd,f.rs,(ja c).mono (λy G w I J j K=>?_) λ_ _ q=>q.ext (t.ext0 f.rs.ext)⟩;have l:=f.go j.ff (f.rs.step j);obtain⟨L,M,g2⟩:=l.lies C;obtain⟨z,hz,q⟩:=jg (ja G);cases y with
   |int k =>
    obtain⟨x,N,ix⟩:=YQ g2 (show qQ es k=some z from hz);exact⟨a,L,k,x,rfl,jd.mp K,qZ.of M,N,q _ g I J (h.ff.trans j.ff) l ix⟩
   |_=>exact J2 hz
  .exact c.elim
 .exact c.elim
def qJ (g:D->D->YH)(fa fb:jQ):jQ:=λsd hp=>(fa sd hp).bind λp=>(fb sd p.2).bind λq=>(Res.ofO (g p.1 q.1)).bind λz=>.ok (z,q.2)
def DH {K:W.Frag}{g:D->D->YH}{Z: St}{H:Hp}{Q:VK}(h:wK K E (qJ g f2 g2) Z H Q):vm (vo K g) (wK K E f2) (wK K E g2) Z H Q:=by
 obtain⟨B,l,F,sd,hp,t,n⟩:=h;refine⟨B,l,F,sd,hp,t,(ja n).mono (λp r v s x P y A C=>?_) λ_ _ q=>q⟩;refine⟨B,s,x,sd,p.2,A,(ja r).mono (λq G w I J R j c L=>?_) λ_ _ q=>q⟩;obtain⟨z,hz,k⟩:=jg (ja G);exact⟨J,p.1,q.1,z,c.rs.ext.fh,jf.same j _ _ C,L,hz,λu M N f O=>k u I M N ((y.trans j).trans f.ff) (c.go f.ff (c.rs.step f)) O⟩
def WU (c:yu X (binaryOp op) g)(f:x4 X E a f2)(j:x4 X E b g2):x4 X E (.BinOp a op b pos) (qJ g f2 g2):=PE.weak (BV c f j) λ_ _ _ h=>DH h
def IC (c:yY X (vo X.K g))(f:x4 X E a f2)(j:x4 X E b g2)(hs:Xf b):x4 X E (.Subscript a b pos) (qJ g f2 g2):=PE.weak (XP c f j hs) λ_ _ _ h=>DH h
def DI (fa:jQ):ze:=λsd hp=>(fa sd hp).bind λp=>match p.1 with
 | .bl b=>.ok (b,p.2)
 |_=>.no
def TU (f:yu X (compareOp op) g)(h:x4 X E a f2)(j:x4 X E b g2)(l:behindInMarks op b=false):vC X E (.Compare a [op] [b] pos) (DI (qJ g f2 g2)):=PT.weak (BW f h j l) λZ H Q r=>by
 obtain⟨B,s,F,sd,hp,t,n⟩:=r;refine DH ⟨B,s,F,sd,hp,t,(ja n).mono (λp c v u w x y z A=>?_) λ_ _ q=>q⟩;obtain⟨d,C⟩:=p;cases d with
 |bl k=>exact⟨k,jm.mp A,c u w x y z⟩
 |_=>exact c.elim
def W1:xx:=λ_ hp=>.ok ([],hp)
def QB (f:jQ)(g:xx):xx:=λsd hp=>(f sd hp).bind λp=>(g sd p.2).bind λq=>.ok (p.1::q.1,q.2)
def Bi:zC X E [] W1:=PA.weak V2 λZ H Q ⟨B,c,F,sd,hp,t,n⟩=>n [] c F H (.refl _) t .nil
def KZ (f:x4 X E e f2)(g:zC X E es fr)(hs:starEach (e::es) X.env=(false,eval e X.env)::starEach es X.env:=by rfl):zC X E (e::es) (QB f2 fr):=PA.weak (KH f g hs) λZ H Q ⟨B,h,F,sd,hp,t,n⟩=>⟨B,h,F,sd,hp,t,(ja n).mono (λp j v l r J s u w=>⟨B,l,r,sd,p.2,u,(ja j).mono (λq x y z A C c G I=>(x (v::y) z A C (s.trans c) G (.mk (jf.same c _ _ w) I))) λ_ _ q=>q⟩) λ_ _ q=>q⟩
def ZF (fr:xx):jQ:=λsd hp=>(fr sd hp).bind λp=>if p.1.length<=1000 then .ok (.tup p.1,p.2) else .no
def ID {x1}(h:zC X E es fr):x4 X E (.Tuple es x1 pos) (ZF fr):=PE.weak (EL h) λZ H Q r=>by
 obtain⟨B,s,F,sd,hp,t,n⟩:=r;refine⟨B,s,F,sd,hp,t,(ja n).mono (λp f j u x y v g l=>?_) λ_ _ q=>q⟩
 split at f
 .have hz:=l.length;refine⟨Q6 (),λq w=>?_⟩;have c:=qD g.rs.ext.fh w (.tup j);exact f _ u _ _ (v.trans c.ff) (g.go c.ff (g.rs.step c)) (js.mpr ⟨q,j,rfl,.of JL,je.same c.ff _ _ l⟩)
 .exact f.elim
def X5 (i:Nat)(f:jQ):qo:=λsd hp=>(f sd hp).bind λp=>.ok (.next (sd.set i (some (.val p.1))) p.2)
def DJ {i:Nat}{x:Str}{c:Pos}(g:X.N.Nodup)(h:X.N[i]? = some x)(j:yJ X.env.scope x)(l:x4 X E e f2)(hs:swapsWith e (some (.Name x pos')) c.line X.env=pure false:=by rfl)(r:X.fn x=true\/X.env.scope.names.lookup x=some .local:=by trivial):
 zJ X E m (.Assign [.Name x pos'] e c) (X5 i f2):=PS.weak (XM g h j l hs r) λT Z H ⟨B,s,F,sd,hp,t,n⟩=>⟨B,s,F,sd,hp,t,(ja n).mono (λp u v w y z A f C=>(u _ w y z A (f.go (.refl _) (f.rs.setVal C)))) λ_ _ q=>q⟩
def Bj (fo fi:FE)(c:jQ):qo:=λsd hp=>(c sd hp).bind λp=>(fo sd).bind λo=>match o with
 | .adr a=>match jl p.2 a with
  |some (.lst es)=>(fi sd).bind λk=>match k with
   | .int k=>match yf es.length k with
    |some q=>.ok (.next sd (We p.2 a (.lst (es.set q p.1))))
    |none=>.no
   |_=>.no
  |_=>.no
 |_=>.no
def TV (z:QE X E o fo)(A:QE X E i fi)(C:x4 X E e f2)(h:∀v,assign (.Subscript o i pos') X.env v=(do
 let j <- holding [v] (eval o X.env)
 let u <- holding [v,j] (eval i X.env)
 standAt pos'
 holding [v,j,u] (setItem j u v)
 release [v,j,u] []):=by intro _;rfl) (hs:swapsWithSole [.Subscript o i pos'] e pos.line X.env=pure false:=by rfl) (G:swappedStores [.Subscript o i pos'] e X.env=pure none:=by rfl)
 (I:(assignEach [.Subscript o i pos'] X.env).map (·.2)=[assign (.Subscript o i pos') X.env]:=by rfl):zJ X E m (.Assign [.Subscript o i pos'] e pos) (Bj fo fi f2):=PS.weak (ED C (EC z A EV h) hs G I) λT Z H J=>by
 obtain⟨B,K,F,sd,hp,t,n⟩:=J;refine⟨B,K,F,sd,hp,t,(ja n).mono (λp L v x M H1 N c O=>⟨x,M,sd,c.rs,(ja L).mono (λd f v2 P H2 l Q=>?_) λ_ _ q=>q.ext (c.ext0 c.rs.ext)⟩) λ_ _ q=>q⟩
 split at f
 .rename_i a;obtain rfl:=jC.mp Q;have r:=c.go l.ff (c.rs.step l)
  split at f
  .rename_i es h;refine⟨x,P,sd,r.rs,(ja f).mono (λk g w R H3 s S=>?_) λ_ _ q=>q.ext (c.ext0 r.rs.ext)⟩;have y:=r.go s.ff (r.rs.step s)
   split at g
   .rename_i k
    split at g
    .rename_i q hk;obtain⟨U,Y,g2⟩:=y.lies h;exact⟨a,U,k,q,rfl,jd.mp S,Y,by rwa [g2.length],g Z _ R _ ((N.trans l.ff).trans s.ff) (y.chg h ⟨_,JL,g2.set q (jf.same (l.ff.trans s.ff) _ _ O)⟩)⟩
    .exact g.elim
   .exact g.elim
  .exact f.elim
 .exact f.elim
def K2 (i:Nat)(f:jQ):qo:=λsd hp=>match sd[i]? with
 |some (some (.own false (.lst ds)))=>(f sd hp).bind λp=>if ds.length<sizeLine then .ok (.next (sd.set i (some (.own false (.lst (ds++[p.1]))))) p.2) else .no
 |_=>.no
def IE {i:Nat}{c f:Pos}(y:PE X o (xM i))(z:x4 X E e f2)
 (hp:∀{u:TE} {t:TA},PE X o u->PA X [e] t->PE X (.Call (.Attribute o "append" c) [e] [] f) (u4 X.K "list" Am u t))
 (hs:swapsWith (.Call (.Attribute o "append" c) [e] [] f) none pos.line X.env=pure false:=by rfl)
 (g:starEach [e] X.env=(false,eval e X.env)::starEach [] X.env:=by rfl):zJ X E m (.Expr (.Call (.Attribute o "append" c) [e] [] f) pos) (K2 i f2):=
 PS.weak (Ah (hp y (KH z V2 g)) hs) λT Z H A=>by
  obtain⟨B,C,F,sd,hp,t,n⟩:=A;unfold K2 at n
  split at n
  .rename_i ds h;obtain⟨l,j,O,P,⟨G,I,Q⟩,_⟩:=t.rs.own h;refine⟨.ref l,j,.inl ⟨rfl,G,qZ.of I⟩,B,C,F,sd,hp,t,(ja n).mono (λp r v J K R L s M=>?_) λ_ _ q=>q⟩
   split at r
   .rename_i hz;obtain⟨S,w,g2,U,⟨ys,N,x⟩,_⟩:=s.rs.own h;rw[j] at w;cases w;have Y:=x.length;refine⟨l,ys,v,rfl,rfl,N,(),?_⟩;exact r Z J K _ L (s.go (.refl _) (s.rs.chg h j ⟨ys++[v],JL,x.snoc M⟩))
   .exact r.elim
  .exact n.elim
end
def DK (K:W.Frag)(E:XK)(g:jQ):TS:=λT Z H=>∃B c F sd hp,RT K B c F H sd hp Z /\ (g sd hp).need (λp=>∀v e sd' f a b,jk F a->RT K B f a b sd' p.2 e->jf K a p.1 v->T.rt v b) (XW K E B.F0 B.H0)
abbrev yU (X:Cx)(E:XK)(sts:List Stmt)(g:jQ):Prop:=qP X sts (DK X.K E g)
section
variable {X:Cx}{E:XK}{m:Option Bool}{e:Expr}{f2 g2 ga:jQ}{g1:qo}{fc:ze}{pos:Pos}{st:Stmt}{sts a:List Stmt}{c:Expr}
def Wf (h:x4 X E e f2):yU X E [.Return (some e) pos] f2:=qP.weak (BR (Ai h)) λT Z H ⟨B,b,F,sd,hp,t,n⟩=>⟨B,b,F,sd,hp,t,n.mono () λ_ _ q=>q⟩
def qV (g1:qo)(g2:jQ):jQ:=λsd hp=>(g1 sd hp).bind λo=>match o with
 | .next sd' hp'=>g2 sd' hp'
 |_=>.no
def Km (g:zJ X E m st g1)(h:yU X E sts g2):yU X E (st::sts) (qV g1 g2):=qP.weak (XL g h) λT Z H i=>by
 obtain⟨B,j,F,sd,hp,t,n⟩:=i;refine⟨B,j,F,sd,hp,t,(ja n).mono (λo b=>?_) λ_ _ q=>q⟩;cases o with
 |next sd' hp'=>exact λI l r J s u=>⟨B,l,r,sd',hp',u,b.mono (λp q v w f x y z A C G=>q v w f x y z (s.trans A) C G) λ_ _ q=>q⟩
 |ret d=>exact b.elim
 |brk sd' hp'=>exact b.elim
 |cont sd' hp'=>exact b.elim
def gZ (fc:ze)(ga g2:jQ):jQ:=λsd hp=>(fc sd hp).bind λp=>if p.1 then ga sd p.2 else g2 sd p.2
def DM (z:vC X E c fc)(A:yU X E a ga)(C:yU X E sts g2):yU X E (.If c a [] pos::sts) (gZ fc ga g2):=qP.weak (XL (BS z A Ag) C) λT Z H G=>by
 obtain⟨B,I,F,sd,hp,t,n⟩:=G;refine⟨B,I,F,sd,hp,t,(ja n).mono (λp s u w J x y=>?_) λ_ _ q=>q⟩;obtain⟨k,f⟩:=p;cases k with
 |true=>exact⟨B,u,w,sd,f,y,s.mono (λp q v g b h i j l o r=>q v g b h i j (x.trans l) o r) λ_ _ q=>q⟩
 |false=>exact⟨B,u,w,sd,f,y,s.mono (λp q v g b h i j l o r=>q v g b h i j (x.trans l) o r) λ_ _ q=>q⟩
end
structure ExtW (K:W.Frag)(F H:Hp)(hp:HP)(F' H':Hp)(hp':HP):Prop where
 ff:jk F F'
 fh:jk F' H'
 hh:∀a o,jl hp a=none->H a=some o->H' a=some o
 new:∀a,F a=none->H a≠none->F' a=none
 len:wn K F' H' hp'
 dom:∀a,jl hp' a=none↔jl hp a=none
theorem ZG:∀{hp:HP} {a:Addr},jl hp a=none↔a∉hp.map (·.1)
 | [],a=>by simp[Bg]
 |p::r,a=>by
  rw[Q4,Zl,UV,not_or];by_cases z:a=p.1
  .simp_all
  .rw[Ze z,ZG]
   simp_all
def y8 (H:Hp)(hp:HP):Hp:=λa=>match jl hp a with
 |none=>H a
 |some _=>none
def Uk (h:jl hp a=none):y8 H hp a=H a:=by unfold y8;rw[h]
def IF (h:jl hp a=some d):y8 H hp a=none:=by unfold y8;rw[h]
def yD (K:W.Frag)(c:YG->HP->Res (D×HP)):Sp:=λe H Q _=>∃F ds hp,jk F H/\je K F ds e/\wn K F H hp/\(c ds hp).need (λp=>∀v a b,ExtW K F H hp a b p.2->jf K a p.1 v->Q v b) (XW K E0 F (y8 H hp))
def Qq (n ar:Nat)(g:jQ)(ds:YG)(hp:HP):Res (D×HP):=if ds.length=ar then(g (JW n ds) hp).bind λp=>if p.2.map (·.1)=hp.map (·.1) then .ok p else .no else .no
section
variable {K:W.Frag}{B B':Bs}{F F' H H':Hp}{sd:SD}{hp hp':HP}{Z: St}
def RT.call (t:RT K B B' F H sd hp Z)(w:ExtW K F H hp F' H' hp'):∃m,RT K B m F' H' sd hp' Z:= by
 have n:=λa o h e=>w.hh a o h (t.rs.ext.hh _ _ e);refine⟨⟨B'.F0,λa=>match jl hp a with
  |none=>B'.H0 a
  |some _=>H' a,B'.pa⟩,⟨⟨t.rs.ext.ff.trans w.ff,w.fh,λa o e=>?_,λa r c=>?_⟩,t.rs.len,λq=>let ⟨v,c,h2⟩:=t.rs.val q;⟨v,c,jf.same w.ff _ _ h2⟩,λ{i p d} q=>?_,t.rs.apart⟩,t.f0,t.pa,λa b=>?_,λa d b=>?_⟩
 .grind
 .cases z:jl hp a with
  |none =>
   have c:(match jl hp a with
    |none=>B'.H0 a
    |some _=>H' a)≠none:=c
   rw[z] at c;exact w.new a (t.rs.ext.new a r c) λy=>(c (Qd t.rs.ext.hh y))
  |some d =>
   obtain⟨o,f⟩:=(t.lies z).has;exact w.new a (t.free z) (by rw[f];simp)
 .obtain⟨l,s,x,A,g,C⟩:=t.rs.own q;have j:jl hp l=none:=by
   cases z:jl hp l with
   |none=>rfl
   |some d'=>exact Zn rfl (t.no_own z x)
  obtain⟨o,f⟩:=g.has;refine⟨l,s,?_,w.new l A (by rw[f];simp),g.ext w.ff λu q=>w.hh _ _ j q,λz=>(C z).mono λu q=>w.hh _ _ j q⟩
  simp_all
 .have b:=(w.dom a).mp b;show(match jl hp a with
   |none=>B'.H0 a
   |some _=>H' a)=B.H0 a
  rw[b];exact t.out a b
 .cases z:jl hp a with
  |none=>rw[(w.dom a).mpr z] at b;cases b
  |some d0 =>
   obtain⟨E,G,_⟩:=t.obj a d0 z;refine⟨E,G,(w.len a d b).2.ext (.refl _) λo q=>?_⟩
   simp_all
def RT.hidden (t:RT K B B' F H sd hp Z):Ext B.F0 B.H0 F (y8 H hp):=by
 have e:=t.ext0 t.rs.ext;refine⟨e.ff,λa o q=>?_,λa o q=>?_,e.new⟩
 .cases z:jl hp a with
  |none=>rw[Uk z];exact e.fh _ _ q
  |some d=>rw[t.free z] at q;exact J2 q
 .cases z:jl hp a with
  |none=>rw[Uk z];exact e.hh _ _ q
  |some d=>rw[(t.obj a d z).2.1] at q;exact J2 q
end
section
variable {P:Program}{w:World}{K:W.Frag}{mg:Ye}{base:Heap}{x qual:Str}{st:Stmt}{f:Addr}{fd:FuncData}{N ps:Yk}{k:Nat}
def Bk (F:Fun K x qual st f fd)(S:FnScope N ps (JR st))
 (B:∀(c:Value) (A:Around) (b:List Env) (s:Shared) (H:Hp) (E:XK),Room k (A.deeper (envOfC qual (JR st) s.heap.objs.size f c))->qP (jX yw P w K mg base N qual (JR st) f c A b s H E).nox (QD st) (DK K E0 g)):
 FnOk P w K mg base yw (k+1) f fd ps (yD K (Qq N.length ps.length g)):=by
 refine F.ok S (λr H Q E ⟨F,ds,hp,_,i,_,n⟩=>?_) λc A b s H r Q E C ⟨F,ds,hp,hs,i,u,n⟩=>⟨_,B c A b s H E C,?_⟩
 .unfold Qq at n
  split at n
  .rw[i.length];assumption
  .exact n.elim
 .unfold Qq at n
  split at n
  .have t:RT K ⟨F,y8 H hp,λ_=>none⟩ ⟨F,H,λ_=>none⟩ F H (JW N.length ds) hp (L2.start N r):=⟨RS.start hs i,rfl,rfl,λa h=>(Uk h).symm,λa d h=>⟨(u a d h).1,IF h,(u a d h).2⟩⟩;refine⟨_,_,F,_,hp,t,(ja n).mono (λp l v T sd' U G I J j L=>?_) λ_ _ q=>q⟩
   split at l
   .rename_i M;have m:∀a,jl p.2 a=none↔jl hp a=none:=λa=>by rw[ZG,ZG,M]
    have e:=j.ext0 j.rs.ext;refine l v G I ⟨J,j.rs.ext.fh,λa o h q=>e.hh a o ((Uk h).trans q),λa O R=>?_,j.lent,m⟩ L;cases z:jl hp a with
    |none=>exact e.new a O λy=>R ((Uk z).symm.trans y)
    |some d =>
     cases y:jl p.2 a with
     |none=>simp_all
     |some d'=>exact j.free y
   .exact l.elim
  .exact n.elim
end
section
variable {X:Cx}{pos:Pos}
def Qi (a:YG->HP->Res (D×HP))(b:FA):jQ:=λsd hp=>(b sd).bind λds=>a ds hp
def KD (c:zG X.prog X.w X.K X.mg X.base name k ps (yD X.K Fn))(h:Room k X.A)(j:Gl X name)(l:QA X E0 (e::es) fr)
 (b:(name == ("__debug__" : Str))=false:=by decide) (m:starEach (e::es) X.env=(false,eval e X.env)::starEach es X.env:=by rfl) (f:(backTo pos (starEach es X.env)).any (·.1)=false:=by rfl):
 x4 X E0 (.Call (.Name name p) (e::es) [] pos) (Qi Fn fr):=PE.weak (Xi c h j l b m f) λZ H Q o=>by
 obtain⟨B,r,F,sd,hp,t,n⟩:=o;refine⟨r,F,sd,t.rs,(ja n).mono (λds s u x y a z=>?_) λ_ _ q=>q.ext (t.ext0 t.rs.ext)⟩;have g:=t.go a.ff (t.rs.step a);show yD X.K Fn (u++[]) y Q E0;rw[ZA];refine⟨x,ds,hp,a.fh,z,g.lent,s.mono (λp A v C E w i=>?_) λ_ _ q=>q.ext g.hidden⟩;obtain⟨G,I⟩:=g.call w;exact A v G C E (a.ff.trans w.ff) I i
end
abbrev FX:=SD->Res (D×SD)
def cD (K:W.Frag)(E:XK)(f:FX):TE:=λZ H Q=>∃B F sd,RS K B F H sd Z /\ (f sd).need (λp=>∀v a b,jk F a->RS K B a b p.2 Z -> jf K a p.1 v->Q v b) (XW K E B.F0 B.H0)
abbrev QX (X:Cx)(E:XK)(e:Expr)(f:FX):Prop:=PE X e (cD X.K E f)
open Classical in
def wd (g:Addr->Res (D×SD)):Res (D×SD):=if h:∃o,∀a,g a=.ok o then .ok (Classical.choose h) else .no
def TW (h:∀a,g a=.ok o):wd g=.ok o:=by
 have b:∃o,∀a,g a=.ok o:=⟨o,h⟩;unfold wd;rw[dif_pos b];have c:=Classical.choose_spec b 0;rw[h 0] at c;exact c.symm
def TX (h:(wd g).need p q)(a:Addr):(g a).need p q:=by
 unfold wd at h
 split at h
 .grind
 .exact h.elim
def xK (i:Nat)(f:jQ):FX:=λsd=>match sd[i]? with
 |some (some (.own false d))=>wd λa=>(f (sd.set i (some (.val (.adr a)))) [(a,d)]).bind λp=>match jl p.2 a with
  |some d1=>.ok (p.1,sd.set i (some (.own false d1)))
  |none=>.no
 |_=>.no
def yS {K:W.Frag}{B:Bs}{F H:Hp}{sd:SD}{Z: St}{i:Nat}{p:Bool}{d:D}{l:Addr}(r:RS K B F H sd Z)(s:sd[i]? = some (some (.own p d)))(m:Z[i]? = some (some (.ref l)))(t:B.H0 l=none)(u:F l=none)(v:yK K F H l d):
 RT K B ⟨B.F0,λa=>if a=l then H l else B.H0 a,B.pa⟩ F H (sd.set i (some (.val (.adr l)))) [(l,d)] Z:= by
 have c:=r.setVal (i:=i) (d:=.adr l) (jC.mpr rfl);rw[Z8 m] at c;have h:∀{a:Addr} {e:D},jl [(l,d)] a=some e->a=l/\e=d:=λ{a e} q=>by
  simp_all [Q4,Bg]
 refine⟨⟨⟨c.ext.ff,c.ext.fh,λa o e=>?_,λa w f=>?_⟩,c.len,c.val,λ{j y d'} q=>?_,c.apart⟩,rfl,rfl,λa g=>?_,λa e g=>?_⟩
 .have e:(if a=l then H l else B.H0 a)=some o:=e;by_cases z:a=l
  .rw[Zd z] at e;rwa [z]
  .rw[Ze z] at e;exact c.ext.hh _ _ e
 .by_cases z:a=l
  .rwa [z]
  .have f:(if a=l then H l else B.H0 a)≠none:=f;rw[Ze z] at f;exact c.ext.new a w f
 .have n:i≠j:=by grind
  obtain⟨b,x,A,C,E,G⟩:=c.own q;rw[Q7 n] at q;have ne:b≠l:=λz=>r.apart n s q m (z ▸ x);exact by grind
 .have ne:a≠l:=λz=>by rw[Q4,Zd z] at g;cases g
  show(if a=l then H l else B.H0 a)=B.H0 a;rw[Ze ne]
 .obtain⟨rfl,rfl⟩:=h g;refine⟨Qd r.ext.ff u,t,v.ext (.refl _) λo q=>?_⟩;show(if a=a then H a else B.H0 a)=some o
  rwa [Zd rfl]
def X6 {X:Cx}{E:XK}{e:Expr}{i:Nat}{f:jQ}(h:x4 X E e f):QX X E e (xK i f):=PE.weak h λZ H Q w=>by
 obtain⟨B,F,sd,r,n⟩:=w;unfold xK at n
 split at n
 .rename_i d g;obtain⟨l,m,x,y,A,_⟩:=r.own g;refine⟨B,_,F,_,_,yS r g m x y A,(ja (TX n l)).mono (λp c v K C G s t I=>?_) λ_ _ q=>q⟩
  split at c
  .rename_i d1 a;refine c v C G s ?_ I;have o:=t.drop.setOwn (i:=i) (d:=d1) (l:=l) (t.obj l d1 a).2.1 (t.free a) (t.lies a) λj p e q z=>by
    obtain⟨b,u,J,_⟩:=t.rs.own q;rw[z] at u;cases u;exact Zn rfl (t.no_own a J)
   rw[List.set_set,Z8 m] at o;exact o
  .exact c.elim
 .exact n.elim
section
variable {X:Cx}{E:XK}{m:Option Bool}{e o:Expr}{f:FX}{pos pos':Pos}
def X7 (i:Nat)(f:FX):FS:=λsd=>(f sd).bind λp=>.ok (.next (p.2.set i (some (.val p.1))))
@[simp]def TY (i:Nat)(f:FX)(sd:SD):X7 i f sd=(f sd).bind λp=>.ok (.next (p.2.set i (some (.val p.1)))):=rfl
def DN (a:X.N.Nodup)(b:X.N[i]? = some x)(c:yJ X.env.scope x)(g:QX X E e f)(hs:swapsWith e (some (.Name x pos')) p1.line X.env=pure false:=by rfl)(h:X.fn x=true\/X.env.scope.names.lookup x=some .local:=by trivial):
 QS X E m (.Assign [.Name x pos'] e p1) (X7 i f):=PS.weak (XM a b c g hs h) λT Z H ⟨B,F,sd,r,n⟩=>⟨B,F,sd,r,(ja n).mono (λp j v l s t u w=>(j _ l s t (u.setVal w))) λ_ _ q=>q⟩
def WV (i:Nat)(f:FX):FS:=λsd=>match sd[i]? with
 |some (some (.own false (.lst _)))=>(f sd).bind λp=>match p.2[i]? with
  |some (some (.own false (.lst ds)))=>if ds.length<sizeLine then .ok (.next (p.2.set i (some (.own false (.lst (ds++[p.1])))))) else .no
  |_=>.no
 |_=>.no
def IG (w:PE X o (xM i))(x:QX X E e f)
 (hp:∀{g:TE} {t:TA},PE X o g->PA X [e] t->PE X (.Call (.Attribute o "append" apos) [e] [] cpos) (u4 X.K "list" Am g t))
 (hs:swapsWith (.Call (.Attribute o "append" apos) [e] [] cpos) none pos.line X.env=pure false:=by rfl)
 (b:starEach [e] X.env=(false,eval e X.env)::starEach [] X.env:=by rfl):QS X E m (.Expr (.Call (.Attribute o "append" apos) [e] [] cpos) pos) (WV i f):=
 PS.weak (Ah (hp w (KH x V2 b)) hs) λT Z H y=>by
  obtain⟨B,F,sd,r,n⟩:=y;unfold WV at n
  split at n
  .rename_i es z;obtain⟨l,c,L,M,⟨A,C,N⟩,_⟩:=r.own z;refine⟨.ref l,c,.inl ⟨rfl,A,qZ.of C⟩,B,F,sd,r,(ja n).mono (λp a v G O I h J=>?_) λ_ _ q=>q⟩
   split at a
   .rename_i ds j
    split at a
    .rename_i hz;obtain⟨P,s,Q,R,⟨ys,K,u⟩,_⟩:=h.own j;rw[c] at s;cases s;have S:=u.length;refine⟨l,ys,v,rfl,rfl,K,(),?_⟩;exact a Z G _ I (h.chg j c ⟨ys++[v],JL,u.snoc J⟩)
    .exact a.elim
   .exact a.elim
  .exact n.elim
end
def ro:FS:=λ_=>.no
def uP {X:Cx}{E:XK}{m:Option Bool}{st:Stmt}:QS X E m st ro:=λY s Z H T I ⟨B,F,sd,r,n⟩=>n.elim
section
variable {X:Cx}{E:XK}{e:Expr}{g:jQ}{fe:FE}{sts:List Stmt}
def zw (i:Nat)(g:jQ):jQ:=λsd hp=>g (qN [i] sd) hp
def DO (h:yU X E sts g):yU X E sts (zw i g):=qP.weak h λT Z H ⟨B,b,F,sd,hp,t,n⟩=>have ⟨c,s,r⟩:=t.rs.frz [i];⟨B,b,c,_,hp,t.go s r,(n).mono (λp q v f a j l m o u w=>q v f a j l m (s.trans o) u w) λ_ _ q=>q⟩
def zv:D->D->YH:=λd e=>match d with
 | .dct _ _=>none
 | .dcf _ _=>none
 |d=>qf d e
def IH:yY X (vo X.K zv):=G4
def wI (is:Yj)(f:FE):jQ:=λsd hp=>(f (derI hp is sd)).strict.bind λd=>if K8 d then .ok (d,hp) else .no
def II (is:Yj)(h:QE X E e fe):x4 X E e (wI is fe):=PE.weak h λZ H Q i=>by
 obtain⟨B,j,F,sd,hp,t,n⟩:=i;obtain⟨l,s,m,o⟩:=t.frz;refine⟨B,l,_,m.derI o is,(jI (ja n)).mono (λd a v u b p r=>?_) λc fs q=>q⟩
 split at a
 .rename_i hs;have f:Ext F H F b:=.grow t.rs.ext.fh p.hh;exact a v j F b (.refl _) (t.go f.ff (t.rs.step f)) (r.scal hs)
 .exact a.elim
def TZ:xg X (binaryOp .FloorDiv) (rI (λ_ j=>0<j/\j.natAbs<xW) λi j=>.int (i / j)):=kq λi j _ _ _ _ _ a q=>by
 have c:(0:Int)<j:=a.1;have b:j.natAbs<2 ^ 1000:=Zg a.2 (Vx rfl);have l:j.natAbs.log2<1000:=(Nat.log2_lt (show j.natAbs≠0 from ())).mpr b;exact floordiv_int () (by rw[Int.fdiv_eq_ediv_of_nonneg i ()];exact q) (.inl (PyProof.noPylong_of_log2 ()))
def Bl:=vL (λ_ j=>Us 0 j.toNat&&Us j.natAbs xW) λi j=>.int (i / j)
def tG:yu X (binaryOp .FloorDiv) Bl:=YO TZ () λ_ _ F=>y7 _ F
def dZ (h:0<j)(a:j.natAbs<xW):Bl (.int i) (.int j)=some (.int (i / j)):=by
 show(if Us 0 j.toNat&&Us j.natAbs xW then _ else _)=_
 simp_all
end
section
variable {K:W.Frag}{B B' B2:Bs}{F F' H H':Hp}{sd sd2:SD}{hp hp2:HP}{Z: St}{l:Addr}{d:D}
theorem DP:∀{c b:HP} {a:Addr},jl (c++b) a=(jl c a).or (jl b a)
 | [],b,a=>rfl
 |p::r,b,a=>by
  rw[List.cons_append,Q4,Q4];by_cases z:a=p.1
  .rw[Zd z,Zd z];rfl
  .rw[Ze z,Ze z];exact DP
def RT.comp (t:RT K B B' F H sd hp Z)(c:RT K B' B2 F H sd2 hp2 Z):RT K B B2 F H sd2 (hp2++hp) Z:= by
 refine⟨c.rs,c.f0.trans t.f0,c.pa.trans t.pa,λa b=>?_,λa e b=>?_⟩
 .rw[DP] at b;cases z:jl hp2 a with
  |some e=>rw[z] at b;cases b
  |none=>rw[z] at b;exact(c.out a z).trans (t.out a b)
 .rw[DP] at b;cases z:jl hp2 a with
  |some i =>
   rw[z] at b;cases b;obtain⟨f,g,h⟩:=c.obj a _ z;exact⟨by rw[<- t.f0];exact f,Qd t.sub g,h⟩
  |none =>
   rw[z] at b;obtain⟨f,g,h⟩:=t.obj a e b;exact⟨f,g,h.ext (.refl _) λo q=>c.sub _ _ q⟩
def RT.split (t:RT K B B2 F H sd ((l,d)::hp) Z)(s:jl hp l=none):∃f,RT K f B2 F H sd [(l,d)] Z /\ ∀sd',RS K f F H sd' Z -> RT K B f F H sd' hp Z:= by
 have c:∀{a:Addr},a≠l->jl ((l,d)::hp) a=jl hp a:=λz=>by rw[Q4,Ze z]
 have g:jl ((l,d)::hp) l=some d:=by rw[Q4,Zd rfl]
 obtain⟨h,i,j⟩:=t.obj l d g;refine⟨⟨B2.F0,λa=>if a=l then none else B2.H0 a,B2.pa⟩,⟨t.rs,rfl,rfl,λa b=>?_,λa e b=>?_⟩,λsd' r=>⟨r,t.f0,t.pa,λa b=>?_,λa e b=>?_⟩⟩
 .grind[Q4]
 .rw[Q4,Bg] at b;by_cases z:a=l
  .rw[Zd z] at b;cases b;rw[z];exact⟨t.f0.symm ▸ h,Zd rfl,j⟩
  simp_all
 .show(if a=l then none else B2.H0 a)=B.H0 a;by_cases z:a=l
  .rw[Zd z,z,i]
  .rw[Ze z];exact t.out a ((c z).trans b)
 .have ne:a≠l:=by grind
  obtain⟨m,n,p⟩:=t.obj a e ((c ne).trans b);refine⟨m,n,p.ext (.refl _) λo q=>?_⟩
  simp_all
end
abbrev vO:=SD->HP->Res (D×SD×HP)
def mm (K:W.Frag)(E:XK)(f:vO):TE:=λZ H Q=>∃B c F sd hp,RT K B c F H sd hp Z /\ (f sd hp).need (λp=>∀v e a b,jk F a->RT K B e a b p.2.1 p.2.2 Z -> jf K a p.1 v->Q v b) (XW K E B.F0 B.H0)
abbrev rO (X:Cx)(E:XK)(e:Expr)(f:vO):Prop:=PE X e (mm X.K E f)
open Classical in
def wf (hp:HP)(g:Addr->Res (D×SD×HP)):Res (D×SD×HP):=if h:∃o,∀a,jl hp a=none->g a=.ok o then .ok (Classical.choose h) else .no
def t4 (b:∃a,jl hp a=none)(h:∀a,jl hp a=none->g a=.ok o):wf hp g=.ok o:=by
 have c:∃o,∀a,jl hp a=none->g a=.ok o:=⟨o,h⟩
 grind[wf]
def dU (h:(wf hp g).need p q)(b:jl hp a=none):(g a).need p q:=by
 unfold wf at h
 split at h
 .grind
 .exact h.elim
def rd (i:Nat)(sd:SD)(hp:HP)(a:Addr)(p:D×HP):Res (D×SD×HP):=match p.2 with
 |q::hp1=>if q.1=a/\jl hp1 a=none then .ok (p.1,sd.set i (some (.own false q.2)),hp1) else .no
 | []=>.no
def ZH (i:Nat)(f:jQ):vO:=λsd hp=>match sd[i]? with
 |some (some (.own false d))=>wf hp λa=>(f (sd.set i (some (.val (.adr a)))) ((a,d)::hp)).bind (rd i sd hp a)
 |_=>.no
def sv (h:x4 X E e f2):rO X E e (ZH i f2):=PE.weak h λZ H Q G=>by
 obtain⟨B,B',F,sd,hp,t,n⟩:=G;unfold ZH at n
 split at n
 .rename_i d r;obtain⟨l,u,w,I,J,_⟩:=t.rs.own r;have K:jl hp l=none:=by
   cases z:jl hp l with
   |none=>rfl
   |some d'=>exact Zn rfl (t.no_own z w)
  refine⟨B,_,F,_,_,t.comp (yS t.rs r u w I J),(ja (dU n K)).mono (λp a v B2 L M s N O=>?_) λ_ _ q=>q⟩;obtain⟨y,P⟩:=p;unfold rd at a
  split at a
  .rename_i q x R;cases R
   split at a
   .rename_i S;obtain⟨g,m⟩:=q;obtain⟨T,U⟩:=S;cases T;obtain⟨Y,c,f⟩:=N.split U;have o:jl [(g,m)] g=some m:=by rw[Q4,Zd rfl]
    have A:=c.drop.setOwn (i:=i) (d:=m) (l:=g) (c.obj g m o).2.1 (c.free o) (c.lies o) λj p e q z=>by
     obtain⟨b,C,b2,_⟩:=c.rs.own q;rw[z] at C;cases C;exact Zn rfl (c.no_own o b2)
    rw[List.set_set,Z8 u] at A;exact a v Y L M s (f _ A) O
   .exact a.elim
  .exact a.elim
 .exact n.elim
section
variable {X:Cx}{E:XK}{m:Option Bool}{e o i:Expr}{es:Ym}{f2 g2:jQ}{f3:vO}{f:FX}{fr2:xx}{pos pos':Pos}
def kL (z:D)(q:D×HP):Res (D×HP):=match z with
 | .adr a=>match jl q.2 a with
  |some (.lst es)=>(Res.ofO (qf (.lst es) q.1)).bind λz=>.ok (z,q.2)
  |_=>.no
 |_=>.no
def DQ (fo fi:jQ):jQ:=λsd hp=>(fo sd hp).bind λp=>(fi sd p.2).bind (kL p.1)
def sX (h:x4 X E o f2)(l:x4 X E i g2)(hs:Xf i):x4 X E (.Subscript o i pos) (DQ f2 g2):=PE.weak (XP fU h l hs) λZ H Q r=>by
 obtain⟨B,s,F,sd,hp,t,n⟩:=r;refine⟨B,s,F,sd,hp,t,(ja n).mono (λp u v A C Y G I c=>?_) λ_ _ q=>q⟩;refine⟨B,A,C,sd,p.2,I,(ja u).mono (λq b w J K L M g N=>?_) λ_ _ q=>q⟩;unfold kL at b
 split at b
 .rename_i a O;rw[O] at c;obtain rfl:=jC.mp c
  split at b
  .rename_i es P;obtain⟨R,S,g2⟩:=g.lies P;obtain⟨z,hz,k⟩:=jg (ja b);obtain⟨y,T⟩:=q;cases y with
   |int j =>
    obtain⟨x,U,ix⟩:=YQ g2 (show qQ es j=some z from hz);exact⟨a,R,j,x,rfl,jd.mp N,qZ.of S,U,k _ J K L (G.trans M) g ix⟩
   |_=>exact J2 hz
  .exact b.elim
 .exact b.elim
def DR (a:YG->HP->Res (D×HP))(b:xx):jQ:=λsd hp=>(b sd hp).bind λp=>a p.1 p.2
def dI (c:zG X.prog X.w X.K X.mg X.base name k ps (yD X.K Fn))(h:Room k X.A)(j:Gl X name)(l:zC X E0 (e::es) fr2)
 (b:(name == ("__debug__" : Str))=false:=by decide) (r:starEach (e::es) X.env=(false,eval e X.env)::starEach es X.env:=by rfl) (g:(backTo pos (starEach es X.env)).any (·.1)=false:=by rfl):
 x4 X E0 (.Call (.Name name p) (e::es) [] pos) (DR Fn fr2):=PE.weak (Xi c h j l b r g) λZ H Q s=>by
 obtain⟨B,u,F,sd,hp,t,n⟩:=s;refine⟨B,u,F,sd,hp,t,(ja n).mono (λp x y N z A C a G=>?_) λ_ _ q=>q⟩;show yD X.K Fn (y++[]) A Q E0;rw[ZA];refine⟨z,p.1,p.2,a.rs.ext.fh,G,a.lent,x.mono (λq I v J K w i=>?_) λ_ _ q=>q.ext a.hidden⟩;obtain⟨L,M⟩:=a.call w;exact I v L J K (C.trans w.ff) M i
def Bm (i:Nat)(f:vO):qo:=λsd hp=>(f sd hp).bind λp=>.ok (.next (p.2.1.set i (some (.val p.1))) p.2.2)
def dh {i:Nat}{x:Str}{a:Pos}(c:X.N.Nodup)(g:X.N[i]? = some x)(h:yJ X.env.scope x)(j:rO X E e f3)(hs:swapsWith e (some (.Name x pos')) a.line X.env=pure false:=by rfl)(l:X.fn x=true\/X.env.scope.names.lookup x=some .local:=by trivial):
 zJ X E m (.Assign [.Name x pos'] e a) (Bm i f3):=PS.weak (XM c g h j hs l) λT Z H ⟨B,r,F,sd,hp,t,n⟩=>⟨B,r,F,sd,hp,t,(ja n).mono (λp s v u w y z b A=>(s _ u w y z (b.go (.refl _) (b.rs.setVal A)))) λ_ _ q=>q⟩
def IJ (tg:Tg)(b:qo)(hp:HP)(p:D×SD):Res Out2:=match p.1 with
 | .int j=>if WR j then qi (QU tg b) (JS 0 j.toNat) p.2 hp else .no
 |_=>.no
def Bn (f:FX)(tg:Tg)(b:qo):qo:=λsd hp=>(f sd).bind (IJ tg b hp)
def tE (hp:PassesOwn (model X.prog X.w) X.A X.env X.xe)(w:X.calm=true)(c:Gl X "range")(y:X.mg "range" = none)(z:QX X E a f)(A:QG X tg t)(C:yT X E m body g)(h:starEach [a] X.env=(false,eval a X.env)::starEach [] X.env:=by rfl)(hs:starEach [a] X.env=[(false,eval a X.env)]:=by rfl)
 (l:∀x,foldedSetIterable (.Call (.Name "range" p) [a] [] p2) X.env x=pure x:=by intro _;rfl):zJ X E m (.For tg (.Call (.Name "range" p) [a] [] p2) body [] pos) (Bn f t g):=PS.weak (BU hp w (EE c y (KH z V2 h) hs) A C l) λT Z H G=>by
 obtain⟨B,I,F,sd,hp,t,n⟩:=G;refine⟨I,F,sd,t.rs,(ja n).mono (λq b v L M r J s=>?_) λ_ _ q=>t.xw q⟩;unfold IJ at b
 split at b
 .rename_i j K
  split at b
  .rename_i u;rw[K] at s;rw[jd.mp s];exact⟨j,rfl,(AQ u).1,(AQ u).2,Ix (GG 0 _) (t.go r J) (b.mono (λ_ q=>q.mono r) λ_ _ q=>q)⟩
  .exact b.elim
 .exact b.elim
end
open Classical in
def yj (n:Nat)(g:Yl->Res Out):Res Out:=if h:∃o,∀a,a.length=n->g a=.ok o then .ok (Classical.choose h) else .no
def IK (h:∀a,a.length=n->g a=.ok o):yj n g=.ok o:=by
 have b:∃o,∀a,a.length=n->g a=.ok o:=⟨o,h⟩;unfold yj;have c:(List.replicate n (0:Addr)).length=n:=List.length_replicate
 grind
section
variable {X:Cx}{E:XK}{m:Option Bool}{e:Expr}{fe:FE}{sts:List Stmt}{g:FS}
def v8:D->D->YH
 | .lst ds,.lst []=>some (.bl ds.isEmpty)
 |_,_=>none
def k9 (G:X.A.units+64<cLine):yu X (compareOp .Eq) v8:=by
 intro Y s Z H x y v u Q I i j ⟨F,d,e,z,a,id,n,hz,q⟩;cases d with
 |lst ds =>
  cases e with
  |lst es =>
   cases es with
   |cons _ _=>exact J2 hz
   |nil =>
    cases hz;obtain⟨l,J,rfl,o,p⟩:=jj.mp id;obtain⟨b,ys,rfl,r,t⟩:=jj.mp n;obtain rfl:=i;obtain rfl:=j;obtain rfl:=je.nil_iff.mp t;obtain⟨_,its,K,w,c⟩:=(o.same a).ok I.hok;obtain⟨_,f,L,A,h⟩:=(r.same a).ok I.hok;cases A;have M:=p.length;have B:=w.length;cases ds with
    |nil =>
     have C:its=[]:=by grind
     subst C;exact PySem.P.eq_list (e:=λ_=>true) c h rfl () () ⟨.bl true,H,I,rfl,q _ F H (.refl a) (zH _ F)⟩
    |cons d ds =>
     refine PySem.P.eq_list_lengths c h ?_ () ⟨.bl false,H,I,rfl,q _ F H (.refl a) (zH _ F)⟩
     grind
  |_=>exact J2 hz
 |_=>exact J2 hz
end
def capO (cap:List (Option Nat))(k:Nat)(sd:SD):SD:=match (cap[k]?).join with
 |some j=>match sd[j]? with
  |some (some (.own false d))=>(jY cap sd).set k (some (.own false d))
  |_=>jY cap sd
 |none=>jY cap sd
def tY {cap:List (Option Nat)}{sd:SD}{i:Nat}{x:SV}(q:(jY cap sd)[i]? = some (some x)):∃d,x=.val d:=by
 unfold jY at q;rw[Zv] at q;cases a:cap[i]? with
 |none=>rw[a] at q;exact J2 q
 |some o =>
  rw[a] at q;cases o with
  |none=>cases q
  |some j =>
   grind
theorem RS.capO {K:W.Frag}{B:Bs}{F H:Hp}{sd:SD}{Z: St}(cap:List (Option Nat))(k:Nat)(r:RS K B F H sd Z):RS K B F H (capO cap k sd) (KJ cap Z):=by
 unfold L2.DL.capO
 split
 .rename_i j a
  split
  .rename_i d f;obtain⟨l,g,h,m,n,_⟩:=r.own f;have s:(KJ cap Z)[k]? = some (some (.ref l)):=by
    unfold KJ;rw[Zv];cases b:cap[k]? with
    |none=>rw[b] at a;exact J2 a
    |some o =>
     rw[b] at a;have a:o=some j:=a;subst a;show some (Option.bind (some j) λj=>(Z[j]?).join)=_;rw[Option.bind_some,g];rfl
   have c:=(r.cap cap).setOwn (i:=k) (d:=d) (l:=l) h m n λi p e q=>by
    obtain⟨d',z⟩:=tY q;cases z
   rw[Z8 s] at c;exact c
  .exact r.cap cap
 .exact r.cap cap
def ZI (cap:List (Option Nat))(k:Nat)(it:FA)(tg:Tg)(f:FE):FE:=λsd=>(it sd).bind λds=>if VX (capO cap k sd) tg=true/\ds.length<sizeLine then(ye (λx=>(JO tg x (capO cap k sd)).bind f) ds).bind λys=>.ok (.lst ys) else .no
def dO {K:W.Frag}{E:XK}{t:Tg}{fi:FA}{f:FE}{cap:List (Option Nat)}{c:Nat}{Z: St}{H:Hp}{Q:VK}(l:vJ K E (ZI cap c fi t f) Z H Q):Xh cap (hJ K E fi) (gT t K) (tD K E f) Z H Q:=by
 obtain⟨B,F,sd,r,n⟩:=l;refine⟨B,F,sd,r,(ja n).mono (λds m J z C j wk=>?_) λ_ _ q=>q⟩
 split at m
 .rename_i l;obtain⟨G,hz⟩:=l;refine⟨λi k ys Z b=>k=ds.length-i/\i<=ds.length/\∃a es,Ext z C a b/\RS K B a b (capO cap c sd) Z /\ je K a es ys/\es.length=i /\
   (ye (λx=>(JO t x (capO cap c sd)).bind f) (ds.drop i)).need (λrs=>xR K a b Q (.lst (es++rs))) (XW K E a b),⟨ds.length,rfl,Ub _,z,[],.refl j.fh,(r.step j).capO cap c,.nil,rfl,?_⟩,?_⟩
  .exact(ja m).mono (λrs q=>(show xR K F H Q (.lst rs) from q).ext j) λ_ _ q=>q.ext j
  rintro i k ys Z2 b ⟨rfl,hi,a,es,o,p,s,I,u⟩;have ly:=s.length;refine⟨(),?_⟩;obtain⟨L,M⟩:=wk i a b o.ff o.fh;by_cases g:i<ds.length
  .obtain⟨go,N⟩:=L g;refine .inr ⟨go,λx O y=>?_⟩;obtain⟨d,P,R,e,S⟩:=N x O y;have T:=Gu R u;have U:=p.step e;refine YM (K:=K) U S (ja T) λsd' Z' X Y A=>?_;obtain⟨b1,b2⟩:=CM G Y;refine⟨B,P,sd',A,X.mono (λy n5 v F4 H4 h i4=>?_) λ_ _ q=>q.ext e⟩;refine⟨ds.length-(i+1),(),rfl,g,F4,es++[y],(o.trans e).trans h,(A.step h).forget b1 b2,(je.same (e.ff.trans h.ff) _ _ s).snoc i4,by rw[Ua,I];rfl,?_⟩;refine n5.mono (λrs q=>?_) λ_ _ q=>q.ext (e.trans h);rw[Ud];exact q.ext (e.trans h)
  .have he:i=ds.length:=()
   subst he;refine .inl ⟨M (Zf _),λD w=>?_⟩;rw[UM] at u;have q:xR K a b Q (.lst (es++[])):=u;rw[ZA] at q;exact q D a _ (.keep p.ext.fh w _) w (Qd p.ext.fh w) ⟨ys,JL,s⟩
 .exact m.elim
section
variable {X:Cx}{E:XK}{m:Option Bool}{tg iter elt c:Expr}{scope:Scope}{pos spos py:Pos}{y:Str}{iy:Nat}{t:Tg}{fi:FA}{f:FE}
def cs (N:Yk)(cap:List (Option Nat))(c:Nat)(a:X.N.Nodup)(b:X.N[iy]? = some y)(e:yJ X.env.scope y)(o:X.calm=true)(g:QF scope X.env N X.N cap=true)(p:QI X E tg iter fi)
 (r:∀i C s H j,QG (JK X scope N i C s H j) tg t) (u:∀i C s H j,QE (JK X scope N i C s H j) E elt f) (l:swapsWith (.ListComp elt [⟨tg,iter,[],0⟩] scope pos) (some (.Name y py)) spos.line X.env=pure true:=by rfl)
 (n:X.fn y=true\/X.env.scope.names.lookup y=some .local:=by trivial) (hs:∀x,foldedSetIterable iter X.env x=pure x:=by intro _;rfl):
 QS X E m (.Assign [.Name y py] (.ListComp elt [⟨tg,iter,[],0⟩] scope pos) spos) (jD iy (ZI cap c fi t f)):=
 PS.weak (GN l a b e n N cap o g p r u hs) λT Z H h=>Dn (λ_ _ _ q=>dO q) h
end
@[simp]def gX (cap:List (Option Nat))(k:Nat)(it:FA)(tg:Tg)(f:FE)(sd:SD):ZI cap k it tg f sd=(it sd).bind λds=>if VX (capO cap k sd) tg=true/\ds.length<sizeLine then(qh tg f (capO cap k sd) ds).bind λys=>.ok (.lst ys) else .no:=rfl
def Ko (K:W.Frag)(c:YG->HP->Res (D×HP)):Sp:=λe H Q E=>∃F ds hp,jk F H/\je K F ds e/\wn K F H hp/\(c ds hp).need (λp=>∀v a b,ExtW K F H hp a b p.2->jf K a p.1 v->Q v b) (XW K E F (y8 H hp))
section
variable {P:Program}{w:World}{K:W.Frag}{mg:Ye}{base:Heap}{x qual:Str}{st:Stmt}{f:Addr}{fd:FuncData}{N ps:Yk}{k:Nat}
def IL (F:Fun K x qual st f fd)(S:FnScope N ps (JR st))
 (B:∀(c:Value) (A:Around) (b:List Env) (s:Shared) (H:Hp) (E:XK),Room k (A.deeper (envOfC qual (JR st) s.heap.objs.size f c))->qP (jX (xG P w) P w K mg base N qual (JR st) f c A b s H E) (QD st) (DK K E g)):
 FnOk P w K mg base (xG P w) (k+1) f fd ps (Ko K (Qq N.length ps.length g)):=by
 refine F.okX S (λr H Q E ⟨F,ds,hp,_,i,_,n⟩=>?_) λc A b s H r Q E C ⟨F,ds,hp,hs,i,u,n⟩=>⟨_,B c A b s H E C,?_⟩
 .unfold Qq at n
  split at n
  .rw[i.length];assumption
  .exact n.elim
 .unfold Qq at n
  split at n
  .have t:RT K ⟨F,y8 H hp,λ_=>none⟩ ⟨F,H,λ_=>none⟩ F H (JW N.length ds) hp (L2.start N r):=⟨RS.start hs i,rfl,rfl,λa h=>(Uk h).symm,λa d h=>⟨(u a d h).1,IF h,(u a d h).2⟩⟩;refine⟨_,_,F,_,hp,t,(ja n).mono (λp l v T sd' U G I J j L=>?_) λ_ _ q=>q⟩
   split at l
   .rename_i M;have m:∀a,jl p.2 a=none↔jl hp a=none:=λa=>by rw[ZG,ZG,M]
    have e:=j.ext0 j.rs.ext;refine l v G I ⟨J,j.rs.ext.fh,λa o h q=>e.hh a o ((Uk h).trans q),λa O R=>?_,j.lent,m⟩ L;cases z:jl hp a with
    |none=>exact e.new a O λy=>R ((Uk z).symm.trans y)
    |some d =>
     cases y:jl p.2 a with
     |none=>simp_all
     |some d'=>exact j.free y
   .exact l.elim
  .exact n.elim
end
section
variable {X:Cx}{E:XK}{m:Option Bool}{e o i c:Expr}{es:Ym}{fe fo fi:FE}{fr:FA}{f2 g2:jQ}{fr2:xx}{ft:FT}{pos pos' p:Pos}{name:Str}{k:Nat}{ps:Yk}
def IM (c:yF X.prog X.w X.K X.mg X.base name k ps (Ko X.K Fn))(T:Thrown X E)(h:Room k X.A)(j:Gl X name)(l:QA X E (e::es) fr)
 (b:(name == ("__debug__" : Str))=false:=by decide) (r:starEach (e::es) X.env=(false,eval e X.env)::starEach es X.env:=by rfl) (f:(backTo pos (starEach es X.env)).any (·.1)=false:=by rfl):
 x4 X E (.Call (.Name name p) (e::es) [] pos) (Qi Fn fr):=PE.weak (Z5 c T h j l b r f) λZ H Q s=>by
 obtain⟨B,u,F,sd,hp,t,n⟩:=s;refine⟨u,F,sd,t.rs,(ja n).mono (λds x y z A a C=>?_) λ_ _ q=>q.ext (t.ext0 t.rs.ext)⟩;have g:=t.go a.ff (t.rs.step a);show Ko X.K Fn (y++[]) A Q E;rw[ZA];refine⟨z,ds,hp,a.fh,C,g.lent,x.mono (λp G v I J w i=>?_) λ_ _ q=>q.ext g.hidden⟩;obtain⟨K,L⟩:=g.call w;exact G v K I J (a.ff.trans w.ff) L i
def Bo (a:YG->Res D)(fr:xx):jQ:=λsd hp=>(fr sd hp).bind λp=>(a p.1).bind λd=>.ok (d,p.2)
def tQ (c:yF X.prog X.w X.K X.mg X.base name k ps (xD X.K Fn))(T:Thrown X E)(h:Room k X.A)(j:Gl X name)(l:zC X E (e::es) fr2)
 (b:(name == ("__debug__" : Str))=false:=by decide) (r:starEach (e::es) X.env=(false,eval e X.env)::starEach es X.env:=by rfl) (f:(backTo pos (starEach es X.env)).any (·.1)=false:=by rfl):
 x4 X E (.Call (.Name name p) (e::es) [] pos) (Bo Fn fr2):=PE.weak (Z5 c T h j l b r f) λZ H Q s=>by
 obtain⟨B,u,F,sd,hp,t,n⟩:=s;refine⟨B,u,F,sd,hp,t,(ja n).mono (λp w x y z A C a G=>?_) λ_ _ q=>q⟩;show xD X.K Fn (x++[]) A Q E;rw[ZA];exact⟨z,p.1,a.rs.ext.fh,G,(ja w).mono (λd I v J K g L=>I v y J K (C.trans g.ff) (a.go g.ff (a.rs.step g)) L) λ_ _ q=>q.ext (a.ext0 a.rs.ext)⟩
def zN (f:FT):ze:=λsd hp=>(f sd).bind λb=>.ok (b,hp)
def IN (h:QT X E e ft):vC X E e (zN ft):=PT.weak h λZ H Q ⟨B,f,F,sd,hp,t,n⟩=>⟨f,F,sd,t.rs,(ja n).mono (λb g j l a=>g f j l a.ff (t.go a.ff (t.rs.step a))) λ_ _ q=>q.ext (t.ext0 t.rs.ext)⟩
def wM (is:Yj)(f:FT):vw:=λsd hp=>(f (derI hp is sd)).strict
def rW (is:Yj)(h:QT X E e ft):nS X E e (wM is ft):=PT.weak h λZ H Q ⟨B,r,F,sd,hp,t,n⟩=>have ⟨a,s,b,f⟩:=t.frz;⟨B,a,_,b.derI f is,(jI (n)).mono (λd g u j l=>(g F j (.grow t.rs.ext.fh l.hh))) λc fs q=>q⟩
def zO (fo fi:FE):jQ:=λsd hp=>(fo sd).bind λo=>match o with
 | .adr a=>match jl hp a with
  |some (.dct ks ds)=>(fi sd).bind λk=>(Res.ofO ((Q2 k).bind λq=>jE ks ds q)).bind λz=>.ok (z,hp)
  |_=>.no
 |_=>.no
def sP (r:X.A.units+1<cLine)(s:QE X E o fo)(u:QE X E i fi)(hs:wl i):x4 X E (.Subscript o i pos) (zO fo fi):=PE.weak (Cj r s u hs) λZ H Q A=>by
 obtain⟨B,g,F,sd,hp,t,n⟩:=A;refine⟨g,F,sd,t.rs,(ja n).mono (λd b v C T h G=>?_) λ_ _ q=>q.ext (t.ext0 t.rs.ext)⟩
 split at b
 .rename_i a;obtain rfl:=jC.mp G
  split at b
  .rename_i ks ds I;have f:=t.go h.ff (t.rs.step h);refine⟨g,C,sd,f.rs,(ja b).mono (λy J w K L j M=>?_) λ_ _ q=>q.ext (t.ext0 f.rs.ext)⟩;have l:=f.go j.ff (f.rs.step j);obtain⟨U,N,O,P⟩:=l.lies I;obtain⟨z,hz,q⟩:=jg (ja J);obtain⟨k,R,hz⟩:=Jg.mp hz;obtain⟨x,S,ix⟩:=(Xu k O P).1 z hz;refine⟨a,x,rfl,?_,q x g K L (h.ff.trans j.ff) l ix⟩;rw[WO R M,<- S];exact CY (.inl N)
  .exact b.elim
 .exact b.elim
def IP (fo b:FE)(sd:SD)(p:D×HP):Res Out2:=(fo sd).bind λo=>match o with
 | .adr a=>match jl p.2 a with
  |some (.dct ks ds)=>(b sd).bind λk=>match Q2 k with
   |some q=>if ks.length<sizeLine then .ok (.next sd (We p.2 a (.dct (VY ks q) (Wu ks ds q p.1)))) else .no
   |none=>.no
  |_=>.no
 |_=>.no
def ZJ (fo a:FE)(b:jQ):qo:=λsd hp=>(b sd hp).bind (IP fo a sd)
def tR (x:X.A.units+1<cLine)(y:QE X E o fo)(z:QE X E i fi)(A:x4 X E e f2)(hs:swapsWith e (some (.Subscript o i pos')) pos.line X.env=pure false:=by rfl):
 zJ X E m (.Assign [.Subscript o i pos'] e pos) (ZJ fo fi f2):=PS.weak (Fd x y z A hs) λT Z H C=>by
 obtain⟨B,G,F,sd,hp,t,n⟩:=C;refine⟨B,G,F,sd,hp,t,(ja n).mono (λp I v r J H1 K b L=>⟨r,J,sd,b.rs,(ja I).mono (λd f v2 M H2 h N=>?_) λ_ _ q=>q.ext (b.ext0 b.rs.ext)⟩) λ_ _ q=>q⟩
 split at f
 .rename_i a;obtain rfl:=jC.mp N;have j:=b.go h.ff (b.rs.step h)
  split at f
  .rename_i ks ds s;refine⟨r,M,sd,j.rs,(ja f).mono (λk g w O H3 l P=>?_) λ_ _ q=>q.ext (b.ext0 j.rs.ext)⟩;have u:=j.go l.ff (j.rs.step l)
   split at g
   .rename_i q Q
    split at g
    .obtain⟨xs,R,S,U⟩:=u.lies s;obtain⟨ys,Y,y2,y3⟩:=G2 S U (jf.same (h.ff.trans l.ff) _ _ L);exact⟨a,_,rfl,(by rw[WO Q P];exact zE.k R (by rw[List.length_zip];lia)),g Z _ O _ ((K.trans h.ff).trans l.ff) (u.chg s ⟨ys,by rw[JL,Y],y2,y3⟩)⟩
    .exact g.elim
   .exact g.elim
  .exact f.elim
 .exact f.elim
end
def wL (K:W.Frag)(E:XK)(e:FA)(d0:D):TA:=λZ H Q=>∃B F sd,RS K B F H sd Z /\ (e sd).need (λds=>∀c l a b,Ext F H a b->je K a ds c->H l=none->a l=none->yK K a b l d0->Q (c++[.ref l]) b) (XW K E F H)
open Classical in
def we (g:Addr->Res D):Res D:=if h:∃r,∀a,g a=r then Classical.choose h else .no
def tV (h:∀a,g a=r):we g=r:=by
 have b:∃r,∀a,g a=r:=⟨r,h⟩;unfold we;rw[dif_pos b];exact(Classical.choose_spec b 0).symm.trans (h 0)
def dG (h:(we g).need p q)(a:Addr):(g a).need p q:=by
 unfold we at h
 split at h
 .grind
 .exact h.elim
def DS (a:YG->HP->Res (D×HP))(d0:D)(b:FA):FE:=λsd=>(b sd).bind λds=>we λl=>(a (ds++[.adr l]) [(l,d0)]).bind λp=>.ok p.1
section
variable {X:Cx}{E:XK}{e:Expr}{es:Ym}{fe:FE}{fr:FA}{d0:D}{pos p:Pos}{name:Str}{k:Nat}{ps:Yk}
def dB (h:QN X E e (dC d0))(hs:starEach [e] X.env=(false,eval e X.env)::starEach [] X.env:=by rfl):PA X [e] (wL X.K E jc d0):=PA.weak (KH h V2 hs) λZ H Q ⟨B,F,sd,r,n⟩=>⟨B,F,sd,r,λl a b e c f g=>(n) [] l a b e rfl c f g⟩
def DT (c:QE X E e fe)(f:PA X es (wL X.K E fr d0))(hs:starEach (e::es) X.env=(false,eval e X.env)::starEach es X.env:=by rfl):PA X (e::es) (wL X.K E (J0 fe fr) d0):=PA.weak (KH c f hs) λZ H Q ⟨B,F,sd,r,n⟩=>⟨B,F,sd,r,(ja n).mono (λx g v h z a i=>⟨B,h,sd,r.step a,(ja g).mono (λA j m l o s b t u w y=>(j (v::m) l o s (a.trans b) (.mk (jf.same b.ff _ _ i) t) (Qd a.hh u) w y)) λ_ _ q=>q.ext a⟩) λ_ _ q=>q⟩
def uT (c:yF X.prog X.w X.K X.mg X.base name k ps (Ko X.K Fn))(T:Thrown X E)(t:Room k X.A)(u:Gl X name)(x:PA X (e::es) (wL X.K E fr d0))
 (g:(name == ("__debug__" : Str))=false:=by decide) (A:starEach (e::es) X.env=(false,eval e X.env)::starEach es X.env:=by rfl) (h:(backTo pos (starEach es X.env)).any (·.1)=false:=by rfl):
 QE X E (.Call (.Name name p) (e::es) [] pos) (DS Fn d0 fr):=PE.weak (Z5 c T t u x g A h) λZ H Q C=>by
 obtain⟨B,F,sd,r,n⟩:=C;refine⟨B,F,sd,r,(ja n).mono (λds G I l j m b J P R S=>?_) λ_ _ q=>q⟩;show Ko X.K Fn ((I++[.ref l])++[]) m Q E;rw[ZA];have f:∀{a:Addr},a≠l->jl [(l,d0)] a=none:=λz=>by rw[Q4,Ze z];rfl
 have ne:∀a o,H a=some o->a≠l:=by grind
 have K:wn X.K j m [(l,d0)]:=λa d q=>by
  simp_all [Q4]
 refine⟨j,ds++[.adr l],[(l,d0)],b.fh,J.snoc (jC.mpr rfl),K,(ja (dG G l)).mono (λp L v M N w i=>?_) λc fs q=>?_⟩
 .refine L v M N ⟨b.ff.trans w.ff,w.fh,λa o q=>w.hh a o (f (ne a o q)) (b.hh a o q),λa O s=>(w.new a (b.new a O s) λz=>?_)⟩ i;cases y:H a with
  |none=>exact s y
  |some o=>rw[b.hh a o y] at z;cases z
 .refine q.ext ⟨b.ff,λa o y=>?_,λa o y=>?_,b.new⟩
  .have na:a≠l:=by grind
   rw[Uk (f na)];exact b.fh a o y
  .rw[Uk (f (ne a o y))];exact b.hh a o y
end
def sN {P:Program}{w:World}{K:W.Frag}{mg:Ye}{a:Heap}{f:Addr}{b:FuncData}{ps:Yk}{k:Nat}:FnOk P w K mg a (xG P w) k f b ps (Ko K λ_ _=>.no):=⟨λ_ _ _ _ ⟨_,_,_,_,_,_,n⟩=>n.elim,λ_ _ _ _ _ _ _ _ _ _ _ _ _ ⟨_,_,_,_,_,_,n⟩=>n.elim⟩
structure Ev where
 P:Program
 w:World
 K:W.Frag
 mg:Ye
 base:Heap
 C:Nat->Addr
 t:Nat->Tok
abbrev Ca (e:Ev):=zG e.P e.w e.K e.mg e.base
abbrev zf (e:Ev):=yF e.P e.w e.K e.mg e.base
def vP (K:W.Frag)(T:Nat->Stmt):List (Str×Nat)->Prop
 | []=>True
 |p::r=>wx K p.1 (T p.2)/\vP K T r
def Nn (K:W.Frag):Yk->Prop
 | []=>True
 |x::r=>W.nsIn K mainGlobals x=some none/\Nn K r
def dfs_cons {K:W.Frag}{T:Nat->Stmt}{x:Str}{i:Nat}{r:List (Str×Nat)}(h:wx K x (T i))(q:vP K T r):vP K T ((x,i)::r):=⟨h,q⟩
def nn_cons {K:W.Frag}{x:Str}{r:Yk}(h:W.nsIn K mainGlobals x=some none)(q:Nn K r):Nn K (x::r):=⟨h,q⟩
theorem DU {K:W.Frag}{T:Nat->Stmt}:∀{l:List (Str×Nat)} {j:Nat} {p:Str×Nat},vP K T l->l[j]? = some p->wx K p.1 (T p.2)
 | [],j,p,_,h=>by simp at h
 |q::r,0,p,d,h=>by
  obtain rfl:q=p:=by simpa using h
  exact d.1
 |q::r,j+1,p,d,h=>DU d.2 (by simpa using h)
theorem IQ {K:W.Frag}{h:Heap}{mg:Ye}(X:K.In h)(G:h.Ns mainGlobals mg):∀{l:Yk},Nn K l->∀x∈l,mg x=none
 | [],_,x,q=>by simp at q
 |y::r,d,x,q=>by
  rcases UV.mp q with z|z
  .rw[z];exact W.mg_none_of X G d.1
  .exact IQ X G d.2 x z
abbrev rR (mg:Ye)(bl:Yk):Prop:=∀x∈bl,mg x=none
def JI {mg:Ye}{bl:Yk}{x:Str}(m:rR mg bl)(h:x∈bl:=by decide):mg x=none:=m x h
structure Al (e:Ev)(T:Nat->Stmt)(tbl:List (Str×Nat))(bl:Yk):Prop where
 h:∃h,e.K.In h/\h.Ns mainGlobals e.mg
 d:vP e.K T tbl
 m:rR e.mg bl
section
variable {e:Ev}{T:Nat->Stmt}{tbl:List (Str×Nat)}{bl:Yk}{x:Str}{k:Nat}{ps:Yk}{sp:Sp}
abbrev IR (x:Str)(st:Stmt)(ps:Yk):Prop:=∀(kV doc pm:Value) (an:Option Addr) (cdv ct:Value) (us:Yf),us.length=ps.length->bindArgs (W.fnOf x x (WE st) (QD st) (JR st) .none kV doc pm an cdv ct) ⟨us,[]⟩=pure (ps.zip us)
def xj (a:Al e T tbl bl)(j i:Nat)(ok:∀{f:Addr} {b:FuncData},Fun e.K x x (T i) f b->FnOk e.P e.w e.K e.mg e.base yw k f b ps sp)(h:tbl[j]? = some (x,i):=by rfl)
 (c:IR x (T i) ps:=by first|exact λ_ _ _ _ _ _=>fY λ_ _=>rfl|exact λ_ _ _ _ _ _=>bS λ_ _ _=>rfl|exact λ_ _ _ _ _ _=>bU λ_=>rfl|exact λ_ _ _ _ _ _=>fX λ_ _ _ _=>rfl|exact λ_ _ _ _ _ _=>re λ_ _ _ _ _=>rfl|exact λ_ _ _ _ _ _=>us6 λ_ _ _ _ _ _=>rfl):Ca e x k ps sp:=by
 obtain⟨_,X,G⟩:=a.h;exact(show wx e.K x (T i) from DU a.d h).callee X G ok c
def yd (a:Al e T tbl bl)(j i:Nat)(ok:∀{f:Addr} {b:FuncData},Fun e.K x x (T i) f b->FnOk e.P e.w e.K e.mg e.base (xG e.P e.w) k f b ps sp)(h:tbl[j]? = some (x,i):=by rfl)
 (c:IR x (T i) ps:=by first|exact λ_ _ _ _ _ _=>fY λ_ _=>rfl|exact λ_ _ _ _ _ _=>bS λ_ _ _=>rfl|exact λ_ _ _ _ _ _=>bU λ_=>rfl|exact λ_ _ _ _ _ _=>fX λ_ _ _ _=>rfl|exact λ_ _ _ _ _ _=>re λ_ _ _ _ _=>rfl|exact λ_ _ _ _ _ _=>us6 λ_ _ _ _ _ _=>rfl):zf e x k ps sp:=by
 obtain⟨_,X,G⟩:=a.h;exact(show wx e.K x (T i) from DU a.d h).calleeX X G ok c
end
def j7 {X:Cx}(h:X.N.Nodup:=by dsimp only[JK,jX,Cx.nox];decide +kernel):X.N.Nodup:=h
def qv {X:Cx}{E:XK}(i:Nat){x:Str}{a:Pos}(c:X.N[i]? = some x:=by rfl)(e:bH X.env.scope x:=by first|exact Or.inl rfl|exact Or.inr (Or.inl rfl)|exact Or.inr (Or.inr rfl))(f:(x == ("__debug__" : Str))=false:=by decide)(b:(x == ("__classdict__" : Str))=false:=by decide):QE X E (.Name x a) (jb i):=uQ (pv i c e f b)
end L2.DL
set_option maxHeartbeats 4000000
namespace My
open PySem L2 L2.DL
@[simp high] def lG {α: Type}(b a:α)(l:List α):(b::a::l)[1]? = some a:=rfl
@[simp high] def l7 {α: Type}(a b v:α)(l:List α):(a::b::l).set 1 v=a::v::l:=rfl
@[simp high] def lF {α: Type}(b c a:α)(l:List α):(b::c::a::l)[2]? = some a:=rfl
@[simp high] def l6 {α: Type}(a b c v:α)(l:List α):(a::b::c::l).set 2 v=a::b::v::l:=rfl
@[simp high] def lE {α: Type}(b c e a:α)(l:List α):(b::c::e::a::l)[3]? = some a:=rfl
@[simp high] def l0 {α: Type}(a b c e v:α)(l:List α):(a::b::c::e::l).set 3 v=a::b::c::v::l:=rfl
@[simp high] def lD {α: Type}(b c e f a:α)(l:List α):(b::c::e::f::a::l)[4]? = some a:=rfl
@[simp high] def lz {α: Type}(a b c e f v:α)(l:List α):(a::b::c::e::f::l).set 4 v=a::b::c::e::v::l:=rfl
@[simp high] def lC {α: Type}(b c e f g a:α)(l:List α):(b::c::e::f::g::a::l)[5]? = some a:=rfl
@[simp high] def lx {α: Type}(a b c e f g v:α)(l:List α):(a::b::c::e::f::g::l).set 5 v=a::b::c::e::f::v::l:=rfl
@[simp high] def lB {α: Type}(b c e f g h a:α)(l:List α):(b::c::e::f::g::h::a::l)[6]? = some a:=rfl
@[simp high] def lw {α: Type}(a b c e f g h v:α)(l:List α):(a::b::c::e::f::g::h::l).set 6 v=a::b::c::e::f::g::v::l:=rfl
@[simp high] def lA {α: Type}(b c e f g h i a:α)(l:List α):(b::c::e::f::g::h::i::a::l)[7]? = some a:=rfl
@[simp high] def lu {α: Type}(a b c e f g h i v:α)(l:List α):(a::b::c::e::f::g::h::i::l).set 7 v=a::b::c::e::f::g::h::v::l:=rfl
@[simp high] def l9 {α: Type}(b c e f g h i j a:α)(l:List α):(b::c::e::f::g::h::i::j::a::l)[8]? = some a:=rfl
@[simp high] def lq {α: Type}(a b c e f g h i j v:α)(l:List α):(a::b::c::e::f::g::h::i::j::l).set 8 v=a::b::c::e::f::g::h::i::v::l:=rfl
@[simp high] def l8 {α: Type}(b c e f g h i j m a:α)(l:List α):(b::c::e::f::g::h::i::j::m::a::l)[9]? = some a:=rfl
@[simp high] def ln {α: Type}(a b c e f g h i j m v:α)(l:List α):(a::b::c::e::f::g::h::i::j::m::l).set 9 v=a::b::c::e::f::g::h::i::j::v::l:=rfl
@[simp high] def cV {α: Type}(b c e f g h i j m n a:α)(l:List α):(b::c::e::f::g::h::i::j::m::n::a::l)[10]? = some a:=rfl
@[simp high] def cJ {α: Type}(b c e f g h i j m n a v:α)(l:List α):(b::c::e::f::g::h::i::j::m::n::a::l).set 10 v=b::c::e::f::g::h::i::j::m::n::v::l:=rfl
@[simp high] def cU {α: Type}(c e f g h i j m n o b a:α)(l:List α):(c::e::f::g::h::i::j::m::n::o::b::a::l)[11]? = some a:=rfl
@[simp high] def cI {α: Type}(c e f g h i j m n o a b v:α)(l:List α):(c::e::f::g::h::i::j::m::n::o::a::b::l).set 11 v=c::e::f::g::h::i::j::m::n::o::a::v::l:=rfl
@[simp high] def cS {α: Type}(e f g h i j m n o p b c a:α)(l:List α):(e::f::g::h::i::j::m::n::o::p::b::c::a::l)[12]? = some a:=rfl
@[simp high] def cH {α: Type}(e f g h i j m n o p a b c v:α)(l:List α):(e::f::g::h::i::j::m::n::o::p::a::b::c::l).set 12 v=e::f::g::h::i::j::m::n::o::p::a::b::v::l:=rfl
@[simp high] def cR {α: Type}(f g h i j m n o p q b c e a:α)(l:List α):(f::g::h::i::j::m::n::o::p::q::b::c::e::a::l)[13]? = some a:=rfl
@[simp high] def cG {α: Type}(f g h i j m n o p q a b c e v:α)(l:List α):(f::g::h::i::j::m::n::o::p::q::a::b::c::e::l).set 13 v=f::g::h::i::j::m::n::o::p::q::a::b::c::v::l:=rfl
def QV (ns:Yh)(k:Int):Int:=ns.getD k.toNat 0
def jz (hs:Yh)(t:Int):Int:=hs.getD t.toNat 0
def JD (r:Jy)(hs:Yh):Int:=jW (r.map λp=>jz hs p.1+p.2)
def sU:qI 12 (.lst [])=true:=rfl
def d7 (r:Jy):qI 12 (.lst (r.map qM))=true:=by
 show(r.map qM).all (qI 11)=true;rw[List.all_map,VN];exact λp _=>rfl
def cy {α: Type}(f:α -> D)(l:List α):Qp (.lst (l.map f)) (.lst [])=l.isEmpty:=by
 cases l with
 |nil=>exact AK _
 |cons x r=>exact fV.mpr λh=>by cases h
theorem W2 {α: Type}{l:List α}{k:Nat}(h:k<l.length):qQ l (k:Int)=l[k]?:= by
 simp_all [qQ,yf]
def ZK {hs:Yh}{t:Int}(a:0<=t)(b:t<(hs.length:Int)):qQ (hs.map D.int) t=some (.int (jz hs t)):=by
 simp_all [yf,qQ,jz]
def K3 {α: Type}{f:α -> D}{l:List α}{i:Nat}{x:D}(h:(l.map f)[i]? = some x):∃p,l[i]? = some p/\x=f p:=()
structure RowOk (n:Int)(r:Jy):Prop where
 ne:r ≠ []
 once:j6 r
 mem:∀p∈r,0<=p.1/\p.1<n
 len:r.length<=12
def c0 {a:Jz}(h:∀r∈a,r ≠ [])(b:a.length<1000):X1 [.lst (a.map j3)]=some (.lst ((JP j5 a).map j3)):=by
 show(Q1 Kx (a.map j3)).bind _=_
 simp_all [CO]
def ji (f:Jz):D:=.lst (f.map j3)
def qg (all:Jz)(row:Jy):Bool:=(all.filter λone => !decide (one=row)&&JC one row).isEmpty
def X8 (all a:Jz)(row:Jy):Jz:=if qg all row=true/\row∉a then a++[row] else a
def IS (all rs:Jz):Jz:=rs.foldl (X8 all) []
def JU (rs:Jz):Jz:=JP j5 (IS rs rs)
theorem Bp (all:Jz):∀(rs a:Jz),(rs.foldl (X8 all) a).length<=a.length+rs.length/\(∀r,r∈rs.foldl (X8 all) a↔r∈a\/(r∈rs/\qg all r=true))/\(a.Nodup->(rs.foldl (X8 all) a).Nodup)
 | [],a=>by simp
 |row::rs,a=>by
  rw[U4];obtain⟨b,c,e⟩:=Bp all rs (X8 all a row);unfold X8 at b c e ⊢
  grind
theorem xJ {rs:Jz}{r:Jy}:r∈JU rs↔r∈rs/\qg rs r=true:=by
 unfold JU IS;rw[(Qv (ltb:=j5) _).mem_iff,(Bp rs rs []).2.1];simp
def J5 (f:Jz)(hs:Yh):Int:=q0 (f.map λr=>JD r hs)
def tZ {α: Type}(l:List α)(x y:α):(l++[x]).set l.length y=l++[y]:=()
def tF {α: Type}(l:List α)(x:α):yf (l++[x]).length (l.length:Int)=some l.length:=by
 unfold yf;rw[Zd (),Zd (by rw[Ua,Uj];lia),Vy]
@[simp]def ge (f:Jz):Kz [ji f]=some (ji f):=rfl
@[simp]def vW (f:Jz):WQ (ji f)=some (f.map j3):=rfl
@[simp]def vU (r:Jy):WQ (j3 r)=some (r.map qM):=rfl
@[simp]def bb (f:Jz):qs [ji f]=some (.int f.length):=by show some (D.int (f.map j3).length)=_;rw[Zql]
@[simp]def pS (f:Jz):yA [ji f,.ty "list"]=some (.bl true):=rfl
@[simp]def li (f:Jy):yA [j3 f,.ty "tuple"]=some (.bl true):=rfl
@[simp]def lg (p:Int×Int):yA [qM p,.ty "tuple"]=some (.bl true):=rfl
@[simp]def ba (p:Int×Int):qs [qM p]=some (.int 2):=rfl
@[simp]def bg (p:Int×Int):qf (qM p) (.int 0)=some (.int p.1):=rfl
@[simp]def bf (p:Int×Int):qf (qM p) (.int 1)=some (.int p.2):=rfl
structure FormOk (n:Int)(f:Jz):Prop where
 ne:f ≠ []
 rows:∀r∈f,RowOk n r
 len:f.length<=100
def tW {l:Yh}(h:l ≠ [])(w:Int):q0 (l.map (· + w))=q0 l+w:=by
 obtain⟨a,b⟩:=XY h;refine(Cq () λy c=>?_).symm
 grind
def IT {l:Yh}(h:l ≠ [])(w:Int):jW (l.map (· + w))=jW l+w:=by
 obtain⟨a,b⟩:=Wo h;refine(Fs () λy c=>?_).symm
 grind
def qO (r:Jy):Prop:=(r.map (·.1)).Pairwise (· < ·)
def IU {r:Jy}(h:qO r):r.Pairwise λx y=>jR x y=true:=by
 unfold qO at h;rw[UX] at h;refine h.imp λ{a b} z=>?_;unfold jR;simp;lia
def zg {r o:Jy}:JC r o=true↔∀p∈r,∃w,J6 o p.1=some w/\p.2<=w:=by
 unfold JC;rw[VN];refine forall_congr' λp=>forall_congr' λ_=>?_;unfold yb;cases J6 o p.1 with
 |none=>simp
 |some w=>simp
theorem Kp {a b c:Jy}(e:JC a b=true)(f:JC b c=true):JC a c=true:=by
 rw[zg] at *;intro p hp;obtain⟨w,g,h⟩:=e p hp;obtain⟨v,i,j⟩:=f _ (Qh g);exact⟨v,i,UY h j⟩
def IV {a b:Jy}(c:j6 a)(e:JC a b=true)(f:JC b a=true):∀p∈a,p∈b:=by
 rw[zg] at *;intro p hp;obtain⟨w,g,j⟩:=e p hp;have h:=Qh g;obtain⟨v,i,l⟩:=f _ h;rw[c.look hp] at i
 grind
theorem IW {a b:Jy}(f:j6 a)(g:j6 b)(h:qO a)(i:qO b)(c:JC a b=true)(e:JC b a=true):a=b:=
 WI wF (IU h) (IU i) λp=>⟨IV f c e p,IV g e c p⟩
theorem DV:∀{rs:Jz},rs ≠ []->(∀r∈rs,j6 r/\qO r)->∃m∈rs,∀o∈rs,JC o m=true->o=m
 | [],h,_=>Zn rfl h
 |x::rs,_,ok=>by
  by_cases q:rs=[]
  .simp_all
  .obtain⟨m,a,b⟩:=DV q ()
   grind[Zqm,Zqs,Kp,IW]
def wE {rs:Jz}{m:Jy}:qg rs m=true↔∀o∈rs,JC o m=true->o=m:=by
 grind[qg,List.isEmpty_iff,List.filter_eq_nil_iff]
structure Good (n:Int)(f:Jz):Prop where
 ne:f ≠ []
 rows:∀r∈f,RowOk n r
 rise:∀r∈f,qO r
 len:f.length<=40
 anti:∀r∈f,∀s∈f,JC r s=true->r=s
 srt:f.Pairwise λa b=>j5 a b=true
def dj (j n:Nat):min (j:Int) (n:Int)=((min j n:Nat):Int):=by
 lia
def IX {α: Type}(l:List α){k:Int}(a:0<=k):Qf l (some k) none none=l.drop k.toNat:=by
 have e:sliceBounds (some k) none none l.length=(((min k.toNat l.length:Nat):Int),(l.length:Int),1):=by
  obtain⟨j,rfl⟩:=Int.eq_ofNat_of_zero_le a;unfold sliceBounds;simp only[Option.getD_none];simp;rw[Ze (Int.not_lt.mpr a),dj];exact rfl
 unfold Qf;rw[e];show(sliceRange _ _ 1).filterMap _=_;have p:=pick_run l.toArray (min k.toNat l.length) (l.length-min k.toNat l.length);rw[sliceRange_one];have ep:(λx:Nat=>l[x]?)=λx:Nat=>l.toArray[x]?:= by funext x;simp
 rw[ep,p];simp;by_cases c:k.toNat<=l.length
 .rw[Vf c,UQ ()]
 .rw[Nat.min_eq_right (),Ve (Zf _),Ve ()];exact List.take_nil
def IY {α: Type}{f:α -> Bool}{l:List α}{i:Nat}{p:α}(h:∀q∈l.take i,f q=false)(hp:l[i]? = some p)(a:f p=true):l.find? f=some p:=by
 grind[List.take_append_drop,List.drop_eq_getElem_cons]
structure ThingsOk (ts:Yh):Prop where
 ne:ts ≠ []
 len:ts.length<=4
 rng:∀t∈ts,0<=t/\t<12
 up:ts.Pairwise (· < ·)
def Bq {r:Jy}(h:qO r):j6 r:=by
 unfold qO at h;unfold j6 List.Nodup;exact h.imp λh e=>()
def IZ {r:Jy}(h:j6 r){p q:Int×Int}(hp:p∈r)(b:q∈r)(e:p.1=q.1):p=q:=by
 induction r with
 |nil=>cases hp
 |cons a r c =>
  grind[j6,List.map_cons,List.nodup_cons]
def jN (hs:Yh)(t m:Int):Yh:=(List.range hs.length).map λk:Nat=>jz hs k+m*(if t=k then 1 else 0)
def tf (hs:Yh)(t m:Int):(jN hs t m).length=hs.length:=by unfold jN;simp
def WW {hs:Yh}{t m x:Int}(b:0<=x)(c:x<(hs.length:Int)):jz (jN hs t m) x=jz hs x+(if t=x then m else 0):=by
 have a:x.toNat<hs.length:=()
 have e:((x.toNat:Nat):Int)=x:=()
 unfold jz jN;rw[UL,Zv,List.getElem?_range a];show jz hs (x.toNat:Int)+m*(if t=((x.toNat:Nat):Int) then 1 else 0)=_;rw[e];unfold jz
 split
 .omega
 .omega
def KE {r:Jy}{hs:Yh}{p:Int×Int}(hp:p∈r):jz hs p.1+p.2<=JD r hs:=
 (Wo (λz=>())).2 _ ()
def t9 {r:Jy}{hs:Yh}(a:r ≠ []):∃p∈r,JD r hs=jz hs p.1+p.2:=have ⟨p,hp,e⟩:=Ja.mp (Wo (λz=>a (Jd.mp z))).1;⟨p,hp,e.symm⟩
def WX {r:Jy}{hs:Yh}{x:Int}(a:r ≠ []):JD r hs<=x↔∀p∈r,jz hs p.1+p.2<=x:=by
 constructor
 .intro h p hp;exact UY (KE hp) h
 .intro h;obtain⟨p,hp,e⟩:=t9 a;rw[e];exact h p hp
def QL {f:Jz}{hs:Yh}{r:Jy}(a:r∈f):J5 f hs<=JD r hs:=
 (XY (λz=>())).2 _ ()
def Kq {f:Jz}{hs:Yh}(a:f ≠ []):∃r∈f,J5 f hs=JD r hs:=have ⟨p,hp,e⟩:=Ja.mp (XY (λz=>a (Jd.mp z))).1;⟨p,hp,e.symm⟩
structure Over (f:Jz)(hs:Yh):Prop where
 ne:f ≠ []
 rne:∀r∈f,r ≠ []
 once:∀r∈f,j6 r
 bnd:∀r∈f,∀p∈r,0<=p.1/\p.1<(hs.length:Int)
def DW {r:Jy}{hs:Yh}{t m:Int}(b:r ≠ [])(a:∀p∈r,0<=p.1/\p.1<(hs.length:Int))(c:0<=m):JD r hs<=JD r (jN hs t m):=by
 rw[WX b];intro p hp;refine UY ?_ (KE hp);rw[WW (a p hp).1 (a p hp).2]
 split<;>lia
def sW {r:Jy}{hs:Yh}{t m:Int}(a:∀p∈r,0<=p.1/\p.1<(hs.length:Int))(b:∀p∈r,p.1≠t):JD r (jN hs t m)=JD r hs:=by
 unfold JD
 congr 1
 refine UE λp hp=>?_;rw[WW (a p hp).1 (a p hp).2,Ze (λz=>b p hp z.symm)];lia
def yg (f:Jz)(hs:Yh):Jz:=f.filter λr=>decide (JD r hs=J5 f hs)
def vQ {f:Jz}{hs:Yh}{r:Jy}:r∈yg f hs↔r∈f/\JD r hs=J5 f hs:=by
 unfold yg;simp
def La {f:Jz}{hs:Yh}(a:f ≠ []):yg f hs ≠ []:=λz=>by
 obtain⟨r,b,e⟩:=Kq a;have:=vQ.mpr ⟨b,e.symm⟩;rw[z] at this;cases this
def xS (f:Jz)(hs:Yh)(t:Int)(r:Jy):Int:=J5 f hs-jz hs t-(J6 r t).getD 0
def Lb {r:Jy}{t:Int}(h:(J6 r t).isSome=true):∃w,J6 r t=some w/\(t,w)∈r:=by
 cases q:J6 r t with
 |none=>rw[q] at h;cases h
 |some w=>exact⟨w,rfl,Qh q⟩
def ca {f:Jz}{hs:Yh}{t m:Int}(o:Over f hs)(c:0<=m)(h:∃r∈yg f hs,J6 r t=none):J5 f (jN hs t m)=J5 f hs:=by
 obtain⟨r,a,g⟩:=h;obtain⟨a,i⟩:=vQ.mp a;refine Int.le_antisymm ?_ ?_
 .have:=QL (hs:=jN hs t m) a;rw[sW (o.bnd r a) (λp hp z=>Cy g p.2 (by rw[<- z];exact hp)),i] at this;exact this
 .obtain⟨q,b,e⟩:=Kq (hs:=jN hs t m) o.ne;rw[e];exact UY (QL b) (DW (o.rne q b) (o.bnd q b) c)
def dX {f:Jz}{hs:Yh}{t:Int}(o:Over f hs)(B:0<=t)(C:t<(hs.length:Int))(h:∀r∈yg f hs,(J6 r t).isSome=true):0<=jW ((yg f hs).map (xS f hs t))/\J5 f (jN hs t (jW ((yg f hs).map (xS f hs t))))=J5 f hs/\J5 f hs<J5 f (jN hs t (jW ((yg f hs).map (xS f hs t))+1)):=by
 have ne:(yg f hs).map (xS f hs t) ≠ []:=λz=>La o.ne (Jd.mp z);obtain⟨v,c⟩:=Wo ne;generalize jW ((yg f hs).map (xS f hs t))=s at v c;obtain⟨r,x,es⟩:=Ja.mp v;obtain⟨w,E,i⟩:=Lb (h r x);obtain⟨a,y⟩:=vQ.mp x;unfold xS at es;rw[E] at es;have es:J5 f hs-jz hs t-w=s:=es;have g:=KE (hs:=hs) i;rw[y] at g;have g:jz hs t+w<=J5 f hs:=g;have A:0<=s:=()
 refine⟨A,Int.le_antisymm ?_ ?_,?_⟩
 .refine UY (QL a) ((WX (o.rne r a)).mpr λp hp=>?_);rw[WW (o.bnd r a p hp).1 (o.bnd r a p hp).2]
  split
  .rename_i z;have H:=IZ (o.once r a) hp i z.symm
   grind
  .have:=KE (hs:=hs) hp;rw[y] at this;lia
 .obtain⟨q,b,e⟩:=Kq (hs:=jN hs t s) o.ne;rw[e];exact UY (QL b) (DW (o.rne q b) (o.bnd q b) A)
 .obtain⟨q,b,e⟩:=Kq (hs:=jN hs t (s+1)) o.ne;have I:=DW (t:=t) (m:=s+1) (o.rne q b) (o.bnd q b) ();have lo:=QL (hs:=hs) b;by_cases z:JD q hs=J5 f hs
  .have j:=vQ.mpr ⟨b,z⟩;obtain⟨F,n,u⟩:=Lb (h q j);have l:=c _ (Ja.mpr ⟨q,j,rfl⟩);unfold xS at l;rw[n] at l;have l:J5 f hs-jz hs t-F<=s:=l;have G:=KE (hs:=jN hs t (s+1)) u;rw[WW B C,Zd rfl] at G;lia
  .omega
def JN (t:Int)(r:Jy):Jy:=r.filter λp => !decide (p.1=t)
def wH {t:Int}{r:Jy}{p:Int×Int}:p∈JN t r↔p∈r/\p.1≠t:=by
 unfold JN;rw[List.mem_filter];simp
structure FarOk (f:Jz)(hs:Yh)(x:Int):Prop where
 ex:∃w h:Int,x=4*w+4*h/\1<=w/\(∀r∈f,∀p∈r,-w<p.2/\p.2<w)/\0<=h/\∀y∈hs,-h<=y/\y<=h
def Lc {hs:Yh}{t:Int}(a:0<=t)(b:t<(hs.length:Int)):jz hs t∈hs:=by
 simp_all [jz]
def Ld {f:Jz}{hs:Yh}{t x:Int}{r:Jy}(o:Over f hs)(F:FarOk f hs x)(a:r∈f)(e:JN t r ≠ []){m:Int}(l:m <= -x):JD r (jN hs t m)=JD (JN t r) hs:=by
 obtain⟨w,h,n,s,i,u,j⟩:=F.ex;have nb:∀p∈r,-h<=jz hs p.1/\jz hs p.1<=h:=λp hp=>j _ (Lc (o.bnd r a p hp).1 (o.bnd r a p hp).2);refine Int.le_antisymm ((WX (o.rne r a)).mpr λp hp=>?_) ((WX e).mpr λp hp=>?_)
 .rw[WW (o.bnd r a p hp).1 (o.bnd r a p hp).2]
  split
  .obtain⟨q,b⟩:=List.exists_mem_of_ne_nil _ e;have g:=KE (hs:=hs) b;have v:=nb q (wH.mp b).1;have A:=i r a q (wH.mp b).1;have B:=nb p hp;have C:=i r a p hp;lia
  .rename_i z;have g:=KE (hs:=hs) (wH.mpr ⟨hp,λy=>z y.symm⟩);lia
 .obtain⟨hp,c⟩:=wH.mp hp;have g:=KE (hs:=jN hs t m) hp;rw[WW (o.bnd r a p hp).1 (o.bnd r a p hp).2,Ze (λy=>c y.symm)] at g;lia
def Br {f:Jz}{hs:Yh}{t m:Int}{r:Jy}(o:Over f hs)(a:r∈f)(b:JN t r=[]):JD r (jN hs t m)=JD r hs+m:=by
 have c:∀p∈r,p.1=t:=λp hp=>by
  by_cases z:p.1=t
  .exact z
  .have:=wH.mpr ⟨hp,z⟩;rw[b] at this;cases this
 unfold JD;rw[<- IT (λz=>o.rne r a (Jd.mp z)),Zw]
 congr 1
 refine UE λp hp=>?_;rw[WW (o.bnd r a p hp).1 (o.bnd r a p hp).2,Zd (c p hp).symm]
 grind
def dE {f:Jz}{hs:Yh}{t x:Int}(o:Over f hs)(F:FarOk f hs x)(h:∃r∈f,JN t r=[]):J5 f (jN hs t (-x-1))=J5 f (jN hs t (-x))-1:=by
 obtain⟨r,b,s⟩:=h;obtain⟨w,u,H,I,v,J,y⟩:=id F.ex;have nb:=λr b p hp=>y _ (Lc (o.bnd r b p hp).1 (o.bnd r b p hp).2);have lo:∀q∈f,JN t q ≠ []->JD r hs<JD (JN t q) hs+x:=λq a i=>by
  obtain⟨p,hp⟩:=List.exists_mem_of_ne_nil _ i;have g:=KE (hs:=hs) hp;have K:=nb q a p (wH.mp hp).1;have L:=v q a p (wH.mp hp).1;have l:JD r hs<=w+u:=(WX (o.rne r b)).mpr λz hz=>by
   grind
  lia
 have c:∀m:Int,m <= -x->∃q∈f,JN t q=[]/\J5 f (jN hs t m)=JD q hs+m:=λm A=>by
  obtain⟨q,a,e⟩:=Kq o.ne;by_cases z:JN t q=[]
  .exact⟨q,a,z,by rw[e,Br o a z]⟩
  .have g:=QL (hs:=jN hs t m) b;rw[Br o b s,e,Ld o F a z A] at g;have:=lo q a z;lia
 obtain⟨M,j,B,N⟩:=c (-x) (US _);obtain⟨O,n,C,P⟩:=c (-x-1) ();have E:=QL (hs:=jN hs t (-x)) n;rw[Br o n C] at E;have G:=QL (hs:=jN hs t (-x-1)) j;rw[Br o j B] at G;lia
def Le {f:Jz}{hs:Yh}{t x:Int}(o:Over f hs)(F:FarOk f hs x)(h:∀r∈f,JN t r ≠ []){m:Int}(b:m <= -x):J5 f (jN hs t m)=q0 (f.map λr=>JD (JN t r) hs):=by
 unfold J5
 congr 1
 exact UE λr a=>Ld o F a (h r a) b
def dq {f:Jz}{hs:Yh}{t:Int}(o:Over f hs)(h:∀r∈f,JN t r ≠ []):q0 (f.map λr=>JD (JN t r) hs)<=J5 f hs:=by
 obtain⟨r,a,e⟩:=Kq o.ne;refine UY ((XY (λz=>o.ne (Jd.mp z))).2 _ (Ja.mpr ⟨r,a,rfl⟩)) ?_;rw[e];exact(WX (h r a)).mpr λp hp=>KE (wH.mp hp).1
structure RoundOk (n:Int)(fs:List Jz):Prop where
 len:(fs.length:Int)=n
 low:1<=n
 most:n<=12
 forms:∀f∈fs,FormOk n f
def wW {n:Int}{fs:List Jz}(R:RoundOk n fs){hs:Yh}(h:hs.length=fs.length):∀f∈fs,Over f hs:=λf b=>⟨(R.forms f b).ne,λr a=>((R.forms f b).rows r a).ne,λr a=>((R.forms f b).rows r a).once,λr a p hp=>by
 have:=((R.forms f b).rows r a).mem p hp;have:=R.len;lia⟩
def cK (fs:List Jz):D:=.lst (fs.map ji)
@[simp]def vV (fs:List Jz):WQ (cK fs)=some (fs.map ji):=rfl
open L2.ST
theorem DX:∀{ys a:Yh},a.Pairwise (· < ·)->ys.Pairwise (· < ·)->(∀x∈a,x∈ys)->a.length<=ys.length/\(a.length=ys.length->a=ys)
 | [],a,_,_,h=>by
  cases a with
  |nil=>simp
  |cons x a=>cases h x Zqs
 |y::ys,[],_,_,_=>by simp
 |y::ys,x::a,hx,hy,h=>by
  rw[List.pairwise_cons] at hx hy;rcases UV.mp (h x Zqs) with q|q
  .obtain⟨b,c⟩:=DX hx.2 hy.2 λz hz=>by
    grind
   simp_all
  .obtain⟨b,_⟩:=DX (Ji.mpr hx) hy.2 λz hz=>by
    grind
   grind
theorem Lf:∀{a b:Jy},a.map (·.1)=b.map (·.1)->(∀(i:Nat) p q,a[i]? = some p->b[i]? = some q->p.2<=q.2)->a≠b->j5 a b=true
 | [],[],_,_,h=>Zn rfl h
 | [],_::_,e,_,_=>by simp at e
 |_::_,[],e,_,_=>by simp at e
 |p::a,q::b,e,hw,hn=>by
  have f:=hw 0 p q rfl rfl;rw[V6];by_cases z:p=q
  .rw[Zd z];refine Lf ((List.cons.inj e).2) (λi p q hp c=>hw (i+1) p q hp c) ()
  grind[V5]
def de {a b:Jy}(j:qO a)(e:qO b)(h:JC a b=true)(l:a≠b):zi a b=true:=by
 have u:=zg.mp h;obtain⟨f,g⟩:=DX j e λx m=>by
  obtain⟨p,hp,rfl⟩:=Ja.mp m;obtain⟨w,c,_⟩:=u p hp;exact Ja.mpr ⟨(p.1,w),Qh c,rfl⟩
 rw[Zql,Zql] at f g;rw[X3];rcases Nat.lt_or_eq_of_le f with q|q
 .exact .inl q
 .refine .inr ⟨q,Lf (g q) (λi p r hp n=>?_) l⟩;obtain⟨w,c,o⟩:=u p ();have s:p.1=r.1:=by
   have t:(a.map (·.1))[i]? = some p.1:=by grind
   simp_all
  have:=IZ (Bq e) (Ur n) (Qh c) s.symm
  rwa [this]
def ZL {α: Type}{ltb:α -> α -> Bool}(T:Tot ltb){l:List α}(e:l.Nodup):(JP ltb l).Pairwise λa b=>ltb a b=true:=by
 have c:(JP ltb l).Nodup:=(Qv l).nodup_iff.mpr e;refine List.Pairwise.imp ?_ ((WG T l).and c);rintro a b ⟨f,g⟩;cases q:ltb a b with
 |true=>rfl
 |false=>exact Zn (T.tot _ _ q f) g
def xb (rs:Jz):Jz:=JP zi (JP j5 (qW rs))
theorem fW {rs:Jz}{r:Jy}:r∈xb rs↔r∈rs:=by
 grind[xb,bQ,Qv]
def Lg (rs:Jz):(xb rs).Pairwise λa b=>zi a b=true:=ZL vH ((Qv _).nodup_iff.mpr (Ib rs))
def Lh (rs:Jz):(xb rs).length<=rs.length:=by
 unfold xb;rw[(Qv _).length_eq,(Qv _).length_eq];exact Ic rs
def zp (kept:Jz)(r:Jy):Jz:=if kept.any (λo=>JC o r)=true then kept else kept++[r]
def xP (rs:Jz):Jz:=(xb rs).filter (qg rs)
theorem Li {rs:Jz}(p:∀r∈rs,qO r):∀i,i<=(xb rs).length->((xb rs).take i).foldl zp []=((xb rs).take i).filter (qg rs)
 | 0,_=>by simp
 |i+1,hi=>by
  have G:=Li p i ();have st:=Lg rs;have s:∀r,r∈xb rs↔r∈rs:=λr=>fW;generalize xb rs=L at hi G st s;have a:i<L.length:=()
  rw[Kv (Zqg a),Vp,List.filter_append,G];have t:∀o∈L.take i,zi o L[i]=true:=λo c=>by
   obtain⟨j,u,rfl⟩:=UG c;rw[Uf] at u;rw[List.getElem_take];exact Jj.mp st j i () a ()
  have v:=(s L[i]).mp (UK a);show zp ((L.take i).filter (qg rs)) L[i]=_;unfold zp;cases q:qg rs L[i] with
  |true =>
   have low:=wE.mp q;rw[Ze,List.filter_cons_of_pos q,List.filter_nil];intro z;obtain⟨o,c,y⟩:=VH.mp z;have c:=(Jf.mp c).1;have e:=low o ((s o).mp (List.mem_of_mem_take c)) y;have b:=t o c;rw[e] at b;have:=vH.asy _ _ b;rw[b] at this;cases this
  |false =>
   have J:¬ ∀o∈rs,JC o L[i]=true->o=L[i]:=λz=>by rw[wE.mpr z] at q;cases q
   obtain⟨o,c,y,hne⟩:∃o∈rs,JC o L[i]=true/\o≠L[i]:=by
    apply Classical.byContradiction;intro z;exact by grind
   obtain⟨g,A,B⟩:=DV (rs:=rs.filter λo=>JC o L[i]) (λz=>by
    have:o∈rs.filter λo=>JC o L[i]:=Jf.mpr ⟨c,y⟩;rw[z] at this;cases this) λr h=>⟨Bq (p r (Jf.mp h).1),()⟩
   obtain⟨H,C⟩:=Jf.mp A;have l:qg rs g=true:=wE.mpr λx I m=>B x (Jf.mpr ⟨I,Kp m C⟩) m;have n:g≠L[i]:=by grind
   have E:=de (p g H) (p _ v) C n;have f:g∈L.take i:=by
    obtain⟨j,u,F⟩:=UG ((s g).mpr H);rcases UW j i with w|w|w
    .rw[<- F,List.mem_take_iff_getElem];exact by grind
    .subst w;exact Zn F.symm n
    .have b:=Jj.mp st i j a u w;rw[F] at b;have:=vH.asy _ _ b;rw[E] at this;cases this
   rw[Zd (VH.mpr ⟨g,Jf.mpr ⟨f,l⟩,C⟩),List.filter_cons_of_neg (by rw[q];simp),List.filter_nil,ZA]
def Lj (rs:Jz):JP j5 (xP rs)=JU rs:=by
 have c:(xP rs).Nodup:=by
  have:(xb rs).Nodup:=by
   refine(Lg rs).imp λ{a b} h e=>?_;subst e;have:=vH.asy _ _ h;rw[h] at this;cases this
  exact List.Pairwise.sublist (List.filter_sublist) this
 refine WI xY (ZL xY c) (ZL xY ((Bp rs rs []).2.2 Vw)) λr=>?_
 grind[xP,xJ,fW,Qv]
structure PairsOk (ts:Yh)(r:Jy):Prop where
 ne:r ≠ []
 len:r.length<=4
 mem:∀p∈r,p.1∈ts
 up:r.Pairwise λp q=>p.1<q.1
def sY {r:Jy}(h:r.Pairwise λp q=>p.1<q.1):j6 r:=by
 grind[j6,List.Nodup,List.pairwise_map]
def PairsOk.row {a:Yh}{r:Jy}(T:ThingsOk a)(P:PairsOk a r):RowOk 12 r:=⟨P.ne,sY P.up,λp hp=>T.rng _ (P.mem p hp),Zh P.len ()⟩
def cg {s r:Jy}{hs:Yh}(a:s ≠ [])(e:j6 r)(h:JC s r=true):JD s hs<=JD r hs:=by
 rw[WX a];intro p hp;obtain⟨w,b,c⟩:=zg.mp h p hp;have:=KE (hs:=hs) (Qh b)
 grind
def X9 {rs:Jz}(ok:∀r∈rs,j6 r/\qO r){r:Jy}(e:r∈rs):∃s∈JU rs,JC s r=true:=by
 have i:=zg.mpr λp hp=>⟨p.2,(ok r e).1.look hp,US _⟩;have ne:rs.filter (λo=>JC o r) ≠ []:=λz=>by
  simp_all
 obtain⟨m,f,h⟩:=DV ne ();obtain⟨b,a⟩:=Jf.mp f;exact⟨m,xJ.mpr ⟨b,wE.mpr λo g c=>h o (Jf.mpr ⟨g,Kp c a⟩) c⟩,a⟩
def dW {rs:Jz}{hs:Yh}(j:rs ≠ [])(ok:∀r∈rs,r ≠ []/\j6 r/\qO r):J5 (JU rs) hs=J5 rs hs:=by
 obtain⟨r,i,e⟩:=Kq (hs:=hs) j;obtain⟨s,f,l⟩:=X9 (λr h=>(ok r h).2) i;have a:=QL (hs:=hs) f;have b:=cg (hs:=hs) (ok s (xJ.mp f).1).1 (ok r i).2.1 l;have ne:JU rs ≠ []:=λz=>by rw[z] at f;cases f
 obtain⟨m,g,n⟩:=Kq (hs:=hs) ne;have c:=QL (hs:=hs) (xJ.mp g).1;lia
def tN {f g:Jz}(h:f.length+g.length<=1000):j8 (ji f) (ji g)=some (ji (f++g)):=by
 show(if(f.map j3).length+(g.map j3).length<=sizeLine then _ else _)=_;rw[Zql,Zql,Zd (Q6 h)];unfold ji;rw[Uc]
def W3 (rs:Jz):(JU rs).Pairwise λa b=>j5 a b=true:=ZL xY ((Bp rs rs []).2.2 Vw)
structure JRow (r:Jy):Prop where
 ne:r ≠ []
 rise:qO r
 bnd:∀p∈r,0<=p.1/\p.1<12
def JRow.once {r:Jy}(h:JRow r):j6 r:=Bq h.rise
def JRow.len {r:Jy}(h:JRow r):r.length<=12:=by
 have b:∀(l:Yh) (a:Int),l.Pairwise (· < ·)->(∀x∈l,a<=x/\x<12)->(l.length:Int)<=max 0 (12-a):=by
  intro l
  induction l with
  |nil=>simp;lia
  |cons x l c =>
   intro a hp e;rw[List.pairwise_cons] at hp;have g:=e x Zqs;have:=c (x+1) hp.2 ();rw[Zu];lia
 have:=b _ 0 h.rise λx f=>by
  obtain⟨p,hp,rfl⟩:=Ja.mp f;exact h.bnd p hp
 grind
def asc (x:Str):Prop:=x.cps.all (· < 128)=true
def fT {x:Str}:asc x↔∀c∈x.cps.toList,c<128:=by
 unfold asc;rw[<- Array.all_toList,VN];simp
def tO (a b:Str):(a++b).length=a.length+b.length:=Array.size_append
def t7 (a b:Str):(a++b).cps.toList=a.cps.toList++b.cps.toList:=Array.toList_append
def tP {a b:Str}(f:asc a)(g:asc b):asc (a++b):=fT.mpr λc e=>by
 rw[t7] at e;rcases Jb.mp e with h|h
 .exact fT.mp f c h
 .exact fT.mp g c h
structure TxtOk (n:Nat)(x:Str):Prop where
 len:x.length<=n
 asc:asc x
def TxtOk.app {m n:Nat}{a b:Str}(c:TxtOk m a)(e:TxtOk n b):TxtOk (m+n) (a++b):=⟨by rw[tO];have:=c.len;have:=e.len;lia,tP c.asc e.asc⟩
def TxtOk.mono {m n:Nat}{a:Str}(b:TxtOk m a)(h:m<=n):TxtOk n a:=⟨Zh b.len h,b.asc⟩
def XA {n:Nat}{x:Str}(h:(decide (x.length<=n)&&x.cps.all (· < 128))=true):TxtOk n x:=by
 rw[Uh] at h;exact⟨of_decide_eq_true h.1,h.2⟩
def DY {m n:Nat}{a b:Str}(c:TxtOk m a)(e:TxtOk n b)(h:m+n<=1000):j8 (.str a) (.str b)=some (.str (a++b)):=Zd (Q6 (by have:=c.len;have:=e.len;lia))
def dz:∀k:Fin 64,(Nat.ble (k.val:Int).natAbs.log2 1900=true)/\(decide ((toString (k.val:Int):Str).length<=2)&&(toString (k.val:Int):Str).cps.all (· < 128))=true:=by decide +kernel
def jP (k:Nat):Str:=(toString (k:Int):Str)
def Bt {k:Nat}(h:k<64):yQ [.int (k:Int)]=some (.str (jP k))/\TxtOk 2 (jP k):=by
 obtain⟨a,b⟩:=dz ⟨k,h⟩;exact⟨Zd a,XA b⟩
def low (x:Str):Prop:=∀c∈x.cps.toList,97<=c/\c<123
@[simp]def mw (n:Nat)(g:FS)(a b c d e:D):jF n 5 g [a,b,c,d,e]=(g (some (.val a)::some (.val b)::some (.val c)::some (.val d)::some (.val e)::List.replicate (n-5) none)).bind xp:=rfl
structure Pl where
 name:Str
 givens:Yk
 rows:List (Str×Str×Jy)
def jG (r:Str×Str×Jy):D:=.tup [.str r.1,.str r.2.1,j3 r.2.2]
def DZ (p:Pl):D:=.tup [.str p.name,.lst (p.givens.map .str),.lst (p.rows.map jG)]
def JH (p:Pl):D:=.ins "Plan" ["name", "givens", "rows"] [.str p.name,.lst (p.givens.map .str),.lst (p.rows.map jG)]
def JA (ps:List Pl):D:=.ins "Book" ["plans"] [.lst (ps.map JH)]
def uX (p:Str×Int):D:=.tup [.str p.1,.int p.2]
@[simp]def gj (r:Str×Str×Jy):qf (jG r) (.int 0)=some (.str r.1):=rfl
@[simp]def gi (r:Str×Str×Jy):qf (jG r) (.int 1)=some (.str r.2.1):=rfl
@[simp]def gh (r:Str×Str×Jy):qf (jG r) (.int 2)=some (j3 r.2.2):=rfl
@[simp]def pH (p:Pl):qf (DZ p) (.int 0)=some (.str p.name):=rfl
@[simp]def pP (p:Pl):qf (DZ p) (.int 1)=some (.lst (p.givens.map .str)):=rfl
@[simp]def pp (p:Pl):qf (DZ p) (.int 2)=some (.lst (p.rows.map jG)):=rfl
@[simp]def gm (p:Str×Int):qf (uX p) (.int 0)=some (.str p.1):=rfl
@[simp]def gk (p:Str×Int):qf (uX p) (.int 1)=some (.int p.2):=rfl
@[simp]def pB (ps:List Pl):jH "Book" "plans" (JA ps)=some (.lst (ps.map JH)):=rfl
@[simp]def gz (p:Pl):jH "Plan" "name" (JH p)=some (.str p.name):=rfl
@[simp]def pU (p:Pl):jH "Plan" "givens" (JH p)=some (.lst (p.givens.map .str)):=rfl
@[simp]def gy (p:Pl):jH "Plan" "rows" (JH p)=some (.lst (p.rows.map jG)):=rfl
def Lk {n:Nat}{x:Str}(h:asc x):qI (n+1) (.str x)=true:=by
 show PyData.strOk x=true;unfold PyData.strOk;rw[<- Array.all_toList,VN];exact λc a=>Zp (Ug (fT.mp h c a) ())
def dR {α: Type}{f:Nat -> α}{n:Nat}(h:((List.range n).map f).Nodup){a b:Nat}(c:a<n)(g:b<n)(e:f a=f b):a=b:=by
 have h:=Jj.mp (UX.mp h)
 grind
def rn (l:Yj):Bool:=l[0]? == some 120||l[0]? == some 121||l[0]? == some 113||l[2]? == some 113
structure WB (ps:List Pl):Prop where
 l1:1<=ps.length
 l2:ps.length<=20
 nd:(ps.map (·.name)).Nodup
 ok:∀p∈ps,TxtOk 12 p.name/\1<=p.name.length/\p.name ≠ "all" /\ p.name ≠ "first"
 how:∀(i:Nat) (p:Pl),ps[i]? = some p->∀r∈p.rows,r.2.1 = "all" \/ r.2.1 = "first" \/ r.2.1∈(ps.take i).map (·.name)
 sz:∀p∈ps,p.rows.length<=40/\p.givens.length<=12
@[simp]def bq (is:Yj)(f:FE)(sd:SD):fx is f sd=(f (qN is sd)).bare.bind λd=>if Ir d then .ok d else .no:=rfl
@[simp]def b0 (c:Str)(names:Yk)(a:YG->Res YG)(b:FA)(sd:SD):Bf c names a b sd=(b sd).bind λds=>(a ds).bind λes=>.ok (.ins c names es):=rfl
@[simp]def dN (i j k:Nat)(r:Str×Str×Jy)(sd:SD):JO (.tup [i,j,k]) (jG r) sd=.ok (((sd.set i (some (.val (.str r.1)))).set j (some (.val (.str r.2.1)))).set k (some (.val (j3 r.2.2)))):=rfl
@[simp]def pk (x:Str):Q2 (.str x)=some (.inr x):=rfl
def dT (t:List (Str×Int)):D:=.dct (t.map λp=>.inr p.1) (t.map λp=>.int p.2)
def yG (t:List (Str×Int))(x:Str):Option Int:=(t.find? λp=>decide (p.1=x)).map (·.2)
def tM {a b:Str}:((UN a:j0)=.inr b)↔a=b:=()
theorem Ea:∀(t:List (Str×Int)) (x:Str),jE (t.map λp=>.inr p.1) (t.map λp=>.int p.2) (.inr x)=(yG t x).map .int
 | [],_=>rfl
 |p::t,x=>by
  rw[Zl,Zl];unfold jE yG;rw[List.find?_cons];by_cases h:p.1=x
  .simp_all
  .rw[Ze (λz=>h (tM.mp z)),Zo h];exact Ea t x
@[simp]def rC (t:List (Str×Int))(x:Str):qf (dT t) (.str x)=(yG t x).map .int:=Ea t x
@[simp]def rE (a:Bool)(t:List (Str×Int))(x:Str):wA a (.str x) (dT t)=some (.bl (if a then !(yG t x).isSome else(yG t x).isSome)):=by
 show some (D.bl (if a then !(jE (t.map λp=>.inr p.1) (t.map λp=>.int p.2) (.inr x)).isSome else(jE (t.map λp=>.inr p.1) (t.map λp=>.int p.2) (.inr x)).isSome))=_;rw[Ea,Option.isSome_map]
def bP {t:List (Str×Int)}{x:Str}:yG t x=none↔x∉t.map (·.1):=by
 grind[yG,Option.map_eq_none_iff,List.find?_eq_none]
def tj {a b:List (Str×Int)}{x:Str}(h:x∉a.map (·.1)):yG (a++b) x=yG b x:=by
 unfold yG;rw[List.find?_append,show a.find? (λp=>decide (p.1=x))=none from Option.map_eq_none_iff.mp (bP.mpr h)];rfl
def kJ (x:Str)(v:Int)(b:List (Str×Int)):yG ((x,v)::b) x=some v:=by
 simp_all [yG]
def mQ (how:Str):Bool:=!(decide (how = "all")||decide (how = "first"))
def vS (t:List (Str×Int))(p:Pl):Int:=p.rows.length+((p.rows.filter λr=>mQ r.2.1).map λr=>(yG t r.2.1).getD 0).sum
def vy (t:List (Str×Int))(p:Pl):List (Str×Int):=t++[(p.name,vS t p)]
def yy (ps:List Pl):List (Str×Int):=ps.foldl vy []
def tS (ps:List Pl)(p:Pl):yy (ps++[p])=yy ps++[(p.name,vS (yy ps) p)]:=by
 unfold yy;rw[Vp];rfl
theorem Ll:∀(l:List Pl) (t:List (Str×Int)),∃u,l.foldl vy t=t++u
 | [],t=>⟨[],()⟩
 |p::l,t=>by
  obtain⟨u,e⟩:=Ll l (vy t p)
  simp_all [vy]
theorem Lm:∀(l:List Pl) (t:List (Str×Int)),(l.foldl vy t).map (·.1)=t.map (·.1)++l.map (·.name)
 | [],t=>by simp
 |p::l,t=>by
  rw[U4,Lm l];unfold vy;simp
theorem Eb (l:List Pl):(yy l).map (·.1)=l.map (·.name):=by
 unfold yy;rw[Lm];rfl
def WB.fresh {ps:List Pl}(W:WB ps){i:Nat}{p:Pl}(f:ps[i]? = some p):p.name∉(yy (ps.take i)).map (·.1):=by
 rw[Eb];intro z;have a:i<ps.length:=();obtain⟨y,b,e⟩:=Ja.mp z;obtain⟨j,c,g⟩:=UG b;rw[Uf] at c;have h:=Jj.mp (UX.mp W.nd) j i () a ()
 simp_all
def WB.at {ps:List Pl}(W:WB ps){i:Nat}{p:Pl}(a:ps[i]? = some p):yG (yy ps) p.name=some (vS (yy (ps.take i)) p):=by
 have e:yy ps=(ps.drop (i+1)).foldl vy (yy (ps.take i)++[(p.name,vS (yy (ps.take i)) p)]):=by
  rw[<- tS];unfold yy;rw[<- Vp];have tk:ps.take (i+1)=ps.take i++[p]:=by rw[Vr,a];rfl
  rw[<- tk,UI]
 obtain⟨u,b⟩:=Ll (ps.drop (i+1)) (yy (ps.take i)++[(p.name,vS (yy (ps.take i)) p)]);rw[e,b,Ud,tj (W.fresh a)];exact kJ _ _ _
def WB.part {ps:List Pl}(W:WB ps){i:Nat}{p:Pl}(c:ps[i]? = some p){r:Str×Str×Jy}(f:r∈p.rows):(yG (yy (ps.take i)) r.2.1).isSome=mQ r.2.1:=by
 have a:∀w:Str,(∀y∈ps,y.name≠w)->yG (yy (ps.take i)) w=none:=λw g=>bP.mpr (by
  grind[Eb])
 rcases W.how i p c r f with z|z|z
 .rw[z,a "all" λy b=>(W.ok y b).2.2.1]
  decide +kernel
 .rw[z,a "first" λy b=>(W.ok y b).2.2.2]
  decide +kernel
 .have j:(yG (yy (ps.take i)) r.2.1).isSome=true:=by
   cases h:yG (yy (ps.take i)) r.2.1 with
   |some v=>rfl
   |none=>exact Zn (by rwa [Eb]) (bP.mp h)
  obtain⟨y,b,e⟩:=Ja.mp z;have ok:=W.ok y ()
  simp_all [mQ]
@[simp]def nu (a:FE)(sd:SD)(hp:HP):xf a sd hp=(a sd).bind λd=>.ok (d,hp):=rfl
@[simp]def t5 (g:D->D->YH)(a b:jQ)(sd:SD)(hp:HP):qJ g a b sd hp=(a sd hp).bind λp=>(b sd p.2).bind λq=>(Res.ofO (g p.1 q.1)).bind λz=>.ok (z,q.2):=rfl
@[simp]def pq (a:YG->HP->Res (D×HP))(b:FA)(sd:SD)(hp:HP):Qi a b sd hp=(b sd).bind λds=>a ds hp:=rfl
@[simp]def gS (sd:SD)(hp:HP):W1 sd hp=.ok ([],hp):=rfl
@[simp]def dQ (f:jQ)(g:xx)(sd:SD)(hp:HP):QB f g sd hp=(f sd hp).bind λp=>(g sd p.2).bind λq=>.ok (p.1::q.1,q.2):=rfl
@[simp]def gR (a:xx)(sd:SD)(hp:HP):ZF a sd hp=(a sd hp).bind λp=>if p.1.length<=1000 then .ok (.tup p.1,p.2) else .no:=rfl
@[simp]def p4 (i:Nat)(f:jQ)(sd:SD)(hp:HP):X5 i f sd hp=(f sd hp).bind λp=>.ok (.next (sd.set i (some (.val p.1))) p.2):=rfl
@[simp]def b6 (i:Nat)(g:jQ)(sd:SD)(hp:HP):zw i g sd hp=g (qN [i] sd) hp:=rfl
@[simp]def bp (is:Yj)(f:FE)(sd:SD)(hp:HP):wI is f sd hp=(f (derI hp is sd)).strict.bind λd=>if K8 d then .ok (d,hp) else .no:=rfl
def eK (g:jQ):Out2->Res (D×HP)
 | .next sd hp=>g sd hp
 |_=>.no
@[simp]def bE (g:jQ)(sd:SD)(hp:HP):eK g (.next sd hp)=g sd hp:=rfl
@[simp]def Bu (a:qo)(g:jQ)(sd:SD)(hp:HP):qV a g sd hp=(a sd hp).bind (eK g):=by
 rfl
@[simp]def Wg (a:ze)(b g:jQ)(sd:SD)(hp:HP):gZ a b g sd hp=(a sd hp).bind λp=>if p.1 then b sd p.2 else g sd p.2:=rfl
def tK (p:D×HP):Res (Bool×HP):=match p.1 with
 | .bl b=>.ok (b,p.2)
 |_=>.no
@[simp]def rh (b:Bool)(hp:HP):tK (.bl b,hp)=.ok (b,hp):=rfl
@[simp]def pf (f:jQ)(sd:SD)(hp:HP):DI f sd hp=(f sd hp).bind tK:=rfl
def jv (p:Int):D:=.lst [.int p]
def XB (a:Addr)(d:D):jl [(a,d)] a=some d:=Zd rfl
def tJ (a:Addr)(d e:D):We [(a,d)] a e=[(a,e)]:=Zd rfl
def Ln (a:Addr)(d:D)(R:HP):jl ((a,d)::R) a=some d:=Zd rfl
def d9 (a:Addr)(d e:D)(R:HP):We ((a,d)::R) a e=(a,e)::R:=Zd rfl
def Lo {fo fi:FE}{sd:SD}{a:Addr}{p:Int}{R:HP}(b:fo sd=.ok (.adr a))(c:fi sd=.ok (.int 0)):zm fo fi sd ((a,jv p)::R)=.ok (.int p,(a,jv p)::R):=by
 unfold zm;rw[b,jh];show(match jl ((a,jv p)::R) a with
  |some (.lst es)=>(fi sd).bind λk=>(Res.ofO (qf (.lst es) k)).bind λz=>.ok (z,(a,jv p)::R)
  |_=>.no)=_
 rw[Ln,c];rfl
def Bv {i:Nat}{f:jQ}{sd:SD}{d d1 v:D}(h:sd[i]? = some (some (.own false d)))(b:∀a,f (sd.set i (some (.val (.adr a)))) [(a,d)]=.ok (v,[(a,d1)])):xK i f sd=.ok (v,sd.set i (some (.own false d1))):=by
 unfold xK;rw[h];refine TW λa=>?_
 simp_all [XB]
def Bw {n ar:Nat}{g:jQ}{ds:YG}{a:Addr}{d d1 v:D}(h:ds.length=ar)(b:g (JW n ds) [(a,d)]=.ok (v,[(a,d1)])):Qq n ar g ds [(a,d)]=.ok (v,[(a,d1)]):=by
 simp_all [Qq]
def dS {n ar:Nat}{g:jQ}{ds:YG}{a:Addr}{d d1 v:D}{R:HP}(h:ds.length=ar)(b:g (JW n ds) ((a,d)::R)=.ok (v,(a,d1)::R)):Qq n ar g ds ((a,d)::R)=.ok (v,(a,d1)::R):=by
 simp_all [Qq]
def sS {j:Int}(h:0<=j)(a:j<10000000000000000000000000000000000000000):j.natAbs<xW:=Zg (show j.natAbs<10000000000000000000000000000000000000000 from ()) (Vx rfl)
def wO {a:qo}{b:jQ}{sd sd':SD}{hp hp':HP}{r:Res (D×HP)}(h:a sd hp=.ok (.next sd' hp'))(c:b sd' hp'=r):qV a b sd hp=r:=by
 rwa [Bu,h]
def Kr {g:FS}{sd sd':SD}{hp:HP}(h:g sd=.ok (.next sd')):ya g sd hp=.ok (.next sd' hp):=by
 rw[TL,h];rfl
def ZM {i:Nat}{f:FX}{sd sd':SD}{v:D}(h:f sd=.ok (v,sd')):X7 i f sd=.ok (.next (sd'.set i (some (.val v)))):=by
 rw[TY,h];rfl
def Ec {i:Nat}{f:FX}{sd sd':SD}{v:D}{ds ds':YG}(a:sd[i]? = some (some (.own false (.lst ds'))))(h:f sd=.ok (v,sd'))(b:sd'[i]? = some (some (.own false (.lst ds))))(c:ds.length<sizeLine):WV i f sd=.ok (.next (sd'.set i (some (.own false (.lst (ds++[v])))))):=by
 simp_all [WV]
def XC {i:Nat}{sd:SD}{p m:Int}{b:YG->HP->Res (D×HP)}(f:∀a,b [.adr a,.int m] [(a,jv p)]=.ok (.int (p % m),[(a,jv (p / m))]))(h:sd[i]? = some (some (.own false (jv p))))(c:FE)(j:∀a,c (sd.set i (some (.val (.adr a))))=.ok (.int m))(g:D->D->YH)(e:FE){d z:D}(l:∀a,e (sd.set i (some (.val (.adr a))))=.ok d)(hz:g d (.int (p % m))=some z):
 xK i (qJ g (xf e) (Qi b (J0 (jb i) (J0 c jc)))) sd=.ok (z,sd.set i (some (.own false (jv (p / m))))):=by
 refine Bv h λa=>?_;have n:(sd.set i (some (.val (.adr a))))[i]? = some (some (.val (.adr a))):=by
  grind
 simp_all
def QY {x y:Str}(a:asc x)(b:asc y):qU (.str x) (.str y)=some (.bl (decide (x=y))):=by
 rw[CU (Lk a) (Lk b)]
 simp_all [Qp]
def W4:asc "all" := by unfold asc;decide +kernel
def W5:asc "first" := by unfold asc;decide +kernel
def Lp:qU (.str "all") (.str "all")=some (.bl true):=by rw[QY W4 W4];congr 2
def Lq:qU (.str "first") (.str "all")=some (.bl false):=by rw[QY W5 W4];congr 2
def Lr:qU (.str "first") (.str "first")=some (.bl true):=by rw[QY W5 W5];congr 2
def x5 (found:Yh)(its:Jy):Yh:=its.map λp=>jz found p.1+p.2
def vY (found:Yh)(r:Str×Str×Jy):Int:=if r.2.1 = "all" then jW (x5 found r.2.2) else q0 (x5 found r.2.2)
def zS (a:List (Str×Str×Jy))(hs:Yh):Yh:=a.foldl (λf r=>f++[vY f r]) hs
structure RowsOk (n:Nat)(rows:List (Str×Str×Jy)):Prop where
 len:rows.length<=60
 pos:1<=rows.length
 how:∀r∈rows,r.2.1 = "all" \/ r.2.1 = "first"
 ne:∀r∈rows,r.2.2 ≠ []
 sh:∀r∈rows,r.2.2.length<=60
 rng:∀(k:Nat) r,rows[k]? = some r->∀p∈r.2.2,0<=p.1/\p.1<(n:Int)+k
theorem AV:∀(a:List (Str×Str×Jy)) (hs:Yh),(zS a hs).length=hs.length+a.length
 | [],hs=>rfl
 |r::a,hs=>by
  show(zS a (hs++[vY hs r])).length=_;rw[AV a,Ua,Uj,Zu];lia
def sk {found:Yh}{its:Jy}(h:its ≠ []):x5 found its ≠ []:=λz=>h (Jd.mp z)
def tH (found:Yh)(its:Jy):(x5 found its).length=its.length:=by unfold x5;rw[Zql]
def tq {found:Yh}{its:Jy}(h:∀p∈its,0<=p.1/\p.1<(found.length:Int)):qh (.tup [0,1]) (jo j8 (jo qf (jb 2) (jb 0)) (jb 1)) [none,none,some (.val (.lst (found.map .int)))] (its.map qM)=.ok ((x5 found its).map .int):=by
 unfold x5;rw[Zw];exact K0 λp hp=>by
  have:=ZK (h p hp).1 (h p hp).2;simp[this]
def RowsOk.at {n:Nat}{a:List (Str×Str×Jy)}(ok:RowsOk n a){hs:Yh}(c:hs.length=n){i:Nat}{r:Str×Str×Jy}(h:a[i]? = some r):(∀p∈r.2.2,0<=p.1/\p.1<((zS (a.take i) hs).length:Int))/\(zS (a.take i) hs).length=n+i/\i<a.length/\r∈a:=by
 have b:=(Jc.mp h).1;have e:(zS (a.take i) hs).length=n+i:=by rw[AV,Uf];lia
 refine⟨λp hp=>?_,e,b,Ur h⟩;have:=ok.rng i r h p hp;lia
def Ed {α: Type}{f:α -> D}(ys:List α)(x:α):qf (.lst ((ys++[x]).map f)) (.int (-1))=some (f x):=by
 show qQ ((ys++[x]).map f) (-1)=_;unfold qQ yf;rw[Ze (),Zd (by rw[Zql,Ua,Uj];lia)];have e:((-1:Int)+(((ys++[x]).map f).length:Int)).toNat=ys.length:=by
  rw[Zql,Ua,Uj];lia
 simp_all
def Ee {α: Type}{l:List α}(h:l ≠ []):∃ys x,l=ys++[x]:=⟨l.dropLast,l.getLast h,(List.dropLast_concat_getLast h).symm⟩
def zh {a b:qo}{sd sd':SD}{hp hp':HP}{r:Res Out2}(h:a sd hp=.ok (.next sd' hp'))(c:b sd' hp'=r):Q9 a b sd hp=r:=by
 rwa [TM,h]
def Ls {c:vw}{a b:qo}{sd:SD}{hp:HP}{r:Res Out2}(h:c sd hp=.ok true)(e:a sd hp=r):zn c a b sd hp=r:=by
 rwa [Iz,h]
def Lu {c:vw}{b a:qo}{sd:SD}{hp:HP}{r:Res Out2}(h:c sd hp=.ok false)(e:a sd hp=r):zn c b a sd hp=r:=by
 rwa [Iz,h]
def dc {i:Nat}{f:jQ}{sd:SD}{b:Addr}{c d d1 v:D}(h:sd[i]? = some (some (.own false d)))(j:∀a,a≠b->f (sd.set i (some (.val (.adr a)))) [(a,d),(b,c)]=.ok (v,[(a,d1),(b,c)])):ZH i f sd [(b,c)]=.ok (v,sd.set i (some (.own false d1)),[(b,c)]):=by
 unfold ZH;rw[h];have e:∀a,jl [(b,c)] a=none↔a≠b:=λa=>by
  simp_all [Q4,Bg]
 refine t4 ⟨b+1,()⟩ λa g=>?_;rw[j a ((e a).mp g),jh];exact Zd ⟨rfl,g⟩
def db {i:Nat}{f:vO}{sd sd':SD}{hp hp':HP}{v:D}(h:f sd hp=.ok (v,sd',hp')):Bm i f sd hp=.ok (.next (sd'.set i (some (.val v))) hp'):=by
 unfold Bm;rw[h];rfl
def da {f:FX}{tg:Tg}{b:qo}{sd sd':SD}{hp:HP}{n:Nat}(h:f sd=.ok (.int n,sd'))(a:n<=1000):Bn f tg b sd hp=qi (QU tg b) (JS 0 n) sd' hp:=by
 unfold Bn;rw[h,jh];exact Zd (GF () ())
@[simp]def gU (fo fi:jQ)(sd:SD)(hp:HP):DQ fo fi sd hp=(fo sd hp).bind λp=>(fi sd p.2).bind (kL p.1):=rfl
@[simp]def pZ (a:YG->HP->Res (D×HP))(b:xx)(sd:SD)(hp:HP):DR a b sd hp=(b sd hp).bind λp=>a p.1 p.2:=rfl
def sM {a b:Addr}{d z:D}{es:YG}{k:Int}(h:a≠b)(hz:qQ es k=some z):kL (.adr a) (.int k,[(b,d),(a,.lst es)])=.ok (z,[(b,d),(a,.lst es)]):=by
 simp_all [kL,Q4]
def m8:Pl:=⟨"",[],[]⟩
abbrev Rw:=Str×Str×Jy
structure RwP (ps:List Pl)(n:Int)(r:Rw):Prop where
 nm:asc r.1
 how:r.2.1 = "all" \/ r.2.1 = "first" \/ ∃q∈ps,r.2.1=q.name/\r.2.2.length=q.givens.length
 ne:r.2.2 ≠ []
 sh:r.2.2.length<=10
 rng:∀p∈r.2.2,0<=p.1/\p.1<n
 wt:∀p∈r.2.2,-1000000000000000000000000000000<=p.2/\p.2<=1000000000000000000000000000000
structure PlP (ps:List Pl)(p:Pl):Prop where
 g1:1<=p.givens.length
 g2:p.givens.length<=4
 r1:1<=p.rows.length
 r2:p.rows.length<=8
 row:∀(k:Nat) r,p.rows[k]? = some r->RwP ps ((p.givens.length:Int)+k) r
structure BkP (ps:List Pl):Prop where
 len:ps.length<=4
 nm:∀(i:Nat) p,ps[i]? = some p->p.name = "p" ++ jP i
 ok:∀(i:Nat) p,ps[i]? = some p->PlP (ps.take i) p
def sT:((List.range 4).map λk=>(("p" : Str)++jP k).cps.toList).Nodup:=by decide +kernel
def Ef {i j:Nat}(a:i<4)(b:j<4)(e:("p" : Str)++jP i = "p" ++ jP j):i=j:=dR sT a b (by rw[e])
def tz:∀k:Fin 4,(decide ((("p" : Str)++jP k.1).length<=3)&&(("p" : Str)++jP k.1).cps.all (· < 128))=true/\(("p" : Str)++jP k.1).cps.toList≠("all" : Str).cps.toList/\(("p" : Str)++jP k.1).cps.toList≠("first" : Str).cps.toList:=by decide +kernel
def sw {k:Nat}(h:k<4):TxtOk 3 ("p" ++ jP k)/\("p" : Str)++jP k ≠ "all" /\ ("p" : Str)++jP k ≠ "first" := have ⟨a,b,c⟩:=tz ⟨k,h⟩;⟨XA a,(),()⟩
def BkP.at {ps:List Pl}(B:BkP ps){i:Nat}{p:Pl}(h:ps[i]? = some p):i<ps.length/\i<4/\asc p.name/\p.name ≠ "all" /\ p.name ≠ "first" := by
 have a:=(Jc.mp h).1;have l:=B.len;obtain⟨b,c,e⟩:=sw (show i<4 from ());rw[B.nm i p h];exact⟨a,(),b.asc,c,e⟩
theorem BkP.find {ps:List Pl}(B:BkP ps){i:Nat}{p:Pl}(h:ps[i]? = some p):ps.find? (λq=>decide (q.name=p.name))=some p:=by
 refine IY (i:=i) (λq c=>?_) h (Zp rfl);obtain⟨j,a⟩:=Jm.mp c;have b:=(Jc.mp a).1;rw[Uf] at b;rw[VP ()] at a;have l:=B.len;have f:=(Jc.mp h).1;refine Zo λe=>?_;rw[B.nm i p h,B.nm j q a] at e;have:=Ef () () e;lia
def xL (rc:Str->List Int->Int)(found:Yh)(r:Rw):Int:=if r.2.1 = "all" then jW (x5 found r.2.2) else if r.2.1 = "first" then q0 (x5 found r.2.2) else rc r.2.1 (x5 found r.2.2)
def qb (rc:Str->List Int->Int)(a:List Rw)(hs:Yh):Yh:=a.foldl (λf r=>f++[xL rc f r]) hs
def xa (ps:List Pl):Nat->Pl->List Int->List Int
 | 0,_,_=>[]
 |n+1,p,hs=>qb (λx a=>(xa ps n ((ps.find? λq=>decide (q.name=x)).getD m8) a).getLastD 0) p.rows hs
def Lv {rc:Str->List Int->Int}{a:List Rw}{hs:Yh}{i:Nat}{r:Rw}(h:a[i]? = some r):qb rc (a.take (i+1)) hs=qb rc (a.take i) hs++[xL rc (qb rc (a.take i) hs) r]:=by
 simp_all [qb,Vr]
theorem Eg (rc:Str->List Int->Int):∀(a:List Rw) (hs:Yh),(qb rc a hs).length=hs.length+a.length
 | [],hs=>rfl
 |r::a,hs=>by
  show(qb rc a (hs++[xL rc hs r])).length=_;rw[Eg rc a,Ua,Uj,Zu];lia
def di {ps:List Pl}{n:Nat}{p:Pl}{hs:Yh}:(xa ps (n+1) p hs).length=hs.length+p.rows.length:=Eg _ _ _
def dP {ps a:List Pl}{n:Nat}{p:Pl}{hs:Yh}(P:PlP a p):∃ys,xa ps (n+1) p hs=ys++[(xa ps (n+1) p hs).getLastD 0]:=by
 have ne:xa ps (n+1) p hs ≠ []:=λz=>by
  have b:=di (ps:=ps) (n:=n) (p:=p) (hs:=hs);have c:=P.r1
  grind
 obtain⟨ys,x,e⟩:=Ee ne
 simp_all
def PlP.at {a:List Pl}{p:Pl}(P:PlP a p){rc:Str->List Int->Int}{hs:Yh}(f:hs.length=p.givens.length){i:Nat}{r:Rw}(h:p.rows[i]? = some r):(∀y∈r.2.2,0<=y.1/\y.1<((qb rc (p.rows.take i) hs).length:Int))/\(qb rc (p.rows.take i) hs).length=p.givens.length+i/\i<p.rows.length:=by
 have b:=(Jc.mp h).1;have e:(qb rc (p.rows.take i) hs).length=p.givens.length+i:=by rw[Eg,Uf];lia
 refine⟨λy c=>?_,e,b⟩;have:=(P.row i r h).rng y c;lia
def BkP.snoc {ps:List Pl}{p:Pl}(B:BkP ps)(l:ps.length<4)(P:PlP ps p)(b:p.name = "p" ++ jP ps.length):BkP (ps++[p]):=by
 have a:∀(i:Nat) q,(ps++[p])[i]? = some q->(i<ps.length/\ps[i]? = some q)\/(i=ps.length/\q=p):=λi q h=>by
  grind
 refine⟨(),λi q h=>?_,λi q h=>?_⟩
 .rcases a i q h with ⟨_,z⟩|⟨rfl,rfl⟩
  .exact B.nm i q z
  .exact b
 .rcases a i q h with ⟨y,z⟩|⟨rfl,rfl⟩
  .rw[List.take_append_of_le_length ()];exact B.ok i q z
  simp_all
def s0:BkP []:=⟨Ub _,(by intro i p h;cases h),(by intro i p h;cases h)⟩
def BkP.giv {ps:List Pl}(B:BkP ps):∀q∈ps,1<=q.givens.length/\q.givens.length<=4:=λq b=>by
 obtain⟨i,a⟩:=Jm.mp b;exact⟨(B.ok i q a).g1,(B.ok i q a).g2⟩
def BkP.ascs {ps:List Pl}(B:BkP ps):∀q∈ps,asc q.name:=λq a=>have ⟨i,b⟩:=Jm.mp a;(B.at b).2.2.1
def x8 (ps:List Pl)(n:Nat)(x:Str)(a:Yh):Int:=(xa ps n ((ps.find? λq=>decide (q.name=x)).getD m8) a).getLastD 0
def Eh (ps:List Pl)(n:Nat)(p:Pl)(hs:Yh):xa ps (n+1) p hs=qb (x8 ps n) p.rows hs:=rfl
theorem BkP.how {ps:List Pl}(B:BkP ps){i:Nat}{p:Pl}(hp:ps[i]? = some p){k:Nat}{r:Rw}(c:p.rows[k]? = some r):r.2.1 = "all" \/ r.2.1 = "first" \/ (asc r.2.1/\r.2.1 ≠ "all" /\ r.2.1 ≠ "first" /\ ∃j q,j<i/\ps[j]? = some q/\r.2.1=q.name/\r.2.2.length=q.givens.length):=by
 rcases((B.ok i p hp).row k r c).how with z|z|⟨q,z1,z2,z3⟩
 .exact .inl z
 .exact .inr (.inl z)
 .obtain⟨j,a⟩:=Jm.mp z1;have b:=(Jc.mp a).1;rw[Uf] at b;rw[VP ()] at a;obtain⟨_,_,e,f,g⟩:=B.at a;exact .inr (.inr ⟨by rw[z2];exact e,by rw[z2];exact f,by rw[z2];exact g,j,q,(),a,z2,z3⟩)
def BkP.part {ps:List Pl}(B:BkP ps){j n:Nat}{q:Pl}(a:ps[j]? = some q)(b:Yh):∃ys,xa ps (n+1) q b=ys++[x8 ps (n+1) q.name b]:=by
 obtain⟨ys,e⟩:=dP (B.ok j q a);refine⟨ys,?_⟩;unfold x8
 rwa [B.find a]
theorem Lw {α: Type}:∀{l m:List α},l.Nodup->(∀x∈l,x∈m)->l.length<=m.length
 | [],m,_,_=>Ub _
 |x::l,m,h,s=>by
  obtain⟨a,b,rfl⟩:=List.append_of_mem (s x Zqs);obtain⟨e,c⟩:=Jl.mp h;have f:=Lw (m:=a++b) c λy g=>by
   grind
  grind
def x6 (t g:Jz):Jz:=JU (t++g)
structure Fm (n:Int)(U:Jz)(f:Jz):Prop where
 good:Good n f
 sub:∀r∈f,r∈U
def cc {n:Int}{f:Jz}(G:Good n f):f.Nodup:=G.srt.imp λ{a b} h e=>by
 subst e;have:=xY.asy _ _ h;rw[h] at this;cases this
def Fm.len {n:Int}{U f:Jz}(F:Fm n U f)(h:U.length<=28):f.length<=28:=Zh (Lw (cc F.good) F.sub) h
def dD {a b:Jz}{hs:Yh}(g:a ≠ [])(h:b ≠ []):J5 (a++b) hs<=J5 a hs/\J5 (a++b) hs<=J5 b hs/\(J5 (a++b) hs=J5 a hs\/J5 (a++b) hs=J5 b hs):=by
 obtain⟨r,i,e⟩:=Kq (hs:=hs) g;obtain⟨s,c,l⟩:=Kq (hs:=hs) h;have m:=QL (hs:=hs) (List.mem_append_left b i);have n:=QL (hs:=hs) (Ut a c);obtain⟨q,j,o⟩:=Kq (f:=a++b) (hs:=hs) (λz=>g (Jx.mp z).1);refine⟨(),(),?_⟩;rcases Jb.mp j with z|z
 .have:=QL (hs:=hs) z;exact .inl ()
 .have:=QL (hs:=hs) z;exact .inr ()
def Ei:YG->Res YG:=za 2 2 (J0 (jy Kz (J0 (jb 1) jc)) jc)
def Ej:YG->Res YG:=za 4 4 (J0 (jb 1) (J0 (jy Kz (J0 (jb 2) jc)) (J0 (jy Kz (J0 (jb 3) jc)) jc)))
def ZN:FS:=(ju (xz (JF (jo hZ (jb 1) (jy qs (J0 (jb 0) jc)))) (j1 (jo qf (jb 0) (jb 1))) JZ) (j1 (dC (.int 0))))
def W6:YG->Res D:=jF 2 2 ZN
def Ek (ns:Yh)(k:Nat):W6 [.scr ns,.int k]=.ok (.int (QV ns k)):=by
 unfold QV;by_cases h:k<ns.length
 .have e:qQ ns (k:Int)=some ns[k]:=by rw[W2 h];exact by simp
  simp_all [W6,ZN]
 .simp[W6,ZN,h]
def Bx:jQ:=(qV (X5 2 (qJ xQ (zm (jb 0) (dC (.int 0))) (xf (jb 1)))) (qV (Bj (jb 0) (dC (.int 0)) (qJ Bl (zm (jb 0) (dC (.int 0))) (xf (jb 1)))) (xf (jb 2))))
def Ks:YG->HP->Res (D×HP):=Qq 3 2 Bx
def Lx {p m:Int}(a:Addr)(R:HP)(h:0<m)(b:m<10000000000000000000000000000000000000000):Ks [.adr a,.int m] ((a,jv p)::R)=.ok (.int (p % m),(a,jv (p / m))::R):=by
 refine dS rfl ?_;have c:=Lo (fo:=jb 0) (fi:=dC (.int 0)) (sd:=[some (.val (.adr a)),some (.val (.int m)),none]) (p:=p) (R:=R) rfl rfl;have e:Bj (jb 0) (dC (.int 0)) (qJ Bl (zm (jb 0) (dC (.int 0))) (xf (jb 1))) [some (.val (.adr a)),some (.val (.int m)),some (.val (.int (p % m)))] ((a,jv p)::R)=.ok (.next [some (.val (.adr a)),some (.val (.int m)),some (.val (.int (p % m)))] ((a,jv (p / m))::R)):=by
  unfold Bj;rw[t5,(Lo rfl rfl)];simp;rw[(dZ h (sS () b))];show(match jl ((a,jv p)::R) a with
   |some (.lst es)=>_
   |_=>Res.no)=_
  rw[Ln];show Res.ok (Out2.next _ (We ((a,jv p)::R) a (jv (p / m))))=_;rw[d9]
 simp_all [Bx,JW]
def Um {p m:Int}(a:Addr)(h:0<m)(b:m<10000000000000000000000000000000000000000):Ks [.adr a,.int m] [(a,jv p)]=.ok (.int (p % m),[(a,jv (p / m))]):=Lx a [] h b
def ZO:jQ:=(gZ (DI (qJ vM (Qi Ks (J0 (jb 0) (J0 (dC (.int 4)) jc))) (xf (dC (.int 0))))) (qJ qA (Qi Ks (J0 (jb 0) (J0 (dC (.int 9)) jc))) (xf (dC (.int 4)))) (qJ qA (Qi Ks (J0 (jb 0) (J0 (jo j8 (jo xU (dC (.int 2)) (jo qT (dC (.int 10)) (dC (.int 9)))) (dC (.int 1))) jc))) (xf (jo qT (dC (.int 10)) (dC (.int 9))))))
def Bz:YG->HP->Res (D×HP):=Qq 1 1 ZO
def XD (p:Int):Int:=if 0<p % 4 then p / 4 % 9-4 else p / 4 % 2000000001-1000000000
def El (p:Int):Int:=if 0<p % 4 then p / 4 / 9 else p / 4 / 2000000001
def gK {p:Int}(a:Addr):Bz [.adr a] [(a,jv p)]=.ok (.int (XD p),[(a,jv (El p))]):=by
 refine Bw rfl ?_;have b:=Um (p:=p) (m:=4) a () ();have f:=Um (p:=p / 4) (m:=9) a () ();have c:qT (.int 10) (.int 9)=some (.int 1000000000):=rfl;have e:xU (.int 2) (.int 1000000000)=some (.int 2000000000):=rfl;unfold XD El;by_cases h:0<p % 4
 .simp_all [ZO,JW]
 .simp[ZO,JW,b,(Um (m:=2000000001) a () ()),c,e,h]
def B0:jQ:=(qV (ya (qx 3 (qX jc))) (qV (ZE (zt (J0 (jb 2) jc)) (.one 4) (Q9 (X5 5 (Qi Ks (J0 (jb 0) (J0 (jb 1) jc)))) (K2 3 (ZF (QB (xf (jb 5)) (QB (Qi Bz (J0 (jb 0) jc)) W1)))))) (zw 3 (xf (jy Xw (J0 (jb 3) jc))))))
def Em:YG->HP->Res (D×HP):=Qq 6 3 B0
def xN (m p:Int):Nat->Int
 | 0=>p
 |n+1=>El (xN m p n / m)
def En (m p:Int)(k:Nat):Int×Int:=(xN m p k % m,XD (xN m p k / m))
def qF (m p:Int)(n:Nat):Jy:=(List.range n).map (En m p)
def tX (m p:Int)(n:Nat):qF m p (n+1)=qF m p n++[En m p n]:=by
 grind[qF,List.range_succ,List.map_append]
def ZP (m p:Int)(n:Nat):(qF m p n).length=n:=by unfold qF;simp
def gJ {p m:Int}{c:Nat}(a:Addr)(h:0<m)(l:m<1000)(n:c<=10):Em [.adr a,.int m,.int c] [(a,jv p)]=.ok (j3 (qF m p c),[(a,jv (xN m p c))]):=by
 refine Bw rfl ?_;have f:KW [.int c]=.ok (JS 0 c):=by rw[Wx () ()];rfl
 obtain⟨sd',hp',e,u,v,hs,g⟩:=DG (b:=QU (.one 4) (Q9 (X5 5 (Qi Ks (J0 (jb 0) (J0 (jb 1) jc)))) (K2 3 (ZF (QB (xf (jb 5)) (QB (Qi Bz (J0 (jb 0) jc)) W1)))))) (ds:=JS 0 c) (sd:=[some (.val (.adr a)),some (.val (.int m)),some (.val (.int c)),some (.own false (.lst [])),none,none]) (hp:=[(a,jv p)])
  (P:=λi sd hp=>∃u v,sd=[some (.val (.adr a)),some (.val (.int m)),some (.val (.int c)),some (.own false (.lst ((qF m p i).map qM))),u,v]/\hp=[(a,jv (xN m p i))]) ⟨none,none,rfl,rfl⟩ (by
   rintro i x sd hp j ⟨u,v,rfl,rfl⟩;obtain⟨rfl,o⟩:=Xy j;have q:=Um (p:=xN m p i) a h ();have r:=gK (p:=xN m p i / m) a;have hz:=JT (show(qF m p i).length<=1000 by rw[ZP];lia)
   simp_all [tX,K2,xN,En,qM])
 subst hs g;rw[WS] at e;simp[B0,JW,f,e];rfl
def B4:jQ:=(qV (ya (qx 5 (qX (J0 (jo xQ (J8 W6 (J0 (jb 0) (J0 (jb 1) jc))) (jo qT (dC (.int 10)) (dC (.int 9)))) jc)))) (qV (ya (X7 6 (xK 5 (qJ j8 (xf (dC (.int 1))) (Qi Ks (J0 (jb 5) (J0 (dC (.int 4)) jc))))))) (qV (ya (qx 7 (qX jc))) (qV (X5 8 (wI [3] (jo v8 (jb 3) (qX jc)))) (qV (Bn (xK 5 (qJ j8 (xf (dC (.int 1))) (Qi Ks (J0 (jb 5) (J0 (jb 4) jc))))) (.one 9) (Q9 (ya (qx 10 (qX (J0 (jo j8 (jo xU (jo xQ (J8 W6 (J0 (jb 0) (J0 (jo j8 (jo j8 (jb 1) (dC (.int 1))) (jb 9)) jc))) (jo qT (dC (.int 10)) (dC (.int 64)))) (jo qT (dC (.int 10)) (dC (.int 20)))) (jo xQ (J8 W6 (J0 (jb 0) (J0 (jb 1) jc))) (jo qT (dC (.int 10)) (dC (.int 20))))) jc)))) (Q9 (ya (X7 11 (xK 10 (qJ zv (xf (qX (J0 (dC (.str "all")) (J0 (dC (.str "first")) (J0 (dC (.str "all")) (J0 (dC (.str "first")) (J0 (dC (.str "part")) jc))))))) (Qi Ks (J0 (jb 10) (J0 (dC (.int 5)) jc))))))) (Q9 (ya (X7 12 (xK 10 (qJ j8 (xf (dC (.int 1))) (Qi Ks (J0 (jb 10) (J0 (dC (.int 4)) jc))))))) (Q9 (ya (xz (A9 (JF (jo qU (jb 11) (dC (.str "part")))) (JF (jb 8))) (jD 11 (dC (.str "all"))) JZ)) (Q9 (zn (mq (JF (jo qU (jb 11) (dC (.str "part"))))) (Q9 (ya (jD 8 (dC (.bl true)))) (Q9 (Bm 13 (ZH 10 (DQ (xf (jb 3)) (DR Ks (QB (xf (jb 10)) (QB (wI [3] (jy qs (J0 (jb 3) jc))) W1)))))) (Q9 (ya (jD 11 (qB (jH "Plan" "name") (jb 13)))) (ya (jD 12 (jy qs (J0 (qB (jH "Plan" "givens") (jb 13)) jc))))))) Bh) (ya (WV 7 (xK 10 (ZF (QB (xf (jo j8 (dC (.str "m")) (jy yQ (J0 (jb 9) jc)))) (QB (xf (jb 11)) (QB (Qi Em (J0 (jb 10) (J0 (jo j8 (jb 6) (jb 9)) (J0 (jb 12) jc)))) W1))))))))))))) (zw 7 (xf (Bf "Plan" ["name", "givens", "rows"] Ej (J0 (jb 2) (J0 (Q0 [none] (zt (J0 (jb 6) jc)) (.one 0) (jo j8 (dC (.str "g")) (jy yQ (J0 (jb 0) jc)))) (J0 (jb 7) jc)))))))))))
def B5:YG->HP->Res (D×HP):=Qq 14 5 B4
def jV (ns:Yh)(s:Nat):Nat:=(1+QV ns s % 1000000000 % 4).toNat
def zo (ns:Yh)(s:Nat)(m:Int):Nat:=(1+QV ns s % 1000000000 / 4 % m).toNat
def yz (ns:Yh)(s k:Nat):Int:=QV ns (s+1+k) % 10000000000000000000000000000000000000000000000000000000000000000*100000000000000000000+QV ns s % 100000000000000000000
def xk (c:Int):Str:=if c % 5=1\/c % 5=3 then "first" else "all"
def vq (ps:List Pl)(c:Int):Pl:=ps.getD (c % (ps.length:Int)).toNat m8
abbrev zq (ps:List Pl)(c:Int)(used:Bool):Prop:=c % 5=4/\used=false
def xO (ns:Yh)(s:Nat)(ps:List Pl):Nat->List Rw×Bool
 | 0=>([],ps.isEmpty)
 |k+1=>if zq ps (yz ns s k) (xO ns s ps k).2 then((xO ns s ps k).1++[("m" ++ jP k,(vq ps (yz ns s k / 5 / 4)).name,qF ((jV ns s:Int)+k) (yz ns s k / 5 / 4 / ps.length) (vq ps (yz ns s k / 5 / 4)).givens.length)],true)
  else((xO ns s ps k).1++[("m" ++ jP k,xk (yz ns s k),qF ((jV ns s:Int)+k) (yz ns s k / 5 / 4) (1+yz ns s k / 5 % 4).toNat)],(xO ns s ps k).2)
def dk (ns:Yh)(s:Nat)(ps:List Pl)(k:Nat):xO ns s ps (k+1)=if zq ps (yz ns s k) (xO ns s ps k).2 then((xO ns s ps k).1++[("m" ++ jP k,(vq ps (yz ns s k / 5 / 4)).name,qF ((jV ns s:Int)+k) (yz ns s k / 5 / 4 / ps.length) (vq ps (yz ns s k / 5 / 4)).givens.length)],true)
 else((xO ns s ps k).1++[("m" ++ jP k,xk (yz ns s k),qF ((jV ns s:Int)+k) (yz ns s k / 5 / 4) (1+yz ns s k / 5 % 4).toNat)],(xO ns s ps k).2):=rfl
def w5 (ns:Yh)(s:Nat)(nm:Str)(ps:List Pl)(m:Int):Pl:=⟨nm,(List.range (jV ns s)).map λk => "g" ++ jP k,(xO ns s ps (zo ns s m)).1⟩
def Eo (ns:Yh)(s:Nat):1<=jV ns s/\jV ns s<=4:=by unfold jV;lia
def Ly (ns:Yh)(s:Nat){m:Int}(c:1<=m)(e:m<=8):1<=zo ns s m/\zo ns s m<=8/\(zo ns s m:Int)<=m:=by
 unfold zo;have a:=Int.emod_nonneg (QV ns s % 1000000000 / 4) (show m≠0 from ());have b:=Int.emod_lt_of_pos (QV ns s % 1000000000 / 4) (show 0<m from ());lia
def Lz {ps:List Pl}(h:ps ≠ [])(c:Int):vq ps c∈ps/\qQ (ps.map JH) (c % (ps.length:Int))=some (JH (vq ps c)):=by
 have e:0<ps.length:=by grind
 have a:=Int.emod_nonneg c (show(ps.length:Int)≠0 by lia);have b:=Int.emod_lt_of_pos c (show 0<(ps.length:Int) from ())
 grind[vq,Zql,W2]
theorem ZQ (ns:Yh)(s:Nat)(ps:List Pl):∀k,(xO ns s ps k).1.length=k
 | 0=>rfl
 |k+1=>by
  unfold xO
  split
  .rw[Ua,ZQ ns s ps k];rfl
  .rw[Ua,ZQ ns s ps k];rfl
theorem Ep {ns:Yh}{s:Nat}{ps:List Pl}:∀{k:Nat},(xO ns s ps k).2=false->ps ≠ []
 | 0,h,z=>by rw[z] at h;cases h
 |k+1,h,z=>by
  unfold xO at h
  split at h
  .cases h
  .exact Ep h z
theorem Er {ns:Yh}{s:Nat}{ps:List Pl}(f:∀q∈ps,1<=q.givens.length/\q.givens.length<=4):∀(k:Nat),k<=60->∀(i:Nat) r,(xO ns s ps k).1[i]? = some r->RwP ps ((jV ns s:Int)+i) r
 | 0,_,i,r,h=>by cases h
 |k+1,hk,i,r,h=>by
  have u:=Eo ns s;have m:TxtOk 1 "m" := XA (by decide +kernel);have g:=(m.app (Bt (k:=k) ()).2).asc;have b:∀(p:Int) (n:Nat),∀x∈qF ((jV ns s:Int)+k) p n,-1000000000000000000000000000000<=x.2/\x.2<=1000000000000000000000000000000:=λp n x e=>by
   obtain⟨i,_,rfl⟩:=Ja.mp e;show _<=XD _/\XD _<=_;unfold XD
   split<;>lia
  have a:∀(p:Int) (n:Nat),∀x∈qF ((jV ns s:Int)+k) p n,0<=x.1/\x.1<(jV ns s:Int)+k:=λp n x e=>by
   obtain⟨j,_,rfl⟩:=Ja.mp e;exact⟨Int.emod_nonneg _ (),Int.emod_lt_of_pos _ ()⟩
  have c:∀(p:Int) (n:Nat),1<=n->qF ((jV ns s:Int)+k) p n ≠ []:=λp n v z=>by
   have:=ZP ((jV ns s:Int)+k) p n;rw[z] at this;have:0=n:=this;lia
  have last:∀(x:Rw),((xO ns s ps k).1++[x])[i]? = some r->(i<k/\(xO ns s ps k).1[i]? = some r)\/(i=k/\r=x):=λx e=>by
   have w:=ZQ ns s ps k;rcases Vq i k with z|z
   .rw[Vl ()] at e;exact .inl ⟨z,e⟩
   .rw[Vm ()] at e;have o:i-(xO ns s ps k).1.length=0:=by
     rcases VI (i-(xO ns s ps k).1.length) with y|y
     .exact y
     .rw[List.getElem?_eq_none (by rw[Uj];lia)] at e;cases e
    rw[o] at e;cases e;exact .inr ⟨(),rfl⟩
  unfold xO at h
  split at h
  .rename_i hp;rcases last _ h with ⟨_,z⟩|⟨rfl,rfl⟩
   .exact Er f k () i r z
   .obtain⟨l,_⟩:=Lz (Ep hp.2) (yz ns s i / 5 / 4);obtain⟨t,A⟩:=f _ l;exact⟨g,.inr (.inr ⟨_,l,rfl,ZP _ _ _⟩),c _ _ t,by rw[ZP];lia,a _ _,b _ _⟩
  .rcases last _ h with ⟨_,z⟩|⟨rfl,rfl⟩
   .exact Er f k () i r z
   .refine⟨g,?_,c _ _ (),by rw[ZP];lia,a _ _,b _ _⟩;show xk (yz ns s i)=_\/xk (yz ns s i)=_\/_;unfold xk
    split
    .exact .inr (.inl rfl)
    .exact .inl rfl
def sD {ns:Yh}{s:Nat}{nm:Str}{ps:List Pl}{m:Int}(a:∀q∈ps,1<=q.givens.length/\q.givens.length<=4)(b:1<=m)(c:m<=8):PlP ps (w5 ns s nm ps m):=by
 have f:=Eo ns s;have en:=Ly ns s b c;have e:(w5 ns s nm ps m).givens.length=jV ns s:=by
  show((List.range (jV ns s)).map λk => "g" ++ jP k).length=_;simp
 have g:(w5 ns s nm ps m).rows.length=zo ns s m:=ZQ ns s ps _;exact⟨(),(),(),(),λk r h=>by rw[e];exact Er a _ () k r h⟩
def gH (ns:Yh){s:Nat}{nm:Str}{ps:List Pl}{m:Int}(hs:s<=60)(hl:ps.length<=20)(hg:∀q∈ps,1<=q.givens.length/\q.givens.length<=4)(t:1<=m)(h2:m<=8)(a:Addr):B5 [.scr ns,.int s,.str nm,.adr a,.int m] [(a,.lst (ps.map JH))]=.ok (JH (w5 ns s nm ps m),[(a,.lst (ps.map JH))]):=by
 refine Bw rfl ?_;have eg:=Eo ns s;have en:=Ly ns s t h2;have N:=Ek ns s;have q9:qT (.int 10) (.int 9)=some (.int 1000000000):=rfl;have y:qT (.int 10) (.int 64)=some (.int 10000000000000000000000000000000000000000000000000000000000000000):=by
  show some (D.int (10 ^ 64))=_
  congr 2
 have A:qT (.int 10) (.int 20)=some (.int 100000000000000000000):=rfl;have l1:TxtOk 1 "m" := XA (by decide +kernel);have l2:TxtOk 1 "g" := XA (by decide +kernel);have H:asc "part" := by unfold asc;decide +kernel
 have O:qU (.str "part") (.str "part")=some (.bl true):=by rw[QY H H];congr 2
 have p2:qU (.str "all") (.str "part")=some (.bl false):=by rw[QY W4 H];congr 2
 have p3:qU (.str "first") (.str "part")=some (.bl false):=by rw[QY W5 H];congr 2
 obtain⟨P,hP⟩:∃P,P=QV ns s % 1000000000:=⟨_,rfl⟩;have Q:1+P % 4=(jV ns s:Int):=by unfold jV;lia
 have hn:1+P / 4 % m=(zo ns s m:Int):=by
  unfold zo;have z:=Int.emod_nonneg (QV ns s % 1000000000 / 4) (show m≠0 from ());rw[hP];lia
 have hu:v8 (.lst (ps.map JH)) (.lst [])=some (.bl ps.isEmpty):=by show some (D.bl (ps.map JH).isEmpty)=_;rw[List.isEmpty_map]
 generalize hR:ps.map JH=PD at hu;unfold B4;refine wO (sd':=[some (.val (.scr ns)),some (.val (.int s)),some (.val (.str nm)),some (.val (.adr a)),some (.val (.int m)),some (.own false (jv P)),none,none,none,none,none,none,none,none]) (Kr ?_) ?_
 .simp[JW,N,q9,hP,jv]
 refine wO (Kr (ZM (XC (λa=>Um a () ()) rfl _ (λ_=>rfl) _ _ (λ_=>rfl) (z:=.int (jV ns s)) (by rw[<- Q];rfl)))) ?_;refine wO (sd':=[some (.val (.scr ns)),some (.val (.int s)),some (.val (.str nm)),some (.val (.adr a)),some (.val (.int m)),some (.own false (jv (P / 4))),some (.val (.int (jV ns s))),some (.own false (.lst [])),none,none,none,none,none,none]) (Kr ?_) ?_
 .simp
 refine wO (sd':=[some (.val (.scr ns)),some (.val (.int s)),some (.val (.str nm)),some (.val (.adr a)),some (.val (.int m)),some (.own false (jv (P / 4))),some (.val (.int (jV ns s))),some (.own false (.lst [])),some (.val (.bl ps.isEmpty)),none,none,none,none,none]) (hp':=[(a,.lst PD)]) ?_ ?_
 .have R:der [(a,D.lst PD)] (.adr a)=.lst PD:=by
   unfold der;rw[XB]
  simp[R,hu,Res.strict]
 have hn0:=hn;generalize hB:Q9 (ya (qx 10 _)) _=b;have S:∃u9 o h l g,qi (QU (.one 9) b) (JS 0 (zo ns s m)) [some (.val (.scr ns)),some (.val (.int s)),some (.val (.str nm)),some (.val (.adr a)),some (.val (.int m)),some (.own false (jv (P / 4 / m))),some (.val (.int (jV ns s))),some (.own false (.lst ([]))),some (.val (.bl ps.isEmpty)),none,none,none,none,none] [(a,.lst PD)]=.ok (.next [some (.val (.scr ns)),some (.val (.int s)),some (.val (.str nm)),some (.val (.adr a)),some (.val (.int m)),some (.own false (jv (P / 4 / m))),some (.val (.int (jV ns s))),some (.own false (.lst ((w5 ns s nm ps m).rows.map jG))),some (.val (.bl (xO ns s ps (zo ns s m)).2)),u9,o,h,l,g] [(a,.lst PD)]):=by
  obtain⟨sd',hp',e,u9,o,h,l,g,B,hh⟩:=DG (b:=QU (.one 9) b) (ds:=JS 0 (zo ns s m)) (sd:=[some (.val (.scr ns)),some (.val (.int s)),some (.val (.str nm)),some (.val (.adr a)),some (.val (.int m)),some (.own false (jv (P / 4 / m))),some (.val (.int (jV ns s))),some (.own false (.lst ([]))),some (.val (.bl ps.isEmpty)),none,none,none,none,none]) (hp:=[(a,.lst PD)])
   (P:=λi sd hp=>∃u9 o h l g,sd=[some (.val (.scr ns)),some (.val (.int s)),some (.val (.str nm)),some (.val (.adr a)),some (.val (.int m)),some (.own false (jv (P / 4 / m))),some (.val (.int (jV ns s))),some (.own false (.lst ((xO ns s ps i).1.map jG))),some (.val (.bl (xO ns s ps i).2)),u9,o,h,l,g]/\hp=[(a,.lst PD)]) ⟨none,none,none,none,none,rfl,rfl⟩ (by
    rintro i x sd hp hx ⟨u9,o,h,l,g,rfl,rfl⟩;obtain⟨rfl,hi⟩:=Xy hx;rw[Vz];have T:=Ek ns (s+1+i);rw[show(((s+1+i:Nat):Int))=(s:Int)+1+(i:Int) by lia] at T;have m0:=()
    have m1:=()
    have m2:=AR (i:=QV ns (s+1+i) % 10000000000000000000000000000000000000000000000000000000000000000) (j:=100000000000000000000) (Ru (Zg (show _<10000000000000000000000000000000000000000000000000000000000000000 from ()) (Vx rfl)) (Vx rfl));have U:QV ns (s+1+i) % 10000000000000000000000000000000000000000000000000000000000000000*100000000000000000000+QV ns s % 100000000000000000000=yz ns s i:=rfl;subst hB;obtain⟨I,X⟩:=Bt (k:=i) ();have J:=DY l1 X ();have lS:=ZQ ns s ps i;have hz:((xO ns s ps i).1.map jG).length<sizeLine:=JT (by rw[Zql,lS];lia);rw[dk];have E:=Ep (ns:=ns) (s:=s) (ps:=ps) (k:=i);generalize xO ns s ps i=st at hz E;obtain⟨rs,f⟩:=st;have hz:(rs.map jG).length<sizeLine:=hz;have E:f=false->ps ≠ []:=E;obtain⟨C,hC⟩:∃C,C=yz ns s i:=⟨_,rfl⟩;rw[<- hC] at U ⊢;obtain⟨n,hcn⟩:∃n:Nat,1+C / 5 % 4=(n:Int):=⟨(1+C / 5 % 4).toNat,()⟩;have Y:(1+C / 5 % 4).toNat=n:=()
    rw[Y];rw[TR,GV,jh];have ix:∃u,zv (.lst [.str "all",.str "first",.str "all",.str "first",.str "part"]) (.int (C % 5))=some (.str u)/\((u = "part" /\ xk C = "all" /\ C % 5=4)\/(u = "all" /\ xk C = "all" /\ C % 5≠4)\/(u = "first" /\ xk C = "first" /\ C % 5≠4)):=by
     unfold xk;obtain z|z|z|z|z:C % 5=0\/C % 5=1\/C % 5=2\/C % 5=3\/C % 5=4:=()
     .rw[z];exact⟨_,rfl,()⟩
     .rw[z];exact⟨_,rfl,()⟩
     .rw[z];exact⟨_,rfl,()⟩
     .rw[z];exact⟨_,rfl,()⟩
     .rw[z];exact⟨_,rfl,()⟩
    obtain⟨u,ix,hw⟩:=ix;have F:∀(Z:qo) (r:Res Out2),(∀t:Str,(t = "part" /\ zq ps C f)\/(t=xk C/\¬zq ps C f/\qU (.str t) (.str "part")=some (.bl false))->Z [some (.val (.scr ns)),some (.val (.int s)),some (.val (.str nm)),some (.val (.adr a)),some (.val (.int m)),some (.own false (jv (P / 4 / m))),some (.val (.int (jV ns s))),some (.own false (.lst (rs.map jG))),some (.val (.bl f)),some (.val (.int i)),some (.own false (jv (C / 5 / 4))),some (.val (.str t)),some (.val (.int n)),g] [(a,.lst PD)]=r)->Q9 (ya (xz (A9 (JF (jo qU (jb 11) (dC (.str "part")))) (JF (jb 8))) (jD 11 (dC (.str "all"))) JZ)) Z [some (.val (.scr ns)),some (.val (.int s)),some (.val (.str nm)),some (.val (.adr a)),some (.val (.int m)),some (.own false (jv (P / 4 / m))),some (.val (.int (jV ns s))),some (.own false (.lst (rs.map jG))),some (.val (.bl f)),some (.val (.int i)),some (.own false (jv (C / 5 / 4))),some (.val (.str u)),some (.val (.int n)),g] [(a,.lst PD)]=r:=λZ r k=>by
     rcases hw with ⟨G,K,L⟩|⟨G,K,L⟩|⟨G,K,L⟩
     .subst G;cases f with
      |true=>exact zh (sd':=[some (.val (.scr ns)),some (.val (.int s)),some (.val (.str nm)),some (.val (.adr a)),some (.val (.int m)),some (.own false (jv (P / 4 / m))),some (.val (.int (jV ns s))),some (.own false (.lst (rs.map jG))),some (.val (.bl true)),some (.val (.int i)),some (.own false (jv (C / 5 / 4))),some (.val (.str "all")),some (.val (.int n)),g]) (hp':=[(a,.lst PD)]) (by simp[O]) ()
      |false=>exact zh (sd':=[some (.val (.scr ns)),some (.val (.int s)),some (.val (.str nm)),some (.val (.adr a)),some (.val (.int m)),some (.own false (jv (P / 4 / m))),some (.val (.int (jV ns s))),some (.own false (.lst (rs.map jG))),some (.val (.bl false)),some (.val (.int i)),some (.own false (jv (C / 5 / 4))),some (.val (.str "part")),some (.val (.int n)),g]) (hp':=[(a,.lst PD)]) (by simp[O]) ()
     .subst G;exact zh (sd':=[some (.val (.scr ns)),some (.val (.int s)),some (.val (.str nm)),some (.val (.adr a)),some (.val (.int m)),some (.own false (jv (P / 4 / m))),some (.val (.int (jV ns s))),some (.own false (.lst (rs.map jG))),some (.val (.bl f)),some (.val (.int i)),some (.own false (jv (C / 5 / 4))),some (.val (.str "all")),some (.val (.int n)),g]) (hp':=[(a,.lst PD)]) (by simp[p2]) (k "all" (.inr ⟨K.symm,λq=>L q.1,p2⟩))
     .subst G;exact zh (sd':=[some (.val (.scr ns)),some (.val (.int s)),some (.val (.str nm)),some (.val (.adr a)),some (.val (.int m)),some (.own false (jv (P / 4 / m))),some (.val (.int (jV ns s))),some (.own false (.lst (rs.map jG))),some (.val (.bl f)),some (.val (.int i)),some (.own false (jv (C / 5 / 4))),some (.val (.str "first")),some (.val (.int n)),g]) (hp':=[(a,.lst PD)]) (by simp[p3]) (k "first" (.inr ⟨K.symm,λq=>L q.1,p3⟩))
    have it:=λ(p:Int) (c:Nat) (hc:c<=10)=>λa=>gJ (p:=p) (m:=(jV ns s:Int)+i) (c:=c) a () () hc;by_cases hp:zq ps C f
    .rw[Zd hp];obtain⟨qm,qa⟩:=Lz (E hp.2) (C / 5 / 4);have ql:=hg _ qm;have hps:0<ps.length:=Jo.mpr (E hp.2);have lPD:PD.length=ps.length:=by rw[<- hR,Zql]
     rw[hR] at qa;generalize vq ps (C / 5 / 4)=q at qa ql;refine⟨[some (.val (.scr ns)),some (.val (.int s)),some (.val (.str nm)),some (.val (.adr a)),some (.val (.int m)),some (.own false (jv (P / 4 / m))),some (.val (.int (jV ns s))),some (.own false (.lst ((rs++[("m" ++ jP i,q.name,qF ((jV ns s:Int)+i) (C / 5 / 4 / ps.length) q.givens.length)]).map jG))),some (.val (.bl true)),some (.val (.int i)),some (.own false (jv (xN ((jV ns s:Int)+i) (C / 5 / 4 / ps.length) q.givens.length))),some (.val (.str q.name)),some (.val (.int q.givens.length)),some (.val (JH q))],[(a,.lst PD)],?_,_,_,_,_,_,rfl,rfl⟩;refine zh (sd':=[some (.val (.scr ns)),some (.val (.int s)),some (.val (.str nm)),some (.val (.adr a)),some (.val (.int m)),some (.own false (jv (P / 4 / m))),some (.val (.int (jV ns s))),some (.own false (.lst (rs.map jG))),some (.val (.bl f)),some (.val (.int i)),some (.own false (jv (C))),h,l,g]) (hp':=[(a,.lst PD)]) (Kr ?_) ?_
     .simp[N,T,y,A,m2,U,jv]
     refine zh (Kr (ZM (XC (λa=>Um a () ()) rfl _ (λ_=>rfl) _ _ (λ_=>rfl) (z:=.str u) ix))) ?_;refine zh (Kr (ZM (XC (p:=C / 5) (λa=>Um a () ()) rfl _ (λ_=>rfl) _ _ (λ_=>rfl) (z:=.int n) (by rw[<- hcn];rfl)))) ?_;refine F _ _ λt w=>?_;have e1:t = "part" := by
      rcases w with z|z
      .exact z.1
      .exact Zn hp z.2.1
     subst e1;refine zh (sd':=[some (.val (.scr ns)),some (.val (.int s)),some (.val (.str nm)),some (.val (.adr a)),some (.val (.int m)),some (.own false (jv (P / 4 / m))),some (.val (.int (jV ns s))),some (.own false (.lst (rs.map jG))),some (.val (.bl true)),some (.val (.int i)),some (.own false (jv (C / 5 / 4 / ps.length))),some (.val (.str q.name)),some (.val (.int q.givens.length)),some (.val (JH q))]) (hp':=[(a,.lst PD)]) (Ls (by simp[O]) ?_) ?_
     .refine zh (sd':=[some (.val (.scr ns)),some (.val (.int s)),some (.val (.str nm)),some (.val (.adr a)),some (.val (.int m)),some (.own false (jv (P / 4 / m))),some (.val (.int (jV ns s))),some (.own false (.lst (rs.map jG))),some (.val (.bl true)),some (.val (.int i)),some (.own false (jv (C / 5 / 4))),some (.val (.str "part")),some (.val (.int n)),g]) (hp':=[(a,.lst PD)]) () ?_;have R:∀b:Addr,b≠a->der [(b,jv (C / 5 / 4)),(a,D.lst PD)] (.adr a)=.lst PD:=λb M=>by
       unfold der;rw[Q4,Ze (λz=>M z.symm),XB]
      refine zh (db (dc (d1:=jv (C / 5 / 4 / ps.length)) (v:=JH q) rfl λb M=>?_)) ?_
      .have tk:=Lx (p:=C / 5 / 4) (m:=(ps.length:Int)) b [(a,D.lst PD)] () ();have ixq:=sM (b:=b) (d:=jv (C / 5 / 4 / ps.length)) (λz=>M z.symm) qa;simp[R b M,Res.strict,lPD,tk,ixq,K8]
      have fn:jH "Plan" "name" (JH q)=some (.str q.name):=rfl;have fg:jH "Plan" "givens" (JH q)=some (.lst (q.givens.map .str)):=rfl;generalize JH q=qd at fn fg;simp[fn,fg]
     .have it:=it (C / 5 / 4 / ps.length) q.givens.length ();refine Kr ((Ec rfl (Bv (d1:=jv (xN ((jV ns s:Int)+i) (C / 5 / 4 / ps.length) q.givens.length)) (v:=jG ("m" ++ jP i,q.name,qF ((jV ns s:Int)+i) (C / 5 / 4 / ps.length) q.givens.length)) rfl λa=>?_) rfl hz).trans ?_)
      .have it:=it a;simp[I,J,it,jG]
      .rw[Uc];rfl
    .rw[Ze hp];refine⟨[some (.val (.scr ns)),some (.val (.int s)),some (.val (.str nm)),some (.val (.adr a)),some (.val (.int m)),some (.own false (jv (P / 4 / m))),some (.val (.int (jV ns s))),some (.own false (.lst ((rs++[("m" ++ jP i,xk C,qF ((jV ns s:Int)+i) (C / 5 / 4) n)]).map jG))),some (.val (.bl f)),some (.val (.int i)),some (.own false (jv (xN ((jV ns s:Int)+i) (C / 5 / 4) n))),some (.val (.str (xk C))),some (.val (.int n)),g],[(a,.lst PD)],?_,_,_,_,_,_,rfl,rfl⟩;refine zh (sd':=[some (.val (.scr ns)),some (.val (.int s)),some (.val (.str nm)),some (.val (.adr a)),some (.val (.int m)),some (.own false (jv (P / 4 / m))),some (.val (.int (jV ns s))),some (.own false (.lst (rs.map jG))),some (.val (.bl f)),some (.val (.int i)),some (.own false (jv (C))),h,l,g]) (hp':=[(a,.lst PD)]) (Kr ?_) ?_
     .simp[N,T,y,A,m2,U,jv]
     refine zh (Kr (ZM (XC (λa=>Um a () ()) rfl _ (λ_=>rfl) _ _ (λ_=>rfl) (z:=.str u) ix))) ?_;refine zh (Kr (ZM (XC (p:=C / 5) (λa=>Um a () ()) rfl _ (λ_=>rfl) _ _ (λ_=>rfl) (z:=.int n) (by rw[<- hcn];rfl)))) ?_;refine F _ _ λt w=>?_;obtain⟨e1,_,e2⟩:t=xk C/\¬zq ps C f/\qU (.str t) (.str "part")=some (.bl false):=by
      rcases w with z|z
      .exact Zn z.2 hp
      .exact z
     subst e1;refine zh (sd':=[some (.val (.scr ns)),some (.val (.int s)),some (.val (.str nm)),some (.val (.adr a)),some (.val (.int m)),some (.own false (jv (P / 4 / m))),some (.val (.int (jV ns s))),some (.own false (.lst (rs.map jG))),some (.val (.bl f)),some (.val (.int i)),some (.own false (jv (C / 5 / 4))),some (.val (.str (xk C))),some (.val (.int n)),g]) (hp':=[(a,.lst PD)]) (Lu (by simp[e2]) rfl) ?_;have it:=it (C / 5 / 4) n ();refine Kr ((Ec rfl (Bv (d1:=jv (xN ((jV ns s:Int)+i) (C / 5 / 4) n)) (v:=jG ("m" ++ jP i,xk C,qF ((jV ns s:Int)+i) (C / 5 / 4) n)) rfl λa=>?_) rfl hz).trans ?_)
     .have it:=it a;simp[I,J,it,jG]
     .rw[Uc];rfl)
  rw[WS] at B;exact⟨u9,o,h,l,g,by rw[e,B,hh];rfl⟩
 obtain⟨u9,o,h,l,g,S⟩:=S;refine wO ((da (n:=zo ns s m) (XC (λa=>Um a () ()) rfl _ (λ_=>rfl) _ _ (λ_=>rfl) (z:=.int (zo ns s m)) (by rw[<- hn];rfl)) ()).trans S) ?_;have r1:KW [.int (jV ns s)]=.ok (JS 0 (jV ns s)):=by rw[Wx () ()];rfl
 have mk:qh (.one 0) (jo j8 (dC (.str "g")) (jy yQ (J0 (jb 0) jc))) [none] (JS 0 (jV ns s))=.ok ((List.range (jV ns s)).map λk:Nat=>.str ("g" ++ jP k)):=Dr λi hi=>by
  obtain⟨I,X⟩:=Bt (k:=i) ();have J:=DY l2 X ();simp[I,J]
 have hz:=WS 0 (jV ns s);have e0:JH (w5 ns s nm ps m)=.ins "Plan" ["name", "givens", "rows"] [.str nm,.lst ((List.range (jV ns s)).map λk:Nat=>.str ("g" ++ jP k)),.lst ((w5 ns s nm ps m).rows.map jG)]:=by
  show D.ins _ _ [_,.lst (List.map D.str (List.map _ _)),_]=_;rw[Zw];rfl
 rw[e0];generalize (w5 ns s nm ps m).rows.map jG=RD;simp[r1,mk,hz,JT (show jV ns s<=1000 from ()),Ej,za,JW]
def B6:FS:=(ju (qx 3 (qX jc)) (ju (qj (zt (J0 (jb 1) jc)) (.one 4) (WV 3 (xK 3 (Qi B5 (J0 (jb 0) (J0 (jo j8 (dC (.int 1)) (jo xU (jb 4) (jo j8 (jb 2) (dC (.int 1))))) (J0 (jo j8 (dC (.str "p")) (jy yQ (J0 (jb 4) jc))) (J0 (jb 3) (J0 (jb 2) jc))))))))) (λsd=>(j1 (Bf "Book" ["plans"] Ei (J0 (jb 3) jc))) (qN [3] sd))))
def ZR:YG->Res D:=qk 5 3 B6
def gG (ns:Yh){n m:Nat}(t:n<=4)(w:1<=m)(y:m<=8):∃ps,ps.length=n/\BkP ps/\ZR [.scr ns,.int n,.int m]=.ok (JA ps):=by
 have z:KW [.int n]=.ok (JS 0 n):=by rw[Wx () ()];rfl
 have g:TxtOk 1 "p" := XA (by decide +kernel);obtain⟨sd',e,ps,u,hs,c,B⟩:=Xz (tg:=.one 4) (b:=WV 3 (xK 3 (Qi B5 (J0 (jb 0) (J0 (jo j8 (dC (.int 1)) (jo xU (jb 4) (jo j8 (jb 2) (dC (.int 1))))) (J0 (jo j8 (dC (.str "p")) (jy yQ (J0 (jb 4) jc))) (J0 (jb 3) (J0 (jb 2) jc)))))))) (ds:=JS 0 n) (sd:=[some (.val (.scr ns)),some (.val (.int n)),some (.val (.int m)),some (.own false (.lst [])),none])
  (P:=λi sd=>∃(ps:List Pl) (u:Option SV),sd=[some (.val (.scr ns)),some (.val (.int n)),some (.val (.int m)),some (.own false (.lst (ps.map JH))),u]/\ps.length=i/\BkP ps) ⟨[],none,rfl,rfl,s0⟩ (by
   rintro i x sd h ⟨ps,u,rfl,c,B⟩;obtain⟨rfl,A⟩:=Xy h;rw[Vz];obtain⟨l,o⟩:=Bt (k:=i) ();have p:=DY g o ();have q:=AR (GS (i:=(i:Int)) (j:=(m:Int)+1) () ());have C:i*(m+1)<=3*9:=VA () ();obtain⟨s,es⟩:∃s:Nat,s=1+i*(m+1):=⟨_,rfl⟩;have f:1+(i:Int)*((m:Int)+1)=(s:Int):=by rw[es];push_cast;rfl
   have P:=sD (ns:=ns) (s:=s) (nm:= "p" ++ jP i) (ps:=ps) (m:=(m:Int)) B.giv () ();have r:=λa=>gH ns (s:=s) (nm:= "p" ++ jP i) (ps:=ps) (m:=(m:Int)) () () B.giv () () a;refine⟨[some (.val (.scr ns)),some (.val (.int n)),some (.val (.int m)),some (.own false (.lst ((ps++[w5 ns s ("p" ++ jP i) ps m]).map JH))),some (.val (.int i))],?_,_,_,rfl,by rw[Ua,Uj,c],B.snoc () P (by rw[c];rfl)⟩;rw[GV,jh];refine(Ec rfl (Bv (d1:=.lst (ps.map JH)) (v:=JH (w5 ns s ("p" ++ jP i) ps m)) rfl λa=>?_) rfl (JT (by rw[Zql];lia))).trans ?_
   .simp[l,p,q,f,r]
   .rw[Uc];rfl)
 subst hs;rw[WS] at c;refine⟨ps,c,B,?_⟩;have E:JA ps=.ins "Book" ["plans"] [.lst (ps.map JH)]:=rfl
 simp_all [ZR,B6,Ei,za,JW]
def ZS (a:YG->Res D):FS:=(j1 (jo qf (J8 a (J0 (jb 0) (J0 (jb 1) (J0 (jb 2) jc)))) (qB zu (dC (.int 1)))))
def WY (a:YG->Res D):FS:=(ju (xz (JF (jo qU (jb 1) (dC (.str "all")))) (j1 (jy VZ (J0 (jb 2) jc))) JZ) (ju (xz (JF (jo qU (jb 1) (dC (.str "first")))) (j1 (jy Wa (J0 (jb 2) jc))) JZ) (j1 (J8 a (J0 (jb 0) (J0 (jb 1) (J0 (jb 2) jc)))))))
def B7:FS:=(ju (qj (iS (qB (jH "Book" "plans") (jb 0))) (.one 2) (xz (JF (jo qU (qB (jH "Plan" "name") (jb 2)) (jb 1))) (j1 (jb 2)) JZ)) ro)
def ZT:YG->Res D:=jF 3 2 B7
def L0 {ps:List Pl}{x:Str}{p:Pl}(j:asc x)(hp:∀p∈ps,asc p.name)(g:ps.find? (λp=>decide (p.name=x))=some p):ZT [JA ps,.str x]=.ok (JH p):=by
 have l:∀p∈ps,qU (.str p.name) (.str x)=some (.bl (decide (p.name=x))):=λp m=>QY (hp p m) j;have n:xq (.one 2) (xz (JF (jo qU (qB (jH "Plan" "name") (jb 2)) (jb 1))) (j1 (jb 2)) JZ) (ps.map JH) [some (.val (JA ps)),some (.val (.str x)),none]=.ok (.ret (JH p)):=by
  refine X0 (R:=λr=>r=.ok (.ret (JH p))) (P:=λi sd=>(∀q∈ps.take i,decide (q.name=x)=false)/\∃u,sd=[some (.val (JA ps)),some (.val (.str x)),u]) () (λsd ⟨e,f⟩=>?_) λi d sd o ⟨e,u,f⟩=>?_
  .grind
  .obtain⟨q,a,rfl⟩:=K3 o;have s:q∈ps:=by grind
   have b:=l q s;have tk:ps.take (i+1)=ps.take i++[q]:=by rw[Vr,a];rfl
   cases c:decide (q.name=x) with
   |true =>
    rw[c] at b;refine .inr (.inr ⟨JH q,?_,?_⟩)
    .subst f;simp[b]
    .rw[IY e a c] at g;cases g;rfl
   |false =>
    rw[c] at b;refine .inl ⟨[some (.val (JA ps)),some (.val (.str x)),some (.val (JH q))],.inl ?_,λy h=>?_,_,rfl⟩
    .subst f;simp[b]
    .rw[tk] at h;rcases Jb.mp h with z|z
     .exact e y z
     .rw[Je.mp z];exact c
 simp[ZT,B7,n]
def ZU (a:YG->Res D):FS:=(ju (qx 3 (jy Kz (J0 (jb 2) jc))) (ju (qj (iS (qB (jH "Plan" "rows") (J8 ZT (J0 (jb 0) (J0 (jb 1) jc))))) (.tup [4,5,6]) (KO 3 (xr [3] (J8 a (J0 (jb 0) (J0 (jb 5) (J0 (Q0 [none,none,some 3] (iS (jb 6)) (.tup [0,1]) (jo j8 (jo qf (jb 2) (jb 0)) (jb 1))) jc))))))) (λsd=>(j1 (jb 3)) (qN [3] sd))))
def Wh:Nat->YG->Res D
 | 0=>λ_=>.no
 |n+1=>jF 7 3 (ZU (jF 3 3 (WY (jF 3 3 (ZS (Wh n))))))
def Kg (n:Nat):YG->Res D:=jF 3 3 (ZS (Wh n))
def Kt (n:Nat):YG->Res D:=jF 3 3 (WY (Kg n))
def L1 {n:Nat}{bk nm hs:D}{ys:Yh}{x:Int}(h:Wh n [bk,nm,hs]=.ok (.lst ((ys++[x]).map .int))):Kg n [bk,nm,hs]=.ok (.int x):=by
 have l:=Ed (f:=D.int) ys x
 simp_all [Kg,ZS]
def dY (n:Nat)(b:D){hs:Yh}(a:hs ≠ []):Kt n [b,.str "all",.lst (hs.map .int)]=.ok (.int (jW hs)):=by
 simp[Kt,WY,Lp,(AS a)]
def cx (n:Nat)(b:D){hs:Yh}(a:hs ≠ []):Kt n [b,.str "first",.lst (hs.map .int)]=.ok (.int (q0 hs)):=by
 simp[Kt,WY,Lq,Lr,(Dq a)]
def cr {n:Nat}{b d:D}{how:Str}{z:D}(a:asc how)(c:how ≠ "all")(e:how ≠ "first")(h:Kg n [b,.str how,d]=.ok z):Kt n [b,.str how,d]=.ok z:=by
 have f:=QY a W4;have g:=QY a W5
 simp_all [Kt,WY]
theorem L4 {ps:List Pl}(B:BkP ps):∀(n i:Nat) (p:Pl) (hs:Yh),ps[i]? = some p->i<n->hs.length=p.givens.length->Wh n [JA ps,.str p.name,.lst (hs.map .int)]=.ok (.lst ((xa ps n p hs).map .int))
 | 0,i,p,hs,_,h,_=>()
 |n+1,i,p,hs,hp,hi,hl=>by
  have P:=B.ok i p hp;have G:=P.g2;have H:=P.r2;have I:=L0 (B.at hp).2.2.1 B.ascs (B.find hp);show jF 7 3 (ZU (Kt n)) _=_;rw[Eh];obtain⟨sd',e,u,v,w,o⟩:=Xz (tg:=.tup [4,5,6]) (b:=KO 3 (xr [3] (J8 (Kt n) (J0 (jb 0) (J0 (jb 5) (J0 (Q0 [none,none,some 3] (iS (jb 6)) (.tup [0,1]) (jo j8 (jo qf (jb 2) (jb 0)) (jb 1))) jc)))))) (ds:=p.rows.map jG) (sd:=[some (.val (JA ps)),some (.val (.str p.name)),some (.val (.lst (hs.map .int))),some (.own false (.lst (hs.map .int))),none,none,none])
   (P:=λi sd=>∃u v w,sd=[some (.val (JA ps)),some (.val (.str p.name)),some (.val (.lst (hs.map .int))),some (.own false (.lst ((qb (x8 ps n) (p.rows.take i) hs).map .int))),u,v,w]) ⟨none,none,none,rfl⟩ (by
    rintro k x sd s ⟨u,v,w,rfl⟩;obtain⟨r,a,rfl⟩:=K3 s;obtain⟨t,J,K⟩:=P.at (rc:=x8 ps n) hl a;have R:=P.row k r a;have y:=tq t;have A:=R.sh;have c:=sk (found:=qb (x8 ps n) (p.rows.take k) hs) R.ne;have C:=tH (qb (x8 ps n) (p.rows.take k) hs) r.2.2;have E:Kt n [JA ps,.str r.2.1,.lst ((x5 (qb (x8 ps n) (p.rows.take k) hs) r.2.2).map .int)]=.ok (.int (xL (x8 ps n) (qb (x8 ps n) (p.rows.take k) hs) r)):=by
     unfold xL;rcases B.how hp a with z|z|⟨z0,g,l,j,q,z3,z4,z5,z6⟩
     .rw[z,Zd rfl];exact dY n _ c
     .rw[z,Ze (by decide +kernel),Zd rfl];exact cx n _ c
     .rw[Ze g,Ze l];refine cr z0 g l ?_;obtain⟨f,rfl⟩:∃f,n=f+1:=⟨n-1,()⟩;obtain⟨ys,F⟩:=B.part (n:=f) z4 (x5 (qb (x8 ps (f+1)) (p.rows.take k) hs) r.2.2);have m:=L4 B (f+1) j q _ z4 () (C.trans z6);rw[F,<- z5] at m;exact L1 m
    have g:=JT (show r.2.2.length<=1000 from ());have l:=JT (show(qb (x8 ps n) (p.rows.take k) hs).length<=1000 by lia);refine⟨[some (.val (JA ps)),some (.val (.str p.name)),some (.val (.lst (hs.map .int))),some (.own false (.lst ((qb (x8 ps n) (p.rows.take (k+1)) hs).map .int))),some (.val (.str r.1)),some (.val (.str r.2.1)),some (.val (j3 r.2.2))],?_,_,_,_,rfl⟩;rw[Lv a];rw[dN,jh];simp[y,E,g,l])
  simp_all [ZU]
def B8:FS:=(ju (qx 5 (jy Kz (J0 (jb 2) jc))) (ju (YX 5 (jb 3) (jo j8 (Ww 5 (jb 3)) (jb 4))) (j1 (jo qA (xr [5] (J8 (Kg 4) (J0 (jb 0) (J0 (jb 1) (J0 (jb 5) jc))))) (J8 (Kg 4) (J0 (jb 0) (J0 (jb 1) (J0 (jb 2) jc))))))))
def Wi:YG->Res D:=jF 6 5 B8
def Es:FS:=(j1 (Xp (jy yA (J0 (jb 0) (J0 (dC (.ty "int")) jc))) (CJ (jy yA (J0 (jb 0) (J0 (dC (.ty "bool")) jc))))))
def B9:YG->Res D:=jF 1 1 Es
@[simp]def lm (i:Int):B9 [.int i]=.ok (.bl true):=by
 rfl
def ZV:FS:=(ju (jD 5 (jo qT (dC (.int 10)) (dC (.int 63)))) (ju (jD 6 (J8 Wi (J0 (jb 0) (J0 (jb 1) (J0 (jb 2) (J0 (jb 3) (J0 (jo qA (dC (.int 0)) (jb 5)) jc))))))) (ju (jD 7 (J8 Wi (J0 (jb 0) (J0 (jb 1) (J0 (jb 2) (J0 (jb 3) (J0 (jo qA (jo qA (dC (.int 0)) (jb 5)) (dC (.int 1))) jc))))))) (ju (xz (JF (qB (xA false) (jb 4))) (j1 (jo qU (jb 7) (jo qA (jb 6) (dC (.int 1))))) JZ) (j1 (Xp (J8 B9 (J0 (jb 4) jc)) (Xp (jo ng (jb 4) (dC (.int 0))) (Xp (jo qU (jb 6) (jo qA (dC (.int 0)) (jb 4))) (jo qU (jb 7) (jb 6))))))))))
def W7:YG->Res D:=jF 8 5 ZV
def BA:FS:=(ju (qx 2 (qX jc)) (ju (qj (zt (J0 (jb 1) jc)) (.one 3) (ju (jD 4 (jo xQ (jo xU (jo j8 (jo j8 (jo xQ (jo YP (jb 0) (jo j8 (jb 3) (dC (.int 1)))) (dC (.int 2147483647))) (jo xU (dC (.int 17)) (jb 3))) (dC (.int 5))) (dC (.int 48271))) (dC (.int 2147483647)))) (ju (KO 2 (jo qA (jo xQ (jb 4) (dC (.int 19))) (dC (.int 9)))) (xz (JF (jo qU (jo xQ (jo YP (jb 4) (dC (.int 19))) (dC (.int 3))) (dC (.int 0)))) (YX 2 (jb 3) (jo qA (jo xQ (jo YP (jb 0) (jo j8 (jb 3) (dC (.int 2)))) (jo j8 (jo xU (dC (.int 2)) (jo qT (dC (.int 10)) (dC (.int 60)))) (dC (.int 1)))) (jo qT (dC (.int 10)) (dC (.int 60))))) JZ)))) (K9 2)))
def XE:YG->Res D:=qk 5 2 BA
def gF (c:Int){n:Nat}(H:n<=12):∃hs:Yh,hs.length=n/\(∀y∈hs,-1000000000000000000000000000000000000000000000000000000000000<=y/\y<=1000000000000000000000000000000000000000000000000000000000000)/\XE [.int c,.int n]=.ok (.lst (hs.map .int)):=by
 have B:KW [.int n]=.ok (JS 0 n):=by rw[Wx () ()];rfl
 have h:qT (.int 10) (.int 60)=some (.int 1000000000000000000000000000000000000000000000000000000000000):=by
  rfl
 have C:xU (.int 2) (.int 1000000000000000000000000000000000000000000000000000000000000)=some (.int 2000000000000000000000000000000000000000000000000000000000000):=by
  rfl
 unfold XE;rw[GR 5 2 _ [.int c,.int n] rfl];unfold BA;generalize E:ju (jD 4 _) _=b;obtain⟨sd',e,hs,u,v,l,a,g⟩:=Xz (tg:=.one 3) (b:=b) (ds:=JS 0 n) (sd:=[some (.val (.int c)),some (.val (.int n)),some (.own false (.lst [])),none,none])
  (P:=λi sd=>∃(hs:Yh) (u v:Option SV),sd=[some (.val (.int c)),some (.val (.int n)),some (.own false (.lst (hs.map .int))),u,v]/\hs.length=i/\∀y∈hs,-1000000000000000000000000000000000000000000000000000000000000<=y/\y<=1000000000000000000000000000000000000000000000000000000000000) () (by
   rintro i x sd r ⟨hs,u,v,rfl,a,g⟩;obtain⟨rfl,I⟩:=Xy r;rw[Vz];have d1:=GT (i:=c) (j:=(i:Int)+1) () ();have m:=GT (i:=c) (j:=(i:Int)+2) () ();have s:=AR (GS (i:=17) (j:=(i:Int)) () ());generalize J:c / ((i:Int)+1)=w at d1;generalize F:c / ((i:Int)+2)=w2 at m;have m2:=AR (Rt (i:=w % 2147483647+17*(i:Int)+5) (j:=48271) () ());generalize r:(w % 2147483647+17*(i:Int)+5)*48271=x at m2;have G:=Rv (i:=w2) (j:=2000000000000000000000000000000000000000000000000000000000001) ();have t:(hs.map D.int).length=i:=by rw[Zql];exact a
   have hz:=JT (show hs.length<=1000 from ());generalize A:x % 2147483647 % 19-9=y;have o:yf (hs.length+1) (i:Int)=some i:=by have:=tF (hs.map D.int) (D.int y);rw[t,Ua,Zql] at this;exact this
   have f:∀z,(hs.map D.int++[D.int y]).set i z=hs.map D.int++[z]:=λz=>by have:=tZ (hs.map D.int) (D.int y) z;rw[t] at this;exact this
   subst E;by_cases z:x % 2147483647 / 19 % 3=0
   .refine⟨[some (.val (.int c)),some (.val (.int n)),some (.own false (.lst ((hs++[w2 % 2000000000000000000000000000000000000000000000000000000000001-1000000000000000000000000000000000000000000000000000000000000]).map .int))),some (.val (.int i)),some (.val (.int (x % 2147483647)))],?_,_,_,_,rfl,by rw[Ua,Uj,a],λq p=>(Jb.mp p).elim (g q) λz=>by rw[Je.mp z];lia⟩;simp[d1,m,s,m2,G,h,C,hz,A,z,o,f]
   .refine⟨[some (.val (.int c)),some (.val (.int n)),some (.own false (.lst ((hs++[y]).map .int))),some (.val (.int i)),some (.val (.int (x % 2147483647)))],?_,_,_,_,rfl,by rw[Ua,Uj,a],λq p=>(Jb.mp p).elim (g q) λz=>by rw[Je.mp z];lia⟩;simp[d1,m,s,m2,hz,A,z])
 subst l;refine⟨hs,by rw[a,WS],g,?_⟩;simp[JW,B,e]
def ZW:FS:=(ju (jD 5 (jo qT (dC (.int 10)) (dC (.int 63)))) (ju (xz (JF (qB (xA false) (jb 4))) (j1 (jo qU (J8 Wi (J0 (jb 0) (J0 (jb 1) (J0 (jb 2) (J0 (jb 3) (J0 (jb 5) jc)))))) (dC (.int 0)))) JZ) (ju (xz (wa (Kw (JF (J8 B9 (J0 (jb 4) jc)))) (wa (JF (jo hZ (jb 4) (dC (.int 0)))) (JF (jo wS (J8 Wi (J0 (jb 0) (J0 (jb 1) (J0 (jb 2) (J0 (jb 3) (J0 (jb 4) jc)))))) (dC (.int 0)))))) (j1 (dC (.bl false))) JZ) (j1 (jo vM (J8 Wi (J0 (jb 0) (J0 (jb 1) (J0 (jb 2) (J0 (jb 3) (J0 (jo j8 (jb 4) (dC (.int 1))) jc)))))) (dC (.int 0)))))))
def W8:YG->Res D:=jF 6 5 ZW
def vf:FS:=(ju (qj (iS (jb 0)) (.tup [2,3]) (xz (wa (JF (jo (wA true) (jb 2) (jb 1))) (JF (jo vM (jb 3) (jo qf (jb 1) (jb 2))))) (j1 (dC (.bl false))) JZ)) (j1 (dC (.bl true))))
def vi:YG->Res D:=jF 4 2 vf
def nt {r o:Jy}(b:j6 o):vi [j3 r,yi o]=.ok (.bl (JC r o)):=by
 simp[vi,vf];refine X0 (R:=λz=>(z.bind (xh (j1 (dC (.bl true))))).bind xp=.ok (.bl (JC r o))) (P:=λi sd=>(∃u v,sd=[some (.val (j3 r)),some (.val (yi o)),u,v])/\JC (r.take i) o=true) ⟨⟨none,none,rfl⟩,rfl⟩ ?_ ?_
 .simp
 .rintro i x sd e ⟨⟨u,v,rfl⟩,hu⟩;obtain⟨p,hp,rfl⟩:=K3 e;have a:=AT b p.1;cases q:J6 o p.1 with
  |none =>
   rw[q] at a;have z:yb o p=false:=by unfold yb;rw[q]
   rw[Fx hp z];exact .inr (.inr ⟨.bl false,by simp[yi,a],()⟩)
  |some w =>
   rw[q] at a;by_cases c:w<p.2
   .have z:yb o p=false:=by unfold yb;exact by grind
    rw[Fx hp z];exact .inr (.inr ⟨.bl false,by simp[yi,a,c],()⟩)
   .have z:yb o p=true:=by unfold yb;exact by grind
    exact .inl ⟨[some (.val (j3 r)),some (.val (yi o)),some (.val (.int p.1)),some (.val (.int p.2))],.inl (by simp[yi,a,c]),⟨_,_,rfl⟩,OD hp hu z⟩
def vb:FS:=(ju (jD 2 (jy WP (J0 (jb 0) jc))) (ju (qj (iS (jb 1)) (.one 3) (xz (JF (J8 vi (J0 (jb 3) (J0 (jb 2) jc)))) (j1 (dC (.bl true))) JZ)) (j1 (dC (.bl false)))))
def xu:YG->Res D:=jF 4 2 vb
def gC {r:Jy}{ks:Jz}(a:j6 r)(c:r.length<=100):xu [j3 r,ji ks]=.ok (.bl (ks.any λo=>JC o r)):=by
 simp[xu,vb,(Dp c a)];refine X0 (R:=λz=>(z.bind (xh (j1 (dC (.bl false))))).bind xp=.ok (.bl (ks.any λo=>JC o r))) (P:=λi sd=>(∃u,sd=[some (.val (j3 r)),some (.val (ji ks)),some (.val (yi r)),u])/\∀o∈ks.take i,JC o r=false) () ?_ ?_
 .simp
 .rintro i x sd f ⟨⟨u,rfl⟩,hu⟩;obtain⟨o,hp,rfl⟩:=K3 f;have b:=nt (r:=o) a;cases q:JC o r with
  |true =>
   have e:ks.any (λo=>JC o r)=true:=by grind
   simp_all
  |false =>
   rw[q] at b;refine .inl ⟨[some (.val (j3 r)),some (.val (ji ks)),some (.val (yi r)),some (.val (j3 o))],.inl (by simp[b]),⟨_,rfl⟩,λy g=>?_⟩;rw[Kv hp] at g
   grind
def ve:FS:=(ju (qx 2 (jy WP (J0 (jb 0) jc))) (ju (qj (iS (jb 1)) (.tup [3,4]) (YT 2 (jb 3) (jy YR (J0 (jb 4) (J0 (xr [2] (AO (jb 2) (jb 3) (jb 4))) jc))))) (λsd=>(j1 (jy Xw (J0 (Dl (jb 2)) jc))) (qN [2] sd))))
def zD:YG->Res D:=jF 5 2 ve
def Qy (r o:Jy):Jy:=JP jR (JY r o)
def nq {r o:Jy}(f:r ≠ [])(or:j6 r)(g:j6 o)(s:r.length<=20)(lo:o.length<=20):zD [j3 r,j3 o]=.ok (j3 (Qy r o)):=by
 have h:WP [.tup (r.map qM)]=some (yi r):=Dp () or;simp[zD,ve,h,j3];generalize j:YT 2 _ _=b;obtain⟨sd',e,u,v,c⟩:=Xz (tg:=.tup [3,4]) (b:=b) (ds:=o.map qM) (sd:=[some (.val (.tup (r.map qM))),some (.val (.tup (o.map qM))),some (.own false (yi r)),none,none])
  (P:=λi sd=>∃u v,sd=[some (.val (.tup (r.map qM))),some (.val (.tup (o.map qM))),some (.own false (yi (JY r (o.take i)))),u,v]) ⟨none,none,rfl⟩ (by
   rintro i x sd l ⟨u,v,rfl⟩;obtain⟨p,hp,rfl⟩:=K3 l;have m:JY r (o.take (i+1))=V7 (JY r (o.take i)) p:=by
    rw[Kv hp];unfold JY;rw[Vp];rfl
   have n:=CF (o.take i) r;have t:(o.take i).length<=o.length:=by rw[Uf];lia
   have hz:=JT (show(JY r (o.take i)).length<=1000 by lia);have q:=AT (A6 (o.take i) r or) p.1;have a:=Ry (JY r (o.take i)) p.1 (if(J6 (JY r (o.take i)) p.1).getD p.2 > p.2 then(J6 (JY r (o.take i)) p.1).getD p.2 else p.2);have w:((J6 (JY r (o.take i)) p.1).map D.int).getD (.int p.2)=.int ((J6 (JY r (o.take i)) p.1).getD p.2):=by cases J6 (JY r (o.take i)) p.1<;>rfl
   subst j;have es:V7 (JY r (o.take i)) p=qL (JY r (o.take i)) p.1 (if(J6 (JY r (o.take i)) p.1).getD p.2 > p.2 then(J6 (JY r (o.take i)) p.1).getD p.2 else p.2):=rfl;rw[m,es,<- a];simp[yi,q,hz])
 rw[e];subst c;have n:=CF o r;have hs:=Rz (Gn f g) ();simp[hs,Qy]
def BB:FS:=(ju (qx 2 (jo DC (Wc [none,some 1] (iS (jb 0)) (.one 0) (JF (J8 xu (J0 (jb 0) (J0 (jb 1) jc)))) (jb 0)) (Wc [none,some 0] (iS (jb 1)) (.one 0) (JF (J8 xu (J0 (jb 0) (J0 (jb 1) jc)))) (jb 0)))) (ju (jD 3 (Wc [none,some 0] (iS (jb 1)) (.one 0) (Kw (JF (J8 xu (J0 (jb 0) (J0 (jb 1) jc))))) (jb 0))) (ju (qj (iS (jb 0)) (.one 4) (xz (Kw (JF (J8 xu (J0 (jb 4) (J0 (jb 1) jc))))) (Xr 2 (Q0 [none,some 4] (iS (jb 3)) (.one 0) (J8 zD (J0 (jb 1) (J0 (jb 0) jc))))) JZ)) (K9 2))))
def ZX:YG->Res D:=qk 5 2 BB
def Wj (f g:Jz):Jz:=f.flatMap λr=>g.map (Qy r)
def wG {f g:Jz}{q:Jy}:q∈Wj f g↔∃r∈f,∃o∈g,Qy r o=q:=by
 simp_all [Wj]
def dM (f g:Jz):(Wj f g).length=f.length*g.length:=by
 unfold Wj
 induction f with
 |nil=>simp
 |cons r f a=>grind
def dH {a b:Jy}(c:j6 a)(p:b.Perm a)(t:Int):J6 b t=J6 a t:=by
 cases h:J6 a t with
 |some w=>exact(Go (((p.map λz:Int×Int=>z.1).nodup_iff).mpr c)).mp (p.mem_iff.mpr (Qh h))
 |none =>
  cases e:J6 b t with
  |none=>rfl
  |some w =>
   have:=(Go c).mp (p.mem_iff.mp (Qh e));rw[h] at this;cases this
def BC {r o:Jy}(or:j6 r)(a:j6 o)(t:Int):J6 (Qy r o) t=jw (J6 r t) (J6 o t):=by
 rw[<- A5 t o r a];exact dH (A6 o r or) (Qv _) t
theorem XF {r o:Jy}(a:JRow r)(b:JRow o):JRow (Qy r o):=by
 have c:=A6 o r a.once;refine⟨λz=>(Gn a.ne b.once) ?_,?_,λp hp=>?_⟩
 .have:=(Qv (ltb:=jR) (JY r o)).length_eq
  grind[Qy,List.length_nil]
 .unfold qO Qy;have i:(JP jR (JY r o)).Pairwise λx y=>x.1≠y.1:=by
   have:j6 (JP jR (JY r o)):=(((Qv (JY r o)).map λz:Int×Int=>z.1).nodup_iff).mpr c;unfold j6 List.Nodup at this
   rwa [UX] at this
  rw[UX];refine(List.Pairwise.and (Pu c) i).imp λ{x y} h=>?_
  grind[V5]
 .have e:=c.look ((Qv (JY r o)).mem_iff.mp hp);rw[A5 p.1 o r b.once] at e;cases f:J6 r p.1 with
  |some w=>exact a.bnd (p.1,w) (Qh f)
  |none =>
   cases g:J6 o p.1 with
   |some w=>exact b.bnd (p.1,w) (Qh g)
   |none=>rw[f,g] at e;cases e
def L5 {r o:Jy}(a:JRow r)(b:JRow o):JC r (Qy r o)=true:=by
 rw[zg];intro p hp;rw[BC a.once b.once,(a.once.look hp)];cases J6 o p.1 with
 |none=>exact⟨p.2,rfl,US _⟩
 |some y=>exact⟨_,rfl,by split<;>lia⟩
def L6 {r o:Jy}(b:JRow r)(a:JRow o):JC o (Qy r o)=true:=by
 rw[zg];intro p hp;rw[BC b.once a.once,(a.once.look hp)];cases J6 r p.1 with
 |none=>exact⟨p.2,rfl,US _⟩
 |some y=>exact⟨_,rfl,by split<;>lia⟩
def Et {r o q:Jy}(j:JRow r)(l:JRow o)(g:JC r q=true)(h:JC o q=true):JC (Qy r o) q=true:=by
 rw[zg] at g h ⊢;intro p hp;have c:=(XF j l).once.look hp;rw[BC j.once l.once] at c;cases f:J6 r p.1 with
 |none =>
  rw[f] at c;exact h p (Qh c)
 |some x =>
  cases i:J6 o p.1 with
  |none =>
   rw[f,i] at c;cases c;exact g (p.1,p.2) (Qh f)
  |some y =>
   rw[f,i] at c;obtain⟨w,n,a⟩:=g (p.1,x) (Qh f);obtain⟨s,m,b⟩:=h (p.1,y) (Qh i);have e:=Zqi c
   grind
def jM (g:Jz)(r:Jy):Bool:=g.any λo=>JC o r
def rb {g:Jz}{r:Jy}:jM g r=true↔∃o∈g,JC o r=true:=VH
def QZ (f g:Jz)(l:Jz):Jz:=(l.filter λr => !jM g r).flatMap λr=>(g.filter λo => !jM f o).map (Qy r)
def K4 (f g:Jz):Jz:=(f.filter (jM g)++g.filter (jM f))++QZ f g f
def L8 (f g l:Jz):(QZ f g l).length=(l.filter λr => !jM g r).length*(g.filter λo => !jM f o).length:=by
 unfold QZ;generalize l.filter (λr => !jM g r)=a
 induction a with
 |nil=>simp
 |cons r a b=>grind
theorem BD {α: Type}(p:α -> Bool):∀l:List α,(l.filter p).length+(l.filter λx => !p x).length=l.length
 | []=>rfl
 |x::l=>by
  have:=BD p l
  grind
def L9 {f g:Jz}(a:∀r∈f,JRow r)(b:∀r∈g,JRow r):∀q∈K4 f g,JRow q:=λq hq=>by
 rcases Jb.mp hq with hq|hq
 .grind
 .obtain⟨r,c,hq⟩:=List.mem_flatMap.mp hq
  grind[XF]
def dy {f g:Jz}(e:∀r∈f,JRow r)(h:∀r∈g,JRow r)(q:Jy):(∃x∈K4 f g,JC x q=true)↔(∃x∈Wj f g,JC x q=true):=by
 constructor
 .rintro⟨x,hx,a⟩;rcases Jb.mp hx with hx|hx
  .rcases Jb.mp hx with hx|hx
   .obtain⟨hx,i⟩:=Jf.mp hx;obtain⟨o,b,c⟩:=rb.mp i;exact⟨Qy x o,wG.mpr (),Et (e x hx) (h o b) a (Kp c a)⟩
   .obtain⟨hx,i⟩:=Jf.mp hx;obtain⟨o,b,c⟩:=rb.mp i;exact⟨Qy o x,wG.mpr ⟨o,b,x,hx,rfl⟩,Et (e o b) (h x hx) (Kp c a) a⟩
  .obtain⟨r,j,hx⟩:=List.mem_flatMap.mp hx;exact⟨_,wG.mpr (),a⟩
 .rintro⟨x,hx,a⟩;obtain⟨r,j,o,b,rfl⟩:=wG.mp hx;have l:=Kp (L5 (e r j) (h o b)) a;have m:=Kp (L6 (e r j) (h o b)) a
  grind[K4,QZ]
def gO {f g:Jz}(l:∀r∈f,JRow r)(t:∀r∈g,JRow r)(F:f.length+g.length+f.length*g.length<=1000):ZX [ji f,ji g]=.ok (ji (K4 f g)):=by
 have m:∀(ks:Jz) (r:Jy),JRow r->xu [j3 r,ji ks]=.ok (.bl (jM ks r)):=λks r h=>gC h.once (by have:=h.len;lia);have z:Ki (.one 0) (JF (J8 xu (J0 (jb 0) (J0 (jb 1) jc)))) (jb 0) [none,some (.val (ji g))] (f.map j3)=.ok ((f.filter (jM g)).map j3):=
  YV (s:=λr=>[some (.val (j3 r)),some (.val (ji g))]) (λr _=>rfl) (λr j=>by simp[m g r (l r j)]) (λr _ _=>())
 have m2:Ki (.one 0) (JF (J8 xu (J0 (jb 0) (J0 (jb 1) jc)))) (jb 0) [none,some (.val (ji f))] (g.map j3)=.ok ((g.filter (jM f)).map j3):=
  YV (s:=λr=>[some (.val (j3 r)),some (.val (ji f))]) (λr _=>rfl) (λr j=>by simp[m f r (t r j)]) (λr _ _=>())
 have u:Ki (.one 0) (Kw (JF (J8 xu (J0 (jb 0) (J0 (jb 1) jc))))) (jb 0) [none,some (.val (ji f))] (g.map j3)=.ok ((g.filter λo => !jM f o).map j3):=
  YV (s:=λr=>[some (.val (j3 r)),some (.val (ji f))]) (λr _=>rfl) (λr j=>by simp[m f r (t r j)]) (λr _ _=>())
 have Q:=BD (jM g) f;have G:=BD (jM f) g;have a:∀o∈g.filter (λo => !jM f o),JRow o:=λo n=>t o (Jf.mp n).1;have B:K4 f g=(f.filter (jM g)++g.filter (jM f))++QZ f g f:=rfl;have bl:∀i,(QZ f g (f.take i)).length<=min i f.length*g.length:=λi=>by
  rw[L8];refine VA ?_ (Vb _ _);have:=Vb (λr => !jM g r) (f.take i);rw[Uf] at this;exact this
 have C:∀(i:Nat) (r:Jy),f[i]? = some r->QZ f g (f.take (i+1))=QZ f g (f.take i)++(if jM g r=true then[] else(g.filter λo => !jM f o).map (Qy r)):=λi r j=>by
  unfold QZ;rw[Kv j,List.filter_append,List.flatMap_append];cases c:jM g r with
  |true=>rw[List.filter_cons_of_neg (by rw[c];simp),Zd rfl];rfl
  |false=>rw[List.filter_cons_of_pos (by rw[c];rfl),Ze Zj];simp
 generalize R:(g.filter λo => !jM f o)=rest at u a C G;have S:rest.length<=g.length:=()
 generalize E:f.filter (jM g)++g.filter (jM f)=A at B;have T:A.length<=f.length+g.length:=by rw[<- E,Ua];lia
 have H:(f.filter (jM g)).length+(g.filter (jM f)).length<=sizeLine:=Q6 ();have I:(f.filter (jM g)).map j3++(g.filter (jM f)).map j3=A.map j3:=by rw[<- E,Uc]
 obtain⟨sd',e,v,w⟩:=Xz (tg:=.one 4) (b:=(xz (Kw (JF (J8 xu (J0 (jb 4) (J0 (jb 1) jc))))) (Xr 2 (Q0 [none,some 4] (iS (jb 3)) (.one 0) (J8 zD (J0 (jb 1) (J0 (jb 0) jc))))) JZ)) (ds:=f.map j3) (sd:=[some (.val (ji f)),some (.val (ji g)),some (.own false (.lst (A.map j3))),some (.val (.lst (rest.map j3))),none])
  (P:=λi sd=>∃(v:Option SV),sd=[some (.val (ji f)),some (.val (ji g)),some (.own false (.lst ((A++QZ f g (f.take i)).map j3))),some (.val (.lst (rest.map j3))),v]) ⟨none,by rw[List.take_zero];simp[QZ]⟩ (by
   rintro i x sd J ⟨v,rfl⟩;obtain⟨r,j,rfl⟩:=K3 J;have U:=(Jc.mp j).1;have p:=Ur j;have q:=m g r (l r p);have X:=bl i;have K:(min i f.length+1)*g.length<=f.length*g.length:=VA () (Zf _);rw[Nat.succ_mul] at K;rw[C i r j];cases c:jM g r with
   |true =>
    rw[c] at q;rw[Zd rfl,ZA];exact⟨[some (.val (ji f)),some (.val (ji g)),some (.own false (.lst ((A++QZ f g (f.take i)).map j3))),some (.val (.lst (rest.map j3))),some (.val (j3 r))],by simp[q],_,rfl⟩
   |false =>
    rw[c] at q;rw[Ze Zj];have y:qh (.one 0) (J8 zD (J0 (jb 1) (J0 (jb 0) jc))) [none,some (.val (j3 r))] (rest.map j3)=.ok (rest.map λo=>j3 (Qy r o)):=K0 λo n=>by
     have F:=(l r p).len;have Y:=(a o n).len;simp[nq (l r p).ne (l r p).once (a o n).once () ()]
    have L:(rest.map (Qy r)).map j3=rest.map λo=>j3 (Qy r o):=by rw[Zw];rfl
    have sz:(A++QZ f g (f.take i)).length+rest.length<=sizeLine:=Q6 (by rw[Ua];lia);have M:=JT (show rest.length<=1000 from ());refine⟨[some (.val (ji f)),some (.val (ji g)),some (.own false (.lst ((A++(QZ f g (f.take i)++rest.map (Qy r))).map j3))),some (.val (.lst (rest.map j3))),some (.val (j3 r))],?_,_,rfl⟩;rw[<- Ud];generalize A++QZ f g (f.take i)=acc at sz ⊢;rw[Uc,L];simp[q,y,M,sz])
 subst w;rw[Zql,VB] at e;have N:=JT (show f.length<=1000 from ());have O:=JT (show g.length<=1000 from ());rw[B];simp[ji] at z m2 u e ⊢;simp[ZX,BB,z,m2,u,N,O,H,I,e]
def vc:FS:=(ju (qx 2 (qX jc)) (ju (qj (iS (jy Z3 (J0 (jy Z1 (J0 (jb 0) jc)) jc))) (.one 3) (ju (xz (JF (jo qU (xr [2] (jy qs (J0 (jb 2) jc))) (jb 1))) v4 JZ) (xz (Kw (JF (xr [2] (J8 xu (J0 (jb 3) (J0 (jb 2) jc)))))) (KO 2 (jb 3)) JZ))) (K9 2)))
def vh:YG->Res D:=qk 4 2 vc
def c7 (rs:Jz):(JP j5 (qW rs)).Pairwise λa b=>j5 a b=true:=ZL xY (Ib rs)
def cu {rs:Jz}{en:Int}(ne:∀r∈rs,r ≠ [])(l:∀r∈rs,qO r)(m:∀r∈rs,r.length<=100)(t:rs.length<1000)(v:0<=en):vh [ji rs,.int en]=.ok (ji ((xP rs).take en.toNat)):=by
 have dl:=Ic rs;have w:Z1 [ji rs]=some (.lst ((JP j5 (qW rs)).map j3)):=Ta ne () ();have I:(JP j5 (qW rs)).length=(qW rs).length:=(Qv (ltb:=j5) _).length_eq;have y:Z3 [.lst ((JP j5 (qW rs)).map j3)]=some (.lst ((xb rs).map j3)):=Tl (c7 rs) () λr A=>by
  have:=m r (bQ.mp ((Qv (ltb:=j5) _).mem_iff.mp A));lia
 have c:=Li l;have n:∀r,r∈xb rs->r∈rs:=λr h=>fW.mp h;have B:=Lh rs;have C:xP rs=(xb rs).filter (qg rs):=rfl;rw[C];simp[vh,vc,w,y];generalize xb rs=L at c n B;refine X0 (R:=λz=>(z.bind (xh (K9 2))).bind yN=.ok (ji ((L.filter (qg rs)).take en.toNat))) (P:=λi sd=>i<=L.length/\(((L.take i).filter (qg rs)).length:Int)<=en/\∃u,sd=[some (.val (ji rs)),some (.val (.int en)),some (.own false (.lst (((L.take i).filter (qg rs)).map j3))),u]) ⟨Ub _,by simpa using v,none,rfl⟩ ?_ ?_
 .rintro sd ⟨_,le,u,rfl⟩;rw[Zql,VB] at le ⊢;rw[UQ ()];simp[ji]
 .rintro i x sd E ⟨_,le,u,rfl⟩;obtain⟨r,hp,rfl⟩:=K3 E;have J:=(Jc.mp hp).1;have j:=c (i+1) ();rw[Kv hp,Vp,c i (),<- Kv hp] at j;have j:zp ((L.take i).filter (qg rs)) r=(L.take (i+1)).filter (qg rs):=j;have F:((L.take i).filter (qg rs)).length<=i:=by
   have a:=Vb (qg rs) (L.take i);rw[Uf] at a;lia
  rw[<- j];have p:=n r (Ur hp);have f:=gC (r:=r) (ks:=(L.take i).filter (qg rs)) (Bq (l r p)) (m r p);have e:L.filter (qg rs)=(L.take i).filter (qg rs)++(L.drop i).filter (qg rs):=by rw[<- List.filter_append,UI]
  generalize (L.take i).filter (qg rs)=ks at F f le e;have f:xu [j3 r,.lst (ks.map j3)]=.ok (.bl (ks.any λo=>JC o r)):=f;have hz:=JT (show ks.length<=1000 from ());by_cases g:(ks.length:Int)=en
  .have G:(L.filter (qg rs)).take en.toNat=ks:=by
    rw[e,List.take_left' ()]
   refine .inr (.inl ⟨[some (.val (ji rs)),some (.val (.int en)),some (.own false (.lst (ks.map j3))),some (.val (j3 r))],by simp[g],?_⟩);rw[G];simp[ji]
  .have s:∀b,(ks.any λo=>JC o r)=b->zp ks r=if b=true then ks else ks++[r]:=λb H=>by unfold zp;rw[H]
   cases q:ks.any λo=>JC o r with
   |true =>
    rw[q] at f;rw[s true q,Zd rfl];exact .inl ⟨[some (.val (ji rs)),some (.val (.int en)),some (.own false (.lst (ks.map j3))),some (.val (j3 r))],.inl (by simp[g,f]),(),le,_,rfl⟩
   |false =>
    rw[q] at f;rw[s false q,Ze Zj];exact .inl ⟨[some (.val (ji rs)),some (.val (.int en)),some (.own false (.lst ((ks++[r]).map j3))),some (.val (j3 r))],.inl (by simp[g,f,hz]),(),(by rw[Ua,Uj];lia),_,rfl⟩
def ZY:FS:=(ju (jD 2 (Kf vh (J0 (jb 0) (J0 (jo j8 (jb 1) (dC (.int 1))) jc)))) (ju (xz (JF (jo vM (jy qs (J0 (jb 2) jc)) (jb 1))) (Bd "TooMany" (qB (wT "more than ") (jb 1))) JZ) (j1 (jy X1 (J0 (jb 2) jc)))))
def Q5:YG->Res D:=qk 3 2 ZY
def dt (rs:Jz):(xP rs).length=(JU rs).length:=by
 rw[<- Lj,(Qv _).length_eq]
def jT (most:Int)(t:Jz):Option Jz:=if(t.length:Int)<=most then some t else none
def xo:Option Jz->Res D
 |some t=>.ok (ji t)
 |none=>.ex "TooMany" []
def Eu {rs:Jz}{most:Int}(ne:∀r∈rs,r ≠ [])(h:∀r∈rs,qO r)(i:∀r∈rs,r.length<=100)(e:rs.length<1000)(m:0<=most)(j:most<=1000):Q5 [ji rs,.int most]=xo (jT most (JU rs)):=by
 have f:=cu (en:=most+1) ne h i e ();have n:(xP rs).length<=rs.length:=Zh (Vb _ _) (Lh rs);have o:=dt rs;unfold jT;by_cases c:((JU rs).length:Int)<=most
 .rw[Zd c];rw[UQ ()] at f;have b:X1 [ji (xP rs)]=some (.lst ((JP j5 (xP rs)).map j3)):=c0 (λr l=>ne r (fW.mp (Jf.mp l).1)) ();rw[Lj] at b;have b:X1 [ji (xP rs)]=some (ji (JU rs)):=b;have g:¬most<((xP rs).length:Int):=()
  show _=Res.ok (ji (JU rs));simp[Q5,ZY,f,g,b]
 .rw[Ze c];have g:most<(((xP rs).take (most+1).toNat).length:Int):=by
   rw[Uf];lia
  obtain⟨z,hz⟩:=Tu (x:= "more than ") (a:=most) () ();show _=Res.ex "TooMany" []
  simp_all [Q5,ZY]
def ZZ:FS:=(ju (jD 2 (J8 Q5 (J0 (jo qf (jb 0) (dC (.int 0))) (J0 (jb 1) jc)))) (ju (qj (iS (vN (jb 0) (Wz (dC (.int 1))) Wy Wy)) (.one 3) (jD 2 (J8 Q5 (J0 (Kf ZX (J0 (jb 2) (J0 (jb 3) jc))) (J0 (jb 1) jc))))) (j1 (jb 2))))
def KF:YG->Res D:=jF 4 2 ZZ
def K5 (t f:Jz):Jz:=JU (Wj t f)
structure AllOk (fs:List Jz)(t:Jz):Prop where
 row:∀r∈t,JRow r
 abv:∀r∈t,∀f∈fs,∃s∈f,JC s r=true
 least:∀q:Jy,(∀f∈fs,∃s∈f,JC s q=true)->∃r∈t,JC r q=true
 anti:∀r∈t,∀s∈t,JC r s=true->r=s
 strict:t.Pairwise λa b=>j5 a b=true
def Ew {r:Jy}(o:j6 r):JC r r=true:=zg.mpr λp hp=>⟨p.2,o.look hp,US _⟩
def Ex {rs:Jz}:∀r∈JU rs,∀s∈JU rs,JC r s=true->r=s:=λr a s hs b=>wE.mp (xJ.mp hs).2 r (xJ.mp a).1 b
def LA {f:Jz}(h:∀r∈f,JRow r):AllOk [f] (JU f):=by
 refine⟨λr a=>h r (xJ.mp a).1,λr a g c=>?_,λq e=>?_,Ex,W3 f⟩
 .rw[Je.mp c];exact⟨r,(xJ.mp a).1,Ew (h r (xJ.mp a).1).once⟩
 .obtain⟨s,hs,i⟩:=e f ();obtain⟨r,a,b⟩:=X9 (λr a=>⟨(h r a).once,(h r a).rise⟩) hs;exact⟨r,a,Kp b i⟩
def LB {fs:List Jz}{t f:Jz}(A:AllOk fs t)(h:∀r∈f,JRow r):AllOk (fs++[f]) (K5 t f):=by
 have b:∀q∈Wj t f,JRow q:=λq e=>by
  obtain⟨r,a,o,c,rfl⟩:=wG.mp e;exact XF (A.row r a) (h o c)
 refine⟨λr a=>b r (xJ.mp a).1,λq e g m=>?_,λq e=>?_,Ex,W3 _⟩
 .obtain⟨r,a,o,c,rfl⟩:=wG.mp (xJ.mp e).1;rcases Jb.mp m with z|z
  .obtain⟨s,hs,i⟩:=A.abv r a g z;exact⟨s,hs,Kp i (L5 (A.row r a) (h o c))⟩
  .rw[Je.mp z];exact⟨o,c,L6 (A.row r a) (h o c)⟩
 .obtain⟨r,a,i⟩:=A.least q λg m=>e g ();obtain⟨o,c,j⟩:=e f ();obtain⟨s,hs,l⟩:=X9 (λr a=>⟨(b r a).once,(b r a).rise⟩) (wG.mpr ⟨r,a,o,c,rfl⟩);exact⟨s,hs,Kp l (Et (A.row r a) (h o c) i j)⟩
def Ey {rs:Jz}(h:∀r∈rs,JRow r)(b:rs ≠ []):JU rs ≠ []:=λz=>by
 cases rs with
 |nil=>exact b rfl
 |cons r rs =>
  obtain⟨s,hs,_⟩:=X9 (λr a=>⟨(h r a).once,(h r a).rise⟩) (Zqs);rw[z] at hs;cases hs
def dw {f g:Jz}(a:f ≠ [])(b:g ≠ []):Wj f g ≠ []:=λz=>by
 have:=dM f g;rw[z,ZC] at this;have:=Nat.mul_pos (Jo.mpr a) (Jo.mpr b);lia
def LC {a b:Jz}(i:∀r∈a,JRow r)(e:∀r∈b,JRow r)(h:∀q,(∃x∈a,JC x q=true)↔∃x∈b,JC x q=true):JU a=JU b:=by
 have f:∀{a b:Jz},(∀r∈a,JRow r)->(∀r∈b,JRow r)->(∀q,(∃x∈a,JC x q=true)↔∃x∈b,JC x q=true)->∀r,r∈JU a->r∈JU b:=by
  intro a b i e h r l;obtain⟨m,s⟩:=xJ.mp l;obtain⟨y,t,u⟩:=(h r).mp ⟨r,m,Ew (i r m).once⟩;obtain⟨j,n,o⟩:=X9 (λr l=>⟨(e r l).once,(e r l).rise⟩) t;have c:=(xJ.mp n).1;have p:=Kp o u;obtain⟨x,v,g⟩:=(h j).mpr ⟨j,c,Ew (e j c).once⟩;rw[(wE.mp s x v (Kp g p))] at g
  rwa [IW (i r m).once (e j c).once (i r m).rise (e j c).rise g p]
 exact WI xY (W3 a) (W3 b) λr=>⟨f i e h r,f e i (λq=>(h q).symm) r⟩
def LD {f g:Jz}(a:∀r∈f,JRow r)(b:∀r∈g,JRow r):∀q∈Wj f g,JRow q:=λq c=>by
 obtain⟨r,e,o,h,rfl⟩:=wG.mp c;exact XF (a r e) (b o h)
def df {t g:Jz}(a:∀r∈t,JRow r)(b:∀r∈g,JRow r):JU (K4 t g)=K5 t g:=LC (L9 a b) (LD a b) (dy a b)
def xC (most:Int):Jz->List Jz->Option Jz
 |t,[]=>some t
 |t,g::gs=>(jT most (K5 t g)).bind λt'=>xC most t' gs
def LF (most:Int)(t g:Jz)(a:List Jz):xC most t (g::a)=(jT most (K5 t g)).bind λt'=>xC most t' a:=rfl
def yj (most:Int)(f:Jz)(fs:List Jz):Option Jz:=(jT most (JU f)).bind λt=>xC most t fs
def WZ {most:Int}{t t':Jz}(h:jT most t=some t'):t'=t/\(t.length:Int)<=most:=by
 grind[jT]
def dr {t g:Jz}(a:∀r∈t,JRow r)(b:∀r∈g,JRow r)(c:t ≠ [])(e:g ≠ []):K5 t g ≠ []:=Ey (LD a b) (dw c e)
theorem LG {most:Int}:∀{a fs:List Jz} {t t':Jz},AllOk fs t->(t.length:Int)<=most->t ≠ []->(∀g∈a,g ≠ []/\∀r∈g,JRow r)->xC most t a=some t'->AllOk (fs++a) t'/\(t'.length:Int)<=most/\t' ≠ []
 | [],fs,t,t',A,hl,hn,_,h=>by
  cases h
  simp_all
 |g::a,fs,t,t',A,hl,hn,hg,h=>by
  unfold xC at h;cases q:jT most (K5 t g) with
  |none=>rw[q] at h;cases h
  |some i =>
   rw[q] at h;obtain⟨e,c⟩:=WZ q;have b:=hg g Zqs;have:=LG (LB A b.2) c (dr A.row b.2 hn b.1) (λx f=>hg x (Zqm _ f)) (by rwa [<- e])
   simp_all
def IK (a:f ≠ []/\∀r∈f,JRow r)(b:∀g∈fs,g ≠ []/\∀r∈g,JRow r)(h:yj most f fs=some t):AllOk (f::fs) t/\(t.length:Int)<=most/\t ≠ []:=by
 unfold yj at h;cases q:jT most (JU f) with
 |none=>rw[q] at h;cases h
 |some i =>
  rw[q] at h;obtain⟨e,c⟩:=WZ q;exact LG (LA a.2) c (Ey a.2 a.1) b (by rwa [<- e])
def cz {f:Jz}{fs:List Jz}{most:Int}(o:f ≠ []/\∀r∈f,JRow r)(c:∀g∈fs,g ≠ []/\∀r∈g,JRow r)(u:f.length<1000)(B:0<=most)(m2:most<=1000)(O:fs.length<=900)
 (sz:∀(i:Nat) (t g:Jz),AllOk (f::fs.take i) t->(t.length:Int)<=most->fs[i]? = some g->(K4 t g).length<1000/\t.length+g.length+t.length*g.length<=1000):
 KF [.lst ((f::fs).map ji),.int most]=xo (yj most f fs):=by
 have h:=Eu (rs:=f) (most:=most) (λr a=>(o.2 r a).ne) (λr a=>(o.2 r a).rise) (λr a=>by have:=(o.2 r a).len;lia) u B m2;have p:qQ ((f::fs).map ji) 0=some (ji f):=by
  rw[show((0:Int))=((0:Nat):Int) from rfl,W2 ()];rfl
 have H:Qf (ji f::fs.map ji) (some 1) none none=fs.map ji:=by
  rw[IX _ ()];rfl
 unfold yj;cases q:jT most (JU f) with
 |none =>
  rw[q] at h;have h:Q5 [ji f,.int most]=.ex "TooMany" []:=h;show _=Res.ex "TooMany" [];simp[KF,ZZ] at p ⊢;simp[p,h]
 |some j =>
  rw[q] at h;obtain⟨C,I⟩:=WZ q;have h:Q5 [ji f,.int most]=.ok (ji j):=h;show _=xo (xC most j fs);have J:AllOk [f] j:=by rw[C];exact LA o.2
  have n:((xq (.one 3) (jD 2 (J8 Q5 (J0 (Kf ZX (J0 (jb 2) (J0 (jb 3) jc))) (J0 (jb 1) jc)))) (fs.map ji) [some (.val (.lst ((f::fs).map ji))),some (.val (.int most)),some (.val (ji j)),none]).bind (xh (j1 (jb 2)))).bind xp=xo (xC most j fs):=by
   refine Ik (R:=λz=>(z.bind (xh (j1 (jb 2)))).bind xp=xo (xC most j fs)) (P:=λi sd=>∃(t:Jz) (v:Option SV),sd=[some (.val (.lst ((f::fs).map ji))),some (.val (.int most)),some (.val (ji t)),v]/\AllOk (f::fs.take i) t/\(t.length:Int)<=most/\xC most t (fs.drop i)=xC most j fs) ⟨j,none,rfl,J,by rw[C];exact I,rfl⟩ ?_ ?_
   .rintro sd ⟨t,v,rfl,A,lt,l⟩;rw[Zql,UM] at l;rw[<- l];simp[xo,xC]
   .rintro i x sd K ⟨t,v,rfl,A,lt,l⟩;obtain⟨g,m,rfl⟩:=K3 K;have E:=(Jc.mp m).1;have s:=Ur m;obtain⟨L,M⟩:=sz i t g A lt m;have F:=gO (f:=t) (g:=g) A.row (c g s).2 M;have b:=L9 A.row (c g s).2;have e:=Eu (rs:=K4 t g) (most:=most) (λr a=>(b r a).ne) (λr a=>(b r a).rise) (λr a=>by have:=(b r a).len;lia) L B m2;rw[df A.row (c g s).2] at e;have N:fs.drop i=g::fs.drop (i+1):=by
     rw[Uu E];rw[Zqg E] at m;rw[Zqi m]
    rw[N,LF] at l;cases y:jT most (K5 t g) with
    |none =>
     rw[y] at e l;have e:Q5 [ji (K4 t g),.int most]=.ex "TooMany" []:=e;refine .inr ⟨"TooMany",[],by simp[F,e],?_⟩;rw[<- l];rfl
    |some w =>
     rw[y] at e l;obtain⟨G,u⟩:=WZ y;have e:Q5 [ji (K4 t g),.int most]=.ok (ji w):=e;refine .inl ⟨[some (.val (.lst ((f::fs).map ji))),some (.val (.int most)),some (.val (ji w)),some (.val (ji g))],by simp[F,e],w,_,rfl,?_,by rw[G];exact u,l⟩;rw[Kv m,G];exact LB A (c g s).2
  simp[KF,ZZ] at p n ⊢;simp[p,h,H,n]
def dg {f g:Jz}(b:g ≠ []):(K4 f g).length<=f.length*g.length+g.length:=by
 unfold K4;rw[Ua,Ua,L8];have a:=BD (jM g) f;have p:0<g.length:=by grind
 have d:=VA (Zf (f.filter λr => !jM g r).length) (Vb (λo => !jM f o) g);have e:=Nat.le_mul_of_pos_right (f.filter (jM g)).length p
 grind[Nat.add_mul]
def wq:FS:=(ju (qx 2 (J8 Q5 (J0 (jo qf (jb 0) (dC (.int 0))) (J0 (jb 1) jc)))) (ju (qj (iS (vN (jb 0) (Wz (dC (.int 1))) Wy Wy)) (.one 3) (λsd=>(qx 2 (J8 Q5 (J0 (jo j8 (jb 2) (jb 3)) (J0 (jb 1) jc)))) (qN [2] sd))) (K9 2)))
def yr:YG->Res D:=qk 4 2 wq
def zk (most:Int):Jz->List Jz->Option Jz
 |t,[]=>jT most t
 |t,g::gs=>(jT most t).bind λ_=>zk most (x6 t g) gs
def LH {most:Int}{t:Jz}(h:jT most t=none)(a:List Jz):zk most t a=none:=by
 cases a with
 |nil=>exact h
 |cons g a=>show(jT most t).bind _=none;rw[h];rfl
def BE {most:Int}{t:Jz}(h:(t.length:Int)<=most):jT most t=some t:=Zd h
def LJ {most:Int}{t:Jz}(h:most<(t.length:Int)):jT most t=none:=Ze ()
def vd:FS:=(j1 (jy Xw (J0 (Q0 [none,none,some 1] (iS (jb 0)) (.tup [0,1]) (zx (J0 (jb 0) (J0 (jo j8 (jb 1) (jb 2)) jc)))) jc)))
def wv:YG->Res D:=jF 2 2 vd
def Qs (r:Jy)(w:Int):Jy:=r.map λp=>(p.1,p.2+w)
def nj {r:Jy}{w:Int}(b:r.length<=1000):wv [j3 r,.int w]=.ok (j3 (Qs r w)):=by
 have a:qh (.tup [0,1]) (zx (J0 (jb 0) (J0 (jo j8 (jb 1) (jb 2)) jc))) [none,none,some (.val (.int w))] (r.map qM)=.ok (r.map λp=>qM (p.1,p.2+w)):=K0 λp hp=>by
  simp[qM]
 simp[wv,vd,j3,a,JT b,Qs]
def va:FS:=(j1 (Q0 [none,some 1] (iS (jb 0)) (.one 0) (J8 wv (J0 (jb 0) (J0 (jb 1) jc)))))
def yX:YG->Res D:=qk 2 2 va
def Qj (f:Jz)(w:Int):Jz:=f.map λr=>Qs r w
def gB {f:Jz}{w:Int}(b:f.length<=1000)(c:∀r∈f,r.length<=1000):yX [ji f,.int w]=.ok (ji (Qj f w)):=by
 have a:qh (.one 0) (J8 wv (J0 (jb 0) (J0 (jb 1) jc))) [none,some (.val (.int w))] (f.map j3)=.ok (f.map λr=>j3 (Qs r w)):=K0 λr h=>by
  simp[nj (c r h)]
 have e:(Qj f w).map j3=f.map λr=>j3 (Qs r w):=by unfold Qj;rw[Zw];rfl
 simp[yX,va,ji,a,JT b,e]
def BF:FS:=(j1 (J8 KF (J0 (Q0 [none,none,some 1] (iS (jb 0)) (.tup [0,1]) (Kf yX (J0 (jo qf (jb 2) (jb 0)) (J0 (jb 1) jc)))) (J0 (jb 2) jc))))
def Kh:YG->Res D:=jF 3 3 BF
def qz (fs:List Jz)(t:Int):Jz:=fs.getD t.toNat []
def BG {fs:List Jz}{t:Int}(a:0<=t)(b:t<(fs.length:Int)):qz fs t∈fs:=by
 simp_all [qz]
def LK {fs:List Jz}{t:Int}(a:0<=t)(b:t<(fs.length:Int)):qQ (fs.map ji) t=some (ji (qz fs t)):=by
 grind[Zql,List.getElem?_map,qz,W2]
def cp {r:Jy}{fs:List Jz}(c:∀p∈r,0<=p.1/\p.1<(fs.length:Int))(e:∀f∈fs,f.length<=1000/\∀r∈f,r.length<=1000):
 qh (.tup [0,1]) (Kf yX (J0 (jo qf (jb 2) (jb 0)) (J0 (jb 1) jc))) [none,none,some (.val (.lst (fs.map ji)))] (r.map qM)=.ok ((r.map λp=>Qj (qz fs p.1) p.2).map ji):=by
 rw[Zw];exact K0 λp hp=>by
  obtain⟨a,b⟩:=c p hp;obtain⟨g,h⟩:=e _ (BG a b);simp[(LK a b),(gB g h)]
def XG:FS:=(j1 (J8 yr (J0 (Q0 [none,some 1,some 2] (iS (jb 0)) (.one 0) (J8 Kh (J0 (jb 0) (J0 (jb 1) (J0 (jb 2) jc))))) (J0 (jb 2) jc))))
def K6:YG->Res D:=qk 3 3 XG
def gP {form:Jz}{fs:List Jz}{most:Int}{g:Jy->Jz}{d:D}(c:form.length<=100)
 (a:∀r∈form,Kh [j3 r,.lst (fs.map ji),.int most]=.ok (ji (g r))) (h:yr [.lst ((form.map g).map ji),.int most]=.ok d):K6 [ji form,.lst (fs.map ji),.int most]=.ok d:=by
 have b:qh (.one 0) (J8 Kh (J0 (jb 0) (J0 (jb 1) (J0 (jb 2) jc)))) [none,some (.val (.lst (fs.map ji))),some (.val (.int most))] (form.map j3)=.ok ((form.map g).map ji):=by
  rw[Zw];exact K0 λr h=>by
   have:=a r h;simp[this]
 have hz:=JT (show form.length<=1000 from ())
 simp_all [K6,XG]
def Wl (a:YG->HP->Res (D×HP)):jQ:=(gZ (zN (JF (jo qU (jb 1) (dC (.str "all"))))) (xf (J8 KF (J0 (jb 2) (J0 (jb 3) jc)))) (gZ (zN (JF (jo qU (jb 1) (dC (.str "first"))))) (xf (J8 yr (J0 (jb 2) (J0 (jb 3) jc)))) (qV (zn (wM [4] (JF (jo (wA true) (jb 1) (jb 4)))) (ZJ (jb 4) (jb 1) (qJ zv (Qi a (J0 (jb 0) (J0 (jb 1) (J0 (jb 3) (J0 (jb 4) jc))))) (xf (qB zu (dC (.int 1)))))) Bh) (Bo K6 (QB (zO (jb 4) (jb 1)) (QB (xf (jb 2)) (QB (xf (jb 3)) W1)))))))
def vG:FS:=(j1 (qX (J0 (zx (J0 (zx (J0 (jb 0) (J0 (dC (.int 0)) jc))) jc)) jc)))
def vg:YG->Res D:=qk 1 1 vG
@[simp]def cZ (t:Int):vg [.int t]=.ok (ji [[(t,0)]]):=by
 rfl
def XH (a:YG->HP->Res (D×HP)):jQ:=(qV (ya (jD 4 (Kf ZT (J0 (jb 0) (J0 (jb 1) jc))))) (qV (ya (qx 5 (Q0 [none] (zt (J0 (jy qs (J0 (qB (jH "Plan" "givens") (jb 4)) jc)) jc)) (.one 0) (Kf vg (J0 (jb 0) jc))))) (qV (ZE (iS (qB (jH "Plan" "rows") (jb 4))) (.tup [6,7,8]) (Q9 (ya (jD 9 (ZI [none,none,some 5] 2 (iS (jb 8)) (.tup [0,1]) (Kf yX (J0 (Ww 2 (jb 0)) (J0 (jb 1) jc)))))) (K2 5 (Qi a (J0 (jb 0) (J0 (jb 7) (J0 (jb 9) (J0 (jb 2) (J0 (jb 3) jc))))))))) (zw 5 (xf (jb 5))))))
def QC:Nat->YG->HP->Res (D×HP)
 | 0=>λ_ _=>.no
 |n+1=>Qq 10 4 (XH (Qq 5 5 (Wl (QC n))))
def Qm (n:Nat):YG->HP->Res (D×HP):=Qq 5 5 (Wl (QC n))
def rf (f:Jz)(q:Jy):Prop:=∃x∈f,JC x q=true
structure Cn (f:Jz):Prop where
 ne:f ≠ []
 rows:∀r∈f,JRow r
 thin:JU f=f
def Cn.anti {f:Jz}(C:Cn f):∀r∈f,∀s∈f,JC r s=true->r=s:=by
 have h:=Ex (rs:=f)
 rwa [C.thin] at h
def Cn.strict {f:Jz}(C:Cn f):f.Pairwise λa b=>j5 a b=true:=by
 have h:=W3 f
 rwa [C.thin] at h
def tU {l:Jz}(h:∀r∈l,JRow r)(q:Jy):rf (JU l) q↔rf l q:=by
 constructor
 .rintro⟨x,a,b⟩;exact⟨x,(xJ.mp a).1,b⟩
 .rintro⟨x,a,b⟩;obtain⟨s,hs,c⟩:=X9 (λr e=>⟨(h r e).once,(h r e).rise⟩) a;exact⟨s,hs,Kp c b⟩
def t6 {l:Jz}(h:∀r∈l,JRow r)(b:l ≠ []):Cn (JU l):=⟨Ey h b,λr a=>h r (xJ.mp a).1,LC (λr a=>h r (xJ.mp a).1) h (tU h)⟩
theorem Ez (w:Int):∀(r:Jy) (t:Int),J6 (Qs r w) t=(J6 r t).map (· + w)
 | [],_=>rfl
 |p::r,t=>by
  have a:=Ez w r t;show(match J6 (Qs r w) t with|some v=>some v|none=>if p.1=t then some (p.2+w) else none)=Option.map _ (match J6 r t with|some v=>some v|none=>if p.1=t then some p.2 else none)
  grind
def cf (r:Jy)(w:Int):Qs (Qs r w) (-w)=r:=by
 unfold Qs;rw[Zw];refine(UE λp _=>?_).trans (List.map_id r)
 grind
def ci {r q:Jy}{w:Int}:JC (Qs r w) q=true↔JC r (Qs q (-w))=true:=by
 rw[zg,zg];constructor
 .intro h p hp;obtain⟨u,a,l⟩:=h (p.1,p.2+w) (Ja.mpr ⟨p,hp,rfl⟩)
  grind[Ez]
 .intro h p hp;obtain⟨b,hp',rfl⟩:=Ja.mp hp;obtain⟨u,a,l⟩:=h b hp';rw[Ez] at a;cases e:J6 q b.1 with
  |none=>rw[e] at a;cases a
  |some v =>
   grind
def dL {r:Jy}(h:JRow r)(w:Int):JRow (Qs r w):=by
 refine⟨λz=>h.ne (Jd.mp z),?_,λp hp=>?_⟩
 .have e:(Qs r w).map (·.1)=r.map (·.1):=by
   unfold Qs;rw[Zw];rfl
  unfold qO;rw[e];exact h.rise
 .obtain⟨a,hp',rfl⟩:=Ja.mp hp;exact h.bnd a hp'
theorem LL (w:Int):∀a b:Jy,j5 (Qs a w) (Qs b w)=j5 a b
 | [],[]=>rfl
 | [],_::_=>rfl
 |_::_,[]=>rfl
 |p::a,q::b=>by
  show j5 ((p.1,p.2+w)::Qs a w) ((q.1,q.2+w)::Qs b w)=_;rw[V6,V6,LL w a b];by_cases h:p=q
  .rw[Zd h,h,Zd rfl]
  .rw[Ze h,Ze λz=>h ?_]
   .simp_all [jR]
   grind
def f8 {f:Jz}(C:Cn f)(w:Int):Cn (Qj f w):=by
 refine⟨λz=>C.ne (Jd.mp z),λr j=>?_,WI xY (W3 _) ?_ λr=>⟨λh=>(xJ.mp h).1,λh=>xJ.mpr ⟨h,wE.mpr λo l e=>?_⟩⟩⟩
 .obtain⟨g,c,rfl⟩:=Ja.mp j;exact dL (C.rows g c) w
 .unfold Qj;rw[UX];exact C.strict.imp λ{a b} h=>by rwa [LL]
 .obtain⟨m,i,rfl⟩:=Ja.mp l;obtain⟨g,c,rfl⟩:=Ja.mp h;have e:=ci.mp e;rw[cf] at e;rw[C.anti m i g c e]
def cb {r:Jy}(h:r ≠ [])(w:Int)(hs:Yh):JD (Qs r w) hs=JD r hs+w:=by
 unfold JD Qs;rw[<- IT (λz=>h (Jd.mp z)),Zw,Zw]
 congr 1
 refine UE λp _=>?_
 grind
def cj {f:Jz}(b:f ≠ [])(a:∀r∈f,r ≠ [])(w:Int)(hs:Yh):J5 (Qj f w) hs=J5 f hs+w:=by
 unfold J5 Qj;rw[<- tW (λz=>b (Jd.mp z)),Zw,Zw]
 congr 1
 exact UE λr c=>cb (a r c) w hs
def dV {n:Int}{fs:List Jz}{t:Jz}{hs:Yh}(A:AllOk fs t)(F:t ≠ [])(G:fs ≠ [])(u:∀f∈fs,f ≠ []/\∀r∈f,r ≠ []/\j6 r/\∀p∈r,0<=p.1/\p.1<12):J5 t hs=jW (fs.map λf=>J5 f hs):=by
 have g:∀{r:Jy},r ≠ []->∀p∈r,jz hs p.1+p.2<=JD r hs:=λ{r} i p hp=>(Wo (l:=r.map λp=>jz hs p.1+p.2) (λz=>i (Jd.mp z))).2 _ (Ja.mpr ⟨p,hp,rfl⟩);have j:∀{r:Jy} {M:Int},r ≠ []->(∀p∈r,jz hs p.1+p.2<=M)->JD r hs<=M:=λ{r M} i h=>by
  obtain⟨m,_⟩:=Wo (l:=r.map λp=>jz hs p.1+p.2) (λz=>i (Jd.mp z));obtain⟨p,hp,e⟩:=Ja.mp m;have:=h p hp;have e:jz hs p.1+p.2=JD r hs:=e;lia
 obtain⟨H,m2⟩:=Wo (l:=fs.map λf=>J5 f hs) (λz=>G (Jd.mp z));have m2:∀f∈fs,J5 f hs<=jW (fs.map λf=>J5 f hs):=λf h=>m2 _ (Ja.mpr ⟨f,h,rfl⟩);obtain⟨v,o,x⟩:=Ja.mp H;have x:J5 v hs=jW (fs.map λf=>J5 f hs):=x;generalize jW (fs.map λf=>J5 f hs)=M at m2 x;obtain⟨r,i,R⟩:=Kq (hs:=hs) F;have lo:M<=J5 t hs:=by
  obtain⟨s,c,y⟩:=A.abv r i v o;have I:=QL (hs:=hs) c;have J:JD s hs<=JD r hs:=j ((u v o).2 s c).1 λp hp=>by
   obtain⟨w,B,K⟩:=zg.mp y p hp;have:=g (A.row r i).ne (p.1,w) (Qh B);have this:jz hs p.1+w<=JD r hs:=this;lia
  lia
 obtain⟨q,C,y⟩:=A.least ((List.range 12).map λk:Nat=>((k:Int),M-jz hs (k:Int))) λf h=>by
  obtain⟨s,c,es⟩:=Kq (hs:=hs) (u f h).1;obtain⟨L,S,N⟩:=(u f h).2 s c;refine⟨s,c,zg.mpr λp hp=>⟨M-jz hs p.1,?_,?_⟩⟩
  .have O:j6 ((List.range 12).map λk:Nat=>((k:Int),M-jz hs (k:Int))):=by
    unfold j6;rw[Zw];unfold List.Nodup;rw[UX];exact(List.nodup_range (n:=12)).imp λ{a b} h e=>h (by have e:(a:Int)=(b:Int):=e;lia)
   have b:=N p hp;exact O.look (Ja.mpr ⟨p.1.toNat,Jh.mpr (),by rw[show((p.1.toNat:Nat):Int)=p.1 by lia]⟩)
  .have a:=g L p hp;have b:=m2 f h;lia
 have I:=QL (hs:=hs) C;have J:JD q hs<=M:=j (A.row q C).ne λp hp=>by
  obtain⟨w,B,K⟩:=zg.mp y p hp;obtain⟨k,T,E⟩:=Ja.mp (Qh B);have P:((k:Nat):Int)=p.1:=Zt Prod.fst E;have Q:M-jz hs ((k:Nat):Int)=w:=Zt Prod.snd E;rw[P] at Q;lia
 lia
theorem LM {α: Type}{tg:Tg}{f:FE}{c:SD}{k:α -> D}{n:Str}{b:YG}:∀{a:List α},(∀x∈a,(∃v,(JO tg (k x) c).bind f=.ok v)\/(JO tg (k x) c).bind f=.ex n b)->(∃x∈a,(JO tg (k x) c).bind f=.ex n b)->qh tg f c (a.map k)=.ex n b
 | [],_,⟨_,h,_⟩=>nomatch h
 |x::a,h,⟨y,hy,e⟩=>by
  have nx:qh tg f c ((x::a).map k)=((JO tg (k x) c).bind f).bind λv=>(qh tg f c (a.map k)).bind λg=>.ok (v::g):=rfl;rw[nx];rcases h x Zqs with ⟨v,q⟩|q
  .rw[q,LM (λz hz=>h z (Zqm _ hz)) ?_]
   .rfl
   grind
  .rw[q];rfl
def cm {f:Jz}{fs:List Jz}{most:Int}(p:Cn f/\f.length<=64)(q:∀g∈fs,Cn g/\g.length<=64)(A:0<=most)(m2:most<=60)(F:fs.length<=900):
 yr [.lst ((f::fs).map ji),.int most]=xo (zk most f fs):=by
 have u:∀{rs:Jz},(∀r∈rs,JRow r)->rs.length<=200->Q5 [ji rs,.int most]=xo (jT most (JU rs)):=λ{rs} h l=>Eu (λr e=>(h r e).ne) (λr e=>(h r e).rise) (λr e=>by have:=(h r e).len;lia) () A ();have j:=u (rs:=f) p.1.rows ();rw[p.1.thin] at j;have n:qQ ((f::fs).map ji) 0=some (ji f):=by
  rw[show((0:Int))=((0:Nat):Int) from rfl,W2 ()];rfl
 have B:Qf (ji f::fs.map ji) (some 1) none none=fs.map ji:=by
  rw[IX _ ()];rfl
 by_cases v:(f.length:Int)<=most
 .rw[BE v] at j;have j:Q5 [ji f,.int most]=.ok (ji f):=j;have m:((xq (.one 3) (λsd=>(qx 2 (J8 Q5 (J0 (jo j8 (jb 2) (jb 3)) (J0 (jb 1) jc)))) (qN [2] sd)) (fs.map ji) [some (.val (.lst ((f::fs).map ji))),some (.val (.int most)),some (.own false (ji f)),none]).bind (xh (K9 2))).bind yN=xo (zk most f fs):=by
   refine Ik (R:=λz=>(z.bind (xh (K9 2))).bind yN=xo (zk most f fs)) (P:=λi sd=>∃(t:Jz) (s:Option SV),sd=[some (.val (.lst ((f::fs).map ji))),some (.val (.int most)),some (.own false (ji t)),s]/\(∀r∈t,JRow r)/\(t.length:Int)<=most/\zk most t (fs.drop i)=zk most f fs) ⟨f,none,rfl,p.1.rows,v,rfl⟩ ?_ ?_
   .rintro sd ⟨t,s,rfl,T,lt,b⟩;rw[Zql,UM] at b;rw[<- b];show _=xo (jT most t);rw[BE lt];simp[xo]
   .rintro i x sd C ⟨t,s,rfl,T,lt,b⟩;obtain⟨g,o,rfl⟩:=K3 C;have w:=(Jc.mp o).1;obtain⟨G,H⟩:=q g (Ur o);have y:=tN (f:=t) (g:=g) ();have tg:∀r∈t++g,JRow r:=λr e=>(Jb.mp e).elim (λz=>T r z) λz=>G.rows r z;have a:=u (rs:=t++g) tg (by rw[Ua];lia);have E:fs.drop i=g::fs.drop (i+1):=by
     rw[Uu w];rw[Zqg w] at o;rw[Zqi o]
    rw[E] at b;have b:(jT most t).bind (λ_=>zk most (x6 t g) (fs.drop (i+1)))=zk most f fs:=b;rw[BE lt] at b;have b:zk most (x6 t g) (fs.drop (i+1))=zk most f fs:=b;by_cases c:((x6 t g).length:Int)<=most
    .have a:Q5 [ji (t++g),.int most]=.ok (ji (x6 t g)):=by
      rw[a];show xo (jT most (x6 t g))=_;rw[BE c];rfl
     exact .inl ⟨[some (.val (.lst ((f::fs).map ji))),some (.val (.int most)),some (.own false (ji (x6 t g))),some (.val (ji g))],by simp[y,a],x6 t g,_,rfl,λr e=>tg r (xJ.mp e).1,c,b⟩
    .have no:jT most (x6 t g)=none:=Ze c;have a:Q5 [ji (t++g),.int most]=.ex "TooMany" []:=by
      rw[a];show xo (jT most (x6 t g))=_;rw[no];rfl
     refine .inr ⟨"TooMany",[],by simp[y,a],?_⟩;rw[<- b,LH no];rfl
  simp[yr,wq] at n m ⊢;simp[n,j,B,m]
 .rw[LJ ()] at j;have j:Q5 [ji f,.int most]=.ex "TooMany" []:=j;rw[LH (LJ ())];show _=Res.ex "TooMany" [];simp[yr,wq] at n ⊢;simp[n,j]
def d8 {a b:Jz}(A:Cn a)(B:Cn b)(hs:Yh):Cn (x6 a b)/\J5 (x6 a b) hs<=J5 a hs/\J5 (x6 a b) hs<=J5 b hs/\(J5 (x6 a b) hs=J5 a hs\/J5 (x6 a b) hs=J5 b hs):=by
 have c:=λr e=>(Jb.mp e).elim (A.rows r) (B.rows r);have ne:a++b ≠ []:=λz=>A.ne (Jx.mp z).1;refine⟨t6 c ne,?_⟩;unfold x6;rw[dW ne λr e=>⟨(c r e).ne,(c r e).once,(c r e).rise⟩];exact dD A.ne B.ne
theorem LN (hs:Yh):∀(a:List Jz) (t:Jz),Cn t->(∀g∈a,Cn g)->Cn (a.foldl x6 t)/\(J5 (a.foldl x6 t) hs=J5 t hs\/∃g∈a,J5 (a.foldl x6 t) hs=J5 g hs)/\J5 (a.foldl x6 t) hs<=J5 t hs/\∀g∈a,J5 (a.foldl x6 t) hs<=J5 g hs
 | [],t,T,_=>⟨T,.inl rfl,US _,λ_ h=>nomatch h⟩
 |g::a,t,T,G=>by
  obtain⟨b,f,i,j⟩:=d8 T (G g Zqs) hs;obtain⟨c,l,m,n⟩:=LN hs a (x6 t g) b λx e=>G x (Zqm _ e)
  grind
theorem LO {P:Jy->Prop}:∀(a:List Jz) (t:Jz),(∀r∈t,P r)->(∀g∈a,∀r∈g,P r)->∀r∈a.foldl x6 t,P r
 | [],_,h,_=>h
 |g::a,t,h,k=>LO a (x6 t g) (λr b=>(Jb.mp (xJ.mp b).1).elim (h r) ()) ()
theorem LQ {most:Int}:∀(a:List Jz) (t t':Jz),xC most t a=some t'->t'=a.foldl K5 t
 | [],_,_,h=>(Zqi h).symm
 |g::a,t,t',h=>by
  rw[LF] at h;cases q:jT most (K5 t g) with
  |none=>rw[q] at h;cases h
  |some b =>
   rw[q] at h;rw[U4,<- ((WZ q).1)];exact LQ a b t' h
def tu {most:Int}{f:Jz}{fs:List Jz}{t:Jz}(h:yj most f fs=some t):t=fs.foldl K5 (JU f):=by
 unfold yj at h;cases q:jT most (JU f) with
 |none=>rw[q] at h;cases h
 |some a =>
  rw[q] at h;rw[<- (WZ q).1];exact LQ fs a t h
theorem LR {most:Int}:∀(a:List Jz) (t t':Jz),zk most t a=some t'->t'=a.foldl x6 t/\(t'.length:Int)<=most
 | [],t,t',h=>by
  obtain⟨e,l⟩:=WZ (h);rw[e];exact⟨rfl,l⟩
 |g::a,t,t',h=>by
  have h:(jT most t).bind (λ_=>zk most (x6 t g) a)=some t':=h;cases q:jT most t with
  |none=>rw[q] at h;cases h
  |some b =>
   rw[q] at h;exact LR a (x6 t g) t' h
def dm {a b:Jy}(h:JRow a)(i:JRow b):∀p∈Qy a b,p∈a\/p∈b:=λp hp=>by
 have c:=(XF h i).once.look hp;rw[BC h.once i.once] at c;cases f:J6 a p.1 with
 |some w =>
  cases e:J6 b p.1 with
  |some v =>
   rw[f,e] at c;have g:=Qh f;have m2:=Qh e;have c:some (if w > v then w else v)=some p.2:=c
   grind
  |none =>
   rw[f,e] at c;have g:=Qh f;rw[Zqi c] at g;exact .inl g
 |none =>
  cases e:J6 b p.1 with
  |some v =>
   rw[f,e] at c;have m2:=Qh e;rw[Zqi c] at m2;exact .inr m2
  |none=>rw[f,e] at c;cases c
theorem LS {Q:Int×Int->Prop}:∀(c:List Jz) (t:Jz),(∀r∈t,JRow r/\∀p∈r,Q p)->(∀g∈c,∀r∈g,JRow r/\∀p∈r,Q p)->∀r∈c.foldl K5 t,∀p∈r,Q p
 | [],t,ht,_=>λr e=>(ht r e).2
 |g::c,t,ht,hg=>LS c (K5 t g) (λr e=>by
  obtain⟨a,i,b,j,rfl⟩:=wG.mp (xJ.mp e).1;obtain⟨f,l⟩:=ht a i;obtain⟨h,m⟩:=hg g Zqs b j;exact⟨XF f h,λp hp=>(dm f h p hp).elim (l p) (m p)⟩) λx n=>hg x (Zqm _ n)
structure Tf (n:Nat)(W:Int)(t:Jz):Prop where
 cn:Cn t
 len:t.length<=12
 th:∀r∈t,∀p∈r,p.1<(n:Int) /\ -W<=p.2/\p.2<=W
def Tf.row {n:Nat}{W:Int}{t:Jz}(T:Tf n W t):∀r∈t,JRow r/\∀p∈r,p.1<(n:Int) /\ -W<=p.2/\p.2<=W:=λr a=>⟨T.cn.rows r a,T.th r a⟩
def Tf.mono {n:Nat}{W V:Int}{t:Jz}(T:Tf n W t)(h:W<=V):Tf n V t:=⟨T.cn,T.len,λr a p hp=>by have:=T.th r a p hp;lia⟩
def Tf.wait {n:Nat}{W V:Int}{t:Jz}(T:Tf n W t){w:Int}(f: -V<=w/\w<=V):Tf n (W+V) (Qj t w):=by
 refine⟨f8 T.cn w,?_,λr b p hp=>?_⟩
 .unfold Qj;rw[Zql];exact T.len
 .obtain⟨c,a,rfl⟩:=Ja.mp b;obtain⟨e,hp',rfl⟩:=Ja.mp hp;have:=T.th c a e hp';lia
def Tf.comes {n:Nat}{W:Int}{t:Jz}(T:Tf n W t)(w:Int)(hs:Yh):J5 (Qj t w) hs=J5 t hs+w:=cj T.cn.ne (λr a=>(T.cn.rows r a).ne) w hs
def Ku:Res D:=.ex "TooMany" []
def LU {n:Nat}{W:Int}{fs:List Jz}(ne:fs ≠ [])(h:∀g∈fs,Tf n W g)(l:fs.length<=100):KF [.lst (fs.map ji),.int 12]=Ku\/∃t,KF [.lst (fs.map ji),.int 12]=.ok (ji t)/\Tf n W t/\∀hs,J5 t hs=jW (fs.map λg=>J5 g hs):=by
 cases fs with
 |nil=>exact Zn rfl ne
 |cons f fs =>
  have c:=h f Zqs;have b:∀g∈fs,Tf n W g:=by grind
  have l:fs.length+1<=100:=l;have w:=c.len;have A:=cz (most:=12) ⟨c.cn.ne,c.cn.rows⟩ (λg a=>⟨(b g a).cn.ne,(b g a).cn.rows⟩) () () () () λi t g _ lt a=>by
   have G:=b g (Ur a);have s:=G.len;have e:=dg (f:=t) G.cn.ne;have lt:t.length<=12:=()
   have m:=VA lt s;lia
  rw[A];cases q:yj 12 f fs with
  |none=>exact .inl rfl
  |some t =>
   refine .inr ⟨t,rfl,?_⟩;obtain⟨A,lt,p⟩:=IK ⟨c.cn.ne,c.cn.rows⟩ (λg a=>⟨(b g a).cn.ne,(b g a).cn.rows⟩) q;have e:=tu q;rw[c.cn.thin] at e;refine⟨⟨⟨p,A.row,WI xY (W3 _) A.strict λr=>⟨λh=>(xJ.mp h).1,λh=>xJ.mpr ⟨h,wE.mpr λo u v=>A.anti o u r h v⟩⟩⟩,(),?_⟩,λhs=>dV (n:=0) A p () λg a=>⟨(h g a).cn.ne,λr j=>⟨((h g a).cn.rows r j).ne,((h g a).cn.rows r j).once,((h g a).cn.rows r j).bnd⟩⟩⟩;rw[e];exact LS fs f c.row λg a=>(b g a).row
def LV {n:Nat}{W:Int}{fs:List Jz}(ne:fs ≠ [])(h:∀g∈fs,Tf n W g)(l:fs.length<=100):yr [.lst (fs.map ji),.int 12]=Ku\/∃t,yr [.lst (fs.map ji),.int 12]=.ok (ji t)/\Tf n W t/\∀hs,J5 t hs=q0 (fs.map λg=>J5 g hs):=by
 cases fs with
 |nil=>exact Zn rfl ne
 |cons f fs =>
  have c:=h f Zqs;have a:=λg b=>h g (Zqm _ b);have l:fs.length+1<=100:=l;have i:=c.len;rw[cm ⟨c.cn,()⟩ (λg b=>⟨(a g b).cn,by have:=(a g b).len;lia⟩) () () ()];cases q:zk 12 f fs with
  |none=>exact .inl rfl
  |some t =>
   refine .inr ⟨t,rfl,?_⟩;obtain⟨e,lt⟩:=LR fs f t q;have C:=λhs=>LN hs fs f c.cn λg b=>(a g b).cn;rw[<- e] at C;refine⟨⟨(C []).1,(),?_⟩,λhs=>?_⟩
   .rw[e];exact LO fs f c.th λg b=>(a g b).th
   .refine Cq ?_ λy j=>?_
    .grind
    grind
def dA {fs:List Jz}{t:Int}(a:0<=t)(b:t<(fs.length:Int))(hs:Yh):jz (fs.map λg=>J5 g hs) t=J5 (qz fs t) hs:=by
 simp_all [jz,qz]
def LW {n:Nat}{W V:Int}{T:List Jz}(c:∀g∈T,Tf n W g){its:Jy}(e:∀p∈its,0<=p.1/\p.1<(T.length:Int))(f:∀p∈its,-V<=p.2/\p.2<=V):(∀g∈its.map λp=>Qj (qz T p.1) p.2,Tf n (W+V) g)/\∀hs,(its.map λp=>Qj (qz T p.1) p.2).map (λg=>J5 g hs)=x5 (T.map λg=>J5 g hs) its:=by
 refine⟨λg h=>?_,λhs=>?_⟩
 .obtain⟨p,hp,rfl⟩:=Ja.mp h;obtain⟨a,b⟩:=e p hp;exact(c _ (BG a b)).wait (f p hp)
 .rw[Zw];refine UE λp hp=>?_;obtain⟨a,b⟩:=e p hp;show J5 (Qj (qz T p.1) p.2) hs=_;rw[(c _ (BG a b)).comes,dA a b]
def cq {n:Nat}{W V:Int}{fs:List Jz}{r:Jy}(a:JRow r)(b:∀p∈r,p.1<(fs.length:Int) /\ -V<=p.2/\p.2<=V)(h:∀g∈fs,Tf n W g):Kh [j3 r,.lst (fs.map ji),.int 12]=Ku\/∃t,Kh [j3 r,.lst (fs.map ji),.int 12]=.ok (ji t)/\Tf n (W+V) t/\∀hs,J5 t hs=JD r (fs.map λg=>J5 g hs):=by
 have j:∀p∈r,-V<=p.2/\p.2<=V:=λp hp=>(b p hp).2;have b:∀p∈r,0<=p.1/\p.1<(fs.length:Int):=λp hp=>⟨(a.bnd p hp).1,(b p hp).1⟩;have q:=a.len;obtain⟨l,m⟩:=LW h b j;have o:∀f∈fs,f.length<=1000/\∀r∈f,r.length<=1000:=λf i=>⟨by have:=(h f i).len;lia,λr a=>by have:=((h f i).cn.rows r a).len;lia⟩;have c:=cp b o;have hz:=JT (show r.length<=1000 from ());have e:Kh [j3 r,.lst (fs.map ji),.int 12]=KF [.lst ((r.map λp=>Qj (qz fs p.1) p.2).map ji),.int 12]:=by
  generalize (r.map λp=>Qj (qz fs p.1) p.2).map ji=ds at c;simp[Kh,BF,c,hz];cases KF [D.lst ds,D.int 12]<;>rfl
 rw[e];rcases LU (λz=>a.ne (Jd.mp z)) l (by rw[Zql];lia) with z|⟨t,z1,z2,z3⟩
 .exact .inl z
 .refine .inr ⟨t,z1,z2,λhs=>?_⟩;rw[z3,m];rfl
def LX {n m:Nat}{W V:Int}{form:Jz}{fs:List Jz}(F:Tf m V form)(i:fs.length=m)(h:∀g∈fs,Tf n W g):K6 [ji form,.lst (fs.map ji),.int 12]=Ku\/∃t,K6 [ji form,.lst (fs.map ji),.int 12]=.ok (ji t)/\Tf n (W+V) t/\∀hs,J5 t hs=J5 form (fs.map λg=>J5 g hs):=by
 have R:∀r∈form,_:=λr a=>cq (n:=n) (fs:=fs) (V:=V) (F.cn.rows r a) (by rw[i];exact F.th r a) h;have o:=F.len;have e:∀r,(JO (.one 0) (j3 r) [none,some (.val (.lst (fs.map ji))),some (.val (.int 12))]).bind (J8 Kh (J0 (jb 0) (J0 (jb 1) (J0 (jb 2) jc))))=Kh [j3 r,.lst (fs.map ji),.int 12]:=λr=>by
  simp
 by_cases c:∃r∈form,Kh [j3 r,.lst (fs.map ji),.int 12]=Ku
 .left;have b:qh (.one 0) (J8 Kh (J0 (jb 0) (J0 (jb 1) (J0 (jb 2) jc)))) [none,some (.val (.lst (fs.map ji))),some (.val (.int 12))] (form.map j3)=.ex "TooMany" []:=by
   refine LM (λr a=>?_) ?_
   .rw[e];rcases R r a with z|⟨t,z,_⟩
    .exact .inr z
    .exact .inl ⟨_,z⟩
   .obtain⟨r,a,z⟩:=c;exact⟨r,a,by rw[e];exact z⟩
  have hz:=JT (show form.length<=1000 from ());simp[K6,XG,b,hz,Ku]
 .have j:∀r,∃t,r∈form->Kh [j3 r,.lst (fs.map ji),.int 12]=.ok (ji t)/\Tf n (W+V) t/\∀hs,J5 t hs=JD r (fs.map λg=>J5 g hs):=λr=>by
   by_cases a:r∈form
   .rcases R r a with z|⟨t,z⟩
    .exact by grind
    .exact⟨t,λ_=>z⟩
   .exact⟨[],λz=>Zn z a⟩
  obtain⟨G,f⟩:=Classical.axiomOfChoice j;have p:=λd=>gP (form:=form) (fs:=fs) (most:=12) (g:=G) (d:=d) () λr a=>(f r a).1;have l:∀g∈form.map G,Tf n (W+V) g:=by grind
  have b:qh (.one 0) (J8 Kh (J0 (jb 0) (J0 (jb 1) (J0 (jb 2) jc)))) [none,some (.val (.lst (fs.map ji))),some (.val (.int 12))] (form.map j3)=.ok ((form.map G).map ji):=by
   rw[Zw];exact K0 λr h=>by
    rw[e];exact(f r h).1
  have hz:=JT (show form.length<=1000 from ());rcases LV (λz=>F.cn.ne (Jd.mp z)) l (by rw[Zql];lia) with z|⟨t,z1,z2,z3⟩
  .left;generalize (form.map G).map ji=ds at b z;simp[K6,XG,b,hz,z,Ku]
  .refine .inr ⟨t,p _ z1,z2,λhs=>?_⟩;rw[z3,Zw]
   congr 1
   exact UE ()
def Wm {f:FT}{sd:SD}{hp:HP}{b:Bool}(h:f sd=.ok b):zN f sd hp=.ok (b,hp):=by
 unfold zN;rw[h];rfl
def BH {n ar:Nat}{g:jQ}{ds:YG}{a:Addr}{d:D}{x:Res D}{e:D}(h:ds.length=ar)(b:g (JW n ds) [(a,d)]=x.bind λt=>.ok (t,[(a,e)])):Qq n ar g ds [(a,d)]=x.bind λt=>.ok (t,[(a,e)]):=by
 unfold Qq;rw[Zd h,b];cases x with
 |ok t=>exact Zd rfl
 |ex c es=>rfl
 |no=>rfl
def LY {n ar:Nat}{g:jQ}{ds:YG}{hp:HP}{c:Str}{a:YG}(h:ds.length=ar)(b:g (JW n ds) hp=.ex c a):Qq n ar g ds hp=.ex c a:=by
 simp_all [Qq]
def wN (a b c d e:D):JW 5 [a,b,c,d,e]=[some (.val a),some (.val b),some (.val c),some (.val d),some (.val e)]:=rfl
def LZ {n:Nat}(bk d e:D)(a:Addr):Qm n [bk,.str "all",d,.int 12,.adr a] [(a,e)]=(KF [d,.int 12]).bind λt=>.ok (t,[(a,e)]):=by
 refine BH rfl ?_;rw[wN];unfold Wl;rw[Wg,Wm (b:=true) (by simp[Lp]),jh,Zd rfl];simp
def Ma {n:Nat}(bk d e:D)(a:Addr):Qm n [bk,.str "first",d,.int 12,.adr a] [(a,e)]=(yr [d,.int 12]).bind λt=>.ok (t,[(a,e)]):=by
 refine BH rfl ?_;rw[wN];unfold Wl;rw[Wg,Wm (b:=false) (by simp[Lq]),jh,Ze (),Wg,Wm (b:=true) (by simp[Lr]),jh,Zd rfl];simp
theorem Mb {q:j0}:∀{ks:List j0},q∉ks->yO q ks=false
 | [],_=>rfl
 |k::ks,h=>by
  show(decide (k=q)||yO q ks)=false;rw[Mb λz=>h (Zqm _ z),Zo λz=>h ()];rfl
theorem Mc {q:j0}{d:D}:∀{ks:List j0} {ds:YG},ks.length=ds.length->q∉ks->jE (ks++[q]) (ds++[d]) q=some d
 | [],[],_,_=>Zd rfl
 | [],_::_,h,_=>by cases h
 |_::_,[],h,_=>by cases h
 |k::ks,e::ds,h,hq=>by
  show(if k=q then some e else jE (ks++[q]) (ds++[d]) q)=_;rw[Ze λz=>hq ()];exact Mc (UJ h) ()
def tL {fo fi:FE}{sd:SD}{a:Addr}{how:Str}{ks:List j0}{ds:YG}{z:D}(b:fo sd=.ok (.adr a))(c:fi sd=.ok (.str how))(hz:jE ks ds (.inr how)=some z):zO fo fi sd [(a,.dct ks ds)]=.ok (z,[(a,.dct ks ds)]):=by
 simp_all [zO,XB]
def Md {bk d:D}{how:Str}{a:Addr}{ks:List j0}{ds:YG}{z:D}(hz:jE ks ds (.inr how)=some z):Bo K6 (QB (zO (jb 4) (jb 1)) (QB (xf (jb 2)) (QB (xf (jb 3)) W1))) [some (.val bk),some (.val (.str how)),some (.val d),some (.val (.int 12)),some (.val (.adr a))] [(a,.dct ks ds)]=(K6 [z,d,.int 12]).bind λt=>.ok (t,[(a,.dct ks ds)]):=by
 unfold Bo;rw[dQ,tL rfl rfl hz,jh];simp
def E1 {bk d:D}{how:Str}{a:Addr}{ks:List j0}{ds:YG}:wM [4] (JF (jo (wA true) (jb 1) (jb 4))) [some (.val bk),some (.val (.str how)),some (.val d),some (.val (.int 12)),some (.val (.adr a))] [(a,.dct ks ds)]=.ok (!(jE ks ds (.inr how)).isSome):=by
 have e:derI [(a,.dct ks ds)] [4] [some (.val bk),some (.val (.str how)),some (.val d),some (.val (.int 12)),some (.val (.adr a))]=[some (.val bk),some (.val (.str how)),some (.val d),some (.val (.int 12)),some (.val (.dct ks ds))]:=by
  simp_all [der,XB]
 unfold wM;rw[e];rfl
def kE {n:Nat}{bk d:D}{how:Str}(c:asc how)(e:how ≠ "all")(f:how ≠ "first"){a:Addr}{ks:List j0}{ds:YG}{z:D}(hz:jE ks ds (.inr how)=some z):Qm n [bk,.str how,d,.int 12,.adr a] [(a,.dct ks ds)]=(K6 [z,d,.int 12]).bind λt=>.ok (t,[(a,.dct ks ds)]):=by
 refine BH rfl ?_;rw[wN];unfold Wl;rw[Wg,Wm (b:=false) (by simp[(QY c W4),e]),jh,Ze (),Wg,Wm (b:=false) (by simp[(QY c W5),f]),jh,Ze ()];exact wO (Lu (by rw[E1,hz];rfl) rfl) (Md hz)
def sg {n:Nat}{bk d:D}{how:Str}(g:asc how)(j:how ≠ "all")(m:how ≠ "first"){a:Addr}{ks ks':List j0}{ds ds':YG}(hz:jE ks ds (.inr how)=none){ys:List Jz}{t:Jz}(h:QC n [bk,.str how,.int 12,.adr a] [(a,.dct ks ds)]=.ok (.lst ((ys++[t]).map ji),[(a,.dct ks' ds')]))(o:ks'.length=ds'.length)(i: .inr how∉ks')(l:ks'.length<=1000):
 Qm n [bk,.str how,d,.int 12,.adr a] [(a,.dct ks ds)]=(K6 [ji t,d,.int 12]).bind λz=>.ok (z,[(a,.dct (ks'++[.inr how]) (ds'++[ji t]))]):=by
 have p:=QY g W4;have q:=QY g W5;have c:=Ed (f:=ji) ys t;have e:=Mc (d:=ji t) o i;have r:=JT l;have s:=Mb i;refine BH rfl ?_;rw[wN];unfold Wl;rw[Wg,Wm (b:=false) (by simp[p,j]),jh,Ze (),Wg,Wm (b:=false) (by simp[q,m]),jh,Ze ()];refine wO (sd':=[some (.val bk),some (.val (.str how)),some (.val d),some (.val (.int 12)),some (.val (.adr a))]) (hp':=[(a,.dct (ks'++[.inr how]) (ds'++[ji t]))]) (Ls (by rw[E1,hz];rfl) ?_) (Md e);show(ZJ _ _ _ [some (.val bk),some (.val (.str how)),some (.val d),some (.val (.int 12)),some (.val (.adr a))] _)=_;unfold ZJ;have u:qJ zv (Qi (QC n) (J0 (jb 0) (J0 (jb 1) (J0 (jb 3) (J0 (jb 4) jc))))) (xf (qB zu (dC (.int 1)))) [some (.val bk),some (.val (.str how)),some (.val d),some (.val (.int 12)),some (.val (.adr a))] [(a,.dct ks ds)]=.ok (ji t,[(a,.dct ks' ds')]):=by
  generalize (ys++[t]).map ji=es at h c;have c:zv (.lst es) (.int (-1))=some (ji t):=c;simp[h,c]
 simp_all [IP,VY,Wu,XB,tJ]
def kF {n:Nat}{bk d:D}{how:Str}(e:asc how)(g:how ≠ "all")(h:how ≠ "first"){a:Addr}{ks:List j0}{ds:YG}(hz:jE ks ds (.inr how)=none){c:Str}{f:YG}(i:QC n [bk,.str how,.int 12,.adr a] [(a,.dct ks ds)]=.ex c f):
 Qm n [bk,.str how,d,.int 12,.adr a] [(a,.dct ks ds)]=.ex c f:=by
 refine LY rfl ?_;rw[wN];unfold Wl;rw[Wg,Wm (b:=false) (by simp[(QY e W4),g]),jh,Ze (),Wg,Wm (b:=false) (by simp[(QY e W5),h]),jh,Ze (),Bu]
 simp_all [ZJ,E1]
theorem Me {rc b:Str->List Int->Int}:∀{a:List Rw},(∀r∈a,∀f,xL rc f r=xL b f r)->∀hs,qb rc a hs=qb b a hs
 | [],_,_=>rfl
 |r::a,h,hs=>by
  show qb rc a (hs++[xL rc hs r])=qb b a (hs++[xL b hs r]);rw[h r Zqs];exact Me () _
def BkP.fuel {ps:List Pl}(B:BkP ps):∀(j n:Nat) (q:Pl),ps[j]? = some q->j<n->∀hs,xa ps n q hs=xa ps (j+1) q hs:=by
 intro j
 induction j using Nat.strongRecOn with
 |ind j b =>
  intro n q c h hs;obtain⟨a,rfl⟩:∃a,n=a+1:=⟨n-1,()⟩;rw[Eh,Eh];refine Me (λr e f=>?_) hs;obtain⟨k,g⟩:=Jm.mp e;unfold xL;rcases B.how c g with z|z|⟨_,z1,z2,j2,q2,z3,z4,z5,_⟩
  .rw[Zd z,Zd z]
  .rw[Zd z,Zd z]
  .rw[Ze z1,Ze z2,Ze z1,Ze z2,z5];unfold x8;rw[B.find z4];show(xa ps a q2 _).getLastD 0=(xa ps j q2 _).getLastD 0;rw[b j2 z3 a q2 z4 (),b j2 z3 j q2 z4 ()]
def BkP.rc {ps:List Pl}(B:BkP ps){j n:Nat}{q:Pl}(a:ps[j]? = some q)(h:j<n)(b:Yh):x8 ps n q.name b=x8 ps (j+1) q.name b:=by
 unfold x8;rw[B.find a];show(xa ps n q _).getLastD 0=(xa ps (j+1) q _).getLastD 0;rw[B.fuel j n q a h]
abbrev Kn:=List (Str×Jz)
def kD (K:Kn):D:=.dct (K.map λx=>.inr x.1) (K.map λx=>ji x.2)
theorem kK (x:Str):∀K:Kn,(jE (K.map λx=>.inr x.1) (K.map λx=>ji x.2) (.inr x)=none/\x∉K.map (·.1))\/∃f,(x,f)∈K/\jE (K.map λx=>.inr x.1) (K.map λx=>ji x.2) (.inr x)=some (ji f)
 | []=>.inl ⟨rfl,λz=>nomatch z⟩
 |y::K=>by
  rw[Zl,Zl,CV];by_cases c:y.1=x
  .grind
  .rcases kK x K with ⟨a,b⟩|⟨f,a,b⟩
   .grind
   grind
def wB:Nat->Int
 | 0=>1000000000000000000000000000000
 |j+1=>16*wB j
theorem Aa:∀j,1000000000000000000000000000000<=wB j
 | 0=>US _
 |j+1=>by have:=Aa j;show _<=16*wB j;lia
theorem E2:∀{i j:Nat},i<=j->wB i<=wB j
 |i,0,h=>by simp_all
 |i,j+1,h=>by
  have p:=Aa j;rcases Vq j i with z|z
  .grind
  .have:=E2 z;show _<=16*wB j;lia
structure KOk (ps:List Pl)(K:Kn):Prop where
 nd:(K.map (·.1)).Nodup
 ok:∀x∈K,∃j q,ps[j]? = some q/\x.1=q.name/\Tf q.givens.length (wB (j+1)) x.2/\∀hs:Yh,hs.length=q.givens.length->J5 x.2 hs=x8 ps (j+1) q.name hs
def wm (ps:List Pl)(j:Nat)(K b:Kn):Prop:=∀x∈b.map (·.1),x∈K.map (·.1)\/∃a q,a<j/\ps[a]? = some q/\x=q.name
theorem Mf:∀(ps:List Pl) (l:Yk),l.Nodup->(∀x∈l,∃q∈ps,x=q.name)->l.length<=ps.length
 | [],l,_,h=>by
  cases l with
  |nil=>exact Zf _
  |cons x l =>
   obtain⟨q,a,_⟩:=h x Zqs;cases a
 |p::ps,l,nd,h=>by
  have b:=Mf ps (l.erase p.name) (nd.erase _) λx c=>by
   grind
  grind
theorem KOk.len {ps:List Pl}{K:Kn}(h:KOk ps K)(B:BkP ps):K.length<=4:=by
 have:=Mf ps (K.map (·.1)) h.nd λx a=>by
  obtain⟨y,b,rfl⟩:=Ja.mp a;obtain⟨j,q,c,e,_⟩:=h.ok y b;exact⟨q,Ur c,e⟩
 rw[Zql] at this;have:=B.len;lia
def vD (ps:List Pl)(n:Nat)(p:Pl)(j:Nat)(K:Kn):Prop:=(∀a,QC n [JA ps,.str p.name,.int 12,.adr a] [(a,kD K)]=.ex "TooMany" [])\/∃T b,KOk ps b/\wm ps j K b/\(∀g∈T,Tf p.givens.length (wB (j+1)) g)/\(∀hs:Yh,hs.length=p.givens.length->(T.map λg=>J5 g hs)=xa ps (j+1) p hs)/\T ≠ []/\∀a,QC n [JA ps,.str p.name,.int 12,.adr a] [(a,kD K)]=.ok (.lst (T.map ji),[(a,kD b)])
def wQ {x:Res D}{f:D->Res (D×HP)}(h:x=Ku):x.bind f=.ex "TooMany" []:=by rw[h];rfl
def dv {ps:List Pl}(B:BkP ps){n j:Nat}{p:Pl}(hp:ps[j]? = some p)(X:∀c q K,c<j->ps[c]? = some q->KOk ps K->vD ps n q c K){k:Nat}{r:Rw}(L:p.rows[k]? = some r){W:Int}{T:List Jz}(Y:∀g∈T,Tf p.givens.length W g)(lT:T.length=p.givens.length+k){K:Kn}(A:KOk ps K):
 (∀a,Qm n [JA ps,.str r.2.1,.lst ((r.2.2.map λp=>Qj (qz T p.1) p.2).map ji),.int 12,.adr a] [(a,kD K)]=.ex "TooMany" [])\/∃t i,KOk ps i/\wm ps j K i/\Tf p.givens.length (W+2*wB j) t/\(∀hs:Yh,J5 t hs=xL (x8 ps j) (T.map λg=>J5 g hs) r)/\∀a,Qm n [JA ps,.str r.2.1,.lst ((r.2.2.map λp=>Qj (qz T p.1) p.2).map ji),.int 12,.adr a] [(a,kD K)]=.ok (ji t,[(a,kD i)]):=by
 have R:=(B.ok j p hp).row k r L;have sh:=R.sh;obtain⟨C,E⟩:=LW Y (its:=r.2.2) (V:=1000000000000000000000000000000) (λy Z=>by have:=R.rng y Z;lia) R.wt;have pj:=Aa j;have ne:(r.2.2.map λp=>Qj (qz T p.1) p.2) ≠ []:=λz=>R.ne (Jd.mp z);have M:(r.2.2.map λp=>Qj (qz T p.1) p.2).length=r.2.2.length:=Zql _;have same:wm ps j K K:=λx v=>.inl v;unfold xL;generalize (r.2.2.map λp=>Qj (qz T p.1) p.2)=fs at C E ne M;rcases B.how hp L with z|z|⟨z0,z1,z2,c,q,z3,z4,z5,z6⟩
 .rw[z];simp only[if_true];rcases LU ne C () with y|⟨t,m,o,s⟩
  .exact .inl λa=>by rw[LZ];exact wQ y
  .refine .inr ⟨t,K,A,same,o.mono (),λhs=>?_,λa=>?_⟩
   .rw[s,E]
   .rw[LZ,m];rfl
 .rw[z];have d:¬("first" : Str) = "all" := by decide +kernel
  simp only[if_true,Ze d];rcases LV ne C () with y|⟨t,m,o,s⟩
  .exact .inl λa=>by rw[Ma];exact wQ y
  .refine .inr ⟨t,K,A,same,o.mono (),λhs=>?_,λa=>?_⟩
   .rw[s,E]
   .rw[Ma,m];rfl
 .simp only[Ze z1,Ze z2];have rc:∀H,x8 ps j r.2.1 H=x8 ps (c+1) q.name H:=λH=>by rw[z5];exact B.rc z4 z3 H
  have N:fs.length=q.givens.length:=M.trans z6;have wj:=E2 (show c+1<=j from ());have O:∀hs,(fs.map λg=>J5 g hs).length=q.givens.length:=by grind
  rcases kK r.2.1 K with ⟨I,J⟩|⟨f,I,J⟩
  .rcases X c q K z3 z4 A with y|⟨U,i,k1,k2,k3,k4,k5,k6⟩
   .exact .inl λa=>kF z0 z1 z2 I (by have:=y a;rw[<- z5] at this;exact this)
   .obtain⟨ys,t,rfl⟩:=Ee k5;have P:Tf q.givens.length (wB (c+1)) t:=k3 t (Ut _ Zqs);have ct:∀hs:Yh,hs.length=q.givens.length->J5 t hs=x8 ps (c+1) q.name hs:=λhs h=>by
     have e:=k4 hs h;obtain⟨zs,ez⟩:=B.part (n:=c) z4 hs;rw[ez,Uc] at e;have e:=Zt (λl=>l.getLastD 0) e;have e:((ys.map λg=>J5 g hs)++[J5 t hs]).getLastD 0=(zs++[x8 ps (c+1) q.name hs]).getLastD 0:=e;rw[VO,VO] at e;exact e
    have Q:r.2.1∉i.map (·.1):=λy=>by
     rcases k2 _ y with y|⟨F,w,m,o,s⟩
     .exact J y
     .have e:q.name=w.name:=z5.symm.trans s;rw[B.nm c q z4,B.nm F w o] at e;have:=Ef (B.at z4).2.1 (B.at o).2.1 e;lia
    have nk:(UN r.2.1:j0)∉i.map λx=>UN x.1:=λy=>by
     obtain⟨x,v,e⟩:=Ja.mp y;injection e with e
     exact Q (Ja.mpr ⟨x,v,e⟩)
    have l4:=k1.len B;have G:=λa=>sg (n:=n) (bk:=JA ps) (d:=.lst (fs.map ji)) z0 z1 z2 (a:=a) I (ys:=ys) (t:=t) (ks':=i.map λx=>.inr x.1) (ds':=i.map λx=>ji x.2) (by have:=k6 a;rw[<- z5] at this;exact this) (by rw[Zql,Zql]) nk (by rw[Zql];lia);have kd:∀a:Addr,[(a,D.dct ((i.map λx=>UN x.1)++[.inr r.2.1]) ((i.map λx=>ji x.2)++[ji t]))]=[(a,kD (i++[(r.2.1,t)]))]:=λa=>by
     unfold kD;rw[Uc,Uc];rfl
    have ko:KOk ps (i++[(r.2.1,t)]):=⟨by
     rw[Uc];refine List.nodup_append.mpr ⟨k1.nd,VU _ _,λa S b hb e=>?_⟩;rw[e,Je.mp hb] at S;exact Q S,λx v=>by
     rcases Jb.mp v with y|y
     .exact k1.ok x y
     .rw[Je.mp y];exact⟨c,q,z4,z5,P,ct⟩⟩
    have nw:wm ps j K (i++[(r.2.1,t)]):=λx v=>by
     rw[Uc] at v;rcases Jb.mp v with y|y
     .rcases k2 x y with y|⟨F,w,m,o,s⟩
      .exact .inl y
      .exact .inr ⟨F,w,(),o,s⟩
     .exact .inr ⟨c,q,z3,z4,(Je.mp y).trans z5⟩
    rcases LX P N C with y|⟨u,m,o,s⟩
    .exact .inl λa=>by
      show Qm n _ [(a,D.dct _ _)]=_;rw[G a];exact wQ y
    .refine .inr ⟨u,_,ko,nw,o.mono (),λhs=>?_,λa=>?_⟩
     .rw[s,ct _ (O hs),rc,E]
     .show Qm n _ [(a,D.dct _ _)]=_;rw[G a,m,kd];rfl
  .obtain⟨F,w,m,o,s,y4⟩:=A.ok _ I;have e:q.name=w.name:=z5.symm.trans o;rw[B.nm c q z4,B.nm F w m] at e;have e:=Ef (B.at z4).2.1 (B.at m).2.1 e;subst e;rw[z4] at m;cases m;have G:=λa=>kE (n:=n) (bk:=JA ps) (d:=.lst (fs.map ji)) z0 z1 z2 (a:=a) J;rcases LX s N C with y|⟨u,x1,x2,x3⟩
   .exact .inl λa=>by
     show Qm n _ [(a,D.dct _ _)]=_;rw[G a];exact wQ y
   .refine .inr ⟨u,K,A,same,x2.mono (),λhs=>?_,λa=>?_⟩
    .rw[x3,y4 _ (O hs),rc,E]
    .show Qm n _ [(a,D.dct _ _)]=_;rw[G a,x1];rfl
def dJ {T:List Jz}{its:Jy}(h:∀p∈its,0<=p.1/\p.1<(T.length:Int))(hs:∀g∈T,g.length<=1000/\∀r∈g,r.length<=1000):qh (.tup [0,1]) (Kf yX (J0 (Ww 2 (jb 0)) (J0 (jb 1) jc))) [none,none,some (.own false (.lst (T.map ji)))] (its.map qM)=.ok ((its.map λp=>Qj (qz T p.1) p.2).map ji):=by
 rw[Zw];exact K0 λp hp=>by
  obtain⟨b,c⟩:=h p hp;have a:=LK b c;obtain⟨e,f⟩:=hs _ (BG b c);have i:=gB (w:=p.2) e f
  simp_all
def XI (n:Nat):qo:=(Q9 (ya (jD 9 (ZI [none,none,some 5] 2 (iS (jb 8)) (.tup [0,1]) (Kf yX (J0 (Ww 2 (jb 0)) (J0 (jb 1) jc)))))) (K2 5 (Qi (Qm n) (J0 (jb 0) (J0 (jb 7) (J0 (jb 9) (J0 (jb 2) (J0 (jb 3) jc))))))))
def yL (bk nm pl:D)(a:Addr)(T:YG)(u6 u7 u8 u9:Option SV):SD:=[some (.val bk),some (.val nm),some (.val (.int 12)),some (.val (.adr a)),some (.val pl),some (.own false (.lst T)),u6,u7,u8,u9]
def sZ {n:Nat}{bk nm pl:D}{a:Addr}{T:List Jz}{u6 u7 u8 u9:Option SV}{hp:HP}{r:Rw}(f:∀p∈r.2.2,0<=p.1/\p.1<(T.length:Int))(hs:∀g∈T,g.length<=1000/\∀r∈g,r.length<=1000)(l:r.2.2.length<=1000):
 QU (.tup [6,7,8]) (XI n) (jG r) (yL bk nm pl a (T.map ji) u6 u7 u8 u9) hp=K2 5 (Qi (Qm n) (J0 (jb 0) (J0 (jb 7) (J0 (jb 9) (J0 (jb 2) (J0 (jb 3) jc)))))) (yL bk nm pl a (T.map ji) (some (.val (.str r.1))) (some (.val (.str r.2.1))) (some (.val (j3 r.2.2))) (some (.val (.lst ((r.2.2.map λp=>Qj (qz T p.1) p.2).map ji))))) hp:=by
 have h:=dJ f hs;have i:=JT l;have j:∀a b c d e u6 u7 u8 u9,capO [none,none,some 5] 2 [a,b,c,d,e,some (.own false (.lst (T.map ji))),u6,u7,u8,u9]=[none,none,some (.own false (.lst (T.map ji)))]:=λ_ _ _ _ _ _ _ _ _=>rfl
 simp_all [yL,XI]
def so {n:Nat}{bk nm pl d:D}{a:Addr}{T:YG}{u6:Option SV}{b:Option SV}{how fs:D}{hp hp':HP}(h:Qm n [bk,how,fs,.int 12,.adr a] hp=.ok (d,hp'))(l:T.length<=1000):
 K2 5 (Qi (Qm n) (J0 (jb 0) (J0 (jb 7) (J0 (jb 9) (J0 (jb 2) (J0 (jb 3) jc)))))) (yL bk nm pl a T u6 (some (.val how)) b (some (.val fs))) hp=.ok (.next (yL bk nm pl a (T++[d]) u6 (some (.val how)) b (some (.val fs))) hp'):=by
 have z:=JT l
 simp_all [yL,K2]
def sL {n:Nat}{bk nm pl:D}{a:Addr}{T:YG}{u6:Option SV}{e:Option SV}{how fs:D}{hp:HP}{c:Str}{b:YG}(h:Qm n [bk,how,fs,.int 12,.adr a] hp=.ex c b):
 K2 5 (Qi (Qm n) (J0 (jb 0) (J0 (jb 7) (J0 (jb 9) (J0 (jb 2) (J0 (jb 3) jc)))))) (yL bk nm pl a T u6 (some (.val how)) e (some (.val fs))) hp=.ex c b:=by
 simp_all [yL,K2]
def rZ {b:D->qo}{x:D}{e:YG}{sd:SD}{hp:HP}{c:Str}{a:YG}(h:b x sd hp=.ex c a):qi b (x::e) sd hp=.ex c a:=by
 unfold qi;rw[h];rfl
def Mg {b:D->qo}{x:D}{a:YG}{sd sd':SD}{hp hp':HP}(h:b x sd hp=.ok (.next sd' hp')):qi b (x::a) sd hp=qi b a sd' hp':=by
 rw[qi,h];rfl
theorem Mh {ps:List Pl}(B:BkP ps){n j:Nat}{p:Pl}(hp:ps[j]? = some p)(G:∀u q K,u<j->ps[u]? = some q->KOk ps K->vD ps n q u K):∀(b:List Rw) (i:Nat),p.rows.drop i=b->i<=p.rows.length->∀(T:List Jz) (K:Kn),(∀g∈T,Tf p.givens.length ((i:Int)*(2*wB j)) g)->T.length=p.givens.length+i->(∀hs:Yh,hs.length=p.givens.length->(T.map λg=>J5 g hs)=qb (x8 ps j) (p.rows.take i) hs)->KOk ps K ->
 (∀(nm pl:D) (a:Addr) u6 u7 u8 u9,qi (QU (.tup [6,7,8]) (XI n)) (b.map jG) (yL (JA ps) nm pl a (T.map ji) u6 u7 u8 u9) [(a,kD K)]=.ex "TooMany" [])\/∃(f:List Jz) (l:Kn),KOk ps l/\wm ps j K l/\(∀g∈f,Tf p.givens.length ((p.rows.length:Int)*(2*wB j)) g)/\f.length=p.givens.length+p.rows.length/\(∀hs:Yh,hs.length=p.givens.length->(f.map λg=>J5 g hs)=qb (x8 ps j) p.rows hs)/\∀(nm pl:D) (a:Addr) u6 u7 u8 u9,∃v A C E,qi (QU (.tup [6,7,8]) (XI n)) (b.map jG) (yL (JA ps) nm pl a (T.map ji) u6 u7 u8 u9) [(a,kD K)]=.ok (.next (yL (JA ps) nm pl a (f.map ji) v A C E) [(a,kD l)])
 | [],i,hd,hi,T,K,hT,lT,cT,hK=>by
  have e:i=p.rows.length:=by
   have:=List.drop_eq_nil_iff.mp hd;lia
  subst e;rw[VB] at cT;exact .inr ⟨T,K,hK,λx m=>.inl m,hT,lT,cT,λnm pl a u6 u7 u8 u9=>⟨u6,u7,u8,u9,rfl⟩⟩
 |r::b,i,hd,hi,T,K,hT,lT,cT,hK=>by
  have c:i<p.rows.length:=by
   rcases Vq i p.rows.length with z|z
   .exact z
   .rw[List.drop_eq_nil_iff.mpr z] at hd;cases hd
  rw[Uu c] at hd;injection hd with h1 h2
  have F:p.rows[i]? = some r:=by rw[Zqg c,h1]
  have P:=B.ok j p hp;have R:=P.row i r F;have J:=P.g2;have L:=P.r2;have M:=R.sh;have rs:=λ(nm pl:D) (a:Addr) u6 u7 u8 u9=>sZ (n:=n) (bk:=JA ps) (nm:=nm) (pl:=pl) (a:=a) (T:=T) (u6:=u6) (u7:=u7) (u8:=u8) (u9:=u9) (hp:=[(a,kD K)]) (r:=r) (λy H=>by have:=R.rng y H;lia) (λg s=>⟨by have:=(hT g s).len;lia,λx m=>by have:=((hT g s).cn.rows x m).len;lia⟩) ();rcases dv B hp G F hT lT hK with z|⟨t,K1,k1,k2,k3,k4,k5⟩
  .exact .inl λnm pl a u6 u7 u8 u9=>rZ (by rw[rs];exact sL (z a))
  .have st:∀(nm pl:D) (a:Addr) u6 u7 u8 u9,QU (.tup [6,7,8]) (XI n) (jG r) (yL (JA ps) nm pl a (T.map ji) u6 u7 u8 u9) [(a,kD K)]=.ok (.next (yL (JA ps) nm pl a ((T++[t]).map ji) (some (.val (.str r.1))) (some (.val (.str r.2.1))) (some (.val (j3 r.2.2))) (some (.val (.lst ((r.2.2.map λp=>Qj (qz T p.1) p.2).map ji))))) [(a,kD K1)]):=λnm pl a u6 u7 u8 u9=>by
    rw[rs,so (k5 a) (by rw[Zql];lia),Uc];rfl
   have N:=Aa j;have o:((i+1:Nat):Int)*(2*wB j)=(i:Int)*(2*wB j)+2*wB j:=by rw[Int.natCast_add,Int.add_mul];lia
   have I:=Mh B hp G b (i+1) h2 c (T++[t]) K1 (λg s=>by
    rcases Jb.mp s with y|y
    .exact(hT g y).mono (by rw[o];lia)
    .rw[Je.mp y];exact k3.mono (by rw[o];lia)) (by rw[Ua,Uj];lia) (λhs h=>by
    rw[Uc,cT hs h,Lv F,<- cT hs h];show _++[J5 t hs]=_;rw[k4]) k1
   rcases I with y|⟨f,l,y1,y2,y3,y4,y5,y6⟩
   .exact .inl λnm pl a u6 u7 u8 u9=>(Mg (st nm pl a u6 u7 u8 u9)).trans (y nm pl a _ _ _ _)
   .refine .inr ⟨f,l,y1,λx m=>?_,y3,y4,y5,λnm pl a u6 u7 u8 u9=>?_⟩
    .rcases y2 x m with w|w
     .exact k2 x w
     .exact .inr w
    .obtain⟨v,A,C,E,e⟩:=y6 nm pl a _ _ _ _;exact⟨v,A,C,E,(Mg (st nm pl a u6 u7 u8 u9)).trans e⟩
def sI {g t:Nat}(h:t<g)(a:g<=12):Tf g 0 [[((t:Int),0)]]:=by
 have b:JRow [((t:Int),(0:Int))]:=⟨List.cons_ne_nil _ _,VU _ _,()⟩;refine⟨⟨List.cons_ne_nil _ _,(),WI xY (W3 _) () λr=>⟨λh=>(xJ.mp h).1,λh=>xJ.mpr ⟨h,wE.mpr ()⟩⟩⟩,(),λr c p hp=>?_⟩
 simp_all
def yP (g:Nat):List Jz:=(List.range g).map λt:Nat=>[[((t:Int),(0:Int))]]
def dF {g:Nat}{hs:Yh}(h:hs.length=g):((yP g).map λf=>J5 f hs)=hs:=by
 unfold yP;apply VM;intro i;rcases Vq i g with z|z
 .have e:J5 [[((i:Int),(0:Int))]] hs=jz hs (i:Int)+0:=rfl
  simp_all [jz]
 simp_all
theorem Mi {ps:List Pl}(B:BkP ps):∀(n j:Nat) (p:Pl) (K:Kn),ps[j]? = some p->j<n->KOk ps K->vD ps n p j K
 | 0,_,_,_,_,h,_=>()
 |n+1,j,p,K,hp,hj,hK=>by
  have P:=B.ok j p hp;have u:=P.g1;have v:=P.g2;have l:=L0 (B.at hp).2.2.1 B.ascs (B.find hp);have w:KW [.int (p.givens.length:Nat)]=.ok (JS 0 p.givens.length):=by rw[Wx () ()];rfl
  have x:qh (.one 0) (Kf vg (J0 (jb 0) jc)) [none] (JS 0 p.givens.length)=.ok ((yP p.givens.length).map ji):=by
   unfold yP;rw[Zw];exact Dr λi y=>by simp
  have A:jH "Plan" "givens" (JH p)=some (.lst (p.givens.map .str)):=rfl;have C:jH "Plan" "rows" (JH p)=some (.lst (p.rows.map jG)):=rfl;have m:(p.givens.map D.str).length=p.givens.length:=Zql _;have E:=JT (show p.givens.length<=1000 from ());have st:∀a,JW 10 [JA ps,.str p.name,.int 12,.adr a]=[some (.val (JA ps)),some (.val (.str p.name)),some (.val (.int 12)),some (.val (.adr a)),none,none,none,none,none,none]:=λa=>rfl;have b:∀a (X:Res (D×HP)),(qV (ZE (iS (qB (jH "Plan" "rows") (jb 4))) (.tup [6,7,8]) (XI n)) (zw 5 (xf (jb 5)))) (yL (JA ps) (.str p.name) (JH p) a ((yP p.givens.length).map ji) none none none none) [(a,kD K)]=X->XH (Qm n) (JW 10 [JA ps,.str p.name,.int 12,.adr a]) [(a,kD K)]=X:=λa X h=>by
   rw[st];unfold XH;refine wO (sd':=[some (.val (JA ps)),some (.val (.str p.name)),some (.val (.int 12)),some (.val (.adr a)),some (.val (JH p)),none,none,none,none,none]) (Kr (by simp[l])) ?_;refine wO (Kr (sd':=yL (JA ps) (.str p.name) (JH p) a ((yP p.givens.length).map ji) none none none none) ?_) h
   simp_all [yL,WS]
  have it:∀a T u6 u7 u8 u9,iS (qB (jH "Plan" "rows") (jb 4)) (yL (JA ps) (.str p.name) (JH p) a T u6 u7 u8 u9)=.ok (p.rows.map jG):=λa T u6 u7 u8 u9=>by
   rfl
  have go:=Mh B hp (n:=n) (λo q K F r s=>Mi B n o q K r () s) p.rows 0 rfl (Ub _) (yP p.givens.length) K (λg c=>by
   obtain⟨t,G,rfl⟩:=Ja.mp c;exact(sI () ()).mono ()) (by unfold yP;rw[Zql,ZB];rfl) (λhs h=>by rw[dF h];rfl) hK
  rcases go with z|⟨T,K',k1,k2,k3,f,k5,k6⟩
  .refine .inl λa=>?_;show Qq 10 4 (XH (Qm n)) _ _=_;refine LY rfl (b a _ ?_);rw[Bu,I1,it,jh,z];rfl
  .refine .inr ⟨T,K',k1,k2,λg c=>(k3 g c).mono ?_,λhs h=>?_,λe=>?_,λa=>?_⟩
   .have H:=Aa j;have I:=P.r2;have:=Int.mul_le_mul_of_nonneg_right (show(p.rows.length:Int)<=8 by lia) (show 0<=2*wB j from ());show _<=16*wB j;lia
   .rw[k5 hs h];rfl
   .rw[e] at f;have f:0=p.givens.length+p.rows.length:=f;lia
   .refine Bw rfl (b a _ ?_);obtain⟨J,L,M,N,e⟩:=k6 (.str p.name) (JH p) a none none none none;rw[Bu,I1,it,jh,e,jh];rfl
def BI:FS:=(j1 (DS (QC 4) (.dct [] []) (J0 (jb 0) (J0 (jb 1) (J0 (jb 2) jc)))))
def BJ:YG->Res D:=jF 3 3 BI
def Ab:FS:=(j1 (jo qf (J8 BJ (J0 (jb 0) (J0 (jb 1) (J0 (jb 2) jc)))) (qB zu (dC (.int 1)))))
def W9:YG->Res D:=jF 3 3 Ab
def du {ps:List Pl}(B:BkP ps){j:Nat}{p:Pl}(hp:ps[j]? = some p):W9 [JA ps,.str p.name,.int 12]=Ku\/∃t,W9 [JA ps,.str p.name,.int 12]=.ok (ji t)/\Tf p.givens.length (wB (j+1)) t/\∀hs:Yh,hs.length=p.givens.length->J5 t hs=x8 ps (j+1) p.name hs:=by
 have b:∀x:Res D,(∀a,(QC 4 [JA ps,.str p.name,.int 12,.adr a] [(a,.dct [] [])]).bind (λq=>.ok q.1)=x)->BJ [JA ps,.str p.name,.int 12]=x:=λx h=>by
  have c:DS (QC 4) (.dct [] []) (J0 (jb 0) (J0 (jb 1) (J0 (jb 2) jc))) [some (.val (JA ps)),some (.val (.str p.name)),some (.val (.int 12))]=x:=tV h;generalize JA ps=bk at c;simp[BJ,BI,c];cases x<;>rfl
 rcases Mi B 4 j p [] hp (B.at hp).2.1 ⟨Vw,λx h=>nomatch h⟩ with z|⟨T,K',k1,k2,k3,k4,k5,k6⟩
 .left;have e:=b Ku λa=>by
   have:=z a;show Res.bind (QC 4 [JA ps,.str p.name,.int 12,.adr a] [(a,kD [])]) _=_;rw[this];rfl
  generalize JA ps=bk at e;simp[W9,Ab,e,Ku]
 .obtain⟨ys,t,rfl⟩:=Ee k5;refine .inr ⟨t,?_,k3 t (Ut _ Zqs),λhs h=>?_⟩
  .have e:=b (.ok (.lst ((ys++[t]).map ji))) λa=>by
    have:=k6 a;show Res.bind (QC 4 [JA ps,.str p.name,.int 12,.adr a] [(a,kD [])]) _=_;rw[this];rfl
   have l:=Ed (f:=ji) ys t;generalize (ys++[t]).map ji=es at e l;have l:qQ es (-1)=some (ji t):=l;generalize JA ps=bk at e;simp[W9,Ab,e,l]
  .have e:=k4 hs h;obtain⟨i,m⟩:=B.part (n:=j) hp hs;rw[m,Uc] at e;have e:=Zt (λl=>l.getLastD 0) e;have e:((ys.map λg=>J5 g hs)++[J5 t hs]).getLastD 0=(i++[x8 ps (j+1) p.name hs]).getLastD 0:=e;rw[VO,VO] at e;exact e
def Ac:FS:=(ju (jD 2 (dC .non)) (ju (zR 2 "TooMany" W9 (J0 (jb 0) (J0 (jb 1) (J0 (dC (.int 12)) jc))) (jD 2 (dC .non))) (j1 (jb 2))))
def Wn:YG->Res D:=jF 3 2 Ac
def cv {bk nm:D}(h:W9 [bk,nm,.int 12]=Ku):Wn [bk,nm]=.ok .non:=by
 simp_all [Ku,Wn,Ac]
def gE {bk nm:D}{t:Jz}(h:W9 [bk,nm,.int 12]=.ok (ji t)):Wn [bk,nm]=.ok (ji t):=by
 simp[Wn,Ac,h]
def BK:FS:=(ju (jD 3 (jy AM (J0 (jb 2) (J0 (jy YR (J0 (dC (.int 0)) (J0 (jo qA (jy qs (J0 (jb 0) jc)) (jb 1)) jc))) jc)))) (j1 (Q0 [none,some 0,some 1,some 2] (zt (J0 (jb 3) jc)) (.one 0) (jy zX (J0 (vN (jb 1) (Wz (jo j8 (jb 2) (jb 0))) Wy (Wz (jb 3))) jc)))))
def Ad:YG->Res D:=qk 4 3 BK
def cw {ns:Yh}(h:ns.length<=63){a most:Int}(f:0<=a)(g:a<=100)(j:1<=most)(l:most<=60):∃b:Yh,(b.length:Int)<=most/\Ad [.scr ns,.int a,.int most]=.ok (.lst (b.map .int)):=by
 have ⟨m,hm,em⟩:∃m:Nat,(m:Int)<=most/\(if(if a<(ns.length:Int) then(ns.length:Int)-a else 0)<most then(if a<(ns.length:Int) then(ns.length:Int)-a else 0) else most)=(m:Int):=by
  refine⟨(if(if a<(ns.length:Int) then(ns.length:Int)-a else 0)<most then(if a<(ns.length:Int) then(ns.length:Int)-a else 0) else most).toNat,?_,?_⟩<;>(repeat' split)<;>lia
 have n:KW [.int (m:Int)]=.ok (JS 0 m):=by
  rw[Wx () (),Vy]
 have e:qh (.one 0) (jy zX (J0 (vN (jb 1) (Wz (jo j8 (jb 2) (jb 0))) Wy (Wz (jb 3))) jc)) [none,some (.val (.scr ns)),some (.val (.int a)),some (.val (.int most))] (JS 0 m)=.ok ((List.range m).map λk:Nat=>.int (Qf ns (some (a+(k:Int))) none (some most)).sum):=Dr λi o=>by
  simp[(R6 (c:=most) ())]
 refine⟨(List.range m).map λk:Nat=>(Qf ns (some (a+(k:Int))) none (some most)).sum,by simpa using hm,?_⟩;have p:=JT (show m<=1000 from ())
 simp_all [Ad,BK,WS]
def wu:FS:=(j1 (jy VZ (J0 (Q0 [none,none,some 1] (iS (jb 0)) (.tup [0,1]) (jo j8 (jo qf (jb 2) (jb 0)) (jb 1))) jc)))
def yt:YG->Res D:=jF 2 2 wu
def gQ {r:Jy}{hs:Yh}(a:r ≠ [])(g:r.length<=1000)(c:∀p∈r,0<=p.1/\p.1<(hs.length:Int)):yt [j3 r,.lst (hs.map .int)]=.ok (.int (JD r hs)):=by
 have b:qh (.tup [0,1]) (jo j8 (jo qf (jb 2) (jb 0)) (jb 1)) [none,none,some (.val (.lst (hs.map .int)))] (r.map qM)=.ok (r.map λp=>.int (jz hs p.1+p.2)):=K0 λp hp=>by
  simp[ZK (c p hp).1 (c p hp).2]
 have e:r.map (λp=>D.int (jz hs p.1+p.2))=(r.map λp=>jz hs p.1+p.2).map .int:=by rw[Zw];rfl
 have f:=AS (ns:=r.map λp=>jz hs p.1+p.2) (λz=>a (Jd.mp z));rw[<- e] at f;simp[yt,wu,b,JT g,f,JD]
def wZ:FS:=(j1 (jy Wa (J0 (Q0 [none,some 1] (iS (jb 0)) (.one 0) (J8 yt (J0 (jb 0) (J0 (jb 1) jc)))) jc)))
def yW:YG->Res D:=jF 2 2 wZ
def v9 {f:Jz}{hs:Yh}(g:f ≠ [])(i:f.length<=1000)(a:∀r∈f,r ≠ [])(j:∀r∈f,r.length<=1000)(l:∀r∈f,∀p∈r,0<=p.1/\p.1<(hs.length:Int)):yW [ji f,.lst (hs.map .int)]=.ok (.int (J5 f hs)):=by
 have b:qh (.one 0) (J8 yt (J0 (jb 0) (J0 (jb 1) jc))) [none,some (.val (.lst (hs.map .int)))] (f.map j3)=.ok (f.map λr=>.int (JD r hs)):=K0 λr h=>by
  simp[gQ (a r h) (j r h) (l r h)]
 have e:f.map (λr=>D.int (JD r hs))=(f.map λr=>JD r hs).map .int:=by rw[Zw];rfl
 have c:=Dq (ns:=f.map λr=>JD r hs) (λz=>g (Jd.mp z));rw[<- e] at c;simp[yW,wZ,b,JT i,c,J5]
def BL:FS:=(ju (qx 3 (qX jc)) (ju (qj (iS (jb 0)) (.one 4) (ju (jD 5 (Wc [none,some 2] (iS (jb 4)) (.one 0) (JF (jo wS (jo qf (jb 0) (dC (.int 0))) (jb 1))) (jb 0))) (ju (xz (JF (jo qU (jb 5) (qX jc))) (j1 (dC .non)) JZ) (KO 3 (J8 yt (J0 (jb 5) (J0 (jb 1) jc))))))) (j1 (jo qA (J8 yW (J0 (jb 0) (J0 (jb 1) jc))) (xr [3] (jy Wa (J0 (jb 3) jc)))))))
def Xa:YG->Res D:=jF 6 3 BL
def ck {r:Jy}{hs:Yh}(a:r ≠ [])(g:r.length<=1000)(c:∀p∈r,0<=p.1/\p.1<(hs.length:Int)):yt [.lst (r.map qM),.lst (hs.map .int)]=.ok (.int (JD r hs)):=by
 have b:qh (.tup [0,1]) (jo j8 (jo qf (jb 2) (jb 0)) (jb 1)) [none,none,some (.val (.lst (hs.map .int)))] (r.map qM)=.ok (r.map λp=>.int (jz hs p.1+p.2)):=K0 λp hp=>by
  simp[ZK (c p hp).1 (c p hp).2]
 have e:r.map (λp=>D.int (jz hs p.1+p.2))=(r.map λp=>jz hs p.1+p.2).map .int:=by rw[Zw];rfl
 have f:=AS (ns:=r.map λp=>jz hs p.1+p.2) (λz=>a (Jd.mp z));rw[<- e] at f;simp[yt,wu,b,JT g,f,JD]
def gM {f:Jz}{hs:Yh}{t:Int}(o:Over f hs)(j:f.length<=1000)(e:∀r∈f,r.length<=100)(w:0<=t)(A:t<(hs.length:Int)):
 ((∃r∈f,JN t r=[])/\Xa [ji f,.lst (hs.map .int),.int t]=.ok .non)\/((∀r∈f,JN t r ≠ [])/\Xa [ji f,.lst (hs.map .int),.int t]=.ok (.int (J5 f hs-q0 (f.map λr=>JD (JN t r) hs)))):=by
 have B:=v9 o.ne j o.rne () o.bnd;simp[Xa,BL];refine X0 (R:=λz=>((∃r∈f,JN t r=[])/\(z.bind (xh (j1 (jo qA (J8 yW (J0 (jb 0) (J0 (jb 1) jc))) (xr [3] (jy Wa (J0 (jb 3) jc))))))).bind xp=.ok .non)\/((∀r∈f,JN t r ≠ [])/\(z.bind (xh (j1 (jo qA (J8 yW (J0 (jb 0) (J0 (jb 1) jc))) (xr [3] (jy Wa (J0 (jb 3) jc))))))).bind xp=.ok (.int (J5 f hs-q0 (f.map λr=>JD (JN t r) hs)))))
  (P:=λi sd=>(∃u v,sd=[some (.val (ji f)),some (.val (.lst (hs.map .int))),some (.val (.int t)),some (.own false (.lst (((f.take i).map λr=>JD (JN t r) hs).map .int))),u,v])/\∀r∈f.take i,JN t r ≠ []) () ?_ ?_
 .rintro sd ⟨⟨u,v,rfl⟩,ha⟩;rw[Zql,VB] at ha;refine .inr ⟨ha,?_⟩;have c:=Dq (ns:=f.map λr=>JD (JN t r) hs) (λz=>o.ne (Jd.mp z))
  simp_all
 .rintro i x sd l ⟨⟨u,v,rfl⟩,ha⟩;obtain⟨r,hp,rfl⟩:=K3 l;have c:=Ur hp;have C:=(Jc.mp hp).1;have a:Ki (.one 0) (JF (jo wS (jo qf (jb 0) (dC (.int 0))) (jb 1))) (jb 0) [none,some (.val (.int t))] (r.map qM)=.ok ((JN t r).map qM):=
   YV (s:=λp=>[some (.val (qM p)),some (.val (.int t))]) (λp _=>rfl) (λp _=>()) ()
  have g:=JT (show r.length<=1000 by have:=e r c;lia);have b:=CU (d7 (JN t r)) sU;rw[cy] at b;by_cases q:JN t r=[]
  .rw[q] at b a;have b:qU (.lst []) (.lst [])=some (.bl true):=b;exact .inr (.inr ⟨.non,by simp[a,g,b],.inl ⟨⟨r,c,q⟩,()⟩⟩)
  .have hz:((f.take i).map λr=>JD (JN t r) hs).length<sizeLine:=JT (by rw[Zql,Uf];lia);have es:(f.take (i+1)).map (λr=>JD (JN t r) hs)=(f.take i).map (λr=>JD (JN t r) hs)++[JD (JN t r) hs]:=by
    rw[Kv hp,Uc,Zl,List.map_nil]
   have m:=ck (r:=JN t r) (hs:=hs) q (Zh (Vb _ _) (by have:=e r c;lia)) λp hp=>o.bnd r c p (wH.mp hp).1;have n:(JN t r).isEmpty=false:=by
    cases z:JN t r with
    |nil=>exact Zn z q
    |cons _ _=>rfl
   rw[n] at b;refine .inl ⟨[some (.val (ji f)),some (.val (.lst (hs.map .int))),some (.val (.int t)),some (.own false (.lst (((f.take (i+1)).map λr=>JD (JN t r) hs).map .int))),some (.val (j3 r)),some (.val (.lst ((JN t r).map qM)))],.inl ?_,⟨_,_,rfl⟩,λy h=>?_⟩
   .rw[es];generalize (f.take i).map (λr=>JD (JN t r) hs)=ls at hz;simp[a,g,b,m,hz]
   .rw[Kv hp] at h;rcases Jb.mp h with z|z
    .exact ha y z
    .rwa [Je.mp z]
def BM:FS:=(ju (jD 2 (J8 yW (J0 (jb 0) (J0 (jb 1) jc)))) (j1 (Wc [none,some 1,some 2] (iS (jb 0)) (.one 0) (JF (jo qU (J8 yt (J0 (jb 0) (J0 (jb 1) jc))) (jb 2))) (jb 0))))
def BN:YG->Res D:=qk 3 2 BM
def gL {f:Jz}{hs:Yh}(o:Over f hs)(b:f.length<=1000)(c:∀r∈f,r.length<=1000):BN [ji f,.lst (hs.map .int)]=.ok (ji (yg f hs)):=by
 have a:Ki (.one 0) (JF (jo qU (J8 yt (J0 (jb 0) (J0 (jb 1) jc))) (jb 2))) (jb 0) [none,some (.val (.lst (hs.map .int))),some (.val (.int (J5 f hs)))] (f.map j3)=.ok ((f.filter λr=>decide (JD r hs=J5 f hs)).map j3):=
  YV (λr _=>rfl) (λr h=>by
   simp[gQ (o.rne r h) (c r h) (o.bnd r h)]) ()
 simp[BN,BM,(v9 o.ne b o.rne c o.bnd),a,JT b];rfl
def BO:FS:=(ju (jD 3 (J8 yW (J0 (jb 0) (J0 (jb 1) jc)))) (ju (qx 4 (qX jc)) (ju (qj (iS (J8 BN (J0 (jb 0) (J0 (jb 1) jc)))) (.one 5) (ju (jD 6 (jy WP (J0 (jb 5) jc))) (ju (xz (JF (jo (wA true) (jb 2) (jb 6))) (j1 (dC .non)) JZ) (KO 4 (jo qA (jo qA (jb 3) (jo qf (jb 1) (jb 2))) (jo qf (jb 6) (jb 2))))))) (j1 (xr [4] (jy VZ (J0 (jb 4) jc)))))))
def Xb:YG->Res D:=jF 7 3 BO
def gN {f:Jz}{hs:Yh}{t:Int}(o:Over f hs)(g:f.length<=1000)(n:∀r∈f,r.length<=100)(p:0<=t)(s:t<(hs.length:Int)):
 ((∃r∈yg f hs,J6 r t=none)/\Xb [ji f,.lst (hs.map .int),.int t]=.ok .non)\/((∀r∈yg f hs,(J6 r t).isSome=true)/\Xb [ji f,.lst (hs.map .int),.int t]=.ok (.int (jW ((yg f hs).map (xS f hs t))))):=by
 have A:=v9 o.ne g o.rne () o.bnd;have B:=gL o g ();have j:(yg f hs).length<=1000:=Zh (Vb _ _) g;have a:=La (hs:=hs) o.ne;have sub:∀r∈yg f hs,r∈f:=λr h=>(vQ.mp h).1;have C:=ZK p s;have E:xS f hs t=λr=>J5 f hs-jz hs t-(J6 r t).getD 0:=rfl;rw[E];simp[Xb,BO,A,B];generalize J5 f hs=c;generalize yg f hs=ds at j a sub;refine X0 (R:=λz=>((∃r∈ds,J6 r t=none)/\(z.bind (xh (j1 (xr [4] (jy VZ (J0 (jb 4) jc)))))).bind xp=.ok .non)\/((∀r∈ds,(J6 r t).isSome=true)/\(z.bind (xh (j1 (xr [4] (jy VZ (J0 (jb 4) jc)))))).bind xp=.ok (.int (jW (ds.map λr=>c-jz hs t-(J6 r t).getD 0)))))
  (P:=λi sd=>(∃u v,sd=[some (.val (ji f)),some (.val (.lst (hs.map .int))),some (.val (.int t)),some (.val (.int c)),some (.own false (.lst (((ds.take i).map λr=>c-jz hs t-(J6 r t).getD 0).map .int))),u,v])/\∀r∈ds.take i,(J6 r t).isSome=true) () ?_ ?_
 .rintro sd ⟨⟨u,v,rfl⟩,ha⟩;rw[Zql,VB] at ha;refine .inr ⟨ha,?_⟩;have b:=AS (ns:=ds.map λr=>c-jz hs t-(J6 r t).getD 0) (λz=>a (Jd.mp z))
  simp_all
 .rintro i x sd F ⟨⟨u,v,rfl⟩,ha⟩;obtain⟨r,hp,rfl⟩:=K3 F;have b:=Ur hp;have G:=(Jc.mp hp).1;have l:=Dp (n r (sub r b)) (o.once r (sub r b));have e:=AT (o.once r (sub r b)) t;cases q:J6 r t with
  |none =>
   rw[q] at e;exact .inr (.inr ⟨.non,by simp[l,yi,e],.inl ⟨⟨r,b,q⟩,()⟩⟩)
  |some w =>
   rw[q] at e;have hz:((ds.take i).map λr=>c-jz hs t-(J6 r t).getD 0).length<sizeLine:=JT (by rw[Zql,Uf];lia);have es:(ds.take (i+1)).map (λr=>c-jz hs t-(J6 r t).getD 0)=(ds.take i).map (λr=>c-jz hs t-(J6 r t).getD 0)++[c-jz hs t-w]:=by
    rw[Kv hp,Uc,Zl,List.map_nil,q];rfl
   refine .inl ⟨[some (.val (ji f)),some (.val (.lst (hs.map .int))),some (.val (.int t)),some (.val (.int c)),some (.own false (.lst (((ds.take (i+1)).map λr=>c-jz hs t-(J6 r t).getD 0).map .int))),some (.val (j3 r)),some (.val (yi r))],.inl ?_,⟨_,_,rfl⟩,λy m=>?_⟩
   .rw[es];generalize (ds.take i).map (λr=>c-jz hs t-(J6 r t).getD 0)=ls at hz;simp[l,yi,e,C,hz]
   .rw[Kv hp] at m;rcases Jb.mp m with z|z
    .exact ha y z
    .rw[Je.mp z,q];rfl
def Ae:FS:=(ju (jD 1 (J8 ZR (J0 (jb 0) (J0 (jo j8 (dC (.int 1)) (jo xQ (J8 W6 (J0 (jb 0) (J0 (dC (.int 0)) jc))) (dC (.int 3)))) (J0 (dC (.int 4)) jc))))) (ju (jD 2 (Q0 [none,some 1] (iS (qB (jH "Book" "plans") (jb 1))) (.one 0) (J8 Wn (J0 (jb 1) (J0 (qB (jH "Plan" "name") (jb 0)) jc))))) (ju (qj (iS (jo j8 (qX (J0 (dC (.int 3)) jc)) (J8 Ad (J0 (jb 0) (J0 (dC (.int 16)) (J0 (dC (.int 16)) jc)))))) (.one 3) (qj (zt (J0 (jy qs (J0 (jb 2) jc)) jc)) (.one 4) (ju (jD 5 (jo qf (qB (jH "Book" "plans") (jb 1)) (jb 4))) (ju (jD 6 (J8 XE (J0 (jb 3) (J0 (jy qs (J0 (qB (jH "Plan" "givens") (jb 5)) jc)) jc)))) (xz (JF (qB (xA true) (jo qf (jb 2) (jb 4)))) (qj (zt (J0 (jy qs (J0 (jb 6) jc)) jc)) (.one 7) (ju (xz (Kw (JF (J8 W8 (J0 (jb 1) (J0 (qB (jH "Plan" "name") (jb 5)) (J0 (jb 6) (J0 (jb 7) (J0 (J8 Xb (J0 (jo qf (jb 2) (jb 4)) (J0 (jb 6) (J0 (jb 7) jc)))) jc)))))))) (j1 (dC (.bl false))) JZ) (xz (Kw (JF (J8 W7 (J0 (jb 1) (J0 (qB (jH "Plan" "name") (jb 5)) (J0 (jb 6) (J0 (jb 7) (J0 (J8 Xa (J0 (jo qf (jb 2) (jb 4)) (J0 (jb 6) (J0 (jb 7) jc)))) jc)))))))) (j1 (dC (.bl false))) JZ))) JZ))))) (j1 (dC (.bl true))))))
def vx:YG->Res D:=jF 8 1 Ae
def tT {hs:Yh}{t m:Int}(a:0<=t)(b:t<(hs.length:Int)):hs.set t.toNat (jz hs t+m)=jN hs t m:=by
 apply VM;intro i;unfold jN;rcases Vq i hs.length with z|z
 .have c:jz hs (i:Int)=hs[i]:=by
   unfold jz;rw[Vy,UL,Zqg z];rfl
  grind
 simp_all
def gD {bk nm:D}{hs:Yh}{t m a b:Int}(c:0<=t)(e:t<(hs.length:Int))(l:hs.length<=12)(g:Kg 4 [bk,nm,.lst ((jN hs t m).map .int)]=.ok (.int a))(h:Kg 4 [bk,nm,.lst (hs.map .int)]=.ok (.int b)):Wi [bk,nm,.lst (hs.map .int),.int t,.int m]=.ok (.int (a-b)):=by
 have i:=ZK c e;have j:yf hs.length t=some t.toNat:=by
  simp_all [yf]
 have f:(hs.map D.int).set t.toNat (.int (jz hs t+m))=(jN hs t m).map .int:=by
  rw[<- tT c e,List.map_set]
 simp_all [Wi,B8]
def hU:∃x:Int,x=1000000000000000000000000000000000000000000000000000000000000000/\qT (.int 10) (.int 63)=some (.int x):=⟨_,rfl,by
 rfl⟩
structure TdOk (bk nm:D)(f:Jz)(hs:Yh):Prop where
 o:Over f hs
 hour:∀hs':Yh,hs'.length=hs.length->Kg 4 [bk,nm,.lst (hs'.map .int)]=.ok (.int (J5 f hs'))
 l:hs.length<=12
def TdOk.after {bk nm:D}{f:Jz}{hs:Yh}(T:TdOk bk nm f hs){t:Int}(m:Int)(a:0<=t)(b:t<(hs.length:Int)):Wi [bk,nm,.lst (hs.map .int),.int t,.int m]=.ok (.int (J5 f (jN hs t m)-J5 f hs)):=gD a b T.l (T.hour _ (tf hs t m)) (T.hour _ rfl)
def c3 {bk nm:D}{f:Jz}{hs:Yh}(T:TdOk bk nm f hs){t:Int}(b:0<=t)(c:t<(hs.length:Int))(h:∃r∈yg f hs,J6 r t=none):W8 [bk,nm,.lst (hs.map .int),.int t,.non]=.ok (.bl true):=by
 obtain⟨x,e,q⟩:=hU;have a:=T.after x b c;rw[ca T.o () h,Int.sub_self] at a;simp[W8,ZW,q,a]
def c8 {bk nm:D}{f:Jz}{hs:Yh}(T:TdOk bk nm f hs){t:Int}(c:0<=t)(e:t<(hs.length:Int))(h:∀r∈yg f hs,(J6 r t).isSome=true):W8 [bk,nm,.lst (hs.map .int),.int t,.int (jW ((yg f hs).map (xS f hs t)))]=.ok (.bl true):=by
 obtain⟨x,m,q⟩:=hU;obtain⟨i,g,j⟩:=dX T.o c e h;generalize jW ((yg f hs).map (xS f hs t))=s at i g j;have a:=T.after s c e;have b:=T.after (s+1) c e;rw[g,Int.sub_self] at a;generalize n:J5 f (jN hs t (s+1))-J5 f hs=u at b;have l:0<u:=()
 simp[W8,ZW,q,a,b,xA,Dm,show ¬s<0 by lia,l]
def cA {bk nm:D}{f:Jz}{hs:Yh}(T:TdOk bk nm f hs){t:Int}(c:0<=t)(g:t<(hs.length:Int))(F:FarOk f hs 1000000000000000000000000000000000000000000000000000000000000000)(h:∃r∈f,JN t r=[]):W7 [bk,nm,.lst (hs.map .int),.int t,.non]=.ok (.bl true):=by
 obtain⟨x,i,q⟩:=hU;rw[<- i] at F;have a:=T.after (-x) c g;have b:=T.after (-x-1) c g;rw[dE T.o F h] at b;generalize J5 f (jN hs t (-x))=u at a b;generalize J5 f hs=v at a b;have e:u-1-v=u-v-1:=()
 simp_all [W7,ZV]
def c9 {bk nm:D}{f:Jz}{hs:Yh}(T:TdOk bk nm f hs){t:Int}(c:0<=t)(i:t<(hs.length:Int))(F:FarOk f hs 1000000000000000000000000000000000000000000000000000000000000000)(h:∀r∈f,JN t r ≠ []):W7 [bk,nm,.lst (hs.map .int),.int t,.int (J5 f hs-q0 (f.map λr=>JD (JN t r) hs))]=.ok (.bl true):=by
 obtain⟨x,j,q⟩:=hU;rw[<- j] at F;have a:=T.after (-x) c i;have b:=T.after (-x-1) c i;rw[Le T.o F h (US _)] at a;rw[Le T.o F h ()] at b;have lo:=dq T.o h;generalize q0 (f.map λr=>JD (JN t r) hs)=g at a b lo;generalize J5 f hs=v at a b lo;have e:g-v = -(v-g):=()
 simp_all [W7,ZV]
def sK {n:Nat}{W:Int}{f:Jz}{hs:Yh}(T:Tf n W f)(c:W<=1000000000000000000000000000000000000)(a:∀y∈hs,-1000000000000000000000000000000000000000000000000000000000000<=y/\y<=1000000000000000000000000000000000000000000000000000000000000):FarOk f hs 1000000000000000000000000000000000000000000000000000000000000000:=
 ⟨249000000000000000000000000000000000000000000000000000000000000,1000000000000000000000000000000000000000000000000000000000000,(),(),λr b p hp=>by have:=T.th r b p hp;lia,(),a⟩
def fN (ps:List Pl)(p:Pl)(d:D):Prop:=d=.non\/∃(f:Jz),d=ji f/\Tf p.givens.length 1000000000000000000000000000000000000 f/\∀hs:Yh,hs.length=p.givens.length->Kg 4 [JA ps,.str p.name,.lst (hs.map .int)]=.ok (.int (J5 f hs))
def tw {ps:List Pl}(B:BkP ps)(p:Pl):∃d,p∈ps->Wn [JA ps,.str p.name]=.ok d/\fN ps p d:=by
 by_cases c:p∈ps
 .obtain⟨j,a⟩:=Jm.mp c;have b:=(B.at a).2.1;rcases du B a with z|⟨t,z1,z2,z3⟩
  .exact⟨.non,λ_=>⟨cv z,.inl rfl⟩⟩
  .refine⟨ji t,λ_=>⟨gE z1,.inr ⟨t,rfl,z2.mono ?_,λhs h=>?_⟩⟩⟩
   .refine UY (E2 (show j+1<=4 from ())) ?_
    decide +kernel
   .have e:=L4 B 4 j p hs a b h;obtain⟨ys,f⟩:=B.part a hs;rw[f] at e;have e:=L1 e
    rwa [B.rc a b,<- z3 hs h] at e
 .exact⟨.non,λz=>Zn z c⟩
def uB {a b:FS}{sd sd':SD}{r:Res Out}(h:a sd=.ok (.next sd'))(c:b sd'=r):ju a b sd=r:=by
 rwa [Rs,h]
def bT:FS:=(ju (xz (Kw (JF (J8 W8 (J0 (jb 1) (J0 (qB (jH "Plan" "name") (jb 5)) (J0 (jb 6) (J0 (jb 7) (J0 (J8 Xb (J0 (jo qf (jb 2) (jb 4)) (J0 (jb 6) (J0 (jb 7) jc)))) jc)))))))) (j1 (dC (.bl false))) JZ) (xz (Kw (JF (J8 W7 (J0 (jb 1) (J0 (qB (jH "Plan" "name") (jb 5)) (J0 (jb 6) (J0 (jb 7) (J0 (J8 Xa (J0 (jo qf (jb 2) (jb 4)) (J0 (jb 6) (J0 (jb 7) jc)))) jc)))))))) (j1 (dC (.bl false))) JZ))
def bK:FS:=(ju (jD 5 (jo qf (qB (jH "Book" "plans") (jb 1)) (jb 4))) (ju (jD 6 (J8 XE (J0 (jb 3) (J0 (jy qs (J0 (qB (jH "Plan" "givens") (jb 5)) jc)) jc)))) (xz (JF (qB (xA true) (jo qf (jb 2) (jb 4)))) (qj (zt (J0 (jy qs (J0 (jb 6) jc)) jc)) (.one 7) bT) JZ)))
def E3 {tg:Tg}{b:FS}{ds:YG}{sd:SD}(P:SD->Prop)(a:P sd)(h:∀(i:Nat) x sd,ds[i]? = some x->P sd->∃sd',(JO tg x sd).bind b=.ok (.next sd')/\P sd'):∃sd',xq tg b ds sd=.ok (.next sd')/\P sd':=have ⟨sd',e,q⟩:=Xz (P:=λ_ sd=>P sd) a ();⟨sd',e,q⟩
def fE {ps:List Pl}{p:Pl}{f:Jz}{hs:Yh}{e:YG}{i:Nat}{g h:Option SV}(l:e[i]? = some (ji f))(T:TdOk (JA ps) (.str p.name) f hs)(F:Tf p.givens.length 1000000000000000000000000000000000000 f)(m:∀y∈hs,-1000000000000000000000000000000000000000000000000000000000000<=y/\y<=1000000000000000000000000000000000000000000000000000000000000){t:Nat}(u:t<hs.length):bT [g,some (.val (JA ps)),some (.val (.lst e)),h,some (.val (.int i)),some (.val (JH p)),some (.val (.lst (hs.map .int))),some (.val (.int t))]=.ok (.next [g,some (.val (JA ps)),some (.val (.lst e)),h,some (.val (.int i)),some (.val (JH p)),some (.val (.lst (hs.map .int))),some (.val (.int t))]):=by
 have fo:=sK F (US _) m;have v:jH "Plan" "name" (JH p)=some (.str p.name):=rfl;have w:=F.len;have j:∀r∈f,r.length<=100:=λr n=>by have:=(F.cn.rows r n).len;lia
 have b:(0:Int)<=(t:Int):=()
 have c:(t:Int)<(hs.length:Int):=()
 have o:qQ e (i:Int)=some (ji f):=by
  rw[W2 ()];exact l
 have q:∃d,Xb [ji f,.lst (hs.map .int),.int t]=.ok d/\W8 [JA ps,.str p.name,.lst (hs.map .int),.int t,d]=.ok (.bl true):=by
  rcases gN T.o () j b c with ⟨a,fs⟩|⟨a,fs⟩
  .exact⟨_,fs,c3 T b c a⟩
  .exact⟨_,fs,c8 T b c a⟩
 have s:∃d,Xa [ji f,.lst (hs.map .int),.int t]=.ok d/\W7 [JA ps,.str p.name,.lst (hs.map .int),.int t,d]=.ok (.bl true):=by
  rcases gM T.o () j b c with ⟨a,fs⟩|⟨a,fs⟩
  .exact⟨_,fs,cA T b c fo a⟩
  .exact⟨_,fs,c9 T b c fo a⟩
 obtain⟨d1,x,z⟩:=q;obtain⟨A,B,C⟩:=s
 simp_all [bT]
def fF {ps:List Pl}(B:BkP ps){G:Pl->D}(q:∀p,p∈ps->Wn [JA ps,.str p.name]=.ok (G p)/\fN ps p (G p))(a l u6 u7:Option SV)(c:Int){i:Nat}(M:i<ps.length):∃s v w,bK [a,some (.val (JA ps)),some (.val (.lst (ps.map G))),some (.val (.int c)),some (.val (.int i)),l,u6,u7]=.ok (.next [a,some (.val (JA ps)),some (.val (.lst (ps.map G))),some (.val (.int c)),some (.val (.int i)),s,v,w]):=by
 have hp:ps[i]? = some ps[i]:=by simp
 generalize ps[i]=p at hp;have P:=B.ok i p hp;have N:=P.g1;have O:=P.g2;have A:=(q p (Ur hp)).2;have h:(ps.map G)[i]? = some (G p):=by simp_all
 have Q:jH "Book" "plans" (JA ps)=some (.lst (ps.map JH)):=rfl;have R:qQ (ps.map JH) (i:Int)=some (JH p):=by
  rw[W2 (),Zv,hp];rfl
 have m:qQ (ps.map G) (i:Int)=some (G p):=by
  rw[W2 ()];exact h
 have S:jH "Plan" "givens" (JH p)=some (.lst (p.givens.map .str)):=rfl;obtain⟨hs,U,C,X⟩:=gF c (n:=p.givens.length) ();have Y:(p.givens.map D.str).length=p.givens.length:=Zql _;have E:jD 5 (jo qf (qB (jH "Book" "plans") (jb 1)) (jb 4)) [a,some (.val (JA ps)),some (.val (.lst (ps.map G))),some (.val (.int c)),some (.val (.int i)),l,u6,u7]=.ok (.next [a,some (.val (JA ps)),some (.val (.lst (ps.map G))),some (.val (.int c)),some (.val (.int i)),some (.val (JH p)),u6,u7]):=by
  simp_all
 have H:jD 6 (J8 XE (J0 (jb 3) (J0 (jy qs (J0 (qB (jH "Plan" "givens") (jb 5)) jc)) jc))) [a,some (.val (JA ps)),some (.val (.lst (ps.map G))),some (.val (.int c)),some (.val (.int i)),some (.val (JH p)),u6,u7]=.ok (.next [a,some (.val (JA ps)),some (.val (.lst (ps.map G))),some (.val (.int c)),some (.val (.int i)),some (.val (JH p)),some (.val (.lst (hs.map .int))),u7]):=by
  simp_all
 have Z:=JT (show hs.length<=1000 from ());have I:KW [.int (hs.length:Nat)]=.ok (JS 0 hs.length):=by rw[Wx () ()];rfl
 rcases A with z|⟨f,z,F,g⟩
 .simp_all [bK,xA,Dm]
 .rw[z] at m h;have T:TdOk (JA ps) (.str p.name) f hs:=⟨⟨F.cn.ne,λr g=>(F.cn.rows r g).ne,λr g=>(F.cn.rows r g).once,λr g y o=>⟨((F.cn.rows r g).bnd y o).1,by have:=(F.th r g y o).1;lia⟩⟩,(),()⟩;obtain⟨sd',e,u,j⟩:=E3 (tg:=.one 7) (b:=bT) (ds:=JS 0 hs.length) (sd:=[a,some (.val (JA ps)),some (.val (.lst (ps.map G))),some (.val (.int c)),some (.val (.int i)),some (.val (JH p)),some (.val (.lst (hs.map .int))),u7])
   (λsd=>∃u,sd=[a,some (.val (JA ps)),some (.val (.lst (ps.map G))),some (.val (.int c)),some (.val (.int i)),some (.val (JH p)),some (.val (.lst (hs.map .int))),u]) ⟨u7,rfl⟩ (by
    rintro t x sd J ⟨u,rfl⟩;obtain⟨rfl,K⟩:=Xy J;rw[Vz];exact⟨_,fE h T F C K,_,rfl⟩)
  subst j;refine⟨some (.val (JH p)),some (.val (.lst (hs.map .int))),u,?_⟩;unfold bK;refine uB E (uB H ?_);have L:xA true (ji f)=some (.bl true):=rfl;simp[m,L,I,e]
def zW (ns:Yh)(h:ns.length<=63):vx [.scr ns]=.ok (.bl true):=by
 have t:=Ek ns 0;rw[show((0:Nat):Int)=0 from rfl] at t;obtain⟨k,hk,k3⟩:∃k:Nat,1+QV ns 0 % 3=(k:Int)/\k<=3:=⟨(1+QV ns 0 % 3).toNat,(),()⟩;obtain⟨ps,H,B,o⟩:=gG ns (n:=k) (m:=4) () () ();have o:ZR [.scr ns,.int k,.int 4]=.ok (JA ps):=o;obtain⟨l,w,r⟩:=cw h (a:=16) (most:=16) () () () ();obtain⟨G,y⟩:=Classical.axiomOfChoice (tw B);have u:jH "Book" "plans" (JA ps)=some (.lst (ps.map JH)):=rfl;have I:∀p:Pl,jH "Plan" "name" (JH p)=some (.str p.name):=λp=>rfl;have J:∀p:Pl,jH "Plan" "givens" (JH p)=some (.lst (p.givens.map .str)):=λp=>rfl;have z:=JT (show ps.length<=1000 from ());have mk:qh (.one 0) (J8 Wn (J0 (jb 1) (J0 (qB (jH "Plan" "name") (jb 0)) jc))) [none,some (.val (JA ps))] (ps.map JH)=.ok (ps.map G):=K0 λp hp=>by
  simp_all
 have A:j8 (.lst [.int 3]) (.lst (l.map .int))=some (.lst ((3::l).map .int)):=by
  show(if 1+(l.map D.int).length<=sizeLine then _ else _)=_;rw[Zql,Zd (Q6 ())];rfl
 have C:KW [.int (ps.length:Nat)]=.ok (JS 0 ps.length):=by rw[Wx () ()];rfl
 have v:Ae [some (.val (.scr ns)),none,none,none,none,none,none,none]=.ok (.ret (.bl true)):=by
  unfold Ae;refine uB (sd':=[some (.val (.scr ns)),some (.val (JA ps)),none,none,none,none,none,none]) (by
   generalize JA ps=bk at o;simp[t,hk,o]) ?_
  refine uB (sd':=[some (.val (.scr ns)),some (.val (JA ps)),some (.val (.lst (ps.map G))),none,none,none,none,none]) (by
   generalize JA ps=bk at u mk;generalize ps.map G=gs at mk;simp[u,z,mk]) ?_
  have it:iS (jo j8 (qX (J0 (dC (.int 3)) jc)) (J8 Ad (J0 (jb 0) (J0 (dC (.int 16)) (J0 (dC (.int 16)) jc))))) [some (.val (.scr ns)),some (.val (JA ps)),some (.val (.lst (ps.map G))),none,none,none,none,none]=.ok ((3::l).map .int):=by
   simp[r,A]
  obtain⟨sd',e,q,g,f,u6,u7,j⟩:=E3 (tg:=.one 3) (b:=qj (zt (J0 (jy qs (J0 (jb 2) jc)) jc)) (.one 4) bK) (ds:=(3::l).map .int) (sd:=[some (.val (.scr ns)),some (.val (JA ps)),some (.val (.lst (ps.map G))),none,none,none,none,none])
   (λsd=>∃q g f u6 u7,sd=[some (.val (.scr ns)),some (.val (JA ps)),some (.val (.lst (ps.map G))),q,g,f,u6,u7]) ⟨none,none,none,none,none,rfl⟩ (by
    rintro i x sd s ⟨q,g,f,u6,u7,rfl⟩;obtain⟨c,_,rfl⟩:=K3 s;obtain⟨sd',e,g,f,u6,u7,j⟩:=E3 (tg:=.one 4) (b:=bK) (ds:=JS 0 ps.length) (sd:=[some (.val (.scr ns)),some (.val (JA ps)),some (.val (.lst (ps.map G))),some (.val (.int c)),g,f,u6,u7])
     (λsd=>∃g f u6 u7,sd=[some (.val (.scr ns)),some (.val (JA ps)),some (.val (.lst (ps.map G))),some (.val (.int c)),g,f,u6,u7]) () (by
      rintro i x sd s ⟨g,f,u6,u7,rfl⟩;obtain⟨rfl,E⟩:=Xy s;rw[Vz];obtain⟨K,L,M,e⟩:=fF B y (some (.val (.scr ns))) f u6 u7 c E;exact⟨_,e,_,_,_,_,rfl⟩)
    subst j;have F:(ps.map G).length=ps.length:=Zql _;simp[F,C,e])
  subst j;refine uB (sd':=[some (.val (.scr ns)),some (.val (JA ps)),some (.val (.lst (ps.map G))),q,g,f,u6,u7]) ?_ ?_
  .show qj _ (.one 3) (qj (zt (J0 (jy qs (J0 (jb 2) jc)) jc)) (.one 4) bK) _=_;rw[R0,it,jh,e]
  .simp
 simp_all [vx]
end My
set_option maxHeartbeats 4000000
namespace My
open PySem L2 L2.DL
def wJ (i:Nat):Stmt:=PySem.Challenge.pw_allfirst_k71_whole_holding_by_runs.main.body.getD i (.Pass ⟨0,0,0,0⟩)
abbrev tbl:List (Str×Nat):=List.zip (List.map Str.ofString ["_law_cell_at", "_law_take", "_law_wait", "_law_items", "_law_plan", "_law_book", "told_hour", "made_hour", "plan_by", "hours_of", "_law_after", "_law_whole", "_law_early", "_law_hours", "_law_late", "fits_in", "is_covered", "joined", "each_joined", "lowest", "form_within", "all_of", "first_of", "shifted", "waited", "put_into_row", "put_into", "made_form", "thing_form", "forms_knowing", "forms_of", "told_form", "_law_told", "_law_turns", "row_hour", "form_hour", "gain", "first_done", "slack"]) [40,41,42,43,44,45,36,37,28,35,48,39,50,46,49,6,10,7,19,9,20,16,15,8,13,18,17,33,12,32,30,31,47,51,5,14,23,24,22]
abbrev bl:Yk:=List.map Str.ofString ["bool", "dict", "int", "isinstance", "len", "list", "max", "min", "range", "set", "sorted", "str", "sum", "tuple"]
structure All (e:Ev):Prop extends Al e wJ tbl bl where
 x_TooMany:Exc e.K e.mg "TooMany" (e.C 0)
 k_Book:ClsD e.K e.mg "Book" (e.C 1) ["plans"]
 l_Book:∃f fd,Mk e.K (e.C 1) f/\Fun e.K "__init__" "Book.__init__" (An (wJ 27) 0) f fd
 k_Plan:ClsD e.K e.mg "Plan" (e.C 2) ["name", "givens", "rows"]
 l_Plan:∃f fd,Mk e.K (e.C 2) f/\Fun e.K "__init__" "Plan.__init__" (An (wJ 26) 0) f fd
section
variable {e:Ev}{k j:Nat}
def sf (a:All e):nV e.P e.w e.K e.mg e.base "Book" ["plans"] 1 ["self", "plans"] Ei:=by
 obtain⟨f,h,c,b⟩:=a.l_Book;have m:=a.m;have k:=a.k_Book;exact⟨_,_,_,k,c,gw (k:=0) (N:=["plans"]) (g:=(J0 (jy Kz (J0 (jb 1) jc)) jc)) b (JM (N:=["self", "plans"])) (by decide) (by decide) λ_ _ _ _ _ _ i=>(Be k (by decide) (pv 0) (j4 (Wt (x:= "list") YS rfl (JI m) Y0 (J1 (qv 1) J3))) Io),b.binds λ_ _ _ _ _ _=>fY λ_ _=>rfl⟩
def sx (a:All e):nV e.P e.w e.K e.mg e.base "Plan" ["name", "givens", "rows"] 1 ["self", "name", "givens", "rows"] Ej:=by
 obtain⟨f,h,c,b⟩:=a.l_Plan;have m:=a.m;have k:=a.k_Plan;exact⟨_,_,_,k,c,gw (k:=0) (N:=["name", "givens", "rows"]) (g:=(J0 (jb 1) (J0 (jy Kz (J0 (jb 2) jc)) (J0 (jy Kz (J0 (jb 3) jc)) jc)))) b (JM (N:=["self", "name", "givens", "rows"])) (by decide) (by decide) λ_ _ _ _ _ _ i=>(Be k (by decide) (pv 0) (qv 1) (Be k (by decide) (pv 0) (j4 (Wt (x:= "list") YS rfl (JI m) Y0 (J1 (qv 2) J3))) (Be k (by decide) (pv 0) (j4 (Wt (x:= "list") YS rfl (JI m) Y0 (J1 (qv 3) J3))) Io))),b.binds λ_ _ _ _ _ _=>fX λ_ _ _ _=>rfl⟩
def Mj (a:All e):Ca e "_law_cell_at" 1 ["script", "k"] (xc e.K W6):=
 xj a.toAl 0 40 λF=>qG (N:=["script", "k"]) (g:=ZN) F JM λ_ _ _ _ _ _ b=>by
 have m:=a.m;unfold ZN;exact(JG (Qx (Q8 k8 (qv 1) (Qo (x:= "len") KU rfl (JI m) KL (J1 (qv 0) J3)) (Qg _)) (JB (JQ (QK (Qn b) (qv 0) (qv 1) (λ_ _=>rfl) (λ_ _=>rfl)))) Qw) (JB (JQ J7)))
def E4 (a:All e):Ca e "_law_take" 1 ["pot", "many"] (yD e.K Ks):=
 xj a.toAl 1 41 λF=>Bk (N:=["pot", "many", "digit"]) (g:=Bx) F JM λ_ _ _ _ _ _ b=>by
 unfold Bx;exact(Km (m:=none) (DJ j7 rfl (.inl rfl) (WU KQ (IB (qv 0) J7 (λ_ _=>rfl)) (Ql (qv 1)))) (Km (m:=none) (TV (qv 0) J7 (WU tG (IB (qv 0) J7 (λ_ _=>rfl)) (Ql (qv 1)))) (Wf (Ql (qv 2)))))
def si (a:All e):Ca e "_law_wait" 2 ["pot"] (yD e.K Bz):=
 xj a.toAl 2 42 λF=>Bk (N:=["pot"]) (g:=ZO) F JM λ_ _ _ _ _ _ c=>by
 have b:=(E4 a).mono (k:=1) ();unfold ZO;exact(DM (TU wR (KD b c rfl (J1 (qv 0) (J1 J7 J3))) (Ql J7) (Qg _)) (Wf (WU Kc (KD b c rfl (J1 (qv 0) (J1 J7 J3))) (Ql J7))) (Wf (WU Kc (KD b c rfl (J1 (qv 0) (J1 (jt Qa (jt Xs J7 (jt KR J7 J7)) J7) J3))) (Ql (jt KR J7 J7)))))
def sH (a:All e):Ca e "_law_items" 3 ["pot", "many", "count"] (yD e.K Em):=
 xj a.toAl 3 43 λF=>Bk (N:=["pot", "many", "count", "items", "k", "thing"]) (g:=B0) F JM λ_ _ _ _ _ _ f=>by
 have m:=a.m;have b:=(E4 a).mono (k:=2) ();have c:=(si a).mono (k:=2) ();unfold B0;exact(Km (m:=none) (QR (QH j7 rfl (.inl rfl) (Kb J3))) (Km (m:=none) (Iy PassesOwn.never rfl (Wv rfl (JI m) (J1 (qv 2) J3)) (Qc (Qe j7 rfl (.inl rfl))) (KY (DJ j7 rfl (.inl rfl) (KD b f rfl (J1 (qv 0) (J1 (qv 1) J3)))) (ZD (IE (pv 3) (ID (KZ (Ql (qv 5)) (KZ (KD c f rfl (J1 (qv 0) J3)) Bi))) (λh i=>KI Yy Yz YA V3 h i))))) (DO (Wf (Ql (Xq (x:= "tuple") Df rfl (JI m) Cv (J1 (qv 3) J3)))))))
def sC (a:All e):Ca e "_law_plan" 4 ["script", "start", "name", "ahead", "most_rows"] (yD e.K B5):=
 xj a.toAl 4 44 λF=>Bk (N:=["script", "start", "name", "ahead", "most_rows", "pot", "givens", "rows", "used", "k", "cell", "how", "count", "part"]) (g:=B4) F JM λ_ _ _ _ _ _ h=>by
 have m:=a.m;have c:=(Mj a).mono (k:=3) ();have l:=(sH a).mono (k:=3) ();have b:=(E4 a).mono (k:=3) ();have f:=a.k_Plan;have i:=sx a;unfold B4
 exact(Km (m:=none) (QR (QH j7 rfl (.inl rfl) (Kb (J1 (jt KQ (jL c h rfl (J1 (qv 0) (J1 (qv 1) J3))) (jt KR J7 J7)) J3)))) (Km (m:=none) (QR (DN j7 rfl (.inl rfl) (X6 (WU Qa (Ql J7) (KD b h rfl (J1 (qv 5) (J1 J7 J3))))))) (Km (m:=none) (QR (QH j7 rfl (.inl rfl) (Kb J3))) (Km (m:=none) (DJ j7 rfl (.inl rfl) (II [3] (WJ (k9 h.units) (qv 3) (j4 (Kb J3)) (Qg _)))) (Km (m:=none) (tE PassesOwn.never rfl rfl (JI m) (X6 (WU Qa (Ql J7) (KD b h rfl (J1 (qv 5) (J1 (qv 4) J3))))) (Qc (Qe j7 rfl (.inl rfl))) (KY (QR (QH j7 rfl (.inl rfl) (Kb (J1 (jt Qa (jt Xs (jt KQ (jL c h rfl (J1 (qv 0) (J1 (jt Qa (jt Qa (qv 1) J7) (qv 9)) J3))) (jt KR J7 J7)) (jt KR J7 J7)) (jt KQ (jL c h rfl (J1 (qv 0) (J1 (qv 1) J3))) (jt KR J7 J7))) J3)))) (KY (QR (DN j7 rfl (.inl rfl) (X6 (IC IH (Ql (j4 (Kb (J1 QQ (J1 QQ (J1 QQ (J1 QQ (J1 QQ J3)))))))) (KD b h rfl (J1 (qv 10) (J1 J7 J3))) (λ_ _=>rfl))))) (KY (QR (DN j7 rfl (.inl rfl) (X6 (WU Qa (Ql J7) (KD b h rfl (J1 (qv 10) (J1 J7 J3))))))) (KY (QR (Qx (wh (Px (Q8 (xi h.units) (qv 11) QQ (Qg _)) (Pw (KN (qv 8))))) (JB (Qk j7 rfl (.inl rfl) QQ)) Qw)) (KY (Iw (TK (Q8 (xi h.units) (qv 11) QQ (Qg _))) (KY (QR (Qk j7 rfl (.inl rfl) V8)) (KY (dh j7 rfl (.inl rfl) (sv (sX (Ql (qv 3)) (dI b h rfl (KZ (Ql (qv 10)) (KZ (II [3] (Qo (x:= "len") KU rfl (JI m) KL (J1 (qv 3) J3))) Bi))) (λ_ _=>rfl)))) (KY (QR (Qk j7 rfl (.inl rfl) (Kl f (by decide) (qv 13)))) (ZD (QR (Qk j7 rfl (.inl rfl) (Qo (x:= "len") KU rfl (JI m) KL (J1 (Kl f (by decide) (qv 13)) J3)))))))) Iv) (ZD (QR (IG (pv 7) (X6 (ID (KZ (Ql (jt Qa QQ (Xq (x:= "str") DE rfl (JI m) Cu (J1 (qv 9) J3)))) (KZ (Ql (qv 11)) (KZ (KD l h rfl (J1 (qv 10) (J1 (jt Qa (qv 6) (qv 9)) (J1 (qv 12) J3)))) Bi))))) (λn o=>KI Yy Yz YA V3 n o)))))))))) (DO (Wf (Ql (j4 (Ip i (h.mono ()) rfl (J1 (qv 2) (J1 (j4 (KP ["k"] [none] rfl rfl (Wv rfl (JI m) (J1 (qv 6) J3)) (λ_ _ _ _ _=>(Qc (xT 0 j7))) (λ_ _ _ _ _=>(jt Qa QQ (Xq (x:= "str") DE rfl (JI m) Cu (J1 (qv 0) J3)))))) (J1 (qv 7) J3)))))))))))))
def sE (a:All e):Ca e "_law_book" 5 ["script", "plans", "most_rows"] (z9 e.K ZR):=
 xj a.toAl 5 45 λF=>yR (N:=["script", "plans", "most_rows", "found", "k"]) (g:=B6) F JM λ_ _ _ _ _ _ f=>by
 have m:=a.m;have c:=(sC a).mono (k:=4) ();have b:=sf a;unfold B6;exact(JG (QH j7 rfl (.inl rfl) (Kb J3)) (JG (QJ PassesOwn.never rfl (Wv rfl (JI m) (J1 (qv 1) J3)) (Qc (Qe j7 rfl (.inl rfl))) (JB (IG (pv 3) (X6 (KD c f rfl (J1 (qv 0) (J1 (jt Qa J7 (jt Xs (qv 4) (jt Qa (qv 2) J7))) (J1 (jt Qa QQ (Xq (x:= "str") DE rfl (JI m) Cu (J1 (qv 4) J3))) (J1 (qv 3) (J1 (qv 2) J3))))))) (λh i=>KI Yy Yz YA V3 h i)))) (JB (AD [3] (WM (Ip b (f.mono ()) rfl (J1 (qv 3) J3)))))))
def Ml (a:All e):Ca e "plan_by" 1 ["book", "name"] (xc e.K ZT):=
 xj a.toAl 8 28 λF=>qG (N:=["book", "name", "plan"]) (g:=B7) F JM λ_ _ _ _ _ _ f=>by
 have b:=a.k_Book;have c:=a.k_Plan;unfold B7;exact(JG (QJ PassesOwn.never rfl (Qb (Kl b (by decide) (qv 0))) (Qc (Qe j7 rfl (.inl rfl))) (JB (Qx (Q8 (xi f.units) (Kl c (by decide) (qv 2)) (qv 1) (Qg _)) (JB (JQ (qv 2))) Qw))) (JB uP))
def Mm (a:All e)(b:Ca e "hours_of" (1+k) ["book", "name", "hours"] (xc e.K (Wh j))):Ca e "told_hour" (1+k+1) ["book", "name", "hours"] (xc e.K (Kg j)):=
 xj a.toAl 6 36 λF=>qG (N:=["book", "name", "hours"]) (g:=(ZS (Wh j))) F JM λ_ _ _ _ _ _ c=>by
 unfold ZS;exact(JB (JQ (QK (Qn c) (jL b c rfl (J1 (qv 0) (J1 (qv 1) (J1 (qv 2) J3)))) (v5 CS J7) (λ_ _=>rfl) (λ_ _=>rfl))))
def Mn (a:All e)(b:Ca e "told_hour" (1+k) ["book", "name", "hours"] (xc e.K (Kg j))):Ca e "made_hour" (1+k+1) ["book", "how", "hours"] (xc e.K (Kt j)):=
 xj a.toAl 7 37 λF=>qG (N:=["book", "how", "hours"]) (g:=(WY (Kg j))) F JM λ_ _ _ _ _ _ c=>by
 have m:=a.m;unfold WY;exact(JG (Qx (Q8 (xi c.units) (qv 1) QQ (Qg _)) (JB (JQ (Qo (x:= "max") (Dd rfl) rfl (JI m) XZ (J1 (qv 2) J3)))) Qw) (JG (Qx (Q8 (xi c.units) (qv 1) QQ (Qg _)) (JB (JQ (Qo (x:= "min") (De rfl) rfl (JI m) Ap (J1 (qv 2) J3)))) Qw) (JB (JQ (jL b c rfl (J1 (qv 0) (J1 (qv 1) (J1 (qv 2) J3))))))))
def sV (a:All e)(c:Ca e "made_hour" (1+k) ["book", "how", "hours"] (xc e.K (Kt j))):Ca e "hours_of" (1+k+1) ["book", "name", "hours"] (xc e.K (Wh (j+1))):=
 xj a.toAl 9 35 λF=>qG (N:=["book", "name", "hours", "told", "made", "how", "items"]) (g:=(ZU (Kt j))) F JM λ_ _ _ _ _ _ h=>by
 have m:=a.m;have f:=(Ml a).mono (k:=(1+k)) ();have b:=a.k_Plan;unfold ZU;exact(JG (QH j7 rfl (.inr rfl) (Wt (x:= "list") YS rfl (JI m) Y0 (J1 (qv 2) J3))) (JG (QJ PassesOwn.never rfl (Qb (Kl b (by decide) (jL f h rfl (J1 (qv 0) (J1 (qv 1) J3))))) (Wb [4,5,6] (V1 rfl (Qu (Qe j7 rfl (.inl rfl)) (Qu (Qe j7 rfl (.inl rfl)) (Qu (Qe j7 rfl (.inl rfl)) V0))))) (JB (YL (pv 3) (WL [3] (jL c h rfl (J1 (qv 0) (J1 (qv 5) (J1 (j4 (KP ["thing", "wait", "told"] [none,none,some 3] rfl rfl (Qb (qv 6)) (λ_ _ _ _ _=>(Wb [0,1] (V1 rfl (Qu (xT 0 j7) (Qu (xT 1 j7) V0))))) (λ_ _ _ _ _=>(jt Qa (QK (Qn h) (qv 2) (qv 0) (λ_ _=>rfl) (λ_ _=>rfl)) (qv 1))))) J3))))) (λi l=>KI Yy Yz YA V3 i l)))) (JB (AD [3] (JQ (qv 3))))))
theorem Mo (a:All e):∀j,Ca e "hours_of" (1+3*j) ["book", "name", "hours"] (xc e.K (Wh j))
 | 0=>xj a.toAl 9 35 λ_=>gv
 |j+1=>sV (k:=3*j+2) a (Mn (k:=3*j+1) a (Mm (k:=3*j+0) a (Mo a j)))
def sA (a:All e):Ca e "hours_of" 13 ["book", "name", "hours"] (xc e.K (Wh 4)):=Mo a 4
def Mp (a:All e):Ca e "told_hour" 14 ["book", "name", "hours"] (xc e.K (Kg 4)):=Mm (k:=12) a (sA a)
def m9 (a:All e):Ca e "made_hour" 15 ["book", "how", "hours"] (xc e.K (Kt 4)):=Mn (k:=13) a (Mp a)
def Mq (a:All e):Ca e "_law_after" 15 ["book", "name", "hours", "thing", "more"] (xc e.K Wi):=
 xj a.toAl 10 48 λF=>qG (N:=["book", "name", "hours", "thing", "more", "moved"]) (g:=B8) F JM λ_ _ _ _ _ _ c=>by
 have m:=a.m;have b:=(Mp a).mono (k:=14) ();unfold B8;exact(JG (QH j7 rfl (.inl rfl) (Wt (x:= "list") YS rfl (JI m) Y0 (J1 (qv 2) J3))) (JG (GZ (pv 5) (qv 3) (jt Qa (GL (Qn c) (pv 5) (qv 3) (λ_ _=>rfl) (λ_ _=>rfl)) (qv 4))) (JB (JQ (jt Kc (WL [5] (jL b c rfl (J1 (qv 0) (J1 (qv 1) (J1 (qv 5) J3))))) (jL b c rfl (J1 (qv 0) (J1 (qv 1) (J1 (qv 2) J3)))))))))
def Mr (a:All e):Ca e "_law_whole" 1 ["found"] (xc e.K B9):=
 xj a.toAl 11 39 λF=>qG (N:=["found"]) (g:=Es) F JM λ_ _ _ _ _ _ b=>by
 have m:=a.m;unfold Es;exact(JB (JQ (AA (Qo (x:= "isinstance") GC rfl (JI m) Fu (J1 (qv 0) (J1 (GD (n:= "int") (x:= "int") rfl (JI m) O6 rfl) J3))) (Gs (uS (Qo (x:= "isinstance") GC rfl (JI m) Fu (J1 (qv 0) (J1 (GD (n:= "bool") (x:= "bool") rfl (JI m) O7 rfl) J3))))))))
def sJ (a:All e):Ca e "_law_early" 16 ["book", "name", "hours", "thing", "found"] (xc e.K W7):=
 xj a.toAl 12 50 λF=>qG (N:=["book", "name", "hours", "thing", "found", "far", "first", "second"]) (g:=ZV) F JM λ_ _ _ _ _ _ f=>by
 have b:=(Mq a).mono (k:=15) ();have c:=(Mr a).mono (k:=15) ();unfold ZV;exact(JG (Qk j7 rfl (.inl rfl) (jt KR J7 J7)) (JG (Qk j7 rfl (.inl rfl) (jL b f rfl (J1 (qv 0) (J1 (qv 1) (J1 (qv 2) (J1 (qv 3) (J1 (jt Kc J7 (qv 5)) J3))))))) (JG (Qk j7 rfl (.inl rfl) (jL b f rfl (J1 (qv 0) (J1 (qv 1) (J1 (qv 2) (J1 (qv 3) (J1 (jt Kc (jt Kc J7 (qv 5)) J7) J3))))))) (JG (Qx (GK (qv 4)) (JB (JQ (WJ (xi f.units) (qv 7) (jt Kc (qv 6) J7) (Qg _)))) Qw) (JB (JQ (AA (jL c f rfl (J1 (qv 4) J3)) (AA (WJ mE (qv 4) J7 (Qg _)) (AA (WJ (xi f.units) (qv 6) (jt Kc J7 (qv 4)) (Qg _)) (Gs (WJ (xi f.units) (qv 7) (qv 6) (Qg _))))))))))))
def sr (a:All e):Ca e "_law_hours" 1 ["cell", "many"] (z9 e.K XE):=
 xj a.toAl 13 46 λF=>yR (N:=["cell", "many", "hours", "k", "mixed"]) (g:=BA) F JM λ_ _ _ _ _ _ b=>by
 have m:=a.m;unfold BA;exact(JG (QH j7 rfl (.inl rfl) (Kb J3)) (JG (QJ PassesOwn.never rfl (Wv rfl (JI m) (J1 (qv 1) J3)) (Qc (Qe j7 rfl (.inl rfl))) (JG (Qk j7 rfl (.inl rfl) (jt KQ (jt Xs (jt Qa (jt Qa (jt KQ (jt CQ (qv 0) (jt Qa (qv 3) J7)) J7) (jt Xs J7 (qv 3))) J7) J7) J7)) (JG (YL (pv 2) (jt Kc (jt KQ (qv 4) J7) J7) (λc f=>KI Yy Yz YA V3 c f)) (JB (Qx (Q8 (xi b.units) (jt KQ (jt CQ (qv 4) J7) J7) J7 (Qg _)) (JB (GZ (pv 2) (qv 3) (jt Kc (jt KQ (jt CQ (qv 0) (jt Qa (qv 3) J7)) (jt Qa (jt Xs J7 (jt KR J7 J7)) J7)) (jt KR J7 J7)))) Qw))))) (JB (AE (pv 2)))))
def rV (a:All e):Ca e "_law_late" 16 ["book", "name", "hours", "thing", "found"] (xc e.K W8):=
 xj a.toAl 14 49 λF=>qG (N:=["book", "name", "hours", "thing", "found", "far"]) (g:=ZW) F JM λ_ _ _ _ _ _ f=>by
 have b:=(Mq a).mono (k:=15) ();have c:=(Mr a).mono (k:=15) ();unfold ZW;exact(JG (Qk j7 rfl (.inl rfl) (jt KR J7 J7)) (JG (Qx (GK (qv 4)) (JB (JQ (WJ (xi f.units) (jL b f rfl (J1 (qv 0) (J1 (qv 1) (J1 (qv 2) (J1 (qv 3) (J1 (qv 5) J3)))))) J7 (Qg _)))) Qw) (JG (Qx (wh (CI (Xo (KN (jL c f rfl (J1 (qv 4) J3)))) (CI (Q8 k8 (qv 4) J7 (Qg _)) (Gr (Q8 (k7 f.units) (jL b f rfl (J1 (qv 0) (J1 (qv 1) (J1 (qv 2) (J1 (qv 3) (J1 (qv 4) J3)))))) J7 (Qg _)))))) (JB (JQ V8)) Qw) (JB (JQ (WJ wR (jL b f rfl (J1 (qv 0) (J1 (qv 1) (J1 (qv 2) (J1 (qv 3) (J1 (jt Qa (qv 4) J7) J3)))))) J7 (Qg _)))))))
def ky (a:All e):Ca e "fits_in" 1 ["row", "waits"] (xc e.K vi):=
 xj a.toAl 15 6 λF=>qG (N:=["row", "waits", "thing", "wait"]) (g:=vf) F JM λ_ _ _ _ _ _ b=>by
 unfold vf;exact(JG (QJ PassesOwn.never rfl (Qb (qv 0)) (Wb [2,3] (V1 rfl (Qu (Qe j7 rfl (.inl rfl)) (Qu (Qe j7 rfl (.inl rfl)) V0)))) (JB (Qx (wh (CI (CZ b.units (qv 2) (qv 1)) (Gr (Q8 wR (qv 3) (QK (Qn b) (qv 1) (qv 2) (λ_ _=>rfl) (λ_ _=>rfl)) (Qg _))))) (JB (JQ V8)) Qw))) (JB (JQ V8)))
def Ms (a:All e):Ca e "is_covered" 2 ["row", "kept"] (xc e.K xu):=
 xj a.toAl 16 10 λF=>qG (N:=["row", "kept", "waits", "other"]) (g:=vb) F JM λ_ _ _ _ _ _ c=>by
 have m:=a.m;have b:=(ky a).mono (k:=1) ();unfold vb;exact(JG (Qk j7 rfl (.inl rfl) (j4 (Wt (x:= "dict") (Dg rfl) rfl (JI m) Cw (J1 (qv 0) J3)))) (JG (QJ PassesOwn.never rfl (Qb (qv 1)) (Qc (Qe j7 rfl (.inl rfl))) (JB (Qx (KN (jL b c rfl (J1 (qv 3) (J1 (qv 2) J3)))) (JB (JQ V8)) Qw))) (JB (JQ V8))))
def kw (a:All e):Ca e "joined" 1 ["row", "other"] (xc e.K zD):=
 xj a.toAl 17 7 λF=>qG (N:=["row", "other", "waits", "thing", "wait"]) (g:=ve) F JM λ_ _ _ _ _ _ b=>by
 have m:=a.m;unfold ve;exact(JG (QH j7 rfl (.inl rfl) (Wt (x:= "dict") (Dg rfl) rfl (JI m) Cw (J1 (qv 0) J3))) (JG (QJ PassesOwn.never rfl (Qb (qv 1)) (Wb [3,4] (V1 rfl (Qu (Qe j7 rfl (.inl rfl)) (Qu (Qe j7 rfl (.inl rfl)) V0)))) (JB (Rg (Qn b) (pv 2) (qv 3) (Qo (x:= "max") (GB rfl) rfl (JI m) XZ (J1 (qv 4) (J1 (WL [2] (Rf (Qn b) (qv 2) (qv 3) (qv 4) ⟨rfl,rfl,rfl,rfl⟩)) J3)))))) (JB (AD [2] (JQ (Xq (x:= "tuple") Df rfl (JI m) Cv (J1 (Rm (λh=>Ak (Pk rfl) rfl (JI m) Ct (KH (NR PySem.F.plainAttrs_dict PySem.F.slot_dict_items PySem.F.type_dict_items Pj h) V2)) (qv 2)) J3)))))))
def sB (a:All e):Ca e "each_joined" 3 ["form", "other"] (z9 e.K ZX):=
 xj a.toAl 18 19 λF=>yR (N:=["form", "other", "rows", "rest", "row"]) (g:=BB) F JM λ_ _ _ _ _ _ c=>by
 have m:=a.m;have b:=(Ms a).mono (k:=2) ();have f:=(kw a).mono (k:=2) ();unfold BB;exact(JG (QH j7 rfl (.inl rfl) (uR T8 (j4 (Dj ["row", "other"] [none,some 1] rfl rfl (Qb (qv 0)) (λ_ _ _ _ _=>(Qc (xT 0 j7))) (λ_ _ _ _ _=>(KN (jL b c rfl (J1 (qv 0) (J1 (qv 1) J3))))) (λ_ _ _ _ _=>(qv 0)))) (j4 (Dj ["row", "form"] [none,some 0] rfl rfl (Qb (qv 1)) (λ_ _ _ _ _=>(Qc (xT 0 j7))) (λ_ _ _ _ _=>(KN (jL b c rfl (J1 (qv 0) (J1 (qv 1) J3))))) (λ_ _ _ _ _=>(qv 0)))))) (JG (GO ["row", "form"] [none,some 0] j7 rfl (.inl rfl) rfl rfl (Qb (qv 1)) (λ_ _ _ _ _=>(Qc (xT 0 j7))) (λ_ _ _ _ _=>(Xo (KN (jL b c rfl (J1 (qv 0) (J1 (qv 1) J3)))))) (λ_ _ _ _ _=>(qv 0))) (JG (QJ PassesOwn.never rfl (Qb (qv 0)) (Qc (Qe j7 rfl (.inr rfl))) (JB (Qx (Xo (KN (jL b c rfl (J1 (qv 4) (J1 (qv 1) J3))))) (JB (P0 (pv 2) (KP ["other_row", "row"] [none,some 4] rfl rfl (Qb (qv 3)) (λ_ _ _ _ _=>(Qc (xT 0 j7))) (λ_ _ _ _ _=>(jL f c rfl (J1 (qv 1) (J1 (qv 0) J3))))) (λh i=>KI Yy PySem.F.slot_list_extend PySem.F.type_list_extend NT h i))) Qw))) (JB (AE (pv 2))))))
def kt (a:All e):Ca e "lowest" 3 ["rows", "enough"] (z9 e.K vh):=
 xj a.toAl 19 9 λF=>yR (N:=["rows", "enough", "kept", "row"]) (g:=vc) F JM λ_ _ _ _ _ _ c=>by
 have m:=a.m;have b:=(Ms a).mono (k:=2) ();unfold vc;exact(JG (QH j7 rfl (.inl rfl) (Kb J3)) (JG (QJ PassesOwn.never rfl (Qb (j4 (Tk (λh=>L2.ST.pe_sortLen rfl (JI m) rfl (JI m) h) (J1 (j4 (SZ (λh=>Ak (L2.ST.call_sortedSet rfl c.units) rfl (JI m) Ct (KH (Cc (L2.ST.call_setRows rfl c.units) rfl (JI m) L2.bt_set h) V2)) (J1 (qv 0) J3))) J3)))) (Qc (Qe j7 rfl (.inl rfl))) (JG (Qx (Q8 (xi c.units) (WL [2] (Qo (x:= "len") KU rfl (JI m) KL (J1 (qv 2) J3))) (qv 1) (Qg _)) (JB Pz) Qw) (JB (Qx (Xo (KN (WL [2] (jL b c rfl (J1 (qv 3) (J1 (qv 2) J3)))))) (JB (YL (pv 2) (qv 3) (λf i=>KI Yy Yz YA V3 f i))) Qw)))) (JB (AE (pv 2)))))
def Mt (a:All e):zf e "form_within" 4 ["rows", "most"] (ym e.K Q5):=
 yd a.toAl 20 20 λF=>D9 (N:=["rows", "most", "kept"]) (g:=ZY) F JM λ_ _ _ _ _ _ f=>by
 have m:=a.m;have c:=(kt a).mono (k:=3) ();have b:=a.x_TooMany;unfold ZY;exact(JG (Qk j7 rfl (.inl rfl) (j4 (Z7 c f rfl (J1 (qv 0) (J1 (jt Qa (qv 1) J7) J3))))) (JG (Qx (Q8 wR (Qo (x:= "len") KU rfl (JI m) KL (J1 (qv 2) J3)) (qv 1) (Qg _)) (JB (Tv Tn b rfl rfl (uV (by decide) (qv 1)))) Qw) (JB (WM (Py (x:= "sorted") (R7 f.units) rfl (JI m) Ct (J1 (qv 2) J3))))))
def Mu (a:All e):zf e "all_of" 5 ["forms", "most"] (xD e.K KF):=
 yd a.toAl 21 16 λF=>Bc (N:=["forms", "most", "told", "form"]) (g:=ZZ) F JM λ_ _ _ _ _ _ f=>by
 have c:=(sB a).mono (k:=4) ();have b:=(Mt a).mono (k:=4) ();unfold ZZ;exact(JG (Qk j7 rfl (.inl rfl) (j4 (X4 b Kk f rfl (J1 (QK (Qn f) (qv 0) J7 (λ_ _=>rfl) (λ_ _=>rfl)) (J1 (qv 1) J3))))) (JG (QJ DB rfl (Qb (j4 (Ds (qv 0) (AU J7) YW YW))) (Qc (Qe j7 rfl (.inl rfl))) (JB (Qk j7 rfl (.inl rfl) (j4 (X4 b Kk f rfl (J1 (j4 (Z7 c f rfl (J1 (qv 2) (J1 (qv 3) J3)))) (J1 (qv 1) J3))))))) (JB (JQ (qv 2)))))
def Mv (a:All e):zf e "first_of" 5 ["forms", "most"] (ym e.K yr):=
 yd a.toAl 22 15 λF=>D9 (N:=["forms", "most", "told", "form"]) (g:=wq) F JM λ_ _ _ _ _ _ c=>by
 have b:=(Mt a).mono (k:=4) ();unfold wq;exact(JG (QH j7 rfl (.inl rfl) (X4 b Kk c rfl (J1 (QK (Qn c) (qv 0) J7 (λ_ _=>rfl) (λ_ _=>rfl)) (J1 (qv 1) J3)))) (JG (QJ DB rfl (Qb (j4 (Ds (qv 0) (AU J7) YW YW))) (Qc (Qe j7 rfl (.inl rfl))) (JB (AD [2] (QH j7 rfl (.inl rfl) (X4 b Kk c rfl (J1 (jt Qa (qv 2) (qv 3)) (J1 (qv 1) J3))))))) (JB (AE (pv 2)))))
def ku (a:All e):Ca e "shifted" 1 ["row", "wait"] (xc e.K wv):=
 xj a.toAl 23 8 λF=>qG (N:=["row", "wait"]) (g:=vd) F JM λ_ _ _ _ _ _ b=>by
 have m:=a.m;unfold vd;exact(JB (JQ (Xq (x:= "tuple") Df rfl (JI m) Cv (J1 (j4 (KP ["thing", "own", "wait"] [none,none,some 1] rfl rfl (Qb (qv 0)) (λ_ _ _ _ _=>(Wb [0,1] (V1 rfl (Qu (xT 0 j7) (Qu (xT 1 j7) V0))))) (λ_ _ _ _ _=>(CK (J1 (qv 0) (J1 (jt Qa (qv 1) (qv 2)) J3)))))) J3))))
def Mw (a:All e):Ca e "waited" 2 ["form", "wait"] (z9 e.K yX):=
 xj a.toAl 24 13 λF=>yR (N:=["form", "wait"]) (g:=va) F JM λ_ _ _ _ _ _ c=>by
 have b:=(ku a).mono (k:=1) ();unfold va;exact(JB (WM (KP ["row", "wait"] [none,some 1] rfl rfl (Qb (qv 0)) (λ_ _ _ _ _=>(Qc (xT 0 j7))) (λ_ _ _ _ _=>(jL b c rfl (J1 (qv 0) (J1 (qv 1) J3)))))))
def tm (a:All e):zf e "put_into_row" 6 ["row", "forms", "most"] (xD e.K Kh):=
 yd a.toAl 25 18 λF=>Bc (N:=["row", "forms", "most"]) (g:=BF) F JM λ_ _ _ _ _ _ f=>by
 have b:=(Mu a).mono (k:=5) ();have c:=(Mw a).mono (k:=5) ();unfold BF;exact(JB (JQ (Bb b Kk f rfl (J1 (j4 (KP ["thing", "wait", "forms"] [none,none,some 1] rfl rfl (Qb (qv 0)) (λ_ _ _ _ _=>(Wb [0,1] (V1 rfl (Qu (xT 0 j7) (Qu (xT 1 j7) V0))))) (λ_ _ _ _ _=>(j4 (Z7 c f rfl (J1 (QK (Qn f) (qv 2) (qv 0) (λ_ _=>rfl) (λ_ _=>rfl)) (J1 (qv 1) J3))))))) (J1 (qv 2) J3)))))
def sR (a:All e):zf e "put_into" 7 ["form", "forms", "most"] (ym e.K K6):=
 yd a.toAl 26 17 λF=>D9 (N:=["form", "forms", "most"]) (g:=XG) F JM λ_ _ _ _ _ _ f=>by
 have c:=(Mv a).mono (k:=6) ();have b:=(tm a).mono (k:=6) ();unfold XG;exact(JB (WM (X4 c Kk f rfl (J1 (j4 (TF ["row", "forms", "most"] [none,some 1,some 2] rfl rfl (Qb (qv 0)) (λ_ _ _ _ _=>(Qc (xT 0 j7))) (λ_ _ _ _ _ h=>(Bb b (TD rfl rfl rfl TC h) f rfl (J1 (qv 0) (J1 (qv 1) (J1 (qv 2) J3))))))) (J1 (qv 2) J3)))))
def kr (a:All e):Ca e "thing_form" 1 ["thing"] (z9 e.K vg):=
 xj a.toAl 28 12 λF=>yR (N:=["thing"]) (g:=vG) F JM λ_ _ _ _ _ _ b=>by
 unfold vG;exact(JB (WM (Kb (J1 (CK (J1 (CK (J1 (qv 0) (J1 J7 J3))) J3)) J3))))
def Mx (a:All e)(c:zf e "forms_knowing" (7+k) ["book", "name", "most", "known"] (Ko e.K (QC j))):zf e "made_form" (7+k+1) ["book", "how", "forms", "most", "known"] (Ko e.K (Qm j)):=
 yd a.toAl 27 33 λF=>IL (N:=["book", "how", "forms", "most", "known"]) (g:=(Wl (QC j))) F JM λ_ _ _ _ _ _ b=>by
 have f:=(Mu a).mono (k:=(7+k)) ();have i:=(Mv a).mono (k:=(7+k)) ();have h:=(sR a).mono (k:=(7+k)) ();unfold Wl;exact(DM (IN (Q8 (xi b.units) (qv 1) QQ (Qg _))) (Wf (Ql (Bb f Kk b rfl (J1 (qv 2) (J1 (qv 3) J3))))) (DM (IN (Q8 (xi b.units) (qv 1) QQ (Qg _))) (Wf (Ql (j4 (X4 i Kk b rfl (J1 (qv 2) (J1 (qv 3) J3)))))) (Km (m:=none) (Iw (rW [4] (CZ b.units (qv 1) (qv 4))) (ZD (tR (Qn b) (qv 4) (qv 1) (IC IH (IM c Kk b rfl (J1 (qv 0) (J1 (qv 1) (J1 (qv 3) (J1 (qv 4) J3))))) (Ql (v5 CS J7)) (λ_ _=>rfl)))) Iv) (Wf (tQ (yF.d h) Kk b rfl (KZ (sP (Qn b) (qv 4) (qv 1) (λ_ _=>rfl)) (KZ (Ql (qv 2)) (KZ (Ql (qv 3)) Bi))))))))
def t8 (a:All e)(c:zf e "made_form" (7+k) ["book", "how", "forms", "most", "known"] (Ko e.K (Qm j))):zf e "forms_knowing" (7+k+1) ["book", "name", "most", "known"] (Ko e.K (QC (j+1))):=
 yd a.toAl 29 32 λF=>IL (N:=["book", "name", "most", "known", "plan", "told", "made", "how", "items", "forms"]) (g:=(XH (Qm j))) F JM λ_ _ _ _ _ _ h=>by
 have m:=a.m;have f:=(Ml a).mono (k:=(7+k)) ();have i:=(kr a).mono (k:=(7+k)) ();have l:=(Mw a).mono (k:=(7+k)) ();have b:=a.k_Plan;unfold XH;exact(Km (m:=none) (QR (Qk j7 rfl (.inl rfl) (uU f h rfl (J1 (qv 0) (J1 (qv 1) J3))))) (Km (m:=none) (QR (QH j7 rfl (.inr rfl) (KP ["thing"] [none] rfl rfl (Wv rfl (JI m) (J1 (Qo (x:= "len") KU rfl (JI m) KL (J1 (Kl b (by decide) (qv 4)) J3)) J3)) (λ_ _ _ _ _=>(Qc (xT 0 j7))) (λ_ _ _ _ _=>(j4 (Z7 i h rfl (J1 (qv 0) J3))))))) (Km (m:=none) (Iy DB rfl (Qb (Kl b (by decide) (qv 4))) (Wb [6,7,8] (V1 rfl (Qu (Qe j7 rfl (.inl rfl)) (Qu (Qe j7 rfl (.inl rfl)) (Qu (Qe j7 rfl (.inl rfl)) V0))))) (KY (QR (cs ["thing", "wait", "told"] [none,none,some 5] 2 j7 rfl (.inl rfl) rfl rfl (Qb (qv 8)) (λ_ _ _ _ _=>(Wb [0,1] (V1 rfl (Qu (xT 0 j7) (Qu (xT 1 j7) V0))))) (λ_ _ _ _ _=>(j4 (Z7 l h rfl (J1 (GL (Qn h) (pv 2) (qv 0) (λ_ _=>rfl) (λ_ _=>rfl)) (J1 (qv 1) J3))))))) (ZD (IE (pv 5) (IM c Kk h rfl (J1 (qv 0) (J1 (qv 7) (J1 (qv 9) (J1 (qv 2) (J1 (qv 3) J3)))))) (λn o=>KI Yy Yz YA V3 n o))))) (DO (Wf (Ql (qv 5)))))))
theorem Mz (a:All e):∀j,zf e "forms_knowing" (7+2*j) ["book", "name", "most", "known"] (Ko e.K (QC j))
 | 0=>yd a.toAl 29 32 λ_=>sN
 |j+1=>t8 (k:=2*j+1) a (Mx (k:=2*j+0) a (Mz a j))
def M0 (a:All e):zf e "forms_knowing" 15 ["book", "name", "most", "known"] (Ko e.K (QC 4)):=Mz a 4
def mD (a:All e):zf e "made_form" 16 ["book", "how", "forms", "most", "known"] (Ko e.K (Qm 4)):=Mx (k:=8) a (M0 a)
def sQ (a:All e):zf e "forms_of" 16 ["book", "name", "most"] (xD e.K BJ):=
 yd a.toAl 30 30 λF=>Bc (N:=["book", "name", "most"]) (g:=BI) F JM λ_ _ _ _ _ _ c=>by
 have b:=(M0 a).mono (k:=15) ();unfold BI;exact(JB (JQ (uT b Kk c rfl (DT (qv 0) (DT (qv 1) (DT (qv 2) (dB (d0:=.dct [] []) Re)))))))
def sm (a:All e):zf e "told_form" 17 ["book", "name", "most"] (xD e.K W9):=
 yd a.toAl 31 31 λF=>Bc (N:=["book", "name", "most"]) (g:=Ab) F JM λ_ _ _ _ _ _ c=>by
 have b:=(sQ a).mono (k:=16) ();unfold Ab;exact(JB (JQ (QK (Qn c) (Bb b Kk c rfl (J1 (qv 0) (J1 (qv 1) (J1 (qv 2) J3)))) (v5 CS J7) (λ_ _=>rfl) (λ_ _=>rfl))))
def su (a:All e):Ca e "_law_told" 18 ["book", "name"] (xc e.K Wn):=
 xj a.toAl 32 47 λF=>qG (N:=["book", "name", "form"]) (g:=Ac) F JM λ_ _ _ _ _ _ f=>by
 have c:=(sm a).mono (k:=17) ();have b:=a.x_TooMany;unfold Ac;exact(JG (Qk j7 rfl (.inl rfl) A8) (JG (T4 rfl rfl j7 rfl (.inl rfl) c f rfl (J1 (qv 0) (J1 (qv 1) (J1 J7 J3))) b rfl (λ_=>(JB (Qk j7 rfl (.inl rfl) A8)))) (JB (JQ (qv 2)))))
def sO (a:All e):Ca e "_law_turns" 1 ["script", "start", "most"] (z9 e.K Ad):=
 xj a.toAl 33 51 λF=>yR (N:=["script", "start", "most", "many"]) (g:=BK) F JM λ_ _ _ _ _ _ b=>by
 have m:=a.m;unfold BK;exact(JG (Qk j7 rfl (.inl rfl) (Qo (x:= "min") (PQ rfl) rfl (JI m) Ap (J1 (qv 2) (J1 (Qo (x:= "max") (GB rfl) rfl (JI m) XZ (J1 J7 (J1 (jt Kc (Qo (x:= "len") KU rfl (JI m) KL (J1 (qv 0) J3)) (qv 1)) J3))) J3)))) (JB (WM (KP ["k", "script", "start", "most"] [none,some 0,some 1,some 2] rfl rfl (Wv rfl (JI m) (J1 (qv 3) J3)) (λ_ _ _ _ _=>(Qc (xT 0 j7))) (λ_ _ _ _ _=>(Qo (x:= "sum") (fD rfl) rfl (JI m) O5 (J1 (j4 (Ds (qv 1) (AU (jt Qa (qv 2) (qv 0))) YW (AU (qv 3)))) J3)))))))
def E5 (a:All e):Ca e "row_hour" 1 ["row", "hours"] (xc e.K yt):=
 xj a.toAl 34 5 λF=>qG (N:=["row", "hours"]) (g:=wu) F JM λ_ _ _ _ _ _ b=>by
 have m:=a.m;unfold wu;exact(JB (JQ (Qo (x:= "max") (Dd rfl) rfl (JI m) XZ (J1 (j4 (KP ["thing", "wait", "hours"] [none,none,some 1] rfl rfl (Qb (qv 0)) (λ_ _ _ _ _=>(Wb [0,1] (V1 rfl (Qu (xT 0 j7) (Qu (xT 1 j7) V0))))) (λ_ _ _ _ _=>(jt Qa (QK (Qn b) (qv 2) (qv 0) (λ_ _=>rfl) (λ_ _=>rfl)) (qv 1))))) J3))))
def E6 (a:All e):Ca e "form_hour" 2 ["form", "hours"] (xc e.K yW):=
 xj a.toAl 35 14 λF=>qG (N:=["form", "hours"]) (g:=wZ) F JM λ_ _ _ _ _ _ c=>by
 have m:=a.m;have b:=(E5 a).mono (k:=1) ();unfold wZ;exact(JB (JQ (Qo (x:= "min") (De rfl) rfl (JI m) Ap (J1 (j4 (KP ["row", "hours"] [none,some 1] rfl rfl (Qb (qv 0)) (λ_ _ _ _ _=>(Qc (xT 0 j7))) (λ_ _ _ _ _=>(jL b c rfl (J1 (qv 0) (J1 (qv 1) J3)))))) J3))))
def sF (a:All e):Ca e "gain" 3 ["form", "hours", "thing"] (xc e.K Xa):=
 xj a.toAl 36 23 λF=>qG (N:=["form", "hours", "thing", "ends", "row", "rest"]) (g:=BL) F JM λ_ _ _ _ _ _ b=>by
 have m:=a.m;have c:=(E6 a).mono (k:=2) ();have f:=(E5 a).mono (k:=2) ();unfold BL;exact(JG (QH j7 rfl (.inl rfl) (Kb J3)) (JG (QJ PassesOwn.never rfl (Qb (qv 0)) (Qc (Qe j7 rfl (.inl rfl))) (JG (GO ["pair", "thing"] [none,some 2] j7 rfl (.inl rfl) rfl rfl (Qb (qv 4)) (λ_ _ _ _ _=>(Qc (xT 0 j7))) (λ_ _ _ _ _=>(Q8 (k7 b.units) (QK (Qn b) (qv 0) J7 (λ_ _=>rfl) (λ_ _=>rfl)) (qv 1) (Qg _))) (λ_ _ _ _ _=>(qv 0))) (JG (Qx (Q8 (xi b.units) (qv 5) (j4 (Kb J3)) (Qg _)) (JB (JQ A8)) Qw) (JB (YL (pv 3) (jL f b rfl (J1 (qv 5) (J1 (qv 1) J3))) (λh i=>KI Yy Yz YA V3 h i)))))) (JB (JQ (jt Kc (jL c b rfl (J1 (qv 0) (J1 (qv 1) J3))) (WL [3] (Qo (x:= "min") (De rfl) rfl (JI m) Ap (J1 (qv 3) J3))))))))
def rY (a:All e):Ca e "first_done" 3 ["form", "hours"] (z9 e.K BN):=
 xj a.toAl 37 24 λF=>yR (N:=["form", "hours", "hour"]) (g:=BM) F JM λ_ _ _ _ _ _ f=>by
 have b:=(E6 a).mono (k:=2) ();have c:=(E5 a).mono (k:=2) ();unfold BM;exact(JG (Qk j7 rfl (.inr rfl) (jL b f rfl (J1 (qv 0) (J1 (qv 1) J3)))) (JB (WM (Dj ["row", "hours", "hour"] [none,some 1,some 2] rfl rfl (Qb (qv 0)) (λ_ _ _ _ _=>(Qc (xT 0 j7))) (λ_ _ _ _ _=>(Q8 (xi f.units) (jL c f rfl (J1 (qv 0) (J1 (qv 1) J3))) (qv 2) (Qg _))) (λ_ _ _ _ _=>(qv 0))))))
def sG (a:All e):Ca e "slack" 4 ["form", "hours", "thing"] (xc e.K Xb):=
 xj a.toAl 38 22 λF=>qG (N:=["form", "hours", "thing", "hour", "slacks", "row", "waits"]) (g:=BO) F JM λ_ _ _ _ _ _ c=>by
 have m:=a.m;have b:=(rY a).mono (k:=3) ();have f:=(E6 a).mono (k:=3) ();unfold BO;exact(JG (Qk j7 rfl (.inl rfl) (jL f c rfl (J1 (qv 0) (J1 (qv 1) J3)))) (JG (QH j7 rfl (.inl rfl) (Kb J3)) (JG (QJ PassesOwn.never rfl (Qb (j4 (AB b c rfl (J1 (qv 0) (J1 (qv 1) J3))))) (Qc (Qe j7 rfl (.inl rfl))) (JG (Qk j7 rfl (.inl rfl) (j4 (Wt (x:= "dict") (Dg rfl) rfl (JI m) Cw (J1 (qv 5) J3)))) (JG (Qx (CZ c.units (qv 2) (qv 6)) (JB (JQ A8)) Qw) (JB (YL (pv 4) (jt Kc (jt Kc (qv 3) (QK (Qn c) (qv 1) (qv 2) (λ_ _=>rfl) (λ_ _=>rfl))) (QK (Qn c) (qv 6) (qv 2) (λ_ _=>rfl) (λ_ _=>rfl))) (λh i=>KI Yy Yz YA V3 h i)))))) (JB (JQ (WL [4] (Qo (x:= "max") (Dd rfl) rfl (JI m) XZ (J1 (qv 4) J3))))))))
def rX (a:All e){f:Addr}{u:FuncData}(F:Fun e.K "law" "law" (wJ 52) f u):FnOk e.P e.w e.K e.mg e.base yw 19 f u ["script"] (xc e.K vx):=
 qG (N:=["script", "book", "forms", "cell", "k", "plan", "hours", "thing"]) (g:=Ae) F JM λ_ _ _ _ _ _ h=>by
 have m:=a.m;have i:=(sE a).mono (k:=18) ();have l:=(Mj a).mono (k:=18) ();have n:=(sJ a).mono (k:=18) ();have o:=(sr a).mono (k:=18) ();have p:=(rV a).mono (k:=18) ();have q:=(su a).mono (k:=18) ();have r:=(sO a).mono (k:=18) ();have s:=(sF a).mono (k:=18) ();have t:=(sG a).mono (k:=18) ();have c:=a.k_Book;have b:=a.k_Plan;unfold Ae
 exact(JG (Qk j7 rfl (.inr rfl) (j4 (AB i h rfl (J1 (qv 0) (J1 (jt Qa J7 (jt KQ (jL l h rfl (J1 (qv 0) (J1 J7 J3))) J7)) (J1 J7 J3)))))) (JG (Rr ["plan", "book"] [none,some 1] j7 rfl (.inl rfl) rfl rfl (Qb (Kl c (by decide) (qv 1))) (λ_ _ _ _ _=>(Qc (xT 0 j7))) (λ_ _ _ _ _=>(jL q h rfl (J1 (qv 1) (J1 (Kl b (by decide) (qv 0)) J3))))) (JG (QJ PassesOwn.never rfl (Qb (jt Qa (j4 (Kb (J1 J7 J3))) (j4 (AB r h rfl (J1 (qv 0) (J1 J7 (J1 J7 J3))))))) (Qc (Qe j7 rfl (.inl rfl))) (JB (QJ PassesOwn.never rfl (Wv rfl (JI m) (J1 (Qo (x:= "len") KU rfl (JI m) KL (J1 (qv 2) J3)) J3)) (Qc (Qe j7 rfl (.inl rfl))) (JG (Qk j7 rfl (.inl rfl) (QK (Qn h) (Kl c (by decide) (qv 1)) (qv 4) (λ_ _=>rfl) (λ_ _=>rfl))) (JG (Qk j7 rfl (.inl rfl) (j4 (AB o h rfl (J1 (qv 3) (J1 (Qo (x:= "len") KU rfl (JI m) KL (J1 (Kl b (by decide) (qv 5)) J3)) J3))))) (JB (Qx (Rp (QK (Qn h) (qv 2) (qv 4) (λ_ _=>rfl) (λ_ _=>rfl))) (JB (QJ PassesOwn.never rfl (Wv rfl (JI m) (J1 (Qo (x:= "len") KU rfl (JI m) KL (J1 (qv 6) J3)) J3)) (Qc (Qe j7 rfl (.inl rfl))) (JG (Qx (Xo (KN (jL p h rfl (J1 (qv 1) (J1 (Kl b (by decide) (qv 5)) (J1 (qv 6) (J1 (qv 7) (J1 (jL t h rfl (J1 (QK (Qn h) (qv 2) (qv 4) (λ_ _=>rfl) (λ_ _=>rfl)) (J1 (qv 6) (J1 (qv 7) J3)))) J3)))))))) (JB (JQ V8)) Qw) (JB (Qx (Xo (KN (jL n h rfl (J1 (qv 1) (J1 (Kl b (by decide) (qv 5)) (J1 (qv 6) (J1 (qv 7) (J1 (jL s h rfl (J1 (QK (Qn h) (qv 2) (qv 4) (λ_ _=>rfl) (λ_ _=>rfl)) (J1 (qv 6) (J1 (qv 7) J3)))) J3)))))))) (JB (JQ V8)) Qw))))) Qw))))))) (JB (JQ V8)))))
end
def BP (K:W.Frag):Sp:=λb H Q _=>∃(a:Addr) (ns:Yh),b=[.ref a]/\qZ K H a (ns.map V.int)/\ns.length<=63/\∀c,Q (.bl true) c
def ti (K:W.Frag)(b:YE)(H:Hp)(Q:VK)(E:XK)(h:BP K b H Q E):xc K vx b H Q E:=by
 obtain⟨a,ns,rfl,c,f,q⟩:=h;refine⟨H,[.scr ns],jk.refl _,je.mk (qp.mpr ⟨a,rfl,c⟩) .nil,?_⟩;rw[zW ns f];intro v j g e i;rw[jm.mp i];exact q g
def all_mk {l:W.OpenLaw}{w:World}{K:W.Frag}{h:Heap}{mg:Ye}{N:Addr}(X:K.In h)(G:h.Ns mainGlobals mg)(L:mg "law" = some (.ref N))
 {a:Addr}
 (d:vP K wJ tbl) (z:Nn K bl) (dl:wx K "law" (wJ 52))
 (b:W.nsIn K mainGlobals "TooMany" = some (some (.ref a))) (i:W.excIn K a [.type "ValueError",.type "Exception",.type "BaseException",.type "object"] "ValueError.__new__" = true)
 (x:Iq K "Book" "Book.__init__" ["plans"] (An (wJ 27) 0))
 (y:Iq K "Plan" "Plan.__init__" ["name", "givens", "rows"] (An (wJ 26) 0)):
 ∃O:FuncData,(∀(s:Shared) (v:Value),BindsTo s O ⟨[v],[]⟩ [("script",v)])/\∀c:Heap,K.In c->c.Ns mainGlobals mg->FnOk l.prog w K mg c yw 19 N O ["script"] (BP K):=by
 obtain⟨M,A,E,vx⟩:=dl;cases L.symm.trans (W.mg_of X G E);obtain⟨B,I,F,f,j,m,o,p⟩:=x;obtain⟨C,J,H,g,q,r,t,u⟩:=y;exact⟨A,(by obtain⟨_,_,_,_,_,_,_,_,_,rfl,_,_⟩:=id vx.ex;exact λs v=>.of_eq rfl),λc _ _=>(rX (e:=⟨l.prog,w,K,mg,c,λn=>[a,B,C].getD n 0,λn=>[].getD n default⟩) ⟨⟨⟨h,X,G⟩,d,IQ X G z⟩,⟨b,W.mg_of X G b,i⟩,⟨f,W.mg_of X G f,j,m⟩,⟨_,_,o,p⟩,⟨g,W.mg_of X G g,q,r⟩,⟨_,_,t,u⟩⟩ vx).imp (ti K)⟩
def walk {l:W.OpenLaw}{q:Program}{c:Yk}{m:(Ye)->Heap->Prop}{g:World->Heap->Prop}{d:DefRec}{K:Params->W.Frag}(o:l.most=some 63)(e:d.params.defaults=[])
 (p:∀(w:World) (h:Heap),g w h->(K w.params).In h)
 (F:∀(w:World) (mg:Ye) (i:Addr) (h:Heap),(K w.params).In h->h.Ns mainGlobals mg->mg d.name=some (.ref i) ->
  ∃j:FuncData,(∀(s:Shared) (u:Value),BindsTo s j ⟨[u],[]⟩ [("script",u)])/\∀b:Heap,(K w.params).In b->b.Ns mainGlobals mg->FnOk l.prog w (K w.params) mg b yw 19 i j ["script"] (BP (K w.params))):
 W.WalkO q c m g l.row.toRowW d [] (λf r=>PySem.call f r):=
 L2.walk_of (n:=63) (k:=19) (x:= "script") (CX:=λ_=>yw) (sp:=λw=>BP (K w.params)) o (by decide) e ⟨rfl,by decide,by decide⟩ p F (λ_ _ a ns t _ v=>⟨a,ns,rfl,v,t,λ_=>rfl⟩) λ_ _ _ _ _ z=>z
end My
end
open PySem PySem.W PyProof.Rows
def PySem.W.Fast.tw49615704204373600:=()
def PySem.W.Fast.tw17745132284317409669:=()
def PySem.W.Fast.tw10304645924326501913:=()
def PySem.W.Fast.tw17194301306706787650:=()
def PySem.W.Fast.tw11370531484221552384:=()
def PySem.W.Fast.tw9312664392254406661:=()
def PySem.W.Fast.tw7762497105600502492:=()
def PySem.W.Fast.tw15820689454617293314:=()
def PySem.W.Fast.tw12532238110020774053:=()
def PySem.W.Fast.tw7940323261677299668:=()
def PySem.W.Fast.tw892845248662195013:=()
def PySem.W.Fast.tw15033383386953009025:=()
def PySem.W.Fast.tw3547688021213787771:=()
def PySem.W.Fast.tw2762700730707363915:=()
def PySem.W.Fast.tw14146732423881729822:=()
def PySem.W.Fast.tw4220321065544121843:=()
def PySem.W.Fast.tw11680542007710053265:=()
def PySem.W.Fast.tw7449966542790385110:=()
def PySem.W.Fast.tw3870780211579949342:=()
def PySem.W.Fast.tw4015862752837026714:=()
def PySem.W.Fast.tw2660397292714659076:=()
def PySem.W.Fast.tw15248445836053809290:=()
def PySem.W.Fast.tw20819135691033953:=()
def PySem.W.Fast.tw2539372441792328097:=()
def PySem.W.Fast.tw12988770632203894722:=()
def PySem.W.Fast.tw9486261430827385277:=()
def PySem.W.Fast.tw13101837756704051877:=()
def PySem.W.Fast.tw10646255003222250660:=()
def PySem.W.Fast.tw18053322000393748292:=()
def PySem.W.Fast.tw2568756042304791061:=()
def PySem.W.Fast.tw16810209670479411398:=()
def PySem.W.Fast.tw18229626719405242492:=()
def PySem.W.Fast.tw17560047134108089980:=()
def PySem.W.Fast.tw5465404846011552004:=()
def PySem.W.Fast.tw2654126196561287510:=()
def PySem.W.Fast.tw8865681087800135884:=()
def PySem.W.Fast.tw11139975286245883086:=()
def PySem.W.Fast.tw3722085074539063808:=()
def PySem.W.Fast.tw1243340753779502655:=()
def PySem.W.Fast.tw140789163017816577:=()
def PySem.W.Fast.tw2825073117208043273:=()
def PySem.W.Fast.tw10534177552168937795:=()
def PySem.W.Fast.tw8093455279287178206:=()
def PySem.W.Fast.tw6600480209312406981:=()
def PySem.W.Fast.tw2931314064161809089:=()
def PySem.W.Fast.tw6512662721597547734:=()
def PySem.W.Fast.tw13200298219522735966:=()
def PySem.W.Fast.tw7499680455164380594:=()
def PySem.W.Fast.tw1585164849249476168:=()
def PySem.W.Fast.tw13585416132582401762:=()
def PySem.W.Fast.tw10106621560004451185:=()
def PySem.W.Fast.tw13724770487015707032:=()
def PySem.W.Fast.tw13713763511316189544:=()
def PySem.W.Fast.tw9872838480032649272:=()
def PySem.W.Fast.tw15384881605242239626:=()
def PySem.W.Fast.tw8966517985373722991:=()
def PySem.W.Fast.tw6250252618332522170:=()
def PySem.W.Fast.tw14476260920681930923:=()
def PySem.W.Fast.tw3993774276621197700:=()
def PySem.W.Fast.tw17178664150631939826:=()
def PySem.W.Fast.tw1141481178965713796:=()
def PySem.W.Fast.tw17985552938459979601:=()
def PySem.W.Fast.tw13760394567935860552:=()
def PySem.W.Fast.tw18344688642880346820:=()
def PySem.W.Fast.tw13567172857847812555:=()
def PySem.W.Fast.tw9887404305687634518:=()
def PySem.W.Fast.tw13492488477738461356:=()
def PySem.W.Fast.tw10801122464748921:=()
def PySem.W.Fast.tw1745668786389338218:=()
def PySem.W.Fast.tw15871046623480402064:=()
def PySem.W.Fast.tw9584586189582312670:=()
def PySem.W.Fast.tw105996943840330558:=()
def PySem.W.Fast.tw18066067923746155541:=()
def PySem.W.Fast.tw4858013447985764429:=()
def PySem.W.Fast.tw6190092643569736044:=()
def PySem.W.Fast.tw3361825112964892652:=()
def PySem.W.Fast.tw6936370557536711406:=()
def PySem.W.Fast.tw12867892053793938091:=()
def PySem.W.Fast.tw8254900859963556302:=()
def PySem.W.Fast.tw7752060691942124041:=()
def PySem.W.Fast.tw11504874246327813425:=()
def PySem.W.Fast.tw15016088966420732949:=()
def PySem.W.Fast.tw3847910402500784442:=()
def PySem.W.Fast.tw9289594236469163405:=()
def PySem.W.Fast.tw259129305334571651:=()
def PySem.W.Fast.tw7277093264434992542:=()
def PySem.W.Fast.tw12353507167926620182:=()
def PySem.W.Fast.tw4065339407027515746:=()
def PySem.W.Fast.tw5757451476651138692:=()
def PySem.W.Fast.tw7846471884967691760:=()
def PySem.W.Fast.tw18339471365964657158:=()
def PySem.W.Fast.tw4524218753646503658:=()
def PySem.W.Fast.tw5462023047065563558:=()
def PySem.W.Fast.tw1021268935289946553:=()
def PySem.W.Fast.tw15573132748003585182:=()
def PySem.W.Fast.tw1672430675399899535:=()
def PySem.W.Fast.tw13855855384585490757:=()
def PySem.W.Fast.tw17955495788819414726:=()
def PySem.W.Fast.tw6430534517113014834:=()
def PySem.W.Fast.tw6605848069508552848:=()
def PySem.W.Fast.tw8139494308910430938:=()
def PySem.W.Fast.tw5500932224679104479:=()
def PySem.W.Fast.tw11425575580492717631:=()
def PySem.W.Fast.tw5925179013384771513:=()
def PySem.W.Fast.tw5606095505871294680:=()
def PySem.W.Fast.tw4024185786426935248:=()
def PySem.W.Fast.tw11555566024416060891:=()
def PySem.W.Fast.tw17266522314588589918:=()
def PySem.W.Fast.tw11621658849926428060:=()
def PySem.W.Fast.tw3454754123488805539:=()
def PySem.W.Fast.tw5830622802034358838:=()
def PySem.W.Fast.tw4287960606544433767:=()
def PySem.W.Fast.tw16800325575327668056:=()
def PySem.W.Fast.tw10351629894142295789:=()
def PySem.W.Fast.tw1739684108692227227:=()
def PySem.W.Fast.tw7669889344736601433:=()
def PySem.W.Fast.tw4863621099590626029:=()
def PySem.W.Fast.tw18065255500701303736:=()
def PySem.W.Fast.tw2200583824415989070:=()
def PySem.W.Fast.tw7441407927706545758:=()
def PySem.W.Fast.tw14202224055866430721:=()
def PySem.W.Fast.tw17415869719122310620:=()
def PySem.W.Fast.tw10604279724377128948:=()
def PySem.W.Fast.tw18387629153776256577:=()
def PySem.W.Fast.tw10686330285337398944:=()
def PySem.W.Fast.tw193202787923329454:=()
def PySem.W.Fast.tw2204115194102226596:=()
def PySem.W.Fast.tw1342173293651581800:=()
def PySem.W.Fast.tw10533637463607510787:=()
def PySem.W.Fast.tw3165397998742419401:=()
def PySem.W.Fast.tw7640749682106677060:=()
def PySem.W.Fast.tw4312546337818837418:=()
def PySem.W.Fast.tw5066912722923244305:=()
def PySem.W.Fast.tw11109420647179033040:=()
def PySem.W.Fast.tw7864771078280590010:=()
def PySem.W.Fast.tw16279557656953111744:=()
def PySem.W.Fast.tw7067590460083399313:=()
def PySem.W.Fast.tw9088183309387039026:=()
def PySem.W.Fast.tw9507819252420998135:=()
def PySem.W.Fast.tw15118901725711034087:=()
def PySem.W.Fast.tw10933449225837104949:=()
def PySem.W.Fast.tw10705202514900940032:=()
def PySem.W.Fast.tw15854554505215860405:=()
def PySem.W.Fast.tw15133855234980012784:=()
def PySem.W.Fast.tw7048393149283877220:=()
def PySem.W.Fast.tw9343187996855846417:=()
def PySem.W.Fast.tw12868832496536472230:=()
def PySem.W.Fast.tw18277452168037214646:=()
def PySem.W.Fast.tw50344224261715541:=()
def PySem.W.Fast.tw505692950981580393:=()
def PySem.W.Fast.tw4661586015298018836:=()
def PySem.W.Fast.tw12195849189662087673:=()
def PySem.W.Fast.tw12376742361308901544:=()
def PySem.W.Fast.tw13021039815438091491:=()
def PySem.W.Fast.tw7992052716266438641:=()
def PySem.W.Fast.tw9599869198512735817:=()
def PySem.W.Fast.tw3378077874016457370:=()
def PySem.W.Fast.tw507038101796510641:=()
def PySem.W.Fast.tw4773623554208178279:=()
def PySem.W.Fast.tw13583369657464726524:=()
def PySem.W.Fast.tw3446762436583708430:=()
def PySem.W.Fast.tw16782688399439967227:=()
def PySem.W.Fast.tw6289093687280575093:=()
def PySem.W.Fast.tw14732416934520318150:=()
def PySem.W.Fast.tw924487601867624272:=()
def PySem.W.Fast.tw6068730899156371869:=()
def PySem.W.Fast.tw9568585964136483464:=()
def PySem.W.Fast.tw10306462464936205970:=()
def PySem.W.Fast.tw11668567332391143539:=()
def PySem.W.Fast.tw14489186336941695961:=()
def PySem.W.Fast.tw14058779001839172029:=()
def PySem.W.Fast.tw12983673083534621842:=()
def PySem.W.Fast.tw4029311055082244487:=()
def PySem.W.Fast.tw16547828423764987969:=()
def PySem.W.Fast.tw13776786656690464963:=()
def PySem.W.Fast.tw2847851312759841554:=()
def PySem.W.Fast.tw9704501739508426140:=()
def PySem.W.Fast.tw17218845610730590915:=()
def PySem.W.Fast.tw16563702011596760811:=()
def PySem.W.Fast.tw4061457465600449106:=()
def PySem.W.Fast.tw5019329568718755410:=()
def PySem.W.Fast.tw10793808082788148470:=()
def PySem.W.Fast.tw13995708774462735453:=()
def PySem.W.Fast.tw12616888454070516264:=()
def PySem.W.Fast.tw16176891400987305816:=()
def PySem.W.Fast.tw2261542781021698786:=()
def PySem.W.Fast.tw15539242458796805133:=()
def PySem.W.Fast.tw4997868267124155723:=()
def PySem.W.Fast.tw2179586013654387429:=()
def PySem.W.Fast.tw3428778298036961464:=()
def PySem.W.Fast.tw12402505585822001009:=()
set_option maxRecDepth 100000 in
set_option maxHeartbeats 0 in
theorem PySem.Challenge.cw_allfirst_k71_whole_holding_by_runs_holds : PySem.Challenge.rw_allfirst_k71_whole_holding_by_runs.Holds := by
 w_on;o_law;k_head;(case hw=>w_witness2)
 k_fill
 refine My.walk (l:=PySem.Challenge.rw_allfirst_k71_whole_holding_by_runs) rfl rfl (fun w h Y=>PySem.W.kIn_of Y) ?F
 case F =>
  intro w mg fa h KX G hmg;refine' My.all_mk KX G hmg ?d ?z ?dl ?a_TooMany ?q_TooMany ?l_Book ?l_Plan
  (case d =>
   repeat (apply L2.DL.dfs_cons;focus (refine' ⟨_,_,?a,L2.fun_mk ?l ?c ?k⟩;(case a=>k_is);(case l=>k_is);(case c=>k_is);(case k=>k_is)))
   exact True.intro)
  (case z =>
   repeat (apply L2.DL.nn_cons;focus k_is)
   exact True.intro)
  (case dl=>refine' ⟨_,_,?a,L2.fun_mk ?l ?c ?k⟩;(case a=>k_is);(case l=>k_is);(case c=>k_is);(case k=>k_is))
  (case a_TooMany=>k_is)
  (case q_TooMany=>k_exc)
  (case l_Book=>refine' ⟨_,_,_,?ua,⟨?up,?uh,?uo,?us⟩,List.forall_mem_cons.mpr ⟨?uf0,List.forall_mem_nil _⟩,⟨?um,?ui,?un,?ue⟩,L2.fun_mk ?ul ?uc ?uk⟩;(case ua=>k_is);(case ui=>k_is);(case ul=>k_is);(case uc=>k_is);(case uk=>k_is);(case up=>k_is);(case uh=>k_is);(case uo=>k_is);(case us=>k_is);(case um=>k_is);(case un=>k_is);(case ue=>k_is);(case uf0=>show PySem.W.findIn _ _ _=_;k_is))
  (case l_Plan=>refine' ⟨_,_,_,?ua,⟨?up,?uh,?uo,?us⟩,List.forall_mem_cons.mpr ⟨?uf0,List.forall_mem_cons.mpr ⟨?uf1,List.forall_mem_cons.mpr ⟨?uf2,List.forall_mem_nil _⟩⟩⟩,⟨?um,?ui,?un,?ue⟩,L2.fun_mk ?ul ?uc ?uk⟩;(case ua=>k_is);(case ui=>k_is);(case ul=>k_is);(case uc=>k_is);(case uk=>k_is);(case up=>k_is);(case uh=>k_is);(case uo=>k_is);(case us=>k_is);(case um=>k_is);(case un=>k_is);(case ue=>k_is);(case uf0=>show PySem.W.findIn _ _ _=_;k_is);(case uf1=>show PySem.W.findIn _ _ _=_;k_is);(case uf2=>show PySem.W.findIn _ _ _=_;k_is))
