import PyProof.Rows.All
import Wide.All
import OpenK.AllK
import Wide.FinOn
import Lean
import PyProof.EqAt
import PyProof.EqKinds
import PyProof.TupleCall
import PyProof.P3Eq
import PyProof.NeData
import PySem.Challenge.RW_allfirst_k56_the_first_bad_row
set_option autoImplicit true
set_option relaxedAutoImplicit true
set_option Elab.async false
set_option linter.all false
set_option maxRecDepth 100000
open PySem PySem.Spec PyProof.Rows
theorem Zqi.{u} {α:Type u}{a b:α}(h:some a=some b):a=b:=Option.some.inj h
theorem Zqg.{u} {α:Type u}{l:List α}{i:Nat}(h:i<l.length):l[i]? = some l[i]:=List.getElem?_eq_getElem h
theorem Zqs.{u} {α:Type u}{a:α}{l:List α}:a∈a::l:=List.mem_cons_self
theorem Zqm.{u} {α:Type u}(y:α){a:α}{l:List α}(h:a∈l):a∈y::l:=List.mem_cons_of_mem y h
theorem Zql.{u,v} {α:Type u}{β:Type v}{l:List α}(f:α->β):(l.map f).length=l.length:=List.length_map f
abbrev Za:=@wpAny_bind
abbrev Zb:=@wpAny_pure
abbrev Zc:=@wpAny_mono
abbrev Zd:=@if_pos
abbrev Ze:=@if_neg
abbrev Zf:=@Nat.le_refl
abbrev Zg:=@Nat.lt_of_lt_of_le
abbrev Zh:=@Nat.le_trans
abbrev Zi:=@Nat.ne_of_lt
abbrev Zj:=@Bool.false_ne_true
abbrev Zk:=@Heap.lt_size
abbrev Zl:=@List.map_cons
abbrev Zm:=@List.size_toArray
abbrev Zn:=@absurd
abbrev Zo:=@decide_eq_false
abbrev Zp:=@decide_eq_true
abbrev Zq:=@Heap.get?_push_of_some
abbrev Zr:=@Heap.get?_push_size
abbrev Zs:=@iff_of_false
abbrev Zt:=@congrArg
abbrev Zu:=@List.length_cons
abbrev Zv:=@List.getElem?_map
abbrev Zw:=@List.map_map
abbrev Zx:=@List.getElem?_set_ne
abbrev Zy:=@Nat.lt_irrefl
abbrev Zz:=@Nat.le_of_lt
abbrev ZA:=@List.append_nil
abbrev ZB:=@List.length_range
abbrev ZC:=@List.length_nil
set_option maxHeartbeats 4000000
abbrev Ya:=PySem.Value->PySem.Shared->Prop
abbrev Yb:=List (PySem.Addr×PySem.Obj)
abbrev Yc:=PySem.Str->Option PySem.Value
abbrev Yd:=List PySem.Value
abbrev Ye:=Option PySem.Value
abbrev Yf:=List Int
abbrev Yg:=List Nat
abbrev Yh:=List PySem.Str
abbrev Yi:=List PySem.Addr
abbrev Yj:=List PySem.Expr
abbrev Yk:=Array PySem.Value
abbrev Yl:=@beq_iff_eq
abbrev Ym:=@Unit.unit
abbrev Yn:=@PySem.F.plainAttrs_list
abbrev Yo:=@PySem.F.slot_list_append
abbrev Yp:=@PySem.F.type_list_append
abbrev Yq:=PySem.Shared->Prop
noncomputable section
local macro_rules | `(tactic| trivial) => `(tactic| first|exact .inl rfl|exact .inr rfl|assumption)
local macro_rules | `(()) => `(by first|lia|omega|(simp;done)|grind|simp_all)
local macro_rules | `(~~~$x) => `(some (.val $x))
abbrev Ua:=@Bool.and_eq_true
abbrev Ub:=@List.append_assoc
abbrev Uc:=@Array.length_toList
abbrev Ud:=@List.mem_append_right
abbrev Ue:=@Nat.zero_le
abbrev Uf:=@List.length_append
abbrev Ug:=@List.cons.inj
abbrev Uh:=@List.mem_of_getElem?
abbrev Ui:=@List.all_cons
abbrev Uj:=@List.mem_cons
abbrev Uk:=@List.not_mem_nil
abbrev Ul:=@List.all_eq_true
abbrev Um:=@Sum.inr
abbrev Uo:=@List.mem_append_left
abbrev Up:=@Nat.blt
abbrev Uq:=@Bool.or_eq_true
abbrev Ur:=@Nat.blt_eq
abbrev Us:=@List.take_succ
abbrev Ut:=@List.map_append
abbrev Uu:=@List.length_set
abbrev Uv:=@List.filterMap_cons
abbrev Uw:=@List.take_length
abbrev Ux:=@List.getElem?_set_self
abbrev Uy:=@List.foldl_cons
abbrev Uz:=@Nat.ble_eq
abbrev UA:=@Nat.ne_of_gt
abbrev UB:=@Nat.lt_trans
abbrev UC:=@Nat.succ.inj
abbrev UD:=@List.length_take
abbrev UE:=@Nat.le_succ
abbrev UF:=@List.drop_eq_getElem_cons
abbrev UG:=@Bool.eq_iff_iff
abbrev UH:=@Bool.not_eq_true'
abbrev UI:=@Bool.or_true
abbrev UJ:=@List.map_nil
abbrev UK:=@Nat.zero_add
abbrev UL:=@Int.eq_ofNat_of_zero_le
abbrev UM:=@Nat.div_lt_of_lt_mul
abbrev UN:=@List.map_congr_left
abbrev UO:=@List.length_singleton
abbrev UP:=@Classical.choose_spec
abbrev UQ:=@List.cons_append
abbrev UR:=@Option.isSome_map
abbrev US:=@Nat.lt_of_le_of_lt
abbrev UT:=@List.drop_length
abbrev UU:=@List.getElem?_append_left
abbrev UV:=@List.zip_cons_cons
abbrev UW:=@List.take_of_length_le
abbrev UX:=@List.getD_eq_getElem?_getD
abbrev UY:=@List.foldl_append
abbrev UZ:=@Bool.false_eq_true
abbrev U0:=@List.getElem?_range
abbrev U1:=@Array.all_toList
abbrev U2:=@List.getElem?_append_right
abbrev U3:=@List.nodup_iff_pairwise_ne
abbrev U4:=@Classical.byContradiction
abbrev U5:=@Nat.toDigits_of_lt_base
abbrev U6:=@Nat.toDigits_of_base_le
abbrev Ja:=@List.mem_map
abbrev Jb:=@List.mem_singleton
abbrev Jc:=@List.mem_append
abbrev Jd:=@List.getElem?_eq_some_iff
abbrev Je:=@Option.bind_eq_some_iff
abbrev Jf:=@List.nodup_cons
abbrev Jg:=@Option.map_eq_some_iff
abbrev Jh:=@List.mem_range
abbrev Ji:=@List.mem_filterMap
abbrev Jj:=@Array.getElem?_eq_some_iff
abbrev Jk:=@List.mem_flatMap
abbrev Jl:=@List.nodup_append
abbrev Jm:=@Option.isSome_iff_exists
abbrev Jn:=@List.pairwise_map
abbrev Jo:=@List.pairwise_iff_getElem
abbrev Jp:=List (Int×Int)
abbrev Jq:=List Jp
namespace L2
abbrev jx:=Sum Int Str
def KO:jx->Value->Bool
 | .inl k,v=>Value.isInt k v
 | .inr x,v=>Value.isStrOf x v
def dz (w:World):jx->Int
 | .inl k=>hashInt k
 | .inr x=>hashStr w x
def KA:∀{k:jx} {v:Value},KO k v=true->(∃i t,k=Sum.inl i/\v=Value.int i t)\/(∃x t,k=Um x/\v=Value.str x t)
 | .inl i,v,h=>by
  obtain⟨t,e⟩:=Value.isInt_shape h;exact .inl ⟨i,t,rfl,e⟩
 | .inr x,v,h=>by
  obtain⟨t,e⟩:=Value.isStrOf_shape h;exact .inr ⟨x,t,rfl,e⟩
def Hq (i)(t):KO (.inl i) (.int i t)=true:=by simp[KO,Value.isInt]
def Hr (x)(t):KO (.inr x) (.str x t)=true:=by simp[KO,Value.isStrOf]
def Hs (a b):decide ((Sum.inl a:jx)=Sum.inl b)=(a == b):=()
def Ht (a b):decide ((Um a:jx)=Um b)=decide (a=b):=()
def Hu (a)(b):decide ((Sum.inl a:jx)=Um b)=false:=rfl
def Hv (a)(b):decide ((Um a:jx)=Sum.inl b)=false:=rfl
def Qj (prog:Program)(w:World):PySem.KeyKind prog w jx where
 is:=KO
 hash:=dz w
 inj:=λv a b f d=>by
  rcases KA f with ⟨i,t,rfl,rfl⟩|⟨x,t,rfl,rfl⟩
  .rcases KA d with ⟨j,u,rfl,e⟩|⟨y,u,rfl,e⟩
   .injection e with e1 _;rw[e1]
   .exact nomatch e
  .rcases KA d with ⟨j,u,rfl,e⟩|⟨y,u,rfl,e⟩
   .exact nomatch e
   .injection e with e1 _;rw[e1]
 byValue:=λk v h=>by
  rcases KA h with ⟨i,t,rfl,rfl⟩|⟨x,t,rfl,rfl⟩<;>rfl
 pyHash:=λc h=>by
  rcases KA c with ⟨i,t,rfl,rfl⟩|⟨x,t,rfl,rfl⟩
  .exact wpAny_pyHash_int h
  .exact wpAny_pyHash_str h
 eqBool:=λg c h=>by
  rcases KA g with ⟨i,t,rfl,rfl⟩|⟨x,t,rfl,rfl⟩
  .rcases KA c with ⟨j,u,rfl,rfl⟩|⟨y,u,rfl,rfl⟩
   .rw[Hs] at h;exact wpAny_eqBool_int h
   .rw[Hu] at h;exact SeqAt.EqAt.int_str i t y u _ _ _ _ h
  .rcases KA c with ⟨j,u,rfl,rfl⟩|⟨y,u,rfl,rfl⟩
   .rw[Hv] at h;exact SeqAt.EqAt.str_int x t j u _ _ _ _ h
   .rw[Ht] at h;exact wpAny_eqBool_str h
 «strs»:=λk x t v h=>by
  rcases KA h with ⟨i,u,rfl,e⟩|⟨y,u,rfl,e⟩
  .exact nomatch e
  .injection e with e1 _
   subst e1;cases v<;>rfl
def Hw (prog)(w)(i)(t):(Qj prog w).is (.inl i) (.int i t)=true:=Hq i t
def Hx (prog)(w)(x)(t):(Qj prog w).is (.inr x) (.str x t)=true:=Hr x t
inductive V where
 |non|bl (b:Bool)|int (i:Int)|str (x:Str)|byt (b:Array UInt8)|flt (b:UInt64)|ref (a:Addr)|ty (n:String)
 deriving DecidableEq
abbrev _root_.Yr:=List V
abbrev _root_.Ys:=Option V
def jq:V->Value->Prop
 | .non,u=>u=Value.none
 | .bl b,u=>u=Value.bool b
 | .int i,u=>∃t,u=Value.int i t
 | .str x,u=>∃t,u=Value.str x t
 | .byt b,u=>∃t,u=Value.bytes b t
 | .flt b,u=>∃t,u=Value.float b t
 | .ref a,u=>u=Value.ref a
 | .ty n,u=>u=Value.type n
abbrev js:Yr->List Value->Prop:=Paired jq
theorem js.length {xs:Yr}{a:Yd}(r:js xs a):xs.length=a.length:=Paired.length r
theorem js.get:∀{xs:Yr} {a:Yd} {i:Nat} {x:V},js xs a->xs[i]? = some x->∃u,a[i]? = some u/\jq x u
 |_,_,_,_,.nil,e=>by simp at e
 |_,_,0,_,.cons r _,e=>by simp_all
 |_,_,i+1,x,.cons _ t,e=>by
  obtain⟨u,b,c⟩:=js.get t (by simpa using e)
  simp_all
def js.append:∀{xs a:Yr} {b ws:Yd},js xs b->js a ws->js (xs++a) (b++ws):=λh s=>by
 induction h with
 |nil=>exact s
 |cons r _ c=>exact .cons r c
def js.none_of:∀{xs:Yr} {a:Yd} {i:Nat},js xs a->xs[i]? = none->a[i]? = none:=λ{xs a i} r e=>by
 have b:=r.length
 simp_all
def xj:Ys->Option Value->Prop
 |some v,some u=>jq v u
 |none,none=>True
 |_,_=>False
def KV {κ: Type}:List (κ × V)->List (κ × Value)->Prop:=Paired λ(p:κ × V) (q:κ × Value)=>p.1=q.1/\jq p.2 q.2
def kV:jx->V
 | .inl i=>.int i
 | .inr x=>.str x
inductive HO where
 |lst (xs:Yr)
 |tup (xs:Yr)
 |dK (kvs:List (jx×V))|dT (kvs:List (List jx×V))
 |set (S:Int->Bool) (n:Nat)
 |ins (C dx:Addr) (fs:List (Str×V))
 |own (x:Addr)
 |xd (fs:List (Str×V))
 |met (f x:Addr)
 |rng (lo hi:Int)
 |frz (o:Obj) (u:HO)
 |tbl (ps:Yk)
 |ext (φ: Heap->Prop)
abbrev Hp:=Addr->Option HO
def upd (H:Hp)(a:Addr)(o:HO):Hp:=λb=>if b=a then some o else H b
def J8 {H:Hp}{a:Addr}{o:HO}:upd H a o a=some o:=by simp_all [upd]
def Jx {H:Hp}{a b:Addr}{o:HO}(h:b≠a):upd H a o b=H b:=by simp_all [upd]
def cW {H:Hp}{a b:Addr}{o u:HO}(h:H a=some o)(h':H b=some u)(d:o≠u):a≠b:=()
def Kg {H:Hp}{a b:Addr}{o:HO}(h:H a=some o)(h':H b=none):a≠b:=()
section
variable (P:Program)(w:World)
def xn (H:Hp)(h:Heap)(a:Addr):HO->Prop
 | .lst xs=>xs.length<=sizeLine/\∃(b:Yd) (n:Nat),js xs b/\h.get? a=some { cls:=.type "list",data:=.seq b.toArray n }
 | .tup xs=>(xs.length<=sizeLine/\∃o,h.get? a=some o/\o.dict=none)/\∃b:Yd,js xs b/\IsTup h a b.toArray
 | .dK kvs=>kvs.length<=sizeLine/\(a == sysModules)=false/\∃d,KV kvs d/\h.DictOf (Qj P w) a d
 | .dT kvs=>kvs.length<=sizeLine/\(a == sysModules)=false/\∃xs:List (List jx×Addr×Value),
  Paired (λ(p:List jx×V) (q:List jx×Addr×Value)=>p.1=q.1/\H q.2.1=some (.tup (p.1.map kV))/\jq p.2 q.2.2) kvs xs /\
  ∃o e j,h.get? a=some o/\o.ExactDict/\o.data=.dict e j/\e.toList=xs.map (entryOfKey (tupleKind (Qj P w)))/\(xs.map (·.1)).Nodup
 | .set S n=>h.SetOf (intKind P w) a S n
 | .ins C dx fs=>H dx=some (.own a)/\fs.length<=1000/\dx≠a/\h.get? a=some (W.instObj C dx) /\
  ∃c,h.Ns1 dx c/\(∀f,xj (fs.lookup f) (c f))/\PySem.Within c (fs.map (·.1))
 | .own _=>∃o,h.get? a=some o
 | .xd fs=>∃c,h.Ns1 a c/\∀f,xj (fs.lookup f) (c f)
 | .rng lo hi=>∃t u v,h.get? a=some { cls:=.type "range",data:=.fields #[.int lo t,.int hi u,.int 1 v] }
 | .frz o u=>h.get? a=some o/\xn H h a u
 | .tbl ps=>h.get? a=some { cls:=.none,data:=.fields ps }
 | .met f x=>h.get? a=some (W.methodObj (.ref f) (.ref x))
 | .ext φ => φ h/\(∃o,h.get? a=some o)/\∀g i:Heap,φ g->(∀o,g.get? a=some o->i.get? a=some o) -> φ i
def qQ (H:Hp)(h:Heap):Prop:=∀a o,H a=some o->xn P w H h a o
end
section
variable {P:Program}{w:World}{H H':Hp}{h h':Heap}{a:Addr}{o:HO}
theorem xn.lt (x:xn P w H h a o):a<h.objs.size:=by
 cases o with
 |lst xs=>obtain⟨_,_,_,_,e⟩:=x;exact Zk e
 |tup xs=>obtain⟨_,_,_,p⟩:=x;exact p.lt
 |dK b=>obtain⟨_,_,_,_,o,_,_,e,_⟩:=x;exact Zk e
 |dT b=>obtain⟨_,_,_,_,o,_,_,e,_⟩:=x;exact Zk e
 |set S n=>obtain⟨o,_,_,_,e,_⟩:=x;exact Zk e
 |ins C c fs=>exact Zk x.2.2.2.1
 |own y=>obtain⟨_,e⟩:=x;exact Zk e
 |xd fs=>obtain⟨_,⟨_,_,_,e,_⟩,_⟩:=x;exact Zk e
 |rng lo d=>obtain⟨_,_,_,e⟩:=x;exact Zk e
 |frz g u=>exact Zk x.1
 |tbl i=>exact Zk (x)
 |met f y=>exact Zk (x)
 |ext φ => obtain⟨_,⟨_,e⟩,_⟩:=x;exact Zk e
def xr {α β: Type}{F G:α -> β -> Prop}:∀{l₁:List α} {l₂:List β},Paired F l₁ l₂->(∀a b,F a b->G a b)->Paired G l₁ l₂:=λh f=>by
 induction h with
 |nil=>exact .nil
 |cons r _ c=>exact .cons (f _ _ r) c
def xn.stay (x:xn P w H h a o)(k:∀b u,(b=a\/H b=some (.own a))->h.get? b=some u->h'.get? b=some u)
 (B:∀b,H b=some (.own a)->H' b=some (.own a)) (I:∀b xs,H b=some (.tup xs)->H' b=some (.tup xs)):xn P w H' h' a o:=by
 induction o with
 |lst xs=>obtain⟨z,l,n,r,e⟩:=x;exact⟨z,l,n,r,k _ _ (.inl rfl) e⟩
 |tup xs=>obtain⟨⟨z,m,J,dd⟩,l,r,g,e,c⟩:=x;exact⟨(),l,r,g,k _ _ (.inl rfl) e,c⟩
 |dK s=>have ⟨z,y,E,r,g,i,j,e,c⟩:=x;exact⟨z,y,E,r,g,i,j,k _ _ (.inl rfl) e,c⟩
 |dT s =>
  obtain⟨z,y,xs,r,g,i,j,e,c⟩:=x;exact⟨z,y,xs,xr r (),g,i,j,k _ _ (.inl rfl) e,c⟩
 |set S n=>have ⟨g,i,j,t,e,c⟩:=x;exact⟨g,i,j,t,k _ _ (.inl rfl) e,c⟩
 |ins C K fs =>
  obtain⟨d,z,ne,e,A,⟨m,i,j,F,c⟩,r⟩:=x;exact⟨B _ d,z,ne,k _ _ (.inl rfl) e,A,⟨m,i,j,k _ _ (.inr d) F,c⟩,r⟩
 |own y=>have ⟨g,e⟩:=x;exact⟨g,k _ _ (.inl rfl) e⟩
 |xd fs=>obtain⟨A,⟨m,i,j,e,c⟩,r⟩:=x;exact⟨A,⟨m,i,j,k _ _ (.inl rfl) e,c⟩,r⟩
 |rng lo L=>have ⟨t,u,v,e⟩:=x;exact⟨t,u,v,k _ _ (.inl rfl) e⟩
 |frz g u G=>exact⟨k _ _ (.inl rfl) x.1,G x.2⟩
 |tbl M =>
  exact k a _ (.inl rfl) x
 |met f y =>
  exact k a _ (.inl rfl) x
 |ext φ => have ⟨p,⟨o,e⟩,st⟩:=x;exact⟨st _ _ p λo q=>k _ _ (.inl rfl) q,⟨o,k _ _ (.inl rfl) e⟩,st⟩
theorem qQ.lt (x:qQ P w H h)(e:H a=some o):a<h.objs.size:=(x a o e).lt
def qQ.fresh (x:qQ P w H h)(e:h.objs.size<=a):H a=none:=by
 cases q:H a with
 |none=>rfl
 |some u=>exact Zn (Zg (x.lt q) e) (Zy _)
def qQ.kept (x:qQ P w H h)(k:∀b u,h.get? b=some u->h'.get? b=some u):qQ P w H h':=λa o e =>
 (x a o e).stay () (λ_ q=>q) λ_ _ q=>q
def qQ.laid (x:qQ P w H h)(k:∀b u,h.get? b=some u->h'.get? b=some u)(f:h.objs.size<=a)(new:xn P w (upd H a o) h' a o):qQ P w (upd H a o) h':=λb u e=>by
 have d:=x.fresh f;by_cases g:b=a
 .simp_all [J8]
 .rw[Jx g] at e;exact(x b u e).stay () (λc q=>by rwa [Jx (Kg q d)]) λc xs q=>by rwa [Jx (Kg q d)]
end
def Rd (H:Hp)(a:Addr)(u:HO):Prop:=H a=some u\/∃o,H a=some (.frz o u)
def Rd.ok {P:Program}{w:World}{H:Hp}{h:Heap}{a:Addr}{u:HO}(r:Rd H a u)(x:qQ P w H h):xn P w H h a u:=by
 rcases r with r|⟨o,r⟩
 .exact x a u r
 .obtain⟨_,q⟩:=x a _ r;exact q
def mS:Option HO->Prop
 |some (.lst _)=>True
 |some (.dK _)=>True
 |some (.dT _)=>True
 |some (.set _ _)=>True
 |some (.ins _ _ _)=>True
 |some (.ext _)=>True
 |_=>False
section
variable {P:Program}{w:World}{H:Hp}{h h':Heap}{x e:Addr}{o':HO}
def qQ.write (ok:qQ P w H h)(i:mS (H x))(l:e=x\/H e=some (.own x))(k:∀b u,b≠e->h.get? b=some u->h'.get? b=some u)(f:∃u,h'.get? e=some u)
 (new:xn P w (upd H x o') h' x o'):qQ P w (upd H x o') h':=λb u q=>by
 have a:∀c y,H c=some (.own y)->c≠x:=λc y r z=>by subst z;rwa [r] at i
 have d:∀c xs,H c=some (.tup xs)->c≠x:=λc xs r z=>by subst z;rwa [r] at i
 by_cases j:b=x
 .simp_all [J8]
 .rw[Jx j] at q;by_cases g:b=e
  .have q':H b=some (.own x):=by
    simp_all
   rw[q] at q';cases q';obtain⟨v,m⟩:=f;exact⟨v,by rwa [g]⟩
  .refine(ok b u q).stay (λc v n r=>k c v ?_ r) (λc r=>by rwa [Jx (a c b r)]) λc xs r=>by rwa [Jx (d c xs r)]
   grind
end
structure Un (fs ex:Yi)(H H':Hp)(h h':Heap):Prop where
 keep:∀b o,h.get? b=some o->H b=none->b∉fs->b∉ex->h'.get? b=some o
 slot:∀b o,h.get? b=some o->H b=none->b∈fs->b∉ex->∃sl,h'.get? b=some { o with slots:=sl }
 free:∀b o,h.get? b=some o->H b=none->b∉ex->H' b=none
 there:∀b o,h.get? b=some o->b∉ex->∃o',h'.get? b=some o'
 tups:∀b xs,H b=some (.tup xs)->H' b=some (.tup xs)
 frzs:∀b o u,H b=some (.frz o u)->H' b=some (.frz o u)
 tbls:∀b ps,H b=some (.tbl ps)->∃more,H' b=some (.tbl (ps++more))
section
variable {fs fs' ex ex':Yi}{H H1 H2:Hp}{h h1 h2 h':Heap}{a x e:Addr}{o:HO}
def Un.any (u:Un fs ex H H1 h h1){b:Addr}{c:Obj}(q:h.get? b=some c)(n:H b=none)(hx:b∉ex):∃f,h1.get? b=some { c with slots:=f }:=by
 by_cases d:b∈fs
 .exact u.slot b c q n d hx
 .exact⟨c.slots,u.keep b c q n d hx⟩
def Un.kept (k:∀b u,h.get? b=some u->h'.get? b=some u):Un fs ex H H h h':=
 ⟨(),λb c q _ _ _=>⟨c.slots,k b c q⟩,λ_ _ _ n _=>n,(),λ_ _ q=>q,λ_ _ _ q=>q,λ_ d q=>⟨#[],by rw[q];simp⟩⟩
def Un.refl:Un fs ex H H h h:=Un.kept λ_ _ q=>q
def Un.laid (k:∀b u,h.get? b=some u->h'.get? b=some u)(d:h.objs.size<=a)(c:H a=none):Un fs ex H (upd H a o) h h' where
 keep:=by grind
 slot:=λb u q _ _ _=>⟨u.slots,k b u q⟩
 free:=λb u q n _=>by rwa [Jx (Zi (Zg (Zk q) d))]
 there:=by grind
 tups:=λb xs q=>by rwa [Jx (Kg q c)]
 frzs:=λb u xs q=>by rwa [Jx (Kg q c)]
 tbls:=λb f q=>⟨#[],by rw[Jx (Kg q c),q];simp⟩
def Un.write (d:mS (H x))(i:e=x\/H e=some (.own x))(k:∀b u,b≠e->h.get? b=some u->h'.get? b=some u)(f:∃u,h'.get? e=some u):Un fs ex H (upd H x o) h h':=by
 have hx:∀b,H b=none->b≠x:=λb n z=>by subst z;rwa [n] at d
 have g:∀b,H b=none->b≠e:=by grind
 have c:∀b u,H b=some u->¬mS (some u)->b≠x:=by grind
 refine⟨(),λb u q n _ _=>⟨u.slots,k b u (g b n) q⟩,λb u q n _=>by rwa [Jx (hx b n)],λb u q _=>?_,
  λb xs q=>by rwa [Jx (c b _ q λz=>z)],λb u xs q=>by rwa [Jx (c b _ q λz=>z)],λb j q=>⟨#[],by rw[Jx (c b _ q λz=>z),q];simp⟩⟩
 grind
end
def trk (h:Heap)(H:Hp):Yi:=(List.range h.objs.size).filter λa=>(H a).isSome
def yg (h:Heap)(H:Hp):Heap:=W.hideAll h (trk h H)
def Hy (h)(H):(yg h H).objs.size=h.objs.size:=W.hideAll_size _ _
def Hz {h:Heap}{H:Hp}{b:Addr}{o:Obj}(e:h.get? b=some o)(n:H b=none):(yg h H).get? b=some o:=
 W.hideAll_get _ e λa=>by
  have q:=(List.mem_filter.mp a).2
  simp_all
def HA {h:Heap}{H:Hp}{b:Addr}{o:Obj}(e:(yg h H).get? b=some o):h.get? b=some o/\H b=none:=by
 have a:=W.of_hideAll (trk h H) e;refine⟨a,?_⟩;cases q:H b with
 |none=>rfl
 |some x =>
  have c:b∈trk h H:=List.mem_filter.mpr ⟨Jh.mpr (Zk a),by simp[q]⟩;have z:(yg h H).get? b=none:=W.hideAll_none (trk h H) c
  simp_all
structure Mod (K:W.Frag)(mg:Yc)(base:Heap):Prop where
 kin:K.In base
 glob:base.Ns mainGlobals mg
 blt:∃mb,base.Ns builtinsNs mb/\∀x:Str,x ≠ "__name__" -> mb x=bootBuiltins x
 nolimit:base.NoLimit
structure Cx where
 prog:Program
 w:World
 K:W.Frag
 mg:Yc
 base:Heap
 A:Around
 N:Yh
 s₀:Shared
 H₀:Hp
 env:Env
 outer:List Env
 stack:List Env
 ex:Yi
 fn:Str->Bool
 calm:Bool
 pn:Yb
 xe:Ya
abbrev _root_.Yv(X:Cx){α:Type}(m:Sem α):=wpAny (model X.prog X.w) X.A m
abbrev _root_.Yw(P:Program)(w:World)(A:Around){α:Type}(m:Sem α):=wpAny (model P w) A m
abbrev _root_.Yx(P:Program)(w:World)(A:Around)(E:Value->Shared->Prop)(s:Shared){α:Type}(m:StateT PyProof.Rows.SortSt Sem α):=PyProof.Rows.wpS (model P w) A E s m
def frs (l:List Env):Yi:=l.filterMap (·.frame)
abbrev Cx.fs (X:Cx):Yi:=frs X.outer
def vT (a:Scope)(x:Str):Prop:=a.names.lookup x=some .local\/a.names.lookup x=some .cell\/a.names.lookup x=some .free
def yM (a:Scope)(x:Str):Prop:=a.names.lookup x=some .local\/a.names.lookup x=some .cell
def mT (env:Env)(h:Heap)(m:Yc)(x:Str)(u:Value):Prop:=
 (env.kindOf x=some .local/\m x=some u)\/((env.kindOf x=some .cell\/env.kindOf x=some .free)/\∃c,env.cells.lookup x=some c/\h.IsCell c (some u))
structure Cx.Ok (X:Cx):Prop where
 mod:Mod X.K X.mg X.base
 kind:X.env.scope.kind=.function
 glob:X.env.globals=mainGlobals
 blt:X.env.builtins=builtinsNs
 above:X.s₀.heap.objs.size<=X.env.locals
 inj:∀x y c,X.env.cells.lookup x=some c->X.env.cells.lookup y=some c->x=y
 has:∀x,(X.env.kindOf x=some .cell\/X.env.kindOf x=some .free)->∃c,X.env.cells.lookup x=some c
 cab:∀x c,X.fn x=true->X.env.cells.lookup x=some c->X.s₀.heap.objs.size<=c
 hd:X.calm=true->X.A.handled=none
 frames:X.A.frames=some X.stack
 stk:X.stack=X.outer\/(X.stack=X.env::X.outer/\X.env.frame=some X.env.locals)
 exf:∀b∈X.ex,b≠X.env.locals/\∀x c,X.env.cells.lookup x=some c->c≠b
 bs:∀b o,X.base.get? b=some o->X.s₀.heap.get? b=some o/\X.H₀ b=none
 bsz:X.base.objs.size<=X.s₀.heap.objs.size
 noex:∀b o,X.base.get? b=some o->b∉X.ex
 exfs:∀b∈X.ex,b∉X.fs
 funs:X.s₀.heap.FunFrames X.base X.outer
 frf:∀b∈X.fs,X.H₀ b=none
structure Inv (X:Cx)(Y:Yb)(Z: List Ys)(H:Hp)(s:Shared):Prop where
 ok:X.Ok
 os:s.os=X.s₀.os
 bare:AllBare s.gens
 base:Un X.fs X.ex X.H₀ H X.s₀.heap s.heap
 loc:∃m,s.heap.Ns X.env.locals m/\∀(i:Nat) (x:Str) (v:V),X.N[i]? = some x -> Z[i]? = some (some v)->vT X.env.scope x->∃u,jq v u/\mT X.env s.heap m x u
 cell:∀x c,X.env.cells.lookup x=some c->∃v,s.heap.IsCell c v
 free:H X.env.locals=none
 freeC:∀x c,X.env.cells.lookup x=some c->H c=none
 pin:∀p∈X.pn++Y,s.heap.get? p.1=some p.2/\H p.1=none/\p.1≠X.env.locals/\p.1∉X.fs/\∀v,p.2.data ≠ .cell v
 hok:qQ X.prog X.w H s.heap
 len:Z.length=X.N.length
section
variable {X:Cx}{Y:Yb}{Z: List Ys}{H H':Hp}{s:Shared}{h':Heap}
def Cx.Ok.nofr (ok:X.Ok){b:Addr}{o:Obj}(e:X.base.get? b=some o):b∉X.fs:=λa=>by
 have:=(ok.funs.mem a).1
 simp_all
theorem Inv.bs (I:Inv X Y Z H s):∀b o,X.base.get? b=some o->s.heap.get? b=some o/\H b=none:=λb o e =>
 ⟨I.base.keep b o (I.ok.bs b o e).1 (I.ok.bs b o e).2 (I.ok.nofr e) (I.ok.noex b o e),I.base.free b o (I.ok.bs b o e).1 (I.ok.bs b o e).2 (I.ok.noex b o e)⟩
def Inv.bk (I:Inv X Y Z H s):∀b o,X.base.get? b=some o->s.heap.get? b=some o:=λb o e=>(I.bs b o e).1
theorem Inv.mod (I:Inv X Y Z H s):Mod X.K X.mg X.base:=I.ok.mod
def Inv.kIn (I:Inv X Y Z H s):X.K.In s.heap:=I.ok.mod.kin.keeps I.bk
theorem Inv.lt (I:Inv X Y Z H s):X.env.locals<s.heap.objs.size:=let ⟨_,hn,_⟩:=I.loc;hn.lt
def Inv.sz (I:Inv X Y Z H s):X.s₀.heap.objs.size<=s.heap.objs.size:=Zh I.ok.above (Zz I.lt)
def Inv.nofs (I:Inv X Y Z H s){a:Addr}(h:s.heap.objs.size<=a):a∉X.fs:=λb=>by
 obtain⟨_,o,c,_⟩:=I.ok.funs.mem b;exact Zn (Zg (Zk c) (Zh I.sz h)) (Zy _)
def Inv.cne (I:Inv X Y Z H s):∀x c,X.env.cells.lookup x=some c->c≠X.env.locals:=λx c e z=>by
 obtain⟨v,o,d,f⟩:=I.cell x c e;obtain⟨m,⟨g,h,i,a,b,_⟩,_⟩:=I.loc
 simp_all
theorem Inv.funs (I:Inv X Y Z H s):s.heap.FunFrames X.base X.outer:=by
 have all:∀l,(∀b∈frs l,b∈X.fs)->X.s₀.heap.FunFrames X.base l->s.heap.FunFrames X.base l:=by
  intro l
  induction l with
  |nil=>intro _ _;trivial
  |cons env r f =>
   intro c g;obtain⟨h,⟨L,o,i,j,m,n⟩,p⟩:=g;have a:L∈X.fs:=c L (by simp_all [frs,Uv]);obtain⟨q,e⟩:=I.base.slot L o m (I.ok.frf L a) a λz=>I.ok.exfs L z a;exact⟨h,⟨L,_,i,j,e,n⟩,f (λb d=>c b (by simp_all [frs,Uv])) p⟩
 exact all X.outer (λ_ d=>d) I.ok.funs
theorem Inv.stack (I:Inv X Y Z H s):s.heap.FunFrames X.base X.stack:=by
 rcases I.ok.stk with e|⟨e,hf⟩
 .rw[e];exact I.funs
 .rw[e];have ⟨m,a,_⟩:=I.loc;exact .cons (by rw[I.ok.kind];decide) hf a (Heap.get?_none_of_le (Zh I.ok.bsz I.ok.above)) I.funs
def Inv.stkSub (I:Inv X Y Z H s):∀b∈frs X.stack,b∈X.env.locals::X.fs:=λb a=>by
 rcases I.ok.stk with e|⟨e,hf⟩
 .simp_all
 simp_all [frs]
def Inv.stkFree (I:Inv X Y Z H s):∀b∈frs X.stack,H b=none:=λb hb=>by
 rcases Uj.mp (I.stkSub b hb) with e|hb
 .rw[e];exact I.free
 .obtain⟨_,o,a,_⟩:=I.ok.funs.mem hb;exact I.base.free b o a (I.ok.frf b hb) λz=>I.ok.exfs b z hb
def Inv.step {g':Array GenState}{t':Nat}{d':Drawn}{ch:Yi}(I:Inv X Y Z H s)
 (t:∀b∈ch,(b∈X.ex\/X.s₀.heap.objs.size<=b)/\b≠X.env.locals/\(∀x c,X.env.cells.lookup x=some c->c≠b)/\∀p∈X.pn++Y,p.1≠b)
 (keep:∀b o,b≠X.env.locals->b∉X.fs->b∉ch->s.heap.get? b=some o->H b=none->h'.get? b=some o)
 (h:∀b o,b≠X.env.locals->b∈X.fs->b∉ch->s.heap.get? b=some o->H b=none->∃K,h'.get? b=some { o with slots:=K }) (free:∀b o,b∉ch->s.heap.get? b=some o->H b=none->H' b=none)
 (w:∀b o,b∉ch->s.heap.get? b=some o->∃B,h'.get? b=some B)
 (C:∀b xs,H b=some (.tup xs)->H' b=some (.tup xs)) (E:∀b o u,H b=some (.frz o u)->H' b=some (.frz o u)) (P:∀b J,H b=some (.tbl J)->∃F,H' b=some (.tbl (J++F)))
 (ns:∀m,s.heap.Ns X.env.locals m->h'.Ns X.env.locals m) (L:qQ X.prog X.w H' h') (T:AllBare g'):
 Inv X Y Z H' { s with heap:=h',gens:=g',drawn:=d',toks:=t' }:=by
 have G:∀b o,X.s₀.heap.get? b=some o->b≠X.env.locals:=λb o e=>Zi (Zg (Zk e) I.ok.above);have g:∀b o,X.s₀.heap.get? b=some o->b∉X.ex->b∉ch:=λb o e hx y=>by
  rcases(t b y).1 with z|z
  .exact hx z
  .exact Zn (Zg (Zk e) z) (Zy _)
 have a:∀x c,X.env.cells.lookup x=some c->∀v,s.heap.IsCell c v->h'.IsCell c v:=λx c e v U=>by
  obtain⟨o,A,M⟩:=U;have f:c∉ch:=by grind
  by_cases Q:c∈X.fs
  .obtain⟨K,q⟩:=h c o (I.cne x c e) Q f A (I.freeC x c e);exact⟨_,q,M⟩
  .exact⟨o,keep c o (I.cne x c e) Q f A (I.freeC x c e),M⟩
 refine⟨I.ok,I.os,T,⟨λb o e n y hx=>?_,λb o e n y hx=>?_,λb o e n hx=>?_,λb o e hx=>?_,λb xs e=>C b xs (I.base.tups b xs e),λb o xs e=>E b o xs (I.base.frzs b o xs e),λb J e=>?_⟩,?_,λx c e=>?_,?_,λx c e=>?_,λp R=>?_,L,I.len⟩
 .exact keep b o (G b o e) y (g b o e hx) (I.base.keep b o e n y hx) (I.base.free b o e n hx)
 .obtain⟨K,j⟩:=I.base.slot b o e n y hx;obtain⟨N,O⟩:=h b _ (G b o e) y (g b o e hx) j (I.base.free b o e n hx);exact⟨N,O⟩
 .obtain⟨B,j⟩:=I.base.there b o e hx;exact free b B (g b o e hx) j (I.base.free b o e n hx)
 .obtain⟨B,j⟩:=I.base.there b o e hx;exact w b B (g b o e hx) j
 .obtain⟨m1,j⟩:=I.base.tbls b J e
  grind
 .obtain⟨m,hn,hl⟩:=I.loc;refine⟨m,ns m hn,λi x v j O e3=>?_⟩;obtain⟨u,r,l⟩:=hl i x v j O e3;refine⟨u,r,?_⟩;rcases l with l|⟨k,c,e,z⟩
  .exact .inl l
  .exact .inr ⟨k,c,e,a x c e _ z⟩
 .obtain⟨v,z⟩:=I.cell x c e;exact⟨v,a x c e v z⟩
 .obtain⟨m,⟨o,_,_,A,_⟩,_⟩:=I.loc;exact free _ o (λz=>(t _ z).2.1 rfl) A I.free
 .obtain⟨v,o,A,M⟩:=I.cell x c e;exact free c o () A (I.freeC x c e)
 .obtain⟨e,n,ne,S,d⟩:=I.pin p R;have f:=λz=>(t p.1 z).2.2.2 p R rfl;exact⟨keep p.1 p.2 ne S f e n,free p.1 p.2 f e n,ne,S,d⟩
def Inv.un {t':Nat}(I:Inv X Y Z H s)(u:Un X.fs [] H H' s.heap h')(c:qQ X.prog X.w H' h'):Inv X Y Z H' { s with heap:=h',toks:=t' }:=have ⟨m,⟨o,p,q,h,r⟩,_⟩:=id I.loc;have ⟨t,i⟩:=u.any h I.free ();I.step (ch:=[]) () (λb o _ d _ e n=>u.keep b o e n d ()) (λb o _ d _ e n=>u.slot b o e n d ()) (λb o _ e n=>u.free b o e n ()) (λb o _ e=>u.there b o e ()) u.tups u.frzs u.tbls (λv j=>by
 obtain⟨w,f,g,a,l⟩:=j;rw[h] at a;cases a;exact⟨_,f,g,i,l⟩) c I.bare
def Inv.call {g':Array GenState}{t':Nat}{d':Drawn}{ch:Yi}(I:Inv X Y Z H s)(u:Un (frs X.stack) ch H H' s.heap h')(f:qQ X.prog X.w H' h')(q:AllBare g')
 (g:∀b∈ch,(b∈X.ex\/X.s₀.heap.objs.size<=b)/\b≠X.env.locals/\(∀x c,X.env.cells.lookup x=some c->c≠b)/\∀p∈X.pn++Y,p.1≠b):
 Inv X Y Z H' { s with heap:=h',gens:=g',drawn:=d',toks:=t' }:=have ⟨m,⟨o,y,A,l,r⟩,_⟩:=id I.loc;have ⟨B,h⟩:=u.any l I.free ();I.step g (λb o h t a e n=>u.keep b o e n (λz=>(Uj.mp (I.stkSub b z)).elim h t) a) (λb o _ _ a e n=>u.any e n a) (λb o a e n=>u.free b o e n a) (λb o a e=>u.there b o e a) u.tups u.frzs u.tbls (λC v=>by
 obtain⟨E,i,j,d,w⟩:=v;rw[l] at d;cases d;exact⟨_,i,j,h,w⟩) f q
def Inv.turned {t':Nat}{it:Addr}(I:Inv X Y Z H s)(k:∀b o,b≠it->s.heap.get? b=some o->h'.get? b=some o)(j:H it=none)(d:it≠X.env.locals)
 (l:it∈X.ex\/X.s₀.heap.objs.size<=it) (t:∀x c,X.env.cells.lookup x=some c->c≠it) (w:∀p∈X.pn++Y,p.1≠it):Inv X Y Z H { s with heap:=h',toks:=t' }:=by
 refine I.step (ch:=[it]) (λb y=>?_) () (λb o _ _ a e _=>⟨o.slots,k b o (λz=>a (by simp[z])) e⟩) (λ_ _ _ _ n=>n)
  () (λ_ _ e=>e) (λ_ _ _ e=>e) (λb A e=>⟨#[],by rw[e];simp⟩) (λm f=>?_) (λb u e=>?_) I.bare
 .grind
 .have ⟨o,g,h,i,r⟩:=f;exact⟨o,g,h,k _ o (Ne.symm d) i,r⟩
 .refine(I.hok b u e).stay (λc v a q=>k c v ?_ q) (λ_ q=>q) λ_ _ q=>q
  grind
def Inv.tok (I:Inv X Y Z H s)(t):Inv X Y Z H { s with toks:=t }:=I.un Un.refl I.hok
theorem Inv.kept {t':Nat}(I:Inv X Y Z H s)(k:∀b u,s.heap.get? b=some u->h'.get? b=some u):Inv X Y Z H { s with heap:=h',toks:=t' }:=I.un (Un.kept k) (I.hok.kept k)
theorem Inv.laid {a:Addr}{o:HO}{t':Nat}(I:Inv X Y Z H s)(k:∀b u,s.heap.get? b=some u->h'.get? b=some u)(c:s.heap.objs.size<=a)(new:xn X.prog X.w (upd H a o) h' a o):
 Inv X Y Z (upd H a o) { s with heap:=h',toks:=t' }:=I.un (Un.laid k c (I.hok.fresh c)) (I.hok.laid k c new)
theorem Inv.write {x e:Addr}{o:HO}{t':Nat}(I:Inv X Y Z H s)(c:mS (H x))(d:e=x\/H e=some (.own x))(k:∀b u,b≠e->s.heap.get? b=some u->h'.get? b=some u)(a:∃u,h'.get? e=some u)
 (new:xn X.prog X.w (upd H x o) h' x o):Inv X Y Z (upd H x o) { s with heap:=h',toks:=t' }:=I.un (Un.write c d k a) (I.hok.write c d k a new)
def Inv.pins_of {Y':Yb}(I:Inv X Y Z H s)(h:∀p∈Y',s.heap.get? p.1=some p.2/\H p.1=none/\p.1≠X.env.locals/\p.1∉X.fs/\∀v,p.2.data ≠ .cell v):Inv X Y' Z H s:=
 ⟨I.ok,I.os,I.bare,I.base,I.loc,I.cell,I.free,I.freeC,λp a=>(Jc.mp a).elim (λz=>I.pin p ()) (h p),I.hok,I.len⟩
def A2 {N:Yh}(c:N.Nodup){i j:Nat}{x:Str}(a:N[i]? = some x)(b:N[j]? = some x):i=j:=by
 obtain⟨f,d⟩:=Jd.mp a;obtain⟨g,e⟩:=Jd.mp b;exact(List.getElem_inj c).mp (d.trans e.symm)
def HB {M:Model}{A:Around}{E:Ya}{i:Nat}{x:Str}{v:V}{u:Value}{Q:Unit->Yq}(I:Inv X Y Z H s)(hN:X.N.Nodup)(B:X.N[i]? = some x)(hx:yM X.env.scope x)(r:jq v u)
 (h:∀s',Inv X Y (Z.set i (some v)) H s'->(∃a,Heap.SameBut a s.heap s'.heap/\(a=X.env.locals\/X.env.cells.lookup x=some a))->Q Ym s') (hf:X.fn x=true\/X.env.scope.names.lookup x=some .local:=by trivial):wpAny M A (storeName X.env x u) Q E s:=by
 obtain⟨m,R,hl⟩:=id I.loc;have J:(X.env.scope.kind == .class||(X.env.scope.kind == .module&&X.env.locals != X.env.globals))=false:=by rw[I.ok.kind];rfl
 have hiσ: i < Z.length:=by rw[I.len];exact(Jd.mp B).1
 have cne:=I.cne;have g:∀{a:Addr} {h':Heap},(∃o,s.heap.get? a=some o/\H a=none)->Heap.SameBut a s.heap h'->qQ X.prog X.w H h':=λ{a h'} ha f b ob e=>by
  obtain⟨_,_,S⟩:=ha;refine(I.hok b ob e).stay (λc O t q=>(f.2 c ?_).trans q) (λ_ q=>q) λ_ _ q=>q
  grind
 rcases hx with hk|hk
 .refine wpAny_storeName_local hk R (λh' T f=>?_) J;obtain⟨oL,_,_,U,_⟩:=id R;refine h _ ⟨I.ok,I.os,I.bare,⟨λb o e n C hx=>?_,λb o e n C hx=>?_,I.base.free,λb o e hx=>?_,I.base.tups,I.base.frzs,I.base.tbls⟩,⟨_,T,λj y v' l w e3=>?_⟩,λy c e=>?_,I.free,I.freeC,λp hp=>?_,g ⟨oL,U,I.free⟩ f,by simpa using I.len⟩ ⟨_,f,.inl rfl⟩
  .exact(f.2 b (Zi (Zg (Zk e) I.ok.above))).trans (I.base.keep b o e n C hx)
  .obtain⟨sl,l⟩:=I.base.slot b o e n C hx;exact⟨sl,(f.2 b (Zi (Zg (Zk e) I.ok.above))).trans l⟩
  .obtain⟨o',l⟩:=I.base.there b o e hx;exact⟨o',(f.2 b (Zi (Zg (Zk e) I.ok.above))).trans l⟩
  .by_cases F:j=i
   .subst F;rw[B] at l;cases l;rw[Ux hiσ] at w;cases w;exact⟨u,r,.inl ⟨hk,()⟩⟩
   .rw[Zx (Ne.symm F)] at w;obtain⟨u',r',q⟩:=hl j y v' l w e3;refine⟨u',r',?_⟩;rcases q with ⟨k,e⟩|⟨k,c,e,z⟩
    .refine .inl ⟨k,?_⟩;have:y≠x:=λe=>F (A2 hN l (e ▸ B));simp[this,e]
    .exact .inr ⟨k,c,e,z.sameBut f (cne y c e)⟩
  .obtain⟨O,z⟩:=I.cell y c e;exact⟨O,z.sameBut f (cne y c e)⟩
  .obtain⟨e,n,ne,nf,d⟩:=I.pin p hp;exact⟨(f.2 p.1 ne).trans e,n,ne,nf,d⟩
 .have G:X.fn x=true:=by
   rcases hf with z|z
   .exact z
   .rw[z] at hk;cases hk
  obtain⟨c,t⟩:=I.ok.has x (.inl hk);obtain⟨O,z⟩:=I.cell x c t;refine wpAny_storeName_cell I.ok.kind hk t z (λh' K f=>?_);obtain⟨oc,L,hocd⟩:=id z;refine h { s with heap:=h' } ⟨I.ok,I.os,I.bare,⟨λb o e n C hx=>?_,λb o e n C hx=>?_,I.base.free,λb o e hx=>?_,I.base.tups,I.base.frzs,I.base.tbls⟩,⟨m,R.sameBut f (Ne.symm (cne x c t)),λj y v' l w e3=>?_⟩,λy P e=>?_,I.free,I.freeC,λp hp=>?_,g ⟨oc,L,I.freeC x c t⟩ f,by simpa using I.len⟩ ⟨c,f,.inr t⟩
  .exact(f.2 b (Zi (Zg (Zk e) (I.ok.cab x c G t)))).trans (I.base.keep b o e n C hx)
  .obtain⟨sl,l⟩:=I.base.slot b o e n C hx;exact⟨sl,(f.2 b (Zi (Zg (Zk e) (I.ok.cab x c G t)))).trans l⟩
  .obtain⟨o',l⟩:=I.base.there b o e hx;exact⟨o',(f.2 b (Zi (Zg (Zk e) (I.ok.cab x c G t)))).trans l⟩
  .by_cases F:j=i
   .subst F;rw[B] at l;cases l;rw[Ux hiσ] at w;cases w;exact⟨u,r,.inr ⟨.inl hk,c,t,K⟩⟩
   .rw[Zx (Ne.symm F)] at w;obtain⟨u',r',q⟩:=hl j y v' l w e3;refine⟨u',r',?_⟩;rcases q with q|⟨k,P,e,z'⟩
    .exact .inl q
    .refine .inr ⟨k,P,e,z'.sameBut f ?_⟩;rintro rfl;exact F (A2 hN l (I.ok.inj _ _ _ e t ▸ B))
  .by_cases N:P=c
   .subst N;exact⟨_,K⟩
   .obtain⟨w2,z2⟩:=I.cell y P e;exact⟨w2,z2.sameBut f N⟩
  .obtain⟨e,n,ne,nf,d⟩:=I.pin p hp;refine⟨(f.2 p.1 ?_).trans e,n,ne,nf,d⟩;intro q;rw[q,L] at e;have q':=Zqi e;exact d O (by rwa [<- q'])
def Xg {M:Model}{A:Around}{E:Ya}{i:Nat}{x:Str}{v:V}{u:Value}{Q:Unit->Yq}(I:Inv X Y Z H s)(a:X.N.Nodup)(b:X.N[i]? = some x)(hx:yM X.env.scope x)(r:jq v u)
 (h:∀s',Inv X Y (Z.set i (some v)) H s'->Q Ym s') (c:X.fn x=true\/X.env.scope.names.lookup x=some .local:=by trivial):wpAny M A (storeName X.env x u) Q E s:=
 HB I a b hx r (λs' d _=>h s' d) c
def Inv.call' {s':Shared}{ch:Yi}(I:Inv X Y Z H s)(e:s'.os=s.os)(u:Un (frs X.stack) ch H H' s.heap s'.heap)(a:qQ X.prog X.w H' s'.heap)(f:AllBare s'.gens)
 (d:∀b∈ch,(b∈X.ex\/X.s₀.heap.objs.size<=b)/\b≠X.env.locals/\(∀x c,X.env.cells.lookup x=some c->c≠b)/\∀p∈X.pn++Y,p.1≠b):Inv X Y Z H' s':=by
 obtain⟨h',g',d',t',g⟩:=s';subst e;exact I.call u a f d
end
abbrev XK:=Value->Option Addr->Hp->Prop
abbrev St:=List Ys
abbrev VK:=V->Hp->Prop
abbrev TE:=St->Hp->VK->Prop
abbrev TT:=St->Hp->(Bool->Hp->Prop)->Prop
abbrev TA:=St->Hp->(Yr->Hp->Prop)->Prop
structure Ends where
 nx:St->Hp->Prop
 rt:VK
 bk:St->Hp->Prop:=λ_ _=>False
 ct:St->Hp->Prop:=λ_ _=>False
abbrev TS:=Ends->St->Hp->Prop
def EP (X:Cx)(Y:Yb)(Z: St)(Q:VK)(u:Value)(s':Shared):Prop:=∃v a,Inv X Y Z a s'/\jq v u/\Q v a
def TP (X:Cx)(Y:Yb)(Z: St)(Q:Bool->Hp->Prop)(b:Bool)(s':Shared):Prop:=∃a,Inv X Y Z a s'/\Q b a
def AP (X:Cx)(Y:Yb)(Z: St)(Q:Yr->Hp->Prop)(c:Yd)(s':Shared):Prop:=∃a b,Inv X Y Z b s'/\js a c/\Q a b
def SP (X:Cx)(Y:Yb)(D:Ends)(f:Flow)(s':Shared):Prop:=
 match f with
 | .next=>∃b a,Inv X Y b a s'/\D.nx b a
 | .brk=>∃b a,Inv X Y b a s'/\D.bk b a
 | .cont=>∃b a,Inv X Y b a s'/\D.ct b a
 | .ret u=>∃v b a,Inv X Y b a s'/\jq v u/\D.rt v a
def PE (X:Cx)(e:Expr)(t:TE):Prop:=
 ∀(Y:Yb) (s:Shared) (Z: St) (H:Hp) (Q:VK),Inv X Y Z H s->t Z H Q->Yv X (eval e X.env) (EP X Y Z Q) X.xe s
def PT (X:Cx)(e:Expr)(t:TT):Prop:=
 ∀(Y:Yb) (s:Shared) (Z: St) (H:Hp) (Q:Bool->Hp->Prop),Inv X Y Z H s->t Z H Q->Yv X (isTrue e X.env (eval e X.env)) (TP X Y Z Q) X.xe s
def PW (X:Cx)(e:Expr)(t:TT):Prop:=
 ∀(a:Sem Value) (Y:Yb) (s:Shared) (Z: St) (H:Hp) (Q:Bool->Hp->Prop),Inv X Y Z H s->t Z H Q->Yv X (isTrue e X.env a) (TP X Y Z Q) X.xe s
def mQ {X:Cx}{e:Expr}{t:TT}(h:PW X e t):PT X e t:=h _
def PA (X:Cx)(b:Yj)(t:TA):Prop:=
 ∀(a:Pos) (Y:Yb) (s:Shared) (Z: St) (H:Hp) (Q:Yr->Hp->Prop),Inv X Y Z H s->t Z H Q->Yv X (spliced (backTo a (starEach b X.env))) (AP X Y Z Q) X.xe s
def PS (X:Cx)(st:Stmt)(t:TS):Prop:=
 ∀(Y:Yb) (s:Shared) (Z: St) (H:Hp) (D:Ends),Inv X Y Z H s->t D Z H->Yv X (exec st X.env) (SP X Y D) X.xe s
def qY (X:Cx)(st:List Stmt)(t:TS):Prop:=
 ∀(Y:Yb) (s:Shared) (Z: St) (H:Hp) (D:Ends),Inv X Y Z H s->t D Z H->Yv X (execs st X.env) (SP X Y D) X.xe s
def j5 {α: Type}{t:Sem α}{Q b: α -> Yq}{M:Model}{A:Around}{E:Ya}{s:Shared}(h:wpAny M A t Q E s)(c:∀a s,Q a s->b a s):wpAny M A t b E s:=Zc h c λ_ _ x=>x
section
variable {X:Cx}
def xS (i:Nat):TE:=λZ H Q=>∃v,Z[i]? = some (some v)/\Q v H
def tC (v:V):TE:=λ_ H Q=>Q v H
def HC {i:Nat}{x:Str}{d:Pos}(n:X.N[i]? = some x)(o:vT X.env.scope x)(f:(x == ("__debug__" : Str))=false:=by decide)(g:(x == ("__classdict__" : Str))=false:=by decide):PE X (.Name x d) (xS i):=by
 intro Y s Z H Q I h;obtain⟨v,e,h⟩:=h;obtain⟨m,p,q⟩:=I.loc;obtain⟨u,r,l⟩:=q i x v n e o;have b:EP X Y Z Q u s:=⟨v,H,I,r,h⟩;rcases l with ⟨hk,t⟩|⟨hk,c,j,a⟩
 .exact wpAny_Name (wpAny_loadName_local I.ok.kind hk p t b) f
 .rcases hk with hk|hk
  .exact wpAny_Name (wpAny_loadName_cell I.ok.kind hk j a b) f
  .exact wpAny_Name (wpAny_loadName_free I.ok.kind hk j a b g) f
def HD {i j pos}:PE X (.Constant (.int i) j pos) (tC (.int i)):=λ_ _ _ H _ I h=>wpAny_Constant_int ⟨.int i,H,I.tok _,⟨_,rfl⟩,h⟩
def gc {b j pos}:PE X (.Constant (.bool b) j pos) (tC (.bl b)):=λ_ _ _ H _ I h=>Constant_bool ⟨.bl b,H,I,rfl,h⟩
def HE {j pos}:PE X (.Constant .none j pos) (tC .non):=λ_ _ _ H _ I h=>Constant_none ⟨.non,H,I,rfl,h⟩
def CH {x j pos}:PE X (.Constant (.str x) j pos) (tC (.str x)):=λ_ _ _ H _ I h=>Calls.Constant_str ⟨.str x,H,I.tok _,⟨_,rfl⟩,h⟩
def Gl (X:Cx)(x:Str):Prop:=X.env.kindOf x=some .globalImplicit
def V0 {E:Ya}{Y:Yb}{s:Shared}{Z: St}{H:Hp}{x:Str}{u:Value}{a:Pos}{Q:Ya}(I:Inv X Y Z H s)(b:Gl X x)(c:X.mg x=some u)(h:Q u s)
 (d:(x == ("__debug__" : Str))=false:=by decide):Yv X (eval (.Name x a) X.env) Q E s:=
 Calls.Name_function_global I.ok.kind b (Calls.loadGlobal_global (by rw[I.ok.glob];exact I.mod.glob.keeps I.bk) c h) d
def VY {E:Ya}{Y:Yb}{s:Shared}{Z: St}{H:Hp}{x:Str}{u:Value}{a:Pos}{Q:Ya}(I:Inv X Y Z H s)(b:Gl X x)(c:X.mg x=none)(d:bootBuiltins x=some u)(h:Q u s)
 (e:x ≠ "__name__" := by decide) (f:(x == ("__debug__" : Str))=false:=by decide):Yv X (eval (.Name x a) X.env) Q E s:=by
 obtain⟨j,g,i⟩:=I.mod.blt;exact Calls.Name_function_global I.ok.kind b (Calls.loadGlobal_builtin (by rw[I.ok.glob];exact I.mod.glob.keeps I.bk) c (by rw[I.ok.blt];exact g.keeps I.bk) ((i x e).trans d) h) f
def CI {x:Str}{v:V}{u:Value}{a:Pos}(b:Gl X x)(c:X.mg x=some u)(r:jq v u)(d:(x == ("__debug__" : Str))=false:=by decide):PE X (.Name x a) (tC v):=
 λ_ _ _ H _ I h=>V0 I b c ⟨v,H,I,r,h⟩ d
def HF {x:Str}{v:V}{u:Value}{a:Pos}(b:Gl X x)(c:X.mg x=none)(d:bootBuiltins x=some u)(r:jq v u)(e:x ≠ "__name__" := by decide)(f:(x == ("__debug__" : Str))=false:=by decide):PE X (.Name x a) (tC v):=
 λ_ _ _ H _ I h=>VY I b c d ⟨v,H,I,r,h⟩ e f
variable {a b:Expr}{ta tb:TE}{pos:Pos}
def PC (X:Cx)(c:CmpOp)(a b:Expr)(t:TE):Prop:=
 ∀(Y:Yb) (s:Shared) (Z: St) (H:Hp) (Q:VK),Inv X Y Z H s->t Z H Q ->
  Yv X (eval a X.env) (λv s₁=>Yv X (eval b X.env) (λu s₂=>Yv X (compareOp c v u) (EP X Y Z Q) X.xe s₂) X.xe s₁) X.xe s
def CJ (b){c:CmpOp}(h:c ≠ .In)(d:c ≠ .NotIn):behindInMarks c b=false:=by
 cases b<;>first|rfl|(show(_&&(_||_)&&_)=false;simp_all)
def uV (ta:TE):TE:=λZ H Q=>ta Z H λx c=>Q (.bl (decide (x=.non))) c
def CK (ta:TE):TE:=λZ H Q=>ta Z H λx c=>Q (.bl (!decide (x=.non))) c
def jq.none_iff {x:V}{v:Value}(r:jq x v):(v == Value.none)=decide (x=.non):=by
 cases x with
 |non=>cases r;rfl
 |bl _=>cases r;rfl
 |int _=>obtain⟨t,rfl⟩:=r;rfl
 |str _=>obtain⟨t,rfl⟩:=r;rfl
 |byt _=>obtain⟨t,rfl⟩:=r;rfl
 |flt _=>obtain⟨t,rfl⟩:=r;rfl
 |ref _=>cases r;rfl
 |ty _=>cases r;rfl
def CL {j pos'}(c:PE X a ta):PC X .Is a (.Constant .none j pos') (uV ta):=λY s Z H Q I h=>j5 (c Y s Z H _ I h) λv i ⟨x,d,e,f,g⟩=>(Constant_none (is_none_gen ⟨.bl _,d,e,by rw[f.none_iff];rfl,g⟩))
def HG {j pos'}(c:PE X a ta):PC X .IsNot a (.Constant .none j pos') (CK ta):=λY s Z H Q I h=>j5 (c Y s Z H _ I h) λv i ⟨x,d,e,f,g⟩=>(Constant_none (isnot_none_gen ⟨.bl _,d,e,by rw[f.none_iff];rfl,g⟩))
def tB (t:TE):TT:=λZ H Q=>t Z H λx d=>∃c,x=.bl c/\Q c d
def CM {c:CmpOp}{t:TE}(h:PC X c a b t)(d:behindInMarks c b=false:=by first|exact CJ _ (by decide) (by decide)|rfl):PE X (.Compare a [c] [b] pos) t:=λY s Z H Q I hw=>wpAny_Compare1 (h Y s Z H Q I hw) d
def YC {e:CmpOp}{t:TE}(h:PC X e a b t)(f:behindInMarks e b=false:=by first|exact CJ _ (by decide) (by decide)|rfl):PT X (.Compare a [e] [b] pos) (tB t):=by
 intro Y s Z H Q I hw;refine wpAny_isTrue_Compare1 (j5 (h Y s Z H _ I hw) λv n f=>j5 f λu o g=>j5 g λc p ⟨x,i,j,l,m⟩=>?_) f;obtain⟨d,rfl,q⟩:=m;cases l;exact wpAny_truthy_bool ⟨i,j,q⟩
def CN {e:Expr}{t:TE}(h:PE X e t)(f:∀c,isTrue e X.env c=(do let v <- c;standAt e.pos;holding [v] (truthy v)):=by intro _;rfl):PT X e (tB t):=by
 intro Y s Z H Q I hw;refine isTrue_plain (j5 (h Y s Z H _ I hw) λv m ⟨x,g,i,j,l⟩=>?_) (f _);obtain⟨d,rfl,q⟩:=l;cases j;exact wpAny_truthy_bool ⟨g,i,q⟩
variable {tA tB':TT}{rest:Yj}
def tK (t u:TT):TT:=λZ H Q=>t Z H λc d=>if c=true then u Z d Q else Q false d
def pF (t u:TT):TT:=λZ H Q=>t Z H λc d=>if c=true then Q true d else u Z d Q
def t5 (t:TT):TT:=λZ H Q=>t Z H λc d=>Q (!c) d
def HH (d:PT X a tA):PW X (.BoolOp .And [a] pos) tA:=by
 intro f Y s Z H Q I h;refine isTrue_and (j5 (d Y s Z H Q I h) λc g e=>?_)
 grind[isTrue_and_nil]
def HI (d:PT X a tA):PW X (.BoolOp .Or [a] pos) tA:=by
 intro f Y s Z H Q I h;refine isTrue_or (j5 (d Y s Z H Q I h) λc g e=>?_)
 grind[isTrue_or_nil]
def HJ (g:PT X a tA)(i:PW X (.BoolOp .And (b::rest) pos) tB'):PW X (.BoolOp .And (a::b::rest) pos) (tK tA tB'):=by
 intro j Y s Z H Q I h;refine isTrue_and (j5 (g Y s Z H _ I h) λc l ⟨d,e,f⟩=>?_);cases c with
 |true=>exact i j Y l Z d Q e f
 |false=>exact⟨d,e,f⟩
def kW (g:PT X a tA)(i:PW X (.BoolOp .Or (b::rest) pos) tB'):PW X (.BoolOp .Or (a::b::rest) pos) (pF tA tB'):=by
 intro j Y s Z H Q I h;refine isTrue_or (j5 (g Y s Z H _ I h) λc l ⟨d,e,f⟩=>?_);cases c with
 |true=>exact⟨d,e,f⟩
 |false=>exact i j Y l Z d Q e f
def CO (d:PT X a tA):PT X (.UnaryOp .Not a pos) (t5 tA):=λY s Z H Q I h=>isTrue_not (d Y s Z H (λc e=>Q (!c) e) I h)
def kd (ta tb:TE):TE:=λZ H Q=>ta Z H λx d=>∃c,x=.bl c/\if c=true then tb Z d Q else Q (.bl false) d
def t4 (ta tb:TE):TE:=λZ H Q=>ta Z H λx d=>∃c,x=.bl c/\if c=true then Q (.bl true) d else tb Z d Q
def uR (ta:TE):TE:=λZ H Q=>ta Z H λx d=>∃c,x=.bl c/\Q (.bl (!c)) d
def CP {op}{t:TE}(h:PE X a t):PE X (.BoolOp op [a] pos) t:=λY s Z H Q I hw=>BoolOp_one (h Y s Z H Q I hw)
def CQ (g:PE X a ta)(i:PE X (.BoolOp .And (b::rest) pos) tb):PE X (.BoolOp .And (a::b::rest) pos) (kd ta tb):=by
 intro Y s Z H Q I h;refine BoolOp_and (j5 (g Y s Z H _ I h) λv j ⟨x,e,f,l,d⟩=>?_);obtain⟨c,rfl,d⟩:=d;cases l;refine wpAny_truthy_bool ?_;cases c with
 |true=>exact i Y j Z e Q f d
 |false=>exact⟨.bl false,e,f,rfl,d⟩
def kZ (g:PE X a ta)(i:PE X (.BoolOp .Or (b::rest) pos) tb):PE X (.BoolOp .Or (a::b::rest) pos) (t4 ta tb):=by
 intro Y s Z H Q I h;refine BoolOp_or (j5 (g Y s Z H _ I h) λv j ⟨x,e,f,l,d⟩=>?_);obtain⟨c,rfl,d⟩:=d;cases l;refine wpAny_truthy_bool ?_;cases c with
 |false=>exact i Y j Z e Q f d
 |true=>exact⟨.bl true,e,f,rfl,d⟩
def HK (e:PE X a ta):PE X (.UnaryOp .Not a pos) (uR ta):=by
 intro Y s Z H Q I h;refine UnaryOp_ (j5 (e Y s Z H _ I h) λv j ⟨x,f,g,i,d⟩=>?_);obtain⟨c,rfl,d⟩:=d;cases i;exact not_of (wpAny_truthy_bool ⟨.bl (!c),f,g,rfl,d⟩)
def pG (t:TT)(ta tb:TE):TE:=λZ H Q=>t Z H λc d=>if c=true then ta Z d Q else tb Z d Q
def HL {c:Expr}(j:PT X c tA)(l:PE X a ta)(m:PE X b tb):PE X (.IfExp c a b pos) (pG tA ta tb):=by
 intro Y s Z H Q I h;refine wpAny_IfExp (j5 (j Y s Z H _ I h) λd e ⟨f,g,i⟩=>?_);cases d with
 |true=>exact l Y e Z f Q g i
 |false=>exact m Y e Z f Q g i
end
def qC (K:W.Frag)(H:Hp)(a:Addr)(xs:Yr):Prop:=
 Rd H a (.lst xs) \/
  ∃(o:Obj) (b:Yk) (n:Nat),K.lookup a=some o/\o.cls=.type "list" /\ o.dict=none/\o.data=.seq b n/\b.size<=sizeLine/\js xs b.toList
def xJ (K:W.Frag)(H:Hp)(a:Addr)(xs:Yr):Prop:=
 Rd H a (.tup xs) \/
  ∃(o:Obj) (b:Yk) (n:Nat),K.lookup a=some o/\o.cls=.type "tuple" /\ o.data=.seq b n/\b.size<=sizeLine/\js xs b.toList
def c9:Value->Ys
 | .none=>some .non
 | .bool b=>some (.bl b)
 | .int i _=>some (.int i)
 | .str x _=>some (.str x)
 | .bytes b _=>some (.byt b)
 | .float b _=>some (.flt b)
 | .ref a=>some (.ref a)
 | .type n=>some (.ty n)
 |_=>none
def jq.abs {x:V}{u:Value}(r:jq x u):c9 u=some x:=by
 cases x with
 |non=>cases r;rfl
 |bl _=>cases r;rfl
 |int _=>obtain⟨t,rfl⟩:=r;rfl
 |str _=>obtain⟨t,rfl⟩:=r;rfl
 |byt _=>obtain⟨t,rfl⟩:=r;rfl
 |flt _=>obtain⟨t,rfl⟩:=r;rfl
 |ref _=>cases r;rfl
 |ty _=>cases r;rfl
def jq.inj {x y:V}{u:Value}(r:jq x u)(q:jq y u):x=y:=Zqi (r.abs.symm.trans q.abs)
theorem js.inj:∀{xs a:Yr} {b:Yd},js xs b->js a b->xs=a:=λ{xs a b} g h=>by
 induction g generalizing a with
 |nil=>cases h;rfl
 |cons r _ c =>
  cases h with
  |cons d t'=>rw[r.inj d,c t']
section
variable {X:Cx}{Y:Yb}{Z: St}{H:Hp}{s:Shared}{a:Addr}{xs ys:Yr}
def qC.of {K:W.Frag}(h:H a=some (.lst xs)):qC K H a xs:=.inl (.inl h)
def xJ.of {K:W.Frag}(h:H a=some (.tup xs)):xJ K H a xs:=.inl (.inl h)
def Inv.list (I:Inv X Y Z H s)(h:qC X.K H a xs):∃b:Yd,js xs b/\PlainL s.heap a b.toArray/\xs.length<=sizeLine:=by
 rcases h with h|⟨o,b,n,hk,hc,hd,hs,hz,r⟩
 .obtain⟨z,b,n,r,e⟩:=h.ok I.hok;exact⟨b,r,⟨_,n,e,rfl,rfl,rfl⟩,z⟩
 .refine⟨b.toList,r,⟨o,n,I.kIn a o hk,hc,hd,()⟩,?_⟩;have e:=r.length
  simp_all
def Inv.tuple (I:Inv X Y Z H s)(h:xJ X.K H a xs):∃b:Yd,js xs b/\IsTup s.heap a b.toArray/\xs.length<=sizeLine:=by
 rcases h with h|⟨o,b,n,hk,hc,hs,hz,r⟩
 .obtain⟨z,b,r,p⟩:=h.ok I.hok;exact⟨b,r,p,z.1⟩
 .refine⟨b.toList,r,⟨o,I.kIn a o hk,hc,n,()⟩,?_⟩;have e:=r.length
  simp_all
def Inv.list_inj (I:Inv X Y Z H s)(h:qC X.K H a xs)(h':qC X.K H a ys):xs=ys:=by
 obtain⟨c,r,⟨o,n,e,_,_,d⟩,_⟩:=I.list h;obtain⟨b,f,⟨g,i,j,_,_,d'⟩,_⟩:=I.list h';have:c=b:=by simp_all
 subst this;exact r.inj f
def Inv.tuple_inj (I:Inv X Y Z H s)(h:xJ X.K H a xs)(h':xJ X.K H a ys):xs=ys:=by
 obtain⟨c,r,⟨o,e,_,n,d⟩,_⟩:=I.tuple h;obtain⟨b,f,⟨g,i,_,j,d'⟩,_⟩:=I.tuple h';have:c=b:=by simp_all
 subst this;exact r.inj f
end
abbrev Cx.wish (X:Cx)(E:Ya):Cx:={ X with xe:=E }
abbrev Cx.nox (X:Cx):Cx:=X.wish λ_ _=>False
theorem Cx.Ok.wish {X:Cx}(ok:X.Ok)(E:Ya):(X.wish E).Ok:=
 ⟨ok.mod,ok.kind,ok.glob,ok.blt,ok.above,ok.inj,ok.has,ok.cab,ok.hd,ok.frames,ok.stk,ok.exf,ok.bs,ok.bsz,ok.noex,ok.exfs,ok.funs,ok.frf⟩
def Cx.Ok.unwish {X:Cx}{E:Ya}(ok:(X.wish E).Ok):X.Ok:=
 ⟨ok.mod,ok.kind,ok.glob,ok.blt,ok.above,ok.inj,ok.has,ok.cab,ok.hd,ok.frames,ok.stk,ok.exf,ok.bs,ok.bsz,ok.noex,ok.exfs,ok.funs,ok.frf⟩
section
variable {X:Cx}{Y:Yb}{Z: St}{H:Hp}{s:Shared}{E:Ya}
theorem Inv.wish (I:Inv X Y Z H s)(E):Inv (X.wish E) Y Z H s:=⟨I.ok.wish E,I.os,I.bare,I.base,I.loc,I.cell,I.free,I.freeC,I.pin,I.hok,I.len⟩
theorem Inv.unwish (I:Inv (X.wish E) Y Z H s):Inv X Y Z H s:=⟨I.ok.unwish,I.os,I.bare,I.base,I.loc,I.cell,I.free,I.freeC,I.pin,I.hok,I.len⟩
theorem SP.unwish {D:Ends}{f:Flow}{s':Shared}(h:SP (X.wish E) Y D f s'):SP X Y D f s':=by
 cases f with
 |next=>obtain⟨a,b,I,q⟩:=h;exact⟨a,b,I.unwish,q⟩
 |brk=>obtain⟨a,b,I,q⟩:=h;exact⟨a,b,I.unwish,q⟩
 |cont=>obtain⟨a,b,I,q⟩:=h;exact⟨a,b,I.unwish,q⟩
 |ret u=>obtain⟨v,a,b,I,r,q⟩:=h;exact⟨v,a,b,I.unwish,r,q⟩
theorem qY.nox {st:List Stmt}{t:TS}(h:qY X.nox st t):qY X st t:=λY s Z H D I hw =>
 Zc (h Y s Z H D (I.wish _) hw) (λ_ _ q=>q.unwish) ()
end
section
variable {X:Cx}{st:Stmt}{rest:List Stmt}{t u:TS}{e:Expr}{te:TE}{pos:Pos}
def uT:TS:=λD Z H=>D.nx Z H
def tz (t u:TS):TS:=λD Z H=>t { D with nx:=u D } Z H
def A3:qY X [] uT:=λ_ _ Z H _ I h=>wpAny_execs_nil ⟨Z,H,I,h⟩
def A4 (a:PS X st t)(b:qY X rest u):qY X (st::rest) (tz t u):=by
 intro Y s Z H D I h;refine wpAny_execs_cons (j5 (a Y s Z H { D with nx:=u D } I h) λf c q=>?_);cases f with
 |next =>
  obtain⟨d,g,i,q⟩:=q;exact b Y c d g D i q
 |ret v=>exact q
 |brk=>exact q
 |cont=>exact q
def YD (a:PS X st t):qY X [st] t:=by
 intro Y s Z H D I h;refine wpAny_execs_cons (j5 (a Y s Z H D I h) λf b q=>?_)
 grind[wpAny_execs_nil]
def Inv.quiet {Y:Yb}{Z: St}{H:Hp}{s:Shared}(I:Inv X Y Z H s):interactive X.env=false:=by simp[interactive,I.ok.kind]
def uW (te:TE):TS:=λD Z H=>te Z H λ_ a=>D.nx Z a
def YE (a:PE X e te)(b:swapsWith e none pos.line X.env=pure false:=by rfl):PS X (.Expr e pos) (uW te):=λY s Z H D I h=>wpAny_Expr_any (j5 (a Y s Z H _ I h) λv g ⟨x,c,d,i,f⟩=>⟨Z,c,d,f⟩) I.quiet b
def t0 (te:TE):TS:=λD Z H=>te Z H D.rt
def YF (a:PE X e te):PS X (.Return (some e) pos) (t0 te):=λY s Z H D I h=>wpAny_Return_some (j5 (a Y s Z H _ I h) λv g ⟨x,b,c,d,f⟩=>⟨x,Z,b,c,d,f⟩)
def t7 (c:TT)(t u:TS):TS:=λD Z H=>c Z H λb a=>if b=true then t D Z a else u D Z a
def CS {c:Expr}{a b:List Stmt}{f:TT}(m:PT X c f)(n:qY X a t)(o:qY X b u):PS X (.If c a b pos) (t7 f t u):=by
 intro Y s Z H D I h;refine wpAny_If (j5 (m Y s Z H _ I h) λd g ⟨i,j,l⟩=>?_);cases d with
 |true=>exact n Y g Z i D j l
 |false=>exact o Y g Z i D j l
end
abbrev TG:=V->St->Hp->(St->Hp->Prop)->Prop
abbrev vc:=Yr->St->Hp->(St->Hp->Prop)->Prop
def PG (X:Cx)(a:Expr)(t:TG):Prop:=
 ∀(Y:Yb) (s:Shared) (Z: St) (H:Hp) (v:V) (u:Value) (Q:St->Hp->Prop),Inv X Y Z H s->jq v u->t v Z H Q ->
  Yv X (assign a X.env u) (λ_ s'=>∃b c,Inv X Y b c s'/\Q b c) X.xe s
def sN (X:Cx)(ts:Yj)(t:vc):Prop:=
 ∀(Y:Yb) (s:Shared) (Z: St) (H:Hp) (a:Yr) (b:Yd) (Q:St->Hp->Prop),Inv X Y Z H s->js a b->t a Z H Q ->
  Yv X (assignInOrder ((assignEach ts X.env).map (·.2)) b) (λ_ s'=>∃c d,Inv X Y c d s'/\Q c d) X.xe s
abbrev sM:=V->V->Hp->VK->Prop
def pr (X:Cx)(a:Operator)(t:sM):Prop:=
 ∀(Y:Yb) (s:Shared) (Z: St) (H:Hp) (x y:V) (v u:Value) (Q:VK),Inv X Y Z H s->jq x v->jq y u->t x y H Q ->
  Yv X (inplaceOp a v u) (EP X Y Z Q) X.xe s
section
variable {X:Cx}{pos:Pos}
def KP (i:Nat):TG:=λv Z H Q=>Q (Z.set i (some v)) H
def Qb {i:Nat}{x:Str}(a:X.N.Nodup)(b:X.N[i]? = some x)(hx:yM X.env.scope x)(c:X.fn x=true\/X.env.scope.names.lookup x=some .local:=by trivial):PG X (.Name x pos) (KP i):=λY s Z H v u Q I r h=>wpAny_assign_Name (Xg I a b hx r (λs' d=>⟨_,H,d,h⟩) c)
def fA:vc:=λa Z H Q=>a=[]/\Q Z H
def CT (t:TG)(u:vc):vc:=λa Z H Q=>∃v r,a=v::r/\t v Z H λb c=>u r b c Q
def Ks:sN X [] fA:=λY s Z H a b Q I r h=>have ⟨e,h⟩:=h;assignInOrder_nil ⟨Z,H,I,h⟩
def JY {e:Expr}{a:Yj}{t:TG}{u:vc}(b:PG X e t)(c:sN X a u)
 (d:(assignEach (e::a) X.env).map (·.2)=assign e X.env::(assignEach a X.env).map (·.2):=by rfl):sN X (e::a) (CT t u):=by
 intro Y s Z H o p Q I r h;obtain⟨v,q,f,h⟩:=h;subst f;cases r with
 |cons r g =>
  rw[d];exact assignInOrder_cons (j5 (b Y s Z H _ _ _ I r h) λ_ i ⟨j,l,m,n⟩=>(c Y i j l _ _ Q m g n))
def f4 (K:W.Frag)(n:Nat)(t:vc):TG:=λv Z H Q=>∃a xs,v=.ref a/\xJ K H a xs/\xs.length=n/\t xs Z H Q
def Kt {c:Yj}{k:Nat}{t:vc}{n:Nat}(f:X.calm=true)(h:sN X c t)
 (g:(assignEach c X.env).length=n:=by rfl) (d:(assignEach c X.env).findIdx? (·.1)=none:=by rfl):PG X (.Tuple c k pos) (f4 X.K n t):=by
 intro Y s Z H v u Q I r hw;obtain⟨a,xs,i,j,l,hw⟩:=hw;subst i;cases r;obtain⟨m,p,q,x⟩:=I.tuple j;refine assign_Tuple_tuple (I.ok.hd f) q (by simp[g,<- l,p.length]) d λh' hx=>?_;have w:Inv X Y Z H { s with heap:=h' }:=I.kept λb o e=>hx b o (Zi (Zk e)) e;exact h Y _ Z H xs _ Q w () hw
def z3 (te:TE)(g:TG):TS:=λD Z H=>te Z H λx a=>g x Z a D.nx
def A5 {i:Nat}{x:Str}{e:Expr}{te:TE}{a:Pos}(b:X.N.Nodup)(c:X.N[i]? = some x)(hx:yM X.env.scope x)(d:PE X e te)(f:swapsWith e (some (.Name x a)) pos.line X.env=pure false:=by rfl)(g:X.fn x=true\/X.env.scope.names.lookup x=some .local:=by trivial):
 PS X (.Assign [.Name x a] e pos) (z3 te (KP i)):=λY s Z H D I h=>wpAny_Assign_Name (j5 (d Y s Z H _ I h) λv p ⟨y,j,l,m,n⟩=>(Xg l b c hx m (λq o=>⟨_,j,o,n⟩) g)) f
def tJ (i:Nat)(te:TE)(a:sM):TS:=λD Z H=>∃x,Z[i]? = some (some x)/\te Z H λy b=>a x y b λz c=>D.nx (Z.set i (some z)) c
def HM {i:Nat}{x:Str}{e:Expr}{te:TE}{d:Operator}{g:sM}{b:Pos}(n:X.N.Nodup)(j:X.N[i]? = some x)(hx:yM X.env.scope x)(o:PE X e te)(p:pr X d g)(q:X.fn x=true\/X.env.scope.names.lookup x=some .local:=by trivial):
 PS X (.AugAssign (.Name x b) d e pos) (tJ i te g):=by
 intro Y s Z H D I h;obtain⟨v,t,h⟩:=h;obtain⟨m,A,B⟩:=I.loc;have f:vT X.env.scope x:=by rcases hx with k|k;exact .inl k;exact .inr (.inl k)
 obtain⟨u,r,l⟩:=B i x v j t f;refine wpAny_AugAssign_Name ?_;have go:Yv X (eval e X.env) (λw s₂=>Yv X (inplaceOp d u w) (λr s₃=>Yv X (storeName X.env x r) (λ_=>SP X Y D .next) X.xe s₃) X.xe s₂) X.xe s:=by
  refine j5 (o Y s Z H _ I h) λw C ⟨y,E,F,G,J⟩=>?_;refine j5 (p Y C Z E v y u w _ F r G J) λz R ⟨S,K,L,M,N⟩=>?_;exact Xg L n j hx M (λT O=>⟨_,K,O,N⟩) q
 rcases l with ⟨hk,P⟩|⟨hk,c,Q,a⟩
 .exact wpAny_loadName_local I.ok.kind hk A P go
 .rcases hk with hk|hk
  .exact wpAny_loadName_cell I.ok.kind hk Q a go
  .rcases hx with k|k
   .have:X.env.scope.names.lookup x=some .free:=hk;rw[k] at this;cases this
   .have:X.env.scope.names.lookup x=some .free:=hk;rw[k] at this;cases this
def lg (f:Int->Int->Int):sM:=λx y H Q=>∃i j,x=.int i/\y=.int j/\Q (.int (f i j)) H
def HN:pr X .Add (lg λi j=>i+j):=by
 intro Y s Z H x y v u Q I a b h;obtain⟨i,j,c,d,q⟩:=h;subst c;subst d;obtain⟨t,rfl⟩:=a;obtain⟨t',rfl⟩:=b;exact iadd_int ⟨.int _,H,I.tok _,⟨_,rfl⟩,q⟩
end
section
variable {X:Cx}{pos:Pos}
def HQ (c:TT)(g:TS):TS:=λD Z H=>∃W:Nat->St->Hp->Prop,(∃m,W m Z H)/\∀m Z H,W m Z H ->
 c Z H λb a=>if b=true then ∃N:St->Hp->Prop,(∀d e,N d e->∃f,f<m/\W f d e)/\g { D with nx:=N,ct:=N,bk:=D.nx } Z a else D.nx Z a
def HR {c:Expr}{a:List Stmt}{t:TT}{u:TS}(w:PassesOwn (model X.prog X.w) X.A X.env X.xe)(E:PT X c t)(F:qY X a u):PS X (.While c a [] pos) (HQ t u):=by
 intro Y s Z H D I h;obtain⟨W,⟨G,J⟩,d⟩:=h;refine wpAny_While (codeAny_whileLoop (λn s'=>∃x y,Inv X Y x y s'/\W n x y) ?_ G ⟨Z,H,I,J⟩);rintro n K ⟨i,z,L,M⟩;refine wpAny_passesOwn w (j5 (E Y K i z _ L (d n i z M)) λb O ⟨A,B,j⟩=>?_);cases b with
 |true =>
  obtain⟨N,C,j⟩:=j;rw[Zd rfl];refine wpAny_passesOwn w (j5 (F Y O i A _ B j) λf P l=>?_);cases f with
  |next =>
   obtain⟨e,g,m,o⟩:=l;obtain⟨p,q,r⟩:=C e g o;exact⟨p,q,e,g,m,r⟩
  |cont =>
   obtain⟨e,g,m,o⟩:=l;obtain⟨p,q,r⟩:=C e g o;exact⟨p,q,e,g,m,r⟩
  |brk=>exact l
  |ret v=>exact l
 |false =>
  rw[Ze Zj];exact wpAny_execs_nil ⟨i,A,B,j⟩
end
structure It where
 go:Nat->Hp->Prop
 yld:Nat->Hp->V->Hp->Prop
 stop:Nat->Hp->Prop
def xf (X:Cx)(Y:Yb)(H:Hp)(b:Addr):Prop:=
 H b=none/\b≠X.env.locals/\b∉X.fs/\(b∈X.ex\/X.s₀.heap.objs.size<=b)/\(∀x c,X.env.cells.lookup x=some c->c≠b)/\∀p∈X.pn++Y,p.1≠b
def Inv.fpOk {X:Cx}{Y:Yb}{Z: St}{H d:Hp}{s:Shared}{b:Addr}(I:Inv X Y Z H s)(a:s.heap.objs.size<=b)(f:d b=none):xf X Y d b:=by
 refine⟨f,UA (Zg I.lt a),I.nofs a,.inr (Zh I.sz a),λx c e z=>?_,λp g z=>?_⟩
 .obtain⟨v,q⟩:=I.cell x c e;exact Zn (Zg q.lt (by rwa [z])) (Zy _)
 .exact Zn (Zg (Zk (I.pin p g).1) (by rwa [z])) (Zy _)
structure Turn (P:Program)(w:World)(K:W.Frag)(tg:Expr)(J:It)(fp:Yi)(it:Addr)(tn:Nat->Heap->Prop):Prop where
 mem:it∈fp
 obj:∀i h,tn i h->∀b∈fp,∃o,h.get? b=some o/\∀v,o.data ≠ .cell v
 keep:∀i h h',tn i h->(∀b∈fp,∀o,h.get? b=some o->h'.get? b=some o)->tn i h'
 item:∀(X:Cx),X.prog=P->X.w=w->X.K=K->X.calm=true->∀(i:Nat) (Y:Yb) (s:Shared) (Z: St) (H:Hp) (E:Ya),Inv X Y Z H s->(∀b∈fp,xf X Y H b)->tn i s.heap->J.go i H ->
  wpAny (model P w) X.A (pyNext (.ref it)) (λr s1=>∃u,r=some u /\
   wpAny (model P w) X.A (letOwnedTupleGo tg (.ref it) u) (λ_ s2=>∃x H',Inv X Y Z H' s2/\jq x u/\J.yld i H x H'/\tn (i+1) s2.heap/\∀b∈fp,H' b=none) E s1) E s
 done:∀(X:Cx),X.prog=P->X.w=w->X.K=K->X.calm=true->∀(i:Nat) (Y:Yb) (s:Shared) (Z: St) (H:Hp) (E:Ya),Inv X Y Z H s->(∀b∈fp,xf X Y H b)->tn i s.heap->J.stop i H ->
  wpAny (model P w) X.A (pyNext (.ref it)) (λr s1=>r=none/\Inv X Y Z H s1) E s
 self:∀(A:Around) (i:Nat) (s:Shared) (Q:Ya) (E:Ya),tn i s.heap->Q (.ref it) s->wpAny (model P w) A (pyIter (.ref it)) Q E s
abbrev TI:=St->Hp->(It->Hp->Prop)->Prop
def pw (X:Cx)(Y:Yb)(Z: St)(tg:Expr)(R:It->Hp->Prop)(a:Value)(d:Shared):Prop:=
 ∃(it:Addr) (e:Yi) (f:Nat->Heap->Prop) (J:It) (c:Hp),a=.ref it/\Inv X Y Z c d/\Turn X.prog X.w X.K tg J e it f/\f 0 d.heap/\(∀b∈e,xf X Y c b)/\R J c
def PI (X:Cx)(tg a:Expr)(b:TI):Prop:=
 ∀(Y:Yb) (s:Shared) (Z: St) (H:Hp) (R:It->Hp->Prop),Inv X Y Z H s->b Z H R ->
  Yv X (eval a X.env) (λv c=>Yv X (pyIter v) (pw X Y Z tg R) X.xe c) X.xe s
def Xh {M:Model}{A:Around}{E:Ya}{s:Shared}{tg:Expr}{it:Addr}{u:Value}{o:Obj}{n:String}{b:Yk}{Q:Unit->Yq}(c:s.heap.get? it=some o)(d:o.cls=.type n)(e:o.data=.fields b)
 (f: ["enumerate", "zip", "dict_itemiterator", "dict_reverseitemiterator", "odict_iterator", "itertools.zip_longest", "itertools.pairwise"].contains n=false) (a:Q Ym s):wpAny M A (letOwnedTupleGo tg (.ref it) u) Q E s:=by
 cases tg<;>first
  |exact Zb a
  | (cases u<;>first
   |exact Zb a
   | (
    refine Za (wpAny_load c ?_);rw[d,e];show wpAny M A (if(["enumerate", "zip", "dict_itemiterator", "dict_reverseitemiterator", "odict_iterator", "itertools.zip_longest", "itertools.pairwise"].contains n&&b[0]? == some (rawInt _))=true then _ else _) Q E s;rw[Ze (by intro h;rw[f,Bool.false_and] at h;cases h)];exact Zb a))
def pA (K:W.Frag)(a:Addr):It:=
 ⟨λi H=>∃xs x,qC K H a xs/\xs[i]? = some x,λi H x b=>b=H/\∀xs,qC K H a xs->xs[i]? = some x,λi H=>∃xs,qC K H a xs/\xs.length<=i⟩
def p7 (K:W.Frag)(a:Addr):It:=
 ⟨λi H=>∃xs x,xJ K H a xs/\xs[i]? = some x,λi H x b=>b=H/\∀xs,xJ K H a xs->xs[i]? = some x,λi H=>∃xs,xJ K H a xs/\xs.length<=i⟩
def sO (lo:Int)(n:Nat):It:=⟨λi _=>i<n,λi H x a=>a=H/\x=.int (lo+i),λi _=>n<=i⟩
def HS {P:Program}{w:World}{K:W.Frag}{tg:Expr}(a it):Turn P w K tg (pA K a) [it] it (λi h=>h.IsListIter it a i) where
 mem:=by simp
 obj:=λi h st b f=>by
  obtain⟨o,e,c,d⟩:=st
  simp_all
 keep:=λi h h' st k=>st.at λo e=>k it () o e
 item:=by
  intro X m hw n C i Y s Z H E I j st q;subst m hw n;obtain⟨xs,x,l,hx⟩:=q;obtain⟨r,t,p,F⟩:=I.list l;obtain⟨u,Q,G⟩:=t.get hx;obtain⟨v,y,J,z,A,B⟩:=j it ();refine wpAny_pyNext_list_item st p.isList (x:=u) () λh' g L=>?_;have M:Inv X Y Z H { s with heap:=h' }:=I.turned (λb o f e=>(L.2 b f).trans e) v y z A B;obtain⟨o,e,c,d⟩:=id g;exact⟨u,rfl,Xh e c d (by decide) ⟨x,H,M,G,⟨rfl,λR N=>by rwa [I.list_inj N l]⟩,g,λb f=>(j b f).1⟩⟩
 done:=by
  intro X m hw n C i Y s Z H E I j st q;subst m hw n;obtain⟨xs,l,hx⟩:=q;obtain⟨r,t,p,F⟩:=I.list l;obtain⟨v,y,J,z,A,B⟩:=j it ();have S:=t.length;exact wpAny_pyNext_list_end (I.ok.hd C) st p.isList (by simp;lia) λh' O=>⟨rfl,I.turned (λb o f e=>O b o f e) v y z A B⟩
 self:=λ_ _ _ _ _ st h=>wpAny_pyIter_listiter st h
def HU {P:Program}{w:World}{K:W.Frag}{tg:Expr}(a it):Turn P w K tg (p7 K a) [it] it (λi h=>h.IsTupleIter it a i) where
 mem:=by simp
 obj:=λi h st b g=>by
  obtain⟨o,e,c,d⟩:=st
  simp_all
 keep:=λi h h' st k=>st.at ()
 item:=by
  intro X l hw m C i Y s Z H E I n st q;subst l hw m;obtain⟨xs,x,j,hx⟩:=q;obtain⟨r,t,p,F⟩:=I.tuple j;obtain⟨u,G,J⟩:=t.get hx;obtain⟨v,y,L,z,A,B⟩:=n it ();refine wpAny_pyNext_tuple_item st (p) (by simpa using G) λh' f M=>?_;have N:Inv X Y Z H { s with heap:=h' }:=I.turned (λb o g e=>(M.2 b g).trans e) v y z A B;obtain⟨o,e,c,d⟩:=id f;exact⟨u,rfl,Xh e c d (by decide) ⟨x,H,N,J,⟨rfl,λR O=>by rwa [I.tuple_inj O j]⟩,f,()⟩⟩
 done:=by
  intro X l hw m C i Y s Z H E I n st q;subst l hw m;have ⟨xs,j,hx⟩:=q;have ⟨r,t,p,F⟩:=I.tuple j;have ⟨v,y,L,z,A,B⟩:=n it ();have S:=t.length;exact wpAny_pyNext_tuple_end (I.ok.hd C) st (p) (by simp;lia) λh' Q=>⟨rfl,I.turned (λb o g e=>Q b o g e) v y z A B⟩
 self:=λ_ _ _ _ _ st h=>wpAny_pyIter_tupleiter st h
def HV {P:Program}{w:World}{K:W.Frag}{tg:Expr}(it)(lo)(n):Turn P w K tg (sO lo n) [it] it (λi h=>IsRangeIter h it (lo+(i:Nat)*1) ((n:Int)-(i:Nat)) 1) where
 mem:=by simp
 obj:=by grind
 keep:=by grind
 item:=by
  intro X q hw r c i Y s Z H E I d st f;obtain⟨g,j,u,l,m,p⟩:=d it ();refine(Walks.range (I.ok.hd c) it lo 1 n).item i s _ _ f st λv h' tk x a kk=>?_;obtain⟨t,rfl⟩:=x;have y:Inv X Y Z H { s with heap:=h',toks:=tk }:=I.turned () g j l m p;refine⟨_,rfl,Xh a rfl rfl (by decide) ⟨.int (lo+i),H,y,⟨t,?_⟩,⟨rfl,rfl⟩,a,()⟩⟩;simp
 done:=by
  intro X q hw r c i Y s Z H E I d st f;obtain⟨g,j,u,l,m,p⟩:=d it ();exact wpAny_pyNext_range_end (I.ok.hd c) st (by have:n<=i:=f;lia) λh' z=>⟨rfl,I.turned (λb o A e=>z b o A e) g j l m p⟩
 self:=λ_ _ _ _ _ st h=>wpAny_pyIter_rangeiter st h
section
variable {X:Cx}{tg:Expr}
def fy (K:W.Frag)(c:TE):TI:=λZ H R=>c Z H λx b=>∃a,x=.ref a/\(∃xs,qC K b a xs)/\R (pA K a) b
def d4 (K:W.Frag)(c:TE):TI:=λZ H R=>c Z H λx b=>∃a,x=.ref a/\(∃xs,xJ K b a xs)/\R (p7 K a) b
def HW {l:Expr}{f:TE}(g:PE X l f):PI X tg l (fy X.K f):=by
 intro Y s Z H R I h;refine j5 (g Y s Z H _ I h) λv d ⟨x,i,c,j,m⟩=>?_;obtain⟨a,e,⟨xs,n⟩,q⟩:=m;subst e;cases j;obtain⟨r,u,p,w⟩:=c.list n;refine wpAny_pyIter_list p.isList (⟨d.heap.objs.size,[d.heap.objs.size],_,_,i,rfl,c.kept λb o e=>Zq _ e,HS a _,⟨_,Zr _ rfl,rfl,rfl⟩,λb t=>?_,q⟩);have e:b=d.heap.objs.size:=by simpa using t
 subst e;exact c.fpOk (Zf _) (c.hok.fresh (Zf _))
def HX {l:Expr}{f:TE}(g:PE X l f):PI X tg l (d4 X.K f):=by
 intro Y s Z H R I h;refine j5 (g Y s Z H _ I h) λv d ⟨x,i,c,j,m⟩=>?_;obtain⟨a,e,⟨xs,n⟩,q⟩:=m;subst e;cases j;obtain⟨r,u,p,w⟩:=c.tuple n;refine wpAny_pyIter_tuple (p) (⟨d.heap.objs.size,[d.heap.objs.size],_,_,i,rfl,c.kept λb o e=>Zq _ e,HU a _,⟨_,Zr _ rfl,rfl,rfl⟩,λb t=>?_,q⟩);have e:b=d.heap.objs.size:=by simpa using t
 subst e;exact c.fpOk (Zf _) (c.hok.fresh (Zf _))
def HY {Y:Yb}{Z: St}{H:Hp}{s:Shared}{R:It->Hp->Prop}{E:Ya}{lo a:Int}{t u v:Tok}{tk:Nat}(I:Inv X Y Z H s)(d: -(2 ^ 62)<=lo)(f:lo<2 ^ 62)(g: -(2 ^ 62)<=a)(h:a<2 ^ 62)
 (q:R (sO lo (a-lo).toNat) H):Yv X (pyIter (.ref s.heap.objs.size)) (pw X Y Z tg R) E { s with heap:=s.heap.push { cls:=.type "range",data:=.fields #[.int lo t,.int a u,.int 1 v] },toks:=tk }:=by
 refine wpAny_pyIter_range (IsRange.new ..) (small_one d f g h) ?_;have c:Inv X Y Z H { s with heap:=s.heap.push { cls:=.type "range",data:=.fields #[.int lo t,.int a u,.int 1 v] },toks:=tk }:=I.kept λb o e=>Zq _ e;refine⟨(s.heap.push { cls:=.type "range",data:=.fields #[.int lo t,.int a u,.int 1 v] }).objs.size,[(s.heap.push { cls:=.type "range",data:=.fields #[.int lo t,.int a u,.int 1 v] }).objs.size],_,_,H,rfl,
  c.kept λb o e=>Zq _ e,HV _ lo (a-lo).toNat,?_,λb l=>?_,q⟩
 .have i:lo+((0:Nat):Int)*1=lo:=by simp
  have j:(((a-lo).toNat:Nat):Int)-((0:Nat):Int)=Builtin.Range.rangeSize lo a 1:=by grind[rangeSize_one]
  rw[i,j];exact Zr _ rfl
 .have e:b=(s.heap.push { cls:=.type "range",data:=.fields #[.int lo t,.int a u,.int 1 v] }).objs.size:=by simp_all
  subst e;exact c.fpOk (Zf _) (c.hok.fresh (Zf _))
def fw (a:TA):TI:=λZ H R=>a Z H λb c=>∃j:Int,b=[.int j] /\ -(2 ^ 62)<=j/\j<2 ^ 62/\R (sO 0 j.toNat) c
def HZ {a:Expr}{d:TA}{p b:Pos}(f:Gl X "range")(g:X.mg "range" = none)(i:PA X [a] d)(l:starEach [a] X.env=[(false,eval a X.env)]:=by rfl):PI X tg (.Call (.Name "range" p) [a] [] b) (fw d):=by
 intro Y s Z H R I h;refine Call_ (VY I f g boot_range (PyProof.Rows.callWith_type1 (j5 (i b Y s Z H _ I h) λv w ⟨x,y,m,n,c⟩=>?_) l rfl));obtain⟨j,e,c,o,q⟩:=c;subst e;cases n with
 |cons r u =>
  cases u;obtain⟨t,rfl⟩:=r;exact call_range_1 (HY m () () c o (by simpa using q))
def t8 (d:TI)(g:TG)(e:TS):TS:=λD Z H=>d Z H λJ f=>∃W:Nat->Nat->St->Hp->Prop,(∃m,W 0 m Z f)/\∀i m Z H,W i m Z H ->
 (J.stop i H/\D.nx Z H)\/(J.go i H/\∃N:St->Hp->Prop,(∀b a,N b a->∃c,c<m/\W (i+1) c b a)/\∀x a,J.yld i H x a->g x Z a λh j=>e { D with nx:=N,ct:=N,bk:=D.nx } h j)
def Xi (a:Yi)(h:Heap):Yb:=a.filterMap λb=>(h.get? b).map λo=>(b,o)
def YG {a:Yi}{h:Heap}{b:Addr}{o:Obj}(c:b∈a)(e:h.get? b=some o):(b,o)∈Xi a h:=Ji.mpr ⟨b,c,by rw[e];rfl⟩
def Ia {a:Yi}{h:Heap}{p:Addr×Obj}(c:p∈Xi a h):p.1∈a/\h.get? p.1=some p.2:=by
 obtain⟨b,d,e⟩:=Ji.mp c;cases q:h.get? b with
 |none=>simp_all
 |some o =>
  grind
def Inv.pinned {Y:Yb}{Z: St}{H:Hp}{s:Shared}{a:Yi}(I:Inv X Y Z H s)(c:∀b∈a,xf X Y H b)(g:∀b∈a,∃o,s.heap.get? b=some o/\∀v,o.data ≠ .cell v):Inv X (Y++Xi a s.heap) Z H s:=
 I.pins_of λp d=>(Jc.mp d).elim (λz=>I.pin p ()) λz=>by
  obtain⟨f,e⟩:=Ia z;obtain⟨h,i,j,_⟩:=c p.1 f
  grind
def Inv.unpinned {Y a:Yb}{Z: St}{H:Hp}{s:Shared}(I:Inv X (Y++a) Z H s):Inv X Y Z H s:=I.pins_of λp b=>I.pin p ()
def CU {a:Expr}{w:List Stmt}{wi:TI}{g:TG}{tb:TS}{P:Pos}(A:PassesOwn (model X.prog X.w) X.A X.env X.xe)(hc:X.calm=true)(hi:PI X tg a wi)(hg:PG X tg g)(c:qY X w tb)
 (hs:∀x,foldedSetIterable a X.env x=pure x:=by intro _;rfl):PS X (.For tg a w [] P) (t8 wi g tb):=by
 intro Y s Z H D I h;refine wpAny_For (j5 (hi Y s Z H _ I h) λv s1 h1=>j5 h1 λitv s2 h2=>?_) hs;obtain⟨it,B,tn,J,H2,e,I2,T,Q,f2,W,⟨m0,w0⟩,C⟩:=h2;subst e;have j:∀{t:Hp},(∀b∈B,t b=none)->∀b∈B,xf X Y t b:=λhn b c=>⟨hn b c,(f2 b c).2⟩;refine codeAny_forLoop_any (λn s'=>∃i E t,Inv X Y E t s'/\tn i s'.heap/\(∀b∈B,t b=none)/\W i n E t) ?_ m0 ⟨0,Z,H2,I2,Q,λb c=>(f2 b c).1,w0⟩;rintro n s3 ⟨i,F,O,I3,G,K,w3⟩;rcases C i n F O w3 with ⟨L,qn⟩|⟨go,N,hN,step⟩
 .refine wpAny_passesOwn A (j5 (T.done X rfl rfl rfl hc i Y s3 F O X.xe I3 (j K) G L) λr s4 ⟨R,I4⟩=>?_);subst R;exact wpAny_execs_nil ⟨F,O,I4,qn⟩
 .refine wpAny_passesOwn A (j5 (T.item X rfl rfl rfl hc i Y s3 F O X.xe I3 (j K) G go) λr s4 ⟨u,R,h4⟩=>?_);subst R;refine wpAny_passesOwn A (j5 h4 λ_ s5 ⟨x,H5,I5,r5,y5,z,S⟩=>?_);have U:=I5.pinned (j S) (T.obj _ _ z);refine wpAny_passesOwn A (j5 (hg _ s5 F H5 x u _ U r5 (step x H5 y5)) λ_ s6 ⟨Z6,H6,I6,q6⟩=>?_);refine wpAny_passesOwn A (j5 (c _ s6 Z6 H6 _ I6 q6) λf s7 y=>?_);have again:∀{l:St} {p:Hp},Inv X (Y++Xi B s5.heap) l p s7->N l p->∃m,m<n/\∃i E t,Inv X Y E t s7/\tn i s7.heap/\(∀b∈B,t b=none)/\W i m E t:=λ{l p} q M=>by
   obtain⟨m',hm,w7⟩:=hN l p M;refine⟨m',hm,i+1,l,p,q.unpinned,T.keep _ _ _ z λb c o e=>(q.pin (b,o) (Ud _ (Ud _ (YG c e)))).1,λb c=>?_,w7⟩;obtain⟨o,e,d⟩:=T.obj _ _ z b c;exact(q.pin (b,o) (Ud _ (Ud _ (YG c e)))).2.1
  cases f with
  |next=>obtain⟨l,p,q,M⟩:=y;exact again q M
  |cont=>obtain⟨l,p,q,M⟩:=y;exact again q M
  |brk=>obtain⟨l,p,q,y⟩:=y;exact⟨l,p,q.unpinned,y⟩
  |ret v=>obtain⟨x7,l,p,q,r7,y⟩:=y;exact⟨x7,l,p,q.unpinned,r7,y⟩
end
abbrev R2:=V->V->Hp->VK->Prop
def qA (X:Cx)(f:Value->Value->Sem Value)(r:R2):Prop:=
 ∀(Y:Yb) (s:Shared) (Z: St) (H:Hp) (x y:V) (v u:Value) (Q:VK),Inv X Y Z H s->jq x v->jq y u->r x y H Q ->
  Yv X (f v u) (EP X Y Z Q) X.xe s
def wE (X:Cx)(f:Value->Sem Value)(r:V->Hp->VK->Prop):Prop:=
 ∀(Y:Yb) (s:Shared) (Z: St) (H:Hp) (x:V) (v:Value) (Q:VK),Inv X Y Z H s->jq x v->r x H Q ->
  Yv X (f v) (EP X Y Z Q) X.xe s
def qc (X:Cx)(f:Value)(r:Yr->Hp->VK->Prop):Prop:=
 ∀(Y:Yb) (s:Shared) (Z: St) (H:Hp) (xs:Yr) (a:Yd) (Q:VK),Inv X Y Z H s->js xs a->r xs H Q ->
  Yv X (call f a) (EP X Y Z Q) X.xe s
def vn (r:R2)(a b:TE):TE:=λZ H Q=>a Z H λx c=>b Z c λy d=>r x y d Q
def cT (r:V->Hp->VK->Prop)(a:TE):TE:=λZ H Q=>a Z H λx b=>r x b Q
def rI (C:Int->Int->Prop)(g:Int->Int->V):R2:=λx y H Q=>∃i j,x=.int i/\y=.int j/\C i j/\Q (g i j) H
def we (g:Int->Int->V):R2:=λx y H Q=>∃i j,x=.int i/\y=.int j/\Q (g i j) H
def rU (g:Int->V):V->Hp->VK->Prop:=λx H Q=>∃i,x=.int i/\Q (g i) H
section
variable {X:Cx}{a b c:Expr}{ta tb tc:TE}{pos:Pos}
def vA (i:PE X a ta)(j:PE X b tb){Y:Yb}{s:Shared}{Z: St}{H:Hp}{R:V->V->Hp->Prop}(I:Inv X Y Z H s)
 (h:ta Z H λx g=>tb Z g λy d=>R x y d) {Q:Ya} {f:Value->Value->Sem Value}
 (l:∀v u e x y d,Inv X Y Z d e->jq x v->jq y u->R x y d->Yv X (f v u) Q X.xe e):
 Yv X (eval a X.env) (λv s₁=>Yv X (eval b X.env) (λu s₂=>Yv X (f v u) Q X.xe s₂) X.xe s₁) X.xe s:=j5 (i Y s Z H _ I h) λv m ⟨x,g,n,o,p⟩=>(j5 (j Y m Z g _ n p) λu e ⟨y,d,q,r,t⟩=>(l v u e x y d q o r t))
def gb {d:Operator}{r:R2}(e:qA X (binaryOp d) r)(f:PE X a ta)(g:PE X b tb):PE X (.BinOp a d b pos) (vn r ta tb):=λY s Z H Q I h=>wpAny_BinOp (vA f g I h λv u i x y j l m n q=>e Y i Z j x y v u Q l m n q)
def kY {d:UnaryOp}{r:V->Hp->VK->Prop}(e:wE X (unaryOp d) r)(f:PE X a ta):PE X (.UnaryOp d a pos) (cT r ta):=λY s Z H Q I h=>UnaryOp_ (j5 (f Y s Z H _ I h) λv g ⟨x,i,j,l,m⟩=>e Y g Z i x v Q j l m)
def nA {f:Value->Value->Sem Value}{C:Int->Int->Prop}{g:Int->Int->Int}
 (rule:∀i j t u s Q E,C i j->Q (.int (g i j) s.toks) { s with toks:=s.toks+1 }->Yv X (f (.int i t) (.int j u)) Q E s):
 qA X f (rI C λi j=>.int (g i j)):=by
 intro Y s Z H x y v u Q I d e h;obtain⟨i,j,rfl,rfl,l,q⟩:=h;obtain⟨t,rfl⟩:=d;obtain⟨t',rfl⟩:=e;exact rule i j t t' s _ _ l ⟨.int (g i j),H,I.tok _,⟨_,rfl⟩,q⟩
def gr {f:Value->Value->Sem Value}{g:Int->Int->Int}
 (rule:∀i j t u s Q E,Q (.int (g i j) s.toks) { s with toks:=s.toks+1 }->Yv X (f (.int i t) (.int j u)) Q E s):
 qA X f (we λi j=>.int (g i j)):=by
 intro Y s Z H x y v u Q I d e h;obtain⟨i,j,rfl,rfl,q⟩:=h;obtain⟨t,rfl⟩:=d;obtain⟨t',rfl⟩:=e;exact rule i j t t' s _ _ ⟨.int (g i j),H,I.tok _,⟨_,rfl⟩,q⟩
def wj {f:Value->Value->Sem Value}{g:Int->Int->Bool}
 (rule:∀i j t u s Q E,Q (.bool (g i j)) s->Yv X (f (.int i t) (.int j u)) Q E s):
 qA X f (we λi j=>.bl (g i j)):=by
 intro Y s Z H x y v u Q I d e h;obtain⟨i,j,rfl,rfl,q⟩:=h;obtain⟨t,rfl⟩:=d;obtain⟨t',rfl⟩:=e;exact rule i j t t' s _ _ ⟨.bl (g i j),H,I,rfl,q⟩
def mY (i j:Int):Prop:=0<j/\j<1073741824
def mX (i j:Int):Prop:=0<=j/\j<=1000000/\i.natAbs<2 ^ 64
def Ib:qA X (binaryOp .Add) (we λi j=>.int (i+j)):=gr λ_ _ _ _ _ _ _ q=>add_int q
def Ic:qA X (binaryOp .Sub) (we λi j=>.int (i-j)):=gr λ_ _ _ _ _ _ _ q=>sub_int q
def Ie:qA X (binaryOp .FloorDiv) (rI mY λi j=>.int (i / j)):=nA λi j _ _ _ _ _ d q=>have e:=d.1;have f:=d.2;floordiv_int () (by rwa [Int.fdiv_eq_ediv_of_nonneg i ()]) (.inl (PyProof.noPylong_small ()))
def Ig:qA X (binaryOp .Mod) (rI (λ_ j=>0<j) λi j=>.int (i % j)):=nA λi j _ _ _ _ _ d q=>mod_int' () (by rwa [Int.fmod_eq_emod_of_nonneg i ()])
def Ih:qA X (binaryOp .Pow) (rI mX λi j=>.int (i ^ j.toNat)):=nA λ_ _ _ _ _ _ _ d q=>pow_int_small d.1 d.2.1 d.2.2 q
def pE {f:Value->Sem Value}{g:Int->Int}
 (rule:∀i t s Q E,Q (.int (g i) s.toks) { s with toks:=s.toks+1 }->Yv X (f (.int i t)) Q E s):
 wE X f (rU λi=>.int (g i)):=by
 intro Y s Z H x v Q I d h;obtain⟨i,rfl,q⟩:=h;obtain⟨t,rfl⟩:=d;exact rule i t s _ _ ⟨.int (g i),H,I.tok _,⟨_,rfl⟩,q⟩
def Ii:wE X (unaryOp .USub) (rU λi=>.int (-i)):=pE λ_ _ _ _ _ q=>neg_int q
end
def scal:V->V->Bool
 | .non,.non=>true | .non,.int _=>true | .int _,.non=>true | .non,.bl _=>true | .bl _,.non=>true | .non,.str _=>true | .str _,.non=>true
 | .int _,.int _=>true | .bl _,.bl _=>true | .str _,.str _=>true | .byt _,.byt _=>true
 | .int _,.str _=>true | .str _,.int _=>true | .bl _,.str _=>true | .str _,.bl _=>true
 |_,_=>false
def pU:R2:=λx y H Q=>scal x y=true/\Q (.bl (decide (x=y))) H
def pS:R2:=λx y H Q=>scal x y=true/\Q (.bl (!decide (x=y))) H
def CV {i j:Int}:decide (V.int i=V.int j)=(i == j):=by
 rw[UG];simp
def CW {i j:Bool}:decide (V.bl i=V.bl j)=(i == j):=by
 rw[UG];simp
def CY {i j:Str}:decide (V.str i=V.str j)=(i == j):=by
 rw[UG];simp
def CZ {i j:Array UInt8}:decide (V.byt i=V.byt j)=(i.toList == j.toList):=by
 rw[UG];simp
section
variable {X:Cx}{a b c:Expr}{ta tb tc:TE}{pos:Pos}
def JU {Y:Yb}{Z: St}{H:Hp}{s:Shared}{Q:VK}{k d:Bool}(I:Inv X Y Z H s)(q:Q (.bl k) H)(e:k=d):EP X Y Z Q (.bool d) s:=by
 subst e;exact⟨.bl k,H,I,rfl,q⟩
def gq:qA X (compareOp .Eq) pU:=by
 intro Y s Z H x y v u Q I f d h;obtain⟨e,q⟩:=h;cases x with
 |non =>
  cases f;cases y with
  |non=>cases d;exact PySem.EqNone.eq_none_none (JU I q ())
  |bl j=>cases d;exact PySem.EqNone.eq_none_bool (JU I q ())
  |int j=>obtain⟨t',rfl⟩:=d;exact PySem.EqNone.eq_none_int (JU I q ())
  |str j=>obtain⟨t',rfl⟩:=d;exact PySem.EqNone.eq_none_str (JU I q ())
  |_=>exact Zn (show false=true from e) Zj
 |bl i =>
  cases f;cases y with
  |non=>cases d;exact PySem.EqNone.eq_bool_none (JU I q ())
  |bl j=>cases d;exact eq_bool (JU I q CW)
  |str j=>obtain⟨t',rfl⟩:=d;exact PySem.EqMixed.eq_bool_str (JU I q ())
  |_=>exact Zn (show false=true from e) Zj
 |int i =>
  obtain⟨t,rfl⟩:=f;cases y with
  |non=>cases d;exact PySem.EqNone.eq_int_none (JU I q ())
  |int j=>obtain⟨t',rfl⟩:=d;exact eq_int (JU I q CV)
  |str j=>obtain⟨t',rfl⟩:=d;exact PySem.EqMixed.eq_int_str (JU I q ())
  |_=>exact Zn (show false=true from e) Zj
 |str i =>
  obtain⟨t,rfl⟩:=f;cases y with
  |non=>cases d;exact PySem.EqNone.eq_str_none (JU I q ())
  |bl j=>cases d;exact PySem.EqMixed.eq_str_bool (JU I q ())
  |int j=>obtain⟨t',rfl⟩:=d;exact PySem.EqMixed.eq_str_int (JU I q ())
  |str j=>obtain⟨t',rfl⟩:=d;exact eq_str (JU I q CY)
  |_=>exact Zn (e) Zj
 |byt i =>
  obtain⟨t,rfl⟩:=f;cases y with
  |byt j=>obtain⟨t',rfl⟩:=d;exact W.eq_bytes (JU I q CZ)
  |_=>exact Zn (show false=true from e) Zj
 |_=>cases y<;>exact Zn (show false=true from e) Zj
def gj:qA X (compareOp .NotEq) pS:=by
 intro Y s Z H x y v u Q I f d h;obtain⟨e,q⟩:=h;cases x with
 |non =>
  cases f;cases y with
  |non=>cases d;exact PySem.EqNone.ne_none_none (JU I q ())
  |bl j=>cases d;exact PySem.EqNone.ne_none_bool (JU I q ())
  |int j=>obtain⟨t',rfl⟩:=d;exact PySem.EqNone.ne_none_int (JU I q ())
  |str j=>obtain⟨t',rfl⟩:=d;exact PySem.EqNone.ne_none_str (JU I q ())
  |_=>exact Zn (show false=true from e) Zj
 |bl i =>
  cases f;cases y with
  |non=>cases d;exact PySem.EqNone.ne_bool_none (JU I q ())
  |bl j=>cases d;exact ne_bool (JU I q (Zt not CW))
  |str j=>obtain⟨t',rfl⟩:=d;exact PySem.EqMixed.ne_bool_str (JU I q ())
  |_=>exact Zn (show false=true from e) Zj
 |int i =>
  obtain⟨t,rfl⟩:=f;cases y with
  |non=>cases d;exact PySem.EqNone.ne_int_none (JU I q ())
  |int j=>obtain⟨t',rfl⟩:=d;exact ne_int (JU I q (Zt not CV))
  |str j=>obtain⟨t',rfl⟩:=d;exact PySem.EqMixed.ne_int_str (JU I q ())
  |_=>exact Zn (show false=true from e) Zj
 |str i =>
  obtain⟨t,rfl⟩:=f;cases y with
  |non=>cases d;exact PySem.EqNone.ne_str_none (JU I q ())
  |bl j=>cases d;exact PySem.EqMixed.ne_str_bool (JU I q ())
  |int j=>obtain⟨t',rfl⟩:=d;exact PySem.EqMixed.ne_str_int (JU I q ())
  |str j=>obtain⟨t',rfl⟩:=d;exact ne_str (JU I q (Zt not CY))
  |_=>exact Zn (show false=true from e) Zj
 |byt i =>
  obtain⟨t,rfl⟩:=f;cases y with
  |byt j=>obtain⟨t',rfl⟩:=d;exact W.ne_bytes (JU I q (Zt not CZ))
  |_=>exact Zn (e) Zj
 |_=>cases y<;>exact Zn (show false=true from e) Zj
def gl:qA X (compareOp .Lt) (we λi j=>.bl (decide (i<j))):=wj λ_ _ _ _ _ _ _ q=>lt_int q
def gm:qA X (compareOp .LtE) (we λi j=>.bl (decide (i<=j))):=wj λ_ _ _ _ _ _ _ q=>le_int q
def gn:qA X (compareOp .Gt) (we λi j=>.bl (decide (j<i))):=wj λ_ _ _ _ _ _ _ q=>gt_int q
def gp:qA X (compareOp .GtE) (we λi j=>.bl (decide (j<=i))):=wj λ_ _ _ _ _ _ _ q=>ge_int q
def Ij:qA X (compareOp .In) (λx y H Q=>∃i j,x=.str i/\y=.str j/\Q (.bl (!(Builtin.Str.occurrences j i 0 j.length 1).isEmpty)) H):=by
 intro Y s Z H x y v u Q I d e h;obtain⟨i,j,rfl,rfl,q⟩:=h;obtain⟨t,rfl⟩:=d;obtain⟨t',rfl⟩:=e;exact in_str (JU I q rfl)
def Ik:qA X (compareOp .NotIn) (λx y H Q=>∃i j,x=.str i/\y=.str j/\Q (.bl (!(!(Builtin.Str.occurrences j i 0 j.length 1).isEmpty))) H):=by
 intro Y s Z H x y v u Q I d e h;obtain⟨i,j,rfl,rfl,q⟩:=h;obtain⟨t,rfl⟩:=d;obtain⟨t',rfl⟩:=e;exact notIn_str (JU I q rfl)
def JH (b){d:CmpOp}(h:d ≠ .In:=by decide)(e:d ≠ .NotIn:=by decide):behindInMarks d b=false:=by
 cases b<;>first|rfl|(show(_&&(_||_)&&_)=false;simp_all)
def Da {d:CmpOp}{r:R2}(e:qA X (compareOp d) r)(f:PE X a ta)(g:PE X b tb)(i:behindInMarks d b=false):PE X (.Compare a [d] [b] pos) (vn r ta tb):=λY s Z H Q I h=>wpAny_Compare1 (vA f g I h λv u j x y l m n o q=>e Y j Z l x y v u Q m n o q) i
def Db (t:TE):TT:=λZ H Q=>t Z H λx d=>∃k,x=.bl k/\Q k d
def YH {d:CmpOp}{r:R2}(f:qA X (compareOp d) r)(g:PE X a ta)(i:PE X b tb)(j:behindInMarks d b=false):PT X (.Compare a [d] [b] pos) (Db (vn r ta tb)):=by
 intro Y s Z H Q I h;refine wpAny_isTrue_Compare1 (j5 (g Y s Z H _ I h) λv l ⟨x,m,n,o,p⟩=>j5 (i Y l Z m _ n p) λu q ⟨y,t,w,A,B⟩ =>
  j5 (f Y q Z t x y v u _ w o A B) λc J ⟨z,C,E,F,k,e,G⟩=>?_) j
 subst e;cases F;exact wpAny_truthy_bool ⟨C,E,G⟩
def A6 (r e:R2)(ta tb tc:TE):TE:=λZ H Q=>ta Z H λx f=>tb Z f λy g=>r x y g λz d=>∃k,z=.bl k /\
 (if k=true then tc Z d λh i=>e y h i Q else Q (.bl false) d)
def Il {g f:CmpOp}{r j:R2}(p:qA X (compareOp g) r)(i:qA X (compareOp f) j)(q:PE X a ta)(t:PE X b tb)(w:PE X c tc)
 (A:lastMarks [g,f] [b,c]=false:=by with_unfolding_all rfl):PE X (.Compare a [g,f] [b,c] pos) (A6 r j ta tb tc):=by
 intro Y s Z H Q I h;refine Compare_chain (j5 (q Y s Z H _ I h) λv B ⟨x,C,E,F,G⟩=>chain_link (j5 (t Y B Z C _ E G) λu J ⟨y,K,L,l,M⟩ =>
  j5 (p Y J Z K x y v u _ L F l M) λd N ⟨z,m,n,O,k,e,o⟩=>?_)) A
 subst e;cases O;refine wpAny_truthy_bool ?_;cases k with
 |false=>exact ite_ff ⟨.bl false,m,n,rfl,o⟩
 |true=>exact ite_tt (chain_last (j5 (w Y N Z m _ n o) λP R ⟨S,T,U,r4,q4⟩=>i Y R Z T y S u P Q U l r4 q4))
def Im {g f:CmpOp}{r j:R2}(p:qA X (compareOp g) r)(i:qA X (compareOp f) j)(q:PE X a ta)(t:PE X b tb)(w:PE X c tc)
 (A:lastMarks [g,f] [b,c]=false:=by with_unfolding_all rfl):PT X (.Compare a [g,f] [b,c] pos) (Db (A6 r j ta tb tc)):=by
 intro Y s Z H Q I h;refine isTrue_chain (j5 (q Y s Z H _ I h) λv B ⟨x,C,E,F,G⟩=>test_link (j5 (t Y B Z C _ E G) λu J ⟨y,K,L,l,M⟩ =>
  j5 (p Y J Z K x y v u _ L F l M) λd N ⟨z,m,n,O,k,e,o⟩=>?_)) A
 subst e;cases O;refine wpAny_truthy_bool ?_;cases k with
 |false =>
  obtain⟨k',P,q'⟩:=o;cases P;exact ite_ff ⟨m,n,q'⟩
 |true =>
  refine ite_tt (test_last (j5 (w Y N Z m _ n o) λR S ⟨T,U,I4,r4,q4⟩=>j5 (i Y S Z U y T u R _ I4 l r4 q4) λd' s5 ⟨z2,H5,I5,r5,k2,e2,q5⟩=>?_));subst e2;cases r5;exact wpAny_truthy_bool ⟨H5,I5,q5⟩
def Xj:(sizeLine:Nat)<2 ^ 63:=by decide
def Io:qA X (binaryOp .Add) (λx y H Q=>∃i j,x=.str i/\y=.str j/\i.length+j.length<=sizeLine/\Q (.str (i++j)) H):=by
 intro Y s Z H x y v u Q I d e h;obtain⟨i,j,rfl,rfl,f,q⟩:=h;obtain⟨t,rfl⟩:=d;obtain⟨t',rfl⟩:=e;exact add_str (λt' tk=>⟨.str (i++j),H,I.tok _,⟨_,rfl⟩,q⟩) f
def Q6 {x:V}{d:Yd}(r:js [x] d):∃u,d=[u]/\jq x u:=by
 cases r with
 |cons e f=>cases f;exact⟨_,rfl,e⟩
def A7 {x y:V}{d:Yd}(r:js [x,y] d):∃u e,d=[u,e]/\jq x u/\jq y e:=by
 cases r with
 |cons f g =>
  cases g with
  |cons h i=>cases i;exact⟨_,_,rfl,f,h⟩
def Ip:qc X (.builtin "abs") (λxs H Q=>∃i,xs=[.int i]/\Q (.int (if i<0 then -i else i)) H):=by
 intro Y s Z H xs d Q I r h;obtain⟨i,rfl,q⟩:=h;obtain⟨u,rfl,t,rfl⟩:=Q6 r;exact call_abs_int λu tk=>⟨.int (if i<0 then -i else i),H,I.tok _,⟨_,rfl⟩,q⟩
def Iq (e:X.calm=true):qc X (.builtin "max") (λxs H Q=>∃i j,xs=[.int i,.int j]/\Q (.int (if j > i then j else i)) H):=by
 intro Y s Z H xs f Q I r h;obtain⟨i,j,rfl,q⟩:=h;obtain⟨u,g,rfl,⟨t,rfl⟩,⟨t',rfl⟩⟩:=A7 r;refine max_two_ints (I.ok.hd e) λh' tk k=>⟨_,H,I.kept k,?_,q⟩;by_cases d:j > i
 .rw[Zd d,Zd d];exact⟨_,rfl⟩
 .rw[Ze d,Ze d];exact⟨_,rfl⟩
def Ir (e:X.calm=true):qc X (.builtin "min") (λxs H Q=>∃i j,xs=[.int i,.int j]/\Q (.int (if j<i then j else i)) H):=by
 intro Y s Z H xs f Q I r h;obtain⟨i,j,rfl,q⟩:=h;obtain⟨u,g,rfl,⟨t,rfl⟩,⟨t',rfl⟩⟩:=A7 r;refine min_two_ints (I.ok.hd e) λh' tk k=>⟨_,H,I.kept k,?_,q⟩;by_cases d:j<i
 .rw[Zd d,Zd d];exact⟨_,rfl⟩
 .rw[Ze d,Ze d];exact⟨_,rfl⟩
def Iu:qc X (.type "str") (λxs H Q=>∃i,xs=[.int i]/\i.natAbs.log2<1920/\Q (.str (toString i)) H):=by
 intro Y s Z H xs e Q I r h;obtain⟨i,rfl,d,q⟩:=h;obtain⟨u,rfl,t,rfl⟩:=Q6 r;exact PySem.P.str_of_int d ⟨.str _,H,I.tok _,⟨_,rfl⟩,q⟩
end
structure ObjM (h:Heap)(x dx C:Addr)(mA:Yc):Prop where
 obj:h.get? x=some (W.instObj C dx)
 ns:h.Ns1 dx mA
 ne:dx≠x
def Dc {h:Heap}{d:Addr}{f:Yc}(n:h.Ns1 d f):∃g,h.get? d=some g/\∀b,W.lookIn b g=some (f b):=by
 obtain⟨o,i,q,j,l,m,_,p⟩:=n;refine⟨o,j,λb=>?_⟩;have e:=p b;unfold nsFind findBy at e;rw[<- Array.find?_toList] at e;unfold W.lookIn;rw[l];dsimp only
 split
 .simp_all
 .have a:i.toList.any (·.refKey)=false:=by
   rw[List.any_eq_false];intro y r;have ⟨z,t,c⟩:=m y ();simp[DictEntry.refKey,c]
  simp_all
def ObjM.look {h:Heap}{x c C:Addr}{d:Yc}(I:ObjM h x c C d):∃b,W.InstAt h x (W.instObj C c) C (some b)/\∀a,W.lookIn a b=some (d a):=
 let ⟨b,ho,hl⟩:=Dc I.ns
 ⟨b,⟨I.obj,rfl,rfl,ho⟩,hl⟩
section
variable {prog:Program}{w:World}{A:Around}{E:Ya}{s:Shared}{K:W.Frag}{x dx C f:Addr}{mA:Yc}{name:Str}{v:Value}
def Iv {a:Bool}{Q:Ya}(X:K.In s.heap)(I:ObjM s.heap x dx C mA)(c:W.plainGet K C name=true)(d:W.hasDictIn K C=true)
 (e:W.findIn K (.ref C) name=some none) (g:mA name=some v) (b:W.handedIn v=true) (h:Q v { s with toks:=s.toks+1 }):
 Yw prog w A (getAttr (.ref x) name a) Q E s:=by
 obtain⟨j,J,i⟩:=I.look;exact W.get_value X J (W.plainGet_of c).1 (W.findObj_own d e rfl (by rw[i,g])) b h
def Iw {ns:Yh}{Q:Unit->Yq}(X:K.In s.heap)(I:ObjM s.heap x dx C mA)
 (i:W.findIn K (.ref C) "__setattr__" = some (some (.builtin "object.__setattr__"))) (j:W.plainOver K C=true) (l:W.takerIn K C name=some none) (m:W.hasDictIn K C=true)
 (hw:PySem.Within mA ns) (hsz:ns.length<=sizeLine)
 (h:∀h',ObjM h' x dx C (λy=>if y=name then some v else mA y)->Heap.SameBut dx s.heap h'->Q Ym { s with heap:=h',toks:=s.toks+2 }):
 Yw prog w A (setAttr (.ref x) name v) Q E s:=by
 obtain⟨r,J,t⟩:=I.look;refine W.set_plain X J i (W.osa_open X J j l λb=>?_);obtain⟨cd,n,d⟩:=W.any_some m;refine Za (Zb (Za (Za (wpAny_loadPart I.obj (Za (W.Looks.here (W.looks_clsIn X n) ?_))))));rw[d];refine Zb (Za (Zb (Za (wpAny_nsSet1 I.ns λh' a c=>?_))));obtain⟨oD,o,p,e,g,q⟩:=a.count (PySem.Within.cons name v hw);exact Za (wpAny_lookBehind e (by rw[g];exact pastItsLine_dict ()) (Zb (h _ ⟨(c.2 _ (Ne.symm I.ne)).trans I.obj,a,I.ne⟩ c)))
def Ix {R:Result->Yq}{b:Yd}{c:List (Str×Value)}(X:K.In s.heap)(d:W.makesIn K C=true)
 (e:W.findIn K (.ref C) "__init__" = some (some (.ref f))) (g:W.typeIn K (.ref f)=some (.type "function"))
 (h:codeAny (model prog w) (A.under (.builtin "type.__call__" ⟨.ref C::b,c⟩)) (.call (.ref f) ⟨.ref (s.heap.objs.size+1)::b,c⟩) (W.InitBack (s.heap.objs.size+1) R)
  { s with heap:=(s.heap.push W.emptyDict).push (W.instObj C s.heap.objs.size) }):
 codeAny (model prog w) A (.call (.ref C) ⟨b,c⟩) R s:=W.make_core (W.makes_of X d) (W.looks_findIn X e) (λa=>W.bind_fn X a g) (.inl rfl) h
end
def qL (f:Str)(v:V):List (Str×V)->List (Str×V)
 | []=>[(f,v)]
 | (g,x)::r=>if g=f then(g,v)::r else(g,x)::qL f v r
theorem Dd (f g)(v):∀fs:List (Str×V),(qL f v fs).lookup g=if g=f then some v else fs.lookup g
 | []=>by
  show List.lookup g [(f,v)]=_
  grind
 | (k,x)::r=>by
  have a:=Dd f g v r;rw[show qL f v ((k,x)::r)=(if k=f then(k,v)::r else(k,x)::qL f v r) from rfl]
  grind
theorem A8 (f)(v):∀fs:List (Str×V),f∈(qL f v fs).map (·.1)/\∀g,g∈fs.map (·.1)->g∈(qL f v fs).map (·.1)
 | []=>⟨by simp[qL],()⟩
 | (k,x)::r=>by
  have ⟨a,b⟩:=A8 f v r;rw[show qL f v ((k,x)::r)=(if k=f then(k,v)::r else(k,x)::qL f v r) from rfl]
  grind
theorem De (f)(v):∀fs:List (Str×V),(qL f v fs).length<=fs.length+1
 | []=>by simp[qL]
 | (k,x)::r=>by
  have a:=De f v r;rw[show qL f v ((k,x)::r)=(if k=f then(k,v)::r else(k,x)::qL f v r) from rfl]
  grind
def qE {v:V}{o:Ye}(r:xj (some v) o):∃u,o=some u/\jq v u:=by
 cases o with
 |none=>exact(r).elim
 |some u=>exact⟨u,rfl,r⟩
def Df {v:V}{u:Value}(r:jq v u):W.handedIn u=true:=by
 cases v with
 |non=>cases (r);rfl
 |bl b=>cases (r);rfl
 |int i=>have ⟨t,e⟩:=(r);cases e;rfl
 |str x=>have ⟨t,e⟩:=(r);cases e;rfl
 |byt b=>have ⟨t,e⟩:=(r);cases e;rfl
 |flt b=>have ⟨t,e⟩:=(r);cases e;rfl
 |ref a=>cases (r);rfl
 |ty n=>cases (r);rfl
section
variable {P:Program}{w:World}{H H':Hp}{h h':Heap}{a C dx:Addr}{fs fs':List (Str×V)}
def A9 (c:qQ P w H h)(e:H a=some (.ins C dx fs)):∃b,ObjM h a dx C b/\(∀f,xj (fs.lookup f) (b f))/\PySem.Within b (fs.map (·.1))/\fs.length<=1000/\H dx=some (.own a):=have ⟨d,z,ne,g,b,n,r,q⟩:=(c a _ e);⟨b,⟨g,n,ne⟩,r,q,z,d⟩
end
structure Cls (K:W.Frag)(C:Addr):Prop where
 pg:W.plainGet K C Str.empty=true
 hd:W.hasDictIn K C=true
 po:W.plainOver K C=true
 sa:W.findIn K (.ref C) "__setattr__" = some (some (.builtin "object.__setattr__"))
def Cls.get {K:W.Frag}{C:Addr}(c:Cls K C)(f):W.plainGet K C f=true:=c.pg
def zv (K:W.Frag)(C:Addr)(f:Str):Prop:=W.findIn K (.ref C) f=some none
def zv.taker {K:W.Frag}{C:Addr}{f:Str}(n:zv K C f):W.takerIn K C f=some none:=by
 unfold W.takerIn;rw[n];rfl
section
variable {X:Cx}{Y:Yb}{Z: St}{H:Hp}{s:Shared}{a C dx:Addr}{fs:List (Str×V)}{f:Str}{v:V}{A:Around}{E:Ya}
def Iy {b:Bool}{Q:Ya}(I:Inv X Y Z H s)(e:H a=some (.ins C dx fs))(c:Cls X.K C)(n:zv X.K C f)(l:fs.lookup f=some v)
 (h:∀u s',Inv X Y Z H s'->jq v u->Q u s'):wpAny (model X.prog X.w) A (getAttr (.ref a) f b) Q E s:=by
 obtain⟨i,O,r,_,_,_⟩:=A9 I.hok e;obtain⟨u,g,d⟩:=qE (by rw[<- l];exact r f);exact Iv I.kIn O (c.get f) c.hd n g (Df d) (h u _ (I.tok _) d)
def Iz {y:V}{u:Value}{Q:Unit->Yq}(I:Inv X Y Z H s)(e:H a=some (.ins C dx fs))(c:Cls X.K C)(n:zv X.K C f)(x:fs.length<1000)(B:jq y u)
 (h:∀s',Inv X Y Z (upd H a (.ins C dx (qL f y fs))) s'->Q Ym s'):wpAny (model X.prog X.w) A (setAttr (.ref a) f u) Q E s:=by
 obtain⟨F,O,r,i,_,j⟩:=A9 I.hok e;have l:(fs.map (·.1)).length<=sizeLine:=by rw[Zql,sizeLine_eq];lia
 refine Iw I.kIn O c.sa c.po n.taker c.hd i l λh' d m=>h _ ?_;have p:∃o,h'.get? dx=some o:=let ⟨o,_,_,e',_⟩:=d.ns;⟨o,e'⟩
 refine I.write (by rw[e];exact True.intro) (.inr j) (λb q t z=>(m.2 b t).trans z) p ⟨by rwa [Jx O.ne],?_,O.ne,d.obj,_,d.ns,λg=>?_,λg w=>?_⟩
 .have:=De f y fs;lia
 .rw[Dd];by_cases q:g=f
  .rwa [Zd q,Zd q]
  simp_all
 .by_cases q:g=f
  .rw[q];exact(A8 f y fs).1
  .refine(A8 f y fs).2 g (i g λz=>w ?_)
   simp_all
def Inv.made (I:Inv X Y Z H s):Inv X Y Z (upd (upd H s.heap.objs.size (.own (s.heap.objs.size+1))) (s.heap.objs.size+1) (.ins C s.heap.objs.size []))
 { s with heap:=(s.heap.push W.emptyDict).push (W.instObj C s.heap.objs.size) }:=by
 have c:(s.heap.push W.emptyDict).get? s.heap.objs.size=some W.emptyDict:=Zr s.heap rfl;have d:((s.heap.push W.emptyDict).push (W.instObj C s.heap.objs.size)).get? (s.heap.objs.size+1)=some (W.instObj C s.heap.objs.size):=by
  have:=Zr (s.heap.push W.emptyDict) (o:=W.instObj C s.heap.objs.size) rfl
  simp_all
 have g:(s.heap.push W.emptyDict).Ns s.heap.objs.size (λ_=>none):=⟨W.emptyDict,#[],_,c,rfl,(λe h=>Zn h ()),λ_=>rfl⟩;refine(I.laid (o:=.own (s.heap.objs.size+1)) (t':=s.toks) (λb u q=>Zq _ q) (Zf _) ⟨_,c⟩).laid (λb u q=>Zq _ q) () ?_;have ne:s.heap.objs.size≠s.heap.objs.size+1:=()
 refine⟨by rw[Jx ne,J8],Ue _,ne,d,λ_=>none,(Heap.Ns1.of_empty g).at λo q=>Zq _ q,λ_=>True.intro,λy i=>Zn rfl i⟩
def Dg {prog:Program}{w:World}{env:Env}{e:Expr}{f:Str}{b:Pos}{s:Shared}{Q:Ya}(c:attributeBase e f env (eval e env)=eval e env)
 (h:Yw prog w A (eval e env) (λo s₁=>Yw prog w A (getAttr o f true) Q E s₁) E s):Yw prog w A (eval (.Attribute e f b) env) Q E s:=
 Attribute_any_ h (by rw[arm_eval_Attribute,c])
end
def t9 (K:W.Frag)(c:TE)(f:Str):TE:=λZ H Q=>c Z H λx b=>∃a C d fs v,x=.ref a/\b a=some (.ins C d fs)/\Cls K C/\zv K C f/\fs.lookup f=some v/\Q v b
def tO (K:W.Frag)(d e:TE)(f:Str):TS:=λD Z H=>e Z H λy g=>d Z g λx b=>∃a C c fs,x=.ref a/\b a=some (.ins C c fs)/\Cls K C/\zv K C f/\fs.length<1000 /\
 D.nx Z (upd b a (.ins C c (qL f y fs)))
section
variable {X:Cx}{o e value:Expr}{f:Str}{pos pos' tpos:Pos}{ta tv:TE}
def Dh (b:PE X e ta)(d:attributeBase e f X.env (eval e X.env)=eval e X.env):PE X (.Attribute e f pos) (t9 X.K ta f):=by
 intro Y s Z H Q I h;refine Dg d (j5 (b Y s Z H _ I h) λu w ⟨x,g,i,j,a,C,y,fs,v,m,p,c,n,l,q⟩=>?_);subst m;obtain rfl:=j;exact Iy i p c n l λz A r t=>⟨v,g,r,t,q⟩
def Di (b:PE X o ta)(d:PE X value tv)(g:swapsWith value (some (.Attribute o f pos')) pos.line X.env=pure false):PS X (.Assign [.Attribute o f pos'] value pos) (tO X.K ta tv f):=by
 intro Y s Z H D I h;refine plainObj_wpAny_Assign_Attribute (j5 (d Y s Z H _ I h) λu i ⟨y,j,m,p,q⟩=>j5 (b Y i Z j _ m q) λB E ⟨x,F,r,t,a,C,G,fs,v,w,c,n,l,z⟩=>?_) g;subst v;obtain rfl:=t;exact Iz r w c n l p λJ A=>⟨Z,_,A,z⟩
end
section
variable {X:Cx}{Y:Yb}{Z: St}{H:Hp}{s:Shared}{A:Around}{E:Ya}{Q:Ya}{c:Value}{b:Bool}
inductive TyOf (K:W.Frag)(H:Hp):V->Value->Prop where
 |non:TyOf K H .non (.type "NoneType")
 |bl (x:Bool):TyOf K H (.bl x) (.type "bool")
 |int (i:Int):TyOf K H (.int i) (.type "int")
 |str (x:Str):TyOf K H (.str x) (.type "str")
 |flt (x:UInt64):TyOf K H (.flt x) (.type "float")
 |lst {a:Addr} {xs:Yr} (e:H a=some (.lst xs)):TyOf K H (.ref a) (.type "list")
 |frz {a:Addr} {o:Obj} {xs:Yr} (e:H a=some (.frz o (.lst xs))):TyOf K H (.ref a) (.type "list")
 |tup {a:Addr} {xs:Yr} (e:H a=some (.tup xs)):TyOf K H (.ref a) (.type "tuple")
 |dK {a:Addr} {kvs:List (jx×V)} (e:H a=some (.dK kvs)):TyOf K H (.ref a) (.type "dict")
 |dT {a:Addr} {kvs:List (List jx×V)} (e:H a=some (.dT kvs)):TyOf K H (.ref a) (.type "dict")
 |ins {a C dx:Addr} {fs:List (Str×V)} (e:H a=some (.ins C dx fs)) (cl:Cls K C) (ha:W.findIn K (.ref C) "__class__" = some (some (.builtin "object.__class__")))
  (hn:W.specialIn K (.builtin "object.__class__") "__get__" = some (some (.builtin "getset_descriptor.__get__"))) (htk:W.takesIn K (.builtin "object.__class__")=some true)
  (hm:W.mroIn K C (.type "object")=some true):TyOf K H (.ref a) (.ref C)
def I1 {x:V}{u t:Value}(I:Inv X Y Z H s)(d:jq x u)(v:TyOf X.K H x t)(e:W.kitOne X.K t c=some b)(h:∀tk,Q (.bool b) { s with toks:=tk }):
 wpAny (model X.prog X.w) A (call (.builtin "isinstance") [u,c]) Q E s:=by
 cases v with
 |non=>cases (d);exact W.kia_one W.kitx_none I.kIn True.intro e (λz=>nomatch z) h
 |bl y=>cases (d);exact W.kia_one W.kitx_bool I.kIn True.intro e (λz=>nomatch z) h
 |int i=>have ⟨t,q⟩:=(d);cases q;exact W.kia_one W.kitx_int I.kIn True.intro e (λz=>nomatch z) h
 |str y=>have ⟨t,q⟩:=(d);cases q;exact W.kia_one W.kitx_str I.kIn True.intro e (λz=>nomatch z) h
 |flt y=>have ⟨t,q⟩:=(d);cases q;exact W.kia_one W.kitx_float I.kIn True.intro e (λz=>nomatch z) h
 | @lst a xs f =>
  cases (d);obtain⟨_,_,n,_,g⟩:=(I.hok a _ f);exact W.kia_one W.kitx_list I.kIn ⟨_,g,rfl⟩ e (λz=>nomatch z) h
 | @frz a L xs f =>
  cases (d);obtain⟨_,_,_,n,_,g⟩:=(I.hok a _ f);exact W.kia_one W.kitx_list I.kIn ⟨_,g,rfl⟩ e (λz=>nomatch z) h
 | @tup a xs f =>
  cases (d);obtain⟨_,_,_,p⟩:=(I.hok a _ f);obtain⟨o,g,j,_⟩:=p;exact W.kia_one W.kitx_tuple I.kIn ⟨o,g,j⟩ e (λz=>nomatch z) h
 | @dK a l f =>
  cases (d);obtain⟨_,_,M,_,p⟩:=(I.hok a _ f);obtain⟨o,w,B,g,j,_⟩:=p;exact W.kia_one W.kitx_dict I.kIn ⟨o,g,j.1⟩ e (λz=>nomatch z) h
 | @dT a l f =>
  cases (d);obtain⟨_,_,xs,_,o,w,B,g,j,_⟩:=(I.hok a _ f);exact W.kia_one W.kitx_dict I.kIn ⟨o,g,j.1⟩ e (λz=>nomatch z) h
 | @ins a C N fs f r F G m K =>
  cases (d);obtain⟨P,O,_⟩:=A9 I.hok f;obtain⟨R,J,_⟩:=O.look;exact W.kia_one (W.kitx_own (r.get _) r.hd F G m K) I.kIn J e (λz=>nomatch z) h
end
structure Room (k:Nat)(A:Around):Prop where
 hd:A.handled=none
 dp:A.depth+3*k+5<recursionLimit
 un:A.units+16*k+200<cLine
def Room.mono {j k:Nat}{A:Around}(r:Room k A)(h:j<=k):Room j A:=⟨r.hd,by have:=r.dp;lia,by have:=r.un;lia⟩
theorem Room.deeper {k:Nat}{A:Around}(r:Room (k+1) A)(env):Room k (A.deeper env):=
 ⟨r.hd,by have:=r.dp;show A.depth+1+3*k+5<_;lia,by have:=r.un;show A.units+3+16*k+200<_;lia⟩
def IA {A:Around}{C:Addr}{a:Yd}{b:List (Str×Value)}:(A.under (.builtin "type.__call__" ⟨.ref C::a,b⟩)).depth=A.depth+1:=by
 rfl
def IB {A:Around}{C:Addr}{a:Yd}{b:List (Str×Value)}:(A.under (.builtin "type.__call__" ⟨.ref C::a,b⟩)).units=A.units+1:=by
 rfl
def Room.make {k:Nat}{A:Around}(r:Room (k+1) A)(C)(us)(kw):Room k (A.under (.builtin "type.__call__" ⟨.ref C::us,kw⟩)):=
 ⟨r.hd,by have:=r.dp;rw[IA];lia,by have:=r.un;rw[IB];lia⟩
theorem Room.depth {k:Nat}{A:Around}(r:Room k A):A.depth<recursionLimit:=by have:=r.dp;lia
theorem Room.units {k:Nat}{A:Around}(r:Room k A):A.units+64<cLine:=by have:=r.un;lia
def uS:TA:=λ_ H Q=>Q [] H
def Dj (a:TE)(b:TA):TA:=λZ H Q=>a Z H λx c=>b Z c λxs d=>Q (x::xs) d
section
variable {X:Cx}{e:Expr}{es:Yj}{te:TE}{t:TA}{pos:Pos}
def W1:PA X [] uS:=λ_ _ _ _ H Q I h=>Calls.spliced_nil ⟨[],H,I,.nil,h⟩
def W2 (a:PE X e te)(b:PA X es t)(c:starEach (e::es) X.env=(false,eval e X.env)::starEach es X.env:=by rfl):PA X (e::es) (Dj te t):=by
 intro pos Y s Z H Q I h;rw[c];exact Calls.spliced_cons (j5 (a Y s Z H _ I h) λu d ⟨x,f,g,i,j⟩=>(j5 (b pos Y d Z f _ g j) λp q ⟨xs,l,m,n,o⟩=>⟨x::xs,l,m,.cons i n,o⟩))
def tu (t:TA):TE:=λZ H Q=>t Z H λxs a=>xs.length<=sizeLine/\∀p,a p=none->Q (.ref p) (upd a p (.tup xs))
def t6 (t:TA):TE:=λZ H Q=>t Z H λxs a=>xs.length<=sizeLine/\∀p,a p=none->Q (.ref p) (upd a p (.lst xs))
def IC {x1}(h:PA X es t):PE X (.Tuple es x1 pos) (tu t):=λY s Z H Q I d=>wpAny_Tuple_spliced (j5 (h pos Y s Z H _ I d) λf a ⟨xs,g,c,r,z,q⟩=>⟨by rwa [<- r.length],⟨.ref a.heap.objs.size,upd g a.heap.objs.size (.tup xs),c.laid (λb u e=>Zq _ e) (Zf _) (⟨⟨z,⟨_,Zr _ rfl,rfl⟩⟩,f,r,⟨_,Zr _ rfl,rfl,_,rfl⟩⟩),rfl,q _ (c.hok.fresh (Zf _))⟩⟩)
def Dk (h:PA X es t):PE X (.List es pos) (t6 t):=λY s Z H Q I d=>wpAny_List_spliced (j5 (h pos Y s Z H _ I d) λf a ⟨xs,g,c,r,z,q⟩=>⟨by rwa [<- r.length],⟨.ref a.heap.objs.size,upd g a.heap.objs.size (.lst xs),c.laid (λb u e=>Zq _ e) (Zf _) ⟨z,f,0,r,Zr _ rfl⟩,rfl,q _ (c.hok.fresh (Zf _))⟩⟩)
end
abbrev Sp:=Yr->Hp->VK->XK->Prop
abbrev zk:=List Env->Hp->Shared->XK->Ya
structure Env0 (P:Program)(w:World)(K:W.Frag)(mg:Yc)(base:Heap)(A:Around)(outer:List Env)(s:Shared)(H:Hp):Prop where
 frames:A.frames=some outer
 mod:Mod K mg base
 bs:∀b o,base.get? b=some o->s.heap.get? b=some o/\H b=none
 bsz:base.objs.size<=s.heap.objs.size
 funs:s.heap.FunFrames base outer
 frf:∀b∈frs outer,H b=none
 hok:qQ P w H s.heap
 bare:AllBare s.gens
def CE (a:List Env)(P:Program)(w:World)(H:Hp)(s:Shared)(Q:VK)(u:Value)(s':Shared):Prop:=
 ∃v b,s'.os=s.os/\AllBare s'.gens/\Un (frs a) [] H b s.heap s'.heap/\qQ P w b s'.heap/\jq v u/\Q v b
def CR (CX:zk)(a:List Env)(P:Program)(w:World)(H:Hp)(s:Shared)(Q:VK)(E:XK)(r:Result)(s':Shared):Prop:=
 match r with
 | .ok (.ret u)=>CE a P w H s Q u s'
 | .ok _=>False
 | .error e=>CX a H s E e s'
structure FnOk (P:Program)(w:World)(K:W.Frag)(mg:Yc)(base:Heap)(CX:zk)(k:Nat)(f:Addr)(fd:FuncData)(ps:Yh)(sp:Sp):Prop where
 len:∀vs H Q E,sp vs H Q E->vs.length=ps.length
 run:∀(A:Around) (outer:List Env) (s:Shared) (H:Hp) (args:Args) (us:Yd) (vs:Yr) (Q:VK) (E:XK),Room k A->Env0 P w K mg base A outer s H->BindsTo s fd args (ps.zip us)->js vs us->sp vs H Q E ->
  codeAny (model P w) A (.call (.ref f) args) (CR CX outer P w H s Q E) s
theorem FnOk.mono {P:Program}{w:World}{K:W.Frag}{b:Yc}{base:Heap}{CX:zk}{j k:Nat}{f:Addr}{c:FuncData}{d:Yh}{sp:Sp}(F:FnOk P w K b base CX j f c d sp)(h:j<=k):
 FnOk P w K b base CX k f c d sp:=⟨F.len,λA a s H args e g Q E i=>F.run A a s H args e g Q E (i.mono h)⟩
def FnOk.imp {P:Program}{w:World}{K:W.Frag}{d:Yc}{base:Heap}{CX:zk}{k:Nat}{f:Addr}{e:FuncData}{g:Yh}{sp c:Sp}(F:FnOk P w K d base CX k f e g sp)
 (h:∀b H Q E,c b H Q E->sp b H Q E):FnOk P w K d base CX k f e g c:=
 ⟨λb H Q E q=>F.len b H Q E (h _ _ _ _ q),λA a s H args i b Q E j l m n o=>F.run A a s H args i b Q E j l m n (h _ _ _ _ o)⟩
def Env0.make {P:Program}{w:World}{K:W.Frag}{b:Yc}{base:Heap}{A:Around}{a:List Env}{s:Shared}{H:Hp}(e:Env0 P w K b base A a s H)(C)(us)(kw):
 Env0 P w K b base (A.under (.builtin "type.__call__" ⟨.ref C::us,kw⟩)) a s H:=⟨by first|exact e.frames|(simpa using e.frames),e.mod,e.bs,e.bsz,e.funs,e.frf,e.hok,e.bare⟩
section
variable {X:Cx}{Y:Yb}{Z: St}{H:Hp}{s s':Shared}
def Inv.env0 (I:Inv X Y Z H s):Env0 X.prog X.w X.K X.mg X.base X.A X.stack s H:=
 ⟨I.ok.frames,I.ok.mod,I.bs,Zh I.ok.bsz I.sz,I.stack,I.stkFree,I.hok,I.bare⟩
def Inv.after {Q:VK}{u:Value}(I:Inv X Y Z H s)(h:CE X.stack X.prog X.w H s Q u s'):EP X Y Z Q u s':=by
 obtain⟨v,c,os,bare,un,a,r,q⟩:=h;obtain⟨f,g,d,t,e⟩:=s';obtain rfl:=os;exact⟨v,c,I.call un a bare (λb z=>Zn z ()),r,q⟩
end
def AA (sp:Sp)(a:Yr)(E:XK)(t:TA):TE:=λZ H Q=>t Z H λb c=>sp (b++a) c Q E
def uU (C:Addr)(sp:Sp)(b:Yr)(E:XK)(t:TA):TE:=λZ H Q=>t Z H λd c=>∀x a,c x=none->c a=none->a≠x ->
 sp (.ref x::(d++b)) (upd (upd c a (.own x)) x (.ins C a [])) (λv e=>v=.non/\Q (.ref x) e) E
def yP (K:W.Frag)(c:FuncData)(b:Yh)(ds:Yd):Prop:=
 ∀(s:Shared) (a:Yd),K.In s.heap->(a++ds).length=b.length->BindsTo s c ⟨a,[]⟩ (b.zip (a++ds))
def yP.all {K:W.Frag}{c:FuncData}{b:Yh}(h:∀a:Yd,a.length=b.length->bindArgs c ⟨a,[]⟩=pure (b.zip a)):yP K c b []:=λs a _ d=>by
 rw[ZA] at d ⊢;exact .of_eq (h a d)
def W3 (CX:zk)(X:Cx)(E:XK):Prop:=∀(Y:Yb) (Z: St) (H:Hp) (s:Shared) (e:Value) (s':Shared),Inv X Y Z H s->CX X.stack H s E e s'->X.xe e s'
section
variable {X:Cx}{CX:zk}{k:Nat}{f C:Addr}{fd:FuncData}{ps:Yh}{sp:Sp}{dvs:Yr}{ds:Yd}{E:XK}{x m:Str}{p pos apos:Pos}{e o:Expr}{es:Yj}{ta:TE}{t:TA}
def ID {Y:Yb}{Z: St}{H:Hp}{s:Shared}{Q:VK}{a:Yd}{c:Yr}(F:FnOk X.prog X.w X.K X.mg X.base CX k f fd ps sp)(g:Room k X.A)(i:yP X.K fd ps ds)(j:js dvs ds)(hx:W3 CX X E)
 (I:Inv X Y Z H s) (r:js c a) (h:sp (c++dvs) H Q E):Yv X (call (.ref f) a) (EP X Y Z Q) X.xe s:=by
 have d:=r.append j;have l:(a++ds).length=ps.length:=by rw[<- d.length];exact F.len _ _ _ _ h
 refine wpAny_call (codeAny_mono (F.run X.A X.stack s H ⟨a,[]⟩ (a++ds) (c++dvs) Q E g I.env0 (i s a I.kIn l) d h) λr s' b=>?_);cases r with
 |error e=>exact hx Y Z H s e s' I b
 |ok n =>
  cases n with
  |ret u=>exact I.after b
  |next=>exact False.elim b
  |brk=>exact False.elim b
  |cont=>exact False.elim b
def Dl (F:FnOk X.prog X.w X.K X.mg X.base CX k f fd ps sp)(d:Room k X.A)(g:Gl X x)(i:X.mg x=some (.ref f))(j:W.keepIn X.K (.ref f)=true)(l:yP X.K fd ps ds)(n:js dvs ds)(hx:W3 CX X E)
 (u:PA X (e::es) t) (a:(x == ("__debug__" : Str))=false:=by decide) (v:starEach (e::es) X.env=(false,eval e X.env)::starEach es X.env:=by rfl) (b:(backTo pos (starEach es X.env)).any (·.1)=false:=by rfl):
 PE X (.Call (.Name x p) (e::es) [] pos) (AA sp dvs E t):=by
 intro Y s Z H Q I h;exact wpAny_Call_Name_kw (V0 I g i (W.callWith_K I.ok.mod.kin j (j5 (u pos Y s Z H _ I h) λw y ⟨z,A,c,r,q⟩=>⟨c.kIn,ID F d l n hx c r q⟩) v b) a)
structure Mk (K:W.Frag)(C f:Addr):Prop where
 makes:W.makesIn K C=true
 init:W.findIn K (.ref C) "__init__" = some (some (.ref f))
 fn:W.isFn K (.ref f)=true
 kp:W.keepIn K (.ref C)=true
def IE {Y:Yb}{Z: St}{H:Hp}{s:Shared}{Q:VK}{b:Yd}{g:Yr}(M:Mk X.K C f)(F:FnOk X.prog X.w X.K X.mg X.base CX k f fd ps sp)(l:Room (k+1) X.A)(n:yP X.K fd ps ds)(q:js dvs ds)
 (hx:W3 CX X E) (I:Inv X Y Z H s) (r:js g b)
 (h:∀x c,H x=none->H c=none->c≠x->sp (.ref x::(g++dvs)) (upd (upd H c (.own x)) x (.ins C c [])) (λv w=>v=.non/\Q (.ref x) w) E):
 Yv X (call (.ref C) b) (EP X Y Z Q) X.xe s:=by
 have i:=h (s.heap.objs.size+1) s.heap.objs.size (I.hok.fresh (UE _)) (I.hok.fresh (Zf _)) (Zi (Nat.lt_succ_self _));have d:=Inv.made (C:=C) I;have j:js (V.ref (s.heap.objs.size+1)::(g++dvs)) (Value.ref (s.heap.objs.size+1)::(b++ds)):=.cons rfl (r.append q);have y:(Value.ref (s.heap.objs.size+1)::b++ds).length=ps.length:=by
  have e:=j.length;rw[F.len _ _ _ _ i] at e;exact e.symm
 refine wpAny_call (Ix I.kIn M.makes M.init (Yl.mp M.fn) (codeAny_mono (F.run _ X.stack _ _ ⟨Value.ref (s.heap.objs.size+1)::b,[]⟩ (Value.ref (s.heap.objs.size+1)::(b++ds)) _ _ E (l.make C b [])
  (d.env0.make C b []) (n _ (Value.ref (s.heap.objs.size+1)::b) d.kIn y) j i) λr s' a=>?_))
 cases r with
 |error e=>exact hx Y Z _ _ e s' d a
 |ok z =>
  cases z with
  |ret u =>
   obtain⟨v,A,B,G,J,K⟩:=d.after a;subst J;exact⟨G,⟨V.ref (s.heap.objs.size+1),A,B,rfl,K⟩⟩
  |next=>exact False.elim a
  |brk=>exact False.elim a
  |cont=>exact False.elim a
def Dm (M:Mk X.K C f)(F:FnOk X.prog X.w X.K X.mg X.base CX k f fd ps sp)(d:Room (k+1) X.A)(g:Gl X x)(i:X.mg x=some (.ref C))(j:yP X.K fd ps ds)(l:js dvs ds)(hx:W3 CX X E)
 (n:PA X (e::es) t) (a:(x == ("__debug__" : Str))=false:=by decide) (u:starEach (e::es) X.env=(false,eval e X.env)::starEach es X.env:=by rfl) (b:(backTo pos (starEach es X.env)).any (·.1)=false:=by rfl):
 PE X (.Call (.Name x p) (e::es) [] pos) (uU C sp dvs E t):=λY s Z H Q I h=>wpAny_Call_Name_kw (V0 I g i (W.callWith_K I.ok.mod.kin M.kp (j5 (n pos Y s Z H _ I h) λv w ⟨y,z,c,r,q⟩=>⟨c.kIn,IE M F d j l hx c r q⟩) u b) a)
end
structure FnScope (N P:Yh)(sc:Scope):Prop where
 kind:sc.kind=.function
 co:sc.isCoroutine=false
 gen:sc.isGenerator=false
 nd:N.Nodup
 pre:N.take P.length=P
 par:∀x∈P,sc.names.lookup x=some .local\/sc.names.lookup x=some .cell
 nofree:∀y∈sc.names,y.2 ≠ .free
theorem Dn {kindOf:Str->Option NameKind}{x:Str}:∀{binds:List (Str×Value)} {m:Yc},(∀v,(x,v)∉binds)->bindL kindOf binds m x=m x
 | [],_,_=>rfl
 | (n,v)::r,m,h=>by
  unfold bindL;rw[Dn ()]
  split
  .grind
  .rfl
theorem Dp {kindOf:Str->Option NameKind}{x:Str}:∀{binds:List (Str×Value)} {m:Yc},(∀v,(x,v)∉binds)->bindC kindOf binds m x=m x
 | [],_,_=>rfl
 | (n,v)::r,m,h=>by
  unfold bindC;rw[Dp ()]
  split
  .rfl
  grind
theorem Dq {kindOf:Str->Option NameKind}{x:Str}{v:Value}:∀{P:Yh} {a:Yd} {i:Nat} {m:Yc},P.Nodup->P[i]? = some x->a[i]? = some v->kindOf x=some .local ->
 bindL kindOf (P.zip a) m x=some v
 | [],_,_,_,_,h,_,_=>by simp at h
 |_::_,[],_,_,_,_,h,_=>by simp at h
 |p::P,w::a,0,m,nd,h1,h2,hk=>by
  simp at h1 h2;subst h1;subst h2;show bindL kindOf ((p,w)::P.zip a) m p=_;unfold bindL;rw[Dn λv b=>(Jf.mp nd).1 (List.of_mem_zip b).1,Zd hk];simp
 |p::P,w::a,i+1,m,nd,h1,h2,hk=>by
  show bindL kindOf ((p,w)::P.zip a) m x=_;exact Dq () (by simpa using h1) (by simpa using h2) hk
theorem Ds {kindOf:Str->Option NameKind}{x:Str}{v:Value}:∀{P:Yh} {a:Yd} {i:Nat} {m:Yc},P.Nodup->P[i]? = some x->a[i]? = some v->kindOf x≠some .local ->
 bindC kindOf (P.zip a) m x=some v
 | [],_,_,_,_,h,_,_=>by simp at h
 |_::_,[],_,_,_,_,h,_=>by simp at h
 |p::P,w::a,0,m,nd,h1,h2,hk=>by
  simp at h1 h2;subst h1;subst h2;show bindC kindOf ((p,w)::P.zip a) m p=_;unfold bindC;rw[Dp λv b=>(Jf.mp nd).1 (List.of_mem_zip b).1,Ze hk];simp
 |p::P,w::a,i+1,m,nd,h1,h2,hk=>by
  show bindC kindOf ((p,w)::P.zip a) m x=_;exact Ds () (by simpa using h1) (by simpa using h2) hk
def start (N:Yh)(a:Yr):St:=a.map some++List.replicate (N.length-a.length) none
def jP (CX:zk)(P:Program)(w:World)(K:W.Frag)(mg:Yc)(base:Heap)(N:Yh)(b:Str)(a:Scope)(f:Addr)(cd:Value)(A:Around)(outer:List Env)(s:Shared)(H:Hp)(E:XK):Cx where
 prog:=P
 w:=w
 K:=K
 mg:=mg
 base:=base
 A:=A.deeper (envOfC b a s.heap.objs.size f cd)
 N:=N
 s₀:=s
 H₀:=H
 env:=envOfC b a s.heap.objs.size f cd
 outer:=outer
 stack:=envOfC b a s.heap.objs.size f cd::outer
 ex:=[]
 calm:=true
 fn:=λ_=>true
 pn:=[]
 xe:=λe s'=>wpAny (model P w) (A.deeper (envOfC b a s.heap.objs.size f cd)) (leaving (envOfC b a s.heap.objs.size f cd) e) (λ_ c=>CX outer H s E e c) (λd c=>CX outer H s E d c) s'
def Dt {a:Scope}{n:Nat}{x:Str}(h:a.names.lookup x=some .cell):∃c,(cellsFrom n a.names []).lookup x=some c:=have q:=W.cellsFrom_some a.names n [] (.inl h);Jm.mp q
def IF {CX:zk}{P:Program}{w:World}{K:W.Frag}{B:Yc}{base:Heap}{N l:Yh}{g:Str}{a:Scope}{f:Addr}{cd:Value}{A:Around}{d:List Env}{s G:Shared}{H:Hp}{E:XK}{C:Yd}{m:Yr}
 (S:FnScope N l a) (M:A.handled=none) (j:Env0 P w K B base A d s H) (T:m.length=l.length) (r:js m C)
 (x:InCallC s s.heap.objs.size (bindL (envOfC g a s.heap.objs.size f cd).kindOf (l.zip C) λ_=>none) (cellsFrom (s.heap.objs.size+1) a.names []) (bindC (envOfC g a s.heap.objs.size f cd).kindOf (l.zip C) λ_=>none) G):
 Inv (jP CX P w K B base N g a f cd A d s H E) [] (start N m) H G:=by
 have O:l.length<=N.length:=by have:=Zt List.length S.pre;grind
 obtain⟨F,tk,rfl,I⟩:=x.done;have n:∀b:Addr,b∉(jP CX P w K B base N g a f cd A d s H E).ex:=λb z=>Zn (show b∈([]:Yi) from z) ();refine⟨⟨j.mod,S.kind,rfl,rfl,Zf _,λy z c F J=>?_,λy hy=>?_,λy c _ h=>?_,λ_=>M,Around.frames_deeper j.frames,.inr ⟨rfl,rfl⟩,λb z=>Zn z (n b),j.bs,j.bsz,λb _ _=>n b,(),j.funs,j.frf⟩,
  rfl,j.bare,Un.kept I,⟨_,x.toInCall.ns,λi y v F J U=>?_⟩,λy c h=>⟨_,x.cell y c h⟩,j.hok.fresh (Zf _),λy c h=>?_,λp o=>Zn (show p∈([]:Yb) from o) (),j.hok.kept I,?_⟩
 .exact name_of_addr x.apart (PySem.mem_of_lookup F) (PySem.mem_of_lookup J)
 .have hy:=hy;rcases hy with hy|hy
  .exact Dt hy
  .exact Zn rfl (S.nofree _ (PySem.mem_of_lookup hy))
 .exact Zz (x.above y c (PySem.mem_of_lookup h))
 .have X:i<m.length:=by
   grind[start,List.getElem?_replicate]
  have Q:m[i]? = some v:=by
   grind[start,List.getElem?_map]
  have ⟨u,L,R⟩:=r.get Q;have o:l[i]? = some y:=by
   rwa [<- S.pre,List.getElem?_take_of_lt ()]
  have t:l.Nodup:=by rw[<- S.pre];exact S.nd.sublist (List.take_sublist _ _)
  refine⟨u,R,?_⟩;rcases S.par y (Uh o) with k|k
  .exact .inl ⟨k,Dq t o L k⟩
  .obtain⟨c,e⟩:=Dt k;refine .inr ⟨.inl k,c,e,?_⟩;have q:=x.cell y c e
   rwa [Ds t o L (by show a.names.lookup y≠_;simp_all)] at q
 .exact j.hok.fresh (Zz (x.above y c (PySem.mem_of_lookup h)))
 .unfold start;show _=N.length
  simp_all
def Du {CX:zk}{P:Program}{w:World}{K:W.Frag}{M:Yc}{base:Heap}{k:Nat}{f:Addr}{l d:Str}{h:Arguments}{i:List Stmt}{a:Scope}{Z kV C pm g ct oc:Value}{an od:Option Addr}
 {T:Array Ye} {N O:Yh} {sp:Sp} (lk:K.lookup f=some ⟨oc,od,.func (W.fnOf l d h i a Z kV C pm an g ct),T⟩) (U:W.codeIn K g d=true) (S:FnScope N O a)
 (len:∀j H Q E,sp j H Q E->j.length=O.length)
 (p:∀A c s H j Q E,Room k (A.deeper (envOfC d a s.heap.objs.size f g))->sp j H Q E ->
  ∃t,qY (jP CX P w K M base N d a f g A c s H E) i t/\t { nx:=λ_ m=>Q .non m,rt:=Q } (start N j) H):
 FnOk P w K M base CX (k+1) f (W.fnOf l d h i a Z kV C pm an g ct) O sp:=by
 refine⟨len,λA c s H args us j Q E X F hb r G=>?_⟩;have KX:=F.mod.kin.keeps λb o e=>(F.bs b o e).1;have z:∀y∈O.zip us,a.names.lookup y.1=some .local\/(a.names.lookup y.1=some .cell/\((cellsFrom (s.heap.objs.size+1) a.names []).lookup y.1).isSome=true):=λ⟨n,v⟩ hy=>by
  rcases S.par n (List.of_mem_zip hy).1 with q|q
  .exact .inl q
  .exact .inr ⟨q,W.cellsFrom_some _ _ _ (.inl q)⟩
 refine codeAny_call_function X.depth (KX _ _ lk) rfl S.co S.gen rfl (W.codeRec_of KX U) (hb _ _ _ _ (wpAny_newFunctionEnv_cells S.kind z λenv he s1 x=>?_));subst he;refine⟨(F.mod.nolimit.keeps λb o e=>(F.bs b o e).1).keeps x.toInCall.keep,codeAny_func ?_⟩;obtain⟨t,ht,hq⟩:=p A c s H j Q E (X.deeper _) G;have I:Inv (jP CX P w K M base N d a f g A c s H E) [] (start N j) H s1:=IF S X.hd F (len _ _ _ _ G) r x;refine Zc (ht [] s1 (start N j) H _ I hq) (λfl s' B=>?_) λe s' B=>B;have L:∀{R:St} {m:Hp} {v:V} {u:Value},Inv (jP CX P w K M base N d a f g A c s H E) [] R m s'->jq v u->Q v m->CE c P w H s Q u s':=
  λ{R m v u} J Y q=>⟨v,m,J.os,J.bare,J.base,J.hok,Y,q⟩
 cases fl with
 |ret u =>
  obtain⟨v,R,m,J,Y,q⟩:=B;exact L J Y q
 |next =>
  obtain⟨R,m,J,q⟩:=B;exact L (v:=V.non) J rfl q
 |brk =>
  obtain⟨_,_,_,q⟩:=B;exact False.elim q
 |cont =>
  obtain⟨_,_,_,q⟩:=B;exact False.elim q
section
variable {X:Cx}{x:Str}{p pos:Pos}{e:Expr}{es:Yj}{t:TA}{id T:String}{r:Yr->Hp->VK->Prop}
def nv (r:Yr->Hp->VK->Prop)(t:TA):TE:=λZ H Q=>t Z H λa b=>r a b Q
def Dv (c:qc X (.builtin id) r)(d:Gl X x)(f:X.mg x=none)(g:bootBuiltins x=some (.builtin id))(i:PA X (e::es) t)(j:x ≠ "__name__" := by decide)(a:(x == ("__debug__" : Str))=false:=by decide)
 (l:starEach (e::es) X.env=(false,eval e X.env)::starEach es X.env:=by rfl) (b:(backTo pos (starEach es X.env)).any (·.1)=false:=by rfl):PE X (.Call (.Name x p) (e::es) [] pos) (nv r t):=λY s Z H Q I h=>wpAny_Call_Name_kw (VY I d f g (PyProof.Rows.callWith_builtin1 (j5 (i pos Y s Z H _ I h) λm n ⟨o,q,u,v,w⟩=>c Y n Z q o m Q u v w) l b) j a)
def AB (c:qc X (.type T) r)(d:Gl X x)(f:X.mg x=none)(g:bootBuiltins x=some (.type T))(i:PA X (e::es) t)(j:x ≠ "__name__" := by decide)(a:(x == ("__debug__" : Str))=false:=by decide)
 (l:starEach (e::es) X.env=(false,eval e X.env)::starEach es X.env:=by rfl) (b:(backTo pos (starEach es X.env)).any (·.1)=false:=by rfl):PE X (.Call (.Name x p) (e::es) [] pos) (nv r t):=λY s Z H Q I h=>wpAny_Call_Name_kw (VY I d f g (PyProof.Rows.callWith_type1 (j5 (i pos Y s Z H _ I h) λm n ⟨o,q,u,v,w⟩=>c Y n Z q o m Q u v w) l b) j a)
end
end L2
namespace HT
open PySem PyProof.Rows
section
open PySem.SeqAt
open PySem.AutoSeq1 (wpAny_loadPart')
open PySem.MeetsSeq PySem.MeetsSeq2 PySem.MeetsSeq3
end
section
variable {prog:Program}{w:World}{A:Around}{E:Ya}{s:Shared}
def cat_tup {t b:Addr}{c ws:Yd}{Q:Ya}(o:IsTup s.heap t c.toArray)(p:IsTup s.heap b ws.toArray)(q:c ≠ [])
 (r:ws=[]->Q (.ref t) s) (u:ws ≠ []->Q (.ref s.heap.objs.size) { s with heap:=s.heap.push { cls:=.type "tuple",data:=.seq (c++ws).toArray } })
 (hsz:c.length+ws.length<=sizeLine):Yw prog w A (binaryOp .Add (.ref t) (.ref b)) Q E s:=by
 obtain⟨⟨cls,dd,data,j⟩,g,v,n,x⟩:=id o;obtain⟨⟨l,d,data2,f⟩,a,h,m,i⟩:=id p;subst v x h i;have e:c.toArray++ws.toArray=(c++ws).toArray:=by simp
 by_cases hw:ws=[]
 .exact concat_meets ⟨_,g,rfl⟩ ⟨_,a,rfl⟩ noFill_tuple_add seq_tuple_add PySem.F.slot_tuple_add PySem.F.entry_tuple_add (PySem.F.args_tuple_add_2 _ _)
   (tuple_addW1 t b c.toArray ws.toArray n m dd d j f () (by simp[hw])) ⟨g,a,r hw⟩
 .refine concat_meets ⟨_,g,rfl⟩ ⟨_,a,rfl⟩ noFill_tuple_add seq_tuple_add PySem.F.slot_tuple_add PySem.F.entry_tuple_add (PySem.F.args_tuple_add_2 _ _)
   (tuple_addW2 t b c.toArray ws.toArray n m dd d j f (by simpa using q) (by simpa using hw) ()) ⟨g,a,?_⟩
  rw[e];exact u hw
def sIx (n d:Nat):Option Int->Nat
 |none=>d
 |some v=>if v<0 then(v+(n:Int)).toNat else min v.toNat n
end
end HT
namespace L2
abbrev TO:=St->Hp->(Option Int->Hp->Prop)->Prop
def PO (X:Cx)(e:Option Expr)(t:TO):Prop:=
 ∀(Y:Yb) (s:Shared) (Z: St) (H:Hp) (Q:Option Int->Hp->Prop),Inv X Y Z H s->t Z H Q ->
  Yv X (evalPart e X.env) (λu s'=>∃o a,Inv X Y Z a s'/\IsPart u o/\Q o a) X.xe s
def IG:TO:=λ_ H Q=>Q none H
def uQ (t:TE):TO:=λZ H Q=>t Z H λx a=>∃i,x=.int i/\Q (some i) a
def IH {ns:Yf}:∀{a:Yd},js (ns.map V.int) a->IntsAre a ns:=by
 induction ns with
 |nil=>intro a r;cases r;exact .nil
 |cons n ns b =>
  intro a r;cases r with
  |cons c d =>
   obtain⟨t,e⟩:=c;subst e;exact .cons n t (b d)
section
variable {X:Cx}{e:Expr}{te:TE}{lo hi:Option Expr}{tl th:TO}{pos p2:Pos}
def II:PO X none IG:=λY s Z H Q I h=>Zb ⟨none,H,I,.none,h⟩
def IJ (h:PE X e te):PO X (some e) (uQ te):=by
 intro Y s Z H Q I hw;refine j5 (h Y s Z H _ I hw) λu f ⟨x,a,b,c,d⟩=>?_;obtain⟨i,rfl,q⟩:=d;obtain⟨t,rfl⟩:=c;exact⟨some i,a,b,.int i t,q⟩
def kL (K:W.Frag):R2:=λx y H Q=>∃a b xs c,x=.ref a/\y=.ref b/\xJ K H a xs/\xJ K H b c/\xs ≠ []/\xs.length+c.length<=sizeLine /\
 (c=[]->Q (.ref a) H)/\(c ≠ []->∀p,H p=none->Q (.ref p) (upd H p (.tup (xs++c))))
def js.nil_iff {xs:Yr}{a:Yd}(r:js xs a):a=[]↔xs=[]:=by
 cases r with
 |nil=>simp
 |cons _ _=>simp
def IK:qA X (binaryOp .Add) (kL X.K):=by
 intro Y s Z H x y v u Q I g i h;obtain⟨a,b,xs,r,rfl,rfl,j,l,hx,t,m,n⟩:=h;cases g;cases i;obtain⟨o,d,p,_⟩:=I.tuple j;obtain⟨f,c,p2,_⟩:=I.tuple l;refine HT.cat_tup p p2 (λz=>hx (d.nil_iff.mp z)) (λz=>⟨.ref a,H,I,rfl,m (c.nil_iff.mp z)⟩) (λz=>⟨.ref s.heap.objs.size,_,I.laid (λb A q=>Zq _ q) (Zf _) ?_,rfl,n (λw=>z (c.nil_iff.mpr w)) _ (I.hok.fresh (Zf _))⟩) (by rwa [<- d.length,<- c.length]);exact⟨⟨(),⟨_,Zr _ rfl,rfl⟩⟩,_,d.append c,IsTup.new _ _⟩
end
def yu (n:Nat)(i:Int):Option Nat:=if 0<=i then(if i<n then some i.toNat else none) else if -(n:Int)<=i then some (i+n).toNat else none
def jR {α: Type}(xs:List α)(i:Int):Option α:= (yu xs.length i).bind λj=>xs[j]?
def IL {n:Nat}{i:Int}{j:Nat}(h:yu n i=some j):seqIndex? i n=some j/\j<n /\ -(n:Int)<=i/\i<n:=by
 grind[yu,Zqi,seqIndex_of,seqIndex_neg]
def AC {α: Type}{xs:List α}{i:Int}{v:α}(h:jR xs i=some v):∃j,seqIndex? i xs.length=some j/\xs[j]? = some v/\j<xs.length /\ -(xs.length:Int)<=i/\i<xs.length:=by
 unfold jR at h;cases e:yu xs.length i with
 |none=>simp_all
 |some j =>
  rw[e] at h;obtain⟨a,b,c,d⟩:=IL e;exact⟨j,a,h,b,c,d⟩
def AD (b:Expr):Prop:=∀o i,subscripted b false o i=operate [o,i] (getItem o i)
def yS (X:Cx)(r:R2):Prop:=
 ∀(b a:Expr) (Y:Yb) (s:Shared) (Z: St) (H:Hp) (x y:V) (v u:Value) (Q:VK),Inv X Y Z H s->jq x v->jq y u->r x y H Q ->
  subscripted a false v u=operate [v,u] (getItem v u)->Yv X (subscriptTail b a v u) (EP X Y Z Q) X.xe s
def vH (X:Cx)(id:String)(r:V->Yr->Hp->VK->Prop):Prop:=
 ∀(Y:Yb) (s:Shared) (Z: St) (H:Hp) (x:V) (xs:Yr) (v:Value) (a:Yd) (Q:VK),Inv X Y Z H s->jq x v->js xs a->r x xs H Q ->
  Yv X (call (.builtin id) (v::a)) (EP X Y Z Q) X.xe s
section
variable {X:Cx}{a b:Expr}{ta tb:TE}{pos:Pos}
def yS.or {r e:R2}(h:yS X r)(h':yS X e):yS X (λx y H Q=>r x y H Q\/e x y H Q):=by
 intro c d Y s Z H x y v u Q I f g q i;rcases q with q|q
 .exact h c d Y s Z H x y v u Q I f g q i
 .exact h' c d Y s Z H x y v u Q I f g q i
def Dw {r:R2}(c:yS X r)(d:PE X a ta)(e:PE X b tb)(f:AD b):PE X (.Subscript a b pos) (vn r ta tb):=λY s Z H Q I h=>Subscript_ (vA d e I h λv u g x y i j l m q=>c a b Y g Z i x y v u Q j l m q (f _ _))
def kJ (K:W.Frag):R2:=λx y H Q=>∃p xs i v,x=.ref p/\y=.int i/\qC K H p xs/\jR xs i=some v/\Q v H
def kH (K:W.Frag):R2:=λx y H Q=>∃p xs i v,x=.ref p/\y=.int i/\xJ K H p xs/\jR xs i=some v/\Q v H
def kI:R2:=λx y H Q=>∃z i c,x=.str z/\y=.int i/\z.length<=sizeLine/\jR z.cps.toList i=some c/\Q (.str ⟨#[c]⟩) H
def cO:yS X (kJ X.K):=by
 intro d e Y s Z H x y v u Q I C E h n;obtain⟨p,xs,i,z,rfl,rfl,F,G,q⟩:=h;cases C;obtain⟨t,rfl⟩:=E;obtain⟨f,r,g,M⟩:=I.list F;obtain⟨j,o,J,N,K,L⟩:=AC G;obtain⟨w,A,l⟩:=r.get J;have O:=r.length;have P:=Xj;have c:EP X Y Z Q w s:=⟨z,H,I,l,q⟩;by_cases B:0<=i
 .have m:i.toNat=j:=by
   rw[seqIndex_of B L] at o
   simp_all
  exact item_listR g.isList B () (by rw[m];simpa using A) c n
 .have m:(i+(f.toArray.size:Int)).toNat=j:=by
   rw[seqIndex_neg () K] at o
   simp_all
  exact subscriptTail_builtinR g.isList.typeIs slot_list_getitem.lookup
   (wpAny_getItem_list_neg g.isList () () () (by rw[m];simpa using A) ⟨rfl,c⟩) n
def pB:yS X (kH X.K):=by
 intro c d Y s Z H x y v u Q I l m h n;obtain⟨p,xs,i,z,rfl,rfl,o,A,q⟩:=h;cases l;obtain⟨t,rfl⟩:=m;obtain⟨B,r,g,F⟩:=I.tuple o;obtain⟨j,G,C,J,K,L⟩:=AC A;obtain⟨w,E,e⟩:=r.get C;have M:=r.length;have N:=Xj;have f:EP X Y Z Q w s:=⟨z,H,I,e,q⟩;exact subscriptTail_builtinR g.typeIs slot_tuple_getitem.lookup
  (getItem_tuple (j:=j) g () () () (by simpa using E) ⟨rfl,f⟩) n
def IM:yS X kI:=by
 intro d e Y s Z H x y v u Q I g l h m;obtain⟨z,i,c,rfl,rfl,A,n,q⟩:=h;obtain⟨t,rfl⟩:=g;obtain⟨t',rfl⟩:=l;obtain⟨j,f,o,B,p,r⟩:=AC n;have w:z.cps.toList.length=z.length:=by rfl
 rw[w] at f p r;have C:=Xj;exact tail_any (typeIs_str s z t) slot_str_getitem.lookup (getItem_str (by
  grind) (by rw[f];simpa using o) ⟨.str ⟨#[c]⟩,H,I.tok _,⟨_,rfl⟩,q⟩) m
def pT (K:W.Frag):R2:=λx y H Q=>kJ K x y H Q\/kH K x y H Q\/kI x y H Q
def IN:yS X (pT X.K):=cO.or (pB.or IM)
def IP:qc X (.builtin "len") (λxs H Q=>∃p c,xs=[.ref p]/\(qC X.K H p c\/xJ X.K H p c)/\Q (.int c.length) H):=by
 intro Y s Z H xs l Q I r h;obtain⟨p,c,rfl,hq,q⟩:=h;obtain⟨u,rfl,i⟩:=Q6 r;cases i;have m:=Xj;rcases hq with hq|hq
 .obtain⟨e,f,g,j⟩:=I.list hq;have d:=f.length;exact Calls.call_len_list g.isList () ⟨.int c.length,H,I.tok _,⟨s.toks+1,()⟩,q⟩
 .obtain⟨e,f,g,j⟩:=I.tuple hq;have d:=f.length;exact len_tuple g () ⟨.int c.length,H,I.tok _,⟨s.toks+1,()⟩,q⟩
def IQ:qc X (.builtin "len") (λxs H Q=>∃z,xs=[.str z]/\z.length<=sizeLine/\Q (.int z.length) H):=by
 intro Y s Z H xs c Q I r h;obtain⟨z,rfl,d,q⟩:=h;obtain⟨u,rfl,t,rfl⟩:=Q6 r;have e:=Xj;exact len_str () ⟨.int z.length,H,I.tok _,⟨_,rfl⟩,q⟩
def qc.or {f:Value}{r c:Yr->Hp->VK->Prop}(h:qc X f r)(h':qc X f c):qc X f (λxs H Q=>r xs H Q\/c xs H Q):=by
 intro Y s Z H xs d Q I rs q;rcases q with q|q
 .exact h Y s Z H xs d Q I rs q
 .exact h' Y s Z H xs d Q I rs q
def IR:qc X (.type "list") (λxs H Q=>∃p d,xs=[.ref p]/\(qC X.K H p d\/xJ X.K H p d)/\∀l,H l=none->Q (.ref l) (upd H l (.lst d))):=by
 intro Y s Z H xs B Q I r h;obtain⟨p,d,rfl,hq,q⟩:=h;obtain⟨u,rfl,A⟩:=Q6 r;cases A;have i:∀c,js d c->d.length<=sizeLine->∀h' f,(∀b z,s.heap.get? b=some z->h'.get? b=some z) ->
  h'.get? s.heap.objs.size=some { cls:=.type "list",dict:=none,data:=.seq c.toArray f,slots:=#[] }->EP X Y Z Q (.ref s.heap.objs.size) { s with heap:=h' }:=λc g j h' f m e =>
  ⟨.ref s.heap.objs.size,_,I.laid m (Zf _) (show xn X.prog X.w _ h' _ (.lst d) from ⟨j,c,f,g,e⟩),rfl,q _ (I.hok.fresh (Zf _))⟩
 rcases hq with hq|hq
 .obtain⟨c,g,v,j⟩:=I.list hq;have t:=g.length;obtain⟨o,w,x,n,y⟩:=v.isList;exact call_list_seq p (.inl rfl) w x y (λh' f m e=>i c g j h' f m e) (by simp<;>lia)
 .obtain⟨c,g,v,j⟩:=I.tuple hq;have t:=g.length;obtain⟨o,w,x,n,y⟩:=v;exact call_list_seq p (.inr rfl) w x y (λh' f m e=>i c g j h' f m e) (by simp<;>lia)
def IS:qc X (.type "tuple") (λxs H Q=>∃p d,xs=[.ref p]/\((qC X.K H p d/\∀l,H l=none->Q (.ref l) (upd H l (.tup d)))\/(xJ X.K H p d/\Q (.ref p) H))):=by
 intro Y s Z H xs x Q I r h;obtain⟨p,d,rfl,h⟩:=h;obtain⟨u,rfl,t⟩:=Q6 r;cases t;rcases h with ⟨f,q⟩|⟨f,q⟩
 .obtain⟨c,g,i,j⟩:=I.list f;have m:=g.length;refine call_tuple_list i.isList (λh' v=>?_) ();have n:Inv X Y Z H { s with heap:=h' }:=I.kept v;have w:Inv X Y Z (upd H h'.objs.size (.tup d)) { s with heap:=h'.push { cls:=.type "tuple",data:=.seq c.toArray } } :=
   n.laid (λb o e=>Zq _ e) (Zf _) (⟨⟨j,⟨_,Zr _ rfl,rfl⟩⟩,c,g,IsTup.new _ _⟩)
  exact⟨.ref h'.objs.size,_,w,rfl,q _ (n.hok.fresh (Zf _))⟩
 .obtain⟨c,g,i,j⟩:=I.tuple f;exact call_tuple_same i ⟨.ref p,H,I,rfl,q⟩
def ti (K:W.Frag)(T:String)(x:V)(H:Hp):Prop:=match x with
 | .str _=>T = "str"
 | .int _=>T = "int"
 | .ref p=>(T = "list" /\ ∃xs,qC K H p xs)\/(T = "tuple" /\ ∃o,K.lookup p=some o/\o.cls=.type "tuple" /\ o.dict=none) \/
  (T = "dict" /\ ((∃c,H p=some (.dK c))\/∃c,H p=some (.dT c)))\/(T = "set" /\ ∃S n,H p=some (.set S n))
 |_=>False
def Dx {Y:Yb}{Z: St}{H:Hp}{s:Shared}{T:String}{x:V}{v:Value}(I:Inv X Y Z H s)(r:jq x v)(g:ti X.K T x H):
 s.TypeIs v T/\∀a,v=.ref a->∃m,s.heap.get? a=some m/\m.dict=none:=by
 cases x with
 |str z =>
  obtain⟨t,rfl⟩:=r;cases (g);exact⟨typeIs_str s z t,λ_ e=>nomatch e⟩
 |int i =>
  obtain⟨t,rfl⟩:=r;cases (g);exact⟨typeIs_int s i t,λ_ e=>nomatch e⟩
 |ref p =>
  cases r;rcases g with ⟨rfl,xs,u⟩|⟨rfl,o,d,w,h⟩|⟨rfl,d⟩|⟨rfl,S,n,d⟩
  .obtain⟨y,_,q,_⟩:=I.list u;refine⟨q.isList.typeIs,λa e=>?_⟩;cases e;obtain⟨o,n,e,c,h,_⟩:=q;exact⟨o,e,h⟩
  .refine⟨⟨o,I.kIn p o d,w⟩,λa e=>?_⟩;cases e;exact⟨o,I.kIn _ o d,h⟩
  .have z:∃o,s.heap.get? p=some o/\o.ExactDict:=by
    rcases d with ⟨j,d⟩|⟨j,d⟩
    .obtain⟨_,_,_,_,o,_,_,e,f,_⟩:=I.hok p _ d;exact⟨o,e,f⟩
    .obtain⟨_,_,_,_,o,_,_,e,f,_⟩:=I.hok p _ d;exact⟨o,e,f⟩
   obtain⟨o,e,f⟩:=z;refine⟨⟨o,e,f.1⟩,λa l=>?_⟩;cases l;exact⟨o,e,f.2.1⟩
  .obtain⟨o,_,_,_,e,f,_⟩:=I.hok p _ d;refine⟨⟨o,e,f.1⟩,λa l=>?_⟩;cases l;exact⟨o,e,f.2.1⟩
 |_=>exact False.elim g
def kc (K:W.Frag)(T:String)(r:V->Yr->Hp->VK->Prop)(d:TE):TE:=λZ H Q=>d Z H λx c=>ti K T x c/\r x [] c Q
def vP (K:W.Frag)(T:String)(r:V->Yr->Hp->VK->Prop)(d:TE)(t:TA):TE:=λZ H Q=>d Z H λx c=>ti K T x c/\t Z c λxs e=>r x xs e Q
variable {o e:Expr}{es:Yj}{to:TE}{t:TA}{name:Str}{apos cpos:Pos}{T id:String}{r:V->Yr->Hp->VK->Prop}
def IT (l:PlainAttrs T)(f:Slot T name id)(g:typeOf (.builtin id)=pure (.type "method_descriptor"))(m:vH X id r)(n:PE X o to)
 (c:attributeBase o name X.env (eval o X.env)=eval o X.env:=by rfl) (d:(apos.endLine == cpos.line)=true:=by rfl):PE X (.Call (.Attribute o name apos) [] [] cpos) (kc X.K T r to):=by
 intro Y s Z H Q I h;refine wpAny_Call_method0_late c d (j5 (n Y s Z H _ I h) λv p ⟨x,q,i,j,u,w⟩=>?_);obtain⟨y,z⟩:=Dx i j u;exact⟨T,id,l,f,g,y,z,Calls.callWith_builtin rfl (PySem.evalArgs_none (m Y p Z q x [] v [] Q i j .nil w))⟩
def Q7 (p:PlainAttrs T)(g:Slot T name id)(j:typeOf (.builtin id)=pure (.type "method_descriptor"))(q:vH X id r)(u:PE X o to)(w:PA X (e::es) t)
 (d:attributeBase o name X.env (eval o X.env)=eval o X.env:=by rfl)
 (i:((backTo cpos (starEach (e::es) X.env)).all (λx => !x.1)&&(backToKw cpos (keywordEach [] X.env)).all (λx=>x.1.isSome)
  && decide ((e::es).length+([]:List Keyword).length+(if([]:List Keyword).isEmpty then 0 else 1)<30))=true:=by rfl)
 (f:(apos.endLine == cpos.line)=true:=by rfl) (y:starEach (e::es) X.env=(false,eval e X.env)::starEach es X.env:=by rfl) (c:(backTo cpos (starEach es X.env)).any (·.1)=false:=by rfl):
 PE X (.Call (.Attribute o name apos) (e::es) [] cpos) (vP X.K T r to t):=by
 intro Y s Z H Q I h;refine wpAny_Call_method_late d i f rfl (j5 (u Y s Z H _ I h) λv z ⟨x,A,l,m,B,C⟩=>?_);obtain⟨E,F⟩:=Dx l m B;refine⟨T,id,p,g,j,E,F,?_⟩;have n:=w cpos Y z Z A _ l C;rw[y] at n ⊢;exact Calls.callWith_builtin (by show(false||(backTo cpos (starEach es X.env)).any (·.1))=false;rw[c]<;>rfl) (Calls.evalArgs_plain (j5 n λG J ⟨K,L,M,N,O⟩=>q Y J Z L x K v G Q M m N O))
end
def p0 (X:Cx)(id:String)(r:V->Yr->Hp->VK->Prop):Prop:=
 ∀(Y:Yb) (s:Shared) (Z: St) (H:Hp) (x:V) (xs:Yr) (v:Value) (a:Yd) (Q:VK),Inv X Y Z H s->jq x v->js xs a->r x xs H Q ->
  Yv X (call (.builtin id) (v::a)) (EP X Y Z Q) X.xe s
def js.one:∀{x:V} {a:Yd},js [x] a->∃u,a=[u]/\jq x u:=λh=>by
 cases h with
 |cons r t=>cases t;exact⟨_,rfl,r⟩
def js.two:∀{x y:V} {a:Yd},js [x,y] a->∃u v,a=[u,v]/\jq x u/\jq y v:=λh=>by
 cases h with
 |cons r t =>
  cases t with
  |cons b t=>cases t;exact⟨_,_,rfl,r,b⟩
def zd:∀{a:Yd},js [] a->a=[]
 |_,.nil=>rfl
section
variable {X:Cx}{Y:Yb}{Z: St}{H:Hp}{s:Shared}{l b:Addr}{xs ys zs:Yr}
def Inv.lset {c a:Yd}{n:Nat}{f:Yk->Array Value}{t':Nat}(I:Inv X Y Z H s)(d:H l=some (.lst xs))
 (e:s.heap.get? l=some { cls:=.type "list",data:=.seq c.toArray n }) (g:f c.toArray=a.toArray) (h:js ys a) (i:ys.length<=sizeLine):
 Inv X Y Z (upd H l (.lst ys)) { s with heap:=s.heap.update l (Obj.mapSeq f),toks:=t' }:=by
 have q:=PySem.IsL.update e f;rw[g] at q;exact I.write (by rw[d];exact trivial) (.inl rfl) (λo u j m=>(Heap.get?_update_other s.heap (Obj.mapSeq f) (Ne.symm j)).trans m) ⟨_,q⟩ ⟨i,a,_,h,q⟩
def Inv.lnew {a:Yd}{t':Nat}(I:Inv X Y Z H s)(c:js ys a)(d:ys.length<=sizeLine):
 Inv X Y Z (upd H s.heap.objs.size (.lst ys)) { s with heap:=s.heap.push { cls:=.type "list",data:=.seq a.toArray },toks:=t' } :=
 I.laid (λ_ _ q=>Zq _ q) (Zf _) ⟨d,a,0,c,Zr _ rfl⟩
theorem Inv.fresh (I:Inv X Y Z H s):H s.heap.objs.size=none:=I.hok.fresh (Zf _)
def Inv.lstM (I:Inv X Y Z H s)(c:H l=some (.lst xs)):xs.length<=sizeLine/\∃(a:Yd) (n:Nat),js xs a/\xs.length=a.length/\s.heap.get? l=some { cls:=.type "list",data:=.seq a.toArray n }:=have ⟨z,a,n,r,e⟩:=I.hok l _ c;⟨z,a,n,r,r.length,e⟩
end
section
variable {X:Cx}
def AE:V->Yr->Hp->VK->Prop:=λx a H Q=>∃l xs y,x=.ref l/\a=[y]/\H l=some (.lst xs)/\xs.length<sizeLine/\Q .non (upd H l (.lst (xs++[y])))
def W4:p0 X "list.append" AE:=by
 intro Y s Z H x g v i Q I c d h;obtain⟨l,xs,y,rfl,rfl,b,j,q⟩:=h;cases c;obtain⟨u,rfl,f⟩:=d.one;obtain⟨z,a,n,r,m,e⟩:=I.lstM b;refine call_meets F.slot_list_append ⟨_,e,rfl⟩ F.entry_list_append (F.args_list_append_2 _ _) (PySem.list_append l a.toArray n u ()) ⟨e,⟨.non,_,I.lset b e () (r.append (.cons f .nil)) ?_,rfl,q⟩⟩
 grind
end
section
variable {prog:Program}{w:World}{A:Around}{E:Ya}{s:Shared}
set_option maxRecDepth 100000 in
end
section
variable {κ: Type}[DecidableEq κ]
def jX (a:List (κ × V))(k:κ):Ys:=(a.find? λb=>decide (b.1=k)).map (·.2)
def xb (a:List (κ × V))(k:κ)(v:V):List (κ × V):=
 if(a.any λb=>decide (b.1=k))=true then a.map (λb=>if b.1=k then(b.1,v) else b) else a++[(k,v)]
def AF {p:κ × V}{r:List (κ × V)}{k:κ}(e:p.1=k):jX (p::r) k=some p.2:=by simp[jX,e]
theorem AG {p:κ × V}{r:List (κ × V)}{k:κ}(e:¬p.1=k):jX (p::r) k=jX r k:=by simp[jX,e]
theorem Dy (k):∀a:List (κ × V),(a.any λb=>decide (b.1=k))=(jX a k).isSome
 | []=>rfl
 |p::r=>by
  rw[List.any_cons];by_cases e:p.1=k
  .simp[AF e,Zp e]
  .rw[AG e,Zo e,Bool.false_or];exact Dy k r
def AH (a:List (κ × V))(k)(v):(xb a k v).length<=a.length+1:=by
 grind[xb,Zql,List.length_append,List.length_cons,List.length_nil]
def xj.isSome_eq {o:Ys}{u:Ye}(r:xj o u):o.isSome=u.isSome:=by
 cases o with
 |none=>cases u with
  |none=>rfl
  |some _=>exact(r).elim
 |some _=>cases u with
  |none=>exact(r).elim
  |some _=>rfl
theorem xj.getD {o:Ys}{u:Ye}{d:V}{d':Value}(r:xj o u)(a:jq d d'):jq (o.getD d) (u.getD d'):=by
 cases o with
 |none=>cases u with
  |none=>exact a
  |some _=>exact(r).elim
 |some _=>cases u with
  |none=>exact(r).elim
  |some _=>exact r
def KV.val {a:List (κ × V)}{c:List (κ × Value)}(r:KV a c)(k):xj (jX a k) (valueAt c k):=by
 induction r with
 |nil=>exact True.intro
 | @cons p q f d h t g =>
  obtain⟨i,j⟩:=h;by_cases e:p.1=k
  .have b:valueAt (q::d) k=some q.2:=by simp_all [valueAt]
   rwa [AF e,b]
  grind[valueAt,AG]
theorem KV.any {a:List (κ × V)}{c:List (κ × Value)}(r:KV a c)(k):(a.any λb=>decide (b.1=k))=c.any λb=>decide (b.1=k):=by
 induction r with
 |nil=>rfl
 |cons h t d=>simp_all
def KV.repl {b:List (κ × V)}{c:List (κ × Value)}(r:KV b c)(k){y:V}{u:Value}(e:jq y u):
 KV (b.map λa=>if a.1=k then(a.1,y) else a) (c.map λa=>if a.1=k then(a.1,u) else a):=by
 induction r with
 |nil=>exact .nil
 | @cons p q f g h t d =>
  refine .cons ?_ d
  grind
def KV.put {a:List (κ × V)}{b:List (κ × Value)}(r:KV a b)(k){y:V}{u:Value}(c:jq y u):KV (xb a k y) (stored b k u):=by
 unfold xb stored;rw[r.any k];by_cases e:(b.any λd=>decide (d.1=k))=true
 .rw[Zd e,Zd e];exact r.repl k c
 .rw[Ze e,Ze e];exact Paired.snoc r ⟨rfl,c⟩
theorem KV.length {a:List (κ × V)}{b:List (κ × Value)}(r:KV a b):a.length=b.length:=Paired.length r
end
def V1 {P:Program}{w:World}{k:jx}{u:Value}(r:jq (kV k) u):(Qj P w).is k u=true:=by
 cases k with
 |inl i=>have ⟨t,e⟩:=(r);subst e;exact Hw P w i t
 |inr x=>have ⟨t,e⟩:=(r);subst e;exact Hx P w x t
theorem Dz {P:Program}{w:World}:∀{ks:List jx} {a:Yd},js (ks.map kV) a->ItemsAre (Qj P w) ks a
 | [],_,r=>by cases r;exact .nil
 |k::ks,_,r=>by
  cases r with
  |cons h t=>exact .cons (V1 h) (Dz t)
abbrev KT (H:Hp):List (List jx×V)->List (List jx×Addr×Value)->Prop:=Paired λp q=>p.1=q.1/\H q.2.1=some (.tup (p.1.map kV))/\jq p.2 q.2.2
def KT.val {H:Hp}{a:List (List jx×V)}{xs:List (List jx×Addr×Value)}(r:KT H a xs)(k):xj (jX a k) ((atKey xs k).map (·.2)):=by
 induction r with
 |nil=>exact True.intro
 | @cons p q d c h t f =>
  obtain⟨g,_,i⟩:=h;by_cases e:p.1=k
  .have b:atKey (q::c) k=some q.2:=by simp_all [atKey]
   rwa [AF e,b]
  grind[atKey,AG]
def KT.repl {H:Hp}{a:List (List jx×V)}{xs:List (List jx×Addr×Value)}(r:KT H a xs)(k){y:V}{u:Value}(d:jq y u):
 KT H (a.map λb=>if b.1=k then(b.1,y) else b) (xs.map (putAt k u)):=by
 induction r with
 |nil=>exact .nil
 | @cons p q e f h t c =>
  refine .cons ?_ c
  grind[putAt]
def KT.put {H:Hp}{a:List (List jx×V)}{xs:List (List jx×Addr×Value)}(r:KT H a xs)(k){b:Addr}{y:V}{u:Value}(d:H b=some (.tup (k.map kV)))(c:jq y u):
 KT H (xb a k y) (storedH xs k b u):=by
 have e:(a.any λf=>decide (f.1=k))=(atKey xs k).isSome:=by
  rw[Dy,(r.val k).isSome_eq,UR]
 unfold xb storedH;rw[e];by_cases q:(atKey xs k).isSome=true
 .rw[Zd q,Zd q];exact r.repl k c
 .rw[Ze q,Ze q];exact Paired.snoc r ⟨rfl,d,c⟩
def KT.keeps {H c:Hp}{a:List (List jx×V)}{xs:List (List jx×Addr×Value)}(r:KT H a xs)(e:∀b d,H b=some (.tup d)->c b=some (.tup d)):KT c a xs:=
 xr r ()
section
variable {P:Program}{w:World}{H:Hp}{h:Heap}{a:Addr}
def D0 {u:HO}(ok:qQ P w H h)(e:Rd H a u):xn P w H h a u:=e.ok ok
def V2 {b:List (jx×V)}(ok:qQ P w H h)(e:Rd H a (.dK b)):b.length<=sizeLine/\(a == sysModules)=false/\∃c,KV b c/\h.DictOf (Qj P w) a c:=
 D0 ok e
def YI {b:List (jx×V)}(ok:qQ P w H h)(e:H a=some (.dK b)):b.length<=sizeLine/\(a == sysModules)=false/\∃c,KV b c/\h.DictOf (Qj P w) a c:=V2 ok (.inl e)
theorem W5 {ks:List jx}(ok:qQ P w H h)(e:H a=some (.tup (ks.map kV))):(tupleKind (Qj P w)).is h ks a:=have ⟨_,b,r,o,c,d,n,f⟩:=(ok a _ e);⟨o,b.toArray,n,c,d,f,by simpa using Dz r⟩
def VZ {b:List (List jx×V)}(ok:qQ P w H h)(e:Rd H a (.dT b)):b.length<=sizeLine/\(a == sysModules)=false /\
 ∃xs,KT H b xs/\h.DictOfH (tupleKind (Qj P w)) a xs:=by
 obtain⟨z,y,xs,r,o,c,d,f,g,i,j,n⟩:=(D0 ok e);refine⟨z,y,xs,r,o,c,d,f,g,i,j,λx hx=>?_,n⟩;have all:∀{l:List (List jx×V)} {m:List (List jx×Addr×Value)},KT H l m->∀x∈m,(tupleKind (Qj P w)).is h x.1 x.2.1:=by
  intro l m q
  induction q with
  |nil=>intro x hx;exact nomatch hx
  | @cons p q s u v t A =>
   grind[W5]
 exact all r x hx
def mh {b:List (List jx×V)}(ok:qQ P w H h)(e:H a=some (.dT b)):b.length<=sizeLine/\(a == sysModules)=false /\
 ∃xs,KT H b xs/\h.DictOfH (tupleKind (Qj P w)) a xs:=VZ ok (.inl e)
end
def xm (H:Hp)(a:Addr)(y:V)(r:Ys):Prop:=
 (∃c k,Rd H a (.dK c)/\y=kV k/\r=jX c k)\/∃c k b,Rd H a (.dT c)/\y=.ref b/\H b=some (.tup (k.map kV))/\r=jX c k
def zQ (H:Hp)(a:Addr)(y v:V)(d:Hp):Prop:=
 (∃c k,H a=some (.dK c)/\y=kV k/\c.length<sizeLine/\d=upd H a (.dK (xb c k v))) \/
 ∃c k b,H a=some (.dT c)/\y=.ref b/\H b=some (.tup (k.map kV))/\c.length<sizeLine/\d=upd H a (.dT (xb c k v))
theorem xm.k {H:Hp}{a:Addr}{b:List (jx×V)}{k:jx}(e:H a=some (.dK b)):xm H a (kV k) (jX b k):=.inl ⟨b,k,.inl e,rfl,rfl⟩
theorem zQ.k {H:Hp}{a:Addr}{b:List (jx×V)}{k:jx}{v:V}(e:H a=some (.dK b))(c:b.length<sizeLine):zQ H a (kV k) v (upd H a (.dK (xb b k v))):=.inl ⟨b,k,e,rfl,c,rfl⟩
section
variable {X:Cx}{Y:Yb}{Z: St}{H:Hp}{s:Shared}{a:Addr}{y v:V}{u r:Value}{o:Ys}{A:Around}{E:Ya}
def Inv.big (I:Inv X Y Z H s):sysModules<s.heap.objs.size:=have h:=(I.mod.glob.keeps I.bk).lt;UB (by decide) h
def IU {Q:Ya}(q:A.units+1<cLine)(I:Inv X Y Z H s)(g:xm H a y (some v))(n:jq y u)(h:∀f s',Inv X Y Z H s'->jq v f->Q f s'):
 wpAny (model X.prog X.w) A (getItem (.ref a) u) Q E s:=by
 rcases g with ⟨i,k,e,j,l⟩|⟨i,k,b,e,j,t,l⟩
 .subst j;obtain⟨z,w,B,c,dd⟩:=V2 I.hok e;obtain⟨f,hw,d⟩:=qE (by rw[l];exact c.val k);exact wpAny_getItem_of (V1 n) dd.mapOf hw (h f _ (I.tok _) d)
 .subst j;cases (n);obtain⟨z,w,xs,c,dd⟩:=VZ I.hok e;obtain⟨f,hw,d⟩:=qE (by rw[l];exact c.val k);obtain⟨p,x,m⟩:=Jg.mp hw;refine wpAny_getItem_heap (tupleKind_room_in1 q) (W5 I.hok t) dd x ?_;rw[m];exact h f _ (I.tok _) d
def c0 {Q:Ya}(m:A.units+1<cLine)(I:Inv X Y Z H s)(g:xm H a y o)(j:jq y u)(h:∀s',Inv X Y Z H s'->Q (.bool o.isSome) s'):
 wpAny (model X.prog X.w) A (compareOp .In u (.ref a)) Q E s:=by
 rcases g with ⟨d,k,e,f,l⟩|⟨d,k,b,e,f,n,l⟩
 .subst f;obtain⟨z,i,p,c,dd⟩:=V2 I.hok e;refine wpAny_in_of (V1 j) i dd.mapOf ?_;rw[<- (c.val k).isSome_eq,<- l];exact h _ (I.tok _)
 .subst f;cases (show u=Value.ref b from j);obtain⟨z,i,xs,c,dd⟩:=VZ I.hok e;refine wpAny_in_heap (tupleKind_room_in1 m) (W5 I.hok n) i dd ?_;have q:=(c.val k).isSome_eq;rw[UR] at q;rw[<- q,<- l];exact h _ (I.tok _)
def IV {Q:Ya}(m:A.units+1<cLine)(I:Inv X Y Z H s)(g:xm H a y o)(j:jq y u)(h:∀s',Inv X Y Z H s'->Q (.bool (!o.isSome)) s'):
 wpAny (model X.prog X.w) A (compareOp .NotIn u (.ref a)) Q E s:=by
 rcases g with ⟨d,k,e,f,l⟩|⟨d,k,b,e,f,n,l⟩
 .subst f;obtain⟨z,i,p,c,dd⟩:=V2 I.hok e;refine wpAny_notIn_of (V1 j) i dd.mapOf ?_;rw[<- (c.val k).isSome_eq,<- l];exact h _ (I.tok _)
 .subst f;cases (j);obtain⟨z,i,xs,c,dd⟩:=VZ I.hok e;refine wpAny_notIn_heap (tupleKind_room_in1 m) (W5 I.hok n) i dd ?_;have q:=(c.val k).isSome_eq;rw[UR] at q;rw[<- q,<- l];exact h _ (I.tok _)
def AI {h':Heap}{t':Nat}{c:HO}(I:Inv X Y Z H s)(d:mS (H a))(e:Heap.SameBut a s.heap h')(f:∃q,h'.get? a=some q)(new:xn X.prog X.w (upd H a c) h' a c):
 Inv X Y Z (upd H a c) { s with heap:=h',toks:=t' } :=
 I.write d (.inl rfl) (λb q g z=>(e.2 b g).trans z) f new
def D1 {P:Program}{w:World}{e:Hp}{h':Heap}{b:List (jx×V)}{c:List (jx×Value)}(z:b.length<=sizeLine)(f:(a == sysModules)=false)(d:KV b c)(dd:h'.DictOf (Qj P w) a c):
 xn P w e h' a (.dK b):=⟨z,f,c,d,dd⟩
def IW {B:Hp}{Q:Unit->Yq}(J:A.units+1<cLine)(I:Inv X Y Z H s)(g:zQ H a y v B)(C:jq y u)(F:jq v r)(h:∀s',Inv X Y Z B s'->Q Ym s'):
 wpAny (model X.prog X.w) A (setItem (.ref a) u r) Q E s:=by
 rcases g with ⟨d,k,e,m,l,n⟩|⟨d,k,b,e,m,G,l,n⟩
 .subst m n;obtain⟨z,p,K,f,dd⟩:=YI I.hok e;have t:K.length<=sizeLine:=by rwa [<- f.length]
  have w:(xb d k v).length<=sizeLine:=by have:=AH d k v;lia
  refine wpAny_setItem_pairs (hsz:=t) (V1 C) dd λh' i x=>h _ ?_;have L:∃q,h'.get? a=some q:=let ⟨q,_,_,j,_⟩:=i;⟨q,j⟩
  exact AI I (by rw[e];exact True.intro) x L (D1 w p (f.put k F) i)
 .subst m n;cases (C);obtain⟨z,p,xs,f,dd⟩:=mh I.hok e;have t:xs.length<=sizeLine:=by rwa [<- Paired.length f]
  have w:(xb d k v).length<=sizeLine:=by have:=AH d k v;lia
  refine wpAny_setItem_heap (hsz:=t) (tupleKind_room_in1 J) (W5 I.hok G) dd λh' i x=>h _ ?_;obtain⟨q,M,N,j,O,P,R,_,S⟩:=i;refine AI I (by rw[e];exact True.intro) x ⟨q,j⟩ ⟨w,p,_,(f.put k G F).keeps λc T U=>?_,q,M,N,j,O,P,R,S⟩
  rwa [Jx ()]
end
section
variable {X:Cx}{Y:Yb}{Z: St}{H:Hp}{s:Shared}{a:Addr}{kvs:List (jx×V)}{k:jx}{u:Value}{A:Around}{E:Ya}
def mt {Q:Ya}(I:Inv X Y Z H s)(e:Rd H a (.dK kvs))(h:∀t s',Inv X Y Z H s'->Q (.int kvs.length t) s'):wpAny (model X.prog X.w) A (call (.builtin "len") [.ref a]) Q E s:=by
 obtain⟨z,c,d,b,dd⟩:=V2 I.hok e;refine call_len_dict c dd (by rw[<- b.length];rw[sizeLine_eq] at z;lia) ?_;rw[<- b.length];exact h _ _ (I.tok _)
end
def vG (i:Expr):Prop:=∀a b,subscripted i false a b=operate [a,b] (getItem a b)
def IX {prog:Program}{w:World}{A:Around}{E:Ya}{s:Shared}{env:Env}{b a:Expr}{c:Pos}{T id:String}{Q:Ya}
 (d:typeLookup (.type T) "__getitem__" = pure (some (.builtin id))) (e:vG a)
 (h:Yw prog w A (eval b env) (λo s₁=>Yw prog w A (eval a env) (λi s₂=>s₂.TypeIs o T/\Yw prog w A (getItem o i) Q E s₂) E s₁) E s):
 Yw prog w A (eval (.Subscript b a c) env) Q E s:=by
 refine Subscript_ (Zc h (λo s₁ h₁=>Zc h₁ (λi s₂ h₂=>?_) λ_ _ x=>x) λ_ _ x=>x);obtain⟨f,h₂⟩:=h₂;refine Za (Za (wpAny_specialOf f d ?_));have g:Yw prog w A (subscripted a false o i) (λr s₃=>Yw prog w A (letTemporaryGo b o r >>= λ_=>pure r) Q E s₃) E s₂:=by
  rw[e o i];exact wpAny_operating (Zc h₂ (λr s₃ h₃=>Za (wpAny_letTemporaryGo (Zb h₃))) λ_ _ x=>x)
 grind[wpAny_pure,wpAny_bind]
def IY {X:Cx}{Y:Yb}{Z: St}{H:Hp}{s:Shared}{a:Addr}{y:V}{o:Ys}(I:Inv X Y Z H s)(g:xm H a y o):s.TypeIs (.ref a) "dict" := by
 rcases g with ⟨c,k,e,_,_⟩|⟨c,k,b,e,_,_,_⟩
 .obtain⟨_,_,d,_,dd⟩:=V2 I.hok e;exact dd.typeIs
 .obtain⟨_,_,xs,_,dd⟩:=VZ I.hok e;exact dd.typeIs
def kb (c d:TE):TE:=λZ H Q=>c Z H λx e=>d Z e λy b=>∃a v,x=.ref a/\xm b a y (some v)/\Q v b
def tG (c d:TE):TE:=λZ H Q=>c Z H λy e=>d Z e λx b=>∃a o,x=.ref a/\xm b a y o/\Q (.bl o.isSome) b
def IZ (c d:TE):TE:=λZ H Q=>c Z H λy e=>d Z e λx b=>∃a o,x=.ref a/\xm b a y o/\Q (.bl (!o.isSome)) b
def k6 (c d e:TE):TS:=λD Z H=>e Z H λv f=>c Z f λx g=>d Z g λy h=>∃a b,x=.ref a/\zQ h a y v b/\D.nx Z b
section
variable {X:Cx}{o i e value:Expr}{pos pos' tpos:Pos}{td ty tv:TE}
def La (d:X.A.units+1<cLine)(f:PE X o td)(j:PE X i ty)(l:vG i):PE X (.Subscript o i pos) (kb td ty):=by
 intro Y s Z H Q I h;refine IX PySem.F.slot_dict_getitem.lookup l (j5 (f Y s Z H _ I h) λu m ⟨x,n,p,q,r⟩=>j5 (j Y m Z n _ p r) λC E ⟨y,t,c,w,a,v,z,g,A⟩=>?_);subst z;obtain rfl:=q;exact⟨IY c g,IU d c g w λF G B b=>⟨v,t,B,b,A⟩⟩
def Lb (b:X.A.units+1<cLine)(c:PE X i ty)(d:PE X o td):PC X .In i o (tG ty td):=by
 intro Y s Z H Q I h;refine j5 (c Y s Z H _ I h) λA f ⟨y,j,l,m,n⟩=>j5 (d Y f Z j _ l n) λu B ⟨x,p,q,r,a,t,v,g,w⟩=>?_;subst v;obtain rfl:u=Value.ref a:=r;exact c0 b q g m λC z=>⟨.bl t.isSome,p,z,rfl,w⟩
def D2 (b:X.A.units+1<cLine)(c:PE X i ty)(d:PE X o td):PC X .NotIn i o (IZ ty td):=by
 intro Y s Z H Q I h;refine j5 (c Y s Z H _ I h) λA f ⟨y,j,l,m,n⟩=>j5 (d Y f Z j _ l n) λu B ⟨x,p,q,r,a,t,v,g,w⟩=>?_;subst v;obtain rfl:=r;exact IV b q g m λC z=>⟨.bl (!t.isSome),p,z,rfl,w⟩
def Lc (b:X.A.units+1<cLine)(c:PE X o td)(d:PE X i ty)(f:PE X value tv)(j:swapsWith value (some (.Subscript o i pos')) pos.line X.env=pure false):
 PS X (.Assign [.Subscript o i pos'] value pos) (k6 td ty tv):=by
 intro Y s Z H D I h;refine wpAny_Assign_Subscript (j5 (f Y s Z H _ I h) λr l ⟨v,m,n,p,q⟩=>j5 (c Y l Z m _ n q) λu t ⟨x,w,z,A,B⟩=>j5 (d Y t Z w _ z B) λL M ⟨y,N,C,E,a,F,G,g,J⟩=>?_) j;subst G;obtain rfl:=A;exact IW b C g E p λO K=>⟨Z,F,K,J⟩
end
def Ld {P:Program}{w:World}{H:Hp}(h:Heap)(a:sysModules<h.objs.size):xn P w H (h.push { cls:=.type "dict",data:=.dict #[] }) h.objs.size (.dK []):=
 ⟨Ue _,(),[],.nil,Heap.DictOf.new h⟩
def Le:TE:=λ_ H Q=>∀p,H p=none->Q (.ref p) (upd H p (.dK []))
section
variable {X:Cx}{pos:Pos}
def Lf:PE X (.Dict [] [] pos) Le:=λY s Z H Q I h =>
 wpAny_Dict_empty ⟨.ref s.heap.objs.size,_,I.laid (λ_ _ q=>Zq _ q) (Zf _) (Ld s.heap I.big),rfl,h _ (I.hok.fresh (Zf _))⟩
end
structure M1 (X:Cx)(o:Expr)(m:Str)(apos:Pos)(e:Expr)(cpos:Pos):Prop where
 base:attributeBase o m X.env (eval o X.env)=eval o X.env
 few:((backTo cpos (starEach [e] X.env)).all (λx => !x.1)&&(backToKw cpos (keywordEach [] X.env)).all (λx=>x.1.isSome)
  && decide (([e]:Yj).length+([]:List Keyword).length+(if([]:List Keyword).isEmpty then 0 else 1)<30))=true
 line:(apos.endLine == cpos.line)=true
 trees:backTo cpos (starEach [e] X.env)=[(false,eval e X.env)]
def IsD (H:Hp)(a:Addr):Prop:=(∃b,Rd H a (.dK b))\/∃b,Rd H a (.dT b)
def Lg {X:Cx}{Y:Yb}{Z: St}{H:Hp}{s:Shared}{a:Addr}(I:Inv X Y Z H s)(d:IsD H a):
 s.TypeIs (.ref a) "dict" /\ (∀b,Value.ref a=.ref b->∃c,s.heap.get? b=some c/\c.dict=none)/\(a == sysModules)=false:=by
 rcases d with ⟨f,e⟩|⟨f,e⟩
 .obtain⟨_,g,j,_,dd⟩:=V2 I.hok e;refine⟨dd.typeIs,λb q=>?_,g⟩;cases q;obtain⟨c,_,_,h,i,_⟩:=dd;exact⟨c,h,i.2.1⟩
 .obtain⟨_,g,xs,_,dd⟩:=VZ I.hok e;refine⟨dd.typeIs,λb q=>?_,g⟩;cases q;obtain⟨c,_,_,h,i,_⟩:=dd;exact⟨c,h,i.2.1⟩
section
variable {X:Cx}{Y:Yb}{Z: St}{H:Hp}{s:Shared}{a:Addr}{y d:V}{u r:Value}{o:Ys}{A:Around}{E:Ya}
def Lh {Q:Ya}(p:A.units+1<cLine)(I:Inv X Y Z H s)(g:xm H a y o)(m:jq y u)(h:∀n s',Inv X Y Z H s'->jq (o.getD .non) n->Q n s'):
 wpAny (model X.prog X.w) A (call (.builtin "dict.get") [.ref a,u]) Q E s:=by
 rcases g with ⟨f,k,e,i,l⟩|⟨f,k,b,e,i,q,l⟩
 .subst i;obtain⟨z,j,t,c,dd⟩:=V2 I.hok e;refine call_meetsIn PySem.F.slot_dict_get dd.typeIs PySem.F.entry_dict_get (PySem.F.args_dict_get_2 _ _) (meets_dict_get (Qj X.prog X.w) a (V1 m) j) ⟨_,dd.mapOf,h _ _ (I.tok _) ?_⟩;rw[l];exact(c.val k).getD rfl
 .subst i;cases (show u=Value.ref b from m);obtain⟨z,j,xs,c,dd⟩:=VZ I.hok e;refine call_meetsIn PySem.F.slot_dict_get dd.typeIs PySem.F.entry_dict_get (PySem.F.args_dict_get_2 _ _) (meetsH_dict_get (tupleKind (Qj X.prog X.w)) a b j) ⟨tupleKind_room_in1 p,k,xs,W5 I.hok q,dd,h _ _ (I.tok _) ?_⟩;rw[l];exact(c.val k).getD rfl
end
def Li (d e:TE):TE:=λZ H Q=>d Z H λx b=>∃a,x=.ref a/\IsD b a/\e Z b λy c=>∃o,xm c a y o/\Q (o.getD .non) c
section
variable {X:Cx}{o e f:Expr}{apos cpos:Pos}{td ty tx:TE}
def Lj (i:X.A.units+1<cLine)(j:PE X o td)(l:PE X e ty)(m:M1 X o "get" apos e cpos):PE X (.Call (.Attribute o "get" apos) [e] [] cpos) (Li td ty):=by
 intro Y s Z H Q I h;refine wpAny_Call_method m.base m.few m.line PySem.F.plainAttrs_dict PySem.F.slot_dict_get PySem.F.type_dict_get (j5 (j Y s Z H _ I h) λu n ⟨x,p,c,q,a,r,d,t⟩=>?_);subst r;obtain rfl:u=Value.ref a:=q;obtain⟨v,w,_⟩:=Lg c d;refine⟨v,w,?_⟩;rw[m.trees];refine Calls.callWith_builtin rfl (Calls.evalArgs_plain (Calls.spliced_cons (j5 (l Y n Z p _ c t) λF G ⟨y,z,A,B,J,g,C⟩=>Calls.spliced_nil ?_)));exact Lh i A g B λK L E b=>⟨_,z,E,b,C⟩
end
end L2
namespace Att
open PySem PySem.W PySem.Calls PyProof.Rows
theorem Ll {P:Params}{h:Heap}:∀ns c,WellAll P h c (ns.map WData.int)->IntsAre c ns:=by
 intro ns
 induction ns with
 |nil =>
  intro c w;cases w;exact .nil
 |cons n ns d =>
  intro c w;cases w with
  |cons a b =>
   cases a;exact .cons _ _ (d _ b)
def Lm {l:OpenLaw}{n:Nat}(m:l.most=some n){P:Params}{h:Heap}{args:List WData}{b:Yd}
 (c:l.row.toRowW.claim.pre args=true) (e:WellAll P h b args):
 ∃a g ns,b=[Value.ref a]/\args=[WData.list (ns.map WData.int)]/\h.get? a=some { cls:=.type "list",data:=.seq g.toArray }/\IntsAre g ns/\ns.length<=n:=by
 obtain⟨d,r,rfl,o,p⟩:=hasAllW_cons ((pre_splitW c).1);obtain rfl:=hasAllW_nil p;obtain⟨xs,rfl,q⟩:=hasW_list o;obtain⟨ns,rfl⟩:=items_int q;have i:ns.length<=n:=by
  have f:(WTm.not (.lt (.lit (.int (n:Int))) (.len (.arg 0)))).holds [] { args:=[.list (ns.map .int)] }=true:=by
   have f:=(holds_andW ((pre_splitW c).2)).1
   rwa [m] at f
  have u:=condW_of f rfl
  simp_all
 cases e with
 |cons s t =>
  cases t;cases s with
  |list v j=>grind[Ll]
def Ln (l:OpenLaw)(args):l.row.toRowW.claim.post args (.bool true) args=true:=
 postW_of
  rfl
  (w_eq_bool (w_res rfl) w_lit) rfl
def attach_call {l:OpenLaw}{n:Nat}{q:Program}{b:Yh}{A:(Yc)->Heap->Prop}{B:World->Heap->Prop}{d:DefRec}
 (H:l.most=some n) (t:d.params.defaults=[])
 (call:∀w s₀ s₁ p u h o v cd c a g ns,
  Ground q b [] A w s₀ p u s₁.heap->B w s₁.heap ->
  s₁.heap.get? h=some o->o.data=.func (docDef d.name d.params d.body d.scope v cd c)->s₁.heap.CodeRec cd d.name->p d.name=some (.ref h) ->
  s₁.heap.get? a=some { cls:=.type "list",data:=.seq g.toArray }->IntsAre g ns->ns.length<=n->s₁.gens = #[] ->
  codeAny (model l.prog w) callerA (.call (.ref h) ⟨[.ref a],[]⟩) (λr s'=>r=.ok (.ret (.bool true))/\OldK s₁.heap s'.heap/\s'.os=s₁.os/\AllBare s'.gens) s₁):
 WalkO q b A B l.row.toRowW d [] (λf g=>PySem.call f g):=by
 intro w s₀ s₁ p u G I h o v cd c T kV J K x C y L args E U i F M z N;obtain rfl:=Dflts.none C t;obtain rfl:=Dflts.noKw C;obtain⟨a,g,ns,rfl,rfl,j,e,m⟩:=Lm H i z;refine enter_call (codeAny_mono (call w s₀ s₁ p u h o v cd c a g ns G I J (fd_plain K) x y j e m L) λr s' O=>?_);obtain⟨rfl,P,Q,R⟩:=O;exact⟨.inl ⟨.bool true,.bool true,[],rfl,λ_=>rfl,.bool true,Ln l _,λ_=>⟨List.Pairwise.nil,λ_ S=>(nomatch S)⟩⟩,P,Q,R⟩
end Att
namespace L2
def Lo:∀{a:Yd} {ns:Yf},IntsAre a ns->js (ns.map V.int) a:=λh=>by
 induction h with
 |nil=>exact .nil
 |cons n t _ b=>exact .cons ⟨t,rfl⟩ b
def vF (H:Hp):Prop:=∀b,H b=none\/∃o xs,H b=some (.frz o (.lst xs))
def Lp {P:Program}{w:World}{K:W.Frag}{p G:Yc}{CX:zk}{k:Nat}{I a:Addr}{T:FuncData}{x:Str}{sp:Sp}{s₁:Shared}{l:Yd}{ns:Yf}
 (U:K.In s₁.heap) (t:s₁.heap.Ns mainGlobals p) (f:s₁.heap.Ns builtinsNs G) (J:∀x:Str,x ≠ "__name__" -> G x=bootBuiltins x) (y:s₁.heap.NoLimit) (hg:s₁.gens = #[])
 (L:s₁.heap.get? a=some { cls:=.type "list",data:=.seq l.toArray }) (X:IntsAre l ns) (hl:ns.length<=sizeLine) (hr:Room k callerA)
 (F:∀base:Heap,K.In base->base.Ns mainGlobals p->FnOk P w K p base CX k I T [x] sp) (j:∀s u,BindsTo s T ⟨[u],[]⟩ [(x,u)])
 (M:∀H:Hp,vF H->qC K H a (ns.map V.int)->sp [.ref a] H (λv _=>v=.bl true) λ_ _ _=>False)
 (N:∀H e s',CX [] H s₁ (λ_ _ _=>False) e s'->False):
 codeAny (model P w) callerA (.call (.ref I) ⟨[.ref a],[]⟩) (λr s'=>r=.ok (.ret (.bool true))/\OldK s₁.heap s'.heap/\s'.os=s₁.os/\AllBare s'.gens) s₁:=by
 have Y:=Lo X;have A:=X.length;have i:∀H:Hp,vF H->qC K H a (ns.map V.int)->qQ P w H s₁.heap->(∀b,H b≠none->b=a)->(H a≠none->K.lookup a=none) ->
  codeAny (model P w) callerA (.call (.ref I) ⟨[.ref a],[]⟩) (λr s'=>r=.ok (.ret (.bool true))/\OldK s₁.heap s'.heap/\s'.os=s₁.os/\AllBare s'.gens) s₁:=by
  intro H Z hS B hA hK;have c:∀{b:Addr} {o:Obj},s₁.heap.get? b=some o->H b=none->(yg s₁.heap H).get? b=some o:=λe n=>Hz e n;have O:∀{b:Addr} {o:Obj} {Q:Array DictEntry} {R:Nat},s₁.heap.get? b=some o->o.data=.dict Q R->H b=none:=by grind
  have g:∀{b:Addr} {m:Yc},s₁.heap.Ns b m->(yg s₁.heap H).Ns b m:=λ{b m} ⟨o,Q,R,e,d,r⟩=>⟨o,Q,R,c e (O e d),d,r⟩;have C:K.In (yg s₁.heap H):=λb o e=>c (U b o e) (by
   grind)
  have hM:Mod K p (yg s₁.heap H):=⟨C,g t,⟨G,g f,J⟩,let ⟨mc,h1,h2⟩:=y;⟨mc,g h1,h2⟩⟩;have e0:Env0 P w K p (yg s₁.heap H) callerA [] s₁ H:=⟨rfl,hM,λb o e=>HA e,Nat.le_of_eq (Hy _ _),trivial,λb f=>Zn (show b∈([]:Yi) from f) (),B,.of_eq hg⟩;refine codeAny_mono ((F _ C (g t)).run callerA [] s₁ H ⟨[.ref a],[]⟩ [.ref a] [.ref a] _ _ hr e0 (j s₁ (.ref a)) (.cons rfl .nil) (M H Z hS)) λr s' h=>?_;cases r with
  |error e=>exact(N H e s' h).elim
  |ok fl =>
   cases fl with
   |next=>exact False.elim h
   |brk=>exact False.elim h
   |cont=>exact False.elim h
   |ret u =>
    obtain⟨v,H',os,bare,un,E,r',q⟩:=h;have q':v=.bl true:=q;subst q';obtain rfl:=r';refine⟨rfl,OldK.of_keep λb o e=>?_,os,bare⟩;cases q:H b with
    |none=>exact un.keep b o e q (λz=>Zn (show b∈([]:Yi) from z) ()) ()
    |some u =>
     rcases Z b with z|⟨ob,xs,z⟩
     .rw[q] at z;cases z
     .obtain⟨e1,_⟩:=B b _ z;obtain⟨e2,_⟩:=E b _ (un.frzs b ob _ z);rw[e] at e1;cases e1;exact e2
 cases S:K.lookup a with
 |some o =>
  have e:=U a o S;rw[L] at e;cases e;refine i (λ_=>none) (λ_=>.inl rfl) (.inr ⟨_,l.toArray,_,S,rfl,rfl,rfl,by rwa [Zm,A],by simpa using Y⟩) (λb u z=>by have z':=z;cases z') () λz=>Zn rfl z
 |none =>
  refine i (λb=>if b=a then some (.frz { cls:=.type "list",data:=.seq l.toArray } (.lst (ns.map V.int))) else none) (λb=>?_) (.inl (.inr ⟨{ cls:=.type "list",data:=.seq l.toArray },Zd rfl⟩)) (λb u z=>?_) (λb z=>?_) λ_=>S
  .by_cases f:b=a
   .exact by grind
   .exact .inl (Ze f)
  .by_cases f:b=a
   .cases ((Zd f).symm.trans z);subst f;exact⟨L,by rwa [Zql],l,_,Y,L⟩
   .cases ((Ze f).symm.trans z)
  .by_cases f:b=a
   .exact f
   .exact Zn (Ze f) z
def walk_of {l:W.OpenLaw}{n k:Nat}{q:Program}{c:Yh}{I:(Yc)->Heap->Prop}{B:World->Heap->Prop}{d:DefRec}{K:Params->W.Frag}{CX:World->zk}{sp:World->Sp}{x:Str}
 (J:l.most=some n) (p:n<=sizeLine) (r:d.params.defaults=[]) (L:Room k callerA)
 (M:∀w h,B w h->(K w.params).In h)
 (F:∀w i m h,(K w.params).In h->h.Ns mainGlobals i->i d.name=some (.ref m) ->
  ∃t:FuncData,(∀s u,BindsTo s t ⟨[u],[]⟩ [(x,u)]) /\
   ∀base:Heap,(K w.params).In base->base.Ns mainGlobals i->FnOk l.prog w (K w.params) i base (CX w) k m t [x] (sp w))
 (y:∀w H a (ns:Yf),ns.length<=n->vF H->qC (K w.params) H a (ns.map V.int)->sp w [.ref a] H (λv _=>v=.bl true) λ_ _ _=>False)
 (z:∀w H s e s',CX w [] H s (λ_ _ _=>False) e s'->False):
 W.WalkO q c I B l.row.toRowW d [] (λf C=>PySem.call f C):=by
 refine Att.attach_call J r λw s₀ s₁ i X m o Y cd N a C ns G O Z hd P A j g b Q=>?_;have E:=M w _ O;obtain⟨t,R,S⟩:=F w i m _ E G.T.g A;exact Lp E G.T.g G.T.b G.T.builtins G.T.nolimit Q j g (Zh b p) L S R (λH T U=>y w H a ns b T U) λH e s'=>z w H s₁ e s'
def KQ (s:Stmt)(j:Nat):Stmt:=match s with
 | .ClassDef _ _ _ body _ _ _ _ _ _ _=>body.getD j (.Pass ⟨0,0,0,0⟩)
 |_=>.Pass ⟨0,0,0,0⟩
def Wa (s:Stmt):Arguments:=match s with
 | .FunctionDef _ a _ _ _ _ _ _ _ _=>a
 |_=>{ posonlyargs:=[],args:=[],vararg:=none,kwonlyargs:=[],kw_defaults:=[],kwarg:=none,defaults:=[] }
def Q8 (s:Stmt):List Stmt:=match s with
 | .FunctionDef _ _ b _ _ _ _ _ _ _=>b
 |_=>[]
def JN (s:Stmt):Scope:=match s with
 | .FunctionDef _ _ _ _ _ _ sc _ _ _=>sc
 |_=>{ kind:=.function,names:=[],isGenerator:=false,isCoroutine:=false }
abbrev xB:zk:=λ_ _ _ _ _ _=>False
abbrev E0:XK:=λ_ _ _=>False
def AJ {X:Cx}:W3 xB X E0:=λ_ _ _ _ _ _ _ h=>h.elim
structure Fun (K:W.Frag)(x qual:Str)(st:Stmt)(f:Addr)(fd:FuncData):Prop where
 ex:∃(oc:Value) (od:Option Addr) (kV doc pm:Value) (an:Option Addr) (cdv ct:Value) (osl:Array Ye),
  fd=W.fnOf x qual (Wa st) (Q8 st) (JN st) .none kV doc pm an cdv ct/\K.lookup f=some ⟨oc,od,.func fd,osl⟩/\W.codeIn K cdv qual=true
 kp:W.keepIn K (.ref f)=true
section
variable {P:Program}{w:World}{K:W.Frag}{mg:Yc}{base:Heap}
def Fun.ok {x b:Str}{st:Stmt}{f:Addr}{l:FuncData}{N g:Yh}{k:Nat}{sp:Sp}(F:Fun K x b st f l)(S:FnScope N g (JN st))(len:∀d H Q E,sp d H Q E->d.length=g.length)
 (e:∀c A a s H d Q E,Room k (A.deeper (envOfC b (JN st) s.heap.objs.size f c))->sp d H Q E ->
  ∃t,qY (jP xB P w K mg base N b (JN st) f c A a s H E).nox (Q8 st) t/\t { nx:=λ_ m=>Q .non m,rt:=Q } (start N d) H):FnOk P w K mg base xB (k+1) f l g sp:=by
 obtain⟨u,v,kV,n,y,z,c,ct,o,rfl,p,i⟩:=F.ex;refine Du p i S len λA a s H d Q E r j=>?_;obtain⟨t,h,q⟩:=e c A a s H d Q E r j;exact⟨t,h.nox,q⟩
def Fun.binds {x a:Str}{st:Stmt}{f:Addr}{j:FuncData}{d:Yh}(F:Fun K x a st f j)
 (h:∀kV b e g c ct i,i.length=d.length->bindArgs (W.fnOf x a (Wa st) (Q8 st) (JN st) .none kV b e g c ct) ⟨i,[]⟩=pure (d.zip i)):yP K j d []:=by
 obtain⟨n,o,kV,b,e,g,c,ct,l,rfl,p,m⟩:=F.ex;exact .all (h kV b e g c ct)
def fun_mk {x a:Str}{st:Stmt}{f:Addr}{i:Value}{j g:Option Addr}{e:Array Ye}{kV d h b ct:Value}(l:K.lookup f=some ⟨i,j,.func (W.fnOf x a (Wa st) (Q8 st) (JN st) .none kV d h g b ct),e⟩)
 (c:W.codeIn K b a=true) (k:W.keepIn K (.ref f)=true):Fun K x a st f (W.fnOf x a (Wa st) (Q8 st) (JN st) .none kV d h g b ct):=⟨⟨i,j,kV,d,h,g,b,ct,e,rfl,l,c⟩,k⟩
end
def JA {A:Around}{k:Nat}(a:Room k A):A.units+1<cLine:=US () a.units
def D3 {n:Nat}(h:n<=1000):n<sizeLine:=US h (by decide)
section
variable {X:Cx}
def pv (i){x:Str}{a:Pos}(c:X.N[i]? = some x:=by rfl)(d:vT X.env.scope x:=by first|exact Or.inl rfl|exact Or.inr (Or.inl rfl)|exact Or.inr (Or.inr rfl))(e:(x == ("__debug__" : Str))=false:=by decide)
 (b:(x == ("__classdict__" : Str))=false:=by decide):PE X (.Name x a) (xS i):=HC c d e b
end
def jm (H a:Hp):Prop:=∀b o,H b=some o->a b=some o
def jm.refl (H):jm H H:=λ_ _ h=>h
def jm.trans {H d e:Hp}(a:jm H d)(b:jm d e):jm H e:=λc o h=>b c o (a c o h)
def jm.free {H a:Hp}(e:jm H a){l:Addr}(h:a l=Option.none):H l=Option.none:=by
 cases q:H l with
 |none=>rfl
 |some o =>
  rw[e l o q] at h;cases h
def jm.seq {K:W.Frag}{H b:Hp}{a:Addr}{xs:Yr}(e:jm H b)(h:qC K H a xs):qC K b a xs:=by
 rcases h with (h|⟨o,h⟩)|h
 .exact .inl (.inl (e _ _ h))
 .exact .inl (.inr ⟨o,e _ _ h⟩)
 .exact .inr h
section
variable {X:Cx}
def Lq:qc X (.builtin "len") (λxs H Q=>∃a b,xs=[V.ref a]/\H a=some (.dK b)/\Q (.int b.length) H):=by
 intro Y s Z H xs f Q I r h;obtain⟨a,b,rfl,c,q⟩:=h;obtain⟨u,rfl,d⟩:=Q6 r;cases d;exact mt I (.inl c) λt s' e=>⟨.int b.length,H,e,⟨t,rfl⟩,q⟩
end
end L2
def Jv {P:Prop}{α: Type}{z:α}(h:none=some z):P:=by cases  h
def JC {P:Prop}(h:false=true):P:=by cases  h
namespace L2
theorem AK (env):∀(names:List (Str×NameKind)) b,(∀y∈names,y.2=.free->∃c,env.cells.lookup y.1=some c) ->
 ∃d,(forIn names b λ(x:Str×NameKind) (r:List (Str×Addr))=>(match x with
  | (name,kind)=>if(kind == NameKind.free)=true then do let a <- cellOf env name;pure (ForInStep.yield ((name,a)::r)) else pure (ForInStep.yield r):Sem (ForInStep (List (Str×Addr)))))=(pure d:Sem (List (Str×Addr))) /\
  (∀x c,d.lookup x=some c->env.cells.lookup x=some c\/b.lookup x=some c)/\(∀x c,b.lookup x=some c->∃f,d.lookup x=some f)/\∀y∈names,y.2=.free->∃c,d.lookup y.1=some c
 | [],b,_=>⟨b,rfl,λ_ _ h=>.inr h,λx c h=>⟨c,h⟩,λ_ h=>nomatch h⟩
 | (n,k)::r,b,h=>by
  rw[List.forIn_cons];cases i:(k == NameKind.free) with
  |true =>
   have g:k=.free:=by simp_all
   obtain⟨c,j⟩:=h (n,k) Zqs g;obtain⟨d,e,l,m,o⟩:=AK env r ((n,c)::b) ();refine⟨d,?_,λx f hx=>?_,λx f hx=>?_,λy p q=>?_⟩
   .simp only[i,cellOf,j];exact e
   .grind
   .grind
   grind
  |false =>
   have ⟨d,e,l,m,o⟩:=AK env r b ()
   grind
def Lr (env)(a)(h:∀y∈a.names,y.2=.free->∃c,env.cells.lookup y.1=some c):
 ∃b,closureFor a env=pure b/\(∀x c,b.lookup x=some c->env.cells.lookup x=some c)/\∀y∈a.names,y.2=.free->∃c,b.lookup y.1=some c:=by
 obtain⟨b,e,d,_,f⟩:=AK env a.names [] h;refine⟨b,?_,λx c hx=>(d x c hx).elim id (λq=>by simp at q),f⟩
 first
 | (rfl)
 |exact(Zt (· >>= λcs=>pure cs) e)
theorem YJ {env:Env}{x:Str}:∀{names:List (Str×NameKind)},
 (names.lookup x=some .free->(names.map λ(n,k)=>if(k == NameKind.free&&env.scope.kind == .function&&env.kindOf n == some .cell) then(n,NameKind.cell) else(n,k)).lookup x=some .cell\/(names.map λ(n,k)=>if(k == NameKind.free&&env.scope.kind == .function&&env.kindOf n == some .cell) then(n,NameKind.cell) else(n,k)).lookup x=some .free) /\
 (∀a,(names.map λ(n,k)=>if(k == NameKind.free&&env.scope.kind == .function&&env.kindOf n == some .cell) then(n,NameKind.cell) else(n,k)).lookup x=some a->(a=.cell\/a=.free)->names.lookup x=some .free\/names.lookup x=some .cell)
 | []=>by simp
 | (n,k)::r=>by
  obtain⟨b,c⟩:=@YJ env x r
  grind
theorem Xk:∀names n a,cellsFrom n names a=cellsFrom n names []++a
 | [],_,_=>rfl
 | (name,kind)::r,n,a=>by
  unfold cellsFrom
  split
  .rw[Xk r (n+1) ((name,n)::a),Xk r (n+1) [(name,n)],Ub];rfl
  .exact Xk r n a
theorem AL:∀names n a,(x,c)∈cellsFrom n names a->(x,c)∈a\/(x,NameKind.cell)∈names
 | [],_,_,h=>.inl h
 | (name,kind)::r,n,a,h=>by
  unfold cellsFrom at h
  split at h
  .rcases AL r (n+1) ((name,n)::a) h with z|z
   .grind
   simp_all
  .rcases AL r n a h with z|z
   .exact .inl z
   simp_all
def D4:Option NameKind->Bool
 |some .cell=>true
 |_=>false
def Lu (h:D4 o=true):o=some .cell:=by
 cases o with
 |none=>exact JC h
 |some k=>cases k<;>first|rfl|exact JC h
structure CellsAt (scope:Scope)(env:Env)(cl:List (Str×Addr))(C:Addr)(h1:Heap):Prop where
 from_:∀x c,cl.lookup x=some c->(env.cells.lookup x=some c/\scope.names.lookup x≠some .cell)\/(C<c/\h1.IsCell c none)
 free:∀x,scope.names.lookup x=some .free->∃c,cl.lookup x=some c/\env.cells.lookup x=some c
 own:∀x,scope.names.lookup x=some .cell->∃c,cl.lookup x=some c
 inj:∀x y c,cl.lookup x=some c->cl.lookup y=some c->x=y
def Lv (f:∀x c,cl.lookup x=some c->env.cells.lookup x=some c)(g:∀y∈a.names,y.2=.free->∃c,cl.lookup y.1=some c)
 (inj:∀x y c,env.cells.lookup x=some c->env.cells.lookup y=some c->x=y) (gX:∀x c,env.cells.lookup x=some c->c<=C) (h:h0.objs.size=C+1) (i:∀y∈a.names,y.2=.cell->a.names.lookup y.1=some .cell):
 CellsAt a env (cellsFrom (C+1) a.names cl) C (pushCells h0 a.names):=by
 have ok:=cellsFrom_ok a.names h0 (C+1) [] ⟨(),List.Pairwise.nil⟩ ();rw[h] at ok;have look:∀x c,(cellsFrom (C+1) a.names cl).lookup x=some c->((x,c)∈cellsFrom (C+1) a.names [])\/(cl.lookup x=some c/\a.names.lookup x≠some .cell):=λx c e=>by
  rw[Xk,List.lookup_append] at e;cases q:(cellsFrom (C+1) a.names []).lookup x with
  |some d =>
   grind[Zqi,PySem.mem_of_lookup]
  |none =>
   rw[q] at e;refine .inr ⟨e,λz=>?_⟩;have:=W.cellsFrom_some a.names (C+1) [] (.inl z);rw[q] at this;exact JC this
 refine⟨λx c e=>?_,λx e=>?_,λx e=>?_,λx y c j l=>?_⟩
 .rcases look x c e with z|⟨z1,z2⟩
  .exact .inr ⟨(ok.empty x c z).2,(ok.empty x c z).1⟩
  simp_all
 .obtain⟨c,b⟩:=g (x,.free) (PySem.mem_of_lookup e) rfl;refine⟨c,?_,f x c b⟩;rw[Xk,List.lookup_append];cases q:(cellsFrom (C+1) a.names []).lookup x with
  |some d =>
   rcases AL _ _ _ (PySem.mem_of_lookup q) with z|z
   .cases z
   .have:=i (x,.cell) z rfl;rw[e] at this;cases this
  |none=>exact b
 .exact Jm.mp (W.cellsFrom_some a.names (C+1) cl (.inl e))
 .rcases look x c j with z|⟨z1,_⟩<;>rcases look y c l with w|⟨w1,_⟩
  .exact PySem.name_of_addr ok.apart z w
  .exact Zn (gX y c (f y c w1)) (Nat.not_le_of_lt (ok.empty x c z).2)
  .exact Zn (gX x c (f x c z1)) (Nat.not_le_of_lt (ok.empty y c w).2)
  .exact by grind
def Lw
 (a:Q (newEnv scope s.heap.objs.size globals (cellsFrom (s.heap.objs.size+1) scope.names cl) qual none .none (some env) builtinsNs) { s with heap:=pushCells (s.heap.push { cls:=.type "dict",data:=.dict #[] }) scope.names }):
 wpAny M A (newFunctionEnv scope globals cl [] qual none .none (some env)) Q E s:=by
 refine Za (wpAny_alloc (Za (wpAny_layCells _ () _ _ _ _ ?_)));rw[Heap.size_push ..];exact Za (Zb (Zb a))
def Xl (X:Cx)(C:Addr):Ya:=λx s'=>∃m,s'.heap.Ns C m/\∀h',Heap.SameBut C s'.heap h'->∀a:Env,a.locals=C->Yv X (passOn "comprehension.variables-let-go" x a:Sem Value) (λ_ _=>False) X.xe { s' with heap:=h' }
def JG (X:Cx)(a:Scope)(N:Yh)(b:List (Str×Addr))(C:Addr)(s:Shared)(H:Hp)(ex:Yi):Cx where
 prog:=X.prog
 w:=X.w
 K:=X.K
 mg:=X.mg
 base:=X.base
 A:=X.A
 N:=N
 s₀:=s
 H₀:=H
 env:=compEnvC a b C X.env
 outer:=X.stack
 stack:=X.stack
 ex:=ex
 fn:=λx=>D4 (a.names.lookup x)
 calm:=X.calm
 pn:=[]
 xe:=notedBy (model X.prog X.w) X.A (compEnvC a b C X.env) (Xl X C)
def Wb (X:Cx)(C:Addr)(s:Shared)(H:Hp)(a:Yi):Prop:=∃Y Z,Inv X Y Z H s/\(∀b∈a,xf X Y H b)/\s.heap.objs.size<=C
def Wc (cap:List (Option Nat))(Z: St):St:=cap.map λo=>o.bind λj=>(Z[j]?).join
structure CompOk (X:Cx)(scope:Scope)(N:Yh)(cap:List (Option Nat)):Prop where
 kind:scope.kind=.function
 loc:∀y∈scope.names,y.2=.local->scope.names.lookup y.1=some .local
 cell:∀y∈scope.names,y.2=.cell->scope.names.lookup y.1=some .cell
 free:∀y∈scope.names,y.2=.free->X.env.kindOf y.1=some .cell\/X.env.kindOf y.1=some .free
 len:cap.length=N.length
 cap:∀(i j:Nat) (x:Str),cap[i]? = some (some j)->N[i]? = some x->X.N[j]? = some x/\scope.names.lookup x=some .free
def Ko (a:Scope)(env:Env)(b N:Yh)(cap:List (Option Nat)):Bool:=
 decide (a.kind=.function)&&a.names.all (λy => !decide (y.2=.local)||decide (a.names.lookup y.1=some .local))&&a.names.all (λy => !decide (y.2=.cell)||decide (a.names.lookup y.1=some .cell)) &&
 a.names.all (λy => !decide (y.2=.free)||(decide (env.kindOf y.1=some .cell)||decide (env.kindOf y.1=some .free)))&&decide (cap.length=b.length) &&
 (b.zip cap).all (λp=>match p.2 with|none=>true|some j=>decide (N[j]? = some p.1)&&decide (a.names.lookup p.1=some .free))
def CompOk.of {X:Cx}{a:Scope}{N:Yh}{cap:List (Option Nat)}(h:Ko a X.env N X.N cap=true):CompOk X a N cap:=by
 unfold Ko at h;simp only[Ua,decide_eq_true_eq,Uq] at h;obtain⟨⟨⟨⟨⟨c,l⟩,m⟩,n⟩,d⟩,o⟩:=h;refine⟨c,λy b e=>?_,λy b e=>?_,λy b p=>?_,d,λi j x f g=>?_⟩
 .grind
 .grind
 .grind
 .have q:(x,some j)∈N.zip cap:=by
   refine Uh (i:=i) ?_;rw[List.getElem?_zip_eq_some];exact⟨g,f⟩
  grind
section
variable {X:Cx}{scope:Scope}{N:Yh}{cap:List (Option Nat)}{Y:Yb}{Z: St}{H:Hp}{s:Shared}{cl:List (Str×Addr)}{C D:Addr}{fp:Yi}
def Lx (ok:CompOk X scope N cap)(I:Inv X Y Z H s)(A:∀b∈fp,xf X Y H b)(t:∀b∈fp,b<s.heap.objs.size)
 (a:CellsAt scope X.env cl C h1)
 (n:s.heap.objs.size<=C) (f:∀b o,s.heap.get? b=some o->h1.get? b=some o) (B:h1.Ns C m):
 Inv (JG X scope N cl C s H fp) [] (Wc cap Z) H { s with heap:=h1,toks:=tk }:=by
 have J:∀x,(JG X scope N cl C s H fp).env.kindOf x=some .cell\/(JG X scope N cl C s H fp).env.kindOf x=some .free->scope.names.lookup x=some .free\/scope.names.lookup x=some .cell:=λx h=>by
  rcases h with h|h
  .exact(YJ (env:=X.env) (x:=x) (names:=scope.names)).2 _ h (.inl rfl)
  .exact(YJ (env:=X.env) (x:=x) (names:=scope.names)).2 _ h (.inr rfl)
 refine⟨⟨I.ok.mod,ok.kind,I.ok.glob,I.ok.blt,n,a.inj,λx h=>?_,λx c z e=>?_,I.ok.hd,I.ok.frames,.inl rfl,λb g=>⟨?_,λx c e=>?_⟩,I.bs,Zh I.ok.bsz I.sz,
  λb o e g=>?_,λb g z=>?_,I.stack,I.stkFree⟩,rfl,I.bare,Un.kept f,⟨m,B,λi x v E d U=>?_⟩,λx c e=>?_,I.hok.fresh n,λx c e=>?_,λp K=>Zn K (by show ¬p∈([]:Yb)++[];simp),I.hok.kept f,?_⟩
 .rcases J x h with q|q
  .obtain⟨c,e,_⟩:=a.free x q;exact⟨c,e⟩
  .exact a.own x q
 .rcases a.from_ x c e with ⟨_,q⟩|⟨q,_⟩
  .exact Zn (Lu z) q
  .exact Zh n (Zz q)
 .exact Zi (Zg (t b g) n)
 .rcases a.from_ x c e with ⟨q,_⟩|⟨q,_⟩
  .exact(A b g).2.2.2.2.1 x c q
  .exact UA (UB (Zg (t b g) n) q)
 .rcases(A b g).2.2.2.1 with z|z
  .exact I.ok.noex b o e z
  .exact Zn (Zg (Zk e) (Zh I.ok.bsz z)) (Zy _)
 .rcases Uj.mp (I.stkSub b z) with q|q
  .exact(A b g).2.1 q
  .exact(A b g).2.2.1 q
 .have E:N[i]? = some x:=E;have L:∃j,cap[i]? = some (some j) /\ Z[j]? = some (some v):=by
   have d:(cap.map λo=>o.bind λj=>(Z[j]?).join)[i]? = some (some v):=d;rw[Zv] at d;cases q:cap[i]? with
   |none=>rw[q] at d;exact Jv d
   |some o =>
    rw[q] at d;cases o with
    |none=>cases d
    |some j =>
     have d:some ((Z[j]?).join)=some (some v):=d;cases F:Z[j]? with
     |none=>rw[F] at d;cases d
     |some w=>rw[F] at d;exact⟨j,rfl,by cases d;exact F⟩
  obtain⟨j,M,O⟩:=L;obtain⟨P,G⟩:=ok.cap i j x M E;obtain⟨m0,_,Q⟩:=I.loc;have R:=ok.free (x,.free) (PySem.mem_of_lookup G) rfl;obtain⟨u,r,l⟩:=Q j x v P O (R.elim (λz=>.inr (.inl z)) λz=>.inr (.inr z));refine⟨u,r,.inr ⟨(YJ (x:=x)).1 G,?_⟩⟩;rcases l with ⟨k,_⟩|⟨_,c,S,z⟩
  .simp_all
  .obtain⟨c',T,y⟩:=a.free x G;rw[S] at y;obtain rfl:=Zqi y;exact⟨c,T,z.keeps f⟩
 .rcases a.from_ x c e with ⟨q,_⟩|⟨_,q⟩
  .obtain⟨v,z⟩:=I.cell x c q;exact⟨v,z.keeps f⟩
  .exact⟨none,q⟩
 .rcases a.from_ x c e with ⟨q,_⟩|⟨q,_⟩
  .exact I.freeC x c q
  .exact I.hok.fresh (Zh n (Zz q))
 .show(cap.map _).length=N.length;rw[Zql];exact ok.len
def Ly (I:Inv X Y Z H s)(g:∀b∈fp,xf X Y H b)(j:s.heap.objs.size<=C)(l:s.heap.objs.size<=D)(h:D≠C)
 (J:Inv (JG X scope N cl C s H fp) [] Z' H' s') (m:s'.heap.get? D=some { cls:=.type "list",data:=.seq its.toArray k }) (A:H' D=none) (p:js ys its) (r:ys.length<=sizeLine) (d:Heap.SameBut C s'.heap h')
 (q:Q (.ref D) (upd H' D (.lst ys))):EP X Y Z Q (.ref D) { s' with heap:=h' }:=by
 have i:∀b o,s.heap.get? b=some o->b≠C:=λb o e=>Zi (Zg (Zk e) j);have t:∀b o,s.heap.get? b=some o->b≠D:=λb o e=>Zi (Zg (Zk e) l);have tD:∀b u,H' b=some u->b≠D:=by grind
 have tC:∀b u,H' b=some u->b≠C:=λb u e z=>by
  have:=J.free;rw[z,show H' C=none from this] at e;exact Jv e
 have B:=J.base;refine⟨.ref D,upd H' D (.lst ys),I.call' J.os ?_ ?_ J.bare (λb a=>⟨(g b a).2.2.2.1,(g b a).2.1,(g b a).2.2.2.2.1,(g b a).2.2.2.2.2⟩),rfl,q⟩
 .refine⟨λb o e n a hx=>(d.2 b (i b o e)).trans (B.keep b o e n a hx),λb o e n a hx=>?_,λb o e n hx=>?_,λb o e hx=>?_,λb xs e=>?_,λb o u e=>?_,λb w e=>?_⟩
  .obtain⟨x,z⟩:=B.slot b o e n a hx;exact⟨x,(d.2 b (i b o e)).trans z⟩
  .rw[Jx (t b o e)];exact B.free b o e n hx
  .obtain⟨y,z⟩:=B.there b o e hx;exact⟨y,(d.2 b (i b o e)).trans z⟩
  .have z:=B.tups b xs e
   rwa [Jx (tD b _ z)]
  .have z:=B.frzs b o u e
   rwa [Jx (tD b _ z)]
  .obtain⟨f,z⟩:=B.tbls b w e;exact⟨f,by rwa [Jx (tD b _ z)]⟩
 .intro b u e;by_cases a:b=D
  .subst a;rw[J8] at e;obtain rfl:=Zqi e;exact⟨r,its,k,p,(d.2 b h).trans m⟩
  .rw[Jx a] at e;refine(J.hok b u e).stay (λc v E z=>(d.2 c ?_).trans z) (λc z=>by rwa [Jx (tD c _ z)]) (λc xs z=>by rwa [Jx (tD c _ z)])
   grind
end
def m3 (cap:List (Option Nat))(g:TG)(te:TE)(Z: St)(Q:VK):It->Hp->Prop:=λJ h=>∃W:Nat->Nat->Yr->St->Hp->Prop,(∃m,W 0 m [] (Wc cap Z) h)/\∀i m b c a,W i m b c a->b.length<sizeLine /\
 (
  (J.stop i a/\∀D,a D=none->Q (.ref D) (upd a D (.lst b))) \/
  (J.go i a/\∀x d,J.yld i a x d->g x c d λe j=>te e j λy l=>∃f,f<m/\W (i+1) f (b++[y]) e l))
def Xm (cap:List (Option Nat))(a:TI)(g:TG)(te:TE):TE:=λZ H Q=>a Z H (m3 cap g te Z Q)
def Lz (cap:List (Option Nat))(g:TG)(tt:TT)(te:TE)(Z: St)(Q:VK):It->Hp->Prop:=λJ l=>∃W:Nat->Nat->Yr->St->Hp->Prop,(∃m,W 0 m [] (Wc cap Z) l)/\∀i m c f a,W i m c f a->c.length<sizeLine /\
 (
  (J.stop i a/\∀D,a D=none->Q (.ref D) (upd a D (.lst c))) \/
  (J.go i a/\∀x h,J.yld i a x h->g x f h λe n=>tt e n λb j=>if b=true then te e j (λy o=>∃d,d<m/\W (i+1) d (c++[y]) e o) else ∃d,d<m/\W (i+1) d c e j))
def YK (cap:List (Option Nat))(a:TI)(g:TG)(tt:TT)(te:TE):TE:=λZ H Q=>a Z H (Lz cap g tt te Z Q)
section
variable {X:Cx}{tg iter elt c:Expr}{scope:Scope}{pos:Pos}{wi:TI}{g:TG}{te:TE}{tt:TT}
def Xn (X:Cx)(Y:Yb)(Z: St)(Q:VK)(use:Option (Value->Sem Unit))(R:Ya):Prop:=
 ∀(C D:Addr) (m:Yc) (a:Shared) (r:Flow),a.heap.Ns C m->¬C=X.env.locals->C∉X.fs->X.s₀.heap.objs.size<=C->(∀x c,X.env.cells.lookup x=some c->c≠C)->(∀p∈X.pn++Y,p.1≠C) ->
  (∀h',Heap.SameBut C a.heap h'->EP X Y Z (λv b=>b C=none/\Q v b) (.ref D) { a with heap:=h' })->compPost (model X.prog X.w) X.A X.xe use R (.ref D) C (.ok r) a
def L0:Xn X Y Z Q none (EP X Y Z Q):=λC D m h r b _ _ _ _ _ k=>⟨m,b,λh' a=>by
 obtain⟨v,d,e,f,_,q⟩:=k h' a;exact⟨v,d,e,f,q⟩⟩
def mM (X:Cx)(tg elt:Expr)(it a:Value)(env:Env)(R:Result->Yq)(I:Nat->Yq)(test:(Bool->Yq)->Yq)(n:Nat)(s:Shared):Prop:=
 let E:Ya:=notedBy (model X.prog X.w) X.A env λe s'=>R (.error e) s'
 Yv X (pyNext it) (λr b=>match r with
  |none=>R (.ok .next) b
  |some v=>Yv X (letOwnedTupleGo tg it v) (λ_ f=>Yv X (assign tg env v) (λ_ h=>test (λok d=>if ok=true then Yv X (eval elt env) (λx i=>Yv X (call (.builtin "list.append") [a,x]) (λ_ j=>∃m,m<n/\I m j) E i) E d else ∃m,m<n/\I m d) h) E f) E b) E s
def D5 {ifs:Yj}(N){test:Env->(Result->Yq)->(Bool->Yq)->Yq}
 (lp:∀{it acc:Value} {env:Env} {R:Result->Yq} {s:Shared} I,(∀n s,I n s->mM X tg elt it acc env R I (test env R) n s)->∀n,I n s->codeAny (model X.prog X.w) X.A (.compLoop (.ListComp elt [⟨tg,iter,ifs,0⟩] scope pos) 0 it acc env) R s)
 (ht:∀t C s H ex {Y:Yb} {s7:Shared} {Z7:St} {H7:Hp} {R:Result->Yq} {q:Bool->Hp->Prop} {Q:Bool->Yq},Wb X C s H ex->(∀e s',Xl X C e s'->R (.error e) s')->Inv (JG X scope N t C s H ex) Y Z7 H7 s7->tt Z7 H7 q->(∀b s8 H8,Inv (JG X scope N t C s H ex) Y Z7 H8 s8->q b H8->Q b s8)->test (compEnvC scope t C X.env) R Q s7)
 (cap) (hc:X.calm=true) (okB:Ko scope X.env N X.N cap=true) (hi:PI X tg iter wi) (hg:∀t C s H ex,PG (JG X scope N t C s H ex) tg g) (he:∀t C s H ex,Wb X C s H ex->PE (JG X scope N t C s H ex) elt te)
 (hs:∀x,foldedSetIterable iter X.env x=pure x) {use:Option (Value->Sem Unit)} {R:Ya} {fpos:Pos} {Y:Yb} {s:Shared} {Z: St} {H:Hp} {Q:VK} (I:Inv X Y Z H s) (h:YK cap wi g tt te Z H Q) (fin:Xn X Y Z Q use R):
 Yv X (comprehension (.ListComp elt [⟨tg,iter,ifs,0⟩] scope pos) scope X.env fpos (newList []) false (eval iter X.env) use) R X.xe s:=by
 have ok:=CompOk.of okB;obtain⟨cl0,hcl,hcl1,hcl2⟩:=Lr X.env scope λy hy hf=>I.ok.has y.1 (ok.free y hy hf);refine wpAny_comprehension_free (use:=use) rfl hs hcl ok.kind ok.loc (j5 (hi Y s Z H _ I h) λxv s1 h1=>j5 h1 λitv a h2=>?_);obtain⟨it,l,tn,J,F,e,B,T,st2,f2,W,⟨m0,w0⟩,turn⟩:=h2;subst e;have L:∀b∈l,b<a.heap.objs.size:=λb w=>let ⟨_,e,_⟩:=T.obj _ _ st2 b w;Zk e
 refine wpAny_newObj_type (Lw ?_);dsimp only;generalize hP:a.heap.push { cls:=.type "list",dict:=none,data:=.seq ([]:Yd).toArray }=P2;have hC:P2.objs.size=a.heap.objs.size+1:=by rw[<- hP,Heap.size_push]
 have M:a.heap.objs.size≠P2.objs.size:=by rw[hC];exact by lia
 have j:a.heap.objs.size<=P2.objs.size:=by rw[hC];exact UE _
 have below:∀b,b<a.heap.objs.size->b≠P2.objs.size/\b≠a.heap.objs.size:=()
 have O:CellsAt scope X.env (cellsFrom (P2.objs.size+1) scope.names cl0) P2.objs.size (pushCells (P2.push { cls:=.type "dict",data:=.dict #[] }) scope.names):=
  Lv hcl1 hcl2 B.ok.inj (λx c e=>Zh (Zz (let ⟨_,_,ho,_⟩:=B.cell x c e;Zk ho)) j) (Heap.size_push ..) ok.cell
 have hns1:(pushCells (P2.push { cls:=.type "dict",data:=.dict #[] }) scope.names).Ns P2.objs.size (λ_=>none):=(Heap.Ns.new P2 (.type "dict")).keeps (pushCells_keeps _ _);generalize cellsFrom (P2.objs.size+1) scope.names cl0=t at O ⊢;have P:∀b o,a.heap.get? b=some o->(pushCells (P2.push { cls:=.type "dict",data:=.dict #[] }) scope.names).get? b=some o:=λb o e=>pushCells_keeps _ _ b o (Zq _ (hP ▸ Zq _ e));have hacc:(pushCells (P2.push { cls:=.type "dict",data:=.dict #[] }) scope.names).get? a.heap.objs.size=some { cls:=.type "list",data:=.seq ([]:Yd).toArray 0 }:=pushCells_keeps _ _ _ _ (Zq _ (hP ▸ Zr _ rfl));generalize pushCells (P2.push { cls:=.type "dict",data:=.dict #[] }) scope.names=g1 at O hns1 P hacc ⊢;have G:∀{H':Hp} {pl:Yb},(∀b∈l,H' b=none)->(∀p∈pl,p.1∉l)->∀b∈l,xf (JG X scope N t P2.objs.size a F l) pl H' b:=λ{H' pl} hn E b w=>by
  refine⟨hn b w,(below b (L b w)).1,λz=>?_,.inl w,λx c e=>?_,λp hq z=>?_⟩
  .rcases Uj.mp (B.stkSub b z) with q|q
   .exact(f2 b w).2.1 q
   .exact(f2 b w).2.2.1 q
  .rcases O.from_ x c e with ⟨q,_⟩|⟨q,_⟩
   .exact(f2 b w).2.2.2.2.1 x c q
   .exact UA (UB (Zg (L b w) j) q)
  .have hq:p∈([]:Yb)++pl:=hq
   grind[List.nil_append]
 have nD:a.heap.objs.size∉l:=λz=>Zn (L _ z) (Zy _);have loop:∀s3:Shared,s3={ a with heap:=g1 } ->
  codeAny (model X.prog X.w) X.A (.compLoop (.ListComp elt [⟨tg,iter,ifs,0⟩] scope pos) 0 (.ref it) (.ref a.heap.objs.size) (compEnvC scope t P2.objs.size X.env))
   (compPost (model X.prog X.w) X.A X.xe use R (.ref a.heap.objs.size) P2.objs.size) s3:=by
  rintro s3 rfl;have I0:=Lx (tk:=a.toks) ok B f2 L O j P hns1;refine lp (λn s'=>∃i ys A k Z' H',Inv (JG X scope N t P2.objs.size a F l) [] Z' H' s'/\tn i s'.heap/\(∀b∈l,H' b=none)/\s'.heap.get? a.heap.objs.size=some { cls:=.type "list",data:=.seq (List.toArray A) k } /\
   H' a.heap.objs.size=none/\js ys A/\W i n ys Z' H') ?_ m0
   ⟨0,[],[],0,Wc cap Z,F,I0,T.keep _ _ _ st2 (λb _ o e=>P b o e),λb w=>(f2 b w).1,hacc,B.hok.fresh (Zf _),.nil,w0⟩
  have cat:Wb X P2.objs.size a F l:=⟨_,_,B,f2,j⟩;have ce:∀e s',Xl X P2.objs.size e s'->compPost (model X.prog X.w) X.A X.xe use R (.ref a.heap.objs.size) P2.objs.size (.error e) s':=λe s' h=>by cases use<;>exact h
  have xe:∀e s',(JG X scope N t P2.objs.size a F l).xe e s'->notedBy (model X.prog X.w) X.A (compEnvC scope t P2.objs.size X.env) (λe s'=>compPost (model X.prog X.w) X.A X.xe use R (.ref a.heap.objs.size) P2.objs.size (.error e) s') e s':=λe s' h=>Zc h (λ_ a q=>ce e a q) λe a q=>ce e a q;rintro n s4 ⟨i,ys,A,k,Z4,H4,I4,st4,fr4,hd4,hn4,S,w4⟩;obtain⟨hz,tn4⟩:=turn i n ys Z4 H4 w4;have J4:Inv (JG X scope N t P2.objs.size a F l) [(a.heap.objs.size,{ cls:=.type "list",data:=.seq A.toArray k })] Z4 H4 s4:=I4.pins_of λp E=>by
   have e:=Jb.mp E;subst e;refine⟨hd4,hn4,M,?_,λv z=>by cases z⟩;exact λz=>Zn (Zg (by
    rcases Uj.mp (B.stkSub _ z) with q|q
    .exact US (Nat.le_of_eq q) B.lt
    .obtain⟨_,o,ho,_⟩:=B.ok.funs.mem q;exact Zg (Zk ho) B.sz) (Zf a.heap.objs.size)) (Zy _)
  have np:∀p ∈ [(a.heap.objs.size,({ cls:=.type "list",data:=.seq A.toArray k }:Obj))],p.1∉l:=λp E=>by
   have e:=Jb.mp E;subst e;exact nD
  rcases tn4 with ⟨stop,qn⟩|⟨go,step⟩
  .refine Zc (T.done (JG X scope N t P2.objs.size a F l) rfl rfl rfl hc i _ s4 Z4 H4 (λ_ _=>False) J4 (G fr4 np) st4 stop) (λr s5 h5=>?_) λ_ _ f=>f.elim;obtain⟨rfl,I5⟩:=h5;obtain⟨m,hm,_⟩:=id I5.loc;have p5:=I5.pin (a.heap.objs.size,_) (Ud _ Zqs);refine fin _ _ m _ _ hm (UA (Zg B.lt j)) (B.nofs j) (Zh B.sz j) (λx c e z=>?_) (λp E z=>?_) λh' hs'=>Ly B f2 j (Zf _) M (I5.pins_of λp E=>nomatch E) p5.1 p5.2.1 S (Zz hz) hs' ⟨by rw[Jx (Ne.symm M)];exact I5.free,qn _ p5.2.1⟩
   .obtain⟨v,o,ho,hd⟩:=B.cell x c e;have:=Zk ho;rw[z] at this;exact Zn (Zg this j) (Zy _)
   .have:=Zk (B.pin p E).1;rw[z] at this;exact Zn (Zg this j) (Zy _)
  .refine Zc (T.item (JG X scope N t P2.objs.size a F l) rfl rfl rfl hc i _ s4 Z4 H4 (λ_ _=>False) J4 (G fr4 np) st4 go) (λr s5 h5=>?_) λ_ _ f=>f.elim;obtain⟨u,rfl,h5⟩:=h5;refine Zc h5 (λ_ s6 h6=>?_) λ_ _ f=>f.elim;obtain⟨x,H6,I6,r6,y6,U,fr6⟩:=h6;have I6':=I6.pinned (G fr6 np) (T.obj _ _ U);refine Zc (hg t P2.objs.size a F l _ s6 Z4 H6 x u _ I6' r6 (step x H6 y6)) (λ_ s7 h7=>?_) xe;obtain⟨Z7,H7,I7,q7⟩:=h7;refine ht t P2.objs.size a F l cat ce I7 q7 λbv s8 H8 I8 q8=>?_;have K:∀H9 s9 Z9,Inv (JG X scope N t P2.objs.size a F l) ([(a.heap.objs.size,{ cls:=.type "list",data:=.seq A.toArray k })]++Xi l s6.heap) Z9 H9 s9->(∀b∈l,∀o,s6.heap.get? b=some o->s9.heap.get? b=some o)/\∀b∈l,H9 b=none:=λH9 s9 Z9 I9=>by
    refine⟨λb w o e=>(I9.pin (b,o) (Ud _ (Ud _ (YG w e)))).1,λb w=>?_⟩;obtain⟨o,e,d⟩:=T.obj _ _ U b w;exact(I9.pin (b,o) (Ud _ (Ud _ (YG w e)))).2.1
   have p8:=I8.pin (a.heap.objs.size,_) (Ud _ (Uo _ Zqs));cases bv with
   |false =>
    rw[Ze ()] at q8 ⊢;obtain⟨m',hm',w8⟩:=q8;obtain⟨z1,z2⟩:=K _ _ _ I8;exact⟨m',hm',i+1,ys,A,k,Z7,H8,I8.pins_of (λp E=>nomatch E),T.keep _ _ _ U z1,z2,p8.1,p8.2.1,S,w8⟩
   |true =>
    rw[Zd rfl] at q8 ⊢;refine Zc (he t P2.objs.size a F l cat _ s8 Z7 H8 _ I8 q8) (λyv s9 h9=>?_) xe;obtain⟨y,H9,I9,ry,m',hm',w9⟩:=h9;have p9:=I9.pin (a.heap.objs.size,_) (Ud _ (Uo _ Zqs));have hl:=S.length;refine append_at (hsz:=by show A.toArray.size<=sizeLine;rw[Zm,<- hl];exact Zz hz) p9.1 λh10 hs10 hd10=>?_;have I10:Inv (JG X scope N t P2.objs.size a F l) [] Z7 H9 { s9 with heap:=h10 }:=(I9.pins_of (Y':=[]) λp E=>nomatch E).turned (t':=s9.toks) (it:=a.heap.objs.size) (λb o w e=>(hs10.2 b w).trans e) p9.2.1 M (.inr (Zf _))
     (λx c e z=>by
      obtain⟨v,o,ho,hd⟩:=I9.cell x c e;rw[z,p9.1] at ho;cases ho;cases hd) (λp E=>Zn E (by show ¬p∈([]:Yb)++[];simp))
    obtain⟨z1,z2⟩:=K _ _ _ I9;refine⟨m',hm',i+1,ys++[y],A++[yv],k+1,Z7,H9,I10,T.keep _ _ _ U (λb w o e=>?_),z2,?_,p9.2.1,js.append S (.cons ry .nil),w9⟩
    .have hb':b≠a.heap.objs.size:=λz=>nD (by rw[<- z];exact w);exact(hs10.2 b hb').trans (z1 b w o e)
    .refine hd10.trans ?_;simp
 exact codeAny_compStart_list (loop _ rfl) (T.self _ 0 _ _ _ (T.keep _ _ _ st2 (λb _ o e=>P b o e)) (loop _ rfl))
def D6 (N)(cap)(j:X.calm=true)(e:Ko scope X.env N X.N cap=true)(l:PI X tg iter wi)(m:∀f C s H d,PG (JG X scope N f C s H d) tg g)(o:∀f C s H d,Wb X C s H d->PE (JG X scope N f C s H d) elt te)
 (p:∀x,foldedSetIterable iter X.env x=pure x) {use:Option (Value->Sem Unit)} {R:Ya} {a:Pos} {Y:Yb} {s:Shared} {Z: St} {H:Hp} {Q:VK} (I:Inv X Y Z H s) (h:Xm cap wi g te Z H Q) (i:Xn X Y Z Q use R):
 Yv X (comprehension (.ListComp elt [⟨tg,iter,[],0⟩] scope pos) scope X.env a (newList []) false (eval iter X.env) use) R X.xe s:=
 D5 (test:=λ_ _ Q s=>Q true s) N (λI b n h=>W.kcp_loop I b n h) (λ_ _ _ _ _ _ _ _ _ _ _ _ _ _ I q k=>k true _ _ I q) cap j e l m o p I h i
def D7 (N)(cap)(e:X.calm=true)(b:Ko scope X.env N X.N cap=true)(f:PI X tg iter wi)(i:∀d C s H a,PG (JG X scope N d C s H a) tg g)(j:∀d C s H a,Wb X C s H a->PE (JG X scope N d C s H a) elt te)
 (l:∀x,foldedSetIterable iter X.env x=pure x:=by intro _;rfl):PE X (.ListComp elt [⟨tg,iter,[],0⟩] scope pos) (Xm cap wi g te):=λY s Z H Q I h=>D6 N cap e b f i j l I h L0
def L1 (N)(cap)(e:X.calm=true)(a:Ko scope X.env N X.N cap=true)(f:PI X tg iter wi)(h:∀b C s H d,PG (JG X scope N b C s H d) tg g)(j:∀b C s H d,PE (JG X scope N b C s H d) elt te)
 (i:∀x,foldedSetIterable iter X.env x=pure x:=by intro _;rfl):PE X (.ListComp elt [⟨tg,iter,[],0⟩] scope pos) (Xm cap wi g te):=D7 N cap e a f h () i
end
section
variable {X:Cx}
def L3:qc X (.builtin "isinstance") (λxs H Q=>∃x n t b,xs=[x,.ty n]/\TyOf X.K H x t/\W.kitOne X.K t (.type n)=some b/\Q (.bl b) H):=by
 intro Y s Z H xs f Q I r h;obtain⟨x,n,t,b,rfl,a,e,q⟩:=h;obtain⟨u,g,rfl,c,d⟩:=A7 r;obtain rfl:=d;exact I1 I c a e λtk=>⟨.bl b,H,I.tok tk,rfl,q⟩
def zn (P:Program)(w:World)(K:W.Frag)(b:Yc)(base:Heap)(a:Str)(k:Nat)(c:Yh)(sp:Sp):Prop:=
 ∃f d,FnOk P w K b base xB k f d c sp/\yP K d c []/\W.keepIn K (.ref f)=true/\b a=some (.ref f)
theorem zn.mono {P:Program}{w:World}{K:W.Frag}{b:Yc}{base:Heap}{a:Str}{j k:Nat}{d:Yh}{sp:Sp}(c:zn P w K b base a j d sp)(h:j<=k):zn P w K b base a k d sp:=by
 obtain⟨f,e,F,r⟩:=c;exact⟨f,e,F.mono h,r⟩
def W6 (c:zn X.prog X.w X.K X.mg X.base name k ps sp)(g:Room k X.A)(h:Gl X name)(i:PA X (e::es) t)
 (a:(name == ("__debug__" : Str))=false:=by decide) (j:starEach (e::es) X.env=(false,eval e X.env)::starEach es X.env:=by rfl) (d:(backTo pos (starEach es X.env)).any (·.1)=false:=by rfl):
 PE X (.Call (.Name name p) (e::es) [] pos) (AA sp [] E0 t):=by
 obtain⟨f,n,F,b,l,m⟩:=c;exact Dl F g h m l b .nil AJ i a j d
end
def Ku (h:H p=none)(o):jm H (upd H p o):=λb u q=>by rwa [Jx (Kg q h)]
def small (h:n<=1000):n<=sizeLine:=Zz (D3 h)
def YL (o)(s:jm H H')(h:H l=none):jm H (upd H' l o):=λb u e=>by
 rw[Jx (Kg e h)];exact s b u e
def Qq:bootBuiltins "len" = some (.builtin "len"):=boot_len
def L5:bootBuiltins "max" = some (.builtin "max"):=boot_max
def L6:bootBuiltins "min" = some (.builtin "min"):=boot_min
def Kv:bootBuiltins "isinstance" = some (.builtin "isinstance"):=boot_isinstance
def L7:bootBuiltins "sum" = some (.builtin "sum"):=boot_sum
def D8:bootBuiltins "int" = some (.type "int"):=boot_int
def L8:bootBuiltins "bool" = some (.type "bool"):=boot_bool
def L9:bootBuiltins "str" = some (.type "str"):=boot_str
def AM:bootBuiltins "list" = some (.type "list"):=boot_list
def LA:bootBuiltins "tuple" = some (.type "tuple"):=boot_tuple
def bt_set:bootBuiltins "set" = some (.type "set"):=boot_set
def xL (r:Jp):Prop:=(r.map (·.1)).Nodup
def dg (p q:Int×Int):Bool:=decide (p.1<q.1)||(decide (p.1=q.1)&&decide (p.2<q.2))
section
variable {α: Type}(ltb:α -> α -> Bool)
def fj (x:α):List α -> List α
 | []=>[x]
 |y::r=>if ltb x y=true then x::y::r else y::fj x r
def D9:List α -> List α
 | []=>[]
 |x::r=>fj ltb x (D9 r)
variable {ltb}
end
section
variable {X:Cx}{tg iter elt c:Expr}{scope:Scope}{pos:Pos}{wi:TI}{g:TG}{te:TE}{tt:TT}
def LC (N)(cap)(o:X.calm=true)(j:Ko scope X.env N X.N cap=true)(p:PI X tg iter wi)(r:∀a C s H d,PG (JG X scope N a C s H d) tg g)(t:∀a C s H d,PT (JG X scope N a C s H d) c tt)(u:∀a C s H d,PE (JG X scope N a C s H d) elt te)
 (v:∀x,foldedSetIterable iter X.env x=pure x) {use:Option (Value->Sem Unit)} {R:Ya} {f:Pos} {Y:Yb} {s:Shared} {Z: St} {H:Hp} {Q:VK} (I:Inv X Y Z H s) (h:YK cap wi g tt te Z H Q) (l:Xn X Y Z Q use R):
 Yv X (comprehension (.ListComp elt [⟨tg,iter,[c],0⟩] scope pos) scope X.env f (newList []) false (eval iter X.env) use) R X.xe s:=
 D5 (test:=λenv R Q s=>Yv X (isTrue c env (eval c env)) Q (notedBy (model X.prog X.w) X.A env λe s'=>R (.error e) s') s) N (λI i n h=>W.kct_loop I i n h)
  (λa C s H d _ _ _ _ _ _ _ _ m I q k=>Zc (t a C s H d _ _ _ _ _ I q) (λb w z=>by obtain⟨y,A,B⟩:=z;exact k b w y A B) λe s' hx=>Zc hx (λ_ E z=>m _ _ z) λ_ _ z=>m _ _ z) cap o j p r (λa C s H d _=>u a C s H d) v I h l
end
section
variable {X:Cx}
def Xo (a d:Addr):HO:=.ext λh=>h.IsItemsView a d
def LF:vH X "dict.items" (λx c H Q=>∃d a,x=.ref d/\c=[]/\H d=some (.dK a)/\∀p,H p=none->Q (.ref p) (upd H p (Xo p d))):=by
 intro Y s Z H x c v l Q I f g h;obtain⟨d,a,rfl,rfl,i,q⟩:=h;obtain rfl:=f;obtain rfl:=zd g;obtain⟨z,lo,ws,j,dd⟩:=YI I.hok i;exact call_meetsIn PySem.F.slot_dict_items dd.typeIs PySem.F.entry_dict_items (PySem.F.args_dict_items_1 _) (meets_dict_items (Qj X.prog X.w) d lo) ⟨⟨ws,dd⟩,⟨.ref s.heap.objs.size,upd H s.heap.objs.size (Xo s.heap.objs.size d),I.laid (λb o e=>Zq _ e) (Zf _) (⟨⟨_,Zr _ rfl,rfl,rfl⟩,⟨_,Zr _ rfl⟩,λm n z kk=>have ⟨o,e,r⟩:=z;⟨o,kk o e,r⟩⟩),rfl,q _ (I.hok.fresh (Zf _))⟩⟩
end
def wf (r:Jp)(t w:Int):Jp:=if(r.any λp=>decide (p.1=t))=true then r.map (λp=>if p.1=t then(p.1,w) else p) else r++[(t,w)]
theorem DA:∀r b,xL (b++r)->r.foldl (λa p=>wf a p.1 p.2) b=b++r
 | [],b,_=>by simp
 |p::r,b,h=>by
  have c:(b.any λq=>decide (q.1=p.1))=false:=by
   grind[xL,List.any_eq_false,List.map_append,List.nodup_append]
  have e:wf b p.1 p.2=b++[p]:=by
   unfold wf;rw[c];simp
  rw[Uy,e,DA r (b++[p]) (),Ub];rfl
def jw:Option Int->Option Int->Option Int
 |none,b=>b
 |some x,none=>some x
 |some x,some y=>some (if x > y then x else y)
end L2
namespace L2.DL
def Wd {c:Prop}{_:Decidable c}{α: Type}{a z:α}(h:(if c then some a else none)=some z):c/\a=z:=()
inductive D where
 |non|bl (b:Bool)|int (i:Int)|str (x:Str)|ty (n:String)|scr (ns:Yf)
 |tup (ds:List D)|lst (ds:List D)|dct (ks:List jx) (ds:List D)|ins (c:Str) (fs:Yh) (ds:List D)
 |exc (c:Str)|ucl (c:Str)
 |exr (c:Str) (n:Int)
 |adr (a:Addr)|dcf (ks:List jx) (ds:List D)
 |pin (a:Addr) (d:D)
abbrev _root_.Yt:=List D
abbrev _root_.Yu:=Option D
inductive Res (α: Type) where
 |ok (a:α)|ex (c:Str) (fs:Yt)|no
noncomputable def Res.bind {α β: Type}(r:Res α)(g:α -> Res β):Res β:= match r with
 | .ok a=>g a
 | .ex c fs=>.ex c fs
 | .no=>.no
def Res.need {α: Type}(r:Res α)(p:α -> Prop)(q:Str->Yt->Prop):Prop:=match r with
 | .ok a=>p a
 | .ex c fs=>q c fs
 | .no=>False
@[simp]theorem Res.bind_ok {α β: Type}(a)(g:α -> Res β):(Res.ok a).bind g=g a:=rfl
@[simp]def Res.bind_ex {α β: Type}(c)(fs)(g:α -> Res β):(Res.ex c fs:Res α).bind g=.ex c fs:=rfl
@[simp]def Res.bind_no {α β: Type}(g:α -> Res β):(Res.no:Res α).bind g=.no:=rfl
def Res.need_bind {α β: Type}{r:Res α}{g:α -> Res β}{p:β -> Prop}(h:(r.bind g).need p q):r.need (λa=>(g a).need p q) q:=by
 cases r<;>exact h
def Res.need.mono {α: Type}{r:Res α}{p b: α -> Prop}(h:r.need p q)(d:∀a,p a->b a)(e:∀c fs,q c fs->q' c fs):r.need b q':=by
 cases r with
 |ok a=>exact d a h
 |ex c fs=>exact e c fs h
 |no=>exact h
def Res.need.monoE {α: Type}{r:Res α}{p b: α -> Prop}(h:r.need p q)(d:∀a,r=.ok a->p a->b a)(e:∀c fs,q c fs->q' c fs):r.need b q':=by
 cases r with
 |ok a=>exact d a rfl h
 |ex c fs=>exact e c fs h
 |no=>exact h
def ExcO (C x:Addr):HO:=.ext λh=>∃o,h.get? x=some o/\o.cls=.ref C
def ExrO (C p x:Addr):HO:=.ext λh=>∃o,h.get? x=some o/\o.cls=.ref C/\o.dict=some p/\W.notCls o=true
def RowO (p:Addr)(n:Int):HO:=.ext λh=>∃a u,h.Ns1 p a/\a "row" = some u/\jq (.int n) u
def xZ (_:W.Frag)(H:Hp)(a:Addr)(xs:Yr):Prop:=H a=some (.tup xs)
def xZ.same {K:W.Frag}{H b:Hp}{a:Addr}{xs:Yr}(e:jm H b)(h:xZ K H a xs):xZ K b a xs:=e _ _ h
def xZ.of {K:W.Frag}{H:Hp}{a:Addr}{xs:Yr}(h:H a=some (.tup xs)):xZ K H a xs:=h
def xZ.sq {K:W.Frag}{H:Hp}{a:Addr}{xs:Yr}(h:xZ K H a xs):xJ K H a xs:=xJ.of h
def xk (_:W.Frag)(H:Hp)(a:Addr)(xs:Yr):Prop:=Rd H a (.lst xs)
def xk.same {K:W.Frag}{H b:Hp}{a:Addr}{xs:Yr}(e:jm H b)(h:xk K H a xs):xk K b a xs:=h.imp (λq=>e _ _ q) λ⟨o,q⟩=>⟨o,e _ _ q⟩
def xk.of {K:W.Frag}{H:Hp}{a:Addr}{xs:Yr}(h:H a=some (.lst xs)):xk K H a xs:=.inl h
def xk.sq {K:W.Frag}{H:Hp}{a:Addr}{xs:Yr}(h:xk K H a xs):qC K H a xs:=.inl h
section
variable (K:W.Frag)
mutual
def IsD (H:Hp):D->V->Prop
 | .non,v=>v=.non
 | .bl b,v=>v=.bl b
 | .int i,v=>v=.int i
 | .str x,v=>v=.str x
 | .ty n,v=>v=.ty n
 | .scr ns,v=>∃a,v=.ref a/\qC K H a (ns.map V.int)
 | .tup ds,v=>∃a xs,v=.ref a/\xZ K H a xs/\IsDs H ds xs
 | .lst ds,v=>∃a xs,v=.ref a/\xk K H a xs/\IsDs H ds xs
 | .dct ks ds,v=>∃a xs,v=.ref a/\H a=some (.dK (ks.zip xs))/\ks.length=xs.length/\IsDs H ds xs
 | .ins c fs ds,v=>∃a C e xs,v=.ref a/\W.nsIn K mainGlobals c=some (some (.ref C))/\H a=some (.ins C e (fs.zip xs))/\fs.length=xs.length/\IsDs H ds xs
 | .exc c,v=>∃a C,v=.ref a/\W.nsIn K mainGlobals c=some (some (.ref C))/\H a=some (ExcO C a)
 | .exr c n,v=>∃a C p,v=.ref a/\W.nsIn K mainGlobals c=some (some (.ref C))/\H a=some (ExrO C p a)/\H p=some (RowO p n)
 | .ucl c,v=>∃C,v=.ref C/\W.nsIn K mainGlobals c=some (some (.ref C))
 | .adr a,v=>v=.ref a
 | .dcf ks ds,v=>∃a o xs,v=.ref a/\H a=some (.frz o (.dK (ks.zip xs)))/\ks.length=xs.length/\IsDs H ds xs
 | .pin a d,v=>v=.ref a/\IsD H d v
def IsDs (H:Hp):Yt->Yr->Prop
 | [],xs=>xs=[]
 |d::ds,xs=>∃x r,xs=x::r/\IsD H d x/\IsDs H ds r
end
end
section
variable {K:W.Frag}{H H':Hp}
def jt:IsD K H .non v↔v=.non:=.rfl
def jj:IsD K H (.bl b) v↔v=.bl b:=.rfl
def jc:IsD K H (.int i) v↔v=.int i:=.rfl
def IsD.str_iff:IsD K H (.str x) v↔v=.str x:=.rfl
def qF:IsD K H (.ty n) v↔v=.ty n:=.rfl
def qo:IsD K H (.scr ns) v↔∃a,v=.ref a/\qC K H a (ns.map V.int):=.rfl
theorem jn:IsD K H (.tup ds) v↔∃a xs,v=.ref a/\xZ K H a xs/\IsDs K H ds xs:=.rfl
theorem jp:IsD K H (.lst ds) v↔∃a xs,v=.ref a/\xk K H a xs/\IsDs K H ds xs:=.rfl
def j8:IsD K H (.dct ks ds) v↔∃a xs,v=.ref a/\H a=some (.dK (ks.zip xs))/\ks.length=xs.length/\IsDs K H ds xs:=.rfl
def jG:IsD K H (.ins c fs ds) v↔∃a C b xs,v=.ref a/\W.nsIn K mainGlobals c=some (some (.ref C))/\H a=some (.ins C b (fs.zip xs))/\fs.length=xs.length/\IsDs K H ds xs:=.rfl
def jW:IsD K H (.exc c) v↔∃a C,v=.ref a/\W.nsIn K mainGlobals c=some (some (.ref C))/\H a=some (ExcO C a):=.rfl
def jN:IsD K H (.exr c n) v↔∃a C p,v=.ref a/\W.nsIn K mainGlobals c=some (some (.ref C))/\H a=some (ExrO C p a)/\H p=some (RowO p n):=.rfl
def qP:IsD K H (.ucl c) v↔∃C,v=.ref C/\W.nsIn K mainGlobals c=some (some (.ref C)):=.rfl
def j9:IsD K H (.adr a) v↔v=.ref a:=.rfl
def qq:IsD K H (.dcf ks ds) v↔∃a o xs,v=.ref a/\H a=some (.frz o (.dK (ks.zip xs)))/\ks.length=xs.length/\IsDs K H ds xs:=.rfl
def qp:IsD K H (.pin a d) v↔v=.ref a/\IsD K H d v:=.rfl
def IsDs.nil_iff:IsDs K H [] xs↔xs=[]:=.rfl
theorem jh:IsDs K H (d::ds) xs↔∃x r,xs=x::r/\IsD K H d x/\IsDs K H ds r:=.rfl
mutual
theorem IsD.same (e:jm H H'):∀(d:D) (v:V),IsD K H d v->IsD K H' d v
 | .non,_,h=>h
 | .bl _,_,h=>h
 | .int _,_,h=>h
 | .str _,_,h=>h
 | .ty _,_,h=>h
 | .scr _,_,h=>by
  obtain⟨a,b,f⟩:=qo.mp h;exact qo.mpr ⟨a,b,jm.seq e f⟩
 | .tup ds,_,h=>by
  obtain⟨a,xs,b,f,g⟩:=jn.mp h;exact jn.mpr ⟨a,xs,b,f.same e,IsDs.same e ds xs g⟩
 | .lst ds,_,h=>by
  obtain⟨a,xs,b,f,g⟩:=jp.mp h;exact jp.mpr ⟨a,xs,b,f.same e,IsDs.same e ds xs g⟩
 | .dct ks ds,_,h=>by
  obtain⟨a,xs,b,f,i,g⟩:=j8.mp h;exact j8.mpr ⟨a,xs,b,e _ _ f,i,IsDs.same e ds xs g⟩
 | .ins c fs ds,_,h=>by
  obtain⟨a,C,j,xs,b,l,f,i,g⟩:=jG.mp h;exact jG.mpr ⟨a,C,j,xs,b,l,e _ _ f,i,IsDs.same e ds xs g⟩
 | .exc _,_,h=>by
  obtain⟨a,C,b,f,g⟩:=jW.mp h;exact jW.mpr ⟨a,C,b,f,e _ _ g⟩
 | .exr _ _,_,h=>by
  obtain⟨a,C,p,b,f,g,i⟩:=jN.mp h;exact jN.mpr ⟨a,C,p,b,f,e _ _ g,e _ _ i⟩
 | .ucl _,_,h=>h
 | .adr _,_,h=>h
 | .dcf ks ds,_,h=>by
  obtain⟨a,o,xs,b,f,i,g⟩:=qq.mp h;exact qq.mpr ⟨a,o,xs,b,e _ _ f,i,IsDs.same e ds xs g⟩
 | .pin a d,v,h=>qp.mpr ⟨(qp.mp h).1,IsD.same e d v (qp.mp h).2⟩
theorem IsDs.same (e:jm H H'):∀ds xs,IsDs K H ds xs->IsDs K H' ds xs
 | [],_,h=>h
 |d::ds,_,h=>have ⟨x,r,a,b,c⟩:=jh.mp h;jh.mpr ⟨x,r,a,IsD.same e d x b,IsDs.same e ds r c⟩
end
def IsDs.mk (h:IsD K H d x)(r:IsDs K H ds xs):IsDs K H (d::ds) (x::xs):=jh.mpr ⟨x,xs,rfl,h,r⟩
def IsDs.nil:IsDs K H [] []:=IsDs.nil_iff.mpr rfl
theorem IsDs.length:∀{ds:Yt} {xs:Yr},IsDs K H ds xs->xs.length=ds.length
 | [],xs,h=>by simp_all [IsDs.nil_iff]
 |d::ds,xs,h=>by
  obtain⟨x,r,rfl,_,a⟩:=h;rw[Zu,Zu,IsDs.length a]
theorem IsDs.get:∀{ds:Yt} {xs:Yr} {i:Nat} {d:D},IsDs K H ds xs->ds[i]? = some d->∃x,xs[i]? = some x/\IsD K H d x
 | [],_,_,_,_,e=>Jv e
 |d::ds,xs,i,e,h,q=>by
  obtain⟨x,r,rfl,b,a⟩:=h;cases i with
  |zero=>simp_all
  |succ i=>exact IsDs.get (i:=i) a q
def IsDs.getV {ds:Yt}{xs:Yr}{i:Nat}{x:V}(h:IsDs K H ds xs)(q:xs[i]? = some x):∃d,ds[i]? = some d/\IsD K H d x:=by
 have b:=h.length;have a:i<ds.length:=();obtain⟨y,c,e⟩:=h.get (Zqg a)
 simp_all
theorem IsDs.append:∀{ds a:Yt} {xs b:Yr},IsDs K H ds xs->IsDs K H a b->IsDs K H (ds++a) (xs++b)
 | [],_,xs,_,h,h'=>by simp_all [IsDs.nil_iff]
 |d::ds,_,xs,_,h,h'=>by
  obtain⟨x,r,rfl,c,e⟩:=h;exact IsDs.mk c (IsDs.append e h')
def IsDs.snoc (h:IsDs K H ds xs)(h':IsD K H d x):IsDs K H (ds++[d]) (xs++[x]):=h.append (.mk h' .nil)
theorem qB:∀(ns:Yf),IsDs K H (ns.map D.int) (ns.map V.int)
 | []=>.nil
 |n::ns=>.mk (jc.mpr rfl) (qB ns)
theorem qZ:∀{ns:Yf} {xs:Yr},IsDs K H (ns.map D.int) xs->xs=ns.map V.int
 | [],_,h=>IsDs.nil_iff.mp h
 |n::ns,xs,h=>by
  obtain⟨x,r,rfl,a,b⟩:=h;rw[a,qZ b];rfl
end
structure Ext (F H F' H':Hp):Prop where
 ff:jm F F'
 fh:jm F' H'
 hh:jm H H'
 new:∀a,F a=none->H a≠none->F' a=none
theorem Ext.refl (h:jm F H):Ext F H F H:=⟨.refl _,h,.refl _,λ_ e _=>e⟩
theorem Ext.trans (a:Ext F H F1 H1)(b:Ext F1 H1 F2 H2):Ext F H F2 H2:=
 ⟨a.ff.trans b.ff,b.fh,a.hh.trans b.hh,λx e n=>b.new x (a.new x e n) (by
  cases q:H x with
  |none=>exact Zn q n
  |some o=>rw[a.hh _ _ q];simp)⟩
def Qd (h:jm F H)(a:H p=none):F p=none:=h.free a
def jI (h:jm F H)(c:H p=none)(o):Ext F H (upd F p o) (upd H p o):=
 ⟨Ku (h.free c) o,λb u e=>by
  by_cases q:b=p
  .simp_all [J8]
  .rw[Jx q] at e ⊢;exact h _ _ e,Ku c o,λa e n=>by
  have q:a≠p:=by grind
  rwa [Jx q]⟩
def Ext.keep (h:jm F H)(a:H p=none)(o):Ext F H F (upd H p o):=
 ⟨.refl _,h.trans (Ku a o),Ku a o,λ_ e _=>e⟩
def Ext.grow (h:jm F H)(a:jm H H'):Ext F H F H':=⟨.refl _,h.trans a,a,λ_ e _=>e⟩
inductive SV where
 |val (d:D)|own (p:Bool) (d:D)
structure Bs where
 F0:Hp
 H0:Hp
 pa:Nat->Option (Addr×Yr)
abbrev SD:=List (Option SV)
def yo (K:W.Frag)(F H:Hp)(l:Addr):D->Prop
 | .lst ds=>∃xs,H l=some (.lst xs)/\IsDs K F ds xs
 | .dct ks ds=>∃xs,H l=some (.dK (ks.zip xs))/\ks.length=xs.length/\IsDs K F ds xs
 | .ins c fs ds=>∃C a xs,W.nsIn K mainGlobals c=some (some (.ref C))/\H l=some (.ins C a (fs.zip xs))/\fs.length=xs.length/\IsDs K F ds xs
 |_=>False
def yo.has {K:W.Frag}{F H:Hp}{l:Addr}{d:D}(h:yo K F H l d):∃o,H l=some o:=by
 cases d with
 |lst ds=>have ⟨xs,e,_⟩:=h;exact⟨_,e⟩
 |dct ks ds=>have ⟨xs,e,_⟩:=h;exact⟨_,e⟩
 |ins c fs ds=>have ⟨C,a,xs,_,e,_⟩:=h;exact⟨_,e⟩
 |_=>exact False.elim h
def yo.ext {K:W.Frag}{F H f g:Hp}{l:Addr}{d:D}(h:yo K F H l d)(a:jm F f)(b:∀o,H l=some o->g l=some o):yo K f g l d:=by
 cases d with
 |lst ds=>have ⟨xs,e,q⟩:=h;exact⟨xs,b _ e,IsDs.same a _ _ q⟩
 |dct ks ds=>obtain⟨xs,e,z,q⟩:=h;exact⟨xs,b _ e,z,IsDs.same a _ _ q⟩
 |ins c fs ds=>obtain⟨C,i,xs,k,e,z,q⟩:=h;exact⟨C,i,xs,k,b _ e,z,IsDs.same a _ _ q⟩
 |_=>exact False.elim h
def yo.frz {K:W.Frag}{F H:Hp}{l:Addr}{d:D}{o:HO}(h:yo K F H l d)(e:H l=Option.some o)(n:F l=none):IsD K (upd F l o) d (.ref l):=by
 cases d with
 |lst ds =>
  have ⟨xs,a,q⟩:=h;rw[e] at a;obtain rfl:=Zqi a;exact jp.mpr ⟨l,xs,rfl,.of J8,IsDs.same (Ku n _) _ _ q⟩
 |dct ks ds =>
  obtain⟨xs,a,z,q⟩:=h;rw[e] at a;obtain rfl:=Zqi a;exact j8.mpr ⟨l,xs,rfl,J8,z,IsDs.same (Ku n _) _ _ q⟩
 |ins c fs ds =>
  obtain⟨C,b,xs,k,a,z,q⟩:=h;rw[e] at a;obtain rfl:=Zqi a;exact jG.mpr ⟨l,C,b,xs,rfl,k,J8,z,IsDs.same (Ku n _) _ _ q⟩
 |_=>exact False.elim h
def mZ (H:Hp)(l:Addr)(o:Option (Addr×Yr)):Prop:=∃xs,o=some (l,xs)/\H l=some (.lst xs)
structure RS (K:W.Frag)(B:Bs)(F H:Hp)(sd:SD)(Z: St):Prop where
 ext:Ext B.F0 B.H0 F H
 len:Z.length=sd.length
 val:∀{i:Nat} {d:D},sd[i]? = some (~~~d)->∃v,Z[i]? = some (some v)/\IsD K F d v
 own:∀{i:Nat} {p:Bool} {d:D},sd[i]? = some (some (.own p d))->∃l,Z[i]? = some (some (.ref l))/\B.H0 l=none/\F l=none/\yo K F H l d/\(p=true->mZ H l (B.pa i))
 apart:∀{i j:Nat} {p q:Bool} {d e:D} {l:Addr},i≠j->sd[i]? = some (some (.own p d))->sd[j]? = some (some (.own q e)) -> Z[i]? = some (some (.ref l)) -> Z[j]? ≠ some (some (.ref l))
section
variable {K:W.Frag}{B:Bs}{F H F' H':Hp}{sd:SD}{Z: St}
def mZ.mono (h:mZ H l o)(k:∀u,H l=some u->H' l=some u):mZ H' l o:=let ⟨xs,h1,h2⟩:=h;⟨xs,h1,k _ h2⟩
def RS.step (r:RS K B F H sd Z)(e:Ext F H F' H'):RS K B F' H' sd Z where
 ext:=r.ext.trans e
 len:=r.len
 val:=λh=>let ⟨v,a,b⟩:=r.val h;⟨v,a,IsD.same e.ff _ _ b⟩
 own:=λh=>by
  obtain⟨l,a,b,d,c,f⟩:=r.own h;obtain⟨o,g⟩:=c.has;exact⟨l,a,b,e.new l d (),c.ext e.ff λo q=>e.hh _ _ q,λp=>(f p).mono λu q=>e.hh _ _ q⟩
 apart:=r.apart
def Qg {α: Type}{l:List α}{a:α}(h:i≠j):(l.set i a)[j]? = l[j]?:= Zx h
def Kh {α: Type}{l:List α}{a b:α}(h:(l.set i a)[i]? = some b):b=a/\i<l.length:=()
def RS.setVal (r:RS K B F H sd Z)(h:IsD K F d v):RS K B F H (sd.set i (~~~d)) (Z.set i (some v)) where
 ext:=r.ext
 len:=by rw[Uu,Uu,r.len]
 val:=λ{j e} q=>by
  by_cases z:i=j
  .subst z;obtain⟨a,o⟩:=Kh q;cases a;exact⟨v,Ux (by rwa [r.len]),h⟩
  .rw[Qg z] at q ⊢;exact r.val q
 own:=λ{j p e} q=>by
  by_cases z:i=j
  .subst z;obtain⟨a,_⟩:=Kh q;cases a
  .rw[Qg z] at q ⊢;exact r.own q
 apart:=λ{j k s t u w l} n b c f=>by
  have g:i≠j:=λz=>by subst z;obtain⟨a,_⟩:=Kh b;cases a
  have m:i≠k:=λz=>by subst z;obtain⟨a,_⟩:=Kh c;cases a
  rw[Qg g] at b f;rw[Qg m] at c ⊢;exact r.apart n b c f
def RS.setOwn (r:RS K B F H sd Z)(u:B.H0 l=none)(v:F l=none)(h:yo K F H l d)(g:∀(j:Nat) p e,sd[j]? = some (some (SV.own p e)) -> Z[j]? ≠ some (some (.ref l))):
 RS K B F H (sd.set i (some (.own false d))) (Z.set i (some (.ref l))) where
 ext:=r.ext
 len:=by rw[Uu,Uu,r.len]
 val:=λ{j e} q=>by
  by_cases z:i=j
  .subst z;obtain⟨f,_⟩:=Kh q;cases f
  .rw[Qg z] at q ⊢;exact r.val q
 own:=λ{j p e} q=>by
  by_cases z:i=j
  .subst z;obtain⟨f,o⟩:=Kh q;cases f;exact⟨l,Ux (by rwa [r.len]),u,v,h,λz=>by cases z⟩
  .rw[Qg z] at q ⊢;exact r.own q
 apart:=λ{j k w x y A m} n c a b=>by
  by_cases s:i=j
  .subst s;obtain⟨_,o⟩:=Kh c;rw[Qg n] at a ⊢;rw[Ux (by rwa [r.len])] at b;cases b;exact g k x A a
  .rw[Qg s] at c b;by_cases t:i=k
   .subst t;obtain⟨_,o⟩:=Kh a;rw[Ux (by rwa [r.len])];intro e;cases e;exact g j w y c b
   .rw[Qg t] at a ⊢;exact r.apart n c a b
def RS.chg {i:Nat}{p:Bool}{d d':D}{l:Addr}{o:HO}(r:RS K B F H sd Z)(a:sd[i]? = some (some (.own p d)))(b:Z[i]? = some (some (.ref l)))(h:yo K F (upd H l o) l d'):
 RS K B F (upd H l o) (sd.set i (some (.own false d'))) Z:= by
 obtain⟨N,c,t,v,_,_⟩:=r.own a;rw[b] at c;cases c;have w:i<sd.length:=by grind
 refine⟨⟨r.ext.ff,YL o r.ext.fh v,YL o r.ext.hh t,r.ext.new⟩,by rw[Uu,r.len],λ{j e} q=>?_,λ{j p e} q=>?_,λ{j k f s O P m} n x y A=>?_⟩
 .by_cases z:i=j
  .simp_all
  .rw[Qg z] at q;exact r.val q
 .by_cases z:i=j
  .simp_all
  .rw[Qg z] at q;obtain⟨m,C,E,G,I,J⟩:=r.own q;have ne:m≠l:=λe=>r.apart z a q b (by rwa [<- e]);exact⟨m,C,E,G,I.ext (.refl _) λu q'=>by rwa [Jx ne],λp=>(J p).mono λu q'=>by rwa [Jx ne]⟩
 .have g:∀{j:Nat} {p:Bool} {e:D},(sd.set i (some (.own false d')))[j]? = some (some (.own p e))->∃L M,sd[j]? = some (some (.own L M)):=by grind
  have ⟨_,_,f⟩:=g x;have ⟨_,_,s⟩:=g y;exact r.apart n f s A
def RS.frz1 (r:RS K B F H sd Z)(h:sd[i]? = some (some (.own p d))):∃F',jm F F'/\RS K B F' H (sd.set i (~~~d)) Z:= by
 obtain⟨l,s,P,t,w,_⟩:=r.own h;obtain⟨o,e⟩:=w.has;have y:i<sd.length:=();have c:=Ku t o;refine⟨upd F l o,c,⟨r.ext.ff.trans c,λb u q=>?_,r.ext.hh,λa f g=>?_⟩,by rw[Uu,r.len],λ{j x} q=>?_,λ{j p x} q=>?_,λ{j k Q R S T m} n f g A=>?_⟩
 .by_cases z:b=l
  .simp_all [J8]
  .rw[Jx z] at q;exact r.ext.fh _ _ q
 .have z:a≠l:=by grind
  rw[Jx z];exact r.ext.new a f g
 .by_cases z:i=j
  .subst z;obtain⟨C,_⟩:=Kh q;cases C;exact⟨_,s,w.frz e t⟩
  .rw[Qg z] at q;have ⟨v,E,G⟩:=r.val q;exact⟨v,E,IsD.same c _ _ G⟩
 .by_cases z:i=j
  .simp_all
  .rw[Qg z] at q;obtain⟨m,I,J,U,L,M⟩:=r.own q;have ne:m≠l:=λe=>r.apart z h q s (by rwa [<- e]);exact⟨m,I,J,by rwa [Jx ne],L.ext c λu q'=>q',M⟩
 .have N:i≠j:=λz=>by simp_all
  have O:i≠k:=λz=>by simp_all
  rw[Qg N] at f;rw[Qg O] at g;exact r.apart n f g A
def qa:Yg->SD->SD
 | [],sd=>sd
 |i::is,sd=>qa is (match sd[i]? with
  |some (some (.own _ d))=>sd.set i (~~~d)
  |_=>sd)
theorem RS.frz:∀is {F:Hp} {sd:SD},RS K B F H sd Z -> ∃F',jm F F'/\RS K B F' H (qa is sd) Z
 | [],F,sd,r=>⟨F,.refl _,r⟩
 |i::is,F,sd,r=>by
  unfold qa
  split
  .rename_i p d h;obtain⟨g,a,b⟩:=r.frz1 h;obtain⟨c,e,f⟩:=RS.frz is b;exact⟨c,a.trans e,f⟩
  .exact RS.frz is r
end
def mW (K:W.Frag)(F H:Hp)(c:Str)(fs:Yt)(b:Value)(a:Option Addr):Prop:=
 ∃C,b=.ref C/\W.nsIn K mainGlobals c=some (some (.ref C))/\(fs=[]\/∃p n,fs=[.int n]/\a=some p/\F p=some (RowO p n))
def XW (K:W.Frag)(E:XK)(F H:Hp)(c:Str)(fs:Yt):Prop:=∀d a e b,Ext F H e b->mW K e b c fs d a->E d a b
def XW.ext {K:W.Frag}{E:XK}{F H b d:Hp}{c:Str}{fs:Yt}(h:XW K E F H c fs)(e:Ext F H b d):XW K E b d c fs:=λf a g i j q=>h f a g i (e.trans j) q
abbrev FE:=SD->Res D
abbrev FT:=SD->Res Bool
abbrev FA:=SD->Res Yt
def yc (K:W.Frag)(F H:Hp)(Q:VK)(d:D):Prop:=∀v a b,Ext F H a b->IsD K a d v->Q v b
def vX (F H:Hp)(Q:Bool->Hp->Prop)(b:Bool):Prop:=∀c a,Ext F H c a->Q b a
def pz (K:W.Frag)(F H:Hp)(Q:Yr->Hp->Prop)(ds:Yt):Prop:=∀a b c,Ext F H b c->IsDs K b ds a->Q a c
def yq (K:W.Frag)(F H:Hp)(Q:VK)(d:D):Prop:=∀l a b,Ext F H a b->H l=none->a l=none->yo K a b l d->Q (.ref l) b
def tD (K:W.Frag)(E:XK)(f:FE):TE:=λZ H Q=>∃B F sd,RS K B F H sd Z /\ (f sd).need (yc K F H Q) (XW K E F H)
def uZ (K:W.Frag)(E:XK)(f:FT):TT:=λZ H Q=>∃B F sd,RS K B F H sd Z /\ (f sd).need (vX F H Q) (XW K E F H)
def pJ (K:W.Frag)(E:XK)(f:FA):TA:=λZ H Q=>∃B F sd,RS K B F H sd Z /\ (f sd).need (pz K F H Q) (XW K E F H)
def vp (K:W.Frag)(E:XK)(f:FE):TE:=λZ H Q=>∃B F sd,RS K B F H sd Z /\ (f sd).need (yq K F H Q) (XW K E F H)
abbrev QE (X:Cx)(E:XK)(e:Expr)(f:FE):Prop:=PE X e (tD X.K E f)
abbrev QT (X:Cx)(E:XK)(e:Expr)(f:FT):Prop:=PT X e (uZ X.K E f)
abbrev QW (X:Cx)(E:XK)(e:Expr)(f:FT):Prop:=PW X e (uZ X.K E f)
abbrev QA (X:Cx)(E:XK)(es:Yj)(f:FA):Prop:=PA X es (pJ X.K E f)
abbrev QN (X:Cx)(E:XK)(e:Expr)(f:FE):Prop:=PE X e (vp X.K E f)
def PE.weak (h:PE X e t)(w:∀Z H Q,t' Z H Q->t Z H Q):PE X e t':=λY s Z H Q I q=>h Y s Z H Q I (w _ _ _ q)
def PT.weak (h:PT X e t)(w:∀Z H Q,t' Z H Q->t Z H Q):PT X e t':=λY s Z H Q I q=>h Y s Z H Q I (w _ _ _ q)
def PW.weak (h:PW X e t)(w:∀Z H Q,t' Z H Q->t Z H Q):PW X e t':=λa Y s Z H Q I q=>h a Y s Z H Q I (w _ _ _ q)
def PA.weak (h:PA X e t)(w:∀Z H Q,t' Z H Q->t Z H Q):PA X e t':=λa Y s Z H Q I q=>h a Y s Z H Q I (w _ _ _ q)
def PS.weak (h:PS X e t)(w:∀D Z H,t' D Z H->t D Z H):PS X e t':=λY s Z H D I q=>h Y s Z H D I (w _ _ _ q)
def qY.weak (h:qY X e t)(w:∀D Z H,t' D Z H->t D Z H):qY X e t':=λY s Z H D I q=>h Y s Z H D I (w _ _ _ q)
def PI.weak (h:PI X tg e t)(w:∀Z H R,t' Z H R->t Z H R):PI X tg e t':=λY s Z H R I q=>h Y s Z H R I (w _ _ _ q)
section
variable {K:W.Frag}{E:XK}{F H F' H':Hp}
def yc.ext (h:yc K F H Q d)(e:Ext F H F' H'):yc K F' H' Q d:=λv a b c q=>h v a b (e.trans c) q
def vX.ext (h:vX F H Q b)(e:Ext F H F' H'):vX F' H' Q b:=λa c d=>h a c (e.trans d)
def yq.ext (h:yq K F H Q d)(e:Ext F H F' H'):yq K F' H' Q d:=λl a b c q=>h l a b (e.trans c) (Qd e.hh q)
def We {Q:VK}{r:Res D}(h:r.need (yc K F H Q) (XW K E F H))(e:Ext F H F' H'):r.need (yc K F' H' Q) (XW K E F' H'):=h.mono (λ_ q=>q.ext e) λ_ _ q=>q.ext e
def DB {Q:Bool->Hp->Prop}{r:Res Bool}(h:r.need (vX F H Q) (XW K E F H))(e:Ext F H F' H'):r.need (vX F' H' Q) (XW K E F' H'):=h.mono (λ_ q=>q.ext e) λ_ _ q=>q.ext e
def AN {Q:VK}{r:Res D}(h:r.need (yq K F H Q) (XW K E F H))(e:Ext F H F' H'):r.need (yq K F' H' Q) (XW K E F' H'):=h.mono (λ_ q=>q.ext e) λ_ _ q=>q.ext e
theorem yc.new (h:yc K F H Q d):yq K F H Q d:=λl F' H' e n c o=>by
 obtain⟨u,f⟩:=o.has;refine h (.ref l) (upd F' l u) H' ⟨e.ff.trans (Ku c u),λb v q=>?_,e.hh,λa g i=>?_⟩ (o.frz f c)
 .by_cases z:b=l
  .simp_all [J8]
  .rw[Jx z] at q;exact e.fh _ _ q
 .have z:a≠l:=by grind
  rw[Jx z];exact e.new a g i
end
section
variable {X:Cx}{E:XK}
def jy (h:QN X E e f):QE X E e f:=PE.weak h λZ H Q ⟨B,F,sd,r,n⟩=>⟨B,F,sd,r,n.mono (λ_ q=>q.new) λ_ _ q=>q⟩
def ja (i:Nat):FE:=λsd=>match sd[i]? with
 |some (~~~d)=>.ok d
 |_=>.no
def dC (d:D):FE:=λ_=>.ok d
def kP (h:PE X e (xS i)):QE X E e (ja i):=PE.weak h λZ H Q a=>by
 obtain⟨B,F,sd,r,n⟩:=a;unfold ja at n
 split at n
 .rename_i d q;obtain⟨v,b,c⟩:=r.val q;exact⟨v,b,n v F H (.refl r.ext.fh) c⟩
 .exact n.elim
def Wf (h:PE X e (tC v))(i:∀F,IsD X.K F d v):QE X E e (dC d):=PE.weak h λZ H Q ⟨B,F,sd,r,n⟩=>n v F H (.refl r.ext.fh) (i F)
def Jt {i j pos}:QE X E (.Constant (.int i) j pos) (dC (.int i)):=Wf HD λ_=>jc.mpr rfl
def Wg {b j pos}:QE X E (.Constant (.bool b) j pos) (dC (.bl b)):=Wf gc λ_=>jj.mpr rfl
def V3 {j pos}:QE X E (.Constant .none j pos) (dC .non):=Wf HE λ_=>jt.mpr rfl
def J3 {x j pos}:QE X E (.Constant (.str x) j pos) (dC (.str x)):=Wf CH λ_=>IsD.str_iff.mpr rfl
def Res.ofO {α: Type}:Option α -> Res α
 |some a=>.ok a
 |none=>.no
@[simp]def wJ {α: Type}(a:α):Res.ofO (some a)=.ok a:=rfl
@[simp]def wK {α: Type}:Res.ofO (none:Option α)=.no:=rfl
def ji {α: Type}{o:Option α}{p:α -> Prop}(h:(Res.ofO o).need p q):∃a,o=some a/\p a:=by
 cases o with
 |none=>exact h.elim
 |some a=>exact⟨a,rfl,h⟩
def jf (g:D->D->Yu)(a b:FE):FE:=λsd=>(a sd).bind λx=>(b sd).bind λy=>.ofO (g x y)
def jK (g:D->Yu)(a:FE):FE:=λsd=>(a sd).bind λx=>.ofO (g x)
def z8 (K:W.Frag)(g:D->D->Yu):R2:=λv w H Q=>∃F d e z,jm F H/\IsD K F d v/\IsD K F e w/\g d e=some z/\yc K F H Q z
def df (K:W.Frag)(g:D->Yu):V->Hp->VK->Prop:=λv H Q=>∃F d z,jm F H/\IsD K F d v/\g d=some z/\yc K F H Q z
def yU (K:W.Frag)(g:Yt->Yu):Yr->Hp->VK->Prop:=λa H Q=>∃F ds z,jm F H/\IsDs K F ds a/\g ds=some z/\yc K F H Q z
def kK (K:W.Frag)(g:Yt->Yu):Yr->Hp->VK->Prop:=λa H Q=>∃F ds z,jm F H/\IsDs K F ds a/\g ds=some z/\yq K F H Q z
def Xp {K:W.Frag}{g:D->D->Yu}{c d:FE}{Z: St}{H:Hp}{Q:VK}(h:tD K E (jf g c d) Z H Q):vn (z8 K g) (tD K E c) (tD K E d) Z H Q:=by
 obtain⟨B,F,sd,r,n⟩:=h;refine⟨B,F,sd,r,(Res.need_bind n).mono (λx e v f p a i=>⟨B,f,sd,r.step a,(Res.need_bind e).mono (λy j w l s b m=>?_) λ_ _ q=>q.ext a⟩) λ_ _ q=>q⟩;obtain⟨z,o,q⟩:=ji j;exact⟨l,x,y,z,b.fh,IsD.same b.ff _ _ i,m,o,q.ext (a.trans b)⟩
def uX {K:W.Frag}{g:D->Yu}{a:FE}{Z: St}{H:Hp}{Q:VK}(h:tD K E (jK g a) Z H Q):cT (df K g) (tD K E a) Z H Q:=by
 obtain⟨B,F,sd,r,n⟩:=h;refine⟨B,F,sd,r,(Res.need_bind n).mono (λx c v d i b e=>?_) λ_ _ q=>q⟩;obtain⟨z,f,q⟩:=ji c;exact⟨d,x,z,b.fh,e,f,q.ext b⟩
abbrev xK (X:Cx)(f:Value->Value->Sem Value)(g:D->D->Yu):Prop:=qA X f (z8 X.K g)
def qA.weak (h:qA X f r)(w:∀x y H Q,r' x y H Q->r x y H Q):qA X f r':=λY s Z H x y v u Q I a b q=>h Y s Z H x y v u Q I a b (w _ _ _ _ q)
def wE.weak (h:wE X f r)(w:∀x H Q,r' x H Q->r x H Q):wE X f r':=λY s Z H x v Q I a q=>h Y s Z H x v Q I a (w _ _ _ q)
def qc.weak (h:qc X f r)(w:∀x H Q,r' x H Q->r x H Q):qc X f r':=λY s Z H x v Q I a q=>h Y s Z H x v Q I a (w _ _ _ q)
def yS.weak (h:yS X r)(w:∀x y H Q,r' x y H Q->r x y H Q):yS X r':=λa b Y s Z H x y v u Q I c d q e=>h a b Y s Z H x y v u Q I c d (w _ _ _ _ q) e
variable {a b:Expr}{fa fb:FE}{pos:Pos}
def jo (c:xK X (binaryOp op) g)(d:QE X E a fa)(e:QE X E b fb):QE X E (.BinOp a op b pos) (jf g fa fb):=PE.weak (gb c d e) λ_ _ _ h=>Xp h
def yr (c:wE X (unaryOp op) (df X.K g))(d:QE X E a fa):QE X E (.UnaryOp op a pos) (jK g fa):=PE.weak (kY c d) λ_ _ _ h=>uX h
def KB (c:xK X (compareOp op) g)(d:QE X E a fa)(e:QE X E b fb)(f:behindInMarks op b=false):QE X E (.Compare a [op] [b] pos) (jf g fa fb):=PE.weak (Da c d e f) λ_ _ _ h=>Xp h
def Jw (fa:FE):FT:=λsd=>(fa sd).bind λx=>match x with
 | .bl b=>.ok b
 |_=>.no
def KC {K:W.Frag}{Z: St}{H:Hp}{Q:Bool->Hp->Prop}(h:uZ K E (Jw fa) Z H Q):tD K E fa Z H (λx d=>∃k,x=.bl k/\Q k d):=by
 obtain⟨B,F,sd,r,n⟩:=h;refine⟨B,F,sd,r,(Res.need_bind n).mono (λx c v e f g i=>?_) λ_ _ q=>q⟩;cases x with
 |bl k=>exact⟨k,jj.mp i,c e f g⟩
 |_=>exact c.elim
def JR {c:CmpOp}{g:D->D->Yu}(d:xK X (compareOp c) g)(e:QE X E a fa)(f:QE X E b fb)(i:behindInMarks c b=false):QT X E (.Compare a [c] [b] pos) (Jw (jf g fa fb)):=
 PT.weak (YH d e f i) λZ H Q h=>have h:=KC h;Xp h
def Q9 (d:QE X E a fa)(e:∀c,isTrue a X.env c=(do let v <- c;standAt a.pos;holding [v] (truthy v)):=by intro _;rfl):QT X E a (Jw fa):=PT.weak (CN d e) λZ H Q q=>KC q
def Q1 (f:FT):FT:=λsd=>(f sd).bind λb=>.ok (!b)
def Q2 (f g:FT):FT:=λsd=>(f sd).bind λb=>if b then g sd else .ok false
def xH (f g:FT):FT:=λsd=>(f sd).bind λb=>if b then .ok true else g sd
variable {f g:FT}{rest:Yj}
def KD (c:QT X E a f):QT X E (.UnaryOp .Not a pos) (Q1 f):=PT.weak (CO c) λZ H Q ⟨B,F,sd,r,n⟩ =>
 ⟨B,F,sd,r,(Res.need_bind n).mono (λ_ q=>q) λ_ _ q=>q⟩
def Vp (c:QT X E a f):QW X E (.BoolOp .And [a] pos) f:=HH c
def W7 (c:QT X E a f):QW X E (.BoolOp .Or [a] pos) f:=HI c
def KR (h:QT X E a f)(i:QW X E (.BoolOp .And (b::rest) pos) g):QW X E (.BoolOp .And (a::b::rest) pos) (Q2 f g):=PW.weak (HJ h i) λZ H Q j=>by
 obtain⟨B,F,sd,r,n⟩:=j;refine⟨B,F,sd,r,(Res.need_bind n).mono (λk d e l c=>?_) λ_ _ q=>q⟩;cases k with
 |true=>exact⟨B,e,sd,r.step c,DB d c⟩
 |false=>exact d e l c
def Vq (h:QT X E a f)(i:QW X E (.BoolOp .Or (b::rest) pos) g):QW X E (.BoolOp .Or (a::b::rest) pos) (xH f g):=PW.weak (kW h i) λZ H Q j=>by
 obtain⟨B,F,sd,r,n⟩:=j;refine⟨B,F,sd,r,(Res.need_bind n).mono (λk d e l c=>?_) λ_ _ q=>q⟩;cases k with
 |true=>exact d e l c
 |false=>exact⟨B,e,sd,r.step c,DB d c⟩
def qi (h:QW X E e f):QT X E e f:=mQ h
def W8 (fa fb:FE):FE:=λsd=>(Jw fa sd).bind λb=>if b then fb sd else .ok (.bl false)
def yI (fa fb:FE):FE:=λsd=>(Jw fa sd).bind λb=>if b then .ok (.bl true) else fb sd
def YM (fa:FE):FE:=λsd=>(Jw fa sd).bind λb=>.ok (.bl !b)
def W9 {op}(h:QE X E a fa):QE X E (.BoolOp op [a] pos) fa:=CP h
def YN (h:QE X E a fa)(i:QE X E (.BoolOp .And (b::rest) pos) fb):QE X E (.BoolOp .And (a::b::rest) pos) (W8 fa fb):=PE.weak (CQ h i) λZ H Q j=>by
 obtain⟨B,F,sd,r,n⟩:=j;refine KC ⟨B,F,sd,r,(Res.need_bind n).mono (λk d e l c=>?_) λ_ _ q=>q⟩;cases k with
 |true=>exact⟨B,e,sd,r.step c,We d c⟩
 |false=>exact d _ e l c (jj.mpr rfl)
def vt (j:QE X E a fa)(l:QE X E (.BoolOp .Or (b::rest) pos) fb):QE X E (.BoolOp .Or (a::b::rest) pos) (yI fa fb):=PE.weak (kZ j l) λZ H Q m=>by
 obtain⟨B,F,sd,r,n⟩:=m;refine KC (K:=X.K) (E:=E) (Q:=λc d=>if c=true then Q (.bl true) d else tD X.K E fb Z d Q) ⟨B,F,sd,r,(Res.need_bind n).mono (λk h i d e=>?_) λ_ _ q=>q⟩;cases k with
 |true=>exact h _ i d e (jj.mpr rfl)
 |false=>exact⟨B,i,sd,r.step e,We h e⟩
def kR (c:QE X E a fa):QE X E (.UnaryOp .Not a pos) (YM fa):=PE.weak (HK c) λZ H Q ⟨B,F,sd,r,n⟩=>KC ⟨B,F,sd,r,(Res.need_bind n).mono (λk d e h i=>(d _ e h i (jj.mpr rfl))) λ_ _ q=>q⟩
def sI (c:FT)(fa fb:FE):FE:=λsd=>(c sd).bind λk=>if k then fa sd else fb sd
def DC {c:Expr}(i:QT X E c f)(j:QE X E a fa)(l:QE X E b fb):QE X E (.IfExp c a b pos) (sI f fa fb):=PE.weak (HL i j l) λZ H Q m=>by
 obtain⟨B,F,sd,r,n⟩:=m;refine⟨B,F,sd,r,(Res.need_bind n).mono (λk e h o d=>?_) λ_ _ q=>q⟩;cases k with
 |true=>exact⟨B,h,sd,r.step d,We e d⟩
 |false=>exact⟨B,h,sd,r.step d,We e d⟩
def jd:FA:=λ_=>.ok []
def Jr (fa:FE)(c:FA):FA:=λsd=>(fa sd).bind λx=>(c sd).bind λxs=>.ok (x::xs)
def Ju:QA X E [] jd:=PA.weak W1 λZ H Q ⟨B,F,sd,r,n⟩=>n [] F H (.refl r.ext.fh) .nil
def Js (h:QE X E e fe)(i:QA X E es fr)(j:starEach (e::es) X.env=(false,eval e X.env)::starEach es X.env:=by rfl):QA X E (e::es) (Jr fe fr):=
 PA.weak (W2 h i j) λZ H Q ⟨B,F,sd,r,n⟩=>⟨B,F,sd,r,(Res.need_bind n).mono (λx l v m w c o=>⟨B,m,sd,r.step c,(Res.need_bind l).mono (λxs p y s t d u=>(p _ s t (c.trans d) (.mk (IsD.same d.ff _ _ o) u))) λ_ _ q=>q.ext c⟩) λ_ _ q=>q⟩
def qg (c:FA):FE:=λsd=>(c sd).bind λxs=>if xs.length<=1000 then .ok (.lst xs) else .no
def qf (c:FA):FE:=λsd=>(c sd).bind λxs=>if xs.length<=1000 then .ok (.tup xs) else .no
def QC (h:QA X E es fr):QN X E (.List es pos) (qg fr):=PE.weak (Dk h) λZ H Q l=>by
 obtain⟨B,F,sd,r,n⟩:=l;refine⟨B,F,sd,r,(Res.need_bind n).mono (λxs d i m o c j=>?_) λ_ _ q=>q⟩
 split at d
 .have s:=j.length;exact⟨small (),λp e=>(d p m (upd o p (.lst i)) (c.trans (.keep c.fh e _)) (Qd c.hh e) (Qd c.fh e) ⟨i,J8,j⟩)⟩
 .exact d.elim
def Kw {x1}(h:QA X E es fr):QE X E (.Tuple es x1 pos) (qf fr):=PE.weak (IC h) λZ H Q l=>by
 obtain⟨B,F,sd,r,n⟩:=l;refine⟨B,F,sd,r,(Res.need_bind n).mono (λxs c d o s e i=>?_) λ_ _ q=>q⟩
 split at c
 .have t:=i.length;refine⟨small (),λp m=>?_⟩;have j:=jI e.fh m (.tup d);exact c _ _ _ (e.trans j) (jn.mpr ⟨p,d,rfl,.of J8,IsDs.same j.ff _ _ i⟩)
 .exact c.elim
def xA (K:W.Frag)(c:Yt->Res D):Sp:=λd H Q _=>∃F ds,jm F H/\IsDs K F ds d/\(c ds).need (yc K F H Q) (XW K E0 F H)
def vd (K:W.Frag)(c:Yt->Res D):Sp:=λd H Q _=>∃F ds,jm F H/\IsDs K F ds d/\(c ds).need (yq K F H Q) (XW K E0 F H)
def J1 (c:Yt->Res D)(d:FA):FE:=λsd=>(d sd).bind c
def jQ {d:Str}{k:Nat}{s:Yh}{i:Yt->Res D}{p:Pos}{e:Expr}{h:Yj}{m:FA}(c:zn X.prog X.w X.K X.mg X.base d k s (xA X.K i))(t:Room k X.A)(u:Gl X d)(v:QA X E0 (e::h) m)
 (j:(d == ("__debug__" : Str))=false:=by decide) (w:starEach (e::h) X.env=(false,eval e X.env)::starEach h X.env:=by rfl) (l:(backTo pos (starEach h X.env)).any (·.1)=false:=by rfl):
 QE X E0 (.Call (.Name d p) (e::h) [] pos) (J1 i m):=PE.weak (W6 c t u v j w l) λZ H Q x=>by
 obtain⟨B,F,sd,r,n⟩:=x;refine⟨B,F,sd,r,(Res.need_bind n).mono (λxs y z A C o G=>?_) λ_ _ q=>q⟩;show xA X.K i (z++[]) C Q E0;rw[ZA];exact⟨A,xs,o.fh,G,We y o⟩
def kT {d:Str}{k:Nat}{s:Yh}{i:Yt->Res D}{p:Pos}{e:Expr}{h:Yj}{m:FA}(c:zn X.prog X.w X.K X.mg X.base d k s (vd X.K i))(t:Room k X.A)(u:Gl X d)(v:QA X E0 (e::h) m)
 (j:(d == ("__debug__" : Str))=false:=by decide) (w:starEach (e::h) X.env=(false,eval e X.env)::starEach h X.env:=by rfl) (l:(backTo pos (starEach h X.env)).any (·.1)=false:=by rfl):
 QN X E0 (.Call (.Name d p) (e::h) [] pos) (J1 i m):=PE.weak (W6 c t u v j w l) λZ H Q x=>by
 obtain⟨B,F,sd,r,n⟩:=x;refine⟨B,F,sd,r,(Res.need_bind n).mono (λxs y z A C o G=>?_) λ_ _ q=>q⟩;show vd X.K i (z++[]) C Q E0;rw[ZA];exact⟨A,xs,o.fh,G,AN y o⟩
def jr (g:Yt->Yu)(c:FA):FE:=λsd=>(c sd).bind λxs=>.ofO (g xs)
def JJ {id:String}{x:Str}{p:Pos}{e:Expr}{c:Yj}{g:Yt->Yu}{i:FA}(l:qc X (.builtin id) (yU X.K g))(m:Gl X x)(o:X.mg x=none)(s:bootBuiltins x=some (.builtin id))(t:QA X E (e::c) i)(u:x ≠ "__name__" := by decide)(d:(x == ("__debug__" : Str))=false:=by decide)
 (v:starEach (e::c) X.env=(false,eval e X.env)::starEach c X.env:=by rfl) (h:(backTo pos (starEach c X.env)).any (·.1)=false:=by rfl):QE X E (.Call (.Name x p) (e::c) [] pos) (jr g i):=
 PE.weak (Dv l m o s t u d v h) λZ H Q w=>by
  obtain⟨B,F,sd,r,n⟩:=w;refine⟨B,F,sd,r,(Res.need_bind n).mono (λxs y I A J j C=>?_) λ_ _ q=>q⟩;obtain⟨z,G,q⟩:=ji y;exact⟨A,xs,z,j.fh,C,G,q.ext j⟩
def AO {T:String}{x:Str}{p:Pos}{e:Expr}{c:Yj}{g:Yt->Yu}{i:FA}(l:qc X (.type T) (yU X.K g))(m:Gl X x)(o:X.mg x=none)(s:bootBuiltins x=some (.type T))(t:QA X E (e::c) i)(u:x ≠ "__name__" := by decide)(d:(x == ("__debug__" : Str))=false:=by decide)
 (v:starEach (e::c) X.env=(false,eval e X.env)::starEach c X.env:=by rfl) (h:(backTo pos (starEach c X.env)).any (·.1)=false:=by rfl):QE X E (.Call (.Name x p) (e::c) [] pos) (jr g i):=
 PE.weak (AB l m o s t u d v h) λZ H Q w=>by
  obtain⟨B,F,sd,r,n⟩:=w;refine⟨B,F,sd,r,(Res.need_bind n).mono (λxs y I A J j C=>?_) λ_ _ q=>q⟩;obtain⟨z,G,q⟩:=ji y;exact⟨A,xs,z,j.fh,C,G,q.ext j⟩
def AQ {T:String}{x:Str}{p:Pos}{e:Expr}{c:Yj}{g:Yt->Yu}{i:FA}(l:qc X (.type T) (kK X.K g))(m:Gl X x)(o:X.mg x=none)(s:bootBuiltins x=some (.type T))(t:QA X E (e::c) i)(u:x ≠ "__name__" := by decide)(d:(x == ("__debug__" : Str))=false:=by decide)
 (v:starEach (e::c) X.env=(false,eval e X.env)::starEach c X.env:=by rfl) (h:(backTo pos (starEach c X.env)).any (·.1)=false:=by rfl):QN X E (.Call (.Name x p) (e::c) [] pos) (jr g i):=
 PE.weak (AB l m o s t u d v h) λZ H Q w=>by
  obtain⟨B,F,sd,r,n⟩:=w;refine⟨B,F,sd,r,(Res.need_bind n).mono (λxs y I A J j C=>?_) λ_ _ q=>q⟩;obtain⟨z,G,q⟩:=ji y;exact⟨A,xs,z,j.fh,C,G,q.ext j⟩
def JZ:D->Bool
 | .tup _=>false
 | .lst _=>false
 | .dct _ _=>false
 | .ins _ _ _=>false
 | .exc _=>false
 | .exr _ _=>false
 | .dcf _ _=>false
 | .pin _ _=>false
 | .scr _=>false
 |_=>true
def IsD.scal {K:W.Frag}{F c:Hp}{d:D}{v:V}(s:JZ d=true)(h:IsD K F d v):IsD K c d v:=by
 cases d with
 |tup _=>exact JC s
 |lst _=>exact JC s
 |dct _ _=>exact JC s
 |ins _ _ _=>exact JC s
 |exc _=>exact JC s
 |exr _ _=>exact JC s
 |dcf _ _=>exact JC s
 |pin _ _=>exact JC s
 |scr _=>exact JC s
 |_=>exact h
def Res.bare {α: Type}(r:Res α):Res α:= match r with
 | .ok a=>.ok a
 | .ex c []=>.ex c []
 |_=>.no
def qx {α: Type}{K:W.Frag}{F H e:Hp}{r:Res α}{p:α -> Prop}(i:jm F H)(h:r.bare.need p (XW K E0 F H)):r.need p (XW K E0 e H):=by
 cases r with
 |ok a=>exact h
 |no=>exact h
 |ex c fs =>
  cases fs with
  |nil=>exact λj a q l m ⟨C,n,o,_⟩=>h j none F l (.grow i m.hh) ⟨C,n,o,.inl rfl⟩
  |cons d r=>exact h.elim
def xX (is:Yg)(f:FE):FE:=λsd=>(f (qa is sd)).bare.bind λd=>if JZ d then .ok d else .no
def AR (is:Yg)(f:FT):FT:=λsd=>(f (qa is sd)).bare
def YO {e:Expr}{j:FE}(is)(h:QE X E0 e j):QE X E0 e (xX is j):=PE.weak h λZ H Q l=>by
 obtain⟨B,F,sd,r,n⟩:=l;obtain⟨m,w,o⟩:=r.frz is;refine⟨B,m,_,o,(qx r.ext.fh (Res.need_bind n)).mono (λd i v x p s t=>?_) λc fs q=>q⟩
 split at i
 .rename_i u;exact i v F p (.grow r.ext.fh s.hh) (t.scal u)
 .exact i.elim
def LG {e:Expr}{i:FT}(is:Yg)(h:QT X E0 e i):QT X E0 e (AR is i):=PT.weak h λZ H Q j=>by
 obtain⟨B,F,sd,r,n⟩:=j;obtain⟨l,t,m⟩:=r.frz is;refine⟨B,l,_,m,(qx r.ext.fh n).mono (λd o u p s=>?_) λc fs q=>q⟩;exact o F p (.grow r.ext.fh s.hh)
end
inductive Out where
 |next (sd:SD)|ret (d:D)|brk (sd:SD)|cont (sd:SD)
def lr (K:W.Frag)(F H:Hp)(Q:VK)(d:D):Prop:=if JZ d=true then yc K F H Q d else yq K F H Q d
def mP (K:W.Frag)(m:Option Bool)(B:Bs)(Q:VK)(d:D):Prop:=match m with
 |some true=>yq K B.F0 B.H0 Q d
 |some false=>yc K B.F0 B.H0 Q d
 |none=>lr K B.F0 B.H0 Q d
def zl (K:W.Frag)(m:Option Bool)(B:Bs)(F:Hp)(T:Ends):Out->Prop
 | .next sd=>∀Z a b,jm F a->RS K B a b sd Z -> T.nx Z b
 | .brk sd=>∀Z a b,jm F a->RS K B a b sd Z -> T.bk Z b
 | .cont sd=>∀Z a b,jm F a->RS K B a b sd Z -> T.ct Z b
 | .ret d=>mP K m B T.rt d
abbrev FS:=SD->Res Out
def ka (K:W.Frag)(E:XK)(m:Option Bool)(g:FS):TS:=λT Z H=>∃B F sd,RS K B F H sd Z /\ (g sd).need (zl K m B F T) (XW K E B.F0 B.H0)
abbrev QS (X:Cx)(E:XK)(m:Option Bool)(st:Stmt)(g:FS):Prop:=PS X st (ka X.K E m g)
abbrev zg (X:Cx)(E:XK)(m:Option Bool)(st:List Stmt)(g:FS):Prop:=qY X st (ka X.K E m g)
section
variable {K:W.Frag}{E:XK}{m:Option Bool}{B:Bs}{F F' H:Hp}{T:Ends}
def zl.mono (h:zl K m B F T o)(e:jm F F'):zl K m B F' T o:=by
 cases o with
 |next sd=>exact λZ a b s r=>h Z a b (e.trans s) r
 |brk sd=>exact λZ a b s r=>h Z a b (e.trans s) r
 |cont sd=>exact λZ a b s r=>h Z a b (e.trans s) r
 |ret d=>exact h
end
section
variable {X:Cx}{E:XK}{m:Option Bool}{st:Stmt}{sts:List Stmt}{g g1 g2:FS}{pos:Pos}
def J6:FS:=λsd=>.ok (.next sd)
def jg (g1 g2:FS):FS:=λsd=>(g1 sd).bind λo=>match o with
 | .next sd'=>g2 sd'
 |o=>.ok o
def JO:zg X E m [] J6:=qY.weak A3 λT Z H ⟨B,F,sd,r,n⟩=>n Z F H (.refl _) r
def Jz (h:QS X E m st g):zg X E m [st] g:=YD h
def Jy (b:QS X E m st g1)(c:zg X E m sts g2):zg X E m (st::sts) (jg g1 g2):=qY.weak (A4 b c) λT Z H e=>by
 obtain⟨B,F,sd,r,n⟩:=e;refine⟨B,F,sd,r,(Res.need_bind n).mono (λo a=>?_) λ_ _ q=>q⟩;cases o with
 |next sd'=>exact λi f j s h=>⟨B,f,sd',h,a.mono (λo q=>q.mono s) λ_ _ q=>q⟩
 |ret d=>exact a
 |brk sd'=>exact a
 |cont sd'=>exact a
def DE (is)(h:QS X E m st g):QS X E m st (λsd=>g (qa is sd)):=PS.weak h λT Z H a=>by
 obtain⟨B,F,sd,r,n⟩:=a;obtain⟨b,c,d⟩:=r.frz is;exact⟨B,b,_,d,n.mono (λ_ q=>q.mono c) λ_ _ q=>q⟩
def tP:FS:=λsd=>.ok (.brk sd)
def k7:FS:=λsd=>.ok (.cont sd)
variable {e:Expr}{fe:FE}
def jl (i:Nat)(f:FE):FS:=λsd=>(f sd).bind λd=>.ok (.next (sd.set i (~~~d)))
def xx (i:Nat)(f:FE):FS:=λsd=>(f sd).bind λd=>.ok (.next (sd.set i (some (.own false d))))
def J5 (b:X.N.Nodup)(c:X.N[i]? = some x)(hx:yM X.env.scope x)(f:QE X E e fe)(h:swapsWith e (some (.Name x pos')) pos.line X.env=pure false:=by rfl)
 (j:X.fn x=true\/X.env.scope.names.lookup x=some .local:=by trivial):QS X E m (.Assign [.Name x pos'] e pos) (jl i fe):=PS.weak (A5 b c hx f h j) λT Z H ⟨B,F,sd,r,n⟩=>⟨B,F,sd,r,(Res.need_bind n).mono (λd l v o p a s=>(l _ o p a.ff ((r.step a).setVal s))) λ_ _ q=>q.ext r.ext⟩
def WA (b:X.N.Nodup)(c:X.N[i]? = some x)(hx:yM X.env.scope x)(f:QN X E e fe)(h:swapsWith e (some (.Name x pos')) pos.line X.env=pure false:=by rfl)
 (s:X.fn x=true\/X.env.scope.names.lookup x=some .local:=by trivial):QS X E m (.Assign [.Name x pos'] e pos) (xx i fe):=PS.weak (A5 b c hx f h s) λT Z H t=>by
 obtain⟨B,F,sd,r,n⟩:=t;refine⟨B,F,sd,r,(Res.need_bind n).mono (λd u l v w a y z A=>(u _ v w a.ff ((r.step a).setOwn (Qd r.ext.hh y) z A λj p d' C I=>?_))) λ_ _ q=>q.ext r.ext⟩;obtain⟨J,K,_,_,G,_⟩:=r.own C;obtain⟨o,L⟩:=G.has
 simp_all
def j3 (f:FE):FS:=λsd=>(f sd).bind λd=>.ok (.ret d)
def JM (a:QE X E e fe):QS X E false (.Return (some e) pos) (j3 fe):=PS.weak (YF a) λT Z H ⟨B,F,sd,r,n⟩=>⟨B,F,sd,r,(Res.need_bind n).mono (λd b v c f h i=>(b v c f (r.ext.trans h) i)) λ_ _ q=>q.ext r.ext⟩
def LH (a:QN X E e fe):QS X E true (.Return (some e) pos) (j3 fe):=PS.weak (YF a) λT Z H ⟨B,F,sd,r,n⟩=>⟨B,F,sd,r,(Res.need_bind n).mono (λd b l c f h i j o=>(b l c f (r.ext.trans h) (Qd r.ext.hh i) j o)) λ_ _ q=>q.ext r.ext⟩
def Wh (i:Nat):FS:=λsd=>match sd[i]? with
 |some (some (.own _ d))=>.ok (.ret d)
 |_=>.no
def AS (a:PE X e (xS i)):QS X E true (.Return (some e) pos) (Wh i):=PS.weak (YF a) λT Z H b=>by
 obtain⟨B,F,sd,r,n⟩:=b;unfold Wh at n
 split at n
 .rename_i d q;obtain⟨l,c,f,h,j,_⟩:=r.own q;exact⟨.ref l,c,n l F H r.ext f h j⟩
 .exact n.elim
def ky:FS:=λ_=>.ok (.ret .non)
def Kx (f:FE):FS:=λsd=>(f sd).bind λ_=>.ok (.next sd)
def WC (b:QE X E e fe)(c:swapsWith e none pos.line X.env=pure false:=by rfl):QS X E m (.Expr e pos) (Kx fe):=PS.weak (YE b c) λT Z H f=>by
 obtain⟨B,F,sd,r,n⟩:=f;refine⟨B,F,sd,r,(Res.need_bind n).mono (λd h v i j a l=>?_) λ_ _ q=>q.ext r.ext⟩;exact h Z i j a.ff (r.step a)
def jH (c:FT)(g1 g2:FS):FS:=λsd=>(c sd).bind λb=>if b then g1 sd else g2 sd
def JI (i:QT X E c fc)(j:zg X E m a g1)(l:zg X E m b g2):QS X E m (.If c a b pos) (jH fc g1 g2):=PS.weak (CS i j l) λT Z H o=>by
 obtain⟨B,F,sd,r,n⟩:=o;refine⟨B,F,sd,r,(Res.need_bind n).mono (λb f h p d=>?_) λ_ _ q=>q.ext r.ext⟩;cases b with
 |true=>exact⟨B,h,sd,r.step d,f.mono (λ_ q=>q.mono d.ff) λ_ _ q=>q⟩
 |false=>exact⟨B,h,sd,r.step d,f.mono (λ_ q=>q.mono d.ff) λ_ _ q=>q⟩
def Ky (i:Nat)(f:FE):FS:=λsd=>match sd[i]? with
 |some (some (.own false (.lst ds)))=>(f sd).bind λd=>if ds.length<sizeLine then .ok (.next (sd.set i (some (.own false (.lst (ds++[d])))))) else .no
 |_=>.no
def AT (y:PE X o (xS i))(z:QE X E e fe)
 (A:∀{j:TE} {t:TA},PE X o j->PA X [e] t->PE X (.Call (.Attribute o "append" apos) [e] [] cpos) (vP X.K "list" AE j t))
 (C:swapsWith (.Call (.Attribute o "append" apos) [e] [] cpos) none pos.line X.env=pure false:=by rfl)
 (f:starEach [e] X.env=(false,eval e X.env)::starEach [] X.env:=by rfl):QS X E m (.Expr (.Call (.Attribute o "append" apos) [e] [] cpos) pos) (Ky i fe):=
 PS.weak (YE (A y (Js z Ju f)) C) λT Z H G=>by
  obtain⟨B,F,sd,r,n⟩:=G;unfold Ky at n
  split at n
  .rename_i ds p;obtain⟨l,s,M,N,⟨xs,u,x⟩,_⟩:=r.own p;refine⟨.ref l,s,.inl ⟨rfl,xs,qC.of u⟩,B,F,sd,r,?_⟩;unfold Jr jd;have a:=Res.need_bind n;cases q:fe sd with
   |no=>rwa [q] at a
   |ex c fs=>rw[q] at a;exact a.ext r.ext
   |ok d =>
    rw[q] at a;intro O I P b J;obtain⟨v,w,rfl,K,L⟩:=J;subst L;have h:=a
    split at h
    .have Q:=x.length;exact⟨l,xs,v,rfl,rfl,b.hh _ _ u,(),h Z I _ b.ff ((r.step b).chg p s ⟨xs++[v],J8,(IsDs.same b.ff _ _ x).snoc K⟩)⟩
    .exact h.elim
  .exact n.elim
def DF (i:Nat)(f:FE):FS:=λsd=>match sd[i]? with
 |some (some (.own false (.lst ds)))=>(f sd).bind λd=>match d with
  | .lst es=>if ds.length+es.length<=sizeLine then .ok (.next (sd.set i (some (.own false (.lst (ds++es)))))) else .no
  |_=>.no
 |_=>.no
inductive Tg where
 |one (i:Nat)|tup (is:Yg)
def setAll:Yg->Yt->SD->SD
 |i::is,d::ds,sd=>setAll is ds (sd.set i (~~~d))
 |_,_,sd=>sd
def JD:Tg->D->SD->Res SD
 | .one i,d,sd=>.ok (sd.set i (~~~d))
 | .tup is,.tup ds,sd=>if ds.length=is.length then .ok (setAll is ds sd) else .no
 |_,_,_=>.no
def YP:Yg->Yr->St->St
 |i::is,v::vs,Z => YP is vs (Z.set i (some v))
 |_,_,Z => Z
theorem RS.setAll {K:W.Frag}{B:Bs}{F H:Hp}:∀{is:Yg} {ds:Yt} {a:Yr} {sd:SD} {Z: St},RS K B F H sd Z -> IsDs K F ds a->RS K B F H (setAll is ds sd) (YP is a Z)
 | [],ds,a,sd,Z,r,_=>r
 |i::is,[],a,sd,Z,r,h=>by
  subst h;exact r
 |i::is,d::ds,a,sd,Z,r,h=>by
  obtain⟨v,w,rfl,b,c⟩:=h;exact RS.setAll (is:=is) (r.setVal b) c
def RS.forget {K:W.Frag}{B:Bs}{F H:Hp}{sd sd':SD}{Z: St}(r:RS K B F H sd Z)(a:sd'.length=sd.length)(h:∀(i:Nat) x,sd'[i]? = some (some x)->sd[i]? = some (some x)):RS K B F H sd' Z:=
 ⟨r.ext,by rw[r.len,a],λq=>r.val (h _ _ q),λq=>r.own (h _ _ q),λn b c d=>r.apart n (h _ _ b) (h _ _ c) d⟩
def gT:Tg->W.Frag->TG
 | .one i,_=>KP i
 | .tup is,K=>λv Z H Q=>∃a xs,v=.ref a/\xJ K H a xs/\xs.length=is.length/\Q (YP is xs Z) H
def YQ {K:W.Frag}{tg:Tg}{B:Bs}{F H:Hp}{sd:SD}{Z: St}{d:D}{v:V}{p:SD->Prop}{q:Str->Yt->Prop}{Q:St->Hp->Prop}(r:RS K B F H sd Z)(f:IsD K F d v)(n:(JD tg d sd).need p q)
 (h:∀sd' j,p sd'->JD tg d sd=.ok sd'->RS K B F H sd' j->Q j H):gT tg K v Z H Q:=by
 cases tg with
 |one i=>exact h _ _ n rfl (r.setVal f)
 |tup is =>
  cases d with
  |tup ds =>
   obtain⟨a,xs,rfl,o,l⟩:=f;have b:JD (.tup is) (.tup ds) sd=if ds.length=is.length then .ok (setAll is ds sd) else .no:=rfl
   by_cases c:ds.length=is.length
   .rw[Zd c] at b;rw[b] at n;exact⟨a,xs,rfl,(o.same r.ext.fh).sq,by rw[l.length,c],h _ _ n b (r.setAll l)⟩
   .rw[Ze c] at b;rw[b] at n;exact n.elim
  |_=>exact n.elim
abbrev QG (X:Cx)(e:Expr)(tg:Tg):Prop:=PG X e (gT tg X.K)
def yj (K:W.Frag)(h:Hp)(J:It)(ds:Yt):Prop:=∀(i:Nat) (b a:Hp),jm h b->jm b a ->
 (i<ds.length->J.go i a/\∀x c,J.yld i a x c->∃d f,ds[i]? = some d/\Ext b a f c/\IsD K f d x)/\(ds.length<=i->J.stop i a)
def tH (K:W.Frag)(E:XK)(f:FA):TI:=λZ H R=>∃B F sd,RS K B F H sd Z /\ (f sd).need (λds=>∀J a b,Ext F H a b->yj K a J ds->R J b) (XW K E F H)
abbrev QI (X:Cx)(E:XK)(tg iter:Expr)(f:FA):Prop:=PI X tg iter (tH X.K E f)
def y0 (b:D->FS):Yt->FS
 | [],sd=>.ok (.next sd)
 |x::xs,sd=>(b x sd).bind λo=>match o with
  | .next sd'=>y0 b xs sd'
  | .cont sd'=>y0 b xs sd'
  | .brk sd'=>.ok (.next sd')
  | .ret d=>.ok (.ret d)
def qr (it:FA)(tg:Tg)(b:FS):FS:=λsd=>(it sd).bind λds=>y0 (λx sd=>(JD tg x sd).bind b) ds sd
def QU (Q:PassesOwn (model X.prog X.w) X.A X.env X.xe)(R:X.calm=true)(M:QI X E tg iter fi)(S:QG X tg t)(U:zg X E m body g)
 (w:∀x,foldedSetIterable iter X.env x=pure x:=by intro _;rfl):QS X E m (.For tg iter body [] pos) (qr fi t g):=PS.weak (CU Q R M S U w) λT Z H Y=>by
 obtain⟨B,F,sd,r,n⟩:=Y;refine⟨B,F,sd,r,(Res.need_bind n).mono (λds n1 J z H1 N wk=>(⟨λi k Z H=>k=ds.length-i/\i<=ds.length/\∃j sd,jm z j/\RS X.K B j H sd Z /\ (y0 (λx sd=>(JD t x sd).bind g) (ds.drop i) sd).need (zl X.K m B j T) (XW X.K E B.F0 B.H0),
  ⟨ds.length,rfl,Ue _,z,sd,.refl _,r.step N,n1.mono (λ_ q=>q.mono N.ff) λ_ _ q=>q⟩,?_⟩)) λ_ _ q=>q.ext r.ext⟩
 rintro i k Z2 O ⟨rfl,M,j,sd2,A,C,p⟩;obtain⟨w1,w2⟩:=wk i j O A C.ext.fh;by_cases c:i<ds.length
 .obtain⟨go,yl⟩:=w1 c;refine .inr ⟨go,λG P=>∃f a,jm z f/\RS X.K B f P a G/\(y0 (λx sd=>(JD t x sd).bind g) (ds.drop (i+1)) a).need (zl X.K m B f T) (XW X.K E B.F0 B.H0),
   λG P ⟨f,a,q1,q2,q3⟩=>⟨ds.length-(i+1),(),rfl,c,f,a,q1,q2,q3⟩,λx H3 y=>?_⟩
  obtain⟨d,f,hd,l,i3⟩:=yl x H3 y;rw[UF c] at p;have I:ds[i]=d:=by simp_all
  rw[I] at p;refine YQ (C.step l) i3 (Res.need_bind (Res.need_bind p)) λsd' G n4 _ r4=>⟨B,f,sd',r4,n4.mono (λo v=>?_) λ_ _ q=>q⟩;cases o with
  |next b=>exact λK s L h u=>⟨s,b,(A.trans l.ff).trans h,u,v.mono (λ_ q=>q.mono (l.ff.trans h)) λ_ _ q=>q⟩
  |cont b=>exact λK s L h u=>⟨s,b,(A.trans l.ff).trans h,u,v.mono (λ_ q=>q.mono (l.ff.trans h)) λ_ _ q=>q⟩
  |brk b=>exact λK s L h u=>v K s L (l.ff.trans h) u
  |ret d=>exact v
 .have he:i=ds.length:=()
  refine .inl ⟨w2 (),?_⟩;subst he;rw[UT] at p;exact p Z2 j O (.refl _) C
def pinned (i:Nat)(sd:SD):Bool:=match sd[i]? with
 |some (some (.own true _))=>true
 |_=>false
def DG (i:Nat)(v:SV)(sd:SD):Res Out:=if pinned i sd then .ok (.next (sd.set i (some v))) else .no
def zG (i:Nat)(v:SV)(b:D->FS):Yt->FS
 | [],sd=>DG i v sd
 |x::xs,sd=>if pinned i sd then(b x sd).bind λo=>match o with
  | .next sd'=>zG i v b xs sd'
  | .cont sd'=>zG i v b xs sd'
  | .brk sd'=>DG i v sd'
  | .ret d=>.ok (.ret d) else .no
def k4 (i:Nat)(tg:Tg)(b:FS):FS:=λsd=>match sd[i]? with
 |some (some (.own p (.lst ds)))=>zG i (.own p (.lst ds)) (λx sd=>(JD tg x sd).bind b) ds (sd.set i (some (.own true (.lst ds))))
 |_=>.no
def xV {α β: Type}(f:α -> Res β):List α -> Res (List β)
 | []=>.ok []
 |x::xs=>(f x).bind λy=>(xV f xs).bind λa=>.ok (y::a)
def jL (cap:List (Option Nat))(sd:SD):SD:=cap.map λo=>o.bind λj=>match sd[j]? with
 |some (~~~d)=>~~~d
 |_=>none
def KE (sd:SD)(i:Nat):Bool:=match sd[i]? with
 |some none=>true
 |_=>false
def Kp (sd:SD):Tg->Bool
 | .one i=>KE sd i
 | .tup is=>is.all (KE sd)
def Q3 (cap:List (Option Nat))(it:FA)(tg:Tg)(f:FE):FE:=λsd=>(it sd).bind λds=>if Kp (jL cap sd) tg=true/\ds.length<sizeLine then
 (xV (λx=>(JD tg x (jL cap sd)).bind f) ds).bind λa=>.ok (.lst a) else .no
theorem RS.cap {K:W.Frag}{B:Bs}{F H:Hp}{sd:SD}{Z: St}(cap)(r:RS K B F H sd Z):RS K B F H (jL cap sd) (Wc cap Z):=by
 have a:∀{i:Nat} {x:SV},(jL cap sd)[i]? = some (some x)->∃j d,cap[i]? = some (some j)/\sd[j]? = some (~~~d)/\x=.val d:=λ{i x} q=>by
  unfold jL at q;rw[Zv] at q;cases c:cap[i]? with
  |none=>rw[c] at q;exact Jv q
  |some o =>
   rw[c] at q;cases o with
   |none=>cases q
   |some j =>
    have q:(match sd[j]? with
     |some (~~~d)=>some (SV.val d)
     |_=>none)=some x:=Zqi q
    split at q
    .rename_i d t;exact()
    .exact Jv q
 refine⟨r.ext,by unfold jL Wc;rw[Zql,Zql],λ{i d} q=>?_,λ{i p d} q=>?_,λ{i j p u d e l} _ q=>?_⟩
 .obtain⟨j,d',f,h,b⟩:=a q;cases b;obtain⟨v,n,s⟩:=r.val h;refine⟨v,?_,s⟩;unfold Wc;rw[Zv,f];show some (Option.bind (some j) λj=>(Z[j]?).join)=_;rw[Option.bind_some,n];rfl
 .obtain⟨j,d',f,h,b⟩:=a q;cases b
 grind
theorem AU:∀is ds a sd,is.all (KE a)=true->sd.length=a.length->(∀(i:Nat) x,a[i]? = some (some x)->sd[i]? = some (some x)) ->
 (setAll is ds sd).length=a.length/\∀(i:Nat) x,a[i]? = some (some x)->(setAll is ds sd)[i]? = some (some x)
 | [],ds,a,sd,_,hl,h=>⟨hl,h⟩
 |i::is,[],a,sd,_,hl,h=>⟨hl,h⟩
 |i::is,d::ds,a,sd,hn,hl,h=>by
  rw[Ui,Ua] at hn;refine AU is ds a (sd.set i (~~~d)) hn.2 (by rw[Uu,hl]) λj x q=>?_;have ne:i≠j:=λz=>by
   subst z;have:=hn.1;unfold KE at this;rw[q] at this;exact JC this
  rw[Qg ne];exact h j x q
def DH (a:Kp sd0 tg=true)(h:JD tg d sd0=.ok sd):sd0.length=sd.length/\∀(i:Nat) x,sd0[i]? = some (some x)->sd[i]? = some (some x):=by
 cases tg with
 |one i =>
  cases h;have:=AU [i] [d] sd0 sd0 (by rwa [Ui,List.all_nil,Bool.and_true]) rfl λ_ _ q=>q;exact⟨this.1.symm,this.2⟩
 |tup is =>
  cases d with
  |tup ds =>
   have b:JD (.tup is) (.tup ds) sd0=if ds.length=is.length then .ok (setAll is ds sd0) else .no:=rfl
   rw[b] at h
   split at h
   .cases h;have:=AU is ds sd0 sd0 a rfl λ_ _ q=>q;exact⟨this.1.symm,this.2⟩
   .cases h
  |_=>cases h
def LI {α β: Type}{f:α -> Res β}{xs:List α}{x:α}{p:List β -> Prop}(hx:xs[i]? = some x)(h:(xV f (xs.drop i)).need p q):(f x).need (λy=>(xV f (xs.drop (i+1))).need (λb=>p (y::b)) q) q:=by
 have a:i<xs.length:=();rw[UF a] at h;have e:xs[i]=x:=by simp_all
 rw[e] at h;exact(Res.need_bind h).mono (λy c=>((Res.need_bind c).mono (λb d=>d) λ_ _ z=>z)) λ_ _ z=>z
def AV {K:W.Frag}{t:Tg}{I:FA}{f:FE}{cap:List (Option Nat)}{Z: St}{H:Hp}{Q:VK}(p:vp K E (Q3 cap I t f) Z H Q):Xm cap (tH K E I) (gT t K) (tD K E f) Z H Q:=by
 obtain⟨B,F,sd,r,n⟩:=p;refine⟨B,F,sd,r,(Res.need_bind n).mono (λds s J L N o O=>?_) λ_ _ q=>q⟩
 split at s
 .rename_i p;obtain⟨P,hz⟩:=p;refine⟨λi k u Z b=>k=ds.length-i/\i<=ds.length/\∃a c,Ext L N a b/\RS K B a b (jL cap sd) Z /\ IsDs K a c u/\c.length=i /\
   (xV (λx=>(JD t x (jL cap sd)).bind f) (ds.drop i)).need (λrs=>yq K a b Q (.lst (c++rs))) (XW K E a b),⟨ds.length,rfl,Ue _,L,[],.refl o.fh,(r.step o).cap cap,.nil,rfl,?_⟩,?_⟩
  .exact(Res.need_bind s).mono (λrs q=>(q).ext o) λ_ _ q=>q.ext o
  rintro i k u Z2 b ⟨rfl,hi,a,c,w,z,A,hl,C⟩;have ly:=A.length;refine⟨(),?_⟩;obtain⟨R,S⟩:=O i a b w.ff w.fh;by_cases j:i<ds.length
  .obtain⟨go,T⟩:=R j;refine .inr ⟨go,λx U y=>?_⟩;obtain⟨d,Y,hd,h,i3⟩:=T x U y;have n3:=LI hd C;have r3:=z.step h;refine YQ r3 i3 (Res.need_bind n3) λsd' Z' n4 hb M=>?_;obtain⟨b1,b2⟩:=DH P hb;refine⟨B,Y,sd',M,n4.mono (λy n5 v F4 H4 l i4=>⟨ds.length-(i+1),(),rfl,j,F4,c++[y],(w.trans h).trans l,(M.step l).forget b1 b2,(IsDs.same (h.ff.trans l.ff) _ _ A).snoc i4,(),n5.mono (λrs q=>?_) λ_ _ q=>q.ext (h.trans l)⟩) λ_ _ q=>q.ext h⟩;rw[Ub];exact q.ext (h.trans l)
  .have he:i=ds.length:=()
   subst he;refine .inl ⟨S (Zf _),λD G=>?_⟩;rw[UT] at C;have q:yq K a b Q (.lst (c++[])):=C;rw[ZA] at q;exact q D a _ (.keep z.ext.fh G _) G (Qd z.ext.fh G) ⟨u,J8,A⟩
 .exact s.elim
def V4 (N)(cap)(d:X.calm=true)(a:Ko scope X.env N X.N cap=true)(i:QI X E tg iter fi)
 (j:∀b C s H c,QG (JG X scope N b C s H c) tg t) (l:∀b C s H c,QE (JG X scope N b C s H c) E elt f) (n:∀x,foldedSetIterable iter X.env x=pure x:=by intro _;rfl):
 QN X E (.ListComp elt [⟨tg,iter,[],0⟩] scope pos) (Q3 cap fi t f):=PE.weak (L1 N cap d a i j l n) λ_ _ _ h=>AV h
def Qk (n:Nat)(ds:Yt):SD:=ds.map (λd=>~~~d)++List.replicate (n-ds.length) none
def jB (n a:Nat)(g:FS)(ds:Yt):Res D:=if ds.length=a then(g (Qk n ds)).bind λo=>match o with
 | .ret d=>.ok d
 | .next _=>.ok .non
 |_=>.no else .no
def qR (n a:Nat)(g:FS)(ds:Yt):Res D:=if ds.length=a then(g (Qk n ds)).bind λo=>match o with
 | .ret d=>.ok d
 |_=>.no else .no
theorem RS.start {K:W.Frag}{F H:Hp}{N:Yh}{ds:Yt}{c:Yr}(s:jm F H)(h:IsDs K F ds c):RS K ⟨F,H,λ_=>none⟩ F H (Qk N.length ds) (start N c):=by
 have a:∀{i:Nat} {x:SV},(Qk N.length ds)[i]? = some (some x)->∃d,ds[i]? = some d/\x=.val d:=λ{i x} q=>by
  unfold Qk at q;by_cases f:i<ds.length
  .rw[UU (by rwa [Zql]),Zv,Zqg f] at q;exact⟨ds[i],Zqg f,(Zqi (Zqi q)).symm⟩
  .rw[U2 (by rw[Zql];lia),List.getElem?_replicate] at q
   split at q<;>(first|exact Jv q|cases q)
 refine⟨.refl s,by unfold Qk L2.start;simp[h.length],λ{i d} q=>?_,λ{i p d} q=>?_,λ{i j p t d e l} _ q=>?_⟩
 .obtain⟨d',o,b⟩:=a q;cases b;obtain⟨v,n,r⟩:=h.get o;refine⟨v,?_,r⟩;unfold L2.start;rw[UU (by rw[Zql];exact(Jd.mp n).1),Zv,n];rfl
 .obtain⟨_,_,b⟩:=a q;cases b
 .obtain⟨_,_,b⟩:=a q;cases b
section
variable {P:Program}{w:World}{K:W.Frag}{mg:Yc}{base:Heap}{x qual:Str}{f:Addr}{fd:FuncData}{N ps:Yh}{k:Nat}
def qI (F:Fun K x qual st f fd)(S:FnScope N ps (JN st))
 (i:∀b A a s H E,Room k (A.deeper (envOfC qual (JN st) s.heap.objs.size f b))->zg (jP xB P w K mg base N qual (JN st) f b A a s H E).nox E0 false (Q8 st) g):
 FnOk P w K mg base xB (k+1) f fd ps (xA K (jB N.length ps.length g)):=by
 refine F.ok S (λj H Q E ⟨F,ds,_,h,n⟩=>?_) λb A a s H j Q E l ⟨F,ds,p,h,n⟩=>⟨_,i b A a s H E l,?_⟩
 .unfold jB at n
  split at n
  .rw[h.length];lia
  .exact n.elim
 .unfold jB at n
  split at n
  .refine⟨⟨F,H,λ_=>none⟩,F,_,RS.start p h,(Res.need_bind n).mono (λo c=>?_) λ_ _ q=>q⟩;cases o with
   |next sd=>exact λZ t u _ r=>c .non t u r.ext (jt.mpr rfl)
   |ret d=>exact c
   |brk sd=>exact c.elim
   |cont sd=>exact c.elim
  .exact n.elim
def v7 (F:Fun K x qual st f fd)(S:FnScope N ps (JN st))
 (i:∀b A a s H E,Room k (A.deeper (envOfC qual (JN st) s.heap.objs.size f b))->zg (jP xB P w K mg base N qual (JN st) f b A a s H E).nox E0 true (Q8 st) g):
 FnOk P w K mg base xB (k+1) f fd ps (vd K (qR N.length ps.length g)):=by
 refine F.ok S (λj H Q E ⟨F,ds,_,h,n⟩=>?_) λb A a s H j Q E l ⟨F,ds,p,h,n⟩=>⟨_,i b A a s H E l,?_⟩
 .unfold qR at n
  split at n
  .rw[h.length];lia
  .exact n.elim
 .unfold qR at n
  split at n
  .refine⟨⟨F,H,λ_=>none⟩,F,_,RS.start p h,(Res.need_bind n).mono (λo c=>?_) λ_ _ q=>q⟩;cases o with
   |next sd=>exact c.elim
   |ret d=>exact c
   |brk sd=>exact c.elim
   |cont sd=>exact c.elim
  .exact n.elim
end
end
def ye (p:Int×Int):D:=.tup [.int p.1,.int p.2]
def qW (r:Jp):D:=.tup (r.map ye)
def AW:D->Option (Int×Int)
 | .tup [.int i,.int j]=>some (i,j)
 |_=>none
def QD {α: Type}(f:D->Option α):Yt->Option (List α)
 | []=>some []
 |d::ds=>(f d).bind λx=>(QD f ds).map λxs=>x::xs
def AX:D->Option Jp
 | .tup ds=>QD AW ds
 |_=>none
def Xq:D->Option Int
 | .int i=>some i
 |_=>none
theorem Xr {α β: Type}{f:D->Option α}{g:β -> D}{k:β -> α}(h:∀x,f (g x)=some (k x)):∀l:List β,QD f (l.map g)=some (l.map k)
 | []=>rfl
 |x::r=>by rw[Zl];unfold QD;rw[h,Xr h r];rfl
theorem AY {α: Type}{f:D->Option α}{g:α -> D}(h:∀d x,f d=some x->d=g x):∀{ds:Yt} {l:List α},QD f ds=some l->ds=l.map g
 | [],l,e=>by cases e;rfl
 |d::ds,l,e=>by
  unfold QD at e;cases a:f d with
  |none=>simp_all
  |some x =>
   cases b:QD f ds with
   |none=>simp_all
   |some xs =>
    rw[a,b] at e;obtain rfl:=Zqi e;rw[Zl,<- h d x a,<- AY h b]
def LJ (p):AW (ye p)=some p:=rfl
def LK (r):AX (qW r)=some r:=by
 show QD AW (r.map ye)=some r;rw[Xr (k:=id) LJ,List.map_id]
def LL (h:Xq d=some i):d=.int i:=by
 cases d with
 |int j=>cases h;rfl
 |_=>exact Jv h
def LM (h:QD Xq ds=some l):ds=l.map D.int:=AY (λ_ _=>LL) h
def LN (l):QD Xq (l.map D.int)=some l:=by
 rw[(Xr (f:=Xq) (λ_=>rfl) l),List.map_id']
section
variable {X:Cx}{E:XK}
def gI (f:Int->Int->D):D->D->Yu
 | .int i,.int j=>some (f i j)
 |_,_=>none
def h8 (c:Int->Int->Bool)(f:Int->Int->D):D->D->Yu
 | .int i,.int j=>if c i j then some (f i j) else none
 |_,_=>none
def Xs (o:qA X h (we g))(b:∀i j F,IsD X.K F (f i j) (g i j)):xK X h (gI f):=qA.weak o λx y H Q c=>by
 obtain⟨F,d,e,z,l,id,m,a,q⟩:=c;cases d with
 |int i =>
  cases e with
  |int j=>cases a;exact⟨i,j,jc.mp id,jc.mp m,q _ F H (.refl l) (b i j F)⟩
  |_=>exact Jv a
 |_=>exact Jv a
def YR (o:qA X h (rI C g))(l:∀i j,c i j=true->C i j)(m:∀i j F,IsD X.K F (f i j) (g i j)):xK X h (h8 c f):=qA.weak o λx y H Q n=>by
 obtain⟨F,d,e,z,p,id,r,a,q⟩:=n;cases d with
 |int i =>
  cases e with
  |int j =>
   have a:(if c i j then some (f i j) else none)=some z:=a
   split at a
   .rename_i b;cases a;exact⟨i,j,jc.mp id,jc.mp r,l i j b,q _ F H (.refl p) (m i j F)⟩
   simp_all
  |_=>exact Jv a
 |_=>exact Jv a
def yw (i)(F):IsD X.K F (.int i) (.int i):=jc.mpr rfl
def yx (b)(F):IsD X.K F (.bl b) (.bl b):=jj.mpr rfl
def yY:=gI λi j=>.int (i-j)
def w5:Nat:=10715086071862673209484250490600018105614048117055336074437503883703510511249361224931983788156958581275946729175531468251871452856923140435984577574698574803934567774824230985421074605062371141877954182153046474983581941267398767559165543946077062914571196477686542167660429831652624386837205668069376
def KS (i j:Int):Bool:=(Up i.natAbs 18446744073709551616||Up j.natAbs 18446744073709551616)||(Up i.natAbs w5&&Up j.natAbs w5)
def DI (h:k.natAbs<w5):Builtin.Int.intBits k<=2 ^ 20:=by
 have e:w5<=2 ^ 1000:=Nat.le_of_ble_eq_true rfl;have a:k.natAbs<2 ^ 1000:=()
 unfold Builtin.Int.intBits
 split
 .exact Ue _
 .have l:k.natAbs.log2<1000:=by
   rcases Nat.eq_zero_or_pos k.natAbs with h0|hp
   .simp_all
   .exact(Nat.log2_lt (UA hp)).mpr a
  lia
def LO (h:KS i j=true):IntMulOk i j:=by
 unfold KS at h;rw[Uq,Uq,Ua,Ur,Ur,Ur,Ur] at h;rcases h with (h|h)|⟨h1,h2⟩
 .exact .of_left (intBits_le_64 () ())
 .exact .of_right (intBits_le_64 () ())
 .exact .of_bits (DI h1) (DI h2)
def LP:qA X (binaryOp .Mult) (rI (λi j=>KS i j=true) λi j=>.int (i*j)):=nA λ_ _ _ _ _ _ _ a q=>mul_int q (LO a)
def qu:=h8 KS λi j=>.int (i*j)
def JW:=h8 (λ_ j=>Up 0 j.toNat&&Up j.toNat 1073741824) λi j=>.int (i / j)
def jD:=h8 (λ_ j=>Up 0 j.toNat) λi j=>.int (i % j)
def yy:=h8 (λi j=>Nat.ble (-j).toNat 0&&(Nat.ble j.toNat 1000000&&Up i.natAbs 18446744073709551616)) λi j=>.int (i ^ j.toNat)
def v4:=gI λi j=>.bl (decide (i<j))
def xP:=gI λi j=>.bl (decide (i<=j))
def zT:=gI λi j=>.bl (decide (j<i))
def re:=gI λi j=>.bl (decide (j<=i))
def DJ:xK X (binaryOp .Sub) yY:=Xs Ic λ_ _ F=>yw _ F
def WD:xK X (binaryOp .Mult) qu:=YR LP (λi j h=>h) λ_ _ F=>yw _ F
def QK:xK X (binaryOp .FloorDiv) JW:=YR Ie (λi j h=>by simp_all [mY]) λ_ _ F=>yw _ F
def Qm:xK X (binaryOp .Mod) jD:=YR Ig () λ_ _ F=>yw _ F
def AZ:xK X (binaryOp .Pow) yy:=YR Ih (λi j h=>by simp_all [mX]) λ_ _ F=>yw _ F
def wm:xK X (compareOp .Lt) v4:=Xs gl λ_ _ F=>yx _ F
def xp:xK X (compareOp .LtE) xP:=Xs gm λ_ _ F=>yx _ F
def wn:xK X (compareOp .Gt) zT:=Xs gn λ_ _ F=>yx _ F
def dq:xK X (compareOp .GtE) re:=Xs gp λ_ _ F=>yx _ F
def qS:D->Yu
 | .int i=>some (.int (-i))
 |_=>none
def V5:wE X (unaryOp .USub) (df X.K qS):=wE.weak Ii λx H Q b=>by
 obtain⟨F,d,z,c,id,a,q⟩:=b;cases d with
 |int i=>cases a;exact⟨i,jc.mp id,q _ F H (.refl c) (yw _ F)⟩
 |_=>exact Jv a
def jk:D->D->Yu
 | .int i,.int j=>some (.int (i+j))
 | .str x,.str y=>if x.length+y.length<=sizeLine then some (.str (x++y)) else none
 | .tup a,.tup b=>if a ≠ []/\b ≠ []/\a.length+b.length<=sizeLine then some (.tup (a++b)) else none
 | .lst a,.lst b=>if a.length+b.length<=sizeLine then some (.lst (a++b)) else none
 |_,_=>none
def kM (K:W.Frag):R2:=λx y H Q=>∃l b xs a,x=.ref l/\y=.ref b/\xk K H l xs/\xk K H b a/\xs.length+a.length<=sizeLine/\∀p,H p=none->Q (.ref p) (upd H p (.lst (xs++a)))
def LQ:qA X (binaryOp .Add) (kM X.K):=by
 intro Y s Z H x y v u Q I f g h;obtain⟨l,b,xs,w,rfl,rfl,i,j,z,q⟩:=h;obtain rfl:=f;obtain rfl:=g;obtain⟨_,c,n,d,m⟩:=i.ok I.hok;obtain⟨_,a,A,e,o⟩:=j.ok I.hok;have p:=d.length;have r:=e.length;refine PySem.P.add_list m o ?_ ();have t:c.toArray++a.toArray=(c++a).toArray:=by simp
 rw[t];exact⟨.ref _,_,I.lnew (d.append e) (),rfl,q _ I.fresh⟩
def JE:xK X (binaryOp .Add) jk:=by
 intro Y s Z H x y v u Q I n o ⟨F,d,e,z,f,id,r,c,q⟩;cases d with
 |int i =>
  cases e with
  |int j=>cases c;exact Ib Y s Z H x y v u Q I n o ⟨i,j,jc.mp id,jc.mp r,q _ F H (.refl f) (yw _ F)⟩
  |_=>exact Jv c
 |str a =>
  cases e with
  |str b =>
   have c:(if a.length+b.length<=sizeLine then some (D.str (a++b)) else none)=some z:=c
   split at c
   .rename_i G;cases c;exact Io Y s Z H x y v u Q I n o ⟨a,b,IsD.str_iff.mp id,IsD.str_iff.mp r,G,q _ F H (.refl f) (IsD.str_iff.mpr rfl)⟩
   simp_all
  |_=>exact Jv c
 |tup a =>
  cases e with
  |tup b =>
   have c:(if a ≠ []/\b ≠ []/\a.length+b.length<=sizeLine then some (D.tup (a++b)) else none)=some z:=c
   split at c
   .obtain rfl:=Zqi c;obtain⟨t,xs,rfl,w,h⟩:=id;obtain⟨A,g,rfl,B,l⟩:=r;have J:=h.length;have K:=l.length;have x0:xs ≠ []:=by grind
    have L:g ≠ []:=by grind
    refine IK Y s Z H _ _ v u Q I n o ⟨t,A,xs,g,rfl,rfl,(w.same f).sq,(B.same f).sq,x0,(),λz=>Zn z L,λ_ p C=>?_⟩;have m:=jI f C (.tup (xs++g));exact q _ _ _ m (jn.mpr ⟨p,_,rfl,.of J8,IsDs.same m.ff _ _ (h.append l)⟩)
   simp_all
  |_=>exact Jv c
 |lst a =>
  cases e with
  |lst b =>
   have c:(if a.length+b.length<=sizeLine then some (D.lst (a++b)) else none)=some z:=c
   split at c
   .obtain rfl:=Zqi c;obtain⟨t,xs,rfl,w,h⟩:=id;obtain⟨A,g,rfl,B,l⟩:=r;have J:=h.length;have K:=l.length;refine LQ Y s Z H _ _ v u Q I n o ⟨t,A,xs,g,rfl,rfl,w.same f,B.same f,(),λp C=>?_⟩;have m:=jI f C (.lst (xs++g));exact q _ _ _ m (jp.mpr ⟨p,_,rfl,.of J8,IsDs.same m.ff _ _ (h.append l)⟩)
   simp_all
  |_=>exact Jv c
 |_=>exact Jv c
mutual
def xR:D->PyData
 | .non=>.none
 | .bl b=>.bool b
 | .int i=>.int i
 | .str x=>.str x
 | .tup ds=>.tuple (KU ds)
 | .lst ds=>.list (KU ds)
 | .ty _=>.none
 | .scr _=>.none
 | .dct _ _=>.none
 | .ins _ _ _=>.none
 | .exc _=>.none
 | .exr _ _=>.none
 | .ucl _=>.none
 | .adr _=>.none
 | .dcf _ _=>.none
 | .pin _ _=>.none
def KU:Yt->List PyData
 | []=>[]
 |d::ds=>xR d::KU ds
end
def plN:Nat->D->Bool
 | 0,_=>false
 |_+1,.int _=>true
 |_+1,.str x=>PyData.strOk x
 |_+1,.non=>true
 |n+1,.tup ds=>ds.all (plN n)
 |n+1,.lst ds=>ds.all (plN n)
 |_+1,_=>false
def WE:∀n d,plN n d=true->(xR d).canLay0=true/\(xR d).depth<=n:=λn=>by
 induction n with
 |zero=>intro _ h;exact JC h
 |succ n a =>
  intro d h;have all:∀ds:Yt,ds.all (plN n)=true->PyData.canLayAll0 (KU ds)=true/\PyData.depthAll (KU ds)<=n:=by
   intro ds
   induction ds with
   |nil=>intro _;exact⟨rfl,Ue _⟩
   |cons d ds b =>
    intro h;rw[Ui,Ua] at h;obtain⟨c,e⟩:=a d h.1;obtain⟨f,g⟩:=b h.2;exact⟨Bool.and_eq_true_iff.mpr ⟨c,f⟩,Nat.max_le.mpr ⟨e,g⟩⟩
  cases d with
  |int i=>exact⟨rfl,Ue _⟩
  |str i=>exact⟨h,Ue _⟩
  |non=>exact⟨rfl,Ue _⟩
  |tup ds=>exact⟨(all ds h).1,Nat.succ_le_succ (all ds h).2⟩
  |lst ds=>exact⟨(all ds h).1,Nat.succ_le_succ (all ds h).2⟩
  |_=>exact JC h
def D.ne {d e:D}(h:(d.ctorIdx == e.ctorIdx)=false):¬d=e:=λq=>by
 simp_all
def Ba:∀n d e,plN n d=true->plN n e=true->(PyData.eqv (xR d) (xR e)=true↔d=e):=λn=>by
 induction n with
 |zero=>intro _ _ h;exact JC h
 |succ n b =>
  intro d e h h';have all:∀ds a:Yt,ds.all (plN n)=true->a.all (plN n)=true->(PyData.eqvAll (KU ds) (KU a)=true↔ds=a):=by
   intro ds
   induction ds with
   |nil =>
    intro a _ _;cases a with
    |nil=>exact iff_of_true rfl rfl
    |cons e a=>exact Zs Zj ()
   |cons d ds c =>
    intro a f g;cases a with
    |nil=>exact Zs Zj ()
    |cons e a =>
     show(PyData.eqv (xR d) (xR e)&&PyData.eqvAll (KU ds) (KU a))=true↔_
     simp_all
  cases d with
  |int i =>
   cases e with
   |int j=>exact⟨λq=>Zt D.int (Yl.mp q),λq=>Yl.mpr (D.int.inj q)⟩
   |str _=>exact Zs Zj (D.ne rfl)
   |non=>exact Zs Zj (D.ne rfl)
   |tup _=>exact Zs Zj (D.ne rfl)
   |lst _=>exact Zs Zj (D.ne rfl)
   |_=>exact JC h'
  |str i =>
   cases e with
   |str j=>exact⟨λq=>Zt D.str (of_decide_eq_true q),λq=>Zp (D.str.inj q)⟩
   |int _=>exact Zs Zj (D.ne rfl)
   |non=>exact Zs Zj (D.ne rfl)
   |tup _=>exact Zs Zj (D.ne rfl)
   |lst _=>exact Zs Zj (D.ne rfl)
   |_=>exact JC h'
  |non =>
   cases e with
   |non=>exact iff_of_true rfl rfl
   |int _=>exact Zs Zj (D.ne rfl)
   |str _=>exact Zs Zj (D.ne rfl)
   |tup _=>exact Zs Zj (D.ne rfl)
   |lst _=>exact Zs Zj (D.ne rfl)
   |_=>exact JC h'
  |tup ds =>
   cases e with
   |tup a=>exact(all ds a h h').trans ()
   |int _=>exact Zs Zj (D.ne rfl)
   |str _=>exact Zs Zj (D.ne rfl)
   |non=>exact Zs Zj (D.ne rfl)
   |lst _=>exact Zs Zj (D.ne rfl)
   |_=>exact JC h'
  |lst ds =>
   cases e with
   |lst a=>exact(all ds a h h').trans ()
   |int _=>exact Zs Zj (D.ne rfl)
   |str _=>exact Zs Zj (D.ne rfl)
   |non=>exact Zs Zj (D.ne rfl)
   |tup _=>exact Zs Zj (D.ne rfl)
   |_=>exact JC h'
  |_=>exact JC h
theorem Wi {P:Program}{w:World}{K:W.Frag}{H:Hp}{h:Heap}(ok:qQ P w H h):∀n d v u,plN n d=true->IsD K H d v->jq v u->∃g,Reads h u (xR d) g
 | 0,_,_,_,p,_,_=>JC p
 |n+1,d,v,u,p,q,r=>by
  have all:∀ds xs l,ds.all (plN n)=true->IsDs K H ds xs->js xs l->∃g,ReadsAll h l (KU ds) g:=by
   intro ds
   induction ds with
   |nil =>
    intro xs l _ m b;subst m;cases b;exact⟨_,.nil⟩
   |cons d ds A =>
    intro xs l s m b;rw[Ui,Ua] at s;obtain⟨x,rs,rfl,j,B⟩:=m;cases b with
    |cons C F =>
     obtain⟨g,y⟩:=Wi ok n d x _ s.1 j C;obtain⟨bs,G⟩:=A rs _ s.2 B F;exact⟨_,.cons y G⟩
  cases d with
  |int i =>
   subst q;obtain⟨t,rfl⟩:=(r);exact⟨_,.int i t⟩
  |str x =>
   subst q;obtain⟨t,rfl⟩:=(r);exact⟨_,.str x t⟩
  |non =>
   subst q;obtain rfl:=r;exact⟨_,.none⟩
  |tup ds =>
   obtain⟨a,xs,rfl,b,j⟩:=q;obtain rfl:=r;obtain⟨_,f,z,o,e,c,I,J⟩:=(ok a _ b);obtain⟨g,y⟩:=all ds xs f p j z;exact⟨_,.tuple e c J ()⟩
  |lst ds =>
   obtain⟨a,xs,rfl,b,j⟩:=q;obtain rfl:=r;obtain⟨_,f,I,z,e⟩:=b.ok ok;obtain⟨g,y⟩:=all ds xs f p j z;exact⟨_,.list e rfl rfl ()⟩
  |_=>exact JC p
section
open Classical
def sameD (d e:D):Bool:=decide (d=e)
def Kz (d):sameD d d=true:=Zp rfl
theorem nh:sameD d e=true↔d=e:=decide_eq_true_iff
def zw:sameD d e=false↔d≠e:=decide_eq_false_iff_not
def jZ:D->D->Yu
 | .bl a,.bl b=>some (.bl (a == b))
 |d,e=>if plN 12 d&&plN 12 e then some (.bl (sameD d e)) else none
def yz:D->D->Yu
 | .bl a,.bl b=>some (.bl (a != b))
 |d,e=>if plN 12 d&&plN 12 e then some (.bl (!sameD d e)) else none
end
def WF (a:plN 12 d=true)(b:plN 12 e=true):jZ d e=some (.bl (sameD d e)):=by
 unfold jZ
 split
 .exact JC a
 simp_all
def Bb (a:plN 12 d=true)(b:plN 12 e=true):yz d e=some (.bl (!sameD d e)):=by
 unfold yz
 split
 .exact JC a
 simp_all
def LR (i j):jZ (.int i) (.int j)=some (.bl (decide (i=j))):=by
 rw[WF rfl rfl];by_cases h:i=j
 .simp_all [Kz]
 .rw[Zo h,zw.mpr ()]
def LS (i j):yz (.int i) (.int j)=some (.bl (!decide (i=j))):=by
 rw[Bb rfl rfl];by_cases h:i=j
 .simp_all [Kz]
 .rw[Zo h,zw.mpr ()]
def jY (p:X.A.units+64<cLine):xK X (compareOp .Eq) jZ:=by
 intro Y s Z H x y v u Q I i j ⟨F,d,e,z,g,id,h,f,q⟩;unfold jZ at f
 split at f
 .rename_i a b;obtain rfl:=Zqi f;refine gq Y s Z H x y v u Q I i j ⟨?_,?_⟩
  .rw[jj.mp id,jj.mp h];rfl
  .rw[jj.mp id,jj.mp h];refine q _ F H (.refl g) ?_;cases a<;>cases b<;>rfl
 .split at f
  .rename_i c;rw[Ua] at c;obtain rfl:=Zqi f;obtain⟨r,l⟩:=Wi I.hok 12 d x v c.1 (IsD.same g _ _ id) i;obtain⟨bs,m⟩:=Wi I.hok 12 e y u c.2 (IsD.same g _ _ h) j;have ⟨n,t⟩:=WE 12 d c.1;have ⟨o,w⟩:=WE 12 e c.2;refine PySem.SeqAt.compareEq_reads l m n o () ?_;rw[(UG.mpr ((Ba 12 d e c.1 c.2).trans nh.symm))];exact⟨.bl _,H,I,rfl,q _ F H (.refl g) (yx _ F)⟩
  simp_all
def z9 (p:X.A.units+64<cLine):xK X (compareOp .NotEq) yz:=by
 intro Y s Z H x y v u Q I i j ⟨F,d,e,z,g,id,h,f,q⟩;unfold yz at f
 split at f
 .rename_i a b;obtain rfl:=Zqi f;refine gj Y s Z H x y v u Q I i j ⟨?_,?_⟩
  .rw[jj.mp id,jj.mp h];rfl
  .rw[jj.mp id,jj.mp h];refine q _ F H (.refl g) ?_;cases a<;>cases b<;>rfl
 .split at f
  .rename_i c;rw[Ua] at c;obtain rfl:=Zqi f;obtain⟨r,l⟩:=Wi I.hok 12 d x v c.1 (IsD.same g _ _ id) i;obtain⟨bs,m⟩:=Wi I.hok 12 e y u c.2 (IsD.same g _ _ h) j;have ⟨n,t⟩:=WE 12 d c.1;have ⟨o,w⟩:=WE 12 e c.2;refine PySem.SeqAt.compareNe_reads l m n o () ?_;rw[(UG.mpr ((Ba 12 d e c.1 c.2).trans nh.symm))];exact⟨.bl _,H,I,rfl,q _ F H (.refl g) (yx _ F)⟩
  simp_all
end
def PE.or (h:PE X e t)(h':PE X e t'):PE X e (λZ H Q=>t Z H Q\/t' Z H Q):=λY s Z H Q I q=>q.elim (h Y s Z H Q I) (h' Y s Z H Q I)
def PT.or (h:PT X e t)(h':PT X e t'):PT X e (λZ H Q=>t Z H Q\/t' Z H Q):=λY s Z H Q I q=>q.elim (h Y s Z H Q I) (h' Y s Z H Q I)
def JX:D->Option jx
 | .int i=>some (.inl i)
 | .str x=>some (.inr x)
 |_=>none
def WG {K:W.Frag}{H:Hp}{d:D}{k:jx}{v:V}(h:JX d=some k)(i:IsD K H d v):v=kV k:=by
 cases d with
 |int j=>cases h;exact jc.mp i
 |str x=>cases h;exact IsD.str_iff.mp i
 |_=>exact Jv h
def jF:List jx->Yt->jx->Yu
 |k::ks,d::ds,q=>if k=q then some d else jF ks ds q
 |_,_,_=>none
theorem LU (k q:jx)(v)(r):jX ((k,v)::r) q=if k=q then some v else jX r q:=by
 grind[jX,List.find?_cons]
theorem LV:jF (k::ks) (d::ds) q=if k=q then some d else jF ks ds q:=rfl
theorem Xt {K:W.Frag}{H:Hp}(q):∀{ks:List jx} {ds:Yt} {xs:Yr},ks.length=xs.length->IsDs K H ds xs ->
 (∀d,jF ks ds q=some d->∃x,jX (ks.zip xs) q=some x/\IsD K H d x)/\(jF ks ds q=none->jX (ks.zip xs) q=none)
 | [],ds,xs,hl,h=>by
  refine⟨λd e=>?_,λ_=>rfl⟩;cases ds<;>exact Jv e
 |k::ks,[],xs,hl,h=>by
  simp_all [IsDs.nil_iff]
 |k::ks,d::ds,xs,hl,h=>by
  obtain⟨x,r,rfl,b,a⟩:=h;have c:=Xt q (UC hl) a
  grind[List.zip_cons_cons,LU,LV]
def zH:List jx->Yt->jx->D->Yt
 |k::ks,d::ds,q,v=>(if k=q then v else d)::zH ks ds q v
 |_,_,_,_=>[]
def zb:List jx->Yr->jx->V->Yr
 |k::ks,d::ds,q,v=>(if k=q then v else d)::zb ks ds q v
 |_,_,_,_=>[]
def LW:zH (k::ks) (d::ds) q v=(if k=q then v else d)::zH ks ds q v:=rfl
def LX:zb (k::ks) (d::ds) q v=(if k=q then v else d)::zb ks ds q v:=rfl
theorem DK {K:W.Frag}{H:Hp}{q:jx}{d:D}{v:V}(c:IsD K H d v):∀{ks:List jx} {ds:Yt} {xs:Yr},ks.length=xs.length->IsDs K H ds xs->IsDs K H (zH ks ds q d) (zb ks xs q v)/\(zb ks xs q v).length=ks.length /\
 (ks.zip xs).map (λb=>if b.1=q then(b.1,v) else b)=ks.zip (zb ks xs q v)
 | [],ds,xs,hl,h=>by
  refine⟨?_,rfl,rfl⟩;rfl
 |k::ks,[],xs,hl,h=>by
  simp_all [IsDs.nil_iff]
 |k::ks,d'::ds,xs,hl,h=>by
  obtain⟨x,r,rfl,i,e⟩:=h;obtain⟨f,g,j⟩:=DK c (UC hl) e;rw[LW,LX];refine⟨IsDs.mk ?_ f,by rw[Zu,g];rfl,?_⟩
  .by_cases a:k=q
   .rwa [Zd a,Zd a]
   .rwa [Ze a,Ze a]
  grind[List.zip_cons_cons,List.map_cons]
def yW (q:jx)(ks:List jx):Bool:=ks.any λk=>decide (k=q)
theorem DM (q):∀{ks:List jx} {xs:Yr},ks.length=xs.length->((ks.zip xs).any λa=>decide (a.1=q))=yW q ks
 | [],xs,_=>rfl
 |k::ks,[],h=>by cases h
 |k::ks,x::xs,h=>by
  rw[UV,List.any_cons,DM q (UC h)];rfl
def V6 (ks:List jx)(q:jx):List jx:=if yW q ks=true then ks else ks++[q]
def Wj (ks:List jx)(ds:Yt)(q:jx)(v:D):Yt:=if yW q ks=true then zH ks ds q v else ds++[v]
def DN {K:W.Frag}{H:Hp}{q:jx}{d:D}{v:V}{ks:List jx}{ds:Yt}{xs:Yr}(b:ks.length=xs.length)(h:IsDs K H ds xs)(e:IsD K H d v):
 ∃c,xb (ks.zip xs) q v=(V6 ks q).zip c/\(V6 ks q).length=c.length/\IsDs K H (Wj ks ds q d) c:=by
 unfold xb V6 Wj;rw[DM q b];by_cases a:yW q ks=true
 .rw[Zd a,Zd a,Zd a];obtain⟨f,g,i⟩:=DK e b h;exact⟨_,i,g.symm,f⟩
 .rw[Ze a,Ze a,Ze a];exact⟨xs++[v],by rw[List.zip_append b];rfl,by simp[b],h.snoc e⟩
section
variable {X:Cx}{E:XK}{m:Option Bool}{a b o i e:Expr}{fa fb fo fi fv:FE}{pos pos' apos cpos:Pos}
def Bc {K:W.Frag}{H:Hp}{ds:Yt}{xs:Yr}{k:Int}{d:D}(h:IsDs K H ds xs)(e:jR ds k=some d):∃x,jR xs k=some x/\IsD K H d x:=by
 unfold jR at e ⊢;rw[h.length];cases c:yu ds.length k with
 |none=>simp_all
 |some j =>
  rw[c] at e;exact h.get e
def jv:D->D->Yu
 | .lst ds,.int k=>jR ds k
 | .tup ds,.int k=>jR ds k
 | .scr ns,.int k=>(jR ns k).map .int
 | .str x,.int k=>if x.length<=sizeLine then(jR x.cps.toList k).map λc=>.str ⟨#[c]⟩ else none
 | .dct ks ds,k=>(JX k).bind λq=>jF ks ds q
 | .dcf ks ds,k=>(JX k).bind λq=>jF ks ds q
 |_,_=>none
def DO {K:W.Frag}{H:Hp}{d:D}{ks:List jx}{ds:Yt}{v:V}(j:d=.dct ks ds\/d=.dcf ks ds)(h:IsD K H d v):∃a xs,v=.ref a/\Rd H a (.dK (ks.zip xs))/\ks.length=xs.length/\IsDs K H ds xs:=by
 rcases j with rfl|rfl
 .obtain⟨a,xs,c,f,g⟩:=j8.mp h;exact⟨a,xs,c,.inl f,g⟩
 .obtain⟨a,o,xs,c,f,g⟩:=qq.mp h;exact⟨a,xs,c,.inr ⟨o,f⟩,g⟩
def Bd {H c:Hp}{a:Addr}{u:HO}(e:jm H c)(h:Rd H a u):Rd c a u:=h.imp (λq=>e _ _ q) λ⟨o,q⟩=>⟨o,e _ _ q⟩
def DP {H:Hp}{a:Addr}{c:List (jx×V)}{k:jx}(e:Rd H a (.dK c)):xm H a (kV k) (jX c k):=.inl ⟨c,k,e,rfl,rfl⟩
def LY:yS X (z8 X.K λd e=>match d with
 | .dct _ _=>none
 | .dcf _ _=>none
 |d=>jv d e):=yS.weak IN λx y H Q ⟨F,d,e,z,g,id,l,f,q⟩=>by
 cases d with
 |lst ds =>
  cases e with
  |int k =>
   obtain⟨p,xs,rfl,h,n⟩:=id;obtain⟨x,hx,r⟩:=Bc n (f);exact .inl ⟨p,xs,k,x,rfl,jc.mp l,(h.same g).sq,hx,q _ F H (.refl g) r⟩
  |_=>exact Jv f
 |tup ds =>
  cases e with
  |int k =>
   obtain⟨p,xs,rfl,h,n⟩:=id;obtain⟨x,hx,r⟩:=Bc n (f);exact .inr (.inl ⟨p,xs,k,x,rfl,jc.mp l,(h.same g).sq,hx,q _ F H (.refl g) r⟩)
  |_=>exact Jv f
 |scr ns =>
  cases e with
  |int k =>
   obtain⟨p,rfl,h⟩:=id;obtain⟨j,u,f⟩:=Jg.mp (f);subst f;refine .inl ⟨p,_,k,.int j,rfl,jc.mp l,jm.seq g h,?_,q _ F H (.refl g) (yw _ F)⟩;unfold jR at u ⊢;cases hx:yu ns.length k with
   |none=>simp_all
   |some i=>simp_all
  |_=>exact Jv f
 |str t =>
  cases e with
  |int k =>
   have f:(if t.length<=sizeLine then(jR t.cps.toList k).map λc=>D.str ⟨#[c]⟩ else none)=some z:=f
   split at f
   .rename_i v;cases s:jR t.cps.toList k with
    |none=>rw[s] at f;exact Jv f
    |some c =>
     rw[s] at f;obtain rfl:=Zqi f;exact .inr (.inr ⟨t,k,c,IsD.str_iff.mp id,jc.mp l,v,s,q _ F H (.refl g) (IsD.str_iff.mpr rfl)⟩)
   simp_all
  |_=>exact Jv f
 |_=>exact Jv f
def JB (C:X.A.units+1<cLine)(t:QE X E a fa)(u:QE X E b fb)(G:AD b)(g:vG b):QE X E (.Subscript a b pos) (jf jv fa fb):=
 PE.weak (PE.or (La C t u g) (Dw (LY) t u G)) λZ H Q h=>by
  obtain⟨B,F,sd,r,n⟩:=h;by_cases j:∃d ks ds,fa sd=.ok d/\(d=.dct ks ds\/d=.dcf ks ds)
  .obtain⟨d,ks,ds,j,A⟩:=j;refine .inl ⟨B,F,sd,r,(Res.need_bind n).monoE (λx hx I v J Y f K=>?_) λ_ _ q=>q⟩;rw[j] at hx;cases hx;refine⟨B,J,sd,r.step f,(Res.need_bind I).mono (λy L w M N l O=>?_) λ_ _ q=>q.ext f⟩;obtain⟨z,s,q⟩:=ji L;obtain⟨k,P,s⟩:=Je.mp (show(JX y).bind (λq=>jF ks ds q)=some z by rcases A with rfl|rfl<;>exact s);obtain⟨p,xs,rfl,R,S,T⟩:=DO A K;obtain⟨x,hx,U⟩:=(Xt k S T).1 z s;refine⟨p,x,rfl,?_,q x M N (f.trans l) (IsD.same l.ff _ _ U)⟩;rw[WG P O,<- hx];exact DP (Bd l.hh (Bd f.fh R))
  .refine .inr (Xp ⟨B,F,sd,r,?_⟩);unfold jf at n ⊢;cases hx:fa sd with
   |ok d =>
    simp_all
   |no=>simp_all
   |ex c fs=>simp_all
def qX (neg:Bool):D->D->Yu
 |k,.dct ks ds=>(JX k).map λq=>.bl (if neg then !(jF ks ds q).isSome else(jF ks ds q).isSome)
 |k,.dcf ks ds=>(JX k).map λq=>.bl (if neg then !(jF ks ds q).isSome else(jF ks ds q).isSome)
 |d,.lst ds=>if plN 12 d&&ds.all (plN 12) then some (.bl (if neg then !ds.any (λe=>sameD e d) else ds.any λe=>sameD e d)) else none
 |d,.tup ds=>if plN 12 d&&ds.all (plN 12) then some (.bl (if neg then !ds.any (λe=>sameD e d) else ds.any λe=>sameD e d)) else none
 |_,_=>none
theorem DQ {K:W.Frag}{H:Hp}:∀n d e v,plN n d=true->plN n e=true->IsD K H d v->IsD K H e v->d=e
 | 0,_,_,_,h,_,_,_=>by exact JC h
 |n+1,d,e,v,hd,he,g,c=>by
  have all:∀ds f xs,ds.all (plN n)=true->f.all (plN n)=true->IsDs K H ds xs->IsDs K H f xs->ds=f:=by
   intro ds
   induction ds with
   |nil =>
    intro f xs _ _ g c;rw[IsDs.nil_iff] at g;subst g;have:=c.length
    grind
   |cons d ds B =>
    intro f xs w y g c;rw[Ui,Ua] at w;rw[jh] at g;obtain⟨x,r,rfl,C,F⟩:=g;cases f with
    |nil=>rw[IsDs.nil_iff] at c;cases c
    |cons e f =>
     rw[Ui,Ua] at y;rw[jh] at c;obtain⟨L,M,t,G,I⟩:=c;cases t;rw[DQ n d e x w.1 y.1 C G,B f r w.2 y.2 F I]
  have ne:∀{a:Addr} {xs A:Yr},xZ K H a xs->xk K H a A->False:=λ{a xs A} p l=>by
   rcases l with l|⟨o,l⟩
   .rw[p] at l;cases l
   .rw[p] at l;cases l
  cases d with
  |int i =>
   rw[jc] at g;subst g;cases e with
   |int j=>rw[jc] at c;cases c;rfl
   |str j=>rw[IsD.str_iff] at c;cases c
   |non=>rw[jt] at c;cases c
   |tup f=>grind[jn]
   |lst f=>grind[jp]
   |_=>exact JC he
  |str i =>
   rw[IsD.str_iff] at g;subst g;cases e with
   |int j=>rw[jc] at c;cases c
   |str j=>rw[IsD.str_iff] at c;cases c;rfl
   |non=>rw[jt] at c;cases c
   |tup f=>simp_all [jn]
   |lst f=>simp_all [jp]
   |_=>exact JC he
  |non =>
   rw[jt] at g;subst g;cases e with
   |int j=>rw[jc] at c;cases c
   |str j=>rw[IsD.str_iff] at c;cases c
   |non=>rfl
   |tup f=>grind[jn]
   |lst f=>grind[jp]
   |_=>exact JC he
  |tup ds =>
   rw[jn] at g;obtain⟨a,xs,rfl,p,l⟩:=g;cases e with
   |int j=>rw[jc] at c;cases c
   |str j=>simp_all [IsD.str_iff]
   |non=>simp_all [jt]
   |tup f =>
    rw[jn] at c;obtain⟨J,q,t,s,z⟩:=c;cases t;have u:H a=some (.tup xs):=p;rw[show H a=some (.tup q) from s] at u;cases u;rw[all ds f _ hd he l z]
   |lst f =>
    grind[jp]
   |_=>exact JC he
  |lst ds =>
   rw[jp] at g;obtain⟨a,xs,rfl,p,l⟩:=g;cases e with
   |int j=>rw[jc] at c;cases c
   |str j=>cases c
   |non=>cases c
   |tup f =>
    grind[jn]
   |lst f =>
    rw[jp] at c;obtain⟨J,q,t,s,z⟩:=c;cases t;have:xs=q:=by
     rcases p with p|⟨_,p⟩<;>rcases s with s|⟨_,s⟩<;>rw[p] at s<;>cases s<;>rfl
    subst this;rw[all ds f _ hd he l z]
   |_=>exact JC he
  |_=>exact JC hd
def mL (K:W.Frag)(H:Hp)(d:D)(u:Value):Prop:=∃v,jq v u/\IsD K H d v
def eqTo (K:W.Frag)(H:Hp)(d:D)(u:Value):Bool:=@decide (mL K H d u) (Classical.propDecidable _)
def LZ {K:W.Frag}{H:Hp}{d e:D}{v:V}{u:Value}(c:plN 12 d=true)(f:plN 12 e=true)(h:IsD K H e v)(r:jq v u):eqTo K H d u=sameD e d:=by
 by_cases q:e=d
 .rw[q,Kz];exact @decide_eq_true _ (Classical.propDecidable _) ⟨v,r,q ▸ h⟩
 .rw[zw.mpr q];refine @decide_eq_false _ (Classical.propDecidable _) λ⟨j,g,h'⟩=>q ?_;rw[g.inj r] at h';exact DQ 12 e d v f c h h'
def any_eq {P:Program}{w:World}{K:W.Frag}{A:Around}{s:Shared}{H:Hp}(B:A.units+60<cLine)(ok:qQ P w H s.heap){d:D}{x:V}{v:Value}(g:plN 12 d=true)(hx:IsD K H d x)(p:jq x v):
 ∀{ds:Yt} {xs:Yr} {f:Yd},ds.all (plN 12)=true->IsDs K H ds xs->js xs f->f.map (eqTo K H d)=ds.map (λe=>sameD e d)/\∀u∈f,SeqAt.EqAt A s u v (eqTo K H d u):=by
 intro ds
 induction ds with
 |nil =>
  intro xs f _ h j;subst h;cases j;simp
 |cons e ds q =>
  intro xs f c h j;rw[Ui,Ua] at c;obtain⟨y,rs,rfl,l,r⟩:=h;cases j with
  |cons n t =>
   obtain⟨C,F⟩:=q c.2 r t;obtain⟨G,I⟩:=Wi ok 12 e y _ c.1 l n;obtain⟨cs,J⟩:=Wi ok 12 d x v g hx p;obtain⟨L,M⟩:=WE 12 e c.1;obtain⟨N,O⟩:=WE 12 d g;have z:=LZ g c.1 l n;refine⟨(),λu hm=>?_⟩;rcases Uj.mp hm with hm|hm
   .subst hm;rw[z,<- (UG.mpr ((Ba 12 e d c.1 g).trans nh.symm):PyData.eqv (xR e) (xR d)=sameD e d)]
    grind[SeqAt.eqAt_reads]
   simp_all
def any_map' {α: Type}{f:α -> Bool}{l:List α}:l.any f=(l.map f).any id:=()
def Be (J:X.A.units+64<cLine)(neg:Bool):qA X (compareOp (if neg then .NotIn else .In)) (z8 X.K λd e=>match e with
 | .dct _ _=>none
 | .dcf _ _=>none
 |e=>qX neg d e):=by
 intro Y s Z H x y v u Q I B C ⟨F,d,e,z,f,id,n,g,q⟩;have id':=IsD.same f _ _ id;cases e with
 |lst ds =>
  have g:(if plN 12 d&&ds.all (plN 12) then some (D.bl (if neg then !ds.any (λe=>sameD e d) else ds.any λe=>sameD e d)) else none)=some z:=g
  split at g
  .rename_i h;rw[Ua] at h;obtain rfl:=Zqi g;rw[jp] at n;obtain⟨p,xs,rfl,r,t⟩:=n;obtain rfl:u=Value.ref p:=C;obtain⟨c,w,j,G⟩:=I.list (r.same f).sq;obtain⟨k1,k2⟩:=any_eq (A:=X.A.in1) (by show X.A.units+1+60<cLine;lia) I.hok h.1 id' B h.2 (IsDs.same f _ _ t) w;have l:c.toArray.any (eqTo X.K H d)=ds.any (λe=>sameD e d):=by
    rw[show c.toArray.any (eqTo X.K H d)=c.any (eqTo X.K H d) by simp,any_map',k1,<- any_map']
   cases neg with
   |true =>
    refine SeqAt.notIn_listAt (eqTo X.K H d) j.isList () ⟨.bl _,H,I,rfl,?_⟩;rw[l];exact q _ F H (.refl f) (yx _ F)
   |false =>
    refine SeqAt.in_listAt (eqTo X.K H d) j.isList () ⟨.bl _,H,I,rfl,?_⟩;rw[l];exact q _ F H (.refl f) (yx _ F)
  simp_all
 |tup ds =>
  have g:(if plN 12 d&&ds.all (plN 12) then some (D.bl (if neg then !ds.any (λe=>sameD e d) else ds.any λe=>sameD e d)) else none)=some z:=g
  split at g
  .rename_i h;rw[Ua] at h;obtain rfl:=Zqi g;obtain⟨p,xs,rfl,r,t⟩:=n;obtain rfl:=C;obtain⟨c,w,j,G⟩:=I.tuple (r.same f).sq;obtain⟨k1,k2⟩:=any_eq (A:=X.A.in1) (by show X.A.units+1+60<cLine;lia) I.hok h.1 id' B h.2 (IsDs.same f _ _ t) w;have l:c.toArray.any (eqTo X.K H d)=ds.any (λe=>sameD e d):=by
    rw[show c.toArray.any (eqTo X.K H d)=c.any (eqTo X.K H d) by simp,any_map',k1,<- any_map']
   cases neg with
   |true =>
    refine SeqAt.notIn_tupleAt (eqTo X.K H d) j () ⟨.bl _,H,I,rfl,?_⟩;rw[l];exact q _ F H (.refl f) (yx _ F)
   |false =>
    refine SeqAt.in_tupleAt (eqTo X.K H d) j () ⟨.bl _,H,I,rfl,?_⟩;rw[l];exact q _ F H (.refl f) (yx _ F)
  simp_all
 |_=>exact Jv g
def Bf {K:W.Frag}{neg:Bool}{Z: St}{H:Hp}{Q:VK}(h:tD K E (jf (qX neg) fa fb) Z H Q):
 (λZ H Q=>tD K E fa Z H λy t=>tD K E fb Z t λx g=>∃a o,x=.ref a/\xm g a y o/\Q (.bl (if neg then !o.isSome else o.isSome)) g) Z H Q\/vn (z8 K λd e=>match e with
 | .dct _ _=>none
 | .dcf _ _=>none
 |e=>qX neg d e) (tD K E fa) (tD K E fb) Z H Q:=by
 obtain⟨B,F,sd,r,n⟩:=h;by_cases j:∃d ks ds,fb sd=.ok d/\(d=.dct ks ds\/d=.dcf ks ds)
 .obtain⟨d,ks,ds,j,u⟩:=j;refine .inl ⟨B,F,sd,r,(Res.need_bind n).mono (λx G v I t l J=>⟨B,I,sd,r.step l,(Res.need_bind G).monoE (λy f L w M g A N=>?_) λ_ _ q=>q.ext l⟩) λ_ _ q=>q⟩;rw[j] at f;cases f;obtain⟨z,s,q⟩:=ji L;obtain⟨k,O,s⟩:=Jg.mp (show(JX x).map (λq=>D.bl (if neg then !(jF ks ds q).isSome else(jF ks ds q).isSome))=some z by rcases u with rfl|rfl<;>exact s);subst s;obtain⟨p,xs,rfl,P,R,S⟩:=DO u N;obtain⟨T,U⟩:=Xt k R S;refine⟨p,jX (ks.zip xs) k,rfl,?_,?_⟩
  .rw[WG O J];exact DP (Bd A.fh P)
  .have Y:(jX (ks.zip xs) k).isSome=(jF ks ds k).isSome:=by
    cases C:jF ks ds k with
    |none=>rw[U C];rfl
    |some d=>obtain⟨x,hx,_⟩:=T d C;rw[hx];rfl
   rw[Y];exact q _ M g (l.trans A) (jj.mpr rfl)
 .refine .inr (Xp ⟨B,F,sd,r,?_⟩);unfold jf at n ⊢;cases hx:fa sd with
  |ok d =>
   rw[hx] at n;cases f:fb sd with
   |ok e =>
    simp_all
   |no=>rwa [f] at n
   |ex c fs=>rwa [f] at n
  |no=>simp_all
  |ex c fs=>simp_all
def Ma (g:X.A.units+64<cLine)(c:QE X E a fa)(d:QE X E b fb)(f:behindInMarks .NotIn b=false:=by rfl):QE X E (.Compare a [.NotIn] [b] pos) (jf (qX true) fa fb):=
 PE.weak (PE.or (CM (D2 () c d) f) (Da (Be g true) c d f)) λZ H Q h=>Bf h
def DR (g:X.A.units+64<cLine)(c:QE X E a fa)(d:QE X E b fb)(f:behindInMarks .In b=false:=by rfl):QT X E (.Compare a [.In] [b] pos) (Jw (jf (qX false) fa fb)):=
 PT.weak (PT.or (YC (Lb () c d) f) (YH (Be g false) c d f)) λZ H Q h=>Bf (KC h)
def Bg (g:X.A.units+64<cLine)(c:QE X E a fa)(d:QE X E b fb)(f:behindInMarks .NotIn b=false:=by rfl):QT X E (.Compare a [.NotIn] [b] pos) (Jw (jf (qX true) fa fb)):=
 PT.weak (PT.or (YC (D2 () c d) f) (YH (Be g true) c d f)) λZ H Q h=>Bf (KC h)
end
section
variable {X:Cx}{E:XK}{m:Option Bool}{a b o i e f tg:Expr}{fa fb fo fi fv:FE}{fr:FA}{pos pos' apos cpos p:Pos}
theorem Qx {K:W.Frag}{H:Hp}{d:D}{c:Yr}(h:IsDs K H [d] c):∃v,c=[v]/\IsD K H d v:=by
 simp_all [jh,IsDs.nil_iff]
def Wk {K:W.Frag}{H:Hp}{d e:D}{c:Yr}(h:IsDs K H [d,e] c):∃v w,c=[v,w]/\IsD K H d v/\IsD K H e w:=by
 grind[jh,Qx]
def j6:Yt->Yu
 | [.lst ds]=>some (.int ds.length)
 | [.tup ds]=>some (.int ds.length)
 | [.dct ks _]=>some (.int ks.length)
 | [.scr ns]=>some (.int ns.length)
 | [.str x]=>if x.length<=sizeLine then some (.int x.length) else none
 |_=>none
def cG (ds:Yt)(z:D):Prop:=(∃c,ds=[.lst c]/\z=.int c.length)\/(∃c,ds=[.tup c]/\z=.int c.length)\/(∃ks c,ds=[.dct ks c]/\z=.int ks.length)\/(∃ns,ds=[.scr ns]/\z=.int ns.length)\/∃x,x.length<=sizeLine/\ds=[.str x]/\z=.int x.length
def Mb (c:j6 ds=some z):cG ds z:=by
 cases ds with
 |nil=>exact Jv c
 |cons d ds =>
  cases ds with
  |nil =>
   cases d with
   |lst ds=>exact .inl ⟨_,rfl,(Zqi c).symm⟩
   |tup ds=>exact .inr (.inl ⟨_,rfl,(Zqi c).symm⟩)
   |dct ks ds=>exact .inr (.inr (.inl ⟨_,_,rfl,(Zqi c).symm⟩))
   |scr ns=>exact .inr (.inr (.inr (.inl ⟨_,rfl,(Zqi c).symm⟩)))
   |str x=>exact let q:=Wd c;.inr (.inr (.inr (.inr ⟨_,q.1,rfl,q.2.symm⟩)))
   |_=>exact Jv c
  |cons e ds=>cases d<;>exact Jv c
def Qu:qc X (.builtin "len") (yU X.K j6):=qc.weak (qc.or IP (qc.or Lq IQ)) λxs H Q n=>by
 obtain⟨F,ds,z,c,id,r,q⟩:=n;rcases Mb r with ⟨l,rfl,rfl⟩|⟨l,rfl,rfl⟩|⟨ks,l,rfl,rfl⟩|⟨ns,rfl,rfl⟩|⟨x,s,rfl,rfl⟩
 .obtain⟨v,rfl,h⟩:=Qx id;obtain⟨a,j,rfl,d,g⟩:=h;rw[<- g.length] at q;exact .inl ⟨a,j,rfl,.inl (d.same c).sq,q _ F H (.refl c) (yw _ F)⟩
 .obtain⟨v,rfl,h⟩:=Qx id;obtain⟨a,j,rfl,d,g⟩:=h;rw[<- g.length] at q;exact .inl ⟨a,j,rfl,.inr (d.same c).sq,q _ F H (.refl c) (yw _ F)⟩
 .obtain⟨v,rfl,h⟩:=Qx id;obtain⟨a,j,rfl,d,g,t⟩:=h;refine .inr (.inl ⟨a,_,rfl,c _ _ d,?_⟩);rw[List.length_zip,<- g,Nat.min_self];exact q _ F H (.refl c) (yw _ F)
 .obtain⟨v,rfl,h⟩:=Qx id;obtain⟨a,rfl,d⟩:=h;refine .inl ⟨a,_,rfl,.inl (jm.seq c d),?_⟩;rw[Zql];exact q _ F H (.refl c) (yw _ F)
 .obtain⟨v,rfl,h⟩:=Qx id;subst h;exact .inr (.inr ⟨_,rfl,s,q _ F H (.refl c) (yw _ F)⟩)
def V7:Yt->Yu
 | [.int i,.int j]=>some (.int (if j > i then j else i))
 |_=>none
def WH:Yt->Yu
 | [.int i,.int j]=>some (.int (if j<i then j else i))
 |_=>none
def DS (ds:Yt):Prop:=∃i j,ds=[.int i,.int j]
def Mc (c:V7 ds=some z):DS ds:=by
 cases ds with
 |nil=>exact Jv c
 |cons d ds =>
  cases ds with
  |nil=>cases d<;>exact Jv c
  |cons e ds =>
   cases d with
   |int i =>
    cases e with
    |int j =>
     cases ds with
     |nil=>exact⟨_,_,rfl⟩
     |cons _ _=>exact Jv c
    |_=>exact Jv c
   |_=>exact Jv c
def Md (c:WH ds=some z):DS ds:=by
 cases ds with
 |nil=>exact Jv c
 |cons d ds =>
  cases ds with
  |nil=>cases d<;>exact Jv c
  |cons e ds =>
   cases d with
   |int i =>
    cases e with
    |int j =>
     cases ds with
     |nil=>exact⟨_,_,rfl⟩
     |cons _ _=>exact Jv c
    |_=>exact Jv c
   |_=>exact Jv c
def Me (d:X.calm=true):qc X (.builtin "max") (yU X.K V7):=qc.weak (Iq d) λxs H Q g=>by
 obtain⟨F,ds,z,h,id,c,q⟩:=g;obtain⟨i,j,rfl⟩:=Mc c;obtain rfl:=Zqi c;obtain⟨v,w,rfl,l,n⟩:=Wk id;exact⟨_,_,by rw[jc.mp l,jc.mp n],q _ F H (.refl h) (yw _ F)⟩
def Mf (d:X.calm=true):qc X (.builtin "min") (yU X.K WH):=qc.weak (Ir d) λxs H Q g=>by
 obtain⟨F,ds,z,h,id,c,q⟩:=g;obtain⟨i,j,rfl⟩:=Md c;obtain rfl:=Zqi c;obtain⟨v,w,rfl,l,n⟩:=Wk id;exact⟨_,_,by rw[jc.mp l,jc.mp n],q _ F H (.refl h) (yw _ F)⟩
def YS:D->Option Yf
 | .lst ds=>QD Xq ds
 |_=>none
def Mg {K:W.Frag}{H:Hp}{d:D}{ns:Yf}{v:V}(h:YS d=some ns)(i:IsD K H d v):∃a,v=.ref a/\xk K H a (ns.map V.int):=by
 cases d with
 |lst ds =>
  obtain⟨a,xs,rfl,g,c⟩:=i;rw[LM (h)] at c;rw[qZ c] at g
  simp_all
 |_=>exact Jv h
def Mh (ns):YS (.lst (ns.map D.int))=some ns:=LN ns
def tj:D->Option String
 | .non=>some "NoneType"
 | .bl _=>some "bool"
 | .int _=>some "int"
 | .str _=>some "str"
 | .lst _=>some "list"
 | .tup _=>some "tuple"
 | .dct _ _=>some "dict"
 |_=>none
def vl (t n:String):Bool:=(t == n)||(t == "bool" && n == "int")
noncomputable def YT (t n:String):Bool:=["NoneType", "bool", "int", "str", "list", "tuple", "dict"].contains t&&["bool", "int", "str", "list", "tuple", "dict"].contains n
def Mi (K)(t n)(h:YT t n=true):W.kitOne K (.type t) (.type n)=some (vl t n):=by
 unfold YT at h;rw[Ua,List.contains_iff_mem,List.contains_iff_mem] at h;obtain⟨c,d⟩:=h;simp only[Uj,Uk,or_false] at c d;rcases c with rfl|rfl|rfl|rfl|rfl|rfl|rfl<;>rcases d with rfl|rfl|rfl|rfl|rfl|rfl<;>first|rfl|kernel_rfl
def j4:Yt->Yu
 | [d,.ty n]=>(tj d).bind λt=>if YT t n then some (.bl (vl t n)) else none
 |_=>none
def Mj {K:W.Frag}{H:Hp}{d:D}{v:V}{t:String}(h:tj d=some t)(i:IsD K H d v):TyOf K H v (.type t):=by
 cases d with
 |non=>cases h;rw[jt.mp i];exact .non
 |bl b=>cases h;rw[jj.mp i];exact .bl b
 |int j=>cases h;rw[jc.mp i];exact .int j
 |str x=>cases h;rw[IsD.str_iff.mp i];exact .str x
 |lst ds =>
  obtain rfl:=Zqi h;rw[jp] at i;obtain⟨a,xs,rfl,g,_⟩:=i;rcases g with g|⟨o,g⟩
  .exact .lst g
  .exact .frz g
 |tup ds =>
  obtain rfl:=Zqi h;rw[jn] at i;obtain⟨a,xs,rfl,g,_⟩:=i;exact .tup g
 |dct ks ds =>
  obtain rfl:=Zqi h;rw[j8] at i;obtain⟨a,xs,rfl,g,_⟩:=i;exact .dK g
 |ty n=>exact Jv h
 |scr n=>exact Jv h
 |ins C fs ds=>exact Jv h
 |exc c=>exact Jv h
 |exr c n=>exact Jv h
 |ucl c=>exact Jv h
 |adr c=>exact Jv h
 |dcf c ds=>exact Jv h
 |pin c ds=>exact Jv h
def cK (ds:Yt)(z:D):Prop:=∃d n t,ds=[d,.ty n]/\tj d=some t/\YT t n=true/\z=.bl (vl t n)
def Ml (c:j4 ds=some z):cK ds z:=by
 cases ds with
 |nil=>exact Jv c
 |cons d ds =>
  cases ds with
  |nil=>exact Jv c
  |cons e ds =>
   cases ds with
   |nil =>
    cases e with
    |ty n =>
     obtain⟨t,g,c⟩:=Je.mp (c);exact⟨d,n,t,rfl,g,(Wd c).1,(Wd c).2.symm⟩
    |_=>exact Jv c
   |cons _ _=>cases e<;>exact Jv c
def DU:qc X (.builtin "isinstance") (yU X.K j4):=qc.weak L3 λxs H Q g=>by
 obtain⟨F,ds,z,c,id,h,q⟩:=g;obtain⟨d,n,t,rfl,j,l,rfl⟩:=Ml h;obtain⟨v,w,rfl,r,s⟩:=Wk id;exact⟨v,_,_,_,by rw[qF.mp s],Mj j (IsD.same c _ _ r),Mi _ _ _ l,q _ F H (.refl c) (yx _ F)⟩
def Bh (c:Gl X x)(d:X.mg x=none)(g:bootBuiltins x=some u)(r:jq (.ty n) u)(h:x ≠ "__name__" := by decide)(j:(x == ("__debug__" : Str))=false:=by decide):QE X E (.Name x pos) (dC (.ty n)):=
 Wf (HF c d g r h j) λ_=>qF.mpr rfl
def K0:Yt->Yu
 | [.lst ds]=>some (.lst ds)
 | [.tup ds]=>some (.lst ds)
 | [.scr ns]=>some (.lst (ns.map .int))
 |_=>none
def mU (ds:Yt)(z:D):Prop:=(∃c,ds=[.lst c]/\z=.lst c)\/(∃c,ds=[.tup c]/\z=.lst c)\/∃ns,ds=[.scr ns]/\z=.lst (ns.map .int)
def Mm (c:K0 ds=some z):mU ds z:=by
 cases ds with
 |nil=>exact Jv c
 |cons d ds =>
  cases ds with
  |nil =>
   cases d with
   |lst ds=>exact .inl ⟨_,rfl,(Zqi c).symm⟩
   |tup ds=>exact .inr (.inl ⟨_,rfl,(Zqi c).symm⟩)
   |scr ns=>exact .inr (.inr ⟨_,rfl,(Zqi c).symm⟩)
   |_=>exact Jv c
  |cons e ds=>cases d<;>exact Jv c
def Bi:qc X (.type "list") (kK X.K K0):=qc.weak IR λxs H Q t=>by
 obtain⟨F,ds,z,g,id,u,q⟩:=t;have d:∀{j:Yt} {c:Yr},IsDs X.K F j c->yq X.K F H Q (.lst j)->∀l,H l=none->Q (.ref l) (upd H l (.lst c)):=λ{j c} h q l r =>
  q l F _ (.keep g r _) r (Qd g r) ⟨c,J8,h⟩
 rcases Mm u with ⟨j,rfl,rfl⟩|⟨j,rfl,rfl⟩|⟨ns,rfl,rfl⟩
 .obtain⟨v,rfl,h⟩:=Qx id;obtain⟨a,c,rfl,n,s⟩:=h;exact⟨a,c,rfl,.inl (n.same g).sq,d s q⟩
 .obtain⟨v,rfl,h⟩:=Qx id;obtain⟨a,c,rfl,n,s⟩:=h;exact⟨a,c,rfl,.inr (n.same g).sq,d s q⟩
 .obtain⟨v,rfl,h⟩:=Qx id;obtain⟨a,rfl,n⟩:=h;exact⟨a,_,rfl,.inl (jm.seq g n),d (qB _) q⟩
def Xu:Yt->Yu
 | [.lst ds]=>some (.tup ds)
 | [.tup ds]=>some (.tup ds)
 |_=>none
def cA (ds:Yt)(z:D):Prop:=(∃c,ds=[.lst c]/\z=.tup c)\/∃c,ds=[.tup c]/\z=.tup c
def Mn (c:Xu ds=some z):cA ds z:=by
 cases ds with
 |nil=>exact Jv c
 |cons d ds =>
  cases ds with
  |nil =>
   cases d with
   |lst ds=>exact .inl ⟨_,rfl,(Zqi c).symm⟩
   |tup ds=>exact .inr ⟨_,rfl,(Zqi c).symm⟩
   |_=>exact Jv c
  |cons e ds=>cases d<;>exact Jv c
def Mo:qc X (.type "tuple") (yU X.K Xu):=qc.weak IS λxs H Q r=>by
 obtain⟨F,ds,z,d,id,s,q⟩:=r;rcases Mn s with ⟨t,rfl,rfl⟩|⟨t,rfl,rfl⟩
 .obtain⟨v,rfl,h⟩:=Qx id;obtain⟨a,c,rfl,g,j⟩:=h;refine⟨a,c,rfl,.inl ⟨(g.same d).sq,λl u=>?_⟩⟩;have n:=jI d u (.tup c);exact q _ _ _ n (jn.mpr ⟨l,c,rfl,.of J8,IsDs.same n.ff _ _ j⟩)
 .obtain⟨v,rfl,h⟩:=Qx id;have h':=h;obtain⟨a,c,rfl,g,j⟩:=h;exact⟨a,c,rfl,.inr ⟨(g.same d).sq,q _ F H (.refl d) h'⟩⟩
def cz (r:Jp):D:=.dct (r.map λp=>.inl p.1) (r.map λp=>.int p.2)
def YU (r:Jp):Jp:=r.foldl (λa p=>wf a p.1 p.2) []
def Mp (h:xL r):YU r=r:=by
 grind[YU,DA]
def hD:Yt->Yu
 | [d]=>(AX d).bind λr=>if r.length<=100 then some (cz (YU r)) else none
 |_=>none
def Xv:FE:=λ_=>.ok (.dct [] [])
def Bj:QN X E (.Dict [] [] pos) Xv:=PE.weak Lf λZ H Q ⟨B,F,sd,r,n⟩=>λp c=>n p F _ (.keep r.ext.fh c _) c (Qd r.ext.fh c) ⟨[],J8,rfl,.nil⟩
def DV (fo c g:FE):FE:=λsd=>(fo sd).bind λd=>match d with
 | .dct ks ds=>(c sd).bind λk=>(g sd).bind λx=>.ofO ((JX k).map λq=>(jF ks ds q).getD x)
 |_=>.no
def Wl (i:Nat)(c fv:FE):FS:=λsd=>(fv sd).bind λv=>match sd[i]? with
 |some (some (.own false (.dct ks ds)))=>(c sd).bind λk=>match JX k with
  |some q=>if ks.length<sizeLine then .ok (.next (sd.set i (some (.own false (.dct (V6 ks q) (Wj ks ds q v)))))) else .no
  |none=>.no
 |_=>.no
def DW (x:X.A.units+1<cLine)(y:PE X o (xS j))(z:QE X E i fi)(A:QE X E e fv)(C:swapsWith e (some (.Subscript o i pos')) pos.line X.env=pure false:=by rfl):
 QS X E m (.Assign [.Subscript o i pos'] e pos) (Wl j fi fv):=PS.weak (Lc x y z A C) λT Z H G=>by
 obtain⟨B,F,sd,r,n⟩:=G;refine⟨B,F,sd,r,(Res.need_bind n).mono (λd s v I Y c J=>?_) λ_ _ q=>q.ext r.ext⟩
 split at s
 .rename_i ks ds t;obtain⟨l,u,h2,h3,⟨xs,K,L,M⟩,_⟩:=(r.step c).own t;refine⟨.ref l,u,B,I,sd,r.step c,(Res.need_bind s).mono (λk g w N H2 h O=>?_) λ_ _ q=>q.ext (r.step c).ext⟩
  split at g
  .rename_i q P
   split at g
   .obtain⟨Q,R,S,U⟩:=DN L (IsDs.same h.ff _ _ M) (IsD.same h.ff _ _ J);exact⟨l,_,rfl,(by rw[WG P O];exact zQ.k (h.hh _ _ K) ()),g Z N _ (c.ff.trans h.ff) (((r.step c).step h).chg t u ⟨Q,by rw[J8,R],S,U⟩)⟩
   .exact g.elim
  .exact g.elim
 .exact s.elim
def WI:D->Option Yt
 | .lst ds=>some ds
 | .scr ns=>some (ns.map .int)
 |_=>none
def u0:D->Option Yt
 | .tup ds=>some ds
 |_=>none
def iL (f:FE):FA:=λsd=>(f sd).bind λd=>.ofO (WI d)
def iT (f:FE):FA:=λsd=>(f sd).bind λd=>.ofO (u0 d)
def YV {K:W.Frag}{j:Hp}{J:It}{ds:Yt}{xs:Yr}{S:Hp->Prop}(h:IsDs K j ds xs)(v:∀F H,jm j F->jm F H->S H)(g:∀i H x,S H->xs[i]? = some x->J.go i H)(st:∀i H,S H->xs.length<=i->J.stop i H)
 (w:∀i H x q,S H->J.yld i H x q->q=H/\xs[i]? = some x):yj K j J ds:=λi r c s t=>by
 have l:=v r c s t;refine⟨λu=>?_,λu=>st i c l (by rwa [h.length])⟩;obtain⟨x,hx,_⟩:=h.get (Zqg u);refine⟨g i c x l hx,λy z A=>?_⟩;obtain⟨rfl,n⟩:=w i c y z l A;obtain⟨d,B,id⟩:=h.getV n;exact⟨d,r,B,.refl t,IsD.same s _ _ id⟩
def Mq (h:QE X E e fa):QI X E tg e (iL fa):=PI.weak (HW h) λZ H R C=>by
 obtain⟨B,F,sd,r,n⟩:=C;refine⟨B,F,sd,r,(Res.need_bind n).mono (λd G v y z l A=>?_) λ_ _ q=>q⟩;obtain⟨ds,s,q⟩:=ji G;cases d with
 |lst K =>
  obtain rfl:=Zqi s;obtain⟨a,xs,rfl,g,I⟩:=A;refine⟨a,rfl,⟨xs,(g.same l.fh).sq⟩,q _ y z l (YV I (λF H t u=>((g.same t).same u).sq) (λi H x c hx=>⟨xs,x,c,hx⟩) (λi H c w=>⟨xs,c,w⟩) λi H x J c j=>⟨j.1,j.2 xs c⟩)⟩
 |scr ns =>
  obtain rfl:=Zqi s;obtain⟨a,rfl,g⟩:=A;refine⟨a,rfl,⟨_,jm.seq l.fh g⟩,q _ y z l (YV (qB ns) (λF H t u=>jm.seq u (jm.seq t g)) (λi H x c hx=>⟨_,x,c,hx⟩) (λi H c w=>⟨_,c,w⟩) λi H x J c j=>⟨j.1,j.2 _ c⟩)⟩
 |_=>exact Jv s
def Mr (h:QE X E e fa):QI X E tg e (iT fa):=PI.weak (HX h) λZ H R t=>by
 obtain⟨B,F,sd,r,n⟩:=t;refine⟨B,F,sd,r,(Res.need_bind n).mono (λd u v w y g z=>?_) λ_ _ q=>q⟩;obtain⟨ds,j,q⟩:=ji u;cases d with
 |tup J =>
  obtain rfl:=Zqi j;obtain⟨a,xs,rfl,l,A⟩:=z;refine⟨a,rfl,⟨xs,(l.same g.fh).sq⟩,q _ w y g (YV A (λF H C G=>((l.same C).same G).sq) (λi H x c hx=>⟨xs,x,c,hx⟩) (λi H c I=>⟨xs,c,I⟩) λi H x K c s=>⟨s.1,s.2 xs c⟩)⟩
 |_=>exact Jv j
def cD {X:Cx}{tg e:Expr}{t t':TI}(h:PI X tg e t)(h':PI X tg e t'):PI X tg e (λZ H R=>t Z H R\/t' Z H R):=λY s Z H R I q=>q.elim (h Y s Z H R I) (h' Y s Z H R I)
def V8:D->Option Yt
 | .lst ds=>some ds
 | .scr ns=>some (ns.map .int)
 | .tup ds=>some ds
 |_=>none
def iS (f:FE):FA:=λsd=>(f sd).bind λd=>.ofO (V8 d)
def Q4 (h:QE X E e fa):QI X E tg e (iS fa):=PI.weak (cD (Mq h) (Mr h)) λZ H R j=>by
 obtain⟨B,F,sd,r,n⟩:=j;by_cases g:∃ds,fa sd=.ok (.tup ds)
 .obtain⟨ds,g⟩:=g;refine .inr ⟨B,F,sd,r,?_⟩;unfold iS at n;unfold iT
  rwa [g] at n ⊢
 .refine .inl ⟨B,F,sd,r,?_⟩;unfold iS at n;unfold iL;cases hx:fa sd with
  |ok d =>
   rw[hx] at n;cases d with
   |tup ds=>simp_all
   |_=>exact n
  |no=>rwa [hx] at n
  |ex c fs=>rwa [hx] at n
def Qy (lo:Int)(n:Nat):Yt:=(List.range n).map λk:Nat=>.int (lo+k)
def QL (j:Int):Bool:=Nat.ble j.toNat 1000000000&&Nat.ble (-j).toNat 1000000000
def DX (h:QL j=true): -(2 ^ 62)<=j/\j<2 ^ 62:=by
 unfold QL at h;rw[Ua,Uz,Uz] at h;lia
def DY (c: -1000000000<=j)(d:j<=1000000000):QL j=true:=by
 unfold QL;rw[Ua,Uz,Uz];lia
def v3 (fr:FA):FA:=λsd=>(fr sd).bind λds=>match ds with
 | [.int j]=>if QL j then .ok (Qy 0 j.toNat) else .no
 |_=>.no
def cY (fr:FA):FA:=λsd=>(fr sd).bind λds=>match ds with
 | [.int i,.int j]=>if QL i&&QL j then .ok (Qy i (j-i).toNat) else .no
 |_=>.no
def Ms {K:W.Frag}{d:Hp}(lo)(n):yj K d (sO lo n) (Qy lo n):=λi g q r h=>by
 have j:(Qy lo n).length=n:=by unfold Qy;simp
 rw[j];refine⟨λc=>⟨c,λx s l=>?_⟩,λc=>c⟩;obtain⟨rfl,rfl⟩:=l;refine⟨.int (lo+i),g,?_,.refl h,jc.mpr rfl⟩
 simp_all [Qy]
def YW {a:Expr}(g:Gl X "range")(l:X.mg "range" = none)(s:QA X E [a] fr)(t:starEach [a] X.env=[(false,eval a X.env)]:=by rfl):QI X E tg (.Call (.Name "range" p) [a] [] pos) (v3 fr):=PI.weak (HZ g l s t) λZ H R u=>by
 obtain⟨B,F,sd,r,n⟩:=u;refine⟨B,F,sd,r,(Res.need_bind n).mono (λds c A w x y z=>?_) λ_ _ q=>q⟩
 split at c
 .split at c
  .rename_i j d;obtain⟨v,rfl,h⟩:=Qx z;rw[jc.mp h];exact⟨j,rfl,(DX d).1,(DX d).2,c _ w x y (Ms 0 _)⟩
  .exact c.elim
 .exact c.elim
end
section
variable {X:Cx}{E:XK}{m:Option Bool}{a b o i e f tg:Expr}{fa fb fo fi fv:FE}{fr:FA}{pos pos' apos cpos p:Pos}
def PG.weak (h:PG X e t)(w:∀v Z H Q,t' v Z H Q->t v Z H Q):PG X e t':=λY s Z H v u Q I r q=>h Y s Z H v u Q I r (w _ _ _ _ q)
def Bk:Yg->vc
 | []=>fA
 |i::is=>CT (KP i) (Bk is)
theorem DZ:∀{is:Yg} {xs:Yr} {Z: St} {H:Hp} {Q:St->Hp->Prop},xs.length=is.length->Q (YP is xs Z) H->Bk is xs Z H Q
 | [],xs,Z,H,Q,hl,q=>⟨(),q⟩
 |i::is,[],Z,H,Q,hl,q=>by cases hl
 |i::is,x::xs,Z,H,Q,hl,q=>⟨x,xs,rfl,DZ (UC hl) q⟩
def QM {i:Nat}{e:Expr}(h:PG X e (KP i)):QG X e (.one i):=h
def K3 (is)(h:PG X e (f4 X.K is.length (Bk is))):QG X e (.tup is):=PG.weak h λv Z H Q ⟨a,xs,e,d,c,q⟩=>⟨a,xs,e,d,c,DZ c q⟩
def V9 (tg:Tg)(c:FT)(f:FE)(sd:SD):Yt->Res Yt
 | []=>.ok []
 |x::xs=>(JD tg x sd).bind λs=>(c s).bind λb=>if b then(f s).bind λy=>(V9 tg c f sd xs).bind λd=>.ok (y::d) else V9 tg c f sd xs
def Xw (cap:List (Option Nat))(it:FA)(tg:Tg)(c:FT)(f:FE):FE:=λsd=>(it sd).bind λds=>if Kp (jL cap sd) tg=true/\ds.length<sizeLine then
 (V9 tg c f (jL cap sd) ds).bind λd=>.ok (.lst d) else .no
def Mt {K:W.Frag}{t:Tg}{fi:FA}{I:FT}{f:FE}{cap:List (Option Nat)}{Z: St}{H:Hp}{Q:VK}(L:vp K E (Xw cap fi t I f) Z H Q):YK cap (tH K E fi) (gT t K) (uZ K E I) (tD K E f) Z H Q:=by
 obtain⟨B,F,sd,r,n⟩:=L;refine⟨B,F,sd,r,(Res.need_bind n).mono (λds M J S H1 z wk=>?_) λ_ _ q=>q⟩
 split at M
 .rename_i L;obtain⟨hn,hz⟩:=L;refine⟨λi k N Z l=>k=ds.length-i/\i<=ds.length/\∃h s,Ext S H1 h l/\RS K B h l (jL cap sd) Z /\ IsDs K h s N/\s.length<=i /\
   (V9 t I f (jL cap sd) (ds.drop i)).need (λrs=>yq K h l Q (.lst (s++rs))) (XW K E h l),⟨ds.length,rfl,Ue _,S,[],.refl z.fh,(r.step z).cap cap,.nil,Zf _,?_⟩,?_⟩
  .exact(Res.need_bind M).mono (λrs q=>(q).ext z) λ_ _ q=>q.ext z
  rintro i k N Z2 l ⟨rfl,hi,h,s,A,O,C,T,u⟩;have ly:=C.length;refine⟨(),?_⟩;obtain⟨w1,w2⟩:=wk i h l A.ff A.fh;by_cases j:i<ds.length
  .obtain⟨go,yl⟩:=w1 j;refine .inr ⟨go,λx H3 y=>?_⟩;obtain⟨d,F3,hd,g,i3⟩:=yl x H3 y;rw[UF j] at u;have P:ds[i]=d:=by grind[Zqg,Zqi]
   rw[P] at u;refine YQ (O.step g) i3 (Res.need_bind u) λsd' Z' n4 hb G=>?_;have ⟨U,Y⟩:=DH hn hb;refine⟨B,F3,sd',G,(Res.need_bind n4).mono (λb n5 F4 H4 c=>?_) λ_ _ q=>q.ext g⟩;cases b with
   |true =>
    refine⟨B,F4,sd',G.step c,(Res.need_bind n5).mono (λy n6 v F5 H5 w i5=>⟨ds.length-(i+1),(),rfl,j,F5,s++[y],((A.trans g).trans c).trans w,((G.step c).step w).forget U Y,(IsDs.same ((g.ff.trans c.ff).trans w.ff) _ _ C).snoc i5,by rw[Uf];exact Nat.succ_le_succ T,(Res.need_bind n6).mono (λrs q=>?_) λ_ _ q=>q.ext ((g.trans c).trans w)⟩) λ_ _ q=>q.ext (g.trans c)⟩;rw[Ub];exact(q).ext ((g.trans c).trans w)
   |false =>
    exact⟨ds.length-(i+1),(),rfl,j,F4,s,(A.trans g).trans c,(G.step c).forget U Y,IsDs.same (g.ff.trans c.ff) _ _ C,Nat.le_succ_of_le T,(n5).mono (λrs q=>q.ext (g.trans c)) λ_ _ q=>q.ext (g.trans c)⟩
  .have he:i=ds.length:=()
   subst he;refine .inl ⟨w2 (Zf _),λD R=>?_⟩;rw[UT] at u;have q:yq K h l Q (.lst (s++[])):=u;rw[ZA] at q;exact q D h _ (.keep O.ext.fh R _) R (Qd O.ext.fh R) ⟨N,J8,C⟩
 .exact M.elim
def Ea:List jx->Yt->Option Jp
 | .inl k::ks,.int v::ds=>(Ea ks ds).map λr=>(k,v)::r
 | [],[]=>some []
 |_,_=>none
def Eb:D->Yu
 | .dct ks ds=>(Ea ks ds).bind λr=>if r ≠ []/\r.length<64 then some (.lst ((D9 dg r).map ye)) else none
 |_=>none
def Mu (fo:FE):FE:=λsd=>(fo sd).bind λd=>.ofO (Eb d)
end
section
variable {X:Cx}{E:XK}{m:Option Bool}{a b o i e f tg:Expr}{fa fb fo fi fv:FE}{fr:FA}{pos pos' apos cpos p:Pos}
def qD (neg:Bool):D->Yu
 | .non=>some (.bl (!neg))
 |_=>some (.bl neg)
def Mv:D->Bool
 | .non=>true
 |_=>false
def Ec {K:W.Frag}{H:Hp}{d:D}{v:V}(h:IsD K H d v):decide (v=.non)=Mv d:=by
 cases d with
 |non=>rw[jt.mp h];rfl
 |bl b=>rw[jj.mp h];rfl
 |int b=>rw[jc.mp h];rfl
 |str b=>rw[IsD.str_iff.mp h];rfl
 |ty b=>rw[qF.mp h];rfl
 |scr b=>obtain⟨a,rfl,_⟩:=qo.mp h;rfl
 |tup b=>obtain⟨a,_,rfl,_⟩:=jn.mp h;rfl
 |lst b=>obtain⟨a,_,rfl,_⟩:=jp.mp h;rfl
 |dct b c=>obtain⟨a,_,rfl,_⟩:=j8.mp h;rfl
 |ins b c d=>obtain⟨a,_,_,_,rfl,_⟩:=jG.mp h;rfl
 |exc b=>obtain⟨a,_,rfl,_⟩:=jW.mp h;rfl
 |exr b c=>obtain⟨a,_,_,rfl,_⟩:=jN.mp h;rfl
 |ucl b=>obtain⟨a,rfl,_⟩:=qP.mp h;rfl
 |adr b=>rw[j9.mp h];rfl
 |dcf b c=>obtain⟨a,_,_,rfl,_⟩:=qq.mp h;rfl
 |pin b c=>rw[(qp.mp h).1];rfl
def Ed {K:W.Frag}{Z: St}{H:Hp}{Q:VK}(h:tD K E (jK (qD false) fa) Z H Q):uV (tD K E fa) Z H Q:=by
 obtain⟨B,F,sd,r,n⟩:=h;refine⟨B,F,sd,r,(Res.need_bind n).mono (λx d v g c j l=>?_) λ_ _ q=>q⟩;show Q (V.bl (decide (v=V.non))) c;rw[Ec l];cases x<;>exact d _ g c j (jj.mpr rfl)
def Mw {K:W.Frag}{Z: St}{H:Hp}{Q:VK}(h:tD K E (jK (qD true) fa) Z H Q):CK (tD K E fa) Z H Q:=by
 obtain⟨B,F,sd,r,n⟩:=h;refine⟨B,F,sd,r,(Res.need_bind n).mono (λx d v g c j l=>?_) λ_ _ q=>q⟩;show Q (V.bl !decide (v=V.non)) c;rw[Ec l];cases x<;>exact d _ g c j (jj.mpr rfl)
def kS {j pos'}(c:QE X E a fa):QE X E (.Compare a [.Is] [.Constant .none j pos'] pos) (jK (qD false) fa):=PE.weak (CM (CL c)) λ_ _ _ h=>Ed h
def Mx {j pos'}(c:QE X E a fa):QT X E (.Compare a [.Is] [.Constant .none j pos'] pos) (Jw (jK (qD false) fa)):=PT.weak (YC (CL c)) λ_ _ _ h=>Ed (KC h)
def Bl {j pos'}(c:QE X E a fa):QT X E (.Compare a [.IsNot] [.Constant .none j pos'] pos) (Jw (jK (qD true) fa)):=PT.weak (YC (HG c)) λ_ _ _ h=>Mw (KC h)
def Ee (i:Nat)(fb:FE):FE:=λsd=>match sd[i]? with
 |some (some (.own _ d))=>(fb sd).bind λy=>.ofO (jv d y)
 |_=>.no
def Ef (i:Nat):FE:=λsd=>match sd[i]? with
 |some (some (.own _ (.lst ds)))=>.ok (.lst ds)
 |_=>.no
end
end L2.DL
namespace L2
section
variable {X:Cx}{tg iter elt c:Expr}{scope:Scope}{pos:Pos}{wi:TI}{g:TG}{te:TE}{tt:TT}
def Eg (a:X.N.Nodup)(d:X.N[iy]? = some y)(f:yM X.env.scope y)(h:X.fn y=true\/X.env.scope.names.lookup y=some .local):
 Xn X Y Z (λv A=>DD.nx (Z.set iy (some v)) A) (some (assign (.Name y py) X.env)) (λ_ s'=>SP X Y DD .next s'):=λC D m i r B E M sz F G k=>by
 obtain⟨N,x,z,j,H,I⟩:=k i.heap ⟨rfl,λ_ _=>rfl⟩;obtain⟨l,n,q,J,s,t⟩:=id B;have K:Inv X (Y++[(C,l)]) Z x { i with heap:=i.heap }:=z.pins_of λp hp=>by
  rcases Jc.mp hp with hp|hp
  .exact z.pin p ()
  simp_all
 exact wpAny_assign_Name (Xg K a d f j (λO u=>(⟨m,⟨l,n,q,(u.pin (C,l) ()).1,s,t⟩,λh' w=>⟨_,x,(u.pins_of λp hp=>u.pin p ()).turned (λb o L e=>(w.2 b L).trans e) H E (.inr sz) F G,I⟩⟩)) h)
def Mz (a:swapsWith (.ListComp elt [⟨tg,iter,[],0⟩] scope pos) (some (.Name y py)) spos.line X.env=pure true)(b:X.N.Nodup)(d:X.N[iy]? = some y)(f:yM X.env.scope y)(i:X.fn y=true\/X.env.scope.names.lookup y=some .local)(N)(cap)(n:X.calm=true)(j:Ko scope X.env N X.N cap=true)(o:PI X tg iter wi)(p:∀l C s H m,PG (JG X scope N l C s H m) tg g)(t:∀l C s H m,PE (JG X scope N l C s H m) elt te)
 (q:∀x,foldedSetIterable iter X.env x=pure x:=by intro _;rfl):PS X (.Assign [.Name y py] (.ListComp elt [⟨tg,iter,[],0⟩] scope pos) spos) (z3 (Xm cap wi g te) (KP iy)):=by
 intro Y s Z H u I h;rw[exec_Assign_Name_used _ _ _ _ a];refine Za (wpAny_standAt (Za (Za (Zc (D6 N cap n j o p () q I h (Eg b d f i)) (λ_ s' r=>Zb (Zb r)) λ_ _ e=>e))))
def M0 (d:swapsWith (.ListComp elt [⟨tg,iter,[c],0⟩] scope pos) (some (.Name y py)) spos.line X.env=pure true)(f:X.N.Nodup)(i:X.N[iy]? = some y)(j:yM X.env.scope y)(l:X.fn y=true\/X.env.scope.names.lookup y=some .local)(N)(cap)(n:X.calm=true)(m:Ko scope X.env N X.N cap=true)(o:PI X tg iter wi)(p:∀a C s H b,PG (JG X scope N a C s H b) tg g)(q:∀a C s H b,PT (JG X scope N a C s H b) c tt)(r:∀a C s H b,PE (JG X scope N a C s H b) elt te)
 (t:∀x,foldedSetIterable iter X.env x=pure x:=by intro _;rfl):PS X (.Assign [.Name y py] (.ListComp elt [⟨tg,iter,[c],0⟩] scope pos) spos) (z3 (YK cap wi g tt te) (KP iy)):=by
 intro Y s Z H v I h;rw[exec_Assign_Name_used _ _ _ _ d];refine Za (wpAny_standAt (Za (Za (Zc (LC N cap n m o p q r t I h (Eg f i j l)) (λ_ s' u=>Zb (Zb u)) λ_ _ e=>e))))
end
end L2
namespace L2.DL
section
variable {X:Cx}{E:XK}{m:Option Bool}{tg iter elt c:Expr}{scope:Scope}{pos spos py:Pos}{y:Str}{iy:Nat}{t:Tg}{fi:FA}{fc:FT}{f:FE}
def M2 {K:W.Frag}{te:TE}{i:Nat}{a:FE}(w:∀Z H Q,vp K E a Z H Q->te Z H Q){T:Ends}{Z: St}{H:Hp}(h:ka K E m (jl i a) T Z H):z3 te (KP i) T Z H:=w _ _ _ (by
 obtain⟨B,F,sd,r,n⟩:=h;exact⟨B,F,sd,r,(Res.need_bind n).mono (λd e=>yc.new λv g j b l=>(e _ g j b.ff ((r.step b).setVal l))) λ_ _ q=>q.ext r.ext⟩)
def M3 {K:W.Frag}{te:TE}{i:Nat}{a:FE}(w:∀Z H Q,vp K E a Z H Q->te Z H Q){T:Ends}{Z: St}{H:Hp}(h:ka K E m (xx i a) T Z H):z3 te (KP i) T Z H:=w _ _ _ (by
 obtain⟨B,F,sd,r,n⟩:=h;refine⟨B,F,sd,r,(Res.need_bind n).mono (λd e l g s b u v x=>(e _ g s b.ff ((r.step b).setOwn (Qd r.ext.hh u) v x λj p d' z C=>?_))) λ_ _ q=>q.ext r.ext⟩;obtain⟨G,I,_,_,A,_⟩:=r.own z;obtain⟨o,J⟩:=A.has
 simp_all)
def Eh (N)(cap)(a:X.N.Nodup)(b:X.N[iy]? = some y)(d:yM X.env.scope y)(n:X.calm=true)(e:Ko scope X.env N X.N cap=true)(o:QI X E tg iter fi)
 (p:∀g C s H i,QG (JG X scope N g C s H i) tg t) (r:∀g C s H i,QE (JG X scope N g C s H i) E elt f) (j:swapsWith (.ListComp elt [⟨tg,iter,[],0⟩] scope pos) (some (.Name y py)) spos.line X.env=pure true:=by rfl)
 (l:X.fn y=true\/X.env.scope.names.lookup y=some .local:=by trivial) (u:∀x,foldedSetIterable iter X.env x=pure x:=by intro _;rfl):
 QS X E m (.Assign [.Name y py] (.ListComp elt [⟨tg,iter,[],0⟩] scope pos) spos) (jl iy (Q3 cap fi t f)):=PS.weak (Mz j a b d l N cap n e o p r u) λT Z H h=>M2 (λ_ _ _ q=>AV q) h
end
def Ei:Option (Option SV)->Res D
 |some (~~~d)=>.ok d
 |_=>.no
@[simp]def SS (d):Ei (some (~~~d))=.ok d:=rfl
@[simp]def dF (i)(sd):ja i sd=Ei sd[i]?:= rfl
@[simp]def lm (d)(sd):dC d sd=.ok d:=rfl
@[simp]def pe (g)(fa fb)(sd):jf g fa fb sd=(fa sd).bind λx=>(fb sd).bind λy=>.ofO (g x y):=rfl
@[simp]def pc (g)(fa)(sd):jK g fa sd=(fa sd).bind λx=>.ofO (g x):=rfl
def pk:D->Res Bool
 | .bl b=>.ok b
 |_=>.no
@[simp]def c8 (b):pk (.bl b)=.ok b:=rfl
@[simp]def sB (fa)(sd):Jw fa sd=(fa sd).bind pk:=by
 rfl
@[simp]def rQ (f)(sd):Q1 f sd=(f sd).bind λb=>.ok (!b):=rfl
@[simp]def sD (f g)(sd):Q2 f g sd=(f sd).bind λb=>if b then g sd else .ok false:=rfl
@[simp]def cf (f g)(sd):xH f g sd=(f sd).bind λb=>if b then .ok true else g sd:=rfl
@[simp]def sC (fa fb)(sd):W8 fa fb sd=(Jw fa sd).bind λb=>if b then fb sd else .ok (.bl false):=rfl
@[simp]def cb (a c:FE)(sd:SD):yI a c sd=(Jw a sd).bind λb=>if b then .ok (.bl true) else c sd:=rfl
@[simp]def rP (fa)(sd):YM fa sd=(Jw fa sd).bind λb=>.ok (.bl !b):=rfl
@[simp]def pf (c:FT)(a b:FE)(sd:SD):sI c a b sd=(c sd).bind λk=>if k then a sd else b sd:=rfl
@[simp]def cg (sd):jd sd=.ok []:=rfl
@[simp]def sy (fa)(fr)(sd):Jr fa fr sd=(fa sd).bind λx=>(fr sd).bind λxs=>.ok (x::xs):=rfl
@[simp]def ci (fr)(sd):qg fr sd=(fr sd).bind λxs=>if xs.length<=1000 then .ok (.lst xs) else .no:=rfl
@[simp]def dM (fr)(sd):qf fr sd=(fr sd).bind λxs=>if xs.length<=1000 then .ok (.tup xs) else .no:=rfl
@[simp]def sA (Fn)(fr)(sd):J1 Fn fr sd=(fr sd).bind Fn:=rfl
@[simp]def cu (g)(fr)(sd):jr g fr sd=(fr sd).bind λxs=>.ofO (g xs):=rfl
@[simp]def sJ {α: Type}(a:α):(Res.ok a).bare=.ok a:=rfl
@[simp]def sK {α: Type}:(Res.no:Res α).bare=.no:=rfl
@[simp]def dO (is)(f)(sd):xX is f sd=(f (qa is sd)).bare.bind λd=>if JZ d then .ok d else .no:=rfl
@[simp]def rC (is:Yg)(f:FT)(sd:SD):AR is f sd=(f (qa is sd)).bare:=rfl
@[simp]def kn (i):JZ (.int i)=true:=rfl
@[simp]def nw (i):JZ (.bl i)=true:=rfl
@[simp]def kj (i:Str):JZ (.str i)=true:=rfl
@[simp]def kl:JZ .non=true:=rfl
@[simp]def hV (sd):qa [] sd=sd:=rfl
def frz1 (i:Nat)(sd:SD):Option (Option SV)->SD
 |some (some (.own _ d))=>sd.set i (~~~d)
 |_=>sd
@[simp]def hX (i)(sd)(p)(d):frz1 i sd (some (some (.own p d)))=sd.set i (~~~d):=rfl
@[simp]def hW (i:Nat)(sd:SD)(d:D):frz1 i sd (some (~~~d))=sd:=rfl
@[simp]def SU (i:Nat)(sd:SD):frz1 i sd (some none)=sd:=rfl
@[simp]def SW (i)(is)(sd):qa (i::is) sd=qa is (frz1 i sd sd[i]?):=by
 rfl
def z4 (g:FS):Out->Res Out
 | .next sd=>g sd
 |o=>.ok o
@[simp]def SX (g)(sd):z4 g (.next sd)=g sd:=rfl
@[simp]def ke (g)(d):z4 g (.ret d)=.ok (.ret d):=rfl
@[simp]def kf (g)(d):z4 g (.brk d)=.ok (.brk d):=rfl
@[simp]def SY (g:FS)(d:SD):z4 g (.cont d)=.ok (.cont d):=rfl
@[simp]def M4 (g1 g2)(sd):jg g1 g2 sd=(g1 sd).bind (z4 g2):=by
 rfl
@[simp]def rR (sd):J6 sd=.ok (.next sd):=rfl
@[simp]def cr (sd):tP sd=.ok (.brk sd):=rfl
@[simp]def sx (sd:SD):k7 sd=.ok (.cont sd):=rfl
@[simp]def dV (i)(f)(sd):jl i f sd=(f sd).bind λd=>.ok (.next (sd.set i (~~~d))):=rfl
@[simp]def dZ (i)(f)(sd):xx i f sd=(f sd).bind λd=>.ok (.next (sd.set i (some (.own false d)))):=rfl
@[simp]def dY (f)(sd):j3 f sd=(f sd).bind λd=>.ok (.ret d):=rfl
@[simp]def rM (sd:SD):ky sd=.ok (.ret .non):=rfl
def yV:Option (Option SV)->Res D
 |some (some (.own _ d))=>.ok d
 |_=>.no
@[simp]def gd (p)(d):yV (some (some (.own p d)))=.ok d:=rfl
@[simp]def SZ (i)(sd):Wh i sd=(yV sd[i]?).bind λd=>.ok (.ret d):=by
 unfold Wh;cases sd[i]? with
 |none=>rfl
 |some o =>
  cases o with
  |none=>rfl
  |some v=>cases v<;>rfl
@[simp]def su (f:FE)(sd:SD):Kx f sd=(f sd).bind λ_=>.ok (.next sd):=rfl
@[simp]def ck (c)(g1 g2)(sd):jH c g1 g2 sd=(c sd).bind λb=>if b then g1 sd else g2 sd:=rfl
def wh:Option (Option SV)->Res Yt
 |some (some (.own false (.lst ds)))=>.ok ds
 |_=>.no
@[simp]def ge (ds):wh (some (some (.own false (.lst ds))))=.ok ds:=rfl
@[simp]def Ta (i)(f)(sd):Ky i f sd=(wh sd[i]?).bind λds=>(f sd).bind λd=>if ds.length<sizeLine then .ok (.next (sd.set i (some (.own false (.lst (ds++[d])))))) else .no:=by
 unfold Ky;cases sd[i]? with
 |none=>rfl
 |some o =>
  cases o with
  |none=>rfl
  |some v =>
   cases v with
   |val d=>rfl
   |own p d=>cases p<;>cases d<;>rfl
def WJ:D->Res Yt
 | .lst es=>.ok es
 |_=>.no
@[simp]def Tb (es):WJ (.lst es)=.ok es:=rfl
@[simp]def Tc (i)(f)(sd):DF i f sd=(wh sd[i]?).bind λds=>(f sd).bind λd=>(WJ d).bind λa=>if ds.length+a.length<=sizeLine then .ok (.next (sd.set i (some (.own false (.lst (ds++a)))))) else .no:=by
 unfold DF;cases sd[i]? with
 |none=>rfl
 |some o =>
  cases o with
  |none=>rfl
  |some v =>
   cases v with
   |val d=>rfl
   |own p d =>
    cases p with
    |true=>cases d<;>rfl
    |false =>
     cases d with
     |lst ds =>
      cases f sd with
      |ok x=>cases x<;>rfl
      |ex c fs=>rfl
      |no=>rfl
     |_=>rfl
def vu:Option (Option SV)->Res (List jx×Yt)
 |some (some (.own false (.dct ks ds)))=>.ok (ks,ds)
 |_=>.no
@[simp]def gf (ks)(ds):vu (some (some (.own false (.dct ks ds))))=.ok (ks,ds):=rfl
@[simp]def sv (i)(fk fv)(sd):Wl i fk fv sd=(fv sd).bind λv=>(vu sd[i]?).bind λo=>(fk sd).bind λk=>(Res.ofO (JX k)).bind λq=>if o.1.length<sizeLine then .ok (.next (sd.set i (some (.own false (.dct (V6 o.1 q) (Wj o.1 o.2 q v)))))) else .no:=by
 unfold Wl;cases fv sd with
 |ok v =>
  cases sd[i]? with
  |none=>rfl
  |some o =>
   cases o with
   |none=>rfl
   |some w =>
    cases w with
    |val d=>rfl
    |own p d =>
     cases p with
     |true=>cases d<;>rfl
     |false =>
      cases d with
      |dct ks ds =>
       cases fk sd with
       |ok k=>show(match JX k with|some q=>_|none=>_)=(Res.ofO (JX k)).bind _;cases JX k<;>rfl
       |ex c fs=>rfl
       |no=>rfl
      |_=>rfl
 |ex c fs=>rfl
 |no=>rfl
def qz:Out->Res D
 | .ret d=>.ok d
 | .next _=>.ok .non
 |_=>.no
@[simp]def gh (d):qz (.ret d)=.ok d:=rfl
@[simp]def Td (sd:SD):qz (.next sd)=.ok .non:=rfl
def Ej (n ar)(g)(ds)(h:ds.length=ar):jB n ar g ds=(g (Qk n ds)).bind qz:=by
 unfold jB;rw[Zd h];rfl
def xD:Out->Res D
 | .ret d=>.ok d
 |_=>.no
@[simp]def gi (d):xD (.ret d)=.ok d:=rfl
def Ek (n ar)(g)(ds)(h:ds.length=ar):qR n ar g ds=(g (Qk n ds)).bind xD:=by
 unfold qR;rw[Zd h];rfl
@[simp]def db (n)(g)(a):jB n 1 g [a]=(g (~~~a::List.replicate (n-1) none)).bind qz:=Ej n 1 g [a] rfl
@[simp]def da (n)(g)(a b):jB n 2 g [a,b]=(g (~~~a::~~~b::List.replicate (n-2) none)).bind qz:=rfl
@[simp]def tZ (n)(g)(a b c):jB n 3 g [a,b,c]=(g (~~~a::~~~b::~~~c::List.replicate (n-3) none)).bind qz:=rfl
@[simp]def tY (n:Nat)(g:FS)(a b c d:D):jB n 4 g [a,b,c,d]=(g (~~~a::~~~b::~~~c::~~~d::List.replicate (n-4) none)).bind qz:=Ej n 4 g [a,b,c,d] rfl
@[simp]def tW (n)(g)(a):qR n 1 g [a]=(g (~~~a::List.replicate (n-1) none)).bind xD:=Ek n 1 g [a] rfl
@[simp]def tV (n)(g)(a b):qR n 2 g [a,b]=(g (~~~a::~~~b::List.replicate (n-2) none)).bind xD:=rfl
@[simp]def tU (n)(g)(a b c):qR n 3 g [a,b,c]=(g (~~~a::~~~b::~~~c::List.replicate (n-3) none)).bind xD:=rfl
@[simp]def tT (n:Nat)(g:FS)(a b c d:D):qR n 4 g [a,b,c,d]=(g (~~~a::~~~b::~~~c::~~~d::List.replicate (n-4) none)).bind xD:=Ek n 4 g [a,b,c,d] rfl
@[simp]def hO (i j):jk (.int i) (.int j)=some (.int (i+j)):=rfl
@[simp]def f5 (i j):yY (.int i) (.int j)=some (.int (i-j)):=rfl
@[simp]def fB (i):qS (.int i)=some (.int (-i)):=rfl
@[simp]def nM (i j):v4 (.int i) (.int j)=some (.bl (decide (i<j))):=rfl
@[simp]def nP (i j:Int):xP (.int i) (.int j)=some (.bl (decide (i<=j))):=rfl
@[simp]def rc (i j):zT (.int i) (.int j)=some (.bl (decide (j<i))):=rfl
@[simp]def rd (i j):re (.int i) (.int j)=some (.bl (decide (j<=i))):=rfl
@[simp]def hB (i j):jZ (.int i) (.int j)=some (.bl (decide (i=j))):=LR i j
@[simp]def fD (i j):yz (.int i) (.int j)=some (.bl (!decide (i=j))):=LS i j
@[simp]def dB (a b:Bool):jZ (.bl a) (.bl b)=some (.bl (a == b)):=rfl
@[simp]def d9 (a b:Bool):yz (.bl a) (.bl b)=some (.bl (a != b)):=rfl
def Bm (h:KS i j=true):qu (.int i) (.int j)=some (.int (i*j)):=by
 show(if KS i j then _ else _)=_
 simp_all
def El (a: -18446744073709551616<j)(b:j<18446744073709551616):KS i j=true:=by
 unfold KS;rw[Uq,Uq,Ur,Ur];lia
def M5 (a: -18446744073709551616<i)(b:i<18446744073709551616):KS i j=true:=by
 unfold KS;rw[Uq,Uq,Ur,Ur];lia
@[simp]def M6 (h:0<j):jD (.int i) (.int j)=some (.int (i % j)):=by
 show(if Up 0 j.toNat then _ else _)=_;rw[Zd (by rw[Ur];lia)]
@[simp]def M7 (h:0<j)(a:j<1073741824):JW (.int i) (.int j)=some (.int (i / j)):=by
 show(if Up 0 j.toNat&&Up j.toNat 1073741824 then _ else _)=_;rw[Zd (by rw[Ua,Ur,Ur];lia)]
@[simp]def fK (ds):j6 [.lst ds]=some (.int ds.length):=rfl
@[simp]def fH (ds:Yt):j6 [.tup ds]=some (.int ds.length):=rfl
@[simp]def fJ (ns):j6 [.scr ns]=some (.int ns.length):=rfl
@[simp]def WK (i j):V7 [.int i,.int j]=some (.int (if j > i then j else i)):=rfl
@[simp]def M8 (i j):WH [.int i,.int j]=some (.int (if j<i then j else i)):=rfl
@[simp]def Te (ds):K0 [.lst ds]=some (.lst ds):=rfl
@[simp]def Tf (ds:Yt):K0 [.tup ds]=some (.lst ds):=rfl
@[simp]def Th (ns:Yf):K0 [.scr ns]=some (.lst (ns.map .int)):=rfl
@[simp]def Ti (ds):Xu [.lst ds]=some (.tup ds):=rfl
@[simp]def Tj (ds:Yt):Xu [.tup ds]=some (.tup ds):=rfl
@[simp]def nV (ds)(k):jv (.lst ds) (.int k)=jR ds k:=rfl
@[simp]def nQ (ds:Yt)(k:Int):jv (.tup ds) (.int k)=jR ds k:=rfl
@[simp]def nS (ns)(k):jv (.scr ns) (.int k)=(jR ns k).map .int:=rfl
@[simp]def nW (ks)(ds)(k):jv (.dct ks ds) (.int k)=jF ks ds (.inl k):=rfl
@[simp]def ra (neg)(ks)(ds)(k):qX neg (.int k) (.dct ks ds)=some (.bl (if neg then !(jF ks ds (.inl k)).isSome else(jF ks ds (.inl k)).isSome)):=rfl
@[simp]def Tk (k):JX (.int k)=some (.inl k):=rfl
@[simp]def Tl (h:r.length<=100)(o:xL r):hD [qW r]=some (cz r):=by
 show(AX (qW r)).bind _=_;rw[LK];show(if r.length<=100 then some (cz (YU r)) else none)=_;rw[Zd h,Mp o]
def YX:D->Res (List jx×Yt)
 | .dct ks ds=>.ok (ks,ds)
 |_=>.no
@[simp]def Tn (ks)(ds):YX (.dct ks ds)=.ok (ks,ds):=rfl
@[simp]def sj (fo fk fx)(sd):DV fo fk fx sd=(fo sd).bind λd=>(YX d).bind λo=>(fk sd).bind λk=>(fx sd).bind λx=>.ofO ((JX k).map λq=>(jF o.1 o.2 q).getD x):=by
 unfold DV;cases fo sd with
 |ok d=>cases d<;>rfl
 |ex c fs=>rfl
 |no=>rfl
@[simp]def Tp (fo)(sd):Mu fo sd=(fo sd).bind λd=>.ofO (Eb d):=rfl
@[simp]def pi (f)(sd):iS f sd=(f sd).bind λd=>.ofO (V8 d):=rfl
@[simp]def Tq (ds):V8 (.lst ds)=some ds:=rfl
@[simp]def Tr (ds):V8 (.tup ds)=some ds:=rfl
@[simp]def Ts (ns:Yf):V8 (.scr ns)=some (ns.map .int):=rfl
def WL:Yt->Res Yt
 | [.int j]=>if QL j then .ok (Qy 0 j.toNat) else .no
 |_=>.no
@[simp]def cn (fr)(sd):v3 fr sd=(fr sd).bind WL:=by
 rfl
def Bn (a: -1000000000<=j)(b:j<=1000000000):WL [.int j]=.ok (Qy 0 j.toNat):=Zd (DY a b)
def Bo:Yt->Res Yt
 | [.int i,.int j]=>if QL i&&QL j then .ok (Qy i (j-i).toNat) else .no
 |_=>.no
@[simp]def cm (a:FA)(sd:SD):cY a sd=(a sd).bind Bo:=by
 unfold cY;cases a sd with
 |ok ds=>show(match ds with|[.int i,.int j]=>_|_=>_)=Bo ds;unfold Bo;rfl
 |ex c fs=>rfl
 |no=>rfl
def M9 {lo:Int}{n i:Nat}{x:D}(h:(Qy lo n)[i]? = some x):x=.int (lo+i)/\i<n:=by
 grind[Qy,List.getElem?_map,List.length_range]
def Em (lo)(n):(Qy lo n).length=n:=by unfold Qy;simp
def qb (tg:Tg)(b:FS)(ds:Yt)(sd:SD):Res Out:=y0 (λx sd=>(JD tg x sd).bind b) ds sd
@[simp]def MA (it)(tg)(b)(sd):qr it tg b sd=(it sd).bind λds=>qb tg b ds sd:=rfl
@[simp]def hY (tg:Tg)(b:FS)(sd:SD):qb tg b [] sd=.ok (.next sd):=rfl
@[simp]def Tt (i)(d)(sd):JD (.one i) d sd=.ok (sd.set i (~~~d)):=rfl
@[simp]def Tu (i j)(a b)(sd):JD (.tup [i,j]) (.tup [a,b]) sd=.ok ((sd.set i (~~~a)).set j (~~~b)):=rfl
@[simp]def Tv (i j)(p)(sd):JD (.tup [i,j]) (ye p) sd=.ok ((sd.set i (~~~(.int p.1))).set j (~~~(.int p.2))):=rfl
def Xx (P:Nat->SD->Prop)(l:P 0 sd)(c:∀i (x:D) sd,ds[i]? = some x->P i sd->∃sd',(JD tg x sd).bind b=.ok (.next sd')/\P (i+1) sd'):∃sd',qb tg b ds sd=.ok (.next sd')/\P ds.length sd':=by
 have d:∀k i sd,ds.length-i=k->i<=ds.length->P i sd->∃sd',qb tg b (ds.drop i) sd=.ok (.next sd')/\P ds.length sd':=by
  intro k
  induction k with
  |zero =>
   intro i sd e f p;have:i=ds.length:=()
   simp_all
  |succ k g =>
   intro i sd e f p;have a:i<ds.length:=()
   rw[UF a];obtain⟨sd',m,h⟩:=c i ds[i] sd () p;have ⟨j,n,o⟩:=g (i+1) sd' () a h
   simp_all [qb,y0]
 grind
def En {α β γ: Type}{f:α -> Res β}{k:γ -> α}{g:γ -> β}{xs:List γ}(h:∀x∈xs,f (k x)=.ok (g x)):xV f (xs.map k)=.ok (xs.map g):=by
 induction xs with
 |nil=>rfl
 |cons x xs a =>
  simp_all [xV]
def qm (tg:Tg)(f:FE)(c:SD)(ds:Yt):Res Yt:=xV (λx=>(JD tg x c).bind f) ds
@[simp]def s0 (cap)(it)(tg)(f)(sd):Q3 cap it tg f sd=(it sd).bind λds=>if Kp (jL cap sd) tg=true/\ds.length<sizeLine then(qm tg f (jL cap sd) ds).bind λa=>.ok (.lst a) else .no:=rfl
def wx:Option (Option SV)->Option SV
 |some (~~~d)=>~~~d
 |_=>none
@[simp]def m7 (d):wx (some (~~~d))= ~~~d:=rfl
@[simp]def Tw:wx (some none)=none:=rfl
@[simp]def m8 (p:Bool)(d:D):wx (some (some (.own p d)))=none:=rfl
@[simp]def m9 (sd):jL [] sd=[]:=rfl
@[simp]def c7 (cap)(sd):jL (none::cap) sd=none::jL cap sd:=rfl
@[simp]def c6 (j)(cap)(sd):jL (some j::cap) sd=wx sd[j]? :: jL cap sd:=rfl
@[simp]def Tx (sd)(i):Kp sd (.one i)=KE sd i:=rfl
@[simp]def Tz (sd)(is):Kp sd (.tup is)=is.all (KE sd):=rfl
@[simp]def gU (sd:SD):KE (none::sd) 0=true:=rfl
@[simp]def gQ (o)(sd:SD)(i):KE (o::sd) (i+1)=KE sd i:=rfl
@[simp]def gS (o:Option SV)(sd:SD):KE (o::none::sd) 1=true:=rfl
@[simp]def gR (o a:Option SV)(sd:SD):KE (o::a::none::sd) 2=true:=rfl
def KW {α: Type}{k:α -> D}{g:α -> D}{xs:List α}(h:∀x∈xs,(JD tg (k x) c).bind f=.ok (g x)):qm tg f c (xs.map k)=.ok (xs.map g):=En h
def MB {tg:Tg}{f:FE}{c:SD}{lo:Int}{n:Nat}{g:Nat->D}(h:∀i,i<n->(JD tg (.int (lo+i)) c).bind f=.ok (g i)):qm tg f c (Qy lo n)=.ok ((List.range n).map g):=En ()
@[simp]def T1 (cap)(it)(tg)(c)(f)(sd):Xw cap it tg c f sd=(it sd).bind λds=>if Kp (jL cap sd) tg=true/\ds.length<sizeLine then(V9 tg c f (jL cap sd) ds).bind λa=>.ok (.lst a) else .no:=rfl
def MC {α: Type}{k:α -> D}{s:α -> SD}{p:α -> Bool}{g:α -> D}{xs:List α}(a:∀x∈xs,JD tg (k x) sd=.ok (s x))(b:∀x∈xs,c (s x)=.ok (p x))(d:∀x∈xs,p x=true->f (s x)=.ok (g x)):
 V9 tg c f sd (xs.map k)=.ok ((xs.filter p).map g):=by
 induction xs with
 |nil=>rfl
 |cons x xs e =>
  grind[V9,List.map_cons,List.filter_cons,Res.bind_ok]
def Qr (h:n<=1000):n<sizeLine:=D3 h
@[simp]def T3 (i):j4 [.int i,.ty "bool"]=some (.bl false):=rfl
@[simp]def T4 (i):j4 [.int i,.ty "int"]=some (.bl true):=rfl
@[simp]def T5 (i:Int):j4 [.int i,.ty "str"]=some (.bl false):=rfl
@[simp]def T6 (i:Int):j4 [.int i,.ty "list"]=some (.bl false):=rfl
@[simp]def T7 (i:Int):j4 [.int i,.ty "tuple"]=some (.bl false):=rfl
@[simp]def T8 (i:Int):j4 [.int i,.ty "dict"]=some (.bl false):=rfl
@[simp]def T9 (b:Bool):j4 [.bl b,.ty "bool"]=some (.bl true):=rfl
@[simp]def TC (b:Bool):j4 [.bl b,.ty "int"]=some (.bl true):=rfl
@[simp]def TF (b:Bool):j4 [.bl b,.ty "str"]=some (.bl false):=rfl
@[simp]def TH (b:Bool):j4 [.bl b,.ty "list"]=some (.bl false):=rfl
@[simp]def TJ (b:Bool):j4 [.bl b,.ty "tuple"]=some (.bl false):=rfl
@[simp]def TK (b:Bool):j4 [.bl b,.ty "dict"]=some (.bl false):=rfl
@[simp]def TL (x:Str):j4 [.str x,.ty "bool"]=some (.bl false):=rfl
@[simp]def TM (x:Str):j4 [.str x,.ty "int"]=some (.bl false):=rfl
@[simp]def TN (x:Str):j4 [.str x,.ty "str"]=some (.bl true):=rfl
@[simp]def TQ (x:Str):j4 [.str x,.ty "list"]=some (.bl false):=rfl
@[simp]def TR (x:Str):j4 [.str x,.ty "tuple"]=some (.bl false):=rfl
@[simp]def TU (x:Str):j4 [.str x,.ty "dict"]=some (.bl false):=rfl
@[simp]def TV (ds:Yt):j4 [.lst ds,.ty "bool"]=some (.bl false):=rfl
@[simp]def TW (ds:Yt):j4 [.lst ds,.ty "int"]=some (.bl false):=rfl
@[simp]def TX (ds:Yt):j4 [.lst ds,.ty "str"]=some (.bl false):=rfl
@[simp]def TY (ds:Yt):j4 [.lst ds,.ty "list"]=some (.bl true):=rfl
@[simp]def TZ (ds:Yt):j4 [.lst ds,.ty "tuple"]=some (.bl false):=rfl
@[simp]def ay (ds:Yt):j4 [.lst ds,.ty "dict"]=some (.bl false):=rfl
@[simp]def ap (ds:Yt):j4 [.tup ds,.ty "bool"]=some (.bl false):=rfl
@[simp]def lU (ds:Yt):j4 [.tup ds,.ty "int"]=some (.bl false):=rfl
@[simp]def au (ds:Yt):j4 [.tup ds,.ty "str"]=some (.bl false):=rfl
@[simp]def az (ds:Yt):j4 [.tup ds,.ty "list"]=some (.bl false):=rfl
@[simp]def aD (ds:Yt):j4 [.tup ds,.ty "tuple"]=some (.bl true):=rfl
@[simp]def ao (ds:Yt):j4 [.tup ds,.ty "dict"]=some (.bl false):=rfl
@[simp]def aC (ks:List jx)(ds:Yt):j4 [.dct ks ds,.ty "bool"]=some (.bl false):=rfl
@[simp]def lX (ks:List jx)(ds:Yt):j4 [.dct ks ds,.ty "int"]=some (.bl false):=rfl
@[simp]def am (ks:List jx)(ds:Yt):j4 [.dct ks ds,.ty "str"]=some (.bl false):=rfl
@[simp]def aw (ks:List jx)(ds:Yt):j4 [.dct ks ds,.ty "list"]=some (.bl false):=rfl
@[simp]def aF (ks:List jx)(ds:Yt):j4 [.dct ks ds,.ty "tuple"]=some (.bl false):=rfl
@[simp]def a9 (ks:List jx)(ds:Yt):j4 [.dct ks ds,.ty "dict"]=some (.bl true):=rfl
@[simp]def aB  : j4 [.non,.ty "bool"]=some (.bl false):=rfl
@[simp]def lW  : j4 [.non,.ty "int"]=some (.bl false):=rfl
@[simp]def lY  : j4 [.non,.ty "str"]=some (.bl false):=rfl
@[simp]def av  : j4 [.non,.ty "list"]=some (.bl false):=rfl
@[simp]def aE  : j4 [.non,.ty "tuple"]=some (.bl false):=rfl
@[simp]def aq  : j4 [.non,.ty "dict"]=some (.bl false):=rfl
def Qe {α: Type}(xs:List α)(lo a st:Option Int):List α:= (sliceRange (sliceBounds lo a st xs.length).1 (sliceBounds lo a st xs.length).2.1 (sliceBounds lo a st xs.length).2.2).filterMap (xs[·]?)
def Eo (its)(lo hi st):slicePick its.toArray lo hi st=(Qe its lo hi st).toArray:=by
 simp_all [slicePick,Qe]
def MD {xs:Yr}{a:Yd}(r:js xs a)(lo hi st):js (Qe xs lo hi st) (Qe a lo hi st):=by
 unfold Qe;rw[r.length];generalize sliceRange _ _ _=b
 induction b with
 |nil=>exact .nil
 |cons i b c =>
  rw[Uv,Uv];cases hx:xs[i]? with
  |none=>rwa [r.none_of hx]
  |some x =>
   obtain⟨u,d,e⟩:=r.get hx;rw[d];exact .cons e c
def ME {K:W.Frag}{H:Hp}{ds:Yt}{xs:Yr}(r:IsDs K H ds xs)(lo hi st):IsDs K H (Qe ds lo hi st) (Qe xs lo hi st):=by
 unfold Qe;rw[r.length];generalize sliceRange _ _ _=a
 induction a with
 |nil=>rfl
 |cons i a b =>
  rw[Uv,Uv];cases hx:ds[i]? with
  |none =>
   have c:xs[i]? = none:=List.getElem?_eq_none_iff.mpr (by rw[r.length];simp_all)
   rwa [c]
  |some x =>
   obtain⟨u,d,e⟩:=r.get hx;rw[d];exact .mk e b
def Ep {α β: Type}(f:α -> β)(xs)(lo hi st):Qe (xs.map f) lo hi st=(Qe xs lo hi st).map f:=by
 grind[Qe,Zql,List.filterMap_cons,List.getElem?_map]
def MF {α: Type}(xs:List α)(lo hi st):(Qe xs lo hi st).length<=xs.length:=by
 have h:=slicePick_size_le (xs.map λ_=>Value.none).toArray lo hi st
 simp_all [Eo,Ep]
section
variable {X:Cx}{E:XK}{m:Option Bool}{a b o i e f tg:Expr}{fa fb fo fi fv fe:FE}{fr:FA}{pos pos' apos cpos p p2:Pos}{lo hi st:Option Expr}
abbrev FO:=SD->Res (Option Int)
def pH (K:W.Frag)(E:XK)(f:FO):TO:=λZ H Q=>∃B F sd,RS K B F H sd Z /\ (f sd).need (λo=>∀d c,Ext F H d c->Q o c) (XW K E F H)
def Ki:FO:=λ_=>.ok none
def K4 (f:FE):FO:=λsd=>(f sd).bind λd=>match d with
 | .int i=>.ok (some i)
 |_=>.no
abbrev QO (X:Cx)(E:XK)(e:Option Expr)(f:FO):Prop:=PO X e (pH X.K E f)
def PO.weak {e:Option Expr}{t t':TO}(h:PO X e t)(w:∀Z H Q,t' Z H Q->t Z H Q):PO X e t':=λY s Z H Q I q=>h Y s Z H Q I (w _ _ _ q)
def VA:QO X E none Ki:=PO.weak II λZ H Q ⟨B,F,sd,r,n⟩=>n F H (.refl r.ext.fh)
def WM (h:QE X E e fe):QO X E (some e) (K4 fe):=PO.weak (IJ h) λZ H Q g=>by
 obtain⟨B,F,sd,r,n⟩:=g;refine⟨B,F,sd,r,(Res.need_bind n).mono (λd c v j l s t=>?_) λ_ _ q=>q⟩;cases d with
 |int i=>exact⟨i,jc.mp t,c j l s⟩
 |_=>exact c.elim
def de (K:W.Frag):V->Option Int->Option Int->Option Int->Hp->VK->Prop:=λx lo hi st H Q=>∃a xs,x=.ref a/\qC K H a xs/\st≠some 0/\∀p,H p=none->Q (.ref p) (upd H p (.lst (Qe xs lo hi st)))
def tw (r:V->Option Int->Option Int->Option Int->Hp->VK->Prop)(te:TE)(d g ts:TO):TE:=λZ H Q=>te Z H λx h=>d Z h λl j=>g Z j λu n=>ts Z n λc q=>r x l u c q Q
def MG {te:TE}{n t ts:TO}(B:PE X e te)(C:PO X lo n)(F:PO X hi t)(G:PO X st ts):PE X (.Subscript e (.Slice lo hi st p2) pos) (tw (de X.K) te n t ts):=by
 intro Y s Z H Q I h;refine Subscript_ (j5 (B Y s Z H _ I h) λv J ⟨x,K,L,M,N⟩=>(wpAny_Slice (j5 (C Y J Z K _ L N) λw O ⟨l,P,R,S,T⟩=>j5 (F Y O Z P _ R T) λy U ⟨u,H3,I3,pu,q3⟩=>j5 (G Y U Z H3 _ I3 q3) λz d ⟨c,H4,I4,ps,q4⟩=>?_)));obtain⟨a,xs,rfl,hx,h0,q⟩:=q4;obtain rfl:=M;have g:Inv X Y Z H4 { d with heap:=d.heap.push { cls:=.type "slice",data:=.fields #[w,y,z] } }:=I4.kept λb ob q=>Zq _ q;obtain⟨its,r,j,hz⟩:=g.list hx;have A:=r.length
 suffices fin:Yv X (getItem (.ref a) (.ref d.heap.objs.size)) (EP X Y Z Q) X.xe { d with heap:=d.heap.push { cls:=.type "slice",data:=.fields #[w,y,z] } } by
  cases st with
  |none=>exact tail_any j.isList.typeIs slot_list_getitem.lookup fin (by rfl)
  |some c=>exact tail_any j.isList.typeIs slot_list_getitem.lookup fin (by rfl)
 refine wpAny_getItem_list_slice j.isList (Heap.IsSliceOf.new ..) S pu ps h0 ?_ ();rw[Eo];exact⟨.ref _,_,g.laid (o:=.lst (Qe xs l u c)) (λb ob q=>Zq _ q) (Zf _) ⟨Zh (MF xs l u c) hz,_,0,MD r l u c,Zr _ rfl⟩,rfl,q _ (g.hok.fresh (Zf _))⟩
def wX:D->Option Int->Option Int->Option Int->Yu
 | .lst ds,lo,hi,st=>if st=some 0 then none else some (.lst (Qe ds lo hi st))
 | .scr ns,lo,hi,st=>if st=some 0 then none else some (.lst ((Qe ns lo hi st).map .int))
 |_,_,_,_=>none
def sH (fe:FE)(g j fs:FO):FE:=λsd=>(fe sd).bind λd=>(g sd).bind λl=>(j sd).bind λh=>(fs sd).bind λc=>.ofO (wX d l h c)
def Er {G I fs:FO}(L:QE X E e fe)(M:QO X E lo G)(N:QO X E hi I)(O:QO X E st fs):QN X E (.Subscript e (.Slice lo hi st p2) pos) (sH fe G I fs):=PE.weak (MG L M N O) λZ H Q P=>by
 obtain⟨B,F,sd,r,n⟩:=P;refine⟨B,F,sd,r,(Res.need_bind n).mono (λd R v S H1 s J=>⟨B,S,sd,r.step s,(Res.need_bind R).mono (λl T U H2 u=>(⟨B,U,sd,(r.step s).step u,(Res.need_bind T).mono (λh Y F3 H3 y=>⟨B,F3,sd,((r.step s).step u).step y,(Res.need_bind Y).mono (λc n4 K H4 w=>?_) λ_ _ q=>q.ext ((s.trans u).trans y)⟩) λ_ _ q=>q.ext (s.trans u)⟩)) λ_ _ q=>q.ext s⟩) λ_ _ q=>q⟩;obtain⟨z,j,q⟩:=ji n4;have g:=((u.trans y).trans w);have x:=s.trans g;cases d with
 |lst ds =>
  have j:(if c=some 0 then none else some (D.lst (Qe ds l h c)))=some z:=j
  split at j
  .exact Jv j
  .rename_i A;obtain rfl:=Zqi j;obtain⟨a,xs,rfl,C,h2⟩:=J;exact⟨a,xs,rfl,((C.same g.ff).same g.fh).sq,A,λp t=>q p K _ (x.trans (.keep w.fh t _)) (Qd x.hh t) (Qd w.fh t) ⟨_,J8,ME (IsDs.same g.ff _ _ h2) l h c⟩⟩
 |scr ns =>
  have j:(if c=some 0 then none else some (D.lst ((Qe ns l h c).map .int)))=some z:=j
  split at j
  .exact Jv j
  .rename_i A;obtain rfl:=Zqi j;obtain⟨a,rfl,C⟩:=J;refine⟨a,_,rfl,jm.seq g.fh (jm.seq g.ff C),A,λp t=>q p K _ (x.trans (.keep w.fh t _)) (Qd x.hh t) (Qd w.fh t) ⟨_,J8,?_⟩⟩;rw[Ep];exact qB _
 |_=>exact Jv j
@[simp]def pd (fe)(fl fh fs)(sd):sH fe fl fh fs sd=(fe sd).bind λd=>(fl sd).bind λl=>(fh sd).bind λh=>(fs sd).bind λc=>.ofO (wX d l h c):=rfl
@[simp]def lB (sd):Ki sd=.ok none:=rfl
def Bp:D->Res (Option Int)
 | .int i=>.ok (some i)
 |_=>.no
@[simp]def ae (i):Bp (.int i)=.ok (some i):=rfl
@[simp]def rN (f)(sd):K4 f sd=(f sd).bind Bp:=by
 rfl
@[simp]def f7 (ds)(lo hi):wX (.lst ds) lo hi none=some (.lst (Qe ds lo hi none)):=rfl
@[simp]def f6 (ds:Yf)(lo hi:Option Int):wX (.scr ds) lo hi none=some (.lst ((Qe ds lo hi none).map .int)):=rfl
def Es (i:Nat)(c fv:FE):FS:=λsd=>(fv sd).bind λv=>match sd[i]? with
 |some (some (.own false (.lst ds)))=>(c sd).bind λk=>match k with
  | .int k=>match yu ds.length k with
   |some j=>.ok (.next (sd.set i (some (.own false (.lst (ds.set j v))))))
   |none=>.no
  |_=>.no
 |_=>.no
@[simp]def rW (i)(fk fv)(sd):Es i fk fv sd=(fv sd).bind λv=>(wh sd[i]?).bind λds=>(fk sd).bind λk=>(Bp k).bind λk=>(Res.ofO (yu ds.length (k.getD 0))).bind λj=>.ok (.next (sd.set i (some (.own false (.lst (ds.set j v)))))):=by
 unfold Es;cases fv sd with
 |ok v =>
  cases sd[i]? with
  |none=>rfl
  |some o =>
   cases o with
   |none=>rfl
   |some w =>
    cases w with
    |val d=>rfl
    |own p d =>
     cases p with
     |true=>cases d<;>rfl
     |false =>
      cases d with
      |lst ds =>
       cases fk sd with
       |ok k =>
        cases k with
        |int k=>show(match yu ds.length k with|some j=>_|none=>_)=(Res.ofO (yu ds.length k)).bind _;cases yu ds.length k<;>rfl
        |_=>rfl
       |ex c fs=>rfl
       |no=>rfl
      |_=>rfl
 |ex c fs=>rfl
 |no=>rfl
@[simp]def bS (i)(fb)(sd):Ee i fb sd=(yV sd[i]?).bind λd=>(fb sd).bind λy=>.ofO (jv d y):=by
 unfold Ee;cases sd[i]? with
 |none=>rfl
 |some o =>
  cases o with
  |none=>rfl
  |some v=>cases v<;>rfl
@[simp]def lL (i:Nat)(sd:SD):Ef i sd=(yV sd[i]?).bind λd=>(WJ d).bind λds=>.ok (.lst ds):=by
 unfold Ef;cases sd[i]? with
 |none=>rfl
 |some o =>
  cases o with
  |none=>rfl
  |some v =>
   cases v with
   |val d=>rfl
   |own p d=>cases d<;>rfl
@[simp]def fT (neg:Bool):qD neg .non=some (.bl (!neg)):=rfl
@[simp]def fV (neg:Bool)(i:Int):qD neg (.int i)=some (.bl neg):=rfl
@[simp]def fU (neg:Bool)(i:Yt):qD neg (.lst i)=some (.bl neg):=rfl
@[simp]def fS (neg:Bool)(i:Yt):qD neg (.tup i)=some (.bl neg):=rfl
end
end L2.DL
namespace L2
section
variable {X:Cx}
def MH (f:X.calm=true):qc X (.builtin "sum") (λxs H Q=>∃(a:Addr) (ns:Yf),xs=[.ref a]/\qC X.K H a (ns.map V.int)/\Q (.int ns.sum) H):=by
 intro Y s Z H xs o Q I r h;obtain⟨a,ns,rfl,g,q⟩:=h;obtain⟨u,rfl,i⟩:=Q6 r;obtain rfl:=i;obtain⟨j,l,p,t⟩:=I.list g;have d:=IH l;obtain⟨m,e⟩:=d.allInts.items;have c:ns=m.toList.map (·.1):=by
  rw[<- d.numsOf,<- nums_intItems,<- e]
 have b:=p.isList;rw[e] at b;refine sum_intListG (I.ok.hd f) b λh' tk t' n=>(⟨.int ns.sum,H,I.kept n,⟨t',?_⟩,q⟩);rw[preSum_eq,UW (),<- c]
def MI {bs:List Bool}{a:Yd}(r:js (bs.map V.bl) a)(i:Nat)(v:Value)(h:a.toArray[i]? = some v):v=.bool (bs.getD i false):=by
 have h':a[i]? = some v:=by simp_all
 have f:=(Jd.mp h').1;have c:=r.length;rw[Zql] at c;have d:bs[i]? = some bs[i]:=by simp
 obtain⟨u,b,e⟩:=r.get (i:=i) (x:=.bl bs[i]) ();rw[h'] at b;obtain rfl:=Zqi b;rw[e,UX,d];rfl
def MJ (bs:List Bool):(List.range bs.length).all (λi=>bs.getD i false)=bs.all id:=by
 apply UG.mpr;rw[Ul,Ul];constructor
 .intro h b c;obtain⟨i,a,rfl⟩:=List.getElem_of_mem c;have:=h i (Jh.mpr a)
  rwa [UX,Zqg a] at this
 .intro h i a;have a:=Jh.mp a;rw[UX,Zqg a];exact h _ (List.getElem_mem a)
def MK (j:X.calm=true):qc X (.builtin "all") (λxs H Q=>∃(a:Addr) (bs:List Bool),xs=[.ref a]/\qC X.K H a (bs.map V.bl)/\Q (.bl (bs.all id)) H):=by
 intro Y s Z H xs z Q I r h;obtain⟨a,bs,rfl,l,q⟩:=h;obtain⟨u,rfl,m⟩:=Q6 r;obtain rfl:=m;obtain⟨d,g,p,B⟩:=I.list l;have f:a<s.heap.objs.size:=by obtain⟨_,e,_⟩:=p.isList;exact Zk e
 have c:=g.length;rw[Zql] at c;refine call_all_walk (wpAny_pyIter_list p.isList ⟨_,_,_,_,_,_,λi=>bs.getD i false,rfl,Walks.list (A:=X.A.in1) (I.ok.hd j) s.heap.objs.size a (Zi f) d.toArray,⟨⟨_,Zr _ rfl,rfl,rfl⟩,p.isList.push _⟩,?_,λh' tk n=>?_⟩)
 .intro i v s' C E t w;have x:=MI g i v t;subst x;exact wpAny_of_eq rfl w
 .rw[Zm,<- c,MJ];refine⟨.bl _,H,I.kept λb o e=>n b o ?_ (Zq _ e),rfl,q⟩;intro y;rw[(Jb.mp y)] at e;exact Zy _ (Zk e)
end
end L2
namespace L2.DL
def v9:D->Option Bool
 | .bl i=>some i
 |_=>none
def ML (h:v9 d=some i):d=.bl i:=by
 cases d with
 |bl j=>cases h;rfl
 |_=>exact Jv h
theorem xl {K:W.Frag}{H:Hp}:∀{bs:List Bool} {xs:Yr},IsDs K H (bs.map D.bl) xs->xs=bs.map V.bl
 | [],_,h=>IsDs.nil_iff.mp h
 |b::bs,_,h=>by
  obtain⟨x,r,rfl,a,c⟩:=h;rw[jj.mp a,xl c];rfl
def KY:D->Option (List Bool)
 | .lst ds=>QD v9 ds
 |_=>none
def Et {K:W.Frag}{H:Hp}{d:D}{ns:List Bool}{v:V}(h:KY d=some ns)(i:IsD K H d v):∃a,v=.ref a/\xk K H a (ns.map V.bl):=by
 cases d with
 |lst ds =>
  obtain⟨a,xs,rfl,c,b⟩:=i;rw[AY (λ_ _=>ML) (h)] at b;rw[xl b] at c
  simp_all
 |_=>exact Jv h
def Bq (ns:List Bool):KY (.lst (ns.map D.bl))=some ns:=by
 have h:=Xr (f:=v9) (g:=D.bl) (λ_=>rfl) ns
 rwa [List.map_id'] at h
def yX:Yt->Yu
 | [d]=>(YS d).bind λns=>some (.int ns.sum)
 |_=>none
def yZ:Yt->Yu
 | [d]=>(KY d).bind λns=>some (.bl (ns.all id))
 |_=>none
def fF:Yt->Yu
 | [.int i,.int j,.int k]=>some (.int (if j > i then(if k > j then k else j) else(if k > i then k else i)))
 |_=>none
section
variable {X:Cx}{E:XK}{m:Option Bool}{a b o i e f tg:Expr}{fa fb fo fi fv fe:FE}{fr:FA}{pos pos' apos cpos p p2:Pos}{lo hi st:Option Expr}
def mC (g:X.calm=true):qc X (.builtin "sum") (yU X.K yX):=qc.weak (MH g) λxs H Q j=>by
 obtain⟨F,ds,z,d,id,c,q⟩:=j;unfold yX at c
 split at c
 .obtain⟨ns,l,c⟩:=Je.mp c;obtain rfl:=Zqi c;obtain⟨v,rfl,h⟩:=Qx id;obtain⟨a,rfl,n⟩:=Mg l h;exact⟨a,ns,rfl,(n.same d).sq,q _ F H (.refl d) (yw _ F)⟩
 simp_all
def Br (g:X.calm=true):qc X (.builtin "all") (yU X.K yZ):=qc.weak (MK g) λxs H Q j=>by
 obtain⟨F,ds,z,d,id,c,q⟩:=j;unfold yZ at c
 split at c
 .obtain⟨ns,l,c⟩:=Je.mp c;obtain rfl:=Zqi c;obtain⟨v,rfl,h⟩:=Qx id;obtain⟨a,rfl,n⟩:=Et l h;exact⟨a,ns,rfl,(n.same d).sq,q _ F H (.refl d) (yx _ F)⟩
 simp_all
def mz {α: Type}(xs:List α)(lo hi:Option Int):List α:= (xs.drop (HT.sIx xs.length 0 lo)).take (HT.sIx xs.length xs.length hi-HT.sIx xs.length 0 lo)
def f8:D->Option Int->Option Int->Yu
 | .tup ds,lo,hi=>if Up (mz ds lo hi).length ds.length then some (.tup (mz ds lo hi)) else none
 |_,_,_=>none
def c5 (fe:FE)(c g:FO):FE:=λsd=>(fe sd).bind λd=>(c sd).bind λl=>(g sd).bind λh=>.ofO (f8 d l h)
@[simp]def dS (fe:FE)(c g:FO)(sd:SD):c5 fe c g sd=(fe sd).bind λd=>(c sd).bind λl=>(g sd).bind λh=>.ofO (f8 d l h):=rfl
end
@[simp]def MM (ns:Yf):yX [.lst (ns.map .int)]=some (.int ns.sum):=by
 show(YS _).bind _=_;rw[Mh];rfl
def YY (ns:List Bool):yZ [.lst (ns.map .bl)]=some (.bl (ns.all id)):=by
 show(KY _).bind _=_;rw[Bq];rfl
@[simp]def lA (i j k:Int):fF [.int i,.int j,.int k]=some (.int (if j > i then(if k > j then k else j) else(if k > i then k else i))):=rfl
end L2.DL
namespace L2
def Bt:bootBuiltins "all" = some (.builtin "all"):=boot_all
end L2
namespace L2.DL
def hZ (i:Nat)(v:SV)(tg:Tg)(b:FS)(ds:Yt)(sd:SD):Res Out:=zG i v (λx sd=>(JD tg x sd).bind b) ds sd
def Eu (i:Nat)(tg:Tg)(b:FS)(sd:SD):Option (Option SV)->Res Out
 |some (some (.own p (.lst ds)))=>zG i (.own p (.lst ds)) (λx sd=>(JD tg x sd).bind b) ds (sd.set i (some (.own true (.lst ds))))
 |_=>.no
@[simp]def sr (i:Nat)(tg:Tg)(b:FS)(sd:SD):k4 i tg b sd=Eu i tg b sd sd[i]?:= rfl
@[simp]def lR (i:Nat)(tg:Tg)(b:FS)(sd:SD)(p:Bool)(ds:Yt):Eu i tg b sd (some (some (.own p (.lst ds))))=hZ i (.own p (.lst ds)) tg b ds (sd.set i (some (.own true (.lst ds)))):=rfl
end L2.DL
namespace L2
section
variable {X:Cx}{Y:Yb}{Z: St}{H:Hp}{s:Shared}{h':Heap}
def Inv.turnedL {t':Nat}{ch:Yi}(I:Inv X Y Z H s)(k:∀b o,b∉ch->s.heap.get? b=some o->h'.get? b=some o)(d:∀b∈ch,xf X Y H b):Inv X Y Z H { s with heap:=h',toks:=t' }:=by
 have f:∀b u,H b=some u->b∉ch:=λb u e z=>by rw[(d b z).1] at e;exact Jv e
 refine I.step (λb g=>?_) (λb o _ _ a e _=>k b o a e) (λb o _ _ a e _=>⟨o.slots,k b o a e⟩) (λ_ _ _ _ n=>n)
  (λb o a e=>⟨o,k b o a e⟩) (λ_ _ e=>e) (λ_ _ _ e=>e) (λb y e=>⟨#[],by rw[e];simp⟩) (λm h=>?_) (λb u e=>?_) I.bare
 .obtain⟨_,i,_,j,l,p⟩:=d b g;exact⟨j,i,l,p⟩
 .obtain⟨o,t,w,x,r⟩:=h;exact⟨o,t,w,k _ o (λz=>(d _ z).2.1 rfl) x,r⟩
 .refine(I.hok b u e).stay (λc v a q=>k c v ?_ q) (λ_ q=>q) λ_ _ q=>q
  grind
theorem xf.upd (h:xf X Y H b)(n:b≠T):xf X Y (upd H T o) b:=⟨(Jx n).trans h.1,h.2⟩
def Inv.paired {t':Nat}{ch:Yi}{x y:V}{u v:Value}(I:Inv X Y Z H s)(c:jq x u)(d:jq y v)(f:∀b∈ch,xf X Y H b)(g:∀b∈ch,b≠s.heap.objs.size)
 (i:h'.get? s.heap.objs.size=some { cls:=.type "tuple",data:=.seq #[u,v] }) (k:∀b o,b∉ch->s.heap.get? b=some o->h'.get? b=some o):
 Inv X Y Z (upd H s.heap.objs.size (.tup [x,y])) { s with heap:=h',toks:=t' }:=by
 have h:Inv X Y Z (upd H s.heap.objs.size (.tup [x,y])) { s with heap:=s.heap.push { cls:=.type "tuple",data:=.seq #[u,v] },toks:=s.toks } :=
  I.laid (λb o e=>Zq _ e) (Zf _) ⟨⟨by simp only[sizeLine_eq,Zu,ZC];lia,_,Zr _ rfl,rfl⟩,[u,v],.cons c (.cons d .nil),_,Zr _ rfl,rfl,_,rfl⟩
 refine Inv.turnedL (s:={ s with heap:=s.heap.push { cls:=.type "tuple",data:=.seq #[u,v] },toks:=s.toks }) h (λb o a e=>?_) λb a=>(f b a).upd (g b a)
 grind[Heap.get?_push_cases]
end
def cI (K:W.Frag)(a:Addr):It:=
 ⟨λi H=>∃xs x,qC K H a xs/\xs[i]? = some x,
  λi H v b=>∃T x,v=.ref T/\H T=none/\b=upd H T (.tup [.int i,x])/\∀xs,qC K H a xs->xs[i]? = some x,
  λi H=>∃xs,qC K H a xs/\xs.length<=i⟩
def MN (e it a:Addr)(i:Nat)(h:Heap):Prop:=(∃b,IsEnum h e it i b)/\h.IsListIter it a i
def MO {P:Program}{w:World}{K:W.Frag}{j:Yj}{kx}{v:Pos}(a e it:Addr)(l:e≠it):Turn P w K (.Tuple j kx v) (cI K a) [e,it] e (MN e it a) where
 mem:=by simp
 obj:=λi h st c b=>by
  obtain⟨⟨d,g⟩,⟨L,J,c1,d1⟩⟩:=st
  grind
 keep:=λi h h' st kk=>⟨(let ⟨d,g⟩:=st.1;⟨d,kk e () _ g⟩),st.2.at λo q=>kk it () o q⟩
 item:=by
  intro X y hw A b i Y s Z H E I r st B;subst y hw A;obtain⟨xs,x,t,hx⟩:=B;obtain⟨C,F,p,M⟩:=I.list t;obtain⟨u,N,O⟩:=F.get hx;obtain⟨⟨d,g⟩,f⟩:=id st;obtain⟨L,J,_⟩:=id f;refine wpAny_pyNext_enum_item g f p.isList (x:=u) (by simpa using N) l λh' Q R S a4 kk=>?_;refine⟨_,rfl,wpAny_letOwnedTupleGo_enum (s:={ s with heap:=h',toks:=s.toks+1 }) Q λT b1 m=>?_⟩;have m:Heap.SameBut e h' T:=m;have lt:∀{c o},s.heap.get? c=some o->c≠s.heap.objs.size:=λq=>Zi (Zk q);have n:∀c ∈ [e,it],c≠s.heap.objs.size:=λc b=>by
   simp only[Uj,Uk,or_false] at b;rcases b with rfl|rfl
   .exact lt g
   .exact lt J
  have G:s.heap.objs.size≠e:=λq=>lt g q.symm;have U:=I.paired (t':=s.toks+1) (x:=.int i) ⟨_,rfl⟩ O r n (m.extBut _ _ G S) (λc o b q=>by
   simp only[Uj,Uk,or_false,not_or] at b;exact m.extBut c o b.1 (kk c o b.1 b.2 q))
  refine⟨.ref s.heap.objs.size,_,U,rfl,⟨_,x,rfl,I.hok.fresh (Zf _),rfl,λzs hq=>by rw[I.list_inj hq t];exact hx⟩,⟨⟨u,?_⟩,R.extBut m.extBut (Ne.symm l)⟩,λc b=>(Jx (n c b)).trans (r c b).1⟩
  grind
 done:=by
  intro X y hw A b i Y s Z H E I r st B;subst y hw A;obtain⟨xs,t,hx⟩:=B;obtain⟨C,F,p,M⟩:=I.list t;have l1:=F.length;obtain⟨⟨d,g⟩,f⟩:=id st;refine wpAny_pyNext_enum_end (I.ok.hd b) g f p.isList (by simp;lia) λh' eb=>⟨rfl,I.turnedL (ch:=[it]) (λc o b q=>?_) λc b=>r c ?_⟩
  .exact eb c o (λz=>b (by simp[z])) q
  simp_all
 self:=λ_ _ _ _ _ st h=>wpAny_pyIter_enum st.1.choose_spec h
section
variable {X:Cx}
def fz (K:W.Frag)(c:TA):TI:=λZ H R=>c Z H λd b=>∃a,d=[.ref a]/\(∃xs,qC K b a xs)/\R (cI K a) b
def MP {a:Expr}{j:TA}{p d:Pos}{f:Yj}{kx}{n:Pos}(o:Gl X "enumerate")(t:X.mg "enumerate" = none)(u:PA X [a] j)(v:starEach [a] X.env=[(false,eval a X.env)]:=by rfl):
 PI X (.Tuple f kx n) (.Call (.Name "enumerate" p) [a] [] d) (fz X.K j):=by
 intro Y s Z H R I h;refine Call_ (VY I o t (show bootBuiltins "enumerate" = some (.type "enumerate") by kernel_rfl) (PyProof.Rows.callWith_type1 (j5 (u d Y s Z H _ I h) λE b ⟨F,w,i,x,y⟩=>?_) v rfl));obtain⟨a,e,⟨xs,z⟩,q⟩:=y;subst e;cases x with
 |cons r A =>
  cases A;cases r;obtain⟨B,G,p,J⟩:=i.list z;refine call_enumerate_list p.isList λh' l C K kk=>wpAny_pyIter_enum l (⟨b.heap.objs.size+1,[b.heap.objs.size+1,b.heap.objs.size],_,_,w,rfl,i.kept kk,MO a (b.heap.objs.size+1) b.heap.objs.size (Nat.succ_ne_self _),⟨⟨_,l⟩,C⟩,λc m=>?_,q⟩);have g:b.heap.objs.size<=c:=by
   simp at m;rcases m with rfl|rfl<;>first|exact Zf _|exact Nat.le_add_right _ _
  exact i.fpOk g (i.hok.fresh g)
end
end L2
namespace L2.DL
def Ew {K:W.Frag}{F:Hp}{d:D}{ds:Yt}{v:V}(h:WI d=some ds)(i:IsD K F d v):∃a xs,v=.ref a/\qC K F a xs/\IsDs K F ds xs:=by
 cases d with
 |lst e =>
  obtain rfl:=Zqi h;obtain⟨a,xs,rfl,b,c⟩:=i;exact⟨a,xs,rfl,b.sq,c⟩
 |scr ns =>
  obtain rfl:=Zqi h;obtain⟨a,rfl,b⟩:=i;exact⟨a,_,rfl,b,qB ns⟩
 |_=>exact Jv h
def ug (xs a:Yt):Yt:=List.zipWith (λx y=>D.tup [x,y]) xs a
def KZ (xs:Yt):Yt:=List.zipWith (λ(k:Nat) x=>D.tup [.int k,x]) (List.range xs.length) xs
def vf:Yt->Res Yt
 | [d,e]=>(Res.ofO (WI d)).bind λxs=>(Res.ofO (WI e)).bind λa=>.ok (ug xs a)
 |_=>.no
def YZ:Yt->Res Yt
 | [d]=>(Res.ofO (WI d)).bind λxs=>.ok (KZ xs)
 |_=>.no
def iZ (a:FA):FA:=λsd=>(a sd).bind vf
def d6 (a:FA):FA:=λsd=>(a sd).bind YZ
@[simp]def ph (a:FA)(sd:SD):iZ a sd=(a sd).bind vf:=rfl
@[simp]def cq (a:FA)(sd:SD):d6 a sd=(a sd).bind YZ:=rfl
@[simp]def uj (xs a:Yt):vf [.lst xs,.lst a]=.ok (ug xs a):=rfl
@[simp]def l7 (xs:Yt):YZ [.lst xs]=.ok (KZ xs):=rfl
def Ey (ds:Yt)(i:Nat):(KZ ds)[i]? = ds[i]?.map λx=>D.tup [.int i,x]:=by
 grind[KZ,List.getElem?_zipWith]
def MQ (ds:Yt):(KZ ds).length=ds.length:=by grind[KZ,List.length_zipWith,List.length_range,Nat.min_self]
def MR {K:W.Frag}{b:Hp}{a:Addr}{ds:Yt}{xs:Yr}(l:qC K b a xs)(d:IsDs K b ds xs):yj K b (cI K a) (KZ ds):=λi q r e f=>by
 have c:=jm.seq f (jm.seq e l);have s:=d.length;rw[MQ];refine⟨λg=>?_,λg=>⟨xs,c,()⟩⟩;obtain⟨x,hx,m⟩:=d.get (Zqg g);refine⟨⟨xs,x,c,hx⟩,λv t n=>?_⟩;obtain⟨T,u,rfl,o,rfl,p⟩:=n;have h:=p xs c;rw[hx] at h;obtain rfl:=Zqi h;have j:=jI f o (.tup [.int i,x]);refine⟨.tup [.int i,ds[i]],_,?_,j,jn.mpr ⟨T,_,rfl,.of J8,.mk (jc.mpr rfl) (.mk (IsD.same (e.trans j.ff) _ _ m) .nil)⟩⟩
 simp_all [Ey]
section
variable {X:Cx}{E:XK}{fr:FA}{p pos tp:Pos}{elts:Yj}
def MS {a:Expr}{kx}(e:Gl X "enumerate")(f:X.mg "enumerate" = none)(g:QA X E [a] fr)(i:starEach [a] X.env=[(false,eval a X.env)]:=by rfl):QI X E (.Tuple elts kx tp) (.Call (.Name "enumerate" p) [a] [] pos) (d6 fr):=PI.weak (MP e f g i) λZ H R j=>by
 obtain⟨B,F,sd,r,n⟩:=j;refine⟨B,F,sd,r,(Res.need_bind n).mono (λds b w l m c o=>?_) λ_ _ q=>q⟩;unfold YZ at b
 split at b
 .obtain⟨xs,hx,s⟩:=ji (Res.need_bind b);obtain⟨v,rfl,h⟩:=Qx o;obtain⟨t,x,rfl,d,u⟩:=Ew hx h;exact⟨t,rfl,⟨_,jm.seq c.fh d⟩,s _ l m c (MR d u)⟩
 .exact b.elim
def zF:Yt->Yu
 | [.int i]=>some (.int (if i<0 then -i else i))
 |_=>none
def fZ:Yt->Yu
 | [.int i]=>some (.int i)
 | [.bl b]=>some (.int (if b then 1 else 0))
 |_=>none
@[simp]def hU (i:Int):zF [.int i]=some (.int (if i<0 then -i else i)):=rfl
@[simp]def fY (i:Int):fZ [.int i]=some (.int i):=rfl
@[simp]def nZ (b:Bool):fZ [.bl b]=some (.int (if b then 1 else 0)):=rfl
def mE:qc X (.builtin "abs") (yU X.K zF):=qc.weak Ip λxs H Q b=>by
 obtain⟨F,ds,z,c,id,a,q⟩:=b;unfold zF at a
 split at a
 .obtain rfl:=Zqi a;obtain⟨v,rfl,h⟩:=Qx id;exact⟨_,by rw[jc.mp h],q _ F H (.refl c) (yw _ F)⟩
 .exact Jv a
def MT:bootBuiltins "abs" = some (.builtin "abs"):=by kernel_rfl
end
end L2.DL
namespace L2.ST
open PySem
def Bu (t:SetTable):Nat->SetTable.Probe->SetTable.Probe
 | 0,p=>p
 |n+1,p=>Bu t n (t.advance p)
open PySem
def lq (xs:Array Nat):Prop:=∀i j,i<j->j<xs.size->xs.getD i 0<xs.getD j 0
def lc (t:SetTable)(j:Nat):Prop:=∃i,i<t.place.size/\t.place.getD i 0=j
def ln (t:SetTable)(o:Nat->Prop)(x:Int)(y:Nat):Prop:=∃n,(Bu t n (t.probeStart x)).j=y/\∀m,m<n->o (Bu t m (t.probeStart x)).j
structure TabOk (t:SetTable)(hs:Array Int):Prop where
 size:t.place.size=hs.size
 up:lq t.place
 le:∀i,i<t.place.size->t.place.getD i 0<=t.mask
 nod:t.dummies = #[]
 pow:∃k,t.mask+1=2 ^ k
 room:t.place.size<=t.mask
 ways:∀i,i<t.place.size->ln t (lc t) (hs.getD i 0) (t.place.getD i 0)
open PySem
structure SetIs (hp:Heap)(a:Addr)(es:Array (Int×Value))(t:SetTable):Prop where
 at_:∃ep,hp.get? a=some { cls:=.type "set",dict:=none,data:=.set es ep t,slots:=#[] }
 tab:TabOk t (es.map (·.1))
 seven:7<=t.mask
 most:t.mask<=8*es.size+7
 room:es.size*5<t.mask*3
 refs:∀i (hi:i<es.size),∃b,es[i].2=.ref b
variable {prog:Program}{w:World}{A:Around}{E:Ya}{s:Shared}
def Holds (a:Value->Int)(c:Heap)(S:Addr)(ld:Bool)(D:Yd):Prop:=∃b t,SetIs c S b t/\b.toList.Perm (D.map λv=>(a v,v))/\t.led=ld/\t.plain=true
section
variable {prog:Program}{w:World}{A:Around}{E:Ya}{s:Shared}
def vy (w:World):Bool:=!w.params.followText "set-order"
def MU (a:Value)
 (h:Q₁ (.ref s.heap.objs.size) { s with heap:=s.heap.push { cls:=.type "set",dict:=none,data:=.set #[] 0 (.fresh 0 0 (vy w)) } }):
 codeAny (model prog w) A (.call (.builtin "set.__new__") ⟨[.type "set",a],[]⟩) (wants Q₁ E) s:=by
 refine codeAny_of_tree ?_;show wpAny _ A.in1 (do checkBuiltinCall "set.__new__" ⟨[.type "set",a],[]⟩;again (.builtin "set.__new__" ⟨[.type "set",a],[]⟩)) _ _ s;refine Za (wpAny_of_eq (F.newCall_set_1 a) (Zb ⟨plainId_quiet F.plain_set_new _,codeAny_builtin F.entry_set_new ?_⟩));rw[Around.under_plainId F.plain_set_new _];unfold Builtin.«set.__new__» Builtin.Frozenset.newClass;have b:=sub_set_self;obtain⟨c,g,d,tk,os⟩:=s;dsimp only
 wp_walk
 refine wpAny_askSetting (Zb ?_);dsimp only;simp only[newObj];refine Za (wpAny_alloc (Zb ?_));exact Zb h
end
end L2.ST
namespace L2.DL
open PySem PySem.Spec PyProof.Rows L2.ST
def bt_set:bootBuiltins "set" = some (.type "set"):=by kernel_rfl
def Ez (i j:Nat):FE:=λsd=>match sd[i]?,sd[j]? with
 |some (some (.own _ (.lst a))),some (some (.own _ (.lst b)))=>if a.length+b.length<=1000 then .ok (.lst (a++b)) else .no
 |_,_=>.no
@[simp]def lC (i j:Nat)(sd:SD):Ez i j sd=(yV sd[i]?).bind λd=>(WJ d).bind λa=>(yV sd[j]?).bind λe=>(WJ e).bind λb=>if a.length+b.length<=1000 then .ok (.lst (a++b)) else .no:=by
 unfold Ez;cases sd[i]? with
 |none=>rfl
 |some o =>
  cases o with
  |none=>rfl
  |some v =>
   cases v with
   |val d=>rfl
   |own p d =>
    cases d with
    |lst ds =>
     cases sd[j]? with
     |none=>rfl
     |some o =>
      cases o with
      |none=>rfl
      |some v =>
       cases v with
       |val d=>rfl
       |own p d=>cases d<;>rfl
    |_=>rfl
end L2.DL
namespace L2
def kD (H:Hp)(a:Addr):Hp:=λb=>if b=a then none else H b
def E1:kD H a a=none:=Zd rfl
def VB (h:b≠a):kD H a b=H b:=Ze h
section
variable {X:Cx}{Y:Yb}{Z: St}{H:Hp}{s:Shared}{h':Heap}
def Inv.forget (I:Inv X Y Z H s)(h:H it=some (.ext φ)):Inv X Y Z (kD H it) s:=by
 refine I.step (h':=s.heap) (g':=s.gens) (d':=s.drawn) (t':=s.toks) (ch:=[]) (λb a=>nomatch a) (λb o _ _ _ e _=>e) (λb o _ _ _ e _=>⟨o.slots,e⟩) (λb o _ _ n=>?_) (λb o _ e=>⟨o,e⟩) (λb xs e=>?_) (λb o u e=>?_) (λb f e=>⟨#[],?_⟩) (λm d=>d) (λb u e=>?_) I.bare
 .unfold kD;split
  .rfl
  .exact n
 .rw[VB λz=>by rw[z,h] at e;cases e];exact e
 .rw[VB λz=>by rw[z,h] at e;cases e];exact e
 .rw[VB (λz=>by rw[z,h] at e;cases e),e];simp
 .have nb:b≠it:=λz=>by rw[z,E1] at e;exact Jv e
  rw[VB nb] at e;refine(I.hok b u e).stay (λ_ _ _ q=>q) (λc q=>?_) λc xs q=>?_
  .rw[VB λz=>by rw[z,h] at q;cases q];exact q
  .rw[VB λz=>by rw[z,h] at q;cases q];exact q
end
end L2
namespace L2.DL
def d3 (ds:Yt)(d:D):Option Nat:=ds.findIdx? λe=>sameD e d
def E2 (ds:Yt):Yt->Yu
 | [d]=>if(plN 12 d&&ds.all (plN 12))=true then(d3 ds d).map (λi:Nat=>D.int (i:Int)) else none
 |_=>none
def E3 (a b:FE):FE:=λsd=>(a sd).bind λo=>match o with
 | .lst ds=>(Jr b jd sd).bind λc=>.ofO (E2 ds c)
 |_=>.no
@[simp]def bT (b a:FE)(sd:SD):E3 b a sd=(b sd).bind λo=>(WJ o).bind λds=>(a sd).bind λd=>.ofO (E2 ds [d]):=by
 unfold E3;cases b sd with
 |ok o =>
  cases o with
  |lst ds =>
   show(Jr a jd sd).bind _=(a sd).bind _;unfold Jr jd;cases a sd<;>rfl
  |_=>rfl
 |_=>rfl
end L2.DL
namespace L2
def xn.has {P:Program}{w:World}{H:Hp}{h:Heap}{a:Addr}{o:HO}(x:xn P w H h a o):∃u,h.get? a=some u:=by
 cases o with
 |lst xs=>obtain⟨_,_,_,_,e⟩:=x;exact⟨_,e⟩
 |tup xs=>obtain⟨_,_,_,o,e,_⟩:=x;exact⟨_,e⟩
 |dK b=>obtain⟨_,_,_,_,o,_,_,e,_⟩:=x;exact⟨_,e⟩
 |dT b=>obtain⟨_,_,_,_,o,_,_,e,_⟩:=x;exact⟨_,e⟩
 |set S n=>obtain⟨o,_,_,_,e,_⟩:=x;exact⟨_,e⟩
 |ins C c fs=>exact⟨_,x.2.2.2.1⟩
 |own y=>exact x
 |xd fs=>obtain⟨_,⟨_,_,_,e,_⟩,_⟩:=x;exact⟨_,e⟩
 |rng lo d=>obtain⟨_,_,_,e⟩:=x;exact⟨_,e⟩
 |frz g u=>exact⟨_,x.1⟩
 |tbl i=>exact⟨_,x⟩
 |met f y=>exact⟨_,x⟩
 |ext φ => exact x.2.1
def E4 {M:Model}{Γ: PySem.Ctx}{p:Pos}{t:Sem Fin}{fs:List Frame}{s s':Shared}{e:End}(h:Runs M Γ p t fs s e s'):∀{f g},Runs M Γ p t fs s f g->e=f/\s'=g:=by
 induction h with
 |done=>intro f g k;cases k;exact⟨rfl,rfl⟩
 |raise=>intro f g k;cases k;exact⟨rfl,rfl⟩
 |again q _ d=>intro f g k;cases k with|again _ k=>exact d k
 |rule _ d=>intro f g k;cases k with|rule k=>exact d k
 | «at» _ d=>intro f g k;cases k with|«at» k=>exact d k
 |load q _ d=>intro f g k;cases k with|load c k=>rw[q] at c;cases c;exact d k
 |update _ _ d=>intro f g k;cases k with|update _ k=>exact d k
 |loadIfAlive _ d=>intro f g k;cases k with|loadIfAlive k=>exact d k
 |point _ d=>intro f g k;cases k with|point k=>exact d k
 |alloc _ d=>intro f g k;cases k with|alloc k=>exact d k
 |fresh _ d=>intro f g k;cases k with|fresh k=>exact d k
 |ask _ d=>intro f g k;cases k with|ask k=>exact d k
 |choose _ _ d=>intro f g k;cases k with|choose _ k=>exact d k
 |os _ d=>intro f g k;cases k with|os k=>exact d k
 |handled _ d=>intro f g k;cases k with|handled k=>exact d k
 |genState q _ d=>intro f g k;cases k with|genState c k=>rw[q] at c;cases c;exact d k
 |stack _ d=>intro f g k;cases k with|stack k=>exact d k
 |thread _ d=>intro f g k;cases k with|thread k=>exact d k
 |newGen _ d=>intro f g k;cases k with|newGen k=>exact d k
 |call _ _ j l =>
  intro f g k;cases k with
  |call a b=>obtain⟨i,rfl⟩:=j a;cases i;exact l b
  |callSusp a=>obtain⟨i,_⟩:=j a;cases i
 |callSusp _ j =>
  intro f g k;cases k with
  |call a b=>obtain⟨i,_⟩:=j a;cases i
  |callSusp a=>obtain⟨i,rfl⟩:=j a;cases i;exact⟨rfl,rfl⟩
 |yield=>intro f g k;cases k;exact⟨rfl,rfl⟩
 |resumeFresh q _ _ _ j l =>
  intro f g k;cases k with
  |resumeFresh c a _ b=>rw[q] at c;cases c;obtain⟨rfl,rfl⟩:=j a;exact l b
  |resumeSuspended c=>rw[q] at c;cases c
  |resumeJustStarted c n=>exact Zn rfl n
  |resumeRunning c=>rw[q] at c;cases c
  |resumeFinished c=>rw[q] at c;cases c
 |resumeSuspended q _ _ _ j l =>
  intro f g k;cases k with
  |resumeSuspended c a _ b=>rw[q] at c;cases c;obtain⟨rfl,rfl⟩:=j a;exact l b
  |resumeFresh c=>rw[q] at c;cases c
  |resumeJustStarted c=>rw[q] at c;cases c
  |resumeThrowFresh c=>rw[q] at c;cases c
  |resumeRunning c=>rw[q] at c;cases c
  |resumeFinished c=>rw[q] at c;cases c
 |resumeJustStarted q n _ d =>
  intro f g k;cases k with
  |resumeJustStarted _ _ k=>exact d k
  |resumeFresh=>exact Zn rfl n
  |resumeSuspended c=>rw[q] at c;cases c
  |resumeRunning c=>rw[q] at c;cases c
  |resumeFinished c=>rw[q] at c;cases c
 |resumeThrowFresh q _ d =>
  intro f g k;cases k with
  |resumeThrowFresh _ k=>exact d k
  |resumeSuspended c=>rw[q] at c;cases c
  |resumeRunning c=>rw[q] at c;cases c
  |resumeFinished c=>rw[q] at c;cases c
 |resumeRunning q _ d =>
  intro f g k;cases k with
  |resumeRunning _ k=>exact d k
  |resumeFresh c=>rw[q] at c;cases c
  |resumeSuspended c=>rw[q] at c;cases c
  |resumeJustStarted c=>rw[q] at c;cases c
  |resumeThrowFresh c=>rw[q] at c;cases c
  |resumeFinished c=>rw[q] at c;cases c
 |resumeFinished q _ d =>
  intro f g k;cases k with
  |resumeFinished _ k=>exact d k
  |resumeFresh c=>rw[q] at c;cases c
  |resumeSuspended c=>rw[q] at c;cases c
  |resumeJustStarted c=>rw[q] at c;cases c
  |resumeThrowFresh c=>rw[q] at c;cases c
  |resumeRunning c=>rw[q] at c;cases c
 |segRet _ _ j l =>
  intro f g k;cases k with
  |segRet a b=>obtain⟨i,rfl⟩:=j a;cases i;exact l b
  |segSuspOut _ a=>obtain⟨i,_⟩:=j a;cases i
  |segSuspGen _ a=>obtain⟨i,_⟩:=j a;cases i
 |segGen _ _ j l =>
  intro f g k;cases k with
  |segGen a b=>obtain⟨i,rfl⟩:=j a;cases i;exact l b
  |segSuspOut _ a=>obtain⟨i,_⟩:=j a;cases i
  |segSuspGen _ a=>obtain⟨i,_⟩:=j a;cases i
 |segSuspOut q _ j =>
  intro f g k;cases k with
  |segRet a b=>obtain⟨i,rfl⟩:=j a;cases i
  |segGen a b=>obtain⟨i,rfl⟩:=j a;cases i
  |segSuspOut _ a=>obtain⟨i,rfl⟩:=j a;cases i;exact⟨rfl,rfl⟩
  |segSuspGen c=>rw[q] at c;cases c
 |segSuspGen q _ _ _ j l =>
  intro f g k;cases k with
  |segRet a b=>obtain⟨i,rfl⟩:=j a;cases i
  |segGen a b=>obtain⟨i,rfl⟩:=j a;cases i
  |segSuspOut c=>rw[q] at c;cases c
  |segSuspGen c a _ b=>rw[q] at c;cases c;obtain⟨i,rfl⟩:=j a;cases i;exact l b
def MV {M:Model}{Γ: PySem.Ctx}{p:Pos}{g:Nat}{r:Resume}{s s' d:Shared}{a b:GenResult}(h:Wakes M Γ p g r s a s')(k:Wakes M Γ p g r s b d):a=b/\s'=d:=by
 unfold Wakes at h k;have two {Γ: PySem.Ctx} {p:Pos} {t:Sem PySem.Fin} {fs:List Frame} {z:Shared} (h:∃e₁ s₁,Runs M Γ p t fs z e₁ s₁/\e₁.quiet=true/\a=e₁.result/\s'=s₁.setGen g e₁.genState) (k:∃e₁ s₁,Runs M Γ p t fs z e₁ s₁/\e₁.quiet=true/\b=e₁.result/\d=s₁.setGen g e₁.genState):a=b/\s'=d:=by
  obtain⟨_,_,i,_,rfl,rfl⟩:=h;obtain⟨_,_,k1,_,rfl,rfl⟩:=k;obtain⟨rfl,rfl⟩:=E4 i k1;exact⟨rfl,rfl⟩
 have one {x:GenResult} {z:Shared} (h:a=x/\s'=z) (k:b=x/\d=z):a=b/\s'=d:=⟨h.1.trans k.1.symm,h.2.trans k.2.symm⟩;cases f:s.gens[g]? with
 |none=>rw[f] at h;exact h.elim
 |some st =>
  rw[f] at h k;cases st with
  |fresh c =>
   cases r with
   |send v=>cases v<;>first|exact two h k|exact one h k
   |throw x=>exact one h k
  |suspended=>exact two h k
  |running=>exact one h k
  |finished=>exact one h k
def MW {α: Type}{M:Model}{Γ: PySem.Ctx}{Q i: α -> Pos->Yq}{E j:Value->Pos->Yq}(t:Sem α):∀p s,Sem.wp M Γ t Q E p s->Sem.wp M Γ t i j p s->Sem.wp M Γ t (λa p s=>Q a p s/\i a p s) (λa p s=>E a p s/\j a p s) p s:=by
 induction t with
 |pure x=>exact λ_ _ a b=>⟨a,b⟩
 |raise v=>exact λ_ _ a b=>⟨a,b⟩
 |unsupported|finish|yield|fork|await|register=>exact λ_ _ a _=>a
 |rule _ k d|«at» _ k d|alloc _ k d|loadIfAlive _ k d|point _ k d|fresh k d|ask k d|os _ _ k d|handled _ k d|newGen _ k d|stack k d|thread k d=>exact λ_ _ a b=>d _ _ _ a b
 |load a _ k d|genState a k d=>exact λ_ _ ⟨o,m,h⟩ ⟨o',ho',h'⟩=>⟨o,m,d _ _ _ h (by rw[m] at ho';cases ho';exact h')⟩
 |update a _ f k d|choose _ _ k d=>exact λ_ _ ⟨n,h⟩ ⟨_,h'⟩=>⟨n,d _ _ _ h h'⟩
 |call c h g l k d =>
  intro p s ⟨r,e,x,y⟩ ⟨r',s1',x',y'⟩;obtain⟨q,rfl⟩:=E4 x x';cases q;exact⟨r,e,x,d _ _ _ y y'⟩
 |resume g r l k d =>
  intro p s ⟨r,e,x,y⟩ ⟨r',s1',x',y'⟩;obtain⟨rfl,rfl⟩:=MV x x';exact⟨r,e,x,d _ _ _ y y'⟩
def VC {α: Type}{M:Model}{A:Around}{Q b: α -> Yq}{E c:Ya}{t:Sem α}{s:Shared}(h:wpAny M A t Q E s)(k:wpAny M A t b c s):wpAny M A t (λa s=>Q a s/\b a s) (λa s=>E a s/\c a s) s:=
 λΓ p i=>MW t p s (h Γ p i) (k Γ p i)
def DT (h:Heap)(e:Addr)(d:Option Addr):Prop:=∃a b T c ts,h.get? e=some a/\a.dict=d/\a.data=.fields b/\b[1]? = some (.ref T)/\T≠e/\h.get? T=some c/\c.data=.fields ts/\3<ts.size
section
variable {M:Model}{A:Around}{E:Ya}{s:Shared}{base:Heap}{env:Env}{outer:List Env}{L e:Addr}{d:Option Addr}
def Xy {f:Option Addr}(h:DT s.heap e d):wpAny M A (setFlight (.ref e) f) (λ_ s'=>DT s'.heap e d) E s:=by
 obtain⟨m,n,T,p,ts,c,o,g,i,b,j,a,l⟩:=h;unfold setFlight;refine Za (wpAny_field c g i ?_);rw[Zd ()];refine wpAny_setField j a l ⟨m,n,T,_,_,(Heap.get?_update_other _ _ b).trans c,o,g,i,b,Heap.get?_update_self _ j (Obj.isFreed_of_fields (Obj.data_mapFields a _)),Obj.data_mapFields a _,by simpa using l⟩
def E5 {i:Obj}{m:Yk}{c:Value}{b:Bool}(n:A.frames=some (env::outer))(r:s.heap.FunFrames base (env::outer))(u:env.frame=some L)(f:s.heap.get? e=some i)(j:i.data=.fields m)(hsz:1<m.size):
 wpAny M A (do let a <- frameOf env;let l <- entryPlaceOf L b;let b <- EntryCells.newEntry c a .none (rawInt L) .none l;setField (.ref e) 1 b) (λ_ s'=>DT s'.heap e i.dict) E s:=by
 have g:e∉(env::outer).filterMap (·.frame):=λv=>by
  obtain⟨_,o,t,p⟩:=r.mem v;rw[f] at t;cases t;exact p m j
 refine Za (wpAny_frameOf_fun n r u λh₁ hs₁=>Za (wpAny_entryPlaceOf λl q=>?_));unfold EntryCells.newEntry newFields;refine Za (wpAny_newObj_type ?_ (q.sizeOk5 _ _ _ _ _));have he₁:h₁.get? e=some i:=(hs₁.2.1 e g).trans f;have he₂:=Zq (h:=h₁) { cls:=.type "traceback",dict:=none,data:=.fields ([c,.ref L,.none,rawInt L,.none]++(if l.isEmpty then List.replicate 6 Value.none else l)).toArray } he₁;have ne:h₁.objs.size≠e:=UA (Zk he₁);refine wpAny_setField he₂ j hsz ⟨_,_,h₁.objs.size,_,_,Heap.get?_update_self _ he₂ (Obj.isFreed_of_fields (Obj.data_mapFields j _)),?_,Obj.data_mapFields j _,by simp[hsz],ne,(Heap.get?_update_other _ _ (Ne.symm ne)).trans (Zr h₁ rfl),rfl,()⟩;unfold Obj.mapFields
 split<;>rfl
def MX {a:Obj}{c:Yk}(b:A.frames=some (env::outer))(j:s.heap.FunFrames base (env::outer))(f:env.frame=some L)(g:s.heap.get? e=some a)(h:a.data=.fields c)(i:c[1]? = some .none):
 wpAny M A (noteFrame (.ref e) env) (λ_ s'=>DT s'.heap e a.dict) E s:=by
 unfold noteFrame;simp only[f];refine Za (wpAny_field g h i ?_);rw[Ze (by decide)];exact E5 b j f g h (Jj.mp i).1
def E6 (g:A.frames=some (env::outer))(u:s.heap.FunFrames base (env::outer))(m:env.frame=some L)(h:DT s.heap e d):
 wpAny M A (noteFrame (.ref e) env) (λ_ s'=>DT s'.heap e d) E s:=by
 have v:=h;obtain⟨x,y,T,z,ts,n,w,p,r,i,j,c,t⟩:=h;unfold noteFrame;simp only[m];refine Za (wpAny_field n p r ?_);rw[Zd ()];refine Za (wpAny_field j c (Array.getElem?_eq_getElem t) ?_)
 split
 .exact Zb v
 refine Za (wpAny_setField j c t ?_);have a:∀b,b≠T->(s.heap.update T (Obj.mapFields (·.setIfInBounds 3 Value.none))).get? b=s.heap.get? b:=λb f=>Heap.get?_update_other _ _ (Ne.symm f);subst w;exact E5 g (u.of_keeps λb o f l=>⟨o,(a b λq=>by rw[q,j] at f;cases f;exact l ts c).trans f,rfl⟩) m ((a e (Ne.symm i)).trans n) p (Jj.mp r).1
def E7 {a:Obj}{c:Yk}(b:A.frames=some (env::outer))(f:s.heap.FunFrames base (env::outer))(g:env.frame=some L)(h:s.heap.get? e=some a)(i:a.data=.fields c)(j:c[1]? = some .none):
 wpAny M A (leaving env (.ref e)) (λ_ s'=>DT s'.heap e a.dict) E s:=Za (Zc (MX b f g h i j) (λ_ _ q=>Xy q) λ_ _ z=>z)
def E8 (a:A.frames=some (env::outer))(b:s.heap.FunFrames base (env::outer))(c:env.frame=some L)(h:DT s.heap e d):
 wpAny M A (leaving env (.ref e)) (λ_ s'=>DT s'.heap e d) E s:=Za (Zc (E6 a b c h) (λ_ _ q=>Xy q) λ_ _ z=>z)
end
section
variable {M:Model}{A:Around}{E:Ya}{s:Shared}{base h:Heap}{env:Env}{outer l:List Env}{L e t:Addr}{cls a0:Value}{d:Option Addr}{Q:Unit->Yq}
def E9 (f:A.frames=some (env::outer))(i:env.frame=some L)(g:Heap.FlyingW base (env::outer) e cls a0 s.heap)(j:DT s.heap e d)
 (m:∀h',Heap.HeldW base (env::outer) e cls a0 L h'->s.heap.UpToSlots h'->DT h' e d->Q Ym { s with heap:=h' }):wpAny M A (noteFrame (.ref e) env) Q E s:=
 Zc (VC (wpAny_looks_onW (Q:=λ_ s'=>∃h',Heap.HeldW base (env::outer) e cls a0 L h'/\s.heap.UpToSlots h'/\s'={ s with heap:=h' }) f i g λh' a b=>⟨h',a,b,rfl⟩) (E6 (E:=E) f g.2.2.1 i j)) (λ_ _ ⟨⟨h',a,b,c⟩,q⟩=>by subst c;exact m h' a b q) λ_ _ z=>z.1
def MY (f:Heap.HeldW base l e cls a0 L s.heap)(g:DT s.heap e d)(i:∀h',Heap.FlyingW base l e cls a0 h'->s.heap.UpToSlots h'->DT h' e d->Q Ym { s with heap:=h' }):wpAny M A (setFlight (.ref e) none) Q E s:=
 Zc (VC (wpAny_landsW (Q:=λ_ s'=>∃h',Heap.FlyingW base l e cls a0 h'/\s.heap.UpToSlots h'/\s'={ s with heap:=h' }) f λh' a b=>⟨h',a,b,rfl⟩) (Xy (E:=E) g)) (λ_ _ ⟨⟨h',a,b,c⟩,q⟩=>by subst c;exact i h' a b q) λ_ _ z=>z.1
def MZ (f:Heap.FlyingW base l e cls a0 s.heap)(g:DT s.heap e d)(i:∀h',Heap.FlyingW base l e cls a0 h'->s.heap.UpToSlots h'->DT h' e d->Q Ym { s with heap:=h' }):wpAny M A (setFlight (.ref e) none) Q E s:=
 Zc (VC (lands_againW (Q:=λ_ s'=>∃h',Heap.FlyingW base l e cls a0 h'/\s.heap.UpToSlots h'/\s'={ s with heap:=h' }) f λh' a b=>⟨h',a,b,rfl⟩) (Xy (E:=E) g)) (λ_ _ ⟨⟨h',a,b,c⟩,q⟩=>by subst c;exact i h' a b q) λ_ _ z=>z.1
def Na (f:A.frames=some (env::outer))(i:env.frame=some L)(g:Heap.FlyingW base (env::outer) e cls a0 s.heap)(j:DT s.heap e d)
 (m:∀h',Heap.FlyingW base outer e cls a0 h'->s.heap.UpToSlots h'->DT h' e d->Q Ym { s with heap:=h' }):wpAny M A (leaving env (.ref e)) Q E s:=
 Zc (VC (wpAny_leaves_onW (Q:=λ_ s'=>∃h',Heap.FlyingW base outer e cls a0 h'/\s.heap.UpToSlots h'/\s'={ s with heap:=h' }) f i g λh' a b=>⟨h',a,b,rfl⟩) (E8 (E:=E) f g.2.2.1 i j)) (λ_ _ ⟨⟨h',a,b,c⟩,q⟩=>by subst c;exact m h' a b q) λ_ _ z=>z.1
end
structure FlyAt (l:List Env)(h₀:Heap)(H:Hp)(x C:Addr)(B h:Heap):Prop where
 fly:∃t,Heap.FlyingW B l x (.ref C) (.ref t) h
 trk:∀b o,h.get? b=some o->(H b≠none\/((∃u,h₀.get? b=some u)/\b∉frs l))->B.get? b=some o
def xq (P:Program)(w:World):zk:=λa H s E e s'=>∃b x C B,e=.ref x/\s'.os=s.os/\AllBare s'.gens/\Un (frs a) [] H b s.heap s'.heap/\qQ P w b s'.heap/\FlyAt a s.heap b x C B s'.heap/\∃d,DT s'.heap x d/\E (.ref C) d b
structure Thrown (X:Cx)(E:XK):Prop where
 on:∀(Y:Yb) (Z: St) (H:Hp) (s:Shared) (h₀:Heap) (x C:Addr) (B:Heap) (d:Option Addr),Inv X Y Z H s->(∀b u,X.s₀.heap.get? b=some u->b∉X.ex->∃u',h₀.get? b=some u')->FlyAt X.stack h₀ H x C B s.heap->DT s.heap x d->E (.ref C) d H->X.xe (.ref x) s
structure Raises (X:Cx)(E:XK):Prop where
 new:∀(Y:Yb) (Z: St) (H:Hp) (s:Shared) (h':Heap) (x C:Addr) (args:Yd),Inv X Y Z H s->Heap.MadeExcOf s.heap h' x (.ref C) args->E (.ref C) none H->X.xe (.ref x) { s with heap:=h' }
def Thrown.passes {X:Cx}{E:XK}(T:Thrown X E):W3 (xq X.prog X.w) X E:=by
 intro Y Z H s e s' I ⟨c,x,C,B,f,os,bare,un,a,g,d,h,i⟩;subst f;have j:=I.call' (s':=s') (ch:=[]) os un a bare (λb z=>Zn z ());exact T.on Y Z c s' s.heap x C B d j (λb u e hx=>I.base.there b u e hx) g h i
section
variable {P:Program}{w:World}{K:W.Frag}{mg:Yc}{base:Heap}{N:Yh}{qual:Str}{scope:Scope}{f:Addr}{cd:Value}{A:Around}{outer:List Env}{s:Shared}{H:Hp}{E:XK}
def Z1 {Y:Yb}{Z: St}{m:Hp}{s':Shared}{h₀ d B:Heap}{x C t:Addr}{r:Option Addr}(I:Inv (jP (xq P w) P w K mg base N qual scope f cd A outer s H E) Y Z m s')
 (L:∀b u,s.heap.get? b=some u->∃M,h₀.get? b=some M) (p:Heap.FlyingW B outer x (.ref C) (.ref t) d) (O:s'.heap.UpToSlots d)
 (trk:∀b o,s'.heap.get? b=some o->(m b≠none\/((∃u,h₀.get? b=some u)/\b∉frs (envOfC qual scope s.heap.objs.size f cd::outer)))->B.get? b=some o) (Q:DT d x r) (R:E (.ref C) r m):
 xq P w outer H s E (.ref x) { s' with heap:=d }:=by
 have y:∀b u,s.heap.get? b=some u->b∉frs outer->b∉frs (envOfC qual scope s.heap.objs.size f cd::outer):=λb u e a z=>by
  unfold frs at z a;rw[Uv] at z;have z:b∈s.heap.objs.size::outer.filterMap (·.frame):=z;rcases Uj.mp z with q|q
  .exact Zn (Zk e) (by rw[q];exact Zy _)
  .exact a q
 have g:∀b:Addr,b∉(jP (xq P w) P w K mg base N qual scope f cd A outer s H E).ex:=λb z=>Zn (show b∈([]:Yi) from z) ();have keep:∀b o,s'.heap.get? b=some o->(m b≠none\/((∃u,s.heap.get? b=some u)/\b∉frs outer))->B.get? b=some o:=λb o e c=>by
  refine trk b o e ?_;rcases c with c|⟨⟨u,hu⟩,a⟩
  .exact .inl c
  .exact .inr ⟨L b u hu,y b u hu a⟩
 have l:∀b o,s.heap.get? b=some o->b∈frs outer->∃F,d.get? b=some { o with slots:=F }:=λb o e a=>by
  obtain⟨F,S⟩:=I.base.slot b o e (I.ok.frf b a) a (g b);obtain⟨_,i,j,T⟩:=I.ok.funs.mem a;have j:s.heap.get? b=some i:=j;rw[e] at j;obtain rfl:=Zqi j;obtain⟨G,U⟩:=O b _ S T;exact⟨G,U⟩
 refine⟨m,x,C,B,rfl,I.os,I.bare,⟨λb o e n a _=>?_,λb o e n a _=>l b o e a,λb o e n _=>I.base.free b o e n (g b),λb o e _=>?_,I.base.tups,I.base.frzs,I.base.tbls⟩,λb u e=>?_,⟨⟨t,p⟩,λb o e c=>?_⟩,r,Q,R⟩
 .exact p.1 b o (keep b o (I.base.keep b o e n a (g b)) (.inr ⟨⟨o,e⟩,a⟩))
 .by_cases a:b∈frs outer
  .obtain⟨F,q⟩:=l b o e a;exact⟨_,q⟩
  .obtain⟨i,J⟩:=I.base.there b o e (g b);exact⟨i,p.1 b i (keep b i J (.inr ⟨⟨o,e⟩,a⟩))⟩
 .refine(I.hok b u e).stay (λc v X q=>p.1 c v (keep c v q (.inl ?_))) (λ_ q=>q) λ_ _ q=>q;rcases X with z|z
  .rw[z,e];simp
  .rw[z];simp
 .have ex:∃i,s'.heap.get? b=some i:=by
   rcases c with c|⟨⟨u,hu⟩,_⟩
   .cases q:m b with
    |none=>exact Zn q c
    |some u=>exact(I.hok b u q).has
   .exact I.base.there b u hu (g b)
  obtain⟨i,J⟩:=ex;have k:=keep b i J c;have:=p.1 b i k;have e:d.get? b=some o:=e;rw[e] at this;obtain rfl:=Zqi this;exact k
def VD:Thrown (jP (xq P w) P w K mg base N qual scope f cd A outer s H E) E:=by
 refine⟨λY Z n s' h₀ x C B o I i a j l=>?_⟩;obtain⟨⟨t,c⟩,trk⟩:=a;have d:∀b:Addr,b∉(jP (xq P w) P w K mg base N qual scope f cd A outer s H E).ex:=λb z=>Zn (show b∈([]:Yi) from z) ();exact Na I.ok.frames rfl c j λh' a m g=>Z1 I (λb u e=>i b u e (d b)) a m trk g l
def U7:Raises (jP (xq P w) P w K mg base N qual scope f cd A outer s H E) E:=by
 refine⟨λY Z F s' h' x C args I hx n=>?_⟩;have st:=I.stack;have i:∀env∈(envOfC qual scope s.heap.objs.size f cd::outer),∀a,env.frame=some a->a∈frs (envOfC qual scope s.heap.objs.size f cd::outer):=λenv p a q=>Ji.mpr ⟨env,p,q⟩;have B:=W.hideAll s'.heap (frs (envOfC qual scope s.heap.objs.size f cd::outer));obtain⟨tt,j,_,_⟩:=hx.there;have g:=W.funFrames_hide st i;refine Zc (VC (wpAny_leaves_madeW (s:={ s' with heap:=h' }) (base:=W.hideAll s'.heap (frs (envOfC qual scope s.heap.objs.size f cd::outer))) (h:=s'.heap) (Q:=λ_ r=>∃d t,Heap.FlyingW (W.hideAll s'.heap (frs (envOfC qual scope s.heap.objs.size f cd::outer))) outer x (.ref C) (.ref t) d/\h'.UpToSlots d/\r={ s' with heap:=d }) I.ok.frames rfl (λb o e=>W.of_hideAll _ e) g hx λd t l v G m=>⟨d,t,l,m,rfl⟩)
  (E7 (E:=λ_ _=>True) (s:={ s' with heap:=h' }) I.ok.frames (g.of_keeps λb o y _=>⟨o,hx.keeps b o y,rfl⟩) rfl j rfl rfl)) ?_ λ_ _ z=>z.1
 rintro _ _ ⟨⟨d,t,l,m,rfl⟩,dt⟩;refine Z1 (s':=s') (h₀:=s'.heap) I (λb u e=>I.base.there b u e (by show b∉([]:Yi);simp)) l ((Heap.UpToSlots.of_keeps hx.keeps).trans m) (λb o e c=>?_) dt n;refine W.hideAll_get _ e λz=>?_;rcases c with c|c
 .exact c (I.stkFree b z)
 .exact c.2 z
end
def zx (P:Program)(w:World)(K:W.Frag)(b:Yc)(base:Heap)(a:Str)(k:Nat)(c:Yh)(sp:Sp):Prop:=
 ∃f d,FnOk P w K b base (xq P w) k f d c sp/\yP K d c []/\W.keepIn K (.ref f)=true/\b a=some (.ref f)
theorem zx.mono {P:Program}{w:World}{K:W.Frag}{b:Yc}{base:Heap}{a:Str}{j k:Nat}{d:Yh}{sp:Sp}(c:zx P w K b base a j d sp)(h:j<=k):zx P w K b base a k d sp:=by
 obtain⟨f,e,F,r⟩:=c;exact⟨f,e,F.mono h,r⟩
section
variable {X:Cx}{E:XK}{name:Str}{k:Nat}{ps:Yh}{sp:Sp}{p pos:Pos}{e:Expr}{es:Yj}{t:TA}
def EA (c:zx X.prog X.w X.K X.mg X.base name k ps sp)(T:Thrown X E)(g:Room k X.A)(h:Gl X name)(i:PA X (e::es) t)
 (a:(name == ("__debug__" : Str))=false:=by decide) (j:starEach (e::es) X.env=(false,eval e X.env)::starEach es X.env:=by rfl) (d:(backTo pos (starEach es X.env)).any (·.1)=false:=by rfl):
 PE X (.Call (.Name name p) (e::es) [] pos) (AA sp [] E t):=by
 obtain⟨f,n,F,b,l,m⟩:=c;exact Dl F g h m l b .nil T.passes i a j d
end
def Fun.okX {P:Program}{w:World}{K:W.Frag}{j:Yc}{base:Heap}{x b:Str}{st:Stmt}{f:Addr}{l:FuncData}{N g:Yh}{k:Nat}{sp:Sp}(F:Fun K x b st f l)(S:FnScope N g (JN st))(len:∀d H Q E,sp d H Q E->d.length=g.length)
 (e:∀c A a s H d Q E,Room k (A.deeper (envOfC b (JN st) s.heap.objs.size f c))->sp d H Q E ->
  ∃t,qY (jP (xq P w) P w K j base N b (JN st) f c A a s H E) (Q8 st) t/\t { nx:=λ_ m=>Q .non m,rt:=Q } (start N d) H):FnOk P w K j base (xq P w) (k+1) f l g sp:=by
 obtain⟨r,u,kV,n,v,y,c,ct,o,rfl,p,h⟩:=F.ex;exact Du p h S len λA a s H d Q E q i=>e c A a s H d Q E q i
end L2
namespace L2.DL
def xi (K:W.Frag)(a:Yt->Res D):Sp:=λb H Q E=>∃F ds,jm F H/\IsDs K F ds b/\(a ds).need (yc K F H Q) (XW K E F H)
def wH (K:W.Frag)(a:Yt->Res D):Sp:=λb H Q E=>∃F ds,jm F H/\IsDs K F ds b/\(a ds).need (yq K F H Q) (XW K E F H)
def Res.strict {α: Type}:Res α -> Res α
 | .ok a=>.ok a
 |_=>.no
@[simp]def zV {α: Type}(a:α):(Res.ok a).strict=.ok a:=rfl
@[simp]def zW {α: Type}:(Res.no:Res α).strict=.no:=rfl
def Res.need_strict {α: Type}{r:Res α}{p:α -> Prop}{q q':Str->Yt->Prop}(h:r.strict.need p q):r.need p q':=by
 cases r with
 |ok a=>exact h
 |ex c fs=>exact h.elim
 |no=>exact h
def U8 (a:Yt->Res D)(b:FA):FE:=λsd=>(b sd).bind λds=>(a ds).strict
@[simp]def me (Fn)(fr)(sd):U8 Fn fr sd=(fr sd).bind λds=>(Fn ds).strict:=rfl
section
variable {X:Cx}{E:XK}{name:Str}{k:Nat}{ps:Yh}{Fn:Yt->Res D}{p pos:Pos}{e:Expr}{es:Yj}{fr:FA}
def VE (c:zx X.prog X.w X.K X.mg X.base name k ps (xi X.K Fn))(T:Thrown X E)(f:Room k X.A)(g:Gl X name)(h:QA X E (e::es) fr)
 (a:(name == ("__debug__" : Str))=false:=by decide) (i:starEach (e::es) X.env=(false,eval e X.env)::starEach es X.env:=by rfl) (b:(backTo pos (starEach es X.env)).any (·.1)=false:=by rfl):
 QE X E (.Call (.Name name p) (e::es) [] pos) (J1 Fn fr):=PE.weak (EA c T f g h a i b) λZ H Q j=>by
 obtain⟨B,F,sd,r,n⟩:=j;refine⟨B,F,sd,r,(Res.need_bind n).mono (λxs l m o s d t=>?_) λ_ _ q=>q⟩;show xi X.K Fn (m++[]) s Q E;rw[ZA];exact⟨o,xs,d.fh,t,We l d⟩
def Nb (c:zx X.prog X.w X.K X.mg X.base name k ps (wH X.K Fn))(T:Thrown X E)(f:Room k X.A)(g:Gl X name)(h:QA X E (e::es) fr)
 (a:(name == ("__debug__" : Str))=false:=by decide) (i:starEach (e::es) X.env=(false,eval e X.env)::starEach es X.env:=by rfl) (b:(backTo pos (starEach es X.env)).any (·.1)=false:=by rfl):
 QN X E (.Call (.Name name p) (e::es) [] pos) (J1 Fn fr):=PE.weak (EA c T f g h a i b) λZ H Q j=>by
 obtain⟨B,F,sd,r,n⟩:=j;refine⟨B,F,sd,r,(Res.need_bind n).mono (λxs l m o s d t=>?_) λ_ _ q=>q⟩;show wH X.K Fn (m++[]) s Q E;rw[ZA];exact⟨o,xs,d.fh,t,AN l d⟩
def Bv (c:zn X.prog X.w X.K X.mg X.base name k ps (xA X.K Fn))(f:Room k X.A)(g:Gl X name)(h:QA X E (e::es) fr)
 (a:(name == ("__debug__" : Str))=false:=by decide) (i:starEach (e::es) X.env=(false,eval e X.env)::starEach es X.env:=by rfl) (b:(backTo pos (starEach es X.env)).any (·.1)=false:=by rfl):
 QE X E (.Call (.Name name p) (e::es) [] pos) (U8 Fn fr):=PE.weak (W6 c f g h a i b) λZ H Q j=>by
 obtain⟨B,F,sd,r,n⟩:=j;refine⟨B,F,sd,r,(Res.need_bind n).mono (λxs l m o s d t=>?_) λ_ _ q=>q⟩;show xA X.K Fn (m++[]) s Q E0;rw[ZA];exact⟨o,xs,d.fh,t,Res.need_strict (We l d)⟩
def EB (c:zn X.prog X.w X.K X.mg X.base name k ps (vd X.K Fn))(f:Room k X.A)(g:Gl X name)(h:QA X E (e::es) fr)
 (a:(name == ("__debug__" : Str))=false:=by decide) (i:starEach (e::es) X.env=(false,eval e X.env)::starEach es X.env:=by rfl) (b:(backTo pos (starEach es X.env)).any (·.1)=false:=by rfl):
 QN X E (.Call (.Name name p) (e::es) [] pos) (U8 Fn fr):=PE.weak (W6 c f g h a i b) λZ H Q j=>by
 obtain⟨B,F,sd,r,n⟩:=j;refine⟨B,F,sd,r,(Res.need_bind n).mono (λxs l m o s d t=>?_) λ_ _ q=>q⟩;show vd X.K Fn (m++[]) s Q E0;rw[ZA];exact⟨o,xs,d.fh,t,Res.need_strict (AN l d)⟩
end
section
variable {P:Program}{w:World}{K:W.Frag}{mg:Yc}{base:Heap}{x qual:Str}{f:Addr}{fd:FuncData}{N ps:Yh}{k:Nat}{st:Stmt}
def VF {g:FS}(F:Fun K x qual st f fd)(S:FnScope N ps (JN st))
 (e:∀b A a s H E,Room k (A.deeper (envOfC qual (JN st) s.heap.objs.size f b))->zg (jP (xq P w) P w K mg base N qual (JN st) f b A a s H E) E false (Q8 st) g):
 FnOk P w K mg base (xq P w) (k+1) f fd ps (xi K (jB N.length ps.length g)):=by
 refine F.okX S (λi H Q E ⟨F,ds,_,h,n⟩=>?_) λb A a s H i Q E j ⟨F,ds,l,h,n⟩=>⟨_,e b A a s H E j,?_⟩
 .unfold jB at n
  split at n
  .rw[h.length];lia
  .exact n.elim
 .unfold jB at n
  split at n
  .refine⟨⟨F,H,λ_=>none⟩,F,_,RS.start l h,(Res.need_bind n).mono (λo c=>?_) λ_ _ q=>q⟩;cases o with
   |next sd=>exact λZ m p _ r=>c .non m p r.ext (jt.mpr rfl)
   |ret d=>exact c
   |brk sd=>exact c.elim
   |cont sd=>exact c.elim
  .exact n.elim
def bd {g:FS}(F:Fun K x qual st f fd)(S:FnScope N ps (JN st))
 (e:∀b A a s H E,Room k (A.deeper (envOfC qual (JN st) s.heap.objs.size f b))->zg (jP (xq P w) P w K mg base N qual (JN st) f b A a s H E) E true (Q8 st) g):
 FnOk P w K mg base (xq P w) (k+1) f fd ps (wH K (qR N.length ps.length g)):=by
 refine F.okX S (λi H Q E ⟨F,ds,_,h,n⟩=>?_) λb A a s H i Q E j ⟨F,ds,l,h,n⟩=>⟨_,e b A a s H E j,?_⟩
 .unfold qR at n
  split at n
  .rw[h.length];lia
  .exact n.elim
 .unfold qR at n
  split at n
  .refine⟨⟨F,H,λ_=>none⟩,F,_,RS.start l h,(Res.need_bind n).mono (λo c=>?_) λ_ _ q=>q⟩;cases o with
   |next sd=>exact c.elim
   |ret d=>exact c
   |brk sd=>exact c.elim
   |cont sd=>exact c.elim
  .exact n.elim
end
end L2.DL
namespace L2
section
variable {X:Cx}{x:Str}{v e:Expr}{tv:TE}{t:TA}{p1 p2 np cpos pos:Pos}{k}
structure Exc (K:W.Frag)(mg:Yc)(c:Str)(C:Addr):Prop where
 ns:W.nsIn K mainGlobals c=some (some (.ref C))
 mgc:mg c=some (.ref C)
 exc:W.excIn K C [.type "ValueError",.type "Exception",.type "BaseException",.type "object"] "ValueError.__new__" = true
def cL (m:Yd)(l:List Ye)(g:Addr->List Value->Option Value->Option Value->Option Value->Option Value->String->Option Value->Bool):Prop:=
 ∃C bm k0 k1 k2 k3 n k5,m=.ref C::bm/\l=[k0,k1,k2,k3,some (.builtin n),k5]/\g C bm k0 k1 k2 k3 n k5=true
def Nc
 (q:W.excIn.match_1 (λ_ _=>Bool) m l g (λ_ _=>false)=true):cL m l g:=by
 cases m with
 |nil=>exact JC q
 |cons v bm =>
  cases v with
  |ref C =>
   cases l with
   |nil=>exact JC q
   |cons k0 l =>
    cases l with
    |nil=>exact JC q
    |cons k1 l =>
     cases l with
     |nil=>exact JC q
     |cons k2 l =>
      cases l with
      |nil=>exact JC q
      |cons k3 l =>
       cases l with
       |nil=>exact JC q
       |cons a l =>
        cases a with
        |none=>exact JC q
        |some u =>
         cases u with
         |builtin n =>
          cases l with
          |nil=>exact JC q
          |cons k5 l =>
           cases l with
           |nil=>exact⟨_,_,_,_,_,_,_,_,rfl,rfl,q⟩
           |cons _ _=>exact JC q
         |_=>exact JC q
  |_=>exact JC q
def Bw {K:W.Frag}{h:Heap}{C:Addr}{c:Yd}{newId:String}{P:Prop}(f:K.In h)(q:W.excIn K C c newId=true)
 (k:∀bm N nm g bs hdct sn sub ab col dd k0 k1 k2 k3 k5 j,h.get? C=some (excClassObj nm g C N bs bm hdct sn sub ab col dd k0 k1 k2 k3 k5 newId)->h.Ns N j->j "__init__" = none->OwnTail h c bm->P):P:=by
 unfold W.excIn at q
 split at q
 .rename_i dd cd m r;obtain⟨E,bm,k0,k1,k2,k3,n,k5,o,s,q⟩:=Nc q;simp only[Ua,Yl,UH] at q;obtain⟨⟨⟨⟨⟨u,w⟩,a⟩,y⟩,b⟩,d⟩:=q;subst u w;have p:=f _ _ r;obtain⟨nm,bs,z,ns,g,A,sn,sub,ab,col,B⟩:=cd;dsimp only at o a b d p;subst o a;have i:m = #[k0,k1,k2,k3,some (.builtin n),k5]:=by
   obtain⟨l⟩:=m;exact Zt Array.mk s
  subst i;exact k bm ns nm g bs A sn sub ab col dd k0 k1 k2 k3 k5 _ p (.of_isNs (W.isNs_of_in f b)) (W.nsMap_none_of_in f b d) (W.tail_of_in f y)
 .exact JC q
def Nd (C:Addr)(E:XK)(t:TA):TS:=λ_ Z H=>t Z H λa b=>a.length<=1000/\E (.ref C) none b
def Nf {E:XK}{c:Str}{C:Addr}(R:Raises X E)(d:Exc X.K X.mg c C)(i:X.calm=true)(j:Gl X c)(l:PA X [e] t)(m:(c == ("__debug__" : Str))=false:=by decide)
 (f:starEach [e] X.env=(false,eval e X.env)::starEach [] X.env:=by rfl):PS X (.Raise (some (.Call (.Name c np) [e] [] cpos)) none pos) (Nd C E t):=by
 intro Y s Z H D I h;refine Bw I.mod.kin d.exc λz N nm q bs hdct sn sub ab col dd k0 k1 k2 k3 k5 A n o b T=>(wpAny_Raise_call_subU (nm:=nm) (q:=q) (N:=N) (bs:=bs) (hdct:=hdct) (sn:=sn) (sub:=sub) (ab:=ab) (col:=col) (dd:=dd) (k0:=k0) (k1:=k1) (k2:=k2) (k3:=k3) (k5:=k5)
  PySem.F.excBase_ValueError (by rfl) PySem.F.excBase_ValueError (T.hasType PySem.F.excBase_ValueError.hasBase) (I.ok.hd i) (by rw[f];rfl) b (V0 I j d.mgc ⟨rfl,?_⟩ m))
 have g:=l cpos Y s Z H _ I h;rw[f] at g ⊢;refine Calls.evalArgs_plain (Zc g (λB p ⟨ws,r,a,u,F,w⟩=>?_) λ_ _ y=>y);have G:=u.length;refine⟨rfl,small (),a.bk _ _ n,o.keeps a.bk,T.keeps a.bk,λh' x hx=>R.new Y Z r p h' x C _ a hx w⟩
end
end L2
namespace L2.DL
def Qs (c:Str)(f:FE):FS:=λsd=>(f sd).bind λ_=>.ex c []
@[simp]def bQ (c)(f)(sd):Qs c f sd=(f sd).bind λ_=>.ex c []:=rfl
section
variable {X:Cx}{E:XK}{m:Option Bool}{x:Str}{v e:Expr}{fv fe:FE}{p1 p2 np cpos pos:Pos}{k}
def U9 (R:Raises X E)(ex:Exc X.K X.mg c C)(f:X.calm=true)(g:Gl X c)(h:QE X E e fe)(i:(c == ("__debug__" : Str))=false:=by decide)
 (a:starEach [e] X.env=(false,eval e X.env)::starEach [] X.env:=by rfl):QS X E m (.Raise (some (.Call (.Name c np) [e] [] cpos)) none pos) (Qs c fe):=
 PS.weak (Nf R ex f g (Js h Ju a) i a) λT Z H j=>by
  obtain⟨B,F,sd,r,n⟩:=j;have l:(Jr fe jd sd).need (λds=>ds.length=1/\XW X.K E B.F0 B.H0 c []) (XW X.K E F H):=by
   unfold Qs at n;unfold Jr jd;cases b:fe sd with
   |ok d=>rw[b] at n;exact⟨rfl,n⟩
   |ex o fs=>rw[b] at n;exact XW.ext (n:XW X.K E B.F0 B.H0 o fs) r.ext
   |no=>rwa [b] at n
  refine⟨B,F,sd,r,l.mono (λds p y s t u w=>?_) λ_ _ q=>q⟩;have:=w.length;exact⟨(),p.2 (.ref C) none s t (r.ext.trans u) ⟨C,rfl,ex.ns,.inl rfl⟩⟩
end
end L2.DL
namespace L2
def Z3 (X:Cx)(Y:Yb)(Z: St)(E:XK)(e:Value)(s':Shared):Prop:=
 ∃a h₀ x C B,e=.ref x/\Inv X Y Z a s'/\(∀b u,X.s₀.heap.get? b=some u->b∉X.ex->∃c,h₀.get? b=some c)/\(∀p∈X.pn++Y,∃u,h₀.get? p.1=some u)/\FlyAt X.stack h₀ a x C B s'.heap/\∃d,DT s'.heap x d/\E (.ref C) d a
section
variable {X:Cx}{Y:Yb}{Z: St}{H:Hp}{s:Shared}{E:XK}
def Ng (F:FnOk X.prog X.w X.K X.mg X.base (xq X.prog X.w) k f fd ps sp)(i:Room k X.A)(j:yP X.K fd ps [])
 (I:Inv X Y Z H s) (r:js vs us) (h:sp vs H Q E):Yv X (call (.ref f) us) (EP X Y Z Q) (Z3 X Y Z E) s:=by
 have l:(us++[]).length=ps.length:=by rw[ZA,<- r.length];exact F.len _ _ _ _ h
 have a:=j s us I.kIn l;rw[ZA] at a;refine wpAny_call (codeAny_mono (F.run X.A X.stack s H ⟨us,[]⟩ us vs Q E i I.env0 a r h) λr s' c=>?_);cases r with
 |error e =>
  obtain⟨m,x,C,B,n,os,bare,un,d,g,o⟩:=c;subst n;exact⟨m,s.heap,x,C,B,rfl,I.call' os un d bare (λb z=>Zn z ()),λb u e hx=>I.base.there b u e hx,λp q=>⟨_,(I.pin p q).1⟩,g,o⟩
 |ok g =>
  cases g with
  |ret u=>exact I.after c
  |next=>exact False.elim c
  |brk=>exact False.elim c
  |cont=>exact False.elim c
def Nh (c:zx X.prog X.w X.K X.mg X.base name k ps sp)(l:Room k X.A)(m:Gl X name)(n:PA X.nox (e::es) t)
 (a:(name == ("__debug__" : Str))=false) (o:starEach (e::es) X.env=(false,eval e X.env)::starEach es X.env) (d:(backTo pos (starEach es X.env)).any (·.1)=false)
 (I:Inv X Y Z H s) (h:t Z H λg i=>sp g i Q E):Yv X (eval (.Call (.Name name p) (e::es) [] pos) X.env) (EP X Y Z Q) (Z3 X Y Z E) s:=by
 obtain⟨f,w,F,b,u,v⟩:=c;exact wpAny_Call_Name_kw (V0 I m v (W.callWith_K I.ok.mod.kin u (Zc (n pos Y s Z H _ (I.wish _) h) (λx y ⟨g,i,j,r,q⟩=>⟨j.kIn,Ng F l b j.unwish r q⟩) λ_ _ z=>z.elim) o d) a)
def Inv.flown {h₀ h' B:Heap}{x C t:Addr}(I:Inv X Y Z H s)(M:∀b u,X.s₀.heap.get? b=some u->b∉X.ex->∃P,h₀.get? b=some P)(Q:∀p∈X.pn++Y,∃u,h₀.get? p.1=some u)
 (trk:∀b o,s.heap.get? b=some o->(H b≠none\/((∃u,h₀.get? b=some u)/\b∉frs X.stack))->B.get? b=some o) (A:Heap.FlyingW B X.stack x (.ref C) (.ref t) h') (J:s.heap.UpToSlots h'):Inv X Y Z H { s with heap:=h' }:=by
 have g:∀b u,X.s₀.heap.get? b=some u->b∉X.fs->b∉frs X.stack:=λb u e a z=>by
  rcases Uj.mp (I.stkSub b z) with q|q
  .exact Zn (Zk e) (by rw[q];exact Nat.not_lt.mpr I.ok.above)
  .exact a q
 have d:∀b o,X.s₀.heap.get? b=some o->b∈X.fs->b∉X.ex->∃F,h'.get? b=some { o with slots:=F }:=λb o e a hx=>by
  obtain⟨F,R⟩:=I.base.slot b o e (I.ok.frf b a) a hx;obtain⟨_,G,j,K⟩:=I.ok.funs.mem a;rw[e] at j;obtain rfl:=Zqi j;obtain⟨L,S⟩:=J b _ R K;exact⟨L,S⟩
 have f:∀c v,s.heap.IsCell c v->h'.IsCell c v:=λc v T=>by
  obtain⟨o,U,K⟩:=T;obtain⟨F,e⟩:=J c o U λvs q=>by simp_all
  exact⟨_,e,K⟩
 obtain⟨m,hn,hl⟩:=id I.loc;refine⟨I.ok,I.os,I.bare,⟨λb o e n a hx=>?_,λb o e n a hx=>d b o e a hx,λb o e n hx=>I.base.free b o e n hx,λb o e hx=>?_,I.base.tups,I.base.frzs,I.base.tbls⟩,⟨m,J.ns hn,λi y v h1 h2 h3=>?_⟩,λy c e=>?_,I.free,I.freeC,λp w=>?_,λb u e=>?_,I.len⟩
 .exact A.1 b o (trk b o (I.base.keep b o e n a hx) (.inr ⟨M b o e hx,g b o e a⟩))
 .by_cases a:b∈X.fs
  .obtain⟨F,q⟩:=d b o e a hx;exact⟨_,q⟩
  .obtain⟨G,e'⟩:=I.base.there b o e hx;exact⟨G,A.1 b G (trk b G e' (.inr ⟨M b o e hx,g b o e a⟩))⟩
 .obtain⟨u,r,l⟩:=hl i y v h1 h2 h3;refine⟨u,r,?_⟩;rcases l with l|⟨k,c,e,z⟩
  .exact .inl l
  .exact .inr ⟨k,c,e,f c _ z⟩
 .obtain⟨v,q⟩:=I.cell y c e;exact⟨v,f c v q⟩
 .obtain⟨q1,q2,N,O,q5⟩:=I.pin p w;refine⟨A.1 _ _ (trk _ _ q1 (.inr ⟨Q p w,λz=>?_⟩)),q2,N,O,q5⟩;rcases Uj.mp (I.stkSub _ z) with q|q
  .exact N q
  .exact O q
 .refine(I.hok b u e).stay (λc v hc q=>A.1 c v (trk c v q (.inl ?_))) (λ_ q=>q) λ_ _ q=>q
  grind
abbrev Cx.inSuite (X:Cx)(x:Addr):Cx:={ X with A:=X.A.mark (some (.ref x)),calm:=false,xe:=λ_ _=>False }
def Inv.suite (I:Inv X Y Z H s)(x:Addr):Inv (X.inSuite x) Y Z H s:=
 ⟨⟨I.ok.mod,I.ok.kind,I.ok.glob,I.ok.blt,I.ok.above,I.ok.inj,I.ok.has,I.ok.cab,(),I.ok.frames,I.ok.stk,I.ok.exf,I.ok.bs,I.ok.bsz,I.ok.noex,I.ok.exfs,I.ok.funs,I.ok.frf⟩,I.os,I.bare,I.base,I.loc,I.cell,I.free,I.freeC,I.pin,I.hok,I.len⟩
def Inv.unsuite (I:Inv (X.inSuite x) Y Z H s)(ok:X.Ok):Inv X Y Z H s:=⟨ok,I.os,I.bare,I.base,I.loc,I.cell,I.free,I.freeC,I.pin,I.hok,I.len⟩
theorem SP.unsuite (h:SP (X.inSuite x) Y D f s')(ok:X.Ok):SP X Y D f s':=by
 cases f with
 |next=>obtain⟨a,b,I,q⟩:=h;exact⟨a,b,I.unsuite ok,q⟩
 |brk=>obtain⟨a,b,I,q⟩:=h;exact⟨a,b,I.unsuite ok,q⟩
 |cont=>obtain⟨a,b,I,q⟩:=h;exact⟨a,b,I.unsuite ok,q⟩
 |ret u=>obtain⟨v,a,b,I,r,q⟩:=h;exact⟨v,a,b,I.unsuite ok,r,q⟩
end
end L2
namespace L2.DL
def wc (i:Nat)(c:Str)(a:FS)(sd:SD):Res D->Res Out
 | .ok d=>.ok (.next (sd.set i (~~~d)))
 | .ex c' [] => @ite _ (c'=c) (Classical.propDecidable _) (a sd).strict .no
 |_=>.no
@[simp]def nt (i)(c)(gs)(sd)(d):wc i c gs sd (.ok d)=.ok (.next (sd.set i (~~~d))):=rfl
@[simp]def nu (i)(c)(gs)(sd):wc i c gs sd (.ex c [])=(gs sd).strict:=@if_pos _ (Classical.propDecidable _) rfl _ _ _
def tL (i:Nat)(c:Str)(a:Yt->Res D)(b:FA)(d:FS):FS:=λsd=>(b sd).strict.bind λds=>wc i c d sd (a ds)
@[simp]def dN (i)(c)(Fn)(fr)(gs)(sd):tL i c Fn fr gs sd=(fr sd).strict.bind λds=>wc i c gs sd (Fn ds):=rfl
end L2.DL
namespace L2
def Va {P:Program}{w:World}{K:W.Frag}{d:Yc}{base:Heap}{N:Yh}{c:Str}{b:Scope}{f:Addr}{cd:Value}{A:Around}{a:List Env}{s:Shared}{H:Hp}{E:XK} :
 PassesOwn (model (jP (xq P w) P w K d base N c b f cd A a s H E).prog (jP (xq P w) P w K d base N c b f cd A a s H E).w) (jP (xq P w) P w K d base N c b f cd A a s H E).A (jP (xq P w) P w K d base N c b f cd A a s H E).env (jP (xq P w) P w K d base N c b f cd A a s H E).xe:=
 PassesOwn.leaving (Q₁:=λe g=>xq P w a H s E e g)
end L2
namespace L2.DL
def Z5 (g':D->D->Yu)(a:FE)(sd:SD)(y:D):D->Res D
 | .bl true=>(a sd).bind λw=>.ofO (g' y w)
 | .bl false=>.ok (.bl false)
 |_=>.no
@[simp]def m4 (g':D->D->Yu)(a:FE)(sd:SD)(y:D):Z5 g' a sd y (.bl true)=(a sd).bind λw=>.ofO (g' y w):=rfl
@[simp]def m5 (g':D->D->Yu)(a:FE)(sd:SD)(y:D):Z5 g' a sd y (.bl false)=.ok (.bl false):=rfl
def QX (g g':D->D->Yu)(a b c:FE):FE:=λsd=>(a sd).bind λx=>(b sd).bind λy=>(Res.ofO (g x y)).bind (Z5 g' c sd y)
@[simp]def bZ (g g':D->D->Yu)(a b c:FE)(sd:SD):QX g g' a b c sd=(a sd).bind λx=>(b sd).bind λy=>(Res.ofO (g x y)).bind (Z5 g' c sd y):=rfl
section
variable {X:Cx}{E:XK}{a b c:Expr}{fa fb fc:FE}{g g':D->D->Yu}{pos:Pos}
def EC {K:W.Frag}{Z: St}{H:Hp}{Q:VK}(h:tD K E (QX g g' fa fb fc) Z H Q):A6 (z8 K g) (z8 K g') (tD K E fa) (tD K E fb) (tD K E fc) Z H Q:=by
 obtain⟨B,F,sd,r,n⟩:=h;refine⟨B,F,sd,r,(Res.need_bind n).mono (λx p v s P d t=>?_) λ_ _ q=>q⟩;refine⟨B,s,sd,r.step d,(Res.need_bind p).mono (λy A w C R e m=>?_) λ_ _ q=>q.ext d⟩;obtain⟨z,G,i⟩:=ji (Res.need_bind A);refine⟨C,x,y,z,e.fh,IsD.same e.ff _ _ t,m,G,λS o I f J=>?_⟩;cases z with
 |bl k =>
  refine⟨k,jj.mp J,?_⟩;cases k with
  |true =>
   rw[Zd rfl];refine⟨B,o,sd,((r.step d).step e).step f,(Res.need_bind i).mono (λu L T M U j N=>?_) λ_ _ q=>q.ext (d.trans (e.trans f))⟩;obtain⟨O,l,q⟩:=ji L;exact⟨M,y,u,O,j.fh,IsD.same (f.ff.trans j.ff) _ _ m,N,l,q.ext (d.trans (e.trans (f.trans j)))⟩
  |false =>
   rw[Ze (by decide)];exact i _ o I (d.trans (e.trans f)) (jj.mpr rfl)
 |_=>exact i.elim
def Ni (e:qA X (compareOp op) (z8 X.K g))(d:qA X (compareOp op') (z8 X.K g'))(f:QE X E a fa)(i:QE X E b fb)(j:QE X E c fc)
 (l:lastMarks [op,op'] [b,c]=false:=by with_unfolding_all rfl):QE X E (.Compare a [op,op'] [b,c] pos) (QX g g' fa fb fc):=PE.weak (Il e d f i j l) λ_ _ _ h=>EC h
end
def xz (H:Hp)(l:Addr):Hp:=λa=>if a=l then none else H a
def Nj:jm (xz H l) H:=λa o e=>by
 simp_all [xz]
def Nk:xz H l l=none:=by simp_all [xz]
def Nl (h:a≠l):xz H l a=H a:=by simp_all [xz]
def WN (n j:Nat)(ds:Yt):SD:=match ds[j]? with
 |some d=>(Qk n ds).set j (some (.own false d))
 |none=>Qk n ds
def WO (n a j:Nat)(g:FS)(ds:Yt):Res D:=if ds.length=a then(g (WN n j ds)).bind λo=>match o with
 | .ret d=>.ok d
 |_=>.no else .no
def Z8 (n a j:Nat)(g:FS)(ds:Yt)(h:ds.length=a):WO n a j g ds=(g (WN n j ds)).bind xD:=by
 unfold WO;rw[Zd h];cases g (WN n j ds) with
 |ok o=>cases o<;>rfl
 |ex c fs=>rfl
 |no=>rfl
@[simp]def n7 (n:Nat)(g:FS)(a b:D):WO n 2 0 g [a,b]=(g (some (.own false a)::~~~b::List.replicate (n-2) none)).bind xD:=Z8 n 2 0 g [a,b] rfl
@[simp]def nz (n:Nat)(g:FS)(a b c:D):WO n 3 0 g [a,b,c]=(g (some (.own false a)::~~~b::~~~c::List.replicate (n-3) none)).bind xD:=Z8 n 3 0 g [a,b,c] rfl
@[simp]def ny (n:Nat)(g:FS)(a b c d:D):WO n 4 0 g [a,b,c,d]=(g (some (.own false a)::~~~b::~~~c::~~~d::List.replicate (n-4) none)).bind xD:=Z8 n 4 0 g [a,b,c,d] rfl
def Vr (R:Res Out->Prop)(P:Nat->SD->Prop)(n:P 0 sd)(o:∀sd,P ds.length sd->R (.ok (.next sd)))
 (h:∀(i:Nat) (x:D) (sd:SD),ds[i]? = some x->P i sd->(∃sd',(JD tg x sd).bind b=.ok (.next sd')/\P (i+1) sd')\/∃c d,(JD tg x sd).bind b=.ex c d/\R (.ex c d)):R (qb tg b ds sd):=by
 have j:∀(k i:Nat) (sd:SD),ds.length-i=k->i<=ds.length->P i sd->R (qb tg b (ds.drop i) sd):=by
  intro k
  induction k with
  |zero =>
   intro i sd e l p;have:i=ds.length:=()
   simp_all
  |succ k m =>
   intro i sd e l p;have a:i<ds.length:=()
   rw[UF a];unfold qb y0;rcases h i ds[i] sd () p with ⟨sd',f,g⟩|⟨c,d,f,g⟩
   .rw[f];exact m (i+1) sd' () a g
   .rwa [f]
 grind
section
variable {X:Cx}{pos:Pos}
def hR:D->D->Yu
 | .lst a,.lst b=>if a.length+b.length<=sizeLine then some (.lst (a++b)) else none
 |_,_=>none
@[simp]def l5 (a b:Yt):hR (.lst a) (.lst b)=if a.length+b.length<=sizeLine then some (.lst (a++b)) else none:=rfl
end
end L2.DL
namespace L2
abbrev TB:=Ends->XK->St->Hp->Prop
def PB (X:Cx)(a:List Stmt)(t:TB):Prop:=
 ∀(Y:Yb) (s:Shared) (Z: St) (H:Hp) (D:Ends) (E:XK),Inv X Y Z H s->t D E Z H->Yv X (execs a X.env) (SP X Y D) (Z3 X Y Z E) s
section
variable {X:Cx}
def PB.weak (h:PB X b t)(w:∀D E Z H,t' D E Z H->t D E Z H):PB X b t':=λY s Z H D E I q=>h Y s Z H D E I (w _ _ _ _ q)
def Nm
 (g:zx X.prog X.w X.K X.mg X.base name k ps sp) (i:Room k X.A) (j:Gl X name) (l:PA X.nox (e::es) t)
 (a:(name == ("__debug__" : Str))=false:=by decide) (m:starEach (e::es) X.env=(false,eval e X.env)::starEach es X.env:=by rfl) (b:(backTo cpos (starEach es X.env)).any (·.1)=false:=by rfl)
 (c:swapsWith (.Call (.Name name p) (e::es) [] cpos) none apos.line X.env=pure false:=by rfl):
 PB X [.Expr (.Call (.Name name p) (e::es) [] cpos) apos] (λD E Z H=>t Z H λn d=>sp n d (λ_ f=>D.nx Z f) E):=by
 intro Y s Z H D E I h;refine wpAny_execs_cons (wpAny_Expr_any (Zc (Nh (Q:=λ_ f=>D.nx Z f) (E:=E) g i j l a m b I h) (λv o q=>?_) λe o r=>r) I.quiet c);obtain⟨z,d,u,x,w⟩:=q;exact wpAny_execs_nil ⟨_,d,u,w⟩
end
end L2
namespace L2.DL
def pI (K:W.Frag)(m:Option Bool)(g:FS):TB:=λD E Z H=>∃B F sd,RS K B F H sd Z /\ (g sd).need (zl K m B F D) (XW K E F H)
abbrev QB (X:Cx)(m:Option Bool)(body:List Stmt)(g:FS):Prop:=PB X body (pI X.K m g)
def ZD (a:Yt->Res D)(b:FA):FE:=λsd=>(b sd).strict.bind a
@[simp]def ma (a:Yt->Res D)(b:FA)(sd:SD):ZD a b sd=(b sd).strict.bind a:=rfl
def tN (c:FT)(a d:FS):FS:=λsd=>(c sd).strict.bind λb=>if b then a sd else d sd
@[simp]def rY (c:FT)(a d:FS)(sd:SD):tN c a d sd=(c sd).strict.bind λb=>if b then a sd else d sd:=rfl
section
variable {X:Cx}{m:Option Bool}
def No
 (l:zx X.prog X.w X.K X.mg X.base name k ps (xi X.K Fn)) (o:Room k X.A) (q:Gl X name) (s:QA X.nox E0 (e::es) fr)
 (b:(name == ("__debug__" : Str))=false:=by decide) (t:starEach (e::es) X.env=(false,eval e X.env)::starEach es X.env:=by rfl) (c:(backTo cpos (starEach es X.env)).any (·.1)=false:=by rfl)
 (f:swapsWith (.Call (.Name name p) (e::es) [] cpos) none apos.line X.env=pure false:=by rfl):
 QB X m [.Expr (.Call (.Name name p) (e::es) [] cpos) apos] (Kx (ZD Fn fr)):=
 PB.weak (Nm l o q s b t c f) λT E Z H u=>by
  obtain⟨B,F,sd,r,n⟩:=u;refine⟨B,F,sd,r,?_⟩;unfold Kx ZD at n;cases g:fr sd with
  |ex i fs=>rw[g] at n;exact n.elim
  |no=>rw[g] at n;exact n.elim
  |ok ds =>
   rw[g] at n;have n:((Fn ds).bind λ_=>Res.ok (Out.next sd)).need (zl X.K m B F T) (XW X.K E F H):=n;show pz X.K F H _ ds;intro A w C a x;refine⟨w,ds,a.fh,x,?_⟩;cases h:Fn ds with
   |ok d =>
    rw[h] at n;exact λv y z j G=>n _ y z (a.ff.trans j.ff) ((r.step a).step j)
   |no=>rw[h] at n;exact n.elim
   |ex i fs =>
    rw[h] at n;have n:XW X.K E F H i fs:=n;exact n.ext a
def ZE (c:Str)(a:FS)(sd:SD):Res Out->Res Out
 | .ok o=>.ok o
 | .ex c' [] => @ite _ (c'=c) (Classical.propDecidable _) (a sd).strict .no
 |_=>.no
@[simp]def uN (c:Str)(a:FS)(sd:SD)(o:Out):ZE c a sd (.ok o)=.ok o:=rfl
@[simp]def uO (c:Str)(a:FS)(sd:SD):ZE c a sd (.ex c [])=(a sd).strict:=@if_pos _ (Classical.propDecidable _) rfl _ _ _
def kr (c:Str)(g a:FS):FS:=λsd=>ZE c a sd (g sd)
@[simp]def rB (c:Str)(g a:FS)(sd:SD):kr c g a sd=ZE c a sd (g sd):=rfl
end
end L2.DL
namespace L2
def wU (K:W.Frag)(x:Str)(st:Stmt):Prop:=∃f a,W.nsIn K mainGlobals x=some (some (.ref f))/\Fun K x x st f a
def wU.callee {P:Program}{w:World}{K:W.Frag}{h base:Heap}{e:Yc}{x:Str}{st:Stmt}{k:Nat}{b:Yh}{sp:Sp}(X:K.In h)(G:h.Ns mainGlobals e)(d:wU K x st)
 (ok:∀{f:Addr} {c:FuncData},Fun K x x st f c->FnOk P w K e base xB k f c b sp)
 (l:∀(kV g m:Value) (n:Option Addr) (i ct:Value) (j:Yd),j.length=b.length->bindArgs (W.fnOf x x (Wa st) (Q8 st) (JN st) .none kV g m n i ct) ⟨j,[]⟩=pure (b.zip j)):zn P w K e base x k b sp:=by
 obtain⟨f,c,a,F⟩:=d;exact⟨f,c,ok F,F.binds l,F.kp,W.mg_of X G a⟩
def wU.calleeX {P:Program}{w:World}{K:W.Frag}{h base:Heap}{e:Yc}{x:Str}{st:Stmt}{k:Nat}{b:Yh}{sp:Sp}(X:K.In h)(G:h.Ns mainGlobals e)(d:wU K x st)
 (ok:∀{f:Addr} {c:FuncData},Fun K x x st f c->FnOk P w K e base (xq P w) k f c b sp)
 (l:∀(kV g m:Value) (n:Option Addr) (i ct:Value) (j:Yd),j.length=b.length->bindArgs (W.fnOf x x (Wa st) (Q8 st) (JN st) .none kV g m n i ct) ⟨j,[]⟩=pure (b.zip j)):zx P w K e base x k b sp:=have ⟨f,c,a,F⟩:=d;⟨f,c,ok F,F.binds l,F.kp,W.mg_of X G a⟩
section
variable {X:Cx}{Y:Yb}{Z: St}{H:Hp}{s:Shared}
def Inv.track (I:Inv X Y Z H s)(hx:H x=none)(g:X.s₀.heap.get? x=none)(h:x≠X.env.locals)(i:∀y c,X.env.cells.lookup y=some c->c≠x)(j:∀p∈X.pn++Y,p.1≠x)(ok:xn X.prog X.w (upd H x (.ext φ)) s.heap x (.ext φ)):Inv X Y Z (upd H x (.ext φ)) s:=by
 have ne:∀{b:Addr} {u:HO},H b=some u->b≠x:=λ{b u} e z=>by rw[z,hx] at e;exact Jv e
 refine⟨I.ok,I.os,I.bare,⟨I.base.keep,I.base.slot,λb o e n f=>?_,I.base.there,λb xs e=>?_,λb o u e=>?_,λb l e=>?_⟩,I.loc,I.cell,?_,λy c e=>?_,λp a=>?_,λb u e=>?_,I.len⟩
 .have z:b≠x:=λz=>by rw[z,g] at e;exact Jv e
  rw[Jx z];exact I.base.free b o e n f
 .have q:=I.base.tups b xs e;rw[Jx (ne q)];exact q
 .have q:=I.base.frzs b o u e;rw[Jx (ne q)];exact q
 .obtain⟨d,q⟩:=I.base.tbls b l e;exact⟨d,by rw[Jx (ne q)];exact q⟩
 .rw[Jx (Ne.symm h)];exact I.free
 .rw[Jx (i y c e)];exact I.freeC y c e
 .obtain⟨m,r,t,v,w⟩:=I.pin p a;exact⟨m,by rw[Jx (j p a)];exact r,t,v,w⟩
 .by_cases z:b=x
  .subst z;rw[J8] at e;cases e;exact ok
  .rw[Jx z] at e;refine(I.hok b u e).stay (λ_ _ _ q=>q) (λc q=>?_) λc xs q=>?_
   .rw[Jx (ne q)];exact q
   .rw[Jx (ne q)];exact q
def Np (e:h.get? x=some o)(c:o.cls=.ref C):xn P w H h x (DL.ExcO C x):=⟨⟨o,e,c⟩,⟨o,e⟩,λa b ⟨o,e,c⟩ k=>⟨o,k o e,c⟩⟩
def Inv.gone (I:Inv X Y Z H s)(B:X.N.Nodup)(l:X.N[j]? = some n)(C:s.heap.Ns X.env.locals m)(h:∀(i:Nat) (x:Str) (v:V),X.N[i]? = some x -> Z[i]? = some (some v)->vT X.env.scope x->∃u,jq v u/\mT X.env s.heap m x u)
 (t:h'.Ns X.env.locals (λx=>if x=n then v else m x)) (a:Heap.SameBut X.env.locals s.heap h'):Inv X Y (Z.set j none) H { s with heap:=h',toks:=t' }:=by
 obtain⟨Q,_,_,E,_⟩:=id C;have cne:=I.cne;have hjσ: j < Z.length:=by rw[I.len];exact(Jd.mp l).1
 refine⟨I.ok,I.os,I.bare,⟨λb o e n w hx=>?_,λb o e n w hx=>?_,I.base.free,λb o e hx=>?_,I.base.tups,I.base.frzs,I.base.tbls⟩,⟨_,t,λi y F g r G=>?_⟩,λy c e=>?_,I.free,I.freeC,λp J=>?_,λb K e=>?_,by simpa using I.len⟩
 .exact(a.2 b (Zi (Zg (Zk e) I.ok.above))).trans (I.base.keep b o e n w hx)
 .obtain⟨L,g⟩:=I.base.slot b o e n w hx;exact⟨L,(a.2 b (Zi (Zg (Zk e) I.ok.above))).trans g⟩
 .obtain⟨M,g⟩:=I.base.there b o e hx;exact⟨M,(a.2 b (Zi (Zg (Zk e) I.ok.above))).trans g⟩
 .by_cases f:i=j
  .subst f;rw[Ux hjσ] at r;cases r
  .rw[Zx (Ne.symm f)] at r;obtain⟨N,O,q⟩:=h i y F g r G;refine⟨N,O,?_⟩;rcases q with ⟨k,e⟩|⟨k,c,e,z⟩
   .refine .inl ⟨k,?_⟩;have:y≠n:=λe=>f (A2 B g (e ▸ l));simp[this,e]
   .exact .inr ⟨k,c,e,z.sameBut a (cne y c e)⟩
 .obtain⟨A,z⟩:=I.cell y c e;exact⟨A,z.sameBut a (cne y c e)⟩
 .obtain⟨e,n,ne,P,d⟩:=I.pin p J;exact⟨(a.2 p.1 ne).trans e,n,ne,P,d⟩
 .refine(I.hok b K e).stay (λc A hc q=>(a.2 c ?_).trans q) (λ_ q=>q) λ_ _ q=>q;rintro rfl;rcases hc with z|hc
  .rw[<- z,I.free] at e;exact Jv e
  .rw[I.free] at hc;exact Jv hc
def Bx (j:Nat)(D:Ends):Ends:={ nx:=λZ H=>D.nx (Z.set j none) H,bk:=λZ H=>D.bk (Z.set j none) H,ct:=λZ H=>D.ct (Z.set j none) H,rt:=D.rt }
def Nq {M:Model}{A:Around}{E:Ya}{nm q:Str}{C U N:Addr}{bs bm:Yd}{hdct:Bool}{sn:Yh}{sub:Yd}{ab:Bool}{col:Option Bool}{dd:Option Addr}{k0 k1 k2 k3 k5:Ye}{newId:String}{h:Heap}{g:Array GenState}{d:Drawn}{t:Nat}{os:OsState}{e:Addr}{i:Obj}{Q:Bool->Yq}
 (j:h.get? U=some (excClassObj nm q U N bs bm hdct sn sub ab col dd k0 k1 k2 k3 k5 newId)) (l:h.get? e=some i) (b:i.cls=.ref C) (a:bm.contains (.type "BaseException")=true) (m:W.Looks M h (isSubtype (.ref C) (.ref U)) true)
 (n:Q true ⟨h,g,d,t,os⟩):wpAny M A (excMatches (.ref e) (.ref U)) Q E ⟨h,g,d,t,os⟩:=by
 have c:(Value.ref U::bm).contains (.type "BaseException")=true:=by rw[List.contains_cons,a,UI]
 have f:=tc_notTuple;unfold excMatches
 repeat (first|(with_reducible refine wpAny_loadPart_at l ?_;rw[b])|with_reducible refine wpAny_loadPart_at j ?_|(with_reducible refine wpAny_isSubtype_exc j ?_;rw[c])|with_reducible refine m.at ?_|wp_step)
 exact n
def Nr (e:h.get? x=some o)(c:o.cls=.ref C)(d:o.dict=some p)(n:W.notCls o=true):xn P w H h x (DL.ExrO C p x):=⟨⟨o,e,c,d,n⟩,⟨o,e⟩,λa b ⟨o,e,c⟩ k=>⟨o,k o e,c⟩⟩
def Bz (C:Addr)(d:Option Addr)(x:Addr)(o:HO):Prop:=o=DL.ExcO C x\/∃p,d=some p/\o=DL.ExrO C p x
def Nt (G:X.stack=X.env::X.outer)(hfr:X.env.frame=some X.env.locals)(hex:X.ex=[])(ex:Exc X.K X.mg c U)(hg:Gl X c)
 (hN:X.N.Nodup) (hj:X.N[j]? = some n) (hk:X.env.scope.names.lookup n=some .local) (hs:∀x,qY (X.inSuite x) (b₀::suite) ts)
 (E:Z3 X Y Z (λcv d F=>∃C,cv=.ref C/\W.subIn X.K (.ref C) (.ref U)=some true/\∀x,F x=none->∃o,Bz C d x o/\ts (Bx j D) (Z.set j (some (.ref x))) (upd F x o)) e s) (hd:(c == ("__debug__" : Str))=false):
 Yv X (noteFrame e X.env) (λ_ s₂=>Yv X (setFlight e none) (λ_ s₃=>Yv X (handleBy e X.env [.ExceptHandler (some (.Name c np)) (some n) (b₀::suite) hpos]) (SP X Y D) Ex s₃) Ex s₂) Ex s:=by
 obtain⟨H',h₀,x,C',B,rfl,I,h0,hp,⟨⟨t,M⟩,trk⟩,dx,O,C,hC',P,Q⟩:=E;cases hC';have K:=M;rw[G] at K;refine E9 (I.ok.frames.trans (by rw[G])) hfr K O λh₄ held₄ up₄ dt₄=>?_;refine MY held₄ dt₄ λh₅ fl₅ up₅ dt₅=>?_;have fl5:=fl₅;rw[<- G] at fl5;have up5:=up₄.trans up₅;have I5:=I.flown h0 hp trk fl5 up5;refine wpAny_handleBy_cons (codeAny_handlers_test (V0 (X:=X.inSuite x) (I5.suite x) hg ex.mgc ?_ hd)) (by intro q;cases q);refine Bw (h:=h₅) I5.kIn ex.exc λtl N nm q bs hdct sn sub ab col dd k0 k1 k2 k3 k5 mN hC hN' hni T=>?_;obtain⟨ob,hob,hobc⟩:=fl₅.there;have L4:W.Looks (model X.prog X.w) h₅ (isSubtype (.ref C') (.ref U)) true:=W.looks_subIn I5.kIn P;have R:tl.contains (.type "BaseException")=true:=T.hasType PySem.F.excBase_ValueError.hasBase;refine Nq hC hob hobc R L4 (codeAny_handlers_suite_as ?_);refine MZ fl₅ dt₅ λh₆ fl₆ up₆ dt₆=>?_;rw[<- G] at fl₆;have up6:=up5.trans up₆;have I6:=I.flown h0 hp trk fl₆ up6;have bx:B.get? x=none:=M.2.1;obtain⟨o0,ho0,_⟩:=M.there;have fr6:=fl₆.2.2.1;obtain⟨oe,vs,_,_,_,he,⟨L,_⟩,l,_⟩:=id fl₆.2.2.2;have S:H' x=none:=by
  cases z:H' x with
  |none=>rfl
  |some u =>
   rw[trk x o0 ho0 (.inl (by rw[z];simp))] at bx;cases bx
 have nfr:x∉frs X.stack:=λz=>by
  obtain⟨_,o,i,hdd⟩:=fr6.mem z;rw[he] at i;obtain rfl:=Zqi i;exact hdd vs l
 have nex:X.s₀.heap.get? x=none:=by
  cases z:X.s₀.heap.get? x with
  |none=>rfl
  |some o =>
   obtain⟨u',hu'⟩:=h0 x o z (by rw[hex];simp);rw[trk x o0 ho0 (.inr ⟨⟨u',hu'⟩,nfr⟩)] at bx;cases bx
 obtain⟨m6,hm6,_⟩:=id I6.loc;have nl:x≠X.env.locals:=λz=>by
  obtain⟨o,es,ep,i,r,_⟩:=hm6;have i:h₆.get? X.env.locals=some o:=i;rw[<- z,he] at i;obtain rfl:=Zqi i;rw[l] at r;cases r
 have nc:∀y cc,X.env.cells.lookup y=some cc->cc≠x:=λy cc e z=>by
  obtain⟨v,o,i,r⟩:=I6.cell y cc e;have i:h₆.get? cc=some o:=i;rw[z,he] at i;obtain rfl:=Zqi i;rw[l] at r;cases r
 have np:∀p∈X.pn++Y,p.1≠x:=λp hpp z=>by
  obtain⟨q1,_⟩:=I.pin p hpp;have h1:=hp p hpp;rw[z] at q1 h1;rw[trk x _ q1 (.inr ⟨h1,nfr⟩)] at bx;cases bx
 obtain⟨oo,i,Q⟩:=Q x S;have I6t:Inv X Y Z (upd H' x oo) { s with heap:=h₆ }:=by
  rcases i with rfl|⟨p,rfl,rfl⟩
  .exact I6.track (φ:= λh=>∃o,h.get? x=some o/\o.cls=.ref C') S nex nl nc np (Np he L)
  .obtain⟨oe',_,_,_,_,g1,g2,g3,_⟩:=dt₆;have g1:h₆.get? x=some oe':=g1;rw[he] at g1;cases g1;exact I6.track (φ:= λh=>∃o,h.get? x=some o/\o.cls=.ref C'/\o.dict=some p/\W.notCls o=true) S nex nl nc np (Nr he L g2 (by unfold W.notCls;rw[g3]))
 refine Xg (X:=X.inSuite x) (I6t.suite x) hN hj (.inl hk) (v:=.ref x) (u:=.ref x) rfl (λs7 I7=>?_) (.inr hk);refine Zc (hs x Y _ _ _ (Bx j D) I7 Q) (λf s8 q=>?_) λ_ _ z=>z.elim;have q:=q.unsuite I.ok;have J:(X.env.scope.kind == .class||(X.env.scope.kind == .module&&X.env.locals != X.env.globals))=false:=by rw[I.ok.kind];rfl
 show Yv X (do bindName X.env n .none;unbindBehindTheSuite X.env n hpos) (λ_ s₃=>SP X Y D f s₃) Ex s8;cases f with
 |next =>
  obtain⟨Z',F,w,q8⟩:=q;obtain⟨m,A,hl⟩:=id w.loc;exact wpAny_nameGoes_keeps hk A J λh' v a g=>⟨Z'.set j none,F,w.gone hN hj A hl a g,q8⟩
 |brk =>
  obtain⟨Z',F,w,q8⟩:=q;obtain⟨m,A,hl⟩:=id w.loc;exact wpAny_nameGoes_keeps hk A J λh' v a g=>⟨Z'.set j none,F,w.gone hN hj A hl a g,q8⟩
 |cont =>
  obtain⟨Z',F,w,q8⟩:=q;obtain⟨m,A,hl⟩:=id w.loc;exact wpAny_nameGoes_keeps hk A J λh' v a g=>⟨Z'.set j none,F,w.gone hN hj A hl a g,q8⟩
 |ret u =>
  obtain⟨v0,Z',F,w,r8,q8⟩:=q;obtain⟨m,A,hl⟩:=id w.loc;exact wpAny_nameGoes_keeps hk A J λh' v a g=>⟨v0,Z'.set j none,F,w.gone hN hj A hl a g,r8,q8⟩
def Nu (a:X.stack=X.env::X.outer)(g:X.env.frame=some X.env.locals)(i:X.ex=[])(p:PB X body tb)(r:Exc X.K X.mg c U)(l:Gl X c)
 (t:X.N.Nodup) (u:X.N[j]? = some n) (w:X.env.scope.names.lookup n=some .local) (y:∀x,qY (X.inSuite x) (b₀::suite) ts) (z:(c == ("__debug__" : Str))=false:=by decide):
 PS X (.Try body [.ExceptHandler (some (.Name c np)) (some n) (b₀::suite) hpos] [] [] pos) (λD Z H=>tb D (λA d m=>∃C,A=.ref C/\W.subIn X.K (.ref C) (.ref U)=some true/\∀x,m x=none->∃o,Bz C d x o/\ts (Bx j D) (Z.set j (some (.ref x))) (upd m x o)) Z H):=by
 intro Y s Z H D I h;rw[arm_exec_Try];refine Za (wpAny_standAt (wpAny_tryStmt_except (Zc (p Y s Z H D _ I h) (λf B q=>?_) λe B E=>Nt a g i r l t u w y E z)));cases f with
 |next=>exact wpAny_execs_nil q
 |ret v=>exact q
 |brk=>exact q
 |cont=>exact q
end
end L2
namespace L2.DL
def VG (j:Nat):Out->Out
 | .next sd=>.next (sd.set j none)
 | .brk sd=>.brk (sd.set j none)
 | .cont sd=>.cont (sd.set j none)
 | .ret d=>.ret d
@[simp]def ah (j:Nat)(sd:SD):VG j (.next sd)=.next (sd.set j none):=rfl
@[simp]def l4 (j:Nat)(d:D):VG j (.ret d)=.ret d:=rfl
def RS.drop {K:W.Frag}{B:Bs}{F H:Hp}{sd:SD}{Z: St}(j:Nat)(r:RS K B F H sd Z):RS K B F H (sd.set j none) (Z.set j none):=by
 have get:∀{i:Nat} {x:SV},(sd.set j none)[i]? = some (some x)->i≠j/\sd[i]? = some (some x):=λ{i x} q=>by
  by_cases z:i=j
  .subst z;have:=(Kh q).1;cases this
  .rw[Qg (Ne.symm z)] at q;exact⟨z,q⟩
 refine⟨r.ext,by rw[Uu,Uu];exact r.len,λ{i d} q=>?_,λ{i p d} q=>?_,λ{i k p g d e l} a q q'=>?_⟩
 .obtain⟨z,q⟩:=get q;obtain⟨v,b,c⟩:=r.val q;exact⟨v,by rw[Qg (Ne.symm z)];exact b,c⟩
 .obtain⟨z,q⟩:=get q;obtain⟨l,b,c⟩:=r.own q;exact⟨l,by rw[Qg (Ne.symm z)];exact b,c⟩
 .obtain⟨z,q⟩:=get q;obtain⟨f,q'⟩:=get q';rw[Qg (Ne.symm z),Qg (Ne.symm f)];exact r.apart a q q'
def Wm (cs:Yh)(j:Nat)(a:FS)(sd:SD):Res Out->Res Out
 | .ok o=>.ok o
 | .ex c [] => @ite _ (c∈cs) (Classical.propDecidable _) ((a (sd.set j (~~~(.exc c)))).strict.bind λo=>.ok (VG j o)) .no
 | .ex c [.int n] => @ite _ (c∈cs) (Classical.propDecidable _) ((a (sd.set j (~~~(.exr c n)))).strict.bind λo=>.ok (VG j o)) .no
 |_=>.no
@[simp]def lI (cs:Yh)(j:Nat)(a:FS)(sd:SD)(o:Out):Wm cs j a sd (.ok o)=.ok o:=rfl
def Nv (j:Nat)(a:FS)(sd:SD)(h:c∈cs):Wm cs j a sd (.ex c [])=(a (sd.set j (~~~(.exc c)))).strict.bind λo=>.ok (VG j o):=@if_pos _ (Classical.propDecidable _) h _ _ _
def Nw (j:Nat)(a:FS)(sd:SD)(h:c∈cs):Wm cs j a sd (.ex c [.int n])=(a (sd.set j (~~~(.exr c n)))).strict.bind λo=>.ok (VG j o):=@if_pos _ (Classical.propDecidable _) h _ _ _
def Nx (h:(Wm cs j gs sd (.ex c fs)).need p q):c∈cs/\∃d,(fs=[]/\d=.exc c\/∃n,fs=[.int n]/\d=.exr c n)/\((gs (sd.set j (~~~d))).strict.bind λo=>.ok (VG j o)).need p q:=by
 unfold Wm at h
 split at h
 .rename_i e;cases e
 .rename_i e;cases e;by_cases a:c∈cs
  .rw[@if_pos _ (Classical.propDecidable _) a] at h;exact⟨a,_,.inl ⟨rfl,rfl⟩,h⟩
  .rw[@if_neg _ (Classical.propDecidable _) a] at h;exact h.elim
 .rename_i e;cases e;by_cases a:c∈cs
  .rw[@if_pos _ (Classical.propDecidable _) a] at h;exact⟨a,_,.inr ⟨_,rfl,rfl⟩,h⟩
  .rw[@if_neg _ (Classical.propDecidable _) a] at h;exact h.elim
 .exact h.elim
def ZF (cs:Yh)(j:Nat)(g a:FS):FS:=λsd=>Wm cs j a sd (g sd)
@[simp]def bK (cs:Yh)(j:Nat)(g a:FS)(sd:SD):ZF cs j g a sd=Wm cs j a sd (g sd):=rfl
section
variable {X:Cx}{E:XK}{m:Option Bool}
def Ny (v:X.stack=X.env::X.outer)(w:X.env.frame=some X.env.locals)(y:X.ex=[])(P:QB X m body g)(ex:Exc X.K X.mg c U)(A:Gl X c)
 (Q:X.N.Nodup) (R:X.N[j]? = some n) (S:X.env.scope.names.lookup n=some .local) (Y:∀x,zg (X.inSuite x) E0 m (b₀::suite) gs) (hc:∀G∈cs,∃C,W.nsIn X.K mainGlobals G=some (some (.ref C))/\W.subIn X.K (.ref C) (.ref U)=some true) (I:(c == ("__debug__" : Str))=false:=by decide):
 QS X E m (.Try body [.ExceptHandler (some (.Name c M)) (some n) (b₀::suite) hpos] [] [] pos) (ZF cs j g gs):=
 PS.weak (Nu (ts:=ka X.K E0 m gs) v w y P ex A Q R S Y I) λT Z H zh=>by
  obtain⟨B,F,sd,r,n⟩:=zh;refine⟨B,F,sd,r,?_⟩;unfold ZF at n;cases J:g sd with
  |ok o=>rw[J] at n;exact n
  |no=>rw[J] at n;exact n.elim
  |ex G fs =>
   rw[J] at n;obtain⟨hm,d,I,n⟩:=Nx n;intro cv a F2 H2 e ⟨t,h1,N,h3⟩;obtain⟨C,K,f⟩:=hc G hm;rw[K] at N;cases N;refine⟨t,h1,f,λx hx=>?_⟩;obtain⟨o,ho,hi⟩:∃o,Bz t a x o/\IsD X.K (upd F2 x o) d (.ref x):=by
    rcases I with ⟨_,rfl⟩|⟨n,L,rfl⟩
    .exact⟨_,.inl rfl,jW.mpr ⟨x,t,rfl,K,J8⟩⟩
    .rcases h3 with z|⟨p,n',hf',rfl,hp⟩
     .rw[z] at L;cases L
     .rw[L] at hf';cases hf';have M:p≠x:=λz=>by rw[<- z,e.fh _ _ hp] at hx;cases hx
      exact⟨_,.inr ⟨p,rfl,rfl⟩,jN.mpr ⟨x,t,p,rfl,K,J8,(Jx M).trans hp⟩⟩
   have u:=jI e.fh hx o;refine⟨o,ho,B,_,_,((r.step e).step u).setVal hi,?_⟩;refine(Res.need_strict (Res.need_bind n)).mono (λo q=>?_) λ_ _ q=>q;have q:zl X.K m B F T (VG j o):=q;cases o with
   |next sd'=>exact λO h i l s=>q _ h i ((e.ff.trans u.ff).trans l) (s.drop j)
   |brk sd'=>exact λO h i l s=>q _ h i ((e.ff.trans u.ff).trans l) (s.drop j)
   |cont sd'=>exact λO h i l s=>q _ h i ((e.ff.trans u.ff).trans l) (s.drop j)
   |ret d=>exact q
end
end L2.DL
namespace L2
def Nz (hx:v ≠ .builtin "__main__.__loader__#opaque")(d:W.Looks (model prog w) s.heap (typeOf v) (.ref C))(b:W.Looks (model prog w) s.heap (isSubtype (.ref C) (.type T)) true)
 (c:typeOf (.type T)=pure (.type "type")) (h:Q (.bool true) s):Yw prog w A (call (.builtin "isinstance") [v,.type T]) Q E s:=by
 refine call_isinstance_of ?_ hx;unfold Builtin.«isinstance.nested»;refine Za (m:=typeOf v) (d.here ?_);rw[Ze (λq=>by cases Yl.mp q)];refine Za (m:=typeOf (.type T)) (wpAny_of_eq c ?_);show wpAny _ _ (if(Value.type "type" == Value.type "type")=true then _ else _) _ _ s;rw[Zd (by decide)];refine Za (Za (m:=isType (.type T)) (Zb (a:=true) ?_));refine Za (m:=isInstance v (.type T)) (W.Looks.here (W.Looks.andThen d b) ?_);exact Zb (a:=true) (Zb h)
def N0:bootBuiltins "ValueError" = some (.type "ValueError"):=by decide +kernel
end L2
namespace L2.DL
def fR (cs:Yh):Yt->Yu
 | [.exc c,.ucl u] => @ite _ (c=u) (Classical.propDecidable _) (some (.bl true)) none
 | [.exc c,.ty T] => @ite _ (T = "ValueError" /\ c∈cs) (Classical.propDecidable _) (some (.bl true)) none
 |_=>none
@[simp]def ad (cs:Yh)(c:Str):fR cs [.exc c,.ucl c]=some (.bl true):=@if_pos _ (Classical.propDecidable _) rfl _ _ _
section
variable {X:Cx}{E:XK}
def Vs (ns:W.nsIn X.K mainGlobals c=some (some (.ref C)))(a:X.mg c=some (.ref C))(b:Gl X c)(d:(c == ("__debug__" : Str))=false:=by decide):QE X E (.Name c pos) (dC (.ucl c)):=
 Wf (v:=.ref C) (λY s Z H Q I h=>V0 I b a ⟨.ref C,H,I,rfl,h⟩ d) λF=>qP.mpr ⟨C,rfl,ns⟩
end
theorem ED:∀(a:List Bool) (c:Yd),js (a.map V.bl) c->∃d,ReadsAll h c (a.map PyData.bool) d
 | [],c,r=>by cases r;exact⟨_,.nil⟩
 |b::a,c,r=>by
  cases r with
  |cons e f =>
   obtain⟨bs,g⟩:=ED a _ f;obtain rfl:_=Value.bool b:=e;exact⟨_,.cons (.bool b) g⟩
theorem EE:∀(a:List Bool),PyData.canLayAll0 (a.map PyData.bool)=true/\PyData.depthAll (a.map PyData.bool)<=1
 | []=>by unfold PyData.canLayAll0 PyData.depthAll;exact⟨rfl,Ue _⟩
 |b::a=>by
  obtain⟨c,d⟩:=EE a;rw[Zl];unfold PyData.canLayAll0 PyData.depthAll;rw[c];refine⟨by unfold PyData.canLay0;rfl,Nat.max_le.mpr ⟨?_,d⟩⟩;unfold PyData.depth;exact Ue _
theorem EF:∀(a b:List Bool),PyData.eqvAll (a.map PyData.bool) (b.map PyData.bool)=(a == b)
 | [],[]=>by unfold PyData.eqvAll;rfl
 | [],_::_=>by rw[Zl,UJ];unfold PyData.eqvAll;rfl
 |_::_,[]=>by rw[Zl,UJ];unfold PyData.eqvAll;rfl
 |x::a,y::b=>by
  rw[Zl,Zl];unfold PyData.eqvAll;rw[EF a b];unfold PyData.eqv;rfl
section
variable {X:Cx}
def N1 {P:Program}{w:World}{K:W.Frag}{F H:Hp}{h:Heap}{d:D}{a:List Bool}{v:V}{u:Value}(ok:qQ P w H h)(f:jm F H)(g:KY d=some a)(i:IsD K F d v)(r:jq v u):∃c,Reads h u (.list (a.map PyData.bool)) c:=by
 obtain⟨l,rfl,j⟩:=Et g i;obtain rfl:u=Value.ref l:=r;obtain⟨_,b,o,m,e⟩:=(j.same f).ok ok;obtain⟨c,n⟩:=ED (h:=h) a b m;exact⟨_,.list e rfl rfl (by simpa using n)⟩
def N2 (a:List Bool):(PyData.list (a.map PyData.bool)).canLay0=true/\(PyData.list (a.map PyData.bool)).depth<=2:=by
 obtain⟨b,c⟩:=EE a;unfold PyData.canLay0 PyData.depth;exact⟨b,()⟩
end
end L2.DL
namespace L2
def cH (x:Str):It:=⟨λi _=>i<x.cps.size,λi H y a=>a=H/\∃c,x.cps[i]? = some c/\y=.str ⟨#[c]⟩,λi _=>x.cps.size<=i⟩
def N3 {P:Program}{w:World}{K:W.Frag}{tg:Expr}(it:Addr)(x:Str)(t:Tok):Turn P w K tg (cH x) [it] it (λi h=>h.IsStrIter it "str_ascii_iterator" x t i) where
 mem:=by simp
 obj:=λi h st b f=>by
  have e:b=it:=by simpa using f
  subst e;obtain⟨o,l,_,C⟩:=st;exact⟨o,l,λv z=>by rw[C] at z;cases z⟩
 keep:=λi h h' st k=>let ⟨o,l,r⟩:=st;⟨o,k it () o l,r⟩
 item:=by
  intro X m hw n B i Y s Z H E I j st a;subst m hw n;obtain⟨p,q,F,u,y,A⟩:=j it ();have a:i<x.cps.size:=a;refine wpAny_pyNext_ascii_item st (c:=x.cps[i]) (by simp[a]) λh' g G=>?_;have J:Inv X Y Z H { s with heap:=h',toks:=s.toks+1 }:=I.turned (λb o f e=>(G.2 b f).trans e) p q u y A;obtain⟨o,e,c,d⟩:=id g;exact⟨_,rfl,Xh (s:={ s with heap:=h',toks:=s.toks+1 }) e c d (by decide) ⟨.str ⟨#[x.cps[i]]⟩,H,J,⟨_,rfl⟩,⟨rfl,_,by simp[a],rfl⟩,g,λb f=>(j b f).1⟩⟩
 done:=by
  intro X m hw n B i Y s Z H E I j st a;subst m hw n;obtain⟨p,q,F,u,y,A⟩:=j it ();have a:x.cps.size<=i:=a;exact wpAny_pyNext_ascii_end (I.ok.hd B) st (by simp[a]) λh' L=>⟨rfl,I.turned (t':=s.toks) (λb o f e=>L b o f e) p q u y A⟩
 self:=λ_ _ _ _ _ st h=>wpAny_pyIter_striter_ascii st h
section
variable {X:Cx}{tg:Expr}
def fq (a:TE):TI:=λZ H R=>a Z H λy b=>∃x,y=.str x/\x.cps.all (· < 128)=true/\R (cH x) b
def N4 {l:Expr}{d:TE}(f:PE X l d):PI X tg l (fq d):=by
 intro Y s Z H R I h;refine j5 (f Y s Z H _ I h) λv a ⟨y,g,c,i,j⟩=>?_;obtain⟨x,rfl,m,q⟩:=j;obtain⟨t,rfl⟩:=i;refine wpAny_pyIter_ascii m ?_;refine⟨a.heap.objs.size,[a.heap.objs.size],_,_,g,rfl,c.kept (t':=a.toks) λb o e=>Zq _ e,N3 _ x t,⟨_,Zr _ rfl,rfl,rfl⟩,λb n=>?_,q⟩;have e:b=a.heap.objs.size:=by simpa using n
 subst e;exact c.fpOk (Zf _) (c.hok.fresh (Zf _))
def N5 {e:Expr}{lo n:Option Expr}{y o:Pos}{te:TE}{A B:TO}(F:PE X e te)(G:PO X lo A)(J:PO X n B):
 PE X (.Subscript e (.Slice lo n none y) o) (λZ H Q=>te Z H λx p=>A Z p λl r=>B Z r λu g=>∃z,x=.str z/\z.length<=sizeLine/\Q (.str (Txt.slice z l u)) g):=by
 intro Y s Z H Q I h;refine Subscript_ (j5 (F Y s Z H _ I h) λv K ⟨x,p,L,M,N⟩=>?_);refine wpAny_Slice (j5 (G Y K Z p _ L N) λj O ⟨l,r,P,R,S⟩=>j5 (J Y O Z r _ P S) λm a ⟨u,g,T,U,q3⟩=>?_);obtain⟨z,rfl,hz,q⟩:=q3;obtain⟨t,rfl⟩:=M;rw[evalPart_none];refine Zb ?_;have C:Inv X Y Z g { a with heap:=a.heap.push { cls:=.type "slice",data:=.fields #[j,m,.none] } }:=T.kept (t':=a.toks) λb ob q=>Zq _ q;show Yv X (subscriptTail e (.Slice lo n none y) (.str z t) (.ref a.heap.objs.size)) (EP X Y Z Q) X.xe { a with heap:=a.heap.push { cls:=.type "slice",data:=.fields #[j,m,.none] } }
 suffices fin:Yv X (getItem (.str z t) (.ref a.heap.objs.size)) (EP X Y Z Q) X.xe { a with heap:=a.heap.push { cls:=.type "slice",data:=.fields #[j,m,.none] } } by
  exact tail_any (ops:=[.ref a.heap.objs.size,.str z t]) (typeIs_str _ z t) slot_str_getitem.lookup fin (by with_unfolding_all rfl)
 obtain⟨d,hl'⟩:∃d:Option (Int×Tok),j=partValue d/\d.map (·.1)=l:=by
  cases R with
  |none=>exact⟨none,rfl,rfl⟩
  |int i t=>exact⟨some (i,t),rfl,rfl⟩
 obtain⟨f,hu'⟩:∃f:Option (Int×Tok),m=partValue f/\f.map (·.1)=u:=by
  cases U with
  |none=>exact⟨none,rfl,rfl⟩
  |int i t=>exact⟨some (i,t),rfl,rfl⟩
 refine wpAny_getItem_str_slice (l:=d) (u:=f) (st:=none) ⟨_,Zr _ rfl,rfl,by rw[hl'.1,hu'.1];rfl⟩ rfl ?_;have E:=Txt.slice_le z l u;have es:Txt.slice z l u=if((1:Int) == 1&&(slicePicked z d f none).length == z.length)=true then z else⟨((slicePicked z d f none).filterMap (z.cps[·]?)).toArray⟩:=by
  unfold Txt.slice slicePicked;rw[hl'.2,hu'.2];rfl
 unfold sliceMade;rw[es] at q E;by_cases c:((1:Int) == 1&&(slicePicked z d f none).length == z.length)=true
 .rw[Zd c] at q;have w:(((none:Option (Int×Tok)).map (·.1)).getD 1 == 1&&(slicePicked z d f none).length == z.length)=true:=c;rw[Zd w];exact⟨.str z,g,C,⟨_,rfl⟩,q⟩
 .rw[Ze c] at q E;have w:¬(((none:Option (Int×Tok)).map (·.1)).getD 1 == 1&&(slicePicked z d f none).length == z.length)=true:=c;rw[Ze w];exact⟨(),.str _,g,C.tok _,⟨_,rfl⟩,q⟩
def N6 (o:X.A.units+64<cLine)(neg:Bool):qA X (compareOp (if neg then .NotIn else .In)) (λx y H Q=>∃(d:DL.D) (ws:Yh) (p:Addr),DL.IsD X.K H d x/\DL.plN 12 d=true/\(ws.map DL.D.str).all (DL.plN 12)=true/\y=.ref p/\xJ X.K H p (ws.map V.str) /\
 Q (.bl (if neg then !(ws.map DL.D.str).any (λe=>DL.sameD e d) else(ws.map DL.D.str).any λe=>DL.sameD e d)) H):=by
 intro Y s Z H x y v u Q I f g ⟨d,ws,p,id,h,hw,i,j,q⟩;subst i;obtain rfl:u=Value.ref p:=g;obtain⟨a,l,b,r⟩:=I.tuple j;have m:∀ws:Yh,DL.IsDs X.K H (ws.map DL.D.str) (ws.map V.str):=λws=>by
  induction ws with
  |nil=>exact .nil
  |cons w ws n=>exact .mk (DL.IsD.str_iff.mpr rfl) n
 obtain⟨k1,k2⟩:=DL.any_eq (A:=X.A.in1) (by show X.A.units+1+60<cLine;lia) I.hok h id f hw (m ws) l;have c:a.toArray.any (DL.eqTo X.K H d)=(ws.map DL.D.str).any (λe=>DL.sameD e d):=by
  rw[show a.toArray.any (DL.eqTo X.K H d)=a.any (DL.eqTo X.K H d) by simp,DL.any_map',k1,<- DL.any_map']
 cases neg with
 |true =>
  refine SeqAt.notIn_tupleAt (DL.eqTo X.K H d) b (λw hw=>k2 w (by simpa using hw)) ⟨.bl _,H,I,rfl,?_⟩;rw[c];exact q
 |false =>
  refine SeqAt.in_tupleAt (DL.eqTo X.K H d) b (λw hw=>k2 w (by simpa using hw)) ⟨.bl _,H,I,rfl,?_⟩;rw[c];exact q
end
end L2
namespace L2.DL
def zc (x:Str):Bool:=x.cps.all (· < 128)
def zr (x:Str):Yt:=x.cps.toList.map λc=>.str ⟨#[c]⟩
def wo (f:FE):FA:=λsd=>(f sd).bind λd=>match d with
 | .str x=>if zc x=true then .ok (zr x) else .no
 |_=>.no
@[simp]def rZ (f:FE)(sd:SD):wo f sd=(f sd).bind λd=>match d with
 | .str x=>if zc x=true then .ok (zr x) else .no
 |_=>.no:=rfl
def qN (neg:Bool):D->D->Yu
 | .str c,.str x=>some (.bl (if neg then !(!(Builtin.Str.occurrences x c 0 x.length 1).isEmpty) else !(Builtin.Str.occurrences x c 0 x.length 1).isEmpty))
 |_,_=>none
def Xz (neg:Bool)(c:Nat)(x:Str):qN neg (.str ⟨#[c]⟩) (.str x)=some (.bl (if neg then !decide (c∈x.cps.toList) else decide (c∈x.cps.toList))):=by
 show some (D.bl (if neg then !(!(Builtin.Str.occurrences x ⟨#[c]⟩ 0 x.length 1).isEmpty) else !(Builtin.Str.occurrences x ⟨#[c]⟩ 0 x.length 1).isEmpty))=_;rw[PySem.StrLaws.found_one]
def wu:Yt->Yu
 | [.int i]=>if Nat.ble i.natAbs.log2 1900 then some (.str (toString i)) else none
 |_=>none
def xW:D->Option Int->Option Int->Yu
 | .str x,l,u=>if x.length<=sizeLine then some (.str (Txt.slice x l u)) else none
 |_,_,_=>none
def xY (a:FE)(b c:FO):FE:=λsd=>(a sd).bind λd=>(b sd).bind λl=>(c sd).bind λh=>.ofO (xW d l h)
@[simp]def dU (a:FE)(b c:FO)(sd:SD):xY a b c sd=(a sd).bind λd=>(b sd).bind λl=>(c sd).bind λh=>.ofO (xW d l h):=rfl
@[simp]def f9 (x:Str)(l u:Option Int):xW (.str x) l u=if x.length<=sizeLine then some (.str (Txt.slice x l u)) else none:=rfl
def dA:D->D->Yu
 | .bl a,.bl b=>some (.bl (a == b))
 |_,_=>none
@[simp]def nY (a b:Bool):dA (.bl a) (.bl b)=some (.bl (a == b)):=rfl
section
variable {X:Cx}{E:XK}{tg e a b:Expr}{fe fa fb:FE}{lo hi:Option Expr}{p2 pos p:Pos}
def EG (h:QE X E e fe):QI X E tg e (wo fe):=PI.weak (N4 h) λZ H R s=>by
 obtain⟨B,F,sd,r,n⟩:=s;refine⟨B,F,sd,r,(Res.need_bind n).mono (λd f v m t u w=>?_) λ_ _ q=>q⟩;cases d with
 |str x =>
  have f:(if zc x=true then Res.ok (zr x) else Res.no).need (λds=>∀J o g,Ext F H o g->yj X.K o J ds->R J g) (XW X.K E F H):=f
  split at f
  .rename_i z;have A:∀l:Yg,IsDs X.K m (l.map λc=>D.str ⟨#[c]⟩) (l.map λc=>V.str ⟨#[c]⟩):=λl=>by
    induction l with
    |nil=>exact .nil
    |cons c l C=>exact .mk (IsD.str_iff.mpr rfl) C
   refine⟨x,IsD.str_iff.mp w,z,f (cH x) m t u (YV (S:=λ_=>True) (xs:=x.cps.toList.map λc=>V.str ⟨#[c]⟩) (A _) (λ_ _ _ _=>trivial) (λi H y _ j=>?_) (λi H _ hi=>?_) λi H y g _ j=>?_)⟩
   .have:=(Jd.mp j).1;rw[Zql,Uc] at this;exact this
   .rw[Zql,Uc] at hi;exact hi
   .obtain⟨G,c,I,K⟩:=j;refine⟨G,?_⟩;rw[Zv,Array.getElem?_toList,I,K];rfl
  .exact f.elim
 |_=>exact f.elim
def EH (neg:Bool):xK X (compareOp (if neg then .NotIn else .In)) (qN neg):=by
 intro Y s Z H x y v u Q I g h ⟨F,d,e,z,i,id,m,f,q⟩;cases d with
 |str c =>
  cases e with
  |str t =>
   obtain rfl:=Zqi f;have j:=IsD.str_iff.mp id;have l:=IsD.str_iff.mp m;cases neg with
   |true=>exact Ik Y s Z H x y v u Q I g h ⟨c,t,j,l,q _ F H (.refl i) (yx _ F)⟩
   |false=>exact Ij Y s Z H x y v u Q I g h ⟨c,t,j,l,q _ F H (.refl i) (yx _ F)⟩
  |_=>exact Jv f
 |_=>exact Jv f
def B0:xK X (compareOp .In) (qN false):=EH false
def N7:xK X (compareOp .NotIn) (qN true):=EH true
def mD:qc X (.type "str") (yU X.K wu):=qc.weak Iu λxs H Q d=>by
 obtain⟨F,ds,z,f,id,c,q⟩:=d;unfold wu at c
 split at c
 .rename_i i
  split at c
  .rename_i g;obtain rfl:=Zqi c;obtain⟨l,m,h,j,id⟩:=jh.mp id;subst id h;exact⟨i,by rw[jc.mp j],US (Uz.mp g) (by decide),q _ F H (.refl f) (IsD.str_iff.mpr rfl)⟩
  .exact Jv c
 simp_all
def ZG {i j:FO}(m:QE X E e fe)(o:QO X E lo i)(s:QO X E hi j):QE X E (.Subscript e (.Slice lo hi none p2) pos) (xY fe i j):=PE.weak (N5 m o s) λZ H Q t=>by
 obtain⟨B,F,sd,r,n⟩:=t;refine⟨B,F,sd,r,(Res.need_bind n).mono (λd u v w L f y=>?_) λ_ _ q=>q⟩;refine⟨B,w,sd,r.step f,(Res.need_bind u).mono (λl A C M g=>?_) λ_ _ q=>q.ext f⟩;refine⟨B,C,sd,(r.step f).step g,(Res.need_bind A).mono (λh G I J K=>?_) λ_ _ q=>q.ext (f.trans g)⟩;obtain⟨z,c,q⟩:=ji G;cases d with
 |str x =>
  have c:(if x.length<=sizeLine then some (D.str (Txt.slice x l h)) else none)=some z:=c
  split at c
  .rename_i hx;obtain rfl:=Zqi c;exact⟨x,IsD.str_iff.mp y,hx,q _ I J ((f.trans g).trans K) (IsD.str_iff.mpr rfl)⟩
  .exact Jv c
 |_=>exact Jv c
def ZH (c:X.mg x=some (.str v t))(d:Gl X x)(f:(x == ("__debug__" : Str))=false:=by decide):QE X E (.Name x pos) (dC (.str v)):=Wf (CI (v:=.str v) d c ⟨t,rfl⟩ f) λF=>IsD.str_iff.mpr rfl
structure KTup (K:W.Frag)(mg:Yc)(x:Str)(ws:Yh):Prop where
 ex:∃p,mg x=some (.ref p)/\∀H,xJ K H p (ws.map V.str)
def N8 {K:W.Frag}{neg:Bool}{ws:Yh}{p:Addr}{Z: St}{H:Hp}{Q:VK}(j:∀H,xJ K H p (ws.map V.str))(h:tD K E (jf (qX neg) fa (dC (.tup (ws.map .str)))) Z H Q):
 vn (λx y H Q=>∃(d:D) (ws:Yh) (p:Addr),IsD K H d x/\plN 12 d=true/\(ws.map D.str).all (plN 12)=true/\y=.ref p/\xJ K H p (ws.map V.str) /\
 Q (.bl (if neg then !(ws.map D.str).any (λe=>sameD e d) else(ws.map D.str).any λe=>sameD e d)) H) (tD K E fa) (tC (.ref p)) Z H Q:=by
 obtain⟨B,F,sd,r,n⟩:=h;refine⟨B,F,sd,r,(Res.need_bind n).mono (λx f v l m i o=>?_) λ_ _ q=>q⟩;have f:(Res.ofO (qX neg x (.tup (ws.map .str)))).need (yc K F H Q) (XW K E F H):=f;obtain⟨z,c,q⟩:=ji f;have c:(if plN 12 x&&(ws.map D.str).all (plN 12) then some (D.bl (if neg then !(ws.map D.str).any (λe=>sameD e x) else(ws.map D.str).any λe=>sameD e x)) else none)=some z:=c
 split at c
 .rename_i g;rw[Ua] at g;obtain rfl:=Zqi c;exact⟨x,ws,p,IsD.same i.fh _ _ o,g.1,g.2,rfl,j _,q _ l m i (jj.mpr rfl)⟩
 .exact Jv c
def N9 (c:X.A.units+64<cLine)(k:KTup X.K X.mg g ws)(d:Gl X g)(f:QE X E a fa)(i:(g == ("__debug__" : Str))=false:=by decide):QT X E (.Compare a [.In] [.Name g p] pos) (Jw (jf (qX false) fa (dC (.tup (ws.map .str))))):=by
 obtain⟨q,j,l⟩:=k.ex;exact PT.weak (YH (N6 c false) f (CI (v:=.ref q) d j rfl i) rfl) λZ H Q h=>N8 l (KC h)
def WP (f:qA X (compareOp op) (z8 X.K g))(d:qA X (compareOp op') (z8 X.K g'))(i:QE X E a fa)(j:QE X E b fb)(l:QE X E c fc)
 (m:lastMarks [op,op'] [b,c]=false:=by with_unfolding_all rfl):QT X E (.Compare a [op,op'] [b,c] pos) (Jw (QX g g' fa fb fc)):=PT.weak (Im f d i j l m) λ_ _ _ h=>EC (KC h)
end
structure ClsD (K:W.Frag)(mg:Yc)(c:Str)(C:Addr)(fs:Yh):Prop where
 ns:W.nsIn K mainGlobals c=some (some (.ref C))
 mgc:mg c=some (.ref C)
 cls:Cls K C
 no:∀f∈fs,zv K C f
def za (f:Str):Yh->Yt->Yu
 |g::gs,d::ds=>if g=f then some d else za f gs ds
 |_,_=>none
theorem B4 {K:W.Frag}{H:Hp}{f:Str}:∀{fs:Yh} {ds:Yt} {xs:Yr} {d:D},IsDs K H ds xs->fs.length=xs.length->za f fs ds=some d->∃x,(fs.zip xs).lookup f=some x/\IsD K H d x
 | [],ds,xs,d,_,_,h=>Jv h
 |g::gs,[],xs,d,i,l,h=>by
  simp_all [IsDs.nil_iff]
 |g::gs,e::ds,xs,d,i,l,h=>by
  obtain⟨x,r,rfl,b,a⟩:=jh.mp i;unfold za at h;rw[UV];by_cases q:g=f
  .simp_all
  .rw[Ze q] at h;obtain⟨y,c,j⟩:=B4 a (by simpa using l) h
   grind
def j0 (c f:Str):D->Yu
 | .ins c' fs ds=>if c'=c then za f fs ds else none
 |_=>none
section
variable {X:Cx}{E:XK}{e:Expr}{fe:FE}{pos:Pos}
def Qh {c f:Str}{C:Addr}{fs:Yh}(k:ClsD X.K X.mg c C fs)(l:f∈fs)(m:QE X E e fe)(o:attributeBase e f X.env (eval e X.env)=eval e X.env:=by rfl):QE X E (.Attribute e f pos) (jK (j0 c f) fe):=PE.weak (Dh m o) λZ H Q p=>by
 obtain⟨B,F,sd,r,n⟩:=p;refine⟨B,F,sd,r,(Res.need_bind n).mono (λd s v t u b w=>?_) λ_ _ q=>q⟩;obtain⟨z,g,q⟩:=ji s;cases d with
 |ins h y ds =>
  have hw:(if h=c then za f y ds else none)=some z:=g;by_cases i:h=c
  .rw[Zd i] at hw;subst i;obtain⟨a,M,A,xs,rfl,j,G,I,J⟩:=jG.mp w;rw[k.ns] at j;cases j;obtain⟨x,K,L⟩:=B4 J I hw;exact⟨a,C,A,_,x,rfl,b.fh _ _ G,k.cls,k.no f l,K,q _ t u b L⟩
  simp_all
 |_=>exact Jv g
end
theorem B5 (f)(v):∀fs:List (Str×V),f∉fs.map (·.1)->qL f v fs=fs++[(f,v)]
 | [],_=>rfl
 | (g,x)::r,h=>by
  rw[Zl,Uj,not_or] at h;show(if g=f then(g,v)::r else(g,x)::qL f v r)=_;rw[Ze (λz=>h.1 z.symm),B5 f v r h.2];rfl
def tI (K:W.Frag)(c:Str)(names:Yh)(g:FA):TS:=λT Z H=>∃B F sd x C h fs xs b,RS K B F H sd Z /\ (∀(i:Nat) (p:Bool) (d:D),sd[i]? ≠ some (some (SV.own p d))) /\ Z[0]? = some (some (.ref x))/\B.H0 x=none/\F x=none/\W.nsIn K mainGlobals c=some (some (.ref C))/\H x=some (.ins C h (fs.zip xs))/\fs.length=xs.length/\(fs++names).Nodup/\(fs++names).length<900/\IsDs K F b xs /\
 (g sd).need (λds=>∀e f a,Ext B.F0 B.H0 e f->e x=none->f x=some (.ins C h ((fs++names).zip a))->(fs++names).length=a.length->IsDs K e (b++ds) a->T.nx Z f) (XW K E0 B.F0 B.H0)
section
variable {X:Cx}{o e:Expr}{fe:FE}{g:FA}{pos pos':Pos}{ss:List Stmt}{c f:Str}{C:Addr}{fs names:Yh}
def EI:qY X [] (tI X.K c [] jd):=qY.weak A3 λT Z H i=>by
 obtain⟨B,F,sd,x,C,j,fs,xs,b,r,s,t,u,l,v,m,p,w,y,q,n⟩:=i;have n:∀d h a,Ext B.F0 B.H0 d h->d x=none->h x=some (.ins C j ((fs++[]).zip a))->(fs++[]).length=a.length->IsDs X.K d (b++[]) a->T.nx Z h:=n;simp at n;exact n F H xs r.ext l m p q
def ZI (k:ClsD X.K X.mg c C fs)(G:f∈fs)(I:PE X o (xS 0))(J:QE X E0 e fe)(K:qY X ss (tI X.K c names g))(L:swapsWith e (some (.Attribute o f pos')) pos.line X.env=pure false:=by rfl):
 qY X (.Assign [.Attribute o f pos'] e pos::ss) (tI X.K c (f::names) (Jr fe g)):=qY.weak (A4 (Di I J L) K) λT Z H M=>by
 obtain⟨B,F,sd,x,l,u,b,xs,m,r,N,w,y,O,p,z,A,P,Q,R,n⟩:=M;refine⟨B,F,sd,r,(Res.need_bind n).mono (λd S v E H1 j U=>?_) λ_ _ q=>q.ext r.ext⟩;have Y:l=C:=by
  rw[k.ns] at p;cases p;rfl
 subst Y;have s:=j.hh _ _ z;have i:E x=none:=j.new x O (by rw[z];simp);have lz:(b.zip xs).map (·.1)=b:=by rw[List.map_fst_zip ()]
 have hfn:f∉b:=by grind
 have ll:(b.zip xs).length<1000:=by
  grind
 refine⟨.ref x,w,x,l,u,_,rfl,s,k.cls,k.no f G,ll,?_⟩;rw[B5 f v _ (by rwa [lz])];have ez:b.zip xs++[(f,v)]=(b++[f]).zip (xs++[v]):=by rw[List.zip_append A];rfl
 rw[ez];have h:=r.step j;refine⟨B,E,sd,x,l,u,b++[f],xs++[v],m++[d],⟨⟨h.ext.ff,λa o e=>?_,λa o e=>?_,h.ext.new⟩,h.len,h.val,(),()⟩,N,w,y,i,p,J8,by simp[A],by simpa using P,by simpa using Q,(IsDs.snoc (IsDs.same j.ff _ _ R) U),(Res.need_bind S).mono (λds n2 F2 H2 t e2 f2 q1 q2 q3=>?_) λ_ _ q=>q⟩
 .rw[Jx (Kg e i)];exact h.ext.fh _ _ e
 .rw[Jx (Kg e y)];exact h.ext.hh _ _ e
 .exact n2 F2 H2 t e2 f2 (by simpa using q1) (by simpa using q2) (by simpa using q3)
end
def pp (K:W.Frag)(c:Str)(names:Yh)(f:Yt->Res Yt):Sp:=λg H Q _=>∃F ds x C d e,jm F H/\g=.ref x::e/\IsDs K F ds e/\F x=none/\W.nsIn K mainGlobals c=some (some (.ref C))/\H x=some (.ins C d []) /\
 (f ds).need (λh=>∀a b xs,Ext F (xz H x) a b->a x=none->b x=some (.ins C d (names.zip xs))->names.length=xs.length->IsDs K a h xs->Q .non b) (XW K E0 F (xz H x))
def z7 (n a:Nat)(g:FA)(ds:Yt):Res Yt:=if ds.length+1=a then g (none::Qk (n-1) ds) else .no
def zf {K:W.Frag}{F H:Hp}{N:Yh}{ds:Yt}{c:Yr}{x:Addr}(s:jm F H)(h:IsDs K F ds c):
 RS K ⟨F,xz H x,λ_=>none⟩ F H (none::Qk N.length ds) (some (.ref x)::L2.start N c)/\∀(i:Nat) p d,(none::Qk N.length ds:SD)[i]? ≠ some (some (SV.own p d)):=by
 have a:=RS.start (N:=N) s h;have b:∀(i:Nat) p d,(none::Qk N.length ds:SD)[i]? ≠ some (some (SV.own p d)):=λi p d q=>by
  cases i with
  |zero=>cases q
  |succ i =>
   obtain⟨l,_,g,_,f,_⟩:=a.own q;obtain⟨o,j⟩:=f.has
   simp_all
 refine⟨⟨⟨.refl _,s,Nj,λ_ e _=>e⟩,by simp[a.len],λ{i d} q=>?_,λq=>Zn q (b _ _ _),λ_ q _ _=>Zn q (b _ _ _)⟩,b⟩;cases i with
 |zero=>cases q
 |succ i=>exact a.val q
section
variable {P:Program}{w:World}{K:W.Frag}{mg:Yc}{base:Heap}{x qual:Str}{st:Stmt}{f:Addr}{fd:FuncData}{N ps:Yh}{k:Nat}
def be {c y:Str}{names:Yh}{g:FA}(F:Fun K x qual st f fd)(S:FnScope (y::N) ps (JN st))(l:names.Nodup)(m:names.length<900)
 (o:∀b A a s H E,Room k (A.deeper (envOfC qual (JN st) s.heap.objs.size f b))->qY (jP xB P w K mg base (y::N) qual (JN st) f b A a s H E).nox (Q8 st) (tI K c names g)):
 FnOk P w K mg base xB (k+1) f fd ps (pp K c names (z7 (y::N).length ps.length g)):=by
 refine F.ok S (λp H Q E ⟨F,ds,x,C,j,d,_,e,i,_,_,_,n⟩=>?_) λb A a s H p Q E q ⟨F,ds,x,C,j,d,t,e,i,u,v,z,n⟩=>⟨_,o b A a s H E q,?_⟩
 .unfold z7 at n
  split at n
  .rename_i h;rw[e,<- h,Zu,i.length]
  .exact n.elim
 .subst e;unfold z7 at n
  split at n
  .have B:L2.start (y::N) (.ref x::d)=some (.ref x)::L2.start N d:=by
    unfold L2.start;simp
   rw[B];obtain⟨r,G⟩:=zf t i;exact⟨_,F,_,x,C,j,[],[],[],r,G,rfl,Nk,u,v,z,rfl,l,m,.nil,n⟩
  .exact n.elim
end
def cF (P:Program)(w:World)(K:W.Frag)(a:Yc)(base:Heap)(c:Str)(names:Yh)(k:Nat)(b:Yh)(e:Yt->Res Yt):Prop:=
 ∃C f d,ClsD K a c C names/\Mk K C f/\FnOk P w K a base xB k f d b (pp K c names e)/\yP K d b []
def mw (c:Str)(names:Yh)(a:Yt->Res Yt)(b:FA):FE:=λsd=>(b sd).bind λds=>(a ds).bind λd=>.ok (.ins c names d)
def B6 (K:W.Frag)(c a:Str)(fs:Yh)(st:Stmt):Prop:=∃C d b,W.nsIn K mainGlobals c=some (some (.ref C))/\Cls K C/\(∀f∈fs,zv K C f)/\Mk K C d/\Fun K "__init__" a st d b
def X0 (F b:Hp):Prop:=∀a xs,b a=some (.tup xs)->F a=some (.tup xs)
section
variable {K:W.Frag}{B:Bs}{F H F' H':Hp}{sd:SD}{Z: St}
def RS.frz1C (r:RS K B F H sd Z)(y:sd[i]? = some (some (.own p d))):∃F',jm F F'/\X0 F F'/\RS K B F' H (sd.set i (~~~d)) Z:= by
 obtain⟨l,A,G,C,g,_⟩:=r.own y;obtain⟨o,e⟩:=g.has;have I:i<sd.length:=(Jd.mp y).1;have w:jm F (upd F l o):=Ku C o;have J:X0 F (upd F l o):=λa xs q=>by
  by_cases z:a=l
  .subst z;rw[J8] at q;obtain rfl:=Zqi q;cases d with
   |lst ds=>obtain⟨_,h,_⟩:=g;rw[e] at h;cases h
   |dct ks ds=>obtain⟨_,h,_⟩:=g;rw[e] at h;cases h
   |ins c fs ds=>obtain⟨_,_,_,_,h,_⟩:=g;rw[e] at h;cases h
   |_=>exact g.elim
  .rw[Jx z] at q;exact q
 refine⟨upd F l o,w,J,⟨r.ext.ff.trans w,λb u q=>?_,r.ext.hh,λa t s=>?_⟩,by rw[Uu,r.len],λ{j x} q=>?_,λ{j p x} q=>?_,λ{j k U X Y d2 m} n t s L=>?_⟩
 .by_cases z:b=l
  .subst z;rw[J8] at q;cases q;exact e
  .rw[Jx z] at q;exact r.ext.fh _ _ q
 .have z:a≠l:=λz=>s (by rw[z];exact G);rw[Jx z];exact r.ext.new a t s
 .by_cases z:i=j
  .subst z;obtain⟨f,_⟩:=Kh q;cases f;exact⟨_,A,g.frz e C⟩
  .rw[Qg z] at q;obtain⟨v,M,N⟩:=r.val q;exact⟨v,M,IsD.same w _ _ N⟩
 .by_cases z:i=j
  .subst z;obtain⟨f,_⟩:=Kh q;cases f
  .rw[Qg z] at q;obtain⟨m,E,O,P,Q,R⟩:=r.own q;have ne:m≠l:=λe=>r.apart z y q A (by rw[<- e];exact E);exact⟨m,E,O,by rw[Jx ne];exact P,Q.ext w λu q'=>q',R⟩
 .have S:i≠j:=λz=>by subst z;obtain⟨f,_⟩:=Kh t;cases f
  have T:i≠k:=λz=>by subst z;obtain⟨f,_⟩:=Kh s;cases f
  rw[Qg S] at t;rw[Qg T] at s;exact r.apart n t s L
theorem RS.frzC:∀(is:Yg) {F:Hp} {sd:SD},RS K B F H sd Z -> ∃F',jm F F'/\X0 F F'/\RS K B F' H (qa is sd) Z
 | [],F,sd,r=>⟨F,.refl _,λ_ _ q=>q,r⟩
 |i::is,F,sd,r=>by
  unfold qa
  split
  .rename_i p d h;obtain⟨m,b,c,e⟩:=r.frz1C h;obtain⟨f,g,j,l⟩:=RS.frzC is e;exact⟨f,b.trans g,λa xs q=>c a xs (j a xs q),l⟩
  .exact RS.frzC is r
def ZJ:D->Bool
 | .tup ds=>ds.all JZ
 |d=>JZ d
def Vb (F H b:Hp):Hp:=λa=>match H a,b a with
 |none,some (.tup xs)=>some (.tup xs)
 |_,_=>F a
theorem xN:∀{ds:Yt} {xs:Yr},ds.all JZ=true->IsDs K F ds xs->IsDs K F' ds xs
 | [],xs,_,h=>by rw[IsDs.nil_iff] at h ⊢;exact h
 |d::ds,xs,s,h=>by
  obtain⟨x,r,rfl,a,b⟩:=jh.mp h;rw[Ui,Ua] at s;exact jh.mpr ⟨x,r,rfl,a.scal s.1,xN s.2 b⟩
def NA (s:jm F H)(f:jm F F1)(e:Ext F1 H F2 H2):Ext F H (Vb F H F2) H2:=by
 refine⟨λa o q=>?_,λa o q=>?_,e.hh,λa b c=>?_⟩
 .unfold Vb;rw[s _ _ q];exact q
 .unfold Vb at q
  split at q
  .rename_i g d;obtain rfl:=Zqi q;exact e.fh _ _ d
  .exact e.hh _ _ (s _ _ q)
 .unfold Vb;cases h:H a with
  |none=>exact Zn h c
  |some o=>exact b
def NB (s:jm F H)(j:jm F F1)(f:X0 F F1)(e:Ext F1 H F2 H2)(c:ZJ d=true)(i:IsD K F2 d v):IsD K (Vb F H F2) d v:=by
 cases d with
 |tup ds =>
  obtain⟨a,xs,rfl,b,g⟩:=jn.mp i;refine jn.mpr ⟨a,xs,rfl,?_,xN c g⟩;have b:F2 a=some (.tup xs):=b;show Vb F H F2 a=some (.tup xs);unfold Vb;cases h:H a with
  |none=>rw[b]
  |some o =>
   show F a=some (.tup xs);cases q:F1 a with
   |none=>rw[e.new a q (by rw[h];simp)] at b;exact Jv b
   |some u =>
    have:=e.ff _ _ q;rw[b] at this;obtain rfl:=Zqi this;exact f _ _ q
 |_=>exact i.scal c
theorem EJ (s:jm F H)(a:jm F F1)(b:X0 F F1)(e:Ext F1 H F2 H2):∀{ds:Yt} {xs:Yr},ds.all ZJ=true->IsDs K F2 ds xs->IsDs K (Vb F H F2) ds xs
 | [],xs,_,h=>by rw[IsDs.nil_iff] at h ⊢;exact h
 |d::ds,xs,hd,h=>by
  obtain⟨x,r,rfl,c,f⟩:=jh.mp h;rw[Ui,Ua] at hd;exact jh.mpr ⟨x,r,rfl,NB s a b e hd.1 c,EJ s a b e hd.2 f⟩
def B7:D->Bool
 | .lst ds=>ds.all ZJ
 |_=>false
def X1 (is:Yg)(f:FE):FE:=λsd=>(f (qa is sd)).bare.bind λd=>if B7 d then .ok d else .no
def tm (h:vp K E0 (X1 is fe) Z H Q):vp K E0 fe Z H Q:=by
 obtain⟨B,F,sd,r,n⟩:=h;obtain⟨i,e,j,m⟩:=r.frzC is;refine⟨B,i,_,m,(qx r.ext.fh (Res.need_bind n)).mono (λd b l p s f a t u=>?_) λc fs q=>q⟩
 split at b
 .rename_i g;cases d with
  |lst ds =>
   obtain⟨xs,v,w⟩:=u;refine b l (Vb F H p) s (NA r.ext.fh e f) a ?_ ⟨xs,v,EJ r.ext.fh e j f g w⟩;unfold Vb;rw[a,t];cases q:F l with
   |none=>rfl
   |some o=>rw[r.ext.fh _ _ q] at a;cases a
  |_=>exact JC g
 .exact b.elim
end
section
variable {X:Cx}{m:Option Bool}{tg iter elt c:Expr}{scope:Scope}{pos spos py:Pos}{y:Str}{iy:Nat}{t:Tg}{fi:FA}{fc:FT}{f:FE}
def NC (is:Yg)(N:Yh)(cap:List (Option Nat))(d:X.N.Nodup)(e:X.N[iy]? = some y)(i:yM X.env.scope y)(o:X.calm=true)(j:Ko scope X.env N X.N cap=true)(p:QI X E0 tg iter fi)
 (r:∀a C s H b,QG (JG X scope N a C s H b) tg t) (u:∀a C s H b,QT (JG X scope N a C s H b) E0 c fc) (v:∀a C s H b,QE (JG X scope N a C s H b) E0 elt f) (l:swapsWith (.ListComp elt [⟨tg,iter,[c],0⟩] scope pos) (some (.Name y py)) spos.line X.env=pure true:=by rfl)
 (n:X.fn y=true\/X.env.scope.names.lookup y=some .local:=by trivial) (w:∀x,foldedSetIterable iter X.env x=pure x:=by intro _;rfl):
 QS X E0 m (.Assign [.Name y py] (.ListComp elt [⟨tg,iter,[c],0⟩] scope pos) spos) (xx iy (X1 is (Xw cap fi t fc f))):=by
 have z:=M0 (g:=gT t X.K) (tt:=uZ X.K E0 fc) (te:=tD X.K E0 f) l d e i n N cap o j p r u v w;exact PS.weak z λT Z H h=>M3 (λ_ _ _ q=>Mt (tm q)) h
end
abbrev FJ:=Str->SD->Res D
def qH:FJ:=λa _=>if a.length<=sizeLine then .ok (.str a) else .no
def jT (x:Str)(r:FJ):FJ:=λa sd=>if(a++x).length<=sizeLine then r (a++x) sd else .no
def yB (g:D->Option Str)(b:FE)(r:FJ):FJ:=λa sd=>(b sd).bind λd=>match g d with
 |some z=>if z.length<=sizeLine/\(a++z).length<=sizeLine then r (a++z) sd else .no
 |none=>.no
def Kj:D->Option Str
 | .str x=>some (reprText x)
 |_=>none
def QJ (X:Cx)(E:XK)(c:Yj)(f:FJ):Prop:=∀(Y:Yb) (s:Shared) (Z: St) (H:Hp) (a:Str) (Q:VK),Inv X Y Z H s->tD X.K E (f a) Z H Q ->
 Joins (model X.prog X.w) X.A X.xe (evalEach c X.env) a (λout b=>out.length<=sizeLine/\EP X Y Z Q (.str out b.toks) { b with toks:=b.toks+1 }) s
section
variable {X:Cx}{E:XK}{es:Yj}{e:Expr}{fe:FE}{r:FJ}{x:Str}{p p1 p2 pos:Pos}{k}
def X2:QJ X E [] qH:=λY s Z H a Q I b=>by
 obtain⟨B,F,sd,r,n⟩:=b;unfold qH at n
 split at n
 .rename_i h;exact⟨h,.str a,H,I.tok _,⟨_,rfl⟩,n _ F H (.refl r.ext.fh) (IsD.str_iff.mpr rfl)⟩
 .exact n.elim
def VH (b:QJ X E es r):QJ X E (.Constant (.str x) k p1::es) (jT x r):=λY s Z H c Q I d=>by
 obtain⟨B,F,sd,rs,n⟩:=d;unfold jT at n
 split at n
 .rename_i h;show wpAny _ _ (eval (.Constant (.str x) k p1) X.env) _ _ s;refine j5 (CH Y s Z H (λy a=>y=.str x/\a=H) I ⟨rfl,rfl⟩) λu f ⟨y,a,g,i,j,l⟩=>?_;subst j l;obtain⟨m,rfl⟩:=i;exact⟨x,m,rfl,h,b Y f Z a _ Q g ⟨B,F,sd,rs,n⟩⟩
 .exact n.elim
def X3 (m:QE X E e fe)(g:QJ X E es r):QJ X E (.FormattedValue e 114 none p2::es) (yB Kj fe r):=λY s Z H a Q I o=>by
 obtain⟨B,F,sd,rs,n⟩:=o;show wpAny _ _ (eval (.FormattedValue e 114 none p2) X.env) _ _ s;refine wpAny_FormattedValue_repr (j5 (m Y s Z H (λy c=>∃z:Str,y=.str z/\(reprText z).length<=sizeLine/\(a++reprText z).length<=sizeLine/\tD X.K E (r (a++reprText z)) Z c Q) I ⟨B,F,sd,rs,(Res.need_bind n).mono (λd b y t c f v=>?_) λ_ _ q=>q⟩) λu A ⟨y,c,i,w,z,f,j,l,q⟩=>?_)
 .cases d with
  |str z =>
   have b:(if(reprText z).length<=sizeLine/\(a++reprText z).length<=sizeLine then r (a++reprText z) sd else .no).need (yc X.K F H Q) (XW X.K E F H):=b
   split at b
   .rename_i h;exact⟨z,IsD.str_iff.mp v,h.1,h.2,B,t,sd,rs.step f,b.mono (λd q=>q.ext f) λ_ _ q=>q.ext f⟩
   .exact b.elim
  |_=>exact b.elim
 .subst f;obtain⟨C,rfl⟩:=w;refine wpAny_pyReprObj_str (wpAny_formatField_str ⟨_,_,rfl,l,?_⟩ ⟨_,_,rfl,l,?_⟩ j) j
  .exact g Y _ Z c _ Q (i.tok _) q
  .exact g Y _ Z c _ Q ((i.tok _).tok _) q
def X4 (h:QJ X E (a::b::es) f):QE X E (.JoinedStr (a::b::es) pos) (f Str.empty):=λY s Z H Q I q=>wpAny_JoinedStr (h Y s Z H Str.empty Q I q)
end
end L2.DL
namespace L2
open PySem
def JK (a:h.kind=.function:=by rfl)(b:h.isCoroutine=false:=by rfl)(c:h.isGenerator=false:=by rfl)(d:N.Nodup:=by decide +kernel)(e:N.take P.length=P:=by rfl)
 (f:∀x∈P,h.names.lookup x=some .local\/h.names.lookup x=some .cell:=by decide +kernel) (g:∀y∈h.names,y.2 ≠ .free:=by decide +kernel):FnScope N P h:=⟨a,b,c,d,e,f,g⟩
def yp (i:Nat)(a:X.N.Nodup)(b:X.N[i]? = some x:=by rfl)(hx:yM X.env.scope x:=by trivial)(c:X.fn x=true\/X.env.scope.names.lookup x=some .local:=by trivial):PG X (.Name x pos) (KP i):=Qb a b hx c
section
variable {p:Yd->Prop}
def cS (h:∀a,p [a]):∀b:Yd,b.length=1->p b:=λb e=>by
 obtain⟨a,rfl⟩:=List.length_eq_one_iff.mp e;exact h a
def vO (h:∀a b,p [a,b]):∀c:Yd,c.length=2->p c:=λc e=>by
 cases c with
 |nil=>simp_all
 |cons a c=>exact cS (p:=λc=>p (a::c)) (λb=>h a b) c (UC e)
def cR (h:∀a b c,p [a,b,c]):∀d:Yd,d.length=3->p d:=λd e=>by
 cases d with
 |nil=>simp_all
 |cons a d=>exact vO (p:=λd=>p (a::d)) (λb c=>h a b c) d (UC e)
def cQ (h:∀a b c d,p [a,b,c,d]):∀f:Yd,f.length=4->p f:=λf e=>by
 cases f with
 |nil=>simp_all
 |cons a f=>exact cR (p:=λf=>p (a::f)) () f (UC e)
end
end L2
namespace L2.DL
section
variable {X:Cx}{E:XK}{o e:Expr}{fo fa:FE}{apos cpos:Pos}
def X5 (fo a:FE):FE:=λsd=>(fo sd).bind λd=>match d with
 | .dct ks ds=>(a sd).bind λk=>.ofO ((JX k).map λq=>(jF ks ds q).getD .non)
 |_=>.no
@[simp]def sm (fo a:FE)(sd:SD):X5 fo a sd=(fo sd).bind λd=>(YX d).bind λo=>(a sd).bind λk=>.ofO ((JX k).map λq=>(jF o.1 o.2 q).getD .non):=by
 unfold X5;cases fo sd with
 |ok d=>cases d<;>rfl
 |ex c fs=>rfl
 |no=>rfl
def ND (s:X.A.units+1<cLine)(t:QE X E o fo)(u:QE X E e fa)(x:M1 X o "get" apos e cpos):QE X E (.Call (.Attribute o "get" apos) [e] [] cpos) (X5 fo fa):=PE.weak (Lj s t u x) λZ H Q A=>by
 obtain⟨B,F,sd,r,n⟩:=A;refine⟨B,F,sd,r,(Res.need_bind n).mono (λd h v C S a i=>?_) λ_ _ q=>q⟩;cases d with
 |dct ks ds =>
  rw[j8] at i;obtain⟨p,xs,rfl,G,I,J⟩:=i;have j:=a.fh _ _ G;refine⟨p,rfl,.inl ⟨_,.inl j⟩,B,C,sd,r.step a,(Res.need_bind h).mono (λk K w l m b L=>?_) λ_ _ q=>q.ext a⟩;obtain⟨z,f,q⟩:=ji K;obtain⟨g,M,f⟩:=Jg.mp f;subst f;obtain⟨N,O⟩:=Xt g I J;refine⟨jX (ks.zip xs) g,?_,?_⟩
  .rw[WG M L];exact xm.k (b.hh _ _ j)
  .cases c:jF ks ds g with
   |none =>
    rw[c] at q;rw[O c];exact q _ l m (a.trans b) (jt.mpr rfl)
   |some d =>
    rw[c] at q;obtain⟨y,P,R⟩:=N d c;rw[P];exact q _ l m (a.trans b) (IsD.same b.ff _ _ R)
 |_=>exact h.elim
end
end L2.DL
namespace L2.ST
def zp (k:jx)(D:List jx):Bool:=D.any λx=>decide (x=k)
def inK_iff:zp k D=true↔k∈D:=by
 unfold zp;rw[List.any_eq_true];exact⟨λ⟨x,hx,e⟩=>by rw[<- of_decide_eq_true e];exact hx,λh=>⟨k,h,Zp rfl⟩⟩
def stepK (D:List jx)(k:jx):List jx:=if zp k D=true then D else D++[k]
def dedL (ks:List jx):List jx:=ks.foldl stepK []
def NE (ks:List jx)(k:jx):dedL (ks++[k])=stepK (dedL ks) k:=by
 unfold dedL;rw[UY];rfl
def X6 (D:List jx)(k:jx):(stepK D k).length=if zp k D then D.length else D.length+1:=by
 unfold stepK;cases h:zp k D
 .rw[Ze (),Ze (),Uf];rfl
 .rw[Zd rfl,Zd rfl]
def NF (D:List jx)(k a:jx):zp a (stepK D k)=(zp a D||decide (a=k)):=by
 unfold stepK;by_cases h:zp k D=true
 .rw[Zd h];by_cases e:a=k
  .rw[e,h];rfl
  .rw[Zo e,Bool.or_false]
 .rw[Ze h,UG,Uq,inK_iff,inK_iff,decide_eq_true_eq,List.mem_append,List.mem_singleton]
theorem EK:∀(ks D:List jx),(ks.foldl stepK D).length<=D.length+ks.length
 | [],D=>Zf _
 |k::ks,D=>by
  have h:=EK ks (stepK D k);rw[X6] at h;rw[Uy,Zu]
  split at h<;>lia
def EL (ks:List jx):(dedL ks).length<=ks.length:=by
 have:=EK ks [];rw[ZC,UK] at this;exact this
theorem EM:∀(ks D:List jx),(D++ks).Nodup->ks.foldl stepK D=D++ks
 | [],D,_=>(ZA _).symm
 |k::ks,D,h=>by
  have a:k∉D:=λz=>by
   rw[List.nodup_append] at h;exact h.2.2 k z k Zqs rfl
  have e:stepK D k=D++[k]:=Ze λz=>a (inK_iff.mp z);rw[Uy,e,EM ks (D++[k]) (by rw[Ub];exact h),Ub];rfl
def dedL_nodup (h:ks.Nodup):dedL ks=ks:=EM ks [] h
def NG (h:KO k v=true):v.scannable=true:=by
 rcases KA h with ⟨i,t,rfl,rfl⟩|⟨x,t,rfl,rfl⟩<;>rfl
abbrev x8 (prog:Program)(w:World)(h:Heap)(S:Addr)(D:List jx):Prop:=h.SetOf (Qj prog w) S (λk=>zp k D) D.length
def yN (H:h.SetOf (Qj prog w) S T n)(e:∀k,T k=zp k D)(a:n=D.length):x8 prog w h S D:=by
 have:T=λk=>zp k D:=funext e;subst this;subst a;exact H
section
variable {prog:Program}{w:World}{A:Around}{R:Result->Yq}{I:Addr}{fp wr:Yi}{G:Array GenState->Array GenState->Prop}{n:Nat}{P:Nat->Value->Prop}{St:Nat->Yq}
def x8.keep (H:x8 prog w hp S D)(k:∀o,hp.get? S=some o->hp'.get? S=some o):x8 prog w hp' S D:=by
 obtain⟨o,a,b,t,c,r⟩:=H;exact⟨o,a,b,t,k _ c,r⟩
def NH (W:WalksS prog w A.in1 I fp wr G ks.length P St)(S:Addr)(f:S∉fp)
 (g:∀i v k,P i v->ks[i]? = some k->KO k v=true) (Q:ks.length<=999):
 ∀(k i:Nat) (s:Shared),ks.length-i=k->i<=ks.length->St i s->x8 prog w s.heap S (dedL (ks.take i)) ->
  (∀s',Moved (S::wr) G s s'->x8 prog w s'.heap S (dedL ks)->R (.ok (.ret .none)) s') ->
  codeAny (model prog w) A (.builtin "set.update.loop" ⟨[.ref S,.ref I],[]⟩) R s:=by
 have j:S∉wr:=λh=>f (W.sub _ h);have a:∀b∈wr,b∈S::wr:=λb l=>Zqm _ l;intro k
 induction k with
 |zero =>
  intro i s C E c H u;have x:i=ks.length:=()
  subst x;rw[Uw] at H;refine codeAny_builtin F.entry_set_update_loop ?_;rw[Around.under_plainId F.plain_set_update_loop _];show wpAny _ A.in1 (pyNext (.ref I) >>= _) _ _ s;refine Za (W.done s _ _ c λs' m=>?_);show wpAny _ A.in1 (ret Value.none) _ _ s';exact Zb (u s' (m.mono a) (H.keep λo e=>m.heap S _ j e))
 |succ k J =>
  intro i s C E c H u;have d:i<ks.length:=()
  have p:ks[i]? = some ks[i]:=Zqg d;refine codeAny_builtin F.entry_set_update_loop ?_;rw[Around.under_plainId F.plain_set_update_loop _];show wpAny _ A.in1 (pyNext (.ref I) >>= _) _ _ s;refine Za (W.item i s _ _ d c λv s' K q m=>?_);have y:=g i v _ K p;have L:=H.keep (hp':=s'.heap) λo e=>m.heap S _ j e;show wpAny _ A.in1 (holding [v] (setAdd S v) >>= _) _ _ s';refine Za (wpAny_holding ?_);unfold setAdd;refine wpAny_holding ?_;refine Za ((Qj prog w).pyHash (k:=ks[i]) y ?_);have T:=EL (ks.take i);have U:(ks.take i).length=i:=by rw[UD];lia
  refine wpAny_setAddHashed_of (knd:=Qj prog w) (s:={ s' with toks:=s'.toks+1 }) y (NG y) L (by unfold scanBound;lia) λh' r M=>?_;have N:dedL (ks.take (i+1))=stepK (dedL (ks.take i)) ks[i]:=by
   rw[Us,p];exact NE _ _
  have O:x8 prog w h' S (dedL (ks.take (i+1))):=by
   rw[N];exact yN M (λX=>(NF _ _ _).symm) (X6 _ _).symm
  refine Zb ⟨plainId_quiet F.plain_set_update_loop _,J (i+1) _ () d (W.frame _ s' _ _ q (UE _) λb l o e=>?_) O λz t B=>?_⟩
  .rw[r.2 b (λh:b=S=>f (by rw[<- h];exact l))];exact e
  .refine u z (Moved.trans W.gtrans ((m.mono a).then_heap (UE _) λb o l e=>?_) t) B;rw[r.2 b (λh:b=S=>l (by rw[h];exact Zqs))];exact e
end
section
variable {prog:Program}{w:World}{A:Around}{E:Ya}{s:Shared}
def NI (a:hp.get? S=some { cls:=.type "set",dict:=none,data:=.set #[] 0 (.fresh 0 0 led) }):x8 prog w hp S []:=
 ⟨_,#[],0,_,a,⟨rfl,rfl,rfl⟩,rfl,λe b=>by simp at b,λk=>by simp[zp],(by unfold scanBound;decide),rfl,rfl⟩
set_option maxRecDepth 100000 in
set_option maxHeartbeats 3200000 in
def NJ (hh:A.handled=none)(hl:s.heap.IsList l items)(hsz:items.size=ks.length)
 (m:∀(i:Nat) (v:Value) (k:jx),items[i]? = some v->ks[i]? = some k->KO k v=true) (hn:ks.length<=999)
 (h:∀(h':Heap) (tk:Nat),x8 prog w h' s.heap.objs.size (dedL ks)->(∀b o,b<s.heap.objs.size->s.heap.get? b=some o->h'.get? b=some o)->Q (.ref s.heap.objs.size) { s with heap:=h',toks:=tk }):
 Yw prog w A (call (.type "set") [.ref l]) Q E s:=by
 have O:=λA:Around=>MU (prog:=prog) (w:=w) (A:=A) (E:=E) (s:=s) (.ref l) (Q₁:=λobj s₁=>obj=.ref s.heap.objs.size/\s₁={ s with heap:=s.heap.push { cls:=.type "set",dict:=none,data:=.set #[] 0 (.fresh 0 0 (vy w)) } }) ⟨rfl,rfl⟩;generalize vy w=led at O;obtain⟨c,tl,P⟩:=F.called_set.mro;have B:=F.called_set.made;have S:=F.called_set.sub;refine wpAny_call (codeAny_of_tree ?_);show wpAny _ _ (callAny (.type "set") _) _ _ _;refine Zb ⟨Code.quiet_builtin _ (by decide +kernel),codeAny_builtin F.entry_type_call ?_⟩;rw[Around.under_plain (weight_type_call_type "set" [.ref l] []) rfl];have h1:=F.called_set.notType;have h2:=F.called_set.canCreate;have hct:=F.typeCall_set_1 (.ref l)
 repeat (any_goals (first|assumption|wp_step))
 refine codeAny_mono (O _) λr s₁ f=>?_;cases r with
 |error e=>exact f
 |ok C =>
  cases C with
  |ret obj =>
   obtain⟨rfl,rfl⟩:=f;generalize a:({ cls:=.type "set",dict:=none,data:=.set #[] 0 (.fresh 0 0 led) }:Obj)=no at *;have T:(s.heap.push no).get? s.heap.objs.size=some no:=Zr _ (by rw[<- a];rfl);have hT:Shared.TypeIs { s with heap:=s.heap.push no } (.ref s.heap.objs.size) "set" := ⟨_,T,by rw[<- a]⟩;have hli:=F.called_set.init.lookup;have hbi:=F.called_set.init.bind (.ref s.heap.objs.size)
   repeat (any_goals (first|assumption|wp_step))
   refine codeAny_mono (codeAny_call_builtin (R:=wants (λr s₂=>r=.none/\∃h' tk,s₂={ s with heap:=h',toks:=tk }/\x8 prog w h' s.heap.objs.size (dedL ks) /\
    (∀b o,b<s.heap.objs.size->s.heap.get? b=some o->h'.get? b=some o)) E) F.called_set.init.plain F.entry_set_init (check_set_init_1 hT ?_)) λr₂ s₂ hr₂=>?_
   .obtain⟨ol,n,p,U,q⟩:=hl;obtain⟨X,g,G,d⟩:=ol;simp only at p q;subst p;subst q;have t:(s.heap.push no).get? l=some { cls:=.type "list",dict:=g,data:=.seq items U,slots:=d }:=Zq _ n;have Y:=F.sub_list_set;have Z:=F.sub_list_frozenset;have hne:(Value.type "list" == Value.type "dict")=false:=by decide
    have u:(s.heap.push no).IsList l items:=⟨_,t,rfl,U,rfl⟩;subst a;unfold Builtin.«set.__init__» noKeywords Builtin.Frozenset.updateFrom;generalize H:pyIter=PI
    wp_walk
    subst H;refine wpAny_pyIter_list u ?_;refine Za (wpAny_runValue ?_);have x:l<s.heap.objs.size:=Zk n;have I:A.in1.in1.in1.handled=none:=by simp[hh]
    generalize a:({ cls:=.type "set",dict:=none,data:=.set #[] 0 (.fresh 0 0 led) }:Obj)=no at *;have j:(s.heap.push no).objs.size=s.heap.objs.size+1:=Heap.size_push ..;have y:l≠(s.heap.push no).objs.size:=by rw[j];exact Zi (Nat.lt_succ_of_lt x)
    have J:s.heap.objs.size ∉ [(s.heap.push no).objs.size,l]:=by
     simp only[Uj,Uk,or_false,not_or];exact⟨by rw[j];exact Zi (Nat.lt_succ_self _),UA x⟩
    have W:=(Walks.list (prog:=prog) (w:=w) I _ l y items).toS;rw[hsz] at W;refine NH W s.heap.objs.size J (λi v k hv hk=>m i v k hv hk) hn (ks.length-0) 0 _ rfl (Ue _)
     ⟨⟨_,Zr _ rfl,rfl,rfl⟩,(u.push _)⟩ (NI (by rw[a];exact Zq _ T)) λs' z H'=>?_
    .obtain⟨h',g',d',K,L⟩:=s';have eg:g'=s.gens:=z.gens;have ed:d'=s.drawn:=z.drawn;have eo:L=s.os:=z.os;subst eg;subst ed;subst eo;show wpAny _ _ _ _ _ _;refine Zb ?_;show wpAny _ _ (ret Value.none) _ _ _;refine Zb ⟨rfl,h',K,rfl,H',λb o hb e=>?_⟩;exact z.heap b o (by simp only[Uj,Uk,or_false,not_or];exact⟨Zi hb,by rw[j];exact Zi (Nat.lt_succ_of_lt hb)⟩) (Zq _ (Zq _ e))
   .cases r₂ with
    |error e=>exact hr₂
    |ok fl₂ =>
     cases fl₂ with
     |ret r =>
      obtain⟨rfl,h',tk,rfl,M,N⟩:=hr₂
      repeat (any_goals (first|assumption|wp_step))
      exact h _ _ M N
     |_=>exact hr₂.elim
  |_=>exact f.elim
end
def ZK (X:Cx)(S:Addr)(n:Nat):HO:=.ext λh=>∃T,h.SetOf (Qj X.prog X.w) S T n
def EN (X:Cx):Yr->Hp->VK->Prop:=λxs H Q=>∃a ks,xs=[.ref a]/\Rd H a (.lst (ks.map kV))/\ks.length<=999/\∀S,H S=none->Q (.ref S) (upd H S (ZK X S (dedL ks).length))
def EO (X:Cx):Yr->Hp->VK->Prop:=λxs H Q=>∃S n,xs=[.ref S]/\H S=some (ZK X S n)/\n<=999/\Q (.int n) H
section
variable {X:Cx}
def call_setK (n:X.calm=true):qc X (.type "set") (EN X):=by
 intro Y s Z H xs L Q I p h;obtain⟨a,ks,rfl,y,A,q⟩:=h;obtain⟨u,rfl,B⟩:=Q6 p;obtain rfl:u=Value.ref a:=B;obtain⟨C,f,E,M⟩:=I.list (.inl y);have F:=f.length;rw[Zql] at F;refine NJ (I.ok.hd n) E.isList (ks:=ks) (by rw[Zm];lia) (λi v k g G=>?_) A λh' tk j kk=>?_
 .obtain⟨N,c,J⟩:=f.get (i:=i) (x:=kV k) (by rw[Zv,G];rfl);rw[List.getElem?_toArray,c] at g;obtain rfl:=Zqi g;exact V1 (P:=X.prog) (w:=X.w) J
 .refine⟨.ref s.heap.objs.size,upd H s.heap.objs.size (ZK X s.heap.objs.size (dedL ks).length),I.laid (t':=tk) (λb o e=>kk b o (Zk e) e) (Zf _) ?_,rfl,q _ (I.hok.fresh (Zf _))⟩;obtain⟨o,l,m,t,d,r⟩:=id j;refine⟨⟨_,j⟩,⟨_,d⟩,λO R z K=>?_⟩;obtain⟨T,o,l,m,t,d,r⟩:=z;exact⟨T,o,l,m,t,K _ d,r⟩
def call_lenK:qc X (.builtin "len") (EO X):=by
 intro Y s Z H xs j Q I b h;obtain⟨S,n,rfl,c,l,q⟩:=h;obtain⟨u,rfl,d⟩:=Q6 b;obtain rfl:u=Value.ref S:=d;obtain⟨⟨T,o,m,p,t,e,a,f,_,_,r,g,i⟩,_,_⟩:=(show xn X.prog X.w H s.heap S (ZK X S n) from I.hok S _ c);exact call_len_set e a f g () ⟨.int n,H,I.tok _,⟨_,by rw[i]⟩,q⟩
end
end L2.ST
namespace L2.DL
open PySem PySem.Spec PyProof.Rows L2.ST
def ZL:Yt->Yu
 | [.lst ds]=>(QD JX ds).bind λks=>if ks.length<=999 then some (.int (dedL ks).length) else none
 |_=>none
theorem EQ {K:W.Frag}{F:Hp}:∀{ds:Yt} {ks:List jx} {a:Yr},QD JX ds=some ks->IsDs K F ds a->a=ks.map kV
 | [],ks,a,h,i=>by
  rw[IsDs.nil_iff] at i;obtain rfl:=Zqi h;exact i
 |d::ds,ks,a,h,i=>by
  rw[jh] at i;obtain⟨x,r,rfl,b,c⟩:=i;obtain⟨k,e,h⟩:=Je.mp (show(JX d).bind (λx=>(QD JX ds).map λxs=>x::xs)=some ks from h);obtain⟨l,f,rfl⟩:=Jg.mp h;rw[WG e b,EQ f c];rfl
section
variable {X:Cx}{E:XK}{fr:FA}{es:Yj}{e:Expr}
def NK (h:∀{d:TA},PA X es d->PE X e (nv (EO X) (Dj (nv (EN X) d) uS)))(f:QA X E es fr):QE X E e (jr ZL fr):=PE.weak (h f) λZ H Q g=>by
 obtain⟨B,F,sd,r,n⟩:=g;refine⟨B,F,sd,r,(Res.need_bind n).mono (λds i u j w c l=>?_) λ_ _ q=>q⟩;obtain⟨z,b,q⟩:=ji i;unfold ZL at b
 split at b
 .obtain⟨ks,m,b⟩:=Je.mp b
  split at b
  .rename_i o;obtain rfl:=Zqi b;obtain⟨v,rfl,h⟩:=Qx l;rw[jp] at h;obtain⟨a,x,rfl,p,s⟩:=h;obtain rfl:=EQ m s;have y:=EL ks;refine⟨a,ks,rfl,p.same c.fh,o,λS t=>⟨S,_,rfl,J8,(),?_⟩⟩;exact q _ j _ (c.trans (.keep c.fh t _)) (jc.mpr rfl)
  .exact Jv b
 .exact Jv b
end
end L2.DL
namespace L2
section
variable {X:Cx}{Y:Yb}{Z: St}{H:Hp}{s:Shared}
def Inv.freeze (I:Inv X Y Z H s)(h:H d=some (.dK kvs))(a:s.heap.get? d=some o):Inv X Y Z (upd H d (.frz o (.dK kvs))) s:=by
 refine I.step (h':=s.heap) (g':=s.gens) (d':=s.drawn) (t':=s.toks) (ch:=[]) (λb f=>nomatch f) (λb o _ _ _ e _=>e) (λb o _ _ _ e _=>⟨o.slots,e⟩) (λb o _ _ n=>?_) (λb o _ e=>⟨o,e⟩) (λb xs e=>?_) (λb o u e=>?_) (λb i e=>⟨#[],?_⟩) (λm g=>g) (λb u e=>?_) I.bare
 .rw[Jx λz=>by rw[z,h] at n;cases n];exact n
 .rw[Jx λz=>by rw[z,h] at e;cases e];exact e
 .rw[Jx λz=>by rw[z,h] at e;cases e];exact e
 .rw[Jx (λz=>by rw[z,h] at e;cases e),e];simp
 .by_cases nb:b=d
  .subst nb;rw[J8] at e;obtain rfl:=Zqi e;exact⟨a,(I.hok b _ h).stay (λ_ _ _ q=>q) (λc q=>by rw[Jx λz=>by rw[z,h] at q;cases q];exact q) λc xs q=>by rw[Jx λz=>by rw[z,h] at q;cases q];exact q⟩
  .rw[Jx nb] at e;exact(I.hok b u e).stay (λ_ _ _ q=>q) (λc q=>by rw[Jx λz=>by rw[z,h] at q;cases q];exact q) λc xs q=>by rw[Jx λz=>by rw[z,h] at q;cases q];exact q
end
def cJ (d:Addr)(o:Obj)(a:List (jx×V)):It:=
 ⟨λi H=>H d=some (.frz o (.dK a))/\i<a.length,
  λi H v b=>∃T k x,v=.ref T/\H T=none/\b=upd H T (.tup [kV k,x])/\a[i]? = some (k,x),
  λi H=>H d=some (.frz o (.dK a))/\a.length<=i⟩
def NL (it d:Addr)(n a i:Nat)(h:Heap):Prop:=∃ok b,IsItemIter h it d i n a ok b
theorem KV.at {κ: Type}:∀{d:List (κ × V)} {f:List (κ × Value)} {i:Nat} {a:κ × V},KV d f->d[i]? = some a->∃v,f[i]? = some (a.1,v)/\jq a.2 v:=by
 intro d f i a b;unfold KV at b
 induction b generalizing i with
 |nil=>intro e;simp at e
 | @cons p q _ _ g tt h =>
  cases i with
  |zero =>
   intro c;simp at c;subst c;exact⟨q.2,by rw[g.1];rfl,g.2⟩
  |succ i =>
   intro c;obtain⟨v,j,l⟩:=h (by simpa using c);exact⟨v,by simpa using j,l⟩
def gZ (h:KO k v=true):jq (kV k) v:=by
 rcases KA h with ⟨i,t,rfl,rfl⟩|⟨x,t,rfl,rfl⟩
 .exact⟨t,rfl⟩
 .exact⟨t,rfl⟩
def ER (e:∀b a,o.data=.dict b a->a=ep)(I:Inv X Y Z H s)(h:H d=some (.frz o (.dK kvs))):
 ∃c,KV kvs c/\s.heap.DictAt (Qj X.prog X.w) d c ep:=by
 obtain⟨g,_,_,c,f,m,b,a,i,l,j,r⟩:=(show xn X.prog X.w H s.heap d (.frz o (.dK kvs)) from I.hok d _ h);rw[g] at i;obtain rfl:=Zqi i;have:=e b a j;subst this;exact⟨c,f,o,b,g,l,j,r⟩
def NM:entryFor table "dict_itemiterator.__iter__" = some Builtin.«dict_keyiterator.__iter__» :=
 entryFor_alias (id':= "dict_keyiterator.__iter__") (by kernel_rfl) (by first|rfl|decide +kernel) (by decide +kernel) (by kernel_rfl)
def NN {P:Program}{w:World}{K:W.Frag}{j:Yj}{kx}{x:Pos}(d it:Addr)(o:Obj)(e:List (jx×V))(O:Nat)(l:∀S m,o.data=.dict S m->m=O):Turn P w K (.Tuple j kx x) (cJ d o e) [it] it (NL it d e.length O) where
 mem:=by simp
 obj:=λi h st c a=>by
  obtain⟨ok,n,b⟩:=st;rw[Jb.mp a];exact⟨_,b,λv q=>by cases q⟩
 keep:=λi h h' st kk=>by
  obtain⟨ok,n,b⟩:=st;exact⟨ok,n,kk it () _ b⟩
 item:=by
  intro X y hw B a i Y s Z H E I r st C;subst y hw B;obtain⟨F,G⟩:=C;obtain⟨J,f,g⟩:=ER l I F;obtain⟨ok,n,b⟩:=st;have t:e.length=J.length:=f.length;rw[t] at b;obtain⟨v,T,U⟩:=KV.at f (Zqg G);refine wpAny_pyNext_items_item b g T λL h' p M ht hz kk=>?_;refine⟨_,rfl,wpAny_letOwnedTupleGo_items (s:={ s with heap:=h' }) M λR b1 u=>?_⟩;have u:Heap.SameBut it h' R:=u;have lt:it≠s.heap.objs.size:=Zi (Zk b);have I2:=I.paired (t':=s.toks) (h':=R) (ch:=[it]) (gZ p) U r (λc a=>by rw[Jb.mp a];exact lt) (u.extBut _ _ (Ne.symm lt) ht) (λc o a q=>by
   have a:c≠it:=λz=>a (by simp[z]);exact u.extBut c o a (kk c o a q))
  refine⟨.ref s.heap.objs.size,_,I2,rfl,⟨_,_,_,rfl,I.hok.fresh (Zf _),rfl,Zqg G⟩,⟨L,v,by rw[t];exact b1⟩,λc a=>?_⟩;rw[Jb.mp a];exact(Jx lt).trans (r it ()).1
 done:=by
  intro X y hw B a i Y s Z H E I r st C;subst y hw B;obtain⟨F,G⟩:=C;obtain⟨J,f,g⟩:=ER l I F;obtain⟨ok,n,b⟩:=st;have t:e.length=J.length:=f.length;rw[t] at b;refine wpAny_pyNext_items_end (I.ok.hd a) b g (List.getElem?_eq_none ()) λh' eb=>⟨rfl,I.turnedL (t':=s.toks) (ch:=[it]) (λc o a q=>?_) λc a=>r c a⟩;exact eb c o (λz=>a (by simp[z])) q
 self:=λA i s Q E st h=>by
  obtain⟨ok,n,b⟩:=st;have N:s.TypeIs (.ref it) "dict_itemiterator" := ⟨_,b,rfl⟩;refine wpAny_pyIter_slot N PySem.F.slot_dict_itemiterator_iter (wpAny_call_entry PySem.F.slot_dict_itemiterator_iter N NM ?_ (PySem.F.args_dict_itemiterator_iter_1 _));show wpAny _ _ (ret (.ref it)) _ _ s;exact Zb ⟨_,rfl, "dict_itemiterator",_,N,PySem.F.slot_dict_itemiterator_next.lookup,h⟩
section
variable {X:Cx}
def kF:V->Yr->Hp->VK->Prop:=λx b H Q=>∃d a,x=.ref d/\b=[]/\H d=some (.dK a)/\∀p,H p=none->Q (.ref p) (upd H p (Xo p d))
def NO (R:It->Hp->Prop):VK:=λx b=>∃p d a,x=.ref p/\b p=some (Xo p d)/\b d=some (.dK a)/\∀o,R (cJ d o a) (upd b d (.frz o (.dK a)))
def NP (K:W.Frag)(te:TE):TI:=λZ H R=>kc K "dict" kF te Z H (NO R)
def NQ {e:Expr}{te:TE}{a f:Pos}{m:Yj}{kx}{F:Pos}(G:PE X e te)
 (g:attributeBase e "items" X.env (eval e X.env)=eval e X.env:=by rfl) (i:(a.endLine == f.line)=true:=by rfl):
 PI X (.Tuple m kx F) (.Call (.Attribute e "items" a) [] [] f) (NP X.K te):=by
 intro Y s Z H R I h;refine j5 (IT PySem.F.plainAttrs_dict PySem.F.slot_dict_items PySem.F.type_dict_items LF G g i Y s Z H _ I h) λu l ⟨x,T,t,J,p,d,n,K,L,r,q⟩=>?_;subst K;obtain rfl:u=Value.ref p:=J;obtain⟨j,_,_⟩:=(show xn X.prog X.w _ l.heap p (Xo p d) from t.hok p _ L);obtain⟨_,_,A,v,o,M,B,C,N,E,dr⟩:=YI t.hok r;have w:l.heap.DictAt (Qj X.prog X.w) d A B:=⟨o,M,C,N,E,dr⟩;have O:n.length=A.length:=v.length;have y:=t.freeze r C;refine wpAny_pyIter_items j w ?_;refine⟨l.heap.objs.size,[l.heap.objs.size],_,_,_,rfl,y.kept (t':=l.toks) (λb o e=>Zq _ e),NN d l.heap.objs.size o n B (λP Q z=>by rw[E] at z;cases z;rfl),⟨_,_,by rw[O];exact Zr _ rfl⟩,λc S=>?_,q o⟩;rw[Jb.mp S];exact y.fpOk (Zf _) (y.hok.fresh (Zf _))
end
end L2
namespace L2.DL
def vz:jx->D
 | .inl i=>.int i
 | .inr x=>.str x
def VI (ks:List jx)(ds:Yt):Yt:=List.zipWith (λk x=>D.tup [vz k,x]) ks ds
def X7:D->Res Yt
 | .dct ks ds=>.ok (VI ks ds)
 |_=>.no
def d5 (f:FE):FA:=λsd=>(f sd).bind X7
@[simp]def cp (f:FE)(sd:SD):d5 f sd=(f sd).bind X7:=rfl
@[simp]def ag (ks:List jx)(ds:Yt):X7 (.dct ks ds)=.ok (VI ks ds):=rfl
def NR (K:W.Frag)(F:Hp)(k:jx):IsD K F (vz k) (kV k):=by
 cases k with
 |inl i=>exact jc.mpr rfl
 |inr x=>exact IsD.str_iff.mpr rfl
def NS {K:W.Frag}{c:Hp}{d:Addr}{o:Obj}{ks:List jx}{ds:Yt}{xs:Yr}(h:c d=some (.frz o (.dK (ks.zip xs))))(t:ks.length=xs.length)(e:IsDs K c ds xs):yj K c (cJ d o (ks.zip xs)) (VI ks ds):=λi u w f g=>by
 have j:=g _ _ (f _ _ h);have y:=e.length;have z:(ks.zip xs).length=ks.length:=by rw[List.length_zip];lia
 have n:(VI ks ds).length=ks.length:=by unfold VI;rw[List.length_zipWith];lia
 rw[n];refine⟨λp=>⟨⟨j,()⟩,λv A q=>?_⟩,λp=>⟨j,()⟩⟩;obtain⟨T,k,x,rfl,r,rfl,b⟩:=q;have l:i<ds.length:=()
 obtain⟨B,hx,s⟩:=e.get (Zqg l);rw[List.getElem?_zip_eq_some] at b;obtain⟨b,a⟩:=b;have b:ks[i]? = some k:=b;have a:xs[i]? = some x:=a;rw[hx] at a;cases  a;have m:=jI g r (.tup [kV k,x]);refine⟨.tup [vz k,ds[i]],_,?_,m,jn.mpr ⟨T,_,rfl,.of J8,.mk (NR K _ k) (.mk (IsD.same (f.trans m.ff) _ _ s) .nil)⟩⟩;unfold VI;rw[List.getElem?_zipWith,b,Zqg l]
section
variable {X:Cx}{E:XK}{f:FE}{tp apos cpos:Pos}{elts:Yj}{e:Expr}
def NT {kx}(w:QN X E e f)(a:attributeBase e "items" X.env (eval e X.env)=eval e X.env:=by rfl)(c:(apos.endLine == cpos.line)=true:=by rfl):
 QI X E (.Tuple elts kx tp) (.Call (.Attribute e "items" apos) [] [] cpos) (d5 f):=PI.weak (NQ w a c) λZ H R x=>by
 obtain⟨B,F,sd,r,n⟩:=x;refine⟨B,F,sd,r,(Res.need_bind n).mono (λz i l m K g s t A=>?_) λ_ _ q=>q⟩;unfold X7 at i
 split at i
 .rename_i ks ds;obtain⟨xs,d,C,G⟩:=A;refine⟨.inr (.inr (.inl ⟨rfl,.inl ⟨_,d⟩⟩)),l,ks.zip xs,rfl,rfl,d,λp j=>⟨p,l,ks.zip xs,rfl,J8,?_,λo=>?_⟩⟩
  .have h:l≠p:=λz=>by rw[z,j] at d;exact Jv d
   exact(Jx h).trans d
  .have I:m p=none:=Qd g.fh j;have Hp:H p=none:=Qd g.hh j;have h:l≠p:=λz=>by rw[z,j] at d;exact Jv d
   refine i _ (upd m l (.frz o (.dK (ks.zip xs)))) _ ⟨g.ff.trans (Ku t _),λb u q=>?_,λb u q=>?_,λb J v=>?_⟩ (NS J8 C (IsDs.same (Ku t _) _ _ G))
   .by_cases z:b=l
    .subst z;rw[J8] at q ⊢;exact q
    .rw[Jx z] at q ⊢;have:b≠p:=λy=>by rw[y,I] at q;exact Jv q
     rw[Jx this];exact g.fh _ _ q
   .have z:b≠l:=λy=>by rw[y,s] at q;exact Jv q
    have y:b≠p:=λy=>by rw[y,Hp] at q;exact Jv q
    rw[Jx z,Jx y];exact g.hh _ _ q
   .have z:b≠l:=λy=>v (by rw[y];exact s);rw[Jx z];exact g.new b J v
 .exact i.elim
end
def vB (i:Nat)(sd:SD):Option (Option SV)->Res D->Res Out
 |some (~~~(.int a)),r=>r.bind λd=>match d with
  | .int b=>.ok (.next (sd.set i (~~~(.int (a+b)))))
  |_=>.no
 |_,_=>.no
def z6 (i:Nat)(f:FE):FS:=λsd=>vB i sd sd[i]? (f sd)
@[simp]def cw (i:Nat)(f:FE)(sd:SD):z6 i f sd=vB i sd sd[i]? (f sd):=rfl
@[simp]def mF (i:Nat)(sd:SD)(a b:Int):vB i sd (some (~~~(.int a))) (.ok (.int b))=.ok (.next (sd.set i (~~~(.int (a+b))))):=rfl
def NU (j:X.N.Nodup)(l:X.N[i]? = some x)(hx:yM X.env.scope x)(o:QE X E e fe)
 (s:X.fn x=true\/X.env.scope.names.lookup x=some .local:=by trivial):QS X E m (.AugAssign (.Name x pos') .Add e pos) (z6 i fe):=PS.weak (HM j l hx o HN s) λT Z H t=>by
 obtain⟨B,F,sd,r,n⟩:=t;unfold z6 at n;generalize u:sd[i]? = q at n;cases q with
 |none=>exact False.elim n
 |some q=>cases q with
  |none=>exact False.elim n
  |some q=>cases q with
   |own p d=>exact False.elim n
   |val d=>cases d with
    |int a =>
     obtain⟨v,w,c⟩:=r.val u;rw[jc] at c;subst c;have n:((fe sd).bind λd=>match d with
      | .int b=>Res.ok (Out.next (sd.set i (~~~(.int (a+b)))))
      |_=>.no).need _ _:=n
     refine⟨_,w,B,F,sd,r,(Res.need_bind n).mono (λd f v y z g h=>?_) λ_ _ q=>q.ext r.ext⟩;cases d with
     |int b =>
      rw[jc] at h;exact⟨_,_,rfl,h,f _ y z g.ff ((r.step g).setVal (jc.mpr rfl))⟩
     |_=>exact False.elim f
    |_=>exact False.elim n
def ZM (is:Yg)(f:FE):FE:=λsd=>(f (qa is sd)).strict.bind λd=>if JZ d then .ok d else .no
def NV (is:Yg)(f:FT):FT:=λsd=>(f (qa is sd)).strict
@[simp]def rF (is:Yg)(f:FE)(sd:SD):ZM is f sd=(f (qa is sd)).strict.bind λd=>if JZ d then .ok d else .no:=rfl
@[simp]def bL (is:Yg)(f:FT)(sd:SD):NV is f sd=(f (qa is sd)).strict:=rfl
section
variable {X:Cx}{E:XK}{e:Expr}
def NW (is:Yg)(h:QE X E e fe):QE X E e (ZM is fe):=PE.weak h λZ H Q b=>by
 obtain⟨B,F,sd,r,n⟩:=b;obtain⟨f,o,g⟩:=r.frz is;refine⟨B,f,_,g,(Res.need_strict (Res.need_bind n)).mono (λd a v p i j l=>?_) λc fs q=>q⟩
 split at a
 .rename_i m;exact a v F i (.grow r.ext.fh j.hh) (l.scal m)
 .exact a.elim
end
end L2.DL
namespace L2
open PySem PySem.Spec PyProof.Rows Builtin Builtin.ObjectAttr Builtin.Getset_descriptor
section
variable {prog:Program}{w:World}{A:Around}{E:Ya}{s:Shared}{K:W.Frag}{x C:Addr}{o:Obj}
structure ExcCl (K:W.Frag)(C:Addr):Prop where
 ga:W.findIn K (.ref C) "__getattribute__" = some (some (.builtin "BaseException.__getattribute__"))
 hook:W.findIn K (.ref C) "__getattr__" = some none
 cls:W.findIn K (.ref C) "__class__" = some (some (.builtin "object.__class__"))
 get:W.specialIn K (.builtin "object.__class__") "__get__" = some (some (.builtin "getset_descriptor.__get__"))
 sets:W.takesIn K (.builtin "object.__class__")=some true
 obj:W.mroIn K C (.type "object")=some true
 base:W.subIn K (.ref C) (.type "BaseException")=some true
 isC:W.hasDictIn K C=true
def NX (c:ExcCl K C)(X:K.In s.heap)(l:s.heap.get? x=some o)(n:o.cls=.ref C)(h:Q (some (.ref C)) { s with toks:=s.toks+1 }):Yw prog w A (getAttr? (.ref x) "__class__") Q E s:=by
 obtain⟨e,g,d,t,os⟩:=s;have i:W.Looks (model prog w) e (typeOf (.ref x)) (.ref C):=n ▸ (W.Looks.ld l).andThen .now;have p:=W.looks_findIn (M:=model prog w) X c.ga;have r:=W.looks_findIn (M:=model prog w) X c.hook;have u:=W.looks_findIn (M:=model prog w) X c.cls;have v:=W.looks_specialIn (M:=model prog w) X c.get;have y:=W.looks_takesIn (M:=model prog w) X c.sets;have z:=W.looks_subIn (M:=model prog w) X c.base;have L:=W.looks_mroIn (M:=model prog w) X c.obj;unfold getAttr? getAttrBy? getAttrBy;refine Za (wpAny_mkText (Za (wpAny_attempt (wpAny_holding (Za (i.at (Za (p.at ?_))))))));have B:(onTheHeap (Value.ref C)&&Value.builtin "BaseException.__getattribute__" == Value.builtin "object.__getattribute__")=false:=by
  rw[show(Value.builtin "BaseException.__getattribute__" == Value.builtin "object.__getattribute__")=false by decide +kernel];rfl
 dsimp only;rw[B];simp only[UZ,if_false];unfold getAttrByItsOwn hookBefore;have G:onTheHeap (Value.ref C)=true:=rfl;rw[G];simp only[if_true];refine Za (r.at ?_);refine Za (wpAny_attempt (wpAny_holding ?_));unfold callGetattribute;simp only[Bool.false_and,UZ,if_false];unfold boundAndCalled;refine Za (wpAny_of_eq (F.excAttr_ValueError.ga.bind (.ref x)) ?_);dsimp only;have H:∀{b:Around} {R:Result->Yq} (t':Nat),R (.ok (.ret (.ref C))) ⟨e,g,d,t',os⟩->codeAny (model prog w) b (.call (.builtin "getset_descriptor.__get__") ⟨[.builtin "object.__class__",.ref x,.ref C],[]⟩) R ⟨e,g,d,t',os⟩:=λ{b R} t' I=>by
  refine codeAny_call_builtin W.KF.slot_gs.plain W.KF.entry_gs (W.KF.slot_gs.check _ _ _ _ _ _ _ _ W.KF.type_class (W.KF.args_gs _ _ _) ?_);unfold Builtin.«getset_descriptor.__get__» descrGet;rw[W.dga_obj];refine Za (Zb ?_);unfold descrGetter descrCheckInstance descrNameAndClass isInstance;simp only[W.KF.owner_class]
  repeat lk
  refine⟨Code.quiet_builtin _ (by decide +kernel),codeAny_builtin W.KF.entry_class ?_⟩;unfold Builtin.«object.__class__» shownTypeOf
  repeat lk
  exact I
 refine wpAny_call (codeAny_call_builtin F.excAttr_ValueError.ga.plain F.entry_bexc_ga ?_);have J:builtinKind "BaseException.__getattribute__" = some .slot:=by decide +kernel
 have sp:splitId "BaseException.__getattribute__" = some ("BaseException", "__getattribute__"):=by decide +kernel
 have j:=F.args_bexc_ga (.ref x) (.str "__class__" t);show wpAny _ _ (checkBuiltinCall "BaseException.__getattribute__" ⟨[.ref x,.str "__class__" t],[]⟩) _ _ _;simp only[checkBuiltinCall,J,sp];refine Za (m:=isInstance (.ref x) (.type "BaseException")) (W.Looks.at (i.andThen z) ?_);rw[Ze (by decide)];unfold argsOk at j;refine wpAny_of_eq (a:=Ym) j ?_;show wpAny _ _ (Builtin.«object.__getattribute__» ⟨[.ref x,.str "__class__" t],[]⟩) _ _ _;have N:W.Looks (model prog w) e (Builtin.ObjectAttr.find (.ref x) (.ref C) "__class__") (.bind (.builtin "getset_descriptor.__get__") (.builtin "object.__class__")):=by
  intro b O f s' k q;unfold Builtin.ObjectAttr.find;refine Za (u b _ f s' k (Za (m:=Builtin.ObjectAttr.getOf _) (v b _ f s' k ?_)));refine Za (Za (y b _ f s' k (Zb ?_)));exact Za (wpAny_rule (Zb q))
 unfold Builtin.«object.__getattribute__»
 repeat (first|with_reducible refine wpAny_call (H _ ?_)|lk)
 exact h
def NY (c:ExcCl K C):W.KitX K (.ref x) (.ref C) (λh=>∃o,h.get? x=some o/\o.cls=.ref C) where
 ty:=λM h _ ⟨o,b,d⟩=>d ▸ (W.Looks.ld b).andThen .now
 it:=λM h X _=>by
  obtain⟨cd,a,_⟩:=W.any_some c.isC;unfold W.clsIn at a
  split at a
  .rename_i b;intro j l m s' k q;unfold isType loadHead;exact Za (wpAny_loadPart (k _ _ (X _ _ b)) (Zb q))
  .exact Jv a
 ne:=λh g dd i n p X f=>by
  obtain⟨cd,a,_⟩:=W.any_some c.isC;refine Bool.eq_false_iff.mpr λq=>?_;have e:C=g:=Value.ref.inj (Yl.mp q);subst e;unfold W.clsIn at a
  split at a
  .rename_i b;have z:=(X _ _ b).symm.trans f;cases z
  .exact Jv a
 ca:=λX ⟨o,b,d⟩ k=>NX c X b d k
structure NoSub (K:W.Frag)(C U:Addr):Prop where
 ne:Nat.beq C U=false
 sub:W.subIn K (.ref C) (.ref U)=some false
 ty:W.typeIn K (.ref U)=some (.type "type")
 dc:W.hasDictIn K U=true
def NoSub.one (h:NoSub K C U):W.kitOne K (.ref C) (.ref U)=some false:=by
 obtain⟨cd,a,_⟩:=W.any_some h.dc;have e:¬(Value.ref C == Value.ref U)=true:=λz=>by
  have z:C=U:=Value.ref.inj (Yl.mp z);have:=h.ne;rw[z,Nat.beq_refl] at this;cases this
 unfold W.kitOne;rw[Ze e];show(if _ then _ else _)=_;rw[Zd (by rw[a,h.ty];rfl)];exact h.sub
end
end L2
namespace L2.DL
structure Ucl (K:W.Frag)(mg:Yc)(c:Str)(C:Addr):Prop where
 ns:W.nsIn K mainGlobals c=some (some (.ref C))
 mgc:mg c=some (.ref C)
section
variable {X:Cx}{E:XK}{m:Option Bool}{pos:Pos}{e:Expr}{fe:FE}
def kz (i:Nat)(f:FE):FS:=λsd=>(f sd).bind λd=>.ok (.next (sd.set i (some (if JZ d then .val d else .own false d))))
def kv (f:FE):FS:=λsd=>(f sd).bind λd=>if JZ d then .ok (.ret d) else .no
def NZ (f:FE):FS:=λsd=>(f sd).bind λd=>if JZ d then .no else .ok (.ret d)
end
end L2.DL
namespace L2
end L2
namespace L2.DL
section
variable {X:Cx}{E:XK}{m:Option Bool}{pos:Pos}
def tQ (f:FE)(tg:Tg):FS:=λsd=>(f sd).bind λd=>(JD tg d sd).bind λsd'=>.ok (.next sd')
@[simp]def cx (f:FE)(tg:Tg)(sd:SD):tQ f tg sd=(f sd).bind λd=>(JD tg d sd).bind λsd'=>.ok (.next sd'):=rfl
end
def B8 (n a j:Nat)(g:FS)(ds:Yt):Res D:=if ds.length=a then(g (WN n j ds)).bind λo=>match o with
 | .ret d=>.ok d
 | .next _=>.ok .non
 |_=>.no else .no
def Oa (n a j:Nat)(g:FS)(ds:Yt)(h:ds.length=a):B8 n a j g ds=(g (WN n j ds)).bind qz:=by
 unfold B8;rw[Zd h];cases g (WN n j ds) with
 |ok o=>cases o<;>rfl
 |ex c fs=>rfl
 |no=>rfl
@[simp]def n8 (n:Nat)(g:FS)(a b c:D):B8 n 3 0 g [a,b,c]=(g (some (.own false a)::~~~b::~~~c::List.replicate (n-3) none)).bind qz:=Oa n 3 0 g [a,b,c] rfl
section
variable {X:Cx}{pos:Pos}
def my (i:Nat)(a:Yt->Res D)(b:FA):FE:=λsd=>match sd[i]? with
 |some (some (.own _ d))=>(b sd).bind λds=>a (d::ds)
 |_=>.no
@[simp]def sf (i:Nat)(a:Yt->Res D)(b:FA)(sd:SD):my i a b sd=match sd[i]? with
 |some (some (.own _ d))=>(b sd).bind λds=>a (d::ds)
 |_=>.no:=rfl
def X8:Yj->Option Yt
 | []=>some []
 | .Constant (.str x) _ _::r=>(X8 r).map (D.str x :: ·)
 | .Constant (.int i) _ _::r=>(X8 r).map (D.int i :: ·)
 |_=>none
def ZN (ds:Yt):FA:=λ_=>.ok ds
@[simp]def rX (ds:Yt)(sd:SD):ZN ds sd=.ok ds:=rfl
theorem ES:∀{a:Yj} {ds:Yt},X8 a=some ds->QA X E a (ZN ds)
 | [],ds,h=>by
  cases h;exact Ju
 |e::a,ds,h=>by
  have go:∀{d:D},starEach (e::a) X.env=(false,eval e X.env)::starEach a X.env->QE X E e (dC d)->(X8 a).map (d :: ·)=some ds->QA X E (e::a) (ZN ds):=λ{d} b f h=>by
   cases q:X8 a with
   |none=>rw[q] at h;cases h
   |some g =>
    rw[q] at h;cases h;exact Js f (ES q) b
  cases e with
  |Constant c k p =>
   cases c with
   |str x=>exact go rfl J3 h
   |int i=>exact go rfl Jt h
   |_=>exact Jv h
  |_=>exact Jv h
def Ob {K:W.Frag}{C:Addr}:W.kitOne K (.ref C) (.ref C)=some true:=by
 unfold W.kitOne;rw[Zd (Yl.mpr rfl)]
end
end L2.DL
namespace L2
section
variable {M:Model}{A:Around}{E:Ya}{s:Shared}{base:Heap}{e:Addr}{cls a0 fl:Value}
def Oc (v:base.StaysIn s.heap)(w:s.heap.FunFrames base l)(x:s.heap.TracedAtW base e cls a0 fl)
 (h:∀h' T,base.get? T=none->(∀b,b≠T->h'.get? b=s.heap.get? b)->(∃o i,s.heap.get? T=some o/\o.data=.fields i)->base.StaysIn h'->h'.FunFrames base l->(∃j,h'.TracedAtW base e cls a0 j)->Q Ym { s with heap:=h' }):wpAny M A (setFlight (.ref e) f) Q E s:=by
 obtain⟨y,i,T,B,ts,p,C,r,t,m,u,d,c,F⟩:=x;have G:=(Jj.mp F).1;have g:∀b,b≠T->(s.heap.update T (Obj.mapFields (·.setIfInBounds 3 (f.elim Value.none λa=>rawInt a)))).get? b=s.heap.get? b:=λb n=>Heap.get?_update_other _ _ n.symm;have H:∀b o,s.heap.get? b=some o->(∀ws,o.data ≠ .fields ws)->b≠T:=λb o q n z=>by
  subst z;rw[d] at q;cases q;exact n _ c
 unfold setFlight;refine Za (wpAny_field p r t ?_);rw[Zd ()];refine wpAny_setField d c G (h _ T m g ⟨B,ts,d,c⟩ (λb o q=>(g b λz=>by rw[z,m] at q;cases q).trans (v b o q)) (w.of_keeps λb o q n=>⟨o,(g b (H b o q n)).trans q,rfl⟩) ⟨f.elim Value.none λa=>rawInt a,y,i,T,_,_,(g e u.symm).trans p,C,r,t,m,u,Heap.get?_update_self _ d (Obj.isFreed_of_fields (Obj.data_mapFields c _)),Obj.data_mapFields c _,?_⟩)
 simp_all
def Od (a:A.frames=some (env::outer))(d:env.frame=some L)(h:base.StaysIn s.heap)(f:base.get? e=none)(i:s.heap.FunFrames base (env::outer))(g:s.heap.TracedAtW base e cls a0 fl)
 (j:∀h',Heap.FlyingW base outer e cls a0 h'->s.heap.UpToSlots h'->Q Ym { s with heap:=h' }):wpAny M A (leaving env (.ref e)) Q E s:=by
 by_cases c:fl=rawInt L
 .subst c;exact Za (wpAny_noteFrame_againW d g (wpAny_setFlight_noneW h i g λh' k1 k2 k3 u=>j h' ⟨k1,f,k2.2.2,k3⟩ λb o q n=>⟨o.slots,u b o q n⟩))
 .obtain⟨F,G,T,H,ts,v,⟨w,x⟩,l,y,I,J,m,p,r⟩:=g;subst w;have B:=(Jj.mp r).1;have t:∀b,b≠T->(s.heap.update T (Obj.mapFields (·.setIfInBounds 3 Value.none))).get? b=s.heap.get? b:=λb n=>Heap.get?_update_other _ _ n.symm;have C:∀b o,s.heap.get? b=some o->(∀ws,o.data ≠ .fields ws)->b≠T:=by grind
  unfold leaving noteFrame;simp only[d];refine Za (Za (wpAny_field v l y (Za (wpAny_field m p r ?_))));rw[Ze (λz=>c (Yl.mp z))];exact Za (wpAny_setField m p B (wpAny_newEntryW a (i.of_keeps ()) d () (λb o q=>(t b λz=>()).trans (h b o q)) f l () x λh' ⟨x1,x2,x3,x4⟩=>(j h' ⟨x1,f,x2.2.2,x3⟩ λb o q n=>x4 b o ((t b (C b o q n)).trans q) n)))
end
structure FlyAny (l:List Env)(h₀:Heap)(H:Hp)(x C:Addr)(B h:Heap):Prop where
 st:B.StaysIn h
 no:B.get? x=none
 fr:h.FunFrames B l
 tr:∃t fl,h.TracedAtW B x (.ref C) (.ref t) fl
 trk:∀b o,h.get? b=some o->(H b≠none\/((∃u,h₀.get? b=some u)/\b∉frs l))->B.get? b=some o
structure ThrownA (X:Cx)(E:XK):Prop where
 on:∀(Y:Yb) (Z: St) (H:Hp) (s:Shared) (x C:Addr) (B:Heap) (d:Option Addr),Inv X Y Z H s->FlyAny X.stack X.s₀.heap H x C B s.heap->DT s.heap x d->E (.ref C) d H->X.xe (.ref x) s
def Oe {P:Program}{w:World}{K:W.Frag}{n:Yc}{base:Heap}{N:Yh}{j:Str}{c:Scope}{f:Addr}{cd:Value}{A:Around}{a:List Env}{s:Shared}{H:Hp}{E:XK}:ThrownA (jP (xq P w) P w K n base N j c f cd A a s H E) E:=by
 refine⟨λY Z v s' x C B d I i o p=>?_⟩;obtain⟨t,m,q⟩:=i.tr;refine Zc (VC (Od (Q:=λ_ r=>∃h',Heap.FlyingW B a x (.ref C) (.ref t) h'/\s'.heap.UpToSlots h'/\r={ s' with heap:=h' }) I.ok.frames rfl i.st i.no i.fr q λh' g l=>⟨h',g,l,rfl⟩) (E8 (E:=λ_ _=>True) I.ok.frames i.fr rfl o)) ?_ λ_ _ z=>z.1;rintro _ _ ⟨⟨h',g,l,rfl⟩,dt'⟩;exact Z1 (h₀:=s.heap) I (λb u e=>⟨u,e⟩) g l i.trk dt' p
theorem ET {h h' B a:Heap}(k0:∀b,B.get? b=none->a.get? b=none):∀{l:List Env},(∀b∈frs l,h'.get? b=h.get? b)->h.FunFrames B l->h'.FunFrames a l
 | [],_,_=>trivial
 |env::rest,k,⟨g1,⟨L,o,g2,g3,g4,g5⟩,r⟩=>by
  have c:L∈frs (env::rest):=by
   unfold frs;rw[Uv,g2];exact Zqs
  refine⟨g1,⟨L,o,g2,k0 L g3,(k L c).trans g4,g5⟩,ET k0 (λb d=>k b ?_) r⟩
  simp_all [frs]
def Og {X:Cx}{E:XK}{i:Scope}{N:Yh}{cl:List (Str×Addr)}{C:Addr}{s:Shared}{H:Hp}{U:Yi}(G:X.stack=X.env::X.outer)(hfr:X.env.frame=some X.env.locals)(hex:X.ex=[])(T:ThrownA X E)(at_:Wb X C s H U):Thrown (JG X i N cl C s H U) E:=by
 obtain⟨J,Z0,I0,f0,hC⟩:=at_;refine⟨λY Z H' s' h₀ x D B d I h0 fl dt hE=>?_⟩;obtain⟨⟨t,fly⟩,trk⟩:=fl;have fly':Heap.FlyingW B (X.env::X.outer) x (.ref D) (.ref t) s'.heap:=by rw[<- G];exact fly
 have note:noteFrame (.ref x) (compEnvC i cl C X.env)=noteFrame (.ref x) X.env:=rfl;show Yv X (noteFrame (.ref x) (compEnvC i cl C X.env)) (λ_ s''=>Xl X C (.ref x) s'') (Xl X C) s';rw[note];refine E9 (I0.ok.frames.trans (by rw[G])) hfr fly' dt λh1 held up1 dt1=>?_;obtain⟨m,hm,_⟩:=id I.loc;have hm1:h1.Ns C m:=up1.ns hm;refine⟨m,hm1,λr f cenv _=>?_⟩;obtain⟨hc1,hc2,hc3,hc4⟩:=held;obtain⟨oC,es,ep,hoC,hdC,_⟩:=id hm1;have nC:∀b o ws,h1.get? b=some o->o.data=.fields ws->b≠C:=λb o ws q d z=>by
  subst z;rw[hoC] at q;cases q;rw[hdC] at d;cases d
 have j:∀b o,s.heap.get? b=some o->b≠C:=λb o q=>Zi (Zg (Zk q) hC);have frC:∀b∈frs X.stack,b≠C:=λb a=>by
  obtain⟨_,K,l,_⟩:=I.ok.funs.mem a;exact j b K l
 obtain⟨g,hB'⟩:∃g,W.hideAll B [C]=g:=⟨_,rfl⟩;have inB:∀b o,g.get? b=some o->B.get? b=some o:=λb o q=>by rw[<- hB'] at q;exact W.of_hideAll _ q
 have toB:∀b o,B.get? b=some o->b≠C->g.get? b=some o:=λb o q n=>by rw[<- hB'];exact W.hideAll_get _ q (by simpa using n)
 have L:∀b,B.get? b=none->g.get? b=none:=λb q=>by
  cases z:g.get? b with
  |none=>rfl
  |some o=>rw[inB b o z] at q;cases q
 have nBC:∀b o,g.get? b=some o->b≠C:=λb o q z=>by
  have M:g.get? C=none:=by rw[<- hB'];exact W.hideAll_none [C] (Jb.mpr rfl)
  rw[z,M] at q;cases q
 have st2:g.StaysIn r:=λb o q=>(f.2 b (nBC b o q)).trans (hc1 b o (inB b o q));have fr2:r.FunFrames g X.stack:=ET L (λb a=>f.2 b (frC b a)) (by rw[G];exact hc3);obtain⟨oe,vs,T0,oT,ts,g1,g2,g3,g4,g5,g6,g7,g8,g9⟩:=hc4;have tr2:r.TracedAtW g x (.ref D) (.ref t) (rawInt X.env.locals):=⟨oe,vs,T0,oT,ts,(f.2 x (nC _ _ _ g1 g3)).trans g1,g2,g3,g4,L T0 g5,g6,(f.2 T0 (nC _ _ _ g7 g8)).trans g7,g8,g9⟩;unfold PySem.passOn;refine Za (wpAny_field (s:={ s' with heap:=r }) ((f.2 x (nC _ _ _ g1 g3)).trans g1) g3 g4 ?_);rw[Ze ()];have dt2:DT r x d:=by
  obtain⟨oe,vs,T,oT,ts,a1,a2,a3,a4,a5,a6,a7,a8⟩:=dt1;exact⟨oe,vs,T,oT,ts,(f.2 x (nC _ _ _ a1 a3)).trans a1,a2,a3,a4,a5,(f.2 T (nC _ _ _ a6 a7)).trans a6,a7,a8⟩
 refine Za (Zc (VC (Oc (s:={ s' with heap:=r }) (Q:=λ_ s2=>∃p S,g.get? S=none/\(∀b,b≠S->p.get? b=r.get? b)/\(∃o vs,r.get? S=some o/\o.data=.fields vs)/\g.StaysIn p/\p.FunFrames g X.stack/\(∃O,p.TracedAtW g x (.ref D) (.ref t) O)/\s2={ s' with heap:=p }) st2 fr2 tr2 λp S t1 t2 t3 w P R=>⟨p,S,t1,t2,t3,w,P,R,rfl⟩) (Xy (E:=λ_ _=>True) (s:={ s' with heap:=r }) dt2)) ?_ λ_ _ z=>z.1);rintro _ _ ⟨⟨p,S,t1,t2,t3,w,P,R,rfl⟩,dt3⟩;refine wpAny_throw ?_;have K1:∀b o,B.get? b=some o->b≠C->p.get? b=some o:=λb o q n=>w b o (toB b o q n);have nex:∀b u,X.s₀.heap.get? b=some u->b∉U:=λb u q a=>by
  rcases(f0 b a).2.2.2.1 with z|z
  .rw[hex] at z;cases z
  .exact Zn (Zk q) (Nat.not_lt.mpr z)
 have F:∀b o,s.heap.get? b=some o->b∈frs X.stack->b∉U->∃sl,p.get? b=some { o with slots:=sl }:=λb o q a hx=>by
  obtain⟨_,K,l,hd⟩:=I.ok.funs.mem a;have l:s.heap.get? b=some K:=l;rw[q] at l;obtain rfl:=Zqi l;obtain⟨sl,e1⟩:=I.base.slot b o q (I.ok.frf b a) a hx;obtain⟨sl',e2⟩:=up1 b _ e1 hd;have e3:r.get? b=some { o with slots:=sl' }:=(f.2 b (frC b a)).trans e2;refine⟨sl',(t2 b λz=>?_).trans e3⟩;obtain⟨oz,wz,M,z2⟩:=t3;rw[<- z] at M;have M:r.get? b=some oz:=M;rw[e3] at M;cases M;exact hd _ z2
 refine T.on J Z0 H' _ x D g d (I0.call' (s':={ s' with heap:=p }) (ch:=U) I.os ⟨λb o e n a hx=>?_,λb o e n a hx=>F b o e a hx,λb o e n hx=>I.base.free b o e n hx,λb o e hx=>?_,I.base.tups,I.base.frzs,I.base.tbls⟩ (λb u e=>?_) I.bare λb a=>⟨(f0 b a).2.2.2.1,(f0 b a).2.1,(f0 b a).2.2.2.2.1,(f0 b a).2.2.2.2.2⟩) ⟨w,L x hc2,P,?_,λb o e c=>?_⟩ dt3 hE
 .exact K1 b o (trk b o (I.base.keep b o e n a hx) (.inr ⟨h0 b o e hx,a⟩)) (j b o e)
 .by_cases a:b∈frs X.stack
  .obtain⟨sl,q⟩:=F b o e a hx;exact⟨_,q⟩
  .obtain⟨K,e'⟩:=I.base.there b o e hx;exact⟨K,K1 b K (trk b K e' (.inr ⟨h0 b o e hx,a⟩)) (j b o e)⟩
 .refine(I.hok b u e).stay (λc v hc q=>K1 c v (trk c v q (.inl ?_)) ?_) (λ_ q=>q) λ_ _ q=>q
  .rcases hc with z|z
   .rw[z,e];simp
   .rw[z];simp
  .intro z;have fC:H' C=none:=I.free;rcases hc with y|y
   .rw[<- y,z,fC] at e;exact Jv e
   .rw[z,fC] at y;exact Jv y
 .obtain⟨O,q⟩:=R;exact⟨t,O,q⟩
 .have key:∃A,B.get? b=some A/\b≠C:=by
   rcases c with c|⟨⟨u,hu⟩,a⟩
   .cases q:H' b with
    |none=>exact Zn q c
    |some u =>
     obtain⟨A,h2'⟩:=(I.hok b u q).has;exact⟨A,trk b A h2' (.inl c),λz=>by rw[z] at q;rw[show H' C=none from I.free] at q;exact Jv q⟩
   .obtain⟨o1,e1⟩:=I0.base.there b u hu (by rw[hex];simp);obtain⟨A,e2⟩:=I.base.there b o1 e1 (nex b u hu);exact⟨A,trk b A e2 (.inr ⟨h0 b o1 e1 (nex b u hu),a⟩),j b o1 e1⟩
  obtain⟨A,k1,k2⟩:=key;have:=K1 b A k1 k2;have e:p.get? b=some o:=e;rw[e] at this;cases this;exact toB b o k1 k2
end L2
namespace L2.DL
def Oh (N)(cap)(d:X.calm=true)(b:Ko scope X.env N X.N cap=true)(e:QI X E tg iter fi)
 (g:∀c C s H a,QG (JG X scope N c C s H a) tg t) (i:∀c C s H a,Wb X C s H a->QE (JG X scope N c C s H a) E elt f) (j:∀x,foldedSetIterable iter X.env x=pure x:=by intro _;rfl):
 QN X E (.ListComp elt [⟨tg,iter,[],0⟩] scope pos) (Q3 cap fi t f):=PE.weak (D7 N cap d b e g i j) λ_ _ _ h=>AV h
abbrev HP:=List (Addr×D)
def je:HP->Addr->Yu
 | [],_=>none
 |p::r,a=>if a=p.1 then some p.2 else je r a
def JV:HP->Addr->D->HP
 | [],_,_=>[]
 |p::r,a,d=>if a=p.1 then(p.1,d)::r else p::JV r a d
def Oi (a):je [] a=none:=rfl
def Q5 (p)(r:HP)(a):je (p::r) a=if a=p.1 then some p.2 else je r a:=rfl
theorem Vc:∀{c:HP} {a:Addr} {d:D} b,je c a≠none->je (JV c a d) b=if b=a then some d else je c b
 | [],a,d,b,h=>Zn rfl h
 |p::r,a,d,b,h=>by
  unfold JV;by_cases z:a=p.1
  .simp_all [Q5]
  .rw[Ze z,Q5,Q5];rw[Q5,Ze z] at h;rw[Vc b h]
   grind
structure RT (K:W.Frag)(B B':Bs)(F H:Hp)(sd:SD)(hp:HP)(Z: St):Prop where
 rs:RS K B' F H sd Z
 f0:B'.F0=B.F0
 pa:B'.pa=B.pa
 out:∀a,je hp a=none->B'.H0 a=B.H0 a
 obj:∀a d,je hp a=some d->B.F0 a=none/\B.H0 a=none/\yo K F B'.H0 a d
section
variable {K:W.Frag}{B B':Bs}{F F' H H':Hp}{sd sd':SD}{hp:HP}{Z Z':St}{a:Addr}{d:D}
def RT.sub (t:RT K B B' F H sd hp Z):jm B.H0 B'.H0:=λa o e=>by
 cases q:je hp a with
 |none=>rwa [t.out a q]
 |some d=>rw[(t.obj a d q).2.1] at e;exact Jv e
def RT.ext0 (t:RT K B B' F H sd hp Z)(e:Ext B'.F0 B'.H0 F2 H2):Ext B.F0 B.H0 F2 H2:=
 ⟨by rw[<- t.f0];exact e.ff,e.fh,t.sub.trans e.hh,λa c b=>e.new a (by rwa [t.f0]) λz=>b (Qd t.sub z)⟩
def RT.go (t:RT K B B' F H sd hp Z)(s:jm F F')(r:RS K B' F' H' sd' Z'):RT K B B' F' H' sd' hp Z':=
 ⟨r,t.f0,t.pa,t.out,λa d h=>let ⟨h1,h2,h3⟩:=t.obj a d h;⟨h1,h2,h3.ext s λ_ q=>q⟩⟩
def RT.free (t:RT K B B' F H sd hp Z)(h:je hp a=some d):F a=none:=have ⟨c,e,b⟩:=t.obj a d h;have ⟨o,f⟩:=b.has;t.rs.ext.new a (by rwa [t.f0]) ()
def RT.lies (t:RT K B B' F H sd hp Z)(h:je hp a=some d):yo K F H a d:=(t.obj a d h).2.2.ext (.refl _) λo q=>t.rs.ext.hh _ _ q
def RT.no_own (t:RT K B B' F H sd hp Z)(h:je hp a=some d)(b:B'.H0 l=none):l≠a:=λz=>by
 have ⟨o,c⟩:=(t.obj a d h).2.2.has
 simp_all
theorem RT.start (r:RS K B F H sd Z):RT K B B F H sd [] Z:= ⟨r,rfl,rfl,λ_ _=>rfl,λa d h=>by cases h⟩
def RT.xw (t:RT K B B' F H sd hp Z)(h:XW K E B.F0 B.H0 c fs):XW K E B'.F0 B'.H0 c fs:=λb a f g e q=>h b a f g (t.ext0 e) q
def RT.chg (t:RT K B B' F H sd hp Z)(f:je hp a=some d)(h:yo K F (upd H a o) a d'):RT K B ⟨B'.F0,upd B'.H0 a o,B'.pa⟩ F (upd H a o) sd (JV hp a d') Z:= by
 have m:=t.free f;have ⟨n,r,J⟩:=t.obj a d f;have g:je hp a≠none:=by simp_all
 refine⟨⟨⟨t.rs.ext.ff,YL o t.rs.ext.fh m,λb u e=>?_,λb s v=>?_⟩,t.rs.len,t.rs.val,λ{i p e} q=>?_,t.rs.apart⟩,t.f0,t.pa,λb c=>?_,λb e c=>?_⟩
 .have e:upd B'.H0 a o b=some u:=e;by_cases z:b=a
  .simp_all [J8]
  .rw[Jx z] at e ⊢;exact t.rs.ext.hh _ _ e
 .by_cases z:b=a
  .rwa [z]
  .exact t.rs.ext.new b s λy=>v (by show upd B'.H0 a o b=none;rwa [Jx z])
 .obtain⟨l,w,j,x,A,C⟩:=t.rs.own q;have ne:=t.no_own f j;exact⟨l,w,(Jx ne).trans j,x,A.ext (.refl _) (λu q'=>by rwa [Jx ne]),λz=>(C z).mono λu q'=>by rwa [Jx ne]⟩
 .rw[Vc b g] at c;by_cases z:b=a
  .simp_all
  .rw[Ze z] at c;show upd B'.H0 a o b=B.H0 b;rw[Jx z];exact t.out b c
 .rw[Vc b g] at c;by_cases z:b=a
  .rw[Zd z] at c;obtain rfl:=Zqi c;subst z;exact⟨n,r,h.ext (.refl _) λu q=>by simp_all [J8]⟩
  .rw[Ze z] at c;have ⟨E,G,I⟩:=t.obj b e c;exact⟨E,G,I.ext (.refl _) λu q=>by show upd B'.H0 a o b=some u;rwa [Jx z]⟩
def xI (F b:Hp)(hp:HP):Hp:=λa=>match je hp a with
 |some _=>b a
 |none=>F a
end
mutual
def sG (e:HP):D->D
 | .adr a=>match je e a with
  |some d=>d
  |none=>.adr a
 | .lst ds=>.lst (mn e ds)
 | .non=>.non
 | .bl b=>.bl b
 | .int i=>.int i
 | .str x=>.str x
 | .ty n=>.ty n
 | .scr ns=>.scr ns
 | .tup ds=>.tup ds
 | .dct ks ds=>.dct ks ds
 | .ins c fs ds=>.ins c fs ds
 | .exc c=>.exc c
 | .exr c n=>.exr c n
 | .ucl c=>.ucl c
 | .dcf ks ds=>.dcf ks ds
 | .pin a d=>.pin a d
def mn (a:HP):Yt->Yt
 | []=>[]
 |d::ds=>sG a d::mn a ds
end
section
variable {K:W.Frag}{B:Bs}{F H:Hp}{sd:SD}{hp:HP}{Z: St}
def y7 (hp:HP):Yg->SD->SD
 | [],sd=>sd
 |i::is,sd=>y7 hp is (match sd[i]? with
  |some (~~~d)=>sd.set i (~~~(sG hp d))
  |_=>sd)
def Oj {α: Type}{l:List α}{a:α}(h:l[i]? = some a):l.set i a=l:=by
 apply List.ext_getElem?;intro j;by_cases z:i=j
 .subst z;rw[Ux (Jd.mp h).1,h]
 .rw[Zx z]
def RS.reval (r:RS K B F H sd Z)(a:sd[i]? = some (~~~d))(h:∀v,IsD K F d v->IsD K F d' v):RS K B F H (sd.set i (~~~d')) Z:= by
 have ⟨v,b,c⟩:=r.val a;have:=r.setVal (i:=i) (h v c)
 rwa [Oj b] at this
end
inductive Out2 where
 |next (sd:SD) (hp:HP)|ret (d:D)|brk (sd:SD) (hp:HP)|cont (sd:SD) (hp:HP)
abbrev xo:=SD->HP->Res Out2
def wW (a:HP):Out->Out2
 | .next sd=>.next sd a
 | .ret d=>.ret d
 | .brk sd=>.brk sd a
 | .cont sd=>.cont sd a
section
variable {X:Cx}{E:XK}{m:Option Bool}{st:Stmt}{sts:List Stmt}{g:FS}{g1 g2:xo}{pos pos':Pos}{o i e:Expr}{fo fi fv:FE}
def pP (g:FS):xo:=λsd a=>(g sd).bind λo=>.ok (wW a o)
def pQ (is:Yg)(g:FS):xo:=λsd a=>(g (y7 a is sd)).bind λo=>.ok (wW [] o)
def Ol:xo:=λsd a=>.ok (.next sd a)
def k8 (g1 g2:xo):xo:=λsd a=>(g1 sd a).bind λo=>match o with
 | .next sd' hp'=>g2 sd' hp'
 |o=>.ok o
abbrev sP:=SD->HP->Res Bool
def pL (f:FT):sP:=λsd _=>f sd
def pK (is:Yg)(f:FT):sP:=λsd a=>(f (y7 a is sd)).bare
def tS (c:sP)(g1 g2:xo):xo:=λsd a=>(c sd a).bind λb=>if b then g1 sd a else g2 sd a
def y4 (b:D->xo):Yt->xo
 | [],sd,a=>.ok (.next sd a)
 |x::xs,sd,a=>(b x sd a).bind λo=>match o with
  | .next sd' hp'=>y4 b xs sd' hp'
  | .cont sd' hp'=>y4 b xs sd' hp'
  | .brk sd' hp'=>.ok (.next sd' hp')
  | .ret d=>.ok (.ret d)
def B9 (tg:Tg)(b:xo)(x:D):xo:=λsd a=>(JD tg x sd).bind λs=>b s a
def k9 (it:FA)(tg:Tg)(b:xo):xo:=λsd a=>(it sd).bind λds=>y4 (B9 tg b) ds sd a
end
open Classical in
def mG (n:Nat)(g:Yi->Res Out):Res Out:=if h:∃o,∀a:Yi,a.length=n->a.Nodup->g a=.ok o then .ok (Classical.choose h) else .no
section
variable {X:Cx}{E:XK}{m:Option Bool}{pos pos':Pos}
def vr:Out2->Res Out
 | .ret d=>.ok (.ret d)
 |_=>.no
def tR (i:Nat)(b:FA)(g:xo):FS:=λsd=>(b sd).bind λds=>if ds.length<=1000 then mG ds.length (λa=>(g (sd.set i (~~~(.lst (a.map .adr)))) (a.zip ds)).bind vr) else .no
end
@[simp]def uG (a:HP)(sd:SD):wW a (.next sd)=.next sd a:=rfl
@[simp]def nq (a:HP)(d:D):wW a (.ret d)=.ret d:=rfl
@[simp]def nr (a:HP)(sd:SD):wW a (.brk sd)=.brk sd a:=rfl
@[simp]def uH (a:HP)(sd:SD):wW a (.cont sd)=.cont sd a:=rfl
@[simp]def dW (g:FS)(sd:SD)(a:HP):pP g sd a=(g sd).bind λo=>.ok (wW a o):=rfl
def z5 (g:xo):Out2->Res Out2
 | .next sd a=>g sd a
 |o=>.ok o
@[simp]def l9 (g:xo)(sd:SD)(a:HP):z5 g (.next sd a)=g sd a:=rfl
@[simp]def kg (g:xo)(d:D):z5 g (.ret d)=.ok (.ret d):=rfl
@[simp]def kh (g:xo)(sd:SD)(a:HP):z5 g (.brk sd a)=.ok (.brk sd a):=rfl
@[simp]def lE (g:xo)(sd:SD)(a:HP):z5 g (.cont sd a)=.ok (.cont sd a):=rfl
@[simp]def bM (a b:xo)(sd:SD)(c:HP):k8 a b sd c=(a sd c).bind (z5 b):=by
 rfl
@[simp]def l6 (sd:SD)(a:HP):Ol sd a=.ok (.next sd a):=rfl
@[simp]def rK (c:sP)(d e:xo)(sd:SD)(a:HP):tS c d e sd a=(c sd a).bind λb=>if b then d sd a else e sd a:=rfl
@[simp]def dQ (f:FT)(sd:SD)(a:HP):pL f sd a=f sd:=rfl
@[simp]def dP (is:Yg)(f:FT)(sd:SD)(a:HP):pK is f sd a=(f (y7 a is sd)).bare:=rfl
@[simp]def dX (is:Yg)(g:FS)(sd:SD)(a:HP):pQ is g sd a=(g (y7 a is sd)).bind λo=>.ok (wW [] o):=rfl
@[simp]def bN (it:FA)(tg:Tg)(b:xo)(sd:SD)(a:HP):k9 it tg b sd a=(it sd).bind λds=>y4 (B9 tg b) ds sd a:=rfl
def mH:D->Res Addr
 | .adr a=>.ok a
 |_=>.no
@[simp]def lQ (a:Addr):mH (.adr a)=.ok a:=rfl
def ms:Yu->Res (List jx×Yt)
 |some (.dct ks ds)=>.ok (ks,ds)
 |_=>.no
@[simp]def lF (ks:List jx)(ds:Yt):ms (some (.dct ks ds))=.ok (ks,ds):=rfl
@[simp]def mo (a:HP)(sd:SD):y7 a [] sd=sd:=rfl
def ww (a:HP)(i:Nat)(sd:SD):Option (Option SV)->SD
 |some (~~~d)=>sd.set i (~~~(sG a d))
 |_=>sd
@[simp]def mq (a:HP)(i:Nat)(sd:SD)(d:D):ww a i sd (some (~~~d))=sd.set i (~~~(sG a d)):=rfl
@[simp]def mr (a:HP)(i:Nat)(sd:SD)(p:Bool)(d:D):ww a i sd (some (some (.own p d)))=sd:=rfl
@[simp]def lS (a:HP)(i:Nat)(sd:SD):ww a i sd (some none)=sd:=rfl
@[simp]def lv (a:HP)(i:Nat)(is:Yg)(sd:SD):y7 a (i::is) sd=y7 a is (ww a i sd sd[i]?):=by
 rfl
@[simp]def kC (d:D):vr (.ret d)=.ok (.ret d):=rfl
@[simp]def bc (b:D->xo)(sd:SD)(a:HP):y4 b [] sd a=.ok (.next sd a):=rfl
def ba (b:D->xo)(xs:Yt):Out2->Res Out2
 | .next sd a=>y4 b xs sd a
 | .cont sd a=>y4 b xs sd a
 | .brk sd a=>.ok (.next sd a)
 | .ret d=>.ok (.ret d)
@[simp]def aj (b:D->xo)(xs:Yt)(sd:SD)(a:HP):ba b xs (.next sd a)=y4 b xs sd a:=rfl
@[simp]def mf (tg:Tg)(b:xo)(x:D)(sd:SD)(a:HP):B9 tg b x sd a=(JD tg x sd).bind λs=>b s a:=rfl
@[simp]def nX (ks:List jx)(ds:Yt)(k:Int):jv (.dcf ks ds) (.int k)=jF ks ds (.inl k):=rfl
@[simp]def rb (neg:Bool)(ks:List jx)(ds:Yt)(k:Int):qX neg (.int k) (.dcf ks ds)=some (.bl (if neg then !(jF ks ds (.inl k)).isSome else(jF ks ds (.inl k)).isSome)):=rfl
@[simp]def rJ (i:Nat)(a:FA)(g:xo)(sd:SD):tR i a g sd=(a sd).bind λds=>if ds.length<=1000 then mG ds.length (λb=>(g (sd.set i (~~~(.lst (b.map .adr)))) (b.zip ds)).bind vr) else .no:=rfl
abbrev yL:=(Yi->D)×Yt
abbrev FH:=SD->Res yL
def Om (cap:List (Option Nat))(it:FA)(tg:Tg)(f:FE):FH:=λsd=>(it sd).bind λds=>if Kp (jL cap sd) tg=true/\ds.length<sizeLine then
 (qm tg f (jL cap sd) ds).bind λa=>.ok (λb=>.lst (b.map .adr),a) else .no
section
variable {X:Cx}{E:XK}{m:Option Bool}{pos pos':Pos}
def dv:List yL->List Addr->Yt
 | [],_=>[]
 |x::xs,as=>x.1 (as.take x.2.length)::dv xs (as.drop x.2.length)
def di:List yL->Yt
 | []=>[]
 |x::xs=>x.2++di xs
abbrev vZ:=SD->Res (List yL)
def d7:vZ:=λ_=>.ok []
def f1 (f:FH)(a:vZ):vZ:=λsd=>(f sd).bind λx=>(a sd).bind λxs=>.ok (x::xs)
def d8 (a:vZ):FH:=λsd=>(a sd).bind λxs=>if xs.length<=1000 then .ok (λb=>.lst (dv xs b),di xs) else .no
def f3 (a:Yt->Res yL)(b:FA):FH:=λsd=>(b sd).bind a
def BA (g:FH):Out->Res yL
 | .next sd=>g sd
 |_=>.no
def ku (a:FS)(g:FH):FH:=λsd=>(a sd).bind (BA g)
end
@[simp]def sh (sd:SD):d7 sd=.ok []:=rfl
@[simp]def bV (f:FH)(a:vZ)(sd:SD):f1 f a sd=(f sd).bind λx=>(a sd).bind λxs=>.ok (x::xs):=rfl
@[simp]def si (a:vZ)(sd:SD):d8 a sd=(a sd).bind λxs=>if xs.length<=1000 then .ok (λb=>.lst (dv xs b),di xs) else .no:=rfl
@[simp]def bY (cap:List (Option Nat))(it:FA)(tg:Tg)(f:FE)(sd:SD):Om cap it tg f sd=(it sd).bind λds=>if Kp (jL cap sd) tg=true/\ds.length<sizeLine then(qm tg f (jL cap sd) ds).bind λa=>.ok (λb=>.lst (b.map .adr),a) else .no:=rfl
@[simp]def bW (a:Yt->Res yL)(b:FA)(sd:SD):f3 a b sd=(b sd).bind a:=rfl
@[simp]def rS (sd:SD):Xv sd=.ok (.dct [] []):=rfl
@[simp]def al (g:FH)(sd:SD):BA g (.next sd)=g sd:=rfl
@[simp]def rH (a:FS)(g:FH)(sd:SD):ku a g sd=(a sd).bind (BA g):=rfl
@[simp]def rL (f:FE)(sd:SD):kv f sd=(f sd).bind λd=>if JZ d then .ok (.ret d) else .no:=rfl
@[simp]def bP (f:FE)(sd:SD):NZ f sd=(f sd).bind λd=>if JZ d then .no else .ok (.ret d):=rfl
@[simp]def rO (i:Nat)(f:FE)(sd:SD):kz i f sd=(f sd).bind λd=>.ok (.next (sd.set i (some (if JZ d then .val d else .own false d)))):=rfl
@[simp]def km (ds:Yt):JZ (.lst ds)=false:=rfl
end L2.DL
namespace L2
end L2
namespace L2.DL
def BB:D->Yt->Yu
 | .int i,[.int n]=>some (.bl (!decide (0<=i/\i<n)))
 |_,_=>none
def Oo (a:FE)(b:FA):FE:=λsd=>(a sd).bind λx=>(b sd).bind λns=>.ofO (BB x ns)
@[simp]def lM (a:FE)(b:FA)(sd:SD):Oo a b sd=(a sd).bind λx=>(b sd).bind λns=>.ofO (BB x ns):=rfl
@[simp]def lK (i n:Int):BB (.int i) [.int n]=some (.bl (!decide (0<=i/\i<n))):=rfl
open PySem PySem.Spec PyProof.Rows L2
def fX:D->D->Yu
 | .bl a,.bl b=>some (.bl (a != b))
 |_,_=>none
@[simp]def fW (a b:Bool):fX (.bl a) (.bl b)=some (.bl (a != b)):=rfl
section
variable {X:Cx}{E:XK}{e:Expr}{pos:Pos}
def Op (i:Nat):FS:=λsd=>match sd[i]? with
 |some (some (.own _ d))=>if JZ d then .no else .ok (.ret d)
 |some (~~~d)=>if JZ d then .ok (.ret d) else .no
 |_=>.no
@[simp]def bO (i:Nat)(sd:SD):Op i sd=match sd[i]? with
 |some (some (.own _ d))=>if JZ d then .no else .ok (.ret d)
 |some (~~~d)=>if JZ d then .ok (.ret d) else .no
 |_=>.no:=rfl
end
def vI (K:W.Frag)(F H:Hp)(b:HP):Prop:=∀a d,je b a=some d->F a=none/\yo K F H a d
def RT.lent {K:W.Frag}{B b:Bs}{F H:Hp}{sd:SD}{a:HP}{Z: St}(t:RT K B b F H sd a Z):vI K F H a:=λ_ _ h=>⟨t.free h,t.lies h⟩
@[simp]def kA (n:Nat)(g:FS)(a b c:D):WO n 3 1 g [a,b,c]=(g (~~~a::some (.own false b)::~~~c::List.replicate (n-3) none)).bind xD:=Z8 n 3 1 g [a,b,c] rfl
def Oq (i:Nat)(b:Yt->Res D)(c:FE)(e:FA):FS:=λsd=>match sd[i]? with
 |some (some (.own false d))=>(c sd).bind λa=>(e sd).bind λxs=>(b (a::d::xs)).bind λz=>.ok (.next (sd.set i (some (.own false z))))
 |_=>.no
@[simp]def bU (i:Nat)(b:Yt->Res D)(c:FE)(e:FA)(sd:SD):Oq i b c e sd=match sd[i]? with
 |some (some (.own false d))=>(c sd).bind λa=>(e sd).bind λxs=>(b (a::d::xs)).bind λz=>.ok (.next (sd.set i (some (.own false z))))
 |_=>.no:=rfl
theorem ng:∀{b:HP} {a:Addr},je b a=none↔a∉b.map (·.1)
 | [],a=>by simp[Oi]
 |p::r,a=>by
  rw[Q5,Zl,Uj,not_or];by_cases z:a=p.1
  .simp_all
  .rw[Ze z,ng]
   simp_all
def xh (H:Hp)(b:HP):Hp:=λa=>match je b a with
 |none=>H a
 |some _=>none
def Vd (h:je hp a=none):xh H hp a=H a:=by grind[xh]
def BC (h:je hp a=some d):xh H hp a=none:=by unfold xh;rw[h]
section
variable {K:W.Frag}{B B':Bs}{F F' H H':Hp}{sd:SD}{hp hp':HP}{Z: St}
def RT.hidden (t:RT K B B' F H sd hp Z):Ext B.F0 B.H0 F (xh H hp):=by
 have e:=t.ext0 t.rs.ext;refine⟨e.ff,λa o q=>?_,λa o q=>?_,e.new⟩
 .cases z:je hp a with
  |none=>rw[Vd z];exact e.fh _ _ q
  |some d=>rw[t.free z] at q;exact Jv q
 .cases z:je hp a with
  |none=>rw[Vd z];exact e.hh _ _ q
  |some d=>rw[(t.obj a d z).2.1] at q;exact Jv q
end
abbrev FX:=SD->Res (D×SD)
section
variable {X:Cx}{E:XK}{m:Option Bool}{e o:Expr}{f:FX}{pos pos':Pos}
def kt (i:Nat)(f:FX):FS:=λsd=>(f sd).bind λp=>.ok (.next (p.2.set i (~~~(p.1))))
@[simp]def rG (i)(f)(sd):kt i f sd=(f sd).bind λp=>.ok (.next (p.2.set i (~~~(p.1)))):=rfl
end
def tf:D->D
 | .pin _ d=>d
 |d=>d
def uI:D->D
 | .lst ds=>.lst (ds.map tf)
 | .pin _ d=>d
 |d=>d
def uJ:D->D
 | .ins c fs ds=>.ins c fs (ds.map uI)
 |d=>uI d
section
variable {X:Cx}{E:XK}{m:Option Bool}{e:Expr}{fe:FE}{sts:List Stmt}{g:FS}
def c3 (f:FE):FE:=λsd=>(f sd).bind λd=>.ok (uJ d)
@[simp]def dL (f:FE)(sd:SD):c3 f sd=(f sd).bind λd=>.ok (uJ d):=rfl
end
def wy (cap:List (Option Nat))(k:Nat)(sd:SD):SD:=match (cap[k]?).join with
 |some j=>match sd[j]? with
  |some (some (.own false d))=>(jL cap sd).set k (some (.own false d))
  |_=>jL cap sd
 |none=>jL cap sd
def Os (cap:List (Option Nat))(k:Nat)(it:FA)(tg:Tg)(f:FE):FE:=λsd=>(it sd).bind λds=>if Kp (wy cap k sd) tg=true/\ds.length<sizeLine then(xV (λx=>(JD tg x (wy cap k sd)).bind f) ds).bind λa=>.ok (.lst a) else .no
@[simp]def bX (cap)(k)(it)(tg)(f)(sd):Os cap k it tg f sd=(it sd).bind λds=>if Kp (wy cap k sd) tg=true/\ds.length<sizeLine then(qm tg f (wy cap k sd) ds).bind λa=>.ok (.lst a) else .no:=rfl
structure Ev where
 P:Program
 w:World
 K:W.Frag
 mg:Yc
 base:Heap
 C:Nat->Addr
 t:Nat->Tok
abbrev Ca (e:Ev):=zn e.P e.w e.K e.mg e.base
abbrev zR (e:Ev):=zx e.P e.w e.K e.mg e.base
def ub (K:W.Frag)(T:Nat->Stmt):List (Str×Nat)->Prop
 | []=>True
 |p::r=>wU K p.1 (T p.2)/\ub K T r
def Nn (K:W.Frag):Yh->Prop
 | []=>True
 |x::r=>W.nsIn K mainGlobals x=some none/\Nn K r
def dfs_cons {K:W.Frag}{T:Nat->Stmt}{x:Str}{i:Nat}{r:List (Str×Nat)}(h:wU K x (T i))(q:ub K T r):ub K T ((x,i)::r):=⟨h,q⟩
def nn_cons {K:W.Frag}{x:Str}{r:Yh}(h:W.nsIn K mainGlobals x=some none)(q:Nn K r):Nn K (x::r):=⟨h,q⟩
theorem BD {K:W.Frag}{T:Nat->Stmt}:∀{l:List (Str×Nat)} {j:Nat} {p:Str×Nat},ub K T l->l[j]? = some p->wU K p.1 (T p.2)
 | [],j,p,_,h=>by simp at h
 |q::r,0,p,d,h=>by
  obtain rfl:=by simpa using h
  exact d.1
 |q::r,j+1,p,d,h=>BD d.2 (by simpa using h)
theorem EU {K:W.Frag}{h:Heap}{a:Yc}(X:K.In h)(G:h.Ns mainGlobals a):∀{l:Yh},Nn K l->∀x∈l,a x=none
 | [],_,x,q=>by simp at q
 |y::r,d,x,q=>by
  rcases Uj.mp q with z|z
  .rw[z];exact W.mg_none_of X G d.1
  .exact EU X G d.2 x z
abbrev p4 (mg:Yc)(bl:Yh):Prop:=∀x∈bl,mg x=none
def J7 {a:Yc}{bl:Yh}{x:Str}(m:p4 a bl)(h:x∈bl:=by decide):a x=none:=m x h
structure Al (e:Ev)(T:Nat->Stmt)(tbl:List (Str×Nat))(bl:Yh):Prop where
 h:∃h,e.K.In h/\h.Ns mainGlobals e.mg
 d:ub e.K T tbl
 m:p4 e.mg bl
section
variable {e:Ev}{T:Nat->Stmt}{tbl:List (Str×Nat)}{bl:Yh}{x:Str}{k:Nat}{ps:Yh}{sp:Sp}
abbrev EV (x:Str)(st:Stmt)(ps:Yh):Prop:=∀(kV doc pm:Value) (an:Option Addr) (cdv ct:Value) (us:Yd),us.length=ps.length->bindArgs (W.fnOf x x (Wa st) (Q8 st) (JN st) .none kV doc pm an cdv ct) ⟨us,[]⟩=pure (ps.zip us)
def xF (a:Al e T tbl bl)(j i:Nat)(ok:∀{f:Addr} {b:FuncData},Fun e.K x x (T i) f b->FnOk e.P e.w e.K e.mg e.base xB k f b ps sp)(h:tbl[j]? = some (x,i):=by rfl)
 (c:EV x (T i) ps:=by trivial):Ca e x k ps sp:=by
 obtain⟨_,X,G⟩:=a.h;exact(BD a.d h).callee X G ok c
def xU (a:Al e T tbl bl)(j i:Nat)(ok:∀{f:Addr} {b:FuncData},Fun e.K x x (T i) f b->FnOk e.P e.w e.K e.mg e.base (xq e.P e.w) k f b ps sp)(h:tbl[j]? = some (x,i):=by rfl)
 (c:autoParam (EV x (T i) ps) xF._auto_2):zR e x k ps sp:=by
 obtain⟨_,X,G⟩:=a.h;exact(BD a.d h).calleeX X G ok c
end
def ju {X:Cx}(h:X.N.Nodup:=by dsimp only[JG,jP,Cx.nox];decide +kernel):X.N.Nodup:=h
def qv {X:Cx}{E:XK}(i:Nat){x:Str}{a:Pos}(c:X.N[i]? = some x:=by rfl)(d:autoParam (vT X.env.scope x) pv._auto_2)(e:(x == ("__debug__" : Str))=false:=by decide)(b:(x == ("__classdict__" : Str))=false:=by decide):QE X E (.Name x a) (ja i):=kP (pv i c d e b)
inductive Wr (α: Type) where
 |ok (a:α)|ex (c:Str) (fs:Yt)|no|new (hp:HP) (k:Addr->Wr α)
noncomputable def Wr.bind {α β: Type}:Wr α -> (α -> Wr β)->Wr β
 | .ok a,g=>g a
 | .ex c fs,_=>.ex c fs
 | .no,_=>.no
 | .new hp k,g=>.new hp λa=>(k a).bind g
def Wr.need {α: Type}:Wr α -> (α -> Prop)->(Str->Yt->Prop)->Prop
 | .ok a,p,_=>p a
 | .ex c fs,_,q=>q c fs
 | .no,_,_=>False
 | .new hp k,p,q=>∀a,je hp a=none->(k a).need p q
def Wr.of {α: Type}:Res α -> Wr α
 | .ok a=>.ok a
 | .ex c fs=>.ex c fs
 | .no=>.no
@[simp]theorem Wr.bind_ok {α β: Type}(a:α)(g:α -> Wr β):(Wr.ok a).bind g=g a:=rfl
@[simp]def Wr.bind_ex {α β: Type}(c:Str)(fs:Yt)(g:α -> Wr β):(Wr.ex c fs:Wr α).bind g=.ex c fs:=rfl
@[simp]def Wr.bind_no {α β: Type}(g:α -> Wr β):(Wr.no:Wr α).bind g=.no:=rfl
@[simp]def wZ {α β: Type}(b:HP)(k:Addr->Wr α)(g:α -> Wr β):(Wr.new b k).bind g=.new b λa=>(k a).bind g:=rfl
@[simp]def vC {α: Type}(a:α)(p:α -> Prop)(q:Str->Yt->Prop):(Wr.ok a).need p q=p a:=rfl
@[simp]def wY {α: Type}(b:HP)(k:Addr->Wr α)(p:α -> Prop)(q:Str->Yt->Prop):(Wr.new b k).need p q = ∀a,je b a=none->(k a).need p q:=rfl
@[simp]def mI {α: Type}(a:α):Wr.of (Res.ok a)=.ok a:=rfl
@[simp]def mJ {α: Type}:Wr.of (Res.no:Res α)=.no:=rfl
@[simp]def mK {α: Type}(c:Str)(fs:Yt):Wr.of (Res.ex c fs:Res α)=.ex c fs:=rfl
theorem Wr.need_bind {α β: Type}{p:β -> Prop}{q:Str->Yt->Prop}{g:α -> Wr β}:∀{r:Wr α},(r.bind g).need p q↔r.need (λa=>(g a).need p q) q
 | .ok _=>.rfl
 | .ex _ _=>.rfl
 | .no=>.rfl
 | .new _ k=>forall_congr' λa=>imp_congr .rfl (Wr.need_bind (r:=k a))
theorem Wr.need.mono {α: Type}{p b: α -> Prop}{q q':Str->Yt->Prop}(d:∀a,p a->b a)(e:∀c fs,q c fs->q' c fs):∀{r:Wr α},r.need p q->r.need b q'
 | .ok _,h=>d _ h
 | .ex _ _,h=>e _ _ h
 | .no,h=>h
 | .new _ k,h=>λa z=>Wr.need.mono d e (r:=k a) (h a z)
def jS {α: Type}{r:Res α}{p:α -> Prop}{q:Str->Yt->Prop}:(Wr.of r).need p q↔r.need p q:=by cases r<;>exact .rfl
def jM {α β: Type}{p:β -> Prop}{q:Str->Yt->Prop}{g:α -> Wr β}{r:Wr α}(h:(r.bind g).need p q){b: α -> Prop}(k:∀a,(g a).need p q->b a):r.need b q:=(Wr.need_bind.mp h).mono k λ_ _ z=>z
def yi {α β: Type}{p:β -> Prop}{q q':Str->Yt->Prop}{g:α -> Wr β}{r:Res α}(h:((Wr.of r).bind g).need p q){b: α -> Prop}(k:∀a,(g a).need p q->b a)(d:∀c fs,q c fs->q' c fs):r.need b q':=(jS.mp (Wr.need_bind.mp h)).mono k d
def dr (b:HP):Nat->D->D
 | 0,d=>d
 |n+1,.adr a=>match je b a with
  |some d=>dr b n d
  |none=>.adr a
 |n+1,.lst ds=>.lst (ds.map (dr b n))
 |n+1,.tup ds=>.tup (ds.map (dr b n))
 |n+1,.dct ks ds=>.dct ks (ds.map (dr b n))
 |n+1,.ins c fs ds=>.ins c fs (ds.map (dr b n))
 |_+1,d=>d
def drI (n:Nat)(a:HP):Yg->SD->SD
 | [],sd=>sd
 |i::is,sd=>drI n a is (match sd[i]? with
  |some (~~~d)=>sd.set i (~~~(dr a n d))
  |_=>sd)
section
variable {K:W.Frag}{B B':Bs}{F H F' H':Hp}{sd:SD}{hp hp':HP}{Z: St}
theorem IsDs.mapOf {g:D->D}(h:∀d v,IsD K F d v->IsD K F (g d) v):∀{ds:Yt} {xs:Yr},IsDs K F ds xs->IsDs K F (ds.map g) xs
 | [],_,i=>i
 |d::ds,xs,i=>by
  obtain⟨x,r,a,b,c⟩:=jh.mp i;exact jh.mpr ⟨x,r,a,h d x b,IsDs.mapOf h c⟩
theorem IsD.dr (g:∀a d,je hp a=some d->IsD K F d (.ref a)):∀(n:Nat) (d:D) (v:V),IsD K F d v->IsD K F (dr hp n d) v
 | 0,_,_,h=>h
 |n+1,.adr a,v,h=>by
  obtain rfl:=j9.mp h;unfold L2.DL.dr
  split
  .rename_i d q;exact IsD.dr g n d _ (g a d q)
  .exact h
 |n+1,.lst ds,v,h=>by
  obtain⟨a,xs,b,e,f⟩:=jp.mp h;exact jp.mpr ⟨a,xs,b,e,IsDs.mapOf (IsD.dr g n) f⟩
 |n+1,.tup ds,v,h=>by
  obtain⟨a,xs,b,e,f⟩:=jn.mp h;exact jn.mpr ⟨a,xs,b,e,IsDs.mapOf (IsD.dr g n) f⟩
 |n+1,.dct ks ds,v,h=>by
  obtain⟨a,xs,b,e,i,f⟩:=j8.mp h;exact j8.mpr ⟨a,xs,b,e,i,IsDs.mapOf (IsD.dr g n) f⟩
 |n+1,.ins c fs ds,v,h=>by
  obtain⟨a,C,j,xs,b,l,e,i,f⟩:=jG.mp h;exact jG.mpr ⟨a,C,j,xs,b,l,e,i,IsDs.mapOf (IsD.dr g n) f⟩
 |_+1,.non,_,h=>h
 |_+1,.bl _,_,h=>h
 |_+1,.int _,_,h=>h
 |_+1,.str _,_,h=>h
 |_+1,.ty _,_,h=>h
 |_+1,.scr _,_,h=>h
 |_+1,.exc _,_,h=>h
 |_+1,.exr _ _,_,h=>h
 |_+1,.ucl _,_,h=>h
 |_+1,.dcf _ _,_,h=>h
 |_+1,.pin _ _,_,h=>h
theorem RS.drI (b:∀a d,je hp a=some d->IsD K F d (.ref a))(n:Nat):∀(is:Yg) {sd:SD},RS K B F H sd Z -> RS K B F H (drI n hp is sd) Z
 | [],sd,r=>r
 |i::is,sd,r=>by
  unfold L2.DL.drI
  split
  .rename_i d h;exact RS.drI b n is (r.reval h λv q=>IsD.dr b n d v q)
  .exact RS.drI b n is r
def Ve:Nat->D->Bool
 |n+1,.tup ds=>ds.all (Ve n)
 |_,d=>JZ d
theorem xt {g:D->Bool}(h:∀d v,g d=true->IsD K F d v->IsD K F' d v):∀{ds:Yt} {xs:Yr},ds.all g=true->IsDs K F ds xs->IsDs K F' ds xs
 | [],_,_,i=>i
 |d::ds,xs,s,i=>by
  obtain⟨x,r,a,b,c⟩:=jh.mp i;rw[Ui,Ua] at s;exact jh.mpr ⟨x,r,a,h d x s.1 b,xt h s.2 c⟩
theorem y8 (b:∀a xs,F a=some (.tup xs)->F' a=some (.tup xs)):∀(n:Nat) (d:D) (v:V),Ve n d=true->IsD K F d v->IsD K F' d v
 | 0,d,v,s,h=>h.scal (by cases d<;>exact s)
 |n+1,d,v,s,h=>by
  cases d with
  |tup ds =>
   obtain⟨a,xs,c,e,f⟩:=jn.mp h;exact jn.mpr ⟨a,xs,c,.of (b a xs e),xt (y8 b n) s f⟩
  |_=>exact h.scal s
def yo.noTup {a:Addr}{d:D}{o:HO}(h:yo K F H a d)(e:H a=Option.some o)(xs:Yr):o ≠ .tup xs:=λz=>by
 subst z;cases d with
 |lst ds=>obtain⟨_,q,_⟩:=h;rw[e] at q;cases q
 |dct ks ds=>obtain⟨_,q,_⟩:=h;rw[e] at q;cases q
 |ins c fs ds=>obtain⟨_,_,_,_,q,_⟩:=h;rw[e] at q;cases q
 |_=>exact h
def RT.frzA (t:RT K B B' F H sd hp Z):jm F (xI F B'.H0 hp)/\RS K B (xI F B'.H0 hp) H sd Z /\ ∀a d,je hp a=some d->IsD K (xI F B'.H0 hp) d (.ref a):=by
 have m:∀b d,je hp b=some d->xI F B'.H0 hp b=B'.H0 b:=λb d e=>by unfold xI;rw[e]
 have g:∀b,je hp b=none->xI F B'.H0 hp b=F b:=λb e=>by unfold xI;rw[e]
 have f:jm F (xI F B'.H0 hp):=λb u e=>by
  cases q:je hp b with
  |none=>rw[g b q];exact e
  |some d=>rw[t.free q] at e;exact Jv e
 refine⟨f,⟨⟨?_,λb u e=>?_,t.sub.trans t.rs.ext.hh,λb w h=>?_⟩,t.rs.len,λq=>let ⟨v,h,h2⟩:=t.rs.val q;⟨v,h,IsD.same f _ _ h2⟩,λ{i p e} q=>?_,t.rs.apart⟩,λb e j=>?_⟩
 .rw[<- t.f0];exact t.rs.ext.ff.trans f
 .cases q:je hp b with
  |none=>rw[g b q] at e;exact t.rs.ext.fh _ _ e
  |some d=>rw[m b d q] at e;exact t.rs.ext.hh _ _ e
 .cases q:je hp b with
  |none=>rw[g b q];exact t.rs.ext.new b (by rw[t.f0];exact w) (by rw[t.out b q];exact h)
  |some d=>exact Zn (t.obj b d q).2.1 h
 .obtain⟨l,x,n,y,A,C⟩:=t.rs.own q;have E:je hp l=none:=by
   cases z:je hp l with
   |none=>rfl
   |some d'=>exact Zn rfl (t.no_own z n)
  exact⟨l,x,Qd t.sub n,by rw[g l E];exact y,A.ext f λ_ q=>q,λz=>by rw[<- t.pa];exact C z⟩
 .obtain⟨G,I,r⟩:=t.obj b e j;obtain⟨o,s⟩:=r.has;refine IsD.same (λc u q=>?_) _ _ (r.frz s (t.free j));by_cases z:c=b
  .subst z;rw[J8] at q;rw[m c e j,s];exact q
  .rw[Jx z] at q;exact f _ _ q
def RT.thaw (t:RT K B B' F H sd hp Z){b c:Hp}(e:Ext (xI F B'.H0 hp) H b c):RT K B B' (xh b hp) c sd hp Z /\ jm F (xh b hp)/\∀a xs,b a=some (.tup xs)->xh b hp a=some (.tup xs):=by
 obtain⟨j,p,f⟩:=t.frzA;have g:jm F (xh b hp):=λa o q=>by
  cases z:je hp a with
  |none=>rw[Vd z];exact e.ff _ _ (j _ _ q)
  |some d=>rw[t.free z] at q;exact Jv q
 have l:Ext F H (xh b hp) c:=⟨g,λa o q=>by
  cases z:je hp a with
  |none=>rw[Vd z] at q;exact e.fh _ _ q
  |some d=>rw[BC z] at q;exact Jv q,e.hh,λa m n=>by
  cases z:je hp a with
  |none=>rw[Vd z];exact e.new a (by unfold xI;rw[z];exact m) n
  |some d=>exact BC z⟩
 refine⟨t.go g (t.rs.step l),g,λa xs q=>?_⟩;cases z:je hp a with
 |none=>rw[Vd z];exact q
 |some d =>
  obtain⟨_,_,h⟩:=t.obj a d z;obtain⟨o,f⟩:=h.has;have i:=e.ff a o (by unfold xI;rw[z];exact f);rw[q] at i;exact Zn (Zqi i).symm (h.noTup f xs)
def RT.newO (t:RT K B B' F H sd hp Z){a:Addr}{d:D}{o:HO}(g:H a=none)(h:yo K F (upd H a o) a d):je hp a=none/\RT K B ⟨B'.F0,upd B'.H0 a o,B'.pa⟩ F (upd H a o) sd ((a,d)::hp) Z:= by
 have m:je hp a=none:=by
  cases z:je hp a with
  |none=>rfl
  |some d' =>
   obtain⟨u,f⟩:=(t.lies z).has;rw[g] at f;exact Jv f
 have j:F a=none:=Qd t.rs.ext.fh g;have r:B'.H0 a=none:=Qd t.rs.ext.hh g;have s:B.H0 a=none:=by rw[<- t.out a m];exact r
 refine⟨m,⟨⟨t.rs.ext.ff,YL o t.rs.ext.fh j,λb u e=>?_,λb v w=>?_⟩,t.rs.len,t.rs.val,λ{i p e} q=>?_,t.rs.apart⟩,t.f0,t.pa,λb c=>?_,λb e c=>?_⟩
 .have e:upd B'.H0 a o b=some u:=e;by_cases z:b=a
  .subst z;rw[J8] at e ⊢;exact e
  .rw[Jx z] at e ⊢;exact t.rs.ext.hh _ _ e
 .by_cases z:b=a
  .rw[z];exact j
  .exact t.rs.ext.new b v λy=>w (by show upd B'.H0 a o b=none;rw[Jx z];exact y)
 .obtain⟨l,x,A,C,n,E⟩:=t.rs.own q;have ne:l≠a:=λz=>by
   obtain⟨u,f⟩:=n.has;rw[z,g] at f;exact Jv f
  exact⟨l,x,(Jx ne).trans A,C,n.ext (.refl _) (λu q'=>by rw[Jx ne];exact q'),λz=>(E z).mono λu q'=>by rw[Jx ne];exact q'⟩
 .rw[Q5] at c;by_cases z:b=a
  .rw[Zd z] at c;exact Jv c.symm
  .rw[Ze z] at c;show upd B'.H0 a o b=B.H0 b;rw[Jx z];exact t.out b c
 .rw[Q5] at c;by_cases z:b=a
  .rw[Zd z] at c;obtain rfl:=Zqi c;subst z;exact⟨by rw[<- t.f0];exact Qd t.rs.ext.ff j,s,h.ext (.refl _) λu q=>by show upd B'.H0 b o b=some u;rw[J8] at q ⊢;exact q⟩
  .rw[Ze z] at c;obtain⟨G,I,J⟩:=t.obj b e c;exact⟨G,I,J.ext (.refl _) λu q=>by show upd B'.H0 a o b=some u;rw[Jx z];exact q⟩
structure ExtV (K:W.Frag)(F H:Hp)(hp:HP)(F' H':Hp)(hp':HP):Prop where
 ff:jm F F'
 fh:jm F' H'
 hh:∀a o,je hp a=none->H a=some o->H' a=some o
 new:∀a,F a=none->H a≠none->F' a=none
 len:vI K F' H' hp'
 dom:∀a,je hp' a=none->je hp a=none
 frs:∀a,je hp a=none->je hp' a≠none->H a=none
def RT.callV (t:RT K B B' F H sd hp Z)(w:ExtV K F H hp F' H' hp'):∃x,RT K B x F' H' sd hp' Z:= by
 have I:∀a,(match je hp' a with
  |none=>B'.H0 a
  |some _=>H' a)=if je hp' a=none then B'.H0 a else H' a:=λa=>by cases je hp' a<;>rfl
 refine⟨⟨B'.F0,λa=>match je hp' a with
  |none=>B'.H0 a
  |some _=>H' a,B'.pa⟩,⟨⟨t.rs.ext.ff.trans w.ff,w.fh,λa o e=>?_,λa A c=>?_⟩,t.rs.len,λq=>let ⟨v,h1,h2⟩:=t.rs.val q;⟨v,h1,IsD.same w.ff _ _ h2⟩,λ{i p e} q=>?_,t.rs.apart⟩,t.f0,t.pa,λa b=>?_,λa d b=>?_⟩
 .have e:(match je hp' a with
   |none=>B'.H0 a
   |some _=>H' a)=some o:=e
  cases z:je hp' a with
  |none=>rw[z] at e;exact w.hh a o (w.dom a z) (t.rs.ext.hh _ _ e)
  |some d=>rw[z] at e;exact e
 .have c:(match je hp' a with
   |none=>B'.H0 a
   |some _=>H' a)≠none:=c
  cases z:je hp' a with
  |none =>
   rw[z] at c;exact w.new a (t.rs.ext.new a A c) λy=>c (Qd t.rs.ext.hh y)
  |some d=>exact(w.len a d z).1
 .obtain⟨l,C,j,E,m,G⟩:=t.rs.own q;have g:je hp l=none:=by
   cases z:je hp l with
   |none=>rfl
   |some d'=>exact Zn rfl (t.no_own z j)
  obtain⟨o,n⟩:=m.has;have h:je hp' l=none:=by
   cases z:je hp' l with
   |none=>rfl
   |some d' =>
    have:=w.frs l g (by rw[z];simp);rw[n] at this;exact Jv this.symm
  refine⟨l,C,?_,w.new l E (by rw[n];simp),m.ext w.ff λu q=>w.hh _ _ g q,λz=>(G z).mono λu q=>w.hh _ _ g q⟩;show(match je hp' l with
   |none=>B'.H0 l
   |some _=>H' l)=none
  rw[h];exact j
 .show(match je hp' a with
   |none=>B'.H0 a
   |some _=>H' a)=B.H0 a
  rw[b];exact t.out a (w.dom a b)
 .have f:B.F0 a=none/\B.H0 a=none:=by
   cases z:je hp a with
   |none =>
    have r:=w.frs a z (by rw[b];simp);exact⟨by rw[<- t.f0];exact Qd t.rs.ext.ff (Qd t.rs.ext.fh r),by rw[<- t.out a z];exact Qd t.rs.ext.hh r⟩
   |some s=>exact⟨(t.obj a s z).1,(t.obj a s z).2.1⟩
  refine⟨f.1,f.2,(w.len a d b).2.ext (.refl _) λo q=>?_⟩;show(match je hp' a with
   |none=>B'.H0 a
   |some _=>H' a)=some o
  rw[b];exact q
end
abbrev FV:=SD->HP->Wr (D×HP)
abbrev yn:=SD->HP->Wr (Yt×HP)
abbrev zt:=SD->HP->Wr (Bool×HP)
def px (K:W.Frag)(B:Bs)(F:Hp)(sd:SD)(Z: St)(Q:VK)(p:D×HP):Prop:=∀v c a b,jm F a->RT K B c a b sd p.2 Z -> IsD K a p.1 v->Q v b
def tF (K:W.Frag)(E:XK)(f:FV):TE:=λZ H Q=>∃B b F sd a,RT K B b F H sd a Z /\ (f sd a).need (px K B F sd Z Q) (XW K E B.F0 B.H0)
abbrev QV (X:Cx)(E:XK)(e:Expr)(f:FV):Prop:=PE X e (tF X.K E f)
def tE (K:W.Frag)(E:XK)(f:yn):TA:=λZ H Q=>∃B e F sd b,RT K B e F H sd b Z /\ (f sd b).need (λp=>∀c g a d,jm F a->RT K B g a d sd p.2 Z -> IsDs K a p.1 c->Q c d) (XW K E B.F0 B.H0)
abbrev vE (X:Cx)(E:XK)(es:Yj)(f:yn):Prop:=PA X es (tE X.K E f)
def uY (K:W.Frag)(E:XK)(f:zt):TT:=λZ H Q=>∃B d F sd a,RT K B d F H sd a Z /\ (f sd a).need (λp=>∀e b c,jm F b->RT K B e b c sd p.2 Z -> Q p.1 c) (XW K E B.F0 B.H0)
abbrev vU (X:Cx)(E:XK)(e:Expr)(f:zt):Prop:=PT X e (uY X.K E f)
section
variable {X:Cx}{E:XK}{m:Option Bool}{a b e o i:Expr}{es:Yj}{fe fa fb fo fi:FE}{ft:FT}{vo vi ve:FV}{fr:yn}{pos pos':Pos}
def vL (f:FE):FV:=λsd c=>(Wr.of (f sd)).bind λd=>.ok (d,c)
def Qo (h:QE X E e fe):QV X E e (vL fe):=PE.weak h λZ H Q ⟨B,f,F,sd,r,t,n⟩=>⟨f,F,sd,t.rs,yi n (λd g v j l c p=>g v f j l c.ff (t.go c.ff (t.rs.step c)) p) λ_ _ q=>q.ext (t.ext0 t.rs.ext)⟩
def nn (f:FT):zt:=λsd c=>(Wr.of (f sd)).bind λd=>.ok (d,c)
def EW (h:QT X E e ft):vU X E e (nn ft):=PT.weak h λZ H Q ⟨B,f,F,sd,p,t,n⟩=>⟨f,F,sd,t.rs,yi n (λd g j l c=>g f j l c.ff (t.go c.ff (t.rs.step c))) λ_ _ q=>q.ext (t.ext0 t.rs.ext)⟩
def sX (k:Nat)(is:Yg)(f:FE):FV:=λsd c=>(Wr.of (f (drI k c is sd)).strict).bind λd=>if Ve 8 d then .ok (d,c) else .no
def kN (k:Nat)(is:Yg)(h:QE X E e fe):QV X E e (sX k is fe):=PE.weak h λZ H Q g=>by
 obtain⟨B,j,F,sd,z,t,n⟩:=g;obtain⟨A,l,p⟩:=t.frzA;refine⟨B,_,_,l.drI p k is,(Res.need_strict (jS.mp (Wr.need_bind.mp n))).mono (λd f v C r s u=>?_) λc fs q=>q⟩
 split at f
 .rename_i w;obtain⟨x,y,k2⟩:=t.thaw s;exact f v j _ r y x (y8 k2 8 d v w u)
 .exact f.elim
def vj (k:Nat)(is:Yg)(f:FT):zt:=λsd c=>(Wr.of (f (drI k c is sd)).strict).bind λd=>.ok (d,c)
def Ot (k:Nat)(is:Yg)(h:QT X E e ft):vU X E e (vj k is ft):=PT.weak h λZ H Q f=>by
 obtain⟨B,g,F,sd,w,t,n⟩:=f;obtain⟨x,j,l⟩:=t.frzA;refine⟨B,_,_,j.drI l k is,(Res.need_strict (jS.mp (Wr.need_bind.mp n))).mono (λd p y r s=>?_) λc fs q=>q⟩;obtain⟨u,v,k2⟩:=t.thaw s;exact p g _ r v u
def yD (o:D)(q:D×HP):Wr (D×HP):=match o with
 | .adr a=>match je q.2 a with
  |some (.lst es)=>(Wr.of (.ofO (jv (.lst es) q.1))).bind λz=>.ok (z,q.2)
  |_=>.no
 |_=>.no
def sY (fo fi:FV):FV:=λsd c=>(fo sd c).bind λp=>(fi sd p.2).bind (yD p.1)
def kO (l:QV X E o vo)(r:QV X E i vi)(s:AD i):QV X E (.Subscript o i pos) (sY vo vi):=PE.weak (Dw cO l r s) λZ H Q u=>by
 obtain⟨B,A,F,sd,C,t,n⟩:=u;refine⟨B,A,F,sd,C,t,jM n λp G v I J H1 K L f=>⟨B,I,J,sd,p.2,L,jM G λq c w M N O P g R=>?_⟩⟩;unfold yD at c
 split at c
 .rename_i a d;rw[d] at f;obtain rfl:=j9.mp f
  split at c
  .rename_i es S;obtain⟨xs,T,U⟩:=g.lies S;obtain⟨z,h,k⟩:=ji (jS.mp (Wr.need_bind.mp c));obtain⟨y,Y⟩:=q;cases y with
   |int j =>
    obtain⟨x,hx,ix⟩:=Bc U (show jR es j=some z from h);exact⟨a,xs,j,x,rfl,jc.mp R,qC.of T,hx,k _ M N O (K.trans P) g ix⟩
   |_=>exact Jv h
  .exact c.elim
 .exact c.elim
def X9 (c f:Str)(p:D×HP):Wr (D×HP):=match p.1 with
 | .adr a=>match je p.2 a with
  |some d=>(Wr.of (.ofO (j0 c f d))).bind λz=>.ok (z,p.2)
  |_=>.no
 |_=>.no
def wa (c f:Str)(fo:FV):FV:=λsd d=>(fo sd d).bind (X9 c f)
def EX {c f:Str}{C:Addr}{fs:Yh}(k:ClsD X.K X.mg c C fs)(y:f∈fs)(A:QV X E e ve)(G:attributeBase e f X.env (eval e X.env)=eval e X.env:=by rfl):QV X E (.Attribute e f pos) (wa c f ve):=PE.weak (Dh A G) λZ H Q I=>by
 obtain⟨B,J,F,sd,K,t,n⟩:=I;refine⟨B,J,F,sd,K,t,jM n λp g v L M N O l r=>?_⟩;unfold X9 at g
 split at g
 .rename_i a h;rw[h] at r;obtain rfl:=j9.mp r
  split at g
  .rename_i d P;have R:=l.lies P;obtain⟨z,s,q⟩:=ji (jS.mp (Wr.need_bind.mp g));cases d with
   |ins u S ds =>
    have hw:(if u=c then za f S ds else none)=some z:=s;by_cases j:u=c
    .rw[Zd j] at hw;subst j;obtain⟨C',T,xs,w,U,Y,hi⟩:=R;rw[k.ns] at w;cases w;obtain⟨x,h1,h2⟩:=B4 hi Y hw;exact⟨a,C,T,_,x,rfl,U,k.cls,k.no f y,h1,q _ L M N O l h2⟩
    .rw[Ze j] at hw;exact Jv hw
   |_=>exact Jv s
  .exact g.elim
 .exact g.elim
def xQ:yn:=λ_ c=>.ok ([],c)
def K5 (f:FV)(g:yn):yn:=λsd c=>(f sd c).bind λp=>(g sd p.2).bind λq=>.ok (p.1::q.1,q.2)
def WQ:vE X E [] xQ:=PA.weak W1 λZ H Q ⟨B,c,F,sd,d,t,n⟩=>n [] c F H (.refl _) t .nil
def Wn (d:QV X E e ve)(f:vE X E es fr)(g:starEach (e::es) X.env=(false,eval e X.env)::starEach es X.env:=by rfl):vE X E (e::es) (K5 ve fr):=PA.weak (W2 d f g) λZ H Q h=>by
 obtain⟨B,j,F,sd,l,t,n⟩:=h;refine⟨B,j,F,sd,l,t,jM n λp r v s u L w x y=>⟨B,s,u,sd,p.2,x,jM r λq z A C G I c J K=>?_⟩⟩;exact z (v::A) C G I (w.trans c) J (.mk (IsD.same c _ _ y) K)
def yT (fr:yn):FV:=λsd c=>(fr sd c).bind λp=>if p.1.length<=1000 then .new p.2 λa=>.ok (.adr a,(a,.lst p.1)::p.2) else .no
def BE (h:vE X E es fr):QV X E (.List es pos) (yT fr):=PE.weak (Dk h) λZ H Q g=>by
 obtain⟨B,j,F,sd,l,t,n⟩:=g;refine⟨B,j,F,sd,l,t,jM n λp c r z s A u v f=>?_⟩
 split at c
 .rename_i C;have G:=f.length;refine⟨small (),λq w=>?_⟩;obtain⟨x,y⟩:=v.newO (d:=.lst p.1) w ⟨r,J8,f⟩;exact c q x _ _ s _ u y (j9.mpr rfl)
 .exact c.elim
def pD (c:Yt->Res D)(fr:yn):FV:=λsd f=>(fr sd f).bind λp=>(Wr.of (c p.1)).bind λd=>.ok (d,p.2)
def wG (K:W.Frag)(g:Yt->HP->Wr (D×HP)):Sp:=λh H Q _=>∃F ds c,jm F H/\IsDs K F ds h/\vI K F H c/\(g ds c).need (λp=>∀v d f,ExtV K F H c d f p.2->IsD K d p.1 v->Q v f) (XW K E0 F (xh H c))
def BF (c:Yt->HP->Wr (D×HP))(fr:yn):FV:=λsd d=>(fr sd d).bind λp=>c p.1 p.2
def Ou {d:Str}{k:Nat}{l:Yh}{g:Yt->HP->Wr (D×HP)}{p:Pos}(c:zn X.prog X.w X.K X.mg X.base d k l (wG X.K g))(r:Room k X.A)(s:Gl X d)(u:vE X E0 (e::es) fr)
 (h:(d == ("__debug__" : Str))=false:=by decide) (x:starEach (e::es) X.env=(false,eval e X.env)::starEach es X.env:=by rfl) (j:(backTo pos (starEach es X.env)).any (·.1)=false:=by rfl):
 QV X E0 (.Call (.Name d p) (e::es) [] pos) (BF g fr):=PE.weak (W6 c r s u h x j) λZ H Q y=>by
 obtain⟨B,z,F,sd,A,t,n⟩:=y;refine⟨B,z,F,sd,A,t,jM n λp C G S I J K f L=>?_⟩;show wG X.K g (G++[]) J Q E0;rw[ZA];refine⟨I,p.1,p.2,f.rs.ext.fh,L,f.lent,C.mono (λq M v N O w i=>?_) λ_ _ q=>q.ext f.hidden⟩;obtain⟨P,R⟩:=f.callV w;exact M v P N O (K.trans w.ff) R i
end
inductive Out3 where
 |next (sd:SD) (hp:HP)|ret (d:D) (hp:HP)|brk (sd:SD) (hp:HP)|cont (sd:SD) (hp:HP)
def vg (K:W.Frag)(B:Bs)(F:Hp)(T:Ends):Out3->Prop
 | .next sd c=>∀Z e a b,jm F a->RT K B e a b sd c Z -> T.nx Z b
 | .brk sd c=>∀Z e a b,jm F a->RT K B e a b sd c Z -> T.bk Z b
 | .cont sd c=>∀Z e a b,jm F a->RT K B e a b sd c Z -> T.ct Z b
 | .ret d c=>∀v Z sd e a b,jm F a->RT K B e a b sd c Z -> IsD K a d v->T.rt v b
def vg.mono {K:W.Frag}{B:Bs}{F g:Hp}{T:Ends}{o:Out3}(h:vg K B F T o)(e:jm F g):vg K B g T o:=by
 cases o with
 |next sd f=>exact λZ a b c s r=>h Z a b c (e.trans s) r
 |brk sd f=>exact λZ a b c s r=>h Z a b c (e.trans s) r
 |cont sd f=>exact λZ a b c s r=>h Z a b c (e.trans s) r
 |ret d f=>exact λv Z sd a b c s r i=>h v Z sd a b c (e.trans s) r i
abbrev qy:=SD->HP->Wr Out3
def tq (K:W.Frag)(E:XK)(g:qy):TS:=λT Z H=>∃B b F sd a,RT K B b F H sd a Z /\ (g sd a).need (vg K B F T) (XW K E B.F0 B.H0)
abbrev VS (X:Cx)(E:XK)(st:Stmt)(g:qy):Prop:=PS X st (tq X.K E g)
abbrev wD (X:Cx)(E:XK)(st:List Stmt)(g:qy):Prop:=qY X st (tq X.K E g)
def sZ (a:HP):Out->Wr Out3
 | .next sd=>.ok (.next sd a)
 | .ret _=>.no
 | .brk sd=>.ok (.brk sd a)
 | .cont sd=>.ok (.cont sd a)
section
variable {X:Cx}{E:XK}{m:Option Bool}{st:Stmt}{sts:List Stmt}{g:FS}{g1 g2:qy}{pos pos':Pos}{o i e:Expr}{vo vi ve:FV}
def zL (g:FS):qy:=λsd a=>(Wr.of (g sd)).bind (sZ a)
def ZO (h:QS X E m st g):VS X E st (zL g):=PS.weak h λT Z H ⟨B,f,F,sd,l,t,n⟩=>⟨f,F,sd,t.rs,yi n (λo j=>by
 cases o with
 |next sd'=>exact λa b c s r=>j a f b c s (t.go s r)
 |brk sd'=>exact λa b c s r=>j a f b c s (t.go s r)
 |cont sd'=>exact λa b c s r=>j a f b c s (t.go s r)
 |ret d=>exact j.elim) λ_ _ q=>t.xw q⟩
def VJ:qy:=λsd a=>.ok (.next sd a)
def zK (g2:qy):Out3->Wr Out3
 | .next sd' hp'=>g2 sd' hp'
 |o=>.ok o
def qG (g1 g2:qy):qy:=λsd a=>(g1 sd a).bind (zK g2)
def XA:wD X E [] VJ:=qY.weak A3 λT Z H ⟨B,a,F,sd,b,t,n⟩=>n Z a F H (.refl _) t
def VL (h:VS X E st g1):wD X E [st] g1:=YD h
def Kk (b:VS X E st g1)(c:wD X E sts g2):wD X E (st::sts) (qG g1 g2):=qY.weak (A4 b c) λT Z H f=>by
 obtain⟨B,h,F,sd,j,t,n⟩:=f;refine⟨B,h,F,sd,j,t,jM n λo a=>?_⟩;cases o with
 |next sd' hp'=>exact λu l p v s r=>⟨B,l,p,sd',hp',r,a.mono (λo q=>q.mono s) λ_ _ q=>q⟩
 |ret d hp'=>exact a
 |brk sd' hp'=>exact a
 |cont sd' hp'=>exact a
def yd (f:FV):qy:=λsd a=>(f sd a).bind λp=>.ok (.ret p.1 p.2)
def WR (h:QV X E e ve):VS X E (.Return (some e) pos) (yd ve):=PS.weak (YF h) λT Z H ⟨B,a,F,sd,b,t,n⟩=>⟨B,a,F,sd,b,t,jM n λp c v d f j l q r=>c v Z sd d f j l q r⟩
def ut (f:FV):qy:=λsd a=>(f sd a).bind λp=>.ok (.next sd p.2)
def zY (i:Nat)(f:FV):qy:=λsd a=>(f sd a).bind λp=>.ok (.next (sd.set i (~~~(p.1))) p.2)
def Ov {i:Nat}{x:Str}{a:Pos}(c:X.N.Nodup)(d:X.N[i]? = some x)(hx:yM X.env.scope x)(f:QV X E e ve)(h:swapsWith e (some (.Name x pos')) a.line X.env=pure false:=by rfl)(j:X.fn x=true\/X.env.scope.names.lookup x=some .local:=by trivial):
 VS X E (.Assign [.Name x pos'] e a) (zY i ve):=PS.weak (A5 c d hx f h j) λT Z H l=>by
 obtain⟨B,q,F,sd,r,t,n⟩:=l;refine⟨B,q,F,sd,r,t,jM n λp s v u w y z b A=>?_⟩;exact s _ u w y z (b.go (.refl _) (b.rs.setVal A))
def Wo (c:zt)(g1 g2:qy):qy:=λsd a=>(c sd a).bind λp=>if p.1 then g1 sd p.2 else g2 sd p.2
def ZP {c:Expr}{a b:List Stmt}{f:zt}(u:vU X E c f)(v:wD X E a g1)(w:wD X E b g2):VS X E (.If c a b pos) (Wo f g1 g2):=PS.weak (CS u v w) λT Z H x=>by
 obtain⟨B,y,F,sd,z,t,n⟩:=x;refine⟨B,y,F,sd,z,t,jM n λp h j l A r s=>?_⟩;obtain⟨b,d⟩:=p;cases b with
 |true=>exact⟨B,j,l,sd,d,s,(show(g1 sd d).need _ _ from h).mono (λ_ q=>q.mono r) λ_ _ q=>q⟩
 |false=>exact⟨B,j,l,sd,d,s,(show(g2 sd d).need _ _ from h).mono (λ_ q=>q.mono r) λ_ _ q=>q⟩
def WS (sd:SD)(a:Addr)(q:D×HP):Wr Out3:=match je q.2 a with
 |some (.lst es)=>if es.length<sizeLine then .ok (.next sd (JV q.2 a (.lst (es++[q.1])))) else .no
 |_=>.no
def XB (b:FV)(sd:SD)(p:D×HP):Wr Out3:=match p.1 with
 | .adr a=>match je p.2 a with
  |some (.lst _)=>(b sd p.2).bind (WS sd a)
  |_=>.no
 |_=>.no
def z0 (a b:FV):qy:=λsd c=>(a sd c).bind (XB b sd)
def BG {b c:Pos}(C:QV X E o vo)(G:QV X E e ve)
 (h:∀{u:TE} {t:TA},PE X o u->PA X [e] t->PE X (.Call (.Attribute o "append" b) [e] [] c) (vP X.K "list" AE u t))
 (I:swapsWith (.Call (.Attribute o "append" b) [e] [] c) none pos.line X.env=pure false:=by rfl)
 (j:starEach [e] X.env=(false,eval e X.env)::starEach [] X.env:=by rfl):VS X E (.Expr (.Call (.Attribute o "append" b) [e] [] c) pos) (z0 vo ve):=
 PS.weak (YE (h C (W2 G W1 j)) I) λT Z H J=>by
  obtain⟨B,K,F,sd,h,t,n⟩:=J;refine⟨B,K,F,sd,h,t,jM n λp d v L M S N x y=>?_⟩;unfold XB at d
  split at d
  .rename_i a l;rw[l] at y;obtain rfl:=j9.mp y
   split at d
   .rename_i O r;obtain⟨s,k1,k2⟩:=x.lies r;refine⟨.inl ⟨rfl,s,qC.of k1⟩,B,L,M,sd,p.2,x,jM d λq f w U P Y Q z R=>?_⟩;unfold WS at f
    split at f
    .rename_i es A
     split at f
     .rename_i hz;obtain⟨xs,g1,g2⟩:=z.lies A;have hl:=g2.length;refine⟨a,xs,w,rfl,rfl,g1,(),?_⟩;exact f Z _ P _ (N.trans Q) (z.chg A ⟨xs++[w],J8,g2.snoc R⟩)
     .exact f.elim
    .exact f.elim
   .exact d.elim
  .exact d.elim
def EY (sd:SD)(d:D)(a:Addr)(q:D×HP):Wr Out3:=match je q.2 a with
 |some (.lst es)=>match q.1 with
  | .int k=>match yu es.length k with
   |some j=>.ok (.next sd (JV q.2 a (.lst (es.set j d))))
   |none=>.no
  |_=>.no
 |_=>.no
def BH (b:FV)(sd:SD)(d:D)(p:D×HP):Wr Out3:=match p.1 with
 | .adr a=>(b sd p.2).bind (EY sd d a)
 |_=>.no
def sS (a b c:FV):qy:=λsd d=>(c sd d).bind λp=>(a sd p.2).bind (BH b sd p.1)
def xc (b:D->qy):Yt->qy
 | [],sd,a=>.ok (.next sd a)
 |x::xs,sd,a=>(b x sd a).bind λo=>match o with
  | .next sd' hp'=>xc b xs sd' hp'
  | .cont sd' hp'=>xc b xs sd' hp'
  | .brk sd' hp'=>.ok (.next sd' hp')
  | .ret d hp'=>.ok (.ret d hp')
def QY (tg:Tg)(b:qy)(x:D):qy:=λsd a=>(Wr.of (JD tg x sd)).bind λs=>b s a
def zy (it:FA)(tg:Tg)(b:qy):qy:=λsd a=>(Wr.of (it sd)).bind λds=>xc (QY tg b) ds sd a
def Ow {T:Ends}{B B1:Bs}{z H1:Hp}{sd:SD}{A:HP}{Z: St}{t:Tg}{J:It}{ds:Yt}(wk:yj X.K z J ds)(r:RT X.K B B1 z H1 sd A Z)(n1:(xc (QY t g1) ds sd A).need (vg X.K B z T) (XW X.K E B.F0 B.H0)):
 ∃W:Nat->Nat->St->Hp->Prop,(∃m,W 0 m Z H1)/\∀i m' Z H,W i m' Z H->(J.stop i H/\T.nx Z H)\/(J.go i H/\∃N:St->Hp->Prop,(∀C l,N C l->∃m2,m2<m'/\W (i+1) m2 C l)/\∀x l,J.yld i H x l->gT t X.K x Z l λQ L=>tq X.K E g1 { T with nx:=N,ct:=N,bk:=T.nx } Q L):=by
 refine⟨λi k Z H=>k=ds.length-i/\i<=ds.length/\∃M F sd A,jm z F/\RT X.K B M F H sd A Z /\ (xc (QY t g1) (ds.drop i) sd A).need (vg X.K B F T) (XW X.K E B.F0 B.H0),
  ⟨ds.length,rfl,Ue _,B1,z,sd,A,.refl _,r,n1⟩,?_⟩
 rintro i k Q L ⟨rfl,hi,M,F,R,S,U,O,G⟩;obtain⟨w1,w2⟩:=wk i F L U O.rs.ext.fh;by_cases c:i<ds.length
 .obtain⟨go,yl⟩:=w1 c;refine .inr ⟨go,λC l=>∃Y p f h,jm z p/\RT X.K B Y p l f h C/\(xc (QY t g1) (ds.drop (i+1)) f h).need (vg X.K B p T) (XW X.K E B.F0 B.H0),
   λC l ⟨Y,p,f,h,q1,q2,q3⟩=>⟨ds.length-(i+1),(),rfl,c,Y,p,f,h,q1,q2,q3⟩,λx H3 y=>?_⟩
  obtain⟨d,p,hd,n,i3⟩:=yl x H3 y;rw[UF c] at G;have hd':ds[i]=d:=by rw[Zqg c] at hd;exact Zqi hd
  rw[hd'] at G;have r3:=O.go n.ff (O.rs.step n);unfold xc at G;have n3:(JD t d R).need _ _:=jS.mp (Wr.need_bind.mp (Wr.need_bind.mp G));refine YQ r3.rs i3 n3 λsd' C n4 _ r4=>?_;refine⟨B,M,p,sd',S,r3.go (.refl _) r4,n4.mono (λo P=>?_) λ_ _ q=>q⟩;cases o with
  |next a b=>exact λI s u K j w=>⟨s,u,a,b,(U.trans n.ff).trans j,w,P.mono (λ_ q=>q.mono (n.ff.trans j)) λ_ _ q=>q⟩
  |cont a b=>exact λI s u K j w=>⟨s,u,a,b,(U.trans n.ff).trans j,w,P.mono (λ_ q=>q.mono (n.ff.trans j)) λ_ _ q=>q⟩
  |brk a b=>exact λI s u K j w=>P I s u K (n.ff.trans j) w
  |ret d b=>exact λv I a s u K j w i5=>P v I a s u K (n.ff.trans j) w i5
 .have he:i=ds.length:=()
  refine .inl ⟨w2 (),?_⟩;subst he;rw[UT] at G;exact G Q M F L (.refl _) O
def Ox {tg a:Expr}{b:List Stmt}{it:FA}{t:Tg}(f:PassesOwn (model X.prog X.w) X.A X.env X.xe)(h:X.calm=true)(j:QI X E tg a it)(l:QG X tg t)(p:wD X E b g1)
 (c:∀x,foldedSetIterable a X.env x=pure x:=by intro _;rfl):VS X E (.For tg a b [] pos) (zy it t g1):=PS.weak (CU f h j l p c) λT Z H s=>by
 obtain⟨B,u,F,sd,f,r,n⟩:=s;refine⟨u,F,sd,r.rs,yi n (λds v J y z d w=>?_) λ_ _ q=>q.ext (r.ext0 r.rs.ext)⟩;exact Ow w (r.go d.ff (r.rs.step d)) (v.mono (λ_ q=>q.mono d.ff) λ_ _ q=>q)
end
def ql:Out3->Wr (D×HP)
 | .ret d a=>.ok (d,a)
 | .next _ a=>.ok (.non,a)
 |_=>.no
def xT (n b:Nat)(g:qy)(ds:Yt)(a:HP):Wr (D×HP):=if ds.length=b then((g (Qk n ds) a).bind ql).bind λp=>if a.all λz=>(je p.2 z.1).isSome then .ok p else .no else .no
section
variable {P:Program}{w:World}{K:W.Frag}{mg:Yc}{base:Heap}{x qual:Str}{st:Stmt}{f:Addr}{fd:FuncData}{N ps:Yh}{k:Nat}
theorem EZ:∀{b:HP} {a:Addr} {d:D},je b a=some d->∃z∈b,z.1=a
 | [],a,d,h=>by cases h
 |p::r,a,d,h=>by
  rw[Q5] at h;by_cases z:a=p.1
  .exact⟨p,Zqs,z.symm⟩
  .rw[Ze z] at h;obtain⟨y,c,e⟩:=EZ h;exact⟨y,Zqm _ c,e⟩
def v6 {g:qy}(F:Fun K x qual st f fd)(S:FnScope N ps (JN st))
 (T:∀(l:Value) (A:Around) (b:List Env) (s:Shared) (H:Hp) (E:XK),Room k (A.deeper (envOfC qual (JN st) s.heap.objs.size f l))->wD (jP xB P w K mg base N qual (JN st) f l A b s H E).nox E0 (Q8 st) g):
 FnOk P w K mg base xB (k+1) f fd ps (wG K (xT N.length ps.length g)):=by
 refine F.ok S (λM H Q E ⟨F,ds,c,_,i,_,n⟩=>?_) λl A b s H M Q E U ⟨F,ds,c,X,i,O,n⟩=>⟨_,T l A b s H E U,?_⟩
 .unfold xT at n
  split at n
  .rw[i.length];assumption
  .exact n.elim
 .unfold xT at n
  split at n
  .have t:RT K ⟨F,xh H c,λ_=>none⟩ ⟨F,H,λ_=>none⟩ F H (Qk N.length ds) c (L2.start N M):=⟨RS.start X i,rfl,rfl,λa m=>(Vd m).symm,λa d m=>⟨(O a d m).1,BC m,(O a d m).2⟩⟩;have B:∀{d:D} {hp':HP} {v:V} {I:St} {sd':SD} {J:Bs} {h r:Hp},(Wr.need (if c.all λz=>(je hp' z.1).isSome then(.ok (d,hp'):Wr (D×HP)) else .no) (λp=>∀v h r,ExtV K F H c h r p.2->IsD K h p.1 v->Q v r) (XW K E0 F (xh H c))) ->
    jm F h->RT K ⟨F,xh H c,λ_=>none⟩ J h r sd' hp' I->IsD K h d v->Q v r:=λ{d hp' v I sd' J h r} u C j L=>by
    split at u
    .rename_i Y;have G:∀a,je hp' a=none->je c a=none:=λa m=>by
      cases z:je c a with
      |none=>rfl
      |some d0 =>
       obtain⟨y,Z,y2⟩:=EZ z;have:=Ul.mp Y y Z;rw[y2,m] at this;cases this
     have e:=j.ext0 j.rs.ext;refine u v h r ⟨C,j.rs.ext.fh,λa o m q=>e.hh a o ((Vd m).trans q),λa h0 h1=>?_,j.lent,G,λa z y=>?_⟩ L
     .cases z:je c a with
      |none=>exact e.new a h0 λy=>h1 ((Vd z).symm.trans y)
      |some d =>
       cases y:je hp' a with
       |none=>rw[G a y] at z;cases z
       |some d'=>exact j.free y
     .cases R:je hp' a with
      |none=>exact Zn R y
      |some d' =>
       have:=(j.obj a d' R).2.1;rw[<- Vd (H:=H) z];exact this
    .exact u.elim
   refine⟨_,_,F,_,c,t,jM (Wr.need_bind.mp n |> λq=>Wr.need_bind.mpr q |> λq=>(Wr.need_bind.mp q)) λo u=>?_⟩;cases o with
   |next sd' hp'=>exact λI J h r C j=>B u C j (jt.mpr rfl)
   |ret d hp'=>exact λv I sd' J h r C j L=>B u C j L
   |brk sd' hp'=>exact u.elim
   |cont sd' hp'=>exact u.elim
  .exact n.elim
end
end L2.DL
namespace L2
def vJ (lo c:Int)(n:Nat):It:=⟨λi _=>i<n,λi H x a=>a=H/\x=.int (lo+i*c),λi _=>n<=i⟩
def Oy {P:Program}{w:World}{K:PySem.W.Frag}{tg:Expr}(it:Addr)(lo c:Int)(n:Nat):Turn P w K tg (vJ lo c n) [it] it (λi h=>IsRangeIter h it (lo+(i:Nat)*c) ((n:Int)-(i:Nat)) c) where
 mem:=by simp
 obj:=λi h st b a=>by
  have e:b=it:=by simpa using a
  subst e;exact⟨_,st,λv z=>by
   have y:Data.fields _=Data.cell v:=z;cases y⟩
 keep:=λi h h' st k=>k it () _ st
 item:=by
  intro X g hw j l i Y s Z H E I f st m;subst g hw j;obtain⟨p,q,A,r,u,x⟩:=f it ();have W:=Walks.range (prog:=X.prog) (w:=X.w) (I.ok.hd l) it lo c n;refine W.item i s _ _ m st λv h' tk B d kk=>?_;obtain⟨t,rfl⟩:=B;have C:Inv X Y Z H { s with heap:=h',toks:=tk }:=I.turned (λb o a e=>kk b o (by simpa using a) e) p q r u x;exact⟨_,rfl,Xh (s:={ s with heap:=h',toks:=tk }) (n:= "range_iterator") d rfl rfl (by decide) ⟨.int (lo+i*c),H,C,⟨t,rfl⟩,⟨rfl,rfl⟩,d,λb a=>(f b a).1⟩⟩
 done:=by
  intro X g hw j l i Y s Z H E I f st m;subst g hw j;obtain⟨p,q,A,r,u,x⟩:=f it ();exact wpAny_pyNext_range_end (I.ok.hd l) st (by have:n<=i:=m;lia) λh' F=>⟨rfl,I.turned (t':=s.toks) (λb o a e=>F b o a e) p q r u x⟩
 self:=λ_ _ _ _ _ st h=>wpAny_pyIter_rangeiter st h
section
variable {X:Cx}{tg:Expr}
def Oz {a b:Int}(e: -1000000000<=a)(c:a<=1000000000)(f: -1000000000<=b)(d:b<=1000000000):Builtin.Range.small a b 2=true:=by
 unfold Builtin.Range.small Builtin.Range.rangeSize;simp only[Builtin.Range.rangeFitsLong,Ua,Uq,decide_eq_true_eq,Yl,show(2:Int) > 0 by decide,if_true]
 split<;>lia
def fu (a:TA):TI:=λZ H R=>a Z H λb c=>∃i j:Int,b=[.int i,.int j,.int 2]/\(-1000000000<=i/\i<=1000000000 /\ -1000000000<=j/\j<=1000000000)/\R (vJ i 2 ((j-i+1) / 2).toNat) c
def O0 {a b c:Expr}{x:TA}{p f:Pos}(z:Gl X "range")(A:X.mg "range" = none)(B:PA X [a,b,c] x)(C:starEach [a,b,c] X.env=[(false,eval a X.env),(false,eval b X.env),(false,eval c X.env)]:=by rfl)(g:starEach [b,c] X.env=[(false,eval b X.env),(false,eval c X.env)]:=by rfl):
 PI X tg (.Call (.Name "range" p) [a,b,c] [] f) (fu x):=by
 intro Y s Z H R I h;refine Call_ (VY I z A boot_range (PyProof.Rows.callWith_type1 (j5 (B f Y s Z H _ I h) λP d ⟨Q,y,E,F,m⟩=>?_) (by rw[C,g]) (by rw[g];rfl)));obtain⟨i,j,e,⟨m,G,J,K⟩,q⟩:=m;subst e;cases F with
 |cons r l =>
  cases l with
  |cons L l =>
   cases l with
   |cons n l =>
    cases l;obtain⟨t,rfl⟩:=r;obtain⟨u,rfl⟩:=L;obtain⟨v,rfl⟩:=n;refine call_range_3 (by decide) ?_ (.inl (PyProof.noPylong_of_log2 (by decide)));refine wpAny_pyIter_range (IsRange.new ..) (Oz m G J K) ?_;have w:Inv X Y Z y { d with heap:=d.heap.push { cls:=.type "range",data:=.fields #[.int i t,.int j u,.int 2 v] },toks:=d.toks }:=E.kept λb o e=>Zq _ e;refine⟨(d.heap.push { cls:=.type "range",data:=.fields #[.int i t,.int j u,.int 2 v] }).objs.size,[(d.heap.push { cls:=.type "range",data:=.fields #[.int i t,.int j u,.int 2 v] }).objs.size],_,_,y,rfl,
     w.kept (t':=d.toks) λb o e=>Zq _ e,Oy _ i 2 ((j-i+1) / 2).toNat,?_,λb M=>?_,q⟩
    .have N:i+((0:Nat):Int)*2=i:=by simp
     have O:((((j-i+1) / 2).toNat:Nat):Int)-((0:Nat):Int)=Builtin.Range.rangeSize i j 2:=by
      unfold Builtin.Range.rangeSize;rw[Zd (by decide)]
      split<;>lia
     show IsRangeIter _ _ (i+((0:Nat):Int)*2) (((((j-i+1) / 2).toNat:Nat):Int)-((0:Nat):Int)) 2;rw[N,O];exact Zr _ rfl
    .have e:b=(d.heap.push { cls:=.type "range",data:=.fields #[.int i t,.int j u,.int 2 v] }).objs.size:=by simpa using M
     subst e;exact w.fpOk (Zf _) (w.hok.fresh (Zf _))
end
end L2
namespace L2.DL
def Vf (lo c:Int)(n:Nat):Yt:=(List.range n).map λk:Nat=>.int (lo+k*c)
def O1 {K:W.Frag}{b:Hp}(lo c:Int)(n:Nat):yj K b (vJ lo c n) (Vf lo c n):=λi d h j e=>by
 have f:(Vf lo c n).length=n:=by unfold Vf;rw[Zql,ZB]
 rw[f];refine⟨λa=>⟨a,λx l g=>?_⟩,λa=>a⟩;obtain⟨rfl,rfl⟩:=g;refine⟨.int (lo+i*c),d,?_,.refl e,jc.mpr rfl⟩;unfold Vf;rw[Zv,U0 a];rfl
def nL (a:FA):FA:=λsd=>(a sd).bind λds=>match ds with
 | [.int i,.int j,.int 2]=>if QL i&&QL j then .ok (Vf i 2 ((j-i+1) / 2).toNat) else .no
 |_=>.no
section
variable {X:Cx}{E:XK}{m:Option Bool}{tg:Expr}{p pos:Pos}{fr:FA}
def O2 {a b c:Expr}(l:Gl X "range")(o:X.mg "range" = none)(s:QA X E [a,b,c] fr)(t:starEach [a,b,c] X.env=[(false,eval a X.env),(false,eval b X.env),(false,eval c X.env)]:=by rfl)(e:starEach [b,c] X.env=[(false,eval b X.env),(false,eval c X.env)]:=by rfl):QI X E tg (.Call (.Name "range" p) [a,b,c] [] pos) (nL fr):=PI.weak (O0 l o s t e) λZ H R u=>by
 obtain⟨B,F,sd,r,n⟩:=u;refine⟨B,F,sd,r,(Res.need_bind n).mono (λds d I v w A C=>?_) λ_ _ q=>q⟩
 split at d
 .split at d
  .rename_i i j f;obtain⟨x,J,rfl,h,G⟩:=jh.mp C;obtain⟨y,z,rfl,h',g⟩:=Wk G;rw[jc.mp h,jc.mp h',jc.mp g];rw[Ua] at f;have k1: -1000000000<=i/\i<=1000000000:=by have:=f.1;unfold QL at this;rw[Ua,Uz,Uz] at this;lia
   have k2: -1000000000<=j/\j<=1000000000:=by have:=f.2;unfold QL at this;rw[Ua,Uz,Uz] at this;lia
   exact⟨i,j,rfl,⟨k1.1,k1.2,k2.1,k2.2⟩,d _ v w A (O1 i 2 _)⟩
  .exact d.elim
 .exact d.elim
def K6 (c:FT)(b:FS):Nat->FS
 | 0,_=>.no
 |n+1,sd=>(c sd).bind λt=>if t then(b sd).bind λo=>match o with
  | .next sd'=>K6 c b n sd'
  | .cont sd'=>K6 c b n sd'
  | .brk sd'=>.ok (.next sd')
  | .ret d=>.ok (.ret d) else .ok (.next sd)
def O3 {c:Expr}{e:List Stmt}{v:FT}{g:FS}(k:Nat)(M:PassesOwn (model X.prog X.w) X.A X.env X.xe)(N:QT X E c v)(O:zg X E m e g):QS X E m (.While c e [] pos) (K6 v g k):=PS.weak (HR M N O) λT Z H P=>by
 obtain⟨B,F,sd,r,n⟩:=P;refine⟨λj Z H=>∃i a,jm F i/\RS X.K B i H a Z /\ (K6 v g j a).need (zl X.K m B i T) (XW X.K E B.F0 B.H0),⟨k,F,sd,.refl _,r,n⟩,?_⟩;rintro j Q S ⟨i,a,G,w,I⟩;cases j with
 |zero=>exact I.elim
 |succ j =>
  refine⟨B,i,a,w,(Res.need_bind I).mono (λt x J R f=>?_) λ_ _ q=>q.ext w.ext⟩;cases t with
  |true =>
   rw[Zd rfl] at x;rw[Zd rfl];refine⟨λK L=>∃z l,jm F z/\RS X.K B z L l K/\(K6 v g j l).need (zl X.K m B z T) (XW X.K E B.F0 B.H0),λK L q=>⟨j,Nat.lt_succ_self _,q⟩,B,J,a,w.step f,(Res.need_bind x).mono (λo y=>?_) λ_ _ q=>q⟩;cases o with
   |next b=>exact λA s C h u=>⟨s,b,(G.trans f.ff).trans h,u,y.mono (λ_ q=>q.mono (f.ff.trans h)) λ_ _ q=>q⟩
   |cont b=>exact λA s C h u=>⟨s,b,(G.trans f.ff).trans h,u,y.mono (λ_ q=>q.mono (f.ff.trans h)) λ_ _ q=>q⟩
   |brk b=>exact λA s C h u=>y A s C (f.ff.trans h) u
   |ret d=>exact y
  |false =>
   rw[Ze Zj] at x;rw[Ze Zj];exact x Q J R f.ff (w.step f)
def n9 (K:W.Frag)(g:Str->D->Yu):V->Yr->Hp->VK->Prop:=λx b H Q=>∃F a e z v,jm F H/\x=.str a/\b=[v]/\IsD K F e v/\g a e=some z/\yc K F H Q z
def kG (K:W.Frag)(g:Str->D->Yu):V->Yr->Hp->VK->Prop:=λx b H Q=>∃F a e z v,jm F H/\x=.str a/\b=[v]/\IsD K F e v/\g a e=some z/\yq K F H Q z
def j7 (g:Str->D->Yu)(a b:FE):FE:=λsd=>(a sd).bind λd=>match d with
 | .str x=>(b sd).bind λe=>.ofO (g x e)
 |_=>.no
def XC {a id:String}{g:Str->D->Yu}{o e:Expr}{i j:FE}{b c:Pos}(A:QE X E o i)(C:QE X E e j)
 (G:∀{l:TE} {t:TA},PE X o l->PA X [e] t->PE X (.Call (.Attribute o a b) [e] [] c) (vP X.K "str" (n9 X.K g) l t)) (f:starEach [e] X.env=(false,eval e X.env)::starEach [] X.env:=by rfl):
 QE X E (.Call (.Attribute o a b) [e] [] c) (j7 g i j):=PE.weak (G A (W2 C W1 f)) λZ H Q I=>by
 obtain⟨B,F,sd,r,n⟩:=I;refine⟨B,F,sd,r,(Res.need_bind n).mono (λd s v J P h K=>?_) λ_ _ q=>q⟩;cases d with
 |str x =>
  obtain rfl:=IsD.str_iff.mp K;refine⟨rfl,B,J,sd,r.step h,(Res.need_bind s).mono (λy L w M R u N=>?_) λ_ _ q=>q.ext h⟩;obtain⟨z,O,q⟩:=ji L;exact⟨M,x,y,z,w,u.fh,rfl,rfl,N,O,q.ext (h.trans u)⟩
 |_=>exact s.elim
def XD {a id:String}{g:Str->D->Yu}{o e:Expr}{i j:FE}{b c:Pos}(A:QE X E o i)(C:QE X E e j)
 (G:∀{l:TE} {t:TA},PE X o l->PA X [e] t->PE X (.Call (.Attribute o a b) [e] [] c) (vP X.K "str" (kG X.K g) l t)) (f:starEach [e] X.env=(false,eval e X.env)::starEach [] X.env:=by rfl):
 QN X E (.Call (.Attribute o a b) [e] [] c) (j7 g i j):=PE.weak (G A (W2 C W1 f)) λZ H Q I=>by
 obtain⟨B,F,sd,r,n⟩:=I;refine⟨B,F,sd,r,(Res.need_bind n).mono (λd s v J P h K=>?_) λ_ _ q=>q⟩;cases d with
 |str x =>
  obtain rfl:=IsD.str_iff.mp K;refine⟨rfl,B,J,sd,r.step h,(Res.need_bind s).mono (λy L w M R u N=>?_) λ_ _ q=>q.ext h⟩;obtain⟨z,O,q⟩:=ji L;exact⟨M,x,y,z,w,u.fh,rfl,rfl,N,O,q.ext (h.trans u)⟩
 |_=>exact s.elim
def VM:Yt->Option Yh
 | []=>some []
 | .str x::r=>(VM r).map (x :: ·)
 |_=>none
theorem Fa:∀(ws:Yh),VM (ws.map D.str)=some ws
 | []=>rfl
 |w::ws=>by
  show(VM (ws.map D.str)).map (w :: ·)=_;rw[Fa ws];rfl
theorem Fb {K:W.Frag}{F:Hp}:∀{ds:Yt} {ws:Yh} {xs:Yr} {a:Yd},VM ds=some ws->IsDs K F ds xs->js xs a->∃l:List (Str×Tok),a=strValues l/\l.map (·.1)=ws
 | [],ws,xs,a,h,i,r=>by
  obtain rfl:=Zqi h;rw[IsDs.nil_iff] at i;subst i;cases r;exact⟨[],rfl,rfl⟩
 |d::ds,ws,xs,a,h,i,r=>by
  obtain⟨x,n,rfl,b,c⟩:=jh.mp i;cases d with
  |str w =>
   obtain⟨e,f,rfl⟩:=Jg.mp (show(VM ds).map (w :: ·)=some ws from h);obtain rfl:=IsD.str_iff.mp b;cases r with
   |cons g j =>
    obtain⟨t,rfl⟩:=g;obtain⟨l,rfl,rfl⟩:=Fb f c j;exact⟨(w,t)::l,rfl,rfl⟩
  |_=>exact Jv h
def WT (x:Str):D->Yu
 | .lst ds=>(VM ds).bind λws=>if JoinOk x ws then some (.str (Txt.join x ws)) else none
 |_=>none
def BI:vH X "str.join" (n9 X.K WT):=by
 intro Y s Z H x G v J Q I f g h;obtain⟨F,a,e,z,w,c,rfl,rfl,i,d,q⟩:=h;obtain⟨t,rfl⟩:=f;obtain⟨u,rfl,j⟩:=Q6 g;cases e with
 |lst ds =>
  obtain⟨ws,n,b⟩:=Je.mp (show(VM ds).bind (λws=>if JoinOk a ws then some (.str (Txt.join a ws)) else none)=some z from d)
  split at b
  .rename_i o;obtain rfl:=Zqi b;obtain⟨p,xs,rfl,r,y⟩:=jp.mp i;obtain rfl:u=Value.ref p:=j;obtain⟨A,B,C,K⟩:=I.list (r.same c).sq;obtain⟨l,rfl,rfl⟩:=Fb n y B;exact SC.join C.isList rfl o λt' k=>⟨.str _,H,I.tok _,⟨_,rfl⟩,q _ F H (.refl c) (IsD.str_iff.mpr rfl)⟩
  .exact Jv b
 |_=>exact Jv d
def XE (x:Str):D->Yu
 | .str y=>some (.bl (Txt.startswith x y))
 |_=>none
def O4:vH X "str.startswith" (n9 X.K XE):=by
 intro Y s Z H x j v l Q I c d h;obtain⟨F,a,e,z,w,f,rfl,rfl,g,b,q⟩:=h;obtain⟨t,rfl⟩:=c;obtain⟨u,rfl,i⟩:=Q6 d;cases e with
 |str y =>
  obtain rfl:=Zqi b;obtain rfl:=IsD.str_iff.mp g;obtain⟨t',rfl⟩:=i;exact call_gives PySem.F.slot_str_startswith (typeIs_str _ _ _) PySem.F.entry_str_startswith (PySem.F.args_str_startswith_2 _ _) (gives_str_startswith a y t t') ⟨.bl _,H,I,rfl,q _ F H (.refl f) (jj.mpr rfl)⟩
 |_=>exact Jv b
def QZ (x:Str):D->Yu
 | .str y=>if(y.length == 0)=false/\x.length+2<=sizeLine then some (.lst ((Txt.split x y).map .str)) else none
 |_=>none
theorem Fc:∀l:List (Str×Tok),js ((l.map (·.1)).map V.str) (strValues l)
 | []=>.nil
 |p::l=>.cons ⟨p.2,rfl⟩ (Fc l)
theorem Fd {K:W.Frag}{F:Hp}:∀ws:Yh,IsDs K F (ws.map D.str) (ws.map V.str)
 | []=>.nil
 |w::ws=>.mk (IsD.str_iff.mpr rfl) (Fd ws)
def XF:vH X "str.split" (kG X.K QZ):=by
 intro Y s Z H x M v N Q I r A h;obtain⟨F,a,e,z,w,i,rfl,rfl,B,d,q⟩:=h;obtain⟨t,rfl⟩:=r;obtain⟨u,rfl,C⟩:=Q6 A;cases e with
 |str y =>
  obtain rfl:=IsD.str_iff.mp B;obtain⟨t',rfl⟩:=C;have d:(if(y.length == 0)=false/\a.length+2<=sizeLine then some (D.lst ((Txt.split a y).map .str)) else none)=some z:=d
  split at d
  .rename_i G;obtain rfl:=Zqi d;obtain⟨j,hsz⟩:=G;have J:(Builtin.Str.partsBetween a (Builtin.Str.occurrences a y 0 a.length (a.length+1)) y.length).length<=sizeLine:=by
    have O:=StrLaws.occ_length_le a y 0 a.length (a.length+1);rw[PySem.length_partsBetween];lia
   have c:∀(l:List (Str×Tok)) (tk:Nat),l.map (·.1)=Txt.split a y->l.length<=sizeLine->EP X Y Z Q (.ref s.heap.objs.size) { s with heap:=s.heap.push { cls:=.type "list",data:=.seq (strValues l).toArray },toks:=tk }:=λl tk n K=>by
    have L:=I.laid (a:=s.heap.objs.size) (o:=.lst ((Txt.split a y).map V.str)) (h':=s.heap.push { cls:=.type "list",data:=.seq (strValues l).toArray }) (t':=tk) (λb u q=>Zq _ q) (Zf _)
     ⟨by rw[<- n,Zql,Zql];exact K,strValues l,0,by rw[<- n];exact Fc l,Zr _ rfl⟩
    exact⟨.ref s.heap.objs.size,_,L,rfl,q s.heap.objs.size F _ (.keep i (I.hok.fresh (Zf _)) _) (I.hok.fresh (Zf _)) (Qd i (I.hok.fresh (Zf _))) ⟨_,J8,Fd _⟩⟩
   cases f:(decide (a.length<y.length)||decide (Builtin.Str.strKind a<Builtin.Str.strKind y))
   .cases g:(Builtin.Str.occurrences a y 0 a.length (a.length+1)).isEmpty
    .refine call_meets PySem.F.slot_str_split (typeIs_str _ _ _) PySem.F.entry_str_split (PySem.F.args_str_split_2 _ _) (meets_str_split_sep a y t t' f j g () J) ?_;show wants _ _ _ { s with toks:=_,heap:=s.heap.push { cls:=.type "list",data:=.seq (strsFrom s.toks (Builtin.Str.partsBetween a (Builtin.Str.occurrences a y 0 a.length (a.length+1)) y.length)).toArray } };rw[strsFrom_eq];refine c (numbered s.toks _) _ ((numbered_texts _ _).trans ((Ze (ne_true_of_eq_false f)).trans (Ze (ne_true_of_eq_false g))).symm) ?_;have:=Zt List.length (numbered_texts s.toks (Builtin.Str.partsBetween a (Builtin.Str.occurrences a y 0 a.length (a.length+1)) y.length));rw[Zql] at this;lia
    .exact call_meets PySem.F.slot_str_split (typeIs_str _ _ _) PySem.F.entry_str_split (PySem.F.args_str_split_2 _ _) (meets_str_split_not_found a y t t' f j g) (c [(a,t)] s.toks ((Ze (ne_true_of_eq_false f)).trans (Zd g)).symm (by simp;lia))
   .exact call_meets PySem.F.slot_str_split (typeIs_str _ _ _) PySem.F.entry_str_split (PySem.F.args_str_split_2 _ _) (meets_str_split_cannot_occur a y t t' f) (c [(a,t)] s.toks (Zd f).symm (by simp;lia))
  .exact Jv d
 |_=>exact Jv d
end
@[simp]def pb (f:FE)(sd:SD)(a:HP):vL f sd a=(Wr.of (f sd)).bind λd=>.ok (d,a):=rfl
@[simp]def dH (f:FT)(sd:SD)(a:HP):nn f sd a=(Wr.of (f sd)).bind λd=>.ok (d,a):=rfl
@[simp]def dG (k:Nat)(is:Yg)(f:FE)(sd:SD)(a:HP):sX k is f sd a=(Wr.of (f (drI k a is sd)).strict).bind λd=>if Ve 8 d then .ok (d,a) else .no:=rfl
@[simp]def rq (k:Nat)(is:Yg)(f:FT)(sd:SD)(a:HP):vj k is f sd a=(Wr.of (f (drI k a is sd)).strict).bind λd=>.ok (d,a):=rfl
@[simp]def sE (n:Nat)(a:HP)(sd:SD):drI n a [] sd=sd:=rfl
def cy (n:Nat)(a:HP)(i:Nat)(sd:SD):Option (Option SV)->SD
 |some (~~~d)=>sd.set i (~~~(dr a n d))
 |_=>sd
@[simp]def sF (n:Nat)(a:HP)(i:Nat)(sd:SD)(d:D):cy n a i sd (some (~~~d))=sd.set i (~~~(dr a n d)):=rfl
@[simp]def mm (n:Nat)(a:HP)(i:Nat)(sd:SD):cy n a i sd (some none)=sd:=rfl
@[simp]def ml (n:Nat)(a:HP)(i:Nat)(is:Yg)(sd:SD):drI n a (i::is) sd=drI n a is (cy n a i sd sd[i]?):=by
 show drI n a is _=drI n a is _
 congr 1
@[simp]def dI (a b:FV)(sd:SD)(c:HP):sY a b sd c=(a sd c).bind λp=>(b sd p.2).bind (yD p.1):=rfl
def Fe {a:Addr}{q:D×HP}{b:Yt}(h:je q.2 a=some (.lst b)):yD (.adr a) q=(Wr.of (.ofO (jv (.lst b) q.1))).bind λz=>.ok (z,q.2):=by
 unfold yD;simp only[h]
@[simp]def rr (sd:SD)(a:HP):xQ sd a=.ok ([],a):=rfl
@[simp]def bG (f:FV)(g:yn)(sd:SD)(a:HP):K5 f g sd a=(f sd a).bind λp=>(g sd p.2).bind λq=>.ok (p.1::q.1,q.2):=rfl
@[simp]def rx (b:yn)(sd:SD)(c:HP):yT b sd c=(b sd c).bind λp=>if p.1.length<=1000 then .new p.2 λa=>.ok (.adr a,(a,.lst p.1)::p.2) else .no:=rfl
@[simp]def bI (a:Yt->HP->Wr (D×HP))(b:yn)(sd:SD)(c:HP):BF a b sd c=(b sd c).bind λp=>a p.1 p.2:=rfl
@[simp]def dJ (a:Yt->Res D)(b:yn)(sd:SD)(c:HP):pD a b sd c=(b sd c).bind λp=>(Wr.of (a p.1)).bind λd=>.ok (d,p.2):=rfl
@[simp]def cZ (g:FS)(sd:SD)(a:HP):zL g sd a=(Wr.of (g sd)).bind (sZ a):=rfl
@[simp]def uF (a:HP)(sd:SD):sZ a (.next sd)=.ok (.next sd a):=rfl
@[simp]def b7 (sd:SD)(a:HP):VJ sd a=.ok (.next sd a):=rfl
@[simp]def rj (a b:qy)(sd:SD)(c:HP):qG a b sd c=(a sd c).bind (zK b):=rfl
@[simp]def ni (g:qy)(sd:SD)(a:HP):zK g (.next sd a)=g sd a:=rfl
@[simp]def sT (g:qy)(d:D)(a:HP):zK g (.ret d a)=.ok (.ret d a):=rfl
@[simp]def sU (g:qy)(sd:SD)(a:HP):zK g (.brk sd a)=.ok (.brk sd a):=rfl
@[simp]def nj (g:qy)(sd:SD)(a:HP):zK g (.cont sd a)=.ok (.cont sd a):=rfl
@[simp]def rk (f:FV)(sd:SD)(a:HP):yd f sd a=(f sd a).bind λp=>.ok (.ret p.1 p.2):=rfl
@[simp]def b8 (f:FV)(sd:SD)(a:HP):ut f sd a=(f sd a).bind λp=>.ok (.next sd p.2):=rfl
@[simp]def ri (i:Nat)(f:FV)(sd:SD)(a:HP):zY i f sd a=(f sd a).bind λp=>.ok (.next (sd.set i (~~~(p.1))) p.2):=rfl
@[simp]def dE (c:zt)(a b:qy)(sd:SD)(d:HP):Wo c a b sd d=(c sd d).bind λp=>if p.1 then a sd p.2 else b sd p.2:=rfl
@[simp]def rp (a b:FV)(sd:SD)(c:HP):z0 a b sd c=(a sd c).bind (XB b sd):=rfl
def BJ {c:FV}{sd:SD}{a:Addr}{b:HP}{d:Yt}(h:je b a=some (.lst d)):XB c sd (.adr a,b)=(c sd b).bind (WS sd a):=by
 unfold XB;simp only[h]
def BK {sd:SD}{a:Addr}{d:D}{b:HP}{c:Yt}(h:je b a=some (.lst c))(e:c.length<sizeLine):WS sd a (d,b)=.ok (.next sd (JV b a (.lst (c++[d])))):=by
 unfold WS;simp only[h];rw[Zd e]
@[simp]def rl (a b c:FV)(sd:SD)(d:HP):sS a b c sd d=(c sd d).bind λp=>(a sd p.2).bind (BH b sd p.1):=rfl
@[simp]def lx (b:FV)(sd:SD)(d:D)(a:Addr)(c:HP):BH b sd d (.adr a,c)=(b sd c).bind (EY sd d a):=rfl
@[simp]def gg (d:D)(a:HP):ql (.ret d a)=.ok (d,a):=rfl
@[simp]def lD (sd:SD)(a:HP):ql (.next sd a)=.ok (.non,a):=rfl
def Ka {b:HP}{a:Addr}{d:D}(n:Nat)(h:je b a=some d):dr b (n+1) (.adr a)=dr b n d:=by
 show(match je b a with
  |some d=>dr b n d
  |none=>.adr a)=_
 rw[h]
@[simp]def bj (n:Nat)(i:Int):Ve n (.int i)=true:=by cases n<;>rfl
@[simp]def bh (n:Nat)(i:Str):Ve n (.str i)=true:=by cases n<;>rfl
@[simp]def rg (n:Nat)(i:Bool):Ve n (.bl i)=true:=by cases n<;>rfl
@[simp]def bi (n:Nat):Ve n .non=true:=by cases n<;>rfl
def VN {b:HP}{a:Addr}{d:D}(h:je b a≠none):je (JV b a d) a=some d:=by rw[Vc a h,Zd rfl]
def Qv {c:HP}{a b:Addr}{d:D}(h:je c a≠none)(n:b≠a):je (JV c a d) b=je c b:=by rw[Vc b h,Ze n]
def XG {n c:Nat}{g:qy}{ds:Yt}{b:HP}{P:D×HP->Prop}{Q:Str->Yt->Prop}(f:ds.length=c)(h:((g (Qk n ds) b).bind ql).need (λp=>(∀a,je b a≠none->je p.2 a≠none)/\P p) Q):(xT n c g ds b).need P Q:=by
 unfold xT;rw[Zd f];refine Wr.need_bind.mpr (h.mono (λp e=>?_) λ_ _ q=>q);have:(b.all λz=>(je p.2 z.1).isSome)=true:=Ul.mpr λz i=>by
  have j:je b z.1≠none:=by
   rw[Ne,ng];exact λy=>y (Ja.mpr ⟨z,i,rfl⟩)
  have:=e.1 z.1 j;cases y:je p.2 z.1 with
  |none=>exact Zn y this
  |some d=>rfl
 rw[Zd this];exact e.2
end L2.DL
namespace L2
def O5 (it:Addr):Yk:=#[.none,.bool false,.ref it,rawInt 1,.none,.none]
def WU (l:Addr):Obj:={ cls:=.type "list_iterator",data:=.fields #[.ref l,.int 0 0] }
def ZQ (it:Addr):Obj:={ cls:=.type "enumerate",data:=.fields (O5 it) }
def VO (h:Heap)(l:Addr):Heap:=(h.push (WU l)).push (ZQ h.objs.size)
set_option maxHeartbeats 1000000 in
def O6 (l:Addr)(b:Yk)(k:Nat)(g:Option Addr)(h:Array Ye)(t:Tok):
 Meets (Builtin.«enumerate.__new__» ⟨[.type "enumerate",.ref l],[("start",.int 1 t)]⟩) (λ_ R s=>s.heap.get? l=some ⟨.type "list",g,.seq b k,h⟩/\R (.ok (.ret (.ref (s.heap.push (WU l)).objs.size))) { s with heap:=VO s.heap l }):=
 .of_wp λprog w A R s q=>by
  obtain⟨i,j,m,tk,os⟩:=s;have a:=q.1;have d:=q.2;have e:=sub_enumerate;have f:Heap.IsList (Shared.heap ⟨i,j,m,tk,os⟩) l b:=⟨_,a,rfl,k,rfl⟩
  wp_walk using AutoSeq1.wpAny_loadPart' a
  refine wpAny_stack_any λ_=>Zb ?_
  split
  .rename_i c _ _ _ _ _;cases (c == Value.type "enumerate")<;>(wp_walk using AutoSeq1.wpAny_loadPart' a,wpAny_pyIter_list f;exact⟨_,rfl,d⟩)
  .wp_walk using AutoSeq1.wpAny_loadPart' a,wpAny_pyIter_list f
   exact⟨_,rfl,d⟩
section
variable {prog:Program}{w:World}{A:Around}{E:Ya}{s:Shared}
def fm {b a:Value}{c:List (Str×Value)}:Meets (Builtin.«object.__init__» ⟨[b,a],c⟩) (λ_ R s=>s.TypeIs b "enumerate" /\ R (.ok (.ret .none)) s):=by
 have e:=PySem.F.called_enumerate.init.lookup;have f:=PySem.F.called_enumerate.made;have g:(some "enumerate.__new__" != some "object.__new__")=true:=by decide
 refine Meets.of_wp λprog w A R s q=>?_;have h:=q.1;have d:=q.2
 repeat (any_goals (first|assumption|wp_step))
 exact⟨_,rfl,d⟩
def O7 (a:Value)(t:Tok):checkTypeCall "enumerate" ⟨[a],[("start",.int 1 t)]⟩=pure Ym:=by kernel_rfl
def O8 (a:Value)(t:Tok):checkBuiltinCall "enumerate.__new__" ⟨[.type "enumerate",a],[("start",.int 1 t)]⟩=pure Ym:=by kernel_rfl
def O9 (o a:Value)(t:Tok):argsOk "object.__init__" ⟨[o,a],[("start",.int 1 t)]⟩:=by
 unfold argsOk;rw[signature?_of (id:= "object.__init__") (n:=['_','_','t','i','n','i','_','_']) (o:=['t','c','e','j','b','o']) (by kernel_rfl) PySem.F.owner_object]
 kernel_rfl
def OA {l:Addr}{a:Yk}{t:Tok}{Q:Ya}(m:s.heap.IsList l a)(q:Q (.ref (s.heap.objs.size+1)) { s with heap:=VO s.heap l }):
 Yw prog w A (call (.type "enumerate") [.ref l] [("start",.int 1 t)]) Q E s:=by
 obtain⟨⟨n,p,u,v⟩,x,y,k,B⟩:=m;obtain rfl:n=.type "list" := y;obtain rfl:u=.seq a k:=B;have T:=PySem.F.called_enumerate;obtain⟨J,cs,d⟩:=T.mro;have K:=T.made;have C:=T.sub;have F:=T.notType;have G:=T.canCreate;have L:=O7 (.ref l) t;have g:(s.heap.push (WU l)).objs.size=s.heap.objs.size+1:=Heap.size_push ..;refine wpAny_call (codeAny_of_tree (show wpAny _ _ (callAny (.type "enumerate") ⟨[.ref l],[("start",.int 1 t)]⟩) _ _ _ from ?_));refine Zb ⟨Code.quiet_builtin _ (by decide +kernel),codeAny_builtin PySem.F.entry_type_call ?_⟩;rw[Around.under_plain (weight_type_call_type "enumerate" [.ref l] [("start",.int 1 t)]) (units_type_call_type "enumerate" [.ref l] [("start",.int 1 t)])]
 repeat (any_goals (first|assumption|wp_step))
 have made:=O6 l a k p v t prog w A.in1 (wants (λo h=>o=.ref (s.heap.objs.size+1)/\h={ s with heap:=VO s.heap l }) E) s ⟨x,by rw[g];exact⟨rfl,rfl⟩⟩;refine codeAny_mono (codeAny_call_builtin T.plain PySem.F.entry_enumerate_new (wpAny_of_eq (O8 (.ref l) t) made)) λr h b=>?_;cases r with
 |error e=>exact b
 |ok f =>
  cases f with
  |ret o =>
   obtain⟨rfl,rfl⟩:=b;have i:Shared.TypeIs { s with heap:=VO s.heap l } (.ref (s.heap.objs.size+1)) "enumerate" := ⟨ZQ s.heap.objs.size,by
    have:=Zr (s.heap.push (WU l)) (o:=ZQ s.heap.objs.size) rfl;rw[g] at this;exact this,rfl⟩
   have M:=T.init.lookup;have N:=T.init.bind (.ref (s.heap.objs.size+1))
   repeat (any_goals (first|assumption|wp_step))
   refine codeAny_mono (codeAny_call_builtin T.init.plain PySem.F.entry_object_init (T.init.check _ _ _ _ _ _ _ _ i (O9 _ (.ref l) t) (fm prog w A.in1 (wants (λz j=>z=.none/\Q (.ref (s.heap.objs.size+1)) j) E) _ ⟨i,rfl,q⟩))) λH j c=>?_;cases H with
   |error e=>exact c
   |ok I =>
    cases I with
    |ret z =>
     obtain⟨rfl,O⟩:=c
     repeat (any_goals (first|assumption|wp_step))
    |_=>exact c.elim
  |_=>exact b.elim
def OB (l:A.handled=none)(it a:Addr)(b:Yk):Draws prog w A it [it,a] (b.size+1) (λj x=>b[j-1]? = some x) (λj h=>∃i,j=i+1/\h.IsListIter it a i/\h.IsList a b/\it≠a) where
 live:=λj h ⟨i,_,⟨o,e,_⟩,_⟩=>⟨o,e⟩
 frame:=λj h h' ⟨i,e,d,c,f⟩ kk=>⟨i,e,d.at λo q=>kk it () o q,(let ⟨o,e,r⟩:=c;⟨o,kk a () o e,r⟩),f⟩
 item:=λj s Q E m ⟨i,e,d,c,f⟩ hQ=>by
  subst e;have g:i<b.size:=()
  refine wpAny_nextOf_list_item d c (x:=b[i]) (by simp[g]) λh' k1 k2=>?_;exact hQ b[i] h' s.toks (by simp[g]) ⟨i+1,rfl,k1,(let ⟨o,e,r⟩:=c;⟨o,(k2.2 a f.symm).trans e,r⟩),f⟩ k2
 done:=λs Q E ⟨i,e,d,c,f⟩ hE=>by
  have g:i=b.size:=()
  exact wpAny_nextOf_list_end l d c (by simp[g]) hE
def OC (g:A.handled=none)(it a:Addr)(f:Yk){i:Nat}(b:f.size<=i):Draws prog w A it [it,a] (i+1) (λ_ _=>True) (λj h=>j=i+1/\h.IsListIter it a i/\h.IsList a f) where
 live:=λj h ⟨_,⟨o,e,_⟩,_⟩=>⟨o,e⟩
 frame:=λj h h' ⟨e,c,d⟩ kk=>⟨e,c.at λo q=>kk it () o q,(let ⟨o,e,r⟩:=d;⟨o,kk a () o e,r⟩)⟩
 item:=λj s Q E l ⟨e,_⟩ hQ=>()
 done:=λs Q E ⟨_,c,d⟩ hE=>wpAny_nextOf_list_end g c d (by simp[b]) hE
end
def vK (K:W.Frag)(a:Addr):It:=
 ⟨λi H=>∃xs x,qC K H a xs/\xs[i]? = some x,
  λi H v b=>∃T x,v=.ref T/\H T=none/\b=upd H T (.tup [.int ((i:Int)+1),x])/\∀xs,qC K H a xs->xs[i]? = some x,
  λi H=>∃xs,qC K H a xs/\xs.length<=i⟩
def OD (e it a:Addr)(i:Nat)(h:Heap):Prop:=(∃b,IsEnum h e it ((i:Int)+1) b)/\h.IsListIter it a i
def OE {P:Program}{w:World}{K:W.Frag}{m:Yj}{kx}{J:Pos}(a e it:Addr)(l:e≠it):Turn P w K (.Tuple m kx J) (vK K a) [e,it] e (OD e it a) where
 mem:=by simp
 obj:=λi h st c b=>by
  obtain⟨⟨f,j⟩,⟨o1,n,L,d1⟩⟩:=st;simp only[Uj,Uk,or_false] at b;rcases b with rfl|rfl
  .exact⟨_,j,λv q=>by cases q⟩
  .exact⟨_,n,λv q=>by rw[d1] at q;cases q⟩
 keep:=λi h h' st kk=>⟨(let ⟨f,j⟩:=st.1;⟨f,kk e () _ j⟩),st.2.at λo q=>kk it () o q⟩
 item:=by
  intro X M hw N b i Y s Z H E I C st O;subst M hw N;obtain⟨xs,x,F,hx⟩:=O;obtain⟨d,Q,p,hz⟩:=I.list F;obtain⟨u,hu,ru⟩:=Q.get hx;obtain⟨⟨f,j⟩,g⟩:=id st;obtain⟨o1,n,L,_⟩:=id g;have R:it≠a:=λz=>by
   obtain⟨o2,r,G,_⟩:=p.isList;rw[<- z,n] at r;cases r;rw[L] at G;exact Zn G (by decide)
  have S:e≠a:=λz=>by
   obtain⟨o2,r,G,_⟩:=p.isList;rw[<- z,j] at r;cases r;exact Zn (show Value.type "enumerate" = Value.type "list" from G) (by decide)
  have hi:i<d.length:=(Jd.mp hu).1;have D:=OB (prog:=X.prog) (w:=X.w) (A:=X.A.in1) (show X.A.in1.handled=none from I.ok.hd b) it a d.toArray;have T:IsEnum s.heap e it ((i+1:Nat):Int) f:=by rw[show((i+1:Nat):Int)=(i:Int)+1 by lia];exact j
  refine wpAny_pyNext_enum_itemD D T ⟨i,rfl,g,p.isList,R⟩ (by simp;lia) l (by simp[l,S]) λy h' tk U a1 a2 a3 a4 kk=>?_;have U:d.toArray[i]? = some y:=by simpa using U
  have hyu:u=y:=by
   have:d[i]? = some y:=by simpa using U
   rw[hu] at this;exact Zqi this
  subst hyu;obtain⟨i',ei,b2,_,_⟩:=a2;obtain rfl:i'=i+1:=()
  refine⟨_,rfl,wpAny_letOwnedTupleGo_enum (s:={ s with heap:=h',toks:=tk+1 }) a1 λh2 b1 t=>?_⟩;have t:Heap.SameBut e h' h2:=t;have lt:∀{c o},s.heap.get? c=some o->c≠s.heap.objs.size:=λq=>Zi (Zk q);have B:∀c ∈ [e,it],c≠s.heap.objs.size:=λc b=>by
   simp only[Uj,Uk,or_false] at b;rcases b with rfl|rfl
   .exact lt j
   .exact lt n
  have hTe:s.heap.objs.size≠e:=λq=>lt j q.symm;have I2:=I.paired (t':=tk+1) (h':=h2) (ch:=[e,it]) (x:=.int ((i:Int)+1)) (u:=.int ((i+1:Nat):Int) tk) ⟨tk,by rw[show((i+1:Nat):Int)=(i:Int)+1 by lia]⟩ ru C B (t.extBut _ _ hTe a3) (λc o b q=>by
   simp only[Uj,Uk,or_false,not_or] at b;exact t.extBut c o b.1 (kk c o b.1 b.2 q))
  refine⟨.ref s.heap.objs.size,_,I2,rfl,⟨_,x,rfl,I.hok.fresh (Zf _),rfl,λzs hq=>by rw[I.list_inj hq F];exact hx⟩,⟨⟨u,?_⟩,b2.extBut t.extBut (Ne.symm l)⟩,λc b=>(Jx (B c b)).trans (C c b).1⟩;have q:(((i+1:Nat)):Int)=(i:Int)+1:=()
  rw[q];rw[q] at b1;exact b1
 done:=by
  intro X M hw N b i Y s Z H E I C st O;subst M hw N;obtain⟨xs,F,hx⟩:=O;obtain⟨d,Q,p,hz⟩:=I.list F;have l1:=Q.length;obtain⟨⟨f,j⟩,g⟩:=id st;obtain⟨o1,n,L,_⟩:=id g;refine wpAny_pyNext_enum_endD (OC (prog:=X.prog) (w:=X.w) (A:=X.A.in1) (show X.A.in1.handled=none from I.ok.hd b) it a d.toArray (i:=i) (by simp;lia)) j ⟨rfl,g,p.isList⟩ λh' eb=>⟨rfl,I.turnedL (t':=s.toks) (ch:=[it]) (λc o b q=>?_) λc b=>C c ?_⟩
  .exact eb c o (λz=>b (by simp[z])) q
  .have:c=it:=by simpa using b
   subst this;simp
 self:=λ_ _ _ _ _ st h=>wpAny_pyIter_enum st.1.choose_spec h
section
variable {X:Cx}
def OF (K:W.Frag)(c:TA):TI:=λZ H R=>c Z H λd b=>∃a,d=[.ref a]/\(∃xs,qC K b a xs)/\R (vK K a) b
def OG {M:Model}{A:Around}{E:Ya}{s:Shared}{env:Env}{b:Pos}{T:String}{e:Expr}{rest:Yj}{c:List Keyword}{Q:Ya}
 (h:wpAny M A (spliced (backTo b (starEach (e::rest) env))) (λl f=>wpAny M A (evalAll ((backToKw b (keywordEach c env)).map (·.2))) (λks j=>wpAny M A (call (.type T) l (((backToKw b (keywordEach c env)).filterMap (·.1)).zip ks)) Q E j) E f) E s)
 (m:backTo b (starEach (e::rest) env)=(false,eval e env)::backTo b (starEach rest env):=by rfl) (g:(backTo b (starEach (e::rest) env)).any (·.1)=false:=by rfl)
 (d:(backToKw b (keywordEach c env)).all (·.1.isSome)=true:=by rfl) (i:(backToKw b (keywordEach c env)).any (·.1.isNone)=false:=by rfl):
 wpAny M A (callWith b (.type T) [] (backTo b (starEach (e::rest) env)) (backToKw b (keywordEach c env))) Q E s:=by
 have n:wpAny M A (evalArgs (.type T) true (backTo b (starEach (e::rest) env)) (backToKw b (keywordEach c env))) (λa f=>wpAny M A (call (.type T) ([]++a.pos) a.kw) Q E f) E s:=by
  rw[m] at h ⊢;exact evalArgs_kwB d h
 unfold callWith;refine Za (wpAny_holding (Zc n (λa f q=>Za (wpAny_standAt ?_)) λ_ _ z=>z));simp only[g,i,Bool.or_false];exact Za (Zb (Za (Zc q (λr j z=>Za (wpAny_holding (wpAny_point (Zb z)))) λ_ _ z=>z)))
def OH {a:Expr}{n:TA}{p f v w:Pos}{nk}{g:Yj}{kx}{x:Pos}(z:Gl X "enumerate")(A:X.mg "enumerate" = none)(B:PA X [a] n)(C:backTo f (starEach [a] X.env)=(false,eval a X.env)::backTo f (starEach [] X.env):=by rfl)(l:(backTo f (starEach [a] X.env)).any (·.1)=false:=by rfl):
 PI X (.Tuple g kx x) (.Call (.Name "enumerate" p) [a] [⟨some "start",.Constant (.int 1) nk w,v⟩] f) (OF X.K n):=by
 intro Y s Z H R I h;refine wpAny_Call_Name_kw (VY I z A (show bootBuiltins "enumerate" = some (.type "enumerate") by kernel_rfl) ?_ (by decide) (by decide));refine OG (j5 (B f Y s Z H _ I h) λN d ⟨O,E,j,F,G⟩=>?_) C l;refine kws_cons (wpAny_Constant_int ?_);refine kws_nil ?_;obtain⟨a,e,⟨xs,J⟩,q⟩:=G;subst e;obtain⟨u,rfl,K⟩:=Q6 F;obtain rfl:u=Value.ref a:=K;obtain⟨L,P,p,Q⟩:=j.list J;refine OA (s:={ d with toks:=d.toks+1 }) p.isList ?_;have m:(d.heap.push (WU a)).objs.size=d.heap.objs.size+1:=Heap.size_push ..;have r:IsEnum (VO d.heap a) (d.heap.objs.size+1) d.heap.objs.size (((0:Nat):Int)+1) .none:=by
  have:=Zr (d.heap.push (WU a)) (o:=ZQ d.heap.objs.size) rfl;rw[m] at this;exact this
 have M:(VO d.heap a).IsListIter d.heap.objs.size a 0:=⟨_,Zq _ (Zr _ rfl),rfl,rfl⟩;refine wpAny_pyIter_enum (s:={ d with toks:=d.toks+1,heap:=VO d.heap a }) r ?_;refine⟨d.heap.objs.size+1,[d.heap.objs.size+1,d.heap.objs.size],_,_,E,rfl,j.kept (t':=d.toks+1) (h':=VO d.heap a) (λb o y=>Zq _ (Zq _ y)),OE a (d.heap.objs.size+1) d.heap.objs.size (Nat.succ_ne_self _),⟨⟨_,r⟩,M⟩,λc t=>?_,q⟩;have i:d.heap.objs.size<=c:=by
  simp only[Uj,Uk,or_false] at t;rcases t with rfl|rfl<;>first|exact Zf _|exact Nat.le_add_right _ _
 exact j.fpOk i (j.hok.fresh i)
end
end L2
namespace L2.DL
def VP (xs:Yt):Yt:=List.zipWith (λ(k:Nat) x=>D.tup [.int ((k:Int)+1),x]) (List.range xs.length) xs
def ZR:Yt->Res Yt
 | [d]=>(Res.ofO (WI d)).bind λxs=>.ok (VP xs)
 |_=>.no
def wq (a:FA):FA:=λsd=>(a sd).bind ZR
@[simp]def se (a:FA)(sd:SD):wq a sd=(a sd).bind ZR:=rfl
@[simp]def lJ (xs:Yt):ZR [.lst xs]=.ok (VP xs):=rfl
def Ff (ds:Yt)(i:Nat):(VP ds)[i]? = ds[i]?.map λx=>D.tup [.int ((i:Int)+1),x]:=by
 unfold VP;rw[List.getElem?_zipWith];by_cases h:i<ds.length
 .rw[U0 h,Zqg h];rfl
 .rw[List.getElem?_eq_none (show ds.length<=i from ())];cases (List.range ds.length)[i]?<;>rfl
def OI (ds:Yt):(VP ds).length=ds.length:=by unfold VP;rw[List.length_zipWith,ZB,Nat.min_self]
def OJ {K:W.Frag}{b:Hp}{a:Addr}{ds:Yt}{xs:Yr}(l:qC K b a xs)(e:IsDs K b ds xs):yj K b (vK K a) (VP ds):=λi q r f g=>by
 have c:=jm.seq g (jm.seq f l);have s:=e.length;rw[OI];refine⟨λd=>?_,λd=>⟨xs,c,()⟩⟩;obtain⟨x,hx,m⟩:=e.get (Zqg d);refine⟨⟨xs,x,c,hx⟩,λv t n=>?_⟩;obtain⟨T,u,rfl,o,rfl,p⟩:=n;have h:=p xs c;rw[hx] at h;obtain rfl:=Zqi h;have j:=jI g o (.tup [.int ((i:Int)+1),x]);refine⟨.tup [.int ((i:Int)+1),ds[i]],_,?_,j,jn.mpr ⟨T,_,rfl,.of J8,.mk (jc.mpr rfl) (.mk (IsD.same (f.trans j.ff) _ _ m) .nil)⟩⟩;rw[Ff,Zqg d];rfl
section
variable {X:Cx}{E:XK}{fr:FA}{p pos tp kp np:Pos}{elts:Yj}
def OK {a:Expr}{kx nk}(f:Gl X "enumerate")(g:X.mg "enumerate" = none)(i:QA X E [a] fr)(j:backTo pos (starEach [a] X.env)=(false,eval a X.env)::backTo pos (starEach [] X.env):=by rfl)(c:(backTo pos (starEach [a] X.env)).any (·.1)=false:=by rfl):
 QI X E (.Tuple elts kx tp) (.Call (.Name "enumerate" p) [a] [⟨some "start",.Constant (.int 1) nk np,kp⟩] pos) (wq fr):=PI.weak (OH f g i j c) λZ H R l=>by
 obtain⟨B,F,sd,r,n⟩:=l;refine⟨B,F,sd,r,(Res.need_bind n).mono (λds b x m o d s=>?_) λ_ _ q=>q⟩;unfold ZR at b
 split at b
 .obtain⟨xs,hx,t⟩:=ji (Res.need_bind b);obtain⟨v,rfl,h⟩:=Qx s;obtain⟨u,y,rfl,e,w⟩:=Ew hx h;exact⟨u,rfl,⟨_,jm.seq d.fh e⟩,t _ m o d (OJ e w)⟩
 .exact b.elim
end
section
variable {X:Cx}{E:XK}{a b e o:Expr}{es rest:Yj}{fa fb fe:FE}{va vb vo ve:FV}{fr:yn}{ft:zt}{pos pos' p:Pos}
def VQ (c f:Str)(sd:SD)(d:D)(q:D×HP):Wr Out3:=match q.1 with
 | .adr a=>match je q.2 a with
  |some (.ins c' fs ds)=>if c'=c/\f∉fs/\fs.length<900 then .ok (.next sd (JV q.2 a (.ins c' (fs++[f]) (ds++[d])))) else .no
  |_=>.no
 |_=>.no
def zz (c f:Str)(d g:FV):qy:=λsd h=>(g sd h).bind λp=>(d sd p.2).bind (VQ c f sd p.1)
def BL {c f:Str}{C:Addr}{fs:Yh}(k:ClsD X.K X.mg c C fs)(x:f∈fs)(y:QV X E o vo)(z:QV X E e ve)(A:swapsWith e (some (.Attribute o f pos')) pos.line X.env=pure false:=by rfl):
 VS X E (.Assign [.Attribute o f pos'] e pos) (zz c f vo ve):=PS.weak (Di y z A) λT Z H G=>by
 obtain⟨B,I,F,sd,J,t,n⟩:=G;refine⟨B,I,F,sd,J,t,jM n λp K v L M H1 N O P=>⟨B,L,M,sd,p.2,O,jM K λq d w B2 Q H2 h i j=>?_⟩⟩;unfold VQ at d
 split at d
 .rename_i a R;rw[R] at j;obtain rfl:=j9.mp j
  split at d
  .rename_i c' g ds l
   split at d
   .rename_i S;obtain⟨rfl,U,hl⟩:=S;obtain⟨C',m,xs,r,Y,s,hi⟩:=i.lies l;have u:=r;rw[k.ns] at u;cases u;have lk:(g.zip xs).map (·.1)=g:=by rw[List.map_fst_zip ()]
    refine⟨a,C,m,_,rfl,Y,k.cls,k.no f x,by rw[List.length_zip];lia,?_⟩;rw[B5 f v _ (by rw[lk];exact U)];have ez:g.zip xs++[(f,v)]=(g++[f]).zip (xs++[v]):=by rw[List.zip_append s];rfl
    rw[ez];exact d Z _ Q _ (N.trans h) (i.chg l ⟨C,m,_,r,J8,by simp[s],hi.snoc (IsD.same h _ _ P)⟩)
   .exact d.elim
  .exact d.elim
 .exact d.elim
def p3 (P:Program)(w:World)(K:W.Frag)(d:Yc)(base:Heap)(c:Str)(names:Yh)(k:Nat)(g:Yh)(i:Yt->HP->Wr (D×HP)):Prop:=
 ∃C f h,ClsD K d c C names/\Mk K C f/\FnOk P w K d base xB k f h g (wG K i)/\yP K h g []
def XH (x:Addr)(q:D×HP):Wr (D×HP):=match q.1 with
 | .non=>.ok (.adr x,q.2)
 |_=>.no
def BM (c:Str)(d:Yt->HP->Wr (D×HP))(fr:yn):FV:=λsd f=>(fr sd f).bind λp=>.new p.2 λx=>(d (.adr x::p.1) ((x,.ins c [] [])::p.2)).bind (XH x)
def OL {c:Str}{names:Yh}{k:Nat}{I:Yh}{j:Yt->HP->Wr (D×HP)}(M:p3 X.prog X.w X.K X.mg X.base c names k I j)(J:Room (k+1) X.A)(K:Gl X c)(L:vE X E0 (e::es) fr)
 (l:(c == ("__debug__" : Str))=false:=by decide) (N:starEach (e::es) X.env=(false,eval e X.env)::starEach es X.env:=by rfl) (m:(backTo pos (starEach es X.env)).any (·.1)=false:=by rfl):
 QV X E0 (.Call (.Name c p) (e::es) [] pos) (BM c j fr):=by
 obtain⟨C,f,fd,y,mk,O,b⟩:=M;refine PE.weak (Dm mk O J K y.mgc b .nil AJ L l N m) λZ H Q ⟨B,P,F,sd,R,t,n⟩=>?_;refine⟨B,P,F,sd,R,t,jM n λp S T U z A Y r i1 x g nx ju ne=>?_⟩;have s:RT X.K B U z (upd A g (.own x)) sd p.2 Z:= r.go (.refl _) (r.rs.step (.keep r.rs.ext.fh ju _));have u:upd A g (.own x) x=none:=by rw[Jx ne.symm];exact nx
 obtain⟨hn,h⟩:=s.newO (o:=.ins C g []) (d:=.ins c [] []) u ⟨C,g,[],y.ns,J8,rfl,.nil⟩;have n2:=Wr.need_bind.mp (S x hn);show wG X.K j (.ref x::(T++[])) _ _ E0;rw[ZA];refine⟨z,.adr x::p.1,_,h.rs.ext.fh,.mk (j9.mpr rfl) i1,h.lent,n2.mono (λq i v F2 H2 w G=>?_) λ_ _ q=>q.ext h.hidden⟩;unfold XH at i
 split at i
 .rename_i hq;rw[hq] at G;obtain⟨B3,t3⟩:=h.callV w;exact⟨jt.mp G,i _ B3 F2 H2 (Y.trans w.ff) t3 (j9.mpr rfl)⟩
 .exact i.elim
def wA (p:D×HP):Wr (Bool×HP):=match p.1 with
 | .bl b=>.ok (b,p.2)
 |_=>.no
def Wp (f:FV):zt:=λsd c=>(f sd c).bind wA
def Fg {K:W.Frag}{Z: St}{H:Hp}{Q:Bool->Hp->Prop}(h:uY K E (Wp va) Z H Q):tB (tF K E va) Z H Q:=by
 obtain⟨B,g,F,sd,i,t,n⟩:=h;refine⟨B,g,F,sd,i,t,jM n λp d v j l m q r f=>?_⟩;unfold wA at d
 split at d
 .rename_i c s;rw[s] at f;exact⟨c,jj.mp f,d j l m q r⟩
 .exact d.elim
def OM (d:QV X E a va)(f:∀c,isTrue a X.env c=(do let v <- c;standAt a.pos;holding [v] (truthy v)):=by intro _;rfl):vU X E a (Wp va):=PT.weak (CN d f) λ_ _ _ q=>Fg q
def ZS (f:zt):zt:=λsd c=>(f sd c).bind λp=>.ok (!p.1,p.2)
def ON (c:vU X E a ft):vU X E (.UnaryOp .Not a pos) (ZS ft):=PT.weak (CO c) λZ H Q ⟨B,d,F,sd,f,t,n⟩=>⟨B,d,F,sd,f,t,jM n λp g h i j l m=>g h i j l m⟩
def vk (fa fb:FV):FV:=λsd c=>(Wp fa sd c).bind λp=>if p.1 then fb sd p.2 else .ok (.bl false,p.2)
def OO (m:QV X E a va)(r:QV X E (.BoolOp .And (b::rest) pos) vb):QV X E (.BoolOp .And (a::b::rest) pos) (vk va vb):=PE.weak (CQ m r) λZ H Q s=>by
 obtain⟨B,u,F,sd,w,t,n⟩:=s;refine Fg (K:=X.K) (E:=E) (Q:=λc f=>if c=true then tF X.K E vb Z f Q else Q (.bl false) f) ⟨B,u,F,sd,w,t,jM n λp g h i f j l=>?_⟩;obtain⟨c,d⟩:=p;cases c with
 |true=>exact⟨B,h,i,sd,d,l,(show(vb sd d).need _ _ from g).mono (λq z v x y A C G I=>z v x y A (j.trans C) G I) λ_ _ z=>z⟩
 |false=>exact(show px X.K B F sd Z Q (.bl false,d) from g) _ h i f j l (jj.mpr rfl)
def OP {op}(h:QV X E a va):QV X E (.BoolOp op [a] pos) va:=CP h
@[simp]def bC (f:FV)(sd:SD)(c:HP):Wp f sd c=(f sd c).bind wA:=rfl
@[simp]def sL (b:Bool)(c:HP):wA (.bl b,c)=.ok (b,c):=rfl
@[simp]def bD (f:zt)(sd:SD)(c:HP):ZS f sd c=(f sd c).bind λp=>.ok (!p.1,p.2):=rfl
@[simp]def r0 (fa fb:FV)(sd:SD)(c:HP):vk fa fb sd c=(Wp fa sd c).bind λp=>if p.1 then fb sd p.2 else .ok (.bl false,p.2):=rfl
@[simp]def rm (c f:Str)(d g:FV)(sd:SD)(h:HP):zz c f d g sd h=(g sd h).bind λp=>(d sd p.2).bind (VQ c f sd p.1):=rfl
@[simp]def bE (c:Str)(d:Yt->HP->Wr (D×HP))(fr:yn)(sd:SD)(f:HP):BM c d fr sd f=(fr sd f).bind λp=>.new p.2 λx=>(d (.adr x::p.1) ((x,.ins c [] [])::p.2)).bind (XH x):=rfl
@[simp]def OQ (x:Addr)(c:HP):XH x (.non,c)=.ok (.adr x,c):=rfl
@[simp]def rz (c f:Str)(d:FV)(sd:SD)(g:HP):wa c f d sd g=(d sd g).bind (X9 c f):=rfl
def Fh {c f:Str}{a:Addr}{g:HP}{d z:D}(h:je g a=some d)(i:j0 c f d=some z):X9 c f (.adr a,g)=.ok (z,g):=by
 unfold X9;simp only[h,i];rfl
def BN {c f:Str}{sd:SD}{d:D}{a:Addr}{g:HP}{fs:Yh}{ds:Yt}(h:je g a=some (.ins c fs ds))(i:f∉fs)(j:fs.length<900):VQ c f sd d (.adr a,g)=.ok (.next sd (JV g a (.ins c (fs++[f]) (ds++[d])))):=by
 unfold VQ;simp[h,i,j]
end
end L2.DL
namespace L2
section
variable {X:Cx}
def Fi:V->Yr->Hp->VK->Prop:=λx c H Q=>∃a b k v,x=.ref a/\c=[kV k,v]/\H a=some (.dK b)/\b.length<sizeLine/\(∀w,jX b k=some w->Q w H)/\(jX b k=none->Q v (upd H a (.dK (xb b k v))))
def OR:p0 X "dict.setdefault" Fi:=by
 intro Y s Z H x B v C Q I l m h;obtain⟨a,b,k,y,rfl,rfl,g,E,n,o⟩:=h;obtain rfl:v=Value.ref a:=l;obtain⟨F,u2,rfl,p,i⟩:=m.two;obtain⟨z,j,ws,c,dd⟩:=YI I.hok g;refine call_meetsIn PySem.F.slot_dict_setdefault dd.typeIs PySem.F.entry_dict_setdefault (PySem.F.args_dict_setdefault_3 _ _ _) (kt_meets_setdefault (Qj X.prog X.w) a (V1 p) j u2) ⟨ws,dd,by rw[<- c.length];exact z,λw hw=>?_,λr h' d t=>?_⟩
 .have:=c.val k;rw[hw] at this;cases e:jX b k with
  |none=>rw[e] at this;exact this.elim
  |some f =>
   rw[e] at this;exact⟨f,H,I.tok _,this,n f e⟩
 .have:=c.val k;rw[r] at this;have e:jX b k=none:=by
   cases e:jX b k with
   |none=>rfl
   |some f=>rw[e] at this;exact this.elim
  have u:∃q,h'.get? a=some q:=let ⟨q,_,_,hq,_⟩:=d;⟨q,hq⟩
  have A:(xb b k y).length<=sizeLine:=by have:=AH b k y;lia
  exact⟨y,_,AI I (by rw[g];exact True.intro) t u (D1 A j (c.put k i) d),i,o e⟩
end
end L2
namespace L2.DL
def ZT (j:Nat)(sd:SD)(ks:List jx)(ds:Yt)(v:D):Option jx->Res Out
 |some q=>if ks.length<sizeLine then match jF ks ds q with
  |some _=>.ok (.next sd)
  |none=>.ok (.next (sd.set j (some (.own false (.dct (V6 ks q) (Wj ks ds q v)))))) else .no
 |none=>.no
def XJ (j:Nat)(a b:FE):FS:=λsd=>match sd[j]? with
 |some (some (.own false (.dct ks ds)))=>(a sd).bind λk=>(b sd).bind λv=>ZT j sd ks ds v (JX k)
 |_=>.no
section
variable {X:Cx}{E:XK}{m:Option Bool}{o e1 e2:Expr}{fk fv:FE}{pos:Pos}
def OS {j:Nat}{b e:Pos}(P:PE X o (xS j))(Q:QE X E e1 fk)(R:QE X E e2 fv)
 (S:∀{G:TE} {t:TA},PE X o G->PA X [e1,e2] t->PE X (.Call (.Attribute o "setdefault" b) [e1,e2] [] e) (vP X.K "dict" Fi G t))
 (U:swapsWith (.Call (.Attribute o "setdefault" b) [e1,e2] [] e) none pos.line X.env=pure false:=by rfl)
 (A:starEach [e1,e2] X.env=(false,eval e1 X.env)::starEach [e2] X.env:=by rfl) (i:starEach [e2] X.env=(false,eval e2 X.env)::starEach [] X.env:=by rfl):
 QS X E m (.Expr (.Call (.Attribute o "setdefault" b) [e1,e2] [] e) pos) (XJ j fk fv):=PS.weak (YE (S P (Js Q (Js R Ju i) A)) U) λT Z H Y=>by
 obtain⟨B,F,sd,r,n⟩:=Y;unfold XJ at n
 split at n
 .rename_i ks ds I;obtain⟨l,J,g2,g3,⟨xs,L,M,g6⟩,_⟩:=r.own I;refine⟨.ref l,J,.inr (.inr (.inl ⟨rfl,.inl ⟨_,L⟩⟩)),B,F,sd,r,?_⟩;have n':(Jr fk (Jr fv jd) sd).need (λz=>∀k v,z=[k,v]->(ZT j sd ks ds v (JX k)).need (zl X.K m B F T) (XW X.K E B.F0 B.H0)) (XW X.K E B.F0 B.H0):=by
   show((fk sd).bind λx=>((fv sd).bind λy=>(Res.ok []).bind λp=>.ok (y::p)).bind λxs=>.ok (x::xs)).need _ _;cases g:fk sd with
   |ok k =>
    rw[g] at n;cases h:fv sd with
    |ok v =>
     rw[h] at n;intro k' v' N;cases N;exact n
    |ex c fs=>rw[h] at n;exact n
    |no=>rw[h] at n;exact n.elim
   |ex c fs=>rw[g] at n;exact n
   |no=>rw[g] at n;exact n.elim
  refine n'.monoE (λz a n1 vs C H1 e1 i1=>?_) λ_ _ q=>q.ext r.ext;obtain⟨k,v,rfl⟩:∃k v,z=[k,v]:=by
   have a:((fk sd).bind λx=>((fv sd).bind λy=>(Res.ok []).bind λp=>.ok (y::p)).bind λxs=>.ok (x::xs))=.ok z:=a;cases g:fk sd with
   |ok k =>
    rw[g] at a;cases h:fv sd with
    |ok v=>rw[h] at a;cases a;exact⟨k,v,rfl⟩
    |ex c fs=>rw[h] at a;cases a
    |no=>rw[h] at a;cases a
   |ex c fs=>rw[g] at a;cases a
   |no=>rw[g] at a;cases a
  have f:=n1 k v rfl;obtain⟨v1,v2,rfl,j1,j2⟩:=Wk i1;unfold ZT at f
  split at f
  .rename_i q hq
   split at f
   .rename_i N;have O:=r.step e1;have hH:=e1.hh _ _ L;have s:=IsDs.same e1.ff _ _ g6;obtain⟨w1,w2⟩:=Xt (K:=X.K) (H:=C) q M s;refine⟨l,_,q,v2,rfl,by rw[WG hq j1],hH,by rw[List.length_zip];lia,λw hw=>?_,λhw=>?_⟩
    .cases u:jF ks ds q with
     |none=>rw[w2 u] at hw;exact Jv hw
     |some d =>
      rw[u] at f;exact f Z C H1 e1.ff O
    .cases u:jF ks ds q with
     |some d =>
      obtain⟨x,hx,_⟩:=w1 d u;rw[hw] at hx;exact Jv hx
     |none =>
      rw[u] at f;obtain⟨p,y1,y2,y3⟩:=DN (K:=X.K) (q:=q) M s j2;exact f Z C _ e1.ff (O.chg I J ⟨p,by rw[J8,y1],y2,y3⟩)
   .exact f.elim
  .exact f.elim
 .exact n.elim
def Vt:Yt->Yu
 | [.str x]=>if x.length<=640 then(intText? x).map .int else none
 |_=>none
def OT:qc X (.type "int") (yU X.K Vt):=by
 intro Y s Z H xs ws Q I r ⟨F,ds,z,b,id,a,q⟩;unfold Vt at a
 split at a
 .rename_i x
  split at a
  .rename_i c;obtain⟨n,d,rfl⟩:=Jg.mp a;obtain⟨v,rfl,e⟩:=Qx id;obtain rfl:=IsD.str_iff.mp e;obtain⟨u,rfl,f⟩:=Q6 r;obtain⟨t,rfl⟩:=f;exact W.KIN.call_text d c ⟨.int n,H,I.tok _,⟨_,rfl⟩,q _ F H (.refl b) (jc.mpr rfl)⟩
  .exact Jv a
 .exact Jv a
end
def yH:D->D->Yu
 | .lst ds,.lst []=>some (.bl (!ds.isEmpty))
 |_,_=>none
@[simp]def fE (ds:Yt):yH (.lst ds) (.lst [])=some (.bl (!ds.isEmpty)):=rfl
section
variable {X:Cx}
def gO (P:X.A.units+64<cLine):xK X (compareOp .NotEq) yH:=by
 intro Y s Z H x y v u Q I t w ⟨F,d,e,z,h,id,A,i,q⟩;unfold yH at i
 split at i
 .rename_i ds;obtain rfl:=Zqi i;obtain⟨p,xs,rfl,B,C⟩:=jp.mp id;obtain⟨E,G,rfl,hp',m⟩:=jp.mp A;obtain rfl:v=Value.ref p:=t;obtain rfl:u=Value.ref E:=w;obtain⟨b,J,r,R⟩:=I.list (B.same h).sq;obtain⟨f,n,g,K⟩:=I.list (hp'.same h).sq;have L:=C.length;have M:=m.length;have S:=J.length;have T:=n.length;rw[ZC] at M;have N:f.toArray.size=0:=by rw[Zm];lia
  by_cases c:ds=[]
  .subst c;rw[ZC] at L;have o:b.toArray.size=0:=by rw[Zm];lia
   exact PySem.SeqAt.RcNeAt.lists (e:=λ_=>true) r.isList g.isList () () (λj U _=>()) X.prog X.w _ _ (by rw[o];exact⟨.bl _,H,I,rfl,q _ F H (.refl h) (yx _ F)⟩)
  .have n0:ds.length≠0:=λz=>c (List.length_eq_zero_iff.mp z);have o:b.toArray.size≠0:=by rw[Zm];lia
   have O:(!ds.isEmpty)=true:=by cases ds with
    |nil=>exact Zn rfl c
    |cons a l=>rfl
   rw[O] at q;exact PySem.SeqAt.RcNeAt.lists_lengths r.isList g.isList (by rw[N];simpa using o) () X.prog X.w _ _ ⟨.bl _,H,I,rfl,q _ F H (.refl h) (yx _ F)⟩
 .exact Jv i
end
section
variable {X:Cx}{E:XK}{m:Option Bool}{a e o:Expr}{st:Stmt}{g1:qy}{ve vo:FV}{pos p:Pos}
def dw (p:D×HP):Option Yt:=match p.1 with
 | .lst es=>some es
 | .tup es=>some es
 | .adr a=>match je p.2 a with
  |some (.lst es)=>some es
  |_=>none
 |_=>none
def BO (p:D×HP):Wr (D×HP):=match dw p with
 |some b=>.new p.2 λa=>.ok (.adr a,(a,.lst b)::p.2)
 |none=>.no
def uD (f:FV):FV:=λsd b=>(f sd b).bind BO
def Fj (sd:SD)(p:D×HP):Wr Out3:=match p.1 with
 | .adr a=>match je p.2 a with
  |some (.lst _)=>.ok (.next sd (JV p.2 a (.lst [])))
  |_=>.no
 |_=>.no
def sV (b:FV):qy:=λsd c=>(b sd c).bind (Fj sd)
def vx (tg:Tg)(f:FV)(c:SD):Yt->HP->Wr (Yt×HP)
 | [],hp=>.ok ([],hp)
 |x::xs,hp=>(Wr.of (JD tg x c)).bind λs=>(f s hp).bind λp=>if(hp.all λz=>(je p.2 z.1).isSome)=true then(vx tg f c xs p.2).bind λq=>.ok (p.1::q.1,q.2) else .no
def gV (q:Yt×HP):Wr (D×HP):=.new q.2 λa=>.ok (.adr a,(a,.lst q.1)::q.2)
def uE (cap:List (Option Nat))(it:FA)(tg:Tg)(f:FV):FV:=λsd b=>(Wr.of (it sd)).bind λds=>if Kp (jL cap sd) tg=true/\ds.length<sizeLine then(vx tg f (jL cap sd) ds b).bind gV else .no
@[simp]def bF (f:FV)(sd:SD)(b:HP):uD f sd b=(f sd b).bind BO:=rfl
@[simp]def ak (c:Yt)(b:HP):BO (.lst c,b)=.new b λa=>.ok (.adr a,(a,.lst c)::b):=rfl
@[simp]def ro (f:FV)(sd:SD)(b:HP):sV f sd b=(f sd b).bind (Fj sd):=rfl
@[simp]def bH (cap:List (Option Nat))(it:FA)(tg:Tg)(f:FV)(sd:SD)(b:HP):uE cap it tg f sd b=(Wr.of (it sd)).bind λds=>if Kp (jL cap sd) tg=true/\ds.length<sizeLine then(vx tg f (jL cap sd) ds b).bind gV else .no:=rfl
end
def mu (is:Yg)(f:FE):FE:=λsd=>(f (qa is sd)).bare.bind λd=>if Ve 8 d then .ok d else .no
@[simp]def rE (is:Yg)(f:FE)(sd:SD):mu is f sd=(f (qa is sd)).bare.bind λd=>if Ve 8 d then .ok d else .no:=rfl
end L2.DL
namespace L2
end L2
namespace L2.DL
def mv (a b:Yt->Res D)(c e:FA):FE:=λsd=>(c sd).strict.bind λds=>(b ds).bind λd=>(e sd).strict.bind λrs=>a (.lst [d]::rs)
@[simp]def rT (a b:Yt->Res D)(c e:FA)(sd:SD):mv a b c e sd=(c sd).strict.bind λds=>(b ds).bind λd=>(e sd).strict.bind λrs=>a (.lst [d]::rs):=rfl
end L2.DL
namespace L2
end L2
namespace L2.DL
def c4 (f:FE):FE:=λsd=>(f sd).strict
@[simp]def dR (f:FE)(sd:SD):c4 f sd=(f sd).strict:=rfl
section
variable {X:Cx}{m:Option Bool}{name:Str}{k:Nat}{ps:Yh}{Fn:Yt->Res D}{p pos:Pos}{e:Expr}{es:Yj}{fe:FE}{fr:FA}
def ZU (c:Str)(a:FS)(sd:SD)(g:D->Res Out):Res D->Res Out
 | .ok d=>g d
 | .ex c' [] => @ite _ (c'=c) (Classical.propDecidable _) (a sd).strict .no
 |_=>.no
@[simp]def uL (c:Str)(a:FS)(sd:SD)(g:D->Res Out)(d:D):ZU c a sd g (.ok d)=g d:=rfl
@[simp]def uM (c:Str)(a:FS)(sd:SD)(g:D->Res Out):ZU c a sd g (.ex c [])=(a sd).strict:=@if_pos _ (Classical.propDecidable _) rfl _ _ _
def kq (c:Str)(a:FS)(i:Nat)(f:FE)(g:FS):FS:=λsd=>ZU c a sd (λd=>g (sd.set i (~~~d))) (f sd)
@[simp]def rA (c:Str)(a:FS)(i:Nat)(f:FE)(g:FS)(sd:SD):kq c a i f g sd=ZU c a sd (λd=>g (sd.set i (~~~d))) (f sd):=rfl
variable {E':XK}{c:Str}{C:Addr}{g gs:FS}
abbrev zX:=SD->Res (Bool×SD)
variable {E:XK}{a b:Expr}{f:FX}{ft gt:zX}{fc:FT}
def uv (f:FX):zX:=λsd=>(f sd).bind λp=>match p.1 with
 | .bl b=>.ok (b,p.2)
 |_=>.no
def uw (f:zX):zX:=λsd=>(f sd).bind λp=>.ok (!p.1,p.2)
def ux (fc:FT)(ft:zX):zX:=λsd=>(fc sd).bind λb=>if b then ft sd else .ok (false,sd)
def tM (fc:zX)(d h:FS):FS:=λsd=>(fc sd).bind λp=>if p.1 then d p.2 else h p.2
@[simp]def b9 (f:FX)(sd:SD):uv f sd=(f sd).bind λp=>match p.1 with
 | .bl b=>.ok (b,p.2)
 |_=>.no:=rfl
@[simp]def bA (f:zX)(sd:SD):uw f sd=(f sd).bind λp=>.ok (!p.1,p.2):=rfl
@[simp]def bB (fc:FT)(ft:zX)(sd:SD):ux fc ft sd=(fc sd).bind λb=>if b then ft sd else .ok (false,sd):=rfl
@[simp]def cj (fc:zX)(d h:FS)(sd:SD):tM fc d h sd=(fc sd).bind λp=>if p.1 then d p.2 else h p.2:=rfl
end
end L2.DL
namespace L2
end L2
namespace L2.DL
section
variable {X:Cx}{m:Option Bool}
def ZV (c b:Str)(d a:FS)(sd:SD):Res Out->Res Out
 | .ok o=>.ok o
 | .ex x [] => @ite _ (x=c) (Classical.propDecidable _) (d sd).strict (@ite _ (x=b) (Classical.propDecidable _) (a sd).strict .no)
 |_=>.no
@[simp]def lT (c b:Str)(d a:FS)(sd:SD)(o:Out):ZV c b d a sd (.ok o)=.ok o:=rfl
@[simp]def ls (c d:Str)(b a:FS)(sd:SD):ZV c d b a sd (.ex c [])=(b sd).strict:=@if_pos _ (Classical.propDecidable _) rfl _ _ _
def OU (c b:Str)(g d a:FS):FS:=λsd=>ZV c b d a sd (g sd)
@[simp]def bJ (c b:Str)(g d a:FS)(sd:SD):OU c b g d a sd=ZV c b d a sd (g sd):=rfl
end
end L2.DL
namespace L2
abbrev zU:Yd:=[.type "ValueError",.type "Exception",.type "BaseException",.type "object"]
abbrev xC (C t:Addr)(od:Option Addr):Obj:={ cls:=.ref C,dict:=od,data:=.fields #[.ref t,.none,.none,.none,.bool false,.none] }
def XO (C x t:Addr)(a:Option Addr):HO:=.ext λh=>h.get? x=some (xC C t a)
def XO.ok {P:Program}{w:World}{H:Hp}{h:Heap}{C x t:Addr}{a:Option Addr}(e:h.get? x=some (xC C t a)):xn P w H h x (XO C x t a):=⟨e,⟨_,e⟩,λ_ _ q k=>k _ q⟩
structure ExcI (K:W.Frag)(mg:Yc)(c:Str)(C fI:Addr)(f:Str):Prop where
 ns:W.nsIn K mainGlobals c=some (some (.ref C))
 mgc:mg c=some (.ref C)
 ob:∃A dd cd k0 k1 k2 k3 k5,K.lookup C=some ⟨.type "type",dd,.cls cd,#[k0,k1,k2,k3,some (.builtin "ValueError.__new__"),k5]⟩/\cd.mro=.ref C :: .ref A::zU/\cd.hasDel=false/\cd.hasDict=true/\W.excIn K A zU "ValueError.__new__" = true
 init:W.findIn K (.ref C) "__init__" = some (some (.ref fI))
 fn:W.isFn K (.ref fI)=true
 no:zv K C f
 sa:W.findIn K (.ref C) "__setattr__" = some (some (.builtin "object.__setattr__"))
def BP (K:W.Frag)(c a f:Str)(st:Stmt)(C b:Addr):Prop:=(∀{h:Heap} {d:Yc},K.In h->h.Ns mainGlobals d->ExcI K d c C b f)/\∃e,Fun K "__init__" a st b e
def excI_mk {K:W.Frag}{c a f:Str}{st:Stmt}{C b A:Addr}{dd:Option Addr}{cd:ClassData}{k0 k1 k2 k3 k5:Ye}{g:FuncData}(ns:W.nsIn K mainGlobals c=some (some (.ref C)))(l:K.lookup C=some ⟨.type "type",dd,.cls cd,#[k0,k1,k2,k3,some (.builtin "ValueError.__new__"),k5]⟩)
 (m:cd.mro=.ref C :: .ref A::zU) (d:cd.hasDel=false) (h:cd.hasDict=true) (e:W.excIn K A zU "ValueError.__new__" = true) (i:W.findIn K (.ref C) "__init__" = some (some (.ref b))) (n:W.isFn K (.ref b)=true) (o:zv K C f) (s:W.findIn K (.ref C) "__setattr__" = some (some (.builtin "object.__setattr__"))) (F:Fun K "__init__" a st b g):BP K c a f st C b:=
 ⟨λX G=>⟨ns,W.mg_of X G ns,⟨A,dd,cd,k0,k1,k2,k3,k5,l,m,d,h,e⟩,i,n,o,s⟩,g,F⟩
def ExcI.obj {K:W.Frag}{y:Yc}{c f:Str}{C z:Addr}{h:Heap}{P:Prop}(x:ExcI K y c C z f)(s:K.In h)
 (k:∀bm N nm g bs sn sub ab col dd k0 k1 k2 k3 k5 cd,h.get? C=some (excClassObj nm g C N bs bm true sn sub ab col dd k0 k1 k2 k3 k5 "ValueError.__new__")->W.clsIn K C=some cd->cd.mro=.ref C::bm->cd.hasDict=true->OwnTail h zU bm->(∀a,refuseLoop a "__setattr__" cd.mro=pure Ym)->P):P:=by
 obtain⟨A,dd,cd,k0,k1,k2,k3,k5,t,i,b,u,B⟩:=x.ob;refine Bw s B λbm N nm g bs hdct sn sub ab col E M O Q R S U j F l T=>?_;have G:OwnTail h zU (.ref A::zU):=.own (cd:=⟨nm,bs,.ref A::bm,N,g,hdct,sn,sub,ab,col,false⟩) j F l .base;have H:=s _ _ t;have I:W.clsIn K C=some cd:=by unfold W.clsIn;rw[t]
 have J:∀a,refuseLoop a "__setattr__" cd.mro=pure Ym:=λa=>by rw[i,refuseLoop_ref,refuseLoop_ref];exact PySem.F.store_ValueError.passes a
 obtain⟨m,n,v,o,p,L,q,d,r,e,w⟩:=cd;dsimp only at i b u;subst i b u;exact k (.ref A::zU) o m p n q d r e dd k0 k1 k2 k3 k5 _ H I rfl rfl G J
section
variable {X:Cx}{Y:Yb}{Z: St}{H:Hp}{s:Shared}{A:Around}{E:Ya}
def OV {P:Program}{w:World}{H:Hp}{h:Heap}{d:Addr}{n:Int}{a:Yc}{u:Value}(g:h.Ns1 d a)(e:a "row" = some u)(r:jq (.int n) u):xn P w H h d (DL.RowO d n):=by
 have b:=g;obtain⟨i,j,l,f,c⟩:=g;exact⟨⟨a,u,b,e,r⟩,⟨_,f⟩,λm o ⟨a,u,⟨i,j,l,f,c⟩,r⟩ k=>⟨a,u,⟨i,j,l,k _ f,c⟩,r⟩⟩
def OW {c:Str}{C fI a t:Addr}{u:Value}{n:Int}{Q:Unit->Yq}(I:Inv X Y Z H s)(e:H a=some (XO C a t none))(x:ExcI X.K X.mg c C fI "row")(ru:jq (.int n) u)
 (h:∀d s',H d=none->Inv X Y Z (upd (upd H a (XO C a t (some d))) d (DL.RowO d n)) s'->Q Ym s'):wpAny (model X.prog X.w) A (setAttr (.ref a) "row" u) Q E s:=by
 have ha:s.heap.get? a=some (xC C t none):=(I.hok a _ e).1;have J:W.InstAt s.heap a (xC C t none) C none:=⟨ha,rfl,rfl,True.intro⟩;refine x.obj I.kIn λbm N nm qn bs sn sub ab col dd k0 k1 k2 k3 k5 cd hC G w hd T rf=>?_;refine W.set_plain I.kIn J x.sa ?_;have i:=PySem.F.store_object;obtain⟨s',hs'⟩:∃s':Shared,s'={ s with toks:=s.toks+1 }:=⟨_,rfl⟩;have B:X.K.In s'.heap:=by rw[hs'];exact I.kIn
 have F:W.InstAt s'.heap a (xC C t none) C none:=by rw[hs'];exact J
 have ne:cd.mro.isEmpty=false:=by rw[w];rfl
 have sb:W.Looks (model X.prog X.w) s'.heap (isInstance (.ref a) (.type "object")) true:=F.type.andThen (W.looks_mroIn B (by
  unfold W.mroIn;rw[G,Option.bind_some,Ze (by rw[ne];decide),w,List.contains_cons,T.hasType (X:= "object") (b:=true) (by decide),UI]))
 have K:W.Looks (model X.prog X.w) s'.heap (mroOf (.ref C)) cd.mro:=(W.looks_clsIn B G).andThen .now;rw[<- hs'];refine codeAny_call_builtin i.slot.plain i.entry (@W.check_slot (model X.prog X.w) _ _ s' "object.__setattr__" "object" "__setattr__" (.ref a) [.str "row" s.toks,u] [] _ i.kind i.split sb (i.args (.ref a) (.str "row" s.toks) u) ?_);rw[W.osa_eq,refuse_eq];refine Za (Za (F.type.here (Za (K.here ?_))));rw[rf];refine Zb (Za (F.type.here (Za ((W.looks_findIn B x.no).here (Za (W.Looks.now.here ?_))))));have f:s'.heap.get? a=some (xC C t none):=F.at_;refine Za (Zb (Za (Za (wpAny_loadPart f (Za ((W.looks_clsIn B G).here ?_))))));rw[hd];have hx₁:(s'.heap.push { cls:=.type "dict",data:=.dict #[] }).get? a=some (xC C t none):=Zq _ f;have g:a≠s'.heap.objs.size:=Zi (Zk f);refine Za (wpAny_alloc' ?_);refine Za (wpAny_update' hx₁ ?_);refine Zb (Za (Zb (Za ?_)));have L:((s'.heap.push { cls:=.type "dict",data:=.dict #[] }).update a λo=>{ o with dict:=some s'.heap.objs.size }).get? s'.heap.objs.size=some { cls:=.type "dict",data:=.dict #[] } :=
  (Heap.get?_update_ne _ _ _ _ g.symm).trans (Heap.get?_push_at rfl rfl)
 have M:((s'.heap.push { cls:=.type "dict",data:=.dict #[] }).update a λo=>{ o with dict:=some s'.heap.objs.size }).Ns s'.heap.objs.size (λ_=>none):=
  ⟨_,#[],_,L,rfl,λe he=>Zn he (),λ_=>rfl⟩
 refine wpAny_nsSet1 (Heap.Ns1.of_empty M) λh' j S=>?_;obtain⟨oD,esD,epD,O,P,R⟩:=j.count (Within.cons "row" u Within.nil);refine Za (wpAny_lookBehind O (by rw[P];exact pastItsLine_dict (Zh R (by rw[Zu,ZC,sizeLine_eq];lia))) ?_);have l:h'.get? a=some (xC C t (some s'.heap.objs.size)):=(S.2 a g).trans (Heap.get?_update_self _ hx₁ rfl);have r:H s'.heap.objs.size=none:=by subst hs';exact I.hok.fresh (Zf _)
 refine Zb (h s'.heap.objs.size _ r ?_);subst hs';have lt:∀{b:Addr} {o:Obj},s.heap.get? b=some o->b≠s.heap.objs.size:=λq=>Zi (Zk q);refine Inv.track (φ:= λh=>∃U u,h.Ns1 s.heap.objs.size U/\U "row" = some u/\jq (.int n) u) (I.write (x:=a) (e:=a) (by rw[e];exact True.intro) (.inl rfl) (λb q hb z=>(S.2 b (Zi (Zk z))).trans ((Heap.get?_update_ne _ _ _ _ hb).trans (Zq _ z))) ⟨_,l⟩ (XO.ok l)) ((Jx g.symm).trans r) (Heap.get?_none_of_le I.sz) (λz=>?_) (λy c q z=>?_) (λp hp z=>lt (I.pin p hp).1 z) (OV j (Zd rfl) ru)
 .obtain⟨m,⟨_,_,_,w,_⟩,_⟩:=id I.loc;exact lt w z.symm
 .obtain⟨v,o,ho,_⟩:=I.cell y c q;exact lt ho z
end
def Fk (C:Addr)(c e:TE):TS:=λD Z H=>e Z H λy f=>c Z f λx b=>∃a t n,y=.int n/\x=.ref a/\b a=some (XO C a t none)/\∀d,b d=none->D.nx Z (upd (upd b a (XO C a t (some d))) d (DL.RowO d n))
def Fl {X:Cx}{o b:Expr}{c:Str}{C j:Addr}{f e:Pos}{g i:TE}(x:ExcI X.K X.mg c C j "row")(l:PE X o g)(m:PE X b i)(p:swapsWith b (some (.Attribute o "row" e)) f.line X.env=pure false):PS X (.Assign [.Attribute o "row" e] b f) (Fk C g i):=by
 intro Y s Z H D I h;refine plainObj_wpAny_Assign_Attribute (j5 (m Y s Z H _ I h) λu r ⟨y,v,w,A,q⟩=>j5 (l Y r Z v _ w q) λB O ⟨z,P,E,F,a,t,n,G,J,K,L⟩=>?_) p;subst J G;obtain rfl:B=Value.ref a:=F;exact OW E K x A λd Q M N=>⟨Z,_,N,L d M⟩
def wF (C:Addr):Sp:=λa H Q _=>∃x n t,a=[.ref x,.int n]/\H x=some (XO C x t none)/\∀d,H d=none->Q .non (upd (upd H x (XO C x t (some d))) d (DL.RowO d n))
def Fm {P:Program}{w:World}{K:W.Frag}{h:Yc}{base:Heap}{x d:Str}{st:Stmt}{g:Addr}{i:FuncData}{a b:Str}{C:Addr}(F:Fun K x d st g i)(S:FnScope [a,b] [a,b] (JN st))
 (j:∀(f:Value) (A:Around) (c:List Env) (s:Shared) (H:Hp) (E:XK),qY (jP xB P w K h base [a,b] d (JN st) g f A c s H E).nox (Q8 st) (Fk C (xS 0) (xS 1))):
 FnOk P w K h base xB 1 g i [a,b] (wF C):=by
 refine F.ok S (λl H Q E ⟨x,u,t,e,_⟩=>by rw[e];rfl) λf A c s H l Q E m ⟨x,u,t,e,hx,q⟩=>⟨_,j f A c s H E,?_⟩;subst e;exact⟨.int u,rfl,.ref x,rfl,x,t,u,rfl,rfl,hx,q⟩
section
variable {prog:Program}{w:World}{A:Around}{E:Ya}{h:Heap}{g:Array GenState}{d:Drawn}{t:Nat}{os:OsState}{K:W.Frag}
variable {nm q:Str}{C N fI:Addr}{bs bm:Yd}{hdct:Bool}{sn:Yh}{sub:Yd}{ab:Bool}{col:Option Bool}{dd:Option Addr}{k0 k1 k2 k3 k5:Ye}
def OX (X:K.In h)(l:W.findIn K (.ref C) "__init__" = some (some (.ref fI)))(m:W.isFn K (.ref fI)=true)(T:OwnTail h zU bm){rest:Yd}{Q:Fin->Yq}
 (c:h.get? C=some (excClassObj nm q C N bs bm hdct sn sub ab col dd k0 k1 k2 k3 k5 "ValueError.__new__"))
 (n:∀h' e,h.objs.size<=e->Heap.MadeExcOf h h' e (.ref C) rest->Yw prog w A (call (.ref fI) (.ref e::rest)) (λr s'=>r=.none/\Q (.done (.ret (.ref e))) s') E ⟨h',g,d,t,os⟩) (hrest:rest.length<=sizeLine):
 Yw prog w A (Builtin.«type.__call__» ⟨.ref C::rest,[]⟩) Q E ⟨h,g,d,t,os⟩:=by
 have f:=PySem.F.excBase_ValueError;show wpAny _ _ _ _ _ _
 repeat (first|with_reducible refine wpAny_loadPart_at c ?_|with_reducible refine wpAny_madeBy_exc c ?_|wp_step)
 refine codeAny_call_builtin_code (Code.quiet_builtin _ f.quiet) (wpAny_check_new_subU f (by decide +kernel) T c ?_);refine codeAny_exc_new_subU f (by decide +kernel) f T c ?_ hrest;show wpAny _ _ _ _ _ _;have i:∀b o,h.get? b=some o->((h.push { cls:=.type "tuple",data:=.seq rest.toArray }).push { cls:=.ref C,data:=.fields #[.ref h.objs.size,.none,.none,.none,.bool false,.none] }).get? b=some o:=λb o e=>Zq _ (Zq _ e);have hC₁:=i _ _ c;have X₁:=X.keeps i;have a:((h.push { cls:=.type "tuple",data:=.seq rest.toArray }).push
  { cls:=.ref C,data:=.fields #[.ref h.objs.size,.none,.none,.none,.bool false,.none] }).get? (h.objs.size+1)=some
  { cls:=.ref C,data:=.fields #[.ref h.objs.size,.none,.none,.none,.bool false,.none] }:=by heap_get
 have j:(Value.ref C::bm).contains (.ref C)=true:=by simp
 unfold isInstance
 repeat (first|with_reducible refine wpAny_loadPart_at a ?_|(with_reducible refine wpAny_isSubtype_exc hC₁ ?_;rw[j])|wp_step)
 show wpAny _ _ (typeLookup (.ref C) _) _ _ _;refine(W.looks_findIn X₁ l).at ?_;refine wpAny_holding (Za ((W.bind_fn X₁ _ (Yl.mp m)).at ?_));refine Za (Zc (n _ (h.objs.size+1) (UE _) ⟨i,Heap.get?_none_of_le (UE _),h.objs.size,a,Heap.get?_none_of_le (Zf _),?_⟩) (λr s' p=>?_) λ_ _ x=>x)
 .exact Zq _ (Heap.get?_push_at rfl rfl)
 .obtain⟨rfl,s⟩:=p
  wp_walk
  exact s
def OY (X:K.In h)(b:W.findIn K (.ref C) "__init__" = some (some (.ref fI)))(c:W.isFn K (.ref fI)=true)(T:OwnTail h zU bm){rest:Yd}{Q:Ya}
 (a:h.get? C=some (excClassObj nm q C N bs bm hdct sn sub ab col dd k0 k1 k2 k3 k5 "ValueError.__new__"))
 (f:∀h' e,h.objs.size<=e->Heap.MadeExcOf h h' e (.ref C) rest->wpAny (model prog w) (A.under (.builtin "type.__call__" ⟨.ref C::rest,[]⟩)) (call (.ref fI) (.ref e::rest)) (λr s'=>r=.none/\Q (.ref e) s') E ⟨h',g,d,t,os⟩) (hrest:rest.length<=sizeLine):
 Yw prog w A (call (.ref C) rest) Q E ⟨h,g,d,t,os⟩:=by
 have l:=tc_lookup;have m:=tc_bind (.ref C);have n:(⟨h,g,d,t,os⟩:Shared).TypeIs (.ref C) "type" := ⟨_,a,rfl⟩;refine wpAny_call (codeAny_of_tree ?_);show wpAny _ _ (callAny (.ref C) _) _ _ _
 repeat (any_goals (first|assumption|with_reducible refine wpAny_loadPart_at a ?_|wp_step))
 refine⟨rfl,?_⟩;exact codeAny_call_builtin_at (Code.quiet_builtin _ (by decide +kernel)) entry_typeCall (wpAny_check_type_call_sub a (OX (hrest:=hrest) X b c T a λh' e i j=>f h' e i j))
def Fo {s:Shared}{env:Env}{x:Sem Value}{Q:Flow->Yq}{M:Model}{newId:String}(a:bm.contains (.type "BaseException")=true)(i:A.handled=none)
 (h:wpAny M A x (λv s₁=>∃e t c,v=.ref e/\s₁.heap.get? C=some (excClassObj nm q C N bs bm hdct sn sub ab col dd k0 k1 k2 k3 k5 newId)/\s₁.heap.get? e=some (xC C t c)/\E (.ref e) s₁) E s):
 wpAny M A (raiseStmt env (some x) none) Q E s:=by
 have b:(Value.ref C::bm).contains (.type "BaseException")=true:=by rw[List.contains_cons,a,UI]
 unfold raiseStmt;refine Za (Zc h (λv s₁ h₁=>?_) λ_ _ x=>x);obtain⟨e,t,c,rfl,f,j,l⟩:=h₁;obtain⟨m,g,d,tk,os⟩:=s₁
 repeat (first|with_reducible refine wpAny_loadPart_at j ?_|with_reducible refine wpAny_loadPart_at f ?_|(with_reducible refine wpAny_isSubtype_exc f ?_;rw[b])|wp_step)
 exact wpAny_raiseNew_none i l
def OZ {s:Shared}{env:Env}{x:Str}{n b j:Pos}{args:Yj}{Q:Flow->Yq}{newId:String}(c:bm.contains (.type "BaseException")=true)(o:A.handled=none)(i:(backTo b (starEach args env)).any (·.1)=false)
 (h:Yw prog w A (eval (.Name x n) env) (λf s₁=>f=.ref C/\Yw prog w A (evalArgs (.ref C) true (backTo b (starEach args env)) [])
  (λa s₂=>a.kw=[]/\s₂.heap.get? C=some (excClassObj nm q C N bs bm hdct sn sub ab col dd k0 k1 k2 k3 k5 newId)/\Yw prog w A (call (.ref C) a.pos) (λv s₃=>∃e t r,v=.ref e/\s₃.heap.get? C=some (excClassObj nm q C N bs bm hdct sn sub ab col dd k0 k1 k2 k3 k5 newId)/\s₃.heap.get? e=some (xC C t r)/\E (.ref e) s₃) E s₂) E s₁) E s):
 Yw prog w A (exec (.Raise (some (.Call (.Name x n) args [] b)) none j) env) Q E s:=by
 rw[arm_exec_Raise]
 first
  |refine Za (wpAny_standAt (Fo (C:=C) (nm:=nm) (q:=q) (N:=N) (bs:=bs) (bm:=bm) (hdct:=hdct) (sn:=sn) (sub:=sub) (ab:=ab) (col:=col) (dd:=dd) (k0:=k0) (k1:=k1) (k2:=k2) (k3:=k3) (k5:=k5) (newId:=newId) c o (Za (Zc (wpAny_Call_ofName (Zc h (λf s₁ h₁=>?_) λ_ _ x=>x)) (λv s₃ h₃=>Za (wpAny_standAt (Zb h₃))) λ_ _ x=>x))))
  | (simp only[evalOpt,Option.map];refine Za (wpAny_standAt (Fo (C:=C) (nm:=nm) (q:=q) (N:=N) (bs:=bs) (bm:=bm) (hdct:=hdct) (sn:=sn) (sub:=sub) (ab:=ab) (col:=col) (dd:=dd) (k0:=k0) (k1:=k1) (k2:=k2) (k3:=k3) (k5:=k5) (newId:=newId) c o (Za (Zc (wpAny_Call_ofName (Zc h (λf s₁ h₁=>?_) λ_ _ x=>x)) (λv s₃ h₃=>Za (wpAny_standAt (Zb h₃))) λ_ _ x=>x)))))
 obtain⟨rfl,h₁⟩:=h₁;unfold callWith;refine Za (wpAny_holding (Zc h₁ (λa s₂ h₂=>Za (wpAny_standAt ?_)) λ_ _ x=>x));obtain⟨p,l⟩:=a;obtain⟨m,u,h₂⟩:=h₂;obtain rfl:l=[]:=m;obtain⟨y,g,d,tk,os⟩:=s₂;simp only[i];refine Za (wpAny_keeperOf_exc u ?_);exact Za (Zc h₂ (λv s₃ h₃=>Za (wpAny_holding (wpAny_point (Zb h₃)))) λ_ _ x=>x)
end
structure RaisesI (X:Cx)(E:XK):Prop where
 new:∀(Y:Yb) (Z: St) (H:Hp) (s:Shared) (x C t:Addr) (oe:Obj) (vs:Yk),Inv X Y Z H s->H x=none->X.s₀.heap.get? x=none->s.heap.get? x=some oe->oe.cls=.ref C->oe.data=.fields vs->vs[0]? = some (.ref t)->vs[1]? = some .none->E (.ref C) oe.dict H->X.xe (.ref x) s
section
variable {P:Program}{w:World}{K:W.Frag}{mg:Yc}{base:Heap}{N:Yh}{qual:Str}{scope:Scope}{f:Addr}{cd:Value}{A:Around}{outer:List Env}{s:Shared}{H:Hp}{E:XK}
def Fp:RaisesI (jP (xq P w) P w K mg base N qual scope f cd A outer s H E) E:=by
 refine⟨λY Z S s' x C t r T I hx j g v n y p B=>?_⟩;have st:=I.stack;have l:∀env∈(envOfC qual scope s.heap.objs.size f cd::outer),∀a,env.frame=some a->a∈x::frs (envOfC qual scope s.heap.objs.size f cd::outer):=λenv g a F=>Zqm _ (Ji.mpr ⟨env,g,F⟩);have nb:(W.hideAll s'.heap (x::frs (envOfC qual scope s.heap.objs.size f cd::outer))).get? x=none:=W.hideAll_none _ Zqs;have q:=W.funFrames_hide st l;refine Zc (VC (wpAny_leaving_firstW (a0:=.ref t) (Q:=λ_ G=>∃d,Heap.LeftW (W.hideAll s'.heap (x::frs (envOfC qual scope s.heap.objs.size f cd::outer))) (envOfC qual scope s.heap.objs.size f cd::outer) x r.cls (.ref t) s'.heap d/\G={ s' with heap:=d }) I.ok.frames q rfl g (λb o e=>W.of_hideAll _ e) nb n p y λd i=>⟨d,i,rfl⟩) (E7 (E:=λ_ _=>True) I.ok.frames q rfl g n p)) ?_ λ_ _ z=>z.1;rintro _ _ ⟨⟨d,i,rfl⟩,dt⟩;rw[v] at i;obtain⟨J,⟨_,_,L⟩,M,O⟩:=i;refine Z1 (s':=s') (h₀:=W.hideAll s'.heap [x]) I (λb u e=>?_) ⟨J,nb,L,M⟩ O (λb o e c=>?_) dt B
 .obtain⟨R,m⟩:=I.base.there b u e (by show b∉([]:Yi);simp);exact⟨R,W.hideAll_get _ m λz=>by
   have e:s.heap.get? b=some u:=e;have j:s.heap.get? x=none:=j;rw[Jb.mp z,j] at e;cases e⟩
 .refine W.hideAll_get _ e λz=>?_;rcases Uj.mp z with z|z
  .rcases c with c|⟨⟨u,hu⟩,_⟩
   .exact c (by rw[z];exact hx)
   .rw[z,W.hideAll_none _ (Jb.mpr rfl)] at hu;cases hu
  .rcases c with c|c
   .exact c (I.stkFree b z)
   .exact c.2 z
end
section
variable {X:Cx}{e:Expr}{t:TA}{np cpos pos:Pos}
def Pa {E:XK}{c:Str}{C U:Addr}{fd:FuncData}{G:Yh}{k:Nat}(R:RaisesI X E)(x:ExcI X.K X.mg c C U "row")(F:FnOk X.prog X.w X.K X.mg X.base xB k U fd G (wF C))(b:yP X.K fd G [])(hr:Room (k+1) X.A)(hc:X.calm=true)(hg:Gl X c)(ha:PA X [e] t)(J:(c == ("__debug__" : Str))=false:=by decide)
 (he:starEach [e] X.env=(false,eval e X.env)::starEach [] X.env:=by rfl):PS X (.Raise (some (.Call (.Name c np) [e] [] cpos)) none pos) (λ_ Z H=>t Z H λvs H1=>∃n,vs=[.int n]/\∀p,H1 p=none->E (.ref C) (some p) (upd H1 p (DL.RowO p n))):=by
 intro Y s Z H D I h;refine x.obj (h:=X.base) I.mod.kin λbm N nm q bs sn sub ab col dd k0 k1 k2 k3 k5 cd j cl K hdt T0 rf=>?_;refine OZ (C:=C) (nm:=nm) (q:=q) (N:=N) (bs:=bs) (bm:=bm) (hdct:=true) (sn:=sn) (sub:=sub) (ab:=ab) (col:=col) (dd:=dd) (k0:=k0) (k1:=k1) (k2:=k2) (k3:=k3) (k5:=k5) (newId:= "ValueError.__new__") (T0.hasType PySem.F.excBase_ValueError.hasBase) (I.ok.hd hc) (by rw[he];rfl) (V0 I hg x.mgc ⟨rfl,?_⟩ J);have hA:=ha cpos Y s Z H _ I h;rw[he] at hA ⊢;refine Calls.evalArgs_plain (Zc hA (λi s2 ⟨vs,l,m,r2,n,hl,hE⟩=>?_) λ_ _ y=>y);refine⟨rfl,m.bk _ _ j,?_⟩;subst hl;have lu:=r2.length;have L:=m.bk _ _ j;have T2:=T0.keeps m.bk;have K2:=m.kIn;have sz:=m.sz;show wpAny _ _ (call (.ref C) i) _ _ s2;obtain⟨h2,g2,d2,t2,o2⟩:=s2;refine OY K2 x.init x.fn T2 L (λh' e w K=>?_) (small (by rw[<- lu];show 1<=1000;lia));obtain⟨t,M,_,_⟩:=K.there;have O:=m.laid (a:=e) (o:=XO C e t none) (t':=t2) K.keeps w (XO.ok M);have hn:l e=none:=m.hok.fresh w;have r3:js [V.ref e,V.int n] (Value.ref e::i):=.cons rfl r2;have sp:wF C [.ref e,.int n] (upd l e (XO C e t none)) (λv H'=>v=.non/\∃d,upd l e (XO C e t none) d=none/\H'=upd (upd (upd l e (XO C e t none)) e (XO C e t (some d))) d (DL.RowO d n)) E0:=⟨e,n,t,rfl,J8,λd J=>⟨rfl,d,J,rfl⟩⟩;have P:(Value.ref e::i++[]).length=G.length:=by
  rw[ZA,<- r3.length];exact F.len _ _ _ _ sp
 have bb:=b _ (Value.ref e::i) O.kIn P;rw[ZA] at bb;refine wpAny_call (codeAny_mono (F.run _ X.stack _ _ ⟨Value.ref e::i,[]⟩ (Value.ref e::i) _ _ E0 (hr.make C i []) (O.env0.make C i []) bb r3 sp) λr s' f=>?_);cases r with
 |error e=>exact False.elim f
 |ok fl =>
  cases fl with
  |next=>exact False.elim f
  |brk=>exact False.elim f
  |cont=>exact False.elim f
  |ret u =>
   obtain⟨v,H',B,rv,ev,d,g,Q⟩:=O.after f;subst ev Q;have A:d≠e:=λz=>by rw[z,J8] at g;cases g
   have S:upd (upd (upd l e (XO C e t none)) e (XO C e t (some d))) d (DL.RowO d n) e=some (XO C e t (some d)):=(Jx A.symm).trans J8;refine⟨rv,e,t,some d,rfl,B.bk _ _ j,(B.hok e _ S).1,?_⟩;have I5:=B.forget (it:=e) (φ:= λh=>h.get? e=some (xC C t (some d))) S;have Q:kD (upd (upd (upd l e (XO C e t none)) e (XO C e t (some d))) d (DL.RowO d n)) e=upd l d (DL.RowO d n):=by
    funext z
    by_cases q:z=e
    .rw[q,E1,Jx A.symm,hn]
    .by_cases T:z=d
     .rw[T,VB A,J8,J8]
     .rw[VB q,Jx T,Jx q,Jx q,Jx T]
   rw[Q] at I5;rw[Jx A] at g;exact R.new Y Z _ s' e C t _ _ I5 ((Jx A.symm).trans hn) (Heap.get?_none_of_le (Zh sz w)) (B.hok e _ S).1 rfl rfl rfl rfl (hE d g)
end
end L2
namespace L2.DL
def BQ (cs:Yh)(a:FS)(sd:SD):Res Out->Res Out
 | .ok o=>.ok o
 | .ex c _ => @ite _ (c∈cs) (Classical.propDecidable _) (a sd).strict .no
 | .no=>.no
@[simp]def uK (cs:Yh)(a:FS)(sd:SD)(o:Out):BQ cs a sd (.ok o)=.ok o:=rfl
def ko (cs:Yh)(g a:FS):FS:=λsd=>BQ cs a sd (g sd)
@[simp]def r9 (cs:Yh)(g a:FS)(sd:SD):ko cs g a sd=BQ cs a sd (g sd):=rfl
def XI (P:Program)(w:World)(K:W.Frag)(a:Yc)(base:Heap)(c:Str):Prop:=∃C b d e,ExcI K a c C b "row" /\ FnOk P w K a base xB 1 b d e (wF C)/\yP K d e []
def Vg (c:Str)(a:FE):FS:=λsd=>(a sd).bind λd=>match d with
 | .int n=>.ex c [.int n]
 |_=>.no
@[simp]def l3 (c:Str)(a:FE)(sd:SD):Vg c a sd=(a sd).bind λd=>match d with
 | .int n=>.ex c [.int n]
 |_=>.no:=rfl
def ZW (c:Str)(names:Yh)(a:Yt->Res Yt)(b:FA):FE:=λsd=>(b sd).bind λds=>(a ds).strict.bind λd=>.ok (.ins c names d)
@[simp]def bR (c:Str)(names:Yh)(a:Yt->Res Yt)(b:FA)(sd:SD):ZW c names a b sd=(b sd).bind λds=>(a ds).strict.bind λd=>.ok (.ins c names d):=rfl
section
variable {X:Cx}{E:XK}{m:Option Bool}
def Fq {c:Str}{e:Expr}{g:FE}{l a h:Pos}(R:RaisesI X E)(ex:XI X.prog X.w X.K X.mg X.base c)(o:Room 2 X.A)(s:X.calm=true)(t:Gl X c)(u:QE X E e g)(w:(c == ("__debug__" : Str))=false:=by decide)
 (f:starEach [e] X.env=(false,eval e X.env)::starEach [] X.env:=by rfl):QS X E m (.Raise (some (.Call (.Name c l) [e] [] a)) none h) (Vg c g):=by
 obtain⟨C,Q,S,U,x,y,b⟩:=ex;exact PS.weak (Pa R x y b o s t (Js u Ju f) w f) λT Z H z=>by
  obtain⟨B,F,sd,r,n⟩:=z;have A:(Jr g jd sd).need (λds=>∃n,ds=[.int n]/\XW X.K E B.F0 B.H0 c [.int n]) (XW X.K E F H):=by
   unfold Vg at n;unfold Jr jd;cases i:g sd with
   |ok d =>
    rw[i] at n;cases d with
    |int k=>exact⟨k,rfl,n⟩
    |_=>exact n.elim
   |ex G fs=>rw[i] at n;exact XW.ext (n:XW X.K E B.F0 B.H0 G fs) r.ext
   |no=>rw[i] at n;exact n
  refine⟨B,F,sd,r,A.mono (λds I Y F1 H1 j J=>?_) λ_ _ q=>q⟩;obtain⟨k,rfl,K⟩:=I;obtain⟨v,L,rfl,M,N⟩:=jh.mp J;obtain rfl:=IsDs.nil_iff.mp N;obtain rfl:=jc.mp M;refine⟨k,rfl,λp O=>?_⟩;have P:=jI j.fh O (RowO p k);exact K (.ref C) (some p) _ _ ((r.ext.trans j).trans P) ⟨C,rfl,x.ns,.inr ⟨p,k,rfl,rfl,J8⟩⟩
def Fs {c:Str}{names:Yh}{k:Nat}{K:Yh}{A:Yt->Res Yt}{p l:Pos}{e:Expr}{i:Yj}{I:FA}(M:cF X.prog X.w X.K X.mg X.base c names k K A)(L:Room (k+1) X.A)(N:Gl X c)(O:QA X E (e::i) I)
 (u:(c == ("__debug__" : Str))=false:=by decide) (P:starEach (e::i) X.env=(false,eval e X.env)::starEach i X.env:=by rfl) (v:(backTo l (starEach i X.env)).any (·.1)=false:=by rfl):
 QN X E (.Call (.Name c p) (e::i) [] l) (ZW c names A I):=by
 obtain⟨C,f,fd,w,mk,F,b⟩:=M;refine PE.weak (Dm mk F L N w.mgc b .nil AJ O u P v) λZ H Q ⟨B,F,sd,r,n⟩=>?_;refine⟨B,F,sd,r,(Res.need_bind n).mono (λds R S j t h T x d nx ju ne=>?_) λ_ _ q=>q⟩;have U:=Res.need_strict (q':=XW X.K E0 j (xz (upd (upd t d (.own x)) x (.ins C d [])) x)) (Res.need_bind R);have y:j x=none:=by
  cases q:j x with
  |none=>rfl
  |some o=>rw[h.fh _ _ q] at nx;cases nx
 have z:H x=none:=by
  cases q:H x with
  |none=>rfl
  |some o=>rw[h.hh _ _ q] at nx;cases nx
 have J:∀{G:Hp},jm G t->jm G (xz (upd (upd t d (.own x)) x (.ins C d [])) x):=λ{G} s a o q=>by
  have g:=s _ _ q;rw[Nl (Kg g nx),Jx (Kg g nx),Jx (Kg g ju)];exact g
 have Y:jm j (upd (upd t d (.own x)) x (.ins C d [])):=λa o q=>by
  have g:=h.fh _ _ q;rw[Jx (Kg g nx),Jx (Kg g ju)];exact g
 have ed:Ext F H j (xz (upd (upd t d (.own x)) x (.ins C d [])) x):=⟨h.ff,J h.fh,J h.hh,h.new⟩;rw[ZA];refine⟨j,ds,x,C,d,S,Y,rfl,T,y,w.ns,J8,U.mono (λi n3 F2 H2 xs e2 f2 h2 l2 i2=>⟨rfl,?_⟩) λ_ _ q=>q⟩;exact n3 x F2 H2 (ed.trans e2) z f2 ⟨C,d,xs,w.ns,h2,l2,i2⟩
end
def Wr.strict {α: Type}:Wr α -> Wr α
 | .ok a=>.ok a
 | .ex _ _=>.no
 | .no=>.no
 | .new hp k=>.new hp λa=>(k a).strict
theorem Wr.need_strict {α: Type}{p:α -> Prop}{q q':Str->Yt->Prop}:∀{r:Wr α},r.strict.need p q->r.need p q'
 | .ok _,h=>h
 | .ex _ _,h=>h.elim
 | .no,h=>h.elim
 | .new _ k,h=>λa z=>Wr.need_strict (r:=k a) (h a z)
theorem qh {α: Type}{p:α -> Prop}{q:Str->Yt->Prop}:∀{r:Wr α},(r.need p λ_ _=>False)->r.strict.need p q
 | .ok _,h=>h
 | .ex _ _,h=>h.elim
 | .no,h=>h.elim
 | .new _ k,h=>λa z=>qh (r:=k a) (h a z)
def ZX (a:Yt->HP->Wr (D×HP))(b:yn):FV:=λsd c=>(b sd c).bind λp=>(a p.1 p.2).strict
@[simp]def lN (a:Yt->HP->Wr (D×HP))(b:yn)(sd:SD)(c:HP):ZX a b sd c=(b sd c).bind λp=>(a p.1 p.2).strict:=rfl
section
variable {X:Cx}{E:XK}{e:Expr}{es:Yj}{fr:yn}{pos:Pos}
def Pb {a:Str}{k:Nat}{h:Yh}{b:Yt->HP->Wr (D×HP)}{p:Pos}(c:zn X.prog X.w X.K X.mg X.base a k h (wG X.K b))(j:Room k X.A)(l:Gl X a)(m:vE X E (e::es) fr)
 (d:(a == ("__debug__" : Str))=false:=by decide) (o:starEach (e::es) X.env=(false,eval e X.env)::starEach es X.env:=by rfl) (f:(backTo pos (starEach es X.env)).any (·.1)=false:=by rfl):
 QV X E (.Call (.Name a p) (e::es) [] pos) (ZX b fr):=PE.weak (W6 c j l m d o f) λZ H Q r=>by
 obtain⟨B,s,F,sd,u,t,n⟩:=r;refine⟨B,s,F,sd,u,t,jM n λp x y N z A C g G=>?_⟩;show wG X.K b (y++[]) A Q E0;rw[ZA];refine⟨z,p.1,p.2,g.rs.ext.fh,G,g.lent,(Wr.need_strict x).mono (λq I v J K w i=>?_) λ_ _ q=>q⟩;obtain⟨L,M⟩:=g.callV w;exact I v L J K (C.trans w.ff) M i
end
section
variable {P:Program}{w:World}{K:W.Frag}{mg:Yc}{base:Heap}{x qual:Str}{st:Stmt}{f:Addr}{fd:FuncData}{N ps:Yh}{k:Nat}
def Pc {g:qy}{h:Yt->Res D}{kk:Nat}(F:Fun K x qual st f fd)(S:FnScope N ps (JN st))
 (hw:∀ds d,h ds=.ok d->ds.length=ps.length/\((g (Qk N.length ds) []).bind ql).need (λp=>dr p.2 kk p.1=d) λ_ _=>False) (hx:∀ds c fs,h ds=.ex c fs->ds.length=ps.length/\((g (Qk N.length ds) []).bind ql).need (λ_=>False) λI j=>I=c/\j=fs)
 (J:∀(b:Value) (A:Around) (a:List Env) (s:Shared) (H:Hp) (E:XK),Room k (A.deeper (envOfC qual (JN st) s.heap.objs.size f b))->wD (jP (xq P w) P w K mg base N qual (JN st) f b A a s H E) E (Q8 st) g):
 FnOk P w K mg base (xq P w) (k+1) f fd ps (xi K h):=by
 refine F.okX S (λL H Q E ⟨F,ds,_,i,n⟩=>?_) λb A a s H L Q E M ⟨F,ds,O,i,n⟩=>⟨_,J b A a s H E M,?_⟩
 .cases q:h ds with
  |ok d=>rw[i.length];exact(hw ds d q).1
  |ex c fs=>rw[i.length];exact(hx ds c fs q).1
  |no=>rw[q] at n;exact n.elim
 .have t:=RT.start (RS.start (N:=N) O i);cases q:h ds with
  |no=>rw[q] at n;exact n.elim
  |ex c fs =>
   rw[q] at n;have n:XW K E F H c fs:=n;refine⟨_,_,F,_,[],t,(Wr.need_bind.mp (hx ds c fs q).2).mono (λo e=>?_) λI j z=>by rw[z.1,z.2];exact n⟩;cases o with
   |next sd' hp'=>exact(show False from e).elim
   |ret d hp'=>exact(show False from e).elim
   |brk sd' hp'=>exact e.elim
   |cont sd' hp'=>exact e.elim
  |ok d =>
   rw[q] at n;have n:yc K F H Q d:=n;have l:∀{d':D} {hp':HP} {v:V} {y:St} {sd':SD} {B:Bs} {m r:Hp},dr hp' kk d'=d->RT K ⟨F,H,λ_=>none⟩ B m r sd' hp' y->IsD K m d' v->Q v r:=λ{d' hp' v y sd' B m r} R u C=>by
    obtain⟨G,T,U⟩:=u.frzA;have:=IsD.dr U kk d' v (IsD.same G _ _ C);rw[R] at this;exact n v _ _ T.ext this
   refine⟨_,_,F,_,[],t,(Wr.need_bind.mp (hw ds d q).2).mono (λo e=>?_) λ_ _ z=>z.elim⟩;cases o with
   |next sd' hp'=>exact λy B m r G u=>l e u (jt.mpr rfl)
   |ret d hp'=>exact λv y sd' B m r G u C=>l e u C
   |brk sd' hp'=>exact e.elim
   |cont sd' hp'=>exact e.elim
end
end L2.DL
namespace L2
open PySem PySem.Spec PyProof.Rows Builtin Builtin.ObjectAttr Builtin.Getset_descriptor
section
variable {prog:Program}{w:World}{A:Around}{E:Ya}{s:Shared}{K:W.Frag}{x C:Addr}{ox:Obj}{od:Option Obj}
def Pd {e:Str}{v:Value}{b:Bool}{Q:Ya}(c:ExcCl K C)(X:K.In s.heap)(J:W.InstAt s.heap x ox C od)(j:W.findObj K C od e=some (.value v))(l:W.handedIn v=true)
 (h:Q v { s with toks:=s.toks+1 }):Yw prog w A (getAttr (.ref x) e b) Q E s:=by
 obtain⟨y,g,d,t,os⟩:=s;have f:=J.type (M:=model prog w);have n:=W.looks_findIn (M:=model prog w) X c.ga;have o:=W.looks_findIn (M:=model prog w) X c.hook;have p:=W.looks_subIn (M:=model prog w) X c.base;have z:=W.looks_find (M:=model prog w) X J j;unfold getAttr getAttrBy;refine Za (wpAny_mkText (wpAny_holding (Za (f.at (Za (n.at ?_))))));have q:(onTheHeap (Value.ref C)&&Value.builtin "BaseException.__getattribute__" == Value.builtin "object.__getattribute__")=false:=by
  rw[show(Value.builtin "BaseException.__getattribute__" == Value.builtin "object.__getattribute__")=false by decide +kernel];rfl
 dsimp only;rw[q];simp only[UZ,if_false];unfold getAttrByItsOwn hookBefore;have r:onTheHeap (Value.ref C)=true:=rfl;rw[r];simp only[if_true];refine Za (o.at ?_);refine Za (wpAny_attempt (wpAny_holding ?_));unfold callGetattribute;rw[show onTheHeap (Value.builtin "BaseException.__getattribute__")=false from rfl,Bool.and_false];simp only[UZ,if_false];unfold boundAndCalled;refine Za (wpAny_of_eq (F.excAttr_ValueError.ga.bind (.ref x)) ?_);dsimp only;refine wpAny_call (codeAny_call_builtin F.excAttr_ValueError.ga.plain F.entry_bexc_ga ?_);have u:builtinKind "BaseException.__getattribute__" = some .slot:=by decide +kernel
 have sp:splitId "BaseException.__getattribute__" = some ("BaseException", "__getattribute__"):=by decide +kernel
 have i:=F.args_bexc_ga (.ref x) (.str e t);show wpAny _ _ (checkBuiltinCall "BaseException.__getattribute__" ⟨[.ref x,.str e t],[]⟩) _ _ _;simp only[checkBuiltinCall,u,sp];refine Za (m:=isInstance (.ref x) (.type "BaseException")) (W.Looks.at (f.andThen p) ?_);rw[Ze (by decide)];unfold argsOk at i;refine wpAny_of_eq (a:=Ym) i ?_;show wpAny _ _ (Builtin.«object.__getattribute__» ⟨[.ref x,.str e t],[]⟩) _ _ _;unfold Builtin.«object.__getattribute__»
 repeat lk
 show wpAny _ _ (handedOut v) _ _ _;rw[W.handedOut_of l];exact Zb h
end
end L2
namespace L2.DL
def Pe {K:W.Frag}{C U:Addr}{c:Str}(h:W.nsIn K mainGlobals c=some (some (.ref C)))(h':W.nsIn K mainGlobals c=some (some (.ref U))):W.kitOne K (.ref C) (.ref U)=some (decide (c=c)):=by
 rw[h] at h';cases h';rw[Ob];simp
def xG:D->Option Str
 | .exc c=>some c
 | .exr c _=>some c
 |_=>none
@[simp]def b6 (c:Str):xG (.exc c)=some c:=rfl
@[simp]def b5 (c:Str)(n:Int):xG (.exr c n)=some c:=rfl
def Qf (cs a:Yh):Yt->Yu
 | [d,.ucl u]=>(xG d).bind λc => @ite _ (c∈cs/\u∈a) (Classical.propDecidable _) (some (.bl (decide (c=u)))) none
 | [d,.ty T]=>(xG d).bind λc => @ite _ (T = "ValueError" /\ c∈cs) (Classical.propDecidable _) (some (.bl true)) none
 |_=>none
def Pf {cs a:Yh}{d:D}{c u:Str}(h:xG d=some c)(b:c∈cs)(e:u∈a):Qf cs a [d,.ucl u]=some (.bl (decide (c=u))):=by
 show(xG d).bind _=_;rw[h];exact @if_pos _ (Classical.propDecidable _) ⟨b,e⟩ _ _ _
def WV {cs a:Yh}{d:D}{c:Str}(h:xG d=some c)(b:c∈cs):Qf cs a [d,.ty "ValueError"]=some (.bl true):=by
 show(xG d).bind _=_;rw[h];exact @if_pos _ (Classical.propDecidable _) ⟨rfl,b⟩ _ _ _
def Pg {cs f:Yh}{ds:Yt}{z:D}(a:Qf cs f ds=some z):∃d c,xG d=some c/\c∈cs/\((∃u,u∈f/\ds=[d,.ucl u]/\z=.bl (decide (c=u)))\/(ds=[d,.ty "ValueError"]/\z=.bl true)):=by
 unfold Qf at a
 split at a
 .obtain⟨c,b,h⟩:=Je.mp a;obtain⟨⟨g,e⟩,rfl⟩:=Wd h;exact⟨_,c,b,g,.inl ⟨_,e,rfl,rfl⟩⟩
 .obtain⟨c,b,h⟩:=Je.mp a;obtain⟨⟨rfl,e⟩,rfl⟩:=Wd h;exact⟨_,c,b,e,.inr ⟨rfl,rfl⟩⟩
 .cases a
def zD (cs:Yh):D->Yu
 | .exr c n => @ite _ (c∈cs) (Classical.propDecidable _) (some (.int n)) none
 |_=>none
def Ft {cs:Yh}{c:Str}{n:Int}(h:c∈cs):zD cs (.exr c n)=some (.int n):=@if_pos _ (Classical.propDecidable _) h _ _ _
section
variable {X:Cx}{E:XK}{e:Expr}{fe:FE}{pos:Pos}
def Fu {Y:Yb}{Z: St}{H F:Hp}{s:Shared}{d:D}{c:Str}{v:V}(I:Inv X Y Z H s)(m:jm F H)(h:xG d=some c)(i:IsD X.K F d v):∃a C o,v=.ref a/\W.nsIn X.K mainGlobals c=some (some (.ref C))/\s.heap.get? a=some o/\o.cls=.ref C:=by
 cases d with
 |exc b =>
  cases h;obtain⟨a,C,rfl,f,g⟩:=jW.mp i;obtain⟨⟨o,j,l⟩,_⟩:=I.hok a _ (m _ _ g);exact⟨a,C,o,rfl,f,j,l⟩
 |exr b n =>
  cases h;obtain⟨a,C,p,rfl,f,g,_⟩:=jN.mp i;obtain⟨⟨o,j,l,_⟩,_⟩:=I.hok a _ (m _ _ g);exact⟨a,C,o,rfl,f,j,l⟩
 |_=>cases h
def Vh {cs v:Yh}(x:∀c∈cs,∀C,W.nsIn X.K mainGlobals c=some (some (.ref C))->ExcCl X.K C)
 (y:∀c∈cs,∀C,W.nsIn X.K mainGlobals c=some (some (.ref C))->∀u∈v,∀U,W.nsIn X.K mainGlobals u=some (some (.ref U))->W.kitOne X.K (.ref C) (.ref U)=some (decide (c=u)))
 (A:∀c∈cs,∀C,W.nsIn X.K mainGlobals c=some (some (.ref C))->W.subIn X.K (.ref C) (.type "ValueError")=some true):qc X (.builtin "isinstance") (yU X.K (Qf cs v)):=by
 intro Y s Z H xs ws Q I r ⟨F,ds,z,f,id,B,q⟩;obtain⟨d,c,w,h,⟨u,G,rfl,rfl⟩|⟨rfl,rfl⟩⟩:=Pg B
 .obtain⟨J,K,rfl,i,j⟩:=Wk id;obtain⟨l,u2,rfl,m,n⟩:=r.two;obtain⟨a,C,o,rfl,g,p,b⟩:=Fu I f w i;obtain⟨U,rfl,L⟩:=qP.mp j;obtain rfl:l=Value.ref a:=m;obtain rfl:u2=Value.ref U:=n;exact W.kia_one (NY (x c h C g)) I.kIn ⟨o,p,b⟩ (y c h C g u G U L) (λz=>nomatch z) λtk=>⟨.bl _,H,I.tok _,rfl,q _ F H (.refl f) (jj.mpr rfl)⟩
 .obtain⟨J,K,rfl,i,j⟩:=Wk id;obtain⟨l,u2,rfl,m,n⟩:=r.two;obtain⟨a,C,o,rfl,g,p,b⟩:=Fu I f w i;obtain rfl:=qF.mp j;obtain rfl:l=Value.ref a:=m;obtain rfl:u2=Value.type "ValueError" := n;have t:∀M,W.Looks M s.heap (typeOf (.ref a)) (.ref C):=λM=>b ▸ (W.Looks.ld (M:=M) p).andThen .now;exact Nz (by intro e;cases e) (t _) (W.looks_subIn I.kIn (A c h C g)) rfl ⟨.bl true,H,I,rfl,q _ F H (.refl f) (jj.mpr rfl)⟩
def kQ {cs:Yh}(k:∀c∈cs,∀C,W.nsIn X.K mainGlobals c=some (some (.ref C))->ExcCl X.K C/\zv X.K C "row")(O:QE X E e fe)(P:attributeBase e "row" X.env (eval e X.env)=eval e X.env:=by rfl):QE X E (.Attribute e "row" pos) (jK (zD cs) fe):=by
 intro Y s Z H Q I ⟨B,F,sd,r,n⟩;have h:tD X.K E fe Z H λv f=>∃b d z,jm b f/\IsD X.K b d v/\zD cs d=some z/\∀g,IsD X.K b z g->Q g f:=⟨B,F,sd,r,(Res.need_bind n).mono (λd R v b f K t=>by
  obtain⟨z,j,q⟩:=ji R;exact⟨b,d,z,K.fh,t,j,λg i=>q g b f K i⟩) λ_ _ q=>q⟩
 refine Dg P (j5 (O Y s Z H _ I h) λu S ⟨x,f,l,T,b,d,z,L,t,j,q⟩=>?_);cases d with
 |exr c m =>
  obtain⟨U,rfl⟩:=Wd (c:=c∈cs) j;obtain⟨a,C,p,rfl,hC,hF,hp⟩:=jN.mp t;obtain rfl:u=Value.ref a:=T;obtain⟨⟨o,ho,w,y,A⟩,_⟩:=l.hok a _ (L _ _ hF);obtain⟨⟨mA,u,hN,hu,M⟩,_⟩:=l.hok p _ (L _ _ hp);obtain⟨od,G,hl⟩:=Dc hN;obtain⟨N,c2⟩:=k c U C hC;have J:W.InstAt S.heap a o C (some od):=⟨ho,w,A,by rw[y];exact G⟩;exact Pd N l.kIn J (W.findObj_own N.isC c2 rfl (by rw[hl,hu])) (Df M) ⟨.int m,f,l.tok _,M,q _ (jc.mpr rfl)⟩
 |_=>cases j
def XL (x:Str):D->Yu
 | .str y=>some (.int (match Builtin.Str.lastOccurrence x y 0 x.length with|some i=>(i:Int)|none => -1))
 |_=>none
def Ph:vH X "str.rfind" (n9 X.K XL):=by
 intro Y s Z H x j v l Q I c d h;obtain⟨F,a,e,z,w,f,rfl,rfl,g,b,q⟩:=h;obtain⟨t,rfl⟩:=c;obtain⟨u,rfl,i⟩:=Q6 d;cases e with
 |str y =>
  obtain rfl:=Zqi b;obtain rfl:=IsD.str_iff.mp g;obtain⟨t',rfl⟩:=i;exact call_gives PySem.F.slot_str_rfind (typeIs_str _ _ _) PySem.F.entry_str_rfind (PySem.F.args_str_rfind_2 _ _) (gives_str_rfind a y t t') ⟨.int _,H,I.tok _,⟨_,rfl⟩,q _ F H (.refl f) (jc.mpr rfl)⟩
 |_=>exact Jv b
def WW:D->D->Yu
 | .str x,.int n => @ite _ (MulOk x n) (Classical.propDecidable _) (some (.str (Txt.mul x n))) none
 |_,_=>none
def Pi {x:Str}{n:Int}(h:MulOk x n):WW (.str x) (.int n)=some (.str (Txt.mul x n)):=@if_pos _ (Classical.propDecidable _) h _ _ _
def Pj:xK X (binaryOp .Mult) WW:=by
 intro Y s Z H x y v u Q I f g ⟨F,d,e,z,h,id,i,b,q⟩;cases d with
 |str a =>
  cases e with
  |int n =>
   obtain⟨j,rfl⟩:=Wd (c:=MulOk a n) b;obtain rfl:=IsD.str_iff.mp id;obtain rfl:=jc.mp i;obtain⟨t,rfl⟩:=f;obtain⟨t',rfl⟩:=g;exact SB.mul j λl k=>⟨.str _,H,I.tok _,⟨_,rfl⟩,q _ F H (.refl h) (IsD.str_iff.mpr rfl)⟩
  |_=>exact Jv b
 |_=>exact Jv b
end
def zE:D->D->Yu
 | .tup [d,.int i],.tup [e,.int j]=>(KY d).bind λa=>(KY e).bind λb=>some (.bl (a == b&&i == j))
 |_,_=>none
def Pk (a b:List Bool)(i j:Int):zE (.tup [.lst (a.map .bl),.int i]) (.tup [.lst (b.map .bl),.int j])=some (.bl (a == b&&i == j)):=by
 show(KY _).bind _=_;rw[Bq];show(KY _).bind _=_;rw[Bq];rfl
section
variable {X:Cx}
abbrev kU (a:List Bool)(i:Int):PyData:=.tuple [.list (a.map PyData.bool),.int i]
def Fv {P:Program}{w:World}{K:W.Frag}{F H:Hp}{h:Heap}{d:D}{a:List Bool}{i:Int}{v:V}{u:Value}(ok:qQ P w H h)(n:jm F H)(p:KY d=some a)(q:IsD K F (.tup [d,.int i]) v)(r:jq v u):∃b,Reads h u (kU a i) b:=by
 have q:=IsD.same n _ _ q;rw[jn] at q;obtain⟨l,xs,rfl,s,f⟩:=q;obtain rfl:u=Value.ref l:=r;obtain⟨_,z,A,o,e,c,N,B⟩:=(show xn P w H h l (.tup xs) from ok l _ s);rw[jh] at f;obtain⟨x,rs,rfl,C,g⟩:=f;rw[jh] at g;obtain⟨y,E,rfl,j,m⟩:=g;rw[IsDs.nil_iff] at m;subst m;cases A with
 |cons G I =>
  cases I with
  |cons J L =>
   cases L;obtain⟨b,M⟩:=N1 ok (.refl _) p C G;rw[jc] at j;subst j;obtain⟨t,rfl⟩:=(show ∃t,_=Value.int i t from J);exact⟨_,.tuple e c B (by simpa using ReadsAll.cons M (.cons (.int i t) .nil))⟩
def Fw (a:List Bool)(i:Int):(kU a i).canLay0=true/\(kU a i).depth<=3:=by
 obtain⟨b,c⟩:=N2 a;refine⟨?_,?_⟩
 .show((PyData.list (a.map PyData.bool)).canLay0&&(true&&true))=true;rw[b];rfl
 .show max (PyData.list (a.map PyData.bool)).depth (max 0 0)+1<=3;lia
def gP (A:X.A.units+64<cLine):xK X (compareOp .Eq) zE:=by
 intro Y s Z H x y v u Q I g h ⟨F,d,e,z,f,id,l,c,q⟩;unfold zE at c
 split at c
 .rename_i d i e j;obtain⟨a,m,c⟩:=Je.mp c;obtain⟨b,n,c⟩:=Je.mp c;obtain rfl:=Zqi c;obtain⟨B,o⟩:=Fv I.hok f m id g;obtain⟨bs,p⟩:=Fv I.hok f n l h;obtain⟨r,C⟩:=Fw a i;obtain⟨t,E⟩:=Fw b j;refine PySem.SeqAt.compareEq_reads o p r t () ?_;have w:PyData.eqv (kU a i) (kU b j)=(a == b&&i == j):=by
   show(PyData.eqvAll (a.map PyData.bool) (b.map PyData.bool)&&((i == j)&&true))=_;rw[EF,Bool.and_true]
  rw[w];exact⟨.bl _,H,I,rfl,q _ F H (.refl f) (yx _ F)⟩
 .exact Jv c
end
end L2.DL
set_option maxHeartbeats 4000000
namespace My
open PySem L2 L2.DL
@[simp high] def aX {α: Type}(a0 a:α)(l):(a0::a::l)[1]? = some a:=rfl
@[simp high] def aO {α: Type}(a0 a v:α)(l):(a0::a::l).set 1 v=a0::v::l:=rfl
@[simp high] def aW {α: Type}(a0 b a:α)(l):(a0::b::a::l)[2]? = some a:=rfl
@[simp high] def aN {α: Type}(a0 a b v:α)(l):(a0::a::b::l).set 2 v=a0::a::v::l:=rfl
@[simp high] def aV {α: Type}(a0 b c a:α)(l):(a0::b::c::a::l)[3]? = some a:=rfl
@[simp high] def aM {α: Type}(a0 a b c v:α)(l):(a0::a::b::c::l).set 3 v=a0::a::b::v::l:=rfl
@[simp high] def aU {α: Type}(a0 b c d a:α)(l):(a0::b::c::d::a::l)[4]? = some a:=rfl
@[simp high] def aL {α: Type}(a0 a b c d v:α)(l):(a0::a::b::c::d::l).set 4 v=a0::a::b::c::v::l:=rfl
@[simp high] def aT {α: Type}(a0 b c d e a:α)(l):(a0::b::c::d::e::a::l)[5]? = some a:=rfl
@[simp high] def aK {α: Type}(a0 a b c d e v:α)(l):(a0::a::b::c::d::e::l).set 5 v=a0::a::b::c::d::v::l:=rfl
@[simp high] def aS {α: Type}(a0 b c d e f a:α)(l):(a0::b::c::d::e::f::a::l)[6]? = some a:=rfl
@[simp high] def aJ {α: Type}(a0 a b c d e f v:α)(l):(a0::a::b::c::d::e::f::l).set 6 v=a0::a::b::c::d::e::v::l:=rfl
@[simp high] def aR {α: Type}(a0 b c d e f g a:α)(l):(a0::b::c::d::e::f::g::a::l)[7]? = some a:=rfl
@[simp high] def aI {α: Type}(a0 a b c d e f g v:α)(l):(a0::a::b::c::d::e::f::g::l).set 7 v=a0::a::b::c::d::e::f::v::l:=rfl
@[simp high] def aQ {α: Type}(a0 b c d e f g h a:α)(l):(a0::b::c::d::e::f::g::h::a::l)[8]? = some a:=rfl
@[simp high] def aH {α: Type}(a0 a b c d e f g h v:α)(l):(a0::a::b::c::d::e::f::g::h::l).set 8 v=a0::a::b::c::d::e::f::g::v::l:=rfl
@[simp high] def aP {α: Type}(a0 b c d e f g h i a:α)(l):(a0::b::c::d::e::f::g::h::i::a::l)[9]? = some a:=rfl
@[simp high] def aG {α: Type}(a0 a b c d e f g h i v:α)(l):(a0::a::b::c::d::e::f::g::h::i::l).set 9 v=a0::a::b::c::d::e::f::g::h::v::l:=rfl
@[simp high] def lj {α: Type}(a0 b c d e f g h i j a:α)(l):(a0::b::c::d::e::f::g::h::i::j::a::l)[10]? = some a:=rfl
@[simp high] def pO {α: Type}(a0 b c d e f g h i j a v:α)(l):(a0::b::c::d::e::f::g::h::i::j::a::l).set 10 v=a0::b::c::d::e::f::g::h::i::j::v::l:=rfl
@[simp high] def li {α: Type}(a0 c d e f g h i j m b a:α)(l):(a0::c::d::e::f::g::h::i::j::m::b::a::l)[11]? = some a:=rfl
@[simp high] def pN {α: Type}(a0 c d e f g h i j m a b v:α)(l):(a0::c::d::e::f::g::h::i::j::m::a::b::l).set 11 v=a0::c::d::e::f::g::h::i::j::m::a::v::l:=rfl
@[simp high] def lh {α: Type}(a0 d e f g h i j m n b c a:α)(l):(a0::d::e::f::g::h::i::j::m::n::b::c::a::l)[12]? = some a:=rfl
@[simp high] def pM {α: Type}(a0 d e f g h i j m n a b c v:α)(l):(a0::d::e::f::g::h::i::j::m::n::a::b::c::l).set 12 v=a0::d::e::f::g::h::i::j::m::n::a::b::v::l:=rfl
def Vi (ns:Yf)(k:Int):Int:=ns.getD k.toNat 0
def Pm:plN 12 (.lst [])=true:=rfl
def Pn {α: Type}(f:α -> D)(l:List α):sameD (.lst (l.map f)) (.lst [])=l.isEmpty:=by
 cases l with
 |nil=>exact Kz _
 |cons x r=>exact zw.mpr λh=>by cases h
def BR {α: Type}{l:List α}{k:Nat}(h:k<l.length):jR l (k:Int)=l[k]?:= by
 simp_all [jR,yu]
def Vj {α: Type}{f:α -> D}{l:List α}{i:Nat}{x:D}(h:(l.map f)[i]? = some x):∃p,l[i]? = some p/\x=f p:=()
structure RowOk (n:Int)(r:Jp):Prop where
 ne:r ≠ []
 once:xL r
 mem:∀p∈r,0<=p.1/\p.1<n
 len:r.length<=12
def v5 (f:Jq):D:=.lst (f.map qW)
@[simp]def fG (f):K0 [v5 f]=some (v5 f):=rfl
@[simp]def uB (f):V8 (v5 f)=some (f.map qW):=rfl
@[simp]def u1 (r):V8 (qW r)=some (r.map ye):=rfl
@[simp]def nO (f):j6 [v5 f]=some (.int f.length):=by show some (D.int (f.map qW).length)=_;rw[Zql]
@[simp]def lV (f):j4 [v5 f,.ty "list"]=some (.bl true):=rfl
@[simp]def aA (f):j4 [qW f,.ty "tuple"]=some (.bl true):=rfl
@[simp]def ax (p):j4 [ye p,.ty "tuple"]=some (.bl true):=rfl
@[simp]def nN (p):j6 [ye p]=some (.int 2):=rfl
@[simp]def nU (p):jv (ye p) (.int 0)=some (.int p.1):=rfl
@[simp]def nT (p):jv (ye p) (.int 1)=some (.int p.2):=rfl
structure FormOk (n:Int)(f:Jq):Prop where
 ne:f ≠ []
 rows:∀r∈f,RowOk n r
 len:f.length<=100
def vD (r:Jp):Prop:=(r.map (·.1)).Pairwise (· < ·)
def Po (j n:Nat):min (j:Int) (n:Int)=((min j n:Nat):Int):=by
 lia
def ZY {α: Type}(l:List α){k:Int}(a:0<=k):Qe l (some k) none none=l.drop k.toNat:=by
 have e:sliceBounds (some k) none none l.length=(((min k.toNat l.length:Nat):Int),(l.length:Int),1):=by
  obtain⟨j,rfl⟩:=UL a;unfold sliceBounds;simp only;rw[Ze (Int.not_lt.mpr a),Po];exact rfl
 unfold Qe;rw[e,sliceRange_one];have b:(λx:Nat=>l[x]?)=λx:Nat=>l.toArray[x]?:= by simp
 rw[b,(pick_run l.toArray (min k.toNat l.length) (l.length-min k.toNat l.length))];by_cases c:k.toNat<=l.length
 .rw[Nat.min_eq_left c,UW ()]
 .rw[Nat.min_eq_right (),List.drop_eq_nil_of_le (Zf _),List.drop_eq_nil_of_le ()];exact List.take_nil
structure ThingsOk (ts:Yf):Prop where
 ne:ts ≠ []
 len:ts.length<=4
 rng:∀t∈ts,0<=t/\t<12
 up:ts.Pairwise (· < ·)
def Pp {r:Jp}(h:vD r):xL r:=by
 grind[vD,xL,List.Nodup]
structure Over (f:Jq)(hs:Yf):Prop where
 ne:f ≠ []
 rne:∀r∈f,r ≠ []
 once:∀r∈f,xL r
 bnd:∀r∈f,∀p∈r,0<=p.1/\p.1<(hs.length:Int)
structure RoundOk (n:Int)(fs:List Jq):Prop where
 len:(fs.length:Int)=n
 gX:1<=n
 most:n<=12
 forms:∀f∈fs,FormOk n f
def wI {n:Int}{fs:List Jq}(R:RoundOk n fs){c:Yf}(h:c.length=fs.length):∀f∈fs,Over f c:=λf b=>⟨(R.forms f b).ne,λr a=>((R.forms f b).rows r a).ne,λr a=>((R.forms f b).rows r a).once,λr a p d=>by
 have:=((R.forms f b).rows r a).mem p d;have:=R.len;lia⟩
def pR (fs:List Jq):D:=.lst (fs.map v5)
@[simp]def uA (fs):V8 (pR fs)=some (fs.map v5):=rfl
open L2.ST
structure PairsOk (ts:Yf)(r:Jp):Prop where
 ne:r ≠ []
 len:r.length<=4
 mem:∀p∈r,p.1∈ts
 up:r.Pairwise λp q=>p.1<q.1
def Pq {r:Jp}(h:r.Pairwise λp q=>p.1<q.1):xL r:=by
 grind[xL,List.Nodup,List.pairwise_map]
def PairsOk.row {ts:Yf}{r:Jp}(T:ThingsOk ts)(P:PairsOk ts r):RowOk 12 r:=⟨P.ne,Pq P.up,λp a=>T.rng _ (P.mem p a),Zh P.len ()⟩
structure JRow (r:Jp):Prop where
 ne:r ≠ []
 rise:vD r
 bnd:∀p∈r,0<=p.1/\p.1<12
def JRow.once {r:Jp}(h:JRow r):xL r:=Pp h.rise
def JRow.len {r:Jp}(h:JRow r):r.length<=12:=by
 have c:∀(l:Yf) (a:Int),l.Pairwise (· < ·)->(∀x∈l,a<=x/\x<12)->(l.length:Int)<=max 0 (12-a):=by
  intro l
  induction l with
  |nil=>simp;lia
  |cons x l d =>
   intro a b e;rw[List.pairwise_cons] at b;have f:=e x Zqs;have:=d (x+1) b.2 ()
   grind
 have:=c _ 0 h.rise λx hx=>by
  obtain⟨p,b,rfl⟩:=Ja.mp hx;exact h.bnd p b
 grind
def asc (x:Str):Prop:=x.cps.all (· < 128)=true
def xu {x:Str}:asc x↔∀c∈x.cps.toList,c<128:=by
 unfold asc;rw[<- U1,Ul];simp
def JS (a b:Str):(a++b).length=a.length+b.length:=Array.size_append
theorem J0 (a b:Str):(a++b).cps.toList=a.cps.toList++b.cps.toList:=Array.toList_append
def Fx {a b:Str}(e:asc a)(f:asc b):asc (a++b):=xu.mpr λc d=>by
 rw[J0] at d;rcases Jc.mp d with h|h
 .exact xu.mp e c h
 .exact xu.mp f c h
def Pr {x:Str}{l u:Option Int}{c:Nat}(h:c∈(Txt.slice x l u).cps.toList):c∈x.cps.toList:=by
 grind[Txt.slice]
def Ps {x:Str}{l u:Option Int}(h:asc x):asc (Txt.slice x l u):=xu.mpr λc a=>xu.mp h c (Pr a)
structure TxtOk (n:Nat)(x:Str):Prop where
 len:x.length<=n
 asc:asc x
def TxtOk.app {m n:Nat}{a b:Str}(c:TxtOk m a)(d:TxtOk n b):TxtOk (m+n) (a++b):=⟨by rw[JS];have:=c.len;have:=d.len;lia,Fx c.asc d.asc⟩
def ze {n:Nat}{a:Str}(b:TxtOk n a)(l u):TxtOk n (Txt.slice a l u):=⟨Zh (Txt.slice_le a l u) b.len,Ps b.asc⟩
def TxtOk.mono {m n:Nat}{a:Str}(b:TxtOk m a)(h:m<=n):TxtOk n a:=⟨Zh b.len h,b.asc⟩
def Fy {c:Nat}(h:c<128):TxtOk 1 ⟨#[c]⟩:=⟨Zf _,xu.mpr λd a=>()⟩
def J2 {n:Nat}{x:Str}(h:(decide (x.length<=n)&&x.cps.all (· < 128))=true):TxtOk n x:=by
 rw[Ua] at h;exact⟨of_decide_eq_true h.1,h.2⟩
def Qi {m n:Nat}{a b:Str}(c:TxtOk m a)(d:TxtOk n b)(h:m+n<=1000):jk (.str a) (.str b)=some (.str (a++b)):=Zd (small (by have:=c.len;have:=d.len;lia))
def XM {n:Nat}{a:Str}(b:TxtOk n a)(h:n<=1000):j6 [.str a]=some (.int a.length):=Zd (small (by have:=b.len;lia))
def BS {n:Nat}{a:Str}(b:TxtOk n a)(h:n<=1000)(l u):xW (.str a) l u=some (.str (Txt.slice a l u)):=Zd (small (by have:=b.len;lia))
def BT {n:Nat}{a:Str}{k:Int}(b:TxtOk n a)(h:n<=1000)(k0:0<=k)(k1:k<(a.length:Int)):∃c,jv (.str a) (.int k)=some (.str ⟨#[c]⟩)/\a.cps.toList[k.toNat]? = some c/\c<128:=by
 have d:k.toNat<a.cps.toList.length:=by
  rw[Uc];have:a.length=a.cps.size:=rfl;lia
 refine⟨a.cps.toList[k.toNat],?_,(),xu.mp b.asc _ (List.getElem_mem d)⟩;show(if a.length<=sizeLine then(jR a.cps.toList k).map λc=>D.str ⟨#[c]⟩ else none)=_;rw[Zd (small (by have:=b.len;lia))];have e:jR a.cps.toList k=some a.cps.toList[k.toNat]:=by
  unfold jR yu;rw[Zd k0,Zd (by rwa [Uc])];exact()
 rw[e];rfl
def Fz {l:Yt}{k:Int}(k0:0<=k)(k1:k<(l.length:Int)):∃d∈l,jR l k=some d:=by
 simp_all [jR,yu]
def Pt:∀k:Fin 26,(("abcdefghijklmnopqrstuvwxyz" : Str).cps.toList)[k.val]? = some (97+k.val):=by decide +kernel
def gX (x:Str):Prop:=∀c∈x.cps.toList,97<=c/\c<123
@[simp]def tX (n:Nat)(g:FS)(a b c d e:D):jB n 5 g [a,b,c,d,e]=(g (~~~a::~~~b::~~~c::~~~d::~~~e::List.replicate (n-5) none)).bind qz:=rfl
structure Pl where
 name:Str
 givens:Yh
 rows:List (Str×Str×Jp)
def jJ (r:Str×Str×Jp):D:=.tup [.str r.1,.str r.2.1,qW r.2.2]
def BU (p:Pl):D:=.tup [.str p.name,.lst (p.givens.map .str),.lst (p.rows.map jJ)]
def JL (p:Pl):D:=.ins "Plan" ["name", "givens", "rows"] [.str p.name,.lst (p.givens.map .str),.lst (p.rows.map jJ)]
def JT (a:List Pl):D:=.ins "Book" ["plans"] [.lst (a.map JL)]
def kX (p:Str×Int):D:=.tup [.str p.1,.int p.2]
structure ItOk (ahead:Int)(its:Jp):Prop where
 rng:∀p∈its,0<=p.1/\p.1<ahead
 far:∀p∈its,-1000000000000000000000000000000<p.2/\p.2<1000000000000000000000000000000
@[simp]def fN (r):jv (jJ r) (.int 0)=some (.str r.1):=rfl
@[simp]def fM (r):jv (jJ r) (.int 1)=some (.str r.2.1):=rfl
@[simp]def fL (r):jv (jJ r) (.int 2)=some (qW r.2.2):=rfl
@[simp]def lG (p):jv (BU p) (.int 0)=some (.str p.name):=rfl
@[simp]def l0 (p):jv (BU p) (.int 1)=some (.lst (p.givens.map .str)):=rfl
@[simp]def lH (p):jv (BU p) (.int 2)=some (.lst (p.rows.map jJ)):=rfl
@[simp]def fP (p):jv (kX p) (.int 0)=some (.str p.1):=rfl
@[simp]def fO (p):jv (kX p) (.int 1)=some (.int p.2):=rfl
@[simp]def lP (ps):j0 "Book" "plans" (JT ps)=some (.lst (ps.map JL)):=rfl
@[simp]def bg (p):j0 "Plan" "name" (JL p)=some (.str p.name):=rfl
@[simp]def ai (p):j0 "Plan" "givens" (JL p)=some (.lst (p.givens.map .str)):=rfl
@[simp]def bf (p):j0 "Plan" "rows" (JL p)=some (.lst (p.rows.map jJ)):=rfl
def Vk (a:List Pl):List (Str×Int):=a.map λp=>(p.name,(p.givens.length:Int))
def mV (a:List (Str×Int))(how:Str)(n:Nat):Prop:=how = "all" \/ how = "first" \/ (how,(n:Int))∈a
def Kq {n:Nat}{x:Str}(h:asc x):plN (n+1) (.str x)=true:=by
 show PyData.strOk x=true;unfold PyData.strOk;rw[<- U1,Ul];exact λc a=>Zp (UB (xu.mp h c a) ())
def Pu {α: Type}{f:α -> D}{l:List α}(h:plN 12 (.lst (l.map f))=true):jZ (.lst (l.map f)) (.lst [])=some (.bl l.isEmpty):=by
 rw[WF h Pm,Pn]
def JF {x y:Str}(h:x.cps.toList=y.cps.toList):x=y:=by
 cases x
 simp_all
def cU (l:Yg):Bool:=l[0]? == some 120||l[0]? == some 121||l[0]? == some 113||l[2]? == some 113
structure WB (ps:List Pl):Prop where
 l1:1<=ps.length
 l2:ps.length<=20
 nd:(ps.map (·.name)).Nodup
 ok:∀p∈ps,TxtOk 12 p.name/\1<=p.name.length/\p.name ≠ "all" /\ p.name ≠ "first"
 how:∀(i:Nat) (p:Pl),ps[i]? = some p->∀r∈p.rows,r.2.1 = "all" \/ r.2.1 = "first" \/ r.2.1∈(ps.take i).map (·.name)
 sz:∀p∈ps,p.rows.length<=40/\p.givens.length<=12
@[simp]def rD (is)(f)(sd):X1 is f sd=(f (qa is sd)).bare.bind λd=>if B7 d then .ok d else .no:=rfl
@[simp]def rV (c)(names)(Fn)(fa)(sd):mw c names Fn fa sd=(fa sd).bind λds=>(Fn ds).bind λa=>.ok (.ins c names a):=rfl
@[simp]def lO (i j k)(r)(sd):JD (.tup [i,j,k]) (jJ r) sd=.ok (((sd.set i (~~~(.str r.1))).set j (~~~(.str r.2.1))).set k (~~~(qW r.2.2))):=rfl
@[simp]def lw (x):JX (.str x)=some (.inr x):=rfl
def dT (t:List (Str×Int)):D:=.dct (t.map λp=>.inr p.1) (t.map λp=>.int p.2)
def qM (t:List (Str×Int))(x:Str):Option Int:=(t.find? λp=>decide (p.1=x)).map (·.2)
def pC {a b:Str}:((Um a:jx)=.inr b)↔a=b:=()
theorem XN:∀(t:List (Str×Int)) (x:Str),jF (t.map λp=>.inr p.1) (t.map λp=>.int p.2) (.inr x)=(qM t x).map .int
 | [],_=>rfl
 |p::t,x=>by
  rw[Zl,Zl];unfold jF qM;rw[List.find?_cons];by_cases h:p.1=x
  .simp_all
  .rw[Ze (λz=>h (pC.mp z)),Zo h];exact XN t x
@[simp]def fQ (t)(x):jv (dT t) (.str x)=(qM t x).map .int:=XN t x
@[simp]def F6 (neg)(t)(x):qX neg (.str x) (dT t)=some (.bl (if neg then !(qM t x).isSome else(qM t x).isSome)):=by
 show some (D.bl (if neg then !(jF (t.map λp=>.inr p.1) (t.map λp=>.int p.2) (.inr x)).isSome else(jF (t.map λp=>.inr p.1) (t.map λp=>.int p.2) (.inr x)).isSome))=_;rw[XN,UR]
def Pv (t:List (Str×Int))(x:Str):yW (.inr x) (t.map λp=>.inr p.1)=t.any λp=>decide (p.1=x):=by
 grind[yW,List.any_map]
def BV {t:List (Str×Int)}{x:Str}(h:x∉t.map (·.1))(v:Int):D.dct (V6 (t.map λp=>.inr p.1) (.inr x)) (Wj (t.map λp=>.inr p.1) (t.map λp=>.int p.2) (.inr x) (.int v))=dT (t++[(x,v)]):=by
 simp_all [V6,Wj,dT,Pv]
def uq {t:List (Str×Int)}{x:Str}:qM t x=none↔x∉t.map (·.1):=by
 grind[qM,Option.map_eq_none_iff,List.find?_eq_none]
def F7 {a b:List (Str×Int)}{x:Str}(h:x∉a.map (·.1)):qM (a++b) x=qM b x:=by
 unfold qM;rw[List.find?_append,Option.map_eq_none_iff.mp (uq.mpr h)];rfl
def F8 (x:Str)(v:Int)(b:List (Str×Int)):qM ((x,v)::b) x=some v:=by
 simp_all [qM]
def xO (how:Str):Bool:=!(decide (how = "all")||decide (how = "first"))
def zZ (t:List (Str×Int))(p:Pl):Int:=p.rows.length+((p.rows.filter λr=>xO r.2.1).map λr=>(qM t r.2.1).getD 0).sum
def vh (t:List (Str×Int))(p:Pl):List (Str×Int):=t++[(p.name,zZ t p)]
def xa (a:List Pl):List (Str×Int):=a.foldl vh []
def F9 (ps)(p):xa (ps++[p])=xa ps++[(p.name,zZ (xa ps) p)]:=by
 unfold xa;rw[UY];rfl
theorem FB:∀(l:List Pl) (t:List (Str×Int)),∃u,l.foldl vh t=t++u
 | [],t=>⟨[],()⟩
 |p::l,t=>by
  obtain⟨u,e⟩:=FB l (vh t p)
  simp_all [vh]
theorem FC:∀(l:List Pl) t,(l.foldl vh t).map (·.1)=t.map (·.1)++l.map (·.name)
 | [],t=>by simp
 |p::l,t=>by
  rw[Uy,FC l];unfold vh;simp
theorem XP (l):(xa l).map (·.1)=l.map (·.name):=by
 grind[xa,FC]
def WB.fresh {a:List Pl}(W:WB a){i:Nat}{p:Pl}(f:a[i]? = some p):p.name∉(xa (a.take i)).map (·.1):=by
 rw[XP];intro z;have b:i<a.length:=();obtain⟨y,c,e⟩:=Ja.mp z;obtain⟨j,d,g⟩:=List.getElem_of_mem c;rw[UD] at d;have h:=Jo.mp (Jn.mp W.nd) j i () b ()
 simp_all
def WB.at {a:List Pl}(W:WB a){i:Nat}{p:Pl}(b:a[i]? = some p):qM (xa a) p.name=some (zZ (xa (a.take i)) p):=by
 have e:xa a=(a.drop (i+1)).foldl vh (xa (a.take i)++[(p.name,zZ (xa (a.take i)) p)]):=by
  rw[<- F9];unfold xa;rw[<- UY];have tk:a.take (i+1)=a.take i++[p]:=by rw[Us,b];rfl
  rw[<- tk,List.take_append_drop]
 obtain⟨u,c⟩:=FB (a.drop (i+1)) (xa (a.take i)++[(p.name,zZ (xa (a.take i)) p)]);rw[e,c,Ub,F7 (W.fresh b)];exact F8 _ _ _
def WB.part {a:List Pl}(W:WB a){i:Nat}{p:Pl}(c:a[i]? = some p){r:Str×Str×Jp}(d:r∈p.rows):(qM (xa (a.take i)) r.2.1).isSome=xO r.2.1:=by
 have out:∀w:Str,(∀y∈a,y.name≠w)->qM (xa (a.take i)) w=none:=λw hw=>uq.mpr (by
  grind[XP])
 rcases W.how i p c r d with z|z|z
 .rw[z,out "all" λy b=>(W.ok y b).2.2.1];rfl
 .rw[z,out "first" λy b=>(W.ok y b).2.2.2];rfl
 .have f:(qM (xa (a.take i)) r.2.1).isSome=true:=by
   cases h:qM (xa (a.take i)) r.2.1 with
   |some v=>rfl
   |none=>exact Zn (by rwa [XP]) (uq.mp h)
  have ⟨y,b,e⟩:=Ja.mp z;have ok:=W.ok y ()
  simp_all [xO]
def WB.hasc {a:List Pl}(W:WB a){i:Nat}{p:Pl}(b:a[i]? = some p){r:Str×Str×Jp}(c:r∈p.rows):asc r.2.1:=by
 rcases W.how i p b r c with z|z|z
 .rw[z];exact(J2 (n:=3) (by decide +kernel)).asc
 .rw[z];exact(J2 (n:=5) (by decide +kernel)).asc
 .have ⟨y,d,e⟩:=Ja.mp z;rw[<- e];exact(W.ok y ()).1.asc
def Pw {α: Type}(f:α -> Int)(l:List α):B7 (.lst (l.map λr=>D.int (f r)))=true:=by
 show(l.map λr=>D.int (f r)).all ZJ=true;rw[Ul];intro x hx;obtain⟨y,_,rfl⟩:=Ja.mp hx;rfl
def Px {α: Type}(f)(l:List α):yX [.lst (l.map λr=>D.int (f r))]=some (.int (l.map f).sum):=by
 rw[<- MM,Zw];rfl
def Py {a:List Pl}(W:WB a)(i):(xa (a.take i)).length<=20:=by
 have e:(xa (a.take i)).length=((xa (a.take i)).map (·.1)).length:=by simp
 rw[e,XP,Zql,UD];have:=W.l2;lia
def yG (c:Nat):Bool:=decide (97<=c)&&decide (c<123)
def yf (c:Nat):Bool:=decide (48<=c)&&decide (c<58)
noncomputable def kept:Yh:=["plan", "given", "all", "first", "part"]
def Qt (x:Str):Bool:=decide (1<=x.length)&&(decide (x.length<=12)&&((kept.all λw => !decide (w=x))&&(yG (x.cps.toList.headD 0)&&x.cps.toList.all λc=>yG c||yf c)))
def jA (x:Str):Prop:=TxtOk 12 x/\Qt x=true
def jA.ne {x:Str}(h:jA x):1<=x.length/\x ≠ "all" /\ x ≠ "first" := by
 have h:=h.2;unfold Qt at h;rw[Ua,Ua,Ua,decide_eq_true_eq] at h;have k:=Ul.mp h.2.2.1;have a:=k "all" (by decide +kernel);have b:=k "first" (by decide +kernel);exact⟨h.1,λz=>by rw[z] at a;simp at a,λz=>by rw[z] at b;simp at b⟩
structure PL (ahead:List Pl)(p:Pl):Prop where
 nm:jA p.name
 fresh:∀q∈ahead,q.name≠p.name
 tn:∀x∈p.givens++p.rows.map (·.1),jA x
 td:(p.givens++p.rows.map (·.1)).Nodup
 g1:1<=p.givens.length
 g2:p.givens.length<=12
 r1:1<=p.rows.length
 r2:p.rows.length<=40
 its:∀(k:Nat) (r:Str×Str×Jp),p.rows[k]? = some r->ItOk ((p.givens.length:Int)+k) r.2.2/\1<=r.2.2.length/\r.2.2.length<=40
 how:∀r∈p.rows,mV (Vk ahead) r.2.1 r.2.2.length
 wt:zZ (xa ahead) p<=2000
def LB (a:List Pl):Prop:=∀(i:Nat) (p:Pl),a[i]? = some p->PL (a.take i) p
def LB.snoc {a:List Pl}{p:Pl}(h:LB a)(d:PL a p):LB (a++[p]):=λk x b=>by
 by_cases z:k<a.length
 .rw[UU z] at b;rw[List.take_append_of_le_length ()];exact h k x b
 .rw[U2 ()] at b;have c:k-a.length=0:=by
   cases e:k-a.length with
   |zero=>rfl
   |succ j=>rw[e] at b;simp at b
  rw[c] at b;cases b;have:k=a.length:=()
  rwa [this,List.take_left' rfl]
def LB.mem {a:List Pl}(h:LB a){p:Pl}(b:p∈a):∃i,PL (a.take i) p:=by
 obtain⟨i,c⟩:=List.getElem?_of_mem b;exact⟨i,h i p c⟩
def p6 {a:List Pl}(h:LB a)(d:1<=a.length)(e:a.length<=20):WB a:=by
 refine⟨d,e,?_,λp b=>?_,λi p c r f=>?_,λp b=>?_⟩
 .rw[U3,List.pairwise_map,List.pairwise_iff_getElem];intro i j c n g;exact(h j a[j] ()).fresh a[i] (Uh (i:=i) ())
 .obtain⟨i,P⟩:=h.mem b;exact⟨P.nm.1,P.nm.ne.1,P.nm.ne.2.1,P.nm.ne.2.2⟩
 .rcases(h i p c).how r f with z|z|z
  .exact .inl z
  .exact .inr (.inl z)
  .obtain⟨y,l,m⟩:=Ja.mp z;exact .inr (.inr (Ja.mpr ⟨y,l,Zt Prod.fst m⟩))
 .obtain⟨i,P⟩:=h.mem b;exact⟨P.r2,P.g2⟩
def bnd:Nat->Int
 | 0=>0
 |n+1=>6+6*bnd n
def FD {t:List (Str×Int)}{x y:Str}(h:y≠x)(v:Int):qM (t++[(y,v)]) x=qM t x:=by
 simp_all [qM]
def qU (i:Nat):Nat:=if i<26 then 97+i else 22+i
def qJ:Nat->Nat->List Nat
 | 0,_=>[]
 |f+1,n=>if n=0 then[] else qU (n % 36)::qJ f (n / 36)
def Wq (m:Nat):Yg:=qU (m % 26)::qJ 59 (m / 26)
def zS (l:Yg):Str:=⟨l.toArray⟩
def Qa (m:Nat):Str:=zS (Wq m)
def Pz (a:Yg):(zS a).length=a.length:=by
 show a.toArray.size=_;simp
def zm:Str:= "abcdefghijklmnopqrstuvwxyz0123456789"
def P0:zm.cps.toList=(List.range 36).map qU:=by decide +kernel
def P1:zm.length<=sizeLine:=small (show zm.length<=1000 by decide +kernel)
def FF {k:Int}(b:0<=k)(d:k<36):jv (.str zm) (.int k)=some (.str ⟨#[qU k.toNat]⟩):=by
 show(if zm.length<=sizeLine then(jR zm.cps.toList k).map λc=>D.str ⟨#[c]⟩ else none)=_;rw[Zd P1,P0];have e:jR ((List.range 36).map qU) k=some (qU k.toNat):=by
  have a:k=((k.toNat:Nat):Int):=()
  rw[a,BR (by simp;lia),Zv,U0 ()];rfl
 rw[e];rfl
def FI {i:Nat}(a:i<36):qU i<128:=by
 unfold qU
 split<;>lia
def XQ:Yg->Nat
 | []=>0
 |c::r=>(if 97<=c then c-97 else c-22)+36*XQ r
def sW:Yg->Nat
 | []=>0
 |c::r=>(if 97<=c then c-97 else c-22)+26*XQ r
def FK {i:Nat}(a:i<36):(if 97<=qU i then qU i-97 else qU i-22)=i:=by
 unfold qU;by_cases h:i<26
 .rw[Zd h,Zd ()];lia
 .rw[Ze h,Ze ()];lia
theorem FL:∀(f n:Nat),n<36 ^ f->XQ (qJ f n)=n
 | 0,n,h=>by
  have:n=0:=by simpa using h
  rw[this];rfl
 |f+1,n,h=>by
  unfold qJ;by_cases z:n=0
  .rw[Zd z,z];rfl
  .rw[Ze z];show(if 97<=qU (n % 36) then qU (n % 36)-97 else qU (n % 36)-22)+36*XQ (qJ f (n / 36))=n;rw[FK (),FL f (n / 36) ()];lia
theorem FM:∀(f g n:Nat),n<36 ^ g->(qJ f n).length<=g
 | 0,g,n,h=>Ue _
 |f+1,g,n,h=>by
  unfold qJ;by_cases z:n=0
  .simp_all
  .cases g with
   |zero=>simp at h;lia
   |succ g =>
    have:=FM f g (n / 36) (UM ())
    simp_all
theorem BW:∀(f n c:Nat),c∈qJ f n->∃i,i<36/\c=qU i
 | 0,n,c,h=>by cases h
 |f+1,n,c,h=>by
  unfold qJ at h;by_cases z:n=0
  .simp_all
  .rw[Ze z] at h;rcases Uj.mp h with rfl|h
   .exact⟨n % 36,Nat.mod_lt _ (),rfl⟩
   .exact BW f (n / 36) c h
def FN:36 ^ 11<=36 ^ 59:=by decide +kernel
def P3 {m n:Nat}(b:m<26*36 ^ 11)(c:n<26*36 ^ 11)(h:Qa m=Qa n):m=n:=by
 have e:Wq m=Wq n:=have:=Zt (λs:Str=>s.cps.toList) h;this;have a:∀k,k<26*36 ^ 11->sW (Wq k)=k:=λk d=>by
  show(if 97<=qU (k % 26) then qU (k % 26)-97 else qU (k % 26)-22)+26*XQ (qJ 59 (k / 26))=k;rw[FK (),FL 59 (k / 26) (Zg (UM d) FN)];lia
 rw[<- a m b,<- a n c,e]
def BX (m:Nat):asc (Qa m):=xu.mpr λc hc=>by
 have hc:c∈Wq m:=hc;rcases Uj.mp hc with rfl|hc
 .exact FI ()
 .obtain⟨i,a,rfl⟩:=BW _ _ _ hc;exact FI a
def P4 {m:Nat}(a:m<26*36 ^ 11):(Qa m).length<=12:=by
 have:=FM 59 11 (m / 26) (UM a);show(qJ 59 (m / 26)).length+1<=12;lia
def P5 {m:Nat}(a:m<26*36 ^ 11):TxtOk 12 (Qa m):=⟨P4 a,BX m⟩
noncomputable def yC:Yh:=["plan", "given", "all", "first", "part"]
def vM (x:Str):Prop:=∃m,m<26*36 ^ 11/\x=Qa m/\x∉yC
def vM.ok {x:Str}(h:vM x):TxtOk 12 x:=by
 obtain⟨m,a,rfl,_⟩:=h;exact P5 a
theorem FP {α: Type}[DecidableEq α]:∀{l m:List α},l.Nodup->(∀x∈l,x∈m)->l.length<=m.length
 | [],_,_,_=>Ue _
 |a::l,m,hn,h=>by
  have ⟨b,c⟩:=Jf.mp hn;have:=FP (m:=m.erase a) c λx hx=>(List.mem_erase_of_ne λz=>b (by rwa [<- z])).mpr (h x (Zqm _ hx))
  grind
def P6 {n:Nat}{c:Yh}(h:n+c.length+6<26*36 ^ 11):∃k,k<c.length+6/\Qa (n+k)∉c/\Qa (n+k)∉yC:=by
 refine U4 λj=>?_;have d:∀x∈(List.range (c.length+6)).map λk=>Qa (n+k),x∈c++yC:=λx hx=>by
  obtain⟨k,g,rfl⟩:=Ja.mp hx;rw[List.mem_range] at g;refine U4 λi=>j ⟨k,g,λz=>i (Uo _ z),λz=>i (Ud _ z)⟩
 have f:((List.range (c.length+6)).map λk=>Qa (n+k)).Nodup:=by
  refine Jn.mpr ((List.nodup_range).imp_of_mem λ{a b} l m o e=>?_);rw[List.mem_range] at l m;have:=P3 () () e;lia
 have:=FP f d;rw[Zql,ZB,Uf] at this;have e:yC.length=5:=rfl;lia
def FQ {n:Nat}{xs:Yh}(h:∀x∈xs,asc x):(xs.map D.str).all (plN (n+1))=true:=Ul.mpr λd a=>by
 obtain⟨x,hx,rfl⟩:=Ja.mp a;exact Kq (h x hx)
def FR (x:Str)(xs:Yh):(xs.map D.str).any (λe=>sameD e (.str x))=decide (x∈xs):=by
 by_cases h:x∈xs
 .rw[Zp h];exact List.any_eq_true.mpr ⟨.str x,Ja.mpr ⟨x,h,rfl⟩,Kz _⟩
 grind[nh]
def FU {neg:Bool}{x:Str}{xs:Yh}(hx:asc x)(h:∀y∈xs,asc y):qX neg (.str x) (.lst (xs.map D.str))=some (.bl (if neg then !decide (x∈xs) else decide (x∈xs))):=by
 have a:plN 12 (.str x)=true:=Kq hx;have b:(xs.map D.str).all (plN 12)=true:=FQ h;show(if plN 12 (.str x)&&(xs.map D.str).all (plN 12) then some (D.bl (if neg then !(xs.map D.str).any (λe=>sameD e (.str x)) else(xs.map D.str).any λe=>sameD e (.str x))) else none)=_;rw[a,b,FR];rfl
def P7 {neg:Bool}{x:Str}{xs:Yh}(hx:asc x)(h:∀y∈xs,asc y):qX neg (.str x) (.tup (xs.map D.str))=some (.bl (if neg then !decide (x∈xs) else decide (x∈xs))):=by
 have a:plN 12 (.str x)=true:=Kq hx;have b:(xs.map D.str).all (plN 12)=true:=FQ h;show(if plN 12 (.str x)&&(xs.map D.str).all (plN 12) then some (D.bl (if neg then !(xs.map D.str).any (λe=>sameD e (.str x)) else(xs.map D.str).any λe=>sameD e (.str x))) else none)=_;rw[a,b,FR];rfl
def P8:∀y∈yC,asc y:=by
 intro y a;have:y = "plan" \/ y = "given" \/ y = "all" \/ y = "first" \/ y = "part" := by simpa [yC] using a
 rcases this with rfl|rfl|rfl|rfl|rfl<;>unfold asc<;>decide +kernel
def P9 (a:Yg)(c:Nat):zS a++⟨#[c]⟩=zS (a++[c]):=JF (by rw[J0];rfl)
def XR (tg:Tg)(b:FS)(xs:Yt):Out->Res Out
 | .next sd=>qb tg b xs sd
 | .cont sd=>qb tg b xs sd
 | .brk sd=>.ok (.next sd)
 | .ret d=>.ok (.ret d)
def Ws (tg:Tg)(b:FS)(x:D)(xs:Yt)(sd:SD):qb tg b (x::xs) sd=((JD tg x sd).bind b).bind (XR tg b xs):=by
 show((JD tg x sd).bind b).bind _=_;exact Zt _ (funext λo=>by cases o<;>rfl)
@[simp]def af (tg:Tg)(b:FS)(xs:Yt)(sd:SD):XR tg b xs (.next sd)=qb tg b xs sd:=rfl
@[simp]def l8 (tg:Tg)(b:FS)(xs:Yt)(d:D):XR tg b xs (.ret d)=.ok (.ret d):=rfl
def cP (c:FT)(b:FS)(n:Nat):Out->Res Out
 | .next sd=>K6 c b n sd
 | .cont sd=>K6 c b n sd
 | .brk sd=>.ok (.next sd)
 | .ret d=>.ok (.ret d)
def FW (c:FT)(b:FS)(n:Nat)(sd:SD):K6 c b (n+1) sd=(c sd).bind λt=>if t then(b sd).bind (cP c b n) else .ok (.next sd):=by
 rfl
@[simp]def uy (c:FT)(b:FS)(n:Nat)(sd:SD):cP c b n (.next sd)=K6 c b n sd:=rfl
@[simp]def mB (a b c:D)(sd:SD):JD (.tup [0,1,2]) (.tup [a,b,c]) sd=.ok (((sd.set 0 (~~~a)).set 1 (~~~b)).set 2 (~~~c)):=rfl
def jz (n:Int):Str:=Str.ofString (toString n)
def yR (x:Str)(w:Int):Str:=if w=0 then x else if 0<w then x ++ "+" ++ jz w else x++jz w
def zA (xs:Yh)(k:Int):Str:=xs.getD k.toNat Str.empty
def fg (xs:Yh)(a:Jp):Str:=Txt.join ", " (a.map λp=>yR (zA xs p.1) p.2)
def jE (how:Str):Str:=if how = "all" \/ how = "first" then how else "part " ++ how
def wd (xs:Yh)(r:Str×Str×Jp):Str:= " " ++ r.1 ++ " " ++ jE r.2.1 ++ " " ++ fg xs r.2.2
def ZZ (p:Pl):Yh:=[("plan " : Str)++p.name]++p.givens.map (λg=>(" given " : Str)++g)++p.rows.map (wd (p.givens++p.rows.map (·.1)))
def FY (a:List Pl):Yh:=a.flatMap ZZ
def PD {n:Int}(a: -1000000000000000000000000000000<n)(b:n<1000000000000000000000000000000):n.natAbs.log2<100:=by
 by_cases z:n.natAbs=0
 .rw[z];decide
 .rw[Nat.log2_lt z];lia
def KG (a b c:Str):a++b++c=a++(b++c):=JF (by simp only[J0,Ub])
def PF {n:Int}(a: -1000000000000000000000000000000<n)(b:n<1000000000000000000000000000000):(jz n).length<=31:=by
 unfold jz;rw[PySem.ofString_length];have p:(10:Nat) ^ 30=1000000000000000000000000000000:=by decide +kernel
 exact int_text_length_le10 () (by rw[p];lia)
def Wt (m:Nat):(jz (m:Int)).cps.toList=(Nat.toDigits 10 m).map Char.toNat:=by
 have:=PyProof.Rows.text_ofNat m;unfold jz;rw[show((m:Nat):Int)=Int.ofNat m from rfl,this]
def WX (m:Nat):jz (-((m+1:Nat):Int))=("-" : Str)++jz ((m+1:Nat):Int):=by
 have e:toString (-((m+1:Nat):Int)) = "-" ++ Nat.repr (m+1):=rfl;have a:toString ((m+1:Nat):Int)=Nat.repr (m+1):=rfl;unfold jz;refine JF ?_
 simp_all [J0,PySem.Str.ofString_eq_toList]
def PH (n:Int):asc (jz n):=by
 have a:∀m:Nat,asc (jz (m:Int)):=λm=>xu.mpr λc d=>by
  rw[Wt] at d;obtain⟨ch,b,rfl⟩:=Ja.mp d;have:=Nat.isDigit_of_mem_toDigits (by decide) (by decide) b;have e:ch.toNat<=57:=by
   unfold Char.isDigit at this;simp at this;exact this.2
  lia
 by_cases h:0<=n
 .obtain⟨m,rfl⟩:=UL h;exact a m
 .obtain⟨m,rfl⟩:∃m:Nat,n = -((m+1:Nat):Int):=⟨(-n-1).toNat,()⟩;rw[WX];exact Fx (by unfold asc;decide +kernel) (a (m+1))
def BY {n:Int}(a: -1000000000000000000000000000000<n)(b:n<1000000000000000000000000000000):TxtOk 31 (jz n):=⟨PF a b,PH n⟩
def PJ {x:Str}{w:Int}(hx:TxtOk 12 x)(a: -1000000000000000000000000000000<w)(b:w<1000000000000000000000000000000):TxtOk 44 (yR x w):=by
 unfold yR
 split
 .exact hx.mono ()
 .split
  .exact((hx.app (n:=1) (J2 (by decide +kernel))).app (BY a b)).mono ()
  .exact(hx.app (BY a b)).mono ()
def QP (sep x y:Str)(r:Yh):Txt.join sep (x::y::r)=x++sep++Txt.join sep (y::r):=by
 unfold Txt.join;rw[StrLaws.glued_eq_join,StrLaws.glued_eq_join];rfl
def QQ (sep x:Str):Txt.join sep [x]=x:=by
 unfold Txt.join;rw[StrLaws.glued_eq_join];rfl
def Aa (sep:Str):Txt.join sep []=Str.empty:=by
 unfold Txt.join;rw[StrLaws.glued_eq_join];rfl
theorem Ab {sep:Str}{m n:Nat}(a:TxtOk m sep):∀{xs:Yh} {k:Nat},(∀x∈xs,TxtOk n x)->xs.length<=k->TxtOk (k*(n+m)) (Txt.join sep xs)
 | [],k,_,_=>by rw[Aa];exact⟨Ue _,by unfold asc;decide +kernel⟩
 | [x],k,h,hl=>by
  refine(h x Zqs).mono ?_;have:1*(n+m)<=k*(n+m):=Nat.mul_le_mul_right _ (by simpa using hl);lia
 |x::y::r,k,h,hl=>by
  rw[QP];cases k with
  |zero=>simp at hl
  |succ k =>
   have:=Ab a (λz b=>h z (Zqm _ b)) (by simpa using hl);refine(((h x Zqs).app a).app this).mono ?_
   grind
def PK {sep:Str}{m n k:Nat}{xs:Yh}(b:sep.length<=m)(h:∀x∈xs,x.length<=n)(a:xs.length<=k)(c:k*n+k*m<=16777216):JoinOk sep xs=true:=by
 unfold JoinOk;rw[UH];refine StrLaws.joinFits h ?_;have d:xs.length*n<=k*n:=Nat.mul_le_mul_right _ a;have e:=Nat.mul_le_mul a b;lia
def Ac {sep:Str}{xs:Yh}(h:JoinOk sep xs=true):WT sep (.lst (xs.map .str))=some (.str (Txt.join sep xs)):=by
 show(VM (xs.map D.str)).bind _=_;rw[Fa];exact Zd h
def Ad {m n:Nat}{a b:Str}(c:TxtOk m a)(d:TxtOk n b)(h:m+n<=1000000):jk (.str a) (.str b)=some (.str (a++b)):=Zd (Zh (show a.length+b.length<=1000000 by have:=c.len;have:=d.len;lia) (by decide +kernel))
def PM {x:Str}(h:TxtOk 12 x):TxtOk 17 (jE x):=by
 unfold jE
 split
 .exact h.mono ()
 .exact((J2 (n:=5) (x:= "part ") (by decide +kernel)).app h).mono ()
def sR:TxtOk 1 (" " : Str):=J2 (by decide +kernel)
def WY (q:Pl):D:=.lst [.str q.name,.lst (q.givens.map .str),.lst (q.rows.map jJ)]
@[simp]def ac (q:Pl):jv (WY q) (.int 0)=some (.str q.name):=rfl
@[simp]def lZ (q:Pl):jv (WY q) (.int 1)=some (.lst (q.givens.map .str)):=rfl
@[simp]def aa (q:Pl):jv (WY q) (.int 2)=some (.lst (q.rows.map jJ)):=rfl
def lf (ld:Yf):D:=.lst (ld.map .int)
def dh (a:List Pl):D:=.lst (a.map WY)
structure AtP (hp:HP)(a:Addr×Addr×Addr)(q:Pl):Prop where
 pl:je hp a.1=some (.lst [.str q.name,.adr a.2.1,.adr a.2.2])
 gv:je hp a.2.1=some (.lst (q.givens.map .str))
 rw_:je hp a.2.2=some (.lst (q.rows.map jJ))
def jV (b:List (Addr×Addr×Addr)):Yi:=b.flatMap λa=>[a.1,a.2.1,a.2.2]
def xg (b:HP):List (Addr×Addr×Addr)->List Pl->Prop
 | [],ps=>ps=[]
 |a::as,ps=>∃q r,ps=q::r/\AtP b a q/\xg b as r
structure StB (hp:HP)(p l:Addr)(as:List (Addr×Addr×Addr))(a:Addr×Addr×Addr)(ps:List Pl)(q:Pl)(ld:Yf):Prop where
 hp_:je hp p=some (.lst ((as++[a]).map λb=>.adr b.1))
 hl:je hp l=some (.lst (ld.map .int))
 all:xg hp as ps
 at_:AtP hp a q
 nd:(p::l::jV (as++[a])).Nodup
theorem xg.len {d:HP}:∀{c:List (Addr×Addr×Addr)} {b:List Pl},xg d c b->b.length=c.length
 | [],b,h=>by rw[h];rfl
 |a::c,b,h=>by
  obtain⟨q,r,rfl,_,h⟩:=h;rw[Zu,Zu,h.len]
theorem xg.snoc {d:HP}{a:Addr×Addr×Addr}{q:Pl}(f:AtP d a q):∀{e:List (Addr×Addr×Addr)} {c:List Pl},xg d e c->xg d (e++[a]) (c++[q])
 | [],c,h=>by rw[h];exact⟨q,[],rfl,f,rfl⟩
 |b::e,c,h=>by
  obtain⟨q',r,rfl,g,h⟩:=h;exact⟨q',r++[q],rfl,g,h.snoc f⟩
def BZ (a bs:List (Addr×Addr×Addr)):jV (a++bs)=jV a++jV bs:=List.flatMap_append
def AtP.mono {c hp':HP}{a:Addr×Addr×Addr}{q:Pl}(h:AtP c a q)(e:∀b ∈ [a.1,a.2.1,a.2.2],je hp' b=je c b):AtP hp' a q:=
 ⟨(e _ ()).trans h.pl,(e _ ()).trans h.gv,(e _ ()).trans h.rw_⟩
theorem xg.mono {i hp':HP}:∀{f:List (Addr×Addr×Addr)} {g:List Pl},xg i f g->(∀b∈jV f,je hp' b=je i b)->xg hp' f g
 | [],g,h,_=>h
 |a::f,g,h,e=>by
  obtain⟨q,r,rfl,j,h⟩:=h;refine⟨q,r,rfl,j.mono λb d=>e b ?_,h.mono λb d=>e b ?_⟩
  .exact Jk.mpr ⟨a,Zqs,d⟩
  .obtain⟨c,l,d⟩:=Jk.mp d;exact Jk.mpr ⟨c,Zqm _ l,d⟩
def AtP.has {b:HP}{a:Addr×Addr×Addr}{q:Pl}(h:AtP b a q):∀c ∈ [a.1,a.2.1,a.2.2],je b c≠none:=λc d=>by
 have:c=a.1\/c=a.2.1\/c=a.2.2:=by simpa using d
 rcases this with rfl|rfl|rfl
 .rw[h.pl];simp
 .rw[h.gv];simp
 .rw[h.rw_];simp
theorem xg.has {d:HP}:∀{b:List (Addr×Addr×Addr)} {e:List Pl},xg d b e->∀c∈jV b,je d c≠none
 | [],_,_,c,hc=>by cases hc
 |a::b,e,h,c,hc=>by
  obtain⟨q,r,rfl,f,h⟩:=h;rcases Jc.mp (hc) with z|z
  .exact f.has c z
  .exact h.has c z
def Wu (a:HP)(n:Nat)(x:Str):dr a n (.str x)=.str x:=by cases n<;>rfl
def Cb (a:HP)(n:Nat)(x:Int):dr a n (.int x)=.int x:=by cases n<;>rfl
def mj (a:HP)(n:Nat)(x:Int×Int):dr a n (ye x)=ye x:=by
 cases n with
 |zero=>rfl
 |succ n =>
  show D.tup [dr a n (.int x.1),dr a n (.int x.2)]=_;rw[Cb,Cb];rfl
def Ae {α: Type}{f:α -> D}{g:D->D}(h:∀x,g (f x)=f x)(l:List α):(l.map f).map g=l.map f:=by
 rw[Zw];exact UN λx _=>h x
def mi (a:HP)(n:Nat)(r:Jp):dr a n (qW r)=qW r:=by
 cases n with
 |zero=>rfl
 |succ n =>
  show D.tup ((r.map ye).map (dr a n))=_;rw[Ae (mj a n)];rfl
def PN (a:HP)(n:Nat)(r:Str×Str×Jp):dr a n (jJ r)=jJ r:=by
 cases n with
 |zero=>rfl
 |succ n =>
  show D.tup [dr a n (.str r.1),dr a n (.str r.2.1),dr a n (qW r.2.2)]=_;rw[Wu,Wu,mi];rfl
def Cc (a:HP)(n:Nat)(r:Yh):dr a n (.lst (r.map .str))=.lst (r.map .str):=by
 cases n with
 |zero=>rfl
 |succ n =>
  show D.lst ((r.map D.str).map (dr a n))=_;rw[Ae (Wu a n)]
def PP (a:HP)(n:Nat)(r:Yf):dr a n (.lst (r.map .int))=.lst (r.map .int):=by
 cases n with
 |zero=>rfl
 |succ n =>
  show D.lst ((r.map D.int).map (dr a n))=_;rw[Ae (Cb a n)]
def PQ (a:HP)(n:Nat)(r:List (Str×Str×Jp)):dr a n (.lst (r.map jJ))=.lst (r.map jJ):=by
 cases n with
 |zero=>rfl
 |succ n =>
  show D.lst ((r.map jJ).map (dr a n))=_;rw[Ae (PN a n)]
theorem AtP.dr {b:HP}{a:Addr×Addr×Addr}{q:Pl}(h:AtP b a q)(n:Nat):dr b (n+3) (.adr a.1)=WY q:=by
 rw[Ka _ h.pl];show D.lst [L2.DL.dr b (n+1) (.str q.name),L2.DL.dr b (n+1) (.adr a.2.1),L2.DL.dr b (n+1) (.adr a.2.2)]=_;rw[Wu,Ka _ h.gv,Ka _ h.rw_,Cc,PQ];rfl
theorem xg.dr {e:HP}(n:Nat):∀{d:List (Addr×Addr×Addr)} {c:List Pl},xg e d c->(d.map λb=>D.adr b.1).map (dr e (n+3))=c.map WY
 | [],c,h=>by rw[h];rfl
 |a::d,c,h=>by
  obtain⟨q,r,rfl,f,h⟩:=h;rw[Zl,Zl,f.dr,h.dr n];rfl
def FZ {α: Type}(l:List α)(x:α):jR (l++[x]) (-1)=some x:=by
 unfold jR yu;rw[Ze (),Zd (by rw[Uf,UO];lia),Uf,UO,show((-1:Int)+((l.length+1:Nat):Int)).toNat=l.length by lia];simp
section
variable {hp hp':HP}{p l:Addr}{as:List (Addr×Addr×Addr)}{a:Addr×Addr×Addr}{ps:List Pl}{q:Pl}{ld:Yf}
def StB.dp (h:StB hp p l as a ps q ld):dr hp 5 (.adr p)=dh (ps++[q]):=by
 rw[Ka _ h.hp_];show D.lst (((as++[a]).map λb=>D.adr b.1).map (dr hp 3))=_;rw[xg.dr 0 (h.all.snoc h.at_)];rfl
def cB (h:StB hp p l as a ps q ld):dr hp 5 (.adr l)=lf ld:=by rw[Ka _ h.hl,PP];rfl
theorem StB.len (h:StB hp p l as a ps q ld):as.length=ps.length:=h.all.len.symm
def StB.ne (h:StB hp p l as a ps q ld):p≠l/\p≠a.1/\p≠a.2.1/\p≠a.2.2/\l≠a.1/\l≠a.2.1/\l≠a.2.2/\a.1≠a.2.1/\a.1≠a.2.2/\a.2.1≠a.2.2/\∀b∈jV as,b≠p/\b≠l/\b≠a.1/\b≠a.2.1/\b≠a.2.2:=by
 have c:=h.nd;rw[BZ] at c;have j:a.1∈jV as++jV [a]:=Ud _ (by simp[jV]);have m:a.2.1∈jV as++jV [a]:=Ud _ (by simp[jV]);have n:a.2.2∈jV as++jV [a]:=Ud _ (by simp[jV]);obtain⟨d,c⟩:=Jf.mp c;obtain⟨e,c⟩:=Jf.mp c;obtain⟨o,f,g⟩:=Jl.mp c;have f: [a.1,a.2.1,a.2.2].Nodup:=by simpa [jV] using f
 obtain⟨k1,k2⟩:=Jf.mp f;obtain⟨k3,_⟩:=Jf.mp k2;refine⟨λz=>d (by rw[z];exact Zqs),λz=>d (by rw[z];exact Zqm _ j),λz=>d (by rw[z];exact Zqm _ m),(),
  λz=>e (by rw[z];exact j),λz=>e (by rw[z];exact m),λz=>e (by rw[z];exact n),λz=>k1 (by rw[z];simp),λz=>k1 (by rw[z];simp),λz=>k3 (by rw[z];simp),λb i=>?_⟩
 refine⟨(),(),g b i _ (by simp[jV]),g b i _ (by simp[jV]),g b i _ (by simp[jV])⟩
def StB.upd (h:StB hp p l as a ps q ld){d:Yh}{rs:List (Str×Str×Jp)}{c:Yf}(e:∀b,b≠a.2.1->b≠a.2.2->b≠l->je hp' b=je hp b)
 (f:je hp' a.2.1=some (.lst (d.map .str))) (g:je hp' a.2.2=some (.lst (rs.map jJ))) (i:je hp' l=some (.lst (c.map .int))):StB hp' p l as a ps ⟨q.name,d,rs⟩ c:=by
 obtain⟨j,v,m,n,o,w,x,r,s,t,u⟩:=h.ne;refine⟨(e p m n j).trans h.hp_,i,h.all.mono λb y=>?_,⟨(e _ r s o.symm).trans h.at_.pl,f,g⟩,h.nd⟩
 simp_all
def StB.given (h:StB hp p l as a ps q ld)(d:Yh):StB (JV hp a.2.1 (.lst (d.map .str))) p l as a ps ⟨q.name,d,q.rows⟩ ld:=by
 have c:je hp a.2.1≠none:=by rw[h.at_.gv];simp
 exact h.upd (λb z _ _=>Qv c z) (VN c) ((Qv c h.ne.2.2.2.2.2.2.2.2.2.1.symm).trans h.at_.rw_) ((Qv c h.ne.2.2.2.2.2.1).trans h.hl)
def StB.rows (h:StB hp p l as a ps q ld)(rs:List (Str×Str×Jp)):StB (JV hp a.2.2 (.lst (rs.map jJ))) p l as a ps ⟨q.name,q.givens,rs⟩ ld:=by
 have c:je hp a.2.2≠none:=by rw[h.at_.rw_];simp
 exact h.upd (λb _ z _=>Qv c z) ((Qv c h.ne.2.2.2.2.2.2.2.2.2.1).trans h.at_.gv) (VN c) ((Qv c h.ne.2.2.2.2.2.2.1).trans h.hl)
end
def Af {n c:Nat}{g:qy}{ds:Yt}{b hp':HP}{d:D}(f:ds.length=c)(e:(g (Qk n ds) b).bind ql=.ok (d,hp'))(k:∀a,je b a≠none->je hp' a≠none):xT n c g ds b=.ok (d,hp'):=by
 unfold xT;rw[Zd f,e];show(if _ then _ else _)=_;rw[Zd];refine Ul.mpr λz h=>?_;have i:je b z.1≠none:=by
  rw[Ne,ng];exact λw=>w (Ja.mpr ⟨z,h,rfl⟩)
 have:=k _ i;cases w:je hp' z.1 with
 |none=>exact Zn w this
 |some d=>rfl
def qK (P:Prop)(c:Str):Res D:=@ite _ P (Classical.propDecidable P) (.ok .non) (.ex c [])
def Vl {P:Prop}(h:P)(c:Str):qK P c=.ok .non:=@if_pos _ (Classical.propDecidable P) h _ _ _
def Kb {P:Prop}(h:¬P)(c:Str):qK P c=.ex c []:=@if_neg _ (Classical.propDecidable P) h _ _ _
structure Sn (p:Pl):Prop where
 nm:TxtOk 20 p.name
 gv:∀x∈p.givens,TxtOk 20 x
 rn:∀r∈p.rows,TxtOk 20 r.1
 rh:∀r∈p.rows,TxtOk 20 r.2.1
 sz:p.givens.length+p.rows.length<=920
structure SnB (ps:List Pl):Prop where
 pl:∀p∈ps,Sn p
 len:ps.length<=920
def vm (p:Pl):Yh:=p.givens++p.rows.map (·.1)
def nK (xs:Yh):Prop:=(∀x∈xs,Qt x=true)/\xs.Nodup
def mR (a:List Pl):Prop:=nK (a.map (·.name))/\∀p∈a,nK (vm p)
def cX (a:Int)(b:Jp):Prop:=(1<=b.length/\b.length<=40)/\ItOk a b
def vY (p:Pl):Prop:=∀(k:Nat) (r:Str×Str×Jp),p.rows[k]? = some r->cX ((p.givens.length:Int)+k) r.2.2
def pq (p:Pl):Prop:=(1<=p.givens.length/\p.givens.length<=12)/\(1<=p.rows.length/\p.rows.length<=40)/\vY p
def vW (a:List Pl):Prop:=(1<=a.length/\a.length<=20)/\∀p∈a,pq p
def wg (t:List (Str×Int))(r:Str×Str×Jp):Prop:=xO r.2.1=true->qM t r.2.1=some (r.2.2.length:Int)
def vV (a:List Pl):Prop:=∀(i:Nat) (p:Pl),a[i]? = some p->∀r∈p.rows,wg (Vk (a.take i)) r
def PR {p:Pl}(S:Sn p):(vm p).length<=920:=by
 unfold vm;rw[Uf,Zql];exact S.sz
def PU {p:Pl}(S:Sn p):∀x∈vm p,TxtOk 20 x:=λx hx=>by
 rcases Jc.mp hx with z|z
 .exact S.gv x z
 .obtain⟨r,a,rfl⟩:=Ja.mp z;exact S.rn r a
def PV {x:Str}(h:TxtOk 20 x)(a:Qt x=true):jA x:=by
 refine⟨⟨?_,h.asc⟩,a⟩;unfold Qt at a;rw[Ua,Ua] at a;exact of_decide_eq_true a.2.1
theorem X6:∀(ks c:List jx),(ks.foldl L2.ST.stepK c).length<=c.length+ks.length/\((ks.foldl L2.ST.stepK c).length=c.length+ks.length->ks.Nodup/\∀k∈ks,k∉c)
 | [],c=>⟨Zf _,λ_=>⟨List.nodup_nil,λ_ h=>nomatch h⟩⟩
 |k::ks,c=>by
  obtain⟨a,b⟩:=X6 ks (L2.ST.stepK c k);by_cases h:k∈c
  .have e:L2.ST.stepK c k=c:=Zd (L2.ST.inK_iff.mpr h)
   grind
  .have e:L2.ST.stepK c k=c++[k]:=Ze λz=>h (L2.ST.inK_iff.mp z)
   grind
def PX {xs:Yh}(b:xs.length<=999):∃n:Nat,ZL [.lst (xs.map .str)]=some (.int n)/\(n=xs.length↔xs.Nodup):=by
 have e:QD JX (xs.map .str)=some (xs.map Um):=Xr (f:=JX) (λ_=>rfl) xs;have a:xs.Nodup↔(xs.map (Um:Str->jx)).Nodup:=by
  rw[U3,U3,List.pairwise_map];exact()
 refine⟨(L2.ST.dedL (xs.map Um)).length,?_,λz=>?_,λz=>?_⟩
 .show(QD JX (xs.map .str)).bind _=_
  simp_all
 .refine a.mpr ((X6 (xs.map Um) []).2 ?_).1
  rwa [ZC,UK,Zql]
 .rw[L2.ST.dedL_nodup (a.mp z),Zql]
def Cd:Yt->Res Yt:=z7 2 2 (Jr (jr K0 (Jr (ja 1) jd)) jd)
def XS:qy:=(qG (zz "Draft" "name" (vL (ja 0)) (vL (ja 1))) (qG (zz "Draft" "givens" (vL (ja 0)) (yT xQ)) (qG (zz "Draft" "rows" (vL (ja 0)) (yT xQ)) VJ)))
def Ag:Yt->HP->Wr (D×HP):=xT 2 2 XS
def Ce:Yt->Res Yt:=z7 4 4 (Jr (ja 1) (Jr (jr K0 (Jr (ja 2) jd)) (Jr (jr K0 (Jr (ja 3) jd)) jd)))
def XT:FS:=(jg (jH (Jw (jf v4 (ja 1) (jr j6 (Jr (ja 0) jd)))) (j3 (jf jv (ja 0) (ja 1))) J6) (j3 (dC (.int 0))))
def Kl:Yt->Res D:=jB 2 2 XT
def Ah (ns:Yf)(k:Nat):Kl [.scr ns,.int k]=.ok (.int (Vi ns k)):=by
 unfold Vi;by_cases h:k<ns.length
 .have e:jR ns (k:Int)=some ns[k]:=by rw[BR h];simp
  simp_all [Kl,XT]
 .simp[Kl,XT,h]
def Ql:FS:=(jg (jl 2 (jf jv (qg (ZN [.int 2,.int 1,.int 2,.int 0,.int 2,.int 1,.int 2,.int 3])) (jf jD (ja 0) (dC (.int 8))))) (jg (jH (Q2 (Jw (jf jZ (ja 2) (dC (.int 3)))) (Jw (jf zT (jf jD (jf JW (ja 0) (dC (.int 8))) (dC (.int 4))) (dC (.int 0))))) (jl 2 (dC (.int 2))) J6) (jg (jH (xH (Jw (jf jZ (ja 2) (dC (.int 3)))) (Jw (jf jZ (jf jD (jf JW (ja 0) (dC (.int 8))) (dC (.int 5))) (dC (.int 0))))) (j3 (ja 2)) J6) (jg (jH (Jw (jf jZ (ja 1) (jK qS (dC (.int 1))))) (j3 (dC (.int 0))) J6) (jg (jH (Q2 (Jw (jf jZ (ja 2) (dC (.int 1)))) (Jw (jf jZ (ja 1) (dC (.int 2))))) (j3 (dC (.int 2))) J6) (j3 (ja 2)))))))
def Qc:Yt->Res D:=jB 3 2 Ql
def bp (c l:Int):∃f:Int,(f=0\/f=1\/f=2\/f=3)/\Qc [.int c,.int l]=.ok (.int f):=by
 obtain⟨g,hg,e⟩:∃g:Int,(g=0\/g=1\/g=2\/g=3)/\jR [D.int 2,D.int 1,D.int 2,D.int 0,D.int 2,D.int 1,D.int 2,D.int 3] (c % 8)=some (.int g):=by
  have:c % 8=0\/c % 8=1\/c % 8=2\/c % 8=3\/c % 8=4\/c % 8=5\/c % 8=6\/c % 8=7:=()
  rcases this with q|q|q|q|q|q|q|q<;>rw[q]
  .exact⟨2,(),rfl⟩
  .exact⟨1,(),rfl⟩
  .exact⟨2,(),rfl⟩
  .exact⟨0,(),rfl⟩
  .exact⟨2,(),rfl⟩
  .exact⟨1,(),rfl⟩
  .exact⟨2,(),rfl⟩
  .exact⟨3,(),rfl⟩
 by_cases a:c / 8 % 5=0<;>by_cases b:l = -1
 .rcases hg with rfl|rfl|rfl|rfl
  .exact⟨0,(),by simp[Qc,Ql,e,a]⟩
  .exact⟨1,(),by simp[Qc,Ql,e,a]⟩
  .exact⟨2,(),by simp[Qc,Ql,e,a]⟩
  .by_cases k:0<c / 8 % 4
   .exact⟨2,(),by simp[Qc,Ql,e,a,k]⟩
   .exact⟨3,(),by simp[Qc,Ql,e,a,k]⟩
 .rcases hg with rfl|rfl|rfl|rfl
  .exact⟨0,(),by simp[Qc,Ql,e,a]⟩
  .exact⟨1,(),by simp[Qc,Ql,e,a]⟩
  .exact⟨2,(),by simp[Qc,Ql,e,a]⟩
  .by_cases k:0<c / 8 % 4
   .exact⟨2,(),by simp[Qc,Ql,e,a,k]⟩
   .exact⟨3,(),by simp[Qc,Ql,e,a,k]⟩
 .rcases hg with rfl|rfl|rfl|rfl
  .exact⟨0,(),by simp[Qc,Ql,e,a,b]⟩
  .simp_all [Qc,Ql]
  .simp_all [Qc,Ql]
  .by_cases k:0<c / 8 % 4
   .exact⟨0,(),by simp[Qc,Ql,e,a,b,k]⟩
   .exact⟨3,(),by simp[Qc,Ql,e,k]⟩
 .rcases hg with rfl|rfl|rfl|rfl
  .exact⟨0,(),by simp[Qc,Ql,e,a,b]⟩
  .by_cases q:l=2
   .exact⟨2,(),by simp[Qc,Ql,e,a,q]⟩
   simp_all [Qc,Ql]
  .simp_all [Qc,Ql]
  .by_cases k:0<c / 8 % 4
   .exact⟨2,(),by simp[Qc,Ql,e,a,b,k]⟩
   .exact⟨3,(),by simp[Qc,Ql,e,k]⟩
def Ai:FS:=(jg (jl 2 (dC (.str "abcdefghijklmnopqrstuvwxyz0123456789"))) (jg (jl 3 (qg (Jr (dC (.str "plan")) (Jr (dC (.str "given")) (Jr (dC (.str "all")) (Jr (dC (.str "first")) (Jr (dC (.str "part")) jd))))))) (jg (qr (v3 (Jr (jf jk (jr j6 (Jr (ja 1) jd)) (dC (.int 6))) jd)) (.one 4) (jg (jl 5 (jf jv (ja 2) (jf jD (jf jk (ja 0) (ja 4)) (dC (.int 26))))) (jg (jl 6 (jf JW (jf jk (ja 0) (ja 4)) (dC (.int 26)))) (jg (K6 (Jw (jf zT (ja 6) (dC (.int 0)))) (jg (jl 5 (jf jk (ja 5) (jf jv (ja 2) (jf jD (ja 6) (dC (.int 36)))))) (jl 6 (jf JW (ja 6) (dC (.int 36))))) 60) (jH (Q2 (Jw (jf (qX true) (ja 5) (ja 1))) (Jw (jf (qX true) (ja 5) (ja 3)))) (j3 (ja 5)) J6))))) (j3 (dC (.str ""))))))
def XU:Yt->Res D:=jB 7 2 Ai
def wC:FT:=Jw (jf zT (ja 6) (dC (.int 0)))
def wB:FS:=jg (jl 5 (jf jk (ja 5) (jf jv (ja 2) (jf jD (ja 6) (dC (.int 36)))))) (jl 6 (jf JW (ja 6) (dC (.int 36))))
theorem Ga {x0 x1 x3 x4:Option SV}:∀(f n:Nat) (a:Yg),n<36 ^ f->a.length+f<=100->K6 wC wB (f+1) [x0,x1,~~~(.str zm),x3,x4,~~~(.str (zS a)),~~~(.int n)] =
 .ok (.next [x0,x1,~~~(.str zm),x3,x4,~~~(.str (zS (a++qJ f n))),~~~(.int 0)])
 |f,n,a,hn,ha=>by
  by_cases z:n=0
  .subst z;have e:qJ f 0=[]:=by cases f<;>simp[qJ]
   rw[e,ZA];rw[FW];simp[wC]
  .cases f with
   |zero=>lia
   |succ f =>
    have b:=FF (k:=(n:Int) % 36) () ();rw[show((n:Int) % 36).toNat=n % 36 by lia] at b;have c:jk (.str (zS a)) (.str ⟨#[qU (n % 36)]⟩)=some (.str (zS (a++[qU (n % 36)]))):=by
     rw[<- P9];refine Zd (small ?_);rw[Pz];show a.length+1<=1000;lia
    have d:=Ga (x0:=x0) (x1:=x1) (x3:=x3) (x4:=x4) f (n / 36) (a++[qU (n % 36)]) (UM ()) (by rw[Uf,UO];lia);have g:qJ (f+1) n=qU (n % 36)::qJ f (n / 36):=by
     show(if n=0 then _ else _)=_;rw[Ze z]
    simp_all [FW,wC,wB]
def nB:FS:=(jg (jl 5 (jf jv (ja 2) (jf jD (jf jk (ja 0) (ja 4)) (dC (.int 26))))) (jg (jl 6 (jf JW (jf jk (ja 0) (ja 4)) (dC (.int 26)))) (jg (K6 wC wB 60) (jH (Q2 (Jw (jf (qX true) (ja 5) (ja 1))) (Jw (jf (qX true) (ja 5) (ja 3)))) (j3 (ja 5)) J6))))
def PY {n k:Nat}{b:Yh}{x5 x6:Option SV}(d:n+k<26*36 ^ 11)(e:∀u∈b,asc u):∃f g,nB [~~~(.int n),~~~(.lst (b.map .str)),~~~(.str zm),~~~(.lst (yC.map .str)),~~~(.int k),x5,x6] =
 if Qa (n+k)∉b/\Qa (n+k)∉yC then .ok (.ret (.str (Qa (n+k)))) else .ok (.next [~~~(.int n),~~~(.lst (b.map .str)),~~~(.str zm),~~~(.lst (yC.map .str)),~~~(.int k),f,g]):=by
 have c:=FF (k:=((n:Int)+k) % 26) () ();rw[show(((n:Int)+k) % 26).toNat=(n+k) % 26 by lia] at c;have hw:=Ga (x0:= ~~~(.int n)) (x1:= ~~~(.lst (b.map .str))) (x3:= ~~~(.lst (yC.map .str))) (x4:= ~~~(.int k)) 59 ((n+k) / 26) [qU ((n+k) % 26)] (Zg (UM d) FN) ();have h:zS ([qU ((n+k) % 26)]++qJ 59 ((n+k) / 26))=Qa (n+k):=rfl;have i:(⟨#[qU ((n+k) % 26)]⟩:Str)=zS [qU ((n+k) % 26)]:=rfl;rw[i] at c;rw[h,show(((n+k) / 26:Nat):Int)=((n:Int)+k) / 26 by lia] at hw;have j:=FU (neg:=true) (BX (n+k)) P8;refine⟨~~~(.str (Qa (n+k))),~~~(.int 0),?_⟩;unfold nB;simp[c,hw,(FU (BX (n+k)) e)];by_cases a:Qa (n+k)∈b
 .simp[a]
 simp_all
theorem Gb {n:Nat}{a:Yh}(b:∀u∈a,asc u):∀(ks:Yg) (x4 x5 x6:Option SV),(∀k∈ks,n+k<26*36 ^ 11)->(∃k∈ks,Qa (n+k)∉a/\Qa (n+k)∉yC) ->
 ∃k∈ks,(Qa (n+k)∉a/\Qa (n+k)∉yC)/\qb (.one 4) nB (ks.map λk:Nat=>D.int k) [~~~(.int n),~~~(.lst (a.map .str)),~~~(.str zm),~~~(.lst (yC.map .str)),x4,x5,x6]=.ok (.ret (.str (Qa (n+k))))
 | [],_,_,_,_,h=>by simp_all
 |k::ks,x4,x5,x6,hb,h=>by
  obtain⟨f,g,e⟩:=PY (x5:=x5) (x6:=x6) (hb k Zqs) b;by_cases c:Qa (n+k)∉a/\Qa (n+k)∉yC
  .simp_all [Ws]
  .obtain⟨j,hj,i,m⟩:=Gb b ks (~~~(.int k)) f g (λz l=>hb z (Zqm _ l)) (by
    obtain⟨j,hj,d⟩:=h;rcases Uj.mp hj with rfl|hj
    .exact Zn d c
    .exact⟨j,hj,d⟩)
   refine⟨j,Zqm _ hj,i,?_⟩
   simp_all [Ws]
def bw {n:Nat}{a:Yh}(d:n+a.length+6<26*36 ^ 11)(p:a.length<=100)(f:∀u∈a,asc u):∃w,XU [.int n,.lst (a.map .str)]=.ok (.str w)/\vM w/\w∉a:=by
 obtain⟨k0,g,h⟩:=P6 d;obtain⟨k,b,⟨i,j⟩,e⟩:=Gb f (List.range (a.length+6)) none none none (λk b=>by rw[List.mem_range] at b;lia) ⟨k0,Jh.mpr g,h⟩;rw[List.mem_range] at b;refine⟨Qa (n+k),?_,⟨n+k,(),rfl,j⟩,i⟩;have l:WL [.int ((a.length:Int)+6)]=.ok ((List.range (a.length+6)).map λk:Nat=>D.int k):=by
  rw[Bn () ()];show Res.ok ((List.range ((a.length:Int)+6).toNat).map λk:Nat=>D.int (0+k))=_
  grind
 unfold XU Ai;have m:D.lst [D.str "plan",D.str "given",D.str "all",D.str "first",D.str "part"]=.lst (yC.map .str):=rfl;have o:D.str "abcdefghijklmnopqrstuvwxyz0123456789" = .str zm:=rfl;have c:=e;unfold nB wC wB at c;simp[l,m,o,c]
def Aj:FS:=(jg (jl 2 (jf jD (J1 Kl (Jr (ja 0) (Jr (dC (.int 0)) jd))) (jf qu (dC (.int 26)) (jf yy (dC (.int 36)) (dC (.int 10)))))) (jg (jl 3 (jf jv (qg (Jr (dC (.int 1)) (Jr (dC (.int 26)) (Jr (dC (.int 936)) (Jr (dC (.int 33696)) (Jr (dC (.int 1213056)) jd)))))) (jf jD (J1 Kl (Jr (ja 0) (Jr (dC (.int 1)) jd))) (dC (.int 5))))) (jg (xx 4 (qg jd)) (jg (qr (v3 (Jr (ja 1) jd)) (.one 5) (Ky 4 (xX [4] (J1 XU (Jr (jf jk (ja 2) (jf qu (ja 5) (ja 3))) (Jr (ja 4) jd)))))) (Wh 4)))))
def XV:Yt->Res D:=qR 6 2 Aj
def bu {ns:Yf}{many:Nat}(t:many<=40):∃ws:Yh,XV [.scr ns,.int many]=.ok (.lst (ws.map .str))/\ws.length=many/\ws.Nodup/\∀w∈ws,vM w:=by
 have v:Kl [.scr ns,.int 0]=.ok (.int (Vi ns 0)):=Ah ns 0;have y:Kl [.scr ns,.int 1]=.ok (.int (Vi ns 1)):=Ah ns 1;have p:yy (.int 36) (.int 10)=some (.int 3656158440062976):=rfl;have A:qu (.int 26) (.int 3656158440062976)=some (.int 95060119441637376):=rfl;have B:(95060119441637376:Nat)*36=26*36 ^ 11:=by decide +kernel
 obtain⟨b,hb,b0,b1⟩:∃b:Nat,Vi ns 0 % 95060119441637376=(b:Int)/\0<=b/\b<95060119441637376:=⟨(Vi ns 0 % 95060119441637376).toNat,(),(),()⟩;obtain⟨q,hq,q0,q5⟩:∃q:Int,Vi ns 1 % 5=q/\0<=q/\q<5:=⟨_,rfl,(),()⟩;obtain⟨st,hst,hs⟩:∃st:Nat,jR [D.int 1,D.int 26,D.int 936,D.int 33696,D.int 1213056] q=some (.int st)/\st<=1213056:=by
  have:q=0\/q=1\/q=2\/q=3\/q=4:=()
  rcases this with rfl|rfl|rfl|rfl|rfl
  .exact⟨1,rfl,()⟩
  .exact⟨26,rfl,()⟩
  .exact⟨936,rfl,()⟩
  .exact⟨33696,rfl,()⟩
  .exact⟨1213056,rfl,()⟩
 have C:WL [.int many]=.ok (Qy 0 many):=by rw[Bn () (),Int.toNat_natCast]
 obtain⟨sd,e,ws,f,j,d,g,hw⟩:=Xx (tg:=.one 5) (b:=Ky 4 (xX [4] (J1 XU (Jr (jf jk (ja 2) (jf qu (ja 5) (ja 3))) (Jr (ja 4) jd))))) (ds:=Qy 0 many)
  (P:=λi sd=>∃(ws:Yh) (f:Option SV),sd=[~~~(.scr ns),~~~(.int many),~~~(.int b),~~~(.int st),some (.own false (.lst (ws.map .str))),f]/\ws.length=i/\ws.Nodup/\∀w∈ws,vM w) ⟨[],none,rfl,rfl,.nil,λw hw=>by cases hw⟩ (by
   rintro i x sd hx ⟨ws,f,rfl,d,g,hw⟩;obtain⟨rfl,E⟩:=M9 hx;have l:i*st<=40*1213056:=Nat.mul_le_mul () hs;have ⟨w,e,F,m⟩:=bw (n:=b+i*st) () () λu o=>(hw u o).ok.asc;have h:qu (.int (i:Int)) (.int st)=some (.int ((i*st:Nat):Int)):=by
    rw[Bm (M5 () ())];simp
   have r:ws.length<sizeLine:=Qr ();refine⟨[~~~(.scr ns),~~~(.int many),~~~(.int b),~~~(.int st),some (.own false (.lst ((ws++[w]).map .str))),~~~(.int (0+(i:Int)))],?_,ws++[w],_,rfl,by simp[d],?_,λx hx=>?_⟩
   .simp[Int.natCast_mul] at e h;simp[h,e,r]
   .exact Jl.mpr ⟨g,List.pairwise_singleton _ _,λa G c s z=>m (by rw[Jb.mp s] at z;rwa [<- z])⟩
   .rcases Jc.mp hx with z|z
    .exact hw x z
    .rwa [Jb.mp z])
 rw[Em] at d;refine⟨ws,?_,d,g,hw⟩
 simp_all [XV,Aj]
def yk:FS:=(jg (jH (xH (Q1 (Jw (QX xP xP (dC (.int 1)) (jr j6 (Jr (ja 0) jd)) (dC (.int 12))))) (xH (Jw (jf (qX false) (ja 0) (dC (.tup (List.map .str ["plan", "given", "all", "first", "part"]))))) (Jw (jf (qN true) (jf jv (ja 0) (dC (.int 0))) (dC (.str "abcdefghijklmnopqrstuvwxyz")))))) (j3 (dC (.bl false))) J6) (j3 (jr yZ (Jr (Q3 [none] (wo (ja 0)) (.one 0) (yI (jf (qN false) (ja 0) (dC (.str "abcdefghijklmnopqrstuvwxyz"))) (jf (qN false) (ja 0) (dC (.str "0123456789"))))) jd))))
def qj:Yt->Res D:=jB 1 1 yk
def kB (x:Str):Bool:=(List.map D.str ["plan", "given", "all", "first", "part"]).any λe=>sameD e (.str x)
def LT:Yg:=("abcdefghijklmnopqrstuvwxyz" : Str).cps.toList
def FG:Yg:=("0123456789" : Str).cps.toList
def Vm (x:Str):Bool:=decide (1<=x.length/\x.length<=12)&&(!kB x&&(decide (x.cps.toList.headD 0∈LT)&&x.cps.toList.all λc=>decide (c∈LT)||decide (c∈FG)))
def PZ {n:Nat}{x:Str}(h:TxtOk n x):qX false (.str x) (.tup (List.map D.str ["plan", "given", "all", "first", "part"]))=some (.bl (kB x)):=by
 have p:plN 12 (.str x)=true:=by
  show PyData.strOk x=true;unfold PyData.strOk;rw[<- U1,Ul];exact λc a=>Zp (UB (xu.mp h.asc c a) ())
 have q:(List.map D.str ["plan", "given", "all", "first", "part"]).all (plN 12)=true:=by decide +kernel
 show(if plN 12 (.str x)&&(List.map D.str ["plan", "given", "all", "first", "part"]).all (plN 12) then some (D.bl (if false=true then _ else kB x)) else none)=_;rw[p,q];rfl
def wv {n:Nat}{x:Str}(h:TxtOk n x)(s:n<=1000):qj [.str x]=.ok (.bl (Vm x)):=by
 have j:=XM h s;have b:=PZ h;have t:zc x=true:=h.asc;unfold Vm;by_cases c:1<=x.length/\x.length<=12
 .rw[Zp c,Bool.true_and];have d:(1:Int)<=(x.length:Int):=()
  have m:(x.length:Int)<=12:=()
  cases k:kB x with
  |true =>
   rw[k] at b;simp[qj,yk,j,d,m] at b ⊢;simp[b]
  |false =>
   rw[k] at b;obtain⟨e,hx,f,_⟩:=BT (k:=0) h s () ();have u:x.cps.toList.headD 0=e:=by
    have f:x.cps.toList[0]? = some e:=f;cases l:x.cps.toList with
    |nil=>rw[l] at f;cases f
    |cons a y=>rw[l] at f;exact Zqi f
   have g:=Xz true e "abcdefghijklmnopqrstuvwxyz";rw[u];have o:qm (.one 0) (yI (jf (qN false) (ja 0) (dC (.str "abcdefghijklmnopqrstuvwxyz"))) (jf (qN false) (ja 0) (dC (.str "0123456789")))) [none] (zr x)=.ok ((x.cps.toList.map λc=>decide (c∈LT)||decide (c∈FG)).map .bl):=by
    rw[Zw];refine KW λc _=>?_;have i:=Xz false c "abcdefghijklmnopqrstuvwxyz";have q:=Xz false c "0123456789";have i:qN false (.str ⟨#[c]⟩) (.str "abcdefghijklmnopqrstuvwxyz")=some (.bl (decide (c∈LT))):=i;have q:qN false (.str ⟨#[c]⟩) (.str "0123456789")=some (.bl (decide (c∈FG))):=q;cases p:decide (c∈LT) with
    |true=>rw[p] at i;simp[i,p]
    |false=>rw[p] at i;simp[i,q,p]
   have r:=YY (x.cps.toList.map λc=>decide (c∈LT)||decide (c∈FG));have v:(x.cps.toList.map λc=>decide (c∈LT)||decide (c∈FG)).all id=x.cps.toList.all λc=>decide (c∈LT)||decide (c∈FG):=by rw[List.all_map];rfl
   rw[v] at r;generalize (x.cps.toList.map λc=>decide (c∈LT)||decide (c∈FG)).map D.bl=bs at o r;have w:(zr x).length<sizeLine:=Qr (by unfold zr;rw[Zql,Uc];have:x.length=x.cps.size:=rfl;lia);have g:qN true (.str ⟨#[e]⟩) (.str "abcdefghijklmnopqrstuvwxyz")=some (.bl (!decide (e∈LT))):=g;cases p:decide (e∈LT) with
   |true =>
    rw[p] at g;simp[qj,yk,j,d,m] at b hx ⊢;simp[b,hx,g,t,w,o,r]
   |false =>
    rw[p] at g;simp[qj,yk,j,d,m] at b hx ⊢;simp[b,hx,g]
 .rw[Zo c,Bool.false_and];have z:¬((1:Int)<=(x.length:Int)/\(x.length:Int)<=12):=()
  by_cases d:(1:Int)<=(x.length:Int)
  .have m:¬(x.length:Int)<=12:=()
   simp[qj,yk,j,d,m]
  .simp[qj,yk,j,d]
def Wv:FS:=(jg (jl 2 (xY (ja 1) (K4 (jr j6 (Jr (ja 0) jd))) Ki)) (j3 (sI (Q2 (Jw (j7 XE (ja 1) (ja 0))) (Jw (J1 qj (Jr (ja 2) jd)))) (ja 2) (dC .non))))
def Qw:Yt->Res D:=jB 3 2 Wv
def VR:FS:=(j3 (W8 (QX xP xP (dC (.int 1)) (jr j6 (Jr (ja 0) jd)) (dC (.int 30))) (W8 (jf yz (jf jv (ja 0) (dC (.int 0))) (dC (.str "0"))) (jr yZ (Jr (Q3 [none] (wo (ja 0)) (.one 0) (jf (qN false) (ja 0) (dC (.str "0123456789")))) jd)))))
def KH:Yt->Res D:=jB 1 1 VR
def VT:FS:=(jg (jH (Jw (J1 qj (Jr (ja 0) jd))) (j3 (qf (Jr (ja 0) (Jr (dC (.int 0)) jd)))) J6) (jg (qr (iS (qf (Jr (dC (.str "+")) (Jr (dC (.str "-")) jd)))) (.one 1) (jg (jl 2 (j7 QZ (ja 0) (ja 1))) (jH (Q2 (Jw (jf jZ (jr j6 (Jr (ja 2) jd)) (dC (.int 2)))) (Q2 (Jw (J1 qj (Jr (jf jv (ja 2) (dC (.int 0))) jd))) (Jw (J1 KH (Jr (jf jv (ja 2) (dC (.int 1))) jd))))) (j3 (qf (Jr (jf jv (ja 2) (dC (.int 0))) (Jr (jr Vt (Jr (jf jk (ja 1) (jf jv (ja 2) (dC (.int 1)))) jd)) jd)))) J6))) (j3 (dC .non))))
def QF:Yt->Res D:=jB 3 1 VT
def WZ:FS:=(jg (jl 3 (Q3 [none] (iS (j7 QZ (j7 WT (dC (.str " ")) (ja 2)) (dC (.str ", ")))) (.one 0) (J1 QF (Jr (ja 0) jd)))) (j3 (sI (Jw (jf (qX false) (dC .non) (ja 3))) (dC .non) (qf (Jr (ja 0) (Jr (ja 1) (Jr (ja 3) jd)))))))
def Vu:Yt->Res D:=jB 4 3 WZ
def Kc:FS:=(jg (jl 1 (j7 QZ (ja 0) (dC (.str " ")))) (jg (jH (xH (Jw (jf v4 (jr j6 (Jr (ja 1) jd)) (dC (.int 4)))) (xH (Jw (jf yz (jf jv (ja 1) (dC (.int 0))) (dC (.str "")))) (Q1 (Jw (J1 qj (Jr (jf jv (ja 1) (dC (.int 1))) jd)))))) (j3 (dC .non)) J6) (jg (jH (Jw (jf (qX false) (jf jv (ja 1) (dC (.int 2))) (qf (Jr (dC (.str "all")) (Jr (dC (.str "first")) jd))))) (j3 (J1 Vu (Jr (jf jv (ja 1) (dC (.int 1))) (Jr (jf jv (ja 1) (dC (.int 2))) (Jr (sH (ja 1) (K4 (dC (.int 3))) Ki Ki) jd))))) J6) (jg (jH (Q2 (Jw (jf jZ (jf jv (ja 1) (dC (.int 2))) (dC (.str "part")))) (Jw (J1 qj (Jr (jf jv (ja 1) (dC (.int 3))) jd)))) (j3 (J1 Vu (Jr (jf jv (ja 1) (dC (.int 1))) (Jr (jf jv (ja 1) (dC (.int 3))) (Jr (sH (ja 1) (K4 (dC (.int 4))) Ki Ki) jd))))) J6) (j3 (dC .non))))))
def Qp:Yt->Res D:=jB 2 1 Kc
def KI:qy:=(qG (zL (jl 3 (J1 Qw (Jr (dC (.str " given ")) (Jr (ja 2) jd))))) (qG (zL (jl 4 (J1 Qp (Jr (ja 2) jd)))) (qG (Wo (vj 6 [0] (Q2 (Jw (jK (qD true) (ja 3))) (Jw (jf jZ (jK (j0 "Draft" "rows") (ja 0)) (qg jd))))) (qG (z0 (wa "Draft" "givens" (vL (ja 0))) (vL (ja 3))) (yd (vL (dC (.bl true))))) VJ) (qG (Wo (nn (Jw (jK (qD true) (ja 4)))) (qG (z0 (wa "Draft" "rows" (vL (ja 0))) (vL (qf (Jr (ja 1) (Jr (ja 4) jd))))) (yd (vL (dC (.bl true))))) VJ) (yd (vL (dC (.bl false))))))))
def VU:Yt->HP->Wr (D×HP):=xT 5 3 KI
def KJ:qy:=(qG (zL (jl 3 (J1 Qw (Jr (dC (.str "plan ")) (Jr (ja 2) jd))))) (qG (Wo (nn (Jw (jK (qD true) (ja 3)))) (qG (z0 (vL (ja 0)) (BM "Draft" Ag (K5 (vL (ja 3)) xQ))) (yd (vL (dC (.bl true))))) VJ) (yd (vk (sX 6 [0] (jf yH (ja 0) (qg jd))) (BF VU (K5 (sY (vL (ja 0)) (vL (jK qS (dC (.int 1))))) (K5 (vL (ja 1)) (K5 (vL (ja 2)) xQ))))))))
def Kd:Yt->HP->Wr (D×HP):=xT 4 3 KJ
def Vv:qy:=(qG (zY 1 (yT xQ)) (qG (zy (wq (Jr (j7 QZ (ja 0) (dC (.str "\n"))) jd)) (.tup [2,3]) (Wo (ZS (Wp (ZX Kd (K5 (vL (ja 1)) (K5 (vL (ja 2)) (K5 (vL (ja 3)) xQ)))))) (zL (Vg "BadRow" (ja 2))) VJ)) (yd (vL (ja 1)))))
def cN (ds:Yt)(d:D):Prop:=ds.length=1/\((Vv (Qk 4 ds) []).bind ql).need (λp=>dr p.2 6 p.1=d) λ_ _=>False
def cM (ds:Yt)(n:Int):Prop:=ds.length=1/\((Vv (Qk 4 ds) []).bind ql).need (λ_=>False) λc fs=>c = "BadRow" /\ fs=[.int n]
open Classical in
def Vn:Yt->Res D:=λds=>if h:∃d,cN ds d then .ok (choose h) else if h:∃n,cM ds n then .ex "BadRow" [.int (choose h)] else .no
def uC:∀ds d,Vn ds=.ok d->ds.length=1/\((Vv (Qk 4 ds) []).bind ql).need (λp=>dr p.2 6 p.1=d) λ_ _=>False:=λds d h=>by
 unfold Vn at h
 split at h
 .rename_i e;have:=UP e;cases h;exact this
 .split at h<;>cases h
def uu:∀ds c fs,Vn ds=.ex c fs->ds.length=1/\((Vv (Qk 4 ds) []).bind ql).need (λ_=>False) λb a=>b=c/\a=fs:=λds c fs h=>by
 unfold Vn at h
 split at h
 .cases h
 .split at h
  .rename_i e;have:=UP e;cases h;exact this
  .cases h
def zM:FS:=(j3 (W8 (jr yZ (Jr (Q3 [none] (iS (ja 0)) (.one 0) (J1 qj (Jr (ja 0) jd))) jd)) (jf jZ (jr ZL (Jr (ja 0) jd)) (jr j6 (Jr (ja 0) jd)))))
def yO:Yt->Res D:=jB 1 1 zM
def Ra:∀k:Fin 10,FG[k.val]? = some (48+k.val):=by decide +kernel
theorem Gc {c:Nat}(h:yG c=true):c∈LT:=by
 unfold yG at h;rw[Ua,decide_eq_true_eq,decide_eq_true_eq] at h;have:=Pt ⟨c-97,()⟩;rw[show 97+(c-97)=c by lia] at this;exact Uh this
def Gd {c:Nat}(h:yf c=true):c∈FG:=by
 unfold yf at h;rw[Ua,decide_eq_true_eq,decide_eq_true_eq] at h;have:=Ra ⟨c-48,()⟩;rw[show 48+(c-48)=c by lia] at this;exact Uh this
def Cf {x:Str}(h:Qt x=true):Vm x=true:=by
 unfold Qt at h;rw[Ua,Ua,Ua,Ua,decide_eq_true_eq,decide_eq_true_eq] at h;obtain⟨i,j,e,l,b⟩:=h;have k:kB x=false:=by
  unfold kB;rw[List.any_eq_false];intro d f;obtain⟨w,hw,rfl⟩:=Ja.mp f;have:=Ul.mp e w hw;rw[UH,decide_eq_false_iff_not] at this;rw[Bool.not_eq_true,zw];intro z;injection z with z
  exact this z
 have a:(x.cps.toList.all λc=>decide (c∈LT)||decide (c∈FG))=true:=by
  rw[Ul] at b ⊢;intro c g;rcases Bool.or_eq_true_iff.mp (b c g) with z|z
  .rw[Zp (Gc z)];rfl
  .rw[Zp (Gd z),UI]
 grind[Vm,decide_eq_true,Gc]
def zN:FS:=(jg (jH (Q1 (Jw (U8 yO (Jr (Q3 [none] (iS (jK (j0 "Book" "plans") (ja 0))) (.one 0) (jK (j0 "Plan" "name") (ja 0))) jd)))) (Qs "BadName" (dC (.str "a plan's name is no name or stands twice"))) J6) (qr (iS (jK (j0 "Book" "plans") (ja 0))) (.one 1) (jH (Q1 (Jw (U8 yO (Jr (jf jk (jK (j0 "Plan" "givens") (ja 1)) (Q3 [none,none,none] (iS (jK (j0 "Plan" "rows") (ja 1))) (.tup [0,1,2]) (ja 0))) jd)))) (Qs "BadName" (dC (.str "a thing's name is no name or stands twice in its plan"))) J6)))
def zP:Yt->Res D:=jB 2 1 zN
def wM:FS:=(j3 (jf (qX true) (ja 0) (qf (Jr (dC (.str "all")) (Jr (dC (.str "first")) jd)))))
def yA:Yt->Res D:=jB 1 1 wM
def bn {how:Str}(h:asc how):yA [.str how]=.ok (.bl (xO how)):=by
 have p:plN 12 (.str how)=true:=Kq h;have q: [D.str "all",D.str "first"].all (plN 12)=true:=by decide +kernel
 have g:qX true (.str how) (.tup [.str "all",.str "first"])=some (.bl (xO how)):=by
  show(if plN 12 (.str how)&&[D.str "all",D.str "first"].all (plN 12) then some (D.bl (if true=true then !([D.str "all",D.str "first"].any λe=>sameD e (.str how)) else _)) else none)=_;rw[p,q];unfold xO sameD;have a:decide (("all" : Str)=how)=decide (how = "all"):=decide_eq_decide.mpr eq_comm;have b:decide (("first" : Str)=how)=decide (how = "first"):=decide_eq_decide.mpr eq_comm;simp[a,b]
 simp[yA,wM,g]
def wP:FS:=(jg (xx 1 Xv) (qr (iS (jK (j0 "Book" "plans") (ja 0))) (.one 2) (jg (qr (iS (jK (j0 "Plan" "rows") (ja 2))) (.tup [3,4,5]) (jH (Q2 (Jw (U8 yA (Jr (ja 4) jd))) (Jw (jf yz (ZM [1] (X5 (ja 1) (ja 4))) (jr j6 (Jr (ja 5) jd))))) (Qs "BadPart" ((yB Kj (ja 3) (jT " is made by no plan ahead that has as many given things as it has items" qH)) Str.empty)) J6)) (Wl 1 (jK (j0 "Plan" "name") (ja 2)) (jr j6 (Jr (jK (j0 "Plan" "givens") (ja 2)) jd))))))
def wT:Yt->Res D:=jB 6 1 wP
def Ge (a:List Pl):(Vk a).map (·.1)=a.map (·.name):=by
 unfold Vk;rw[Zw];rfl
def wQ:FS:=(jg (jl 1 (jr j6 (Jr (jK (j0 "Plan" "givens") (ja 0)) jd))) (qr (iS (jK (j0 "Plan" "rows") (ja 0))) (.tup [2,3,4]) (jg (jH (Q1 (Jw (QX xP xP (dC (.int 1)) (jr j6 (Jr (ja 4) jd)) (dC (.int 40))))) (Qs "BadPlan" ((yB Kj (ja 2) (jT " has not 1 to 40 items" qH)) Str.empty)) J6) (jg (qr (iS (ja 4)) (.tup [5,6]) (jg (jH (Q1 (Jw (QX xP v4 (dC (.int 0)) (ja 5) (ja 1)))) (Qs "BadPlan" ((jT "an item of " (yB Kj (ja 2) (jT " is no thing ahead of it" qH))) Str.empty)) J6) (jH (Jw (jf re (jr zF (Jr (ja 6) jd)) (jf yy (dC (.int 10)) (dC (.int 30))))) (Qs "BadPlan" ((jT "a wait of " (yB Kj (ja 2) (jT " has more than 30 figures" qH))) Str.empty)) J6))) (z6 1 (dC (.int 1)))))))
def zO:Yt->Res D:=jB 7 1 wQ
def zi:FS:=(jg (jH (Q1 (Jw (QX xP xP (dC (.int 1)) (jr j6 (Jr (jK (j0 "Book" "plans") (ja 0)) jd)) (dC (.int 20))))) (Qs "BadPlan" (dC (.str "a book has 1 to 20 plans"))) J6) (qr (iS (jK (j0 "Book" "plans") (ja 0))) (.one 1) (jg (jH (Q1 (Jw (QX xP xP (dC (.int 1)) (jr j6 (Jr (jK (j0 "Plan" "givens") (ja 1)) jd)) (dC (.int 12))))) (Qs "BadPlan" (dC (.str "a plan has 1 to 12 given things"))) J6) (jg (jH (Q1 (Jw (QX xP xP (dC (.int 1)) (jr j6 (Jr (jK (j0 "Plan" "rows") (ja 1)) jd)) (dC (.int 40))))) (Qs "BadPlan" (dC (.str "a plan has 1 to 40 rows"))) J6) (Kx (J1 zO (Jr (ja 1) jd)))))))
def zj:Yt->Res D:=jB 2 1 zi
def wN:FS:=(jg (xx 1 Xv) (jg (qr (iS (jK (j0 "Book" "plans") (ja 0))) (.one 2) (jg (xx 3 (X1 [1] (Xw [none,none,none,some 1] (iS (jK (j0 "Plan" "rows") (ja 2))) (.tup [0,1,2]) (Jw (J1 yA (Jr (ja 1) jd))) (jf jv (ja 3) (ja 1))))) (Wl 1 (jK (j0 "Plan" "name") (ja 2)) (jf jk (jr j6 (Jr (jK (j0 "Plan" "rows") (ja 2)) jd)) (xX [3] (jr yX (Jr (ja 3) jd))))))) (Wh 1)))
def wR:Yt->Res D:=qR 4 1 wN
def dD {a:List Pl}(W:WB a):wR [JT a]=.ok (dT (xa a)):=by
 obtain⟨l,B,u2,u3,g⟩:=Xx (tg:=.one 2) (b:=(jg (xx 3 (X1 [1] (Xw [none,none,none,some 1] (iS (jK (j0 "Plan" "rows") (ja 2))) (.tup [0,1,2]) (Jw (J1 yA (Jr (ja 1) jd))) (jf jv (ja 3) (ja 1))))) (Wl 1 (jK (j0 "Plan" "name") (ja 2)) (jf jk (jr j6 (Jr (jK (j0 "Plan" "rows") (ja 2)) jd)) (xX [3] (jr yX (Jr (ja 3) jd))))))) (ds:=a.map JL)
  (sd:=[~~~(JT a),some (.own false (.dct [] [])),none,none])
  (P:=λi sd=>∃(u2 u3:Option SV),sd=[~~~(JT a),some (.own false (dT (xa (a.take i)))),u2,u3]) ⟨none,none,rfl⟩ (by
   rintro i x sd hx ⟨u2,u3,rfl⟩;obtain⟨p,c,rfl⟩:=Vj hx;have m:=Uh c;obtain⟨t,ht⟩:∃t,xa (a.take i)=t:=⟨_,rfl⟩;have j:=W.fresh c;have n:=Py W i;have e:∀r∈p.rows,(qM t r.2.1).isSome=xO r.2.1:=λr d=>by rw[<- ht];exact W.part c d
   rw[ht] at j n;have o:=Qr (show p.rows.length<=1000 by have:=(W.sz p m).1;lia);have f:V9 (.tup [0,1,2]) (Jw (J1 yA (Jr (ja 1) jd))) (jf jv (ja 3) (ja 1)) [none,none,none,~~~(dT t)] (p.rows.map jJ)=.ok ((p.rows.filter λr=>xO r.2.1).map λr=>D.int ((qM t r.2.1).getD 0)):=MC (s:=λr=>[~~~(.str r.1),~~~(.str r.2.1),~~~(qW r.2.2),~~~(dT t)]) (λr _=>()) (λr d=>by
    have:=bn (W.hasc c d);simp[this]) (λr d q=>by
    have h:=e r d;rw[q] at h;obtain⟨v,u⟩:=Jm.mp h;simp[u])
   have w:=Pw (λr:Str×Str×Jp=>(qM t r.2.1).getD 0) (p.rows.filter λr=>xO r.2.1);have y:=Px (λr:Str×Str×Jp=>(qM t r.2.1).getD 0) (p.rows.filter λr=>xO r.2.1);have pt:=BV j (zZ t p);have z:=Qr (show t.length<=1000 from ());have tk:a.take (i+1)=a.take i++[p]:=by rw[Us,c];rfl
   have A:xa (a.take (i+1))=t++[(p.name,zZ t p)]:=by rw[tk,F9,ht]
   rw[A,<- pt,ht];simp[f,o,w,y];simp[dT,z,zZ])
 simp_all [wR,wN]
def wO:FS:=(qr (d5 (U8 wR (Jr (ja 0) jd))) (.tup [1,2]) (jH (Jw (jf zT (ja 2) (dC (.int 2000)))) (Qs "TooLong" ((jT "plan " (yB Kj (ja 1) (jT " has a weight of more than 2000" qH))) Str.empty)) J6))
def wS:Yt->Res D:=jB 3 1 wO
def Rb (t:List (Str×Int)):VI (t.map λp=>.inr p.1) (t.map λp=>.int p.2)=t.map λp=>D.tup [.str p.1,.int p.2]:=by
 unfold VI;rw[List.zipWith_map]
 induction t with
 |nil=>rfl
 |cons p t a=>rw[List.zipWith_cons_cons,a];rfl
def y9:FS:=(jg (Kx (J1 zP (Jr (ja 0) jd))) (jg (Kx (J1 zj (Jr (ja 0) jd))) (jg (Kx (J1 wT (Jr (ja 0) jd))) (Kx (J1 wS (Jr (ja 0) jd))))))
def ym:Yt->Res D:=jB 1 1 y9
def XX:FS:=(jg (qr (iS (ja 0)) (.tup [3,4]) (jH (Jw (jf (qX true) (ja 3) (ja 1))) (Vg "NoName" (ja 2)) J6)) (j3 (jr Xu (Jr (Q3 [none,none,some 1] (iS (ja 0)) (.tup [0,1]) (qf (Jr (jf jv (ja 2) (ja 0)) (Jr (ja 1) jd)))) jd))))
def VV:Yt->Res D:=jB 5 3 XX
def Ak:FS:=(jg (xx 1 Xv) (jg (qr (d6 (Jr (ja 0) jd)) (.tup [2,3]) (XJ 1 (ja 3) (ja 2))) (Wh 1)))
def Am:Yt->Res D:=qR 4 1 Ak
def XY:FS:=(jg (jl 1 (U8 Am (Jr (jf jk (jK (j0 "Draft" "givens") (ja 0)) (Q3 [none,none] (iS (jK (j0 "Draft" "rows") (ja 0))) (.tup [0,1]) (jf jv (ja 1) (dC (.int 0))))) jd))) (jg (xx 2 (qg jd)) (jg (qr (iS (jK (j0 "Draft" "rows") (ja 0))) (.tup [3,4]) (Ky 2 (qf (Jr (jf jv (ja 4) (dC (.int 0))) (Jr (jf jv (ja 4) (dC (.int 1))) (Jr (J1 VV (Jr (jf jv (ja 4) (dC (.int 2))) (Jr (ja 1) (Jr (ja 3) jd)))) jd)))))) (λsd=>(j3 (ZW "Plan" ["name", "givens", "rows"] Ce (Jr (jK (j0 "Draft" "name") (ja 0)) (Jr (jK (j0 "Draft" "givens") (ja 0)) (Jr (ja 2) jd))))) (qa [2] sd)))))
def KL:Yt->Res D:=qR 5 1 XY
def Ww:FS:=(jg (jl 1 (ZW "Book" ["plans"] Cd (Jr (Q3 [none] (iS (J1 Vn (Jr (ja 0) jd))) (.one 0) (J1 KL (Jr (ja 0) jd))) jd))) (jg (Kx (J1 ym (Jr (ja 1) jd))) (j3 (ja 1))))
def Ke:Yt->Res D:=jB 2 1 Ww
theorem Gf:∀c∈LT,yG c=true:=by
 have h:(LT.all yG)=true:=by decide +kernel
 exact Ul.mp h
def Gg:∀c∈FG,yf c=true:=by
 have h:(FG.all yf)=true:=by decide +kernel
 exact Ul.mp h
def Gh {x:Str}(h:Vm x=true):Qt x=true:=by
 unfold Vm at h;rw[Ua,Ua,Ua,decide_eq_true_eq,decide_eq_true_eq] at h;obtain⟨⟨g,i⟩,b,j,d⟩:=h;have k:(kept.all λw => !decide (w=x))=true:=by
  rw[Ul];intro w hw;by_cases e:w=x
  .subst e;have:kB w=true:=by
    unfold kB;rw[List.any_eq_true];exact⟨.str w,Ja.mpr ⟨w,hw,rfl⟩,Kz _⟩
   rw[this] at b;cases b
  .rw[Zo e];rfl
 have a:(x.cps.toList.all λc=>yG c||yf c)=true:=by
  rw[Ul] at d ⊢;intro c f;rcases Bool.or_eq_true_iff.mp (d c f) with z|z
  .rw[Gf c (of_decide_eq_true z)];rfl
  .rw[Gg c (of_decide_eq_true z),UI]
 grind[Qt,decide_eq_true,Gf]
def Rc (x:Str):Vm x=Qt x:=by
 cases h:Qt x with
 |true=>exact Cf h
 |false =>
  cases k:Vm x with
  |false=>rfl
  |true=>rw[Gh k] at h;cases h
def Gi {xs:Yh}(h:∀x∈xs,TxtOk 20 x)(l:xs.length<=920):∃b:Bool,yO [.lst (xs.map .str)]=.ok (.bl b)/\(b=true↔nK xs):=by
 have a:qm (.one 0) (J1 qj (Jr (ja 0) jd)) [none] (xs.map .str)=.ok ((xs.map Qt).map .bl):=by
  rw[Zw];exact KW λx hx=>by
   have:=wv (h x hx) ()
   simp_all [Rc]
 have d:=YY (xs.map Qt);obtain⟨n,g,i⟩:=PX (xs:=xs) ();have f:(xs.map D.str).length<sizeLine:=Qr ();have j:j6 [.lst (xs.map .str)]=some (.int xs.length):=by simp
 obtain⟨b,hb⟩:∃b,(xs.map Qt).all id=b:=⟨_,rfl⟩;have c:b=true↔∀x∈xs,Qt x=true:=by
  rw[<- hb,List.all_map,Ul];rfl
 rw[hb] at d;generalize (xs.map Qt).map D.bl=bs at a d;generalize xs.map D.str=ds at a g f j ⊢;cases b with
 |false =>
  refine⟨false,by simp[yO,zM,f,a,d],?_⟩;constructor
  .intro z;cases z
  .intro z;exact c.mpr z.1
 |true =>
  refine⟨decide (n=xs.length),?_,?_⟩
  .have e:decide ((n:Int)=(xs.length:Int))=decide (n=xs.length):=by grind
   simp_all [yO,zM]
  .rw[decide_eq_true_iff,i];exact⟨λz=>⟨c.mp rfl,z⟩,λz=>z.2⟩
def Re {a:List Pl}(S:SnB a):zP [JT a]=qK (mR a) "BadName" := by
 have t:=S.len;have u:=Qr (show a.length<=1000 from ());have k0:qm (.one 0) (jK (j0 "Plan" "name") (ja 0)) [none] (a.map JL)=.ok ((a.map (·.name)).map .str):=by
  rw[Zw];exact KW λp _=>by simp
 obtain⟨b,a0,g⟩:=Gi (λx hx=>by
  obtain⟨p,d,rfl⟩:=Ja.mp hx;exact(S.pl p d).nm) ()
 cases b with
 |false =>
  rw[Kb λz=>by have:=g.mpr z.1;cases this]
  simp_all [zP,zN]
 |true =>
  have o:(qb (.one 1) (jH (Q1 (Jw (U8 yO (Jr (jf jk (jK (j0 "Plan" "givens") (ja 1)) (Q3 [none,none,none] (iS (jK (j0 "Plan" "rows") (ja 1))) (.tup [0,1,2]) (ja 0))) jd)))) (Qs "BadName" (dC (.str "a thing's name is no name or stands twice in its plan"))) J6) (a.map JL) [~~~(JT a),none]).bind qz=qK (mR a) "BadName" := by
   refine Vr (R:=λz=>z.bind qz=qK (mR a) "BadName") (P:=λi sd=>(∀p∈a.take i,nK (vm p))/\∃e:Option SV,sd=[~~~(JT a),e]) () ?_ ?_
   .rintro sd ⟨h,e,rfl⟩;rw[Zql,Uw] at h;rw[Vl ⟨g.mp rfl,h⟩];rfl
   .rintro i x sd hx ⟨h,e,rfl⟩;obtain⟨p,d,rfl⟩:=Vj hx;have j:=Uh d;have P:=S.pl p j;have v:=P.sz;have l:=Qr (show p.rows.length<=1000 from ());have k1:qm (.tup [0,1,2]) (ja 0) [none,none,none] (p.rows.map jJ)=.ok ((p.rows.map (·.1)).map .str):=by
     rw[Zw];exact KW λr _=>by simp
    have f:jk (.lst (p.givens.map .str)) (.lst ((p.rows.map (·.1)).map .str))=some (.lst ((vm p).map .str)):=by
     unfold vm;rw[Ut];exact Zd (small (by rw[Zql,Zql,Zql];lia))
    have ⟨s,m,c⟩:=Gi (PU P) (by have:=PR P;lia);generalize (p.rows.map (·.1)).map D.str=ys at k1 f;cases s with
    |true =>
     refine .inl ⟨[~~~(JT a),~~~(JL p)],by simp[l,k1,f,m],λq n=>?_,_,rfl⟩;rw[Us,d] at n;rcases Jc.mp n with z|z
     .exact h q z
     .rw[Jb.mp z];exact c.mp rfl
    |false =>
     refine .inr ⟨"BadName",[],by simp[l,k1,f,m],?_⟩;rw[Kb λz=>by have:=c.mpr (z.2 p j);cases this];rfl
  simp_all [zP,zN]
def Gj {x:Str}(h:TxtOk 20 x):(reprText x).length<=400:=by
 have b:=StrLaws.reprText_len x λc a=>UB (xu.mp h.asc c a) (by decide);have:=h.len;lia
def gW {x c:Str}(h:TxtOk 20 x)(b:c.length<=100){i:Nat}{sd:SD}(a:ja i sd=.ok (.str x)):∃d,(yB Kj (ja i) (jT c qH)) Str.empty sd=.ok d:=by
 have r:=Gj h;have e:(Str.empty:Str).length=0:=rfl;have f:(reprText x).length<=sizeLine:=small ();have g:((Str.empty:Str)++reprText x).length<=sizeLine:=small (by rw[JS];lia);have j:((Str.empty:Str)++reprText x++c).length<=sizeLine:=small (by rw[JS,JS];lia);refine⟨.str (Str.empty++reprText x++c),?_⟩;unfold yB;rw[a,Res.bind_ok];show(if(reprText x).length<=sizeLine/\((Str.empty:Str)++reprText x).length<=sizeLine then jT c qH ((Str.empty:Str)++reprText x) sd else .no)=_
 simp_all [jT,qH]
def vw {x a c:Str}(h:TxtOk 20 x)(f:a.length<=100)(g:c.length<=100){i:Nat}{sd:SD}(e:ja i sd=.ok (.str x)):∃d,(jT a (yB Kj (ja i) (jT c qH))) Str.empty sd=.ok d:=by
 have r:=Gj h;have j:(Str.empty:Str).length=0:=rfl;have a0:((Str.empty:Str)++a).length<=sizeLine:=small (by rw[JS];lia);have l:(reprText x).length<=sizeLine:=small ();have m:((Str.empty:Str)++a++reprText x).length<=sizeLine:=small (by rw[JS,JS];lia);have n:((Str.empty:Str)++a++reprText x++c).length<=sizeLine:=small (by rw[JS,JS,JS];lia);refine⟨.str (Str.empty++a++reprText x++c),?_⟩;unfold jT;rw[Zd a0];unfold yB;rw[e,Res.bind_ok];show(if(reprText x).length<=sizeLine/\((Str.empty:Str)++a++reprText x).length<=sizeLine then(λb sd=>if(b++c).length<=sizeLine then qH (b++c) sd else .no) ((Str.empty:Str)++a++reprText x) sd else .no)=_
 simp_all [qH]
def Rf {p:Pl}(S:Sn p):zO [JL p]=qK (vY p) "BadPlan" := by
 have G:yy (.int 10) (.int 30)=some (.int 1000000000000000000000000000000):=rfl;have I:(" has not 1 to 40 items" : Str).length<=100:=by decide +kernel
 have J:("an item of " : Str).length<=100:=by decide +kernel
 have K:(" is no thing ahead of it" : Str).length<=100:=by decide +kernel
 have L:("a wait of " : Str).length<=100:=by decide +kernel
 have M:(" has more than 30 figures" : Str).length<=100:=by decide +kernel
 obtain⟨inner,hI⟩:∃b,(jg (jH (Q1 (Jw (QX xP v4 (dC (.int 0)) (ja 5) (ja 1)))) (Qs "BadPlan" ((jT "an item of " (yB Kj (ja 2) (jT " is no thing ahead of it" qH))) Str.empty)) J6) (jH (Jw (jf re (jr zF (Jr (ja 6) jd)) (jf yy (dC (.int 10)) (dC (.int 30))))) (Qs "BadPlan" ((jT "a wait of " (yB Kj (ja 2) (jT " has more than 30 figures" qH))) Str.empty)) J6))=b:=⟨_,rfl⟩;have N:(qb (.tup [2,3,4]) (jg (jH (Q1 (Jw (QX xP xP (dC (.int 1)) (jr j6 (Jr (ja 4) jd)) (dC (.int 40))))) (Qs "BadPlan" ((yB Kj (ja 2) (jT " has not 1 to 40 items" qH)) Str.empty)) J6) (jg (qr (iS (ja 4)) (.tup [5,6]) inner) (z6 1 (dC (.int 1))))) (p.rows.map jJ) [~~~(JL p),~~~(.int p.givens.length),none,none,none,none,none]).bind qz=qK (vY p) "BadPlan" := by
  refine Vr (R:=λz=>z.bind qz=qK (vY p) "BadPlan") (P:=λi sd=>(∀(k:Nat) (r:Str×Str×Jp),k<i->p.rows[k]? = some r->cX ((p.givens.length:Int)+k) r.2.2)/\∃u2 u3 u4 d e:Option SV,sd=[~~~(JL p),~~~(.int ((p.givens.length:Int)+i)),u2,u3,u4,d,e]) () ?_ ?_
  .rintro sd ⟨h,u2,u3,u4,d,e,rfl⟩;rw[Zql] at h;have ok:vY p:=λk r C=>h k r (Jd.mp C).1 C;rw[Vl ok];rfl
  .rintro i x sd hx ⟨h,u2,u3,u4,d,e,rfl⟩;obtain⟨r,w,rfl⟩:=Vj hx;have O:=Uh w;have E:=S.rn r O;obtain⟨g,hg⟩:∃g:Int,(p.givens.length:Int)+i=g:=⟨_,rfl⟩;rw[hg];have A:j6 [qW r.2.2]=some (.int r.2.2.length):=by show some (D.int (r.2.2.map ye).length)=_;rw[Zql]
   by_cases c:1<=r.2.2.length/\r.2.2.length<=40
   .have u:(1:Int)<=(r.2.2.length:Int):=()
    have B:(r.2.2.length:Int)<=40:=()
    have F:(∃f l:Option SV,qb (.tup [5,6]) inner (r.2.2.map ye) [~~~(JL p),~~~(.int g),~~~(.str r.1),~~~(.str r.2.1),~~~(qW r.2.2),d,e]=.ok (.next [~~~(JL p),~~~(.int g),~~~(.str r.1),~~~(.str r.2.1),~~~(qW r.2.2),f,l])/\ItOk g r.2.2)\/(qb (.tup [5,6]) inner (r.2.2.map ye) [~~~(JL p),~~~(.int g),~~~(.str r.1),~~~(.str r.2.1),~~~(qW r.2.2),d,e]=.ex "BadPlan" []/\¬ItOk g r.2.2):=by
     refine Vr (R:=λz=>(∃f l:Option SV,z=.ok (.next [~~~(JL p),~~~(.int g),~~~(.str r.1),~~~(.str r.2.1),~~~(qW r.2.2),f,l])/\ItOk g r.2.2)\/(z=.ex "BadPlan" []/\¬ItOk g r.2.2)) (P:=λj sd=>(∀q∈r.2.2.take j,(0<=q.1/\q.1<g) /\ -1000000000000000000000000000000<q.2/\q.2<1000000000000000000000000000000)/\∃d e:Option SV,sd=[~~~(JL p),~~~(.int g),~~~(.str r.1),~~~(.str r.2.1),~~~(qW r.2.2),d,e]) ⟨λq m=>by simp at m,d,e,rfl⟩ ?_ ?_
     .rintro sd ⟨h,f,l,rfl⟩;rw[Zql,Uw] at h;exact .inl ⟨f,l,rfl,λq m=>(h q m).1,λq m=>(h q m).2⟩
     .rintro j y sd Q ⟨h,f,l,rfl⟩;obtain⟨q,m,rfl⟩:=Vj Q;have H:q∈r.2.2:=Uh m;obtain⟨T,o⟩:=vw E J K (i:=2) (sd:=[~~~(JL p),~~~(.int g),~~~(.str r.1),~~~(.str r.2.1),~~~(qW r.2.2),~~~(.int q.1),~~~(.int q.2)]) rfl;obtain⟨Z,s⟩:=vw E L M (i:=2) (sd:=[~~~(JL p),~~~(.int g),~~~(.str r.1),~~~(.str r.2.1),~~~(qW r.2.2),~~~(.int q.1),~~~(.int q.2)]) rfl;subst hI;generalize jT "an item of " _=j1 at o ⊢;generalize jT "a wait of " _=j2 at s ⊢;by_cases a:0<=q.1/\q.1<g
      .obtain⟨n,v⟩:=a;by_cases b: -1000000000000000000000000000000<q.2/\q.2<1000000000000000000000000000000
       .have ab:¬(1000000000000000000000000000000:Int)<=(if q.2<0 then -q.2 else q.2):=by split<;>lia
        refine .inl ⟨[~~~(JL p),~~~(.int g),~~~(.str r.1),~~~(.str r.2.1),~~~(qW r.2.2),~~~(.int q.1),~~~(.int q.2)],by simp[n,v,G,ab],λz t=>?_,_,_,rfl⟩;rw[Us,m] at t;rcases Jc.mp t with y|y
        .exact h z y
        .rw[Jb.mp y];exact⟨⟨n,v⟩,b⟩
       .have ab:(1000000000000000000000000000000:Int)<=(if q.2<0 then -q.2 else q.2):=by split<;>lia
        exact .inr ⟨"BadPlan",[],by simp[n,v,G,ab,s],.inr ⟨rfl,λz=>b (z.far q H)⟩⟩
      .refine .inr ⟨"BadPlan",[],?_,.inr ⟨rfl,λz=>a (z.rng q H)⟩⟩;by_cases n:0<=q.1
       .have v:¬q.1<g:=λz=>a ⟨n,z⟩;simp[n,v,o]
       .simp[n,o]
    rcases F with ⟨f,l,s,ok⟩|⟨s,U⟩
    .have X:g+1=(p.givens.length:Int)+((i+1:Nat):Int):=()
     refine .inl ⟨[~~~(JL p),~~~(.int (g+1)),~~~(.str r.1),~~~(.str r.2.1),~~~(qW r.2.2),f,l],by simp[A,u,B,s],λk z C t=>?_,_,_,_,_,_,by rw[X]⟩;by_cases Y:k<i
     .exact h k z Y t
     .have:k=i:=()
      subst this;rw[w] at t;cases t;exact⟨c,by rw[hg];exact ok⟩
    .refine .inr ⟨"BadPlan",[],by simp[A,u,B,s],?_⟩;rw[Kb λz=>U (by rw[<- hg];exact(z i r w).2)];rfl
   .obtain⟨T,o⟩:=gW E I (i:=2) (sd:=[~~~(JL p),~~~(.int g),~~~(.str r.1),~~~(.str r.2.1),~~~(qW r.2.2),d,e]) rfl;refine .inr ⟨"BadPlan",[],?_,?_⟩
    .by_cases u:(1:Int)<=(r.2.2.length:Int)
     .have B:¬(r.2.2.length:Int)<=40:=()
      simp[A,u,B,o]
     .simp[A,u,o]
    .rw[Kb λz=>c (z i r w).1];rfl
 simp_all [zO,wQ]
def Rg {a:List Pl}(S:SnB a):zj [JT a]=qK (vW a) "BadPlan" := by
 by_cases c:1<=a.length/\a.length<=20
 .have n:(1:Int)<=(a.length:Int):=()
  have s:(a.length:Int)<=20:=()
  have v:(qb (.one 1) (jg (jH (Q1 (Jw (QX xP xP (dC (.int 1)) (jr j6 (Jr (jK (j0 "Plan" "givens") (ja 1)) jd)) (dC (.int 12))))) (Qs "BadPlan" (dC (.str "a plan has 1 to 12 given things"))) J6) (jg (jH (Q1 (Jw (QX xP xP (dC (.int 1)) (jr j6 (Jr (jK (j0 "Plan" "rows") (ja 1)) jd)) (dC (.int 40))))) (Qs "BadPlan" (dC (.str "a plan has 1 to 40 rows"))) J6) (Kx (J1 zO (Jr (ja 1) jd))))) (a.map JL) [~~~(JT a),none]).bind qz=qK (vW a) "BadPlan" := by
   refine Vr (R:=λz=>z.bind qz=qK (vW a) "BadPlan") (P:=λi sd=>(∀p∈a.take i,pq p)/\∃o:Option SV,sd=[~~~(JT a),o]) () ?_ ?_
   .rintro sd ⟨h,o,rfl⟩;rw[Zql,Uw] at h;rw[Vl ⟨c,h⟩];rfl
   .rintro i x sd hx ⟨h,o,rfl⟩;obtain⟨p,t,rfl⟩:=Vj hx;have f:=Uh t;have j:=Rf (S.pl p f);by_cases g:1<=p.givens.length/\p.givens.length<=12
    .have b:(1:Int)<=(p.givens.length:Int):=()
     have d:(p.givens.length:Int)<=12:=()
     by_cases r:1<=p.rows.length/\p.rows.length<=40
     .have e:(1:Int)<=(p.rows.length:Int):=()
      have l:(p.rows.length:Int)<=40:=()
      by_cases m:vY p
      .rw[Vl m] at j;refine .inl ⟨[~~~(JT a),~~~(JL p)],by simp[b,d,e,l,j],λq u=>?_,_,rfl⟩;rw[Us,t] at u;rcases Jc.mp u with z|z
       .exact h q z
       .rw[Jb.mp z];exact⟨g,r,m⟩
      .rw[Kb m] at j;refine .inr ⟨"BadPlan",[],by simp[b,d,e,l,j],?_⟩;rw[Kb λz=>m (z.2 p f).2.2];rfl
     .refine .inr ⟨"BadPlan",[],?_,?_⟩
      .by_cases e:(1:Int)<=(p.rows.length:Int)
       .have l:¬(p.rows.length:Int)<=40:=()
        simp[b,d,e,l]
       .simp[b,d,e]
      .rw[Kb λz=>r (z.2 p f).2.1];rfl
    .refine .inr ⟨"BadPlan",[],?_,?_⟩
     .by_cases b:(1:Int)<=(p.givens.length:Int)
      .have d:¬(p.givens.length:Int)<=12:=()
       simp[b,d]
      .simp[b]
     .rw[Kb λz=>g (z.2 p f).1];rfl
  simp_all [zj,zi]
 .rw[Kb λz=>c z.1];by_cases n:(1:Int)<=(a.length:Int)
  .have s:¬(a.length:Int)<=20:=()
   simp[zj,zi,n,s]
  .simp[zj,zi,n]
def Rh {a:List Pl}(S:SnB a)(M:(a.map (·.name)).Nodup):wT [JT a]=qK (vV a) "BadPart" := by
 have N:(" is made by no plan ahead that has as many given things as it has items" : Str).length<=100:=by decide +kernel
 obtain⟨inner,hI⟩:∃b,(jH (Q2 (Jw (U8 yA (Jr (ja 4) jd))) (Jw (jf yz (ZM [1] (X5 (ja 1) (ja 4))) (jr j6 (Jr (ja 5) jd))))) (Qs "BadPart" ((yB Kj (ja 3) (jT " is made by no plan ahead that has as many given things as it has items" qH)) Str.empty)) J6)=b:=⟨_,rfl⟩;have O:(qb (.one 2) (jg (qr (iS (jK (j0 "Plan" "rows") (ja 2))) (.tup [3,4,5]) inner) (Wl 1 (jK (j0 "Plan" "name") (ja 2)) (jr j6 (Jr (jK (j0 "Plan" "givens") (ja 2)) jd)))) (a.map JL) [~~~(JT a),some (.own false (.dct [] [])),none,none,none,none]).bind qz=qK (vV a) "BadPart" := by
  refine Vr (R:=λz=>z.bind qz=qK (vV a) "BadPart") (P:=λi sd=>(∀(k:Nat) (p:Pl),k<i->a[k]? = some p->∀r∈p.rows,wg (Vk (a.take k)) r)/\∃u2 u3 u4 c:Option SV,sd=[~~~(JT a),some (.own false (dT (Vk (a.take i)))),u2,u3,u4,c]) ⟨λk p h=>(),none,none,none,none,rfl⟩ ?_ ?_
  .rintro sd ⟨h,u2,u3,u4,c,rfl⟩;rw[Zql] at h;have ok:vV a:=λk p o=>h k p (Jd.mp o).1 o;rw[Vl ok];rfl
  .rintro i x sd hx ⟨h,u2,u3,u4,c,rfl⟩;obtain⟨p,g,rfl⟩:=Vj hx;have Q:=Uh g;have P:=S.pl p Q;have I:=(Jd.mp g).1;have l2:=S.len;obtain⟨t,ht⟩:∃t,Vk (a.take i)=t:=⟨_,rfl⟩;have T:p.name∉t.map (·.1):=by
    rw[<- ht,Ge];intro z;obtain⟨y,s,U⟩:=Ja.mp z;obtain⟨j,X,J⟩:=List.getElem_of_mem s;have Y:=Jo.mp (Jn.mp (U3.mp M));have u:j<i:=by rw[UD] at X;lia
    have:=Y j i () I u;rw[List.getElem_take] at J;rw[Zqg I] at g;cases g;rw[J] at this;exact this U
   have tl:t.length<=920:=by
    rw[<- ht];unfold Vk;rw[Zql,UD];lia
   rw[ht];have w:(∃d e f:Option SV,qb (.tup [3,4,5]) inner (p.rows.map jJ) [~~~(JT a),some (.own false (dT t)),~~~(JL p),u3,u4,c]=.ok (.next [~~~(JT a),some (.own false (dT t)),~~~(JL p),d,e,f])/\∀r∈p.rows,wg t r)\/(qb (.tup [3,4,5]) inner (p.rows.map jJ) [~~~(JT a),some (.own false (dT t)),~~~(JL p),u3,u4,c]=.ex "BadPart" []/\¬ ∀r∈p.rows,wg t r):=by
    refine Vr (R:=λz=>(∃d e f:Option SV,z=.ok (.next [~~~(JT a),some (.own false (dT t)),~~~(JL p),d,e,f])/\∀r∈p.rows,wg t r)\/(z=.ex "BadPart" []/\¬ ∀r∈p.rows,wg t r)) (P:=λj sd=>(∀r∈p.rows.take j,wg t r)/\∃u3 u4 c:Option SV,sd=[~~~(JT a),some (.own false (dT t)),~~~(JL p),u3,u4,c]) ⟨λq A=>by simp at A,u3,u4,c,rfl⟩ ?_ ?_
    .rintro sd ⟨h,d,e,f,rfl⟩;rw[Zql,Uw] at h;exact .inl ⟨d,e,f,rfl,h⟩
    .rintro j y sd s ⟨h,d,e,f,rfl⟩;obtain⟨r,K,rfl⟩:=Vj s;have m:r∈p.rows:=Uh K;have l:=bn (P.rh r m).asc;have B:j6 [qW r.2.2]=some (.int r.2.2.length):=by show some (D.int (r.2.2.map ye).length)=_;rw[Zql]
     have v:=XN t r.2.1;have C:YX (dT t)=.ok (t.map λp=>.inr p.1,t.map λp=>.int p.2):=rfl;have step:wg t r->∀q∈p.rows.take (j+1),wg t q:=λA q L=>by
      rw[Us,K] at L;rcases Jc.mp L with z|z
      .exact h q z
      .rw[Jb.mp z];exact A
     obtain⟨d1,E⟩:=gW (P.rn r m) N (i:=3) (sd:=[~~~(JT a),some (.own false (dT t)),~~~(JL p),~~~(.str r.1),~~~(.str r.2.1),~~~(qW r.2.2)]) rfl;subst hI;generalize yB Kj _ _=j1 at E ⊢;cases q:xO r.2.1 with
     |false =>
      rw[q] at l;exact .inl ⟨[~~~(JT a),some (.own false (dT t)),~~~(JL p),~~~(.str r.1),~~~(.str r.2.1),~~~(qW r.2.2)],by simp[l],step (λz=>nomatch q.symm.trans z),_,_,_,rfl⟩
     |true =>
      rw[q] at l;cases k:qM t r.2.1 with
      |none =>
       rw[k] at v;have Z:yz .non (.int r.2.2.length)=some (.bl true):=by
        have z:sameD .non (.int r.2.2.length)=false:=by
         rw[zw];intro z;cases z
        rw[Bb rfl rfl,z];rfl
       exact .inr ⟨"BadPart",[],by simp[l,B,C,v,JZ,Z,E],.inr ⟨rfl,λz=>by have:=z r m q;rw[k] at this;cases this⟩⟩
      |some n =>
       rw[k] at v;by_cases F:n=(r.2.2.length:Int)
       .subst F;exact .inl ⟨[~~~(JT a),some (.own false (dT t)),~~~(JL p),~~~(.str r.1),~~~(.str r.2.1),~~~(qW r.2.2)],by simp[l,B,C,v,JZ],step (λ_=>k),_,_,_,rfl⟩
       .exact .inr ⟨"BadPart",[],by simp[l,B,C,v,JZ,F,E],.inr ⟨rfl,λz=>by have:=z r m q;rw[k] at this;exact F (Zqi this)⟩⟩
   rcases w with ⟨d,e,f,G,ok⟩|⟨G,no⟩
   .have pt:=BV T (p.givens.length:Int);have lz:=Qr (show t.length<=1000 from ());have tk:Vk (a.take (i+1))=t++[(p.name,(p.givens.length:Int))]:=by
     rw[Us,g,<- ht];unfold Vk;rw[Ut];rfl
    have gk:vu (some (some (.own false (dT t))))=.ok (t.map λp=>.inr p.1,t.map λp=>.int p.2):=rfl;refine .inl ⟨[~~~(JT a),some (.own false (dT (t++[(p.name,(p.givens.length:Int))]))),~~~(JL p),d,e,f],?_,λk z o H=>?_,_,_,_,_,by rw[tk]⟩
    .rw[<- pt];simp[G,gk,lz]
    .by_cases ki:k<i
     .exact h k z ki H
     .have:k=i:=()
      subst this;rw[g] at H;cases H
      rwa [ht]
   .refine .inr ⟨"BadPart",[],by simp[G],?_⟩;rw[Kb λz=>no (by rw[<- ht];exact z i p g)];rfl
 simp_all [wT,wP]
def Ri {a:List Pl}(W:WB a):wS [JT a]=qK (∀q∈xa a,q.2<=2000) "TooLong" := by
 have l:("plan " : Str).length<=100:=by decide +kernel
 have m:(" has a weight of more than 2000" : Str).length<=100:=by decide +kernel
 have s:=dD W;obtain⟨t,ht⟩:∃t,xa a=t:=⟨_,rfl⟩;have ok:∀q∈t,TxtOk 20 q.1:=λq b=>by
  have f:q.1∈(xa a).map (·.1):=by rw[ht];exact Ja.mpr ⟨q,b,rfl⟩
  rw[XP] at f;have ⟨p,n,e⟩:=Ja.mp f;rw[<- e];exact(W.ok p n).1.mono ()
 have o:(qb (.tup [1,2]) (jH (Jw (jf zT (ja 2) (dC (.int 2000)))) (Qs "TooLong" ((jT "plan " (yB Kj (ja 1) (jT " has a weight of more than 2000" qH))) Str.empty)) J6) (t.map λp=>D.tup [.str p.1,.int p.2]) [~~~(JT a),none,none]).bind qz=qK (∀q∈t,q.2<=2000) "TooLong" := by
  refine Vr (R:=λz=>z.bind qz=qK (∀q∈t,q.2<=2000) "TooLong") (P:=λi sd=>(∀q∈t.take i,q.2<=2000)/\∃d u2:Option SV,sd=[~~~(JT a),d,u2]) ⟨λq b=>by simp at b,none,none,rfl⟩ ?_ ?_
  .rintro sd ⟨h,d,u2,rfl⟩;rw[Zql,Uw] at h;rw[Vl h];rfl
  .rintro i x sd hx ⟨h,d,u2,rfl⟩;obtain⟨q,b,rfl⟩:=Vj hx;have g:=Uh b;obtain⟨u,r⟩:=vw (ok q g) l m (i:=1) (sd:=[~~~(JT a),~~~(.str q.1),~~~(.int q.2)]) rfl;by_cases c:(2000:Int)<q.2
   .refine .inr ⟨"TooLong",[],by simp[c,r],?_⟩;rw[Kb λz=>by have:=z q g;lia];rfl
   .refine .inl ⟨[~~~(JT a),~~~(.str q.1),~~~(.int q.2)],by simp[c],λz j=>?_,_,_,rfl⟩;rw[Us,b] at j;rcases Jc.mp j with y|y
    .exact h z y
    .rw[Jb.mp y];lia
 have it:X7 (dT t)=.ok (t.map λp=>D.tup [.str p.1,.int p.2]):=by rw[<- Rb];rfl
 simp_all [wS,wO]
def sQ {x s:Str}{i:Nat}:StrLaws.At x s x.length i↔i+s.length<=x.length/\(x.cps.toList.drop i).take s.length=s.cps.toList:=by
 unfold StrLaws.At;rw[StrLaws.subAt_eq,Yl]
theorem Gk {x s:Str}{c:Nat}{t:Yg}(j:s.cps.toList=c::t):∀(rs:Yh) (r:Str) (a:Nat) (g:Yg) (f:Nat),a<=x.length->x.cps.toList.drop a=(Txt.join s (r::rs)).cps.toList->(∀p∈r::rs,c∉p.cps.toList)->StrLaws.ChainG x s x.length a g f->(∀k,f<=k->¬StrLaws.At x s x.length k)->StrLaws.partsFrom x s.length a g=r::rs
 | [],r,a,[],f,ha,hx,fr,hG,hn=>by
  show[Builtin.Str.strSub x a x.length]=[r]
  congr 1
  apply JF;rw[StrLaws.strSub_toList,hx,QQ];apply UW;have:=Zt List.length hx;rw[QQ,List.length_drop] at this;rw[<- this];exact Zf _
 | [],r,a,d::cs,f,ha,hx,fr,hG,hn=>by
  exfalso;have o:=(sQ.mp hG.2.1).2;have e:x.cps.toList.drop d=r.cps.toList.drop (d-a):=by
   rw[<- QQ s r,<- hx,List.drop_drop]
   congr 1
   have:=hG.1;lia
  grind
 |r2::rs,r,a,g,f,ha,hx,fr,hG,hn=>by
  rw[QP,J0,J0] at hx;have q:s.length=t.length+1:=by
   show s.cps.size=_;rw[<- Uc,j];rfl
  have u:r.length=r.cps.toList.length:=rfl;have v:=Zt List.length hx;have w:x.cps.toList.length=x.length:=Uc;have i:s.cps.toList.length=s.length:=Uc;rw[List.length_drop,Uf,Uf,w,i] at v;have n:x.cps.toList.drop (a+r.length)=s.cps.toList++(Txt.join s (r2::rs)).cps.toList:=by
   rw[<- List.drop_drop,hx,u,Ub,List.drop_left]
  have J:StrLaws.At x s x.length (a+r.length):=by
   refine sQ.mpr ⟨(),?_⟩;rw[n,<- i,List.take_left]
  have y:∀k,a<=k->k<a+r.length->¬StrLaws.At x s x.length k:=λk K o A=>by
   have m:=(sQ.mp A).2;have e:x.cps.toList.drop k=(r.cps.toList++(s.cps.toList++(Txt.join s (r2::rs)).cps.toList)).drop (k-a):=by
    rw[<- Ub,<- hx,List.drop_drop]
    congr 1
    lia
   rw[e,List.drop_append_of_le_length (),j,q] at m;obtain⟨b,l,hl⟩:∃b l,r.cps.toList.drop (k-a)=b::l:=by
    cases B:r.cps.toList.drop (k-a) with
    |nil =>
     have z:=Zt List.length B;rw[List.length_drop,ZC] at z;lia
    |cons b l=>exact⟨b,l,rfl⟩
   rw[hl,UQ,List.take_succ_cons] at m;injection m with h4 _
   exact fr r Zqs (List.mem_of_mem_drop (by rw[hl,h4];exact Zqs))
  cases g with
  |nil =>
   have L:f=a:=hG;exact()
  |cons d cs =>
   obtain⟨C,E,M,F⟩:=hG;have G:d=a+r.length:=by
    rcases Nat.lt_trichotomy d (a+r.length) with h|h|h
    .exact Zn E (y d C h)
    .exact h
    .exact()
   subst G;have H:Builtin.Str.strSub x a (a+r.length)=r:=by
    apply JF;rw[StrLaws.strSub_toList,hx,show a+r.length-a=r.cps.toList.length by lia,Ub,List.take_left]
   show Builtin.Str.strSub x a (a+r.length)::StrLaws.partsFrom x s.length (a+r.length+s.length) cs=_;rw[H,Gk j rs r2 (a+r.length+s.length) cs f () (by rw[<- List.drop_drop,n,<- i,List.drop_left]) (λp I=>fr p (Zqm _ I)) F hn]
def Vw {s:Str}{c:Nat}{t:Yg}(d:s.cps.toList=c::t)(l:s.cps.all (· < 256)=true){r:Str}{rs:Yh}(e:∀p∈r::rs,c∉p.cps.toList):Txt.split (Txt.join s (r::rs)) s=r::rs:=by
 have m:s.length=t.length+1:=by
  show s.cps.size=_;rw[<- Uc,d];rfl
 obtain⟨f,g,i⟩:=StrLaws.occ_tight (Txt.join s (r::rs)) s ();have a:=Gk d rs r 0 _ f (Ue _) rfl e g i;unfold Txt.split
 split
 .rename_i b;cases rs with
  |nil=>rw[QQ]
  |cons n rs =>
   rw[QP] at b;simp[JS] at b;rcases b with h|h
   .omega
   .exfalso;unfold Builtin.Str.strKind at h
    split at h
    .omega
    .split at h<;>lia
 .split
  .rename_i j;rw[List.isEmpty_iff.mp j] at a;refine Eq.trans ?_ a;show[_]=[_];rw[StrLaws.sub_whole]
  .rwa [StrLaws.partsBetween_eq]
def Gm (a b:Str):Txt.startswith (a++b) a=true:=by
 show(decide (0+a.length<=(a++b).length)&&Builtin.Str.subAt (a++b) a 0)=true;rw[StrLaws.subAt_eq,JS,Zp (),Bool.true_and,Yl,J0,List.drop_zero];exact rfl.trans (by rw[show a.length=a.cps.toList.length from (Uc).symm,List.take_left])
def Gn {x y:Str}(h:(x.cps.toList).take y.length≠y.cps.toList):Txt.startswith x y=false:=by
 show(decide (0+y.length<=x.length)&&Builtin.Str.subAt x y 0)=false
 simp_all [StrLaws.subAt_eq]
def An {x y:Str}(hx:asc x)(a:asc y):yz (.str x) (.str y)=some (.bl (!decide (x=y))):=by
 rw[Bb (Kq hx) (Kq a)];by_cases z:x=y
 .simp_all [Kz]
 .rw[Zo z,zw.mpr λq=>z (D.str.inj q)]
def Go {x y:Str}(hx:asc x)(a:asc y):jZ (.str x) (.str y)=some (.bl (decide (x=y))):=by
 rw[WF (Kq hx) (Kq a)];by_cases z:x=y
 .simp_all [Kz]
 .rw[Zo z,zw.mpr λq=>z (D.str.inj q)]
def XZ (a b:Str):Txt.slice (a++b) (some (a.length:Int)) none=b:=by
 have l:(a++b).cps.toList.length=a.length+b.length:=JS a b;have e:Txt.slice (a++b) (some (a.length:Int)) none=StrLaws.sliceText (a++b) (some (a.length:Int)) none:=rfl;rw[e,StrLaws.sliceText_from ()];apply JF;rw[l,J0,Int.toNat_natCast,show a.length=a.cps.toList.length from rfl,List.drop_left];refine UW ?_;have:b.length=b.cps.toList.length:=(Uc).symm;lia
def Rj {x y:Str}(hx:x.cps.toList=43::y.cps.toList)(a:NumText.AllDigits y.cps.toList):intText? x=intText? y:=by
 have gX:∀c∈x.cps.toList,43<=c/\c<58:=by
  rw[hx];intro c b;rcases Uj.mp b with z|z
  .omega
  .have:=a c z;lia
 have d:numTextOf x=x.cps.toList:=Zd (by
  rw[<- U1,Ul]
  grind)
 have g:numSeenOf x=x.cps.toList:=by
  show(numTextOf x).takeWhile _=_;rw[d];exact NumText.takeWhile_all ()
 have ⟨i,j⟩:=numText_signs λc b=>.inr (a c b);have e:NumText.sign (x.cps.toList.dropWhile NumText.blank)=(false,y.cps.toList):=by rw[hx,NumText.dropWhile_of (by decide)];rfl
 have f:(NumText.sign (y.cps.toList.dropWhile NumText.blank))=(false,y.cps.toList):=by
  rw[NumText.dropWhile_digits a];cases h:y.cps.toList with
  |nil=>rfl
  |cons c cs =>
   have:=(h ▸ a).head;exact NumText.sign_of () ()
 unfold intText?;rw[d,g,i,j,show NumText.core x.cps.toList=NumText.core y.cps.toList by unfold NumText.core;rw[e,f],e,f,beq_self_eq_true,beq_self_eq_true]
theorem Gp:∀m:Nat,1<=m->((Nat.toDigits 10 m).map Char.toNat).headD 0≠48
 |m,h=>by
  by_cases g:m<10
  .rw[U5 g];have:∀k:Fin 10,1<=k.val->([Nat.digitChar k.val].map Char.toNat).headD 0≠48:=by decide
   exact this ⟨m,g⟩ h
  .rw[U6 () (),Ut];have a:=Gp (m / 10) ();cases e:(Nat.toDigits 10 (m / 10)).map Char.toNat with
   |nil =>
    simp_all
   |cons c cs=>simp_all
termination_by m=>m
theorem Gq:∀(k m:Nat),m<10 ^ (k+1)->(Nat.toDigits 10 m).length<=k+1
 | 0,m,h=>by rw[U5 ()];exact Zf _
 |k+1,m,h=>by
  by_cases g:m<10
  .rw[U5 g];simp
  .rw[U6 () (),Uf];have:=Gq k (m / 10) ()
   simp_all
def Rk (m:Nat):1<=((Nat.toDigits 10 m).map Char.toNat).length:=by
 rw[Zql];exact Nat.length_toDigits_pos
def Gr (m:Nat):NumText.AllDigits (jz (m:Int)).cps.toList:=by
 rw[Wt];intro c a;obtain⟨d,b,rfl⟩:=Ja.mp a;have:=Nat.isDigit_of_mem_toDigits (by decide) (by decide) b;simp only[Char.isDigit,Ua,decide_eq_true_eq] at this;exact⟨this.1,this.2⟩
structure FigT (d:Str)(m:Nat):Prop where
 lo:1<=d.length
 hi:d.length<=30
 hd:d.cps.toList.headD 0≠48
 all:NumText.AllDigits d.cps.toList
 val:NumText.digitsVal d.cps.toList=m
def Ao {m:Nat}(a:1<=m)(b:m<1000000000000000000000000000000):FigT (jz (m:Int)) m:=by
 have l:(jz (m:Int)).length=(Nat.toDigits 10 m).length:=by
  show(jz (m:Int)).cps.size=_;rw[<- Uc,Wt,Zql]
 have p:=Rk m;rw[Zql] at p;exact⟨(),by rw[l];exact Gq 29 m b,by rw[Wt];exact Gp m a,Gr m,by rw[Wt];exact W.KIN.val_back m⟩
def FigT.ok {d:Str}{m:Nat}(h:FigT d m):TxtOk 30 d:=⟨h.hi,xu.mpr λc a=>by have:=h.all c a;lia⟩
def FigT.plus {d:Str}{m:Nat}(h:FigT d m):intText? (("+" : Str)++d)=some (m:Int):=by
 have:=h.lo;rw[Rj (by rw[J0];rfl) h.all,intText_digits h.all (λz=>by have:d.length=d.cps.toList.length:=(Uc).symm;simp_all) (by have:=h.hi;lia),h.val]
def FigT.minus {d:Str}{m:Nat}(h:FigT d m):intText? (("-" : Str)++d)=some (-(m:Int)):=by
 have:=h.lo;have:=h.hi;rw[intText_neg (by rw[J0];rfl) h.all (λz=>by have:d.length=d.cps.toList.length:=(Uc).symm;simp_all) (by rw[JS];show 1+d.length<=_;lia),h.val]
def Cg {d:Str}{m:Nat}(h:FigT d m):KH [.str d]=.ok (.bl true):=by
 have o:=XM h.ok ();have p:(1:Int)<=(d.length:Int):=by have:=h.lo;lia
 have q:(d.length:Int)<=30:=by have:=h.hi;lia
 have ⟨e,hx,b,r⟩:=BT (k:=0) h.ok () () ();have g:e≠48:=λz=>h.hd (by
  have b:=b;cases l:d.cps.toList with
  |nil=>rw[l] at b;cases b
  |cons a s=>rw[l] at b;rw[<- z];exact Zqi b)
 have a0:e<128:=()
 have t:yz (.str ⟨#[e]⟩) (.str "0")=some (.bl true):=by
  rw[An (Fy a0).asc (J2 (n:=1) (by decide +kernel)).asc,Zo λz=>g ?_]
  .rfl
  .have:(⟨#[e]⟩:Str).cps.toList=("0" : Str).cps.toList:=by rw[z]
   have:=this;injection this
 have u:zc d=true:=h.ok.asc;have i:qm (.one 0) (jf (qN false) (ja 0) (dC (.str "0123456789"))) [none] (zr d)=.ok ((d.cps.toList.map λc=>decide (c∈FG)).map .bl):=by
  rw[Zw];refine KW λc _=>?_;have f:=Xz false c "0123456789";have f:qN false (.str ⟨#[c]⟩) (.str "0123456789")=some (.bl (decide (c∈FG))):=f;simp[f]
 have v:=YY (d.cps.toList.map λc=>decide (c∈FG));have w:(d.cps.toList.map λc=>decide (c∈FG)).all id=true:=by
  rw[List.all_map,Ul];intro c j;have z:=h.all c j;exact Zp (Gd (by unfold yf;rw[Zp z.1,Zp ()];rfl))
 have x:(zr d).length<sizeLine:=Qr (by unfold zr;rw[Zql,Uc];have:d.length=d.cps.size:=rfl;lia)
 simp_all [KH,VR]
def Ch {x:Str}(h:jA x){c:Nat}(a:c∈x.cps.toList):(yG c||yf c)=true:=by
 have z:=h.2;unfold Qt at z;simp only[Ua] at z;exact Ul.mp z.2.2.2.2 c a
def Kr {x:Str}(h:jA x){c:Nat}(a:(yG c||yf c)=false):c∉x.cps.toList:=λz=>by rw[Ch h z] at a;cases a
def Ap {x:Str}(h:jA x):qj [.str x]=.ok (.bl true):=by rw[wv h.1 (),Cf h.2]
def Gs {n:Nat}{x:Str}{c:Nat}(h:TxtOk n x)(a:n<=1000)(b:c∈x.cps.toList)(d:c∉LT)(e:c∉FG):qj [.str x]=.ok (.bl false):=by
 rw[wv h a];have:(x.cps.toList.all λc=>decide (c∈LT)||decide (c∈FG))=false:=by grind
 unfold Vm;rw[this,Bool.and_false,Bool.and_false,Bool.and_false]
def Ci {d:Str}{m c:Nat}(h:FigT d m)(a:c<48\/57<c):c∉d.cps.toList:=λz=>by have:=h.all c z;lia
def KM {n:Nat}{x s:Str}(h:TxtOk n x)(b:n<=16000000)(a:(s.length == 0)=false):QZ x (.str s)=some (.lst ((Txt.split x s).map .str)):=by
 refine Zd ⟨a,?_⟩;have:=h.len;exact Zh (show x.length+2<=16000002 from ()) (by decide +kernel)
def zI {l:Yt}{k:Int}{d:D}(k0:0<=k)(h:l[k.toNat]? = some d):jR l k=some d:=by
 have a:=(Jd.mp h).1;unfold jR yu;rw[Zd k0,Zd ()];exact h
def qw (a:D)(l:Yt):jR (a::l) 0=some a:=zI () rfl
def qV (a b:D)(l:Yt):jR (a::b::l) 1=some b:=zI () rfl
def yh (a b c:D)(l:Yt):jR (a::b::c::l) 2=some c:=zI () rfl
def zJ (a b c d:D)(l:Yt):jR (a::b::c::d::l) 3=some d:=zI () rfl
def Yy (s a b:Str):Txt.join s [a,b]=a++s++b:=by rw[QP,QQ]
def Cj {n:Nat}(h:n<=16000002):n<=sizeLine:=Zh h (by decide +kernel)
def Gu {n:Nat}(h:n<=16000001):n<sizeLine:=Zg (Nat.lt_succ_of_le h) (by decide +kernel)
def Gv {n:Nat}{a:Str}(b:TxtOk n a)(h:n<=16000000):j6 [.str a]=some (.int a.length):=Zd (Cj (by have:=b.len;lia))
def Ck {n:Nat}{a:Str}(b:TxtOk n a)(h:n<=16000000)(l u:Option Int):xW (.str a) l u=some (.str (Txt.slice a l u)):=Zd (Cj (by have:=b.len;lia))
def Yz {n:Nat}{x:Str}(h:TxtOk n x)(a:n<=16000000):(jA x/\qj [.str x]=.ok (.bl true))\/(¬jA x/\qj [.str x]=.ok (.bl false)):=by
 by_cases l:x.length<=12
 .have t:TxtOk 12 x:=⟨l,h.asc⟩;have e:=wv t ();cases c:Vm x with
  |true=>rw[c] at e;exact .inl ⟨⟨t,Gh c⟩,e⟩
  |false=>rw[c] at e;exact .inr ⟨λz=>(by rw[Cf z.2] at c;cases c),e⟩
 .have b:=Gv h a;have d:(1:Int)<=(x.length:Int):=()
  have f:¬(x.length:Int)<=12:=()
  exact .inr ⟨λz=>l z.1.len,by simp_all [qj,yk]⟩
def Rl:∀z:Fin 128,(Char.ofNat z.val).toNat=z.val:=by decide +kernel
def Cm {d:Str}{m:Nat}(h:FigT d m):d=jz (m:Int):=by
 apply JF;rw[Wt,<- h.val];have lo:=h.lo;have l:d.length=d.cps.toList.length:=rfl;have all:=h.all;have a:=h.hd;cases b:d.cps.toList with
 |nil=>simp_all
 |cons c cs =>
  rw[b] at all a;have f:=all.head;rw[NumText.toDigits_digitsVal cs.length (c::cs) rfl all (),Zw]
  conv=>lhs;rw[<- List.map_id (c::cs)]
  refine UN λz e=>?_;have:=all z e;exact(Rl ⟨z,()⟩).symm
def Rm {n:Nat}{x:Str}(h:TxtOk n x)(v:n<=16000000):(∃m:Nat,FigT x m/\KH [.str x]=.ok (.bl true))\/KH [.str x]=.ok (.bl false):=by
 have d:=Gv h v;by_cases e:(1:Int)<=(x.length:Int)
 .by_cases s:(x.length:Int)<=30
  .have t:TxtOk 30 x:=⟨(),h.asc⟩;obtain⟨i,hx,u,w⟩:=BT (k:=0) t () () ();have j:=An (Fy w).asc (J2 (n:=1) (x:= "0") (by decide +kernel)).asc;have y:x.cps.toList.headD 0=i:=by
    have u:x.cps.toList[0]? = some i:=u;cases l:x.cps.toList with
    |nil=>simp_all
    |cons a F=>simp_all
   by_cases o:(⟨#[i]⟩:Str) = "0"
   .rw[Zp o] at j;exact .inr (by simp[KH,VR,d,e,s,hx,j])
   .rw[Zo o] at j;have A:i≠48:=λz=>o (by rw[z];rfl);have B:zc x=true:=h.asc;have b:qm (.one 0) (jf (qN false) (ja 0) (dC (.str "0123456789"))) [none] (zr x)=.ok ((x.cps.toList.map λc=>decide (c∈FG)).map .bl):=by
     rw[Zw];refine KW λc _=>?_;have p:=Xz false c "0123456789";have p:qN false (.str ⟨#[c]⟩) (.str "0123456789")=some (.bl (decide (c∈FG))):=p;simp[p]
    have q:=YY (x.cps.toList.map λc=>decide (c∈FG));have C:(zr x).length<sizeLine:=Qr (by unfold zr;rw[Zql,Uc];have:x.length=x.cps.size:=rfl;lia);cases r:(x.cps.toList.map λc=>decide (c∈FG)).all id with
    |true =>
     have f:FigT x (NumText.digitsVal x.cps.toList):=by
      refine⟨(),(),by rwa [y],λc E=>?_,rfl⟩;rw[List.all_map,Ul] at r;have g:=Gg c (of_decide_eq_true (r c E));unfold yf at g
      grind
     exact .inl ⟨_,f,Cg f⟩
    |false =>
     rw[r] at q;generalize (x.cps.toList.map λc=>decide (c∈FG)).map D.bl=bs at b q;exact .inr (by simp[KH,VR,d,e,hx,j,B,C,b,q])
  .exact .inr (by simp[KH,VR,d,e,s])
 .exact .inr (by simp[KH,VR,d,e])
theorem join_split (x s:Str):Txt.join s (Txt.split x s)=x:=(StrLaws.glued_eq_join s _).trans (StrLaws.join_split x s)
theorem Gw {s p:Str}:∀{l:Yh},p∈l->(∀c∈p.cps.toList,c∈(Txt.join s l).cps.toList)/\p.length<=(Txt.join s l).length
 | [],h=>nomatch h
 | [x],h=>by simp_all [QQ]
 |x::y::r,h=>by
  rw[QP,JS,JS];rcases Uj.mp h with rfl|h
  .grind[J0]
  .obtain⟨a,b⟩:=Gw (s:=s) h
   grind[J0]
def Y0 {n:Nat}{x s p:Str}(h:TxtOk n x)(d:p∈Txt.split x s):TxtOk n p:=by
 obtain⟨a,b⟩:=Gw (s:=s) d;rw[join_split] at a b;exact⟨Zh b h.len,xu.mpr λc e=>xu.mp h.asc c (a c e)⟩
theorem Wx (s:Str):∀l:Yh,(l.map (·.length)).sum+l.length*s.length<=(Txt.join s l).length+s.length
 | []=>by simp
 | [x]=>by rw[QQ];simp
 |x::y::r=>by
  have a:=Wx s (y::r);rw[QP,JS,JS,Zl,List.sum_cons,Zu,Nat.succ_mul];lia
theorem Gx (k:Nat):∀(l:Yh) (a:Nat),l.foldl (λa x=>a+x.length+k) a=a+(l.map (·.length)).sum+l.length*k
 | [],a=>by simp
 |x::l,a=>by
  rw[Uy,Gx k l,Zl,List.sum_cons,Zu,Nat.succ_mul];lia
def Aq {s:Str}{l:Yh}(h:(l.map (·.length)).sum+l.length*s.length<=16000002):JoinOk s l=true:=by
 unfold JoinOk;rw[UH,List.foldl_toArray,Gx];have:=Cj h
 simp_all [Builtin.Str.tooLong]
def rI (i:Str×Int):D:=.tup [.str i.1,.int i.2]
def xM (i:Str×Int):Prop:=jA i.1 /\ -1000000000000000000000000000000<i.2/\i.2<1000000000000000000000000000000
def jC (i:Str×Int):Str:=yR i.1 i.2
def Vx {i:Str×Int}(h:xM i):TxtOk 44 (jC i):=PJ h.1.1 h.2.1 h.2.2
def Y1 {i:Str×Int}(h:xM i){c:Nat}(d:(yG c||yf c)=false)(f:c≠43)(g:c≠45):c∉(jC i).cps.toList:=by
 have a:=Kr h.1 d;have b:∀m:Nat,c∉(jz (m:Int)).cps.toList:=λm z=>by
  have:=Gr m c z;have:yf c=true:=by unfold yf;rw[Zp (),Zp ()];rfl
  simp_all
 unfold jC yR
 split
 .exact a
 .split
  .have ⟨m,e⟩:=UL (show 0<=i.2 from ());rw[e,J0,J0];intro z;rcases Jc.mp z with z|z
   .rcases Jc.mp z with z|z
    .exact a z
    .exact f (Jb.mp z)
   .exact b m z
  .have ⟨m,e⟩:∃m:Nat,i.2 = -((m+1:Nat):Int):=⟨(-i.2).toNat-1,()⟩;rw[e,WX,J0,J0];intro z;rcases Jc.mp z with z|z
   .exact a z
   .rcases Jc.mp z with z|z
    .exact g (Jb.mp z)
    .exact b (m+1) z
def Gy {i:Str×Int}(h:xM i):plN 12 (rI i)=true:=by
 show[D.str i.1,D.int i.2].all (plN 11)=true;rw[Ui,Kq h.1.1.asc];rfl
theorem Gz:∀(k m:Nat),(Nat.toDigits 10 m).length<=k->m<10 ^ k
 | 0,m,h=>by simp_all
 |k+1,m,h=>by
  by_cases g:m<10
  .grind
  .rw[U6 () (),Uf,UO] at h;have:=Gz k (m / 10) ();lia
def yF:FS:=(jg (jl 2 (j7 QZ (ja 0) (ja 1))) (jH (Q2 (Jw (jf jZ (jr j6 (Jr (ja 2) jd)) (dC (.int 2)))) (Q2 (Jw (J1 qj (Jr (jf jv (ja 2) (dC (.int 0))) jd))) (Jw (J1 KH (Jr (jf jv (ja 2) (dC (.int 1))) jd))))) (j3 (qf (Jr (jf jv (ja 2) (dC (.int 0))) (Jr (jr Vt (Jr (jf jk (ja 1) (jf jv (ja 2) (dC (.int 1)))) jd)) jd)))) J6))
def Cn:VT=(jg (jH (Jw (J1 qj (Jr (ja 0) jd))) (j3 (qf (Jr (ja 0) (Jr (dC (.int 0)) jd)))) J6) (jg (qr (iS (qf (Jr (dC (.str "+")) (Jr (dC (.str "-")) jd)))) (.one 1) yF) (j3 (dC .non)))):=rfl
def G0 {n:Nat}{x s:Str}{u2:Option SV}(h:TxtOk n x)(e:n<=16000000)(i:(s.length == 0)=false)(j:TxtOk 1 s):
 (∃a d m,Txt.split x s=[a,d]/\jA a/\FigT d m/\∀w,Vt [.str (s++d)]=some (.int w)->yF [~~~(.str x),~~~(.str s),u2]=.ok (.ret (.tup [.str a,.int w])))\/(∃o,yF [~~~(.str x),~~~(.str s),u2]=.ok (.next [~~~(.str x),~~~(.str s),o])):=by
 have g:=KM h e i;have sp:∀p∈Txt.split x s,TxtOk n p:=λp q=>Y0 h q;obtain⟨l,hl⟩:∃l,l=Txt.split x s:=⟨_,rfl⟩;rw[<- hl] at g sp ⊢;by_cases c:l.length=2
 .obtain⟨a,d,rfl⟩:∃a d,l=[a,d]:=by
   cases l with
   |nil=>cases c
   |cons a l =>
    cases l with
    |nil=>cases c
    |cons d l =>
     cases l with
     |nil=>exact⟨a,d,rfl⟩
     |cons _ _=>simp at c
  have g:=g;rcases Yz (sp a ()) e with ⟨f,b⟩|⟨f,b⟩
  .rcases Rm (sp d ()) e with ⟨m,hf,ed⟩|ed
   .refine .inl ⟨a,d,m,rfl,f,hf,λw hw=>?_⟩;simp[yF,j7,g,qw,qV,b,ed,(Ad j hf.ok ()),hw]
   .exact .inr ⟨_,by simp[yF,j7,g,qw,qV,b,ed];rfl⟩
  .exact .inr ⟨_,by simp[yF,j7,g,qw,b];rfl⟩
 .have r:¬((l.length:Int)=2):=()
  exact .inr ⟨_,by simp[yF,j7,g,r];rfl⟩
def Rn {n:Nat}{x:Str}(h:TxtOk n x)(c:n<=16000000):(∃i,xM i/\jC i=x/\QF [.str x]=.ok (rI i))\/QF [.str x]=.ok .non:=by
 rcases Yz h c with ⟨hx,e⟩|⟨hx,e⟩
 .exact .inl ⟨(x,0),⟨hx,(),()⟩,rfl,by simp[QF,VT,e,rI]⟩
 have big:∀{d:Str} {m:Nat},FigT d m->1<=m/\m<1000000000000000000000000000000:=λ{d m} f=>by
  have p:=Cm f;constructor
  .rcases Nat.eq_zero_or_pos m with z|z
   .exfalso;have q:=f.hd;rw[p,z] at q;exact q (by decide +kernel)
   .exact z
  .have g:=f.hi;rw[p] at g;have l:(jz (m:Int)).length=(Nat.toDigits 10 m).length:=by
    show(jz (m:Int)).cps.size=_;rw[<- Uc,Wt,Zql]
   rw[l] at g;exact Gz 30 m g
 have r:∀{s a d:Str},Txt.split x s=[a,d]->x=a++s++d:=λ{s a d} z=>by rw[<- Yy s a d,<- z,join_split]
 have u:TxtOk 1 ("+" : Str):=J2 (by decide +kernel);have v:TxtOk 1 ("-" : Str):=J2 (by decide +kernel);rcases G0 (s:= "+") (u2:=none) h c (by decide +kernel) u with ⟨a,d,m,sp,j,b,k⟩|⟨w,k⟩
 .obtain⟨y,A⟩:=big b;have o:Vt [.str (("+" : Str)++d)]=some (.int (m:Int)):=by
   show(if(("+" : Str)++d).length<=640 then(intText? _).map D.int else none)=_;rw[Zd (by rw[JS];have:=b.hi;show 1+_<=_;lia),b.plus];rfl
  have k:=k _ o;refine .inl ⟨(a,(m:Int)),⟨j,by show -_<(m:Int);lia,by show(m:Int)<_;lia⟩,?_,?_⟩
  .show yR a (m:Int)=x;unfold yR;rw[Ze (),Zd (),<- Cm b,r sp]
  simp_all [QF,Cn,Ws,rI]
 .rcases G0 (u2:=w) h c (by decide +kernel) v with ⟨a,d,m,sp,j,b,k2⟩|⟨B,k2⟩
  .have ⟨y,A⟩:=big b;have o:Vt [.str (("-" : Str)++d)]=some (.int (-(m:Int))):=by
    show(if(("-" : Str)++d).length<=640 then(intText? _).map D.int else none)=_;rw[Zd (by rw[JS];have:=b.hi;show 1+_<=_;lia),b.minus];rfl
   have k2:=k2 _ o;refine .inl ⟨(a,-(m:Int)),⟨j,(),()⟩,?_,?_⟩
   .show yR a (-(m:Int))=x;unfold yR;obtain⟨t,rfl⟩:∃t,m=t+1:=⟨m-1,()⟩;rw[Ze (),Ze (),WX,<- Cm b,<- KG,r sp]
   .unfold QF;rw[Cn];simp[e,Ws,k,k2,rI]
  .refine .inr ?_;unfold QF;rw[Cn];simp[e,Ws,k,k2]
def oD:Option (Str×Int)->D
 |none=>.non
 |some i=>rI i
open Classical in
def Qz (x:Str):Option (Str×Int):=if h:∃i,xM i/\jC i=x/\QF [.str x]=.ok (rI i) then some (choose h) else none
def Ro {n:Nat}{x:Str}(h:TxtOk n x)(a:n<=16000000):QF [.str x]=.ok (oD (Qz x)):=by
 unfold Qz
 split
 .rename_i e;exact(UP e).2.2
 .rename_i e;rcases Rn h a with z|z
  .exact Zn z e
  .exact z
def G1 {x:Str}{i:Str×Int}(h:Qz x=some i):xM i/\jC i=x:=by
 unfold Qz at h
 split at h
 .grind
 .cases h
theorem G3:∀{l:Yh},(∀x∈l,Qz x≠none)->∃a:List (Str×Int),l.map Qz=a.map some/\a.map jC=l/\∀i∈a,xM i
 | [],_=>⟨[],rfl,rfl,λ_ h=>nomatch h⟩
 |x::l,h=>by
  obtain⟨a,b,c,d⟩:=G3 (l:=l) ();cases e:Qz x with
  |none=>exact()
  |some i =>
   obtain⟨k1,k2⟩:=G1 e;exact⟨i::a,(),(),()⟩
def Co {i:Str×Int}(h:xM i):1<=(jC i).length:=by
 have:=h.1.ne.1;unfold jC yR
 split
 .exact this
 .split
  .rw[JS,JS];lia
  .rw[JS];lia
def Rp (x s:Str):1<=(Txt.split x s).length:=by
 rcases Nat.eq_zero_or_pos (Txt.split x s).length with z|z
 .unfold Txt.split at z
  split at z
  .simp at z
  .split at z
   .simp at z
   .rw[StrLaws.partsBetween_eq] at z
    revert z
    generalize Builtin.Str.occurrences _ _ _ _ _=cs;cases cs<;>simp[StrLaws.partsFrom]
 .exact z
def G4 {n how:Str}{ws:Yh}{N:Nat}(h:TxtOk N (Txt.join " " ws))(g:N<=16000000)(m:JoinOk " " ws=true):
 (∃a:List (Str×Int),(∀i∈a,xM i)/\1<=a.length/\Txt.join ", " (a.map jC)=Txt.join " " ws/\Vu [.str n,.str how,.lst (ws.map .str)]=.ok (.tup [.str n,.str how,.lst (a.map rI)]))\/Vu [.str n,.str how,.lst (ws.map .str)]=.ok .non:=by
 have u:=Ac m;generalize I:Txt.join " " ws=t at *;have v:=KM (s:= ", ") h g (by decide +kernel);have w:=Rp t ", ";have y:=join_split t ", ";have sp:∀p∈Txt.split t ", ",TxtOk N p:=λp A=>Y0 h A;have J:(Txt.split t ", ").length<=16000001:=by
  have B:=Wx ", " (Txt.split t ", ");have C:(", " : Str).length=2:=by decide +kernel
  rw[y,C] at B;have:=h.len;lia
 generalize K:Txt.split t ", " = l at *;have b:qm (.one 0) (J1 QF (Jr (ja 0) jd)) [none] (l.map .str)=.ok (l.map λx=>oD (Qz x)):=KW λx hx=>by
  have e:=Ro (sp x hx) g;simp[e]
 have E:(l.map D.str).length<sizeLine:=Gu ();have F:(l.map λx=>oD (Qz x)).all (plN 12)=true:=Ul.mpr λd f=>by
  obtain⟨x,_,rfl⟩:=Ja.mp f;cases e:Qz x with
  |none=>rfl
  |some i=>exact Gy (G1 e).1
 have o:qX false .non (.lst (l.map λx=>oD (Qz x)))=some (.bl ((l.map λx=>oD (Qz x)).any λe=>sameD e .non)):=by
  show(if plN 12 D.non&&(l.map λx=>oD (Qz x)).all (plN 12) then some (D.bl (if false=true then _ else(l.map λx=>oD (Qz x)).any λe=>sameD e .non)) else none)=_;rw[F];rfl
 by_cases c:∀x∈l,Qz x≠none
 .obtain⟨a,G,q,H⟩:=G3 c;have L:(l.map λx=>oD (Qz x))=a.map rI:=by
   have:(l.map Qz).map oD=(a.map some).map oD:=by rw[G]
   rwa [Zw,Zw] at this
  have r:((a.map rI).any λe=>sameD e .non)=false:=List.any_eq_false.mpr λd f=>by
   obtain⟨j,m,rfl⟩:=Ja.mp f;rw[zw.mpr (λz=>by cases z)];exact Zj
  refine .inl ⟨a,H,by rwa [<- q,Zql] at w,by rwa [q],?_⟩
  simp_all [Vu,WZ,j7]
 .have ⟨x,hx,ex⟩:∃x∈l,Qz x=none:=by
   refine()
  have r:((l.map λx=>oD (Qz x)).any λe=>sameD e .non)=true:=List.any_eq_true.mpr ⟨.non,Ja.mpr ⟨x,hx,by rw[ex];rfl⟩,Kz _⟩;rw[r] at o;generalize l.map D.str=xs at *;exact .inr (by simp[Vu,WZ,j7,u,v,b,E,o])
structure RowR (n how:Str)(its:List (Str×Int)):Prop where
 nm:jA n
 hw:how = "all" \/ how = "first" \/ jA how
 is:∀i∈its,xM i
 lo:1<=its.length
def qd (n how:Str)(a:List (Str×Int)):Str:= " " ++ n ++ " " ++ jE how ++ " " ++ Txt.join ", " (a.map jC)
def Km (n how:Str)(a:List (Str×Int)):D:=.tup [.str n,.str how,.lst (a.map rI)]
def Ar (a:Str):("" : Str)++a=a:=JF (by rw[J0];rfl)
def G5 (a:Str):("part" : Str)++(" " ++ a) = "part " ++ a:=JF (by simp only[J0,<- Ub];rfl)
def K7 (x y:Str)(r:Yh):Txt.join " " (x::y::r)=x ++ " " ++ Txt.join " " (y::r):=QP _ _ _ _
def Cp {x:Str}(hx:asc x):qX false (.str x) (.tup [.str "all",.str "first"])=some (.bl (!xO x)):=by
 have e:=P7 (neg:=false) hx (xs:=["all", "first"]) (λy hy=>by
  rcases Uj.mp hy with rfl|hy;· unfold asc;decide +kernel
  .rw[Jb.mp hy];unfold asc;decide +kernel)
 simp_all [xO]
def Wy {w:Str}{l:Yh}{N:Nat}(h:((w::l).map (·.length)).sum+(w::l).length*1<=N):(l.map (·.length)).sum+l.length*1<=N:=by
 rw[Zl,List.sum_cons,Zu] at h;lia
def Au {N:Nat}{w x:Str}{l:Yh}(h:TxtOk N (Txt.join " " (w::x::l))):TxtOk N (Txt.join " " (x::l)):=by
 rw[K7] at h;have a:=h.len;rw[JS] at a;exact⟨(),xu.mpr λc b=>xu.mp h.asc c (by rw[J0];exact Ud _ b)⟩
def Rq (N:Nat):TxtOk N (Txt.join " " []):=by rw[Aa];exact⟨Ue _,by unfold asc;decide +kernel⟩
def Rr {a:List (Str×Int)}(h:∀i∈a,xM i)(lo:1<=a.length):Txt.join ", " (a.map jC)≠Txt.join " " []:=λe=>by
 have l:=Wx ", " (a.map jC);rw[e,Aa] at l;cases a with
 |nil=>simp at lo
 |cons i r =>
  have:=Co (h i Zqs);have b:(", " : Str).length=2:=by decide +kernel
  have c:(Str.empty:Str).length=0:=rfl
  grind
def Rs {N:Nat}{row:Str}(h:TxtOk N row)(v:N<=16000000):(∃n how d,RowR n how d/\qd n how d=row/\Qp [.str row]=.ok (Km n how d))\/Qp [.str row]=.ok .non:=by
 have g:=KM (s:= " ") h v (by decide +kernel);have y:=join_split row " ";have sp:∀p∈Txt.split row " ",TxtOk N p:=λp Q=>Y0 h Q;have w:=Wx " " (Txt.split row " ");have G:(" " : Str).length=1:=by decide +kernel
 rw[y,G] at w;have X:=h.len;have w:((Txt.split row " ").map (·.length)).sum+(Txt.split row " ").length*1<=16000001:=()
 obtain⟨l,hl'⟩:∃l,l=Txt.split row " " := ⟨_,rfl⟩;rw[<- hl'] at g y sp w;by_cases c:l.length<4
 .have R:(l.length:Int)<4:=()
  exact .inr (by simp[Qp,Kc,j7,g,R])
 obtain⟨f,e,b,a,r,rfl⟩:∃f e b a r,l=f::e::b::a::r:=by
  rcases l with _|⟨f,_|⟨e,_|⟨b,_|⟨a,r⟩⟩⟩⟩
  .simp at c
  .simp at c
  .simp at c
  .simp at c
  .exact⟨f,e,b,a,r,rfl⟩
 have M:TxtOk N (Txt.join " " (a::r)):=Au (Au (Au (by rw[y];exact h)));have S:JoinOk " " (a::r)=true:=Aq (by rw[G];have:=Wy (Wy (Wy w));lia);have T:JoinOk " " r=true:=Aq (by rw[G];have:=Wy (Wy (Wy (Wy w)));lia);have U:TxtOk N (Txt.join " " r):=by
  cases r with
  |nil=>exact Rq N
  |cons x r=>exact Au M
 have k0:=sp f ();have k1:=sp e ();have k2:=sp b ();have k3:=sp a ();obtain⟨z,hz⟩:∃z:Int,z=((r.length+1+1+1+1:Nat):Int):=⟨_,rfl⟩;have j:j6 [.lst ((f::e::b::a::r).map .str)]=some (.int z):=by
  show some (D.int _)=_;simp only[Zql,Zu];exact()
 have H:wX (.lst ((f::e::b::a::r).map .str)) (some 3) none none=some (.lst ((a::r).map .str)):=by
  show some (D.lst (Qe _ (some 3) none none))=_;rw[ZY _ ()];rfl
 have I:wX (.lst ((f::e::b::a::r).map .str)) (some 4) none none=some (.lst (r.map .str)):=by
  show some (D.lst (Qe _ (some 4) none none))=_;rw[ZY _ ()];rfl
 have t:¬z<4:=()
 have i:=An k0.asc (show asc ("" : Str) by unfold asc;decide +kernel);have m:=Cp k2.asc;have u:=Go k2.asc (show asc ("part" : Str) by unfold asc;decide +kernel);have O:row=f ++ " " ++ (e ++ " " ++ (b ++ " " ++ Txt.join " " (a::r))):=by rw[<- y,K7,K7,K7]
 have P:=G4 (n:=e) (how:=b) M v S;have wb:=G4 (n:=e) (how:=a) U v T;simp only[Zl] at g j H I P;by_cases A:f = ""
 .rw[Zp A] at i;rcases Yz k1 v with ⟨J,o⟩|⟨J,o⟩
  .cases q:xO b with
   |false =>
    rw[q] at m;rcases P with ⟨d,B,C,E,f2⟩|f2
    .refine .inl ⟨e,b,d,⟨J,?_,B,C⟩,?_,?_⟩
     .unfold xO at q;rw[Bool.not_eq_false',Uq,decide_eq_true_eq,decide_eq_true_eq] at q;exact q.imp_right .inl
     .have hw:b = "all" \/ b = "first" := by
       unfold xO at q;rw[Bool.not_eq_false',Uq,decide_eq_true_eq,decide_eq_true_eq] at q;exact q
      unfold qd;rw[show jE b=b from Zd hw,E,O,A];simp only[KG,Ar]
     .simp[Qp,Kc,j7,g,j,H,qw,qV,yh,i,o,m,f2,Km,t]
    .exact .inr (by simp[Qp,Kc,j7,g,j,H,qw,qV,yh,i,o,m,f2,t])
   |true =>
    rw[q] at m;by_cases K:b = "part"
    .rw[Zp K] at u;rcases Yz k3 v with ⟨L,F⟩|⟨L,F⟩
     .rcases wb with ⟨d,B,C,E,f2⟩|f2
      .refine .inl ⟨e,a,d,⟨J,.inr (.inr L),B,C⟩,?_,?_⟩
       .have hw:¬(a = "all" \/ a = "first"):=λz=>by
         have:=L.ne;rcases z with z|z
         .exact this.2.1 z
         .exact this.2.2 z
        cases r with
        |nil=>exact Zn E (Rr B C)
        |cons x r =>
         unfold qd;rw[show jE a = "part " ++ a from Ze hw,E,O,A,K,K7];simp only[KG,Ar,G5]
       .simp[Qp,Kc,j7,g,j,I,qw,qV,yh,zJ,i,o,F,m,u,f2,Km,t]
      .exact .inr (by simp[Qp,Kc,j7,g,j,I,qw,qV,yh,zJ,i,o,F,m,u,f2,t])
     .exact .inr (by simp[Qp,Kc,j7,g,j,qw,qV,yh,zJ,i,o,F,m,u,t])
    .rw[Zo K] at u;exact .inr (by simp[Qp,Kc,j7,g,j,qw,qV,yh,zJ,i,o,m,u,t])
  .exact .inr (by simp[Qp,Kc,j7,g,j,qw,qV,i,o])
 .rw[Zo A] at i;exact .inr (by simp[Qp,Kc,j7,g,j,qw,i])
def Cq {n m:Nat}{st row:Str}(a:TxtOk m st)(b:m<=1000)(c:TxtOk n row)(d:n<=16000000)(h:Txt.startswith row st=false):Qw [.str st,.str row]=.ok .non:=by
 have e:XE row (.str st)=some (.bl false):=by show some (D.bl (Txt.startswith row st))=_;rw[h]
 simp[Qw,Wv,(XM a b),(Ck c d (some (st.length:Int)) none),j7,e]
def Cr {m:Nat}{st x:Str}(a:TxtOk m st)(d:m<=900)(hx:jA x):Qw [.str st,.str (st++x)]=.ok (.str x):=by
 have b:=Ck (a.app hx.1) () (some (st.length:Int)) none;rw[XZ] at b;have c:XE (st++x) (.str st)=some (.bl true):=by show some (D.bl (Txt.startswith (st++x) st))=_;rw[Gm]
 simp[Qw,Wv,(XM a ()),b,j7,c,(Ap hx)]
def Rt {x a:Str}(h:Txt.startswith x a=true):∃b,x=a++b:=by
 have h:(decide (0+a.length<=x.length)&&Builtin.Str.subAt x a 0)=true:=h;rw[Ua,StrLaws.subAt_eq,Yl,List.drop_zero] at h;refine⟨⟨(x.cps.toList.drop a.length).toArray⟩,JF ?_⟩;rw[J0,<- h.2];simp
theorem G6 {m N:Nat}{st row:Str}(g:TxtOk m st)(n:m<=900)(a:TxtOk N row)(d:N<=16000000):(∃x,jA x/\row=st++x/\Qw [.str st,.str row]=.ok (.str x))\/Qw [.str st,.str row]=.ok .non:=by
 cases c:Txt.startswith row st with
 |false=>exact .inr (Cq g () a d c)
 |true =>
  obtain⟨b,rfl⟩:=Rt c;have j:TxtOk N b:=by
   have:=a.len;rw[JS] at this;exact⟨(),xu.mpr λc l=>xu.mp a.asc c (by rw[J0];exact Ud _ l)⟩
  have h:=XM g ();have f:=Ck a d (some (st.length:Int)) none;rw[XZ] at f;have i:XE (st++b) (.str st)=some (.bl true):=by show some (D.bl (Txt.startswith (st++b) st))=_;rw[Gm]
  rcases Yz j d with ⟨nb,e⟩|⟨nb,e⟩
  .exact .inl ⟨b,nb,rfl,by simp[Qw,Wv,h,f,j7,i,e]⟩
  .exact .inr (by simp[Qw,Wv,h,f,j7,i,e])
theorem Cs:TxtOk 5 ("plan " : Str):=J2 (by decide +kernel)
theorem ur:TxtOk 7 (" given " : Str):=J2 (by decide +kernel)
def Ru (y:Str):Txt.startswith (" " ++ y) "plan " = false:=Gn λh=>by
 rw[J0] at h;have h:(32::y.cps.toList).take 5=[112,108,97,110,32]:=h;rw[List.take_succ_cons] at h;injection h with h
 cases h
def Ct (x:Str):(" given " : Str)++x = " " ++ ("given " ++ x):=by
 rw[<- KG];exact Zt (· ++ x) (JF (by decide +kernel))
def Rv {n how:Str}{a:List (Str×Int)}(R:RowR n how a):Txt.startswith (qd n how a) " given " = false:=Gn λh=>by
 unfold qd at h;simp only[KG] at h;rw[J0,J0,J0] at h;generalize ((jE how++((" " : Str)++Txt.join ", " (a.map jC)))).cps.toList=t at h;have h:(32::(n.cps.toList++(32::t))).take 7=[32,103,105,118,101,110,32]:=h;injection h with _ h
 have e:=List.take_append_drop 6 (n.cps.toList++(32::t));rw[h] at e;have b:(n.cps.toList++(32::t)).takeWhile (λc=>c != 32)=n.cps.toList:=by
  rw[List.takeWhile_append_of_pos λc g=>bne_iff_ne.mpr λz=>Kr R.nm (c:=32) (by decide) (by rwa [<- z])];simp
 rw[<- e] at b;have d: [103,105,118,101,110]=n.cps.toList:=by
  rw[<- b];rfl
 have f:("given" : Str)=n:=JF (by rw[<- d];decide +kernel);have z:=R.nm.2;unfold Qt at z;simp only[Ua] at z;have:=Ul.mp z.2.2.1 "given" (by decide +kernel);rw[Zp f] at this;cases this
def G7 {x:Str}(hx:jA x):Qp [.str (" given " ++ x)]=.ok .non:=by
 have g:=KM (s:= " ") (ur.app hx.1) () (by decide +kernel);have e:(" given " : Str)++x=Txt.join " " ["", "given",x]:=rfl;have sp:=Vw (s:= " ") rfl (by decide +kernel) (r:= "") (rs:=["given",x]) λp hp=>by
  rcases Uj.mp hp with rfl|hp
  .decide +kernel
  rcases Uj.mp hp with rfl|hp
  .decide +kernel
  .rw[Jb.mp hp];exact Kr hx (by decide)
 simp_all [Qp,Kc,j7]
structure Dr where
 name:Str
 givens:Yh
 rows:List (Int×Str×Str×List (Str×Int))
def qT (r:Int×Str×Str×List (Str×Int)):D:=.tup [.int r.1,Km r.2.1 r.2.2.1 r.2.2.2]
def Qn (q:Dr):D:=.ins "Draft" ["name", "givens", "rows"] [.str q.name,.lst (q.givens.map .str),.lst (q.rows.map qT)]
structure AtR (hp:HP)(a:Addr×Addr×Addr)(q:Dr):Prop where
 pl:je hp a.1=some (.ins "Draft" ["name", "givens", "rows"] [.str q.name,.adr a.2.1,.adr a.2.2])
 gv:je hp a.2.1=some (.lst (q.givens.map .str))
 rw_:je hp a.2.2=some (.lst (q.rows.map qT))
def qk (b:HP):List (Addr×Addr×Addr)->List Dr->Prop
 | [],ps=>ps=[]
 |a::as,ps=>∃q r,ps=q::r/\AtR b a q/\qk b as r
structure StR (hp:HP)(p:Addr)(as:List (Addr×Addr×Addr))(qs:List Dr):Prop where
 hp_:je hp p=some (.lst (as.map λb=>.adr b.1))
 all:qk hp as qs
 nd:(p::jV as).Nodup
theorem qk.snoc {d:HP}{a:Addr×Addr×Addr}{q:Dr}(f:AtR d a q):∀{e:List (Addr×Addr×Addr)} {c:List Dr},qk d e c->qk d (e++[a]) (c++[q])
 | [],c,h=>by rw[h];exact⟨q,[],rfl,f,rfl⟩
 |b::e,c,h=>by
  obtain⟨q',r,rfl,g,h⟩:=h;exact⟨q',r++[q],rfl,g,h.snoc f⟩
theorem qk.last {g:HP}{q:Dr}:∀{d:List (Addr×Addr×Addr)} {f:List Dr},qk g d (f++[q])->∃bs a,d=bs++[a]/\qk g bs f/\AtR g a q
 | [],f,h=>by have:=Zt List.length (h);simp at this
 |a::d,[],h=>by
  obtain⟨q',r,e,i,h⟩:=h;injection e with e1 e2
  subst e1 e2;cases d with
  |nil=>exact⟨[],a,rfl,rfl,i⟩
  |cons b d=>obtain⟨_,_,e,_⟩:=h;cases e
 |a::d,p::f,h=>by
  obtain⟨q',r,e,i,h⟩:=h;injection e with e1 e2
  subst e1 e2;obtain⟨bs,c,rfl,j,l⟩:=h.last;exact⟨a::bs,c,rfl,⟨_,_,rfl,i,j⟩,l⟩
def AtR.mono {c hp':HP}{a:Addr×Addr×Addr}{q:Dr}(h:AtR c a q)(e:∀b ∈ [a.1,a.2.1,a.2.2],je hp' b=je c b):AtR hp' a q:=
 ⟨(e _ ()).trans h.pl,(e _ ()).trans h.gv,(e _ ()).trans h.rw_⟩
theorem qk.mono {g hp':HP}:∀{c:List (Addr×Addr×Addr)} {d:List Dr},qk g c d->(∀b∈jV c,je hp' b=je g b)->qk hp' c d
 | [],d,h,_=>h
 |a::c,d,h,e=>by
  obtain⟨q,r,rfl,i,h⟩:=h;exact⟨q,r,rfl,i.mono λb f=>e b (Uo _ f),h.mono λb f=>e b (Ud _ f)⟩
def AtR.has {b:HP}{a:Addr×Addr×Addr}{q:Dr}(h:AtR b a q):∀c ∈ [a.1,a.2.1,a.2.2],je b c≠none:=λc d=>by
 have:c=a.1\/c=a.2.1\/c=a.2.2:=by simpa using d
 rcases this with rfl|rfl|rfl
 .rw[h.pl];simp
 .rw[h.gv];simp
 .rw[h.rw_];simp
theorem qk.has {d:HP}:∀{b:List (Addr×Addr×Addr)} {e:List Dr},qk d b e->∀c∈jV b,je d c≠none
 | [],_,_,c,hc=>by cases hc
 |a::b,e,h,c,hc=>by
  obtain⟨q,r,rfl,f,h⟩:=h;rcases Jc.mp (hc) with z|z
  .exact f.has c z
  .exact h.has c z
theorem qk.len {d:HP}:∀{c:List (Addr×Addr×Addr)} {b:List Dr},qk d c b->c.length=b.length
 | [],b,h=>by rw[h];rfl
 |a::c,b,h=>by
  obtain⟨q,r,rfl,_,h⟩:=h;rw[Zu,Zu,h.len]
def Rw {α: Type}{f:α -> D}{g:D->D}(h:∀x,g (f x)=f x)(l:List α):(l.map f).map g=l.map f:=by
 rw[Zw];exact UN λx _=>h x
def G8 (a:HP)(l:Yt):l.map (dr a 0)=l:=by
 conv=>rhs;rw[<- List.map_id l]
 exact UN λx _=>rfl
def AtR.dr4 {b:HP}{a:Addr×Addr×Addr}{q:Dr}(h:AtR b a q):dr b 4 (.adr a.1)=Qn q:=by
 rw[Ka _ h.pl];show D.ins "Draft" ["name", "givens", "rows"] [L2.DL.dr b 2 (.str q.name),L2.DL.dr b 2 (.adr a.2.1),L2.DL.dr b 2 (.adr a.2.2)]=_;rw[Wu,Ka _ h.gv,Ka _ h.rw_];show D.ins "Draft" ["name", "givens", "rows"] [.str q.name,.lst ((q.givens.map D.str).map (L2.DL.dr b 0)),.lst ((q.rows.map qT).map (L2.DL.dr b 0))]=_;rw[G8,G8];rfl
theorem qk.dr {e:HP}:∀{d:List (Addr×Addr×Addr)} {c:List Dr},qk e d c->(d.map λb=>D.adr b.1).map (dr e 4)=c.map Qn
 | [],c,h=>by rw[h];rfl
 |a::d,c,h=>by
  obtain⟨q,r,rfl,f,h⟩:=h;rw[Zl,Zl,f.dr4,h.dr];rfl
def Wz (a:List Dr):D:=.lst (a.map Qn)
def StR.dp {a:HP}{p:Addr}{c:List (Addr×Addr×Addr)}{d:List Dr}(h:StR a p c d):dr a 6 (.adr p)=Wz d:=by
 rw[Ka _ h.hp_];show D.lst ((c.map λb=>D.adr b.1).map (dr a 4))=_;rw[h.all.dr];rfl
def G9 (a:Addr×Addr×Addr):jV [a]=[a.1,a.2.1,a.2.2]:=rfl
def StR.ne {e:HP}{p:Addr}{d:List (Addr×Addr×Addr)}{a:Addr×Addr×Addr}{f:List Dr}(h:StR e p (d++[a]) f):p≠a.2.1/\p≠a.2.2/\a.1≠a.2.1/\a.1≠a.2.2/\a.2.1≠a.2.2/\∀b∈jV d,b≠a.2.1/\b≠a.2.2:=by
 have c:=h.nd;rw[BZ,G9] at c;obtain⟨g,c⟩:=Jf.mp c;obtain⟨i,j,l⟩:=Jl.mp c
 simp_all
def StR.given {c:HP}{p:Addr}{e:List (Addr×Addr×Addr)}{a:Addr×Addr×Addr}{f:List Dr}{q:Dr}(h:StR c p (e++[a]) (f++[q]))(g:AtR c a q)(j:qk c e f)(i:Yh):StR (JV c a.2.1 (.lst (i.map .str))) p (e++[a]) (f++[⟨q.name,i,q.rows⟩]):=by
 have d:je c a.2.1≠none:=by rw[g.gv];simp
 exact⟨(Qv d h.ne.1).trans h.hp_,qk.snoc (q:=⟨q.name,i,q.rows⟩) ⟨(Qv d h.ne.2.2.1).trans g.pl,VN d,(Qv d h.ne.2.2.2.2.1.symm).trans g.rw_⟩ (j.mono λb l=>Qv d (h.ne.2.2.2.2.2 b l).1),h.nd⟩
def StR.made {c:HP}{p:Addr}{e:List (Addr×Addr×Addr)}{a:Addr×Addr×Addr}{f:List Dr}{q:Dr}(h:StR c p (e++[a]) (f++[q]))(g:AtR c a q)(i:qk c e f)(rs:List (Int×Str×Str×List (Str×Int))):StR (JV c a.2.2 (.lst (rs.map qT))) p (e++[a]) (f++[⟨q.name,q.givens,rs⟩]):=by
 have d:je c a.2.2≠none:=by rw[g.rw_];simp
 exact⟨(Qv d h.ne.2.1).trans h.hp_,qk.snoc (q:=⟨q.name,q.givens,rs⟩) ⟨(Qv d h.ne.2.2.2.1).trans g.pl,(Qv d h.ne.2.2.2.2.1).trans g.gv,VN d⟩ (i.mono λb j=>Qv d (h.ne.2.2.2.2.2 b j).2),h.nd⟩
def StR.plan {a hp':HP}{p x g r:Addr}{i:List (Addr×Addr×Addr)}{n:List Dr}{q:Dr}(h:StR a p i n)(hx:je a x=none)(j:je a g=none)(l:je a r=none)(s:x≠g)(t:x≠r)(u:g≠r)(v:AtR hp' (x,g,r) q)(w:je hp' p=some (.lst ((i++[(x,g,r)]).map λb=>.adr b.1)))(e:∀b,b≠x->b≠g->b≠r->b≠p->je hp' b=je a b):StR hp' p (i++[(x,g,r)]) (n++[q]):=by
 have f:=h.all.has;obtain⟨o,y⟩:=Jf.mp h.nd;have m:je a p≠none:=by rw[h.hp_];simp
 have ne:∀{b c:Addr},je a b≠none->je a c=none->b≠c:=by grind
 refine⟨w,qk.snoc v (h.all.mono λb d=>e b (ne (f b d) hx) (ne (f b d) j) (ne (f b d) l) λz=>o (by rwa [<- z])),?_⟩;rw[BZ,G9];refine Jf.mpr ⟨λz=>?_,Jl.mpr ⟨y,by simp[s,t,u],λb d c A=>?_⟩⟩
 .rcases Jc.mp z with z|z
  .exact o z
  .have:p=x\/p=g\/p=r:=by simpa using z
   rcases this with z|z|z
   .exact ne m hx z
   .exact ne m j z
   .exact ne m l z
 .have:c=x\/c=g\/c=r:=by simpa using A
  rcases this with rfl|rfl|rfl
  .exact ne (f b d) hx
  .exact ne (f b d) j
  .exact ne (f b d) l
section
variable {hp:HP}{a:Addr×Addr×Addr}{q:Dr}
def Rx {x:Str}(h:AtR hp a q)(c:q.rows=[])(hx:jA x)(d:q.givens.length<=1000)(k:Int):VU [.adr a.1,.int k,.str (" given " ++ x)] hp=.ok (.bl true,JV hp a.2.1 (.lst ((q.givens++[x]).map .str))):=by
 have e:=Cr ur () hx;have f:=G7 hx;have g:(q.givens.map D.str).length<sizeLine:=by rw[Zql];exact Qr d
 have i:dr hp 6 (.adr a.1)=Qn q:=by
  rw[Ka _ h.pl];show D.ins "Draft" ["name", "givens", "rows"] [dr hp 4 (.str q.name),dr hp 4 (.adr a.2.1),dr hp 4 (.adr a.2.2)]=_;rw[Wu,Ka _ h.gv,Ka _ h.rw_,Cc,c];unfold Qn;rw[c];rfl
 have j:j0 "Draft" "rows" (Qn q)=some (.lst []):=by unfold Qn;rw[c];rfl
 have l:j0 "Draft" "givens" (.ins "Draft" ["name", "givens", "rows"] [.str q.name,.adr a.2.1,.adr a.2.2])=some (.adr a.2.1):=rfl;have m:jZ (.lst []) (.lst [])=some (.bl true):=by rw[WF rfl rfl,Kz]
 refine Af rfl ?_ λb n=>?_
 .generalize (" given " : Str)++x=row at *;show((KI [~~~(.adr a.1),~~~(.int k),~~~(.str row),none,none] hp).bind ql)=_;simp[KI,e,f,i,j,m,show qD true (D.str x)=some (.bl true) from rfl,Fh h.pl l,BJ h.gv,BK h.gv g]
 .have o:je hp a.2.1≠none:=by rw[h.gv];simp
  rw[Vc b o]
  split
  .simp
  .exact n
def Ry {n how row:Str}{c:List (Str×Int)}(h:AtR hp a q)(d:Qw [.str " given ",.str row]=.ok .non)(e:Qp [.str row]=.ok (Km n how c))(f:q.rows.length<=1000)(k:Int):VU [.adr a.1,.int k,.str row] hp=.ok (.bl true,JV hp a.2.2 (.lst ((q.rows++[(k,n,how,c)]).map qT))):=by
 have g:(q.rows.map qT).length<sizeLine:=by rw[Zql];exact Qr f
 have i:j0 "Draft" "rows" (.ins "Draft" ["name", "givens", "rows"] [.str q.name,.adr a.2.1,.adr a.2.2])=some (.adr a.2.2):=rfl;refine Af rfl ?_ λb l=>?_
 .show((KI [~~~(.adr a.1),~~~(.int k),~~~(.str row),none,none] hp).bind ql)=_;simp[KI,d,e,Km,qT,Fh h.pl i,BJ h.rw_,BK h.rw_ g]
 .have j:je hp a.2.2≠none:=by rw[h.rw_];simp
  rw[Vc b j]
  grind
def Rz {row:Str}(d:Qw [.str " given ",.str row]=.ok .non)(e:Qp [.str row]=.ok .non)(k:Int):VU [.adr a.1,.int k,.str row] hp=.ok (.bl false,hp):=by
 refine Af rfl ?_ λb c=>c;show((KI [~~~(.adr a.1),~~~(.int k),~~~(.str row),none,none] hp).bind ql)=_
 simp_all [KI]
structure DrG (q:Dr):Prop where
 nm:jA q.name
 gs:∀g∈q.givens,jA g
 rs:∀z∈q.rows,RowR z.2.1 z.2.2.1 z.2.2.2
def GA {n how:Str}{b:List (Str×Int)}(R:RowR n how b):TxtOk 12 how:=by
 rcases R.hw with rfl|rfl|h
 .exact J2 (by decide +kernel)
 .exact J2 (by decide +kernel)
 .exact h.1
def R0 {z:Int×Str×Str×List (Str×Int)}(R:RowR z.2.1 z.2.2.1 z.2.2.2):plN 11 (qT z)=true:=by
 have b:plN 9 (.lst (z.2.2.2.map rI))=true:=by
  refine Ul.mpr λd c=>?_;obtain⟨j,e,rfl⟩:=Ja.mp c;show[D.str j.1,D.int j.2].all (plN 7)=true;rw[Ui,Kq (R.is j e).1.1.asc];rfl
 have f:plN 10 (Km z.2.1 z.2.2.1 z.2.2.2)=true:=by
  show[D.str z.2.1,D.str z.2.2.1,.lst (z.2.2.2.map rI)].all (plN 9)=true;rw[Ui,Ui,Ui,Kq R.nm.1.asc,Kq (GA R).asc,b];rfl
 show[D.int z.1,Km z.2.1 z.2.2.1 z.2.2.2].all (plN 10)=true;rw[Ui,Ui,f];rfl
def R1 (hp:HP)(z:Int×Str×Str×List (Str×Int)):dr hp 2 (qT z)=qT z:=rfl
def R3 {x:Str}(h:AtR hp a q)(G:DrG q)(n:q.rows ≠ [])(hx:jA x)(k:Int):VU [.adr a.1,.int k,.str (" given " ++ x)] hp=.ok (.bl false,hp):=by
 have c:=Cr ur () hx;have e:=G7 hx;have f:dr hp 6 (.adr a.1)=Qn q:=by
  rw[Ka _ h.pl];show D.ins "Draft" ["name", "givens", "rows"] [dr hp 4 (.str q.name),dr hp 4 (.adr a.2.1),dr hp 4 (.adr a.2.2)]=_;rw[Wu,Ka _ h.gv,Ka _ h.rw_,Cc];show D.ins "Draft" ["name", "givens", "rows"] [.str q.name,.lst (q.givens.map .str),.lst ((q.rows.map qT).map (dr hp 2))]=_;rw[Rw (R1 hp)];rfl
 have g:j0 "Draft" "rows" (Qn q)=some (.lst (q.rows.map qT)):=rfl;have i:jZ (.lst (q.rows.map qT)) (.lst [])=some (.bl false):=by
  rw[Pu (by
   refine Ul.mpr λd j=>?_;obtain⟨z,l,rfl⟩:=Ja.mp j;exact R0 (G.rs z l))]
  simp_all
 refine Af rfl ?_ λb m=>m;generalize (" given " : Str)++x=row at *;show((KI [~~~(.adr a.1),~~~(.int k),~~~(.str row),none,none] hp).bind ql)=_;simp[KI,c,e,f,g,i,show qD true (D.str x)=some (.bl true) from rfl]
end
def cE (a:HP)(x:Addr)(nm:Str)(o:D×HP):Prop:=o.1=.non/\∃g r,x≠g/\x≠r/\g≠r/\je a g=none/\je a r=none/\AtR o.2 (x,g,r) ⟨nm,[],[]⟩/\∀b,b≠x->b≠g->b≠r->je o.2 b=je a b
def R4 {a:HP}{x:Addr}{nm:Str}(hx:je a x=none):(Ag [.adr x,.str nm] ((x,.ins "Draft" [] [])::a)).need (cE a x nm) λ_ _=>False:=by
 obtain⟨H0,eH⟩:∃H:HP,H=(x,D.ins "Draft" [] [])::a:=⟨_,rfl⟩;have l:je H0 x=some (.ins "Draft" [] []):=by rw[eH,Q5,Zd rfl]
 have k0:∀b,b≠x->je H0 b=je a b:=λb z=>by rw[eH,Q5,Ze z]
 rw[<- eH];have m:je H0 x≠none:=by rw[l];simp
 unfold Ag;refine XG rfl ?_;have t:VQ "Draft" "name" [~~~(.adr x),~~~(.str nm)] (.str nm) (.adr x,H0)=.ok (.next [~~~(.adr x),~~~(.str nm)] (JV H0 x (.ins "Draft" ["name"] [.str nm]))):=BN l () ();show((XS [~~~(.adr x),~~~(.str nm)] H0).bind ql).need _ _;have u:je (JV H0 x (.ins "Draft" ["name"] [.str nm])) x=some (.ins "Draft" ["name"] [.str nm]):=VN m;have k1:∀b,b≠x->je (JV H0 x (.ins "Draft" ["name"] [.str nm])) b=je a b:=λb z=>(Qv m z).trans (k0 b z);unfold XS;simp[t];generalize JV H0 x (.ins "Draft" ["name"] [.str nm])=H1 at *;intro g I;have d:x≠g:=by grind
 obtain⟨H2,eH2⟩:∃H:HP,H=(g,D.lst [])::H1:=⟨_,rfl⟩;rw[<- eH2];have n:je H2 x=some (.ins "Draft" ["name"] [.str nm]):=by rw[eH2,Q5,Ze d,u]
 have v:je H2 g=some (.lst []):=by rw[eH2,Q5,Zd rfl]
 have k2:∀b,b≠x->b≠g->je H2 b=je a b:=λb z y=>by rw[eH2,Q5,Ze y,k1 b z]
 have f:je H2 x≠none:=by rw[n];simp
 have A:VQ "Draft" "givens" [~~~(.adr x),~~~(.str nm)] (.adr g) (.adr x,H2)=.ok (.next [~~~(.adr x),~~~(.str nm)] (JV H2 x (.ins "Draft" ["name", "givens"] [.str nm,.adr g]))):=BN n (by decide +kernel) ();have B:je (JV H2 x (.ins "Draft" ["name", "givens"] [.str nm,.adr g])) x=some (.ins "Draft" ["name", "givens"] [.str nm,.adr g]):=VN f;have C:je (JV H2 x (.ins "Draft" ["name", "givens"] [.str nm,.adr g])) g=some (.lst []):=(Qv f d.symm).trans v;have k3:∀b,b≠x->b≠g->je (JV H2 x (.ins "Draft" ["name", "givens"] [.str nm,.adr g])) b=je a b:=λb z y=>(Qv f z).trans (k2 b z y);simp[A];generalize JV H2 x (.ins "Draft" ["name", "givens"] [.str nm,.adr g])=H3 at *;intro r J;have e:x≠r:=by grind
 have h:g≠r:=by grind
 obtain⟨H4,eH4⟩:∃H:HP,H=(r,D.lst [])::H3:=⟨_,rfl⟩;rw[<- eH4];have o:je H4 x=some (.ins "Draft" ["name", "givens"] [.str nm,.adr g]):=by rw[eH4,Q5,Ze e,B]
 have E:je H4 g=some (.lst []):=by rw[eH4,Q5,Ze h,C]
 have F:je H4 r=some (.lst []):=by rw[eH4,Q5,Zd rfl]
 have p:∀b,b≠x->b≠g->b≠r->je H4 b=je a b:=λb z y w=>by rw[eH4,Q5,Ze w,k3 b z y]
 have q:je H4 x≠none:=by rw[o];simp
 have G:VQ "Draft" "rows" [~~~(.adr x),~~~(.str nm)] (.adr r) (.adr x,H4)=.ok (.next [~~~(.adr x),~~~(.str nm)] (JV H4 x (.ins "Draft" ["name", "givens", "rows"] [.str nm,.adr g,.adr r]))):=BN o (by decide +kernel) ();have s:je (JV H4 x (.ins "Draft" ["name", "givens", "rows"] [.str nm,.adr g,.adr r])) x=some (.ins "Draft" ["name", "givens", "rows"] [.str nm,.adr g,.adr r]):=VN q;have k5:∀b,b≠x->je (JV H4 x (.ins "Draft" ["name", "givens", "rows"] [.str nm,.adr g,.adr r])) b=je H4 b:=λb z=>Qv q z;rw[G];have i:je a g=none:=by rwa [<- k1 g d.symm]
 have j:je a r=none:=by rwa [<- k3 r e.symm h.symm]
 refine⟨λb K=>?_,rfl,g,r,d,e,h,i,j,⟨s,(k5 g d.symm).trans E,(k5 r e.symm).trans F⟩,λb z y w=>(k5 b z).trans (p b z y w)⟩;by_cases z:b=x
 .rw[z,s];simp
 .have c:je a b≠none:=by rwa [<- k0 b z]
  rw[k5 b z,p b z (λy=>c (by rwa [y])) λy=>c (by rwa [y])];exact c
section
variable {hp:HP}{p:Addr}{as:List (Addr×Addr×Addr)}{qs:List Dr}
def mO (p:Addr)(hp:HP)(a:List Dr)(o:D×HP):Prop:=o.1=.bl true/\(∃c,StR o.2 p c a)/\∀b,je hp b≠none->je o.2 b≠none
def R5 {x:Str}(h:StR hp p as qs)(hx:jA x)(t:qs.length<=1000)(k:Int):(Kd [.adr p,.int k,.str ("plan " ++ x)] hp).need (mO p hp (qs++[⟨x,[],[]⟩])) λ_ _=>False:=by
 have u:=Cr Cs () hx;unfold Kd;refine XG rfl ?_;generalize ("plan " : Str)++x=row at *;show((KJ [~~~(.adr p),~~~(.int k),~~~(.str row),none] hp).bind ql).need _ _;unfold KJ;simp[u,show qD true (D.str x)=some (.bl true) from rfl,BJ h.hp_];intro y e;refine Wr.need_bind.mpr (Wr.need_bind.mpr (Wr.need_bind.mpr (Wr.need_bind.mpr (Wr.need_bind.mpr ((R4 e).mono (λo v=>?_) λ_ _ z=>z)))));obtain⟨d,H⟩:=o;obtain⟨rfl,g,r,w,A,B,i,j,C,l⟩:=v;have m:je hp p≠none:=by rw[h.hp_];simp
 have n:p≠y:=λz=>m (by rw[z];exact e);have q:p≠g:=λz=>m (by rw[z];exact i);have s:p≠r:=λz=>m (by rw[z];exact j);have c:je H p=some (.lst (as.map λb=>.adr b.1)):=(l p n q s).trans h.hp_;have E:(as.map λb=>D.adr b.1).length<sizeLine:=by rw[Zql,h.all.len];exact Qr t
 show(Wr.need (XH y (.non,H)) _ _);rw[OQ];show(Wr.need (WS _ p (.adr y,H)) _ _);rw[BK c E];have f:je H p≠none:=by rw[c];simp
 have st:StR (JV H p (.lst ((as.map λb=>D.adr b.1)++[.adr y]))) p (as++[(y,g,r)]) (qs++[⟨x,[],[]⟩]):=by
  refine h.plan e i j w A B (C.mono λb a=>Qv f ?_) ?_ λb F G I J=>(Qv f J).trans (l b F G I)
  .have:b=y\/b=g\/b=r:=by simpa using a
   rcases this with rfl|rfl|rfl
   .exact n.symm
   .exact q.symm
   .exact s.symm
  .rw[VN f,Ut];rfl
 have keep:∀b,je hp b≠none->je (JV H p (.lst ((as.map λb=>D.adr b.1)++[.adr y]))) b≠none:=λb a=>by
  rw[Vc b f]
  split
  .simp
  .rw[l b (λz=>a (by rw[z];exact e)) (λz=>a (by rw[z];exact i)) λz=>a (by rw[z];exact j)];exact a
 exact⟨keep,rfl,⟨_,st⟩,keep⟩
def GB {q q':Dr}{row:Str}{k:Int}(h:StR hp p as (qs++[q]))(c:Qw [.str "plan ",.str row]=.ok .non)
 (f:∀(bs:List (Addr×Addr×Addr)) (a:Addr×Addr×Addr),as=bs++[a]->qk hp bs qs->AtR hp a q->∃hp',VU [.adr a.1,.int k,.str row] hp=.ok (.bl true,hp')/\StR hp' p as (qs++[q'])/\∀b,je hp b≠none->je hp' b≠none):
 (Kd [.adr p,.int k,.str row] hp).need (mO p hp (qs++[q'])) λ_ _=>False:=by
 obtain⟨bs,a,d,g,i⟩:=h.all.last;obtain⟨hp',e,st,keep⟩:=f bs a d g i;have j:yD (.adr p) (.int (-1),hp)=.ok (.adr a.1,hp):=by
  rw[Fe h.hp_]
  simp_all [Ut,List.map_singleton,FZ]
 have dp:=h.dp;have l:yH (Wz (qs++[q])) (.lst [])=some (.bl true):=by
  show some (D.bl (!((qs++[q]).map Qn).isEmpty))=_;simp
 unfold Kd;refine XG rfl ?_;show((KJ [~~~(.adr p),~~~(.int k),~~~(.str row),none] hp).bind ql).need _ _;unfold KJ;simp[c,dp,l,j,e];exact⟨keep,rfl,⟨_,st⟩,keep⟩
def GC {q:Dr}{row:Str}{k:Int}(h:StR hp p as (qs++[q]))(g:Qw [.str "plan ",.str row]=.ok .non)
 (f:∀(a:Addr×Addr×Addr),AtR hp a q->VU [.adr a.1,.int k,.str row] hp=.ok (.bl false,hp)):
 (Kd [.adr p,.int k,.str row] hp).need (λo=>o.1=.bl false) λ_ _=>False:=by
 obtain⟨bs,a,c,i,d⟩:=h.all.last;have e:=f a d;have j:yD (.adr p) (.int (-1),hp)=.ok (.adr a.1,hp):=by
  rw[Fe h.hp_];show(Wr.of (.ofO (jR (as.map λb=>D.adr b.1) (-1)))).bind _=_;rw[c,Ut,List.map_singleton,FZ];rfl
 have dp:=h.dp;have l:yH (Wz (qs++[q])) (.lst [])=some (.bl true):=by
  show some (D.bl (!((qs++[q]).map Qn).isEmpty))=_;simp
 refine XG rfl ?_;show((KJ [~~~(.adr p),~~~(.int k),~~~(.str row),none] hp).bind ql).need _ _
 simp_all [KJ]
def Cu {row:Str}{k:Int}(h:StR hp p as [])(a:Qw [.str "plan ",.str row]=.ok .non):(Kd [.adr p,.int k,.str row] hp).need (λo=>o.1=.bl false) λ_ _=>False:=by
 have dp:=h.dp;have b:yH (Wz []) (.lst [])=some (.bl false):=rfl;refine XG rfl ?_;show((KJ [~~~(.adr p),~~~(.int k),~~~(.str row),none] hp).bind ql).need _ _
 simp_all [KJ]
end
def KN (q:Dr):Yh:=(("plan " : Str)++q.name)::(q.givens.map (λg=>(" given " : Str)++g)++q.rows.map λz=>qd z.2.1 z.2.2.1 z.2.2.2)
def Q0 (a:List Dr):Yh:=a.flatMap KN
def Y2 (a b:List Dr):Q0 (a++b)=Q0 a++Q0 b:=List.flatMap_append
def Y3 (q:Dr):Q0 [q]=KN q:=by unfold Q0;simp
theorem R6 (q:Dr):(KN q).length=1+(q.givens.length+q.rows.length):=by unfold KN;simp;lia
theorem Cv:∀a:List Dr,a.length<=(Q0 a).length/\∀q∈a,q.givens.length+q.rows.length<=(Q0 a).length
 | []=>⟨Ue _,λ_ h=>nomatch h⟩
 |q::a=>by
  obtain⟨b,c⟩:=Cv a;have e:Q0 (q::a)=KN q++Q0 a:=rfl
  grind[List.length_append,R6,List.length_cons]
inductive RK (row:Str):Nat->Prop
 |p {x:Str}:jA x->row = "plan " ++ x->RK row 0
 |g {x:Str}:jA x->row = " given " ++ x->RK row 1
 |m {n how:Str} {its:List (Str×Int)}:RowR n how its->qd n how its=row->Qp [.str row]=.ok (Km n how its)->RK row 2
 |b:Qw [.str "plan ",.str row]=.ok .non->Qw [.str " given ",.str row]=.ok .non->Qp [.str row]=.ok .non->RK row 3
def Lk (a:List Dr)(l:Int):Prop:=match a.getLast? with
 |none=>l = -1
 |some q=>l ≠ -1/\(q.rows=[]↔l<2)
def yb (k:Nat)(l:Int):Bool:=k == 0||(k != 3&&(l != -1&&(k == 2||decide (l<2))))
def Lk.nil {l:Int}(h:Lk [] l):l = -1:=h
def Lk.one {a:List Dr}{q:Dr}{l:Int}:Lk (a++[q]) l↔l ≠ -1/\(q.rows=[]↔l<2):=by
 unfold Lk;rw[List.getLast?_concat]
def R7 {N:Nat}{row:Str}(I:TxtOk N row)(J:N<=16000000){d:List Dr}(G:∀q∈d,DrG q)(Q:(Q0 d).length<=1000)(k:Int){c:Nat}(K:RK row c){l:Int}(L:Lk d l):
 (yb c l=true/\∃m,Q0 m=Q0 d++[row]/\(∀q∈m,DrG q)/\Lk m c/\∀f p i,StR f p i d->(Kd [.adr p,.int k,.str row] f).need (mO p f m) λ_ _=>False)\/(yb c l=false/\∀f p i,StR f p i d->(Kd [.adr p,.int k,.str row] f).need (λo=>o.1=.bl false) λ_ _=>False):=by
 obtain⟨S,M⟩:=Cv d;have O:∀y:Str,row = " " ++ y->Qw [.str "plan ",.str row]=.ok .non:=λy e=>Cq Cs () I J (by rw[e];exact Ru y);cases K with
 | @p x hx e =>
  subst e;refine .inl ⟨rfl,d++[⟨x,[],[]⟩],by rw[Y2,Y3];rfl,λq hq=>?_,Lk.one.mpr (),λf p i st=>R5 st hx () k⟩;rcases Jc.mp hq with hq|hq
  .exact G q hq
  .rw[Jb.mp hq];exact⟨hx,(),λ_ h=>(nomatch h)⟩
 | @g x hx e =>
  have r:=O ("given " ++ x) (by rw[e,Ct]);rcases List.eq_nil_or_concat d with rfl|⟨d,q,rfl⟩
  .rw[Lk.nil L];exact .inr ⟨by decide,λf p i st=>Cu st r⟩
  rw[List.concat_eq_append] at *;have s:DrG q:=G q ();have P:=M q ();obtain⟨u,v⟩:=Lk.one.mp L;by_cases c:q.rows=[]
  .have w:=v.mp c;refine .inl ⟨by unfold yb;simp[u,w],d++[⟨q.name,q.givens++[x],q.rows⟩],?_,λz hz=>?_,Lk.one.mpr ⟨by decide,by simp[c]⟩,λf p i st=>?_⟩
   .rw[Y2,Y2,Y3,Y3,Ub,e];unfold KN;simp[c]
   .rcases Jc.mp hz with hz|hz
    .exact G z (Uo _ hz)
    .rw[Jb.mp hz];refine⟨s.nm,λg hg=>?_,s.rs⟩;rcases Jc.mp hg with hg|hg
     .exact s.gs g hg
     .rw[Jb.mp hg];exact hx
   .refine GB st r λbs a A B j=>⟨_,by rw[e];exact Rx j c hx () k,?_,λb C=>?_⟩
    .subst A;exact st.given j B _
    .rw[Vc b (by rw[j.gv];simp)]
     split
     .simp
     .exact C
  .have w:¬l<2:=λz=>c (v.mpr z);refine .inr ⟨by unfold yb;simp[w],λf p i st=>GC st r λa j=>by rw[e];exact R3 j s c hx k⟩
 | @m n how t R E F =>
  have r:=O (n ++ " " ++ jE how ++ " " ++ Txt.join ", " (t.map jC)) (by rw[<- E];unfold qd;exact JF (by simp only[J0,Ub]));have H:Qw [.str " given ",.str row]=.ok .non:=Cq ur () I J (by rw[<- E];exact Rv R);rcases List.eq_nil_or_concat d with rfl|⟨d,q,rfl⟩
  .rw[Lk.nil L];exact .inr ⟨by decide,λf p i st=>Cu st r⟩
  rw[List.concat_eq_append] at *;have s:DrG q:=G q ();have P:=M q ();obtain⟨u,v⟩:=Lk.one.mp L;refine .inl ⟨by unfold yb;simp[u],d++[⟨q.name,q.givens,q.rows++[(k,n,how,t)]⟩],?_,λz hz=>?_,Lk.one.mpr (),λf p i st=>GB st r λbs a A B j=>⟨_,Ry j H F () k,?_,λb C=>?_⟩⟩
  .rw[Y2,Y2,Y3,Y3,Ub];unfold KN;simp[E]
  .rcases Jc.mp hz with hz|hz
   .exact G z (Uo _ hz)
   .rw[Jb.mp hz];refine⟨s.nm,s.gs,λy hy=>?_⟩;rcases Jc.mp hy with hy|hy
    .exact s.rs y hy
    .rw[Jb.mp hy];exact R
  .subst A;exact st.made j B _
  .rw[Vc b (by rw[j.rw_];simp)]
   split
   .simp
   .exact C
 |b r H F =>
  rcases List.eq_nil_or_concat d with rfl|⟨d,q,rfl⟩
  .exact .inr ⟨rfl,λf p i st=>Cu st r⟩
  rw[List.concat_eq_append] at *;exact .inr ⟨rfl,λf p i st=>GC st r λa j=>Rz H F k⟩
def qO:Nat->Int->List Nat->Option Nat
 |_,_,[]=>none
 |j,l,k::ks=>if yb k l then qO (j+1) (k:Int) ks else some (j+1)
def yt:Nat->List Str->Yt
 |_,[]=>[]
 |k,x::r=>.tup [.int ((k:Int)+1),.str x]::yt (k+1) r
theorem GD:∀(xs:Yh) (k i:Nat),(yt k xs)[i]? = xs[i]?.map λx=>D.tup [.int (((k+i:Nat):Int)+1),.str x]
 | [],k,i=>by simp[yt]
 |x::xs,k,0=>rfl
 |x::xs,k,i+1=>by
  show(yt (k+1) xs)[i]? = xs[i]?.map _;rw[GD xs (k+1) i,show k+1+i=k+(i+1) by lia]
def GE (xs:Yh):VP (xs.map .str)=yt 0 xs:=by
 apply List.ext_getElem?;intro i;rw[Ff,GD,Zv,Option.map_map,UK];rfl
def zq:qy:=(Wo (ZS (Wp (ZX Kd (K5 (vL (ja 1)) (K5 (vL (ja 2)) (K5 (vL (ja 3)) xQ)))))) (zL (Vg "BadRow" (ja 2))) VJ)
def GF:Vv=(qG (zY 1 (yT xQ)) (qG (zy (wq (Jr (j7 QZ (ja 0) (dC (.str "\n"))) jd)) (.tup [2,3]) zq) (yd (vL (ja 1))))):=rfl
def GG (t:D)(p:Addr)(r:List Dr)(o:Out3):Prop:=∃x2 x3 hp' a,o=.next [~~~t,~~~(.adr p),x2,x3] hp'/\StR hp' p a r
def R8 {t:D}{p:Addr}{x2 x3:Option SV}{b:HP}{row:Str}{k:Int}{a:List Dr}{Q:Str->Yt->Prop}(h:(Kd [.adr p,.int k,.str row] b).need (mO p b a) λ_ _=>False):
 (QY (.tup [2,3]) zq (.tup [.int k,.str row]) [~~~t,~~~(.adr p),x2,x3] b).need (GG t p a) Q:=by
 unfold QY;unfold zq;simp;refine Wr.need_bind.mpr (Wr.need_bind.mpr (Wr.need_bind.mpr ((qh h).mono (λo c=>?_) λ_ _ z=>z)));have ⟨d,H⟩:=o;obtain⟨rfl,⟨e,st⟩,_⟩:=c;exact⟨_,_,_,_,rfl,st⟩
def vN (k:Int)(c:Str)(fs:Yt):Prop:=c = "BadRow" /\ fs=[.int k]
def R9 {t:D}{p:Addr}{x2 x3:Option SV}{a:HP}{row:Str}{k:Int}{P:Out3->Prop}(h:(Kd [.adr p,.int k,.str row] a).need (λo=>o.1=.bl false) λ_ _=>False):
 (QY (.tup [2,3]) zq (.tup [.int k,.str row]) [~~~t,~~~(.adr p),x2,x3] a).need P (vN k):=by
 unfold QY;unfold zq;simp;refine Wr.need_bind.mpr (Wr.need_bind.mpr (Wr.need_bind.mpr ((qh h).mono (λo b=>?_) λ_ _ z=>z)));obtain⟨d,H⟩:=o;obtain rfl:=b;exact⟨rfl,rfl⟩
def GH {b:D->qy}{x:D}{xs:Yt}{sd:SD}{a:HP}{P:Out3->Prop}{Q:Str->Yt->Prop}(h:(b x sd a).need (λo=>∃sd' hp',o=.next sd' hp'/\(xc b xs sd' hp').need P Q) Q):(xc b (x::xs) sd a).need P Q:=by
 refine Wr.need_bind.mpr (h.mono (λo c=>?_) λ_ _ z=>z)
 grind
def GI {t:D}{p:Addr}{x2 x3:Option SV}{a:HP}{row:Str}{k:Int}{c:List Dr}{ds:Yt}{P:Out3->Prop}{Q:Str->Yt->Prop}(h:(Kd [.adr p,.int k,.str row] a).need (mO p a c) λ_ _=>False)
 (f:∀(x2 x3:Option SV) (a:HP) (g:List (Addr×Addr×Addr)),StR a p g c->(xc (QY (.tup [2,3]) zq) ds [~~~t,~~~(.adr p),x2,x3] a).need P Q):
 (xc (QY (.tup [2,3]) zq) (.tup [.int k,.str row]::ds) [~~~t,~~~(.adr p),x2,x3] a).need P Q:=by
 have i:=R8 (t:=t) (x2:=x2) (x3:=x3) (Q:=Q) h;generalize QY (.tup [2,3]) zq=b at *;apply GH;refine i.mono (λo j=>?_) λ_ _ z=>z;obtain⟨l,m,hp',d,rfl,e⟩:=j;exact⟨_,_,rfl,f l m hp' d e⟩
def RA {t:D}{p:Addr}{x2 x3:Option SV}{a:HP}{row:Str}{k:Int}{ds:Yt}{P:Out3->Prop}(h:(Kd [.adr p,.int k,.str row] a).need (λo=>o.1=.bl false) λ_ _=>False):
 (xc (QY (.tup [2,3]) zq) (.tup [.int k,.str row]::ds) [~~~t,~~~(.adr p),x2,x3] a).need P (vN k):=by
 have c:=R9 (t:=t) (x2:=x2) (x3:=x3) (P:=λ_=>False) h;generalize QY (.tup [2,3]) zq=b at *;apply GH;exact c.mono (λo d=>d.elim) λ_ _ z=>z
inductive RKs:Yh->List Nat->Prop
 |nil:RKs [] []
 |cons {r:Str} {k:Nat} {rs:Yh} {ks:Yg}:RK r k->RKs rs ks->RKs (r::rs) (k::ks)
def RB {t:D}{N:Nat}(m:N<=16000000):∀{rs:Yh} {ks:Yg},RKs rs ks->∀(k:Nat) (g:List Dr) (l:Int),Lk g l->(∀r∈rs,TxtOk N r)->(∀q∈g,DrG q)->(Q0 g).length+rs.length<=1000 ->
 (qO k l ks=none/\∃r,Q0 r=Q0 g++rs/\(∀q∈r,DrG q)/\∀(p:Addr) (x2 x3:Option SV) (a:HP) (d:List (Addr×Addr×Addr)),StR a p d g->(xc (QY (.tup [2,3]) zq) (yt k rs) [~~~t,~~~(.adr p),x2,x3] a).need (GG t p r) λ_ _=>False) \/
 (∃n,qO k l ks=some n/\∀(p:Addr) (x2 x3:Option SV) (a:HP) (d:List (Addr×Addr×Addr)),StR a p d g->(xc (QY (.tup [2,3]) zq) (yt k rs) [~~~t,~~~(.adr p),x2,x3] a).need (λ_=>False) (vN n)):=by
 intro rs ks R
 induction R with
 |nil=>exact λk g l L _ G _=>.inl ⟨rfl,g,(ZA _).symm,G,λp x2 x3 a d st=>by
  unfold yt xc;exact⟨x2,x3,a,d,rfl,st⟩⟩
 | @cons row c rs ks K R s =>
  intro k g l L j G u;rw[Zu] at u;unfold qO;rcases R7 (j row Zqs) m G () ((k:Int)+1) K L with ⟨o,i,e,v,w,f⟩|⟨o,f⟩
  .rw[o];rcases s (k+1) i c w (λr h=>j r (Zqm _ h)) v (by rw[e,Uf,UO];lia) with ⟨b,r,e2,G2,f2⟩|⟨n,b,f2⟩
   .exact .inl ⟨b,r,by rw[e2,e,Ub];rfl,G2,λp x2 x3 a d st=>GI (f a p d st) λx2 x3 a d st=>f2 p x2 x3 a d st⟩
   .exact .inr ⟨n,b,λp x2 x3 a d st=>GI (f a p d st) λx2 x3 a d st=>f2 p x2 x3 a d st⟩
  .rw[o];exact .inr ⟨k+1,rfl,λp x2 x3 a d st=>RA (f a p d st)⟩
def Cw (d:HP):∃a,je d a=none:=by
 have:∀l:Yg,∃a,∀b∈l,b<a:=λl=>by
  induction l with
  |nil=>simp
  |cons c l e =>
   obtain⟨a,h⟩:=e;refine⟨a+c+1,λb f=>?_⟩
   grind
 obtain⟨a,h⟩:=this (d.map (·.1));exact⟨a,ng.mpr λz=>()⟩
theorem GJ {α: Type}{p q:α -> Prop}:∀{w:Wr α},(w.need p λ_ _=>False)->(w.need q λ_ _=>False)->∃a,p a/\q a
 | .ok a,h1,h2=>⟨a,h1,h2⟩
 | .ex _ _,h1,_=>h1.elim
 | .no,h1,_=>h1.elim
 | .new hp k,h1,h2=>by
  obtain⟨a,b⟩:=Cw hp;exact GJ (h1 a b) (h2 a b)
theorem GK {α: Type}{p q:Str->Yt->Prop}:∀{w:Wr α},(w.need (λ_=>False) p)->(w.need (λ_=>False) q)->∃c fs,p c fs/\q c fs
 | .ok a,h1,h2=>h1.elim
 | .ex c fs,h1,h2=>⟨c,fs,h1,h2⟩
 | .no,h1,_=>h1.elim
 | .new hp k,h1,h2=>by
  obtain⟨a,b⟩:=Cw hp;exact GK (h1 a b) (h2 a b)
theorem GL {α: Type}{p:α -> Prop}{q:Str->Yt->Prop}:∀{w:Wr α},(w.need p λ_ _=>False)->(w.need (λ_=>False) q)->False
 | .ok _,_,h2=>h2
 | .ex _ _,h1,_=>h1
 | .no,h1,_=>h1
 | .new hp k,h1,h2=>by
  obtain⟨a,b⟩:=Cw hp;exact GL (h1 a b) (h2 a b)
def RC {n:Nat}{x:Str}(hx:TxtOk n x)(t:n<=16000000){rs:Yh}{ks:Yg}(u:Txt.split x "\n" = rs)(R:RKs rs ks)(A:rs.length<=1000):(qO 0 (-1) ks=none/\∃r,Q0 r=rs/\(∀q∈r,DrG q)/\Vn [.str x]=.ok (Wz r))\/(∃n:Nat,qO 0 (-1) ks=some n/\Vn [.str x]=.ex "BadRow" [.int n]):=by
 have g:=KM (s:= "\n") hx t (by decide +kernel);have st:∀p:Addr,StR [(p,D.lst [])] p [] []:=λp=>⟨by simp_all [Q5],rfl,by simp[jV]⟩;rw[u] at g;rcases RB t R 0 [] (-1) rfl (λr B=>Y0 hx (by rwa [u])) () (by show 0+_<=_;lia) with ⟨b,r,e,G,f⟩|⟨m,b,f⟩
 .have c:cN [.str x] (Wz r):=by
   refine⟨rfl,?_⟩;show((Vv [~~~(.str x),none,none,none] []).bind ql).need _ _;rw[GF];simp[j7,g,zy];intro p v;rw[GE];refine Wr.need_bind.mpr (Wr.need_bind.mpr ((f p none none _ _ (st p)).mono (λo i=>?_) λ_ _ z=>z));obtain⟨C,E,hp',w,rfl,j⟩:=i;exact j.dp
  refine .inl ⟨b,r,e,G,?_⟩;unfold Vn;rw[dif_pos ⟨_,c⟩];obtain⟨a,y,l⟩:=GJ (UP (⟨_,c⟩:∃d,cN [.str x] d)).2 c.2;rw[<- y,l]
 .have c:cM [.str x] m:=by
   refine⟨rfl,?_⟩;show((Vv [~~~(.str x),none,none,none] []).bind ql).need _ _;rw[GF];simp[j7,g,zy];intro p v;rw[GE];exact Wr.need_bind.mpr (Wr.need_bind.mpr ((f p none none _ _ (st p)).mono (λo i=>i.elim) λ_ _ z=>z))
  refine .inr ⟨m,b,?_⟩;unfold Vn;rw[dif_neg λ⟨d,h⟩=>GL h.2 c.2];have h:∃n,cM [.str x] n:=⟨_,c⟩;have l:=UP h;have ⟨_,_,F,H⟩:=GK l.2 c.2
  simp_all
structure NbT (xs:Yh)(t:List (Str×Int)):Prop where
 len:t.length<=xs.length
 yes:∀x∈xs,∃j:Nat,qM t x=some (j:Int)/\xs[j]? = some x
 no:∀x,x∉xs->qM t x=none
def RD {xs:Yh}(F:xs.length<=920):∃t,NbT xs t/\Am [.lst (xs.map .str)]=.ok (dT t):=by
 obtain⟨u,v,t,u2,u3,e,T⟩:=Xx (tg:=.tup [2,3]) (b:=(XJ 1 (ja 3) (ja 2))) (ds:=KZ (xs.map .str))
  (sd:=[~~~(.lst (xs.map .str)),some (.own false (.dct [] [])),none,none])
  (P:=λi sd=>∃(t:List (Str×Int)) (u2 u3:Option SV),sd=[~~~(.lst (xs.map .str)),some (.own false (dT t)),u2,u3]/\NbT (xs.take i) t) ⟨[],none,none,rfl,Ue _,λ_ h=>by simp at h,λ_ _=>rfl⟩ (by
   rintro i d sd hx ⟨t,u2,u3,rfl,T⟩;rw[Ey,Zv] at hx;cases m:xs[i]? with
   |none=>simp_all
   |some x =>
    rw[m] at hx;obtain rfl:=Zqi hx;have G:=(Jd.mp m).1;have tk:xs.take (i+1)=xs.take i++[x]:=by rw[Us,m];rfl
    have w:(xs.take i).length=i:=by rw[UD];lia
    have A:=T.len;rw[w] at A;have q:=Qr (show t.length<=1000 from ());have n:=XN t x;have f:(JD (.tup [2,3]) (.tup [.int (i:Int),.str x]) [~~~(.lst (xs.map .str)),some (.own false (dT t)),u2,u3]).bind (XJ 1 (ja 3) (ja 2))=ZT 1 [~~~(.lst (xs.map .str)),some (.own false (dT t)),~~~(.int i),~~~(.str x)] (t.map λp=>.inr p.1) (t.map λp=>D.int p.2) (.int i) (JX (.str x)):=rfl;have H:JX (.str x)=some (.inr x):=rfl;have a:∀y∈xs.take i,∃j:Nat,qM t y=some (j:Int)/\(xs.take (i+1))[j]? = some y:=λy hy=>by
     obtain⟨j,g,l⟩:=T.yes y hy;exact⟨j,g,by rw[tk,UU (Jd.mp l).1];exact l⟩
    by_cases c:x∈xs.take i
    .obtain⟨j,g,l⟩:=T.yes x c;rw[g] at n;refine⟨[~~~(.lst (xs.map .str)),some (.own false (dT t)),~~~(.int i),~~~(.str x)],?_,t,_,_,rfl,by rw[tk,Uf];have:=T.len;lia,λy hy=>?_,λy hy=>?_⟩
     .show(JD (.tup [2,3]) (.tup [.int (i:Int),.str x]) _).bind _=_;rw[f];show(if(t.map λp:Str×Int=>(Um p.1:jx)).length<sizeLine then(match jF (t.map λp=>.inr p.1) (t.map λp=>D.int p.2) (.inr x) with
       |some _=>_
       |none=>_) else _)=_
      rw[Zql,Zd q,n];rfl
     .rw[tk] at hy;rcases Jc.mp hy with hy|hy
      .exact a y hy
      .rw[Jb.mp hy];exact a x c
     .exact T.no y λz=>hy (by rw[tk];exact Uo _ z)
    .have r:=T.no x c;rw[r] at n;have s:=uq.mp r;have pt:=BV s (i:Int);refine⟨[~~~(.lst (xs.map .str)),some (.own false (dT (t++[(x,(i:Int))]))),~~~(.int i),~~~(.str x)],?_,t++[(x,(i:Int))],_,_,rfl,by rw[tk,Uf,Uf];have:=T.len;simp;lia,λy hy=>?_,λy hy=>?_⟩
     .show(JD (.tup [2,3]) (.tup [.int (i:Int),.str x]) _).bind _=_;rw[f,<- pt];show(if(t.map λp:Str×Int=>(Um p.1:jx)).length<sizeLine then(match jF (t.map λp=>.inr p.1) (t.map λp=>D.int p.2) (.inr x) with
       |some _=>_
       |none=>_) else _)=_
      rw[Zql,Zd q,n];rfl
     .have o:∃j:Nat,qM (t++[(x,(i:Int))]) x=some (j:Int)/\(xs.take (i+1))[j]? = some x:=⟨i,by rw[F7 s,F8],by rw[List.getElem?_take_of_lt ()];exact m⟩;rw[tk] at hy;rcases Jc.mp hy with hy|hy
      .obtain⟨j,g,l⟩:=a y hy;have ne:x≠y:=λz=>c (by rw[z];exact hy);exact⟨j,by rw[FD ne];exact g,l⟩
      .rw[Jb.mp hy];exact o
     .have B:y∉xs.take i:=λz=>hy (by rw[tk];exact Uo _ z);have C:x≠y:=λz=>hy (by rw[tk,z];simp);rw[FD C];exact T.no y B)
 have E:(KZ (xs.map D.str)).length=xs.length:=by unfold KZ;simp
 rw[E,Uw] at T;subst e;exact⟨t,T,by simp[Am,Ak,v]⟩
def RE {xs:Yh}{t:List (Str×Int)}(T:NbT xs t){a:List (Str×Int)}(v:a.length<=16000001)(m:Int):
 (∃is:Jp,(a=is.map λi=>(zA xs i.1,i.2))/\(∀i∈is,0<=i.1/\i.1<(xs.length:Int))/\VV [.lst (a.map rI),dT t,.int m]=.ok (qW is))\/VV [.lst (a.map rI),dT t,.int m]=.ex "NoName" [.int m]:=by
 obtain⟨L,hL⟩:∃L,L=a.map rI:=⟨_,rfl⟩;rw[<- hL];have step:∀{i:Nat} {d:D} {u3 u4:Option SV},L[i]? = some d->∃p∈a,a[i]? = some p/\((p.1∈xs->(JD (.tup [3,4]) d [~~~(.lst L),~~~(dT t),~~~(.int m),u3,u4]).bind (jH (Jw (jf (qX true) (ja 3) (ja 1))) (Vg "NoName" (ja 2)) J6)=.ok (.next [~~~(.lst L),~~~(dT t),~~~(.int m),~~~(.str p.1),~~~(.int p.2)]))/\(p.1∉xs->(JD (.tup [3,4]) d [~~~(.lst L),~~~(dT t),~~~(.int m),u3,u4]).bind (jH (Jw (jf (qX true) (ja 3) (ja 1))) (Vg "NoName" (ja 2)) J6)=.ex "NoName" [.int m])):=λ{i d u3 u4} hx=>by
  rw[hL] at hx;obtain⟨p,e,rfl⟩:=Vj hx;refine⟨p,Uh e,e,λo=>?_,λo=>?_⟩
  .obtain⟨j,f,_⟩:=T.yes _ o;have g:=F6 true t p.1;rw[f] at g;simp[rI,g]
  .have g:=F6 true t p.1;rw[T.no _ o] at g;simp[rI,g]
 by_cases c:∀p∈a,p.1∈xs
 .refine .inl ⟨a.map λp=>((qM t p.1).getD 0,p.2),?_,λi q=>?_,?_⟩
  .rw[Zw]
   conv=>lhs;rw[<- List.map_id a]
   refine UN λp e=>?_;obtain⟨j,f,n⟩:=T.yes _ (c p e)
   simp_all [zA,Int.toNat_natCast,UX]
  .obtain⟨p,e,rfl⟩:=Ja.mp q;obtain⟨j,f,n⟩:=T.yes _ (c p e);have:=(Jd.mp n).1;show 0<=(qM t p.1).getD 0/\(qM t p.1).getD 0<_;rw[f];show(0:Int)<=(j:Int)/\(j:Int)<_;lia
  .obtain⟨w,x,u3,u4,l⟩:=Xx (tg:=.tup [3,4]) (b:=(jH (Jw (jf (qX true) (ja 3) (ja 1))) (Vg "NoName" (ja 2)) J6)) (ds:=L)
    (sd:=[~~~(.lst L),~~~(dT t),~~~(.int m),none,none])
    (P:=λi sd=>∃(u3 u4:Option SV),sd=[~~~(.lst L),~~~(dT t),~~~(.int m),u3,u4]) ⟨none,none,rfl⟩ (by
     rintro i d sd hx ⟨u3,u4,rfl⟩;obtain⟨p,e,_,f,_⟩:=step (u3:=u3) (u4:=u4) hx;exact⟨_,f (c p e),_,_,rfl⟩)
   have r:qm (.tup [0,1]) (qf (Jr (jf jv (ja 2) (ja 0)) (Jr (ja 1) jd))) [none,none,~~~(dT t)] L=.ok ((a.map λp=>((qM t p.1).getD 0,p.2)).map ye):=by
    rw[hL,Zw];refine KW λp e=>?_;obtain⟨j,f,_⟩:=T.yes _ (c p e);have g:=fQ t p.1;rw[f] at g;simp[rI,g,ye,f]
   have y:L.length<sizeLine:=Gu (by rw[hL,Zql];exact v);subst l;simp[VV,XX,x,r,y,qW]
 .have s:qb (.tup [3,4]) (jH (Jw (jf (qX true) (ja 3) (ja 1))) (Vg "NoName" (ja 2)) J6) L [~~~(.lst L),~~~(dT t),~~~(.int m),none,none]=.ex "NoName" [.int m]:=by
   refine Vr (R:=λz=>z=.ex "NoName" [.int m]) (P:=λi sd=>(∀p∈a.take i,p.1∈xs)/\∃(u3 u4:Option SV),sd=[~~~(.lst L),~~~(dT t),~~~(.int m),u3,u4]) ⟨λp e=>by simp at e,none,none,rfl⟩ ?_ ?_
   .rintro sd ⟨h,_⟩;rw[hL,Zql,Uw] at h;exact Zn h c
   .rintro i d sd hx ⟨h,u3,u4,rfl⟩;obtain⟨p,e,q,f,n⟩:=step (u3:=u3) (u4:=u4) hx;by_cases u:p.1∈xs
    .refine .inl ⟨_,f u,λz hz=>?_,_,_,rfl⟩;rw[Us,q] at hz;rcases Jc.mp hz with hz|hz
     .exact h z hz
     .rw[Jb.mp hz];exact u
    .exact .inr ⟨_,_,n u,rfl⟩
  exact .inr (by simp[VV,XX,s])
def RF (xs:Yh)(r:Str×Str×Jp):wd xs r=qd r.1 r.2.1 (r.2.2.map λi=>(zA xs i.1,i.2)):=by
 unfold wd qd fg;rw[Zw];rfl
def RG (nm:Str)(a b:Yt):Ce [.str nm,.lst a,.lst b]=.ok [.str nm,.lst a,.lst b]:=rfl
def cC (xs:Yh)(z:Int×Str×Str×List (Str×Int))(r:Str×Str×Jp):Prop:=z.2=(r.1,r.2.1,r.2.2.map λi=>(zA xs i.1,i.2))/\∀i∈r.2.2,0<=i.1/\i.1<(xs.length:Int)
def ya (xs:Yh):List (Int×Str×Str×List (Str×Int))->List (Str×Str×Jp)->Prop
 | [],rs=>rs=[]
 |z::zs,rs=>∃r a,rs=r::a/\cC xs z r/\ya xs zs a
theorem ya.snoc {xs:Yh}{z:Int×Str×Str×List (Str×Int)}{r:Str×Str×Jp}(h:cC xs z r):∀{c:List (Int×Str×Str×List (Str×Int))} {rs:List (Str×Str×Jp)},ya xs c rs->ya xs (c++[z]) (rs++[r])
 | [],rs,e=>by rw[e];exact⟨r,[],rfl,h,rfl⟩
 |y::c,rs,e=>by
  obtain⟨a,b,rfl,d,f⟩:=e;exact⟨a,b++[r],rfl,d,f.snoc h⟩
theorem ya.out {xs:Yh}:∀{c:List (Int×Str×Str×List (Str×Int))} {rs:List (Str×Str×Jp)},ya xs c rs->rs.length=c.length/\rs.map (·.1)=c.map (·.2.1)/\rs.map (wd xs)=c.map (λz=>qd z.2.1 z.2.2.1 z.2.2.2)/\∀r∈rs,∃z∈c,cC xs z r
 | [],rs,e=>by rw[e];simp
 |y::c,rs,e=>by
  obtain⟨a,b,rfl,d,f⟩:=e;obtain⟨k1,k2,k3,g⟩:=f.out;have q:=d.1
  simp_all [Zu,Zl,RF]
structure PlM (q:Dr)(p:Pl):Prop where
 nm:p.name=q.name
 gs:p.givens=q.givens
 rs:ya (q.givens++q.rows.map (·.2.1)) q.rows p.rows
def RH {q:Dr}(b:q.givens.length+q.rows.length<=920)(c:∀z∈q.rows,z.2.2.2.length<=16000001):(∃p,PlM q p/\KL [Qn q]=.ok (JL p))\/∃m,KL [Qn q]=.ex "NoName" [.int m]:=by
 obtain⟨nm,a,R⟩:=q;have b:a.length+R.length<=920:=b;have c:∀z∈R,z.2.2.2.length<=16000001:=c;obtain⟨xs,hxs⟩:∃xs,xs=a++R.map (·.2.1):=⟨_,rfl⟩;have x:xs.length<=920:=by rw[hxs,Uf,Zql];exact b
 obtain⟨t,T,n⟩:=RD x;obtain⟨L,hL⟩:∃L,L=R.map qT:=⟨_,rfl⟩;have y:L.length=R.length:=by rw[hL,Zql]
 have r:qm (.tup [0,1]) (jf jv (ja 1) (dC (.int 0))) [none,none] L=.ok (R.map λz=>.str z.2.1):=by
  rw[hL];refine KW λz f=>?_;have g:jv (Km z.2.1 z.2.2.1 z.2.2.2) (.int 0)=some (.str z.2.1):=qw _ _;simp[qT,g]
 have s:jk (.lst (a.map .str)) (.lst (R.map λz=>.str z.2.1))=some (.lst (xs.map .str)):=by
  show(if(a.map D.str).length+(R.map λz=>D.str z.2.1).length<=sizeLine then some (D.lst (a.map D.str++R.map λz=>D.str z.2.1)) else none)=_;rw[Zd (small (by rw[Zql,Zql];lia)),hxs,Ut,Zw];rfl
 have A:Qn ⟨nm,a,R⟩=.ins "Draft" ["name", "givens", "rows"] [.str nm,.lst (a.map .str),.lst L]:=by rw[hL];rfl
 rw[A];obtain⟨dd,hdd⟩:∃dd,dd=D.ins "Draft" ["name", "givens", "rows"] [.str nm,.lst (a.map .str),.lst L]:=⟨_,rfl⟩;have B:j0 "Draft" "name" dd=some (.str nm):=by rw[hdd];rfl
 have u:j0 "Draft" "givens" dd=some (.lst (a.map .str)):=by rw[hdd];rfl
 have v:j0 "Draft" "rows" dd=some (.lst L):=by rw[hdd];rfl
 rw[<- hdd];have w:L.length<sizeLine:=Qr ();have j:(∃rs,ya xs R rs/\∃u3 u4:Option SV,qb (.tup [3,4]) (Ky 2 (qf (Jr (jf jv (ja 4) (dC (.int 0))) (Jr (jf jv (ja 4) (dC (.int 1))) (Jr (J1 VV (Jr (jf jv (ja 4) (dC (.int 2))) (Jr (ja 1) (Jr (ja 3) jd)))) jd))))) L [~~~dd,~~~(dT t),some (.own false (.lst [])),none,none]=.ok (.next [~~~dd,~~~(dT t),some (.own false (.lst (rs.map jJ))),u3,u4]))\/∃m,qb (.tup [3,4]) (Ky 2 (qf (Jr (jf jv (ja 4) (dC (.int 0))) (Jr (jf jv (ja 4) (dC (.int 1))) (Jr (J1 VV (Jr (jf jv (ja 4) (dC (.int 2))) (Jr (ja 1) (Jr (ja 3) jd)))) jd))))) L [~~~dd,~~~(dT t),some (.own false (.lst [])),none,none]=.ex "NoName" [.int m]:=by
  refine Vr (R:=λo=>(∃rs,ya xs R rs/\∃u3 u4:Option SV,o=.ok (.next [~~~dd,~~~(dT t),some (.own false (.lst (rs.map jJ))),u3,u4]))\/∃m,o=.ex "NoName" [.int m]) (P:=λi sd=>∃rs,ya xs (R.take i) rs/\∃u3 u4:Option SV,sd=[~~~dd,~~~(dT t),some (.own false (.lst (rs.map jJ))),u3,u4]) ⟨[],rfl,none,none,rfl⟩ ?_ ?_
  .rintro sd ⟨rs,h,u3,u4,rfl⟩;rw[y,Uw] at h;exact .inl ⟨rs,h,u3,u4,rfl⟩
  .rintro i d sd hx ⟨rs,h,u3,u4,rfl⟩;rw[hL] at hx;obtain⟨z,f,rfl⟩:=Vj hx;have C:=Uh f;have tk:R.take (i+1)=R.take i++[z]:=by rw[List.take_add_one,f];rfl
   obtain⟨md,hmd⟩:∃md,md=Km z.2.1 z.2.2.1 z.2.2.2:=⟨_,rfl⟩;have k0:jv md (.int 0)=some (.str z.2.1):=by rw[hmd];exact qw _ _
   have k1:jv md (.int 1)=some (.str z.2.2.1):=by rw[hmd];exact qV _ _ _
   have k2:jv md (.int 2)=some (.lst (z.2.2.2.map rI)):=by rw[hmd];exact yh _ _ _ _
   have E:=h.out.1;have F:=Qr (show(rs.map jJ).length<=1000 by rw[Zql,E,UD];lia);have G:qT z=.tup [.int z.1,md]:=by rw[hmd];rfl
   rw[G];rcases RE T (c z C) z.1 with ⟨is,H,I,e⟩|e
   .refine .inl ⟨[~~~dd,~~~(dT t),some (.own false (.lst ((rs++[(z.2.1,z.2.2.1,is)]).map jJ))),~~~(.int z.1),~~~md],?_,rs++[(z.2.1,z.2.2.1,is)],?_,_,_,rfl⟩
    .rw[Ut];generalize rs.map jJ=acc at *;generalize z.2.2.2.map rI=its at *;simp[k0,k1,k2,e,F,jJ]
    .rw[tk];exact h.snoc ⟨by rw[<- H],I⟩
   .refine .inr ⟨"NoName",[.int z.1],?_,.inr ⟨_,rfl⟩⟩;generalize rs.map jJ=acc at *;generalize z.2.2.2.map rI=its at *;simp[k0,k1,k2,e]
 rcases j with ⟨rs,h,u3,u4,l⟩|⟨m,l⟩
 .refine .inl ⟨⟨nm,a,rs⟩,⟨rfl,rfl,by rw[<- hxs];exact h⟩,?_⟩;have J:JL ⟨nm,a,rs⟩=.ins "Plan" ["name", "givens", "rows"] [.str nm,.lst (a.map .str),.lst (rs.map jJ)]:=rfl;rw[J];generalize rs.map jJ=acc at *;simp[KL,XY,B,u,v,r,w,s,n,l,RG]
 .exact .inr ⟨m,by simp[KL,XY,u,v,r,w,s,n,l]⟩
def wL:List Dr->List Pl->Prop
 | [],ps=>ps=[]
 |q::qs,ps=>∃p r,ps=p::r/\PlM q p/\wL qs r
theorem PlM.rows {q:Dr}{p:Pl}(h:PlM q p):ZZ p=KN q:=by
 unfold ZZ KN;have e:p.givens++p.rows.map (·.1)=q.givens++q.rows.map (·.2.1):=by rw[h.gs,h.rs.out.2.1]
 rw[e,h.rs.out.2.2.1,h.nm,h.gs];simp
theorem wL.out:∀{a:List Dr} {b:List Pl},wL a b->FY b=Q0 a/\b.length=a.length/\∀p∈b,∃q∈a,PlM q p
 | [],b,h=>by rw[h];exact⟨rfl,rfl,λ_ h=>nomatch h⟩
 |q::a,b,h=>by
  obtain⟨p,r,rfl,c,d⟩:=h;obtain⟨k1,k2,k3⟩:=d.out;refine⟨?_,by rw[Zu,Zu,k2],λz e=>?_⟩
  .show ZZ p++FY r=KN q++Q0 a;rw[c.rows,k1]
  grind
theorem GM:∀(a:List Dr),(∀q∈a,q.givens.length+q.rows.length<=920/\∀z∈q.rows,z.2.2.2.length<=16000001)->(∃b,wL a b/\qm (.one 0) (J1 KL (Jr (ja 0) jd)) [none] (a.map Qn)=.ok (b.map JL))\/∃m,qm (.one 0) (J1 KL (Jr (ja 0) jd)) [none] (a.map Qn)=.ex "NoName" [.int m]
 | [],_=>.inl ⟨[],rfl,rfl⟩
 |q::a,h=>by
  have e:qm (.one 0) (J1 KL (Jr (ja 0) jd)) [none] ((q::a).map Qn)=(KL [Qn q]).bind λy=>(qm (.one 0) (J1 KL (Jr (ja 0) jd)) [none] (a.map Qn)).bind λf=>.ok (y::f):=rfl;rw[e];rcases RH (h q Zqs).1 (h q Zqs).2 with ⟨p,g,c⟩|⟨m,c⟩
  .rw[c];rcases GM a λz i=>h z (Zqm _ i) with ⟨b,j,d⟩|⟨m,d⟩
   .exact .inl ⟨p::b,⟨p,b,rfl,g,j⟩,by rw[d];rfl⟩
   .exact .inr ⟨m,by rw[d];rfl⟩
  .exact .inr ⟨m,by rw[c];rfl⟩
noncomputable def w6:Yh:=["BadName", "BadPart", "BadPlan", "TooLong"]
def uz {b:List Pl}(S:SnB b)(n:mR b)(p:vW b)(q:vV b):WB b:=by
 have c:=λx hx=>PV (S.pl x hx).nm (n.1.1 x.name (Ja.mpr ⟨x,hx,rfl⟩));refine⟨p.1.1,p.1.2,n.1.2,λx hx=>⟨(c x hx).1,(c x hx).ne⟩,λi x d r g=>?_,λx hx=>⟨(p.2 x hx).2.1.2,(p.2 x hx).1.2⟩⟩;by_cases a:r.2.1 = "all"
 .exact .inl a
 .by_cases f:r.2.1 = "first"
  .exact .inr (.inl f)
  .have h:xO r.2.1=true:=by simp_all [xO]
   have e:=q i x d r g h;refine .inr (.inr ?_);rw[<- Ge];refine U4 λz=>?_;rw[uq.mpr z] at e;cases e
def RI {e:List Pl}(S:SnB e):(ym [JT e]=.ok .non/\vW e)\/∃c∈w6,ym [JT e]=.ex c []:=by
 have a:=Re S;by_cases n:mR e
 .rw[Vl n] at a;have b:=Rg S;by_cases p:vW e
  .rw[Vl p] at b;have c:=Rh S n.1.2;by_cases q:vV e
   .rw[Vl q] at c;have d:=Ri (uz S n p q);by_cases w:∀q∈xa e,q.2<=2000
    .rw[Vl w] at d;exact .inl ⟨by simp[ym,y9,a,b,c,d],p⟩
    .rw[Kb w] at d;exact .inr ⟨"TooLong",by decide +kernel,by simp_all [ym,y9]⟩
   .rw[Kb q] at c;exact .inr ⟨"BadPart",by decide +kernel,by simp[ym,y9,a,b,c]⟩
  .rw[Kb p] at b;exact .inr ⟨"BadPlan",by decide +kernel,by simp[ym,y9,a,b]⟩
 .rw[Kb n] at a;exact .inr ⟨"BadName",by decide +kernel,by simp[ym,y9,a]⟩
def RJ {n how:Str}{a:List (Str×Int)}(R:RowR n how a):a.length<=(qd n how a).length:=by
 have c:(", " : Str).length=2:=by decide +kernel
 have l:=Wx ", " (a.map jC);have b:∀l:List (Str×Int),(∀i∈l,xM i)->l.length<=((l.map jC).map (·.length)).sum:=λl h=>by
  induction l with
  |nil=>exact Ue _
  |cons i r d =>
   have:=Co (h i Zqs);have:=d λj e=>h j (Zqm _ e);rw[Zl,Zl,List.sum_cons,Zu];lia
 have:=b a R.is;rw[c,Zql] at l;unfold qd;rw[JS];lia
def RL {n:Nat}{x:Str}(hx:TxtOk n x)(H:n<=16000000){rs:Yh}{ks:Yg}(A:Txt.split x "\n" = rs)(R:RKs rs ks)(O:rs.length<=920):(qO 0 (-1) ks=none/\((∃d,Ke [.str x]=.ok d)\/(∃c∈w6,Ke [.str x]=.ex c [])\/∃m,Ke [.str x]=.ex "NoName" [.int m]))\/(∃m:Nat,qO 0 (-1) ks=some m/\Ke [.str x]=.ex "BadRow" [.int m]):=by
 rcases RC hx H A R () with ⟨b,f,e,G,h⟩|⟨m,b,h⟩
 .obtain⟨I,B⟩:=Cv f;rw[e] at I B;have big:∀q∈f,q.givens.length+q.rows.length<=920/\∀z∈q.rows,z.2.2.2.length<=16000001:=λq i=>⟨by have:=B q i;lia,λz j=>by
   have J:qd z.2.1 z.2.2.1 z.2.2.2∈Q0 f:=Jk.mpr ⟨q,i,by unfold KN;exact Zqm _ (Ud _ (Ja.mpr ⟨z,j,rfl⟩))⟩;rw[e] at J;have a:=(Y0 hx (by rwa [A])).len;have b:=RJ ((G q i).rs z j);lia⟩
  have u:(f.map Qn).length<sizeLine:=Qr (by rw[Zql];lia);unfold Wz at h;have C:∀l:Yt,Cd [.lst l]=.ok [.lst l]:=λ_=>rfl;rcases GM f big with ⟨s,M,t⟩|⟨m,t⟩
  .have ⟨k1,k2,k3⟩:=M.out;have S:SnB s:=⟨λp K=>by
    have ⟨q,i,m⟩:=k3 p K;have g:=G q i;have ⟨L,P,Q,E⟩:=m.rs.out;refine⟨by rw[m.nm];exact g.nm.1.mono (),λy T=>(g.gs y (by rwa [<- m.gs])).1.mono (),λr v=>?_,λr v=>?_,by rw[m.gs,L];exact(big q i).1⟩
    .obtain⟨z,j,w,_⟩:=E r v;have R:=(g.rs z j).nm.1;rw[w] at R;exact R.mono ()
    .obtain⟨z,j,w,_⟩:=E r v;have R:=GA (g.rs z j);rw[w] at R;exact R.mono (),()⟩
   have F:JT s=.ins "Book" ["plans"] [.lst (s.map JL)]:=rfl;rcases RI S with ⟨o,p⟩|⟨c,N,o⟩
   .refine .inl ⟨b,.inl ⟨JT s,?_⟩⟩;rw[F] at o ⊢;generalize f.map Qn=es at *;simp[Ke,Ww,h,t,o,u,C]
   .refine .inl ⟨b,.inr (.inl ⟨c,N,?_⟩)⟩;rw[F] at o;generalize f.map Qn=es at *;simp[Ke,Ww,h,t,o,u,C]
  .refine .inl ⟨b,.inr (.inr ⟨m,?_⟩)⟩;generalize f.map Qn=es at *;simp[Ke,Ww,h,t,u]
 .exact .inr ⟨m,b,by simp[Ke,Ww,h]⟩
def Vy:Yh->List Str
 | []=>[]
 | [x]=>[x]
 |x::y::r=>(x ++ ",")::Vy (y::r)
def GN (x:Str)(r:Yh):∃y l,Vy (x::r)=y::l:=by
 cases r with
 |nil=>exact⟨_,_,rfl⟩
 |cons y r=>exact⟨_,_,rfl⟩
theorem Cy:∀(x:Str) (r:Yh),Txt.join " " (Vy (x::r))=Txt.join ", " (x::r)
 |x,[]=>by rfl
 |x,y::r=>by
  have a:=Cy y r;obtain⟨z,l,e⟩:=GN y r;show Txt.join " " ((x ++ ",")::Vy (y::r))=_;rw[e] at a ⊢;rw[QP,a,QP,KG x,KG x,KG x]
  congr 1
theorem Cz:∀l:Yh,(Vy l).length=l.length
 | []=>rfl
 | [_]=>rfl
 |x::y::r=>Zt (· + 1) (Cz (y::r))
theorem C0:∀(l:Yh),∀w∈Vy l,∃x∈l,w=x\/w=x ++ ","
 | [],w,h=>nomatch h
 | [x],w,h=>⟨x,Zqs,.inl (Jb.mp h)⟩
 |x::y::r,w,h=>by
  rcases Uj.mp h with z|z
  .exact()
  .obtain⟨a,b,c⟩:=C0 (y::r) w z
   grind
def RM {a:List (Str×Int)}(h:∀i∈a,xM i):∀w∈Vy (a.map jC),32∉w.cps.toList:=λw hw=>by
 obtain⟨x,hx,e⟩:=C0 _ w hw;obtain⟨i,b,rfl⟩:=Ja.mp hx;have f:=Y1 (h i b) (c:=32) (by decide) () ();rcases e with rfl|rfl
 .exact f
 .rw[J0];intro z;rcases Jc.mp z with z|z
  .exact f z
  .exact Zn (Jb.mp z) (by decide)
def RN {a:List (Str×Int)}(h:∀i∈a,xM i):∀w∈Vy (a.map jC),TxtOk 45 w:=λw hw=>by
 obtain⟨x,hx,e⟩:=C0 _ w hw;obtain⟨i,b,rfl⟩:=Ja.mp hx;have f:=Vx (h i b);rcases e with rfl|rfl
 .exact f.mono ()
 .exact f.app (J2 (n:=1) (by decide +kernel))
def bz {x:Str}{w:Int}(hx:jA x)(o: -1000000000000000000000000000000<w)(r:w<1000000000000000000000000000000):QF [.str (yR x w)]=.ok (.tup [.str x,.int w]):=by
 have nx:=Ap hx;unfold yR;by_cases l:w=0
 .simp_all [QF,VT]
 .rw[Ze l];by_cases e:0<w
  .rw[Zd e];obtain⟨m,rfl⟩:=UL (Int.le_of_lt e);have f:=Ao (m:=m) () ();have k:TxtOk 44 (x ++ "+" ++ jz (m:Int)):=((hx.1.app (J2 (n:=1) (by decide +kernel))).app f.ok).mono ();have g:qj [.str (x ++ "+" ++ jz (m:Int))]=.ok (.bl false):=Gs (c:=43) k () (by rw[J0,J0];simp;exact .inr (.inl (by decide +kernel))) (by decide +kernel) (by decide +kernel);have b:=KM (s:= "+") k () (by decide +kernel);rw[<- Yy "+",Vw (c:=43) (t:=[]) rfl (by decide +kernel) (λp hp=>by
    rcases Uj.mp hp with rfl|hp
    .exact Kr hx (by decide)
    .rw[Jb.mp hp];exact Ci f ()),Yy] at b
   have b:QZ (x ++ "+" ++ jz (m:Int)) (.str "+")=some (.lst [.str x,.str (jz (m:Int))]):=b;have h:=Cg f;have i:=Ad (a:= "+") (J2 (n:=1) (by decide +kernel)) f.ok ();have j:Vt [.str (("+" : Str)++jz (m:Int))]=some (.int (m:Int)):=by
    show(if(("+" : Str)++jz (m:Int)).length<=640 then(intText? _).map D.int else none)=_;rw[Zd (by rw[JS];have:=f.hi;show 1+_<=_;lia),f.plus];rfl
   simp_all [QF,VT,Ws,XR,qw,qV,j7]
  .rw[Ze e];obtain⟨m,rfl⟩:∃m:Nat,w = -((m+1:Nat):Int):=⟨(-w).toNat-1,()⟩;rw[WX,<- KG];have f:=Ao (m:=m+1) () ();have k:TxtOk 44 (x ++ "-" ++ jz ((m+1:Nat):Int)):=((hx.1.app (J2 (n:=1) (by decide +kernel))).app f.ok).mono ();have g:qj [.str (x ++ "-" ++ jz ((m+1:Nat):Int))]=.ok (.bl false):=Gs (c:=45) k () (by rw[J0,J0];simp;exact .inr (.inl (by decide +kernel))) (by decide +kernel) (by decide +kernel);have d:=KM (s:= "+") k () (by decide +kernel);rw[<- QQ "+" (x ++ "-" ++ jz ((m+1:Nat):Int)),Vw (c:=43) (t:=[]) rfl (by decide +kernel) (λp hp=>by
    rw[Jb.mp hp,J0,J0];intro z;rcases Jc.mp z with z|z
    .rcases Jc.mp z with z|z
     .exact Kr hx (by decide) z
     .revert z;decide +kernel
    .exact Ci f () z),QQ] at d
   have d:QZ (x ++ "-" ++ jz ((m+1:Nat):Int)) (.str "+")=some (.lst [.str (x ++ "-" ++ jz ((m+1:Nat):Int))]):=d;have b:=KM (s:= "-") k () (by decide +kernel);rw[<- Yy "-",Vw (c:=45) (t:=[]) rfl (by decide +kernel) (λp hp=>by
    rcases Uj.mp hp with rfl|hp
    .exact Kr hx (by decide)
    .rw[Jb.mp hp];exact Ci f ()),Yy] at b
   have b:QZ (x ++ "-" ++ jz ((m+1:Nat):Int)) (.str "-")=some (.lst [.str x,.str (jz ((m+1:Nat):Int))]):=b;have h:=Cg f;have i:=Ad (a:= "-") (J2 (n:=1) (by decide +kernel)) f.ok ();have j:Vt [.str (("-" : Str)++jz ((m+1:Nat):Int))]=some (.int (-((m+1:Nat):Int))):=by
    show(if(("-" : Str)++jz ((m+1:Nat):Int)).length<=640 then(intText? _).map D.int else none)=_;rw[Zd (by rw[JS];have:=f.hi;show 1+_<=_;lia),f.minus];rfl
   generalize ((m+1:Nat):Int)=q at *;simp[QF,VT,Ws,XR,qw,qV,g,j7,d,b,nx,h,i,j]
def b3 {n how:Str}{i:Str×Int}{a:List (Str×Int)}(h:∀j∈i::a,xM j)(t:a.length<=43):Vu [.str n,.str how,.lst ((Vy ((i::a).map jC)).map .str)]=.ok (.tup [.str n,.str how,.lst ((i::a).map rI)]):=by
 have l:=Cz ((i::a).map jC);rw[Zql,Zu] at l;have g:=Ac (sep:= " ") (PK (m:=1) (n:=45) (k:=44) (by decide +kernel) (λw hw=>(RN h w hw).len) () ());rw[Zl] at g;rw[Cy,<- Zl] at g;have k:TxtOk 2024 (Txt.join ", " ((i::a).map jC)):=(Ab (m:=2) (k:=44) (J2 (by decide +kernel)) (λx hx=>by obtain⟨j,b,rfl⟩:=Ja.mp hx;exact Vx (h j b)) (by rw[Zql,Zu];lia)).mono ();have u:=KM (s:= ", ") k () (by decide +kernel);have sp:Txt.split (Txt.join ", " ((i::a).map jC)) ", " = (i::a).map jC:=Vw (c:=44) rfl (by decide +kernel) λp o=>by
  obtain⟨j,b,rfl⟩:=Ja.mp (show p∈(i::a).map jC from o);exact Y1 (h j b) (by decide) () ()
 have r:qm (.one 0) (J1 QF (Jr (ja 0) jd)) [none] ((i::a).map (D.str ∘ jC))=.ok ((i::a).map rI):=KW λj b=>by
  have e:=bz (h j b).1 (h j b).2.1 (h j b).2.2;have e:QF [.str (jC j)]=.ok (rI j):=e;simp[e]
 have v:qX false .non (.lst ((i::a).map rI))=some (.bl false):=by
  have p:=Ul.mpr λd f=>by
   obtain⟨j,b,rfl⟩:=Ja.mp f;exact Gy (h j b)
  show(if plN 12 D.non&&((i::a).map rI).all (plN 12) then some (D.bl (if false=true then _ else((i::a).map rI).any λe=>sameD e .non)) else none)=_;rw[p];have q:(((i::a).map rI).any λe=>sameD e .non)=false:=List.any_eq_false.mpr λd f=>by
   obtain⟨j,b,rfl⟩:=Ja.mp f;rw[zw.mpr (λz=>by cases z)];exact Zj
  rw[q];rfl
 have y:((i::a).map (D.str ∘ jC)).length<sizeLine:=Qr (by rw[Zql,Zu];lia)
 simp_all [Vu,WZ,j7]
def RowR.ok {n how:Str}{a:List (Str×Int)}(R:RowR n how a)(d:a.length<=44):TxtOk 2056 (qd n how a)/\TxtOk 12 how:=by
 have b:TxtOk 12 how:=by
  rcases R.hw with rfl|rfl|h
  .exact J2 (by decide +kernel)
  .exact J2 (by decide +kernel)
  .exact h.1
 have k:TxtOk 2024 (Txt.join ", " (a.map jC)):=(Ab (m:=2) (k:=44) (J2 (by decide +kernel)) (λx hx=>by obtain⟨j,c,rfl⟩:=Ja.mp hx;exact Vx (R.is j c)) ()).mono ();exact⟨(((((sR.app R.nm.1).app sR).app (PM b)).app sR).app k).mono (),b⟩
def b4 {n how:Str}{b:List (Str×Int)}(R:RowR n how b)(q:b.length<=44):Qp [.str (qd n how b)]=.ok (Km n how b):=by
 obtain⟨k,E⟩:=R.ok q;have lo:=R.lo;have u:=Ap R.nm;obtain⟨i,r,rfl⟩:∃i r,b=i::r:=by
  cases b with
  |nil=>simp_all
  |cons i r=>simp
 obtain⟨w,ws,l⟩:=GN (jC i) (r.map jC);have jw:=Cy (jC i) (r.map jC);rw[l] at jw;have v:=Cz (jC i::r.map jC);rw[l] at v;rw[Zu,Zu,Zql] at v;rw[Zu] at lo q;have d:=b3 (n:=n) (how:=how) R.is ();rw[Zl,l] at d;have x:=RM R.is;rw[Zl,l] at x;have g:=KM (s:= " ") k () (by decide +kernel);have y:yz (.str "") (.str "")=some (.bl false):=by
  have a:asc ("" : Str):=by unfold asc;decide +kernel
  rw[An a a,Zp rfl];rfl
 have F:(32:Nat)∉("" : Str).cps.toList:=by decide +kernel
 have G:(32:Nat)∉n.cps.toList:=Kr R.nm (by decide);by_cases c:how = "all" \/ how = "first"
 .have H:xO how=false:=by grind[xO]
  have e:qd n how (i::r)=Txt.join " " ("" :: n::how::w::ws):=by
   unfold qd;rw[show jE how=how from Zd c,K7,K7,K7,jw,Zl];simp only[KG,Ar]
  have A:(32:Nat)∉how.cps.toList:=by rcases c with rfl|rfl<;>decide +kernel
  have sp:=Vw (s:= " ") (c:=32) (t:=[]) rfl (by decide +kernel) (r:= "") (rs:=n::how::w::ws) λp hp=>by
   grind
  rw[e,sp] at g;rw[e];have f:=Cp E.asc;rw[H] at f;obtain⟨z,hz⟩:∃z:Int,z=((ws.length+1+1+1+1:Nat):Int):=⟨_,rfl⟩;have h:j6 [.lst ((("" : Str)::n::how::w::ws).map .str)]=some (.int z):=by
   simp_all
  have j:wX (.lst ((("" : Str)::n::how::w::ws).map .str)) (some 3) none none=some (.lst ((w::ws).map .str)):=by
   show some (D.lst (Qe _ (some 3) none none))=_;rw[ZY _ ()];rfl
  have m:¬z<4:=()
  simp only[Zl] at g h j d;generalize Txt.join " " ("" :: n::how::w::ws)=tx at *;simp[Qp,Kc,j7,g,h,j,qw,qV,yh,y,u,f,d,Km,m]
 .have B:jA how:=by
   rcases R.hw with z|z|z
   .exact Zn (.inl z) c
   .exact Zn (.inr z) c
   .exact z
  have e:qd n how (i::r)=Txt.join " " ("" :: n :: "part" :: how::w::ws):=by
   unfold qd;rw[show jE how = "part " ++ how from Ze c,K7,K7,K7,K7,jw,Zl];simp only[KG,Ar,G5]
  have A:(32:Nat)∉how.cps.toList:=Kr B (by decide);have I:(32:Nat)∉("part" : Str).cps.toList:=by decide +kernel
  have sp:=Vw (s:= " ") (c:=32) (t:=[]) rfl (by decide +kernel) (r:= "") (rs:=n :: "part" :: how::w::ws) λp hp=>by
   rcases Uj.mp hp with rfl|hp
   .exact F
   rcases Uj.mp hp with rfl|hp
   .exact G
   rcases Uj.mp hp with rfl|hp
   .exact I
   rcases Uj.mp hp with rfl|hp
   .exact A
   .exact x p hp
  rw[e,sp] at g;rw[e];have o:asc ("part" : Str):=by unfold asc;decide +kernel
  have f:=Cp o;rw[show xO "part" = true by decide +kernel] at f;have C:=Go o o;rw[Zp rfl] at C;have J:=Ap B;obtain⟨z,hz⟩:∃z:Int,z=((ws.length+1+1+1+1+1:Nat):Int):=⟨_,rfl⟩;have h:j6 [.lst ((("" : Str)::n :: "part" :: how::w::ws).map .str)]=some (.int z):=by
   show some (D.int _)=_;simp only[Zql,Zu];exact Zt (λa=>some (D.int a)) hz.symm
  have j:wX (.lst ((("" : Str)::n :: "part" :: how::w::ws).map .str)) (some 4) none none=some (.lst ((w::ws).map .str)):=by
   show some (D.lst (Qe _ (some 4) none none))=_;rw[ZY _ ()];rfl
  have m:¬z<4:=()
  simp only[Zl] at g h j d;simp[Qp,Kc,j7,g,h,j,qw,qV,yh,zJ,y,u,J,f,C,d,Km,m]
theorem RO {i:Nat}(h:i<36):(yG (qU i)||yf (qU i))=true:=by
 unfold qU yG yf
 grind
def vM.nm {x:Str}(h:vM x):jA x:=by
 refine⟨h.ok,?_⟩;have d:=h.ok.len;obtain⟨m,e,rfl,b⟩:=h;have c:(Qa m).cps.toList=qU (m % 26)::qJ 59 (m / 26):=by show((Wq m).toArray).toList=_;simp[Wq]
 have lo:1<=(Qa m).length:=by
  show 1<=(Qa m).cps.size;rw[<- Uc,c,Zu];lia
 have a:m % 26<26:=()
 have f:yG (qU (m % 26))=true:=by
  unfold qU yG;rw[Zd a,Zp (),Zp ()];rfl
 have g:(kept.all λw => !decide (w=Qa m))=true:=Ul.mpr λw hw=>by
  rw[Zo λz=>b (by rw[<- z];exact hw)];rfl
 unfold Qt
 grind[RO,BW]
theorem K8:∀{a c b d:Yg},32∉a->32∉c->a++32::b=c++32::d->a=c/\b=d
 | [],[],_,_,_,_,h=>⟨rfl,(Ug h).2⟩
 | [],x::c,_,_,_,hc,h=>Zn (Uj.mpr (.inl (Ug h).1)) hc
 |x::a,[],_,_,ha,_,h=>Zn (Uj.mpr (.inl (Ug h).1.symm)) ha
 |x::a,y::c,b,d,ha,hc,h=>by
  obtain⟨f,e⟩:=Ug h;obtain⟨g,i⟩:=K8 (λz=>ha (Zqm _ z)) (λz=>hc (Zqm _ z)) e
  simp_all
abbrev Ls (x:Str):Yg:=x.cps.toList
theorem Y4 (x:Str):Ls ("plan " ++ x)=[112,108,97,110]++32::Ls x:=by unfold Ls;rw[J0];rfl
theorem Y5 (x:Str):Ls (" given " ++ x)=32::([103,105,118,101,110]++32::Ls x):=by unfold Ls;rw[J0];rfl
def C1 (n w j:Str):Ls (" " ++ n ++ " " ++ w ++ " " ++ j)=32::(Ls n++32::(Ls w++32::Ls j)):=by
 unfold Ls;simp only[J0,Ub];rfl
def K9 {x:Str}(h:jA x):32∉Ls x:=Kr h (by decide)
def RP {x:Str}(h:jA x):x∉kept:=λz=>by
 have a:=h.2;unfold Qt at a;simp only[Ua,Ul] at a;have:=a.2.2.1 x z;simp at this
def Av {x:Str}(h:jA x){w:Str}(hw:w∈kept):Ls x≠Ls w:=λz=>RP h (by rw[JF z];exact hw)
def k3 {N:Nat}{row:Str}(b:TxtOk N row)(c:N<=16000000)(f:∀x,jA x->Ls row ≠ [112,108,97,110]++32::Ls x)(g:∀x,jA x->Ls row≠32::([103,105,118,101,110]++32::Ls x))
 (d:∀n how a,RowR n how a->Ls row≠32::(Ls n++32::(Ls (jE how)++32::Ls (Txt.join ", " (a.map jC))))):RK row 3:=by
 refine .b ?_ ?_ ?_
 .grind[G6,Cs,Y4]
 .grind[G6,ur,Y5]
 .rcases Rs b c with ⟨n,how,a,R,e,_⟩|e
  .exact Zn (by rw[<- e];exact C1 _ _ _) (d n how a R)
  .exact e
def C2 {N:Nat}{y:Str}(a:TxtOk N ("plan " ++ y))(b:N<=16000000)(c:¬jA y):RK ("plan " ++ y) 3:=by
 refine k3 a b (λx hx e=>?_) (λx hx e=>?_) λn how d R e=>?_
 .rw[Y4] at e;exact c (by rwa [JF (K8 (by decide) (by decide) e).2])
 .rw[Y4] at e;exact Zn (Ug e).1 (by decide)
 .rw[Y4] at e;exact Zn (Ug e).1 (by decide)
def C3 {N:Nat}{y:Str}(a:TxtOk N (" given " ++ y))(b:N<=16000000)(c:¬jA y):RK (" given " ++ y) 3:=by
 refine k3 a b (λx hx e=>?_) (λx hx e=>?_) λn how d R e=>?_
 .simp_all [Y5]
 .rw[Y5] at e;exact c (by rwa [JF (K8 (by decide) (by decide) (Ug e).2).2])
 .rw[Y5] at e;exact Av R.nm (w:= "given") (by decide) (K8 (by decide) (K9 R.nm) (Ug e).2).1.symm
def Xa {y:Str}(h:32∈Ls y):¬jA y:=λz=>K9 z h
def C4 {N:Nat}{row:Str}{m rest:Yg}(b:TxtOk N row)(c:N<=16000000)(e:Ls row=32::(m++32::rest))(a:32∉m)(d:m ≠ [103,105,118,101,110])(f:∀n,jA n->Ls n≠m):RK row 3:=by
 refine k3 b c (λx hx z=>?_) (λx hx z=>?_) λn how g R z=>?_
 .simp_all
 .rw[e] at z;exact d (K8 a (by decide) (Ug z).2).1
 .rw[e] at z;exact f n R.nm (K8 a (K9 R.nm) (Ug z).2).1.symm
def GO {N:Nat}{row:Str}{m rest:Yg}(b:TxtOk N row)(d:N<=16000000)(e:Ls row=m++32::rest)(f:32∉m)(g:m ≠ [])(h:m ≠ [112,108,97,110]):RK row 3:=by
 have a:∀l,Ls row≠32::l:=λl z=>by
  cases m with
  |nil=>exact g rfl
  |cons c m=>simp_all
 refine k3 b d (λx hx z=>?_) (λx hx z=>a _ z) λn how i R z=>a _ z;rw[e] at z;exact h (K8 f (by decide) z).1
def yK (l:Yg):Prop:=∀a b,l=a++32::b->∃c,a=c++[44]
theorem GP {J:Yg}(g:yK J):∀{x:Yg},32∉x->yK (x++44::32::J)
 | [],_,[],b,e=>Zn (Ug e).1 (by decide)
 | [],_,[c],b,e=>⟨[],()⟩
 | [],_,c::d::a,b,e=>by
  obtain⟨j,h⟩:=Ug e;obtain⟨l,i⟩:=Ug h;obtain⟨f,rfl⟩:=g a b i;exact⟨c::d::f,rfl⟩
 |c::x,hx,[],b,e=>Zn (Uj.mpr (.inl (Ug e).1.symm)) hx
 |c::x,hx,d::a,b,e=>by
  obtain⟨f,rfl⟩:=GP g (λz=>hx (Zqm _ z)) a b (Ug e).2;exact⟨d::f,rfl⟩
def Aw {i:Str×Int}(h:xM i):32∉Ls (jC i):=Y1 h (by decide) (by decide) (by decide)
def RQ {i:Str×Int}(h:xM i):44∉Ls (jC i):=Y1 h (by decide) (by decide) (by decide)
theorem C5 (x y:Str)(r:Yh):Ls (Txt.join ", " (x::y::r))=Ls x++44::32::Ls (Txt.join ", " (y::r)):=by
 unfold Ls;rw[QP,J0,J0,Ub];rfl
theorem GQ:∀{c:List (Str×Int)},(∀i∈c,xM i)->yK (Ls (Txt.join ", " (c.map jC)))
 | [],_=>λa b e=>Zn e (by
  show([]:Yg)≠_;simp)
 | [i],h=>λa b e=>by
  rw[Zl,UJ,QQ] at e;exact Zn (by rw[e];simp) (Aw (h i Zqs))
 |i::j::r,h=>by
  rw[Zl,Zl,C5];exact GP (GQ λz d=>h z (Zqm _ d)) (Aw (h i Zqs))
theorem GR:∀{a:List (Str×Int)},(∀i∈a,xM i)->1<=a.length->∃l c,Ls (Txt.join ", " (a.map jC))=l++[c]/\c≠44
 | [],_,l=>Zn l (by decide)
 | [i],h,_=>by
  have b:=h i Zqs;have ne:Ls (jC i) ≠ []:=λz=>by
   have:=Co b;have e:(jC i).length=(Ls (jC i)).length:=rfl
   simp_all
  refine⟨(Ls (jC i)).dropLast,(Ls (jC i)).getLast ne,(List.dropLast_concat_getLast ne).symm,λz=>RQ b (by rw[<- z];exact List.getLast_mem ne)⟩
 |i::j::r,h,_=>by
  have ⟨l,c,e,f⟩:=GR (λz d=>h z (Zqm _ d)) ()
  grind[List.map_cons,C5]
def Y6 (how:Str):Prop:=how = "all" \/ how = "first" \/ jA how
def C6 {how:Str}(h:Y6 how):Ls (jE how)=[97,108,108]\/Ls (jE how)=[102,105,114,115,116]\/(jA how/\Ls (jE how)=[112,97,114,116]++32::Ls how):=by
 rcases h with rfl|rfl|h
 .exact .inl rfl
 .exact .inr (.inl rfl)
 .refine .inr (.inr ⟨h,?_⟩);unfold jE;rw[Ze (λz=>by have:=h.ne;simp_all)];unfold Ls;rw[J0];rfl
def RR {how c:Str}(h:Y6 how)(h':Y6 c){J d:Yg}(e:Ls (jE how)++32::J=Ls (jE c)++32::d):J=d:=by
 rcases C6 h with a|a|⟨n,a⟩<;>rcases C6 h' with b|b|⟨n',b⟩<;>rw[a,b] at e
 .simp_all
 .simp_all
 .simp_all
 .simp_all
 .exact(K8 (by decide) (by decide) e).2
 .simp_all
 .simp_all
 .simp_all
 .rw[Ub,Ub] at e;exact(K8 (K9 n) (K9 n') (K8 (by decide) (by decide) e).2).2
def Ax {N:Nat}{row n how:Str}{J:Yg}(c:TxtOk N row)(d:N<=16000000)(a:jA n)(hw:Y6 how)(e:Ls row=32::(Ls n++32::(Ls (jE how)++32::J)))(f:¬yK J):RK row 3:=by
 refine k3 c d (λx hx z=>?_) (λx hx z=>?_) λh b g R z=>?_
 .simp_all
 .rw[e] at z;exact Av a (w:= "given") (by decide) (K8 (K9 a) (by decide) (Ug z).2).1
 .rw[e] at z;exact f (by rw[RR hw R.hw ((K8 (K9 a) (K9 R.nm) (Ug z).2).2)];exact GQ R.is)
def GS {l c t:Yg}{x:Nat}(e:c=l++[x])(hx:x≠44):¬yK (c++32::t):=λh=>by
 obtain⟨a,b⟩:=h c t rfl;rw[e] at b;exact hx (Ug (List.append_inj' b rfl).2).1
def RU (a b:Yg):¬yK (a++32::32::b):=λh=>by
 obtain⟨c,d⟩:=h (a++[32]) b ();have:=(List.append_inj' d rfl).2;cases this
def RV (b:Yg):¬yK (32::b):=λh=>by
 obtain⟨c,a⟩:=h [] b rfl;simp at a
def sw:Yg->List Yg
 | []=>[[]]
 |c::r=>if c=32 then[]::sw r else match sw r with
  | []=>[[c]]
  |w::ws=>(c::w)::ws
theorem VW (b:Yg):∀{a:Yg},32∉a->sw (a++32::b)=a::sw b
 | [],_=>rfl
 |c::a,h=>by
  have d:=VW b λz=>h (Zqm _ z);show(if c=32 then[]::sw (a++32::b) else match sw (a++32::b) with|[]=>[[c]]|w::ws=>(c::w)::ws)=_
  grind
theorem GT:∀{a:Yg},32∉a->sw a=[a]
 | [],_=>rfl
 |c::a,h=>by
  have b:=GT λz=>h (Zqm _ z);show(if c=32 then[]::sw a else match sw a with|[]=>[[c]]|w::ws=>(c::w)::ws)=_
  grind
theorem GU:∀l:Yg,∃w ws,sw l=w::ws
 | []=>⟨_,_,rfl⟩
 |c::r=>by
  obtain⟨w,ws,e⟩:=GU r;show ∃b a,(if c=32 then[]::sw r else match sw r with|[]=>[[c]]|w::ws=>(c::w)::ws)=b::a
  grind
def sg (c:Nat):Bool:=yG c||yf c
def vv (l:Yg):Bool:=Qt ⟨l.toArray⟩
theorem VX {x:Str}(h:jA x):vv (Ls x)=true:=by
 unfold vv;rw[show(⟨(Ls x).toArray⟩:Str)=x from JF rfl];exact h.2
def v8 (l:Yg):Bool:=decide (1<=l.length)&&(decide (l.length<=30)&&(decide (l.headD 0≠48)&&l.all yf))
theorem RW {d:Str}{m:Nat}(h:FigT d m):v8 (Ls d)=true:=by
 have e:(Ls d).length=d.length:=Uc;unfold v8;have a:(Ls d).all yf=true:=Ul.mpr λc b=>by
  have:=h.all c b
  grind[yf]
 rw[e,a,Zp h.lo,Zp h.hi,Zp h.hd];rfl
def vS (l:Yg):Bool:=vv (l.takeWhile sg)&&match l.dropWhile sg with
 | []=>true
 |s::d=>(s == 43||s == 45)&&v8 d
theorem GV {p:Nat->Bool}:∀{a:Yg},(∀c∈a,p c=true)->a.takeWhile p=a/\a.dropWhile p=[]
 | [],_=>⟨rfl,rfl⟩
 |c::a,h=>by
  obtain⟨d,e⟩:=GV λz b=>h z (Zqm _ b)
  simp_all
def RX {p:Nat->Bool}{s:Nat}{d:Yg}(b:p s=false):∀{a:Yg},(∀c∈a,p c=true)->(a++s::d).takeWhile p=a/\(a++s::d).dropWhile p=s::d
 | [],_=>by
  simp_all
 |c::a,h=>by
  simp_all
def GW {x d:Str}{m s:Nat}(hx:jA x)(e:FigT d m)(a:s=43\/s=45):vS (Ls x++s::Ls d)=true:=by
 obtain⟨f,g⟩:=RX (p:=sg) (s:=s) (d:=Ls d) (by rcases a with rfl|rfl<;>rfl) λc b=>Ch hx b
 grind[vS,VX,RW]
theorem GX {i:Str×Int}(h:xM i):vS (Ls (jC i))=true:=by
 obtain⟨d,g,j⟩:=h;unfold jC yR
 split
 .obtain⟨a,b⟩:=GV (p:=sg) λc f=>Ch d f;unfold vS;rw[a,b,VX d];rfl
 .split
  .obtain⟨m,e⟩:=UL (show 0<=i.2 from ());have:=GW d (Ao (m:=m) () ()) (.inl rfl);rw[e];unfold Ls
   rwa [J0,J0,Ub]
  .have ⟨m,e⟩:∃m:Nat,i.2 = -((m+1:Nat):Int):=⟨(-i.2).toNat-1,()⟩;have:=GW d (Ao (m:=m+1) () ()) (.inr rfl);rw[e,WX];unfold Ls
   rwa [J0,J0]
def zC:List Yg->Bool
 | []=>false
 | [w]=>vS w
 |w::v::r=>w.getLast? == some 44&&(vS w.dropLast&&zC (v::r))
theorem GY:∀{a:List (Str×Int)},(∀i∈a,xM i)->1<=a.length->zC (sw (Ls (Txt.join ", " (a.map jC))))=true
 | [],_,l=>Zn l (by decide)
 | [i],h,_=>by
  have b:=h i Zqs;rw[Zl,UJ,QQ,GT (Aw b)];exact GX b
 |i::j::r,h,_=>by
  have d:=GY (λz c=>h z (Zqm _ c)) ();rw[Zl,Zl,C5,show Ls (jC i)++44::32::Ls (Txt.join ", " (jC j::r.map jC))=(Ls (jC i)++[44])++32::Ls (Txt.join ", " (jC j::r.map jC)) by simp,VW _ (by simp[Aw (h i Zqs)])];obtain⟨w,ws,e⟩:=GU (Ls (Txt.join ", " (jC j::r.map jC)))
  grind[zC,List.getLast?_concat,List.dropLast_concat,GX]
def vq (l:Yg):Bool:=match sw l with
 | []::n::w::rest=>vv n&&(((w == [97,108,108]||w == [102,105,114,115,116])&&zC rest)||(w == [112,97,114,116]&&match rest with
  | []=>false
  |p::rest=>vv p&&zC rest))
 |_=>false
def RY {n how:Str}{c:List (Str×Int)}(R:RowR n how c):vq (32::(Ls n++32::(Ls (jE how)++32::Ls (Txt.join ", " (c.map jC)))))=true:=by
 have k:=GY R.is R.lo;have e:∀b,sw (32::(Ls n++32::b))=[]::Ls n::sw b:=λb=>by
  rw[show(32::(Ls n++32::b))=[]++32::(Ls n++32::b) from rfl,VW _ (),VW _ (K9 R.nm)]
 unfold vq;rw[e];rcases C6 R.hw with a|a|⟨h,a⟩<;>rw[a]
 .rw[VW _ (by decide)];simp[VX R.nm,k]
 .rw[VW _ (by decide)];simp[VX R.nm,k]
 .have q:∀J,sw (([112,97,114,116]++32::Ls how)++32::J)=[112,97,114,116]::Ls how::sw J:=λJ=>by
   rw[Ub];exact(VW (Ls how++32::J) (by decide)).trans (by rw[VW _ (K9 h)])
  rw[q];simp[VX R.nm,VX h,k]
def wl (l:Yg):Bool:=!(l.take 5 == [112,108,97,110,32]&&vv (l.drop 5))&&(!(l.take 7 == [32,103,105,118,101,110,32]&&vv (l.drop 7)) && !vq l)
def GZ {N:Nat}{o:Str}(f:TxtOk N o)(g:N<=16000000)(h:wl (Ls o)=true):RK o 3:=by
 unfold wl at h;simp only[Ua,UH] at h;obtain⟨a,b,c⟩:=h;refine k3 f g (λx hx e=>?_) (λx hx e=>?_) λn how i R e=>?_
 .rw[e] at a;have d:List.drop 5 ([112,108,97,110]++32::Ls x)=Ls x:=rfl;rw[d,VX hx] at a;exact Zn a (by show ¬(([112,108,97,110,32] == [112,108,97,110,32])&&true)=false;decide)
 .rw[e] at b;have d:List.drop 7 (32::([103,105,118,101,110]++32::Ls x))=Ls x:=rfl;rw[d,VX hx] at b;exact Zn b (by show ¬(([32,103,105,118,101,110,32] == [32,103,105,118,101,110,32])&&true)=false;decide)
 .rw[e,RY R] at c;cases c
noncomputable def xE:Yh:=List.map Str.ofString ["plan", "plan a b", "plan all", "plan A", "plan 1a", "plan a-b", "plan abcdefghijklm", "Plan a", "given a", "plans a", " given", " given a b", " given part", " given 1", " a", " a all", " a all b,c", " a all b , c", " a all b,  c", " a all b,", " a all b, ", " a all , b", " a all b c", " a first", " a part", " a part p",
 " a part all b", " a part p b,", " a any b", " a all b+0", " a all b-0", " a all b+01", " a all b+", " a all b-", " a all b+-1", " a all b+1_0", " a all b +1", " a all b+1+1", " a all 1", " a all +1", " a all b--1", " all all b", " first all b", " a All b", " a all all", "all", " plan a", " A all b", " a all b;c", " a part p, b", " a part P b", " a all b+1, c-", " a all b+x", " a all b1+ 1"]
noncomputable def zu:Yh:=["", " ", " x9 all x9+1000000000000000000000000000000", " x9 first x9, x9-1000000000000000000000000000000"]
def RZ {o:Str}(h:o∈xE):RK o 3/\TxtOk 20 o:=by
 have k:(xE.all λo=>(decide (o.length<=20)&&o.cps.all (· < 128))&&wl (Ls o))=true:=by decide +kernel
 have:=Ul.mp k o h;rw[Ua] at this;exact⟨GZ (J2 this.1) () this.2,J2 this.1⟩
def C7 {o:Str}(h:o∈zu):RK o 3/\TxtOk 60 o:=by
 have k:(zu.all λo=>(decide (o.length<=60)&&o.cps.all (· < 128))&&wl (Ls o))=true:=by decide +kernel
 have:=Ul.mp k o h;rw[Ua] at this;exact⟨GZ (J2 this.1) () this.2,J2 this.1⟩
def Sa {o:Str}(h:o∈xE):10∉Ls o:=λz=>by
 have k:(xE.all λo => !(Ls o).contains 10)=true:=by decide +kernel
 have:=Ul.mp k o h;rw[List.contains_iff_mem.mpr z] at this;cases this
def Ha {o:Str}(h:o∈zu):10∉Ls o:=λz=>by
 have k:(zu.all λo => !(Ls o).contains 10)=true:=by decide +kernel
 have:=Ul.mp k o h;rw[List.contains_iff_mem.mpr z] at this;cases this
def W0:FS:=(jg (jl 1 (dC .non)) (jg (ZF ["BadName", "BadPart", "BadPlan", "BadRow", "NoName", "TooLong"] 2 (Kx (ZD Ke (Jr (ja 0) jd))) (jl 1 (ja 2))) (jg (jH (Jw (jK (qD false) (ja 1))) (j3 (dC .non)) J6) (jg (jl 3 (qg (Jr (jr (Qf ["BadName", "BadPart", "BadPlan", "BadRow", "NoName", "TooLong"] ["BadRow", "NoName", "BadName", "BadPlan", "BadPart", "TooLong", "NoPlan", "TooMany", "Unlike"]) (Jr (ja 1) (Jr (dC (.ucl "BadRow")) jd))) (Jr (jr (Qf ["BadName", "BadPart", "BadPlan", "BadRow", "NoName", "TooLong"] ["BadRow", "NoName", "BadName", "BadPlan", "BadPart", "TooLong", "NoPlan", "TooMany", "Unlike"]) (Jr (ja 1) (Jr (dC (.ucl "NoName")) jd))) (Jr (jr (Qf ["BadName", "BadPart", "BadPlan", "BadRow", "NoName", "TooLong"] ["BadRow", "NoName", "BadName", "BadPlan", "BadPart", "TooLong", "NoPlan", "TooMany", "Unlike"]) (Jr (ja 1) (Jr (dC (.ucl "BadName")) jd))) jd))))) (jg (jl 3 (jf jk (ja 3) (qg (Jr (jr (Qf ["BadName", "BadPart", "BadPlan", "BadRow", "NoName", "TooLong"] ["BadRow", "NoName", "BadName", "BadPlan", "BadPart", "TooLong", "NoPlan", "TooMany", "Unlike"]) (Jr (ja 1) (Jr (dC (.ucl "BadPlan")) jd))) (Jr (jr (Qf ["BadName", "BadPart", "BadPlan", "BadRow", "NoName", "TooLong"] ["BadRow", "NoName", "BadName", "BadPlan", "BadPart", "TooLong", "NoPlan", "TooMany", "Unlike"]) (Jr (ja 1) (Jr (dC (.ucl "BadPart")) jd))) (Jr (jr (Qf ["BadName", "BadPart", "BadPlan", "BadRow", "NoName", "TooLong"] ["BadRow", "NoName", "BadName", "BadPlan", "BadPart", "TooLong", "NoPlan", "TooMany", "Unlike"]) (Jr (ja 1) (Jr (dC (.ucl "TooLong")) jd))) jd)))))) (jg (jl 3 (jf jk (ja 3) (qg (Jr (jr (Qf ["BadName", "BadPart", "BadPlan", "BadRow", "NoName", "TooLong"] ["BadRow", "NoName", "BadName", "BadPlan", "BadPart", "TooLong", "NoPlan", "TooMany", "Unlike"]) (Jr (ja 1) (Jr (dC (.ucl "NoPlan")) jd))) (Jr (jr (Qf ["BadName", "BadPart", "BadPlan", "BadRow", "NoName", "TooLong"] ["BadRow", "NoName", "BadName", "BadPlan", "BadPart", "TooLong", "NoPlan", "TooMany", "Unlike"]) (Jr (ja 1) (Jr (dC (.ucl "TooMany")) jd))) (Jr (jr (Qf ["BadName", "BadPart", "BadPlan", "BadRow", "NoName", "TooLong"] ["BadRow", "NoName", "BadName", "BadPlan", "BadPart", "TooLong", "NoPlan", "TooMany", "Unlike"]) (Jr (ja 1) (Jr (dC (.ucl "Unlike")) jd))) jd)))))) (jg (jl 4 (dC (.int 0))) (jg (jH (xH (Jw (jf jv (ja 3) (dC (.int 0)))) (Jw (jf jv (ja 3) (dC (.int 1))))) (jl 4 (jK (zD ["BadRow", "NoName"]) (ja 1))) J6) (jg (jH (xH (Q1 (Jw (jr (Qf ["BadName", "BadPart", "BadPlan", "BadRow", "NoName", "TooLong"] ["BadRow", "NoName", "BadName", "BadPlan", "BadPart", "TooLong", "NoPlan", "TooMany", "Unlike"]) (Jr (ja 1) (Jr (dC (.ty "ValueError")) jd))))) (xH (Q1 (Jw (jr j4 (Jr (ja 4) (Jr (dC (.ty "int")) jd))))) (Jw (jr j4 (Jr (ja 4) (Jr (dC (.ty "bool")) jd)))))) (jl 4 (jK qS (dC (.int 1)))) J6) (j3 (qf (Jr (ja 3) (Jr (ja 4) jd)))))))))))))
def Kf:Yt->Res D:=jB 5 1 W0
noncomputable abbrev yJ:Yh:=["BadName", "BadPart", "BadPlan", "BadRow", "NoName", "TooLong"]
noncomputable abbrev zo:Yh:=["BadRow", "NoName", "BadName", "BadPlan", "BadPart", "TooLong", "NoPlan", "TooMany", "Unlike"]
def Hb {A B:Yt}(h:A.length+B.length<=1000):jk (.lst A) (.lst B)=some (.lst (A++B)):=Zd (small h)
def Sb {x:Str}{d:D}(e:Ke [.str x]=.ok d):Kf [.str x]=.ok .non:=by
 simp[Kf,W0,e]
def Xb {x c:Str}{fs:Yt}{a:D}{b b1 d f g h i l m:Bool}{k:Int}(e:Ke [.str x]=.ex c fs)(p:c∈yJ)(q:(fs=[]/\a=.exc c/\b=false/\b1=false/\k=0)\/(fs=[.int k]/\a=.exr c k/\(b||b1)=true/\zD ["BadRow", "NoName"] a=some (.int k)))(s:Qf yJ zo [a,.ucl "BadRow"]=some (.bl b))(t:Qf yJ zo [a,.ucl "NoName"]=some (.bl b1))(u:Qf yJ zo [a,.ucl "BadName"]=some (.bl d))(v:Qf yJ zo [a,.ucl "BadPlan"]=some (.bl f))(w:Qf yJ zo [a,.ucl "BadPart"]=some (.bl g))(y:Qf yJ zo [a,.ucl "TooLong"]=some (.bl h))(z:Qf yJ zo [a,.ucl "NoPlan"]=some (.bl i))(A:Qf yJ zo [a,.ucl "TooMany"]=some (.bl l))(B:Qf yJ zo [a,.ucl "Unlike"]=some (.bl m))(C:Qf yJ zo [a,.ty "ValueError"]=some (.bl true)):
 Kf [.str x]=.ok (.tup [.lst [.bl b,.bl b1,.bl d,.bl f,.bl g,.bl h,.bl i,.bl l,.bl m],.int k]):=by
 have E:jk (.lst [.bl b,.bl b1,.bl d]) (.lst [.bl f,.bl g,.bl h])=some (.lst [.bl b,.bl b1,.bl d,.bl f,.bl g,.bl h]):=Hb ();have F:jk (.lst [.bl b,.bl b1,.bl d,.bl f,.bl g,.bl h]) (.lst [.bl i,.bl l,.bl m])=some (.lst [.bl b,.bl b1,.bl d,.bl f,.bl g,.bl h,.bl i,.bl l,.bl m]):=Hb ();have G:jR [D.bl b,.bl b1,.bl d,.bl f,.bl g,.bl h,.bl i,.bl l,.bl m] 0=some (.bl b):=qw _ _;have H:jR [D.bl b,.bl b1,.bl d,.bl f,.bl g,.bl h,.bl i,.bl l,.bl m] 1=some (.bl b1):=qV _ _ _;have n:qD false a=some (.bl false):=by rcases q with ⟨_,rfl,_⟩|⟨_,rfl,_⟩<;>rfl
 rcases q with ⟨rfl,rfl,rfl,rfl,rfl⟩|⟨rfl,rfl,I,J⟩
 .have r:=λj o sd=>Nv (cs:=yJ) (c:=c) j o sd p
  simp_all [Kf,W0]
 .have r:=λj o sd=>Nw (cs:=yJ) (c:=c) (n:=k) j o sd p;rcases b with _|_
  .rcases b1 with _|_
   .cases I
   .simp[Kf,W0,e,r,n,s,t,u,v,w,y,z,A,B,C,E,F,G,H,J]
  simp_all [Kf,W0]
def J9 {d:D}{c u:Str}{b:Bool}(h:xG d=some c)(a:c∈yJ)(e:u∈zo)(f:decide (c=u)=b):Qf yJ zo [d,.ucl u]=some (.bl b):=by rw[Pf h a e,f]
def Sc {x:Str}{m:Int}(e:Ke [.str x]=.ex "BadRow" [.int m]):Kf [.str x]=.ok (.tup [.lst [.bl true,.bl false,.bl false,.bl false,.bl false,.bl false,.bl false,.bl false,.bl false],.int m]):=
 Xb e () (.inr ⟨rfl,rfl,rfl,Ft ()⟩) (J9 rfl () () (by decide +kernel)) (J9 rfl () () (by decide +kernel)) (J9 rfl () () (by decide +kernel)) (J9 rfl () () (by decide +kernel)) (J9 rfl () () (by decide +kernel)) (J9 rfl () () (by decide +kernel)) (J9 rfl () () (by decide +kernel)) (J9 rfl () () (by decide +kernel)) (J9 rfl () () (by decide +kernel)) (WV rfl ())
def Sd {x:Str}{m:Int}(e:Ke [.str x]=.ex "NoName" [.int m]):Kf [.str x]=.ok (.tup [.lst [.bl false,.bl true,.bl false,.bl false,.bl false,.bl false,.bl false,.bl false,.bl false],.int m]):=
 Xb e () (.inr ⟨rfl,rfl,rfl,Ft ()⟩) (J9 rfl () () (by decide +kernel)) (J9 rfl () () (by decide +kernel)) (J9 rfl () () (by decide +kernel)) (J9 rfl () () (by decide +kernel)) (J9 rfl () () (by decide +kernel)) (J9 rfl () () (by decide +kernel)) (J9 rfl () () (by decide +kernel)) (J9 rfl () () (by decide +kernel)) (J9 rfl () () (by decide +kernel)) (WV rfl ())
def kE {x c:Str}(a:c∈w6)(e:Ke [.str x]=.ex c []):∃r:Yt,Kf [.str x]=.ok (.tup [.lst (.bl false::r),.int 0]):=by
 have h:=a;unfold w6 at h;simp[Uj,Uk] at h;rcases h with rfl|rfl|rfl|rfl
 .exact⟨_,Xb e () (.inl ⟨rfl,rfl,rfl,rfl,rfl⟩) (J9 rfl () () (by decide +kernel)) (J9 rfl () () (by decide +kernel)) (J9 rfl () () rfl) (J9 rfl () () rfl) (J9 rfl () () rfl) (J9 rfl () () rfl) (J9 rfl () () rfl) (J9 rfl () () rfl) (J9 rfl () () rfl) (WV rfl ())⟩
 .exact⟨_,Xb e () (.inl ⟨rfl,rfl,rfl,rfl,rfl⟩) (J9 rfl () () (by decide +kernel)) (J9 rfl () () (by decide +kernel)) (J9 rfl () () rfl) (J9 rfl () () rfl) (J9 rfl () () rfl) (J9 rfl () () rfl) (J9 rfl () () rfl) (J9 rfl () () rfl) (J9 rfl () () rfl) (WV rfl ())⟩
 .exact⟨_,Xb e () (.inl ⟨rfl,rfl,rfl,rfl,rfl⟩) (J9 rfl () () (by decide +kernel)) (J9 rfl () () (by decide +kernel)) (J9 rfl () () rfl) (J9 rfl () () rfl) (J9 rfl () () rfl) (J9 rfl () () rfl) (J9 rfl () () rfl) (J9 rfl () () rfl) (J9 rfl () () rfl) (WV rfl ())⟩
 .exact⟨_,Xb e () (.inl ⟨rfl,rfl,rfl,rfl,rfl⟩) (J9 rfl () () (by decide +kernel)) (J9 rfl () () (by decide +kernel)) (J9 rfl () () rfl) (J9 rfl () () rfl) (J9 rfl () () rfl) (J9 rfl () () rfl) (J9 rfl () () rfl) (J9 rfl () () rfl) (J9 rfl () () rfl) (WV rfl ())⟩
def Ay:FS:=(jg (jl 2 (jr wu (Jr (jf jk (dC (.int 1)) (jf jD (jf JW (ja 0) (dC (.int 18))) (jf yY (jf yy (dC (.int 10)) (dC (.int 30))) (dC (.int 1))))) jd))) (j3 (jf jk (jf jv (ja 1) (jf jD (ja 0) (dC (.int 6)))) (jf jv (qg (Jr (dC (.str "")) (Jr (jf jk (dC (.str "+")) (ja 2)) (Jr (jf jk (dC (.str "-")) (ja 2)) jd)))) (jf jD (jf JW (ja 0) (dC (.int 6))) (dC (.int 3)))))))
def Xc:Yt->Res D:=jB 3 2 Ay
structure Ws6 (ws:Yh):Prop where
 len:ws.length=6
 nm:∀w∈ws,jA w
def jO (ws:Yh)(k:Int):Str:=ws.getD (k % 6).toNat ""
def Ws6.at {ws:Yh}(h:Ws6 ws)(k:Int):jR (ws.map D.str) (k % 6)=some (.str (jO ws k))/\jA (jO ws k):=by
 have l:(k % 6).toNat<ws.length:=by rw[h.len];lia
 have e:ws[(k % 6).toNat]? = some (jO ws k):=by
  simp_all [jO]
 refine⟨zI () (by rw[Zv,e];rfl),h.nm _ (Uh e)⟩
def JP (c:Int):Int:=1+c / 18 % 999999999999999999999999999999
def Hc (c:Int):1<=JP c/\JP c<1000000000000000000000000000000:=by unfold JP;lia
def Vo (ws:Yh)(c:Int):Str×Int:=(jO ws c,if c / 6 % 3=0 then 0 else if c / 6 % 3=1 then JP c else -JP c)
theorem Se {ws:Yh}(h:Ws6 ws)(c:Int):xM (Vo ws c):=by
 have:=Hc c;refine⟨(h.at c).2,?_,?_⟩
 .show _<(if c / 6 % 3=0 then 0 else if c / 6 % 3=1 then JP c else -JP c)
  split
  .omega
  .split<;>lia
 .show(if c / 6 % 3=0 then 0 else if c / 6 % 3=1 then JP c else -JP c)<_
  split
  .omega
  .split<;>lia
def bt {ws:Yh}(h:Ws6 ws)(c:Int):Xc [.int c,.lst (ws.map .str)]=.ok (.str (jC (Vo ws c))):=by
 have p:yy (.int 10) (.int 30)=some (.int 1000000000000000000000000000000):=rfl;obtain⟨i,j⟩:=Hc c;have l:wu [.int (JP c)]=some (.str (jz (JP c))):=Zd (Uz.mpr (Zz (UB (PD () ()) ())));have o:jD (.int (c / 18)) (.int 999999999999999999999999999999)=some (.int (c / 18 % 999999999999999999999999999999)):=M6 ();have r:(1:Int)+c / 18 % 999999999999999999999999999999=JP c:=rfl;have ok:=BY (n:=JP c) () ();have s:jk (.str "+") (.str (jz (JP c)))=some (.str ("+" ++ jz (JP c))):=Qi (J2 (n:=1) (by decide +kernel)) ok ();have t:jk (.str "-") (.str (jz (JP c)))=some (.str ("-" ++ jz (JP c))):=Qi (J2 (n:=1) (by decide +kernel)) ok ();have u:=(h.at c).1;have d:=(h.at c).2.1;have f:TxtOk 32 ("+" ++ jz (JP c)):=(J2 (n:=1) (x:= "+") (by decide +kernel)).app ok;have g:TxtOk 32 ("-" ++ jz (JP c)):=(J2 (n:=1) (x:= "-") (by decide +kernel)).app ok;obtain⟨m,hm⟩:∃m:Nat,JP c=((m+1:Nat):Int):=⟨(JP c).toNat-1,()⟩;have neg:jz (-JP c) = "-" ++ jz (JP c):=by rw[hm];exact WX m
 have b:c / 6 % 3=0\/c / 6 % 3=1\/c / 6 % 3=2:=()
 have a:∀(x:Str),TxtOk 32 x->jR [D.str "",.str ("+" ++ jz (JP c)),.str ("-" ++ jz (JP c))] (c / 6 % 3)=some (.str x)->jO ws c++x=jC (Vo ws c)->Xc [.int c,.lst (ws.map .str)]=.ok (.str (jC (Vo ws c))):=λx hx e v=>by
  have w:jk (.str (jO ws c)) (.str x)=some (.str (jO ws c++x)):=Qi d hx ()
  simp_all [Xc,Ay]
 rcases b with q|q|q
 .refine a "" (J2 (by decide +kernel)) (by rw[q];rfl) ?_;unfold jC yR Vo;rw[q];exact rfl
 .refine a _ f (by rw[q];rfl) ?_;have e:Vo ws c=(jO ws c,JP c):=by unfold Vo;rw[q];rfl
  rw[e];show _=if JP c=0 then jO ws c else if 0<JP c then jO ws c ++ "+" ++ jz (JP c) else jO ws c++jz (JP c)
  rw[Ze (),Zd ()];exact JF (by simp only[J0,Ub])
 .refine a _ g (by rw[q];rfl) ?_;have e:Vo ws c=(jO ws c,-JP c):=by unfold Vo;rw[q];rfl
  rw[e];show _=if -JP c=0 then jO ws c else if 0 < -JP c then jO ws c ++ "+" ++ jz (-JP c) else jO ws c++jz (-JP c)
  rw[Ze (),Ze (),neg]
def Xd:FS:=(jg (jH (Jw (jf jZ (ja 0) (dC (.int 0)))) (j3 (jf jk (dC (.str "plan ")) (jf jv (ja 2) (jf jD (ja 1) (dC (.int 6)))))) J6) (jg (jH (Jw (jf jZ (ja 0) (dC (.int 1)))) (j3 (jf jk (dC (.str " given ")) (jf jv (ja 2) (jf jD (ja 1) (dC (.int 6)))))) J6) (jg (jl 3 (Q3 [none,some 1,some 2] (v3 (Jr (jf jk (dC (.int 1)) (jf jD (jf JW (ja 1) (dC (.int 3))) (dC (.int 3)))) jd)) (.one 0) (J1 Xc (Jr (jf jk (jf JW (ja 1) (jf jk (dC (.int 2)) (jf qu (dC (.int 5)) (ja 0)))) (jf qu (dC (.int 7)) (ja 0))) (Jr (ja 2) jd))))) (jg (jl 4 (jf jv (qg (Jr (dC (.str "all")) (Jr (dC (.str "first")) (Jr (jf jk (dC (.str "part ")) (jf jv (ja 2) (jf jD (jf JW (ja 1) (dC (.int 9))) (dC (.int 6))))) jd)))) (jf jD (ja 1) (dC (.int 3))))) (j3 (jf jk (jf jk (jf jk (jf jk (jf jk (dC (.str " ")) (jf jv (ja 2) (jf jD (jf JW (ja 1) (dC (.int 2))) (dC (.int 6))))) (dC (.str " "))) (ja 4)) (dC (.str " "))) (j7 WT (dC (.str ", ")) (ja 3))))))))
def Kn:Yt->Res D:=jB 5 3 Xd
def q9 (ws:Yh)(c:Int):Str:=if c % 3=0 then "all" else if c % 3=1 then "first" else jO ws (c / 9)
def jU (ws:Yh)(c:Int):List (Str×Int):=(List.range (1+c / 3 % 3).toNat).map λk:Nat=>Vo ws (c / (2+5*(k:Int))+7*(k:Int))
def C8 (ws:Yh)(c:Int):1<=(jU ws c).length/\(jU ws c).length<=3:=by
 unfold jU;rw[Zql,ZB];lia
def JQ (ws:Yh)(f c:Int):Str:=if f=0 then "plan " ++ jO ws c else if f=1 then " given " ++ jO ws c else qd (jO ws (c / 2)) (q9 ws c) (jU ws c)
def Xe {ws:Yh}(h:Ws6 ws)(c:Int):Y6 (q9 ws c):=by
 unfold q9
 split
 .exact .inl rfl
 .split
  .exact .inr (.inl rfl)
  .exact .inr (.inr (h.at _).2)
def Az {ws:Yh}(h:Ws6 ws)(c:Int):RowR (jO ws (c / 2)) (q9 ws c) (jU ws c):=⟨(h.at _).2,Xe h c,λi a=>by
 grind[jU,Se],(C8 ws c).1⟩
def Hd {d:List (Str×Int)}(h:∀i∈d,xM i)(l:d.length<=3):TxtOk 136 (Txt.join ", " (d.map jC)):=by
 have e:TxtOk 2 (", " : Str):=J2 (by decide +kernel)
 match d,h,l with
 | [],_,_=>exact J2 (by decide +kernel)
 | [a],h,_=>exact(Vx (h a ())).mono ()
 | [a,b],h,_=>exact(((Vx (h a ())).app e).app (Vx (h b ()))).mono ()
 | [a,b,c],h,_=>rw[Zl,Zl,Zl,UJ,QP,QP,QQ];exact(((Vx (h a ())).app e).app (((Vx (h b ())).app e).app (Vx (h c ())))).mono ()
def C9 {ws:Yh}(h:Ws6 ws)(c:Int):TxtOk 17 (jE (q9 ws c)):=by
 rcases Xe h c with e|e|e
 .rw[e];exact J2 (by decide +kernel)
 .rw[e];exact J2 (by decide +kernel)
 .unfold jE
  split
  .exact e.1.mono ()
  .exact(J2 (by decide +kernel)).app e.1
def He {ws:Yh}(h:Ws6 ws){f:Int}(t:f=0\/f=1\/f=2)(c:Int):Kn [.int f,.int c,.lst (ws.map .str)]=.ok (.str (JQ ws f c)):=by
 have L:=(h.at c).1;have k0:=(h.at c).2.1;rcases t with rfl|rfl|rfl
 .have g:=Qi (J2 (n:=5) (x:= "plan ") (by decide +kernel)) k0 ()
  simp_all [Kn,Xd,JQ]
 .have g:=Qi (J2 (n:=7) (x:= " given ") (by decide +kernel)) k0 ()
  simp_all [Kn,Xd,JQ]
 .have u:=(h.at (c / 2)).1;have v:=(h.at (c / 9)).1;have w:WL [.int (1+c / 3 % 3)]=.ok (Qy 0 (1+c / 3 % 3).toNat):=Bn () ();have j:qm (.one 0) (J1 Xc (Jr (jf jk (jf JW (ja 1) (jf jk (dC (.int 2)) (jf qu (dC (.int 5)) (ja 0)))) (jf qu (dC (.int 7)) (ja 0))) (Jr (ja 2) jd))) [none,~~~(.int c),~~~(.lst (ws.map .str))] (Qy 0 (1+c / 3 % 3).toNat)=.ok ((jU ws c).map λi=>.str (jC i)):=by
   unfold jU;rw[Zw];refine MB λi M=>?_;have l:qu (.int 5) (.int (0+(i:Int)))=some (.int (5*(i:Int))):=by rw[Int.zero_add];exact rfl
   have m:qu (.int 7) (.int (0+(i:Int)))=some (.int (7*(i:Int))):=by rw[Int.zero_add];exact rfl
   have d:JW (.int c) (.int (2+5*(i:Int)))=some (.int (c / (2+5*(i:Int)))):=M7 () ();have f:=bt h (c / (2+5*(i:Int))+7*(i:Int));generalize ws.map D.str=W at *;simp only[Int.zero_add] at l m;simp[l,m,d,f]
  have N:=C8 ws c;have y:(Qy 0 (1+c / 3 % 3).toNat).length<sizeLine:=Qr (by rw[Em];lia);have R:=Az h c;have o:=Hd R.is ();have A:JoinOk ", " ((jU ws c).map jC)=true:=Aq (by
   have a:=Wx ", " ((jU ws c).map jC);have b:=o.len;have B:(", " : Str).length=2:=by decide +kernel
   rw[B] at a ⊢;lia)
  have e:=Ac A;rw[Zw] at e;have e:WT ", " (.lst ((jU ws c).map λi=>.str (jC i)))=some (.str (Txt.join ", " ((jU ws c).map jC))):=e;have C:=Qi (J2 (n:=5) (x:= "part ") (by decide +kernel)) (h.at (c / 9)).2.1 ();have hw:jR [D.str "all",.str "first",.str ("part " ++ jO ws (c / 9))] (c % 3)=some (.str (jE (q9 ws c))):=by
   have:c % 3=0\/c % 3=1\/c % 3=2:=()
   unfold q9;rcases this with q|q|q<;>rw[q]
   .rfl
   .rfl
   .rw[Ze (by decide),Ze (by decide)];unfold jE;rw[Ze (λz=>by have:=(h.at (c / 9)).2.ne;rcases z with z|z;exact this.2.1 z;exact this.2.2 z)];rfl
  have sp:TxtOk 1 (" " : Str):=J2 (by decide +kernel);have E:=Qi sp (h.at (c / 2)).2.1 ();have p:=sp.app (h.at (c / 2)).2.1;have F:=Qi p sp ();have r:=p.app sp;have G:=Qi r (C9 h c) ();have s:=r.app (C9 h c);have H:=Qi s sp ();have I:=s.app sp;have J:=Qi I o ();have K:JQ ws 2 c = " " ++ jO ws (c / 2) ++ " " ++ jE (q9 ws c) ++ " " ++ Txt.join ", " ((jU ws c).map jC):=rfl;rw[K];simp[Kn,Xd,u,v,w,j,y,j7,e,C,hw,E,F,G,H,J]
def Y7 {ws:Yh}(h:Ws6 ws){f:Int}(a:f=0\/f=1\/f=2)(c:Int):TxtOk 170 (JQ ws f c)/\RK (JQ ws f c) f.toNat:=by
 rcases a with rfl|rfl|rfl
 .exact⟨((J2 (n:=5) (by decide +kernel)).app (h.at c).2.1).mono (),.p (h.at c).2 rfl⟩
 .exact⟨((J2 (n:=7) (by decide +kernel)).app (h.at c).2.1).mono (),.g (h.at c).2 rfl⟩
 .have R:=Az h c;have l:=C8 ws c;have sp:TxtOk 1 (" " : Str):=J2 (by decide +kernel);exact⟨(((((sp.app R.nm.1).app sp).app (C9 h c)).app sp).app (Hd R.is ())).mono (),.m R rfl (b4 R ())⟩
def QR {c:Nat}{a b:Str}(d:c∉a.cps.toList)(e:c∉b.cps.toList):c∉(a++b).cps.toList:=by
 rw[J0];exact λz=>(Jc.mp z).elim d e
theorem Hf {c:Nat}{s:Str}(a:c∉s.cps.toList):∀l:Yh,(∀x∈l,c∉x.cps.toList)->c∉(Txt.join s l).cps.toList
 | [],_=>λz=>nomatch z
 | [x],h=>by rw[QQ];exact()
 |x::y::r,h=>by
  rw[QP];exact QR (QR () a) (Hf a (y::r) ())
def Sf {n how:Str}{a:List (Str×Int)}(R:RowR n how a):10∉(qd n how a).cps.toList:=by
 have sp:(10:Nat)∉(" " : Str).cps.toList:=by decide +kernel
 have hw:10∉(jE how).cps.toList:=by
  unfold jE
  split
  .rename_i h;rcases h with rfl|rfl<;>decide +kernel
  .refine QR (by decide +kernel) ?_;rcases R.hw with z|z|z
   .simp_all
   .simp_all
   .exact Kr z (by decide)
 refine QR (QR (QR (QR (QR sp (Kr R.nm (by decide))) sp) hw) sp) (Hf (by decide +kernel) _ λx hx=>?_);obtain⟨i,b,rfl⟩:=Ja.mp hx;exact Y1 (R.is i b) (by decide) () ()
def Y8 {ws:Yh}(h:Ws6 ws){f:Int}(a:f=0\/f=1\/f=2)(c:Int):10∉Ls (JQ ws f c):=by
 rcases a with rfl|rfl|rfl
 .exact QR (by decide +kernel) (Kr (h.at c).2 (by decide))
 .exact QR (by decide +kernel) (Kr (h.at c).2 (by decide))
 .exact Sf (Az h c)
def CA:FS:=(jg (jl 1 (dC (.str "plan|plan a b|plan all|plan A|plan 1a|plan a-b|plan abcdefghijklm|Plan a|given a|plans a"))) (jg (jl 1 (jf jk (ja 1) (dC (.str "| given| given a b| given part| given 1| a| a all| a all b,c| a all b , c")))) (jg (jl 1 (jf jk (ja 1) (dC (.str "| a all b,  c| a all b,| a all b, | a all , b| a all b c| a first| a part| a part p")))) (jg (jl 1 (jf jk (ja 1) (dC (.str "| a part all b| a part p b,| a any b| a all b+0| a all b-0| a all b+01| a all b+")))) (jg (jl 1 (jf jk (ja 1) (dC (.str "| a all b-| a all b+-1| a all b+1_0| a all b +1| a all b+1+1| a all 1| a all +1")))) (jg (jl 1 (jf jk (ja 1) (dC (.str "| a all b--1| all all b| first all b| a All b| a all all|all| plan a| A all b")))) (jg (jl 1 (jf jk (ja 1) (dC (.str "| a all b;c| a part p, b| a part P b| a all b+1, c-| a all b+x| a all b1+ 1")))) (jg (jl 2 (j7 QZ (ja 1) (dC (.str "|")))) (j3 (jf jv (ja 2) (jf jD (ja 0) (jr j6 (Jr (ja 2) jd)))))))))))))
def CB:Yt->Res D:=jB 3 1 CA
theorem CC (s:Str):∀(a:Str) (A:Yh) (b:Str) (B:Yh),Txt.join s ((a::A)++(b::B))=Txt.join s (a::A)++(s++Txt.join s (b::B))
 |a,[],b,B=>by
  rw[UQ,List.nil_append,QP,QQ];exact JF (by simp[J0])
 |a,c::A,b,B=>by
  rw[UQ,UQ,QP,<- UQ,CC s c A b B,QP];exact JF (by simp[J0])
noncomputable def dk:Yh:=List.map Str.ofString ["plan", "plan a b", "plan all", "plan A", "plan 1a", "plan a-b", "plan abcdefghijklm", "Plan a", "given a", "plans a"]
noncomputable def nI:Yh:=List.map Str.ofString [" given", " given a b", " given part", " given 1", " a", " a all", " a all b,c", " a all b , c"]
noncomputable def nH:Yh:=List.map Str.ofString [" a all b,  c", " a all b,", " a all b, ", " a all , b", " a all b c", " a first", " a part", " a part p"]
noncomputable def nG:Yh:=List.map Str.ofString [" a part all b", " a part p b,", " a any b", " a all b+0", " a all b-0", " a all b+01", " a all b+"]
noncomputable def nF:Yh:=List.map Str.ofString [" a all b-", " a all b+-1", " a all b+1_0", " a all b +1", " a all b+1+1", " a all 1", " a all +1"]
noncomputable def nE:Yh:=List.map Str.ofString [" a all b--1", " all all b", " first all b", " a All b", " a all all", "all", " plan a", " A all b"]
noncomputable def dj:Yh:=List.map Str.ofString [" a all b;c", " a part p, b", " a part P b", " a all b+1, c-", " a all b+x", " a all b1+ 1"]
def nJ:Str:= "plan|plan a b|plan all|plan A|plan 1a|plan a-b|plan abcdefghijklm|Plan a|given a|plans a"
def gN:Str:=nJ ++ "| given| given a b| given part| given 1| a| a all| a all b,c| a all b , c"
def gM:Str:=gN ++ "| a all b,  c| a all b,| a all b, | a all , b| a all b c| a first| a part| a part p"
def gL:Str:=gM ++ "| a part all b| a part p b,| a any b| a all b+0| a all b-0| a all b+01| a all b+"
def gK:Str:=gL ++ "| a all b-| a all b+-1| a all b+1_0| a all b +1| a all b+1+1| a all 1| a all +1"
def gJ:Str:=gK ++ "| a all b--1| all all b| first all b| a All b| a all all|all| plan a| A all b"
def vQ:Str:=gJ ++ "| a all b;c| a part p, b| a part P b| a all b+1, c-| a all b+x| a all b1+ 1"
def Sg:xE=dk++(nI++(nH++(nG++(nF++(nE++dj))))):=rfl
def lb:nJ=Txt.join "|" dk:=JF (by decide +kernel)
def la:("| given| given a b| given part| given 1| a| a all| a all b,c| a all b , c" : Str) = "|" ++ Txt.join "|" nI:=JF (by decide +kernel)
def pZ:("| a all b,  c| a all b,| a all b, | a all , b| a all b c| a first| a part| a part p" : Str) = "|" ++ Txt.join "|" nH:=JF (by decide +kernel)
def pY:("| a part all b| a part p b,| a any b| a all b+0| a all b-0| a all b+01| a all b+" : Str) = "|" ++ Txt.join "|" nG:=JF (by decide +kernel)
def pX:("| a all b-| a all b+-1| a all b+1_0| a all b +1| a all b+1+1| a all 1| a all +1" : Str) = "|" ++ Txt.join "|" nF:=JF (by decide +kernel)
def pW:("| a all b--1| all all b| first all b| a All b| a all all|all| plan a| A all b" : Str) = "|" ++ Txt.join "|" nE:=JF (by decide +kernel)
def pV:("| a all b;c| a part p, b| a part P b| a all b+1, c-| a all b+x| a all b1+ 1" : Str) = "|" ++ Txt.join "|" dj:=JF (by decide +kernel)
def Sh:vQ=Txt.join "|" xE:=by
 have e:∀{A B:Yh},A ≠ []->B ≠ []->Txt.join "|" (A++B)=Txt.join "|" A++("|" ++ Txt.join "|" B):=λ{A B} c d=>by
  cases A with
  |nil=>exact Zn rfl c
  |cons a A =>
   cases B with
   |nil=>exact Zn rfl d
   |cons b B=>exact CC "|" a A b B
 rw[Sg,e (by simp[dk]) (by simp[nI]),e (by simp[nI]) (by simp[nH]),e (by simp[nH]) (by simp[nG]),e (by simp[nG]) (by simp[nF]),e (by simp[nF]) (by simp[nE]),e (by simp[nE]) (by simp[dj])];unfold vQ gJ gK gL gM gN;rw[lb,la,pZ,pY,pX,pW,pV];exact JF (by simp[J0])
def Si:Txt.split vQ "|" = xE:=by
 have f:(xE.all λp => !(p.cps.toList.contains 124))=true:=by decide +kernel
 rw[Sh];refine Vw rfl (by decide +kernel) λp a z=>?_;have:=Ul.mp f p a
 simp_all
def gH:TxtOk 88 nJ:=J2 (by decide +kernel)
def gG:TxtOk 161 gN:=gH.app (J2 (n:=73) (by decide +kernel))
def gF:TxtOk 244 gM:=gG.app (J2 (n:=83) (by decide +kernel))
def gE:TxtOk 324 gL:=gF.app (J2 (n:=80) (by decide +kernel))
def gD:TxtOk 403 gK:=gE.app (J2 (n:=79) (by decide +kernel))
def gC:TxtOk 480 gJ:=gD.app (J2 (n:=77) (by decide +kernel))
def dn:TxtOk 555 vQ:=gC.app (J2 (n:=75) (by decide +kernel))
def Sj {a b d f g h i j l m n p q o:Str}{c:Int}{L:Yt}(r:jk (.str a) (.str j)=some (.str b))(s:jk (.str b) (.str l)=some (.str d))(t:jk (.str d) (.str m)=some (.str f))(u:jk (.str f) (.str n)=some (.str g))(v:jk (.str g) (.str p)=some (.str h))(w:jk (.str h) (.str q)=some (.str i))(x:QZ i (.str "|")=some (.lst L))(y:L.length=54)(e:jR L (c % 54)=some (.str o)):
 jB 3 1 (jg (jl 1 (dC (D.str a))) (jg (jl 1 (jf jk (ja 1) (dC (D.str j)))) (jg (jl 1 (jf jk (ja 1) (dC (D.str l)))) (jg (jl 1 (jf jk (ja 1) (dC (D.str m)))) (jg (jl 1 (jf jk (ja 1) (dC (D.str n)))) (jg (jl 1 (jf jk (ja 1) (dC (D.str p)))) (jg (jl 1 (jf jk (ja 1) (dC (D.str q)))) (jg (jl 2 (j7 QZ (ja 1) (dC (D.str (Str.ofString "|"))))) (j3 (jf jv (ja 2) (jf jD (ja 0) (jr j6 (Jr (ja 2) jd))))))))))))) [D.int c]=Res.ok (D.str o):=by
 simp_all [j7]
def br (c:Int):∃o∈xE,CB [.int c]=.ok (.str o):=by
 have b:jk (.str nJ) (.str "| given| given a b| given part| given 1| a| a all| a all b,c| a all b , c")=some (.str gN):=Qi gH (J2 (n:=73) (by decide +kernel)) ();have d:jk (.str gN) (.str "| a all b,  c| a all b,| a all b, | a all , b| a all b c| a first| a part| a part p")=some (.str gM):=Qi gG (J2 (n:=83) (by decide +kernel)) ();have f:jk (.str gM) (.str "| a part all b| a part p b,| a any b| a all b+0| a all b-0| a all b+01| a all b+")=some (.str gL):=Qi gF (J2 (n:=80) (by decide +kernel)) ();have g:jk (.str gL) (.str "| a all b-| a all b+-1| a all b+1_0| a all b +1| a all b+1+1| a all 1| a all +1")=some (.str gK):=Qi gE (J2 (n:=79) (by decide +kernel)) ();have h:jk (.str gK) (.str "| a all b--1| all all b| first all b| a All b| a all all|all| plan a| A all b")=some (.str gJ):=Qi gD (J2 (n:=77) (by decide +kernel)) ();have i:jk (.str gJ) (.str "| a all b;c| a part p, b| a part P b| a all b+1, c-| a all b+x| a all b1+ 1")=some (.str vQ):=Qi gC (J2 (n:=75) (by decide +kernel)) ();have j:QZ vQ (.str "|")=some (.lst (xE.map .str)):=by
  rw[KM dn () (by decide +kernel),Si]
 have a:(xE.map D.str).length=54:=by rfl
 obtain⟨x,hx,e⟩:=Fz (k:=c % 54) () (by rw[a];lia);obtain⟨o,l,rfl⟩:=Ja.mp hx;refine⟨o,l,?_⟩;exact Sj b d f g h i j a e
def CD:FS:=(jg (jl 2 (j7 XL (ja 0) (dC (.str " ")))) (jg (jl 3 (jf jk (dC (.str "1")) (jf WW (dC (.str "0")) (dC (.int 30))))) (jg (jl 4 (qg (Jr (J1 CB (Jr (jf JW (ja 1) (dC (.int 8))) jd)) (Jr (jf jk (ja 0) (dC (.str " "))) (Jr (jf jk (ja 0) (dC (.str " x9"))) (Jr (jf jk (jf jk (xY (ja 0) Ki (K4 (ja 2))) (dC (.str " "))) (xY (ja 0) (K4 (ja 2)) Ki)) (Jr (dC (.str "")) (Jr (dC (.str " ")) jd)))))))) (jg (jl 4 (jf jk (ja 4) (qg (Jr (jf jk (dC (.str " x9 all x9+")) (ja 3)) (Jr (jf jk (dC (.str " x9 first x9, x9-")) (ja 3)) jd))))) (j3 (jf jv (ja 4) (jf jD (ja 1) (dC (.int 8)))))))))
def Xf:Yt->Res D:=jB 5 2 CD
theorem Hg:∀l:Yg,32∉l\/∃a b,l=a++32::b/\32∉b
 | []=>.inl ()
 |c::r=>by
  rcases Hg r with h|⟨a,b,rfl,h⟩
  .by_cases q:c=32
   .exact .inr ⟨[],r,by rw[q];rfl,h⟩
   .exact .inl λz=>(Uj.mp z).elim (λz=>q z.symm) h
  .exact .inr ⟨c::a,b,rfl,h⟩
theorem CF (c:Nat->Prop)[DecidablePred c]:∀(l:Yg) (x:Option Nat),(forIn (m:=Id) l x λi s=>if c i then pure (ForInStep.yield (some i)) else pure (ForInStep.yield s))=l.foldl (λs i=>if c i then some i else s) x
 | [],x=>rfl
 |i::l,x=>by
  rw[List.forIn_cons,Uy];by_cases h:c i
  .rw[Zd h,Zd h];exact CF c l (some i)
  .rw[Ze h,Ze h];exact CF c l x
theorem Hh {c:Nat->Prop}[DecidablePred c]:∀{l:Yg} (x:Option Nat),(∀i∈l,¬c i)->l.foldl (λs i=>if c i then some i else s) x=x
 | [],x,_=>rfl
 |i::l,x,h=>by
  rw[Uy,Ze (h i Zqs)];exact Hh x λj a=>h j (Zqm _ a)
def Sk {x:Str}{a b:Yg}(e:Ls x=a++32::b)(p:32∉b):XL x (.str " ")=some (.int a.length):=by
 have len:x.length=a.length+(b.length+1):=by
  have:x.length=(Ls x).length:=Array.length_toList.symm
  simp_all
 have c:Builtin.Str.lastOccurrence x " " 0 x.length=some a.length:=by
  unfold Builtin.Str.lastOccurrence;simp only[Std.Legacy.Range.forIn_eq_forIn_range',Std.Legacy.Range.size,Id.run];simp;have sp:(" " : Str).length=1:=by decide +kernel
  have d:∀i,i+1<=x.length->Builtin.Str.subAt x " " i=true->(Ls x)[i]? = some 32:=λi l h=>by
   rw[StrLaws.subAt_eq,sp,Yl] at h;have f:((Ls x).drop i).take 1=[32]:=h;have:=Zt (·[0]?) f;simpa using this
  have r:List.range' 0 (x.length+1)=List.range' 0 a.length++a.length::List.range' (a.length+1) (b.length+1):=by
   have q:=List.range'_append_1 (s:=0) (m:=a.length) (n:=b.length+1+1);rw[UK] at q;rw[<- List.range'_succ,q,len]
   congr 1
  rw[r];refine(CF (λi=>i+(" " : Str).length<=x.length/\Builtin.Str.subAt x " " i=true) _ none).trans ?_;rw[UY,Uy,Zd ⟨by rw[sp];lia,by
   rw[StrLaws.subAt_eq,sp,Yl];show((Ls x).drop a.length).take 1=[32];rw[e,List.drop_left];rfl⟩]
  refine Hh _ λi l=>?_;rw[List.mem_range'_1] at l;rintro⟨o,f⟩;rw[sp] at o;have g:=d i o f;rw[e,U2 ()] at g;have ⟨j,hj⟩:∃j,i-a.length=j+1:=⟨i-a.length-1,()⟩;rw[hj,List.getElem?_cons_succ] at g;exact p (Uh g)
 show some (D.int (match Builtin.Str.lastOccurrence x " " 0 x.length with|some i=>(i:Int)|none => -1))=_;rw[c]
def Sl (a b:Str):Txt.slice (a++b) none (some (a.length:Int))=a:=by
 have l:(a++b).cps.toList.length=a.length+b.length:=JS a b;have e:Txt.slice (a++b) none (some (a.length:Int))=StrLaws.sliceText (a++b) none (some (a.length:Int)):=rfl;rw[e,StrLaws.sliceText_to ()];apply JF;rw[J0];exact List.take_left' Uc
def dm (l:Yg):Str:=⟨l.toArray⟩
def Sm {ws:Yh}(h:Ws6 ws){f:Int}(s:f=0\/f=1\/f=2)(d:Int):∃a b:Str,JQ ws f d=a++(" " ++ b)/\32∉Ls b/\RK (a ++ " " ++ (" " ++ b)) 3/\RK (JQ ws f d ++ " ") 3/\RK (JQ ws f d ++ " x9") 3:=by
 have ok:=(Y7 h s d).1;have i:TxtOk 171 (JQ ws f d ++ " "):=ok.app (J2 (n:=1) (x:= " ") (by decide +kernel));have j:TxtOk 173 (JQ ws f d ++ " x9"):=ok.app (J2 (n:=3) (x:= " x9") (by decide +kernel));have m:∀a b:Str,JQ ws f d=a++(" " ++ b)->TxtOk 171 (a ++ " " ++ (" " ++ b)):=λa b e=>by
  rw[e] at ok;refine⟨?_,xu.mpr λc o=>?_⟩
  .have:=ok.len;simp only[JS] at this ⊢;have:(" " : Str).length=1:=by decide +kernel
   lia
  .refine xu.mp ok.asc c ?_
   simp_all [J0,List.mem_append]
 have p:∀x:Str,Ls (x ++ " ")=Ls x++32::[]:=λx=>by unfold Ls;rw[J0];rfl
 have r:∀x:Str,Ls (x ++ " x9")=Ls x++32::[120,57]:=λx=>by unfold Ls;rw[J0];rfl
 have y:=(h.at d).2;have t:=K9 y;rcases s with rfl|rfl|rfl
 .have g:JQ ws 0 d = "plan " ++ jO ws d:=rfl;rw[g] at i j m ⊢;refine⟨"plan",jO ws d,JF (by simp only[J0,<- Ub];rfl),t,?_,?_,?_⟩
  .have e:("plan" : Str) ++ " " ++ (" " ++ jO ws d) = "plan " ++ (" " ++ jO ws d):=rfl;rw[e];exact C2 (N:=171) (by rw[<- e];exact m _ _ (JF (by simp only[J0,<- Ub];rfl))) () (Xa (by unfold Ls;rw[J0];exact Uo _ (by decide)))
  .have e:("plan " : Str)++jO ws d ++ " " = "plan " ++ (jO ws d ++ " "):=JF (by simp only[J0,Ub]);rw[e] at i ⊢;exact C2 i () (Xa (by rw[p];simp))
  .have e:("plan " : Str)++jO ws d ++ " x9" = "plan " ++ (jO ws d ++ " x9"):=JF (by simp only[J0,Ub]);rw[e] at j ⊢;exact C2 j () (Xa (by rw[r];simp))
 .have g:JQ ws 1 d = " given " ++ jO ws d:=rfl;rw[g] at i j m ⊢;refine⟨" given",jO ws d,JF (by simp only[J0,<- Ub];rfl),t,?_,?_,?_⟩
  .have e:(" given" : Str) ++ " " ++ (" " ++ jO ws d) = " given " ++ (" " ++ jO ws d):=rfl;rw[e];exact C3 (N:=171) (by rw[<- e];exact m _ _ (JF (by simp only[J0,<- Ub];rfl))) () (Xa (by unfold Ls;rw[J0];exact Uo _ (by decide)))
  .have e:(" given " : Str)++jO ws d ++ " " = " given " ++ (jO ws d ++ " "):=JF (by simp only[J0,Ub]);rw[e] at i ⊢;exact C3 i () (Xa (by rw[p];simp))
  .have e:(" given " : Str)++jO ws d ++ " x9" = " given " ++ (jO ws d ++ " x9"):=JF (by simp only[J0,Ub]);rw[e] at j ⊢;exact C3 j () (Xa (by rw[r];simp))
 .have R:=Az h d;have g:Ls (JQ ws 2 d)=32::(Ls (jO ws (d / 2))++32::(Ls (jE (q9 ws d))++32::Ls (Txt.join ", " ((jU ws d).map jC)))):=C1 _ _ _;obtain⟨l,c,u,o⟩:=GR R.is R.lo;have v:RK (JQ ws 2 d ++ " ") 3:=Ax i () R.nm (Xe h d) (J:=Ls (Txt.join ", " ((jU ws d).map jC))++32::[]) (by rw[p,g];simp) (GS u o);have w:RK (JQ ws 2 d ++ " x9") 3:=Ax j () R.nm (Xe h d) (J:=Ls (Txt.join ", " ((jU ws d).map jC))++32::[120,57]) (by rw[r,g];simp) (GS u o);rcases Hg (Ls (Txt.join ", " ((jU ws d).map jC))) with q|⟨a,b,q,hb⟩
  .have e:JQ ws 2 d=dm (32::(Ls (jO ws (d / 2))++32::Ls (jE (q9 ws d))))++(" " ++ Txt.join ", " ((jU ws d).map jC)):=JF (by
    rw[J0,J0];show Ls (JQ ws 2 d)=(32::(Ls (jO ws (d / 2))++32::Ls (jE (q9 ws d))))++([32]++Ls (Txt.join ", " ((jU ws d).map jC)));rw[g];simp)
   refine⟨_,_,e,q,Ax (m _ _ e) () R.nm (Xe h d) (J:=32::Ls (Txt.join ", " ((jU ws d).map jC))) ?_ (RV _),v,w⟩;unfold Ls;rw[J0,J0,J0];show(32::(Ls (jO ws (d / 2))++32::Ls (jE (q9 ws d))))++[32]++([32]++Ls (Txt.join ", " ((jU ws d).map jC)))=_;simp
  .have e:JQ ws 2 d=dm (32::(Ls (jO ws (d / 2))++32::(Ls (jE (q9 ws d))++32::a)))++(" " ++ dm b):=JF (by
    rw[J0,J0];show Ls (JQ ws 2 d)=(32::(Ls (jO ws (d / 2))++32::(Ls (jE (q9 ws d))++32::a)))++([32]++b);rw[g,q];simp)
   refine⟨_,_,e,hb,Ax (m _ _ e) () R.nm (Xe h d) (J:=a++32::32::b) ?_ (RU _ _),v,w⟩;unfold Ls;rw[J0,J0,J0];show(32::(Ls (jO ws (d / 2))++32::(Ls (jE (q9 ws d))++32::a)))++[32]++([32]++b)=_;simp
def So {row b e f g h i j z d o l n a p q t x1 x2 s:Str}{k c:Int}{W:Yt}{u:Yt->Res D}(r:XL row (.str b)=some (.int k))(m:WW (.str f) (.int 30)=some (.str z))(v:jk (.str e) (.str z)=some (.str d))(w:u [.int (c / 8)]=.ok (.str o))(x:jk (.str row) (.str b)=some (.str l))(y:jk (.str row) (.str g)=some (.str n))
 (A:xW (.str row) none (some k)=some (.str a)) (B:xW (.str row) (some k) none=some (.str q)) (C:jk (.str a) (.str b)=some (.str p)) (E:jk (.str p) (.str q)=some (.str t)) (F:jk (.str i) (.str d)=some (.str x1)) (G:jk (.str j) (.str d)=some (.str x2))
 (H:jk (.lst [.str o,.str l,.str n,.str t,.str h,.str b]) (.lst [.str x1,.str x2])=some (.lst W)) (I:jR W (c % 8)=some (.str s)):
 jB 5 2 (jg (jl 2 (j7 XL (ja 0) (dC (.str b)))) (jg (jl 3 (jf jk (dC (.str e)) (jf WW (dC (.str f)) (dC (.int 30))))) (jg (jl 4 (qg (Jr (J1 u (Jr (jf JW (ja 1) (dC (.int 8))) jd)) (Jr (jf jk (ja 0) (dC (.str b))) (Jr (jf jk (ja 0) (dC (.str g))) (Jr (jf jk (jf jk (xY (ja 0) Ki (K4 (ja 2))) (dC (.str b))) (xY (ja 0) (K4 (ja 2)) Ki)) (Jr (dC (.str h)) (Jr (dC (.str b)) jd)))))))) (jg (jl 4 (jf jk (ja 4) (qg (Jr (jf jk (dC (.str i)) (ja 3)) (Jr (jf jk (dC (.str j)) (ja 3)) jd))))) (j3 (jf jv (ja 4) (jf jD (ja 1) (dC (.int 8))))))))) [.str row,.int c]=.ok (.str s):=by
 simp_all [j7]
def bq {ws:Yh}(h:Ws6 ws){f:Int}(p:f=0\/f=1\/f=2)(d c:Int):∃s,Xf [.str (JQ ws f d),.int c]=.ok (.str s)/\RK s 3/\TxtOk 180 s/\10∉Ls s:=by
 have ok:=(Y7 h p d).1;have g:=Y8 h p d;obtain⟨a,b,e,y,k1,k2,k3⟩:=Sm h p d;obtain⟨o,v,A⟩:=br (c / 8);obtain⟨cV,t⟩:=RZ v;generalize JQ ws f d=row at *;have w:Ls row=Ls a++32::Ls b:=by rw[e];unfold Ls;rw[J0,J0];rfl
 have B:(Ls a).length=a.length:=Uc;have r:=Sk w y;rw[B] at r;have C:xW (.str row) none (some (a.length:Int))=some (.str a):=by rw[BS ok (),e,Sl]
 have E:xW (.str row) (some (a.length:Int)) none=some (.str (" " ++ b)):=by rw[BS ok (),e,XZ]
 have u:TxtOk 170 a:=⟨by have:=ok.len;rw[e,JS] at this;lia,xu.mpr λx hx=>xu.mp ok.asc x (by rw[e,J0];exact Uo _ hx)⟩;have bl:TxtOk 170 (" " ++ b):=⟨by have:=ok.len;rw[e,JS] at this;lia,xu.mpr λx hx=>xu.mp ok.asc x (by rw[e,J0];exact Ud _ hx)⟩;have sp:TxtOk 1 (" " : Str):=J2 (by decide +kernel);have F:=Qi ok sp ();have G:=Qi ok (J2 (n:=3) (x:= " x9") (by decide +kernel)) ();have H:=Qi u sp ();have I:=Qi (u.app sp) bl ();have m:WW (.str "0") (.int 30)=some (.str "000000000000000000000000000000"):=by
  rw[Pi ⟨by decide,λ_ _=>by decide,λ_ _=>by decide +kernel⟩];exact rfl
 have J:jk (.str "1") (.str "000000000000000000000000000000")=some (.str "1000000000000000000000000000000"):=by
  rw[Qi (J2 (n:=1) (by decide +kernel)) (J2 (n:=30) (by decide +kernel)) ()];exact Zt (λx=>some (D.str x)) (JF (by decide +kernel))
 have K:jk (.str " x9 all x9+") (.str "1000000000000000000000000000000")=some (.str " x9 all x9+1000000000000000000000000000000"):=by
  rw[Qi (J2 (n:=11) (by decide +kernel)) (J2 (n:=31) (by decide +kernel)) ()];exact Zt (λx=>some (D.str x)) (JF (by decide +kernel))
 have M:jk (.str " x9 first x9, x9-") (.str "1000000000000000000000000000000")=some (.str " x9 first x9, x9-1000000000000000000000000000000"):=by
  rw[Qi (J2 (n:=17) (by decide +kernel)) (J2 (n:=31) (by decide +kernel)) ()];exact Zt (λx=>some (D.str x)) (JF (by decide +kernel))
 obtain⟨L,hL⟩:∃L:Yh,L=[o,row ++ " ",row ++ " x9",a ++ " " ++ (" " ++ b), "", " ", " x9 all x9+1000000000000000000000000000000", " x9 first x9, x9-1000000000000000000000000000000"]:=⟨_,rfl⟩;have N:jk (.lst [.str o,.str (row ++ " "),.str (row ++ " x9"),.str (a ++ " " ++ (" " ++ b)),.str "",.str " "]) (.lst [.str " x9 all x9+1000000000000000000000000000000",.str " x9 first x9, x9-1000000000000000000000000000000"])=some (.lst (L.map .str)):=by
  rw[hL];exact rfl
 have all:∀s∈L,RK s 3/\TxtOk 180 s/\10∉Ls s:=by
  rw[hL];intro s i;have j:∀x∈zu,RK x 3/\TxtOk 180 x/\10∉Ls x:=λx hx=>⟨(C7 hx).1,(C7 hx).2.mono (),Ha hx⟩;simp only[Uj,Uk,or_false] at i;rcases i with rfl|rfl|rfl|rfl|rfl|rfl|rfl|rfl
  .exact⟨cV,t.mono (),Sa v⟩
  .exact⟨k2,(ok.app sp).mono (),QR g (by decide +kernel)⟩
  .exact⟨k3,(ok.app (J2 (n:=3) (x:= " x9") (by decide +kernel))).mono (),QR g (by decide +kernel)⟩
  .refine⟨k1,⟨?_,(u.app sp |>.app bl).asc⟩,?_⟩
   rotate_left
   .rw[w] at g;exact QR (QR (λz=>g (Uo _ z)) (by decide +kernel)) (QR (by decide +kernel) λz=>g (Ud _ (Zqm _ z)))
   have:=ok.len;have q:(" " : Str).length=1:=by decide +kernel
   rw[e] at this;simp only[JS] at this ⊢;lia
  .exact j _ (by unfold zu;simp)
  .exact j _ (by unfold zu;simp)
  .exact j _ (by unfold zu;simp)
  .exact j _ (by unfold zu;simp)
 have O:L.length=8:=by rw[hL];rfl
 obtain⟨x,hx,P⟩:=Fz (l:=L.map D.str) (k:=c % 8) () (by rw[Zql,O];lia);obtain⟨s,i,rfl⟩:=Ja.mp hx;exact⟨s,So r m J A F G C E H I K M N P,all s i⟩
def Vz:FS:=(jg (jH (xH (Jw (jf jZ (ja 0) (dC (.int 3)))) (Jw (jf yz (ja 1) (dC (.int 0))))) (j3 (dC (.bl false))) J6) (jg (jH (Jw (jf jZ (ja 0) (dC (.int 0)))) (j3 (dC (.bl true))) J6) (j3 (W8 (jf yz (ja 2) (jK qS (dC (.int 1)))) (yI (jf jZ (ja 0) (dC (.int 2))) (jf v4 (ja 2) (dC (.int 2))))))))
def QH:Yt->Res D:=jB 3 3 Vz
def yE (f b l:Int):Bool:=decide (f≠3)&&(decide (b=0)&&(decide (f=0)||(decide (l ≠ -1)&&(decide (f=2)||decide (l<2)))))
def bo (f b l:Int):QH [.int f,.int b,.int l]=.ok (.bl (yE f b l)):=by
 unfold yE;by_cases c:f=3
 .simp[QH,Vz,c]
 .by_cases a:b=0
  .by_cases d:f=0
   .simp[QH,Vz,a,d]
   .by_cases e:l = -1
    .simp[QH,Vz,c,a,d,e]
    .by_cases g:f=2
     .simp[QH,Vz,a,e,g]
     .simp[QH,Vz,c,a,d,e,g]
  simp_all [QH,Vz]
def Y9:FS:=(jg (jl 1 (J1 XV (Jr (ja 0) (Jr (dC (.int 6)) jd)))) (jg (xx 2 (qg jd)) (jg (jl 3 (dC (.int 0))) (jg (jl 4 (jK qS (dC (.int 1)))) (jg (qr (nL (Jr (dC (.int 2)) (Jr (jr WH (Jr (jr j6 (Jr (ja 0) jd)) (Jr (dC (.int 82)) jd))) (Jr (dC (.int 2)) jd)))) (.one 5) (jg (jl 6 (qf (Jr (jf jv (ja 0) (ja 5)) (Jr (J1 Kl (Jr (ja 0) (Jr (jf jk (ja 5) (dC (.int 1))) jd))) jd)))) (jg (jl 7 (J1 Qc (Jr (jf jv (ja 6) (dC (.int 0))) (Jr (ja 4) jd)))) (jg (jl 8 (jf jv (qg (Jr (dC (.int 0)) (Jr (dC (.int 1)) (Jr (jK qS (dC (.int 1))) jd)))) (jr V7 (Jr (dC (.int 0)) (Jr (jf yY (jf jD (jf jv (ja 6) (dC (.int 1))) (dC (.int 20))) (dC (.int 17))) jd))))) (jg (jl 9 (J1 Kn (Jr (jf jD (ja 7) (dC (.int 3))) (Jr (jf JW (jf jv (ja 6) (dC (.int 1))) (dC (.int 20))) (Jr (ja 1) jd))))) (jg (jH (Jw (jf jZ (ja 7) (dC (.int 3)))) (jg (jl 10 (jf JW (jf jD (jf jk (jf qu (jf jv (ja 6) (dC (.int 0))) (dC (.int 48271))) (jf qu (jf jv (ja 6) (dC (.int 1))) (dC (.int 16807)))) (dC (.int 2147483647))) (dC (.int 7)))) (jg (jl 9 (J1 Xf (Jr (J1 Kn (Jr (jf jD (jf JW (jf jv (ja 6) (dC (.int 0))) (dC (.int 32))) (dC (.int 3))) (Jr (jf JW (jf jv (ja 6) (dC (.int 1))) (dC (.int 20))) (Jr (ja 1) jd)))) (Jr (ja 10) jd)))) (jl 8 (dC (.int 0))))) (jH (Jw (jf jZ (ja 8) (dC (.int 1)))) (jl 9 (jf jk (dC (.str " ")) (ja 9))) (jH (Q2 (Jw (jf jZ (ja 8) (jK qS (dC (.int 1))))) (Jw (jf zT (ja 7) (dC (.int 0))))) (jl 9 (xY (ja 9) (K4 (dC (.int 1))) Ki)) (jH (Jw (jf jZ (ja 8) (jK qS (dC (.int 1))))) (jl 8 (dC (.int 0))) J6)))) (jg (Ky 2 (ja 9)) (jH (Jw (J1 QH (Jr (ja 7) (Jr (ja 8) (Jr (ja 4) jd))))) (jl 4 (ja 7)) (jH (Jw (jf jZ (ja 3) (dC (.int 0)))) (jl 3 (xX [2] (jr j6 (Jr (ja 2) jd)))) J6))))))))) (jg (jH (AR [2] (Jw (jf jZ (ja 2) (qg jd)))) (jl 3 (dC (.int 1))) J6) (jg (λsd=>(jl 11 (j7 WT (dC (.str "\n")) (ja 2))) (qa [2] sd)) (jg (jH (Jw (jf jZ (jf jD (jf JW (J1 Kl (Jr (ja 0) (Jr (dC (.int 1)) jd))) (dC (.int 5))) (dC (.int 8))) (dC (.int 1)))) (jg (jl 11 (jf jk (ja 11) (dC (.str "\n")))) (jH (Jw (jf jZ (ja 3) (dC (.int 0)))) (jl 3 (jf jk (xX [2] (jr j6 (Jr (ja 2) jd))) (dC (.int 1)))) J6)) J6) (jg (jl 12 (J1 Kf (Jr (ja 11) jd))) (jg (jH (Jw (jf jZ (ja 3) (dC (.int 0)))) (j3 (yI (jK (qD false) (ja 12)) (YM (jf jv (jf jv (ja 12) (dC (.int 0))) (dC (.int 0)))))) J6) (j3 (jf zE (ja 12) (qf (Jr (Q3 [none] (v3 (Jr (dC (.int 9)) jd)) (.one 0) (jf jZ (ja 0) (dC (.int 0)))) (Jr (ja 3) jd)))))))))))))))
def wV:Yt->Res D:=jB 13 1 Y9
def YA:Int->List Nat->Int
 |l,[]=>l
 |_,k::ks=>YA (k:Int) ks
theorem CG (k:Nat):∀(ks:Yg) (j:Nat) (l:Int),qO j l (ks++[k])=(match qO j l ks with|some m=>some m|none=>if yb k (YA l ks) then none else some (j+ks.length+1))
 | [],j,l=>by
  show(if yb k l then none else some (j+1))=_;rfl
 |c::ks,j,l=>by
  have e:qO j l (c::ks)=if yb c l then qO (j+1) (c:Int) ks else some (j+1):=rfl
  rw[e];show(if yb c l then qO (j+1) (c:Int) (ks++[k]) else some (j+1))=_;by_cases h:yb c l=true
  .rw[Zd h,Zd h,CG k ks (j+1) c];show _=match qO (j+1) (c:Int) ks with|some m=>some m|none=>if yb k (YA (c:Int) ks) then none else some (j+(ks.length+1)+1)
   rw[show j+1+ks.length+1=j+(ks.length+1)+1 by lia]
  .rw[Ze h,Ze h]
theorem Hi (k:Nat):∀(ks:Yg) (l:Int),YA l (ks++[k])=(k:Int)
 | [],_=>rfl
 |c::ks,_=>Hi k ks c
def RKs.snoc {r:Str}{k:Nat}(h:RK r k){rs:Yh}{ks:Yg}(H:RKs rs ks):RKs (rs++[r]) (ks++[k]):=by
 induction H with
 |nil=>exact .cons h .nil
 |cons a _ b=>exact .cons a b
def RKs.len {rs:Yh}{ks:Yg}(H:RKs rs ks):ks.length=rs.length:=by
 induction H with
 |nil=>rfl
 |cons _ _ a=>rw[Zu,Zu,a]
def LD (ks:Yg)(l a:Int):Prop:=(qO 0 (-1) ks=none/\a=0/\l=YA (-1) ks)\/∃m:Nat,qO 0 (-1) ks=some m/\a=m/\1<=m
def LD.step {ks:Yg}{l a:Int}(h:LD ks l a)(k:Nat):LD (ks++[k]) (if yb k l then(k:Int) else l) (if yb k l then a else if a=0 then(ks.length:Int)+1 else a)\/(∃m:Nat,qO 0 (-1) ks=some m):=by
 rcases h with ⟨b,c,d⟩|⟨m,b,_⟩
 .refine .inl ?_;have s:=CG k ks 0 (-1);rw[b,<- d] at s;by_cases o:yb k l=true
  .rw[Zd o] at s;rw[Zd o,Zd o];exact .inl ⟨s,c,(Hi k ks _).symm⟩
  .rw[Ze o] at s;rw[Ze o,Ze o,Zd c];exact .inr ⟨ks.length+1,by rw[s,UK],(),()⟩
 .exact .inr ⟨m,b⟩
def LD.on {ks:Yg}{l a:Int}(h:LD ks l a)(k:Nat)(b:Bool)(c:Int)(i:b=yb k l)(j:b=true->c=k)(n:b=false->c=l):LD (ks++[k]) c (if b then a else if a=0 then(ks.length:Int)+1 else a):=by
 rcases h with ⟨d,e,f⟩|⟨m,d,e,g⟩
 .have s:=LD.step (.inl ⟨d,e,f⟩) k
  grind
 .have s:=CG k ks 0 (-1);rw[d] at s;refine .inr ⟨m,s,?_,g⟩
  split
  .exact e
  .rwa [Ze ()]
def Sq {ws:Yh}(h:Ws6 ws){f:Int}(b:f=0\/f=1\/f=2)(d:Int):RK (" " ++ JQ ws f d) 3/\TxtOk 180 (" " ++ JQ ws f d)/\10∉Ls (" " ++ JQ ws f d):=by
 have ok:TxtOk 171 (" " ++ JQ ws f d):=((J2 (n:=1) (by decide +kernel)).app (Y7 h b d).1).mono ();refine⟨?_,ok.mono (),QR (by decide +kernel) (Y8 h b d)⟩;have c:∀x:Str,Ls (" " ++ x)=32::Ls x:=λx=>by unfold Ls;rw[J0];rfl
 rcases b with rfl|rfl|rfl
 .exact C4 ok () (m:=[112,108,97,110]) (by rw[c];show 32::Ls ("plan " ++ jO ws d)=_;rw[Y4]) (by decide) (by decide) λn a e=>Av a (w:= "plan") (by decide) e
 .exact C4 ok () (m:=[]) (by rw[c];show 32::Ls (" given " ++ jO ws d)=_;rw[Y5];rfl) (by decide) (by decide) λn a e=>by
   have:=a.ne.1;have l:(Ls n).length=n.length:=Uc;rw[e] at l;simp at l;lia
 .exact C4 ok () (m:=[]) (by rw[c];show 32::Ls (qd _ _ _)=_;rw[show Ls (qd (jO ws (d / 2)) (q9 ws d) (jU ws d))=_ from C1 _ _ _];rfl) (by decide) (by decide) λn a e=>by
   have:=a.ne.1;have l:(Ls n).length=n.length:=Uc;rw[e] at l;simp at l;lia
def Sr {ws:Yh}(h:Ws6 ws){f:Int}(b:f=1\/f=2)(d:Int):∃r,Txt.slice (JQ ws f d) (some 1) none=r/\RK r 3/\TxtOk 180 r/\10∉Ls r:=by
 have ok:=ze (Y7 h (f:=f) () d).1 (some 1) none;have c:=Y8 h (f:=f) () d;have cut:∀y:Str,JQ ws f d = " " ++ y->10∉Ls y:=λy e z=>c (by rw[e];unfold Ls;rw[J0];exact Ud _ z);refine⟨_,rfl,?_,ok.mono (),?_⟩
 rotate_left
 .have a:∀x y:Str,x = " " ++ y->Txt.slice x (some 1) none=y:=λx y e=>by rw[e];exact XZ " " y
  rcases b with rfl|rfl
  .have e:JQ ws 1 d = " " ++ ("given " ++ jO ws d):=by show(" given " : Str)++jO ws d=_;exact Ct _
   rw[a _ _ e];exact cut _ e
  .have e:JQ ws 2 d = " " ++ (jO ws (d / 2) ++ " " ++ jE (q9 ws d) ++ " " ++ Txt.join ", " ((jU ws d).map jC)):=by
    show " " ++ jO ws (d / 2) ++ " " ++ jE (q9 ws d) ++ " " ++ Txt.join ", " ((jU ws d).map jC)=_;exact JF (by simp only[J0,Ub])
   rw[a _ _ e];exact cut _ e
 have a:∀x y:Str,x = " " ++ y->Txt.slice x (some 1) none=y:=λx y e=>by rw[e];exact XZ " " y
 rcases b with rfl|rfl
 .have e:JQ ws 1 d = " " ++ ("given " ++ jO ws d):=by show(" given " : Str)++jO ws d=_;exact Ct _
  rw[a _ _ e] at ok ⊢;exact GO ok () (m:=[103,105,118,101,110]) (rest:=Ls (jO ws d)) (by unfold Ls;rw[J0];rfl) (by decide) (by decide) (by decide)
 .have n:=(h.at (d / 2)).2;obtain⟨J,hJ⟩:∃J:Str,J=jE (q9 ws d) ++ " " ++ Txt.join ", " ((jU ws d).map jC):=⟨_,rfl⟩;have e:JQ ws 2 d = " " ++ (jO ws (d / 2) ++ " " ++ J):=by
   show " " ++ jO ws (d / 2) ++ " " ++ jE (q9 ws d) ++ " " ++ Txt.join ", " ((jU ws d).map jC)=_;rw[hJ];exact JF (by simp only[J0,Ub])
  rw[a _ _ e] at ok ⊢;refine GO ok () (m:=Ls (jO ws (d / 2))) (rest:=Ls J) (by unfold Ls;rw[J0,J0,Ub];rfl) (K9 n) (λz=>?_) λz=>Av n (w:= "plan") (by decide) z;have:=n.ne.1;have l:(Ls (jO ws (d / 2))).length=(jO ws (d / 2)).length:=Uc;rw[z] at l;simp at l;lia
def vR:FS:=(jg (jl 6 (qf (Jr (jf jv (ja 0) (ja 5)) (Jr (J1 Kl (Jr (ja 0) (Jr (jf jk (ja 5) (dC (.int 1))) jd))) jd)))) (jg (jl 7 (J1 Qc (Jr (jf jv (ja 6) (dC (.int 0))) (Jr (ja 4) jd)))) (jg (jl 8 (jf jv (qg (Jr (dC (.int 0)) (Jr (dC (.int 1)) (Jr (jK qS (dC (.int 1))) jd)))) (jr V7 (Jr (dC (.int 0)) (Jr (jf yY (jf jD (jf jv (ja 6) (dC (.int 1))) (dC (.int 20))) (dC (.int 17))) jd))))) (jg (jl 9 (J1 Kn (Jr (jf jD (ja 7) (dC (.int 3))) (Jr (jf JW (jf jv (ja 6) (dC (.int 1))) (dC (.int 20))) (Jr (ja 1) jd))))) (jg (jH (Jw (jf jZ (ja 7) (dC (.int 3)))) (jg (jl 10 (jf JW (jf jD (jf jk (jf qu (jf jv (ja 6) (dC (.int 0))) (dC (.int 48271))) (jf qu (jf jv (ja 6) (dC (.int 1))) (dC (.int 16807)))) (dC (.int 2147483647))) (dC (.int 7)))) (jg (jl 9 (J1 Xf (Jr (J1 Kn (Jr (jf jD (jf JW (jf jv (ja 6) (dC (.int 0))) (dC (.int 32))) (dC (.int 3))) (Jr (jf JW (jf jv (ja 6) (dC (.int 1))) (dC (.int 20))) (Jr (ja 1) jd)))) (Jr (ja 10) jd)))) (jl 8 (dC (.int 0))))) (jH (Jw (jf jZ (ja 8) (dC (.int 1)))) (jl 9 (jf jk (dC (.str " ")) (ja 9))) (jH (Q2 (Jw (jf jZ (ja 8) (jK qS (dC (.int 1))))) (Jw (jf zT (ja 7) (dC (.int 0))))) (jl 9 (xY (ja 9) (K4 (dC (.int 1))) Ki)) (jH (Jw (jf jZ (ja 8) (jK qS (dC (.int 1))))) (jl 8 (dC (.int 0))) J6)))) (jg (Ky 2 (ja 9)) (jH (Jw (J1 QH (Jr (ja 7) (Jr (ja 8) (Jr (ja 4) jd))))) (jl 4 (ja 7)) (jH (Jw (jf jZ (ja 3) (dC (.int 0)))) (jl 3 (xX [2] (jr j6 (Jr (ja 2) jd)))) J6))))))))
abbrev xy (ns:Yf)(W R:Yt)(due l:Int)(u5 u6 u7 u8 u9 u10:Option SV):SD:=[~~~(.scr ns),~~~(.lst W),some (.own false (.lst R)),~~~(.int due),~~~(.int l),u5,u6,u7,u8,u9,u10,none,none]
def uP:FS:=(jg (Ky 2 (ja 9)) (jH (Jw (J1 QH (Jr (ja 7) (Jr (ja 8) (Jr (ja 4) jd))))) (jl 4 (ja 7)) (jH (Jw (jf jZ (ja 3) (dC (.int 0)))) (jl 3 (xX [2] (jr j6 (Jr (ja 2) jd)))) J6)))
def gY:vR=(jg (jl 6 (qf (Jr (jf jv (ja 0) (ja 5)) (Jr (J1 Kl (Jr (ja 0) (Jr (jf jk (ja 5) (dC (.int 1))) jd))) jd)))) (jg (jl 7 (J1 Qc (Jr (jf jv (ja 6) (dC (.int 0))) (Jr (ja 4) jd)))) (jg (jl 8 (jf jv (qg (Jr (dC (.int 0)) (Jr (dC (.int 1)) (Jr (jK qS (dC (.int 1))) jd)))) (jr V7 (Jr (dC (.int 0)) (Jr (jf yY (jf jD (jf jv (ja 6) (dC (.int 1))) (dC (.int 20))) (dC (.int 17))) jd))))) (jg (jl 9 (J1 Kn (Jr (jf jD (ja 7) (dC (.int 3))) (Jr (jf JW (jf jv (ja 6) (dC (.int 1))) (dC (.int 20))) (Jr (ja 1) jd))))) (jg (jH (Jw (jf jZ (ja 7) (dC (.int 3)))) (jg (jl 10 (jf JW (jf jD (jf jk (jf qu (jf jv (ja 6) (dC (.int 0))) (dC (.int 48271))) (jf qu (jf jv (ja 6) (dC (.int 1))) (dC (.int 16807)))) (dC (.int 2147483647))) (dC (.int 7)))) (jg (jl 9 (J1 Xf (Jr (J1 Kn (Jr (jf jD (jf JW (jf jv (ja 6) (dC (.int 0))) (dC (.int 32))) (dC (.int 3))) (Jr (jf JW (jf jv (ja 6) (dC (.int 1))) (dC (.int 20))) (Jr (ja 1) jd)))) (Jr (ja 10) jd)))) (jl 8 (dC (.int 0))))) (jH (Jw (jf jZ (ja 8) (dC (.int 1)))) (jl 9 (jf jk (dC (.str " ")) (ja 9))) (jH (Q2 (Jw (jf jZ (ja 8) (jK qS (dC (.int 1))))) (Jw (jf zT (ja 7) (dC (.int 0))))) (jl 9 (xY (ja 9) (K4 (dC (.int 1))) Ki)) (jH (Jw (jf jZ (ja 8) (jK qS (dC (.int 1))))) (jl 8 (dC (.int 0))) J6)))) uP))))):=rfl
def YB {ns:Yf}{W R:Yt}{d l k x y f bl j:Int}{b:Bool}{p row:Str}{G H I B J c:Option SV}(x1:jR ns k=some x)(x2:Kl [.scr ns,.int (k+1)]=.ok (.int y))(r:Qc [.int x,.int l]=.ok (.int f))
 (s:V7 [.int 0,.int (y % 20-17)]=some (.int j)) (t:jR [D.int 0,.int 1,.int (-1)] j=some (.int bl)) (q:Kn [.int (f % 3),.int (y / 20),.lst W]=.ok (.str p)) (C:R.length<sizeLine) (O:R.length<=900)
 (cs:(f=3/\∃E,Kn [.int (x / 32 % 3),.int (y / 20),.lst W]=.ok (.str E)/\Xf [.str E,.int ((x*48271+y*16807) % 2147483647 / 7)]=.ok (.str row)/\QH [.int f,.int 0,.int l]=.ok (.bl b)) \/
  (f≠3/\bl=1/\jk (.str " ") (.str p)=some (.str row)/\QH [.int f,.int 1,.int l]=.ok (.bl b)) \/
  (f≠3/\bl = -1/\0<f/\xW (.str p) (some 1) none=some (.str row)/\QH [.int f,.int (-1),.int l]=.ok (.bl b)) \/
  (f=0/\bl = -1/\row=p/\QH [.int f,.int 0,.int l]=.ok (.bl b)) \/
  (f≠3/\bl=0/\row=p/\QH [.int f,.int 0,.int l]=.ok (.bl b))):
 ∃e g h i m a,(JD (.one 5) (.int k) (xy ns W R d l G H I B J c)).bind vR=.ok (.next (xy ns W (R++[.str row]) (if b then d else if d=0 then(R.length:Int)+1 else d) (if b then f else l) e g h i m a)):=by
 have K:qu (.int x) (.int 48271)=some (.int (x*48271)):=Bm (El () ());have L:qu (.int y) (.int 16807)=some (.int (y*16807)):=Bm (El () ());have u:jR [D.int x,D.int y] 0=some (.int x):=qw _ _;have v:jR [D.int x,D.int y] 1=some (.int y):=qV _ _ _;have done:∀(B c:Option SV) (z:Int),QH [.int f,.int z,.int l]=.ok (.bl b)->∃e g h i m a,uP (xy ns W R d l (~~~(.int k)) (~~~(.tup [.int x,.int y])) (~~~(.int f)) (~~~(.int z)) (~~~(.str row)) c)=.ok (.next (xy ns W (R++[.str row]) (if b then d else if d=0 then(R.length:Int)+1 else d) (if b then f else l) e g h i m a)):=λB c z n=>by
  rcases b with _|_
  .by_cases o:d=0
   .exact⟨~~~(.int k),~~~(.tup [.int x,.int y]),~~~(.int f),~~~(.int z),~~~(.str row),c,by unfold uP;simp[xy,C,n,o]⟩
   .exact⟨~~~(.int k),~~~(.tup [.int x,.int y]),~~~(.int f),~~~(.int z),~~~(.str row),c,by unfold uP;simp[xy,C,n,o]⟩
  .exact⟨~~~(.int k),~~~(.tup [.int x,.int y]),~~~(.int f),~~~(.int z),~~~(.str row),c,by unfold uP;simp[xy,C,n]⟩
 rw[gY];rcases cs with ⟨rfl,E,w,M,n⟩|⟨A,rfl,w,n⟩|⟨A,rfl,N,w,n⟩|⟨rfl,rfl,rfl,n⟩|⟨A,rfl,rfl,n⟩
 .obtain⟨e,g,h,i,m,a,o⟩:=done none (~~~(.int ((x*48271+y*16807) % 2147483647 / 7))) 0 n;refine⟨e,g,h,i,m,a,?_⟩;rw[<- o];have F:Kn [.int 0,.int (y / 20),.lst W]=.ok (.str p):=q;simp[xy,x1,x2,r,-WK,s,t,F,u,v,K,L,w,M]
 .obtain⟨e,g,h,i,m,a,o⟩:=done none c 1 n;refine⟨e,g,h,i,m,a,?_⟩;rw[<- o];simp[xy,x1,x2,r,-WK,s,t,q,u,v,A,w]
 .obtain⟨e,g,h,i,m,a,o⟩:=done none c (-1) n;refine⟨e,g,h,i,m,a,?_⟩;rw[<- o];simp[xy,x1,x2,r,-WK,s,t,q,u,v,A,N,w]
 .obtain⟨e,g,h,i,m,a,o⟩:=done none c 0 n;refine⟨e,g,h,i,m,a,?_⟩;rw[<- o];simp at q;simp[x1,x2,r,-WK,s,t,q,u,v]
 .obtain⟨e,g,h,i,m,a,o⟩:=done none c 0 n;refine⟨e,g,h,i,m,a,?_⟩;rw[<- o];simp[x1,x2,r,-WK,s,t,q,u,v,A]
def Ss {ns:Yf}{ws rows:Yh}{ks:Yg}(h:Ws6 ws)(H:RKs rows ks)(hl:rows.length<=800){b l:Int}(L:LD ks l b){k:Nat}(S:k<ns.length)(I J K M N o:Option SV):
 ∃row c B a p t u v w d,(JD (.one 5) (.int (k:Int)) (xy ns (ws.map .str) (rows.map .str) b l I J K M N o)).bind vR=.ok (.next (xy ns (ws.map .str) ((rows++[row]).map .str) a B p t u v w d))/\RKs (rows++[row]) (ks++[c])/\(TxtOk 180 row/\10∉Ls row)/\LD (ks++[c]) B a:=by
 obtain⟨x,x1⟩:∃x,jR ns (k:Int)=some x:=⟨ns[k],by rw[BR S];exact()⟩;have x2:=Ah ns (k+1);rw[show((k+1:Nat):Int)=(k:Int)+1 by lia] at x2;generalize Vi ns ((k:Int)+1)=y at x2;obtain⟨f,hf,C⟩:=bp x l;obtain⟨j,bl,mx,jb,hb⟩:∃j bl:Int,V7 [.int 0,.int (y % 20-17)]=some (.int j)/\jR [D.int 0,.int 1,.int (-1)] j=some (.int bl)/\(bl=0\/bl=1\/bl = -1):=by
  have q:y % 20<=17\/y % 20=18\/y % 20=19:=()
  rcases q with q|q|q
  .exact⟨0,0,by rw[WK,Ze ()],rfl,()⟩
  .exact⟨1,1,by rw[q];rfl,rfl,()⟩
  .exact⟨2,-1,by rw[q];rfl,rfl,()⟩
 have P:f % 3=0\/f % 3=1\/f % 3=2:=()
 have A:=He h P (y / 20);have ok:=Y7 h P (y / 20);have T:=H.len;have Q:(rows.map D.str).length=rows.length:=Zql _;have E:(rows.map D.str).length<sizeLine:=Qr (by rw[Q];lia);have i:∀(row:Str) (c:Nat) (z:Int),RK row c->TxtOk 180 row/\10∉Ls row->yE f z l=yb c l->(yE f z l=true->f=c)->(∃p t u v w d,(JD (.one 5) (.int (k:Int)) (xy ns (ws.map .str) (rows.map .str) b l I J K M N o)).bind vR=.ok (.next (xy ns (ws.map .str) (rows.map .str++[.str row]) (if yE f z l then b else if b=0 then((rows.map D.str).length:Int)+1 else b) (if yE f z l then f else l) p t u v w d))) ->
  ∃row c B a p t u v w d,(JD (.one 5) (.int (k:Int)) (xy ns (ws.map .str) (rows.map .str) b l I J K M N o)).bind vR=.ok (.next (xy ns (ws.map .str) ((rows++[row]).map .str) a B p t u v w d))/\RKs (rows++[row]) (ks++[c])/\(TxtOk 180 row/\10∉Ls row)/\LD (ks++[c]) B a:=λrow c z U X Y Z zh=>by
  obtain⟨p,t,u,v,w,d,e⟩:=zh;refine⟨row,c,_,_,p,t,u,v,w,d,by rw[Ut];exact e,RKs.snoc U H,X,?_⟩;rw[Q,<- T];exact L.on c (yE f z l) _ Y (λq=>by rw[Zd q];exact Z q) λq=>by rw[q];rfl
 have st:=bo f;by_cases F:f=3
 .have x3:x / 32 % 3=0\/x / 32 % 3=1\/x / 32 % 3=2:=()
  obtain⟨s,fs,sk,so⟩:=bq h x3 (y / 20) ((x*48271+y*16807) % 2147483647 / 7);have m:yE f 0 l=false:=by unfold yE;simp[F]
  refine i s 3 0 sk so (by rw[m];rfl) (λq=>by rw[m] at q;cases q) ?_;exact YB x1 x2 C mx jb A E () (.inl ⟨F,_,He h x3 (y / 20),fs,st 0 l⟩)
 .have g:f=0\/f=1\/f=2:=()
  have G:f % 3=f:=()
  rw[G] at ok A;rcases hb with rfl|rfl|rfl
  .refine i _ f.toNat 0 ok.2 ⟨ok.1.mono (),Y8 h g (y / 20)⟩ ?_ (λ_=>()) (YB x1 x2 C mx jb (by rw[G];exact A) E () (.inr (.inr (.inr (.inr ⟨F,rfl,rfl,st 0 l⟩)))));by_cases q:l = -1<;>rcases g with rfl|rfl|rfl<;>unfold yE yb<;>simp[q]
  .obtain⟨k3,O⟩:=Sq h g (y / 20);have m:yE f 1 l=false:=by unfold yE;simp
   exact i _ 3 1 k3 O (by rw[m];rfl) (λq=>by rw[m] at q;cases q) (YB x1 x2 C mx jb (by rw[G];exact A) E () (.inr (.inl ⟨F,rfl,Qi (J2 (n:=1) (by decide +kernel)) ok.1 (),st 1 l⟩)))
  .by_cases R:f=0
   .refine i _ f.toNat 0 ok.2 ⟨ok.1.mono (),Y8 h g (y / 20)⟩ ?_ (λ_=>()) (YB x1 x2 C mx jb (by rw[G];exact A) E () (.inr (.inr (.inr (.inl ⟨R,rfl,rfl,st 0 l⟩)))));rw[R];unfold yE yb;simp
   .obtain⟨r,er,k3,O⟩:=Sr h (f:=f) () (y / 20);have m:yE f (-1) l=false:=by unfold yE;simp
    exact i r 3 (-1) k3 O (by rw[m];rfl) (λq=>by rw[m] at q;cases q) (YB x1 x2 C mx jb (by rw[G];exact A) E () (.inr (.inr (.inl ⟨F,rfl,(),by rw[BS ok.1 (),er],st (-1) l⟩))))
def sq {a b:FS}{sd sd':SD}{r:Res Out}(h:a sd=.ok (.next sd'))(k:b sd'=r):jg a b sd=r:=by
 rw[M4,h];exact k
def dy:FA:=nL (Jr (dC (.int 2)) (Jr (jr WH (Jr (jr j6 (Jr (ja 0) jd)) (Jr (dC (.int 82)) jd))) (Jr (dC (.int 2)) jd)))
def nR (ns:Yf):Nat:=((min (ns.length:Int) 82-2+1) / 2).toNat
def Su {ns:Yf}(M:ns.length<=63){ws:Yh}(h:Ws6 ws):∃rows ks l a d f g j m b,qr dy (.one 5) vR (xy ns (ws.map .str) [] 0 (-1) none none none none none none)=.ok (.next (xy ns (ws.map .str) (rows.map .str) a l d f g j m b))/\RKs rows ks/\(∀r∈rows,TxtOk 180 r/\10∉Ls r)/\LD ks l a/\rows.length<=31:=by
 have o:dy (xy ns (ws.map .str) [] 0 (-1) none none none none none none)=.ok (Vf 2 2 (nR ns)):=by
  have v:WH [.int (ns.length:Int),.int 82]=some (.int (min (ns.length:Int) 82)):=by
   rw[M8]
   congr 2
   split<;>lia
  have w:j6 [.scr ns]=some (.int (ns.length:Int)):=rfl;have p:QL (min (ns.length:Int) 82)=true:=DY () ();have q:QL 2=true:=rfl;unfold dy nL;simp[xy,v,w,p,q,nR]
 have y:nR ns<=31:=by unfold nR;lia
 have s:=Xx (ds:=Vf 2 2 (nR ns))
  (λi sd=>∃(rows:Yh) (ks:Yg) (l a:Int) (d f g j m b:Option SV),sd=xy ns (ws.map .str) (rows.map .str) a l d f g j m b/\RKs rows ks/\(∀r∈rows,TxtOk 180 r/\10∉Ls r)/\LD ks l a/\rows.length=i)
  ⟨[],[],-1,0,none,none,none,none,none,none,rfl,.nil,(),.inl ⟨rfl,rfl,rfl⟩,rfl⟩ λi x sd hx A=>by
   obtain⟨rows,ks,l,a,d,f,g,j,m,b,rfl,R,T,L,e⟩:=A;have u:i<nR ns:=by
    have:=(Jd.mp hx).1;unfold Vf at this;simpa using this
   have B:x=.int ((2+i*2:Nat):Int):=by
    unfold Vf at hx;rw[Zv,U0 u] at hx;have:=(Zqi hx).symm;rw[this];simp
   have p:2+i*2<ns.length:=by unfold nR at u;lia
   have ⟨row,c,C,n,E,F,G,H,I,t,N,J,O,K⟩:=Ss h R () L p d f g j m b;refine⟨_,by rwa [B],rows++[row],ks++[c],C,n,E,F,G,H,I,t,rfl,J,λr o=>?_,K,by rw[Uf,e];rfl⟩;rcases Jc.mp o with z|z
   .exact T r z
   .rwa [Jb.mp z]
 obtain⟨sd',e,rows,ks,l,a,d,f,g,j,m,b,rfl,R,T,L,P⟩:=s;refine⟨rows,ks,l,a,d,f,g,j,m,b,?_,R,T,L,?_⟩
 .rwa [MA,o]
 simp_all [Vf,Zql]
structure TD (x:Str)(due:Int)(n:Nat):Prop where
 ok:TxtOk (5640+n) x
 is:∃rs ks l,Txt.split x "\n" = rs/\RKs rs ks/\rs.length<=31+n/\LD ks l due
def na:RK ("" : Str) 3/\TxtOk 180 ("" : Str)/\10∉Ls ("" : Str):=⟨(C7 (o:= "") (by unfold zu;simp)).1,(J2 (by decide +kernel)),Ha (o:= "") (by unfold zu;simp)⟩
def cV (l:Int):yb 3 l=false:=rfl
def Hj {rs:Yh}(a:rs ≠ [])(T:∀r∈rs,TxtOk 180 r/\10∉Ls r):Txt.split (Txt.join "\n" rs) "\n" = rs:=by
 cases rs with
 |nil=>exact Zn rfl a
 |cons r rs=>exact Vw rfl (by decide +kernel) λy b=>(T y b).2
def Hk {rs:Yh}{n:Nat}(a:rs.length<=31+n)(b:n<=1)(T:∀r∈rs,TxtOk 180 r/\10∉Ls r):TxtOk (180*(31+n)+(31+n)) (Txt.join "\n" rs):=by
 have:=Ab (J2 (n:=1) (x:= "\n") (by decide +kernel)) (λx hx=>(T x hx).1) a
 grind
def Sv {rows:Yh}{ks:Yg}{l a:Int}(R:RKs rows ks)(T:∀r∈rows,TxtOk 180 r/\10∉Ls r)(L:LD ks l a)(g:rows.length<=31):
 TD (Txt.join "\n" rows) (if rows=[] then 1 else a) 0/\TD (Txt.join "\n" rows ++ "\n") (if(if rows=[] then 1 else a)=0 then(rows.length:Int)+1 else(if rows=[] then 1 else a)) 200:=by
 obtain⟨rs,b,c,hne,R',T',L',ej,hl',hn⟩:∃rs b c,rs ≠ []/\RKs rs b/\(∀r∈rs,TxtOk 180 r/\10∉Ls r)/\LD b c (if rows=[] then 1 else a)/\Txt.join "\n" rows=Txt.join "\n" rs/\rs.length<=31/\((if rows=[] then(1:Int) else a)=0->rs.length=rows.length):=by
  by_cases h:rows=[]
  .refine⟨[""],[3],-1,(),.cons na.1 .nil,λr d=>?_,?_,?_,(),λz=>?_⟩
   .rw[Jb.mp d];exact na.2
   .rw[Zd h];exact .inr ⟨1,rfl,rfl,()⟩
   .rw[h,Aa,QQ];rfl
   .rw[Zd h] at z;lia
  .exact⟨rows,ks,l,h,R,T,by rwa [Ze h],rfl,g,λ_=>rfl⟩
 generalize (if rows=[] then(1:Int) else a)=du at *;rw[ej];refine⟨⟨(Hk (n:=0) hl' () T').mono (),rs,b,c,Hj hne T',R',hl',L'⟩,?_⟩;have i:Txt.join "\n" rs ++ "\n" = Txt.join "\n" (rs++[("" : Str)]):=by
  cases rs with
  |nil=>simp_all
  |cons r rs =>
   rw[CC,QQ];rfl
 have e:∀r∈rs++[("" : Str)],TxtOk 180 r/\10∉Ls r:=λr d=>by
  rcases Jc.mp d with z|z
  .exact T' r z
  .rw[Jb.mp z];exact na.2
 have j:(rs++[("" : Str)]).length<=31+1:=by simp_all
 have m:=Hk j () e;have f:=L'.on 3 false c rfl () λ_=>rfl;have o:(if false=true then du else if du=0 then(b.length:Int)+1 else du)=if du=0 then(rows.length:Int)+1 else du:=by
  rw[Ze (by decide)];by_cases z:du=0
  .rw[Zd z,Zd z,R'.len,hn z]
  .rw[Ze z,Ze z]
 rw[o] at f;rw[i];exact⟨m.mono (),_,_,c,Hj () e,RKs.snoc na.1 R',(),f⟩
def Sw {x:Str}{a:Int}{n:Nat}(h:TD x a n)(i:n<=800):(a=0/\(Kf [.str x]=.ok .non\/∃r k,Kf [.str x]=.ok (.tup [.lst (.bl false::r),.int k])))\/(a≠0/\Kf [.str x]=.ok (.tup [.lst (([true,false,false,false,false,false,false,false,false]:List Bool).map .bl),.int a])):=by
 obtain⟨rs,ks,l,f,R,j,L⟩:=h.is;rcases RL h.ok () f R () with ⟨z,e⟩|⟨m,z,e⟩
 .rcases L with ⟨_,d,_⟩|⟨m,b,_⟩
  .refine .inl ⟨d,?_⟩;rcases e with ⟨d,e⟩|⟨c,g,e⟩|⟨m,e⟩
   .exact .inl (Sb e)
   .have ⟨r,e⟩:=kE g e;exact .inr ⟨r,0,e⟩
   .exact .inr ⟨_,m,Sd e⟩
  simp_all
 .rcases L with ⟨b,_⟩|⟨o,b,d,p⟩
  .simp_all
  .rw[z] at b;obtain rfl:=Zqi b;exact .inr ⟨(),by rw[d];exact Sc e⟩
def pj:FS:=(jg (jl 12 (J1 Kf (Jr (ja 11) jd))) (jg (jH (Jw (jf jZ (ja 3) (dC (.int 0)))) (j3 (yI (jK (qD false) (ja 12)) (YM (jf jv (jf jv (ja 12) (dC (.int 0))) (dC (.int 0)))))) J6) (j3 (jf zE (ja 12) (qf (Jr (Q3 [none] (v3 (Jr (dC (.int 9)) jd)) (.one 0) (jf jZ (ja 0) (dC (.int 0)))) (Jr (ja 3) jd)))))))
def Hl {x:Str}{a:Int}{n:Nat}(h:TD x a n)(c:n<=800){d f u2 u4 i j l m o b:Option SV}:pj [d,f,u2,~~~(.int a),u4,i,j,l,m,o,b,~~~(.str x),none]=.ok (.ret (.bl true)):=by
 unfold pj;rcases Sw h c with ⟨rfl,e|⟨r,k,e⟩⟩|⟨q,e⟩
 .simp_all
 .have a0:jR [D.lst (.bl false::r),.int k] 0=some (.lst (.bl false::r)):=qw _ _;have p:jR (D.bl false::r) 0=some (.bl false):=qw _ _;simp[e,a0,p]
 .have g:=Pk [true,false,false,false,false,false,false,false,false] [true,false,false,false,false,false,false,false,false] a a;have s:WL [.int 9]=.ok [.int 0,.int 1,.int 2,.int 3,.int 4,.int 5,.int 6,.int 7,.int 8]:=rfl;have t:9<sizeLine:=Qr ()
  simp_all [qm,xV]
def zB (ns:Yf)(h:ns.length<=63):wV [.scr ns]=.ok (.bl true):=by
 obtain⟨ws,s,hw,_,W⟩:=bu (ns:=ns) (many:=6) ();have H:Ws6 ws:=⟨hw,λw hw=>(W w hw).nm⟩;obtain⟨rows,ks,l,e,g,i,j,m,o,c,C,R,T,L,E⟩:=Su h H;have B:Kl [.scr ns,.int 1]=.ok (.int (Vi ns 1)):=Ah ns 1;obtain⟨t,F⟩:=Sv R T L E;have G:JoinOk "\n" rows=true:=Aq (by
  have a:=Wx "\n" rows;have b:=t.ok.len;have u:("\n" : Str).length=1:=by decide +kernel
  rw[u] at a ⊢;lia)
 have I:=Ac G;have s:XV [.scr ns,.int 6]=.ok (.lst (ws.map .str)):=s;have J:=Ad t.ok (J2 (n:=1) (x:= "\n") (by decide +kernel)) ();have N:(rows.map D.str).length=rows.length:=Zql _;have v:jZ (.lst (rows.map .str)) (.lst [])=some (.bl (decide (rows=[]))):=by
  have p:plN 12 (.lst (rows.map D.str))=true:=Ul.mpr λd K=>by
   obtain⟨r,M,rfl⟩:=Ja.mp K;exact Kq (T r M).1.asc
  rw[WF p rfl];by_cases z:rows=[]
  .rw[z];exact Zt (λb=>some (D.bl b)) (Kz _)
  .rw[Zo z,zw.mpr λy=>z (List.map_eq_nil_iff.mp (D.lst.inj y))]
 have f:jZ (.lst []) (.lst [])=some (.bl true):=(WF rfl rfl).trans (Zt (λb=>some (D.bl b)) (Kz _));generalize Txt.join "\n" rows=x at *;have A:∀{d:D},Y9 [~~~(.scr ns),none,none,none,none,none,none,none,none,none,none,none,none]=.ok (.ret d)->wV [.scr ns]=.ok d:=λu=>by simp[wV,u]
 refine A ?_;unfold Y9;refine sq (sd':=[~~~(.scr ns),~~~(.lst (ws.map .str)),none,none,none,none,none,none,none,none,none,none,none]) (by simp[s]) ?_;refine sq (sd':=[~~~(.scr ns),~~~(.lst (ws.map .str)),some (.own false (.lst [])),none,none,none,none,none,none,none,none,none,none]) () ?_;refine sq (sd':=[~~~(.scr ns),~~~(.lst (ws.map .str)),some (.own false (.lst [])),~~~(.int 0),none,none,none,none,none,none,none,none,none]) () ?_;refine sq (sd':=xy ns (ws.map .str) [] 0 (-1) none none none none none none) () ?_;refine sq C ?_;refine sq (sd':=xy ns (ws.map .str) (rows.map .str) (if rows=[] then 1 else e) l g i j m o c) (by by_cases z:rows=[]<;>simp[v,z,f,xy]) ?_;refine sq (sd':=[~~~(.scr ns),~~~(.lst (ws.map .str)),~~~(.lst (rows.map .str)),~~~(.int (if rows=[] then 1 else e)),~~~(.int l),g,i,j,m,o,c,~~~(.str x),none]) (by simp[xy,qa,j7,I]) ?_;generalize (if rows=[] then(1:Int) else e)=du at *;by_cases q:Vi ns 1 / 5 % 8=1
 .exact sq (sd':=[~~~(.scr ns),~~~(.lst (ws.map .str)),~~~(.lst (rows.map .str)),~~~(.int (if du=0 then(rows.length:Int)+1 else du)),~~~(.int l),g,i,j,m,o,c,some (.val (.str (x ++ "\n"))),none]) (by by_cases z:du=0<;>simp[B,q,J,z,qa]) (Hl F ())
 .refine sq (sd':=[~~~(.scr ns),~~~(.lst (ws.map .str)),~~~(.lst (rows.map .str)),~~~(.int du),~~~(.int l),g,i,j,m,o,c,~~~(.str x),none]) (by simp[B,q]) ?_;exact Hl t ()
end My
set_option maxHeartbeats 4000000
namespace My
open PySem L2 L2.DL
def yQ (i:Nat):Stmt:=PySem.Challenge.pw_allfirst_k56_the_first_bad_row.main.body.getD i (.Pass ⟨0,0,0,0⟩)
noncomputable abbrev tbl:List (Str×Nat):=List.zip (List.map Str.ofString ["_law_cell_at", "_law_form_by", "_law_name_by", "_law_names_by", "is_name", "name_behind", "are_figures", "item_of", "with_items", "made_thing", "takes_thing", "takes_row", "drafts_of", "are_names", "look_at_names", "is_part", "look_at_parts", "look_at_items", "look_at_plans", "weights", "look_at_weights", "looked", "numbered", "numbers_of", "plan_of", "read", "_law_refusal", "_law_item_by", "_law_right_by", "_law_odd_by", "_law_spoiled_by", "_law_stands"]) [43,50,44,45,18,34,38,37,36,35,33,32,31,21,20,27,24,23,22,26,25,19,41,40,39,30,52,46,47,48,49,51]
noncomputable abbrev bl:Yh:=List.map Str.ofString ["ValueError", "abs", "all", "bool", "enumerate", "int", "isinstance", "len", "list", "max", "min", "range", "set", "str", "sum", "tuple"]
structure All (e:Ev):Prop extends Al e yQ tbl bl where
 x_AllError:Exc e.K e.mg "AllError" (e.C 0)
 x_BadName:Exc e.K e.mg "BadName" (e.C 1)
 x_BadPart:Exc e.K e.mg "BadPart" (e.C 2)
 x_BadPlan:Exc e.K e.mg "BadPlan" (e.C 3)
 x_BadRow:ExcI e.K e.mg "BadRow" (e.C 4) (e.C 5) "row"
 f_BadRow:∃fd,Fun e.K "__init__" "BadRow.__init__" (KQ (yQ 9) 0) (e.C 5) fd
 x_NoName:ExcI e.K e.mg "NoName" (e.C 6) (e.C 7) "row"
 f_NoName:∃fd,Fun e.K "__init__" "NoName.__init__" (KQ (yQ 10) 0) (e.C 7) fd
 x_NoPlan:Exc e.K e.mg "NoPlan" (e.C 8)
 x_TooLong:Exc e.K e.mg "TooLong" (e.C 9)
 x_TooMany:Exc e.K e.mg "TooMany" (e.C 10)
 x_Unlike:Exc e.K e.mg "Unlike" (e.C 11)
 o_BadName:Ucl e.K e.mg "BadName" (e.C 12)
 o_BadPart:Ucl e.K e.mg "BadPart" (e.C 13)
 o_BadPlan:Ucl e.K e.mg "BadPlan" (e.C 14)
 o_BadRow:Ucl e.K e.mg "BadRow" (e.C 15)
 o_NoName:Ucl e.K e.mg "NoName" (e.C 16)
 o_NoPlan:Ucl e.K e.mg "NoPlan" (e.C 17)
 o_TooLong:Ucl e.K e.mg "TooLong" (e.C 18)
 o_TooMany:Ucl e.K e.mg "TooMany" (e.C 19)
 o_Unlike:Ucl e.K e.mg "Unlike" (e.C 20)
 e_BadName:ExcCl e.K (e.C 1)
 e_BadPart:ExcCl e.K (e.C 2)
 e_BadPlan:ExcCl e.K (e.C 3)
 e_BadRow:ExcCl e.K (e.C 4)
 e_NoName:ExcCl e.K (e.C 6)
 e_TooLong:ExcCl e.K (e.C 9)
 n_BadName_BadPart:NoSub e.K (e.C 1) (e.C 13)
 n_BadName_BadPlan:NoSub e.K (e.C 1) (e.C 14)
 n_BadName_BadRow:NoSub e.K (e.C 1) (e.C 15)
 n_BadName_NoName:NoSub e.K (e.C 1) (e.C 16)
 n_BadName_NoPlan:NoSub e.K (e.C 1) (e.C 17)
 n_BadName_TooLong:NoSub e.K (e.C 1) (e.C 18)
 n_BadName_TooMany:NoSub e.K (e.C 1) (e.C 19)
 n_BadName_Unlike:NoSub e.K (e.C 1) (e.C 20)
 n_BadPart_BadName:NoSub e.K (e.C 2) (e.C 12)
 n_BadPart_BadPlan:NoSub e.K (e.C 2) (e.C 14)
 n_BadPart_BadRow:NoSub e.K (e.C 2) (e.C 15)
 n_BadPart_NoName:NoSub e.K (e.C 2) (e.C 16)
 n_BadPart_NoPlan:NoSub e.K (e.C 2) (e.C 17)
 n_BadPart_TooLong:NoSub e.K (e.C 2) (e.C 18)
 n_BadPart_TooMany:NoSub e.K (e.C 2) (e.C 19)
 n_BadPart_Unlike:NoSub e.K (e.C 2) (e.C 20)
 n_BadPlan_BadName:NoSub e.K (e.C 3) (e.C 12)
 n_BadPlan_BadPart:NoSub e.K (e.C 3) (e.C 13)
 n_BadPlan_BadRow:NoSub e.K (e.C 3) (e.C 15)
 n_BadPlan_NoName:NoSub e.K (e.C 3) (e.C 16)
 n_BadPlan_NoPlan:NoSub e.K (e.C 3) (e.C 17)
 n_BadPlan_TooLong:NoSub e.K (e.C 3) (e.C 18)
 n_BadPlan_TooMany:NoSub e.K (e.C 3) (e.C 19)
 n_BadPlan_Unlike:NoSub e.K (e.C 3) (e.C 20)
 n_BadRow_BadName:NoSub e.K (e.C 4) (e.C 12)
 n_BadRow_BadPart:NoSub e.K (e.C 4) (e.C 13)
 n_BadRow_BadPlan:NoSub e.K (e.C 4) (e.C 14)
 n_BadRow_NoName:NoSub e.K (e.C 4) (e.C 16)
 n_BadRow_NoPlan:NoSub e.K (e.C 4) (e.C 17)
 n_BadRow_TooLong:NoSub e.K (e.C 4) (e.C 18)
 n_BadRow_TooMany:NoSub e.K (e.C 4) (e.C 19)
 n_BadRow_Unlike:NoSub e.K (e.C 4) (e.C 20)
 n_NoName_BadName:NoSub e.K (e.C 6) (e.C 12)
 n_NoName_BadPart:NoSub e.K (e.C 6) (e.C 13)
 n_NoName_BadPlan:NoSub e.K (e.C 6) (e.C 14)
 n_NoName_BadRow:NoSub e.K (e.C 6) (e.C 15)
 n_NoName_NoPlan:NoSub e.K (e.C 6) (e.C 17)
 n_NoName_TooLong:NoSub e.K (e.C 6) (e.C 18)
 n_NoName_TooMany:NoSub e.K (e.C 6) (e.C 19)
 n_NoName_Unlike:NoSub e.K (e.C 6) (e.C 20)
 n_TooLong_BadName:NoSub e.K (e.C 9) (e.C 12)
 n_TooLong_BadPart:NoSub e.K (e.C 9) (e.C 13)
 n_TooLong_BadPlan:NoSub e.K (e.C 9) (e.C 14)
 n_TooLong_BadRow:NoSub e.K (e.C 9) (e.C 15)
 n_TooLong_NoName:NoSub e.K (e.C 9) (e.C 16)
 n_TooLong_NoPlan:NoSub e.K (e.C 9) (e.C 17)
 n_TooLong_TooMany:NoSub e.K (e.C 9) (e.C 19)
 n_TooLong_Unlike:NoSub e.K (e.C 9) (e.C 20)
 u_BadName_AllError:W.subIn e.K (.ref (e.C 1)) (.ref (e.C 0))=some true
 u_BadPart_AllError:W.subIn e.K (.ref (e.C 2)) (.ref (e.C 0))=some true
 u_BadPlan_AllError:W.subIn e.K (.ref (e.C 3)) (.ref (e.C 0))=some true
 u_BadRow_AllError:W.subIn e.K (.ref (e.C 4)) (.ref (e.C 0))=some true
 u_NoName_AllError:W.subIn e.K (.ref (e.C 6)) (.ref (e.C 0))=some true
 u_TooLong_AllError:W.subIn e.K (.ref (e.C 9)) (.ref (e.C 0))=some true
 v_BadName:W.subIn e.K (.ref (e.C 1)) (.type "ValueError")=some true
 v_BadPart:W.subIn e.K (.ref (e.C 2)) (.type "ValueError")=some true
 v_BadPlan:W.subIn e.K (.ref (e.C 3)) (.type "ValueError")=some true
 v_BadRow:W.subIn e.K (.ref (e.C 4)) (.type "ValueError")=some true
 v_NoName:W.subIn e.K (.ref (e.C 6)) (.type "ValueError")=some true
 v_TooLong:W.subIn e.K (.ref (e.C 9)) (.type "ValueError")=some true
 w_FIGURES:e.mg "FIGURES" = some (.str "0123456789" (e.t 0))
 y_KEPT_WORDS:KTup e.K e.mg "KEPT_WORDS" ["plan", "given", "all", "first", "part"]
 w_LETTERS:e.mg "LETTERS" = some (.str "abcdefghijklmnopqrstuvwxyz" (e.t 1))
 k_Book:ClsD e.K e.mg "Book" (e.C 21) ["plans"]
 l_Book:∃f fd,Mk e.K (e.C 21) f/\Fun e.K "__init__" "Book.__init__" (KQ (yQ 13) 0) f fd
 k_Draft:ClsD e.K e.mg "Draft" (e.C 22) ["name", "givens", "rows"]
 l_Draft:∃f fd,Mk e.K (e.C 22) f/\Fun e.K "__init__" "Draft.__init__" (KQ (yQ 29) 0) f fd
 k_Plan:ClsD e.K e.mg "Plan" (e.C 23) ["name", "givens", "rows"]
 l_Plan:∃f fd,Mk e.K (e.C 23) f/\Fun e.K "__init__" "Plan.__init__" (KQ (yQ 12) 0) f fd
section
variable {e:Ev}{k j:Nat}
def Sx (a:All e):cF e.P e.w e.K e.mg e.base "Book" ["plans"] 1 ["self", "plans"] Cd:=by
 obtain⟨f,d,c,b⟩:=a.l_Book;have m:=a.m;have k:=a.k_Book;exact⟨_,_,_,k,c,be (k:=0) (N:=["plans"]) (g:=(Jr (jr K0 (Jr (ja 1) jd)) jd)) b (JK (N:=["self", "plans"])) (by decide) (by decide) λ_ _ _ _ _ _ h=>(ZI k (by decide) (pv 0) (jy (AQ (x:= "list") Bi rfl (J7 m) AM (Js (qv 1) Ju))) EI),b.binds λ_ _ _ _ _ _=>vO λ_ _=>rfl⟩
def Sy (a:All e):p3 e.P e.w e.K e.mg e.base "Draft" ["name", "givens", "rows"] 1 ["self", "name"] Ag:=by
 obtain⟨f,d,c,b⟩:=a.l_Draft;have m:=a.m;have k:=a.k_Draft;exact⟨_,_,_,k,c,v6 (k:=0) (N:=["self", "name"]) (g:=XS) b (JK (N:=["self", "name"])) λ_ _ _ _ _ _ h=>by
  unfold XS;exact(Kk (BL k (by decide) (Qo (qv 0)) (Qo (qv 1))) (Kk (BL k (by decide) (Qo (qv 0)) (BE WQ)) (Kk (BL k (by decide) (Qo (qv 0)) (BE WQ)) XA))),b.binds λ_ _ _ _ _ _=>vO λ_ _=>rfl⟩
def Sz (a:All e):cF e.P e.w e.K e.mg e.base "Plan" ["name", "givens", "rows"] 1 ["self", "name", "givens", "rows"] Ce:=by
 obtain⟨f,d,c,b⟩:=a.l_Plan;have m:=a.m;have k:=a.k_Plan;exact⟨_,_,_,k,c,be (k:=0) (N:=["name", "givens", "rows"]) (g:=(Jr (ja 1) (Jr (jr K0 (Jr (ja 2) jd)) (Jr (jr K0 (Jr (ja 3) jd)) jd)))) b (JK (N:=["self", "name", "givens", "rows"])) (by decide) (by decide) λ_ _ _ _ _ _ h=>(ZI k (by decide) (pv 0) (qv 1) (ZI k (by decide) (pv 0) (jy (AQ (x:= "list") Bi rfl (J7 m) AM (Js (qv 2) Ju))) (ZI k (by decide) (pv 0) (jy (AQ (x:= "list") Bi rfl (J7 m) AM (Js (qv 3) Ju))) EI))),b.binds λ_ _ _ _ _ _=>cQ λ_ _ _ _=>rfl⟩
def S0 (a:All e):XI e.P e.w e.K e.mg e.base "BadRow" := by
 obtain⟨b,h⟩:=a.f_BadRow;exact⟨_,_,b,["self", "row"],a.x_BadRow,Fm h (JK (N:=["self", "row"])) λ_ _ _ _ _ _=>YD (Fl a.x_BadRow (pv 0) (pv 1) rfl),h.binds λ_ _ _ _ _ _=>vO λ_ _=>rfl⟩
def S1 (a:All e):XI e.P e.w e.K e.mg e.base "NoName" := by
 obtain⟨b,h⟩:=a.f_NoName;exact⟨_,_,b,["self", "row"],a.x_NoName,Fm h (JK (N:=["self", "row"])) λ_ _ _ _ _ _=>YD (Fl a.x_NoName (pv 0) (pv 1) rfl),h.binds λ_ _ _ _ _ _=>vO λ_ _=>rfl⟩
local macro_rules | `(tactic| trivial) => `(tactic| (intro _ _ _ _ _ _;first|exact vO λ_ _=>rfl|exact cR λ_ _ _=>rfl|exact cS λ_=>rfl|exact cQ λ_ _ _ _=>rfl|exact d λ_ _ _ _ _=>rfl|exact g λ_ _ _ _ _ _=>rfl))
def Hm (a:All e):Ca e "_law_cell_at" 1 ["script", "k"] (xA e.K Kl):=
 xF a.toAl 0 43 λF=>qI (N:=["script", "k"]) (g:=XT) F JK λ_ _ _ _ _ _ b=>by
 have m:=a.m;unfold XT;exact(Jy (JI (JR wm (qv 1) (JJ (x:= "len") Qu rfl (J7 m) Qq (Js (qv 0) Ju)) (JH _)) (Jz (JM (JB (JA b) (qv 0) (qv 1) (λ_ _=>rfl) (λ_ _=>rfl)))) JO) (Jz (JM Jt)))
def S2 (a:All e):Ca e "_law_form_by" 1 ["cell", "last"] (xA e.K Qc):=
 xF a.toAl 1 50 λF=>qI (N:=["cell", "last", "form"]) (g:=Ql) F JK λ_ _ _ _ _ _ b=>by
 unfold Ql;exact(Jy (J5 ju rfl (.inl rfl) (JB (JA b) (jy (QC (ES (ds:=[.int 2,.int 1,.int 2,.int 0,.int 2,.int 1,.int 2,.int 3]) rfl))) (jo Qm (qv 0) Jt) (λ_ _=>rfl) (λ_ _=>rfl))) (Jy (JI (qi (KR (JR (jY b.units) (qv 2) Jt (JH _)) (Vp (JR wn (jo Qm (jo QK (qv 0) Jt) Jt) Jt (JH _))))) (Jz (J5 ju rfl (.inl rfl) Jt)) JO) (Jy (JI (qi (Vq (JR (jY b.units) (qv 2) Jt (JH _)) (W7 (JR (jY b.units) (jo Qm (jo QK (qv 0) Jt) Jt) Jt (JH _))))) (Jz (JM (qv 2))) JO) (Jy (JI (JR (jY b.units) (qv 1) (yr V5 Jt) (JH _)) (Jz (JM Jt)) JO) (Jy (JI (qi (KR (JR (jY b.units) (qv 2) Jt (JH _)) (Vp (JR (jY b.units) (qv 1) Jt (JH _))))) (Jz (JM Jt)) JO) (Jz (JM (qv 2))))))))
def S3 (a:All e):Ca e "_law_name_by" 1 ["number", "used"] (xA e.K XU):=
 xF a.toAl 2 44 λF=>qI (N:=["number", "used", "letters", "words", "more", "name", "rest"]) (g:=Ai) F JK λ_ _ _ _ _ _ b=>by
 have m:=a.m;unfold Ai;exact(Jy (J5 ju rfl (.inl rfl) J3) (Jy (J5 ju rfl (.inl rfl) (jy (QC (Js J3 (Js J3 (Js J3 (Js J3 (Js J3 Ju)))))))) (Jy (QU PassesOwn.never rfl (YW rfl (J7 m) (Js (jo JE (JJ (x:= "len") Qu rfl (J7 m) Qq (Js (qv 1) Ju)) Jt) Ju)) (QM (Qb ju rfl (.inl rfl))) (Jy (J5 ju rfl (.inl rfl) (JB (JA b) (qv 2) (jo Qm (jo JE (qv 0) (qv 4)) Jt) (λ_ _=>rfl) (λ_ _=>rfl))) (Jy (J5 ju rfl (.inl rfl) (jo QK (jo JE (qv 0) (qv 4)) Jt)) (Jy (O3 60 PassesOwn.never (JR wn (qv 6) Jt (JH _)) (Jy (J5 ju rfl (.inl rfl) (jo JE (qv 5) (JB (JA b) (qv 2) (jo Qm (qv 6) Jt) (λ_ _=>rfl) (λ_ _=>rfl)))) (Jz (J5 ju rfl (.inl rfl) (jo QK (qv 6) Jt))))) (Jz (JI (qi (KR (Bg b.units (qv 5) (qv 1)) (Vp (Bg b.units (qv 5) (qv 3))))) (Jz (JM (qv 5))) JO)))))) (Jz (JM J3)))))
def S4 (a:All e):Ca e "_law_names_by" 2 ["script", "many"] (vd e.K XV):=
 xF a.toAl 3 45 λF=>v7 (N:=["script", "many", "base", "step", "found", "k"]) (g:=Aj) F JK λ_ _ _ _ _ _ d=>by
 have m:=a.m;have b:=(Hm a).mono (k:=1) ();have c:=(S3 a).mono (k:=1) ();unfold Aj;exact(Jy (J5 ju rfl (.inl rfl) (jo Qm (jQ b d rfl (Js (qv 0) (Js Jt Ju))) (jo WD Jt (jo AZ Jt Jt)))) (Jy (J5 ju rfl (.inl rfl) (JB (JA d) (jy (QC (Js Jt (Js Jt (Js Jt (Js Jt (Js Jt Ju))))))) (jo Qm (jQ b d rfl (Js (qv 0) (Js Jt Ju))) Jt) (λ_ _=>rfl) (λ_ _=>rfl))) (Jy (WA ju rfl (.inl rfl) (QC Ju)) (Jy (QU PassesOwn.never rfl (YW rfl (J7 m) (Js (qv 1) Ju)) (QM (Qb ju rfl (.inl rfl))) (Jz (AT (pv 4) (YO [4] (jQ c d rfl (Js (jo JE (qv 2) (jo WD (qv 5) (qv 3))) (Js (qv 4) Ju)))) (λf h=>Q7 Yn Yo Yp W4 f h)))) (Jz (AS (pv 4)))))))
def A0 (a:All e):Ca e "is_name" 1 ["text"] (xA e.K qj):=
 xF a.toAl 4 18 λF=>qI (N:=["text"]) (g:=yk) F JK λ_ _ _ _ _ _ f=>by
 have m:=a.m;have d:=a.w_FIGURES;have c:=a.y_KEPT_WORDS;have b:=a.w_LETTERS;unfold yk;exact(Jy (JI (qi (Vq (KD (WP xp xp Jt (JJ (x:= "len") Qu rfl (J7 m) Qq (Js (qv 0) Ju)) Jt)) (Vq (N9 (ws:=["plan", "given", "all", "first", "part"]) f.units c rfl (qv 0)) (W7 (JR N7 (JB (JA f) (qv 0) Jt (λ_ _=>rfl) (λ_ _=>rfl)) (ZH b rfl) rfl))))) (Jz (JM Wg)) JO) (Jz (JM (JJ (x:= "all") (Br rfl) rfl (J7 m) Bt (Js (jy (V4 ["sign"] [none] rfl rfl (EG (qv 0)) (λ_ _ _ _ _=>(QM (yp 0 ju))) (λ_ _ _ _ _=>(vt (KB B0 (qv 0) (ZH b rfl) rfl) (W9 (KB B0 (qv 0) (ZH d rfl) rfl)))))) Ju)))))
def Hn (a:All e):Ca e "name_behind" 2 ["start", "row"] (xA e.K Qw):=
 xF a.toAl 5 34 λF=>qI (N:=["start", "row", "name"]) (g:=Wv) F JK λ_ _ _ _ _ _ c=>by
 have m:=a.m;have b:=(A0 a).mono (k:=1) ();unfold Wv;exact(Jy (J5 ju rfl (.inl rfl) (ZG (qv 1) (WM (JJ (x:= "len") Qu rfl (J7 m) Qq (Js (qv 0) Ju))) VA)) (Jz (JM (DC (qi (KR (Q9 (XC (id:= "str.startswith") (qv 1) (qv 0) (λd f=>Q7 PySem.F.plainAttrs_str PySem.F.slot_str_startswith PySem.F.type_str_startswith O4 d f))) (Vp (Q9 (jQ b c rfl (Js (qv 2) Ju)))))) (qv 2) V3))))
def S5 (a:All e):Ca e "are_figures" 1 ["text"] (xA e.K KH):=
 xF a.toAl 6 38 λF=>qI (N:=["text"]) (g:=VR) F JK λ_ _ _ _ _ _ c=>by
 have m:=a.m;have b:=a.w_FIGURES;unfold VR;exact(Jz (JM (YN (Ni xp xp Jt (JJ (x:= "len") Qu rfl (J7 m) Qq (Js (qv 0) Ju)) Jt) (YN (KB (z9 c.units) (JB (JA c) (qv 0) Jt (λ_ _=>rfl) (λ_ _=>rfl)) J3 (JH _)) (W9 (JJ (x:= "all") (Br rfl) rfl (J7 m) Bt (Js (jy (V4 ["sign"] [none] rfl rfl (EG (qv 0)) (λ_ _ _ _ _=>(QM (yp 0 ju))) (λ_ _ _ _ _=>(KB B0 (qv 0) (ZH b rfl) rfl)))) Ju)))))))
def S6 (a:All e):Ca e "item_of" 2 ["text"] (xA e.K QF):=
 xF a.toAl 7 37 λF=>qI (N:=["text", "sign", "sides"]) (g:=VT) F JK λ_ _ _ _ _ _ b=>by
 have m:=a.m;have d:=(S5 a).mono (k:=1) ();have c:=(A0 a).mono (k:=1) ();unfold VT;exact(Jy (JI (Q9 (jQ c b rfl (Js (qv 0) Ju))) (Jz (JM (Kw (Js (qv 0) (Js Jt Ju))))) JO) (Jy (QU PassesOwn.never rfl (Q4 (Kw (Js J3 (Js J3 Ju)))) (QM (Qb ju rfl (.inl rfl))) (Jy (J5 ju rfl (.inl rfl) (jy (XD (id:= "str.split") (qv 0) (qv 1) (λf h=>Q7 PySem.F.plainAttrs_str PySem.F.slot_str_split PySem.F.type_str_split XF f h)))) (Jz (JI (qi (KR (JR (jY b.units) (JJ (x:= "len") Qu rfl (J7 m) Qq (Js (qv 2) Ju)) Jt (JH _)) (KR (Q9 (jQ c b rfl (Js (JB (JA b) (qv 2) Jt (λ_ _=>rfl) (λ_ _=>rfl)) Ju))) (Vp (Q9 (jQ d b rfl (Js (JB (JA b) (qv 2) Jt (λ_ _=>rfl) (λ_ _=>rfl)) Ju))))))) (Jz (JM (Kw (Js (JB (JA b) (qv 2) Jt (λ_ _=>rfl) (λ_ _=>rfl)) (Js (AO (x:= "int") OT rfl (J7 m) D8 (Js (jo JE (qv 1) (JB (JA b) (qv 2) Jt (λ_ _=>rfl) (λ_ _=>rfl))) Ju)) Ju))))) JO)))) (Jz (JM V3))))
def S7 (a:All e):Ca e "with_items" 3 ["name", "how", "words"] (xA e.K Vu):=
 xF a.toAl 8 36 λF=>qI (N:=["name", "how", "words", "items"]) (g:=WZ) F JK λ_ _ _ _ _ _ f=>by
 have m:=a.m;have b:=(S6 a).mono (k:=2) ();unfold WZ;exact(Jy (Eh ["text"] [none] ju rfl (.inl rfl) rfl rfl (Q4 (jy (XD (id:= "str.split") (XC (id:= "str.join") J3 (qv 2) (λc d=>Q7 PySem.F.plainAttrs_str PySem.F.slot_str_join PySem.F.type_str_join BI c d)) J3 (λc d=>Q7 PySem.F.plainAttrs_str PySem.F.slot_str_split PySem.F.type_str_split XF c d)))) (λ_ _ _ _ _=>(QM (yp 0 ju))) (λ_ _ _ _ _=>(jQ b f rfl (Js (qv 0) Ju)))) (Jz (JM (DC (DR f.units V3 (qv 3)) V3 (Kw (Js (qv 0) (Js (qv 1) (Js (qv 3) Ju))))))))
def S8 (a:All e):Ca e "made_thing" 4 ["row"] (xA e.K Qp):=
 xF a.toAl 9 35 λF=>qI (N:=["row", "words"]) (g:=Kc) F JK λ_ _ _ _ _ _ b=>by
 have m:=a.m;have d:=(A0 a).mono (k:=3) ();have c:=(S7 a).mono (k:=3) ();unfold Kc;exact(Jy (J5 ju rfl (.inl rfl) (jy (XD (id:= "str.split") (qv 0) J3 (λf h=>Q7 PySem.F.plainAttrs_str PySem.F.slot_str_split PySem.F.type_str_split XF f h)))) (Jy (JI (qi (Vq (JR wm (JJ (x:= "len") Qu rfl (J7 m) Qq (Js (qv 1) Ju)) Jt (JH _)) (Vq (JR (z9 b.units) (JB (JA b) (qv 1) Jt (λ_ _=>rfl) (λ_ _=>rfl)) J3 (JH _)) (W7 (KD (Q9 (jQ d b rfl (Js (JB (JA b) (qv 1) Jt (λ_ _=>rfl) (λ_ _=>rfl)) Ju)))))))) (Jz (JM V3)) JO) (Jy (JI (DR b.units (JB (JA b) (qv 1) Jt (λ_ _=>rfl) (λ_ _=>rfl)) (Kw (Js J3 (Js J3 Ju)))) (Jz (JM (jQ c b rfl (Js (JB (JA b) (qv 1) Jt (λ_ _=>rfl) (λ_ _=>rfl)) (Js (JB (JA b) (qv 1) Jt (λ_ _=>rfl) (λ_ _=>rfl)) (Js (jy (Er (qv 1) (WM Jt) VA VA)) Ju)))))) JO) (Jy (JI (qi (KR (JR (jY b.units) (JB (JA b) (qv 1) Jt (λ_ _=>rfl) (λ_ _=>rfl)) J3 (JH _)) (Vp (Q9 (jQ d b rfl (Js (JB (JA b) (qv 1) Jt (λ_ _=>rfl) (λ_ _=>rfl)) Ju)))))) (Jz (JM (jQ c b rfl (Js (JB (JA b) (qv 1) Jt (λ_ _=>rfl) (λ_ _=>rfl)) (Js (JB (JA b) (qv 1) Jt (λ_ _=>rfl) (λ_ _=>rfl)) (Js (jy (Er (qv 1) (WM Jt) VA VA)) Ju)))))) JO) (Jz (JM V3))))))
def S9 (a:All e):Ca e "takes_thing" 5 ["draft", "number", "row"] (wG e.K VU):=
 xF a.toAl 10 33 λF=>v6 (N:=["draft", "number", "row", "given", "made"]) (g:=KI) F JK λ_ _ _ _ _ _ f=>by
 have m:=a.m;have c:=(S8 a).mono (k:=4) ();have d:=(Hn a).mono (k:=4) ();have b:=a.k_Draft;unfold KI;exact(Kk (ZO (m:=some false) (J5 ju rfl (.inl rfl) (jQ d f rfl (Js J3 (Js (qv 2) Ju))))) (Kk (ZO (m:=some false) (J5 ju rfl (.inl rfl) (jQ c f rfl (Js (qv 2) Ju)))) (Kk (ZP (Ot 6 [0] (qi (KR (Bl (qv 3)) (Vp (JR (jY f.units) (Qh b (by decide) (qv 0)) (jy (QC Ju)) (JH _)))))) (Kk (BG (EX b (by decide) (Qo (qv 0))) (Qo (qv 3)) (λh i=>Q7 Yn Yo Yp W4 h i)) (VL (WR (Qo Wg)))) XA) (Kk (ZP (EW (Bl (qv 4))) (Kk (BG (EX b (by decide) (Qo (qv 0))) (Qo (Kw (Js (qv 1) (Js (qv 4) Ju)))) (λh i=>Q7 Yn Yo Yp W4 h i)) (VL (WR (Qo Wg)))) XA) (VL (WR (Qo Wg)))))))
def SA (a:All e):Ca e "takes_row" 6 ["drafts", "number", "row"] (wG e.K Kd):=
 xF a.toAl 11 32 λF=>v6 (N:=["drafts", "number", "row", "name"]) (g:=KJ) F JK λ_ _ _ _ _ _ f=>by
 have m:=a.m;have c:=(Hn a).mono (k:=5) ();have d:=(S9 a).mono (k:=5) ();have b:=Sy a;unfold KJ;exact(Kk (ZO (m:=some false) (J5 ju rfl (.inl rfl) (jQ c f rfl (Js J3 (Js (qv 2) Ju))))) (Kk (ZP (EW (Bl (qv 3))) (Kk (BG (Qo (qv 0)) (OL b (f.mono ()) rfl (Wn (Qo (qv 3)) WQ)) (λh i=>Q7 Yn Yo Yp W4 h i)) (VL (WR (Qo Wg)))) XA) (VL (WR (OO (kN 6 [0] (KB (gO f.units) (qv 0) (jy (QC Ju)) (JH _))) (OP (Ou d f rfl (Wn (kO (Qo (qv 0)) (Qo (yr V5 Jt)) (λ_ _=>rfl)) (Wn (Qo (qv 1)) (Wn (Qo (qv 2)) WQ))))))))))
def SE (a:All e):zR e "drafts_of" 7 ["text"] (xi e.K Vn):=
 xU a.toAl 12 31 λF=>Pc (kk:=6) (hw:=uC) (hx:=uu) (N:=["text", "drafts", "number", "row"]) (g:=Vv) F JK λ_ _ _ _ _ _ f=>by
 have m:=a.m;have c:=(SA a).mono (k:=6) ();have d:=a.x_BadRow;have b:=S0 a;unfold Vv;exact(Kk (Ov ju rfl (.inl rfl) (BE WQ)) (Kk (Ox Va rfl (OK rfl (J7 m) (Js (jy (XD (id:= "str.split") (qv 0) J3 (λh i=>Q7 PySem.F.plainAttrs_str PySem.F.slot_str_split PySem.F.type_str_split XF h i))) Ju)) (K3 [2,3] (Kt rfl (JY (Qb ju rfl (.inl rfl)) (JY (Qb ju rfl (.inl rfl)) Ks)))) (VL (ZP (ON (OM (Pb c f rfl (Wn (Qo (qv 1)) (Wn (Qo (qv 2)) (Wn (Qo (qv 3)) WQ)))))) (VL (ZO (m:=some false) (Fq Fp b (f.mono ()) rfl rfl (qv 2)))) XA))) (VL (WR (Qo (qv 1))))))
def g0 (a:All e):Ca e "are_names" 2 ["texts"] (xA e.K yO):=
 xF a.toAl 13 21 λF=>qI (N:=["texts"]) (g:=zM) F JK λ_ _ _ _ _ _ c=>by
 have m:=a.m;have b:=(A0 a).mono (k:=1) ();unfold zM;exact(Jz (JM (YN (JJ (x:= "all") (Br rfl) rfl (J7 m) Bt (Js (jy (V4 ["text"] [none] rfl rfl (Q4 (qv 0)) (λ_ _ _ _ _=>(QM (yp 0 ju))) (λ_ _ _ _ _=>(jQ b c rfl (Js (qv 0) Ju))))) Ju)) (W9 (KB (jY c.units) (NK (λh=>Dv L2.ST.call_lenK rfl (J7 m) Qq (W2 (AB (L2.ST.call_setK rfl) rfl (J7 m) L2.bt_set h) W1)) (Js (qv 0) Ju)) (JJ (x:= "len") Qu rfl (J7 m) Qq (Js (qv 0) Ju)) (JH _))))))
def gA (a:All e):zR e "look_at_names" 3 ["book"] (xi e.K zP):=
 xU a.toAl 14 20 λF=>VF (N:=["book", "plan"]) (g:=zN) F JK λ_ _ _ _ _ _ h=>by
 have f:=(g0 a).mono (k:=2) ();have b:=a.x_BadName;have d:=a.k_Book;have c:=a.k_Plan;unfold zN;exact(Jy (JI (KD (Q9 (Bv f h rfl (Js (jy (V4 ["plan"] [none] rfl rfl (Q4 (Qh d (by decide) (qv 0))) (λ_ _ _ _ _=>(QM (yp 0 ju))) (λ_ _ _ _ _=>(Qh c (by decide) (qv 0))))) Ju)))) (Jz (U9 U7 b rfl rfl J3)) JO) (Jz (QU Va rfl (Q4 (Qh d (by decide) (qv 0))) (QM (Qb ju rfl (.inl rfl))) (Jz (JI (KD (Q9 (Bv f h rfl (Js (jo JE (Qh c (by decide) (qv 1)) (jy (V4 ["name", "how", "items"] [none,none,none] rfl rfl (Q4 (Qh c (by decide) (qv 1))) (λ_ _ _ _ _=>(K3 [0,1,2] (Kt rfl (JY (yp 0 ju) (JY (yp 1 ju) (JY (yp 2 ju) Ks)))))) (λ_ _ _ _ _=>(qv 0))))) Ju)))) (Jz (U9 U7 b rfl rfl J3)) JO)))))
def Ho (a:All e):Ca e "is_part" 1 ["how"] (xA e.K yA):=
 xF a.toAl 15 27 λF=>qI (N:=["how"]) (g:=wM) F JK λ_ _ _ _ _ _ b=>by
 unfold wM;exact(Jz (JM (Ma b.units (qv 0) (Kw (Js J3 (Js J3 Ju))))))
def gx (a:All e):zR e "look_at_parts" 2 ["book"] (xi e.K wT):=
 xU a.toAl 16 24 λF=>VF (N:=["book", "givens", "plan", "name", "how", "items"]) (g:=wP) F JK λ_ _ _ _ _ _ h=>by
 have m:=a.m;have f:=(Ho a).mono (k:=1) ();have c:=a.x_BadPart;have d:=a.k_Book;have b:=a.k_Plan;unfold wP;exact(Jy (WA ju rfl (.inl rfl) Bj) (Jz (QU Va rfl (Q4 (Qh d (by decide) (qv 0))) (QM (Qb ju rfl (.inl rfl))) (Jy (QU Va rfl (Q4 (Qh b (by decide) (qv 2))) (K3 [3,4,5] (Kt rfl (JY (Qb ju rfl (.inl rfl)) (JY (Qb ju rfl (.inl rfl)) (JY (Qb ju rfl (.inl rfl)) Ks))))) (Jz (JI (qi (KR (Q9 (Bv f h rfl (Js (qv 4) Ju))) (Vp (JR (z9 h.units) (NW [1] (ND (JA h) (qv 1) (qv 4) ⟨rfl,rfl,rfl,rfl⟩)) (JJ (x:= "len") Qu rfl (J7 m) Qq (Js (qv 5) Ju)) (JH _))))) (Jz (U9 U7 c rfl rfl (X4 (X3 (qv 3) (VH X2))))) JO))) (Jz (DW (JA h) (pv 1) (Qh b (by decide) (qv 2)) (JJ (x:= "len") Qu rfl (J7 m) Qq (Js (Qh b (by decide) (qv 2)) Ju))))))))
def gy (a:All e):zR e "look_at_items" 1 ["plan"] (xi e.K zO):=
 xU a.toAl 17 23 λF=>VF (N:=["plan", "ahead", "name", "how", "items", "thing", "wait"]) (g:=wQ) F JK λ_ _ _ _ _ _ d=>by
 have m:=a.m;have b:=a.x_BadPlan;have c:=a.k_Plan;unfold wQ;exact(Jy (J5 ju rfl (.inl rfl) (JJ (x:= "len") Qu rfl (J7 m) Qq (Js (Qh c (by decide) (qv 0)) Ju))) (Jz (QU Va rfl (Q4 (Qh c (by decide) (qv 0))) (K3 [2,3,4] (Kt rfl (JY (Qb ju rfl (.inl rfl)) (JY (Qb ju rfl (.inl rfl)) (JY (Qb ju rfl (.inl rfl)) Ks))))) (Jy (JI (KD (WP xp xp Jt (JJ (x:= "len") Qu rfl (J7 m) Qq (Js (qv 4) Ju)) Jt)) (Jz (U9 U7 b rfl rfl (X4 (X3 (qv 2) (VH X2))))) JO) (Jy (QU Va rfl (Q4 (qv 4)) (K3 [5,6] (Kt rfl (JY (Qb ju rfl (.inl rfl)) (JY (Qb ju rfl (.inl rfl)) Ks)))) (Jy (JI (KD (WP xp wm Jt (qv 5) (qv 1))) (Jz (U9 U7 b rfl rfl (X4 (VH (X3 (qv 2) (VH X2)))))) JO) (Jz (JI (JR dq (JJ (x:= "abs") mE rfl (J7 m) MT (Js (qv 6) Ju)) (jo AZ Jt Jt) (JH _)) (Jz (U9 U7 b rfl rfl (X4 (VH (X3 (qv 2) (VH X2)))))) JO)))) (Jz (NU ju rfl (.inl rfl) Jt)))))))
def gz (a:All e):zR e "look_at_plans" 2 ["book"] (xi e.K zj):=
 xU a.toAl 18 22 λF=>VF (N:=["book", "plan"]) (g:=zi) F JK λ_ _ _ _ _ _ h=>by
 have m:=a.m;have f:=(gy a).mono (k:=1) ();have b:=a.x_BadPlan;have c:=a.k_Book;have d:=a.k_Plan;unfold zi;exact(Jy (JI (KD (WP xp xp Jt (JJ (x:= "len") Qu rfl (J7 m) Qq (Js (Qh c (by decide) (qv 0)) Ju)) Jt)) (Jz (U9 U7 b rfl rfl J3)) JO) (Jz (QU Va rfl (Q4 (Qh c (by decide) (qv 0))) (QM (Qb ju rfl (.inl rfl))) (Jy (JI (KD (WP xp xp Jt (JJ (x:= "len") Qu rfl (J7 m) Qq (Js (Qh d (by decide) (qv 1)) Ju)) Jt)) (Jz (U9 U7 b rfl rfl J3)) JO) (Jy (JI (KD (WP xp xp Jt (JJ (x:= "len") Qu rfl (J7 m) Qq (Js (Qh d (by decide) (qv 1)) Ju)) Jt)) (Jz (U9 U7 b rfl rfl J3)) JO) (Jz (WC (VE f VD h rfl (Js (qv 1) Ju)))))))))
def gu (a:All e):Ca e "weights" 2 ["book"] (vd e.K wR):=
 xF a.toAl 19 26 λF=>v7 (N:=["book", "told", "plan", "parts"]) (g:=wN) F JK λ_ _ _ _ _ _ f=>by
 have m:=a.m;have d:=(Ho a).mono (k:=1) ();have c:=a.k_Book;have b:=a.k_Plan;unfold wN;exact(Jy (WA ju rfl (.inr rfl) Bj) (Jy (QU PassesOwn.never rfl (Q4 (Qh c (by decide) (qv 0))) (QM (Qb ju rfl (.inl rfl))) (Jy (NC [1] ["name", "how", "items", "told"] [none,none,none,some 1] ju rfl (.inl rfl) rfl rfl (Q4 (Qh b (by decide) (qv 2))) (λ_ _ _ _ _=>(K3 [0,1,2] (Kt rfl (JY (yp 0 ju) (JY (yp 1 ju) (JY (yp 2 ju) Ks)))))) (λ_ _ _ _ _=>(Q9 (jQ d f rfl (Js (qv 1) Ju)))) (λ_ _ _ _ _=>(JB (JA f) (qv 3) (qv 1) (λ_ _=>rfl) (λ_ _=>rfl)))) (Jz (DW (JA f) (pv 1) (Qh b (by decide) (qv 2)) (jo JE (JJ (x:= "len") Qu rfl (J7 m) Qq (Js (Qh b (by decide) (qv 2)) Ju)) (YO [3] (JJ (x:= "sum") (mC rfl) rfl (J7 m) L7 (Js (qv 3) Ju)))))))) (Jz (AS (pv 1)))))
def gw (a:All e):zR e "look_at_weights" 3 ["book"] (xi e.K wS):=
 xU a.toAl 20 25 λF=>VF (N:=["book", "name", "own"]) (g:=wO) F JK λ_ _ _ _ _ _ d=>by
 have c:=(gu a).mono (k:=2) ();have b:=a.x_TooLong;unfold wO;exact(Jz (QU Va rfl (NT (EB c d rfl (Js (qv 0) Ju))) (K3 [1,2] (Kt rfl (JY (Qb ju rfl (.inl rfl)) (JY (Qb ju rfl (.inl rfl)) Ks)))) (Jz (JI (JR wn (qv 2) Jt (JH _)) (Jz (U9 U7 b rfl rfl (X4 (VH (X3 (qv 1) (VH X2)))))) JO))))
def gB (a:All e):zR e "looked" 4 ["book"] (xi e.K ym):=
 xU a.toAl 21 19 λF=>VF (N:=["book"]) (g:=y9) F JK λ_ _ _ _ _ _ h=>by
 have b:=(gA a).mono (k:=3) ();have c:=(gx a).mono (k:=3) ();have d:=(gz a).mono (k:=3) ();have f:=(gw a).mono (k:=3) ();unfold y9;exact(Jy (WC (VE b VD h rfl (Js (qv 0) Ju))) (Jy (WC (VE d VD h rfl (Js (qv 0) Ju))) (Jy (WC (VE c VD h rfl (Js (qv 0) Ju))) (Jz (WC (VE f VD h rfl (Js (qv 0) Ju)))))))
def SF (a:All e):zR e "numbered" 3 ["items", "numbers", "row"] (xi e.K VV):=
 xU a.toAl 22 41 λF=>VF (N:=["items", "numbers", "row", "name", "wait"]) (g:=XX) F JK λ_ _ _ _ _ _ d=>by
 have m:=a.m;have c:=a.x_NoName;have b:=S1 a;unfold XX;exact(Jy (QU Va rfl (Q4 (qv 0)) (K3 [3,4] (Kt rfl (JY (Qb ju rfl (.inl rfl)) (JY (Qb ju rfl (.inl rfl)) Ks)))) (Jz (JI (Bg d.units (qv 3) (qv 1)) (Jz (Fq Fp b (d.mono ()) rfl rfl (qv 2))) JO))) (Jz (JM (AO (x:= "tuple") Mo rfl (J7 m) LA (Js (jy (V4 ["name", "wait", "numbers"] [none,none,some 1] rfl rfl (Q4 (qv 0)) (λ_ _ _ _ _=>(K3 [0,1] (Kt rfl (JY (yp 0 ju) (JY (yp 1 ju) Ks))))) (λ_ _ _ _ _=>(Kw (Js (JB (JA d) (qv 2) (qv 0) (λ_ _=>rfl) (λ_ _=>rfl)) (Js (qv 1) Ju)))))) Ju)))))
def SG (a:All e):Ca e "numbers_of" 1 ["names"] (vd e.K Am):=
 xF a.toAl 23 40 λF=>v7 (N:=["names", "numbers", "number", "name"]) (g:=Ak) F JK λ_ _ _ _ _ _ d=>by
 have m:=a.m;unfold Ak;exact(Jy (WA ju rfl (.inl rfl) Bj) (Jy (QU PassesOwn.never rfl (MS rfl (J7 m) (Js (qv 0) Ju)) (K3 [2,3] (Kt rfl (JY (Qb ju rfl (.inl rfl)) (JY (Qb ju rfl (.inl rfl)) Ks)))) (Jz (OS (pv 1) (qv 3) (qv 2) (λb c=>Q7 PySem.F.plainAttrs_dict PySem.F.slot_dict_setdefault PySem.F.type_dict_setdefault OR b c)))) (Jz (AS (pv 1)))))
def SH (a:All e):zR e "plan_of" 4 ["draft"] (wH e.K KL):=
 xU a.toAl 24 39 λF=>bd (N:=["draft", "numbers", "rows", "number", "made"]) (g:=XY) F JK λ_ _ _ _ _ _ d=>by
 have m:=a.m;have f:=(SF a).mono (k:=3) ();have h:=(SG a).mono (k:=3) ();have b:=a.k_Draft;have c:=Sz a;unfold XY;exact(Jy (J5 ju rfl (.inl rfl) (jy (EB h d rfl (Js (jo JE (Qh b (by decide) (qv 0)) (jy (V4 ["number", "made"] [none,none] rfl rfl (Q4 (Qh b (by decide) (qv 0))) (λ_ _ _ _ _=>(K3 [0,1] (Kt rfl (JY (yp 0 ju) (JY (yp 1 ju) Ks))))) (λ_ _ _ _ _=>(JB (JA d) (qv 1) Jt (λ_ _=>rfl) (λ_ _=>rfl)))))) Ju)))) (Jy (WA ju rfl (.inl rfl) (QC Ju)) (Jy (QU Va rfl (Q4 (Qh b (by decide) (qv 0))) (K3 [3,4] (Kt rfl (JY (Qb ju rfl (.inl rfl)) (JY (Qb ju rfl (.inl rfl)) Ks)))) (Jz (AT (pv 2) (Kw (Js (JB (JA d) (qv 4) Jt (λ_ _=>rfl) (λ_ _=>rfl)) (Js (JB (JA d) (qv 4) Jt (λ_ _=>rfl) (λ_ _=>rfl)) (Js (VE f VD d rfl (Js (JB (JA d) (qv 4) Jt (λ_ _=>rfl) (λ_ _=>rfl)) (Js (qv 1) (Js (qv 3) Ju)))) Ju)))) (λi l=>Q7 Yn Yo Yp W4 i l)))) (Jz (DE [2] (LH (Fs c (d.mono ()) rfl (Js (Qh b (by decide) (qv 0)) (Js (Qh b (by decide) (qv 0)) (Js (qv 2) Ju))))))))))
def SI (a:All e):zR e "read" 8 ["text"] (xi e.K Ke):=
 xU a.toAl 25 30 λF=>VF (N:=["text", "book"]) (g:=Ww) F JK λ_ _ _ _ _ _ h=>by
 have c:=(SE a).mono (k:=7) ();have f:=(gB a).mono (k:=7) ();have d:=(SH a).mono (k:=7) ();have b:=Sx a;unfold Ww;exact(Jy (J5 ju rfl (.inl rfl) (jy (Fs b (h.mono ()) rfl (Js (jy (Oh ["draft"] [none] rfl rfl (Q4 (VE c VD h rfl (Js (qv 0) Ju))) (λ_ _ _ _ _=>(QM (yp 0 ju))) (λ_ _ _ _ _ i=>(jy (Nb d (Og rfl rfl rfl Oe i) h rfl (Js (qv 0) Ju)))))) Ju)))) (Jy (WC (VE f VD h rfl (Js (qv 1) Ju))) (Jz (JM (qv 1)))))
def SJ (a:All e):Ca e "_law_refusal" 9 ["text"] (xA e.K Kf):=
 xF a.toAl 26 52 λF=>qI (N:=["text", "error", "e", "marks", "row"]) (g:=W0) F JK λ_ _ _ _ _ _ S=>by
 have m:=a.m;have R:=(SI a).mono (k:=8) ();have O:∀c∈(["BadName", "BadPart", "BadPlan", "BadRow", "NoName", "TooLong"]:Yh),∀C,W.nsIn e.K mainGlobals c=some (some (.ref C))->ExcCl e.K C:=λc h C G=>by
  cases a;simp only[Uj,Uk,or_false] at h;rcases h with rfl|rfl|rfl|rfl|rfl|rfl<;>(first|cases (Exc.ns (by assumption)).symm.trans G|cases (ExcI.ns (by assumption)).symm.trans G)<;>assumption
 have P:∀c∈(["BadName", "BadPart", "BadPlan", "BadRow", "NoName", "TooLong"]:Yh),∀C,W.nsIn e.K mainGlobals c=some (some (.ref C))->∀u∈(["BadRow", "NoName", "BadName", "BadPlan", "BadPart", "TooLong", "NoPlan", "TooMany", "Unlike"]:Yh),∀U,W.nsIn e.K mainGlobals u=some (some (.ref U))->W.kitOne e.K (.ref C) (.ref U)=some (decide (c=u)):=λc h C G u T U X=>by
  cases a;simp only[Uj,Uk,or_false] at h T;rcases h with rfl|rfl|rfl|rfl|rfl|rfl<;>(first|cases (Exc.ns (by assumption)).symm.trans G|cases (ExcI.ns (by assumption)).symm.trans G)<;>rcases T with rfl|rfl|rfl|rfl|rfl|rfl|rfl|rfl|rfl<;>cases (Ucl.ns (by assumption)).symm.trans X<;>first|exact NoSub.one (by assumption)|exact Pe (by first|exact Exc.ns (by assumption)|exact ExcI.ns (by assumption)) (Ucl.ns (by assumption))
 have Q:∀c∈(["BadName", "BadPart", "BadPlan", "BadRow", "NoName", "TooLong"]:Yh),∀C,W.nsIn e.K mainGlobals c=some (some (.ref C))->W.subIn e.K (.ref C) (.type "ValueError")=some true:=λc h C G=>by
  cases a;simp only[Uj,Uk,or_false] at h;rcases h with rfl|rfl|rfl|rfl|rfl|rfl<;>(first|cases (Exc.ns (by assumption)).symm.trans G|cases (ExcI.ns (by assumption)).symm.trans G)<;>assumption
 have E:=a.x_AllError;have H:=a.x_BadName;have I:=a.x_BadPart;have J:=a.x_BadPlan;have p:=a.x_BadRow;have q:=a.x_NoName;have K:=a.x_TooLong;have r:=a.o_BadName;have s:=a.o_BadPart;have t:=a.o_BadPlan;have y:=a.o_BadRow;have z:=a.o_NoName;have A:=a.o_NoPlan;have v:=a.o_TooLong;have w:=a.o_TooMany;have B:=a.o_Unlike;have L:=a.e_BadRow;have M:=a.e_NoName;have b:=a.u_BadName_AllError;have d:=a.u_BadPart_AllError;have f:=a.u_BadPlan_AllError;have l:=a.u_BadRow_AllError;have o:=a.u_NoName_AllError;have i:=a.u_TooLong_AllError;unfold W0
 exact(Jy (J5 ju rfl (.inl rfl) V3) (Jy (Ny (j:=2) (cs:=["BadName", "BadPart", "BadPlan", "BadRow", "NoName", "TooLong"]) rfl rfl rfl (No R S rfl (Js (qv 0) Ju)) E rfl ju rfl rfl (λ_=>(Jz (J5 ju rfl (.inl rfl) (qv 2)))) (λY h=>by rcases Uj.mp h with rfl|h;(exact⟨_,H.ns,b⟩);rcases Uj.mp h with rfl|h;(exact⟨_,I.ns,d⟩);rcases Uj.mp h with rfl|h;(exact⟨_,J.ns,f⟩);rcases Uj.mp h with rfl|h;(exact⟨_,p.ns,l⟩);rcases Uj.mp h with rfl|h;(exact⟨_,q.ns,o⟩);rcases Uj.mp h with rfl|h;(exact⟨_,K.ns,i⟩);cases h)) (Jy (JI (Mx (qv 1)) (Jz (JM V3)) JO) (Jy (J5 ju rfl (.inl rfl) (jy (QC (Js (JJ (x:= "isinstance") (Vh O P Q) rfl (J7 m) Kv (Js (qv 1) (Js (Vs y.ns y.mgc rfl) Ju))) (Js (JJ (x:= "isinstance") (Vh O P Q) rfl (J7 m) Kv (Js (qv 1) (Js (Vs z.ns z.mgc rfl) Ju))) (Js (JJ (x:= "isinstance") (Vh O P Q) rfl (J7 m) Kv (Js (qv 1) (Js (Vs r.ns r.mgc rfl) Ju))) Ju)))))) (Jy (J5 ju rfl (.inl rfl) (jo JE (qv 3) (jy (QC (Js (JJ (x:= "isinstance") (Vh O P Q) rfl (J7 m) Kv (Js (qv 1) (Js (Vs t.ns t.mgc rfl) Ju))) (Js (JJ (x:= "isinstance") (Vh O P Q) rfl (J7 m) Kv (Js (qv 1) (Js (Vs s.ns s.mgc rfl) Ju))) (Js (JJ (x:= "isinstance") (Vh O P Q) rfl (J7 m) Kv (Js (qv 1) (Js (Vs v.ns v.mgc rfl) Ju))) Ju))))))) (Jy (J5 ju rfl (.inl rfl) (jo JE (qv 3) (jy (QC (Js (JJ (x:= "isinstance") (Vh O P Q) rfl (J7 m) Kv (Js (qv 1) (Js (Vs A.ns A.mgc rfl) Ju))) (Js (JJ (x:= "isinstance") (Vh O P Q) rfl (J7 m) Kv (Js (qv 1) (Js (Vs w.ns w.mgc rfl) Ju))) (Js (JJ (x:= "isinstance") (Vh O P Q) rfl (J7 m) Kv (Js (qv 1) (Js (Vs B.ns B.mgc rfl) Ju))) Ju))))))) (Jy (J5 ju rfl (.inl rfl) Jt) (Jy (JI (qi (Vq (Q9 (JB (JA S) (qv 3) Jt (λ_ _=>rfl) (λ_ _=>rfl))) (W7 (Q9 (JB (JA S) (qv 3) Jt (λ_ _=>rfl) (λ_ _=>rfl)))))) (Jz (J5 ju rfl (.inl rfl) (kQ (cs:=["BadRow", "NoName"]) (λY h C G=>by rcases Uj.mp h with rfl|h;(have G:=p.ns.symm.trans G;cases G;exact⟨L,p.no⟩);rcases Uj.mp h with rfl|h;(have G:=q.ns.symm.trans G;cases G;exact⟨M,q.no⟩);cases h) (qv 1)))) JO) (Jy (JI (qi (Vq (KD (Q9 (JJ (x:= "isinstance") (Vh O P Q) rfl (J7 m) Kv (Js (qv 1) (Js (Bh (n:= "ValueError") (x:= "ValueError") rfl (J7 m) N0 rfl) Ju))))) (Vq (KD (Q9 (JJ (x:= "isinstance") DU rfl (J7 m) Kv (Js (qv 4) (Js (Bh (n:= "int") (x:= "int") rfl (J7 m) D8 rfl) Ju))))) (W7 (Q9 (JJ (x:= "isinstance") DU rfl (J7 m) Kv (Js (qv 4) (Js (Bh (n:= "bool") (x:= "bool") rfl (J7 m) L8 rfl) Ju)))))))) (Jz (J5 ju rfl (.inl rfl) (yr V5 Jt))) JO) (Jz (JM (Kw (Js (qv 3) (Js (qv 4) Ju))))))))))))))
def SK (a:All e):Ca e "_law_item_by" 1 ["cell", "names"] (xA e.K Xc):=
 xF a.toAl 27 46 λF=>qI (N:=["cell", "names", "size"]) (g:=Ay) F JK λ_ _ _ _ _ _ b=>by
 have m:=a.m;unfold Ay;exact(Jy (J5 ju rfl (.inl rfl) (AO (x:= "str") mD rfl (J7 m) L9 (Js (jo JE Jt (jo Qm (jo QK (qv 0) Jt) (jo DJ (jo AZ Jt Jt) Jt))) Ju))) (Jz (JM (jo JE (JB (JA b) (qv 1) (jo Qm (qv 0) Jt) (λ_ _=>rfl) (λ_ _=>rfl)) (JB (JA b) (jy (QC (Js J3 (Js (jo JE J3 (qv 2)) (Js (jo JE J3 (qv 2)) Ju))))) (jo Qm (jo QK (qv 0) Jt) Jt) (λ_ _=>rfl) (λ_ _=>rfl))))))
def SL (a:All e):Ca e "_law_right_by" 2 ["form", "cell", "names"] (xA e.K Kn):=
 xF a.toAl 28 47 λF=>qI (N:=["form", "cell", "names", "items", "how"]) (g:=Xd) F JK λ_ _ _ _ _ _ b=>by
 have m:=a.m;have c:=(SK a).mono (k:=1) ();unfold Xd;exact(Jy (JI (JR (jY b.units) (qv 0) Jt (JH _)) (Jz (JM (jo JE J3 (JB (JA b) (qv 2) (jo Qm (qv 1) Jt) (λ_ _=>rfl) (λ_ _=>rfl))))) JO) (Jy (JI (JR (jY b.units) (qv 0) Jt (JH _)) (Jz (JM (jo JE J3 (JB (JA b) (qv 2) (jo Qm (qv 1) Jt) (λ_ _=>rfl) (λ_ _=>rfl))))) JO) (Jy (Eh ["k", "cell", "names"] [none,some 1,some 2] ju rfl (.inl rfl) rfl rfl (YW rfl (J7 m) (Js (jo JE Jt (jo Qm (jo QK (qv 1) Jt) Jt)) Ju)) (λ_ _ _ _ _=>(QM (yp 0 ju))) (λ_ _ _ _ _=>(jQ c b rfl (Js (jo JE (jo QK (qv 1) (jo JE Jt (jo WD Jt (qv 0)))) (jo WD Jt (qv 0))) (Js (qv 2) Ju))))) (Jy (J5 ju rfl (.inl rfl) (JB (JA b) (jy (QC (Js J3 (Js J3 (Js (jo JE J3 (JB (JA b) (qv 2) (jo Qm (jo QK (qv 1) Jt) Jt) (λ_ _=>rfl) (λ_ _=>rfl))) Ju))))) (jo Qm (qv 1) Jt) (λ_ _=>rfl) (λ_ _=>rfl))) (Jz (JM (jo JE (jo JE (jo JE (jo JE (jo JE J3 (JB (JA b) (qv 2) (jo Qm (jo QK (qv 1) Jt) Jt) (λ_ _=>rfl) (λ_ _=>rfl))) J3) (qv 4)) J3) (XC (id:= "str.join") J3 (qv 3) (λd f=>Q7 PySem.F.plainAttrs_str PySem.F.slot_str_join PySem.F.type_str_join BI d f)))))))))
def SM (a:All e):Ca e "_law_odd_by" 1 ["cell"] (xA e.K CB):=
 xF a.toAl 29 48 λF=>qI (N:=["cell", "some", "odd"]) (g:=CA) F JK λ_ _ _ _ _ _ b=>by
 have m:=a.m;unfold CA;exact(Jy (J5 ju rfl (.inl rfl) J3) (Jy (J5 ju rfl (.inl rfl) (jo JE (qv 1) J3)) (Jy (J5 ju rfl (.inl rfl) (jo JE (qv 1) J3)) (Jy (J5 ju rfl (.inl rfl) (jo JE (qv 1) J3)) (Jy (J5 ju rfl (.inl rfl) (jo JE (qv 1) J3)) (Jy (J5 ju rfl (.inl rfl) (jo JE (qv 1) J3)) (Jy (J5 ju rfl (.inl rfl) (jo JE (qv 1) J3)) (Jy (J5 ju rfl (.inl rfl) (jy (XD (id:= "str.split") (qv 1) J3 (λc d=>Q7 PySem.F.plainAttrs_str PySem.F.slot_str_split PySem.F.type_str_split XF c d)))) (Jz (JM (JB (JA b) (qv 2) (jo Qm (qv 0) (JJ (x:= "len") Qu rfl (J7 m) Qq (Js (qv 2) Ju))) (λ_ _=>rfl) (λ_ _=>rfl))))))))))))
def SN (a:All e):Ca e "_law_spoiled_by" 2 ["row", "cell"] (xA e.K Xf):=
 xF a.toAl 30 49 λF=>qI (N:=["row", "cell", "at", "far", "some"]) (g:=CD) F JK λ_ _ _ _ _ _ c=>by
 have m:=a.m;have b:=(SM a).mono (k:=1) ();unfold CD;exact(Jy (J5 ju rfl (.inl rfl) (XC (id:= "str.rfind") (qv 0) J3 (λd f=>Q7 PySem.F.plainAttrs_str PySem.F.slot_str_rfind PySem.F.type_str_rfind Ph d f))) (Jy (J5 ju rfl (.inl rfl) (jo JE J3 (jo Pj J3 Jt))) (Jy (J5 ju rfl (.inl rfl) (jy (QC (Js (jQ b c rfl (Js (jo QK (qv 1) Jt) Ju)) (Js (jo JE (qv 0) J3) (Js (jo JE (qv 0) J3) (Js (jo JE (jo JE (ZG (qv 0) VA (WM (qv 2))) J3) (ZG (qv 0) (WM (qv 2)) VA)) (Js J3 (Js J3 Ju))))))))) (Jy (J5 ju rfl (.inl rfl) (jo JE (qv 4) (jy (QC (Js (jo JE J3 (qv 3)) (Js (jo JE J3 (qv 3)) Ju)))))) (Jz (JM (JB (JA c) (qv 4) (jo Qm (qv 1) Jt) (λ_ _=>rfl) (λ_ _=>rfl))))))))
def SO (a:All e):Ca e "_law_stands" 1 ["form", "blank", "last"] (xA e.K QH):=
 xF a.toAl 31 51 λF=>qI (N:=["form", "blank", "last"]) (g:=Vz) F JK λ_ _ _ _ _ _ b=>by
 unfold Vz;exact(Jy (JI (qi (Vq (JR (jY b.units) (qv 0) Jt (JH _)) (W7 (JR (z9 b.units) (qv 1) Jt (JH _))))) (Jz (JM Wg)) JO) (Jy (JI (JR (jY b.units) (qv 0) Jt (JH _)) (Jz (JM Wg)) JO) (Jz (JM (YN (KB (z9 b.units) (qv 2) (yr V5 Jt) (JH _)) (W9 (vt (KB (jY b.units) (qv 0) Jt (JH _)) (W9 (KB wm (qv 2) Jt (JH _))))))))))
def SQ (a:All e){f:Addr}{r:FuncData}(F:Fun e.K "law" "law" (yQ 53) f r):FnOk e.P e.w e.K e.mg e.base xB 10 f r ["script"] (xA e.K wV):=
 qI (N:=["script", "names", "rows", "due", "last", "k", "item", "form", "blank", "row", "mixed", "text", "found"]) (g:=Y9) F JK λ_ _ _ _ _ _ b=>by
 have m:=a.m;have c:=(Hm a).mono (k:=9) ();have h:=(S2 a).mono (k:=9) ();have i:=(S4 a).mono (k:=9) ();have l:=(SJ a).mono (k:=9) ();have d:=(SL a).mono (k:=9) ();have n:=(SN a).mono (k:=9) ();have o:=(SO a).mono (k:=9) ();unfold Y9
 exact(Jy (J5 ju rfl (.inl rfl) (jy (kT i b rfl (Js (qv 0) (Js Jt Ju))))) (Jy (WA ju rfl (.inl rfl) (QC Ju)) (Jy (J5 ju rfl (.inl rfl) Jt) (Jy (J5 ju rfl (.inl rfl) (yr V5 Jt)) (Jy (QU PassesOwn.never rfl (O2 rfl (J7 m) (Js Jt (Js (JJ (x:= "min") (Mf rfl) rfl (J7 m) L6 (Js (JJ (x:= "len") Qu rfl (J7 m) Qq (Js (qv 0) Ju)) (Js Jt Ju))) (Js Jt Ju)))) (QM (Qb ju rfl (.inl rfl))) (Jy (J5 ju rfl (.inl rfl) (Kw (Js (JB (JA b) (qv 0) (qv 5) (λ_ _=>rfl) (λ_ _=>rfl)) (Js (jQ c b rfl (Js (qv 0) (Js (jo JE (qv 5) Jt) Ju))) Ju)))) (Jy (J5 ju rfl (.inl rfl) (jQ h b rfl (Js (JB (JA b) (qv 6) Jt (λ_ _=>rfl) (λ_ _=>rfl)) (Js (qv 4) Ju)))) (Jy (J5 ju rfl (.inl rfl) (JB (JA b) (jy (QC (Js Jt (Js Jt (Js (yr V5 Jt) Ju))))) (JJ (x:= "max") (Me rfl) rfl (J7 m) L5 (Js Jt (Js (jo DJ (jo Qm (JB (JA b) (qv 6) Jt (λ_ _=>rfl) (λ_ _=>rfl)) Jt) Jt) Ju))) (λ_ _=>rfl) (λ_ _=>rfl))) (Jy (J5 ju rfl (.inl rfl) (jQ d b rfl (Js (jo Qm (qv 7) Jt) (Js (jo QK (JB (JA b) (qv 6) Jt (λ_ _=>rfl) (λ_ _=>rfl)) Jt) (Js (qv 1) Ju))))) (Jy (JI (JR (jY b.units) (qv 7) Jt (JH _)) (Jy (J5 ju rfl (.inl rfl) (jo QK (jo Qm (jo JE (jo WD (JB (JA b) (qv 6) Jt (λ_ _=>rfl) (λ_ _=>rfl)) Jt) (jo WD (JB (JA b) (qv 6) Jt (λ_ _=>rfl) (λ_ _=>rfl)) Jt)) Jt) Jt)) (Jy (J5 ju rfl (.inl rfl) (jQ n b rfl (Js (jQ d b rfl (Js (jo Qm (jo QK (JB (JA b) (qv 6) Jt (λ_ _=>rfl) (λ_ _=>rfl)) Jt) Jt) (Js (jo QK (JB (JA b) (qv 6) Jt (λ_ _=>rfl) (λ_ _=>rfl)) Jt) (Js (qv 1) Ju)))) (Js (qv 10) Ju)))) (Jz (J5 ju rfl (.inl rfl) Jt)))) (Jz (JI (JR (jY b.units) (qv 8) Jt (JH _)) (Jz (J5 ju rfl (.inl rfl) (jo JE J3 (qv 9)))) (Jz (JI (qi (KR (JR (jY b.units) (qv 8) (yr V5 Jt) (JH _)) (Vp (JR wn (qv 7) Jt (JH _))))) (Jz (J5 ju rfl (.inl rfl) (ZG (qv 9) (WM Jt) VA))) (Jz (JI (JR (jY b.units) (qv 8) (yr V5 Jt) (JH _)) (Jz (J5 ju rfl (.inl rfl) Jt)) JO))))))) (Jy (AT (pv 2) (qv 9) (λp q=>Q7 Yn Yo Yp W4 p q)) (Jz (JI (Q9 (jQ o b rfl (Js (qv 7) (Js (qv 8) (Js (qv 4) Ju))))) (Jz (J5 ju rfl (.inl rfl) (qv 7))) (Jz (JI (JR (jY b.units) (qv 3) Jt (JH _)) (Jz (J5 ju rfl (.inl rfl) (YO [2] (JJ (x:= "len") Qu rfl (J7 m) Qq (Js (qv 2) Ju))))) JO))))))))))) (Jy (JI (LG [2] (JR (jY b.units) (qv 2) (jy (QC Ju)) (JH _))) (Jz (J5 ju rfl (.inl rfl) Jt)) JO) (Jy (DE [2] (J5 ju rfl (.inl rfl) (XC (id:= "str.join") J3 (qv 2) (λp q=>Q7 PySem.F.plainAttrs_str PySem.F.slot_str_join PySem.F.type_str_join BI p q)))) (Jy (JI (JR (jY b.units) (jo Qm (jo QK (jQ c b rfl (Js (qv 0) (Js Jt Ju))) Jt) Jt) Jt (JH _)) (Jy (J5 ju rfl (.inl rfl) (jo JE (qv 11) J3)) (Jz (JI (JR (jY b.units) (qv 3) Jt (JH _)) (Jz (J5 ju rfl (.inl rfl) (jo JE (YO [2] (JJ (x:= "len") Qu rfl (J7 m) Qq (Js (qv 2) Ju))) Jt))) JO))) JO) (Jy (J5 ju rfl (.inl rfl) (jQ l b rfl (Js (qv 11) Ju))) (Jy (JI (JR (jY b.units) (qv 3) Jt (JH _)) (Jz (JM (vt (kS (qv 12)) (W9 (kR (JB (JA b) (JB (JA b) (qv 12) Jt (λ_ _=>rfl) (λ_ _=>rfl)) Jt (λ_ _=>rfl) (λ_ _=>rfl))))))) JO) (Jz (JM (KB (gP b.units) (qv 12) (Kw (Js (jy (V4 ["k"] [none] rfl rfl (YW rfl (J7 m) (Js Jt Ju)) (λ_ _ _ _ _=>(QM (yp 0 ju))) (λ_ _ _ _ _=>(KB (jY b.units) (qv 0) Jt (JH _))))) (Js (qv 3) Ju))) (JH _))))))))))))))
end
def A1 (K:W.Frag):Sp:=λb H Q _=>∃(a:Addr) (ns:Yf),b=[.ref a]/\qC K H a (ns.map V.int)/\ns.length<=63/\∀c,Q (.bl true) c
def SR (K:W.Frag)(b:Yr)(H:Hp)(Q:VK)(E:XK)(h:A1 K b H Q E):xA K wV b H Q E:=by
 obtain⟨a,ns,rfl,c,d,q⟩:=h;refine⟨H,[.scr ns],jm.refl _,IsDs.mk (qo.mpr ⟨a,rfl,c⟩) .nil,?_⟩;rw[zB ns d];intro v g f e i;rw[jj.mp i];exact q f
def all_mk {l:W.OpenLaw}{w:World}{K:W.Frag}{h:Heap}{mg:Yc}{fa:Addr}(X:K.In h)(G:h.Ns mainGlobals mg)(hfa:mg "law" = some (.ref fa))
 {j:Addr}
 {a:Addr}
 {b:Addr}
 {c:Addr}
 {g I_BadRow:Addr}
 {i I_NoName:Addr}
 {C_NoPlan:Addr}
 {f:Addr}
 {I:Addr}
 {C_Unlike:Addr}
 {o:Addr}
 {p:Addr}
 {q:Addr}
 {x:Addr}
 {y:Addr}
 {t:Addr}
 {r:Addr}
 {m:Addr}
 {u:Addr}
 {J:Tok}
 {F:Addr} {dd_KEPT_WORDS:Option Addr} {n_KEPT_WORDS:Nat} {sl_KEPT_WORDS:Array Ye} {t0_KEPT_WORDS t1_KEPT_WORDS t2_KEPT_WORDS t3_KEPT_WORDS t4_KEPT_WORDS:Tok}
 {t_LETTERS:Tok}
 (d:ub K yQ tbl) (z:Nn K bl) (dl:wU K "law" (yQ 53))
 (a_AllError:W.nsIn K mainGlobals "AllError" = some (some (.ref j))) (q_AllError:W.excIn K j [.type "ValueError",.type "Exception",.type "BaseException",.type "object"] "ValueError.__new__" = true)
 (a_BadName:W.nsIn K mainGlobals "BadName" = some (some (.ref a))) (q_BadName:W.excIn K a [.type "ValueError",.type "Exception",.type "BaseException",.type "object"] "ValueError.__new__" = true)
 (a_BadPart:W.nsIn K mainGlobals "BadPart" = some (some (.ref b))) (q_BadPart:W.excIn K b [.type "ValueError",.type "Exception",.type "BaseException",.type "object"] "ValueError.__new__" = true)
 (a_BadPlan:W.nsIn K mainGlobals "BadPlan" = some (some (.ref c))) (q_BadPlan:W.excIn K c [.type "ValueError",.type "Exception",.type "BaseException",.type "object"] "ValueError.__new__" = true)
 (x_BadRow:BP K "BadRow" "BadRow.__init__" "row" (KQ (yQ 9) 0) g I_BadRow)
 (x_NoName:BP K "NoName" "NoName.__init__" "row" (KQ (yQ 10) 0) i I_NoName)
 (a_NoPlan:W.nsIn K mainGlobals "NoPlan" = some (some (.ref C_NoPlan))) (q_NoPlan:W.excIn K C_NoPlan [.type "ValueError",.type "Exception",.type "BaseException",.type "object"] "ValueError.__new__" = true)
 (a_TooLong:W.nsIn K mainGlobals "TooLong" = some (some (.ref f))) (q_TooLong:W.excIn K f [.type "ValueError",.type "Exception",.type "BaseException",.type "object"] "ValueError.__new__" = true)
 (a_TooMany:W.nsIn K mainGlobals "TooMany" = some (some (.ref I))) (q_TooMany:W.excIn K I [.type "ValueError",.type "Exception",.type "BaseException",.type "object"] "ValueError.__new__" = true)
 (a_Unlike:W.nsIn K mainGlobals "Unlike" = some (some (.ref C_Unlike))) (q_Unlike:W.excIn K C_Unlike [.type "ValueError",.type "Exception",.type "BaseException",.type "object"] "ValueError.__new__" = true)
 (b_BadName:W.nsIn K mainGlobals "BadName" = some (some (.ref o)))
 (b_BadPart:W.nsIn K mainGlobals "BadPart" = some (some (.ref p)))
 (b_BadPlan:W.nsIn K mainGlobals "BadPlan" = some (some (.ref q)))
 (b_BadRow:W.nsIn K mainGlobals "BadRow" = some (some (.ref x)))
 (b_NoName:W.nsIn K mainGlobals "NoName" = some (some (.ref y)))
 (b_NoPlan:W.nsIn K mainGlobals "NoPlan" = some (some (.ref t)))
 (b_TooLong:W.nsIn K mainGlobals "TooLong" = some (some (.ref r)))
 (b_TooMany:W.nsIn K mainGlobals "TooMany" = some (some (.ref m)))
 (b_Unlike:W.nsIn K mainGlobals "Unlike" = some (some (.ref u)))
 (e_BadName:ExcCl K a)
 (e_BadPart:ExcCl K b)
 (e_BadPlan:ExcCl K c)
 (e_BadRow:ExcCl K g)
 (e_NoName:ExcCl K i)
 (e_TooLong:ExcCl K f)
 (L:NoSub K a p)
 (M:NoSub K a q)
 (n_BadName_BadRow:NoSub K a x)
 (n_BadName_NoName:NoSub K a y)
 (n_BadName_NoPlan:NoSub K a t)
 (N:NoSub K a r)
 (O:NoSub K a m)
 (n_BadName_Unlike:NoSub K a u)
 (P:NoSub K b o)
 (Q:NoSub K b q)
 (n_BadPart_BadRow:NoSub K b x)
 (n_BadPart_NoName:NoSub K b y)
 (n_BadPart_NoPlan:NoSub K b t)
 (R:NoSub K b r)
 (S:NoSub K b m)
 (n_BadPart_Unlike:NoSub K b u)
 (T:NoSub K c o)
 (U:NoSub K c p)
 (n_BadPlan_BadRow:NoSub K c x)
 (n_BadPlan_NoName:NoSub K c y)
 (n_BadPlan_NoPlan:NoSub K c t)
 (Y:NoSub K c r)
 (Z:NoSub K c m)
 (n_BadPlan_Unlike:NoSub K c u)
 (n_BadRow_BadName:NoSub K g o)
 (n_BadRow_BadPart:NoSub K g p)
 (n_BadRow_BadPlan:NoSub K g q)
 (n_BadRow_NoName:NoSub K g y)
 (n_BadRow_NoPlan:NoSub K g t)
 (n_BadRow_TooLong:NoSub K g r)
 (n_BadRow_TooMany:NoSub K g m)
 (n_BadRow_Unlike:NoSub K g u)
 (n_NoName_BadName:NoSub K i o)
 (n_NoName_BadPart:NoSub K i p)
 (n_NoName_BadPlan:NoSub K i q)
 (n_NoName_BadRow:NoSub K i x)
 (n_NoName_NoPlan:NoSub K i t)
 (n_NoName_TooLong:NoSub K i r)
 (n_NoName_TooMany:NoSub K i m)
 (n_NoName_Unlike:NoSub K i u)
 (n_TooLong_BadName:NoSub K f o)
 (n_TooLong_BadPart:NoSub K f p)
 (n_TooLong_BadPlan:NoSub K f q)
 (n_TooLong_BadRow:NoSub K f x)
 (n_TooLong_NoName:NoSub K f y)
 (n_TooLong_NoPlan:NoSub K f t)
 (n_TooLong_TooMany:NoSub K f m)
 (n_TooLong_Unlike:NoSub K f u)
 (A:W.subIn K (.ref a) (.ref j)=some true)
 (B:W.subIn K (.ref b) (.ref j)=some true)
 (C:W.subIn K (.ref c) (.ref j)=some true)
 (u_BadRow_AllError:W.subIn K (.ref g) (.ref j)=some true)
 (u_NoName_AllError:W.subIn K (.ref i) (.ref j)=some true)
 (E:W.subIn K (.ref f) (.ref j)=some true)
 (v_BadName:W.subIn K (.ref a) (.type "ValueError")=some true)
 (v_BadPart:W.subIn K (.ref b) (.type "ValueError")=some true)
 (v_BadPlan:W.subIn K (.ref c) (.type "ValueError")=some true)
 (v_BadRow:W.subIn K (.ref g) (.type "ValueError")=some true)
 (v_NoName:W.subIn K (.ref i) (.type "ValueError")=some true)
 (v_TooLong:W.subIn K (.ref f) (.type "ValueError")=some true)
 (g_FIGURES:W.nsIn K mainGlobals "FIGURES" = some (some (.str "0123456789" J)))
 (g_KEPT_WORDS:W.nsIn K mainGlobals "KEPT_WORDS" = some (some (.ref F))) (h_KEPT_WORDS:K.lookup F=some ⟨.type "tuple",dd_KEPT_WORDS,.seq #[.str "plan" t0_KEPT_WORDS,.str "given" t1_KEPT_WORDS,.str "all" t2_KEPT_WORDS,.str "first" t3_KEPT_WORDS,.str "part" t4_KEPT_WORDS] n_KEPT_WORDS,sl_KEPT_WORDS⟩)
 (g_LETTERS:W.nsIn K mainGlobals "LETTERS" = some (some (.str "abcdefghijklmnopqrstuvwxyz" t_LETTERS)))
 (l_Book:B6 K "Book" "Book.__init__" ["plans"] (KQ (yQ 13) 0))
 (l_Draft:B6 K "Draft" "Draft.__init__" ["name", "givens", "rows"] (KQ (yQ 29) 0))
 (l_Plan:B6 K "Plan" "Plan.__init__" ["name", "givens", "rows"] (KQ (yQ 12) 0)):
 ∃fd:FuncData,(∀(s:Shared) (v:Value),BindsTo s fd ⟨[v],[]⟩ [("script",v)])/\∀base:Heap,K.In base->base.Ns mainGlobals mg->FnOk l.prog w K mg base xB 10 fa fd ["script"] (A1 K):=by
 obtain⟨f_law,fd_law,a_law,wV⟩:=dl;cases hfa.symm.trans (W.mg_of X G a_law);obtain⟨D_Book,fI_Book,fdI_Book,l1_Book,l2_Book,l3_Book,l4_Book,l5_Book⟩:=l_Book;obtain⟨D_Draft,fI_Draft,fdI_Draft,l1_Draft,l2_Draft,l3_Draft,l4_Draft,l5_Draft⟩:=l_Draft;obtain⟨D_Plan,fI_Plan,fdI_Plan,l1_Plan,l2_Plan,l3_Plan,l4_Plan,l5_Plan⟩:=l_Plan
 exact⟨fd_law,(by obtain⟨_,_,_,_,_,_,_,_,_,rfl,_,_⟩:=id wV.ex;exact λs v=>.of_eq rfl),λbase _ _=>(SQ (e:=⟨l.prog,w,K,mg,base,λn=>[j,a,b,c,g,I_BadRow,i,I_NoName,C_NoPlan,f,I,C_Unlike,o,p,q,x,y,t,r,m,u,D_Book,D_Draft,D_Plan].getD n 0,λn=>[J,t_LETTERS].getD n J⟩) ⟨⟨⟨h,X,G⟩,d,EU X G z⟩,⟨a_AllError,W.mg_of X G a_AllError,q_AllError⟩,⟨a_BadName,W.mg_of X G a_BadName,q_BadName⟩,⟨a_BadPart,W.mg_of X G a_BadPart,q_BadPart⟩,⟨a_BadPlan,W.mg_of X G a_BadPlan,q_BadPlan⟩,x_BadRow.1 X G,x_BadRow.2,x_NoName.1 X G,x_NoName.2,⟨a_NoPlan,W.mg_of X G a_NoPlan,q_NoPlan⟩,⟨a_TooLong,W.mg_of X G a_TooLong,q_TooLong⟩,⟨a_TooMany,W.mg_of X G a_TooMany,q_TooMany⟩,⟨a_Unlike,W.mg_of X G a_Unlike,q_Unlike⟩,⟨b_BadName,W.mg_of X G b_BadName⟩,⟨b_BadPart,W.mg_of X G b_BadPart⟩,⟨b_BadPlan,W.mg_of X G b_BadPlan⟩,⟨b_BadRow,W.mg_of X G b_BadRow⟩,⟨b_NoName,W.mg_of X G b_NoName⟩,⟨b_NoPlan,W.mg_of X G b_NoPlan⟩,⟨b_TooLong,W.mg_of X G b_TooLong⟩,⟨b_TooMany,W.mg_of X G b_TooMany⟩,⟨b_Unlike,W.mg_of X G b_Unlike⟩,e_BadName,e_BadPart,e_BadPlan,e_BadRow,e_NoName,e_TooLong,L,M,n_BadName_BadRow,n_BadName_NoName,n_BadName_NoPlan,N,O,n_BadName_Unlike,P,Q,n_BadPart_BadRow,n_BadPart_NoName,n_BadPart_NoPlan,R,S,n_BadPart_Unlike,T,U,n_BadPlan_BadRow,n_BadPlan_NoName,n_BadPlan_NoPlan,Y,Z,n_BadPlan_Unlike,n_BadRow_BadName,n_BadRow_BadPart,n_BadRow_BadPlan,n_BadRow_NoName,n_BadRow_NoPlan,n_BadRow_TooLong,n_BadRow_TooMany,n_BadRow_Unlike,n_NoName_BadName,n_NoName_BadPart,n_NoName_BadPlan,n_NoName_BadRow,n_NoName_NoPlan,n_NoName_TooLong,n_NoName_TooMany,n_NoName_Unlike,n_TooLong_BadName,n_TooLong_BadPart,n_TooLong_BadPlan,n_TooLong_BadRow,n_TooLong_NoName,n_TooLong_NoPlan,n_TooLong_TooMany,n_TooLong_Unlike,A,B,C,u_BadRow_AllError,u_NoName_AllError,E,v_BadName,v_BadPart,v_BadPlan,v_BadRow,v_NoName,v_TooLong,W.mg_of X G g_FIGURES,⟨_,W.mg_of X G g_KEPT_WORDS,λH=>.inr ⟨_,_,_,h_KEPT_WORDS,rfl,rfl,by show 5<=sizeLine;decide,.cons ⟨_,rfl⟩ (.cons ⟨_,rfl⟩ (.cons ⟨_,rfl⟩ (.cons ⟨_,rfl⟩ (.cons ⟨_,rfl⟩ .nil))))⟩⟩,W.mg_of X G g_LETTERS,⟨l1_Book,W.mg_of X G l1_Book,l2_Book,l3_Book⟩,⟨_,_,l4_Book,l5_Book⟩,⟨l1_Draft,W.mg_of X G l1_Draft,l2_Draft,l3_Draft⟩,⟨_,_,l4_Draft,l5_Draft⟩,⟨l1_Plan,W.mg_of X G l1_Plan,l2_Plan,l3_Plan⟩,⟨_,_,l4_Plan,l5_Plan⟩⟩ wV).imp (SR K)⟩
def walk {l:W.OpenLaw}{q:Program}{b:Yh}{m:(Yc)->Heap->Prop}{g:World->Heap->Prop}{d:DefRec}{K:Params->W.Frag}(o:l.most=some 63)(e:d.params.defaults=[])
 (p:∀(w:World) (h:Heap),g w h->(K w.params).In h)
 (F:∀(w:World) (c:Yc) (i:Addr) (h:Heap),(K w.params).In h->h.Ns mainGlobals c->c d.name=some (.ref i) ->
  ∃j:FuncData,(∀(s:Shared) (u:Value),BindsTo s j ⟨[u],[]⟩ [("script",u)])/\∀base:Heap,(K w.params).In base->base.Ns mainGlobals c->FnOk l.prog w (K w.params) c base xB 10 i j ["script"] (A1 (K w.params))):
 W.WalkO q b m g l.row.toRowW d [] (λf r=>PySem.call f r):=
 L2.walk_of (n:=63) (k:=10) (x:= "script") (CX:=λ_=>xB) (sp:=λw=>A1 (K w.params)) o (by decide) e ⟨rfl,by decide,by decide⟩ p F (λ_ _ a ns t _ v=>⟨a,ns,rfl,v,t,λ_=>rfl⟩) λ_ _ _ _ _ z=>z
end My
end
open PySem PySem.W PyProof.Rows
namespace PySem.W.Fast
def tw8195360780758393173:=()
def tw13199818083275857164:=()
def tw348820818031917979:=()
def tw17812098332244163442:=()
def tw2217898929710776561:=()
def tw3370225955219832314:=()
def tw2043967144370425116:=()
def tw5455050212966516244:=()
def tw6902503630704213150:=()
def tw10213377817345634898:=()
def tw3129048445942061277:=()
def tw17823362118797623106:=()
def tw13416326587926910608:=()
def tw8185410032625758656:=()
def tw12306453073341898907:=()
def tw17755679165670310582:=()
def tw18194977743024679313:=()
def tw1939307644934114677:=()
def tw15146495613304776002:=()
def tw17202745668291259600:=()
def tw2385268633094369886:=()
def tw17182151354752224630:=()
def tw546742410141247941:=()
def tw8983781943398530802:=()
def tw16180053400099789223:=()
def tw15715452247349343712:=()
def tw4682523894306916749:=()
def tw6699026563366537288:=()
def tw3550053415976245923:=()
def tw9618765515897433058:=()
def tw4879792448998249997:=()
def tw10435567151805122196:=()
def tw3685320617846632710:=()
def tw10769644604766367518:=()
def tw12136447061201429067:=()
def tw3164692326409327252:=()
def tw3875407663679429793:=()
def tw1838640986464022915:=()
def tw10421328746382182478:=()
def tw13251639502798515141:=()
def tw2672710176996739942:=()
def tw7170862105957042522:=()
def tw13694633891129044243:=()
def tw15326217334295203548:=()
def tw7986406226270356271:=()
def tw6820036719797996905:=()
def tw10160782219432584775:=()
def tw150206407588466076:=()
def tw2042310242960381441:=()
def tw3810182517880722492:=()
def tw4569145534423197303:=()
def tw17694740653946521795:=()
def tw15016972899888288178:=()
def tw6778503289353970826:=()
def tw15602305166053811106:=()
def tw4522411656318271968:=()
def tw7287469187842155997:=()
def tw14026578328503144908:=()
def tw7349069897703477944:=()
def tw14802680936434704211:=()
def tw11303419615805006278:=()
def tw10266364699759592105:=()
def tw654173062365192607:=()
def tw8639183479241377651:=()
def tw1888040602810077006:=()
def tw5641690323725062309:=()
def tw12484899251704414772:=()
def tw9603443976882562982:=()
def tw9914820943498284225:=()
def tw6972342388259336430:=()
def tw9640212126310557642:=()
def tw8736942834205682340:=()
def tw3150203718467234217:=()
def tw15083237324665616970:=()
def tw7127254844544106225:=()
def tw6896590410495960216:=()
def tw7018253161245005011:=()
def tw12592160411456922683:=()
def tw12003462259014656103:=()
def tw9690754983361950353:=()
def tw3508696906453978423:=()
def tw9483472399624034573:=()
def tw18383918365608953148:=()
def tw1243303680708222585:=()
def tw13570995522192999193:=()
def tw14604958905075865000:=()
def tw10176981268265450099:=()
def tw5443334854397015783:=()
def tw6615123928869685153:=()
def tw466746081906016391:=()
def tw10465036401634028526:=()
def tw11319535131721374784:=()
def tw4998736354767068519:=()
def tw16681583854086992681:=()
def tw8704752922462467475:=()
def tw10829671287746025960:=()
def tw270882627452209355:=()
def tw10105263793780268609:=()
def tw2327175632546572723:=()
def tw14784851183519931073:=()
def tw8248193355814780204:=()
def tw1596740413423466719:=()
def tw13431929938866435085:=()
def tw8398849579433164428:=()
def tw5714364841371077632:=()
def tw9594747054918863331:=()
def tw15925504307268692060:=()
def tw9542646164165828897:=()
def tw4084308315473341664:=()
def tw4227032469688789515:=()
def tw4076849385206417397:=()
def tw12246205198308607072:=()
def tw12264161906712133666:=()
def tw15166707401857471452:=()
def tw926780807626790280:=()
def tw15274071270388112642:=()
def tw12480269186186241376:=()
def tw7284647442287116219:=()
def tw31457058557186529:=()
def tw6009313633059101001:=()
def tw9436027939967791070:=()
def tw3102601860666614807:=()
def tw2848564525903280335:=()
def tw4584199076032547270:=()
def tw4971090830654203175:=()
def tw5318338233512952633:=()
def tw16063866310229828130:=()
def tw5591030576291423658:=()
def tw3974071572932072760:=()
def tw17822712108809028516:=()
def tw16075212867187258396:=()
def tw16240799950694706696:=()
def tw1683510850349772008:=()
def tw6164926960999819277:=()
def tw2810235845664715571:=()
def tw15318593124220953225:=()
def tw3583024120199066680:=()
def tw6210721736441837584:=()
def tw8513676957184606574:=()
def tw12486983001350735440:=()
def tw12419984882950159335:=()
def tw15835357649072842630:=()
def tw1015624553508417884:=()
def tw4459512321345066384:=()
def tw15091180539009800359:=()
def tw11403646098333907457:=()
def tw640954908755867535:=()
def tw8423293823851982071:=()
def tw12332463964991802185:=()
def tw6760410723193964445:=()
def tw4870831751518840898:=()
def tw730078920899932539:=()
def tw14975200605141493991:=()
def tw14567043752859255810:=()
def tw18027403241243012389:=()
def tw17667898926733011477:=()
def tw14183528374619094096:=()
def tw2691735694511255612:=()
def tw15049340809493616637:=()
def tw942584141635904321:=()
def tw10490565688045775536:=()
def tw3678545141147518193:=()
def tw11749980947458906161:=()
def tw5628803096412806481:=()
def tw6381975791507386625:=()
def tw12823369978539289433:=()
def tw1670772735056727863:=()
def tw18394798445212034081:=()
def tw4969267274869223622:=()
def tw1641537592808820557:=()
def tw10436439818354814914:=()
def tw105909540974512077:=()
def tw6864795756769308282:=()
def tw15483974507227686092:=()
def tw9330347202018032010:=()
def tw2219837370533629294:=()
def tw8569488955463421371:=()
def tw16977060700232020207:=()
def tw17678894057213359872:=()
def tw2198151791766738081:=()
def tw2866031586185155004:=()
def tw2551761439432159713:=()
def tw11022851802326193900:=()
def tw15597404282979680492:=()
def tw5172872817990437153:=()
def tw18084489907470981901:=()
def tw1336949688943837343:=()
def tw14425882948580724742:=()
def tw1089491313762669548:=()
def tw10719766375454771061:=()
def tw14874210242201047200:=()
def tw14059284242749171239:=()
def tw4643122439376421840:=()
def tw11871792225667480255:=()
def tw12189467631305365060:=()
def tw17028994292071582000:=()
def tw694772980195525047:=()
def tw5638251604684566916:=()
def tw4977708773885313350:=()
def tw11682621021057115689:=()
def tw17661391378435809864:=()
def tw17717055218454722754:=()
def tw9396840941608845528:=()
def tw13564267527184408720:=()
def tw16513882541688800999:=()
def tw6212060345821699107:=()
def tw17514120203349892693:=()
def tw16458849917886466501:=()
def tw12302136579002945661:=()
def tw10282125100457410017:=()
def tw8772867396623686486:=()
def tw3523884422102167073:=()
def tw2758580022963252120:=()
def tw7191521603450992872:=()
def tw8826979229410910195:=()
def tw6623735905415501550:=()
def tw8597024913298579644:=()
def tw18257255277495933939:=()
def tw10051976086594072028:=()
def tw9065258872081269530:=()
def tw10669232353215026633:=()
def tw10724216750557663792:=()
def tw4985495927503372426:=()
def tw8881527867135105332:=()
def tw1921239881929029123:=()
def tw15183427729264394007:=()
def tw1477340101838919364:=()
def tw1559507280093293581:=()
def tw11161431212240473507:=()
def tw15397308307933652371:=()
def tw8334174815939890611:=()
def tw13879150132479877698:=()
def tw5284549985762704644:=()
def tw17761740874327682172:=()
def tw14744258131601508847:=()
def tw5865803443053649489:=()
def tw10985427079176228337:=()
def tw9702555846415575624:=()
def tw13828445563135773414:=()
def tw17863749943451055087:=()
def tw15466093355412097760:=()
def tw17370563965198745745:=()
def tw11450177856631930836:=()
def tw15534628569237530383:=()
def tw12693763076455551849:=()
def tw5376480669173677735:=()
def tw2271984118447034166:=()
def tw10509959961844468629:=()
def tw6645604832414389660:=()
def tw2987891850019051655:=()
def tw797071919962080065:=()
def tw1767267308614776914:=()
def tw15931968284552290280:=()
def tw5900256774313529379:=()
def tw2038824342934818852:=()
def tw16216119182503344361:=()
def tw12361092070362531386:=()
def tw9200852231454664575:=()
def tw3913036931018367310:=()
def tw1290735476164451008:=()
def tw12401606653554386529:=()
def tw17118390321865864749:=()
def tw15580865069270041503:=()
def tw15074711568091917778:=()
def tw4930543103342679768:=()
def tw5227069318319325190:=()
def tw18001473870728811806:=()
def tw10871670104404724487:=()
def tw16125029472525300812:=()
def tw697732641115397415:=()
def tw16284668436866510779:=()
def tw5943312057004013069:=()
def tw14403731345915939875:=()
def tw17410398557123955450:=()
def tw12928834132651532638:=()
def tw3242943422795564587:=()
def tw9038501338066065524:=()
def tw8354015236200420897:=()
def tw2425517187071388428:=()
def tw12332380170752159510:=()
end PySem.W.Fast
set_option maxRecDepth 100000 in
set_option maxHeartbeats 0 in
theorem PySem.Challenge.cw_allfirst_k56_the_first_bad_row_holds : PySem.Challenge.rw_allfirst_k56_the_first_bad_row.Holds := by
 w_on;o_law;k_head;(case hw=>w_witness2)
 k_fill
 refine My.walk (l:=PySem.Challenge.rw_allfirst_k56_the_first_bad_row) rfl rfl (fun w h Y=>PySem.W.kIn_of Y) ?F
 case F =>
  intro w mg fa h KX G hmg
  refine' My.all_mk KX G hmg ?d ?z ?dl ?a_AllError ?q_AllError ?a_BadName ?q_BadName ?a_BadPart ?q_BadPart ?a_BadPlan ?q_BadPlan ?x_BadRow ?x_NoName ?a_NoPlan ?q_NoPlan ?a_TooLong ?q_TooLong ?a_TooMany ?q_TooMany ?a_Unlike ?q_Unlike ?b_BadName ?b_BadPart ?b_BadPlan ?b_BadRow ?b_NoName ?b_NoPlan ?b_TooLong ?b_TooMany ?b_Unlike ?e_BadName ?e_BadPart ?e_BadPlan ?e_BadRow ?e_NoName ?e_TooLong ?n_BadName_BadPart ?n_BadName_BadPlan ?n_BadName_BadRow ?n_BadName_NoName ?n_BadName_NoPlan ?n_BadName_TooLong ?n_BadName_TooMany ?n_BadName_Unlike ?n_BadPart_BadName ?n_BadPart_BadPlan ?n_BadPart_BadRow ?n_BadPart_NoName ?n_BadPart_NoPlan ?n_BadPart_TooLong ?n_BadPart_TooMany ?n_BadPart_Unlike ?n_BadPlan_BadName ?n_BadPlan_BadPart ?n_BadPlan_BadRow ?n_BadPlan_NoName ?n_BadPlan_NoPlan ?n_BadPlan_TooLong ?n_BadPlan_TooMany ?n_BadPlan_Unlike ?n_BadRow_BadName ?n_BadRow_BadPart ?n_BadRow_BadPlan ?n_BadRow_NoName ?n_BadRow_NoPlan ?n_BadRow_TooLong ?n_BadRow_TooMany ?n_BadRow_Unlike ?n_NoName_BadName ?n_NoName_BadPart ?n_NoName_BadPlan ?n_NoName_BadRow ?n_NoName_NoPlan ?n_NoName_TooLong ?n_NoName_TooMany ?n_NoName_Unlike ?n_TooLong_BadName ?n_TooLong_BadPart ?n_TooLong_BadPlan ?n_TooLong_BadRow ?n_TooLong_NoName ?n_TooLong_NoPlan ?n_TooLong_TooMany ?n_TooLong_Unlike ?u_BadName_AllError ?u_BadPart_AllError ?u_BadPlan_AllError ?u_BadRow_AllError ?u_NoName_AllError ?u_TooLong_AllError ?v_BadName ?v_BadPart ?v_BadPlan ?v_BadRow ?v_NoName ?v_TooLong ?g_FIGURES ?g_KEPT_WORDS ?h_KEPT_WORDS ?g_LETTERS ?l_Book ?l_Draft ?l_Plan
  (case d =>
   repeat (apply L2.DL.dfs_cons;focus (refine' ⟨_,_,?a,L2.fun_mk ?l ?c ?k⟩;(case a=>k_is);(case l=>k_is);(case c=>k_is);(case k=>k_is)))
   exact True.intro)
  (case z =>
   repeat (apply L2.DL.nn_cons;focus k_is)
   exact True.intro)
  (case dl=>refine' ⟨_,_,?a,L2.fun_mk ?l ?c ?k⟩;(case a=>k_is);(case l=>k_is);(case c=>k_is);(case k=>k_is))
  (case a_AllError=>k_is)
  (case q_AllError=>k_exc)
  (case a_BadName=>k_is)
  (case q_BadName=>k_exc)
  (case a_BadPart=>k_is)
  (case q_BadPart=>k_exc)
  (case a_BadPlan=>k_is)
  (case q_BadPlan=>k_exc)
  (case x_BadRow=>refine' L2.excI_mk ?ua ?ul ?um ?ud ?uh ?ue ?ui ?un ?uo ?us (L2.fun_mk ?uf ?uc ?uk);(case ua=>k_is);(case ul=>k_is);(case um=>rfl);(case ud=>rfl);(case uh=>rfl);(case ue=>k_exc);(case ui=>k_is);(case un=>k_is);(case uo=>show PySem.W.findIn _ _ _=_;k_is);(case us=>k_is);(case uf=>k_is);(case uc=>k_is);(case uk=>k_is))
  (case x_NoName=>refine' L2.excI_mk ?ua ?ul ?um ?ud ?uh ?ue ?ui ?un ?uo ?us (L2.fun_mk ?uf ?uc ?uk);(case ua=>k_is);(case ul=>k_is);(case um=>rfl);(case ud=>rfl);(case uh=>rfl);(case ue=>k_exc);(case ui=>k_is);(case un=>k_is);(case uo=>show PySem.W.findIn _ _ _=_;k_is);(case us=>k_is);(case uf=>k_is);(case uc=>k_is);(case uk=>k_is))
  (case a_NoPlan=>k_is)
  (case q_NoPlan=>k_exc)
  (case a_TooLong=>k_is)
  (case q_TooLong=>k_exc)
  (case a_TooMany=>k_is)
  (case q_TooMany=>k_exc)
  (case a_Unlike=>k_is)
  (case q_Unlike=>k_exc)
  (case b_BadName|b_BadPart|b_BadPlan|b_BadRow|b_NoName|b_NoPlan|b_TooLong|b_TooMany|b_Unlike=>k_is)
  (case e_BadName=>refine' ⟨?e0,?e1,?e2,?e3,?e4,?e5,?e6,?e7⟩;(case e0=>k_is);(case e1=>k_is);(case e2=>k_is);(case e3=>k_is);(case e4=>k_is);(case e5=>k_is);(case e6=>k_is);(case e7=>k_is))
  (case e_BadPart=>refine' ⟨?e0,?e1,?e2,?e3,?e4,?e5,?e6,?e7⟩;(case e0=>k_is);(case e1=>k_is);(case e2=>k_is);(case e3=>k_is);(case e4=>k_is);(case e5=>k_is);(case e6=>k_is);(case e7=>k_is))
  (case e_BadPlan=>refine' ⟨?e0,?e1,?e2,?e3,?e4,?e5,?e6,?e7⟩;(case e0=>k_is);(case e1=>k_is);(case e2=>k_is);(case e3=>k_is);(case e4=>k_is);(case e5=>k_is);(case e6=>k_is);(case e7=>k_is))
  (case e_BadRow=>refine' ⟨?e0,?e1,?e2,?e3,?e4,?e5,?e6,?e7⟩;(case e0=>k_is);(case e1=>k_is);(case e2=>k_is);(case e3=>k_is);(case e4=>k_is);(case e5=>k_is);(case e6=>k_is);(case e7=>k_is))
  (case e_NoName=>refine' ⟨?e0,?e1,?e2,?e3,?e4,?e5,?e6,?e7⟩;(case e0=>k_is);(case e1=>k_is);(case e2=>k_is);(case e3=>k_is);(case e4=>k_is);(case e5=>k_is);(case e6=>k_is);(case e7=>k_is))
  (case e_TooLong=>refine' ⟨?e0,?e1,?e2,?e3,?e4,?e5,?e6,?e7⟩;(case e0=>k_is);(case e1=>k_is);(case e2=>k_is);(case e3=>k_is);(case e4=>k_is);(case e5=>k_is);(case e6=>k_is);(case e7=>k_is))
  (case n_BadName_BadPart|n_BadName_BadPlan|n_BadName_BadRow|n_BadName_NoName|n_BadName_NoPlan|n_BadName_TooLong|n_BadName_TooMany|n_BadName_Unlike|n_BadPart_BadName|n_BadPart_BadPlan|n_BadPart_BadRow|n_BadPart_NoName|n_BadPart_NoPlan|n_BadPart_TooLong|n_BadPart_TooMany|n_BadPart_Unlike|n_BadPlan_BadName|n_BadPlan_BadPart|n_BadPlan_BadRow|n_BadPlan_NoName|n_BadPlan_NoPlan|n_BadPlan_TooLong|n_BadPlan_TooMany|n_BadPlan_Unlike|n_BadRow_BadName|n_BadRow_BadPart|n_BadRow_BadPlan|n_BadRow_NoName|n_BadRow_NoPlan|n_BadRow_TooLong|n_BadRow_TooMany|n_BadRow_Unlike|n_NoName_BadName|n_NoName_BadPart|n_NoName_BadPlan|n_NoName_BadRow|n_NoName_NoPlan|n_NoName_TooLong|n_NoName_TooMany|n_NoName_Unlike|n_TooLong_BadName|n_TooLong_BadPart|n_TooLong_BadPlan|n_TooLong_BadRow|n_TooLong_NoName|n_TooLong_NoPlan|n_TooLong_TooMany|n_TooLong_Unlike=>refine' ⟨?n0,?n1,?n2,?n3⟩;(case n0=>rfl);(case n1=>k_is);(case n2=>k_is);(case n3=>k_is))
  (case u_BadName_AllError|u_BadPart_AllError|u_BadPlan_AllError|u_BadRow_AllError|u_NoName_AllError|u_TooLong_AllError|v_BadName|v_BadPart|v_BadPlan|v_BadRow|v_NoName|v_TooLong|g_FIGURES|g_KEPT_WORDS|h_KEPT_WORDS|g_LETTERS=>k_is)
  (case l_Book=>refine' ⟨_,_,_,?ua,⟨?up,?uh,?uo,?us⟩,List.forall_mem_cons.mpr ⟨?uf0,List.forall_mem_nil _⟩,⟨?um,?ui,?un,?ue⟩,L2.fun_mk ?ul ?uc ?uk⟩;(case ua=>k_is);(case ui=>k_is);(case ul=>k_is);(case uc=>k_is);(case uk=>k_is);(case up=>k_is);(case uh=>k_is);(case uo=>k_is);(case us=>k_is);(case um=>k_is);(case un=>k_is);(case ue=>k_is);(case uf0=>show PySem.W.findIn _ _ _=_;k_is))
  (case l_Draft=>refine' ⟨_,_,_,?ua,⟨?up,?uh,?uo,?us⟩,List.forall_mem_cons.mpr ⟨?uf0,List.forall_mem_cons.mpr ⟨?uf1,List.forall_mem_cons.mpr ⟨?uf2,List.forall_mem_nil _⟩⟩⟩,⟨?um,?ui,?un,?ue⟩,L2.fun_mk ?ul ?uc ?uk⟩;(case ua=>k_is);(case ui=>k_is);(case ul=>k_is);(case uc=>k_is);(case uk=>k_is);(case up=>k_is);(case uh=>k_is);(case uo=>k_is);(case us=>k_is);(case um=>k_is);(case un=>k_is);(case ue=>k_is);(case uf0=>show PySem.W.findIn _ _ _=_;k_is);(case uf1=>show PySem.W.findIn _ _ _=_;k_is);(case uf2=>show PySem.W.findIn _ _ _=_;k_is))
  (case l_Plan=>refine' ⟨_,_,_,?ua,⟨?up,?uh,?uo,?us⟩,List.forall_mem_cons.mpr ⟨?uf0,List.forall_mem_cons.mpr ⟨?uf1,List.forall_mem_cons.mpr ⟨?uf2,List.forall_mem_nil _⟩⟩⟩,⟨?um,?ui,?un,?ue⟩,L2.fun_mk ?ul ?uc ?uk⟩;(case ua=>k_is);(case ui=>k_is);(case ul=>k_is);(case uc=>k_is);(case uk=>k_is);(case up=>k_is);(case uh=>k_is);(case uo=>k_is);(case us=>k_is);(case um=>k_is);(case un=>k_is);(case ue=>k_is);(case uf0=>show PySem.W.findIn _ _ _=_;k_is);(case uf1=>show PySem.W.findIn _ _ _=_;k_is);(case uf2=>show PySem.W.findIn _ _ _=_;k_is))
