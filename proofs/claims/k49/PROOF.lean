import PyProof.Rows.All
import Wide.All
import OpenK.AllK
import Wide.FinOn
import Lean
import PyProof.EqAt
import PyProof.EqKinds
import PyProof.TupleCall
import PyProof.P3Eq
import PyProof.NeData
import PySem.Challenge.RW_allfirst_k49_parts_run
set_option Elab.async false
set_option linter.all false
set_option maxRecDepth 100000
set_option bootstrap.genMatcherCode false
set_option compiler.extract_closed false
set_option genSizeOf false
noncomputable section
local macro_rules | `(tactic| omega) => `(tactic| lia)
theorem zau (_:True=True:=by rfl):True:=trivial
theorem zav (_:True:=by decide):True:=trivial
theorem zaw (_:Nat→True=True:=by intro _;rfl):True:=trivial
theorem zc0b {p0 p1:Prop}{P:Prop}(h:p0∧p1)(k:p0→p1→P):P:=by
 obtain ⟨h0,h1⟩:=h
 exact k h0 h1
theorem zc0c {p0 p1 p2:Prop}{P:Prop}(h:p0∧p1∧p2)(k:p0→p1→p2→P):P:=by
 obtain ⟨h0,h1,h2⟩:=h
 exact k h0 h1 h2
theorem zc0d {p0 p1 p2 p3:Prop}{P:Prop}(h:p0∧p1∧p2∧p3)(k:p0→p1→p2→p3→P):P:=by
 obtain ⟨h0,h1,h2,h3⟩:=h
 exact k h0 h1 h2 h3
theorem zc0e {p0 p1 p2 p3 p4:Prop}{P:Prop}(h:p0∧p1∧p2∧p3∧p4)(k:p0→p1→p2→p3→p4→P):P:=by
 obtain ⟨h0,h1,h2,h3,h4⟩:=h
 exact k h0 h1 h2 h3 h4
theorem zc1a.{u0}{α0:Sort u0}{p0 : α0→Prop}{P:Prop}(h:∃ a0,p0 a0)(k:∀ a0,p0 a0→P):P:=by
 obtain ⟨a0,h0⟩:=h
 exact k a0 h0
theorem zc1b.{u0}{α0:Sort u0}{p0 p1 : α0→Prop}{P:Prop}(h:∃ a0,p0 a0∧p1 a0)(k:∀ a0,p0 a0→p1 a0→P):P:=by
 obtain ⟨a0,h0,h1⟩:=h
 exact k a0 h0 h1
theorem zc1c.{u0}{α0:Sort u0}{p0 p1 p2 : α0→Prop}{P:Prop}(h:∃ a0,p0 a0∧p1 a0∧p2 a0)(k:∀ a0,p0 a0→p1 a0→p2 a0→P):P:=by
 obtain ⟨a0,h0,h1,h2⟩:=h
 exact k a0 h0 h1 h2
theorem zc1d.{u0}{α0:Sort u0}{p0 p1 p2 p3 : α0→Prop}{P:Prop}(h:∃ a0,p0 a0∧p1 a0∧p2 a0∧p3 a0)(k:∀ a0,p0 a0→p1 a0→p2 a0→p3 a0→P):P:=by
 obtain ⟨a0,h0,h1,h2,h3⟩:=h
 exact k a0 h0 h1 h2 h3
theorem zc1e.{u0}{α0:Sort u0}{p0 p1 p2 p3 p4 : α0→Prop}{P:Prop}(h:∃ a0,p0 a0∧p1 a0∧p2 a0∧p3 a0∧p4 a0)(k:∀ a0,p0 a0→p1 a0→p2 a0→p3 a0→p4 a0→P):P:=by
 obtain ⟨a0,h0,h1,h2,h3,h4⟩:=h
 exact k a0 h0 h1 h2 h3 h4
theorem zc2a.{u0,u1}{α0:Sort u0}{α1:Sort u1}{p0 : α0 → α1→Prop}{P:Prop}(h:∃ a0 a1,p0 a0 a1)(k:∀ a0 a1,p0 a0 a1→P):P:=by
 obtain ⟨a0,a1,h0⟩:=h
 exact k a0 a1 h0
theorem zc2b.{u0,u1}{α0:Sort u0}{α1:Sort u1}{p0 p1 : α0 → α1→Prop}{P:Prop}(h:∃ a0 a1,p0 a0 a1∧p1 a0 a1)(k:∀ a0 a1,p0 a0 a1→p1 a0 a1→P):P:=by
 obtain ⟨a0,a1,h0,h1⟩:=h
 exact k a0 a1 h0 h1
theorem zc2c.{u0,u1}{α0:Sort u0}{α1:Sort u1}{p0 p1 p2 : α0 → α1→Prop}{P:Prop}(h:∃ a0 a1,p0 a0 a1∧p1 a0 a1∧p2 a0 a1)(k:∀ a0 a1,p0 a0 a1→p1 a0 a1→p2 a0 a1→P):P:=by
 obtain ⟨a0,a1,h0,h1,h2⟩:=h
 exact k a0 a1 h0 h1 h2
theorem zc2d.{u0,u1}{α0:Sort u0}{α1:Sort u1}{p0 p1 p2 p3 : α0 → α1→Prop}{P:Prop}(h:∃ a0 a1,p0 a0 a1∧p1 a0 a1∧p2 a0 a1∧p3 a0 a1)(k:∀ a0 a1,p0 a0 a1→p1 a0 a1→p2 a0 a1→p3 a0 a1→P):P:=by
 obtain ⟨a0,a1,h0,h1,h2,h3⟩:=h
 exact k a0 a1 h0 h1 h2 h3
theorem zc3a.{u0,u1,u2}{α0:Sort u0}{α1:Sort u1}{α2:Sort u2}{p0 : α0 → α1 → α2→Prop}{P:Prop}(h:∃ a0 a1 a2,p0 a0 a1 a2)(k:∀ a0 a1 a2,p0 a0 a1 a2→P):P:=by
 obtain ⟨a0,a1,a2,h0⟩:=h
 exact k a0 a1 a2 h0
theorem zc3b.{u0,u1,u2}{α0:Sort u0}{α1:Sort u1}{α2:Sort u2}{p0 p1 : α0 → α1 → α2→Prop}{P:Prop}(h:∃ a0 a1 a2,p0 a0 a1 a2∧p1 a0 a1 a2)(k:∀ a0 a1 a2,p0 a0 a1 a2→p1 a0 a1 a2→P):P:=by
 obtain ⟨a0,a1,a2,h0,h1⟩:=h
 exact k a0 a1 a2 h0 h1
theorem zc3c.{u0,u1,u2}{α0:Sort u0}{α1:Sort u1}{α2:Sort u2}{p0 p1 p2 : α0 → α1 → α2→Prop}{P:Prop}(h:∃ a0 a1 a2,p0 a0 a1 a2∧p1 a0 a1 a2∧p2 a0 a1 a2)(k:∀ a0 a1 a2,p0 a0 a1 a2→p1 a0 a1 a2→p2 a0 a1 a2→P):P:=by
 obtain ⟨a0,a1,a2,h0,h1,h2⟩:=h
 exact k a0 a1 a2 h0 h1 h2
theorem zc4a.{u0,u1,u2,u3}{α0:Sort u0}{α1:Sort u1}{α2:Sort u2}{α3:Sort u3}{p0 : α0 → α1 → α2 → α3→Prop}{P:Prop}(h:∃ a0 a1 a2 a3,p0 a0 a1 a2 a3)(k:∀ a0 a1 a2 a3,p0 a0 a1 a2 a3→P):P:=by
 obtain ⟨a0,a1,a2,a3,h0⟩:=h
 exact k a0 a1 a2 a3 h0
namespace L2
open PySem PySem.Spec PyProof.Rows
abbrev Key:=Sum Int Str
noncomputable def zfs:Key→Value→Bool
 | .inl k,v=>Value.isInt k v
 | .inr x,v=>Value.isStrOf x v
noncomputable def keyH (w:World):Key→Int
 | .inl k=>hashInt k
 | .inr x=>hashStr w x
theorem za1:∀ {k:Key} {v:Value},zfs k v=true→(∃ i t,k=Sum.inl i∧v=Value.int i t)∨(∃ x t,k=Sum.inr x∧v=Value.str x t)
 | .inl i,v,h=>by
  obtain ⟨t,e⟩:=Value.isInt_shape (k:=i) (v:=v) h
  exact .inl ⟨i,t,rfl,e⟩
 | .inr x,v,h=>by
  obtain ⟨t,e⟩:=Value.isStrOf_shape (x:=x) (v:=v) h
  exact .inr ⟨x,t,rfl,e⟩
theorem zfL (i:Int)(t:Tok):zfs (.inl i) (.int i t)=true:=by simp [zfs,Value.isInt]
theorem zhc (x:Str)(t:Tok):zfs (.inr x) (.str x t)=true:=by simp [zfs,Value.isStrOf]
theorem zly (a b:Int):decide ((Sum.inl a:Key)=Sum.inl b)=(a == b):=by
 by_cases e:a=b
 ·subst e;simp -iota
 ·have h:¬ (Sum.inl a:Key)=Sum.inl b:=fun q=>e (Sum.inl.inj q)
  rw [decide_eq_false h]
  exact (beq_eq_false_iff_ne.mpr e).symm
theorem zli (a b:Str):decide ((Sum.inr a:Key)=Sum.inr b)=decide (a=b):=by
 by_cases e:a=b
 ·subst e;simp -iota
 ·have h:¬ (Sum.inr a:Key)=Sum.inr b:=fun q=>e (Sum.inr.inj q)
  rw [decide_eq_false h,decide_eq_false e]
theorem zlh (a:Int)(b:Str):decide ((Sum.inl a:Key)=Sum.inr b)=false:=decide_eq_false (fun q=>nomatch q)
theorem zlU (a:Str)(b:Int):decide ((Sum.inr a:Key)=Sum.inl b)=false:=decide_eq_false (fun q=>nomatch q)
def zaS (prog:Program)(w:World):PySem.KeyKind prog w Key where
 is:=zfs
 hash:=keyH w
 inj:=fun v a b ha hb=>by
  rcases za1 ha with ⟨i,t,rfl,rfl⟩|⟨x,t,rfl,rfl⟩
  ·rcases za1 hb with ⟨j,u,rfl,e⟩|⟨y,u,rfl,e⟩
   ·injection e with e1 _;rw [e1]
   ·exact nomatch e
  ·rcases za1 hb with ⟨j,u,rfl,e⟩|⟨y,u,rfl,e⟩
   ·exact nomatch e
   ·injection e with e1 _;rw [e1]
 byValue:=fun k v h=>by
  rcases za1 h with ⟨i,t,rfl,rfl⟩|⟨x,t,rfl,rfl⟩<;>rfl
 pyHash:=fun hv h=>by
  rcases za1 hv with ⟨i,t,rfl,rfl⟩|⟨x,t,rfl,rfl⟩
  ·exact wpAny_pyHash_int h
  ·exact wpAny_pyHash_str h
 eqBool:=fun hu hv h=>by
  rcases za1 hu with ⟨i,t,rfl,rfl⟩|⟨x,t,rfl,rfl⟩
  ·rcases za1 hv with ⟨j,u,rfl,rfl⟩|⟨y,u,rfl,rfl⟩
   ·rw [zly] at h;exact wpAny_eqBool_int h
   ·rw [zlh] at h;exact SeqAt.EqAt.int_str i t y u _ _ _ _ h
  ·rcases za1 hv with ⟨j,u,rfl,rfl⟩|⟨y,u,rfl,rfl⟩
   ·rw [zlU] at h;exact SeqAt.EqAt.str_int x t j u _ _ _ _ h
   ·rw [zli] at h;exact wpAny_eqBool_str h
 «strs»:=fun k x t v h=>by
  rcases za1 h with ⟨i,u,rfl,e⟩|⟨y,u,rfl,e⟩
  ·exact nomatch e
  ·injection e with e1 _
   subst e1
   cases v<;>rfl
theorem zev (prog:Program)(w:World)(i:Int)(t:Tok):(zaS prog w).is (.inl i) (.int i t)=true:=zfL i t
theorem ze2 (prog:Program)(w:World)(x:Str)(t:Tok):(zaS prog w).is (.inr x) (.str x t)=true:=zhc x t
end L2
namespace L2
open PySem PySem.Spec PyProof.Rows
inductive V where
 | non|bl (b:Bool)|int (i:Int)|str (x:Str)|byt (b:Array UInt8)|flt (b:UInt64)|ref (a:Addr)|ty (n:String)
 deriving DecidableEq
noncomputable def RelV:V→Value→Prop
 | .non,u=>u=Value.none
 | .bl b,u=>u=Value.bool b
 | .int i,u => ∃ t,u=Value.int i t
 | .str x,u => ∃ t,u=Value.str x t
 | .byt b,u => ∃ t,u=Value.bytes b t
 | .flt b,u => ∃ t,u=Value.float b t
 | .ref a,u=>u=Value.ref a
 | .ty n,u=>u=Value.type n
abbrev Vals:List V→List Value→Prop:=Paired RelV
theorem Vals.length {xs:List V}{us:List Value}(r:Vals xs us):xs.length=us.length:=Paired.length r
theorem Vals.get:∀ {xs:List V} {us:List Value} {i:Nat} {x:V},Vals xs us→xs[i]? = some x→∃ u,us[i]? = some u∧RelV x u
 | _,_,_,_,.nil,e=>by simp -iota at e
 | _,_,0,_,.cons r _,e=>by simp -iota at e;subst e;exact ⟨_,rfl,r⟩
 | _,_,i+1,x,.cons _ t,e=>by
  refine zc1b (Vals.get (i:=i) (x:=x) t (by simpa -iota using e)) fun u h1 h2 => ?_
  exact ⟨u,by simpa -iota using h1,h2⟩
theorem Vals.set {x:V}{u:Value}(r:RelV x u):∀ {xs:List V} {us:List Value} (i:Nat),Vals xs us→Vals (xs.set i x) (us.set i u)
 | _,_,_,.nil=>.nil
 | _,_,0,.cons _ t=>.cons r t
 | _,_,i+1,.cons q t=>.cons q (Vals.set r i t)
theorem Vals.append:∀ {xs ys:List V} {us ws:List Value},Vals xs us→Vals ys ws→Vals (xs++ys) (us++ws):=fun h s=>by
 induction h with
 | nil=>exact s
 | cons r _ ih=>exact .cons r ih
theorem Vals.none_of:∀ {xs:List V} {us:List Value} {i:Nat},Vals xs us→xs[i]? = none→us[i]? = none:=fun {xs us i} r e=>by
 have h1:=r.length
 have h2:xs.length≤i:=List.getElem?_eq_none_iff.mp e
 exact List.getElem?_eq_none_iff.mpr (by omega)
def RelO:Option V→Option Value→Prop
 | some v,some u=>RelV v u
 | none,none=>True
 | _,_=>False
def KV {κ : Type}:List (κ × V)→List (κ × Value)→Prop:=Paired fun (p : κ × V) (q : κ × Value)=>p.1=q.1∧RelV p.2 q.2
noncomputable def kV:Key→V
 | .inl i=>.int i
 | .inr x=>.str x
inductive HO where
 | lst (xs:List V)
 | tup (xs:List V)
 | dK (kvs:List (Key×V))|dT (kvs:List (List Key×V))
 | set (S:Int→Bool) (n:Nat)
 | ins (C dx:Addr) (fs:List (Str×V))
 | own (x:Addr)
 | xd (fs:List (Str×V))
 | met (f x:Addr)
 | rng (lo hi:Int)
 | frz (o:Obj) (u:HO)
 | tbl (ps:Array Value)
 | ext (φ : Heap→Prop)
abbrev Hp:=Addr→Option HO
noncomputable def upd (H:Hp)(a:Addr)(o:HO):Hp:=fun b=>if b=a then some o else H b
theorem zah {H:Hp}{a:Addr}{o:HO}:upd H a o a=some o:=by unfold upd;rw [if_pos rfl]
theorem zai {H:Hp}{a b:Addr}{o:HO}(h:b≠a):upd H a o b=H b:=by unfold upd;rw [if_neg h]
theorem zar {H:Hp}{a b:Addr}{o:HO}(h:H a=some o)(h':H b=none):a≠b:=by
 intro e;subst e;rw [h] at h';cases h'
section
variable (P:Program)(w:World)
def zaI (H:Hp)(h:Heap)(a:Addr):HO→Prop
 | .lst xs=>xs.length≤sizeLine∧∃ (its:List Value) (n:Nat),Vals xs its∧h.get? a=some { cls:=.type "list",data:=.seq its.toArray n }
 | .tup xs=>(xs.length≤sizeLine∧∃ o,h.get? a=some o∧o.dict=none)∧∃ its:List Value,Vals xs its∧IsTup h a its.toArray
 | .dK kvs=>kvs.length≤sizeLine∧(a == sysModules)=false∧∃ vs,KV kvs vs∧h.DictOf (zaS P w) a vs
 | .dT kvs=>kvs.length≤sizeLine∧(a == sysModules)=false∧∃ xs:List (List Key×Addr×Value),
  Paired (fun (p:List Key×V) (q:List Key×Addr×Value)=>p.1=q.1∧H q.2.1=some (.tup (p.1.map kV))∧RelV p.2 q.2.2) kvs xs ∧
  ∃ o es ep,h.get? a=some o∧o.ExactDict∧o.data=.dict es ep∧es.toList=xs.map (entryOfKey (tupleKind (zaS P w)))∧(xs.map (·.1)).Nodup
 | .set S n=>h.SetOf (intKind P w) a S n
 | .ins C dx fs=>H dx=some (.own a)∧fs.length≤1000∧dx≠a∧h.get? a=some (PySem.W.instObj C dx) ∧
  ∃ mA,h.Ns1 dx mA∧(∀ f,RelO (fs.lookup f) (mA f))∧PySem.Within mA (fs.map (·.1))
 | .own _ => ∃ o,h.get? a=some o
 | .xd fs => ∃ mA,h.Ns1 a mA∧∀ f,RelO (fs.lookup f) (mA f)
 | .rng lo hi => ∃ t u v,h.get? a=some { cls:=.type "range",data:=.fields #[.int lo t,.int hi u,.int 1 v] }
 | .frz o u=>h.get? a=some o∧zaI H h a u
 | .tbl ps=>h.get? a=some { cls:=.none,data:=.fields ps }
 | .met f x=>h.get? a=some (PySem.W.methodObj (.ref f) (.ref x))
 | .ext φ => φ h∧(∃ o,h.get? a=some o)∧∀ h1 h2:Heap,φ h1→(∀ o,h1.get? a=some o→h2.get? a=some o) → φ h2
def HOk (H:Hp)(h:Heap):Prop:=∀ a o,H a=some o→zaI P w H h a o
end
section
variable {P:Program}{w:World}{H H':Hp}{h h':Heap}{a:Addr}{o:HO}
theorem zaI.lt (x:zaI P w H h a o):a<h.objs.size:=by
 cases o with
 | lst xs=>obtain ⟨_,_,_,_,e⟩:=x;exact Heap.lt_size e
 | tup xs=>obtain ⟨_,_,_,p⟩:=x;exact p.lt
 | dK kvs=>obtain ⟨_,_,_,_,o,_,_,e,_⟩:=x;exact Heap.lt_size e
 | dT kvs=>obtain ⟨_,_,_,_,o,_,_,e,_⟩:=x;exact Heap.lt_size e
 | set S n=>obtain ⟨o,_,_,_,e,_⟩:=x;exact Heap.lt_size e
 | ins C dx fs=>obtain ⟨_,_,_,e,_⟩:=x;exact Heap.lt_size e
 | own y=>obtain ⟨_,e⟩:=x;exact Heap.lt_size e
 | xd fs=>obtain ⟨_,⟨_,_,_,e,_⟩,_⟩:=x;exact Heap.lt_size e
 | rng lo hi=>obtain ⟨_,_,_,e⟩:=x;exact Heap.lt_size e
 | frz ob u=>obtain ⟨e,_⟩:=x;exact Heap.lt_size e
 | tbl ps=>exact Heap.lt_size (show h.get? a=some _ from x)
 | met f y=>exact Heap.lt_size (show h.get? a=some _ from x)
 | ext φ => obtain ⟨_,⟨_,e⟩,_⟩:=x;exact Heap.lt_size e
theorem Paired.mapP {α β : Type}{F G : α → β → Prop}:∀ {l₁:List α} {l₂:List β},Paired F l₁ l₂→(∀ a b,F a b→G a b)→Paired G l₁ l₂:=fun h f=>by
 induction h with
 | nil=>exact .nil
 | cons r _ ih=>exact .cons (f _ _ r) ih
theorem zaI.stay (x:zaI P w H h a o)(k:∀ b u,(b=a∨H b=some (.own a))→h.get? b=some u→h'.get? b=some u)
 (ho:∀ b,H b=some (.own a)→H' b=some (.own a)) (ht:∀ b xs,H b=some (.tup xs)→H' b=some (.tup xs)):zaI P w H' h' a o:=by
 induction o with
 | lst xs=>obtain ⟨z,its,n,r,e⟩:=x;exact ⟨z,its,n,r,k _ _ (.inl rfl) e⟩
 | tup xs=>obtain ⟨⟨z,od,ed,dd⟩,its,r,ob,e,c⟩:=x;exact ⟨⟨z,od,k _ _ (.inl rfl) ed,dd⟩,its,r,ob,k _ _ (.inl rfl) e,c⟩
 | dK kvs=>obtain ⟨z,y,vs,r,ob,es,ep,e,c⟩:=x;exact ⟨z,y,vs,r,ob,es,ep,k _ _ (.inl rfl) e,c⟩
 | dT kvs =>
  refine zc0c x fun z y zz=>zc1b zz fun xs r zz=>zc3b zz fun ob es ep e c => ?_
  exact ⟨z,y,xs,Paired.mapP r fun p q z=>⟨z.1,ht _ _ z.2.1,z.2.2⟩,ob,es,ep,k _ _ (.inl rfl) e,c⟩
 | set S n=>obtain ⟨ob,es,ep,t,e,c⟩:=x;exact ⟨ob,es,ep,t,k _ _ (.inl rfl) e,c⟩
 | ins C dx fs =>
  refine zc0e x fun d z ne e zz=>zc1b zz fun mA zr5 r => ?_
  obtain ⟨od,es,ep,e2,c⟩:=zr5
  exact ⟨ho _ d,z,ne,k _ _ (.inl rfl) e,mA,⟨od,es,ep,k _ _ (.inr d) e2,c⟩,r⟩
 | own y=>obtain ⟨ob,e⟩:=x;exact ⟨ob,k _ _ (.inl rfl) e⟩
 | xd fs=>obtain ⟨mA,⟨od,es,ep,e,c⟩,r⟩:=x;exact ⟨mA,⟨od,es,ep,k _ _ (.inl rfl) e,c⟩,r⟩
 | rng lo hi=>obtain ⟨t,u,v,e⟩:=x;exact ⟨t,u,v,k _ _ (.inl rfl) e⟩
 | frz ob u ih=>obtain ⟨e,q⟩:=x;exact ⟨k _ _ (.inl rfl) e,ih q⟩
 | tbl ps =>
  have e:h.get? a=some { cls:=.none,data:=.fields ps }:=x
  show h'.get? a=some { cls:=.none,data:=.fields ps }
  exact k a _ (.inl rfl) e
 | met f y =>
  have e:h.get? a=some (PySem.W.methodObj (.ref f) (.ref y)):=x
  show h'.get? a=some (PySem.W.methodObj (.ref f) (.ref y))
  exact k a _ (.inl rfl) e
 | ext φ => obtain ⟨p,⟨o,e⟩,st⟩:=x;exact ⟨st _ _ p fun o q=>k _ _ (.inl rfl) q,⟨o,k _ _ (.inl rfl) e⟩,st⟩
theorem HOk.lt (x:HOk P w H h)(e:H a=some o):a<h.objs.size:=(x a o e).lt
theorem HOk.fresh (x:HOk P w H h)(e:h.objs.size≤a):H a=none:=by
 cases q:H a with
 | none=>rfl
 | some u=>exact absurd (Nat.lt_of_lt_of_le (x.lt q) e) (Nat.lt_irrefl _)
theorem HOk.kept (x:HOk P w H h)(k:∀ b u,h.get? b=some u→h'.get? b=some u):HOk P w H h':=fun a o e =>
 (x a o e).stay (fun b u _ q=>k b u q) (fun _ q=>q) fun _ _ q=>q
theorem HOk.laid (x:HOk P w H h)(k:∀ b u,h.get? b=some u→h'.get? b=some u)(hp:h.objs.size≤a)(new:zaI P w (upd H a o) h' a o):HOk P w (upd H a o) h':=fun b u e=>by
 have hn:=x.fresh hp
 by_cases hb:b=a
 ·subst hb;rw [zah] at e;cases e;exact new
 ·rw [zai hb] at e
  exact (x b u e).stay (fun c v _ q=>k c v q) (fun c q=>by rw [zai (zar q hn)];exact q) fun c xs q=>by rw [zai (zar q hn)];exact q
end
noncomputable def Rd (H:Hp)(a:Addr)(u:HO):Prop:=H a=some u∨∃ o,H a=some (.frz o u)
theorem Rd.ok {P:Program}{w:World}{H:Hp}{h:Heap}{a:Addr}{u:HO}(r:Rd H a u)(x:HOk P w H h):zaI P w H h a u:=by
 rcases r with r|⟨o,r⟩
 ·exact x a u r
 ·obtain ⟨_,q⟩:=x a _ r
  exact q
noncomputable def Mut:Option HO→Prop
 | some (.lst _)=>True
 | some (.dK _)=>True
 | some (.dT _)=>True
 | some (.set _ _)=>True
 | some (.ins _ _ _)=>True
 | some (.ext _)=>True
 | _=>False
section
variable {P:Program}{w:World}{H:Hp}{h h':Heap}{x e:Addr}{o':HO}
theorem HOk.write (ok:HOk P w H h)(mu:Mut (H x))(he:e=x∨H e=some (.own x))(k:∀ b u,b≠e→h.get? b=some u→h'.get? b=some u)(heo:∃ u,h'.get? e=some u)
 (new:zaI P w (upd H x o') h' x o'):HOk P w (upd H x o') h':=fun b u q=>by
 have nown:∀ c y,H c=some (.own y)→c≠x:=fun c y r z=>by subst z;rw [r] at mu;exact mu
 have ntup:∀ c xs,H c=some (.tup xs)→c≠x:=fun c xs r z=>by subst z;rw [r] at mu;exact mu
 by_cases hb:b=x
 ·subst hb;rw [zah] at q;cases q;exact new
 ·rw [zai hb] at q
  by_cases hbe:b=e
  ·have q':H b=some (.own x):=by
    rcases he with z|z
    ·exact absurd (hbe.trans z) hb
    ·rw [hbe];exact z
   rw [q] at q';cases q'
   obtain ⟨v,hv⟩:=heo
   exact ⟨v,by rw [hbe];exact hv⟩
  ·refine (ok b u q).stay (fun c v hc r=>k c v ?_ r) (fun c r=>by rw [zai (nown c b r)];exact r) fun c xs r=>by rw [zai (ntup c xs r)];exact r
   rcases hc with rfl|hc
   ·exact hbe
   ·rintro rfl
    rcases he with z|z
    ·exact nown c b hc z
    ·rw [hc] at z;cases z;exact hb rfl
end
structure Un (fs ex:List Addr)(H H':Hp)(h h':Heap):Prop where
 keep:∀ b o,h.get? b=some o→H b=none→b∉fs→b∉ex→h'.get? b=some o
 slot:∀ b o,h.get? b=some o→H b=none→b∈fs→b∉ex→∃ sl,h'.get? b=some { o with slots:=sl }
 free:∀ b o,h.get? b=some o→H b=none→b∉ex→H' b=none
 there:∀ b o,h.get? b=some o→b∉ex→∃ o',h'.get? b=some o'
 tups:∀ b xs,H b=some (.tup xs)→H' b=some (.tup xs)
 frzs:∀ b o u,H b=some (.frz o u)→H' b=some (.frz o u)
 tbls:∀ b ps,H b=some (.tbl ps)→∃ more,H' b=some (.tbl (ps++more))
section
variable {fs fs' ex ex':List Addr}{H H1 H2:Hp}{h h1 h2 h':Heap}{a x e:Addr}{o:HO}
theorem Un.any (u:Un fs ex H H1 h h1){b:Addr}{ob:Obj}(q:h.get? b=some ob)(n:H b=none)(hx:b∉ex):∃ sl,h1.get? b=some { ob with slots:=sl }:=by
 by_cases hb:b∈fs
 ·exact u.slot b ob q n hb hx
 ·exact ⟨ob.slots,u.keep b ob q n hb hx⟩
theorem Un.kept (k:∀ b u,h.get? b=some u→h'.get? b=some u):Un fs ex H H h h' :=
 ⟨fun b ob q _ _ _=>k b ob q,fun b ob q _ _ _=>⟨ob.slots,k b ob q⟩,fun _ _ _ n _=>n,fun b ob q _=>⟨ob,k b ob q⟩,fun _ _ q=>q,fun _ _ _ q=>q,fun _ ps q=>⟨#[],by rw [q];simp -iota⟩⟩
theorem Un.refl:Un fs ex H H h h:=Un.kept fun _ _ q=>q
theorem Un.laid (k:∀ b u,h.get? b=some u→h'.get? b=some u)(hp:h.objs.size≤a)(hn:H a=none):Un fs ex H (upd H a o) h h' where
 keep:=fun b u q _ _ _=>k b u q
 slot:=fun b u q _ _ _=>⟨u.slots,k b u q⟩
 free:=fun b u q n _=>by rw [zai (Nat.ne_of_lt (Nat.lt_of_lt_of_le (Heap.lt_size q) hp))];exact n
 there:=fun b u q _=>⟨u,k b u q⟩
 tups:=fun b xs q=>by rw [zai (zar q hn)];exact q
 frzs:=fun b u xs q=>by rw [zai (zar q hn)];exact q
 tbls:=fun b ps q=>⟨#[],by rw [zai (zar q hn),q];simp -iota⟩
theorem Un.write (mu:Mut (H x))(he:e=x∨H e=some (.own x))(k:∀ b u,b≠e→h.get? b=some u→h'.get? b=some u)(heo:∃ u,h'.get? e=some u):Un fs ex H (upd H x o) h h':=by
 have hx:∀ b,H b=none→b≠x:=fun b n z=>by subst z;rw [n] at mu;exact mu
 have hb:∀ b,H b=none→b≠e:=fun b n z=>by
  subst z
  rcases he with r|r
  ·exact hx b n r
  ·rw [n] at r;cases r
 have hm:∀ b u,H b=some u→¬ Mut (some u)→b≠x:=fun b u q nm z=>by subst z;rw [q] at mu;exact nm mu
 refine ⟨fun b u q n _ _=>k b u (hb b n) q,fun b u q n _ _=>⟨u.slots,k b u (hb b n) q⟩,fun b u q n _=>by rw [zai (hx b n)];exact n,fun b u q _ => ?_,
  fun b xs q=>by rw [zai (hm b _ q fun z=>z)];exact q,fun b u xs q=>by rw [zai (hm b _ q fun z=>z)];exact q,fun b ps q=>⟨#[],by rw [zai (hm b _ q fun z=>z),q];simp -iota⟩⟩
 by_cases hbe:b=e
 ·subst hbe;exact heo
 ·exact ⟨u,k b u hbe q⟩
end
noncomputable def trk (h:Heap)(H:Hp):List Addr:=(List.range h.objs.size).filter fun a=>(H a).isSome
def hidT (h:Heap)(H:Hp):Heap:=PySem.W.hideAll h (trk h H)
theorem zgb (h:Heap)(H:Hp):(hidT h H).objs.size=h.objs.size:=PySem.W.hideAll_size _ _
theorem zio {h:Heap}{H:Hp}{b:Addr}{o:Obj}(e:h.get? b=some o)(n:H b=none):(hidT h H).get? b=some o :=
 PySem.W.hideAll_get _ e fun hm=>by
  have q:(H b).isSome=true:=(List.mem_filter.mp hm).2
  rw [n] at q;simp -iota at q
theorem zjb {h:Heap}{H:Hp}{b:Addr}{o:Obj}(e:(hidT h H).get? b=some o):h.get? b=some o∧H b=none:=by
 have e':h.get? b=some o:=PySem.W.of_hideAll (trk h H) e
 refine ⟨e',?_⟩
 cases q:H b with
 | none=>rfl
 | some x =>
  have hm:b∈trk h H:=List.mem_filter.mpr ⟨List.mem_range.mpr (Heap.lt_size e'),by simp -iota [q]⟩
  have z:(hidT h H).get? b=none:=PySem.W.hideAll_none (trk h H) hm
  rw [z] at e;cases e
end L2
namespace L2
open PySem PySem.Spec PyProof.Rows
structure Mod (K:PySem.W.Frag)(mg:Str→Option Value)(base:Heap):Prop where
 kin:K.In base
 glob:base.Ns mainGlobals mg
 blt:∃ mb,base.Ns builtinsNs mb∧∀ x:Str,x ≠ "__name__" → mb x=bootBuiltins x
 nolimit:base.NoLimit
structure Cx where
 prog:Program
 w:World
 K:PySem.W.Frag
 mg:Str→Option Value
 base:Heap
 A:Around
 N:List Str
 s₀:Shared
 H₀:Hp
 env:Env
 outer:List Env
 stack:List Env
 ex:List Addr
 fn:Str→Bool
 calm:Bool
 pn:List (Addr×Obj)
 xe:Value→Shared→Prop
noncomputable def frs (l:List Env):List Addr:=l.filterMap (·.frame)
abbrev Cx.fs (X:Cx):List Addr:=frs X.outer
noncomputable def Vis (sc:Scope)(x:Str):Prop:=sc.names.lookup x=some .local∨sc.names.lookup x=some .cell∨sc.names.lookup x=some .free
noncomputable def Loc (sc:Scope)(x:Str):Prop:=sc.names.lookup x=some .local∨sc.names.lookup x=some .cell
noncomputable def Look (env:Env)(h:Heap)(m:Str→Option Value)(x:Str)(u:Value):Prop :=
 (env.kindOf x=some .local∧m x=some u)∨((env.kindOf x=some .cell∨env.kindOf x=some .free)∧∃ c,env.cells.lookup x=some c∧h.IsCell c (some u))
structure Cx.Ok (X:Cx):Prop where
 mod:Mod X.K X.mg X.base
 kind:X.env.scope.kind=.function
 glob:X.env.globals=mainGlobals
 blt:X.env.builtins=builtinsNs
 above:X.s₀.heap.objs.size≤X.env.locals
 inj:∀ x y c,X.env.cells.lookup x=some c→X.env.cells.lookup y=some c→x=y
 has:∀ x,(X.env.kindOf x=some .cell∨X.env.kindOf x=some .free)→∃ c,X.env.cells.lookup x=some c
 cab:∀ x c,X.fn x=true→X.env.cells.lookup x=some c→X.s₀.heap.objs.size≤c
 hd:X.calm=true→X.A.handled=none
 frames:X.A.frames=some X.stack
 stk:X.stack=X.outer∨(X.stack=X.env::X.outer∧X.env.frame=some X.env.locals)
 exf:∀ b∈X.ex,b≠X.env.locals∧∀ x c,X.env.cells.lookup x=some c→c≠b
 bs:∀ b o,X.base.get? b=some o→X.s₀.heap.get? b=some o∧X.H₀ b=none
 bsz:X.base.objs.size≤X.s₀.heap.objs.size
 noex:∀ b o,X.base.get? b=some o→b∉X.ex
 exfs:∀ b∈X.ex,b∉X.fs
 funs:X.s₀.heap.FunFrames X.base X.outer
 frf:∀ b∈X.fs,X.H₀ b=none
structure Inv (X:Cx)(pins:List (Addr×Obj))(σ : List (Option V))(H:Hp)(s:Shared):Prop where
 ok:X.Ok
 os:s.os=X.s₀.os
 bare:AllBare s.gens
 base:Un X.fs X.ex X.H₀ H X.s₀.heap s.heap
 loc:∃ m,s.heap.Ns X.env.locals m∧∀ (i:Nat) (x:Str) (v:V),X.N[i]? = some x → σ[i]? = some (some v)→Vis X.env.scope x→∃ u,RelV v u∧Look X.env s.heap m x u
 cell:∀ x c,X.env.cells.lookup x=some c→∃ v,s.heap.IsCell c v
 free:H X.env.locals=none
 freeC:∀ x c,X.env.cells.lookup x=some c→H c=none
 pin:∀ p∈X.pn++pins,s.heap.get? p.1=some p.2∧H p.1=none∧p.1≠X.env.locals∧p.1∉X.fs∧∀ v,p.2.data ≠ .cell v
 hok:HOk X.prog X.w H s.heap
 len : σ.length=X.N.length
section
variable {X:Cx}{pins:List (Addr×Obj)}{σ : List (Option V)}{H H':Hp}{s:Shared}{h':Heap}
theorem Cx.Ok.nofr (ok:X.Ok){b:Addr}{o:Obj}(e:X.base.get? b=some o):b∉X.fs:=fun hb=>by
 have:=(ok.funs.mem hb).1
 rw [e] at this;cases this
theorem Inv.bs (I:Inv X pins σ H s):∀ b o,X.base.get? b=some o→s.heap.get? b=some o∧H b=none:=fun b o e =>
 ⟨I.base.keep b o (I.ok.bs b o e).1 (I.ok.bs b o e).2 (I.ok.nofr e) (I.ok.noex b o e),I.base.free b o (I.ok.bs b o e).1 (I.ok.bs b o e).2 (I.ok.noex b o e)⟩
theorem Inv.bk (I:Inv X pins σ H s):∀ b o,X.base.get? b=some o→s.heap.get? b=some o:=fun b o e=>(I.bs b o e).1
theorem Inv.mod (I:Inv X pins σ H s):Mod X.K X.mg X.base:=I.ok.mod
theorem Inv.kIn (I:Inv X pins σ H s):X.K.In s.heap:=I.ok.mod.kin.keeps I.bk
theorem Inv.lt (I:Inv X pins σ H s):X.env.locals<s.heap.objs.size:=let ⟨_,hn,_⟩:=I.loc;hn.lt
theorem Inv.sz (I:Inv X pins σ H s):X.s₀.heap.objs.size≤s.heap.objs.size:=Nat.le_trans I.ok.above (Nat.le_of_lt I.lt)
theorem Inv.nofs (I:Inv X pins σ H s){a:Addr}(h:s.heap.objs.size≤a):a∉X.fs:=fun hb=>by
 refine zc0b (I.ok.funs.mem hb) fun _ zz=>zc1b zz fun o ho _ => ?_
 exact absurd (Nat.lt_of_lt_of_le (Heap.lt_size ho) (Nat.le_trans I.sz h)) (Nat.lt_irrefl _)
theorem Inv.cne (I:Inv X pins σ H s):∀ x c,X.env.cells.lookup x=some c→c≠X.env.locals:=fun x c e z=>by
 refine zc2b (I.cell x c e) fun v o ho hd => ?_
 refine zc1b I.loc fun m zr1 _ => ?_
 obtain ⟨o',es,ep,ho',hd',_⟩:=zr1
 rw [z,ho'] at ho;cases ho;rw [hd'] at hd;cases hd
theorem Inv.funs (I:Inv X pins σ H s):s.heap.FunFrames X.base X.outer:=by
 have all:∀ (l:List Env),(∀ b∈frs l,b∈X.fs)→X.s₀.heap.FunFrames X.base l→s.heap.FunFrames X.base l:=by
  intro l
  induction l with
  | nil=>intro _ _;trivial
  | cons env r ih =>
   intro hs hl
   refine zc0c hl fun hk zr1 hr => ?_
   obtain ⟨L,o,hf,hn,ho,hd⟩:=zr1
   have hL:L∈X.fs:=hs L (by unfold frs;rw [List.filterMap_cons,hf];exact List.mem_cons_self)
   obtain ⟨sl,e⟩:=I.base.slot L o ho (I.ok.frf L hL) hL fun z=>I.ok.exfs L z hL
   exact ⟨hk,⟨L,_,hf,hn,e,hd⟩,ih (fun b hb=>hs b (by unfold frs;rw [List.filterMap_cons,hf];exact List.mem_cons_of_mem _ hb)) hr⟩
 exact all X.outer (fun _ hb=>hb) I.ok.funs
theorem Inv.stack (I:Inv X pins σ H s):s.heap.FunFrames X.base X.stack:=by
 rcases I.ok.stk with e|⟨e,hf⟩
 ·rw [e];exact I.funs
 ·rw [e]
  refine zc1b I.loc fun m hn _ => ?_
  refine .cons (by rw [I.ok.kind];decide) hf hn ?_ I.funs
  exact Heap.get?_none_of_le (Nat.le_trans I.ok.bsz I.ok.above)
theorem Inv.stkSub (I:Inv X pins σ H s):∀ b∈frs X.stack,b∈X.env.locals::X.fs:=fun b hb=>by
 rcases I.ok.stk with e|⟨e,hf⟩
 ·rw [e] at hb;exact List.mem_cons_of_mem _ hb
 ·rw [e] at hb
  unfold frs at hb
  rw [List.filterMap_cons,hf] at hb
  exact hb
theorem Inv.stkFree (I:Inv X pins σ H s):∀ b∈frs X.stack,H b=none:=fun b hb=>by
 rcases List.mem_cons.mp (I.stkSub b hb) with e|hb
 ·rw [e];exact I.free
 ·refine zc0b (I.ok.funs.mem hb) fun _ zz=>zc1b zz fun o ho _ => ?_
  exact I.base.free b o ho (I.ok.frf b hb) fun z=>I.ok.exfs b z hb
theorem Inv.step {g':Array GenState}{t':Nat}{d':Drawn}{ch:List Addr}(I:Inv X pins σ H s)
 (hch:∀ b∈ch,(b∈X.ex∨X.s₀.heap.objs.size≤b)∧b≠X.env.locals∧(∀ x c,X.env.cells.lookup x=some c→c≠b)∧∀ p∈X.pn++pins,p.1≠b)
 (keep:∀ b o,b≠X.env.locals→b∉X.fs→b∉ch→s.heap.get? b=some o→H b=none→h'.get? b=some o)
 (slot:∀ b o,b≠X.env.locals→b∈X.fs→b∉ch→s.heap.get? b=some o→H b=none→∃ sl,h'.get? b=some { o with slots:=sl }) (free:∀ b o,b∉ch→s.heap.get? b=some o→H b=none→H' b=none)
 (there:∀ b o,b∉ch→s.heap.get? b=some o→∃ o',h'.get? b=some o')
 (tups:∀ b xs,H b=some (.tup xs)→H' b=some (.tup xs)) (frzs:∀ b o u,H b=some (.frz o u)→H' b=some (.frz o u)) (tbls:∀ b ps,H b=some (.tbl ps)→∃ more,H' b=some (.tbl (ps++more)))
 (ns:∀ m,s.heap.Ns X.env.locals m→h'.Ns X.env.locals m) (hok:HOk X.prog X.w H' h') (hg:AllBare g') :
 Inv X pins σ H' { s with heap:=h',gens:=g',drawn:=d',toks:=t' }:=by
 have neL:∀ b o,X.s₀.heap.get? b=some o→b≠X.env.locals:=fun b o e=>Nat.ne_of_lt (Nat.lt_of_lt_of_le (Heap.lt_size e) I.ok.above)
 have neC:∀ b o,X.s₀.heap.get? b=some o→b∉X.ex→b∉ch:=fun b o e hx hb=>by
  rcases (hch b hb).1 with z|z
  ·exact hx z
  ·exact absurd (Nat.lt_of_lt_of_le (Heap.lt_size e) z) (Nat.lt_irrefl _)
 have cellK:∀ x c,X.env.cells.lookup x=some c→∀ v,s.heap.IsCell c v→h'.IsCell c v:=fun x c e v zh=>by
  refine zc1b zh fun o ho hd => ?_
  have nch:c∉ch:=fun z=>(hch c z).2.2.1 x c e rfl
  by_cases hc:c∈X.fs
  ·obtain ⟨sl,q⟩:=slot c o (I.cne x c e) hc nch ho (I.freeC x c e)
   exact ⟨_,q,hd⟩
  ·exact ⟨o,keep c o (I.cne x c e) hc nch ho (I.freeC x c e),hd⟩
 refine ⟨I.ok,I.os,hg,⟨fun b o e n hb hx => ?_,fun b o e n hb hx => ?_,fun b o e n hx => ?_,fun b o e hx => ?_,fun b xs e=>tups b xs (I.base.tups b xs e),fun b o xs e=>frzs b o xs (I.base.frzs b o xs e),fun b ps e => ?_⟩,?_,fun x c e => ?_,?_,fun x c e => ?_,fun p hp => ?_,hok,I.len⟩
 ·exact keep b o (neL b o e) hb (neC b o e hx) (I.base.keep b o e n hb hx) (I.base.free b o e n hx)
 ·obtain ⟨sl,e1⟩:=I.base.slot b o e n hb hx
  obtain ⟨sl',e2⟩:=slot b _ (neL b o e) hb (neC b o e hx) e1 (I.base.free b o e n hx)
  exact ⟨sl',e2⟩
 ·obtain ⟨o',e1⟩:=I.base.there b o e hx
  exact free b o' (neC b o e hx) e1 (I.base.free b o e n hx)
 ·obtain ⟨o',e1⟩:=I.base.there b o e hx
  exact there b o' (neC b o e hx) e1
 ·obtain ⟨m1,e1⟩:=I.base.tbls b ps e
  obtain ⟨m2,e2⟩:=tbls b _ e1
  exact ⟨m1++m2,by rw [e2,Array.append_assoc]⟩
 ·refine zc1b I.loc fun m hn hl => ?_
  refine ⟨m,ns m hn,fun i x v e1 e2 e3 => ?_⟩
  refine zc1b (hl i x v e1 e2 e3) fun u r l => ?_
  refine ⟨u,r,?_⟩
  rcases l with l|⟨k,c,e,z⟩
  ·exact .inl l
  ·exact .inr ⟨k,c,e,cellK x c e _ z⟩
 ·obtain ⟨v,z⟩:=I.cell x c e
  exact ⟨v,cellK x c e v z⟩
 ·refine zc1b I.loc fun m zr1 _ => ?_
  obtain ⟨o,_,_,ho,_⟩:=zr1
  exact free _ o (fun z=>(hch _ z).2.1 rfl) ho I.free
 ·refine zc2b (I.cell x c e) fun v o ho hd => ?_
  exact free c o (fun z=>(hch c z).2.2.1 x c e rfl) ho (I.freeC x c e)
 ·refine zc0e (I.pin p hp) fun e n ne nf d => ?_
  have nch:p.1∉ch:=fun z=>(hch p.1 z).2.2.2 p hp rfl
  exact ⟨keep p.1 p.2 ne nf nch e n,free p.1 p.2 nch e n,ne,nf,d⟩
theorem Inv.un {t':Nat}(I:Inv X pins σ H s)(u:Un X.fs [] H H' s.heap h')(hok:HOk X.prog X.w H' h'):Inv X pins σ H' { s with heap:=h',toks:=t' }:=by
 refine zc1b (id I.loc) fun m zr1 _ => ?_
 obtain ⟨o,es,ep,ho,r⟩:=zr1
 obtain ⟨sl,hL⟩:=u.any ho I.free (by simp -iota)
 exact I.step (g':=s.gens) (d':=s.drawn) (ch:=[]) (fun _ z=>nomatch z) (fun b o _ hb _ e n=>u.keep b o e n hb (by simp -iota)) (fun b o _ hb _ e n=>u.slot b o e n hb (by simp -iota)) (fun b o _ e n=>u.free b o e n (by simp -iota)) (fun b o _ e=>u.there b o e (by simp -iota)) u.tups u.frzs u.tbls (fun m' hm=>by
  refine zc3b hm fun o' es' ep' ho' r' => ?_
  rw [ho] at ho';cases ho'
  exact ⟨_,es',ep',hL,r'⟩) hok I.bare
theorem Inv.call {g':Array GenState}{t':Nat}{d':Drawn}{ch:List Addr}(I:Inv X pins σ H s)(u:Un (frs X.stack) ch H H' s.heap h')(hok:HOk X.prog X.w H' h')(hg:AllBare g')
 (hch:∀ b∈ch,(b∈X.ex∨X.s₀.heap.objs.size≤b)∧b≠X.env.locals∧(∀ x c,X.env.cells.lookup x=some c→c≠b)∧∀ p∈X.pn++pins,p.1≠b) :
 Inv X pins σ H' { s with heap:=h',gens:=g',drawn:=d',toks:=t' }:=by
 refine zc1b (id I.loc) fun m zr1 _ => ?_
 obtain ⟨o,es,ep,ho,r⟩:=zr1
 obtain ⟨sl,hL⟩:=u.any ho I.free fun z=>(hch _ z).2.1 rfl
 exact I.step (ch:=ch) hch (fun b o hL hb hc e n=>u.keep b o e n (fun z=>(List.mem_cons.mp (I.stkSub b z)).elim hL hb) hc) (fun b o _ _ hc e n=>u.any e n hc) (fun b o hc e n=>u.free b o e n hc) (fun b o hc e=>u.there b o e hc) u.tups u.frzs u.tbls (fun m' hm=>by
  refine zc3b hm fun o' es' ep' ho' r' => ?_
  rw [ho] at ho';cases ho'
  exact ⟨_,es',ep',hL,r'⟩) hok hg
theorem Inv.turned {t':Nat}{it:Addr}(I:Inv X pins σ H s)(k:∀ b o,b≠it→s.heap.get? b=some o→h'.get? b=some o)(hn:H it=none)(hL:it≠X.env.locals)
 (h1:it∈X.ex∨X.s₀.heap.objs.size≤it) (h2:∀ x c,X.env.cells.lookup x=some c→c≠it) (h3:∀ p∈X.pn++pins,p.1≠it):Inv X pins σ H { s with heap:=h',toks:=t' }:=by
 have nit:∀ b u,H b=some u→b≠it:=fun b u e z=>by rw [z,hn] at e;cases e
 refine I.step (g':=s.gens) (d':=s.drawn) (ch:=[it]) (fun b hb => ?_) (fun b o _ _ hc e _=>k b o (fun z=>hc (by simp -iota [z])) e) (fun b o _ _ hc e _=>⟨o.slots,k b o (fun z=>hc (by simp -iota [z])) e⟩) (fun _ _ _ _ n=>n)
  (fun b o hc e=>⟨o,k b o (fun z=>hc (by simp -iota [z])) e⟩) (fun _ _ e=>e) (fun _ _ _ e=>e) (fun b ps e=>⟨#[],by rw [e];simp -iota⟩) (fun m hm => ?_) (fun b u e => ?_) I.bare
 ·have e:b=it:=by simpa -iota using hb
  subst e
  exact ⟨h1,hL,h2,h3⟩
 ·refine zc3b hm fun o es ep ho r => ?_
  exact ⟨o,es,ep,k _ o (Ne.symm hL) ho,r⟩
 ·refine (I.hok b u e).stay (fun c v hc q=>k c v ?_ q) (fun _ q=>q) fun _ _ q=>q
  rcases hc with z|z
  ·rw [z];exact nit b u e
  ·exact nit c _ z
theorem Inv.tok (I:Inv X pins σ H s)(t:Nat):Inv X pins σ H { s with toks:=t }:=I.un (h':=s.heap) (t':=t) Un.refl I.hok
theorem Inv.kept {t':Nat}(I:Inv X pins σ H s)(k:∀ b u,s.heap.get? b=some u→h'.get? b=some u):Inv X pins σ H { s with heap:=h',toks:=t' }:=I.un (Un.kept k) (I.hok.kept k)
theorem Inv.laid {a:Addr}{o:HO}{t':Nat}(I:Inv X pins σ H s)(k:∀ b u,s.heap.get? b=some u→h'.get? b=some u)(hp:s.heap.objs.size≤a)(new:zaI X.prog X.w (upd H a o) h' a o) :
 Inv X pins σ (upd H a o) { s with heap:=h',toks:=t' }:=I.un (Un.laid k hp (I.hok.fresh hp)) (I.hok.laid k hp new)
theorem Inv.write {x e:Addr}{o:HO}{t':Nat}(I:Inv X pins σ H s)(mu:Mut (H x))(he:e=x∨H e=some (.own x))(k:∀ b u,b≠e→s.heap.get? b=some u→h'.get? b=some u)(heo:∃ u,h'.get? e=some u)
 (new:zaI X.prog X.w (upd H x o) h' x o):Inv X pins σ (upd H x o) { s with heap:=h',toks:=t' }:=I.un (Un.write mu he k heo) (I.hok.write mu he k heo new)
theorem Inv.pins_of {pins':List (Addr×Obj)}(I:Inv X pins σ H s)(h:∀ p∈pins',s.heap.get? p.1=some p.2∧H p.1=none∧p.1≠X.env.locals∧p.1∉X.fs∧∀ v,p.2.data ≠ .cell v):Inv X pins' σ H s :=
 ⟨I.ok,I.os,I.bare,I.base,I.loc,I.cell,I.free,I.freeC,fun p hp=>(List.mem_append.mp hp).elim (fun z=>I.pin p (List.mem_append_left _ z)) (h p),I.hok,I.len⟩
theorem zfe {N:List Str}(hN:N.Nodup){i j:Nat}{x:Str}(a:N[i]? = some x)(b:N[j]? = some x):i=j:=by
 obtain ⟨h1,e1⟩:=List.getElem?_eq_some_iff.mp a
 obtain ⟨h2,e2⟩:=List.getElem?_eq_some_iff.mp b
 exact (List.getElem_inj hN).mp (e1.trans e2.symm)
theorem zfK {M:Model}{A:Around}{E:Value→Shared→Prop}{i:Nat}{x:Str}{v:V}{u:Value}{Q:Unit→Shared→Prop}(I:Inv X pins σ H s)(hN:X.N.Nodup)(hi:X.N[i]? = some x)(hx:Loc X.env.scope x)(r:RelV v u)
 (h:∀ s',Inv X pins (σ.set i (some v)) H s'→(∃ a,Heap.SameBut a s.heap s'.heap∧(a=X.env.locals∨X.env.cells.lookup x=some a))→Q () s') (hf:X.fn x=true∨X.env.scope.names.lookup x=some .local:=by first|exact .inl rfl|exact .inr rfl|assumption):wpAny M A (storeName X.env x u) Q E s:=by
 refine zc1b (id I.loc) fun m hn hl => ?_
 have hcls:(X.env.scope.kind == .class||(X.env.scope.kind == .module&&X.env.locals != X.env.globals))=false:=by rw [I.ok.kind];rfl
 have hiσ : i < σ.length:=by rw [I.len];exact (List.getElem?_eq_some_iff.mp hi).1
 have cne:=I.cne
 have tracked:∀ {a:Addr} {h':Heap},(∃ o,s.heap.get? a=some o∧H a=none)→Heap.SameBut a s.heap h'→HOk X.prog X.w H h':=fun {a h'} ha hs b ob e=>by
  refine zc1b ha fun _ _ hfree => ?_
  refine (I.hok b ob e).stay (fun c w' hc q=>(hs.2 c ?_).trans q) (fun _ q=>q) fun _ _ q=>q
  rintro rfl
  rcases hc with rfl|hc
  ·rw [hfree] at e;cases e
  ·rw [hfree] at hc;cases hc
 rcases hx with hk|hk
 ·refine wpAny_storeName_local hk hn (fun h' hn' hs => ?_) hcls
  refine zc3b (id hn) fun oL _ _ hoL _ => ?_
  refine h _ ⟨I.ok,I.os,I.bare,⟨fun b o e n hb hx => ?_,fun b o e n hb hx => ?_,I.base.free,fun b o e hx => ?_,I.base.tups,I.base.frzs,I.base.tbls⟩,⟨_,hn',fun j y v' e1 e2 e3 => ?_⟩,fun y c e => ?_,I.free,I.freeC,fun p hp => ?_,tracked ⟨oL,hoL,I.free⟩ hs,by simpa -iota using I.len⟩ ⟨_,hs,.inl rfl⟩
  ·exact (hs.2 b (Nat.ne_of_lt (Nat.lt_of_lt_of_le (Heap.lt_size e) I.ok.above))).trans (I.base.keep b o e n hb hx)
  ·obtain ⟨sl,e1⟩:=I.base.slot b o e n hb hx
   exact ⟨sl,(hs.2 b (Nat.ne_of_lt (Nat.lt_of_lt_of_le (Heap.lt_size e) I.ok.above))).trans e1⟩
  ·obtain ⟨o',e1⟩:=I.base.there b o e hx
   exact ⟨o',(hs.2 b (Nat.ne_of_lt (Nat.lt_of_lt_of_le (Heap.lt_size e) I.ok.above))).trans e1⟩
  ·by_cases hj:j=i
   ·subst hj
    rw [hi] at e1;cases e1
    rw [List.getElem?_set_self hiσ] at e2
    cases e2
    exact ⟨u,r,.inl ⟨hk,by simp -iota⟩⟩
   ·rw [List.getElem?_set_ne (Ne.symm hj)] at e2
    refine zc1b (hl j y v' e1 e2 e3) fun u' r' q => ?_
    refine ⟨u',r',?_⟩
    rcases q with ⟨k,e⟩|⟨k,c,e,z⟩
    ·refine .inl ⟨k,?_⟩
     have:y≠x:=fun e=>hj (zfe hN e1 (e ▸ hi))
     simp -iota [this,e]
    ·exact .inr ⟨k,c,e,z.sameBut hs (cne y c e)⟩
  ·obtain ⟨w',z⟩:=I.cell y c e
   exact ⟨w',z.sameBut hs (cne y c e)⟩
  ·refine zc0e (I.pin p hp) fun e n ne nf d => ?_
   exact ⟨(hs.2 p.1 ne).trans e,n,ne,nf,d⟩
 ·have hfn:X.fn x=true:=by
   rcases hf with z|z
   ·exact z
   ·rw [z] at hk;cases hk
  obtain ⟨c,hc⟩:=I.ok.has x (.inl hk)
  obtain ⟨w',z⟩:=I.cell x c hc
  refine wpAny_storeName_cell I.ok.kind hk hc z (fun h' hc' hs => ?_)
  refine zc1b (id z) fun oc hoc hocd => ?_
  refine h { s with heap:=h' } ⟨I.ok,I.os,I.bare,⟨fun b o e n hb hx => ?_,fun b o e n hb hx => ?_,I.base.free,fun b o e hx => ?_,I.base.tups,I.base.frzs,I.base.tbls⟩,⟨m,hn.sameBut hs (Ne.symm (cne x c hc)),fun j y v' e1 e2 e3 => ?_⟩,fun y c' e => ?_,I.free,I.freeC,fun p hp => ?_,tracked ⟨oc,hoc,I.freeC x c hc⟩ hs,by simpa -iota using I.len⟩ ⟨c,hs,.inr hc⟩
  ·exact (hs.2 b (Nat.ne_of_lt (Nat.lt_of_lt_of_le (Heap.lt_size e) (I.ok.cab x c hfn hc)))).trans (I.base.keep b o e n hb hx)
  ·obtain ⟨sl,e1⟩:=I.base.slot b o e n hb hx
   exact ⟨sl,(hs.2 b (Nat.ne_of_lt (Nat.lt_of_lt_of_le (Heap.lt_size e) (I.ok.cab x c hfn hc)))).trans e1⟩
  ·obtain ⟨o',e1⟩:=I.base.there b o e hx
   exact ⟨o',(hs.2 b (Nat.ne_of_lt (Nat.lt_of_lt_of_le (Heap.lt_size e) (I.ok.cab x c hfn hc)))).trans e1⟩
  ·by_cases hj:j=i
   ·subst hj
    rw [hi] at e1;cases e1
    rw [List.getElem?_set_self hiσ] at e2
    cases e2
    exact ⟨u,r,.inr ⟨.inl hk,c,hc,hc'⟩⟩
   ·rw [List.getElem?_set_ne (Ne.symm hj)] at e2
    refine zc1b (hl j y v' e1 e2 e3) fun u' r' q => ?_
    refine ⟨u',r',?_⟩
    rcases q with q|⟨k,c',e,z'⟩
    ·exact .inl q
    ·refine .inr ⟨k,c',e,z'.sameBut hs ?_⟩
     rintro rfl
     exact hj (zfe hN e1 (I.ok.inj _ _ _ e hc ▸ hi))
  ·by_cases hcc:c'=c
   ·subst hcc;exact ⟨_,hc'⟩
   ·obtain ⟨w2,z2⟩:=I.cell y c' e
    exact ⟨w2,z2.sameBut hs hcc⟩
  ·refine zc0e (I.pin p hp) fun e n ne nf d => ?_
   refine ⟨(hs.2 p.1 ?_).trans e,n,ne,nf,d⟩
   intro q
   rw [q,hoc] at e
   have q':oc=p.2:=Option.some.inj e
   exact d w' (by rw [← q'];exact hocd)
theorem zdv {M:Model}{A:Around}{E:Value→Shared→Prop}{i:Nat}{x:Str}{v:V}{u:Value}{Q:Unit→Shared→Prop}(I:Inv X pins σ H s)(hN:X.N.Nodup)(hi:X.N[i]? = some x)(hx:Loc X.env.scope x)(r:RelV v u)
 (h:∀ s',Inv X pins (σ.set i (some v)) H s'→Q () s') (hf:X.fn x=true∨X.env.scope.names.lookup x=some .local:=by first|exact .inl rfl|exact .inr rfl|assumption):wpAny M A (storeName X.env x u) Q E s :=
 zfK I hN hi hx r (fun s' I' _=>h s' I') hf
theorem Inv.call' {s':Shared}{ch:List Addr}(I:Inv X pins σ H s)(ho:s'.os=s.os)(u:Un (frs X.stack) ch H H' s.heap s'.heap)(hok:HOk X.prog X.w H' s'.heap)(hg:AllBare s'.gens)
 (hch:∀ b∈ch,(b∈X.ex∨X.s₀.heap.objs.size≤b)∧b≠X.env.locals∧(∀ x c,X.env.cells.lookup x=some c→c≠b)∧∀ p∈X.pn++pins,p.1≠b):Inv X pins σ H' s':=by
 obtain ⟨h',g',d',t',o'⟩:=s'
 have e:o'=s.os:=ho
 subst e
 exact I.call (g':=g') (t':=t') (d':=d') u hok hg hch
end
abbrev XK:=Value→Option Addr→Hp→Prop
abbrev St:=List (Option V)
abbrev VK:=V→Hp→Prop
abbrev TE:=St→Hp→VK→Prop
abbrev TT:=St→Hp→(Bool→Hp→Prop)→Prop
abbrev TA:=St→Hp→(List V→Hp→Prop)→Prop
structure Ends where
 nx:St→Hp→Prop
 rt:VK
 bk:St→Hp→Prop:=fun _ _=>False
 ct:St→Hp→Prop:=fun _ _=>False
abbrev TS:=Ends→St→Hp→Prop
def EP (X:Cx)(pins:List (Addr×Obj))(σ : St)(Q:VK)(u:Value)(s':Shared):Prop:=∃ v H',Inv X pins σ H' s'∧RelV v u∧Q v H'
noncomputable def TP (X:Cx)(pins:List (Addr×Obj))(σ : St)(Q:Bool→Hp→Prop)(b:Bool)(s':Shared):Prop:=∃ H',Inv X pins σ H' s'∧Q b H'
noncomputable def AP (X:Cx)(pins:List (Addr×Obj))(σ : St)(Q:List V→Hp→Prop)(us:List Value)(s':Shared):Prop:=∃ vs H',Inv X pins σ H' s'∧Vals vs us∧Q vs H'
def SP (X:Cx)(pins:List (Addr×Obj))(D:Ends)(f:Flow)(s':Shared):Prop :=
 match f with
 | .next => ∃ σ' H',Inv X pins σ' H' s'∧D.nx σ' H'
 | .brk => ∃ σ' H',Inv X pins σ' H' s'∧D.bk σ' H'
 | .cont => ∃ σ' H',Inv X pins σ' H' s'∧D.ct σ' H'
 | .ret u => ∃ v σ' H',Inv X pins σ' H' s'∧RelV v u∧D.rt v H'
noncomputable def PE (X:Cx)(e:Expr)(t:TE):Prop :=
 ∀ (pins:List (Addr×Obj)) (s:Shared) (σ : St) (H:Hp) (Q:VK),Inv X pins σ H s→t σ H Q→wpAny (model X.prog X.w) X.A (eval e X.env) (EP X pins σ Q) X.xe s
noncomputable def PT (X:Cx)(e:Expr)(t:TT):Prop :=
 ∀ (pins:List (Addr×Obj)) (s:Shared) (σ : St) (H:Hp) (Q:Bool→Hp→Prop),Inv X pins σ H s→t σ H Q→wpAny (model X.prog X.w) X.A (isTrue e X.env (eval e X.env)) (TP X pins σ Q) X.xe s
noncomputable def PW (X:Cx)(e:Expr)(t:TT):Prop :=
 ∀ (whole:Sem Value) (pins:List (Addr×Obj)) (s:Shared) (σ : St) (H:Hp) (Q:Bool→Hp→Prop),Inv X pins σ H s→t σ H Q→wpAny (model X.prog X.w) X.A (isTrue e X.env whole) (TP X pins σ Q) X.xe s
theorem PW.pt {X:Cx}{e:Expr}{t:TT}(h:PW X e t):PT X e t:=h _
noncomputable def PA (X:Cx)(es:List Expr)(t:TA):Prop :=
 ∀ (pos:Pos) (pins:List (Addr×Obj)) (s:Shared) (σ : St) (H:Hp) (Q:List V→Hp→Prop),Inv X pins σ H s→t σ H Q→wpAny (model X.prog X.w) X.A (spliced (backTo pos (starEach es X.env))) (AP X pins σ Q) X.xe s
noncomputable def PS (X:Cx)(st:Stmt)(t:TS):Prop :=
 ∀ (pins:List (Addr×Obj)) (s:Shared) (σ : St) (H:Hp) (D:Ends),Inv X pins σ H s→t D σ H→wpAny (model X.prog X.w) X.A (exec st X.env) (SP X pins D) X.xe s
noncomputable def PSs (X:Cx)(st:List Stmt)(t:TS):Prop :=
 ∀ (pins:List (Addr×Obj)) (s:Shared) (σ : St) (H:Hp) (D:Ends),Inv X pins σ H s→t D σ H→wpAny (model X.prog X.w) X.A (execs st X.env) (SP X pins D) X.xe s
theorem thn {α : Type}{t:Sem α}{Q Q' : α → Shared→Prop}{M:Model}{A:Around}{E:Value→Shared→Prop}{s:Shared}(h:wpAny M A t Q E s)(hQ:∀ a s,Q a s→Q' a s):wpAny M A t Q' E s:=wpAny_mono h hQ fun _ _ x=>x
end L2
namespace L2
open PySem PySem.Spec PyProof.Rows
section
variable {X:Cx}
noncomputable def tVar (i:Nat):TE:=fun σ H Q => ∃ v,σ[i]? = some (some v)∧Q v H
noncomputable def tC (v:V):TE:=fun _ H Q=>Q v H
theorem zlw {i:Nat}{x:Str}{pos:Pos}(hN:X.N[i]? = some x)(hv:Vis X.env.scope x)(hd:autoParam ((x == ("__debug__" : Str))=false) zav._auto_1)(hcd:autoParam ((x == ("__classdict__" : Str))=false) zav._auto_1):PE X (.Name x pos) (tVar i):=by
 intro pins s σ H Q I h
 refine zc1b h fun v e h => ?_
 refine zc1b I.loc fun m hn hl => ?_
 refine zc1b (hl i x v hN e hv) fun u r l => ?_
 have fin:EP X pins σ Q u s:=⟨v,H,I,r,h⟩
 rcases l with ⟨hk,hm⟩|⟨hk,c,hc,hcell⟩
 ·exact wpAny_Name (wpAny_loadName_local I.ok.kind hk hn hm fin) hd
 ·rcases hk with hk|hk
  ·exact wpAny_Name (wpAny_loadName_cell I.ok.kind hk hc hcell fin) hd
  ·exact wpAny_Name (wpAny_loadName_free I.ok.kind hk hc hcell fin hcd) hd
theorem zlP {i j pos}:PE X (.Constant (.int i) j pos) (tC (.int i)):=fun _ _ _ H _ I h=>wpAny_Constant_int ⟨.int i,H,I.tok _,⟨_,rfl⟩,h⟩
theorem pe_bl {b j pos}:PE X (.Constant (.bool b) j pos) (tC (.bl b)):=fun _ _ _ H _ I h=>Constant_bool ⟨.bl b,H,I,rfl,h⟩
theorem zmi {x j pos}:PE X (.Constant (.str x) j pos) (tC (.str x)):=fun _ _ _ H _ I h=>Calls.Constant_str ⟨.str x,H,I.tok _,⟨_,rfl⟩,h⟩
noncomputable def Gl (X:Cx)(x:Str):Prop:=X.env.kindOf x=some .globalImplicit
theorem zg0 {E:Value→Shared→Prop}{pins:List (Addr×Obj)}{s:Shared}{σ : St}{H:Hp}{x:Str}{u:Value}{pos:Pos}{Q:Value→Shared→Prop}(I:Inv X pins σ H s)(hg:Gl X x)(hm:X.mg x=some u)(h:Q u s)
 (hd:autoParam ((x == ("__debug__" : Str))=false) zav._auto_1):wpAny (model X.prog X.w) X.A (eval (.Name x pos) X.env) Q E s :=
 Calls.Name_function_global I.ok.kind hg (Calls.loadGlobal_global (by rw [I.ok.glob];exact I.mod.glob.keeps I.bk) hm h) hd
theorem zeZ {E:Value→Shared→Prop}{pins:List (Addr×Obj)}{s:Shared}{σ : St}{H:Hp}{x:Str}{u:Value}{pos:Pos}{Q:Value→Shared→Prop}(I:Inv X pins σ H s)(hg:Gl X x)(hm:X.mg x=none)(hv:bootBuiltins x=some u)(h:Q u s)
 (hn:autoParam (x ≠ "__name__") zav._auto_1) (hd:autoParam ((x == ("__debug__" : Str))=false) zav._auto_1):wpAny (model X.prog X.w) X.A (eval (.Name x pos) X.env) Q E s:=by
 refine zc1b I.mod.blt fun mb h1 h2 => ?_
 exact Calls.Name_function_global I.ok.kind hg (Calls.loadGlobal_builtin (by rw [I.ok.glob];exact I.mod.glob.keeps I.bk) hm (by rw [I.ok.blt];exact h1.keeps I.bk) ((h2 x hn).trans hv) h) hd
theorem zkx {x:Str}{v:V}{u:Value}{pos:Pos}(hg:Gl X x)(hm:X.mg x=none)(hv:bootBuiltins x=some u)(r:RelV v u)(hn:autoParam (x ≠ "__name__") zav._auto_1)(hd:autoParam ((x == ("__debug__" : Str))=false) zav._auto_1):PE X (.Name x pos) (tC v) :=
 fun _ _ _ H _ I h=>zeZ I hg hm hv ⟨v,H,I,r,h⟩ hn hd
variable {a b:Expr}{ta tb:TE}{pos:Pos}
noncomputable def tB (t:TE):TT:=fun σ H Q=>t σ H fun x H1 => ∃ c,x=.bl c∧Q c H1
theorem zkT {e:Expr}{t:TE}(h:PE X e t)(he:autoParam (∀ whole,isTrue e X.env whole=(do let v ← whole;standAt e.pos;holding [v] (truthy v))) zaw._auto_1):PT X e (tB t):=by
 intro pins s σ H Q I hw
 refine isTrue_plain (thn (h pins s σ H _ I hw) fun v s1 ⟨x,H1,I1,r1,q1⟩ => ?_) (he _)
 refine zc1b q1 fun d zr1 q => ?_
 obtain rfl:=zr1
 cases r1
 exact wpAny_truthy_bool ⟨H1,I1,q⟩
variable {tA tB':TT}{rest:List Expr}
noncomputable def tAnd (t u:TT):TT:=fun σ H Q=>t σ H fun c H1=>if c=true then u σ H1 Q else Q false H1
noncomputable def tOr (t u:TT):TT:=fun σ H Q=>t σ H fun c H1=>if c=true then Q true H1 else u σ H1 Q
noncomputable def tNot (t:TT):TT:=fun σ H Q=>t σ H fun c H1=>Q (!c) H1
theorem zka (ha:PT X a tA):PW X (.BoolOp .And [a] pos) tA:=by
 intro wh pins s σ H Q I h
 refine isTrue_and (thn (ha pins s σ H Q I h) fun c s1 e => ?_)
 cases c with
 | true=>exact isTrue_and_nil e
 | false=>exact e
theorem zkD (ha:PT X a tA):PW X (.BoolOp .Or [a] pos) tA:=by
 intro wh pins s σ H Q I h
 refine isTrue_or (thn (ha pins s σ H Q I h) fun c s1 e => ?_)
 cases c with
 | false=>exact isTrue_or_nil e
 | true=>exact e
theorem zma (ha:PT X a tA)(hb:PW X (.BoolOp .And (b::rest) pos) tB'):PW X (.BoolOp .And (a::b::rest) pos) (tAnd tA tB'):=by
 intro wh pins s σ H Q I h
 refine isTrue_and (thn (ha pins s σ H _ I h) fun c s1 zh => ?_)
 refine zc1b zh fun H1 I1 q1 => ?_
 cases c with
 | true=>exact hb wh pins s1 σ H1 Q I1 q1
 | false=>exact ⟨H1,I1,q1⟩
theorem pw_or (ha:PT X a tA)(hb:PW X (.BoolOp .Or (b::rest) pos) tB'):PW X (.BoolOp .Or (a::b::rest) pos) (tOr tA tB'):=by
 intro wh pins s σ H Q I h
 refine isTrue_or (thn (ha pins s σ H _ I h) fun c s1 zh => ?_)
 refine zc1b zh fun H1 I1 q1 => ?_
 cases c with
 | true=>exact ⟨H1,I1,q1⟩
 | false=>exact hb wh pins s1 σ H1 Q I1 q1
theorem zkA (ha:PT X a tA):PT X (.UnaryOp .Not a pos) (tNot tA):=by
 intro pins s σ H Q I h
 exact isTrue_not (ha pins s σ H (fun c H1=>Q (!c) H1) I h)
noncomputable def tAndV (ta tb:TE):TE:=fun σ H Q=>ta σ H fun x H1 => ∃ c,x=.bl c∧if c=true then tb σ H1 Q else Q (.bl false) H1
noncomputable def tNotV (ta:TE):TE:=fun σ H Q=>ta σ H fun x H1 => ∃ c,x=.bl c∧Q (.bl (!c)) H1
theorem zlQ {op}{t:TE}(h:PE X a t):PE X (.BoolOp op [a] pos) t:=fun pins s σ H Q I hw=>BoolOp_one (h pins s σ H Q I hw)
theorem zmv (ha:PE X a ta)(hb:PE X (.BoolOp .And (b::rest) pos) tb):PE X (.BoolOp .And (a::b::rest) pos) (tAndV ta tb):=by
 intro pins s σ H Q I h
 refine BoolOp_and (thn (ha pins s σ H _ I h) fun v s1 zh => ?_)
 obtain ⟨x,H1,I1,r1,q1⟩:=zh
 obtain ⟨c,rfl,q1⟩:=q1
 cases r1
 refine wpAny_truthy_bool ?_
 cases c with
 | true=>exact hb pins s1 σ H1 Q I1 q1
 | false=>exact ⟨.bl false,H1,I1,rfl,q1⟩
theorem zmb (ha:PE X a ta):PE X (.UnaryOp .Not a pos) (tNotV ta):=by
 intro pins s σ H Q I h
 refine UnaryOp_ (thn (ha pins s σ H _ I h) fun v s1 zh => ?_)
 obtain ⟨x,H1,I1,r1,q1⟩:=zh
 obtain ⟨c,rfl,q1⟩:=q1
 cases r1
 exact not_of (wpAny_truthy_bool ⟨.bl (!c),H1,I1,rfl,q1⟩)
end
end L2
namespace L2
open PySem PySem.Spec PyProof.Rows
noncomputable def SqL (K:PySem.W.Frag)(H:Hp)(a:Addr)(xs:List V):Prop :=
 Rd H a (.lst xs) ∨
  ∃ (o:Obj) (its:Array Value) (n:Nat),K.lookup a=some o∧o.cls=.type "list" ∧ o.dict=none∧o.data=.seq its n∧its.size≤sizeLine∧Vals xs its.toList
noncomputable def SqT (K:PySem.W.Frag)(H:Hp)(a:Addr)(xs:List V):Prop :=
 Rd H a (.tup xs) ∨
  ∃ (o:Obj) (its:Array Value) (n:Nat),K.lookup a=some o∧o.cls=.type "tuple" ∧ o.data=.seq its n∧its.size≤sizeLine∧Vals xs its.toList
noncomputable def absV:Value→Option V
 | .none=>some .non
 | .bool b=>some (.bl b)
 | .int i _=>some (.int i)
 | .str x _=>some (.str x)
 | .bytes b _=>some (.byt b)
 | .float b _=>some (.flt b)
 | .ref a=>some (.ref a)
 | .type n=>some (.ty n)
 | _=>none
theorem RelV.abs {x:V}{u:Value}(r:RelV x u):absV u=some x:=by
 cases x with
 | non=>cases r;rfl
 | bl _=>cases r;rfl
 | int _=>obtain ⟨t,rfl⟩:=r;rfl
 | str _=>obtain ⟨t,rfl⟩:=r;rfl
 | byt _=>obtain ⟨t,rfl⟩:=r;rfl
 | flt _=>obtain ⟨t,rfl⟩:=r;rfl
 | ref _=>cases r;rfl
 | ty _=>cases r;rfl
theorem RelV.inj {x y:V}{u:Value}(r:RelV x u)(q:RelV y u):x=y:=Option.some.inj (r.abs.symm.trans q.abs)
theorem Vals.inj:∀ {xs ys:List V} {us:List Value},Vals xs us→Vals ys us→xs=ys:=fun {xs ys us} g h=>by
 induction g generalizing ys with
 | nil=>cases h;rfl
 | cons r _ ih =>
  cases h with
  | cons r' t'=>rw [r.inj r',ih t']
section
variable {X:Cx}{pins:List (Addr×Obj)}{σ : St}{H:Hp}{s:Shared}{a:Addr}{xs ys:List V}
theorem SqL.of {K:PySem.W.Frag}(h:H a=some (.lst xs)):SqL K H a xs:=.inl (.inl h)
theorem SqT.of {K:PySem.W.Frag}(h:H a=some (.tup xs)):SqT K H a xs:=.inl (.inl h)
theorem Inv.list (I:Inv X pins σ H s)(h:SqL X.K H a xs):∃ its:List Value,Vals xs its∧PlainL s.heap a its.toArray∧xs.length≤sizeLine:=by
 rcases h with h|⟨o,its,n,hk,hc,hd,hs,hz,r⟩
 ·refine zc0b (h.ok I.hok) fun z zz=>zc2b zz fun its n r e => ?_
  exact ⟨its,r,⟨_,n,e,rfl,rfl,rfl⟩,z⟩
 ·refine ⟨its.toList,r,⟨o,n,I.kIn a o hk,hc,hd,by simpa -iota using hs⟩,?_⟩
  have e:=r.length
  simp -iota only [Array.length_toList] at e
  omega
theorem Inv.tuple (I:Inv X pins σ H s)(h:SqT X.K H a xs):∃ its:List Value,Vals xs its∧IsTup s.heap a its.toArray∧xs.length≤sizeLine:=by
 rcases h with h|⟨o,its,n,hk,hc,hs,hz,r⟩
 ·obtain ⟨z,its,r,p⟩:=h.ok I.hok
  exact ⟨its,r,p,z.1⟩
 ·refine ⟨its.toList,r,⟨o,I.kIn a o hk,hc,n,by simpa -iota using hs⟩,?_⟩
  have e:=r.length
  simp -iota only [Array.length_toList] at e
  omega
theorem Inv.list_inj (I:Inv X pins σ H s)(h:SqL X.K H a xs)(h':SqL X.K H a ys):xs=ys:=by
 refine zc1c (I.list h) fun its r zr2 _ => ?_
 obtain ⟨o,n,e,_,_,d⟩:=zr2
 refine zc1c (I.list h') fun its' r' zr2 _ => ?_
 obtain ⟨o',n',e',_,_,d'⟩:=zr2
 rw [e] at e';cases e'
 rw [d] at d'
 injection d' with d1 _
 have:its=its':=by simpa -iota using congrArg Array.toList d1
 subst this
 exact r.inj r'
theorem Inv.tuple_inj (I:Inv X pins σ H s)(h:SqT X.K H a xs)(h':SqT X.K H a ys):xs=ys:=by
 refine zc1c (I.tuple h) fun its r zr2 _ => ?_
 obtain ⟨o,e,_,n,d⟩:=zr2
 refine zc1c (I.tuple h') fun its' r' zr2 _ => ?_
 obtain ⟨o',e',_,n',d'⟩:=zr2
 rw [e] at e';cases e'
 rw [d] at d'
 injection d' with d1 _
 have:its=its':=by simpa -iota using congrArg Array.toList d1
 subst this
 exact r.inj r'
end
abbrev Cx.wish (X:Cx)(E:Value→Shared→Prop):Cx:={ X with xe:=E }
abbrev Cx.nox (X:Cx):Cx:=X.wish fun _ _=>False
theorem Cx.Ok.wish {X:Cx}(ok:X.Ok)(E:Value→Shared→Prop):(X.wish E).Ok :=
 ⟨ok.mod,ok.kind,ok.glob,ok.blt,ok.above,ok.inj,ok.has,ok.cab,ok.hd,ok.frames,ok.stk,ok.exf,ok.bs,ok.bsz,ok.noex,ok.exfs,ok.funs,ok.frf⟩
theorem Cx.Ok.unwish {X:Cx}{E:Value→Shared→Prop}(ok:(X.wish E).Ok):X.Ok :=
 ⟨ok.mod,ok.kind,ok.glob,ok.blt,ok.above,ok.inj,ok.has,ok.cab,ok.hd,ok.frames,ok.stk,ok.exf,ok.bs,ok.bsz,ok.noex,ok.exfs,ok.funs,ok.frf⟩
section
variable {X:Cx}{pins:List (Addr×Obj)}{σ : St}{H:Hp}{s:Shared}{E:Value→Shared→Prop}
theorem Inv.wish (I:Inv X pins σ H s)(E:Value→Shared→Prop):Inv (X.wish E) pins σ H s:=⟨I.ok.wish E,I.os,I.bare,I.base,I.loc,I.cell,I.free,I.freeC,I.pin,I.hok,I.len⟩
theorem Inv.unwish (I:Inv (X.wish E) pins σ H s):Inv X pins σ H s:=⟨I.ok.unwish,I.os,I.bare,I.base,I.loc,I.cell,I.free,I.freeC,I.pin,I.hok,I.len⟩
theorem SP.unwish {D:Ends}{f:Flow}{s':Shared}(h:SP (X.wish E) pins D f s'):SP X pins D f s':=by
 cases f with
 | next=>obtain ⟨σ',H',I,q⟩:=h;exact ⟨σ',H',I.unwish,q⟩
 | brk=>obtain ⟨σ',H',I,q⟩:=h;exact ⟨σ',H',I.unwish,q⟩
 | cont=>obtain ⟨σ',H',I,q⟩:=h;exact ⟨σ',H',I.unwish,q⟩
 | ret u=>obtain ⟨v,σ',H',I,r,q⟩:=h;exact ⟨v,σ',H',I.unwish,r,q⟩
theorem PSs.nox {st:List Stmt}{t:TS}(h:PSs X.nox st t):PSs X st t:=fun pins s σ H D I hw =>
 wpAny_mono (h pins s σ H D (I.wish _) hw) (fun _ _ q=>q.unwish) fun _ _ z=>False.elim z
end
section
variable {X:Cx}{st:Stmt}{rest:List Stmt}{t u:TS}{e:Expr}{te:TE}{pos:Pos}
noncomputable def tNext:TS:=fun D σ H=>D.nx σ H
noncomputable def tSeq (t u:TS):TS:=fun D σ H=>t { D with nx:=u D } σ H
theorem zd2:PSs X [] tNext:=fun _ _ σ H _ I h=>wpAny_execs_nil ⟨σ,H,I,h⟩
theorem zb7 (h1:PS X st t)(h2:PSs X rest u):PSs X (st::rest) (tSeq t u):=by
 intro pins s σ H D I h
 refine wpAny_execs_cons (thn (h1 pins s σ H { D with nx:=u D } I h) fun f s1 q => ?_)
 cases f with
 | next =>
  refine zc2b q fun σ' H' I' q => ?_
  exact h2 pins s1 σ' H' D I' q
 | ret v=>exact q
 | brk=>exact q
 | cont=>exact q
theorem ze5 (h1:PS X st t):PSs X [st] t:=by
 intro pins s σ H D I h
 refine wpAny_execs_cons (thn (h1 pins s σ H D I h) fun f s1 q => ?_)
 cases f with
 | next=>exact wpAny_execs_nil q
 | ret v=>exact q
 | brk=>exact q
 | cont=>exact q
theorem Inv.quiet {pins:List (Addr×Obj)}{σ : St}{H:Hp}{s:Shared}(I:Inv X pins σ H s):interactive X.env=false:=by simp -iota [interactive,I.ok.kind]
noncomputable def tDrop (te:TE):TS:=fun D σ H=>te σ H fun _ H1=>D.nx σ H1
theorem zes (he:PE X e te)(hs:autoParam (swapsWith e none pos.line X.env=pure false) zau._auto_1):PS X (.Expr e pos) (tDrop te):=by
 intro pins s σ H D I h
 exact wpAny_Expr_any (thn (he pins s σ H _ I h) (by rintro v s1 ⟨x,H1,I1,r1,q1⟩;exact ⟨σ,H1,I1,q1⟩)) I.quiet hs
noncomputable def tRet (te:TE):TS:=fun D σ H=>te σ H D.rt
theorem zeU (he:PE X e te):PS X (.Return (some e) pos) (tRet te):=by
 intro pins s σ H D I h
 exact wpAny_Return_some (thn (he pins s σ H _ I h) (by rintro v s1 ⟨x,H1,I1,r1,q1⟩;exact ⟨x,σ,H1,I1,r1,q1⟩))
noncomputable def tIfS (c:TT)(t u:TS):TS:=fun D σ H=>c σ H fun b H1=>if b=true then t D σ H1 else u D σ H1
theorem zjS {c:Expr}{a b:List Stmt}{tc:TT}(hc:PT X c tc)(ha:PSs X a t)(hb:PSs X b u):PS X (.If c a b pos) (tIfS tc t u):=by
 intro pins s σ H D I h
 refine wpAny_If (thn (hc pins s σ H _ I h) fun d s1 zh => ?_)
 refine zc1b zh fun H1 I1 q1 => ?_
 cases d with
 | true=>exact ha pins s1 σ H1 D I1 q1
 | false=>exact hb pins s1 σ H1 D I1 q1
end
abbrev TG:=V→St→Hp→(St→Hp→Prop)→Prop
abbrev TGs:=List V→St→Hp→(St→Hp→Prop)→Prop
def PG (X:Cx)(target:Expr)(t:TG):Prop :=
 ∀ (pins:List (Addr×Obj)) (s:Shared) (σ : St) (H:Hp) (v:V) (u:Value) (Q:St→Hp→Prop),Inv X pins σ H s→RelV v u→t v σ H Q →
  wpAny (model X.prog X.w) X.A (assign target X.env u) (fun _ s' => ∃ σ' H',Inv X pins σ' H' s'∧Q σ' H') X.xe s
noncomputable def PGs (X:Cx)(ts:List Expr)(t:TGs):Prop :=
 ∀ (pins:List (Addr×Obj)) (s:Shared) (σ : St) (H:Hp) (vs:List V) (us:List Value) (Q:St→Hp→Prop),Inv X pins σ H s→Vals vs us→t vs σ H Q →
  wpAny (model X.prog X.w) X.A (assignInOrder ((assignEach ts X.env).map (·.2)) us) (fun _ s' => ∃ σ' H',Inv X pins σ' H' s'∧Q σ' H') X.xe s
abbrev TSet:=V→V→V→Hp→(Hp→Prop)→Prop
def PSet (X:Cx)(t:TSet):Prop :=
 ∀ (pins:List (Addr×Obj)) (s:Shared) (σ : St) (H:Hp) (o i v:V) (ov iv u:Value) (Q:Hp→Prop),Inv X pins σ H s→RelV o ov→RelV i iv→RelV v u→t o i v H Q →
  wpAny (model X.prog X.w) X.A (setItem ov iv u) (fun _ s' => ∃ H',Inv X pins σ H' s'∧Q H') X.xe s
section
variable {X:Cx}{pos:Pos}
noncomputable def zdo (i:Nat):TG:=fun v σ H Q=>Q (σ.set i (some v)) H
theorem za9 {i:Nat}{x:Str}(hN:X.N.Nodup)(hi:X.N[i]? = some x)(hx:Loc X.env.scope x)(hf:X.fn x=true∨X.env.scope.names.lookup x=some .local:=by first|exact .inl rfl|exact .inr rfl|assumption):PG X (.Name x pos) (zdo i):=by
 intro pins s σ H v u Q I r h
 exact wpAny_assign_Name (zdv I hN hi hx r (fun s' I'=>⟨_,H,I',h⟩) hf)
noncomputable def gNil:TGs:=fun vs σ H Q=>vs=[]∧Q σ H
noncomputable def zkC (t:TG)(u:TGs):TGs:=fun vs σ H Q => ∃ v r,vs=v::r∧t v σ H fun σ' H'=>u r σ' H' Q
theorem ze9:PGs X [] gNil:=by
 intro pins s σ H vs us Q I r h
 obtain ⟨e,h⟩:=h
 subst e
 cases r
 exact assignInOrder_nil ⟨σ,H,I,h⟩
theorem zbd {e:Expr}{es:List Expr}{t:TG}{u:TGs}(h1:PG X e t)(h2:PGs X es u)
 (hs:autoParam ((assignEach (e::es) X.env).map (·.2)=assign e X.env::(assignEach es X.env).map (·.2)) zau._auto_1):PGs X (e::es) (zkC t u):=by
 intro pins s σ H vs us Q I r h
 obtain ⟨v,vr,e1,h⟩:=h
 subst e1
 cases r with
 | cons r rr =>
  rw [hs]
  refine assignInOrder_cons (thn (h1 pins s σ H _ _ _ I r h) fun _ s1 zh => ?_)
  obtain ⟨σ1,H1,I1,q1⟩:=zh
  exact h2 pins s1 σ1 H1 _ _ Q I1 rr q1
def gTup (K:PySem.W.Frag)(n:Nat)(t:TGs):TG:=fun v σ H Q => ∃ a xs,v=.ref a∧SqT K H a xs∧xs.length=n∧t xs σ H Q
theorem zgO {es:List Expr}{k:Nat}{t:TGs}{n:Nat}(hc:X.calm=true)(h:PGs X es t)
 (hn:autoParam ((assignEach es X.env).length=n) zau._auto_1) (hst:autoParam ((assignEach es X.env).findIdx? (·.1)=none) zau._auto_1):PG X (.Tuple es k pos) (gTup X.K n t):=by
 intro pins s σ H v u Q I r hw
 obtain ⟨a,xs,e1,hq,hl,hw⟩:=hw
 subst e1
 cases r
 obtain ⟨its,rv,ht,hz⟩:=I.tuple hq
 refine assign_Tuple_tuple (I.ok.hd hc) ht (by simp -iota [hn,← hl,rv.length]) hst fun h' hx => ?_
 have I1:Inv X pins σ H { s with heap:=h' }:=I.kept (t':=s.toks) fun b o e=>hx b o (Nat.ne_of_lt (Heap.lt_size e)) e
 exact h pins _ σ H xs _ Q I1 (by simpa -iota using rv) hw
noncomputable def gSub (to ti:TE)(t:TSet):TG:=fun v σ H Q=>to σ H fun o H1=>ti σ H1 fun i H2=>t o i v H2 fun H3=>Q σ H3
theorem ziR {o i:Expr}{to ti:TE}{t:TSet}(ho:PE X o to)(hi:PE X i ti)(hs:PSet X t)
 (ha:∀ v,assign (.Subscript o i pos) X.env v=(do
  let ov ← holding [v] (eval o X.env)
  let iv ← holding [v,ov] (eval i X.env)
  standAt pos
  holding [v,ov,iv] (setItem ov iv v)
  release [v,ov,iv] []):=by intro _;rfl):PG X (.Subscript o i pos) (gSub to ti t):=by
 intro pins s σ H v u Q I r h
 rw [ha]
 refine wpAny_bind (wpAny_holding (thn (ho pins s σ H _ I h) fun ov s1 zh => ?_))
 refine zc2c zh fun x H1 I1 r1 q1 => ?_
 refine wpAny_bind (wpAny_holding (thn (hi pins s1 σ H1 _ I1 q1) fun iv s2 zh => ?_))
 refine zc2c zh fun y H2 I2 r2 q2 => ?_
 refine wpAny_bind (wpAny_standAt (wpAny_bind (wpAny_holding (thn (hs pins s2 σ H2 x y v ov iv u _ I2 r1 r2 r q2) fun _ s3 zh => ?_))))
 refine zc1b zh fun H3 I3 q3 => ?_
 exact wpAny_release ⟨σ,H3,I3,q3⟩
noncomputable def tAsg (te:TE)(g:TG):TS:=fun D σ H=>te σ H fun x H1=>g x σ H1 D.nx
theorem ziA {tg e:Expr}{te:TE}{g:TG}(he:PE X e te)(hg:PG X tg g)(hs:autoParam (swapsWithSole [tg] e pos.line X.env=pure false) zau._auto_1)(hw:autoParam (swappedStores [tg] e X.env=pure none) zau._auto_1)
 (h1:autoParam ((assignEach [tg] X.env).map (·.2)=[assign tg X.env]) zau._auto_1):PS X (.Assign [tg] e pos) (tAsg te g):=by
 intro pins s σ H D I h
 refine wpAny_Assign_stores (thn (he pins s σ H _ I h) fun v s1 ⟨x,H1,I1,r1,q1⟩ => ?_) hs hw
 rw [h1]
 exact thn (hg pins s1 σ H1 x v _ I1 r1 q1) fun _ s2 q=>q
theorem zdB {i:Nat}{x:Str}{e:Expr}{te:TE}{pos':Pos}(hN:X.N.Nodup)(hi:X.N[i]? = some x)(hx:Loc X.env.scope x)(he:PE X e te)(hs:autoParam (swapsWith e (some (.Name x pos')) pos.line X.env=pure false) zau._auto_1)(hf:X.fn x=true∨X.env.scope.names.lookup x=some .local:=by first|exact .inl rfl|exact .inr rfl|assumption) :
 PS X (.Assign [.Name x pos'] e pos) (tAsg te (zdo i)):=by
 intro pins s σ H D I h
 refine wpAny_Assign_Name (thn (he pins s σ H _ I h) fun v s1 ⟨y,H1,I1,r1,q1⟩ => ?_) hs
 exact zdv I1 hN hi hx r1 (fun s2 I2=>⟨_,H1,I2,q1⟩) hf
end
structure It where
 go:Nat→Hp→Prop
 yld:Nat→Hp→V→Hp→Prop
 stop:Nat→Hp→Prop
noncomputable def FpOk (X:Cx)(pins:List (Addr×Obj))(H:Hp)(b:Addr):Prop :=
 H b=none∧b≠X.env.locals∧b∉X.fs∧(b∈X.ex∨X.s₀.heap.objs.size≤b)∧(∀ x c,X.env.cells.lookup x=some c→c≠b)∧∀ p∈X.pn++pins,p.1≠b
theorem Inv.fpOk {X:Cx}{pins:List (Addr×Obj)}{σ : St}{H H':Hp}{s:Shared}{b:Addr}(I:Inv X pins σ H s)(hb:s.heap.objs.size≤b)(hn:H' b=none):FpOk X pins H' b:=by
 refine ⟨hn,Nat.ne_of_gt (Nat.lt_of_lt_of_le I.lt hb),I.nofs hb,.inr (Nat.le_trans I.sz hb),fun x c e z => ?_,fun p hp z => ?_⟩
 ·obtain ⟨v,q⟩:=I.cell x c e
  exact absurd (Nat.lt_of_lt_of_le q.lt (by rw [z];exact hb)) (Nat.lt_irrefl _)
 ·exact absurd (Nat.lt_of_lt_of_le (Heap.lt_size (I.pin p hp).1) (by rw [z];exact hb)) (Nat.lt_irrefl _)
structure Turn (P:Program)(w:World)(K:PySem.W.Frag)(tg:Expr)(J:It)(fp:List Addr)(it:Addr)(tn:Nat→Heap→Prop):Prop where
 mem:it∈fp
 obj:∀ i h,tn i h→∀ b∈fp,∃ o,h.get? b=some o∧∀ v,o.data ≠ .cell v
 keep:∀ i h h',tn i h→(∀ b∈fp,∀ o,h.get? b=some o→h'.get? b=some o)→tn i h'
 item:∀ (X:Cx),X.prog=P→X.w=w→X.K=K→X.calm=true→∀ (i:Nat) (pins:List (Addr×Obj)) (s:Shared) (σ : St) (H:Hp) (E:Value→Shared→Prop),Inv X pins σ H s→(∀ b∈fp,FpOk X pins H b)→tn i s.heap→J.go i H →
  wpAny (model P w) X.A (pyNext (.ref it)) (fun r s1 => ∃ u,r=some u ∧
   wpAny (model P w) X.A (letOwnedTupleGo tg (.ref it) u) (fun _ s2 => ∃ x H',Inv X pins σ H' s2∧RelV x u∧J.yld i H x H'∧tn (i+1) s2.heap∧∀ b∈fp,H' b=none) E s1) E s
 done:∀ (X:Cx),X.prog=P→X.w=w→X.K=K→X.calm=true→∀ (i:Nat) (pins:List (Addr×Obj)) (s:Shared) (σ : St) (H:Hp) (E:Value→Shared→Prop),Inv X pins σ H s→(∀ b∈fp,FpOk X pins H b)→tn i s.heap→J.stop i H →
  wpAny (model P w) X.A (pyNext (.ref it)) (fun r s1=>r=none∧Inv X pins σ H s1) E s
 self:∀ (A:Around) (i:Nat) (s:Shared) (Q:Value→Shared→Prop) (E:Value→Shared→Prop),tn i s.heap→Q (.ref it) s→wpAny (model P w) A (pyIter (.ref it)) Q E s
abbrev TI:=St→Hp→(It→Hp→Prop)→Prop
def PIE (X:Cx)(pins:List (Addr×Obj))(σ : St)(tg:Expr)(R:It→Hp→Prop)(itv:Value)(s2:Shared):Prop :=
 ∃ (it:Addr) (fp:List Addr) (tn:Nat→Heap→Prop) (J:It) (H':Hp),itv=.ref it∧Inv X pins σ H' s2∧Turn X.prog X.w X.K tg J fp it tn∧tn 0 s2.heap∧(∀ b∈fp,FpOk X pins H' b)∧R J H'
def PI (X:Cx)(tg iter:Expr)(wi:TI):Prop :=
 ∀ (pins:List (Addr×Obj)) (s:Shared) (σ : St) (H:Hp) (R:It→Hp→Prop),Inv X pins σ H s→wi σ H R →
  wpAny (model X.prog X.w) X.A (eval iter X.env) (fun v s1=>wpAny (model X.prog X.w) X.A (pyIter v) (PIE X pins σ tg R) X.xe s1) X.xe s
theorem zja {M:Model}{A:Around}{E:Value→Shared→Prop}{s:Shared}{tg:Expr}{it:Addr}{u:Value}{o:Obj}{n:String}{vs:Array Value}{Q:Unit→Shared→Prop}(ho:s.heap.get? it=some o)(hc:o.cls=.type n)(hd:o.data=.fields vs)
 (hn : ["enumerate", "zip", "dict_itemiterator", "dict_reverseitemiterator", "odict_iterator", "itertools.zip_longest", "itertools.pairwise"].contains n=false) (hQ:Q () s):wpAny M A (letOwnedTupleGo tg (.ref it) u) Q E s:=by
 unfold letOwnedTupleGo
 cases tg<;>first
  | exact wpAny_pure hQ
  | (cases u<;>first
   | exact wpAny_pure hQ
   | (
    refine wpAny_bind (wpAny_load ho ?_)
    rw [hc,hd]
    show wpAny M A (if (["enumerate", "zip", "dict_itemiterator", "dict_reverseitemiterator", "odict_iterator", "itertools.zip_longest", "itertools.pairwise"].contains n&&vs[0]? == some (rawInt _))=true then _ else _) Q E s
    rw [if_neg (by intro h;rw [hn,Bool.false_and] at h;cases h)]
    exact wpAny_pure hQ))
def Itl (K:PySem.W.Frag)(a:Addr):It :=
 ⟨fun i H => ∃ xs x,SqL K H a xs∧xs[i]? = some x,fun i H x H'=>H'=H∧∀ xs,SqL K H a xs→xs[i]? = some x,fun i H => ∃ xs,SqL K H a xs∧xs.length≤i⟩
def Itt (K:PySem.W.Frag)(a:Addr):It :=
 ⟨fun i H => ∃ xs x,SqT K H a xs∧xs[i]? = some x,fun i H x H'=>H'=H∧∀ xs,SqT K H a xs→xs[i]? = some x,fun i H => ∃ xs,SqT K H a xs∧xs.length≤i⟩
noncomputable def Itr (lo:Int)(n:Nat):It:=⟨fun i _=>i<n,fun i H x H'=>H'=H∧x=.int (lo+i),fun i _=>n≤i⟩
theorem zfG {P:Program}{w:World}{K:PySem.W.Frag}{tg:Expr}(a it:Addr):Turn P w K tg (Itl K a) [it] it (fun i h=>h.IsListIter it a i) where
 mem:=by simp -iota
 obj:=fun i h st b hb=>by
  have e:b=it:=by simpa -iota using hb
  subst e
  refine zc1c st fun o e c d => ?_
  exact ⟨o,e,fun v z=>by rw [d] at z;cases z⟩
 keep:=fun i h h' st k=>st.at fun o e=>k it (by simp -iota) o e
 item:=by
  intro X hP hw hK hc i pins s σ H E I hf st hg
  subst hP hw hK
  refine zc2b hg fun xs x hq hx => ?_
  refine zc1c (I.list hq) fun its rv p hz => ?_
  refine zc1b (rv.get hx) fun u hu ru => ?_
  refine zc0e (hf it (by simp -iota)) fun f0 f1 f2 f3 zz=>zc0b zz fun f4 f5 => ?_
  refine wpAny_pyNext_list_item st p.isList (x:=u) (by simpa -iota using hu) fun h' st' sb => ?_
  have I1:Inv X pins σ H { s with heap:=h' }:=I.turned (t':=s.toks) (fun b o hb e=>(sb.2 b hb).trans e) f0 f1 f3 f4 f5
  refine zc1c (id st') fun o e c d => ?_
  exact ⟨u,rfl,zja (s:={ s with heap:=h' }) e c d (by decide) ⟨x,H,I1,ru,⟨rfl,fun ys hy=>by rw [I.list_inj hy hq];exact hx⟩,st',fun b hb=>(hf b hb).1⟩⟩
 done:=by
  intro X hP hw hK hc i pins s σ H E I hf st hg
  subst hP hw hK
  refine zc1b hg fun xs hq hx => ?_
  refine zc1c (I.list hq) fun its rv p hz => ?_
  refine zc0e (hf it (by simp -iota)) fun f0 f1 f2 f3 zz=>zc0b zz fun f4 f5 => ?_
  have hl:=rv.length
  exact wpAny_pyNext_list_end (I.ok.hd hc) st p.isList (by simp -iota;omega) fun h' eb=>⟨rfl,I.turned (t':=s.toks) (fun b o hb e=>eb b o hb e) f0 f1 f3 f4 f5⟩
 self:=fun _ _ _ _ _ st h=>wpAny_pyIter_listiter st h
theorem zfn {P:Program}{w:World}{K:PySem.W.Frag}{tg:Expr}(a it:Addr):Turn P w K tg (Itt K a) [it] it (fun i h=>h.IsTupleIter it a i) where
 mem:=by simp -iota
 obj:=fun i h st b hb=>by
  have e:b=it:=by simpa -iota using hb
  subst e
  refine zc1c st fun o e c d => ?_
  exact ⟨o,e,fun v z=>by rw [d] at z;cases z⟩
 keep:=fun i h h' st k=>st.at fun o e=>k it (by simp -iota) o e
 item:=by
  intro X hP hw hK hc i pins s σ H E I hf st hg
  subst hP hw hK
  refine zc2b hg fun xs x hq hx => ?_
  refine zc1c (I.tuple hq) fun its rv p hz => ?_
  refine zc1b (rv.get hx) fun u hu ru => ?_
  refine zc0e (hf it (by simp -iota)) fun f0 f1 f2 f3 zz=>zc0b zz fun f4 f5 => ?_
  refine wpAny_pyNext_tuple_item st (show s.heap.IsTuple a its.toArray from p) (x:=u) (by simpa -iota using hu) fun h' st' sb => ?_
  have I1:Inv X pins σ H { s with heap:=h' }:=I.turned (t':=s.toks) (fun b o hb e=>(sb.2 b hb).trans e) f0 f1 f3 f4 f5
  refine zc1c (id st') fun o e c d => ?_
  exact ⟨u,rfl,zja (s:={ s with heap:=h' }) e c d (by decide) ⟨x,H,I1,ru,⟨rfl,fun ys hy=>by rw [I.tuple_inj hy hq];exact hx⟩,st',fun b hb=>(hf b hb).1⟩⟩
 done:=by
  intro X hP hw hK hc i pins s σ H E I hf st hg
  subst hP hw hK
  refine zc1b hg fun xs hq hx => ?_
  refine zc1c (I.tuple hq) fun its rv p hz => ?_
  refine zc0e (hf it (by simp -iota)) fun f0 f1 f2 f3 zz=>zc0b zz fun f4 f5 => ?_
  have hl:=rv.length
  exact wpAny_pyNext_tuple_end (I.ok.hd hc) st (show s.heap.IsTuple a its.toArray from p) (by simp -iota;omega) fun h' eb=>⟨rfl,I.turned (t':=s.toks) (fun b o hb e=>eb b o hb e) f0 f1 f3 f4 f5⟩
 self:=fun _ _ _ _ _ st h=>wpAny_pyIter_tupleiter st h
theorem zf3 {P:Program}{w:World}{K:PySem.W.Frag}{tg:Expr}(it:Addr)(lo:Int)(n:Nat):Turn P w K tg (Itr lo n) [it] it (fun i h=>IsRangeIter h it (lo+(i:Nat)*1) ((n:Int)-(i:Nat)) 1) where
 mem:=by simp -iota
 obj:=fun i h st b hb=>by
  have e:b=it:=by simpa -iota using hb
  subst e
  exact ⟨_,st,fun v z=>by
   have z':Data.fields _=Data.cell v:=z
   cases z'⟩
 keep:=fun i h h' st k=>k it (by simp -iota) _ st
 item:=by
  intro X hP hw hK hc i pins s σ H E I hf st hg
  subst hP hw hK
  refine zc0e (hf it (by simp -iota)) fun f0 f1 f2 f3 zz=>zc0b zz fun f4 f5 => ?_
  have W:=Walks.range (prog:=X.prog) (w:=X.w) (I.ok.hd hc) it lo 1 n
  refine W.item i s _ _ hg st fun v h' tk hv st' kk => ?_
  obtain ⟨t,rfl⟩:=hv
  have I1:Inv X pins σ H { s with heap:=h',toks:=tk }:=I.turned (fun b o hb e=>kk b o (by simpa -iota using hb) e) f0 f1 f3 f4 f5
  refine ⟨_,rfl,zja (s:={ s with heap:=h',toks:=tk }) (n := "range_iterator") st' rfl rfl (by decide) ⟨.int (lo+i),H,I1,⟨t,?_⟩,⟨rfl,rfl⟩,st',fun b hb=>(hf b hb).1⟩⟩
  rw [Int.mul_one]
 done:=by
  intro X hP hw hK hc i pins s σ H E I hf st hg
  subst hP hw hK
  refine zc0e (hf it (by simp -iota)) fun f0 f1 f2 f3 zz=>zc0b zz fun f4 f5 => ?_
  exact wpAny_pyNext_range_end (I.ok.hd hc) st (by have:n≤i:=hg;omega) fun h' eb=>⟨rfl,I.turned (t':=s.toks) (fun b o hb e=>eb b o hb e) f0 f1 f3 f4 f5⟩
 self:=fun _ _ _ _ _ st h=>wpAny_pyIter_rangeiter st h
end L2
namespace L2
open PySem PySem.Spec PyProof.Rows
section
variable {X:Cx}{tg:Expr}
def iList (K:PySem.W.Frag)(tl:TE):TI:=fun σ H R=>tl σ H fun x H1 => ∃ a,x=.ref a∧(∃ xs,SqL K H1 a xs)∧R (Itl K a) H1
def iTup (K:PySem.W.Frag)(tl:TE):TI:=fun σ H R=>tl σ H fun x H1 => ∃ a,x=.ref a∧(∃ xs,SqT K H1 a xs)∧R (Itt K a) H1
theorem zjz {l:Expr}{tl:TE}(hl:PE X l tl):PI X tg l (iList X.K tl):=by
 intro pins s σ H R I h
 refine thn (hl pins s σ H _ I h) fun v s1 zh => ?_
 refine zc2c zh fun x H1 I1 r1 q1 => ?_
 refine zc1c q1 fun a e zr2 q => ?_
 obtain ⟨xs,hq⟩:=zr2
 subst e
 cases r1
 refine zc1c (I1.list hq) fun its rv p hz => ?_
 refine wpAny_pyIter_list p.isList ?_
 refine ⟨s1.heap.objs.size,[s1.heap.objs.size],_,_,H1,rfl,I1.kept (t':=s1.toks) fun b o e=>Heap.get?_push_of_some _ e,zfG a _,⟨_,Heap.get?_push_size _ rfl,rfl,rfl⟩,fun b hb => ?_,q⟩
 have e:b=s1.heap.objs.size:=by simpa -iota using hb
 subst e
 exact I1.fpOk (Nat.le_refl _) (I1.hok.fresh (Nat.le_refl _))
theorem zlB {l:Expr}{tl:TE}(hl:PE X l tl):PI X tg l (iTup X.K tl):=by
 intro pins s σ H R I h
 refine thn (hl pins s σ H _ I h) fun v s1 zh => ?_
 refine zc2c zh fun x H1 I1 r1 q1 => ?_
 refine zc1c q1 fun a e zr2 q => ?_
 obtain ⟨xs,hq⟩:=zr2
 subst e
 cases r1
 refine zc1c (I1.tuple hq) fun its rv p hz => ?_
 refine wpAny_pyIter_tuple (show s1.heap.IsTuple a its.toArray from p) ?_
 refine ⟨s1.heap.objs.size,[s1.heap.objs.size],_,_,H1,rfl,I1.kept (t':=s1.toks) fun b o e=>Heap.get?_push_of_some _ e,zfn a _,⟨_,Heap.get?_push_size _ rfl,rfl,rfl⟩,fun b hb => ?_,q⟩
 have e:b=s1.heap.objs.size:=by simpa -iota using hb
 subst e
 exact I1.fpOk (Nat.le_refl _) (I1.hok.fresh (Nat.le_refl _))
theorem zir {pins:List (Addr×Obj)}{σ : St}{H:Hp}{s:Shared}{R:It→Hp→Prop}{E:Value→Shared→Prop}{lo hi:Int}{t u v:Tok}{tk:Nat}(I:Inv X pins σ H s)(h1 : -(2 ^ 62)≤lo)(h2:lo<2 ^ 62)(h3 : -(2 ^ 62)≤hi)(h4:hi<2 ^ 62)
 (q:R (Itr lo (hi-lo).toNat) H):wpAny (model X.prog X.w) X.A (pyIter (.ref s.heap.objs.size)) (PIE X pins σ tg R) E { s with heap:=s.heap.push { cls:=.type "range",data:=.fields #[.int lo t,.int hi u,.int 1 v] },toks:=tk }:=by
 refine wpAny_pyIter_range (IsRange.new ..) (small_one h1 h2 h3 h4) ?_
 have I1:Inv X pins σ H { s with heap:=s.heap.push { cls:=.type "range",data:=.fields #[.int lo t,.int hi u,.int 1 v] },toks:=tk }:=I.kept fun b o e=>Heap.get?_push_of_some _ e
 refine ⟨(s.heap.push { cls:=.type "range",data:=.fields #[.int lo t,.int hi u,.int 1 v] }).objs.size,[(s.heap.push { cls:=.type "range",data:=.fields #[.int lo t,.int hi u,.int 1 v] }).objs.size],_,_,H,rfl,
  I1.kept (t':=tk) fun b o e=>Heap.get?_push_of_some _ e,zf3 _ lo (hi-lo).toNat,?_,fun b hb => ?_,q⟩
 ·have e1:lo+((0:Nat):Int)*1=lo:=by simp -iota
  have e2:(((hi-lo).toNat:Nat):Int)-((0:Nat):Int)=Builtin.Range.rangeSize lo hi 1:=by rw [rangeSize_one];split<;>omega
  show IsRangeIter _ _ (lo+((0:Nat):Int)*1) ((((hi-lo).toNat:Nat):Int)-((0:Nat):Int)) 1
  rw [e1,e2]
  exact Heap.get?_push_size _ rfl
 ·have e:b=(s.heap.push { cls:=.type "range",data:=.fields #[.int lo t,.int hi u,.int 1 v] }).objs.size:=by simpa -iota using hb
  subst e
  exact I1.fpOk (Nat.le_refl _) (I1.hok.fresh (Nat.le_refl _))
def iRng1 (ta:TA):TI:=fun σ H R=>ta σ H fun vs H1 => ∃ j:Int,vs=[.int j] ∧ -(2 ^ 62)≤j∧j<2 ^ 62∧R (Itr 0 j.toNat) H1
theorem zeg {a:Expr}{ta:TA}{p pos:Pos}(hg:Gl X "range")(hm:X.mg "range" = none)(ha:PA X [a] ta)(hs:autoParam (starEach [a] X.env=[(false,eval a X.env)]) zau._auto_1):PI X tg (.Call (.Name "range" p) [a] [] pos) (iRng1 ta):=by
 intro pins s σ H R I h
 refine Call_ (zeZ I hg hm boot_range (PyProof.Rows.callWith_type1 (thn (ha pos pins s σ H _ I h) fun us s1 ⟨vs,H1,I1,r1,q1⟩ => ?_) hs rfl))
 obtain ⟨j,e,q1,q2,q⟩:=q1
 subst e
 cases r1 with
 | cons r rr =>
  cases rr
  obtain ⟨t,rfl⟩:=r
  exact call_range_1 (zir I1 (by omega) (by omega) q1 q2 (by simpa -iota using q))
noncomputable def tFor (wi:TI)(g:TG)(tb:TS):TS:=fun D σ H=>wi σ H fun J H1 => ∃ W:Nat→Nat→St→Hp→Prop,(∃ m,W 0 m σ H1)∧∀ i m σ H,W i m σ H →
 (J.stop i H∧D.nx σ H)∨(J.go i H∧∃ N:St→Hp→Prop,(∀ σ' H',N σ' H'→∃ m',m'<m∧W (i+1) m' σ' H')∧∀ x H',J.yld i H x H'→g x σ H' fun σ2 H2=>tb { D with nx:=N,ct:=N,bk:=D.nx } σ2 H2)
noncomputable def zdZ (fp:List Addr)(h:Heap):List (Addr×Obj):=fp.filterMap fun b=>(h.get? b).map fun o=>(b,o)
theorem zbq {fp:List Addr}{h:Heap}{b:Addr}{o:Obj}(hb:b∈fp)(e:h.get? b=some o):(b,o)∈zdZ fp h:=List.mem_filterMap.mpr ⟨b,hb,by rw [e];rfl⟩
theorem zgd {fp:List Addr}{h:Heap}{p:Addr×Obj}(hp:p∈zdZ fp h):p.1∈fp∧h.get? p.1=some p.2:=by
 refine zc1b (List.mem_filterMap.mp hp) fun b hb e => ?_
 cases q:h.get? b with
 | none=>rw [q] at e;cases e
 | some o =>
  rw [q] at e
  have e':(b,o)=p:=Option.some.inj e
  subst e'
  exact ⟨hb,q⟩
theorem Inv.pinned {pins:List (Addr×Obj)}{σ : St}{H:Hp}{s:Shared}{fp:List Addr}(I:Inv X pins σ H s)(hf:∀ b∈fp,FpOk X pins H b)(ho:∀ b∈fp,∃ o,s.heap.get? b=some o∧∀ v,o.data ≠ .cell v):Inv X (pins++zdZ fp s.heap) σ H s :=
 I.pins_of fun p hp=>(List.mem_append.mp hp).elim (fun z=>I.pin p (List.mem_append_right _ z)) fun z=>by
  obtain ⟨hb,e⟩:=zgd z
  refine zc0d (hf p.1 hb) fun f0 f1 f2 _ => ?_
  refine zc1b (ho p.1 hb) fun o e' d => ?_
  rw [e] at e';cases e'
  exact ⟨e,f0,f1,f2,d⟩
theorem Inv.unpinned {pins pl:List (Addr×Obj)}{σ : St}{H:Hp}{s:Shared}(I:Inv X (pins++pl) σ H s):Inv X pins σ H s:=I.pins_of fun p hp=>I.pin p (List.mem_append_right _ (List.mem_append_left _ hp))
theorem zhg {iter:Expr}{body:List Stmt}{wi:TI}{g:TG}{tb:TS}{pos:Pos}(hp:PassesOwn (model X.prog X.w) X.A X.env X.xe)(hc:X.calm=true)(hi:PI X tg iter wi)(hg:PG X tg g)(hb:PSs X body tb)
 (hs:autoParam (∀ x,foldedSetIterable iter X.env x=pure x) zaw._auto_1):PS X (.For tg iter body [] pos) (tFor wi g tb):=by
 intro pins s σ H D I h
 refine wpAny_For (thn (hi pins s σ H _ I h) fun v s1 h1=>thn h1 fun itv s2 h2 => ?_) hs
 refine zc4a h2 fun it fp tn J zz=>zc1a zz fun H2 zz=>zc0e zz fun e I2 T st2 zz=>zc0b zz fun f2 zz=>zc1b zz fun W zr11 turn => ?_
 obtain ⟨m0,w0⟩:=zr11
 subst e
 have stat:∀ {H':Hp},(∀ b∈fp,H' b=none)→∀ b∈fp,FpOk X pins H' b:=fun hn b hb=>⟨hn b hb,(f2 b hb).2⟩
 refine codeAny_forLoop_any (fun n s' => ∃ i σ' H',Inv X pins σ' H' s'∧tn i s'.heap∧(∀ b∈fp,H' b=none)∧W i n σ' H') ?_ m0 ⟨0,σ,H2,I2,st2,fun b hb=>(f2 b hb).1,w0⟩
 rintro n s3 ⟨i,σ3,H3,I3,st3,fr3,w3⟩
 rcases turn i n σ3 H3 w3 with ⟨stop,qn⟩|⟨go,N,hN,step⟩
 ·refine wpAny_passesOwn hp (thn (T.done X rfl rfl rfl hc i pins s3 σ3 H3 X.xe I3 (stat fr3) st3 stop) fun r s4 zh => ?_)
  obtain ⟨hr,I4⟩:=zh
  subst hr
  exact wpAny_execs_nil ⟨σ3,H3,I4,qn⟩
 ·refine wpAny_passesOwn hp (thn (T.item X rfl rfl rfl hc i pins s3 σ3 H3 X.xe I3 (stat fr3) st3 go) fun r s4 zh => ?_)
  refine zc1b zh fun u hr h4 => ?_
  subst hr
  refine wpAny_passesOwn hp (thn h4 fun _ s5 zh => ?_)
  refine zc2a zh fun x H5 zz=>zc0e zz fun I5 r5 y5 st5 fr5 => ?_
  have I5':=I5.pinned (stat fr5) (T.obj _ _ st5)
  refine wpAny_passesOwn hp (thn (hg _ s5 σ3 H5 x u _ I5' r5 (step x H5 y5)) fun _ s6 zh => ?_)
  refine zc2b zh fun σ6 H6 I6 q6 => ?_
  refine wpAny_passesOwn hp (thn (hb _ s6 σ6 H6 _ I6 q6) fun f s7 q7 => ?_)
  have again:∀ {σ7:St} {H7:Hp},Inv X (pins++zdZ fp s5.heap) σ7 H7 s7→N σ7 H7→∃ m,m<n∧∃ i σ' H',Inv X pins σ' H' s7∧tn i s7.heap∧(∀ b∈fp,H' b=none)∧W i m σ' H':=fun {σ7 H7} I7 n7=>by
   refine zc1b (hN σ7 H7 n7) fun m' hm w7 => ?_
   refine ⟨m',hm,i+1,σ7,H7,I7.unpinned,T.keep _ _ _ st5 fun b hb o e=>(I7.pin (b,o) (List.mem_append_right _ (List.mem_append_right _ (zbq hb e)))).1,fun b hb => ?_,w7⟩
   refine zc1b (T.obj _ _ st5 b hb) fun o e d => ?_
   exact (I7.pin (b,o) (List.mem_append_right _ (List.mem_append_right _ (zbq hb e)))).2.1
  cases f with
  | next=>obtain ⟨σ7,H7,I7,n7⟩:=q7;exact again I7 n7
  | cont=>obtain ⟨σ7,H7,I7,n7⟩:=q7;exact again I7 n7
  | brk=>obtain ⟨σ7,H7,I7,q7⟩:=q7;exact ⟨σ7,H7,I7.unpinned,q7⟩
  | ret v=>obtain ⟨x7,σ7,H7,I7,r7,q7⟩:=q7;exact ⟨x7,σ7,H7,I7.unpinned,r7,q7⟩
end
end L2
namespace L2
open PySem PySem.Spec PyProof.Rows
abbrev R2:=V→V→Hp→VK→Prop
def OpR (X:Cx)(f:Value→Value→Sem Value)(r:R2):Prop :=
 ∀ (pins:List (Addr×Obj)) (s:Shared) (σ : St) (H:Hp) (x y:V) (v u:Value) (Q:VK),Inv X pins σ H s→RelV x v→RelV y u→r x y H Q →
  wpAny (model X.prog X.w) X.A (f v u) (EP X pins σ Q) X.xe s
def UnR (X:Cx)(f:Value→Sem Value)(r:V→Hp→VK→Prop):Prop :=
 ∀ (pins:List (Addr×Obj)) (s:Shared) (σ : St) (H:Hp) (x:V) (v:Value) (Q:VK),Inv X pins σ H s→RelV x v→r x H Q →
  wpAny (model X.prog X.w) X.A (f v) (EP X pins σ Q) X.xe s
noncomputable def zas (X:Cx)(f:Value)(r:List V→Hp→VK→Prop):Prop :=
 ∀ (pins:List (Addr×Obj)) (s:Shared) (σ : St) (H:Hp) (xs:List V) (us:List Value) (Q:VK),Inv X pins σ H s→Vals xs us→r xs H Q →
  wpAny (model X.prog X.w) X.A (call f us) (EP X pins σ Q) X.xe s
noncomputable def tOp (r:R2)(ta tb:TE):TE:=fun σ H Q=>ta σ H fun x H1=>tb σ H1 fun y H2=>r x y H2 Q
noncomputable def tUn (r:V→Hp→VK→Prop)(ta:TE):TE:=fun σ H Q=>ta σ H fun x H1=>r x H1 Q
noncomputable def rI (C:Int→Int→Prop)(g:Int→Int→V):R2:=fun x y H Q => ∃ i j,x=.int i∧y=.int j∧C i j∧Q (g i j) H
noncomputable def rI0 (g:Int→Int→V):R2:=fun x y H Q => ∃ i j,x=.int i∧y=.int j∧Q (g i j) H
noncomputable def rU (g:Int→V):V→Hp→VK→Prop:=fun x H Q => ∃ i,x=.int i∧Q (g i) H
section
variable {X:Cx}{a b c:Expr}{ta tb tc:TE}{pos:Pos}
theorem binT (ha:PE X a ta)(hb:PE X b tb){pins:List (Addr×Obj)}{s:Shared}{σ : St}{H:Hp}{R:V→V→Hp→Prop}(I:Inv X pins σ H s)
 (h:ta σ H fun x H1=>tb σ H1 fun y H2=>R x y H2) {Q:Value→Shared→Prop} {f:Value→Value→Sem Value}
 (hf:∀ v u s2 x y H2,Inv X pins σ H2 s2→RelV x v→RelV y u→R x y H2→wpAny (model X.prog X.w) X.A (f v u) Q X.xe s2) :
 wpAny (model X.prog X.w) X.A (eval a X.env) (fun v s₁=>wpAny (model X.prog X.w) X.A (eval b X.env) (fun u s₂=>wpAny (model X.prog X.w) X.A (f v u) Q X.xe s₂) X.xe s₁) X.xe s:=by
 refine thn (ha pins s σ H _ I h) fun v s1 zh => ?_
 refine zc2c zh fun x H1 I1 r1 q1 => ?_
 refine thn (hb pins s1 σ H1 _ I1 q1) fun u s2 zh => ?_
 refine zc2c zh fun y H2 I2 r2 q2 => ?_
 exact hf v u s2 x y H2 I2 r1 r2 q2
theorem zms {op:Operator}{r:R2}(ho:OpR X (binaryOp op) r)(ha:PE X a ta)(hb:PE X b tb):PE X (.BinOp a op b pos) (tOp r ta tb):=by
 intro pins s σ H Q I h
 exact wpAny_BinOp (binT ha hb I h fun v u s2 x y H2 I2 rx ry q=>ho pins s2 σ H2 x y v u Q I2 rx ry q)
theorem pe_un {op:UnaryOp}{r:V→Hp→VK→Prop}(ho:UnR X (unaryOp op) r)(ha:PE X a ta):PE X (.UnaryOp op a pos) (tUn r ta):=by
 intro pins s σ H Q I h
 exact UnaryOp_ (thn (ha pins s σ H _ I h) (by rintro v s1 ⟨x,H1,I1,r1,q1⟩;exact ho pins s1 σ H1 x v Q I1 r1 q1))
theorem opI {f:Value→Value→Sem Value}{C:Int→Int→Prop}{g:Int→Int→Int}
 (rule:∀ (i j:Int) (t u:Tok) (s:Shared) (Q:Value→Shared→Prop) (E:Value→Shared→Prop),C i j→Q (.int (g i j) s.toks) { s with toks:=s.toks+1 }→wpAny (model X.prog X.w) X.A (f (.int i t) (.int j u)) Q E s) :
 OpR X f (rI C fun i j=>.int (g i j)):=by
 intro pins s σ H x y v u Q I rx ry h
 refine zc2d h fun i j zr2 zr3 hc q => ?_
 obtain rfl:=zr2
 obtain rfl:=zr3
 obtain ⟨t,rfl⟩:=rx
 obtain ⟨t',rfl⟩:=ry
 exact rule i j t t' s _ _ hc ⟨.int (g i j),H,I.tok _,⟨_,rfl⟩,q⟩
theorem opI0 {f:Value→Value→Sem Value}{g:Int→Int→Int}
 (rule:∀ (i j:Int) (t u:Tok) (s:Shared) (Q:Value→Shared→Prop) (E:Value→Shared→Prop),Q (.int (g i j) s.toks) { s with toks:=s.toks+1 }→wpAny (model X.prog X.w) X.A (f (.int i t) (.int j u)) Q E s) :
 OpR X f (rI0 fun i j=>.int (g i j)):=by
 intro pins s σ H x y v u Q I rx ry h
 refine zc2c h fun i j zr2 zr3 q => ?_
 obtain rfl:=zr2
 obtain rfl:=zr3
 obtain ⟨t,rfl⟩:=rx
 obtain ⟨t',rfl⟩:=ry
 exact rule i j t t' s _ _ ⟨.int (g i j),H,I.tok _,⟨_,rfl⟩,q⟩
theorem opB0 {f:Value→Value→Sem Value}{g:Int→Int→Bool}
 (rule:∀ (i j:Int) (t u:Tok) (s:Shared) (Q:Value→Shared→Prop) (E:Value→Shared→Prop),Q (.bool (g i j)) s→wpAny (model X.prog X.w) X.A (f (.int i t) (.int j u)) Q E s) :
 OpR X f (rI0 fun i j=>.bl (g i j)):=by
 intro pins s σ H x y v u Q I rx ry h
 refine zc2c h fun i j zr2 zr3 q => ?_
 obtain rfl:=zr2
 obtain rfl:=zr3
 obtain ⟨t,rfl⟩:=rx
 obtain ⟨t',rfl⟩:=ry
 exact rule i j t t' s _ _ ⟨.bl (g i j),H,I,rfl,q⟩
noncomputable def CDiv (i j:Int):Prop:=0<j∧j<1073741824
noncomputable def CPow (i j:Int):Prop:=0≤j∧j≤1000000∧i.natAbs<2 ^ 64
theorem zla:OpR X (binaryOp .Add) (rI0 fun i j=>.int (i+j)):=opI0 fun _ _ _ _ _ _ _ q=>add_int q
theorem zlS:OpR X (binaryOp .Sub) (rI0 fun i j=>.int (i-j)):=opI0 fun _ _ _ _ _ _ _ q=>sub_int q
theorem zjf:OpR X (binaryOp .FloorDiv) (rI CDiv fun i j=>.int (i / j)):=opI fun i j _ _ _ _ _ hc q=>by
 have h1:(0:Int)<j:=hc.1
 have h2:j<1073741824:=hc.2
 exact floordiv_int (by omega) (by rw [Int.fdiv_eq_ediv_of_nonneg i (by omega)];exact q) (.inl (PyProof.noPylong_small (by omega)))
theorem zlO:OpR X (binaryOp .Mod) (rI (fun _ j=>0<j) fun i j=>.int (i % j)):=opI fun i j _ _ _ _ _ hc q=>by
 have h1:(0:Int)<j:=hc
 exact mod_int' (by omega) (by rw [Int.fmod_eq_emod_of_nonneg i (by omega)];exact q)
theorem zmp:OpR X (binaryOp .Pow) (rI CPow fun i j=>.int (i ^ j.toNat)):=opI fun _ _ _ _ _ _ _ hc q=>pow_int_small hc.1 hc.2.1 hc.2.2 q
theorem unI {f:Value→Sem Value}{g:Int→Int}
 (rule:∀ (i:Int) (t:Tok) (s:Shared) (Q:Value→Shared→Prop) (E:Value→Shared→Prop),Q (.int (g i) s.toks) { s with toks:=s.toks+1 }→wpAny (model X.prog X.w) X.A (f (.int i t)) Q E s) :
 UnR X f (rU fun i=>.int (g i)):=by
 intro pins s σ H x v Q I rx h
 refine zc1b h fun i zr1 q => ?_
 obtain rfl:=zr1
 obtain ⟨t,rfl⟩:=rx
 exact rule i t s _ _ ⟨.int (g i),H,I.tok _,⟨_,rfl⟩,q⟩
theorem zkG:UnR X (unaryOp .USub) (rU fun i=>.int (-i)):=unI fun _ _ _ _ _ q=>neg_int q
end
noncomputable def scal:V→V→Bool
 | .non,.non=>true | .non,.int _=>true | .int _,.non=>true | .non,.bl _=>true | .bl _,.non=>true | .non,.str _=>true | .str _,.non=>true
 | .int _,.int _=>true | .bl _,.bl _=>true | .str _,.str _=>true | .byt _,.byt _=>true
 | .int _,.str _=>true | .str _,.int _=>true | .bl _,.str _=>true | .str _,.bl _=>true
 | _,_=>false
def rEq:R2:=fun x y H Q=>scal x y=true∧Q (.bl (decide (x=y))) H
def rNe:R2:=fun x y H Q=>scal x y=true∧Q (.bl (!decide (x=y))) H
theorem zgB {i j:Int}:decide (V.int i=V.int j)=(i == j):=by
 rw [Bool.eq_iff_iff]
 simp -iota
theorem ziM {i j:Bool}:decide (V.bl i=V.bl j)=(i == j):=by
 rw [Bool.eq_iff_iff]
 simp -iota
theorem zgv {i j:Str}:decide (V.str i=V.str j)=(i == j):=by
 rw [Bool.eq_iff_iff]
 simp -iota
theorem zfN {i j:Array UInt8}:decide (V.byt i=V.byt j)=(i.toList == j.toList):=by
 rw [Bool.eq_iff_iff]
 cases i
 cases j
 simp -iota
section
variable {X:Cx}{a b c:Expr}{ta tb tc:TE}{pos:Pos}
theorem zat {pins:List (Addr×Obj)}{σ : St}{H:Hp}{s:Shared}{Q:VK}{k k':Bool}(I:Inv X pins σ H s)(q:Q (.bl k) H)(e:k=k'):EP X pins σ Q (.bool k') s:=by
 subst e
 exact ⟨.bl k,H,I,rfl,q⟩
theorem op_eq:OpR X (compareOp .Eq) rEq:=by
 intro pins s σ H x y v u Q I rx ry h
 obtain ⟨hs,q⟩:=h
 cases x with
 | non =>
  cases rx
  cases y with
  | non=>cases ry;exact PySem.EqNone.eq_none_none (zat I q (by simp -iota))
  | bl j=>cases ry;exact PySem.EqNone.eq_none_bool (zat I q (by simp -iota))
  | int j=>obtain ⟨t',rfl⟩:=ry;exact PySem.EqNone.eq_none_int (zat I q (by simp -iota))
  | str j=>obtain ⟨t',rfl⟩:=ry;exact PySem.EqNone.eq_none_str (zat I q (by simp -iota))
  | _=>exact absurd (show false=true from hs) Bool.false_ne_true
 | bl i =>
  cases rx
  cases y with
  | non=>cases ry;exact PySem.EqNone.eq_bool_none (zat I q (by simp -iota))
  | bl j=>cases ry;exact eq_bool (zat I q ziM)
  | str j=>obtain ⟨t',rfl⟩:=ry;exact PySem.EqMixed.eq_bool_str (zat I q (by simp -iota))
  | _=>exact absurd (show false=true from hs) Bool.false_ne_true
 | int i =>
  obtain ⟨t,rfl⟩:=rx
  cases y with
  | non=>cases ry;exact PySem.EqNone.eq_int_none (zat I q (by simp -iota))
  | int j=>obtain ⟨t',rfl⟩:=ry;exact eq_int (zat I q zgB)
  | str j=>obtain ⟨t',rfl⟩:=ry;exact PySem.EqMixed.eq_int_str (zat I q (by simp -iota))
  | _=>exact absurd (show false=true from hs) Bool.false_ne_true
 | str i =>
  obtain ⟨t,rfl⟩:=rx
  cases y with
  | non=>cases ry;exact PySem.EqNone.eq_str_none (zat I q (by simp -iota))
  | bl j=>cases ry;exact PySem.EqMixed.eq_str_bool (zat I q (by simp -iota))
  | int j=>obtain ⟨t',rfl⟩:=ry;exact PySem.EqMixed.eq_str_int (zat I q (by simp -iota))
  | str j=>obtain ⟨t',rfl⟩:=ry;exact eq_str (zat I q zgv)
  | _=>exact absurd (show false=true from hs) Bool.false_ne_true
 | byt i =>
  obtain ⟨t,rfl⟩:=rx
  cases y with
  | byt j=>obtain ⟨t',rfl⟩:=ry;exact PySem.W.eq_bytes (zat I q zfN)
  | _=>exact absurd (show false=true from hs) Bool.false_ne_true
 | _=>cases y<;>exact absurd (show false=true from hs) Bool.false_ne_true
theorem op_ne:OpR X (compareOp .NotEq) rNe:=by
 intro pins s σ H x y v u Q I rx ry h
 obtain ⟨hs,q⟩:=h
 cases x with
 | non =>
  cases rx
  cases y with
  | non=>cases ry;exact PySem.EqNone.ne_none_none (zat I q (by simp -iota))
  | bl j=>cases ry;exact PySem.EqNone.ne_none_bool (zat I q (by simp -iota))
  | int j=>obtain ⟨t',rfl⟩:=ry;exact PySem.EqNone.ne_none_int (zat I q (by simp -iota))
  | str j=>obtain ⟨t',rfl⟩:=ry;exact PySem.EqNone.ne_none_str (zat I q (by simp -iota))
  | _=>exact absurd (show false=true from hs) Bool.false_ne_true
 | bl i =>
  cases rx
  cases y with
  | non=>cases ry;exact PySem.EqNone.ne_bool_none (zat I q (by simp -iota))
  | bl j=>cases ry;exact ne_bool (zat I q (congrArg not ziM))
  | str j=>obtain ⟨t',rfl⟩:=ry;exact PySem.EqMixed.ne_bool_str (zat I q (by simp -iota))
  | _=>exact absurd (show false=true from hs) Bool.false_ne_true
 | int i =>
  obtain ⟨t,rfl⟩:=rx
  cases y with
  | non=>cases ry;exact PySem.EqNone.ne_int_none (zat I q (by simp -iota))
  | int j=>obtain ⟨t',rfl⟩:=ry;exact ne_int (zat I q (congrArg not zgB))
  | str j=>obtain ⟨t',rfl⟩:=ry;exact PySem.EqMixed.ne_int_str (zat I q (by simp -iota))
  | _=>exact absurd (show false=true from hs) Bool.false_ne_true
 | str i =>
  obtain ⟨t,rfl⟩:=rx
  cases y with
  | non=>cases ry;exact PySem.EqNone.ne_str_none (zat I q (by simp -iota))
  | bl j=>cases ry;exact PySem.EqMixed.ne_str_bool (zat I q (by simp -iota))
  | int j=>obtain ⟨t',rfl⟩:=ry;exact PySem.EqMixed.ne_str_int (zat I q (by simp -iota))
  | str j=>obtain ⟨t',rfl⟩:=ry;exact ne_str (zat I q (congrArg not zgv))
  | _=>exact absurd (show false=true from hs) Bool.false_ne_true
 | byt i =>
  obtain ⟨t,rfl⟩:=rx
  cases y with
  | byt j=>obtain ⟨t',rfl⟩:=ry;exact PySem.W.ne_bytes (zat I q (congrArg not zfN))
  | _=>exact absurd (show false=true from hs) Bool.false_ne_true
 | _=>cases y<;>exact absurd (show false=true from hs) Bool.false_ne_true
theorem op_lt:OpR X (compareOp .Lt) (rI0 fun i j=>.bl (decide (i<j))):=opB0 fun _ _ _ _ _ _ _ q=>lt_int q
theorem op_gt:OpR X (compareOp .Gt) (rI0 fun i j=>.bl (decide (j<i))):=opB0 fun _ _ _ _ _ _ _ q=>gt_int q
theorem zaJ (b:Expr){op:CmpOp}(h:autoParam (op ≠ .In) zav._auto_1)(h2:autoParam (op ≠ .NotIn) zav._auto_1):behindInMarks op b=false:=by
 have e1:(op == CmpOp.In)=false:=by cases op<;>first|rfl|exact absurd rfl h
 have e2:(op == CmpOp.NotIn)=false:=by cases op<;>first|rfl|exact absurd rfl h2
 cases b<;>first|rfl|(show (_&&(_||_)&&_)=false;rw [e1,e2,Bool.or_self,Bool.and_false,Bool.false_and])
theorem zjm {op:CmpOp}{r:R2}(ho:OpR X (compareOp op) r)(ha:PE X a ta)(hb:PE X b tb)(hm:behindInMarks op b=false):PE X (.Compare a [op] [b] pos) (tOp r ta tb):=by
 intro pins s σ H Q I h
 exact wpAny_Compare1 (binT ha hb I h fun v u s2 x y H2 I2 rx ry q=>ho pins s2 σ H2 x y v u Q I2 rx ry q) hm
noncomputable def tTest (t:TE):TT:=fun σ H Q=>t σ H fun x H' => ∃ k,x=.bl k∧Q k H'
theorem zfW {op:CmpOp}{r:R2}(ho:OpR X (compareOp op) r)(ha:PE X a ta)(hb:PE X b tb)(hm:behindInMarks op b=false):PT X (.Compare a [op] [b] pos) (tTest (tOp r ta tb)):=by
 intro pins s σ H Q I h
 refine wpAny_isTrue_Compare1 (thn (ha pins s σ H _ I h) fun v s1 ⟨x,H1,I1,r1,q1⟩=>thn (hb pins s1 σ H1 _ I1 q1) fun u s2 ⟨y,H2,I2,r2,q2⟩ =>
  thn (ho pins s2 σ H2 x y v u _ I2 r1 r2 q2) fun c s3 ⟨z,H3,I3,r3,k,e,q3⟩ => ?_) hm
 subst e
 cases r3
 exact wpAny_truthy_bool ⟨H3,I3,q3⟩
theorem zcO:(sizeLine:Nat)<2 ^ 63:=by rw [sizeLine_eq];decide
theorem zfz:OpR X (binaryOp .Add) (fun x y H Q => ∃ i j,x=.str i∧y=.str j∧i.length+j.length≤sizeLine∧Q (.str (i++j)) H):=by
 intro pins s σ H x y v u Q I rx ry h
 refine zc2d h fun i j zr2 zr3 hz q => ?_
 obtain rfl:=zr2
 obtain rfl:=zr3
 obtain ⟨t,rfl⟩:=rx
 obtain ⟨t',rfl⟩:=ry
 exact add_str (fun t' tk=>⟨.str (i++j),H,I.tok _,⟨_,rfl⟩,q⟩) hz
theorem zcA {x:V}{us:List Value}(r:Vals [x] us):∃ u,us=[u]∧RelV x u:=by
 cases r with
 | cons r1 r2=>cases r2;exact ⟨_,rfl,r1⟩
theorem zjh {x y:V}{us:List Value}(r:Vals [x,y] us):∃ u w',us=[u,w']∧RelV x u∧RelV y w':=by
 cases r with
 | cons r1 r2 =>
  cases r2 with
  | cons r3 r4=>cases r4;exact ⟨_,_,rfl,r1,r3⟩
theorem zfV (hc:X.calm=true):zas X (.builtin "max") (fun xs H Q => ∃ i j,xs=[.int i,.int j]∧Q (.int (if j > i then j else i)) H):=by
 intro pins s σ H xs us Q I r h
 refine zc2b h fun i j zr2 q => ?_
 obtain rfl:=zr2
 refine zc2c (zjh r) fun u w' zr2 zr3 zr4 => ?_
 obtain rfl:=zr2
 obtain ⟨t,rfl⟩:=zr3
 obtain ⟨t',rfl⟩:=zr4
 refine max_two_ints (I.ok.hd hc) fun h' tk k=>⟨_,H,I.kept k,?_,q⟩
 by_cases hj:j > i
 ·rw [if_pos hj,if_pos hj];exact ⟨_,rfl⟩
 ·rw [if_neg hj,if_neg hj];exact ⟨_,rfl⟩
theorem zfQ (hc:X.calm=true):zas X (.builtin "min") (fun xs H Q => ∃ i j,xs=[.int i,.int j]∧Q (.int (if j<i then j else i)) H):=by
 intro pins s σ H xs us Q I r h
 refine zc2b h fun i j zr2 q => ?_
 obtain rfl:=zr2
 refine zc2c (zjh r) fun u w' zr2 zr3 zr4 => ?_
 obtain rfl:=zr2
 obtain ⟨t,rfl⟩:=zr3
 obtain ⟨t',rfl⟩:=zr4
 refine min_two_ints (I.ok.hd hc) fun h' tk k=>⟨_,H,I.kept k,?_,q⟩
 by_cases hj:j<i
 ·rw [if_pos hj,if_pos hj];exact ⟨_,rfl⟩
 ·rw [if_neg hj,if_neg hj];exact ⟨_,rfl⟩
theorem zdL:zas X (.type "str") (fun xs H Q => ∃ i,xs=[.int i]∧i.natAbs.log2<1920∧Q (.str (toString i)) H):=by
 intro pins s σ H xs us Q I r h
 obtain ⟨i,rfl,hz,q⟩:=h
 obtain ⟨u,rfl,t,rfl⟩:=zcA r
 exact PySem.P.str_of_int hz ⟨.str _,H,I.tok _,⟨_,rfl⟩,q⟩
end
end L2
namespace L2
open PySem PySem.Spec PyProof.Rows
structure ObjM (h:Heap)(x dx C:Addr)(mA:Str→Option Value):Prop where
 obj:h.get? x=some (PySem.W.instObj C dx)
 ns:h.Ns1 dx mA
 ne:dx≠x
theorem zgc {h:Heap}{dx:Addr}{mA:Str→Option Value}(n:h.Ns1 dx mA):∃ od,h.get? dx=some od∧∀ name,PySem.W.lookIn name od=some (mA name):=by
 refine zc3a n fun o es ep zz=>zc0e zz fun ho hd hk _ hm => ?_
 refine ⟨o,ho,fun name => ?_⟩
 have e:=hm name
 unfold nsFind findBy at e
 rw [← Array.find?_toList] at e
 unfold PySem.W.lookIn
 rw [hd]
 dsimp only
 split
 ·rename_i y q
  rw [q] at e
  exact congrArg some e
 ·rename_i q
  rw [q] at e
  have a:es.toList.any (·.refKey)=false:=by
   rw [List.any_eq_false]
   intro y hy
   refine zc2a (hk y (Array.mem_toList_iff.mp hy)) fun z t hkey => ?_
   simp -iota [DictEntry.refKey,hkey]
  have a':¬ es.toList.any (·.refKey)=true:=by rw [a];exact Bool.false_ne_true
  rw [if_neg a']
  exact congrArg some e
theorem ObjM.look {h:Heap}{x dx C:Addr}{mA:Str→Option Value}(I:ObjM h x dx C mA):∃ od,PySem.W.InstAt h x (PySem.W.instObj C dx) C (some od)∧∀ name,PySem.W.lookIn name od=some (mA name) :=
 let ⟨od,ho,hl⟩:=zgc I.ns
 ⟨od,⟨I.obj,rfl,rfl,ho⟩,hl⟩
section
variable {prog:Program}{w:World}{A:Around}{E:Value→Shared→Prop}{s:Shared}{K:PySem.W.Frag}{x dx C f:Addr}{mA:Str→Option Value}{name:Str}{v:Value}
theorem zjp {expr:Bool}{Q:Value→Shared→Prop}(X:K.In s.heap)(I:ObjM s.heap x dx C mA)(hg:PySem.W.plainGet K C name=true)(hh:PySem.W.hasDictIn K C=true)
 (ha:PySem.W.findIn K (.ref C) name=some none) (hv:mA name=some v) (hv':PySem.W.handedIn v=true) (h:Q v { s with toks:=s.toks+1 }) :
 wpAny (model prog w) A (getAttr (.ref x) name expr) Q E s:=by
 obtain ⟨od,J,hl⟩:=I.look
 exact PySem.W.get_value X J (PySem.W.plainGet_of hg).1 (PySem.W.findObj_own hh ha rfl (by rw [hl,hv])) hv' h
theorem zkc {ns:List Str}{Q:Unit→Shared→Prop}(X:K.In s.heap)(I:ObjM s.heap x dx C mA)
 (hs:PySem.W.findIn K (.ref C) "__setattr__" = some (some (.builtin "object.__setattr__"))) (hp:PySem.W.plainOver K C=true) (ht:PySem.W.takerIn K C name=some none) (hh:PySem.W.hasDictIn K C=true)
 (hw:PySem.Within mA ns) (hsz:ns.length≤sizeLine)
 (h:∀ h',ObjM h' x dx C (fun y=>if y=name then some v else mA y)→Heap.SameBut dx s.heap h'→Q () { s with heap:=h',toks:=s.toks+2 }) :
 wpAny (model prog w) A (setAttr (.ref x) name v) Q E s:=by
 obtain ⟨od,J,hl⟩:=I.look
 refine PySem.W.set_plain X J hs (PySem.W.osa_open (s:={ s with toks:=s.toks+1 }) (r:=none) X J hp ht fun b => ?_)
 obtain ⟨cd,hc,hd'⟩:=PySem.W.any_some hh
 have hx:s.heap.get? x=some ⟨.ref C,some dx,.plain,#[]⟩:=I.obj
 refine wpAny_bind (wpAny_pure (wpAny_bind (wpAny_bind (wpAny_loadPart hx (wpAny_bind (PySem.W.Looks.here (s:={ s with toks:=s.toks+1 }) (PySem.W.looks_clsIn X hc) ?_))))))
 rw [hd']
 refine wpAny_pure (a:=some dx) (wpAny_bind (wpAny_pure (wpAny_bind ?_)))
 refine wpAny_nsSet1 (s:={ s with toks:=s.toks+1 }) I.ns fun h' hn2 hs2 => ?_
 obtain ⟨oD,esD,epD,hoD,hdD,hcD⟩:=hn2.count (PySem.Within.cons name v hw)
 refine wpAny_bind (wpAny_lookBehind hoD (by rw [hdD];exact pastItsLine_dict (Nat.le_trans hcD (by rw [List.length_cons];omega))) ?_)
 exact wpAny_pure (h _ ⟨(hs2.2 _ (Ne.symm I.ne)).trans I.obj,hn2,I.ne⟩ hs2)
theorem zh5 {R:Result→Shared→Prop}{vs:List Value}{kw:List (Str×Value)}(X:K.In s.heap)(hm:PySem.W.makesIn K C=true)
 (hi:PySem.W.findIn K (.ref C) "__init__" = some (some (.ref f))) (hf:PySem.W.typeIn K (.ref f)=some (.type "function"))
 (h:codeAny (model prog w) (A.under (.builtin "type.__call__" ⟨.ref C::vs,kw⟩)) (.call (.ref f) ⟨.ref (s.heap.objs.size+1)::vs,kw⟩) (PySem.W.InitBack (s.heap.objs.size+1) R)
  { s with heap:=(s.heap.push PySem.W.emptyDict).push (PySem.W.instObj C s.heap.objs.size) }) :
 codeAny (model prog w) A (.call (.ref C) ⟨vs,kw⟩) R s:=by
 obtain ⟨hh,g,d,t,os⟩:=s
 exact PySem.W.make_core (PySem.W.makes_of X hm) (PySem.W.looks_findIn X hi) (fun self=>PySem.W.bind_fn X self hf) (.inl rfl) h
end
noncomputable def putF (f:Str)(v:V):List (Str×V)→List (Str×V)
 | [] => [(f,v)]
 | (g,x)::r=>if g=f then (g,v)::r else (g,x)::putF f v r
theorem zcx (f g:Str)(v:V):∀ fs:List (Str×V),(putF f v fs).lookup g=if g=f then some v else fs.lookup g
 | []=>by
  show List.lookup g [(f,v)]=_
  by_cases h:g=f
  ·have hb:(g == f)=true:=beq_iff_eq.mpr h
   simp only [List.lookup,hb,if_pos h]
  ·have hb:(g == f)=false:=beq_eq_false_iff_ne.mpr h
   simp only [List.lookup,hb,if_neg h]
 | (k,x)::r=>by
  have ih:=zcx f g v r
  rw [show putF f v ((k,x)::r)=(if k=f then (k,v)::r else (k,x)::putF f v r) from rfl]
  by_cases hk:k=f
  ·rw [if_pos hk]
   by_cases h:g=k
   ·have hb:(g == k)=true:=beq_iff_eq.mpr h
    simp only [List.lookup,hb,if_pos (h.trans hk)]
   ·have hb:(g == k)=false:=beq_eq_false_iff_ne.mpr h
    simp only [List.lookup,hb,if_neg (fun e:g=f=>h (e.trans hk.symm))]
  ·rw [if_neg hk]
   by_cases h:g=k
   ·have hb:(g == k)=true:=beq_iff_eq.mpr h
    simp only [List.lookup,hb,if_neg (fun e:g=f=>hk (h.symm.trans e))]
   ·have hb:(g == k)=false:=beq_eq_false_iff_ne.mpr h
    simp only [List.lookup,hb]
    exact ih
theorem zc6 (f:Str)(v:V):∀ fs:List (Str×V),f∈(putF f v fs).map (·.1)∧∀ g,g∈fs.map (·.1)→g∈(putF f v fs).map (·.1)
 | []=>⟨by simp -iota [putF],fun g h=>by simp -iota at h⟩
 | (k,x)::r=>by
  obtain ⟨i1,i2⟩:=zc6 f v r
  rw [show putF f v ((k,x)::r)=(if k=f then (k,v)::r else (k,x)::putF f v r) from rfl]
  by_cases hk:k=f
  ·rw [if_pos hk]
   subst hk
   exact ⟨by simp -iota,fun g h=>by simpa -iota using h⟩
  ·rw [if_neg hk]
   refine ⟨?_,fun g h => ?_⟩
   ·rw [List.map_cons]
    exact List.mem_cons_of_mem _ i1
   ·rw [List.map_cons] at h ⊢
    rcases List.mem_cons.mp h with e|e
    ·exact List.mem_cons.mpr (.inl e)
    ·exact List.mem_cons_of_mem _ (i2 g e)
theorem zcq (f:Str)(v:V):∀ fs:List (Str×V),(putF f v fs).length≤fs.length+1
 | []=>by simp -iota [putF]
 | (k,x)::r=>by
  have ih:=zcq f v r
  rw [show putF f v ((k,x)::r)=(if k=f then (k,v)::r else (k,x)::putF f v r) from rfl]
  by_cases hk:k=f
  ·rw [if_pos hk,List.length_cons,List.length_cons];omega
  ·rw [if_neg hk,List.length_cons,List.length_cons];omega
theorem RelO.some_of {v:V}{o:Option Value}(r:RelO (some v) o):∃ u,o=some u∧RelV v u:=by
 cases o with
 | none=>exact (show False from r).elim
 | some u=>exact ⟨u,rfl,r⟩
theorem zgC {v:V}{u:Value}(r:RelV v u):PySem.W.handedIn u=true:=by
 cases v with
 | non=>cases (show u=Value.none from r);rfl
 | bl b=>cases (show u=Value.bool b from r);rfl
 | int i=>obtain ⟨t,e⟩:=(show ∃ t,u=Value.int i t from r);cases e;rfl
 | str x=>obtain ⟨t,e⟩:=(show ∃ t,u=Value.str x t from r);cases e;rfl
 | byt b=>obtain ⟨t,e⟩:=(show ∃ t,u=Value.bytes b t from r);cases e;rfl
 | flt b=>obtain ⟨t,e⟩:=(show ∃ t,u=Value.float b t from r);cases e;rfl
 | ref a=>cases (show u=Value.ref a from r);rfl
 | ty n=>cases (show u=Value.type n from r);rfl
section
variable {P:Program}{w:World}{H H':Hp}{h h':Heap}{a C dx:Addr}{fs fs':List (Str×V)}
theorem ze1 (hok:HOk P w H h)(e:H a=some (.ins C dx fs)):∃ mA,ObjM h a dx C mA∧(∀ f,RelO (fs.lookup f) (mA f))∧PySem.Within mA (fs.map (·.1))∧fs.length≤1000∧H dx=some (.own a):=by
 refine zc0e ((show zaI P w H h a (.ins C dx fs) from hok a _ e)) fun d z ne ob zz=>zc1c zz fun mA n r q => ?_
 exact ⟨mA,⟨ob,n,ne⟩,r,q,z,d⟩
end
structure Cls (K:PySem.W.Frag)(C:Addr):Prop where
 pg:PySem.W.plainGet K C Str.empty=true
 hd:PySem.W.hasDictIn K C=true
 po:PySem.W.plainOver K C=true
 sa:PySem.W.findIn K (.ref C) "__setattr__" = some (some (.builtin "object.__setattr__"))
theorem Cls.get {K:PySem.W.Frag}{C:Addr}(c:Cls K C)(f:Str):PySem.W.plainGet K C f=true:=c.pg
noncomputable def zbV (K:PySem.W.Frag)(C:Addr)(f:Str):Prop:=PySem.W.findIn K (.ref C) f=some none
theorem zbV.taker {K:PySem.W.Frag}{C:Addr}{f:Str}(n:zbV K C f):PySem.W.takerIn K C f=some none:=by
 unfold PySem.W.takerIn
 rw [show PySem.W.findIn K (.ref C) f=some none from n]
 rfl
section
variable {X:Cx}{pins:List (Addr×Obj)}{σ : St}{H:Hp}{s:Shared}{a C dx:Addr}{fs:List (Str×V)}{f:Str}{v:V}{A:Around}{E:Value→Shared→Prop}
theorem zf1 {b:Bool}{Q:Value→Shared→Prop}(I:Inv X pins σ H s)(e:H a=some (.ins C dx fs))(c:Cls X.K C)(n:zbV X.K C f)(l:fs.lookup f=some v)
 (h:∀ u s',Inv X pins σ H s'→RelV v u→Q u s'):wpAny (model X.prog X.w) A (getAttr (.ref a) f b) Q E s:=by
 obtain ⟨mA,O,r,_,_,_⟩:=ze1 I.hok e
 obtain ⟨u,hu,ru⟩:=RelO.some_of (v:=v) (o:=mA f) (by rw [← l];exact r f)
 exact zjp I.kIn O (c.get f) c.hd n hu (zgC ru) (h u _ (I.tok _) ru)
theorem zfo {y:V}{u:Value}{Q:Unit→Shared→Prop}(I:Inv X pins σ H s)(e:H a=some (.ins C dx fs))(c:Cls X.K C)(n:zbV X.K C f)(hl:fs.length<1000)(ry:RelV y u)
 (h:∀ s',Inv X pins σ (upd H a (.ins C dx (putF f y fs))) s'→Q () s'):wpAny (model X.prog X.w) A (setAttr (.ref a) f u) Q E s:=by
 obtain ⟨mA,O,r,wi,_,ho⟩:=ze1 I.hok e
 have hz:(fs.map (·.1)).length≤sizeLine:=by rw [List.length_map,sizeLine_eq];omega
 refine zkc I.kIn O c.sa c.po n.taker c.hd wi hz fun h' O' sb=>h _ ?_
 have hd:∃ o,h'.get? dx=some o:=let ⟨o,_,_,e',_⟩:=O'.ns;⟨o,e'⟩
 refine I.write (x:=a) (e:=dx) (by rw [e];exact True.intro) (.inr ho) (fun b q hb z=>(sb.2 b hb).trans z) hd ?_
 refine ⟨by rw [zai O.ne];exact ho,?_,O.ne,O'.obj,_,O'.ns,fun g => ?_,fun g hg => ?_⟩
 ·have:=zcq f y fs;omega
 ·show RelO ((putF f y fs).lookup g) (if g=f then some u else mA g)
  rw [zcx]
  by_cases q:g=f
  ·rw [if_pos q,if_pos q];exact ry
  ·rw [if_neg q,if_neg q];exact r g
 ·by_cases q:g=f
  ·rw [q];exact (zc6 f y fs).1
  ·refine (zc6 f y fs).2 g (wi g fun z=>hg ?_)
   show (if g=f then some u else mA g)=none
   rw [if_neg q];exact z
theorem Inv.made (I:Inv X pins σ H s):Inv X pins σ (upd (upd H s.heap.objs.size (.own (s.heap.objs.size+1))) (s.heap.objs.size+1) (.ins C s.heap.objs.size []))
 { s with heap:=(s.heap.push PySem.W.emptyDict).push (PySem.W.instObj C s.heap.objs.size) }:=by
 have e1:(s.heap.push PySem.W.emptyDict).get? s.heap.objs.size=some PySem.W.emptyDict:=Heap.get?_push_size s.heap rfl
 have e2:((s.heap.push PySem.W.emptyDict).push (PySem.W.instObj C s.heap.objs.size)).get? (s.heap.objs.size+1)=some (PySem.W.instObj C s.heap.objs.size):=by
  have:=Heap.get?_push_size (s.heap.push PySem.W.emptyDict) (o:=PySem.W.instObj C s.heap.objs.size) rfl
  rwa [Heap.size_push] at this
 have e3:(s.heap.push PySem.W.emptyDict).Ns s.heap.objs.size (fun _=>none):=⟨PySem.W.emptyDict,#[],_,e1,rfl,(fun e he=>absurd he (by simp -iota)),fun _=>rfl⟩
 have I1:=I.laid (a:=s.heap.objs.size) (o:=.own (s.heap.objs.size+1)) (h':=s.heap.push PySem.W.emptyDict) (t':=s.toks) (fun b u q=>Heap.get?_push_of_some _ q) (Nat.le_refl _) ⟨_,e1⟩
 refine I1.laid (a:=s.heap.objs.size+1) (o:=.ins C s.heap.objs.size []) (t':=s.toks) (fun b u q=>Heap.get?_push_of_some _ q) (Nat.le_of_eq (Heap.size_push _ _)) ?_
 have ne:s.heap.objs.size≠s.heap.objs.size+1:=Nat.ne_of_lt (Nat.lt_succ_self _)
 refine ⟨by rw [zai ne,zah],Nat.zero_le _,ne,e2,fun _=>none,(Heap.Ns1.of_empty e3).at fun o q=>Heap.get?_push_of_some _ q,fun _=>True.intro,fun y hy=>absurd rfl hy⟩
theorem zjU {prog:Program}{w:World}{env:Env}{e:Expr}{f:Str}{pos:Pos}{s:Shared}{Q:Value→Shared→Prop}(hb:attributeBase e f env (eval e env)=eval e env)
 (h:wpAny (model prog w) A (eval e env) (fun o s₁=>wpAny (model prog w) A (getAttr o f true) Q E s₁) E s):wpAny (model prog w) A (eval (.Attribute e f pos) env) Q E s :=
 Attribute_any_ h (by rw [arm_eval_Attribute,hb])
end
def tFld (K:PySem.W.Frag)(ta:TE)(f:Str):TE:=fun σ H Q=>ta σ H fun x H1 => ∃ a C dx fs v,x=.ref a∧H1 a=some (.ins C dx fs)∧Cls K C∧zbV K C f∧fs.lookup f=some v∧Q v H1
def sFld (K:PySem.W.Frag)(ta tv:TE)(f:Str):TS:=fun D σ H=>tv σ H fun y H1=>ta σ H1 fun x H2 => ∃ a C dx fs,x=.ref a∧H2 a=some (.ins C dx fs)∧Cls K C∧zbV K C f∧fs.length<1000 ∧
 D.nx σ (upd H2 a (.ins C dx (putF f y fs)))
section
variable {X:Cx}{o e value:Expr}{f:Str}{pos pos' tpos:Pos}{ta tv:TE}
theorem zlY (he:PE X e ta)(hb:attributeBase e f X.env (eval e X.env)=eval e X.env):PE X (.Attribute e f pos) (tFld X.K ta f):=by
 intro pins s σ H Q I h
 refine zjU hb (thn (he pins s σ H _ I h) fun u s1 zh => ?_)
 obtain ⟨x,H1,I1,rx,a,C,dx,fs,v,ex,ea,c,n,l,q⟩:=zh
 subst ex
 obtain rfl:u=Value.ref a:=rx
 exact zf1 I1 ea c n l fun u' s2 I2 ru=>⟨v,H1,I2,ru,q⟩
theorem zl7 (ha:PE X o ta)(hv:PE X value tv)(hs:swapsWith value (some (.Attribute o f pos')) pos.line X.env=pure false):PS X (.Assign [.Attribute o f pos'] value pos) (sFld X.K ta tv f):=by
 intro pins s σ H D I h
 refine plainObj_wpAny_Assign_Attribute (thn (hv pins s σ H _ I h) fun u s1 ⟨y,H1,I1,ry,q⟩=>thn (ha pins s1 σ H1 _ I1 q) fun ov s2 ⟨x,H2,I2,rx,a,C,dx,fs,ex,ea,c,n,l,q2⟩ => ?_) hs
 subst ex
 obtain rfl:ov=Value.ref a:=rx
 exact zfo I2 ea c n l ry fun s3 I3=>⟨σ,_,I3,q2⟩
end
section
variable {X:Cx}{pins:List (Addr×Obj)}{σ : St}{H:Hp}{s:Shared}{A:Around}{E:Value→Shared→Prop}{Q:Value→Shared→Prop}{c:Value}{b:Bool}
inductive TyOf (K:PySem.W.Frag)(H:Hp):V→Value→Prop where
 | non:TyOf K H .non (.type "NoneType")
 | bl (x:Bool):TyOf K H (.bl x) (.type "bool")
 | int (i:Int):TyOf K H (.int i) (.type "int")
 | str (x:Str):TyOf K H (.str x) (.type "str")
 | flt (x:UInt64):TyOf K H (.flt x) (.type "float")
 | lst {a:Addr} {xs:List V} (e:H a=some (.lst xs)):TyOf K H (.ref a) (.type "list")
 | frz {a:Addr} {o:Obj} {xs:List V} (e:H a=some (.frz o (.lst xs))):TyOf K H (.ref a) (.type "list")
 | tup {a:Addr} {xs:List V} (e:H a=some (.tup xs)):TyOf K H (.ref a) (.type "tuple")
 | dK {a:Addr} {kvs:List (Key×V)} (e:H a=some (.dK kvs)):TyOf K H (.ref a) (.type "dict")
 | dT {a:Addr} {kvs:List (List Key×V)} (e:H a=some (.dT kvs)):TyOf K H (.ref a) (.type "dict")
 | ins {a C dx:Addr} {fs:List (Str×V)} (e:H a=some (.ins C dx fs)) (cl:Cls K C) (ha:PySem.W.findIn K (.ref C) "__class__" = some (some (.builtin "object.__class__")))
  (hn:PySem.W.specialIn K (.builtin "object.__class__") "__get__" = some (some (.builtin "getset_descriptor.__get__"))) (htk:PySem.W.takesIn K (.builtin "object.__class__")=some true)
  (hm:PySem.W.mroIn K C (.type "object")=some true):TyOf K H (.ref a) (.ref C)
theorem zgQ {x:V}{u t:Value}(I:Inv X pins σ H s)(rx:RelV x u)(ty:TyOf X.K H x t)(e:PySem.W.kitOne X.K t c=some b)(h:∀ tk,Q (.bool b) { s with toks:=tk }) :
 wpAny (model X.prog X.w) A (call (.builtin "isinstance") [u,c]) Q E s:=by
 cases ty with
 | non=>cases (show u=Value.none from rx);exact PySem.W.kia_one PySem.W.kitx_none I.kIn True.intro e (fun z=>nomatch z) h
 | bl y=>cases (show u=Value.bool y from rx);exact PySem.W.kia_one PySem.W.kitx_bool I.kIn True.intro e (fun z=>nomatch z) h
 | int i=>obtain ⟨t,q⟩:=(show ∃ t,u=Value.int i t from rx);cases q;exact PySem.W.kia_one PySem.W.kitx_int I.kIn True.intro e (fun z=>nomatch z) h
 | str y=>obtain ⟨t,q⟩:=(show ∃ t,u=Value.str y t from rx);cases q;exact PySem.W.kia_one PySem.W.kitx_str I.kIn True.intro e (fun z=>nomatch z) h
 | flt y=>obtain ⟨t,q⟩:=(show ∃ t,u=Value.float y t from rx);cases q;exact PySem.W.kia_one PySem.W.kitx_float I.kIn True.intro e (fun z=>nomatch z) h
 | @lst a xs ea =>
  cases (show u=Value.ref a from rx)
  refine zc0b ((show zaI X.prog X.w H s.heap a (.lst xs) from I.hok a _ ea)) fun _ zz=>zc2b zz fun _ n _ h1 => ?_
  exact PySem.W.kia_one PySem.W.kitx_list I.kIn ⟨_,h1,rfl⟩ e (fun z=>nomatch z) h
 | @frz a ob xs ea =>
  cases (show u=Value.ref a from rx)
  refine zc0c ((show zaI X.prog X.w H s.heap a (.frz ob (.lst xs)) from I.hok a _ ea)) fun _ _ zz=>zc2b zz fun _ n _ h1 => ?_
  exact PySem.W.kia_one PySem.W.kitx_list I.kIn ⟨_,h1,rfl⟩ e (fun z=>nomatch z) h
 | @tup a xs ea =>
  cases (show u=Value.ref a from rx)
  refine zc0b ((show zaI X.prog X.w H s.heap a (.tup xs) from I.hok a _ ea)) fun _ zz=>zc1b zz fun _ _ p => ?_
  refine zc1c p fun o h1 h2 _ => ?_
  exact PySem.W.kia_one PySem.W.kitx_tuple I.kIn ⟨o,h1,h2⟩ e (fun z=>nomatch z) h
 | @dK a kvs ea =>
  cases (show u=Value.ref a from rx)
  refine zc0c ((show zaI X.prog X.w H s.heap a (.dK kvs) from I.hok a _ ea)) fun _ _ zz=>zc1b zz fun vs _ p => ?_
  refine zc3c p fun o es ep h1 h2 _ => ?_
  exact PySem.W.kia_one PySem.W.kitx_dict I.kIn ⟨o,h1,h2.1⟩ e (fun z=>nomatch z) h
 | @dT a kvs ea =>
  cases (show u=Value.ref a from rx)
  refine zc0c ((show zaI X.prog X.w H s.heap a (.dT kvs) from I.hok a _ ea)) fun _ _ zz=>zc1b zz fun xs _ zz=>zc3c zz fun o es ep h1 h2 _ => ?_
  exact PySem.W.kia_one PySem.W.kitx_dict I.kIn ⟨o,h1,h2.1⟩ e (fun z=>nomatch z) h
 | @ins a C dx fs ea cl ha hn htk hm =>
  cases (show u=Value.ref a from rx)
  refine zc1b (ze1 I.hok ea) fun mA O _ => ?_
  refine zc1b O.look fun od J _ => ?_
  exact PySem.W.kia_one (PySem.W.kitx_own (cl.get _) cl.hd ha hn htk hm) I.kIn J e (fun z=>nomatch z) h
end
end L2
namespace L2
open PySem PySem.Spec PyProof.Rows
structure Room (k:Nat)(A:Around):Prop where
 hd:A.handled=none
 dp:A.depth+3*k+5<recursionLimit
 un:A.units+16*k+200<cLine
theorem Room.mono {j k:Nat}{A:Around}(r:Room k A)(h:j≤k):Room j A:=⟨r.hd,by have:=r.dp;omega,by have:=r.un;omega⟩
theorem Room.deeper {k:Nat}{A:Around}(r:Room (k+1) A)(env:Env):Room k (A.deeper env) :=
 ⟨r.hd,by have:=r.dp;show A.depth+1+3*k+5<_;omega,by have:=r.un;show A.units+3+16*k+200<_;omega⟩
theorem zfw {A:Around}{C:Addr}{us:List Value}{kw:List (Str×Value)}:(A.under (.builtin "type.__call__" ⟨.ref C::us,kw⟩)).depth=A.depth+1:=by
 first|rfl|simp -iota [Around.under,Code.weight,Code.isCreation,Code.isGuard,Code.isCaller,Code.frames,Code.isFrame,guardIds]
theorem zf4 {A:Around}{C:Addr}{us:List Value}{kw:List (Str×Value)}:(A.under (.builtin "type.__call__" ⟨.ref C::us,kw⟩)).units=A.units+1:=by
 first|rfl|simp -iota [Around.under,Code.cUnits,Code.frames,Code.isFrame]
theorem Room.make {k:Nat}{A:Around}(r:Room (k+1) A)(C:Addr)(us:List Value)(kw:List (Str×Value)):Room k (A.under (.builtin "type.__call__" ⟨.ref C::us,kw⟩)) :=
 ⟨r.hd,by have:=r.dp;rw [zfw];omega,by have:=r.un;rw [zf4];omega⟩
theorem Room.depth {k:Nat}{A:Around}(r:Room k A):A.depth<recursionLimit:=by have:=r.dp;omega
theorem Room.units {k:Nat}{A:Around}(r:Room k A):A.units+64<cLine:=by have:=r.un;omega
noncomputable def tNil:TA:=fun _ H Q=>Q [] H
noncomputable def tCons (ta:TE)(tr:TA):TA:=fun σ H Q=>ta σ H fun x H1=>tr σ H1 fun xs H2=>Q (x::xs) H2
section
variable {X:Cx}{e:Expr}{es:List Expr}{te:TE}{t:TA}{pos:Pos}
theorem zdF:PA X [] tNil:=fun _ _ _ _ H Q I h=>Calls.spliced_nil ⟨[],H,I,.nil,h⟩
theorem zci (ha:PE X e te)(hr:PA X es t)(hs:autoParam (starEach (e::es) X.env=(false,eval e X.env)::starEach es X.env) zau._auto_1):PA X (e::es) (tCons te t):=by
 intro pos pins s σ H Q I h
 rw [hs]
 show wpAny _ _ (spliced ((false,eval e X.env)::backTo pos (starEach es X.env))) _ _ s
 refine Calls.spliced_cons (thn (ha pins s σ H _ I h) fun u s1 zh => ?_)
 refine zc2c zh fun x H1 I1 r1 q1 => ?_
 exact thn (hr pos pins s1 σ H1 _ I1 q1) (by rintro us s2 ⟨xs,H2,I2,r2,q2⟩;exact ⟨x::xs,H2,I2,.cons r1 r2,q2⟩)
def tTup (t:TA):TE:=fun σ H Q=>t σ H fun xs H1=>xs.length≤sizeLine∧∀ p,H1 p=none→Q (.ref p) (upd H1 p (.tup xs))
def tLst (t:TA):TE:=fun σ H Q=>t σ H fun xs H1=>xs.length≤sizeLine∧∀ p,H1 p=none→Q (.ref p) (upd H1 p (.lst xs))
theorem zkE {x1}(h:PA X es t):PE X (.Tuple es x1 pos) (tTup t):=by
 intro pins s σ H Q I hq
 refine wpAny_Tuple_spliced (thn (h pos pins s σ H _ I hq) fun us s1 ⟨xs,H1,I1,r,z,q⟩=>⟨by rw [← r.length];exact z,?_⟩)
 have hf:H1 s1.heap.objs.size=none:=I1.hok.fresh (Nat.le_refl _)
 refine ⟨.ref s1.heap.objs.size,upd H1 s1.heap.objs.size (.tup xs),I1.laid (t':=s1.toks) (fun b u e=>Heap.get?_push_of_some _ e) (Nat.le_refl _) ?_,rfl,q _ hf⟩
 exact ⟨⟨z,⟨_,Heap.get?_push_size _ rfl,rfl⟩⟩,us,r,⟨_,Heap.get?_push_size _ rfl,rfl,_,rfl⟩⟩
theorem zkY (h:PA X es t):PE X (.List es pos) (tLst t):=by
 intro pins s σ H Q I hq
 refine wpAny_List_spliced (thn (h pos pins s σ H _ I hq) fun us s1 ⟨xs,H1,I1,r,z,q⟩=>⟨by rw [← r.length];exact z,?_⟩)
 have hf:H1 s1.heap.objs.size=none:=I1.hok.fresh (Nat.le_refl _)
 refine ⟨.ref s1.heap.objs.size,upd H1 s1.heap.objs.size (.lst xs),I1.laid (t':=s1.toks) (fun b u e=>Heap.get?_push_of_some _ e) (Nat.le_refl _) ?_,rfl,q _ hf⟩
 exact ⟨z,us,0,r,Heap.get?_push_size _ rfl⟩
end
abbrev Sp:=List V→Hp→VK→XK→Prop
abbrev CXT:=List Env→Hp→Shared→XK→Value→Shared→Prop
structure Env0 (P:Program)(w:World)(K:PySem.W.Frag)(mg:Str→Option Value)(base:Heap)(A:Around)(outer:List Env)(s:Shared)(H:Hp):Prop where
 frames:A.frames=some outer
 mod:Mod K mg base
 bs:∀ b o,base.get? b=some o→s.heap.get? b=some o∧H b=none
 bsz:base.objs.size≤s.heap.objs.size
 funs:s.heap.FunFrames base outer
 frf:∀ b∈frs outer,H b=none
 hok:HOk P w H s.heap
 bare:AllBare s.gens
def CE (outer:List Env)(P:Program)(w:World)(H:Hp)(s:Shared)(Q:VK)(u:Value)(s':Shared):Prop :=
 ∃ v H',s'.os=s.os∧AllBare s'.gens∧Un (frs outer) [] H H' s.heap s'.heap∧HOk P w H' s'.heap∧RelV v u∧Q v H'
noncomputable def CR (CX:CXT)(outer:List Env)(P:Program)(w:World)(H:Hp)(s:Shared)(Q:VK)(E:XK)(r:Result)(s':Shared):Prop :=
 match r with
 | .ok (.ret u)=>CE outer P w H s Q u s'
 | .ok _=>False
 | .error e=>CX outer H s E e s'
structure FnOk (P:Program)(w:World)(K:PySem.W.Frag)(mg:Str→Option Value)(base:Heap)(CX:CXT)(k:Nat)(f:Addr)(fd:FuncData)(ps:List Str)(sp:Sp):Prop where
 len:∀ vs H Q E,sp vs H Q E→vs.length=ps.length
 run:∀ (A:Around) (outer:List Env) (s:Shared) (H:Hp) (args:Args) (us:List Value) (vs:List V) (Q:VK) (E:XK),Room k A→Env0 P w K mg base A outer s H→BindsTo s fd args (ps.zip us)→Vals vs us→sp vs H Q E →
  codeAny (model P w) A (.call (.ref f) args) (CR CX outer P w H s Q E) s
theorem FnOk.mono {P:Program}{w:World}{K:PySem.W.Frag}{mg:Str→Option Value}{base:Heap}{CX:CXT}{j k:Nat}{f:Addr}{fd:FuncData}{ps:List Str}{sp:Sp}(F:FnOk P w K mg base CX j f fd ps sp)(h:j≤k) :
 FnOk P w K mg base CX k f fd ps sp:=⟨F.len,fun A outer s H args us vs Q E hr=>F.run A outer s H args us vs Q E (hr.mono h)⟩
theorem FnOk.imp {P:Program}{w:World}{K:PySem.W.Frag}{mg:Str→Option Value}{base:Heap}{CX:CXT}{k:Nat}{f:Addr}{fd:FuncData}{ps:List Str}{sp sp':Sp}(F:FnOk P w K mg base CX k f fd ps sp)
 (h:∀ vs H Q E,sp' vs H Q E→sp vs H Q E):FnOk P w K mg base CX k f fd ps sp' :=
 ⟨fun vs H Q E q=>F.len vs H Q E (h _ _ _ _ q),fun A outer s H args us vs Q E hr he hb hv hs=>F.run A outer s H args us vs Q E hr he hb hv (h _ _ _ _ hs)⟩
theorem Env0.make {P:Program}{w:World}{K:PySem.W.Frag}{mg:Str→Option Value}{base:Heap}{A:Around}{outer:List Env}{s:Shared}{H:Hp}(e:Env0 P w K mg base A outer s H)(C:Addr)(us:List Value)(kw:List (Str×Value)) :
 Env0 P w K mg base (A.under (.builtin "type.__call__" ⟨.ref C::us,kw⟩)) outer s H:=⟨by first|exact e.frames|(simpa -iota [Around.under,Code.envs,Code.isFrame,pushEnvs] using e.frames),e.mod,e.bs,e.bsz,e.funs,e.frf,e.hok,e.bare⟩
section
variable {X:Cx}{pins:List (Addr×Obj)}{σ : St}{H:Hp}{s s':Shared}
theorem Inv.env0 (I:Inv X pins σ H s):Env0 X.prog X.w X.K X.mg X.base X.A X.stack s H :=
 ⟨I.ok.frames,I.ok.mod,I.bs,Nat.le_trans I.ok.bsz I.sz,I.stack,I.stkFree,I.hok,I.bare⟩
theorem Inv.after {Q:VK}{u:Value}(I:Inv X pins σ H s)(h:CE X.stack X.prog X.w H s Q u s'):EP X pins σ Q u s':=by
 refine zc2a h fun v H' zz=>zc0e zz fun os bare un hok zz=>zc0b zz fun r q => ?_
 obtain ⟨hh,g,d,t,os'⟩:=s'
 obtain rfl:os'=s.os:=os
 exact ⟨v,H',I.call (h':=hh) (g':=g) (d':=d) (t':=t) (ch:=[]) un hok bare (fun b z=>absurd z (by simp -iota)),r,q⟩
end
noncomputable def zkU (sp:Sp)(dvs:List V)(E:XK)(t:TA):TE:=fun σ H Q=>t σ H fun vs H1=>sp (vs++dvs) H1 Q E
def tMake (C:Addr)(sp:Sp)(dvs:List V)(E:XK)(t:TA):TE:=fun σ H Q=>t σ H fun vs H1 => ∀ x dx,H1 x=none→H1 dx=none→dx≠x →
 sp (.ref x::(vs++dvs)) (upd (upd H1 dx (.own x)) x (.ins C dx [])) (fun v H2=>v=.non∧Q (.ref x) H2) E
noncomputable def zda (K:PySem.W.Frag)(fd:FuncData)(ps:List Str)(ds:List Value):Prop :=
 ∀ (s:Shared) (us:List Value),K.In s.heap→(us++ds).length=ps.length→BindsTo s fd ⟨us,[]⟩ (ps.zip (us++ds))
theorem zda.all {K:PySem.W.Frag}{fd:FuncData}{ps:List Str}(h:∀ us:List Value,us.length=ps.length→bindArgs fd ⟨us,[]⟩=pure (ps.zip us)):zda K fd ps []:=fun s us _ hl=>by
 rw [List.append_nil] at hl ⊢
 exact .of_eq (h us hl)
noncomputable def zed (CX:CXT)(X:Cx)(E:XK):Prop:=∀ (pins:List (Addr×Obj)) (σ : St) (H:Hp) (s:Shared) (e:Value) (s':Shared),Inv X pins σ H s→CX X.stack H s E e s'→X.xe e s'
section
variable {X:Cx}{CX:CXT}{k:Nat}{f C:Addr}{fd:FuncData}{ps:List Str}{sp:Sp}{dvs:List V}{ds:List Value}{E:XK}{x m:Str}{p pos apos:Pos}{e o:Expr}{es:List Expr}{ta:TE}{t:TA}
theorem zlm {pins:List (Addr×Obj)}{σ : St}{H:Hp}{s:Shared}{Q:VK}{us:List Value}{vs:List V}(F:FnOk X.prog X.w X.K X.mg X.base CX k f fd ps sp)(hr:Room k X.A)(hb:zda X.K fd ps ds)(hd:Vals dvs ds)(hx:zed CX X E)
 (I:Inv X pins σ H s) (r:Vals vs us) (h:sp (vs++dvs) H Q E):wpAny (model X.prog X.w) X.A (call (.ref f) us) (EP X pins σ Q) X.xe s:=by
 have r2:Vals (vs++dvs) (us++ds):=r.append hd
 have hl:(us++ds).length=ps.length:=by rw [← r2.length];exact F.len _ _ _ _ h
 refine wpAny_call (codeAny_mono (F.run X.A X.stack s H ⟨us,[]⟩ (us++ds) (vs++dvs) Q E hr I.env0 (hb s us I.kIn hl) r2 h) fun r s' hq => ?_)
 cases r with
 | error e=>exact hx pins σ H s e s' I hq
 | ok fl =>
  cases fl with
  | ret u=>exact I.after hq
  | next=>exact False.elim hq
  | brk=>exact False.elim hq
  | cont=>exact False.elim hq
theorem zj5 (F:FnOk X.prog X.w X.K X.mg X.base CX k f fd ps sp)(hr:Room k X.A)(hg:Gl X x)(hm:X.mg x=some (.ref f))(hk:PySem.W.keepIn X.K (.ref f)=true)(hb:zda X.K fd ps ds)(hd:Vals dvs ds)(hx:zed CX X E)
 (ha:PA X (e::es) t) (hdb:autoParam ((x == ("__debug__" : Str))=false) zav._auto_1) (he:starEach (e::es) X.env=(false,eval e X.env)::starEach es X.env:=by rfl) (hpl:(backTo pos (starEach es X.env)).any (·.1)=false:=by rfl) :
 PE X (.Call (.Name x p) (e::es) [] pos) (zkU sp dvs E t):=by
 intro pins s σ H Q I h
 refine wpAny_Call_Name_kw (zg0 I hg hm ?_ hdb)
 refine PySem.W.callWith_K (h₀:=X.base) I.ok.mod.kin hk (thn (ha pos pins s σ H _ I h) fun us s1 ⟨vs,H1,I1,r,q⟩=>⟨I1.kIn,?_⟩) he hpl
 exact zlm F hr hb hd hx I1 r q
structure Mk (K:PySem.W.Frag)(C f:Addr):Prop where
 makes:PySem.W.makesIn K C=true
 init:PySem.W.findIn K (.ref C) "__init__" = some (some (.ref f))
 fn:PySem.W.isFn K (.ref f)=true
 kp:PySem.W.keepIn K (.ref C)=true
theorem zhG {pins:List (Addr×Obj)}{σ : St}{H:Hp}{s:Shared}{Q:VK}{us:List Value}{vs:List V}(M:Mk X.K C f)(F:FnOk X.prog X.w X.K X.mg X.base CX k f fd ps sp)(hr:Room (k+1) X.A)(hb:zda X.K fd ps ds)(hd:Vals dvs ds)
 (hx:zed CX X E) (I:Inv X pins σ H s) (r:Vals vs us)
 (h:∀ x dx,H x=none→H dx=none→dx≠x→sp (.ref x::(vs++dvs)) (upd (upd H dx (.own x)) x (.ins C dx [])) (fun v H2=>v=.non∧Q (.ref x) H2) E) :
 wpAny (model X.prog X.w) X.A (call (.ref C) us) (EP X pins σ Q) X.xe s:=by
 have hq:=h (s.heap.objs.size+1) s.heap.objs.size (I.hok.fresh (Nat.le_succ _)) (I.hok.fresh (Nat.le_refl _)) (Nat.ne_of_lt (Nat.lt_succ_self _))
 have I2:=Inv.made (C:=C) I
 have r2:Vals (V.ref (s.heap.objs.size+1)::(vs++dvs)) (Value.ref (s.heap.objs.size+1)::(us++ds)):=.cons rfl (r.append hd)
 have hl:(Value.ref (s.heap.objs.size+1)::us++ds).length=ps.length:=by
  have e:=r2.length
  rw [F.len _ _ _ _ hq] at e
  exact e.symm
 refine wpAny_call (zh5 (f:=f) I.kIn M.makes M.init (beq_iff_eq.mp M.fn) (codeAny_mono (F.run _ X.stack _ _ ⟨Value.ref (s.heap.objs.size+1)::us,[]⟩ (Value.ref (s.heap.objs.size+1)::(us++ds)) _ _ E (hr.make C us [])
  (I2.env0.make C us []) (hb _ (Value.ref (s.heap.objs.size+1)::us) I2.kIn hl) r2 hq) fun r s' hq' => ?_))
 cases r with
 | error e=>exact hx pins σ _ _ e s' I2 hq'
 | ok fl =>
  cases fl with
  | ret u =>
   obtain ⟨v,H',I3,rv,ev,q3⟩:=I2.after hq'
   subst ev
   exact ⟨rv,⟨V.ref (s.heap.objs.size+1),H',I3,rfl,q3⟩⟩
  | next=>exact False.elim hq'
  | brk=>exact False.elim hq'
  | cont=>exact False.elim hq'
theorem zjT (M:Mk X.K C f)(F:FnOk X.prog X.w X.K X.mg X.base CX k f fd ps sp)(hr:Room (k+1) X.A)(hg:Gl X x)(hm:X.mg x=some (.ref C))(hb:zda X.K fd ps ds)(hd:Vals dvs ds)(hx:zed CX X E)
 (ha:PA X (e::es) t) (hdb:autoParam ((x == ("__debug__" : Str))=false) zav._auto_1) (he:starEach (e::es) X.env=(false,eval e X.env)::starEach es X.env:=by rfl) (hpl:(backTo pos (starEach es X.env)).any (·.1)=false:=by rfl) :
 PE X (.Call (.Name x p) (e::es) [] pos) (tMake C sp dvs E t):=by
 intro pins s σ H Q I h
 refine wpAny_Call_Name_kw (zg0 I hg hm ?_ hdb)
 refine PySem.W.callWith_K (h₀:=X.base) I.ok.mod.kin M.kp (thn (ha pos pins s σ H _ I h) fun us s1 ⟨vs,H1,I1,r,q⟩=>⟨I1.kIn,?_⟩) he hpl
 exact zhG M F hr hb hd hx I1 r q
end
structure FnScope (N P:List Str)(sc:Scope):Prop where
 kind:sc.kind=.function
 co:sc.isCoroutine=false
 gen:sc.isGenerator=false
 nd:N.Nodup
 pre:N.take P.length=P
 par:∀ x∈P,sc.names.lookup x=some .local∨sc.names.lookup x=some .cell
 nofree:∀ y∈sc.names,y.2 ≠ .free
theorem zdY {kindOf:Str→Option NameKind}{x:Str}:∀ {binds:List (Str×Value)} {m:Str→Option Value},(∀ v,(x,v)∉binds)→bindL kindOf binds m x=m x
 | [],_,_=>rfl
 | (n,v)::r,m,h=>by
  unfold bindL
  rw [zdY fun w hw=>h w (List.mem_cons_of_mem _ hw)]
  split
  ·have:x≠n:=by rintro rfl;exact h v List.mem_cons_self
   simp -iota [this]
  ·rfl
theorem zdI {kindOf:Str→Option NameKind}{x:Str}:∀ {binds:List (Str×Value)} {m:Str→Option Value},(∀ v,(x,v)∉binds)→bindC kindOf binds m x=m x
 | [],_,_=>rfl
 | (n,v)::r,m,h=>by
  unfold bindC
  rw [zdI fun w hw=>h w (List.mem_cons_of_mem _ hw)]
  split
  ·rfl
  ·have:x≠n:=by rintro rfl;exact h v List.mem_cons_self
   simp -iota [this]
theorem zdK {kindOf:Str→Option NameKind}{x:Str}{v:Value}:∀ {P:List Str} {vs:List Value} {i:Nat} {m:Str→Option Value},P.Nodup→P[i]? = some x→vs[i]? = some v→kindOf x=some .local →
 bindL kindOf (P.zip vs) m x=some v
 | [],_,_,_,_,h,_,_=>by simp -iota at h
 | _::_,[],_,_,_,_,h,_=>by simp -iota at h
 | p::P,w::vs,0,m,nd,h1,h2,hk=>by
  simp -iota at h1 h2;subst h1;subst h2
  show bindL kindOf ((p,w)::P.zip vs) m p=_
  unfold bindL
  rw [zdY fun v hv=>(List.nodup_cons.mp nd).1 (List.of_mem_zip hv).1,if_pos hk]
  simp -iota
 | p::P,w::vs,i+1,m,nd,h1,h2,hk=>by
  show bindL kindOf ((p,w)::P.zip vs) m x=_
  unfold bindL
  exact zdK (i:=i) (List.nodup_cons.mp nd).2 (by simpa -iota using h1) (by simpa -iota using h2) hk
theorem zdG {kindOf:Str→Option NameKind}{x:Str}{v:Value}:∀ {P:List Str} {vs:List Value} {i:Nat} {m:Str→Option Value},P.Nodup→P[i]? = some x→vs[i]? = some v→kindOf x≠some .local →
 bindC kindOf (P.zip vs) m x=some v
 | [],_,_,_,_,h,_,_=>by simp -iota at h
 | _::_,[],_,_,_,_,h,_=>by simp -iota at h
 | p::P,w::vs,0,m,nd,h1,h2,hk=>by
  simp -iota at h1 h2;subst h1;subst h2
  show bindC kindOf ((p,w)::P.zip vs) m p=_
  unfold bindC
  rw [zdI fun v hv=>(List.nodup_cons.mp nd).1 (List.of_mem_zip hv).1,if_neg hk]
  simp -iota
 | p::P,w::vs,i+1,m,nd,h1,h2,hk=>by
  show bindC kindOf ((p,w)::P.zip vs) m x=_
  unfold bindC
  exact zdG (i:=i) (List.nodup_cons.mp nd).2 (by simpa -iota using h1) (by simpa -iota using h2) hk
noncomputable def start (N:List Str)(vs:List V):St:=vs.map some++List.replicate (N.length-vs.length) none
noncomputable def cxOf (CX:CXT)(P:Program)(w:World)(K:PySem.W.Frag)(mg:Str→Option Value)(base:Heap)(N:List Str)(qual:Str)(scope:Scope)(f:Addr)(cd:Value)(A:Around)(outer:List Env)(s:Shared)(H:Hp)(E:XK):Cx where
 prog:=P
 w:=w
 K:=K
 mg:=mg
 base:=base
 A:=A.deeper (envOfC qual scope s.heap.objs.size f cd)
 N:=N
 s₀:=s
 H₀:=H
 env:=envOfC qual scope s.heap.objs.size f cd
 outer:=outer
 stack:=envOfC qual scope s.heap.objs.size f cd::outer
 ex:=[]
 calm:=true
 fn:=fun _=>true
 pn:=[]
 xe:=fun e s'=>wpAny (model P w) (A.deeper (envOfC qual scope s.heap.objs.size f cd)) (leaving (envOfC qual scope s.heap.objs.size f cd) e) (fun _ s''=>CX outer H s E e s'') (fun e' s''=>CX outer H s E e' s'') s'
theorem zfg {sc:Scope}{n:Nat}{x:Str}(h:sc.names.lookup x=some .cell):∃ c,(cellsFrom n sc.names []).lookup x=some c:=by
 have q:=PySem.W.cellsFrom_some sc.names n [] (.inl h)
 exact Option.isSome_iff_exists.mp q
theorem zgw {CX:CXT}{P:Program}{w:World}{K:PySem.W.Frag}{mg:Str→Option Value}{base:Heap}{N ps:List Str}{qual:Str}{scope:Scope}{f:Addr}{cd:Value}{A:Around}{outer:List Env}{s s1:Shared}{H:Hp}{E:XK}{us:List Value}{vs:List V}
 (S:FnScope N ps scope) (hd:A.handled=none) (e0:Env0 P w K mg base A outer s H) (hl:vs.length=ps.length) (r:Vals vs us)
 (x:InCallC s s.heap.objs.size (bindL (envOfC qual scope s.heap.objs.size f cd).kindOf (ps.zip us) fun _=>none) (cellsFrom (s.heap.objs.size+1) scope.names []) (bindC (envOfC qual scope s.heap.objs.size f cd).kindOf (ps.zip us) fun _=>none) s1) :
 Inv (cxOf CX P w K mg base N qual scope f cd A outer s H E) [] (start N vs) H s1:=by
 have hpl:ps.length≤N.length:=by have:=congrArg List.length S.pre;rw [List.length_take] at this;omega
 refine zc2b x.done fun h1 tk zr2 hk => ?_
 obtain rfl:=zr2
 have noA:∀ b:Addr,b∉(cxOf CX P w K mg base N qual scope f cd A outer s H E).ex:=fun b z=>absurd (show b∈([]:List Addr) from z) (by simp -iota)
 refine ⟨⟨e0.mod,S.kind,rfl,rfl,Nat.le_refl _,fun y z c h1 h2 => ?_,fun y hy => ?_,fun y c _ h => ?_,fun _=>hd,Around.frames_deeper e0.frames,.inr ⟨rfl,rfl⟩,fun b z=>absurd z (noA b),e0.bs,e0.bsz,fun b _ _=>noA b,fun b z=>absurd z (noA b),e0.funs,e0.frf⟩,
  rfl,e0.bare,Un.kept hk,⟨_,x.toInCall.ns,fun i y v h1 h2 h3 => ?_⟩,fun y c h=>⟨_,x.cell y c h⟩,e0.hok.fresh (Nat.le_refl _),fun y c h => ?_,fun p hp=>absurd (show p∈([]:List (Addr×Obj)) from hp) (by simp -iota),e0.hok.kept hk,?_⟩
 ·exact name_of_addr x.apart (PySem.mem_of_lookup h1) (PySem.mem_of_lookup h2)
 ·have hy:scope.names.lookup y=some .cell∨scope.names.lookup y=some .free:=hy
  rcases hy with hy|hy
  ·exact zfg hy
  ·exact absurd rfl (S.nofree _ (PySem.mem_of_lookup hy))
 ·exact Nat.le_of_lt (x.above y c (PySem.mem_of_lookup h))
 ·have hi:i<vs.length:=by
   unfold start at h2
   by_cases hi:i<vs.length
   ·exact hi
   ·rw [List.getElem?_append_right (by simpa -iota using hi)] at h2
    rw [List.getElem?_replicate] at h2
    split at h2<;>cases h2
  have ha:vs[i]? = some v:=by
   unfold start at h2
   rw [List.getElem?_append_left (by simpa -iota using hi),List.getElem?_map] at h2
   cases e:vs[i]? with
   | none=>rw [e] at h2;cases h2
   | some a=>rw [e] at h2;cases h2;rfl
  refine zc1b (r.get ha) fun u hu rv => ?_
  have hp:ps[i]? = some y:=by
   rw [← S.pre,List.getElem?_take_of_lt (by omega)];exact h1
  have ndP:ps.Nodup:=by rw [← S.pre];exact S.nd.sublist (List.take_sublist _ _)
  refine ⟨u,rv,?_⟩
  rcases S.par y (List.mem_of_getElem? hp) with k|k
  ·exact .inl ⟨k,zdK ndP hp hu k⟩
  ·obtain ⟨c,e⟩:=zfg (n:=s.heap.objs.size+1) k
   refine .inr ⟨.inl k,c,e,?_⟩
   have q:=x.cell y c e
   rw [zdG ndP hp hu (by show scope.names.lookup y≠_;rw [k];decide)] at q
   exact q
 ·exact e0.hok.fresh (Nat.le_of_lt (x.above y c (PySem.mem_of_lookup h)))
 ·unfold start
  show _=N.length
  rw [List.length_append,List.length_map,List.length_replicate]
  omega
theorem fn_of {CX:CXT}{P:Program}{w:World}{K:PySem.W.Frag}{mg:Str→Option Value}{base:Heap}{k:Nat}{f:Addr}{name qual:Str}{params:Arguments}{body:List Stmt}{scope:Scope}{dV kV doc pm cdv ct oc:Value}{an od:Option Addr}
 {osl:Array (Option Value)} {N ps:List Str} {sp:Sp} (lk:K.lookup f=some ⟨oc,od,.func (PySem.W.fnOf name qual params body scope dV kV doc pm an cdv ct),osl⟩) (hcd:PySem.W.codeIn K cdv qual=true) (S:FnScope N ps scope)
 (len:∀ vs H Q E,sp vs H Q E→vs.length=ps.length)
 (hbody:∀ (A:Around) (outer:List Env) (s:Shared) (H:Hp) (vs:List V) (Q:VK) (E:XK),Room k (A.deeper (envOfC qual scope s.heap.objs.size f cdv))→sp vs H Q E →
  ∃ t,PSs (cxOf CX P w K mg base N qual scope f cdv A outer s H E) body t∧t { nx:=fun _ H'=>Q .non H',rt:=Q } (start N vs) H) :
 FnOk P w K mg base CX (k+1) f (PySem.W.fnOf name qual params body scope dV kV doc pm an cdv ct) ps sp:=by
 refine ⟨len,fun A outer s H args us vs Q E hr e0 hb r hsp => ?_⟩
 have hl:=len _ _ _ _ hsp
 have KX:K.In s.heap:=e0.mod.kin.keeps fun b o e=>(e0.bs b o e).1
 have lim:s.heap.NoLimit:=e0.mod.nolimit.keeps fun b o e=>(e0.bs b o e).1
 have hkind:∀ y∈ps.zip us,scope.names.lookup y.1=some .local∨(scope.names.lookup y.1=some .cell∧((cellsFrom (s.heap.objs.size+1) scope.names []).lookup y.1).isSome=true):=fun ⟨n,v⟩ hy=>by
  rcases S.par n (List.of_mem_zip hy).1 with q|q
  ·exact .inl q
  ·exact .inr ⟨q,PySem.W.cellsFrom_some _ _ _ (.inl q)⟩
 refine codeAny_call_function hr.depth (KX _ _ lk) rfl S.co S.gen rfl (PySem.W.codeRec_of KX hcd) (hb _ _ _ _ ?_)
 refine wpAny_newFunctionEnv_cells S.kind hkind fun env he s1 x => ?_
 subst he
 refine ⟨lim.keeps x.toInCall.keep,codeAny_func ?_⟩
 refine zc1b (hbody A outer s H vs Q E (hr.deeper _) hsp) fun t ht hq => ?_
 have I:Inv (cxOf CX P w K mg base N qual scope f cdv A outer s H E) [] (start N vs) H s1:=zgw S hr.hd e0 hl r x
 refine wpAny_mono (ht [] s1 (start N vs) H _ I hq) (fun fl s' hs => ?_) fun e s' hs=>hs
 have fin:∀ {σ':St} {H':Hp} {v:V} {u:Value},Inv (cxOf CX P w K mg base N qual scope f cdv A outer s H E) [] σ' H' s'→RelV v u→Q v H'→CE outer P w H s Q u s' :=
  fun {σ' H' v u} J rv q=>⟨v,H',J.os,J.bare,J.base,J.hok,rv,q⟩
 cases fl with
 | ret u =>
  refine zc3c hs fun v σ' H' J rv q => ?_
  exact fin J rv q
 | next =>
  refine zc2b hs fun σ' H' J q => ?_
  exact fin (v:=V.non) (u:=Value.none) J rfl q
 | brk =>
  refine zc2b hs fun _ _ _ q => ?_
  exact False.elim q
 | cont =>
  refine zc2b hs fun _ _ _ q => ?_
  exact False.elim q
end L2
namespace L2
open PySem PySem.Spec PyProof.Rows
section
variable {X:Cx}{x:Str}{p pos:Pos}{e:Expr}{es:List Expr}{t:TA}{id T:String}{r:List V→Hp→VK→Prop}
noncomputable def tCB (r:List V→Hp→VK→Prop)(t:TA):TE:=fun σ H Q=>t σ H fun vs H1=>r vs H1 Q
theorem zeF (hc:zas X (.builtin id) r)(hg:Gl X x)(hm:X.mg x=none)(hv:bootBuiltins x=some (.builtin id))(ha:PA X (e::es) t)(hn:autoParam (x ≠ "__name__") zav._auto_1)(hdb:autoParam ((x == ("__debug__" : Str))=false) zav._auto_1)
 (he:autoParam (starEach (e::es) X.env=(false,eval e X.env)::starEach es X.env) zau._auto_1) (hpl:autoParam ((backTo pos (starEach es X.env)).any (·.1)=false) zau._auto_1):PE X (.Call (.Name x p) (e::es) [] pos) (tCB r t):=by
 intro pins s σ H Q I h
 refine wpAny_Call_Name_kw (zeZ I hg hm hv ?_ hn hdb)
 exact PyProof.Rows.callWith_builtin1 (thn (ha pos pins s σ H _ I h) (by rintro us s1 ⟨vs,H1,I1,r1,q1⟩;exact hc pins s1 σ H1 vs us Q I1 r1 q1)) he hpl
theorem zdJ (hc:zas X (.type T) r)(hg:Gl X x)(hm:X.mg x=none)(hv:bootBuiltins x=some (.type T))(ha:PA X (e::es) t)(hn:autoParam (x ≠ "__name__") zav._auto_1)(hdb:autoParam ((x == ("__debug__" : Str))=false) zav._auto_1)
 (he:autoParam (starEach (e::es) X.env=(false,eval e X.env)::starEach es X.env) zau._auto_1) (hpl:autoParam ((backTo pos (starEach es X.env)).any (·.1)=false) zau._auto_1):PE X (.Call (.Name x p) (e::es) [] pos) (tCB r t):=by
 intro pins s σ H Q I h
 refine wpAny_Call_Name_kw (zeZ I hg hm hv ?_ hn hdb)
 exact PyProof.Rows.callWith_type1 (thn (ha pos pins s σ H _ I h) (by rintro us s1 ⟨vs,H1,I1,r1,q1⟩;exact hc pins s1 σ H1 vs us Q I1 r1 q1)) he hpl
end
end L2
namespace HT
open PySem PyProof.Rows
section
open PySem.SeqAt
open PySem.AutoSeq1 (wpAny_loadPart')
open PySem.MeetsSeq PySem.MeetsSeq2 PySem.MeetsSeq3
end
section
variable {prog:Program}{w:World}{A:Around}{E:Value→Shared→Prop}{s:Shared}
theorem cat_tup {t b:Addr}{vs ws:List Value}{Q:Value→Shared→Prop}(ht:IsTup s.heap t vs.toArray)(hb:IsTup s.heap b ws.toArray)(hv:vs ≠ [])
 (h1:ws=[]→Q (.ref t) s) (h2:ws ≠ []→Q (.ref s.heap.objs.size) { s with heap:=s.heap.push { cls:=.type "tuple",data:=.seq (vs++ws).toArray } })
 (hsz:vs.length+ws.length≤sizeLine):wpAny (model prog w) A (binaryOp .Add (.ref t) (.ref b)) Q E s:=by
 refine zc1c (id ht) fun zr0 ho hc zz=>zc1a zz fun n hd => ?_
 obtain ⟨cls,dd,data,sl⟩:=zr0
 refine zc1c (id hb) fun zr0 ho2 hc2 zz=>zc1a zz fun n2 hd2 => ?_
 obtain ⟨cls2,dd2,data2,sl2⟩:=zr0
 simp -iota only at hc hd hc2 hd2
 subst hc hd hc2 hd2
 have e:vs.toArray++ws.toArray=(vs++ws).toArray:=by simp -iota
 by_cases hw:ws=[]
 ·exact concat_meets ⟨_,ho,rfl⟩ ⟨_,ho2,rfl⟩ noFill_tuple_add seq_tuple_add PySem.F.slot_tuple_add PySem.F.entry_tuple_add (PySem.F.args_tuple_add_2 _ _)
   (tuple_addW1 t b vs.toArray ws.toArray n n2 dd dd2 sl sl2 (by simpa -iota using hv) (by simp -iota [hw])) ⟨ho,ho2,h1 hw⟩
 ·refine concat_meets ⟨_,ho,rfl⟩ ⟨_,ho2,rfl⟩ noFill_tuple_add seq_tuple_add PySem.F.slot_tuple_add PySem.F.entry_tuple_add (PySem.F.args_tuple_add_2 _ _)
   (tuple_addW2 t b vs.toArray ws.toArray n n2 dd dd2 sl sl2 (by simpa -iota using hv) (by simpa -iota using hw) (by rw [List.size_toArray,List.size_toArray];exact hsz)) ⟨ho,ho2,?_⟩
  rw [e]
  exact h2 hw
end
end HT
namespace L2
open PySem PySem.Spec PyProof.Rows
abbrev TO:=St→Hp→(Option Int→Hp→Prop)→Prop
noncomputable def PO (X:Cx)(e:Option Expr)(t:TO):Prop :=
 ∀ (pins:List (Addr×Obj)) (s:Shared) (σ : St) (H:Hp) (Q:Option Int→Hp→Prop),Inv X pins σ H s→t σ H Q →
  wpAny (model X.prog X.w) X.A (evalPart e X.env) (fun u s' => ∃ o H',Inv X pins σ H' s'∧IsPart u o∧Q o H') X.xe s
noncomputable def zk1:TO:=fun _ H Q=>Q none H
noncomputable def tPart (t:TE):TO:=fun σ H Q=>t σ H fun x H1 => ∃ i,x=.int i∧Q (some i) H1
theorem zbK {ns:List Int}:∀ {us:List Value},Vals (ns.map V.int) us→IntsAre us ns:=by
 induction ns with
 | nil=>intro us r;rw [List.map_nil] at r;cases r;exact .nil
 | cons n ns ih =>
  intro us r
  rw [List.map_cons] at r
  cases r with
  | cons r1 r2 =>
   obtain ⟨t,e⟩:=r1
   subst e
   exact .cons n t (ih r2)
section
variable {X:Cx}{e:Expr}{te:TE}{lo hi:Option Expr}{tl th:TO}{pos p2:Pos}
theorem zji:PO X none zk1:=by
 intro pins s σ H Q I h
 rw [evalPart_none]
 exact wpAny_pure ⟨none,H,I,.none,h⟩
theorem zje (h:PE X e te):PO X (some e) (tPart te):=by
 intro pins s σ H Q I hw
 rw [evalPart_some]
 refine thn (h pins s σ H _ I hw) fun u s1 zh => ?_
 refine zc2c zh fun x H1 I1 r1 q1 => ?_
 refine zc1b q1 fun i zr1 q => ?_
 obtain rfl:=zr1
 obtain ⟨t,rfl⟩:=r1
 exact ⟨some i,H1,I1,.int i t,q⟩
def rCatT (K:PySem.W.Frag):R2:=fun x y H Q => ∃ a b xs ys,x=.ref a∧y=.ref b∧SqT K H a xs∧SqT K H b ys∧xs ≠ []∧xs.length+ys.length≤sizeLine ∧
 (ys=[]→Q (.ref a) H)∧(ys ≠ []→∀ p,H p=none→Q (.ref p) (upd H p (.tup (xs++ys))))
theorem Vals.nil_iff {xs:List V}{us:List Value}(r:Vals xs us):us=[]↔xs=[]:=by
 cases r with
 | nil=>simp -iota
 | cons _ _=>simp -iota
theorem ziW:OpR X (binaryOp .Add) (rCatT X.K):=by
 intro pins s σ H x y v u Q I rx ry h
 refine zc4a h fun a b xs ys zz=>zc0e zz fun zr4 zr5 ha hb zz=>zc0d zz fun hx hz q1 q2 => ?_
 obtain rfl:=zr4
 obtain rfl:=zr5
 cases rx
 cases ry
 refine zc1c (I.tuple ha) fun its r1 p1 _ => ?_
 refine zc1c (I.tuple hb) fun its2 r2 p2 _ => ?_
 refine HT.cat_tup p1 p2 (fun z=>hx (r1.nil_iff.mp z)) (fun z=>⟨.ref a,H,I,rfl,q1 (r2.nil_iff.mp z)⟩) (fun z => ?_) (by rw [← r1.length,← r2.length];exact hz)
 refine ⟨.ref s.heap.objs.size,_,I.laid (t':=s.toks) (o:=.tup (xs++ys)) (fun b ob q=>Heap.get?_push_of_some _ q) (Nat.le_refl _) ?_,rfl,q2 (fun w=>z (r2.nil_iff.mpr w)) _ (I.hok.fresh (Nat.le_refl _))⟩
 exact ⟨⟨by rw [List.length_append];exact hz,⟨_,Heap.get?_push_size _ rfl,rfl⟩⟩,_,r1.append r2,IsTup.new _ _⟩
end
end L2
namespace L2
open PySem PySem.Spec PyProof.Rows
noncomputable def ixN (n:Nat)(i:Int):Option Nat:=if 0≤i then (if i<n then some i.toNat else none) else if -(n:Int)≤i then some (i+n).toNat else none
def atI {α : Type}(xs:List α)(i:Int):Option α := (ixN xs.length i).bind fun j=>xs[j]?
theorem zfY {n:Nat}{i:Int}{j:Nat}(h:ixN n i=some j):seqIndex? i n=some j∧j<n ∧ -(n:Int)≤i∧i<n:=by
 unfold ixN at h
 by_cases h0:0≤i
 ·rw [if_pos h0] at h
  by_cases h1:i<n
  ·rw [if_pos h1] at h
   have e:i.toNat=j:=Option.some.inj h
   exact ⟨by rw [seqIndex_of h0 h1,e],by omega,by omega,h1⟩
  ·rw [if_neg h1] at h;cases h
 ·rw [if_neg h0] at h
  by_cases h1 : -(n:Int)≤i
  ·rw [if_pos h1] at h
   have e:(i+n).toNat=j:=Option.some.inj h
   exact ⟨by rw [seqIndex_neg (by omega) h1,e],by omega,h1,by omega⟩
  ·rw [if_neg h1] at h;cases h
theorem zej {α : Type}{xs:List α}{i:Int}{v : α}(h:atI xs i=some v):∃ j,seqIndex? i xs.length=some j∧xs[j]? = some v∧j<xs.length ∧ -(xs.length:Int)≤i∧i<xs.length:=by
 unfold atI at h
 cases e:ixN xs.length i with
 | none=>rw [e] at h;cases h
 | some j =>
  rw [e] at h
  refine zc0d (zfY e) fun h1 h2 h3 h4 => ?_
  exact ⟨j,h1,h,h2,h3,h4⟩
noncomputable def zbN (b:Expr):Prop:=∀ o i,subscripted b false o i=operate [o,i] (getItem o i)
def IxR (X:Cx)(r:R2):Prop :=
 ∀ (value slice:Expr) (pins:List (Addr×Obj)) (s:Shared) (σ : St) (H:Hp) (x y:V) (v u:Value) (Q:VK),Inv X pins σ H s→RelV x v→RelV y u→r x y H Q →
  subscripted slice false v u=operate [v,u] (getItem v u)→wpAny (model X.prog X.w) X.A (subscriptTail value slice v u) (EP X pins σ Q) X.xe s
def MtR (X:Cx)(id:String)(r:V→List V→Hp→VK→Prop):Prop :=
 ∀ (pins:List (Addr×Obj)) (s:Shared) (σ : St) (H:Hp) (x:V) (xs:List V) (v:Value) (us:List Value) (Q:VK),Inv X pins σ H s→RelV x v→Vals xs us→r x xs H Q →
  wpAny (model X.prog X.w) X.A (call (.builtin id) (v::us)) (EP X pins σ Q) X.xe s
section
variable {X:Cx}{a b:Expr}{ta tb:TE}{pos:Pos}
theorem IxR.or {r r':R2}(h:IxR X r)(h':IxR X r'):IxR X (fun x y H Q=>r x y H Q∨r' x y H Q):=by
 intro value slice pins s σ H x y v u Q I rx ry q hs
 rcases q with q|q
 ·exact h value slice pins s σ H x y v u Q I rx ry q hs
 ·exact h' value slice pins s σ H x y v u Q I rx ry q hs
theorem zgj {r:R2}(hr:IxR X r)(ha:PE X a ta)(hb:PE X b tb)(hs:zbN b):PE X (.Subscript a b pos) (tOp r ta tb):=by
 intro pins s σ H Q I h
 exact Subscript_ (binT ha hb I h fun v u s2 x y H2 I2 rx ry q=>hr a b pins s2 σ H2 x y v u Q I2 rx ry q (hs _ _))
def rIxL (K:PySem.W.Frag):R2:=fun x y H Q => ∃ p xs i v,x=.ref p∧y=.int i∧SqL K H p xs∧atI xs i=some v∧Q v H
def rIxT (K:PySem.W.Frag):R2:=fun x y H Q => ∃ p xs i v,x=.ref p∧y=.int i∧SqT K H p xs∧atI xs i=some v∧Q v H
def rIxS:R2:=fun x y H Q => ∃ z i c,x=.str z∧y=.int i∧z.length≤sizeLine∧atI z.cps.toList i=some c∧Q (.str ⟨#[c]⟩) H
theorem zdy:IxR X (rIxL X.K):=by
 intro value slice pins s σ H x y v u Q I rx ry h hs
 refine zc4a h fun p xs i z zz=>zc0e zz fun zr4 zr5 hq he q => ?_
 obtain rfl:=zr4
 obtain rfl:=zr5
 cases rx
 obtain ⟨t,rfl⟩:=ry
 refine zc1c (I.list hq) fun its r pl hz => ?_
 refine zc1e (zej he) fun j h1 h2 h3 h4 h5 => ?_
 refine zc1b (r.get h2) fun w ew rw' => ?_
 have hl:=r.length
 have hn:=zcO
 have fin:EP X pins σ Q w s:=⟨z,H,I,rw',q⟩
 by_cases h0:0≤i
 ·have hj:i.toNat=j:=by
   rw [seqIndex_of h0 h5] at h1
   exact Option.some.inj h1
  exact item_listR pl.isList h0 (by omega) (by rw [hj];simpa -iota using ew) fin hs
 ·have hj:(i+(its.toArray.size:Int)).toNat=j:=by
   rw [seqIndex_neg (by omega) h4] at h1
   rw [List.size_toArray,← hl]
   exact Option.some.inj h1
  exact subscriptTail_builtinR (x:=w) pl.isList.typeIs slot_list_getitem.lookup
   (wpAny_getItem_list_neg (Q:=fun r s'=>r=w∧EP X pins σ Q r s') pl.isList (by omega) (by rw [List.size_toArray]<;>omega) (by omega) (by rw [hj];simpa -iota using ew) ⟨rfl,fin⟩) hs
theorem zlk:IxR X (rIxT X.K):=by
 intro value slice pins s σ H x y v u Q I rx ry h hs
 refine zc4a h fun p xs i z zz=>zc0e zz fun zr4 zr5 hq he q => ?_
 obtain rfl:=zr4
 obtain rfl:=zr5
 cases rx
 obtain ⟨t,rfl⟩:=ry
 refine zc1c (I.tuple hq) fun its r pl hz => ?_
 refine zc1e (zej he) fun j h1 h2 h3 h4 h5 => ?_
 refine zc1b (r.get h2) fun w ew rw' => ?_
 have hl:=r.length
 have hn:=zcO
 have fin:EP X pins σ Q w s:=⟨z,H,I,rw',q⟩
 exact subscriptTail_builtinR (x:=w) pl.typeIs slot_tuple_getitem.lookup
  (getItem_tuple (j:=j) (Q:=fun r s'=>r=w∧EP X pins σ Q r s') pl (by omega) (by omega) (by rw [List.size_toArray,← hl];exact h1) (by simpa -iota using ew) ⟨rfl,fin⟩) hs
theorem zlx:IxR X rIxS:=by
 intro value slice pins s σ H x y v u Q I rx ry h hs
 refine zc3a h fun z i c zz=>zc0e zz fun zr3 zr4 hz he q => ?_
 obtain rfl:=zr3
 obtain rfl:=zr4
 obtain ⟨t,rfl⟩:=rx
 obtain ⟨t',rfl⟩:=ry
 refine zc1e (zej he) fun j h1 h2 h3 h4 h5 => ?_
 have hl:z.cps.toList.length=z.length:=by simp -iota [Str.length]
 rw [hl] at h1 h4 h5
 have hn:=zcO
 exact tail_any (typeIs_str s z t) slot_str_getitem.lookup (getItem_str (c:=c) (by
  have e1:decide (i < -(2 ^ 63:Int))=false:=decide_eq_false (by omega)
  have e2:decide (i ≥ 2 ^ 63)=false:=decide_eq_false (by omega)
  rw [e1,e2,Bool.or_false]) (by rw [h1];simpa -iota using h2) ⟨.str ⟨#[c]⟩,H,I.tok _,⟨_,rfl⟩,q⟩) hs
def rIx (K:PySem.W.Frag):R2:=fun x y H Q=>rIxL K x y H Q∨rIxT K x y H Q∨rIxS x y H Q
theorem zkZ:IxR X (rIx X.K):=zdy.or (zlk.or zlx)
theorem zfm (its:List Value)(n j:Nat)(u:Value):Obj.mapSeq (·.setIfInBounds j u) { cls:=.type "list",data:=.seq its.toArray n }={ cls:=.type "list",data:=.seq (its.set j u).toArray n }:=by
 simp [Obj.mapSeq]
theorem Inv.lst {pins:List (Addr×Obj)}{σ : St}{H:Hp}{s:Shared}{p:Addr}{xs:List V}(I:Inv X pins σ H s)(h:H p=some (.lst xs)) :
 ∃ (its:List Value) (n:Nat),Vals xs its∧s.heap.get? p=some { cls:=.type "list",data:=.seq its.toArray n }∧xs.length≤sizeLine:=by
 refine zc0b (I.hok p _ h) fun z zz=>zc2b zz fun its n r e => ?_
 exact ⟨its,n,r,e,z⟩
theorem Inv.lstUpd {pins:List (Addr×Obj)}{σ : St}{H:Hp}{s:Shared}{p:Addr}{xs ys:List V}{its its':List Value}{n n':Nat}{f:Obj→Obj}(I:Inv X pins σ H s)(h:H p=some (.lst xs))
 (ho:s.heap.get? p=some { cls:=.type "list",data:=.seq its.toArray n }) (hf:f { cls:=.type "list",data:=.seq its.toArray n }={ cls:=.type "list",data:=.seq its'.toArray n' }) (r:Vals ys its') (hz:ys.length≤sizeLine) (t:Nat) :
 Inv X pins σ (upd H p (.lst ys)) { s with heap:=s.heap.update p f,toks:=t }:=by
 have e:(s.heap.update p f).get? p=some { cls:=.type "list",data:=.seq its'.toArray n' }:=by
  rw [Heap.get?_update_self f ho (by rw [hf]<;>rfl),hf]
 refine I.write (x:=p) (e:=p) (by rw [h];trivial) (.inl rfl) (fun b u hb q=>(Heap.get?_update_other _ _ (Ne.symm hb)).trans q) ⟨_,e⟩ ?_
 exact ⟨hz,its',n',r,e⟩
def rSetL:V→V→V→Hp→(Hp→Prop)→Prop:=fun o i v H Q => ∃ p xs k j,o=.ref p∧i=.int k∧H p=some (.lst xs)∧ixN xs.length k=some j∧Q (upd H p (.lst (xs.set j v)))
theorem zff:PSet X rSetL:=by
 intro pins s σ H o i v ov iv u Q I ro ri rv h
 refine zc4a h fun p xs k j zz=>zc0e zz fun zr4 zr5 hp hj q => ?_
 obtain rfl:=zr4
 obtain rfl:=zr5
 cases ro
 obtain ⟨t,rfl⟩:=ri
 refine zc2c (I.lst hp) fun its n r ho hz => ?_
 refine zc0d (zfY hj) fun h1 h2 h3 h4 => ?_
 have hl:=r.length
 have hn:=zcO
 have I':Inv X pins σ (upd H p (.lst (xs.set j v))) { s with heap:=s.heap.update p (Obj.mapSeq (·.setIfInBounds j u)) } :=
  I.lstUpd hp ho (zfm its n j u) (r.set rv j) (by rw [List.length_set];exact hz) s.toks
 by_cases h0:0≤k
 ·have hk:k.toNat=j:=by
   rw [seqIndex_of h0 h4] at h1
   exact Option.some.inj h1
  exact PySem.W.ki_setAt ho h0 (by omega) (by rw [List.size_toArray,← hl];exact h4) (by rw [hk];exact ⟨_,I',q⟩)
 ·have hk:(k+(its.toArray.size:Int)).toNat=j:=by
   rw [seqIndex_neg (by omega) h3] at h1
   rw [List.size_toArray,← hl]
   exact Option.some.inj h1
  exact PySem.W.ki_setBack ho (by omega) (by rw [List.size_toArray,← hl];exact h3) (by omega) (by rw [hk];exact ⟨_,I',q⟩)
theorem zdA:zas X (.builtin "len") (fun xs H Q => ∃ p ys,xs=[.ref p]∧(SqL X.K H p ys∨SqT X.K H p ys)∧Q (.int ys.length) H):=by
 intro pins s σ H xs us Q I r h
 refine zc2c h fun p ys zr2 hq q => ?_
 obtain rfl:=zr2
 refine zc1b (zcA r) fun u zr1 rx => ?_
 obtain rfl:=zr1
 cases rx
 have hn:=zcO
 rcases hq with hq|hq
 ·refine zc1c (I.list hq) fun its r' pl hz => ?_
  have hlen:=r'.length
  exact Calls.call_len_list pl.isList (by simp -iota only [List.size_toArray]<;>omega) ⟨.int ys.length,H,I.tok _,⟨s.toks+1,by rw [List.size_toArray,hlen]⟩,q⟩
 ·refine zc1c (I.tuple hq) fun its r' pl hz => ?_
  have hlen:=r'.length
  exact len_tuple pl (by simp -iota only [List.size_toArray]<;>omega) ⟨.int ys.length,H,I.tok _,⟨s.toks+1,by rw [List.size_toArray,hlen]⟩,q⟩
theorem zdC:zas X (.builtin "len") (fun xs H Q => ∃ z,xs=[.str z]∧z.length≤sizeLine∧Q (.int z.length) H):=by
 intro pins s σ H xs us Q I r h
 obtain ⟨z,rfl,hz,q⟩:=h
 obtain ⟨u,rfl,t,rfl⟩:=zcA r
 have hn:=zcO
 exact len_str (by omega) ⟨.int z.length,H,I.tok _,⟨_,rfl⟩,q⟩
theorem zas.or {f:Value}{r r':List V→Hp→VK→Prop}(h:zas X f r)(h':zas X f r'):zas X f (fun xs H Q=>r xs H Q∨r' xs H Q):=by
 intro pins s σ H xs us Q I rs q
 rcases q with q|q
 ·exact h pins s σ H xs us Q I rs q
 ·exact h' pins s σ H xs us Q I rs q
theorem zdR:zas X (.type "list") (fun xs H Q => ∃ p ys,xs=[.ref p]∧(SqL X.K H p ys∨SqT X.K H p ys)∧∀ l,H l=none→Q (.ref l) (upd H l (.lst ys))):=by
 intro pins s σ H xs us Q I r h
 refine zc2c h fun p ys zr2 hq q => ?_
 obtain rfl:=zr2
 refine zc1b (zcA r) fun u zr1 rx => ?_
 obtain rfl:=zr1
 cases rx
 have fin:∀ (its:List Value),Vals ys its→ys.length≤sizeLine→∀ (h':Heap) (c':Nat),(∀ b o',s.heap.get? b=some o'→h'.get? b=some o') →
  h'.get? s.heap.objs.size=some { cls:=.type "list",dict:=none,data:=.seq its.toArray c',slots:=#[] }→EP X pins σ Q (.ref s.heap.objs.size) { s with heap:=h' }:=fun its r' hz h' c' kp e =>
  ⟨.ref s.heap.objs.size,_,I.laid (t':=s.toks) kp (Nat.le_refl _) (show zaI X.prog X.w _ h' _ (.lst ys) from ⟨hz,its,c',r',e⟩),rfl,q _ (I.hok.fresh (Nat.le_refl _))⟩
 rcases hq with hq|hq
 ·refine zc1c (I.list hq) fun its r' pl hz => ?_
  have hlen:=r'.length
  refine zc1c pl.isList fun o ho hc zz=>zc1a zz fun n hd => ?_
  exact call_list_seq p (.inl rfl) ho hc hd (fun h' c' kp e=>fin its r' hz h' c' kp e) (by simp -iota only [List.size_toArray]<;>omega)
 ·refine zc1c (I.tuple hq) fun its r' pl hz => ?_
  have hlen:=r'.length
  refine zc1c pl fun o ho hc zz=>zc1a zz fun n hd => ?_
  exact call_list_seq p (.inr rfl) ho hc hd (fun h' c' kp e=>fin its r' hz h' c' kp e) (by simp -iota only [List.size_toArray]<;>omega)
theorem zdm:zas X (.type "tuple") (fun xs H Q => ∃ p ys,xs=[.ref p]∧((SqL X.K H p ys∧∀ l,H l=none→Q (.ref l) (upd H l (.tup ys)))∨(SqT X.K H p ys∧Q (.ref p) H))):=by
 intro pins s σ H xs us Q I r h
 obtain ⟨p,ys,rfl,h⟩:=h
 obtain ⟨u,rfl,rx⟩:=zcA r
 cases rx
 rcases h with ⟨hq,q⟩|⟨hq,q⟩
 ·obtain ⟨its,r',pl,hz⟩:=I.list hq
  have hlen:=r'.length
  refine call_tuple_list pl.isList (fun h' kp => ?_) (by simp -iota only [List.size_toArray]<;>omega)
  have I1:Inv X pins σ H { s with heap:=h' }:=I.kept (t':=s.toks) kp
  have I2:Inv X pins σ (upd H h'.objs.size (.tup ys)) { s with heap:=h'.push { cls:=.type "tuple",data:=.seq its.toArray } } :=
   I1.laid (t':=s.toks) (fun b o e=>Heap.get?_push_of_some _ e) (Nat.le_refl _) (show zaI X.prog X.w _ _ _ (.tup ys) from ⟨⟨hz,⟨_,Heap.get?_push_size _ rfl,rfl⟩⟩,its,r',IsTup.new _ _⟩)
  exact ⟨.ref h'.objs.size,_,I2,rfl,q _ (I1.hok.fresh (Nat.le_refl _))⟩
 ·obtain ⟨its,r',pl,hz⟩:=I.tuple hq
  exact call_tuple_same pl ⟨.ref p,H,I,rfl,q⟩
def tyV (K:PySem.W.Frag)(T:String)(x:V)(H:Hp):Prop:=match x with
 | .str _=>T = "str"
 | .int _=>T = "int"
 | .ref p=>(T = "list" ∧ ∃ xs,SqL K H p xs)∨(T = "tuple" ∧ ∃ o,K.lookup p=some o∧o.cls=.type "tuple" ∧ o.dict=none) ∨
  (T = "dict" ∧ ((∃ kvs,H p=some (.dK kvs))∨∃ kvs,H p=some (.dT kvs)))∨(T = "set" ∧ ∃ S n,H p=some (.set S n))
 | _=>False
theorem zkL {pins:List (Addr×Obj)}{σ : St}{H:Hp}{s:Shared}{T:String}{x:V}{v:Value}(I:Inv X pins σ H s)(r:RelV x v)(ty:tyV X.K T x H) :
 s.TypeIs v T∧∀ a,v=.ref a→∃ ob,s.heap.get? a=some ob∧ob.dict=none:=by
 cases x with
 | str z =>
  obtain ⟨t,rfl⟩:=r
  cases (show T = "str" from ty)
  exact ⟨typeIs_str s z t,fun _ e=>nomatch e⟩
 | int i =>
  obtain ⟨t,rfl⟩:=r
  cases (show T = "int" from ty)
  exact ⟨typeIs_int s i t,fun _ e=>nomatch e⟩
 | ref p =>
  cases r
  rcases ty with ⟨rfl,xs,hq⟩|⟨rfl,o,hk,hc,hd⟩|⟨rfl,hk⟩|⟨rfl,S,n,hk⟩
  ·refine zc1c (I.list hq) fun its _ pl _ => ?_
   refine ⟨pl.isList.typeIs,fun a e => ?_⟩
   cases e
   refine zc2d pl fun o n e c hd _ => ?_
   exact ⟨o,e,hd⟩
  ·refine ⟨⟨o,I.kIn p o hk,hc⟩,fun a e => ?_⟩
   cases e
   exact ⟨o,I.kIn _ o hk,hd⟩
  ·have z:∃ o,s.heap.get? p=some o∧o.ExactDict:=by
    rcases hk with ⟨kvs,hk⟩|⟨kvs,hk⟩
    ·refine zc0c (I.hok p _ hk) fun _ _ zz=>zc1b zz fun _ _ zz=>zc3c zz fun o _ _ e ex _ => ?_
     exact ⟨o,e,ex⟩
    ·refine zc0c (I.hok p _ hk) fun _ _ zz=>zc1b zz fun _ _ zz=>zc3c zz fun o _ _ e ex _ => ?_
     exact ⟨o,e,ex⟩
   refine zc1b z fun o e ex => ?_
   refine ⟨⟨o,e,ex.1⟩,fun a e2 => ?_⟩
   cases e2
   exact ⟨o,e,ex.2.1⟩
  ·refine zc4a (I.hok p _ hk) fun o _ _ _ zz=>zc0c zz fun e ex _ => ?_
   refine ⟨⟨o,e,ex.1⟩,fun a e2 => ?_⟩
   cases e2
   exact ⟨o,e,ex.2.1⟩
 | _=>exact False.elim ty
def tBM (K:PySem.W.Frag)(T:String)(r:V→List V→Hp→VK→Prop)(to:TE)(t:TA):TE:=fun σ H Q=>to σ H fun x H1=>tyV K T x H1∧t σ H1 fun xs H2=>r x xs H2 Q
variable {o e:Expr}{es:List Expr}{to:TE}{t:TA}{name:Str}{apos cpos:Pos}{T id:String}{r:V→List V→Hp→VK→Prop}
theorem zdd (pa:PlainAttrs T)(slot:Slot T name id)(hty:typeOf (.builtin id)=pure (.type "method_descriptor"))(hm:MtR X id r)(ho:PE X o to)(ha:PA X (e::es) t)
 (hbase:autoParam (attributeBase o name X.env (eval o X.env)=eval o X.env) zau._auto_1)
 (hfew:((backTo cpos (starEach (e::es) X.env)).all (fun x => !x.1)&&(backToKw cpos (keywordEach [] X.env)).all (fun x=>x.1.isSome)
  && decide ((e::es).length+([]:List Keyword).length+(if ([]:List Keyword).isEmpty then 0 else 1)<30))=true:=by rfl)
 (hline:autoParam ((apos.endLine == cpos.line)=true) zau._auto_1) (hs:autoParam (starEach (e::es) X.env=(false,eval e X.env)::starEach es X.env) zau._auto_1) (hplain:autoParam ((backTo cpos (starEach es X.env)).any (·.1)=false) zau._auto_1) :
 PE X (.Call (.Attribute o name apos) (e::es) [] cpos) (tBM X.K T r to t):=by
 intro pins s σ H Q I h
 refine wpAny_Call_method_late hbase hfew hline rfl (thn (ho pins s σ H _ I h) fun v s1 zh => ?_)
 refine zc2d zh fun x H1 I1 r1 ty q1 => ?_
 obtain ⟨h1,h2⟩:=zkL I1 r1 ty
 refine ⟨T,id,pa,slot,hty,h1,h2,?_⟩
 have hA:=ha cpos pins s1 σ H1 _ I1 q1
 rw [hs] at hA ⊢
 refine Calls.callWith_builtin (by show (false||(backTo cpos (starEach es X.env)).any (·.1))=false;rw [hplain]<;>rfl) (Calls.evalArgs_plain ?_)
 exact thn hA (by rintro us s2 ⟨vs,H2,I2,r2,q2⟩;exact hm pins s2 σ H2 x vs v us Q I2 r1 r2 q2)
end
end L2
namespace L2
open PySem PySem.Spec PyProof.Rows
def MtM (X:Cx)(id:String)(r:V→List V→Hp→VK→Prop):Prop :=
 ∀ (pins:List (Addr×Obj)) (s:Shared) (σ : St) (H:Hp) (x:V) (xs:List V) (v:Value) (us:List Value) (Q:VK),Inv X pins σ H s→RelV x v→Vals xs us→r x xs H Q →
  wpAny (model X.prog X.w) X.A (call (.builtin id) (v::us)) (EP X pins σ Q) X.xe s
theorem Vals.one:∀ {x:V} {us:List Value},Vals [x] us→∃ u,us=[u]∧RelV x u:=fun h=>by
 cases h with
 | cons r t=>cases t;exact ⟨_,rfl,r⟩
section
variable {X:Cx}{pins:List (Addr×Obj)}{σ : St}{H:Hp}{s:Shared}{l b:Addr}{xs ys zs:List V}
theorem Inv.lset {its its':List Value}{n:Nat}{f:Array Value→Array Value}{t':Nat}(I:Inv X pins σ H s)(hH:H l=some (.lst xs))
 (e:s.heap.get? l=some { cls:=.type "list",data:=.seq its.toArray n }) (hf:f its.toArray=its'.toArray) (hv:Vals ys its') (hz:ys.length≤sizeLine) :
 Inv X pins σ (upd H l (.lst ys)) { s with heap:=s.heap.update l (Obj.mapSeq f),toks:=t' }:=by
 have q:=PySem.IsL.update e f
 rw [hf] at q
 refine I.write (x:=l) (e:=l) (by rw [hH];exact trivial) (.inl rfl) (fun b' u hb hu=>(Heap.get?_update_other s.heap (Obj.mapSeq f) (Ne.symm hb)).trans hu) ⟨_,q⟩ ?_
 exact ⟨hz,its',_,hv,q⟩
theorem Inv.lnew {its:List Value}{t':Nat}(I:Inv X pins σ H s)(hv:Vals ys its)(hz:ys.length≤sizeLine) :
 Inv X pins σ (upd H s.heap.objs.size (.lst ys)) { s with heap:=s.heap.push { cls:=.type "list",data:=.seq its.toArray },toks:=t' } :=
 I.laid (fun _ _ q=>Heap.get?_push_of_some _ q) (Nat.le_refl _) ⟨hz,its,0,hv,Heap.get?_push_size _ rfl⟩
theorem Inv.fresh (I:Inv X pins σ H s):H s.heap.objs.size=none:=I.hok.fresh (Nat.le_refl _)
theorem Inv.lstM (I:Inv X pins σ H s)(hH:H l=some (.lst xs)):xs.length≤sizeLine∧∃ (its:List Value) (n:Nat),Vals xs its∧xs.length=its.length∧s.heap.get? l=some { cls:=.type "list",data:=.seq its.toArray n }:=by
 refine zc0b (I.hok l _ hH) fun z zz=>zc2b zz fun its n r e => ?_
 exact ⟨z,its,n,r,r.length,e⟩
end
section
variable {X:Cx}
def zdn:V→List V→Hp→VK→Prop:=fun x vs H Q => ∃ l xs y,x=.ref l∧vs=[y]∧H l=some (.lst xs)∧xs.length<sizeLine∧Q .non (upd H l (.lst (xs++[y])))
theorem za7:MtM X "list.append" zdn:=by
 intro pins s σ H x vs v us Q I rx rv h
 obtain ⟨l,xs,y,rfl,rfl,hH,hz,q⟩:=h
 cases rx
 obtain ⟨u,rfl,ru⟩:=rv.one
 obtain ⟨z,its,n,r,hl,e⟩:=I.lstM hH
 refine call_meets F.slot_list_append ⟨_,e,rfl⟩ F.entry_list_append (F.args_list_append_2 _ _) (PySem.list_append l its.toArray n u (by rw [List.size_toArray];omega)) ⟨e,?_⟩
 refine ⟨.non,_,I.lset (its':=its++[u]) hH e (by simp -iota) (r.append (.cons ru .nil)) ?_,rfl,q⟩
 rw [List.length_append,List.length_singleton]
 omega
end
section
variable {prog:Program}{w:World}{A:Around}{E:Value→Shared→Prop}{s:Shared}
set_option maxRecDepth 100000 in
end
end L2
namespace L2
open PySem PySem.Spec PyProof.Rows
section
variable {κ : Type}[DecidableEq κ]
noncomputable def valV (kvs:List (κ × V))(k : κ):Option V:=(kvs.find? fun kv=>decide (kv.1=k)).map (·.2)
theorem zeN {p : κ × V}{r:List (κ × V)}{k : κ}(e:p.1=k):valV (p::r) k=some p.2:=by simp -iota [valV,List.find?_cons,e]
theorem zeS {p : κ × V}{r:List (κ × V)}{k : κ}(e:¬ p.1=k):valV (p::r) k=valV r k:=by simp -iota [valV,List.find?_cons,e]
theorem KV.val {kvs:List (κ × V)}{vs:List (κ × Value)}(r:KV kvs vs)(k : κ):RelO (valV kvs k) (valueAt vs k):=by
 unfold KV at r
 induction r with
 | nil=>exact True.intro
 | @cons p q ps qs h t ih =>
  obtain ⟨h1,h2⟩:=h
  by_cases e:p.1=k
  ·have e':q.1=k:=h1.symm.trans e
   have b:valueAt (q::qs) k=some q.2:=by simp -iota [valueAt,List.find?_cons,e']
   rw [zeN e,b];exact h2
  ·have e':¬ q.1=k:=fun z=>e (h1.trans z)
   have b:valueAt (q::qs) k=valueAt qs k:=by simp -iota [valueAt,List.find?_cons,e']
   rw [zeS e,b];exact ih
theorem KV.length {kvs:List (κ × V)}{vs:List (κ × Value)}(r:KV kvs vs):kvs.length=vs.length:=Paired.length r
end
theorem zl3 {P:Program}{w:World}{k:Key}{u:Value}(r:RelV (kV k) u):(zaS P w).is k u=true:=by
 cases k with
 | inl i=>obtain ⟨t,e⟩:=(show ∃ t,u=Value.int i t from r);subst e;exact zev P w i t
 | inr x=>obtain ⟨t,e⟩:=(show ∃ t,u=Value.str x t from r);subst e;exact ze2 P w x t
theorem zdW {P:Program}{w:World}:∀ {ks:List Key} {us:List Value},Vals (ks.map kV) us→ItemsAre (zaS P w) ks us
 | [],_,r=>by rw [List.map_nil] at r;cases r;exact .nil
 | k::ks,_,r=>by
  rw [List.map_cons] at r
  cases r with
  | cons h t=>exact .cons (zl3 h) (zdW t)
abbrev KT (H:Hp):List (List Key×V)→List (List Key×Addr×Value)→Prop:=Paired fun p q=>p.1=q.1∧H q.2.1=some (.tup (p.1.map kV))∧RelV p.2 q.2.2
theorem KT.val {H:Hp}{kvs:List (List Key×V)}{xs:List (List Key×Addr×Value)}(r:KT H kvs xs)(k:List Key):RelO (valV kvs k) ((atKey xs k).map (·.2)):=by
 induction r with
 | nil=>exact True.intro
 | @cons p q ps qs h t ih =>
  refine zc0c h fun h1 _ h2 => ?_
  by_cases e:p.1=k
  ·have e':q.1=k:=h1.symm.trans e
   have b:atKey (q::qs) k=some q.2:=by simp -iota [atKey,List.find?_cons,e']
   rw [zeN e,b];exact h2
  ·have e':¬ q.1=k:=fun z=>e (h1.trans z)
   have b:atKey (q::qs) k=atKey qs k:=by simp -iota [atKey,List.find?_cons,e']
   rw [zeS e,b];exact ih
section
variable {P:Program}{w:World}{H:Hp}{h:Heap}{a:Addr}
theorem zlv {u:HO}(ok:HOk P w H h)(e:Rd H a u):zaI P w H h a u:=e.ok ok
theorem zky {kvs:List (Key×V)}(ok:HOk P w H h)(e:Rd H a (.dK kvs)):kvs.length≤sizeLine∧(a == sysModules)=false∧∃ vs,KV kvs vs∧h.DictOf (zaS P w) a vs :=
 show zaI P w H h a (.dK kvs) from zlv ok e
theorem zi8 {ks:List Key}(ok:HOk P w H h)(e:H a=some (.tup (ks.map kV))):(tupleKind (zaS P w)).is h ks a:=by
 refine zc0b ((show zaI P w H h a (.tup (ks.map kV)) from ok a _ e)) fun _ zz=>zc1b zz fun its r zz=>zc1c zz fun o h1 h2 zz=>zc1a zz fun n h3 => ?_
 exact ⟨o,its.toArray,n,h1,h2,h3,by simpa -iota using zdW r⟩
theorem zl0 {kvs:List (List Key×V)}(ok:HOk P w H h)(e:Rd H a (.dT kvs)):kvs.length≤sizeLine∧(a == sysModules)=false ∧
 ∃ xs,KT H kvs xs∧h.DictOfH (tupleKind (zaS P w)) a xs:=by
 refine zc0c ((show zaI P w H h a (.dT kvs) from zlv ok e)) fun z y zz=>zc1b zz fun xs r zz=>zc3a zz fun o es ep zz=>zc0e zz fun h1 h2 h3 h4 h5 => ?_
 refine ⟨z,y,xs,r,o,es,ep,h1,h2,h3,h4,fun x hx => ?_,h5⟩
 have all:∀ {l:List (List Key×V)} {m:List (List Key×Addr×Value)},KT H l m→∀ x∈m,(tupleKind (zaS P w)).is h x.1 x.2.1:=by
  intro l m q
  induction q with
  | nil=>intro x hx;exact nomatch hx
  | @cons p q ps qs hq t ih =>
   intro x hx
   rcases List.mem_cons.mp hx with e|hx
   ·subst e
    exact zi8 ok (by rw [← hq.1];exact hq.2.1)
   ·exact ih x hx
 exact all r x hx
end
def DGet (H:Hp)(a:Addr)(y:V)(r:Option V):Prop :=
 (∃ kvs k,Rd H a (.dK kvs)∧y=kV k∧r=valV kvs k)∨∃ kvs k b,Rd H a (.dT kvs)∧y=.ref b∧H b=some (.tup (k.map kV))∧r=valV kvs k
theorem DGet.k {H:Hp}{a:Addr}{kvs:List (Key×V)}{k:Key}(e:H a=some (.dK kvs)):DGet H a (kV k) (valV kvs k):=.inl ⟨kvs,k,.inl e,rfl,rfl⟩
section
variable {X:Cx}{pins:List (Addr×Obj)}{σ : St}{H:Hp}{s:Shared}{a:Addr}{y v:V}{u r:Value}{o:Option V}{A:Around}{E:Value→Shared→Prop}
theorem zhk {Q:Value→Shared→Prop}(hu:A.units+1<cLine)(I:Inv X pins σ H s)(g:DGet H a y (some v))(ry:RelV y u)(h:∀ w' s',Inv X pins σ H s'→RelV v w'→Q w' s') :
 wpAny (model X.prog X.w) A (getItem (.ref a) u) Q E s:=by
 rcases g with ⟨kvs,k,e,ey,l⟩|⟨kvs,k,b,e,ey,eb,l⟩
 ·subst ey
  refine zc0c (zky I.hok e) fun z hd zz=>zc1b zz fun vs rel dd => ?_
  refine zc1b (RelO.some_of (v:=v) (o:=valueAt vs k) (by rw [l];exact rel.val k)) fun w' hw rw' => ?_
  exact wpAny_getItem_of (zl3 ry) dd.mapOf hw (h w' _ (I.tok _) rw')
 ·subst ey
  cases (show u=Value.ref b from ry)
  refine zc0c (zl0 I.hok e) fun z hd zz=>zc1b zz fun xs rel dd => ?_
  refine zc1b (RelO.some_of (v:=v) (o:=(atKey xs k).map (·.2)) (by rw [l];exact rel.val k)) fun w' hw rw' => ?_
  refine zc1b (Option.map_eq_some_iff.mp hw) fun p hp hp2 => ?_
  refine wpAny_getItem_heap (tupleKind_room_in1 hu) (zi8 I.hok eb) dd hp ?_
  rw [hp2]
  exact h w' _ (I.tok _) rw'
end
section
variable {X:Cx}{pins:List (Addr×Obj)}{σ : St}{H:Hp}{s:Shared}{a:Addr}{kvs:List (Key×V)}{k:Key}{u:Value}{A:Around}{E:Value→Shared→Prop}
theorem d_len {Q:Value→Shared→Prop}(I:Inv X pins σ H s)(e:Rd H a (.dK kvs))(h:∀ t s',Inv X pins σ H s'→Q (.int kvs.length t) s'):wpAny (model X.prog X.w) A (call (.builtin "len") [.ref a]) Q E s:=by
 obtain ⟨z,hd,vs,rel,dd⟩:=zky I.hok e
 refine call_len_dict hd dd (by rw [← rel.length];rw [sizeLine_eq] at z;omega) ?_
 rw [← rel.length]
 exact h _ _ (I.tok _)
end
noncomputable def NoSl (i:Expr):Prop:=∀ ov iv,subscripted i false ov iv=operate [ov,iv] (getItem ov iv)
theorem ziT {prog:Program}{w:World}{A:Around}{E:Value→Shared→Prop}{s:Shared}{env:Env}{value slice:Expr}{pos:Pos}{T id:String}{Q:Value→Shared→Prop}
 (hl:typeLookup (.type T) "__getitem__" = pure (some (.builtin id))) (hs:NoSl slice)
 (h:wpAny (model prog w) A (eval value env) (fun o s₁=>wpAny (model prog w) A (eval slice env) (fun i s₂=>s₂.TypeIs o T∧wpAny (model prog w) A (getItem o i) Q E s₂) E s₁) E s) :
 wpAny (model prog w) A (eval (.Subscript value slice pos) env) Q E s:=by
 refine Subscript_ (wpAny_mono h (fun o s₁ h₁=>wpAny_mono h₁ (fun i s₂ h₂ => ?_) fun _ _ x=>x) fun _ _ x=>x)
 obtain ⟨hT,h₂⟩:=h₂
 unfold subscriptTail
 refine wpAny_bind ?_
 rw [getitemInPython_of_ne hT.not_modules]
 refine wpAny_bind (wpAny_specialOf hT hl ?_)
 have fin:wpAny (model prog w) A (subscripted slice false o i) (fun r s₃=>wpAny (model prog w) A (letTemporaryGo value o r >>= fun _=>pure r) Q E s₃) E s₂:=by
  rw [hs o i]
  exact wpAny_operating (wpAny_mono h₂ (fun r s₃ h₃=>wpAny_bind (wpAny_letTemporaryGo (wpAny_pure h₃))) fun _ _ x=>x)
 first
  | exact wpAny_pure (wpAny_bind fin)
  | exact wpAny_bind (wpAny_pure (wpAny_bind fin))
  | exact wpAny_bind fin
theorem zem {X:Cx}{pins:List (Addr×Obj)}{σ : St}{H:Hp}{s:Shared}{a:Addr}{y:V}{o:Option V}(I:Inv X pins σ H s)(g:DGet H a y o):s.TypeIs (.ref a) "dict" := by
 rcases g with ⟨kvs,k,e,_,_⟩|⟨kvs,k,b,e,_,_,_⟩
 ·refine zc0c (zky I.hok e) fun _ _ zz=>zc1b zz fun vs _ dd => ?_
  exact dd.typeIs
 ·refine zc0c (zl0 I.hok e) fun _ _ zz=>zc1b zz fun xs _ dd => ?_
  exact dd.typeIs
def tDGet (td ty:TE):TE:=fun σ H Q=>td σ H fun x H1=>ty σ H1 fun y H2 => ∃ a v,x=.ref a∧DGet H2 a y (some v)∧Q v H2
section
variable {X:Cx}{o i e value:Expr}{pos pos' tpos:Pos}{td ty tv:TE}
theorem zhj (hu:X.A.units+1<cLine)(ho:PE X o td)(hi:PE X i ty)(hs:NoSl i):PE X (.Subscript o i pos) (tDGet td ty):=by
 intro pins s σ H Q I h
 refine ziT PySem.F.slot_dict_getitem.lookup hs (thn (ho pins s σ H _ I h) fun u s1 ⟨x,H1,I1,rx,q1⟩=>thn (hi pins s1 σ H1 _ I1 q1) fun iv s2 zh => ?_)
 refine zc2c zh fun y H2 I2 ry zz=>zc2c zz fun a v ex g q2 => ?_
 subst ex
 obtain rfl:u=Value.ref a:=rx
 exact ⟨zem I2 g,zhk hu I2 g ry fun w' s3 I3 rw'=>⟨v,H2,I3,rw',q2⟩⟩
end
end L2
namespace Att
open PySem PySem.W PySem.Calls PyProof.Rows
theorem zc2 {P:Params}{h:Heap}:∀ (ns:List Int) (vs:List Value),WellAll P h vs (ns.map WData.int)→IntsAre vs ns:=by
 intro ns
 induction ns with
 | nil =>
  intro vs w
  rw [List.map_nil] at w
  cases w
  exact .nil
 | cons n ns ih =>
  intro vs w
  rw [List.map_cons] at w
  cases w with
  | cons a b =>
   cases a
   exact .cons _ _ (ih _ b)
theorem zhr {l:OpenLaw}{n:Nat}(hn:l.most=some n){P:Params}{h:Heap}{args:List WData}{vals:List Value}
 (hpre:l.row.toRowW.claim.pre args=true) (hwl:WellAll P h vals args) :
 ∃ a vs ns,vals=[Value.ref a]∧args=[WData.list (ns.map WData.int)]∧h.get? a=some { cls:=.type "list",data:=.seq vs.toArray }∧IntsAre vs ns∧ns.length≤n:=by
 have hsh:WShape.hasAll [] args [.list .int]=true:=(pre_splitW hpre).1
 have hc:l.pre.holds [] { args:=args }=true:=(pre_splitW hpre).2
 refine zc2c (hasAllW_cons hsh) fun d r zr2 h1 h2 => ?_
 obtain rfl:=zr2
 obtain rfl:=hasAllW_nil h2
 refine zc1b (hasW_list h1) fun xs zr1 h3 => ?_
 obtain rfl:=zr1
 obtain ⟨ns,rfl⟩:=items_int h3
 have hlen:ns.length≤n:=by
  unfold OpenLaw.pre at hc
  have h4:(WTm.not (.lt (.lit (.int (n:Int))) (.len (.arg 0)))).holds [] { args:=[.list (ns.map .int)] }=true:=by
   have h4:=(holds_andW hc).1
   rw [hn] at h4
   exact h4
  have h5:=condW_of h4 (w_not (w_lt w_lit (w_len_list (w_arg rfl))))
  rw [List.length_map] at h5
  refine Nat.le_of_not_lt fun q => ?_
  have q':(n:Int)<((ns.length:Nat):Int):=by omega
  first
   | (rw [decide_eq_true q'] at h5;exact absurd h5 (by decide))
   | (simp -iota at h5;omega)
 cases hwl with
 | cons w1 w2 =>
  cases w2
  cases w1 with
  | list ho hall=>exact ⟨_,_,ns,rfl,rfl,ho,zc2 ns _ hall,hlen⟩
theorem zgl (l:OpenLaw)(args:List WData):l.row.toRowW.claim.post args (.bool true) args=true :=
 postW_of (r:=l.row.toRowW) (X:=(true == true))
  (show WShape.has [] (.bool true) .bool=true by first|rfl|decide|simp -iota [WShape.has,WShape.arms,WShape.armsAll])
  (show (WTm.eq .res (.lit (.bool true))).value [] { args:=args,res:=some (.bool true),after:=args }=some (.bool (true == true)) from w_eq_bool (w_res rfl) w_lit) rfl
theorem attach_call {l:OpenLaw}{n:Nat}{q:Program}{loose:List Str}{XP:(Str→Option Value)→Heap→Prop}{YP:World→Heap→Prop}{d:DefRec}
 (hn:l.most=some n) (hdf:d.params.defaults=[])
 (call:∀ (w:World) (s₀ s₁:Shared) (mg mb:Str→Option Value) (fa:Addr) (o:Obj) (pm cd doc:Value) (a:Addr) (vs:List Value) (ns:List Int),
  Ground q loose [] XP w s₀ mg mb s₁.heap→YP w s₁.heap →
  s₁.heap.get? fa=some o→o.data=.func (docDef d.name d.params d.body d.scope pm cd doc)→s₁.heap.CodeRec cd d.name→mg d.name=some (.ref fa) →
  s₁.heap.get? a=some { cls:=.type "list",data:=.seq vs.toArray }→IntsAre vs ns→ns.length≤n→s₁.gens = #[] →
  codeAny (model l.prog w) callerA (.call (.ref fa) ⟨[.ref a],[]⟩) (fun r s'=>r=.ok (.ret (.bool true))∧OldK s₁.heap s'.heap∧s'.os=s₁.os∧AllBare s'.gens) s₁) :
 WalkO q loose XP YP l.row.toRowW d [] (fun f vs=>PySem.call f vs):=by
 intro w s₀ s₁ mg mb G Y fa o pm cd doc dV kV ho hd hcd hD hmg hg args vals as hpre hlay hrd hwl hlo
 obtain rfl:dV=.none:=Dflts.none hD hdf
 obtain rfl:kV=.none:=Dflts.noKw hD
 refine zc3a (zhr hn hpre hwl) fun a vs ns zz=>zc0e zz fun zr3 zr4 hobj hints hlen => ?_
 obtain rfl:=zr3
 obtain rfl:=zr4
 refine enter_call (codeAny_mono (call w s₀ s₁ mg mb fa o pm cd doc a vs ns G Y ho (fd_plain hd) hcd hmg hobj hints hlen hg) fun r s' hq => ?_)
 refine zc0d hq fun zr0 h2 h3 h4 => ?_
 obtain rfl:=zr0
 exact ⟨.inl ⟨.bool true,.bool true,[],rfl,fun _=>rfl,.bool true,zgl l _,fun _=>⟨List.Pairwise.nil,fun _ hm=>(nomatch hm)⟩⟩,h2,h3,h4⟩
end Att
namespace L2
open PySem PySem.Spec PyProof.Rows
theorem zfS:∀ {vs:List Value} {ns:List Int},IntsAre vs ns→Vals (ns.map V.int) vs:=fun h=>by
 induction h with
 | nil=>exact .nil
 | cons n t _ ih=>exact .cons ⟨t,rfl⟩ ih
noncomputable def Only (H:Hp):Prop:=∀ b,H b=none∨∃ o xs,H b=some (.frz o (.lst xs))
theorem ziu {P:Program}{w:World}{K:PySem.W.Frag}{mg mb:Str→Option Value}{CX:CXT}{k:Nat}{fa a:Addr}{fd:FuncData}{x:Str}{sp:Sp}{s₁:Shared}{vs:List Value}{ns:List Int}
 (KX:K.In s₁.heap) (hns:s₁.heap.Ns mainGlobals mg) (hb:s₁.heap.Ns builtinsNs mb) (hbb:∀ x:Str,x ≠ "__name__" → mb x=bootBuiltins x) (hlim:s₁.heap.NoLimit) (hg:s₁.gens = #[])
 (ha:s₁.heap.get? a=some { cls:=.type "list",data:=.seq vs.toArray }) (hi:IntsAre vs ns) (hl:ns.length≤sizeLine) (hr:Room k callerA)
 (F:∀ base:Heap,K.In base→base.Ns mainGlobals mg→FnOk P w K mg base CX k fa fd [x] sp) (hbind:∀ (s:Shared) (u:Value),BindsTo s fd ⟨[u],[]⟩ [(x,u)])
 (hsp:∀ H:Hp,Only H→SqL K H a (ns.map V.int)→sp [.ref a] H (fun v _=>v=.bl true) fun _ _ _=>False)
 (hCX:∀ H e s',CX [] H s₁ (fun _ _ _=>False) e s'→False) :
 codeAny (model P w) callerA (.call (.ref fa) ⟨[.ref a],[]⟩) (fun r s'=>r=.ok (.ret (.bool true))∧OldK s₁.heap s'.heap∧s'.os=s₁.os∧AllBare s'.gens) s₁:=by
 have rv:=zfS hi
 have lenV:=hi.length
 have core:∀ H:Hp,Only H→SqL K H a (ns.map V.int)→HOk P w H s₁.heap→(∀ b,H b≠none→b=a)→(H a≠none→K.lookup a=none) →
  codeAny (model P w) callerA (.call (.ref fa) ⟨[.ref a],[]⟩) (fun r s'=>r=.ok (.ret (.bool true))∧OldK s₁.heap s'.heap∧s'.os=s₁.os∧AllBare s'.gens) s₁:=by
  intro H hO hS hok hA hK
  have base_of:∀ {b:Addr} {o:Obj},s₁.heap.get? b=some o→H b=none→(hidT s₁.heap H).get? b=some o:=fun e n=>zio e n
  have noA:∀ {b:Addr} {o:Obj} {es:Array DictEntry} {ep:Nat},s₁.heap.get? b=some o→o.data=.dict es ep→H b=none:=fun {b o es ep} e d=>by
   cases q:H b with
   | none=>rfl
   | some u =>
    have e':b=a:=hA b (by rw [q];simp -iota)
    subst e'
    rw [ha] at e;cases e
    have d':Data.seq vs.toArray _=Data.dict es ep:=d
    cases d'
  have nsK:∀ {b:Addr} {m:Str→Option Value},s₁.heap.Ns b m→(hidT s₁.heap H).Ns b m:=fun {b m} ⟨o,es,ep,e,d,r⟩=>⟨o,es,ep,base_of e (noA e d),d,r⟩
  have hKb:K.In (hidT s₁.heap H):=fun b o e=>base_of (KX b o e) (by
   cases q:H b with
   | none=>rfl
   | some u =>
    have e':b=a:=hA b (by rw [q];simp -iota)
    subst e'
    rw [hK (by rw [q];simp -iota)] at e;cases e)
  have hM:Mod K mg (hidT s₁.heap H):=⟨hKb,nsK hns,⟨mb,nsK hb,hbb⟩,let ⟨mc,h1,h2⟩:=hlim;⟨mc,nsK h1,h2⟩⟩
  have e0:Env0 P w K mg (hidT s₁.heap H) callerA [] s₁ H:=⟨rfl,hM,fun b o e=>zjb e,Nat.le_of_eq (zgb _ _),trivial,fun b hb=>absurd (show b∈([]:List Addr) from hb) (by simp -iota),hok,.of_eq hg⟩
  refine codeAny_mono ((F _ hKb (nsK hns)).run callerA [] s₁ H ⟨[.ref a],[]⟩ [.ref a] [.ref a] _ _ hr e0 (hbind s₁ (.ref a)) (.cons rfl .nil) (hsp H hO hS)) fun r s' h => ?_
  cases r with
  | error e=>exact (hCX H e s' h).elim
  | ok fl =>
   cases fl with
   | next=>exact False.elim h
   | brk=>exact False.elim h
   | cont=>exact False.elim h
   | ret u =>
    refine zc2a h fun v H' zz=>zc0e zz fun os bare un hok' zz=>zc0b zz fun r' q => ?_
    have q':v=.bl true:=q
    subst q'
    obtain rfl:u=Value.bool true:=r'
    refine ⟨rfl,OldK.of_keep fun b o e => ?_,os,bare⟩
    cases q:H b with
    | none=>exact un.keep b o e q (by intro z;exact absurd (show b∈([]:List Addr) from z) (by simp -iota)) (by simp -iota)
    | some u =>
     rcases hO b with z|⟨ob,xs,z⟩
     ·rw [q] at z;cases z
     ·have z2:=un.frzs b ob _ z
      obtain ⟨e1,_⟩:=hok b _ z
      obtain ⟨e2,_⟩:=hok' b _ z2
      rw [e] at e1;cases e1
      exact e2
 cases hk:K.lookup a with
 | some o =>
  have e:=KX a o hk
  rw [ha] at e
  cases e
  refine core (fun _=>none) (fun _=>.inl rfl) (.inr ⟨_,vs.toArray,_,hk,rfl,rfl,rfl,by rw [List.size_toArray,lenV];exact hl,by simpa -iota using rv⟩) (fun b u z=>by have z':(none:Option HO)=some u:=z;cases z') (fun b z=>absurd rfl z) fun z=>absurd rfl z
 | none =>
  refine core (fun b=>if b=a then some (.frz { cls:=.type "list",data:=.seq vs.toArray } (.lst (ns.map V.int))) else none) (fun b => ?_) (.inl (.inr ⟨{ cls:=.type "list",data:=.seq vs.toArray },if_pos rfl⟩)) (fun b u z => ?_) (fun b z => ?_) fun _=>hk
  ·by_cases hb:b=a
   ·exact .inr ⟨_,_,if_pos hb⟩
   ·exact .inl (if_neg hb)
  ·by_cases hb:b=a
   ·have z':=(if_pos hb).symm.trans z
    cases z'
    subst hb
    exact ⟨ha,by rw [List.length_map];exact hl,vs,_,rv,ha⟩
   ·have z':=(if_neg hb).symm.trans z
    cases z'
  ·by_cases hb:b=a
   ·exact hb
   ·exact absurd (if_neg hb) z
end L2
namespace L2
open PySem PySem.Spec PyProof.Rows
theorem walk_of {l:PySem.W.OpenLaw}{n k:Nat}{q:Program}{loose:List Str}{XP:(Str→Option Value)→Heap→Prop}{YP:World→Heap→Prop}{d:DefRec}{K:Params→PySem.W.Frag}{CX:World→CXT}{sp:World→Sp}{x:Str}
 (hn:l.most=some n) (hn2:n≤sizeLine) (hdf:d.params.defaults=[]) (hr:Room k callerA)
 (hY:∀ (w:World) (h:Heap),YP w h→(K w.params).In h)
 (F:∀ (w:World) (mg:Str→Option Value) (fa:Addr) (h:Heap),(K w.params).In h→h.Ns mainGlobals mg→mg d.name=some (.ref fa) →
  ∃ fd:FuncData,(∀ (s:Shared) (u:Value),BindsTo s fd ⟨[u],[]⟩ [(x,u)]) ∧
   ∀ base:Heap,(K w.params).In base→base.Ns mainGlobals mg→FnOk l.prog w (K w.params) mg base (CX w) k fa fd [x] (sp w))
 (hsp:∀ (w:World) (H:Hp) (a:Addr) (ns:List Int),ns.length≤n→Only H→SqL (K w.params) H a (ns.map V.int)→sp w [.ref a] H (fun v _=>v=.bl true) fun _ _ _=>False)
 (hCX:∀ (w:World) (H:Hp) (s:Shared) (e:Value) (s':Shared),CX w [] H s (fun _ _ _=>False) e s'→False) :
 PySem.W.WalkO q loose XP YP l.row.toRowW d [] (fun f vs=>PySem.call f vs):=by
 refine Att.attach_call hn hdf fun w s₀ s₁ mg mb fa o pm cd doc a vs ns G Y ho hd hcd hmg hobj hints hlen hg => ?_
 have KX:=hY w _ Y
 refine zc1b (F w mg fa _ KX G.T.g hmg) fun fd hb hF => ?_
 exact ziu KX G.T.g G.T.b G.T.builtins G.T.nolimit hg hobj hints (Nat.le_trans hlen hn2) hr hF hb (fun H hO hS=>hsp w H a ns hlen hO hS) fun H e s'=>hCX w H s₁ e s'
end L2
namespace L2
open PySem PySem.Spec PyProof.Rows
noncomputable def zgs (s:Stmt)(j:Nat):Stmt:=match s with
 | .ClassDef _ _ _ body _ _ _ _ _ _ _=>body.getD j (.Pass ⟨0,0,0,0⟩)
 | _=>.Pass ⟨0,0,0,0⟩
noncomputable def zc0 (s:Stmt):Arguments:=match s with
 | .FunctionDef _ a _ _ _ _ _ _ _ _=>a
 | _=>{ posonlyargs:=[],args:=[],vararg:=none,kwonlyargs:=[],kw_defaults:=[],kwarg:=none,defaults:=[] }
noncomputable def zaT (s:Stmt):List Stmt:=match s with
 | .FunctionDef _ _ b _ _ _ _ _ _ _=>b
 | _ => []
noncomputable def zaf (s:Stmt):Scope:=match s with
 | .FunctionDef _ _ _ _ _ _ sc _ _ _=>sc
 | _=>{ kind:=.function,names:=[],isGenerator:=false,isCoroutine:=false }
abbrev CX0:CXT:=fun _ _ _ _ _ _=>False
abbrev E0:XK:=fun _ _ _=>False
theorem zlf {X:Cx}:zed CX0 X E0:=fun _ _ _ _ _ _ _ h=>h.elim
structure Fun (K:PySem.W.Frag)(x qual:Str)(st:Stmt)(f:Addr)(fd:FuncData):Prop where
 ex:∃ (oc:Value) (od:Option Addr) (kV doc pm:Value) (an:Option Addr) (cdv ct:Value) (osl:Array (Option Value)),
  fd=PySem.W.fnOf x qual (zc0 st) (zaT st) (zaf st) .none kV doc pm an cdv ct∧K.lookup f=some ⟨oc,od,.func fd,osl⟩∧PySem.W.codeIn K cdv qual=true
 kp:PySem.W.keepIn K (.ref f)=true
section
variable {P:Program}{w:World}{K:PySem.W.Frag}{mg:Str→Option Value}{base:Heap}
theorem Fun.ok {x qual:Str}{st:Stmt}{f:Addr}{fd:FuncData}{N ps:List Str}{k:Nat}{sp:Sp}(F:Fun K x qual st f fd)(S:FnScope N ps (zaf st))(len:∀ vs H Q E,sp vs H Q E→vs.length=ps.length)
 (hbody:∀ (cdv:Value) (A:Around) (outer:List Env) (s:Shared) (H:Hp) (vs:List V) (Q:VK) (E:XK),Room k (A.deeper (envOfC qual (zaf st) s.heap.objs.size f cdv))→sp vs H Q E →
  ∃ t,PSs (cxOf CX0 P w K mg base N qual (zaf st) f cdv A outer s H E).nox (zaT st) t∧t { nx:=fun _ H'=>Q .non H',rt:=Q } (start N vs) H):FnOk P w K mg base CX0 (k+1) f fd ps sp:=by
 refine zc4a F.ex fun oc od kV doc zz=>zc4a zz fun pm an cdv ct zz=>zc1c zz fun osl zr9 lk hcd => ?_
 obtain rfl:=zr9
 refine fn_of lk hcd S len fun A outer s H vs Q E hr hsp => ?_
 refine zc1b (hbody cdv A outer s H vs Q E hr hsp) fun t h q => ?_
 exact ⟨t,h.nox,q⟩
theorem Fun.binds {x qual:Str}{st:Stmt}{f:Addr}{fd:FuncData}{ps:List Str}(F:Fun K x qual st f fd)
 (h:∀ (kV doc pm:Value) (an:Option Addr) (cdv ct:Value) (us:List Value),us.length=ps.length→bindArgs (PySem.W.fnOf x qual (zc0 st) (zaT st) (zaf st) .none kV doc pm an cdv ct) ⟨us,[]⟩=pure (ps.zip us)):zda K fd ps []:=by
 refine zc4a F.ex fun oc od kV doc zz=>zc4a zz fun pm an cdv ct zz=>zc1c zz fun osl zr9 lk hcd => ?_
 obtain rfl:=zr9
 exact .all (h kV doc pm an cdv ct)
theorem fun_mk {x qual:Str}{st:Stmt}{f:Addr}{oc:Value}{od an:Option Addr}{osl:Array (Option Value)}{kV doc pm cdv ct:Value}(l:K.lookup f=some ⟨oc,od,.func (PySem.W.fnOf x qual (zc0 st) (zaT st) (zaf st) .none kV doc pm an cdv ct),osl⟩)
 (c:PySem.W.codeIn K cdv qual=true) (k:PySem.W.keepIn K (.ref f)=true):Fun K x qual st f (PySem.W.fnOf x qual (zc0 st) (zaT st) (zaf st) .none kV doc pm an cdv ct):=⟨⟨oc,od,kV,doc,pm,an,cdv,ct,osl,rfl,l,c⟩,k⟩
end
theorem zbs {A:Around}{k:Nat}(hr:Room k A):A.units+1<cLine:=Nat.lt_of_le_of_lt (Nat.add_le_add_left (by decide:1≤64) _) hr.units
theorem zea {n:Nat}(h:n≤1000):n<sizeLine:=Nat.lt_of_le_of_lt h (by decide)
section
variable {X:Cx}
theorem pv (i:Nat){x:Str}{pos:Pos}(hN:autoParam (X.N[i]? = some x) zau._auto_1)(hv:Vis X.env.scope x:=by first|exact Or.inl rfl|exact Or.inr (Or.inl rfl)|exact Or.inr (Or.inr rfl))(hd:(x == ("__debug__" : Str))=false:=by decide)
 (hcd:autoParam ((x == ("__classdict__" : Str))=false) zav._auto_1):PE X (.Name x pos) (tVar i):=zlw hN hv hd hcd
end
noncomputable def Same (H H':Hp):Prop:=∀ b o,H b=some o→H' b=some o
theorem Same.refl (H:Hp):Same H H:=fun _ _ h=>h
theorem Same.trans {H H1 H2:Hp}(a:Same H H1)(b:Same H1 H2):Same H H2:=fun c o h=>b c o (a c o h)
theorem Same.free {H H':Hp}(e:Same H H'){l:Addr}(h:H' l=Option.none):H l=Option.none:=by
 cases q:H l with
 | none=>rfl
 | some o =>
  rw [e l o q] at h
  cases h
theorem Same.seq {K:PySem.W.Frag}{H H':Hp}{a:Addr}{xs:List V}(e:Same H H')(h:SqL K H a xs):SqL K H' a xs:=by
 rcases h with (h|⟨o,h⟩)|h
 ·exact .inl (.inl (e _ _ h))
 ·exact .inl (.inr ⟨o,e _ _ h⟩)
 ·exact .inr h
end L2
namespace L2
open PySem PySem.Spec PyProof.Rows
section
variable {X:Cx}
theorem zht:zas X (.builtin "len") (fun xs H Q => ∃ a kvs,xs=[V.ref a]∧H a=some (.dK kvs)∧Q (.int kvs.length) H):=by
 intro pins s σ H xs us Q I r h
 refine zc2c h fun a kvs zr2 ha q => ?_
 obtain rfl:=zr2
 refine zc1b (zcA r) fun u zr1 ru => ?_
 obtain rfl:=zr1
 cases ru
 exact d_len I (.inl ha) fun t s' I'=>⟨.int kvs.length,H,I',⟨t,rfl⟩,q⟩
end
end L2
theorem zqn {P:Prop}{α : Type}{z : α}(h:none=some z):P:=by cases  h
theorem zqb {P:Prop}(h:false=true):P:=by cases  h
namespace L2
open PySem PySem.Spec PyProof.Rows
theorem zct (env:Env):∀ (names:List (Str×NameKind)) (acc:List (Str×Addr)),(∀ y∈names,y.2=.free→∃ c,env.cells.lookup y.1=some c) →
 ∃ cl,(forIn names acc fun (x:Str×NameKind) (r:List (Str×Addr))=>(match x with
  | (name,kind)=>if (kind == NameKind.free)=true then do let a ← cellOf env name;pure (ForInStep.yield ((name,a)::r)) else pure (ForInStep.yield r):Sem (ForInStep (List (Str×Addr)))))=(pure cl:Sem (List (Str×Addr))) ∧
  (∀ x c,cl.lookup x=some c→env.cells.lookup x=some c∨acc.lookup x=some c)∧(∀ x c,acc.lookup x=some c→∃ c',cl.lookup x=some c')∧∀ y∈names,y.2=.free→∃ c,cl.lookup y.1=some c
 | [],acc,_=>⟨acc,rfl,fun _ _ h=>.inr h,fun x c h=>⟨c,h⟩,fun _ h=>nomatch h⟩
 | (n,k)::r,acc,h=>by
  rw [List.forIn_cons]
  cases hk:(k == NameKind.free) with
  | true =>
   have hk':k=.free:=by cases k<;>first|rfl|(exact absurd hk (by decide))
   obtain ⟨c,hc⟩:=h (n,k) List.mem_cons_self hk'
   refine zc1d (zct env r ((n,c)::acc) fun y hy=>h y (List.mem_cons_of_mem _ hy)) fun cl e h1 h2 h3 => ?_
   refine ⟨cl,?_,fun x c' hx => ?_,fun x c' hx => ?_,fun y hy hf => ?_⟩
   ·simp only [hk,if_true,cellOf,hc]
    exact e
   ·rcases h1 x c' hx with q|q
    ·exact .inl q
    ·rw [List.lookup_cons] at q
     cases hb:x == n with
     | true =>
      rw [hb] at q;cases q;have:x=n:=by simpa using hb
      subst this;exact .inl hc
     | false=>rw [hb] at q;exact .inr q
   ·cases hb:x == n with
    | true=>exact h2 x c (by rw [List.lookup_cons,hb])
    | false=>exact h2 x c' (by rw [List.lookup_cons,hb];exact hx)
   ·rcases List.mem_cons.mp hy with rfl|hy
    ·exact h2 n c (by rw [List.lookup_cons,beq_self_eq_true])
    ·exact h3 y hy hf
  | false =>
   refine zc1d (zct env r acc fun y hy=>h y (List.mem_cons_of_mem _ hy)) fun cl e h1 h2 h3 => ?_
   refine ⟨cl,?_,h1,h2,fun y hy hf => ?_⟩
   ·simp only [hk,Bool.false_eq_true,if_false]
    exact e
   ·rcases List.mem_cons.mp hy with rfl|hy
    ·rw [show k=.free from hf] at hk;exact absurd hk (by decide)
    ·exact h3 y hy hf
theorem zjw (env:Env)(scope:Scope)(h:∀ y∈scope.names,y.2=.free→∃ c,env.cells.lookup y.1=some c) :
 ∃ cl,closureFor scope env=pure cl∧(∀ x c,cl.lookup x=some c→env.cells.lookup x=some c)∧∀ y∈scope.names,y.2=.free→∃ c,cl.lookup y.1=some c:=by
 refine zc1d (zct env scope.names [] h) fun cl e h1 _ h3 => ?_
 refine ⟨cl,?_,fun x c hx=>(h1 x c hx).elim id (fun q=>by simp at q),h3⟩
 simp only [closureFor]
 first
 | (rw [e];rfl)
 | exact (congrArg (· >>= fun cs=>pure cs) e)
theorem zaP {env:Env}{x:Str}:∀ {names:List (Str×NameKind)},
 (names.lookup x=some .free→(names.map fun (n,k)=>if (k == NameKind.free&&env.scope.kind == .function&&env.kindOf n == some .cell) then (n,NameKind.cell) else (n,k)).lookup x=some .cell∨(names.map fun (n,k)=>if (k == NameKind.free&&env.scope.kind == .function&&env.kindOf n == some .cell) then (n,NameKind.cell) else (n,k)).lookup x=some .free) ∧
 (∀ k',(names.map fun (n,k)=>if (k == NameKind.free&&env.scope.kind == .function&&env.kindOf n == some .cell) then (n,NameKind.cell) else (n,k)).lookup x=some k'→(k'=.cell∨k'=.free)→names.lookup x=some .free∨names.lookup x=some .cell)
 | []=>⟨fun h=>by simp at h,fun _ h=>by simp at h⟩
 | (n,k)::r=>by
  obtain ⟨ih1,ih2⟩:=@zaP env x r
  simp only [List.map_cons]
  cases hx:x == n with
  | true =>
   refine ⟨fun h => ?_,fun k' h hk' => ?_⟩
   ·simp only [List.lookup_cons,hx] at h
    obtain rfl:=Option.some.inj h
    by_cases hc:(NameKind.free == NameKind.free&&env.scope.kind == .function&&env.kindOf n == some .cell)=true
    ·rw [if_pos hc];simp [List.lookup_cons,hx]
    ·rw [if_neg hc];simp [List.lookup_cons,hx]
   ·rw [List.lookup_cons,hx]
    by_cases hq:(k == NameKind.free&&env.scope.kind == .function&&env.kindOf n == some .cell)=true
    ·have:k=.free:=by
      cases k<;>first|rfl|(simp at hq)
     rw [this];exact .inl rfl
    ·rw [if_neg hq] at h
     simp only [List.lookup_cons,hx] at h
     have h:k=k':=by simpa using h
     subst h
     rcases hk' with z|z
     ·rw [z];exact .inr rfl
     ·rw [z];exact .inl rfl
  | false =>
   refine ⟨fun h => ?_,fun k' h hk' => ?_⟩
   ·simp only [List.lookup_cons,hx] at h
    split<;>simp only [List.lookup_cons,hx]<;>exact ih1 h
   ·rw [List.lookup_cons,hx]
    refine ih2 k' ?_ hk'
    split at h<;>simp only [List.lookup_cons,hx] at h<;>exact h
theorem za5:∀ (names:List (Str×NameKind)) (n:Nat) (acc:List (Str×Addr)),cellsFrom n names acc=cellsFrom n names []++acc
 | [],_,_=>rfl
 | (name,kind)::r,n,acc=>by
  unfold cellsFrom
  split
  ·rw [za5 r (n+1) ((name,n)::acc),za5 r (n+1) [(name,n)],List.append_assoc];rfl
  ·exact za5 r n acc
theorem zbc {x:Str}{c:Addr}:∀ (names:List (Str×NameKind)) (n:Nat) (acc:List (Str×Addr)),(x,c)∈cellsFrom n names acc→(x,c)∈acc∨(x,NameKind.cell)∈names
 | [],_,_,h=>.inl h
 | (name,kind)::r,n,acc,h=>by
  unfold cellsFrom at h
  split at h
  ·rename_i hk
   rcases zbc r (n+1) ((name,n)::acc) h with z|z
   ·rcases List.mem_cons.mp z with z|z
    ·cases z
     have:kind=.cell:=by cases kind<;>first|rfl|(exact absurd hk (by decide))
     subst this
     exact .inr List.mem_cons_self
    ·exact .inl z
   ·exact .inr (List.mem_cons_of_mem _ z)
  ·rcases zbc r n acc h with z|z
   ·exact .inl z
   ·exact .inr (List.mem_cons_of_mem _ z)
noncomputable def zhn:Option NameKind→Bool
 | some .cell=>true
 | _=>false
theorem ze0 {o:Option NameKind}(h:zhn o=true):o=some .cell:=by
 cases o with
 | none=>exact zqb h
 | some k=>cases k<;>first|rfl|exact zqb h
structure CellsAt (scope:Scope)(env:Env)(cl:List (Str×Addr))(C:Addr)(h1:Heap):Prop where
 from_:∀ x c,cl.lookup x=some c→(env.cells.lookup x=some c∧scope.names.lookup x≠some .cell)∨(C<c∧h1.IsCell c none)
 free:∀ x,scope.names.lookup x=some .free→∃ c,cl.lookup x=some c∧env.cells.lookup x=some c
 own:∀ x,scope.names.lookup x=some .cell→∃ c,cl.lookup x=some c
 inj:∀ x y c,cl.lookup x=some c→cl.lookup y=some c→x=y
theorem zfk {scope:Scope}{env:Env}{cl:List (Str×Addr)}{h0:Heap}{C:Addr}(he:∀ x c,cl.lookup x=some c→env.cells.lookup x=some c)(hf:∀ y∈scope.names,y.2=.free→∃ c,cl.lookup y.1=some c)
 (inj:∀ x y c,env.cells.lookup x=some c→env.cells.lookup y=some c→x=y) (low:∀ x c,env.cells.lookup x=some c→c≤C) (hC:h0.objs.size=C+1) (hc:∀ y∈scope.names,y.2=.cell→scope.names.lookup y.1=some .cell) :
 CellsAt scope env (cellsFrom (C+1) scope.names cl) C (pushCells h0 scope.names):=by
 have ok:=cellsFrom_ok scope.names h0 (C+1) [] ⟨fun _ _ hm=>(nomatch hm),List.Pairwise.nil⟩ (Nat.le_of_eq hC.symm)
 rw [hC] at ok
 have look:∀ x c,(cellsFrom (C+1) scope.names cl).lookup x=some c→((x,c)∈cellsFrom (C+1) scope.names [] )∨(cl.lookup x=some c∧scope.names.lookup x≠some .cell):=fun x c e=>by
  rw [za5,List.lookup_append] at e
  cases q:(cellsFrom (C+1) scope.names []).lookup x with
  | some d =>
   rw [q] at e
   have e:some d=some c:=e
   obtain rfl:=Option.some.inj e
   exact .inl (PySem.mem_of_lookup q)
  | none =>
   rw [q] at e
   refine .inr ⟨e,fun z => ?_⟩
   have:=PySem.W.cellsFrom_some scope.names (C+1) [] (.inl z)
   rw [q] at this;exact zqb this
 refine ⟨fun x c e => ?_,fun x e => ?_,fun x e => ?_,fun x y c e1 e2 => ?_⟩
 ·rcases look x c e with z|⟨z1,z2⟩
  ·exact .inr ⟨(ok.empty x c z).2,(ok.empty x c z).1⟩
  ·exact .inl ⟨he x c z1,z2⟩
 ·obtain ⟨c,hc'⟩:=hf (x,.free) (PySem.mem_of_lookup e) rfl
  refine ⟨c,?_,he x c hc'⟩
  rw [za5,List.lookup_append]
  cases q:(cellsFrom (C+1) scope.names []).lookup x with
  | some d =>
   rcases zbc _ _ _ (PySem.mem_of_lookup q) with z|z
   ·cases z
   ·have:=hc (x,.cell) z rfl
    rw [e] at this;cases this
  | none=>exact hc'
 ·exact Option.isSome_iff_exists.mp (PySem.W.cellsFrom_some scope.names (C+1) cl (.inl e))
 ·rcases look x c e1 with z|⟨z1,_⟩<;>rcases look y c e2 with w|⟨w1,_⟩
  ·exact PySem.name_of_addr ok.apart z w
  ·exact absurd (low y c (he y c w1)) (Nat.not_le_of_lt (ok.empty x c z).2)
  ·exact absurd (low x c (he x c z1)) (Nat.not_le_of_lt (ok.empty y c w).2)
  ·exact inj x y c (he x c z1) (he y c w1)
theorem zca {M:Model}{A:Around}{E:Value→Shared→Prop}{s:Shared}{scope:Scope}{globals:Addr}{cl:List (Str×Addr)}{qual:Str}{env:Env}{Q:Env→Shared→Prop}
 (hQ:Q (newEnv scope s.heap.objs.size globals (cellsFrom (s.heap.objs.size+1) scope.names cl) qual none .none (some env) builtinsNs) { s with heap:=pushCells (s.heap.push { cls:=.type "dict",data:=.dict #[] }) scope.names }) :
 wpAny M A (newFunctionEnv scope globals cl [] qual none .none (some env)) Q E s:=by
 simp only [newFunctionEnv,Option.isSome_some,if_true]
 refine wpAny_bind (wpAny_alloc ?_)
 refine wpAny_bind (wpAny_layCells _ (fun name kind cells=>by cases hkc:kind == NameKind.cell<;>simp [hkc]) _ _ _ _ ?_)
 rw [show ({ s with heap:=s.heap.push { cls:=.type "dict",data:=.dict #[] } }:Shared).heap.objs.size=s.heap.objs.size+1 from Heap.size_push ..]
 rw [List.forIn_nil]
 exact wpAny_bind (wpAny_pure (wpAny_pure hQ))
noncomputable def ze6 (X:Cx)(C:Addr):Value→Shared→Prop:=fun x s' => ∃ m,s'.heap.Ns C m∧∀ h',Heap.SameBut C s'.heap h'→∀ cenv:Env,cenv.locals=C→wpAny (model X.prog X.w) X.A (passOn "comprehension.variables-let-go" x cenv:Sem Value) (fun _ _=>False) X.xe { s' with heap:=h' }
def zap (X:Cx)(scope:Scope)(N:List Str)(cl:List (Str×Addr))(C:Addr)(s:Shared)(H:Hp)(ex:List Addr):Cx where
 prog:=X.prog
 w:=X.w
 K:=X.K
 mg:=X.mg
 base:=X.base
 A:=X.A
 N:=N
 s₀:=s
 H₀:=H
 env:=compEnvC scope cl C X.env
 outer:=X.stack
 stack:=X.stack
 ex:=ex
 fn:=fun x=>zhn (scope.names.lookup x)
 calm:=X.calm
 pn:=[]
 xe:=notedBy (model X.prog X.w) X.A (compEnvC scope cl C X.env) (ze6 X C)
def zeb (X:Cx)(C:Addr)(s:Shared)(H:Hp)(ex:List Addr):Prop:=∃ pins σ,Inv X pins σ H s∧(∀ b∈ex,FpOk X pins H b)∧s.heap.objs.size≤C
noncomputable def zet (cap:List (Option Nat))(σ : St):St:=cap.map fun o=>o.bind fun j=>(σ[j]?).join
structure CompOk (X:Cx)(scope:Scope)(N:List Str)(cap:List (Option Nat)):Prop where
 kind:scope.kind=.function
 loc:∀ y∈scope.names,y.2=.local→scope.names.lookup y.1=some .local
 cell:∀ y∈scope.names,y.2=.cell→scope.names.lookup y.1=some .cell
 free:∀ y∈scope.names,y.2=.free→X.env.kindOf y.1=some .cell∨X.env.kindOf y.1=some .free
 len:cap.length=N.length
 cap:∀ (i j:Nat) (x:Str),cap[i]? = some (some j)→N[i]? = some x→X.N[j]? = some x∧scope.names.lookup x=some .free
noncomputable def za8 (scope:Scope)(env:Env)(N' N:List Str)(cap:List (Option Nat)):Bool :=
 decide (scope.kind=.function)&&scope.names.all (fun y => !decide (y.2=.local)||decide (scope.names.lookup y.1=some .local))&&scope.names.all (fun y => !decide (y.2=.cell)||decide (scope.names.lookup y.1=some .cell)) &&
 scope.names.all (fun y => !decide (y.2=.free)||(decide (env.kindOf y.1=some .cell)||decide (env.kindOf y.1=some .free)))&&decide (cap.length=N'.length) &&
 (N'.zip cap).all (fun p=>match p.2 with|none=>true|some j=>decide (N[j]? = some p.1)&&decide (scope.names.lookup p.1=some .free))
theorem CompOk.of {X:Cx}{scope:Scope}{N:List Str}{cap:List (Option Nat)}(h:za8 scope X.env N X.N cap=true):CompOk X scope N cap:=by
 unfold za8 at h
 simp only [Bool.and_eq_true,List.all_eq_true,decide_eq_true_eq,Bool.or_eq_true,Bool.not_eq_true',decide_eq_false_iff_not] at h
 obtain ⟨⟨⟨⟨⟨h1,h2⟩,h3⟩,h4⟩,h5⟩,h6⟩:=h
 refine ⟨h1,fun y hy hl => ?_,fun y hy hl => ?_,fun y hy hf => ?_,h5,fun i j x e1 e2 => ?_⟩
 ·rcases h2 y hy with z|z
  ·exact absurd hl z
  ·exact z
 ·rcases h3 y hy with z|z
  ·exact absurd hl z
  ·exact z
 ·rcases h4 y hy with z|z
  ·exact absurd hf z
  ·exact z
 ·have hm:(x,some j)∈N.zip cap:=by
   refine List.mem_of_getElem? (i:=i) ?_
   rw [List.getElem?_zip_eq_some]
   exact ⟨e2,e1⟩
  have q:=h6 (x,some j) hm
  simpa using q
section
variable {X:Cx}{scope:Scope}{N:List Str}{cap:List (Option Nat)}{pins:List (Addr×Obj)}{σ : St}{H:Hp}{s:Shared}{cl:List (Str×Addr)}{C D:Addr}{fp:List Addr}
theorem zhC {h1:Heap}{tk:Nat}{m:Str→Option Value}(ok:CompOk X scope N cap)(I:Inv X pins σ H s)(hf:∀ b∈fp,FpOk X pins H b)(hlt:∀ b∈fp,b<s.heap.objs.size)
 (hcl:CellsAt scope X.env cl C h1)
 (hC:s.heap.objs.size≤C) (old:∀ b o,s.heap.get? b=some o→h1.get? b=some o) (hns:h1.Ns C m) :
 Inv (zap X scope N cl C s H fp) [] (zet cap σ) H { s with heap:=h1,toks:=tk }:=by
 have kf:∀ x,(zap X scope N cl C s H fp).env.kindOf x=some .cell∨(zap X scope N cl C s H fp).env.kindOf x=some .free→scope.names.lookup x=some .free∨scope.names.lookup x=some .cell:=fun x h=>by
  rcases h with h|h
  ·exact (zaP (env:=X.env) (x:=x) (names:=scope.names)).2 _ h (.inl rfl)
  ·exact (zaP (env:=X.env) (x:=x) (names:=scope.names)).2 _ h (.inr rfl)
 refine ⟨⟨I.ok.mod,ok.kind,I.ok.glob,I.ok.blt,hC,hcl.inj,fun x h => ?_,fun x c z e => ?_,I.ok.hd,I.ok.frames,.inl rfl,fun b hb=>⟨?_,fun x c e => ?_⟩,I.bs,Nat.le_trans I.ok.bsz I.sz,
  fun b o e hb => ?_,fun b hb z => ?_,I.stack,I.stkFree⟩,rfl,I.bare,Un.kept old,⟨m,hns,fun i x v e1 e2 e3 => ?_⟩,fun x c e => ?_,I.hok.fresh hC,fun x c e => ?_,fun p hp=>absurd hp (by show ¬ p∈([]:List (Addr×Obj))++[];simp),I.hok.kept old,?_⟩
 ·rcases kf x h with q|q
  ·refine zc1b (hcl.free x q) fun c e _ => ?_
   exact ⟨c,e⟩
  ·exact hcl.own x q
 ·rcases hcl.from_ x c e with ⟨_,q⟩|⟨q,_⟩
  ·exact absurd (ze0 z) q
  ·exact Nat.le_trans hC (Nat.le_of_lt q)
 ·exact Nat.ne_of_lt (Nat.lt_of_lt_of_le (hlt b hb) hC)
 ·rcases hcl.from_ x c e with ⟨q,_⟩|⟨q,_⟩
  ·exact (hf b hb).2.2.2.2.1 x c q
  ·exact Nat.ne_of_gt (Nat.lt_trans (Nat.lt_of_lt_of_le (hlt b hb) hC) q)
 ·rcases (hf b hb).2.2.2.1 with z|z
  ·exact I.ok.noex b o e z
  ·exact absurd (Nat.lt_of_lt_of_le (Heap.lt_size e) (Nat.le_trans I.ok.bsz z)) (Nat.lt_irrefl _)
 ·rcases List.mem_cons.mp (I.stkSub b z) with q|q
  ·exact (hf b hb).2.1 q
  ·exact (hf b hb).2.2.1 q
 ·have e1:N[i]? = some x:=e1
  have hc:∃ j,cap[i]? = some (some j) ∧ σ[j]? = some (some v):=by
   have e2:(cap.map fun o=>o.bind fun j=>(σ[j]?).join)[i]? = some (some v):=e2
   rw [List.getElem?_map] at e2
   cases q:cap[i]? with
   | none=>rw [q] at e2;exact zqn e2
   | some o =>
    rw [q] at e2
    cases o with
    | none=>cases e2
    | some j =>
     have e2:some ((σ[j]?).join)=some (some v):=e2
     cases q2 : σ[j]? with
     | none=>rw [q2] at e2;cases e2
     | some w=>rw [q2] at e2;exact ⟨j,rfl,by cases e2;exact q2⟩
  obtain ⟨j,c1,c2⟩:=hc
  obtain ⟨n1,n2⟩:=ok.cap i j x c1 e1
  refine zc1b I.loc fun m0 _ hl => ?_
  have fr:=ok.free (x,.free) (PySem.mem_of_lookup n2) rfl
  obtain ⟨u,r,l⟩:=hl j x v n1 c2 (fr.elim (fun z=>.inr (.inl z)) fun z=>.inr (.inr z))
  refine ⟨u,r,.inr ⟨(zaP (env:=X.env) (x:=x) (names:=scope.names)).1 n2,?_⟩⟩
  rcases l with ⟨k,_⟩|⟨_,c,ec,z⟩
  ·have k:X.env.kindOf x=some .local:=k
   rcases fr with f|f<;>· rw [k] at f;cases f
  ·obtain ⟨c',e',e''⟩:=hcl.free x n2
   rw [ec] at e'';obtain rfl:=Option.some.inj e''
   exact ⟨c,e',z.keeps old⟩
 ·rcases hcl.from_ x c e with ⟨q,_⟩|⟨_,q⟩
  ·obtain ⟨v,z⟩:=I.cell x c q
   exact ⟨v,z.keeps old⟩
  ·exact ⟨none,q⟩
 ·rcases hcl.from_ x c e with ⟨q,_⟩|⟨q,_⟩
  ·exact I.freeC x c q
  ·exact I.hok.fresh (Nat.le_trans hC (Nat.le_of_lt q))
 ·show (cap.map _).length=N.length
  rw [List.length_map];exact ok.len
theorem zh2 {σ':St}{H':Hp}{s':Shared}{ys:List V}{its:List Value}{k:Nat}{h':Heap}{Q:VK}(I:Inv X pins σ H s)(hf:∀ b∈fp,FpOk X pins H b)(hC:s.heap.objs.size≤C)(hD:s.heap.objs.size≤D)(hDC:D≠C)
 (J:Inv (zap X scope N cl C s H fp) [] σ' H' s') (hd:s'.heap.get? D=some { cls:=.type "list",data:=.seq its.toArray k }) (hn:H' D=none) (rv:Vals ys its) (hz:ys.length≤sizeLine) (hs:Heap.SameBut C s'.heap h')
 (q:Q (.ref D) (upd H' D (.lst ys))):EP X pins σ Q (.ref D) { s' with heap:=h' }:=by
 have nC:∀ b o,s.heap.get? b=some o→b≠C:=fun b o e=>Nat.ne_of_lt (Nat.lt_of_lt_of_le (Heap.lt_size e) hC)
 have nD:∀ b o,s.heap.get? b=some o→b≠D:=fun b o e=>Nat.ne_of_lt (Nat.lt_of_lt_of_le (Heap.lt_size e) hD)
 have tD:∀ b u,H' b=some u→b≠D:=fun b u e z=>by rw [z,hn] at e;exact zqn e
 have tC:∀ b u,H' b=some u→b≠C:=fun b u e z=>by
  have:=J.free
  rw [z] at e
  rw [show H' C=none from this] at e;exact zqn e
 have B:Un (frs X.stack) fp H H' s.heap s'.heap:=J.base
 refine ⟨.ref D,upd H' D (.lst ys),I.call' (s':={ s' with heap:=h' }) (ch:=fp) J.os ?_ ?_ J.bare (fun b hb=>⟨(hf b hb).2.2.2.1,(hf b hb).2.1,(hf b hb).2.2.2.2.1,(hf b hb).2.2.2.2.2⟩),rfl,q⟩
 ·refine ⟨fun b o e n hb hx=>(hs.2 b (nC b o e)).trans (B.keep b o e n hb hx),fun b o e n hb hx => ?_,fun b o e n hx => ?_,fun b o e hx => ?_,fun b xs e => ?_,fun b o u e => ?_,fun b ps e => ?_⟩
  ·obtain ⟨sl,z⟩:=B.slot b o e n hb hx
   exact ⟨sl,(hs.2 b (nC b o e)).trans z⟩
  ·rw [zai (nD b o e)];exact B.free b o e n hx
  ·obtain ⟨o',z⟩:=B.there b o e hx
   exact ⟨o',(hs.2 b (nC b o e)).trans z⟩
  ·have z:=B.tups b xs e
   rw [zai (tD b _ z)];exact z
  ·have z:=B.frzs b o u e
   rw [zai (tD b _ z)];exact z
  ·obtain ⟨more,z⟩:=B.tbls b ps e
   exact ⟨more,by rw [zai (tD b _ z)];exact z⟩
 ·intro b u e
  by_cases hb:b=D
  ·subst hb
   rw [zah] at e;obtain rfl:=Option.some.inj e
   exact ⟨hz,its,k,rv,(hs.2 b hDC).trans hd⟩
  ·rw [zai hb] at e
   refine (J.hok b u e).stay (fun c v hc z=>(hs.2 c ?_).trans z) (fun c z=>by rw [zai (tD c _ z)];exact z) (fun c xs z=>by rw [zai (tD c _ z)];exact z)
   rcases hc with hc|hc
   ·rw [hc];exact tC b u e
   ·exact tC c _ hc
end
def compR (cap:List (Option Nat))(g:TG)(te:TE)(σ : St)(Q:VK):It→Hp→Prop:=fun J H1 => ∃ W:Nat→Nat→List V→St→Hp→Prop,(∃ m,W 0 m [] (zet cap σ) H1)∧∀ i m ys σ' H',W i m ys σ' H'→ys.length<sizeLine ∧
 (
  (J.stop i H'∧∀ D,H' D=none→Q (.ref D) (upd H' D (.lst ys))) ∨
  (J.go i H'∧∀ x H2,J.yld i H' x H2→g x σ' H2 fun σ2 H3=>te σ2 H3 fun y H4 => ∃ m',m'<m∧W (i+1) m' (ys++[y]) σ2 H4))
def zgo (cap:List (Option Nat))(wi:TI)(g:TG)(te:TE):TE:=fun σ H Q=>wi σ H (compR cap g te σ Q)
def zku (cap:List (Option Nat))(g:TG)(tt:TT)(te:TE)(σ : St)(Q:VK):It→Hp→Prop:=fun J H1 => ∃ W:Nat→Nat→List V→St→Hp→Prop,(∃ m,W 0 m [] (zet cap σ) H1)∧∀ i m ys σ' H',W i m ys σ' H'→ys.length<sizeLine ∧
 (
  (J.stop i H'∧∀ D,H' D=none→Q (.ref D) (upd H' D (.lst ys))) ∨
  (J.go i H'∧∀ x H2,J.yld i H' x H2→g x σ' H2 fun σ2 H3=>tt σ2 H3 fun b H4=>if b=true then te σ2 H4 (fun y H5 => ∃ m',m'<m∧W (i+1) m' (ys++[y]) σ2 H5) else ∃ m',m'<m∧W (i+1) m' ys σ2 H4))
def zcS (cap:List (Option Nat))(wi:TI)(g:TG)(tt:TT)(te:TE):TE:=fun σ H Q=>wi σ H (zku cap g tt te σ Q)
section
variable {X:Cx}{tg iter elt c:Expr}{scope:Scope}{pos:Pos}{wi:TI}{g:TG}{te:TE}{tt:TT}
noncomputable def zcm (X:Cx)(pins:List (Addr×Obj))(σ : St)(Q:VK)(use:Option (Value→Sem Unit))(R:Value→Shared→Prop):Prop :=
 ∀ (C D:Addr) (m:Str→Option Value) (s5:Shared) (r:Flow),s5.heap.Ns C m→¬ C=X.env.locals→C∉X.fs→X.s₀.heap.objs.size≤C→(∀ x c,X.env.cells.lookup x=some c→c≠C)→(∀ p∈X.pn++pins,p.1≠C) →
  (∀ h',Heap.SameBut C s5.heap h'→EP X pins σ (fun v H'=>H' C=none∧Q v H') (.ref D) { s5 with heap:=h' })→compPost (model X.prog X.w) X.A X.xe use R (.ref D) C (.ok r) s5
theorem zeH {pins:List (Addr×Obj)}{σ : St}{Q:VK}:zcm X pins σ Q none (EP X pins σ Q):=fun C D m s5 r hm _ _ _ _ _ k=>⟨m,hm,fun h' hs'=>by
 refine zc2d (k h' hs') fun v H' I' rv _ q => ?_
 exact ⟨v,H',I',rv,q⟩⟩
noncomputable def TurnI (X:Cx)(tg elt:Expr)(it acc:Value)(env:Env)(R:Result→Shared→Prop)(I:Nat→Shared→Prop)(test:(Bool→Shared→Prop)→Shared→Prop)(n:Nat)(s:Shared):Prop :=
 let E:Value→Shared→Prop:=notedBy (model X.prog X.w) X.A env fun e s'=>R (.error e) s'
 wpAny (model X.prog X.w) X.A (pyNext it) (fun r s1=>match r with
  | none=>R (.ok .next) s1
  | some v=>wpAny (model X.prog X.w) X.A (letOwnedTupleGo tg it v) (fun _ s2=>wpAny (model X.prog X.w) X.A (assign tg env v) (fun _ s3=>test (fun ok s4=>if ok=true then wpAny (model X.prog X.w) X.A (eval elt env) (fun x s5=>wpAny (model X.prog X.w) X.A (call (.builtin "list.append") [acc,x]) (fun _ s6 => ∃ m,m<n∧I m s6) E s5) E s4 else ∃ m,m<n∧I m s4) s3) E s2) E s1) E s
theorem zeQ {ifs:List Expr}(N:List Str){test:Env→(Result→Shared→Prop)→(Bool→Shared→Prop)→Shared→Prop}
 (lp:∀ {it acc:Value} {env:Env} {R:Result→Shared→Prop} {s:Shared} (I:Nat→Shared→Prop),(∀ n s,I n s→TurnI X tg elt it acc env R I (test env R) n s)→∀ n,I n s→codeAny (model X.prog X.w) X.A (.compLoop (.ListComp elt [⟨tg,iter,ifs,0⟩] scope pos) 0 it acc env) R s)
 (ht:∀ cl C s H ex {pins:List (Addr×Obj)} {s7:Shared} {σ7:St} {H7:Hp} {R:Result→Shared→Prop} {q:Bool→Hp→Prop} {Q:Bool→Shared→Prop},zeb X C s H ex→(∀ e s',ze6 X C e s'→R (.error e) s')→Inv (zap X scope N cl C s H ex) pins σ7 H7 s7→tt σ7 H7 q→(∀ b s8 H8,Inv (zap X scope N cl C s H ex) pins σ7 H8 s8→q b H8→Q b s8)→test (compEnvC scope cl C X.env) R Q s7)
 (cap:List (Option Nat)) (hc:X.calm=true) (okB:za8 scope X.env N X.N cap=true) (hi:PI X tg iter wi) (hg:∀ cl C s H ex,PG (zap X scope N cl C s H ex) tg g) (he:∀ cl C s H ex,zeb X C s H ex→PE (zap X scope N cl C s H ex) elt te)
 (hs:∀ x,foldedSetIterable iter X.env x=pure x) {use:Option (Value→Sem Unit)} {R:Value→Shared→Prop} {fpos:Pos} {pins:List (Addr×Obj)} {s:Shared} {σ : St} {H:Hp} {Q:VK} (I:Inv X pins σ H s) (h:zcS cap wi g tt te σ H Q) (fin:zcm X pins σ Q use R) :
 wpAny (model X.prog X.w) X.A (comprehension (.ListComp elt [⟨tg,iter,ifs,0⟩] scope pos) scope X.env fpos (newList []) false (eval iter X.env) use) R X.xe s:=by
 have ok:=CompOk.of okB
 obtain ⟨cl0,hcl,hcl1,hcl2⟩:=zjw X.env scope fun y hy hf=>I.ok.has y.1 (ok.free y hy hf)
 refine wpAny_comprehension_free (use:=use) rfl hs hcl ok.kind ok.loc (thn (hi pins s σ H _ I h) fun xv s1 h1=>thn h1 fun itv s2 h2 => ?_)
 obtain ⟨it,fp,tn,J,H2,e,I2,T,st2,f2,W,⟨m0,w0⟩,turn⟩:=h2
 subst e
 have hlt:∀ b∈fp,b<s2.heap.objs.size:=fun b hb=>let ⟨_,e,_⟩:=T.obj _ _ st2 b hb;Heap.lt_size e
 refine wpAny_newObj_type (zca ?_)
 dsimp only
 generalize hP:s2.heap.push { cls:=.type "list",dict:=none,data:=.seq ([]:List Value).toArray }=P2
 have hC:P2.objs.size=s2.heap.objs.size+1:=by rw [← hP,Heap.size_push]
 have hDC:s2.heap.objs.size≠P2.objs.size:=by rw [hC];exact Nat.ne_of_lt (Nat.lt_succ_self _)
 have hCle:s2.heap.objs.size≤P2.objs.size:=by rw [hC];exact Nat.le_succ _
 have below:∀ b,b<s2.heap.objs.size→b≠P2.objs.size∧b≠s2.heap.objs.size:=fun b hb=>⟨by rw [hC];exact Nat.ne_of_lt (Nat.lt_succ_of_lt hb),Nat.ne_of_lt hb⟩
 have hcc:CellsAt scope X.env (cellsFrom (P2.objs.size+1) scope.names cl0) P2.objs.size (pushCells (P2.push { cls:=.type "dict",data:=.dict #[] }) scope.names) :=
  zfk hcl1 hcl2 I2.ok.inj (fun x c e=>Nat.le_trans (Nat.le_of_lt (let ⟨_,_,ho,_⟩:=I2.cell x c e;Heap.lt_size ho)) hCle) (Heap.size_push ..) ok.cell
 have hns1:(pushCells (P2.push { cls:=.type "dict",data:=.dict #[] }) scope.names).Ns P2.objs.size (fun _=>none):=(Heap.Ns.new P2 (.type "dict")).keeps (pushCells_keeps _ _)
 generalize cellsFrom (P2.objs.size+1) scope.names cl0=cl at hcc ⊢
 have old:∀ b o,s2.heap.get? b=some o→(pushCells (P2.push { cls:=.type "dict",data:=.dict #[] }) scope.names).get? b=some o:=fun b o e=>pushCells_keeps _ _ b o (Heap.get?_push_of_some _ (hP ▸ Heap.get?_push_of_some _ e))
 have hacc:(pushCells (P2.push { cls:=.type "dict",data:=.dict #[] }) scope.names).get? s2.heap.objs.size=some { cls:=.type "list",data:=.seq ([]:List Value).toArray 0 }:=pushCells_keeps _ _ _ _ (Heap.get?_push_of_some _ (hP ▸ Heap.get?_push_size _ rfl))
 generalize pushCells (P2.push { cls:=.type "dict",data:=.dict #[] }) scope.names=g1 at hcc hns1 old hacc ⊢
 have stat:∀ {H':Hp} {pl:List (Addr×Obj)},(∀ b∈fp,H' b=none)→(∀ p∈pl,p.1∉fp)→∀ b∈fp,FpOk (zap X scope N cl P2.objs.size s2 H2 fp) pl H' b:=fun {H' pl} hn hp b hb=>by
  refine ⟨hn b hb,(below b (hlt b hb)).1,fun z => ?_,.inl hb,fun x c e => ?_,fun p hq z => ?_⟩
  ·rcases List.mem_cons.mp (I2.stkSub b z) with q|q
   ·exact (f2 b hb).2.1 q
   ·exact (f2 b hb).2.2.1 q
  ·rcases hcc.from_ x c e with ⟨q,_⟩|⟨q,_⟩
   ·exact (f2 b hb).2.2.2.2.1 x c q
   ·exact Nat.ne_of_gt (Nat.lt_trans (Nat.lt_of_lt_of_le (hlt b hb) hCle) q)
  ·have hq:p∈([]:List (Addr×Obj))++pl:=hq
   rw [List.nil_append] at hq
   exact hp p hq (by rw [z];exact hb)
 have nD:s2.heap.objs.size∉fp:=fun z=>absurd (hlt _ z) (Nat.lt_irrefl _)
 have loop:∀ s3:Shared,s3={ s2 with heap:=g1 } →
  codeAny (model X.prog X.w) X.A (.compLoop (.ListComp elt [⟨tg,iter,ifs,0⟩] scope pos) 0 (.ref it) (.ref s2.heap.objs.size) (compEnvC scope cl P2.objs.size X.env))
   (compPost (model X.prog X.w) X.A X.xe use R (.ref s2.heap.objs.size) P2.objs.size) s3:=by
  rintro s3 rfl
  have I0:=zhC (tk:=s2.toks) ok I2 f2 hlt hcc hCle old hns1
  refine lp (fun n s' => ∃ i ys its k σ' H',Inv (zap X scope N cl P2.objs.size s2 H2 fp) [] σ' H' s'∧tn i s'.heap∧(∀ b∈fp,H' b=none)∧s'.heap.get? s2.heap.objs.size=some { cls:=.type "list",data:=.seq (List.toArray its) k } ∧
   H' s2.heap.objs.size=none∧Vals ys its∧W i n ys σ' H') ?_ m0
   ⟨0,[],[],0,zet cap σ,H2,I0,T.keep _ _ _ st2 (fun b _ o e=>old b o e),fun b hb=>(f2 b hb).1,hacc,I2.hok.fresh (Nat.le_refl _),.nil,w0⟩
  have cat:zeb X P2.objs.size s2 H2 fp:=⟨_,_,I2,f2,hCle⟩
  have ce:∀ e s',ze6 X P2.objs.size e s'→compPost (model X.prog X.w) X.A X.xe use R (.ref s2.heap.objs.size) P2.objs.size (.error e) s':=fun e s' h=>by cases use<;>exact h
  have xe:∀ e s',(zap X scope N cl P2.objs.size s2 H2 fp).xe e s'→notedBy (model X.prog X.w) X.A (compEnvC scope cl P2.objs.size X.env) (fun e s'=>compPost (model X.prog X.w) X.A X.xe use R (.ref s2.heap.objs.size) P2.objs.size (.error e) s') e s':=fun e s' h=>wpAny_mono h (fun _ s2 q=>ce e s2 q) fun e s2 q=>ce e s2 q
  rintro n s4 ⟨i,ys,its,k,σ4,H4,I4,st4,fr4,hd4,hn4,rv4,w4⟩
  obtain ⟨hz,tn4⟩:=turn i n ys σ4 H4 w4
  have J4:Inv (zap X scope N cl P2.objs.size s2 H2 fp) [(s2.heap.objs.size,{ cls:=.type "list",data:=.seq its.toArray k })] σ4 H4 s4:=I4.pins_of fun p hp=>by
   have e:=List.mem_singleton.mp hp
   subst e
   refine ⟨hd4,hn4,hDC,?_,fun v z=>by cases z⟩
   exact fun z=>absurd (Nat.lt_of_lt_of_le (by
    rcases List.mem_cons.mp (I2.stkSub _ z) with q|q
    ·exact Nat.lt_of_le_of_lt (Nat.le_of_eq q) I2.lt
    ·obtain ⟨_,o,ho,_⟩:=I2.ok.funs.mem q
     exact Nat.lt_of_lt_of_le (Heap.lt_size ho) I2.sz) (Nat.le_refl s2.heap.objs.size)) (Nat.lt_irrefl _)
  have np:∀ p ∈ [(s2.heap.objs.size,({ cls:=.type "list",data:=.seq its.toArray k }:Obj))],p.1∉fp:=fun p hp=>by
   have e:=List.mem_singleton.mp hp
   subst e;exact nD
  rcases tn4 with ⟨stop,qn⟩|⟨go,step⟩
  ·refine wpAny_mono (T.done (zap X scope N cl P2.objs.size s2 H2 fp) rfl rfl rfl hc i _ s4 σ4 H4 (fun _ _=>False) J4 (stat fr4 np) st4 stop) (fun r s5 h5 => ?_) fun _ _ f=>f.elim
   obtain ⟨rfl,I5⟩:=h5
   obtain ⟨m,hm,_⟩:=id I5.loc
   have p5:=I5.pin (s2.heap.objs.size,_) (List.mem_append_right _ List.mem_cons_self)
   refine fin _ _ m _ _ hm (Nat.ne_of_gt (Nat.lt_of_lt_of_le I2.lt hCle)) (I2.nofs hCle) (Nat.le_trans I2.sz hCle) (fun x c e z => ?_) (fun p hp z => ?_) fun h' hs'=>zh2 I2 f2 hCle (Nat.le_refl _) hDC (I5.pins_of fun p hp=>nomatch hp) p5.1 p5.2.1 rv4 (Nat.le_of_lt hz) hs' ⟨by rw [zai (Ne.symm hDC)];exact I5.free,qn _ p5.2.1⟩
   ·obtain ⟨v,o,ho,hd⟩:=I2.cell x c e
    have:=Heap.lt_size ho
    rw [z] at this
    exact absurd (Nat.lt_of_lt_of_le this hCle) (Nat.lt_irrefl _)
   ·have:=Heap.lt_size (I2.pin p hp).1
    rw [z] at this
    exact absurd (Nat.lt_of_lt_of_le this hCle) (Nat.lt_irrefl _)
  ·refine wpAny_mono (T.item (zap X scope N cl P2.objs.size s2 H2 fp) rfl rfl rfl hc i _ s4 σ4 H4 (fun _ _=>False) J4 (stat fr4 np) st4 go) (fun r s5 h5 => ?_) fun _ _ f=>f.elim
   obtain ⟨u,rfl,h5⟩:=h5
   refine wpAny_mono h5 (fun _ s6 h6 => ?_) fun _ _ f=>f.elim
   obtain ⟨x,H6,I6,r6,y6,st6,fr6⟩:=h6
   have I6':=I6.pinned (stat fr6 np) (T.obj _ _ st6)
   refine wpAny_mono (hg cl P2.objs.size s2 H2 fp _ s6 σ4 H6 x u _ I6' r6 (step x H6 y6)) (fun _ s7 h7 => ?_) xe
   obtain ⟨σ7,H7,I7,q7⟩:=h7
   refine ht cl P2.objs.size s2 H2 fp cat ce I7 q7 fun bv s8 H8 I8 q8 => ?_
   have keepT:∀ (H9:Hp) (s9:Shared) (σ9:St),Inv (zap X scope N cl P2.objs.size s2 H2 fp) ([(s2.heap.objs.size,{ cls:=.type "list",data:=.seq its.toArray k })]++zdZ fp s6.heap) σ9 H9 s9→(∀ b∈fp,∀ o,s6.heap.get? b=some o→s9.heap.get? b=some o)∧∀ b∈fp,H9 b=none:=fun H9 s9 σ9 I9=>by
    refine ⟨fun b hb o e=>(I9.pin (b,o) (List.mem_append_right _ (List.mem_append_right _ (zbq hb e)))).1,fun b hb => ?_⟩
    obtain ⟨o,e,d⟩:=T.obj _ _ st6 b hb
    exact (I9.pin (b,o) (List.mem_append_right _ (List.mem_append_right _ (zbq hb e)))).2.1
   have p8:=I8.pin (s2.heap.objs.size,_) (List.mem_append_right _ (List.mem_append_left _ List.mem_cons_self))
   cases bv with
   | false =>
    rw [if_neg (by simp)] at q8 ⊢
    obtain ⟨m',hm',w8⟩:=q8
    obtain ⟨z1,z2⟩:=keepT _ _ _ I8
    exact ⟨m',hm',i+1,ys,its,k,σ7,H8,I8.pins_of (fun p hp=>nomatch hp),T.keep _ _ _ st6 z1,z2,p8.1,p8.2.1,rv4,w8⟩
   | true =>
    rw [if_pos rfl] at q8 ⊢
    refine wpAny_mono (he cl P2.objs.size s2 H2 fp cat _ s8 σ7 H8 _ I8 q8) (fun yv s9 h9 => ?_) xe
    obtain ⟨y,H9,I9,ry,m',hm',w9⟩:=h9
    have p9:=I9.pin (s2.heap.objs.size,_) (List.mem_append_right _ (List.mem_append_left _ List.mem_cons_self))
    have hl:=rv4.length
    refine append_at (hsz:=by show its.toArray.size≤sizeLine;rw [List.size_toArray,← hl];exact Nat.le_of_lt hz) p9.1 fun h10 hs10 hd10 => ?_
    have I10:Inv (zap X scope N cl P2.objs.size s2 H2 fp) [] σ7 H9 { s9 with heap:=h10 }:=(I9.pins_of (pins':=[]) fun p hp=>nomatch hp).turned (t':=s9.toks) (it:=s2.heap.objs.size) (fun b o hb e=>(hs10.2 b hb).trans e) p9.2.1 hDC (.inr (Nat.le_refl _))
     (fun x c e z=>by
      obtain ⟨v,o,ho,hd⟩:=I9.cell x c e
      rw [z,p9.1] at ho;cases ho;cases hd) (fun p hp=>absurd hp (by show ¬ p∈([]:List (Addr×Obj))++[];simp))
    obtain ⟨z1,z2⟩:=keepT _ _ _ I9
    refine ⟨m',hm',i+1,ys++[y],its++[yv],k+1,σ7,H9,I10,T.keep _ _ _ st6 (fun b hb o e => ?_),z2,?_,p9.2.1,Vals.append rv4 (.cons ry .nil),w9⟩
    ·have hb':b≠s2.heap.objs.size:=fun z=>nD (by rw [← z];exact hb)
     exact (hs10.2 b hb').trans (z1 b hb o e)
    ·refine hd10.trans ?_
     simp
 exact codeAny_compStart_list (loop _ rfl) (T.self _ 0 _ _ _ (T.keep _ _ _ st2 (fun b _ o e=>old b o e)) (loop _ rfl))
theorem zhs (N:List Str)(cap:List (Option Nat))(hc:X.calm=true)(okB:za8 scope X.env N X.N cap=true)(hi:PI X tg iter wi)(hg:∀ cl C s H ex,PG (zap X scope N cl C s H ex) tg g)(he:∀ cl C s H ex,zeb X C s H ex→PE (zap X scope N cl C s H ex) elt te)
 (hs:∀ x,foldedSetIterable iter X.env x=pure x) {use:Option (Value→Sem Unit)} {R:Value→Shared→Prop} {fpos:Pos} {pins:List (Addr×Obj)} {s:Shared} {σ : St} {H:Hp} {Q:VK} (I:Inv X pins σ H s) (h:zgo cap wi g te σ H Q) (fin:zcm X pins σ Q use R) :
 wpAny (model X.prog X.w) X.A (comprehension (.ListComp elt [⟨tg,iter,[],0⟩] scope pos) scope X.env fpos (newList []) false (eval iter X.env) use) R X.xe s :=
 zeQ (tt:=fun _ H q=>q true H) (test:=fun _ _ Q s=>Q true s) N (fun I turn n h=>PySem.W.kcp_loop I turn n h) (fun _ _ _ _ _ _ _ _ _ _ _ _ _ _ I q k=>k true _ _ I q) cap hc okB hi hg he hs I h fin
theorem zif (N:List Str)(cap:List (Option Nat))(hc:X.calm=true)(okB:za8 scope X.env N X.N cap=true)(hi:PI X tg iter wi)(hg:∀ cl C s H ex,PG (zap X scope N cl C s H ex) tg g)(he:∀ cl C s H ex,zeb X C s H ex→PE (zap X scope N cl C s H ex) elt te)
 (hs:autoParam (∀ x,foldedSetIterable iter X.env x=pure x) zaw._auto_1):PE X (.ListComp elt [⟨tg,iter,[],0⟩] scope pos) (zgo cap wi g te):=by
 intro pins s σ H Q I h
 rw [eval_ListComp]
 exact zhs N cap hc okB hi hg he hs I h zeH
theorem zjv (N:List Str)(cap:List (Option Nat))(hc:X.calm=true)(okB:za8 scope X.env N X.N cap=true)(hi:PI X tg iter wi)(hg:∀ cl C s H ex,PG (zap X scope N cl C s H ex) tg g)(he:∀ cl C s H ex,PE (zap X scope N cl C s H ex) elt te)
 (hs:autoParam (∀ x,foldedSetIterable iter X.env x=pure x) zaw._auto_1):PE X (.ListComp elt [⟨tg,iter,[],0⟩] scope pos) (zgo cap wi g te):=zif N cap hc okB hi hg (fun cl C s H ex _=>he cl C s H ex) hs
end
end L2
namespace L2
open PySem PySem.Spec PyProof.Rows
section
variable {X:Cx}
noncomputable def maxI:List Int→Int
 | []=>0
 | x::r=>r.foldl max x
noncomputable def minI:List Int→Int
 | []=>0
 | x::r=>r.foldl min x
theorem zbU:∀ (r:List Int) (x:Int),x≤r.foldl max x∧(∀ y∈r,y≤r.foldl max x)∧(r.foldl max x=x∨r.foldl max x∈r)
 | [],x=>⟨Int.le_refl _,(fun _ h=>nomatch h),.inl rfl⟩
 | y::r,x=>by
  refine zc0c (zbU r (max x y)) fun h1 h2 h3 => ?_
  show x≤r.foldl max (max x y)∧(∀ z∈y::r,z≤r.foldl max (max x y))∧(r.foldl max (max x y)=x∨r.foldl max (max x y)∈y::r)
  refine ⟨by omega,fun z hz => ?_,?_⟩
  ·rcases List.mem_cons.mp hz with rfl|hz
   ·omega
   ·exact h2 z hz
  ·rcases h3 with h3|h3
   ·by_cases hxy:x≤y
    ·right;rw [h3,Int.max_eq_right hxy];exact List.mem_cons_self
    ·left;rw [h3,Int.max_eq_left (by omega)]
   ·right;exact List.mem_cons_of_mem _ h3
theorem zhf {l:List Int}(h:l ≠ []):maxI l∈l∧∀ y∈l,y≤maxI l:=by
 cases l with
 | nil=>exact absurd rfl h
 | cons x r =>
  refine zc0c (zbU r x) fun h1 h2 h3 => ?_
  refine ⟨?_,fun y hy => ?_⟩
  ·rcases h3 with h3|h3
   ·show r.foldl max x∈x::r
    rw [h3];exact List.mem_cons_self
   ·exact List.mem_cons_of_mem _ h3
  ·rcases List.mem_cons.mp hy with rfl|hy
   ·exact h1
   ·exact h2 y hy
theorem zfD {l:List Int}{M:Int}(h1:M∈l)(h2:∀ y∈l,y≤M):M=maxI l:=by
 obtain ⟨q1,q2⟩:=zhf (l:=l) (by intro e;rw [e] at h1;cases h1)
 have a:=q2 M h1
 have b:=h2 _ q1
 omega
theorem zbW:∀ (r:List Int) (x:Int),r.foldl min x≤x∧(∀ y∈r,r.foldl min x≤y)∧(r.foldl min x=x∨r.foldl min x∈r)
 | [],x=>⟨Int.le_refl _,(fun _ h=>nomatch h),.inl rfl⟩
 | y::r,x=>by
  refine zc0c (zbW r (min x y)) fun h1 h2 h3 => ?_
  show r.foldl min (min x y)≤x∧(∀ z∈y::r,r.foldl min (min x y)≤z)∧(r.foldl min (min x y)=x∨r.foldl min (min x y)∈y::r)
  refine ⟨by omega,fun z hz => ?_,?_⟩
  ·rcases List.mem_cons.mp hz with rfl|hz
   ·omega
   ·exact h2 z hz
  ·rcases h3 with h3|h3
   ·by_cases hxy:x≤y
    ·left;rw [h3,Int.min_eq_left hxy]
    ·right;rw [h3,Int.min_eq_right (by omega)];exact List.mem_cons_self
   ·right;exact List.mem_cons_of_mem _ h3
theorem zgP {l:List Int}(h:l ≠ []):minI l∈l∧∀ y∈l,minI l≤y:=by
 cases l with
 | nil=>exact absurd rfl h
 | cons x r =>
  refine zc0c (zbW r x) fun h1 h2 h3 => ?_
  refine ⟨?_,fun y hy => ?_⟩
  ·rcases h3 with h3|h3
   ·show r.foldl min x∈x::r
    rw [h3];exact List.mem_cons_self
   ·exact List.mem_cons_of_mem _ h3
  ·rcases List.mem_cons.mp hy with rfl|hy
   ·exact h1
   ·exact h2 y hy
theorem zgS {l:List Int}{M:Int}(h1:M∈l)(h2:∀ y∈l,M≤y):M=minI l:=by
 obtain ⟨q1,q2⟩:=zgP (l:=l) (by intro e;rw [e] at h1;cases h1)
 have a:=q2 M h1
 have b:=h2 _ q1
 omega
theorem zgF (hc:X.calm=true):zas X (.builtin "max") (fun xs H Q => ∃ a ns,xs=[.ref a]∧SqL X.K H a (ns.map V.int)∧ns ≠ []∧Q (.int (maxI ns)) H):=by
 intro pins s σ H xs us Q I r h
 refine zc2d h fun a ns zr2 hl hne q => ?_
 obtain rfl:=zr2
 refine zc1b (zcA r) fun u zr1 ru => ?_
 obtain rfl:=zr1
 obtain rfl:u=Value.ref a:=ru
 refine zc1c (I.list hl) fun its rv p hz => ?_
 have hi:IntsAre its ns:=zbK rv
 obtain ⟨ys,e⟩:=hi.allInts.items
 have hns:ns=ys.toList.map (·.1):=by
  rw [← hi.numsOf,← nums_intItems,← e]
 have hsz:0<ys.size:=by
  have h3:0<ns.length:=List.length_pos_iff.mpr hne
  rw [hns,List.length_map,Array.length_toList] at h3;exact h3
 have hl':=p.isList
 rw [e] at hl'
 refine max_intList (I.ok.hd hc) hl' hsz fun v h' tk hv hk => ?_
 obtain ⟨t,rfl⟩:=intItems_at hv
 obtain ⟨h1,h2⟩:=argBest_gt (numAt ys) (ys.size-1)
 refine ⟨.int (maxI ns),H,I.kept hk,⟨t,?_⟩,q⟩
 congr 1
 refine zfD ?_ fun b hb => ?_
 ·rw [hns,numAt_eq];exact PySem.getD_mem (by rw [List.length_map,Array.length_toList];omega)
 ·rw [hns] at hb
  refine zc1b (PySem.mem_getD hb) fun j hj zr2 => ?_
  obtain rfl:=zr2
  rw [List.length_map,Array.length_toList] at hj
  rw [← numAt_eq];exact h2 j (by omega)
theorem zgI (hc:X.calm=true):zas X (.builtin "min") (fun xs H Q => ∃ a ns,xs=[.ref a]∧SqL X.K H a (ns.map V.int)∧ns ≠ []∧Q (.int (minI ns)) H):=by
 intro pins s σ H xs us Q I r h
 refine zc2d h fun a ns zr2 hl hne q => ?_
 obtain rfl:=zr2
 refine zc1b (zcA r) fun u zr1 ru => ?_
 obtain rfl:=zr1
 obtain rfl:u=Value.ref a:=ru
 refine zc1c (I.list hl) fun its rv p hz => ?_
 have hi:IntsAre its ns:=zbK rv
 obtain ⟨ys,e⟩:=hi.allInts.items
 have hns:ns=ys.toList.map (·.1):=by
  rw [← hi.numsOf,← nums_intItems,← e]
 have hsz:0<ys.size:=by
  have h3:0<ns.length:=List.length_pos_iff.mpr hne
  rw [hns,List.length_map,Array.length_toList] at h3;exact h3
 have hl':=p.isList
 rw [e] at hl'
 refine min_intList (I.ok.hd hc) hl' hsz fun v h' tk hv hk => ?_
 obtain ⟨t,rfl⟩:=intItems_at hv
 obtain ⟨h1,h2⟩:=argBest_lt (numAt ys) (ys.size-1)
 refine ⟨.int (minI ns),H,I.kept hk,⟨t,?_⟩,q⟩
 congr 1
 refine zgS ?_ fun b hb => ?_
 ·rw [hns,numAt_eq];exact PySem.getD_mem (by rw [List.length_map,Array.length_toList];omega)
 ·rw [hns] at hb
  refine zc1b (PySem.mem_getD hb) fun j hj zr2 => ?_
  obtain rfl:=zr2
  rw [List.length_map,Array.length_toList] at hj
  rw [← numAt_eq];exact h2 j (by omega)
theorem zim:zas X (.builtin "isinstance") (fun xs H Q => ∃ x n t b,xs=[x,.ty n]∧TyOf X.K H x t∧PySem.W.kitOne X.K t (.type n)=some b∧Q (.bl b) H):=by
 intro pins s σ H xs us Q I r h
 refine zc4a h fun x n t b zz=>zc0d zz fun zr4 ty e q => ?_
 obtain rfl:=zr4
 refine zc2c (zjh r) fun u w' zr2 rx rn => ?_
 obtain rfl:=zr2
 obtain rfl:w'=Value.type n:=rn
 exact zgQ I rx ty e fun tk=>⟨.bl b,H,I.tok tk,rfl,q⟩
def zak (P:Program)(w:World)(K:PySem.W.Frag)(mg:Str→Option Value)(base:Heap)(name:Str)(k:Nat)(ps:List Str)(sp:Sp):Prop :=
 ∃ f fd,FnOk P w K mg base CX0 k f fd ps sp∧zda K fd ps []∧PySem.W.keepIn K (.ref f)=true∧mg name=some (.ref f)
theorem zak.mono {P:Program}{w:World}{K:PySem.W.Frag}{mg:Str→Option Value}{base:Heap}{name:Str}{j k:Nat}{ps:List Str}{sp:Sp}(c:zak P w K mg base name j ps sp)(h:j≤k):zak P w K mg base name k ps sp:=by
 refine zc2b c fun f fd F r => ?_
 exact ⟨f,fd,F.mono h,r⟩
theorem zij {name:Str}{k:Nat}{ps:List Str}{sp:Sp}{p pos:Pos}{e:Expr}{es:List Expr}{t:TA}(c:zak X.prog X.w X.K X.mg X.base name k ps sp)(hr:Room k X.A)(hg:Gl X name)(ha:PA X (e::es) t)
 (hdb:autoParam ((name == ("__debug__" : Str))=false) zav._auto_1) (he:starEach (e::es) X.env=(false,eval e X.env)::starEach es X.env:=by rfl) (hpl:(backTo pos (starEach es X.env)).any (·.1)=false:=by rfl) :
 PE X (.Call (.Name name p) (e::es) [] pos) (zkU sp [] E0 t):=by
 refine zc2d c fun f fd F b hk hm => ?_
 exact zj5 F hr hg hm hk b .nil zlf ha hdb he hpl
end
theorem zaB {H:Hp}{p:Addr}(h:H p=none)(o:HO):Same H (upd H p o):=fun b u q=>by rw [zai (zar q h)];exact q
theorem zfx {n:Nat}(h:n≤1000):n≤sizeLine:=Nat.le_of_lt (zea h)
theorem zdp {H H':Hp}{l:Addr}(o:HO)(s:Same H H')(h:H l=none):Same H (upd H' l o):=fun b u e=>by
 rw [zai (zar e h)];exact s b u e
theorem zbF:bootBuiltins "len" = some (.builtin "len"):=boot_len
theorem ziN:bootBuiltins "max" = some (.builtin "max"):=boot_max
theorem ziL:bootBuiltins "min" = some (.builtin "min"):=boot_min
theorem zbD:bootBuiltins "isinstance" = some (.builtin "isinstance"):=boot_isinstance
theorem zd5:bootBuiltins "sorted" = some (.builtin "sorted"):=boot_sorted
theorem zkX:bootBuiltins "sum" = some (.builtin "sum"):=boot_sum
theorem zlF:bootBuiltins "int" = some (.type "int"):=boot_int
theorem zko:bootBuiltins "bool" = some (.type "bool"):=boot_bool
theorem zhe:bootBuiltins "str" = some (.type "str"):=boot_str
theorem zbj:bootBuiltins "list" = some (.type "list"):=boot_list
theorem zin:bootBuiltins "tuple" = some (.type "tuple"):=boot_tuple
end L2
namespace L2
open PySem PySem.Spec PyProof.Rows
noncomputable def Once (r:List (Int×Int)):Prop:=(r.map (·.1)).Nodup
end L2
namespace L2
open PySem PyProof.Rows
theorem zlj {l r k x:Nat}(h:l<r)(gap:r-l≤k-x):∃ m,(l+r) / 2=m∧l≤m∧m<r∧m-l≤k-(x+1)∧r-(m+1)≤k-(x+1):=by
 have a:l≤(l+r) / 2:=by omega
 have b:(l+r) / 2<r:=by omega
 generalize (l+r) / 2=m at a b ⊢
 exact ⟨m,rfl,a,b,Nat.le_pred_of_lt (Nat.lt_of_lt_of_le (Nat.sub_lt_sub_right a b) gap),Nat.pred_le_pred (Nat.le_trans (Nat.sub_le_sub_left a r) gap)⟩
structure Wk (lt:Nat→Nat→Bool):Prop where
 asy:∀ i j,lt i j=true→lt j i=false
 neg:∀ i j k,lt i k=true→lt i j=true∨lt j k=true
noncomputable def Bef (lt:Nat→Nat→Bool)(i j:Nat):Prop:=lt i j=true∨(lt j i=false∧i<j)
section
variable {lt:Nat→Nat→Bool}(W:Wk lt)
include W
theorem Bef.no {i j:Nat}(h:Bef lt i j):lt j i=false:=by
 rcases h with h|h
 ·exact W.asy _ _ h
 ·exact h.1
theorem Bef.trans {i j k:Nat}(h1:Bef lt i j)(h2:Bef lt j k):Bef lt i k:=by
 have n1:=Bef.no W h1
 have n2:=Bef.no W h2
 have n3:lt k i=false:=by
  cases q:lt k i with
  | false=>rfl
  | true =>
   rcases W.neg k j i q with z|z
   ·rw [n2] at z;exact zqb z
   ·rw [n1] at z;exact zqb z
 rcases h1 with a|a
 ·rcases W.neg i k j a with z|z
  ·exact .inl z
  ·rw [n2] at z;exact zqb z
 ·rcases h2 with b|b
  ·rcases W.neg j i k b with z|z
   ·rw [a.1] at z;exact zqb z
   ·exact .inl z
  ·exact .inr ⟨n3,by omega⟩
end
theorem zdM:∀ {n:Nat},2≤n→n<64→minRun' n n 0=n
 | 0,h,_=>by omega
 | f+1,_,h=>by
  rw [minRun'_succ,if_pos h]
noncomputable def gx (ix:Array Nat)(k:Nat):Nat:=(ix[k]?).getD 0
theorem zi4 {ix:Array Nat}{k:Nat}(h:k<ix.size):ix[k]? = some (gx ix k):=by
 unfold gx
 rw [Array.getElem?_eq_getElem h]
 rfl
theorem zbI {ix:Array Nat}{src d:Nat}(hs:src<ix.size)(hd:d≤src)(k:Nat):gx (bubble ix src d) k=if k=src-d then gx ix src else if src-d<k∧k≤src then gx ix (k-1) else gx ix k:=by
 unfold gx
 rw [getElem?_bubble hs d hd k]
 repeat' split
 all_goals rfl
theorem za2 {ix:Array Nat}{i j:Nat}(hj:j≤ix.size)(k:Nat):gx (mirror ix i j ((j-i) / 2)) k=if i≤k∧k<j then gx ix (i+j-1-k) else gx ix k:=by
 unfold gx
 rw [getElem?_mirror_all hj k]
 split
 all_goals rfl
theorem zhU {α β : Type}(f : α → β)(xs:Array α)(i j:Nat):(xs.map f).swapIfInBounds i j=(xs.swapIfInBounds i j).map f:=by
 apply Array.ext_getElem?
 intro k
 by_cases hi:i<xs.size
 ·by_cases hj:j<xs.size
  ·rw [getElem?_swapIB (by simpa -iota using hi) (by simpa -iota using hj),Array.getElem?_map,Array.getElem?_map,Array.getElem?_map,Array.getElem?_map,getElem?_swapIB hi hj]
   repeat' split
   all_goals rfl
  ·rw [Array.swapIfInBounds_def,Array.swapIfInBounds_def,dif_pos (by simpa -iota using hi),dif_neg (by simpa -iota using hj),dif_pos hi,dif_neg hj]
 ·rw [Array.swapIfInBounds_def,Array.swapIfInBounds_def,dif_neg (by simpa -iota using hi),dif_neg hi]
theorem zcz {α β γ : Type}(f : α → β)(p q : γ → Nat):∀ (l:List γ) (xs:Array α),l.foldl (fun a k=>a.swapIfInBounds (p k) (q k)) (xs.map f)=(l.foldl (fun a k=>a.swapIfInBounds (p k) (q k)) xs).map f
 | [],xs=>rfl
 | k::l,xs=>by
  rw [List.foldl_cons,List.foldl_cons,zhU,zcz f p q l]
theorem zf0 {α β : Type}(f : α → β)(xs:Array α)(src d:Nat):bubble (xs.map f) src d=(bubble xs src d).map f:=zcz f _ _ _ xs
theorem zbr {α β : Type}(f : α → β)(xs:Array α)(i j d:Nat):mirror (xs.map f) i j d=(mirror xs i j d).map f:=zcz f _ _ _ xs
structure Pl (n:Nat)(ix:Array Nat)(k:Nat):Prop where
 size:ix.size=n
 perm:ix.Perm (Array.range n)
 pre:∀ a,a<k→gx ix a<k
 suf:∀ a,k≤a→a<n→gx ix a=a
theorem Pl.lt {n k a:Nat}{ix:Array Nat}(h:Pl n ix k)(hk:k≤n)(ha:a<n):gx ix a<n:=by
 by_cases c:a<k
 ·exact Nat.lt_of_lt_of_le (h.pre a c) hk
 ·rw [h.suf a (by omega) ha];exact ha
theorem Pl.succ {n k:Nat}{ix:Array Nat}(h:Pl n ix k)(hk:k<n):Pl n ix (k+1):=by
 refine ⟨h.size,h.perm,fun a ha => ?_,fun a h1 h2=>h.suf a (by omega) h2⟩
 by_cases c:a<k
 ·have:=h.pre a c
  omega
 ·have:a=k:=by omega
  subst this
  rw [h.suf a (Nat.le_refl _) hk];omega
theorem Pl.rev {n k i:Nat}{ix:Array Nat}(h:Pl n ix k)(hk:k≤n)(hi:i≤k):Pl n (mirror ix i k ((k-i) / 2)) k:=by
 have hz:k≤ix.size:=by rw [h.size];exact hk
 refine ⟨by rw [mirror_size];exact h.size,(mirror_perm _ _ _ _).trans h.perm,fun a ha => ?_,fun a h1 h2 => ?_⟩
 ·rw [za2 hz]
  split
  ·exact h.pre _ (by omega (config:={}))
  ·exact h.pre a ha
 ·rw [za2 hz,if_neg (by omega (config:={}))]
  exact h.suf a h1 h2
def Up (lt:Nat→Nat→Bool)(ix:Array Nat)(k:Nat):Prop:=∀ a b,a<b→b<k→Bef lt (gx ix a) (gx ix b)
def Dn (lt:Nat→Nat→Bool)(ix:Array Nat)(k:Nat):Prop:=∀ a b,a<b→b<k→Bef lt (gx ix b) (gx ix a)
structure SB (it:Nat→Keyed)(kind:SortKind)(ix:Array Nat)(st:SortSt):Prop where
 arr:arrOf st=ix.map it
 kd:kindOf st=kind
 fl:failedOf st=none
 pd:pendingOf st = #[]
noncomputable def Orc (prog:Program)(w:World)(A:Around)(s:Shared)(kind:SortKind)(it:Nat→Keyed)(lt:Nat→Nat→Bool)(n:Nat):Prop :=
 ∀ i j,i<n→j<n→∀ (E:Value→Shared→Prop) (Q:Bool→Shared→Prop),Q (lt i j) s→wpAny (model prog w) A (keyLt' kind (it i).1 (it j).1) Q E s
section
variable {prog:Program}{w:World}{A:Around}{E:Value→Shared→Prop}{s:Shared}{kind:SortKind}{it:Nat→Keyed}{lt:Nat→Nat→Bool}{n:Nat}{ix:Array Nat}{st:SortSt}
theorem zgY {a b k:Nat}{Q:Option Bool→SortSt→Prop}(O:Orc prog w A s kind it lt n)(B:SB it kind ix st)(L:Pl n ix k)(hk:k≤n)(ha:a<n)(hb:b<n)(h:Q (some (lt (gx ix a) (gx ix b))) st) :
 wpS (model prog w) A E s (ltAt' a b) Q st:=by
 have e1:(arrOf st)[a]? = some (it (gx ix a)):=by rw [B.arr,Array.getElem?_map,zi4 (by rw [L.size];exact ha)];rfl
 have e2:(arrOf st)[b]? = some (it (gx ix b)):=by rw [B.arr,Array.getElem?_map,zi4 (by rw [L.size];exact hb)];rfl
 rw [ltAt'_eq]
 have go:wpS (model prog w) A E s (lt' (it (gx ix a)) (it (gx ix b))) Q st:=by
  rw [lt'_eq]
  refine wpS_bind (wpS_get ?_)
  rw [B.kd]
  exact wpS_bind (wpS_lift (wpAny_attempt (O _ _ (L.lt hk ha) (L.lt hk hb) _ _ ⟨rfl,wpS_pure h⟩)))
 refine wpS_bind (wpS_get ?_)
 show wpS _ _ _ _ (elem' (arrOf st) a >>= fun x=>elem' (arrOf st) b >>= fun y=>lt' x y) Q st
 rw [elem'_eq,elem'_eq,e1,e2]
 exact wpS_bind (wpS_pure (wpS_bind (wpS_pure go)))
theorem SB.set {jx:Array Nat}(B:SB it kind ix st){xs:Array Keyed}(e:xs=jx.map it):SB it kind jx (setArr st xs):=⟨e,B.kd,B.fl,B.pd⟩
variable (W:Wk lt)(O:Orc prog w A s kind it lt n)
include W O
theorem zlc {ok:Nat}{Q:Bool→SortSt→Prop}(hok:ok≤n)(h1:1≤ok)(B:SB it kind ix st)(L:Pl n ix ok)(U:Up lt ix ok)
 (h:∀ jx st',SB it kind jx st'→Pl n jx n→Up lt jx n→Q true st'):wpS (model prog w) A E s (binarySort' 0 n ok) Q st:=by
 rw [binarySort'_eq]
 simp only [Nat.zero_add]
 have hm:max ok 1=ok:=by omega
 rw [hm]
 refine wpS_bind (wpS_mono (wpS_forRange (I:=fun k c st'=>c=(none,())∧∃ jx,SB it kind jx st'∧Pl n jx k∧Up lt jx k) (Q:=fun c st'=>c=(none,())∧∃ jx,SB it kind jx st'∧Pl n jx n∧Up lt jx n) ?_ ?_ ⟨rfl,ix,B,L,U⟩) ?_)
 ·rintro k c sk hk1 hk2 ⟨rfl,jx,Bk,Lk,Uk⟩
  have ek:gx jx k=k:=Lk.suf k (Nat.le_refl _) hk2
  refine wpS_bind (wpS_mono (wpS_forRange (I:=fun x c sx=>sx=sk∧∃ l r,c=(none,l,r)∧l≤r∧r≤k∧r-l≤k-x∧(∀ i,i<l→lt k (gx jx i)=false)∧(∀ i,r≤i→i<k→lt k (gx jx i)=true))
   (Q:=fun c sx=>sx=sk∧∃ l r,c=(none,l,r)∧l≤k∧(∀ i,i<l→lt k (gx jx i)=false)∧(∀ i,l≤i→i<k→lt k (gx jx i)=true)) ?_ ?_ ⟨rfl,0,k,rfl,by omega,by omega,by omega,fun i hi=>by omega,fun i a b=>by omega⟩) ?_)
  ·rintro x c sx _ hx ⟨rfl,l,r,rfl,lr,rk,gap,lo,hi⟩
   dsimp only
   by_cases ge:l ≥ r
   ·rw [if_pos ge]
    have e:l=r:=by omega
    subst e
    exact wpS_pure ⟨rfl,l,l,rfl,rk,lo,hi⟩
   ·rw [if_neg ge]
    refine zc1e (zlj (Nat.lt_of_not_le ge) gap) fun m hm m1 m2 m3 m4 => ?_
    rw [hm]
    have mk:=Nat.lt_of_lt_of_le m2 rk
    refine wpS_bind (zgY O Bk Lk (Nat.le_of_lt hk2) hk2 (Nat.lt_trans mk hk2) ?_)
    rw [ek]
    cases q:lt k (gx jx m) with
    | true =>
     simp only [if_true]
     refine wpS_pure ⟨rfl,l,m,rfl,m1,Nat.le_of_lt mk,m3,lo,fun i a b => ?_⟩
     by_cases im:i=m
     ·rw [im];exact q
     ·rcases W.neg k (gx jx i) _ q with z|z
      ·exact z
      ·rw [Bef.no W (Uk m i (Nat.lt_of_le_of_ne a (Ne.symm im)) b)] at z;exact zqb z
    | false =>
     simp only [Bool.false_eq_true,if_false]
     refine wpS_pure ⟨rfl,m+1,r,rfl,m2,rk,m4,fun i a => ?_,hi⟩
     by_cases im:i=m
     ·rw [im];exact q
     ·cases z:lt k (gx jx i) with
      | false=>rfl
      | true =>
       rcases W.neg k (gx jx m) _ z with y|y
       ·rw [q] at y;exact zqb y
       ·rw [Bef.no W (Uk i m (Nat.lt_of_le_of_ne (Nat.le_of_lt_succ a) im) mk)] at y;exact zqb y
  ·rintro c sx ⟨rfl,l,r,rfl,lr,rk,gap,lo,hi⟩
   have e:l=r:=by omega
   subst e
   exact ⟨rfl,l,l,rfl,rk,lo,hi⟩
  ·rintro c sx ⟨rfl,l,r,rfl,lk,lo,hi⟩
   show wpS _ _ _ _ (moveDown' k l >>= fun _=>pure (ForInStep.yield (none,()))) _ _
   rw [moveDown'_eq]
   have hs:k<jx.size:=by rw [Lk.size];exact hk2
   refine wpS_bind (wpS_modify (wpS_pure ⟨rfl,bubble jx k (k-l),Bk.set (by rw [Bk.arr,zf0]),⟨by rw [bubble_size];exact Lk.size,(bubble_perm _ _ _).trans Lk.perm,fun a ha => ?_,fun a a1 a2 => ?_⟩,fun a b ab bk => ?_⟩))
   ·rw [zbI hs (by omega)]
    repeat' split
    ·rw [ek];omega
    ·have:=Lk.pre (a-1) (by omega)
     omega
    ·by_cases c:a<k
     ·have:=Lk.pre a c
      omega
     ·have:a=k:=by omega
      subst this
      rw [ek];omega
   ·rw [zbI hs (by omega),if_neg (by omega),if_neg (by omega)]
    exact Lk.suf a (by omega) a2
   ·rw [zbI hs (by omega),zbI hs (by omega),show k-(k-l)=l by omega,ek]
    repeat' split
    all_goals first
     | (exfalso;omega)
     | exact Uk _ _ (by omega) (by omega)
     | exact .inl (hi _ (by omega) (by omega))
     | exact .inr ⟨lo _ (by omega),Lk.pre _ (by omega)⟩
 ·rintro c sk ⟨rfl,jx,b1,b2,b3⟩
  have e:max ok n=n:=by omega
  rw [e] at b2 b3
  exact ⟨rfl,jx,b1,b2,b3⟩
 ·rintro c sk ⟨rfl,jx,b1,b2,b3⟩
  exact wpS_pure (h jx sk b1 b2 b3)
theorem zi7 {a:Nat}{Q:AscSt→SortSt→Prop}(ha:1≤a)(han:a≤n)(B:SB it kind ix st)(L:Pl n ix a)(U:Up lt ix a)
 (h:∀ m,a≤m→m≤n→Pl n ix m→Up lt ix m→(m=n∨lt m (gx ix (m-1))=true)→Q (none,m) st):wpS (model prog w) A E s (ascLoop a n) Q st:=by
 unfold ascLoop
 refine wpS_forRange (I:=fun x c sx=>sx=st∧c=(none,x)∧Pl n ix x∧Up lt ix x) ?_ ?_ ⟨rfl,rfl,L,U⟩
 ·rintro x c sx ax xn ⟨rfl,rfl,Lx,Ux⟩
  dsimp only
  refine wpS_bind (zgY O B Lx (by omega) xn (by omega) ?_)
  have ex:gx ix x=x:=Lx.suf x (Nat.le_refl _) xn
  rw [ex]
  cases q:lt x (gx ix (x-1)) with
  | true =>
   simp only [if_true]
   exact wpS_pure (h x ax (by omega) Lx Ux (.inr q))
  | false =>
   simp only [Bool.false_eq_true,if_false]
   refine wpS_pure ⟨rfl,rfl,Lx.succ xn,fun i j ij jx => ?_⟩
   have last:Bef lt (gx ix (x-1)) x:=.inr ⟨q,Lx.pre _ (by omega)⟩
   by_cases c:j<x
   ·exact Ux i j ij c
   ·have e:j=x:=by omega
    subst e
    rw [ex]
    by_cases d:i=j-1
    ·rw [d];exact last
    ·exact Bef.trans W (Ux i (j-1) (by omega) (by omega)) last
 ·rintro c sx ⟨rfl,rfl,Lx,Ux⟩
  have e:max a n=n:=by omega
  rw [e] at Lx Ux ⊢
  exact h n han (Nat.le_refl _) Lx Ux (.inl rfl)
theorem zhb {m:Nat}{Q:Option Nat→SortSt→Prop}(h1:1≤m)(hm:m≤n)(B:SB it kind ix st)(L:Pl n ix m)(D:Dn lt ix m)
 (h:∀ k jx st',SB it kind jx st'→1≤k→k≤n→Pl n jx k→Up lt jx k→Q (some k) st'):wpS (model prog w) A E s (tail3 m n) Q st:=by
 unfold tail3
 have hz:m≤ix.size:=by rw [L.size];exact hm
 refine wpS_bind (wpS_reverse ?_)
 have B':SB it kind (mirror ix 0 m ((m-0) / 2)) (setArr st (mirror (arrOf st) 0 m ((m-0) / 2))):=B.set (by rw [B.arr,zbr])
 refine wpS_bind (zi7 W O h1 hm B' (L.rev hm (Nat.zero_le _)) (fun a b ab bm => ?_) fun k k1 k2 Lk Uk _=>wpS_pure (h k _ _ B' (by omega) k2 Lk Uk))
 rw [za2 hz,za2 hz,if_pos (by omega),if_pos (by omega)]
 exact D _ _ (by omega) (by omega)
structure Eqs (lt:Nat→Nat→Bool)(ix:Array Nat)(x q:Nat):Prop where
 le:q+1≤x
 out:∀ a b,a<b→b<x→a<x-(q+1)→lt (gx ix b) (gx ix a)=true∨(b<x-(q+1)∧Bef lt (gx ix b) (gx ix a))
 same:∀ a b,x-(q+1)≤a→a<x→x-(q+1)≤b→b<x→lt (gx ix a) (gx ix b)=false
 rise:∀ a b,x-(q+1)≤a→a<b→b<x→gx ix a<gx ix b
omit O in
theorem Eqs.down {x q:Nat}(h:Eqs lt ix x q)(hz:x≤ix.size):Dn lt (mirror ix (x-(q+1)) x ((x-(x-(q+1))) / 2)) x:=by
 intro a b ab bx
 have le:=h.le
 rw [za2 hz,za2 hz]
 by_cases ca:x-(q+1)≤a
 ·rw [if_pos (by omega (config:={})),if_pos (by omega (config:={}))]
  exact .inr ⟨h.same _ _ (by omega (config:={})) (by omega (config:={})) (by omega (config:={})) (by omega (config:={})),h.rise _ _ (by omega (config:={})) (by omega (config:={})) (by omega (config:={}))⟩
 ·rw [if_neg (show ¬ (x-(q+1)≤a∧a<x) by omega (config:={}))]
  split
  ·rcases h.out a (x-(q+1)+x-1-b) (by omega (config:={})) (by omega (config:={})) (by omega (config:={})) with z|z
   ·exact .inl z
   ·exact z.2
  ·rcases h.out a b ab bx (by omega (config:={})) with z|z
   ·exact .inl z
   ·exact z.2
omit O in
theorem Eqs.down0 {x:Nat}(h:Eqs lt ix x 0):Dn lt ix x:=by
 intro a b ab bx
 have le:=h.le
 rcases h.out a b ab bx (by omega) with z|z
 ·exact .inl z
 ·exact z.2
omit O in
theorem Eqs.of_down {x:Nat}(hx:1≤x)(D:Dn lt ix x)(top:∀ a,a<x-1→lt (gx ix (x-1)) (gx ix a)=true):Eqs lt ix x 0:=by
 refine ⟨by omega,fun a b ab bx ax => ?_,fun a b a1 a2 b1 b2 => ?_,fun a b a1 ab bx=>by omega⟩
 ·by_cases c:b=x-1
  ·rw [c];exact .inl (top a (by omega))
  ·exact .inr ⟨by omega,D a b ab bx⟩
 ·have e1:a=x-1:=by omega
  have e2:b=x-1:=by omega
  rw [e1,e2]
  cases z:lt (gx ix (x-1)) (gx ix (x-1)) with
  | false=>rfl
  | true=>have:=W.asy _ _ z;rw [z] at this;cases this
omit O in
theorem Eqs.less {x:Nat}(hx:1≤x)(D:Dn lt ix x)(hl:lt (gx ix x) (gx ix (x-1))=true):Eqs lt ix (x+1) 0:=by
 have top:∀ a,a<x→lt (gx ix x) (gx ix a)=true:=fun a ax=>by
  by_cases c:a=x-1
  ·rw [c];exact hl
  ·rcases W.neg _ (gx ix a) _ hl with z|z
   ·exact z
   ·rw [Bef.no W (D a (x-1) (by omega) (by omega))] at z;exact zqb z
 refine Eqs.of_down W (by omega) (fun a b ab bx => ?_) fun a ax=>by
  rw [show x+1-1=x by omega];exact top a (by omega)
 by_cases c:b<x
 ·exact D a b ab c
 ·have e:b=x:=by omega
  rw [e];exact .inl (top a (by omega))
omit O in
theorem Eqs.more {x q:Nat}(h:Eqs lt ix x q)(hx:gx ix x=x)(pre:∀ a,a<x→gx ix a<x)(n1:lt (gx ix x) (gx ix (x-1))=false)(n2:lt (gx ix (x-1)) (gx ix x)=false):Eqs lt ix (x+1) (q+1):=by
 have le:=h.le
 have up:∀ k,lt (gx ix (x-1)) k=true→lt (gx ix x) k=true:=fun k z=>by
  rcases W.neg _ (gx ix x) _ z with y|y
  ·rw [n2] at y;exact zqb y
  ·exact y
 have dn:∀ k,lt k (gx ix x)=true→lt k (gx ix (x-1))=true:=fun k z=>by
  rcases W.neg _ (gx ix (x-1)) _ z with y|y
  ·exact y
  ·rw [n2] at y;exact zqb y
 have up':∀ k,lt (gx ix x) k=true→lt (gx ix (x-1)) k=true:=fun k z=>by
  rcases W.neg _ (gx ix (x-1)) _ z with y|y
  ·rw [n1] at y;exact zqb y
  ·exact y
 refine ⟨by omega,fun a b ab bx ax => ?_,fun a b a1 a2 b1 b2 => ?_,fun a b a1 ab bx => ?_⟩
 ·by_cases c:b=x
  ·rw [c]
   rcases h.out a (x-1) (by omega) (by omega) (by omega) with z|z
   ·exact .inl (up _ z)
   ·omega
  ·rcases h.out a b ab (by omega) (by omega) with z|z
   ·exact .inl z
   ·exact .inr ⟨by omega,z.2⟩
 ·by_cases ca:a=x
  ·by_cases cb:b=x
   ·rw [ca,cb]
    cases z:lt (gx ix x) (gx ix x) with
    | false=>rfl
    | true=>have:=W.asy _ _ z;rw [z] at this;cases this
   ·rw [ca]
    cases z:lt (gx ix x) (gx ix b) with
    | false=>rfl
    | true =>
     have y:=up' _ z
     rw [h.same (x-1) b (by omega) (by omega) (by omega) (by omega)] at y;exact zqb y
  ·by_cases cb:b=x
   ·rw [cb]
    cases z:lt (gx ix a) (gx ix x) with
    | false=>rfl
    | true =>
     have y:=dn _ z
     rw [h.same a (x-1) (by omega) (by omega) (by omega) (by omega)] at y;exact zqb y
   ·exact h.same a b (by omega) (by omega) (by omega) (by omega)
 ·by_cases cb:b=x
  ·rw [cb,hx];exact pre a (by omega)
  ·exact h.rise a b (by omega) ab (by omega)
theorem zke {m:Nat}{Q:DescSt→SortSt→Prop}(h1:1≤m)(hm:m≤n)(B:SB it kind ix st)(L:Pl n ix m)(X:Eqs lt ix m 0)
 (h:∀ k q jx st',SB it kind jx st'→m≤k→k≤n→Pl n jx k→Eqs lt jx k q→Q (none,k,q) st'):wpS (model prog w) A E s (descLoop m n) Q st:=by
 unfold descLoop
 refine wpS_forRange (I:=fun x c sx => ∃ q jx,c=(none,x,q)∧SB it kind jx sx∧Pl n jx x∧Eqs lt jx x q) ?_ ?_ ⟨0,ix,rfl,B,L,X⟩
 ·rintro x c sx mx xn ⟨q,jx,rfl,Bx,Lx,Ex⟩
  dsimp only
  have hz:x≤jx.size:=by rw [Lx.size];omega
  have ex:gx jx x=x:=Lx.suf x (Nat.le_refl _) xn
  refine wpS_bind (zgY O Bx Lx (by omega) xn (by omega) ?_)
  cases z:lt (gx jx x) (gx jx (x-1)) with
  | true =>
   simp only [if_true]
   by_cases hq:q > 0
   ·rw [if_pos hq]
    refine wpS_bind (wpS_reverse (wpS_pure ⟨0,mirror jx (x-(q+1)) x ((x-(x-(q+1))) / 2),rfl,Bx.set (by rw [Bx.arr,zbr]),(Lx.rev (by omega) (by omega)).succ xn,Eqs.less W (by omega) (Ex.down W hz) ?_⟩))
    rw [za2 hz,za2 hz,if_neg (show ¬ (x-(q+1)≤x∧x<x) by omega)]
    have le:=Ex.le
    rw [if_pos (by omega)]
    rcases W.neg _ (gx jx (x-(q+1)+x-1-(x-1))) _ z with y|y
    ·exact y
    ·rw [Ex.same _ _ (by omega) (by omega) (by omega) (by omega)] at y;exact zqb y
   ·rw [if_neg hq]
    have q0:q=0:=by omega
    subst q0
    exact wpS_pure ⟨0,jx,rfl,Bx,Lx.succ xn,Eqs.less W (by omega) (Ex.down0 W) z⟩
  | false =>
   simp only [Bool.false_eq_true,if_false]
   refine wpS_bind (zgY O Bx Lx (by omega) (by omega) xn ?_)
   cases y:lt (gx jx (x-1)) (gx jx x) with
   | true =>
    simp only [if_true]
    exact wpS_pure (h x q jx sx Bx mx (by omega) Lx Ex)
   | false =>
    simp only [Bool.false_eq_true,if_false]
    exact wpS_pure ⟨q+1,jx,rfl,Bx,Lx.succ xn,Ex.more W ex Lx.pre z y⟩
 ·rintro c sx ⟨q,jx,rfl,Bx,Lx,Ex⟩
  have e:max m n=n:=by omega
  rw [e] at Lx Ex ⊢
  exact h n q jx sx Bx hm (Nat.le_refl _) Lx Ex
theorem zeC {m:Nat}{Q:Option Nat→SortSt→Prop}(hm:m+1≤n)(B:SB it kind ix st)(L:Pl n ix (m+1))(X:Eqs lt ix (m+1) 0)
 (h:∀ k jx st',SB it kind jx st'→1≤k→k≤n→Pl n jx k→Up lt jx k→Q (some k) st'):wpS (model prog w) A E s (descPart m n) Q st:=by
 unfold descPart
 refine wpS_bind (wpS_lift (wpAny_rule ⟨rfl,?_⟩))
 refine wpS_bind (zke W O (by omega) hm B L X fun k q jx sx Bx k1 k2 Lx Ex => ?_)
 dsimp only
 have hz:k≤jx.size:=by rw [Lx.size];exact k2
 by_cases hq:q > 0
 ·rw [if_pos hq]
  have le:=Ex.le
  exact wpS_bind (wpS_reverse (zhb W O (by omega) k2 (Bx.set (by rw [Bx.arr,zbr])) (Lx.rev k2 (by omega)) (Ex.down W hz) h))
 ·rw [if_neg hq]
  have q0:q=0:=by omega
  subst q0
  exact zhb W O (by omega) k2 Bx Lx (Ex.down0 W) h
theorem zis {Q:Option Nat→SortSt→Prop}(h1:1≤n)(B:SB it kind ix st)(L:Pl n ix 1)
 (h:∀ k jx st',SB it kind jx st'→1≤k→k≤n→Pl n jx k→Up lt jx k→Q (some k) st'):wpS (model prog w) A E s (countRun' 0 n) Q st:=by
 rw [countRun0_eq]
 refine wpS_bind (zi7 W O (Nat.le_refl 1) h1 B L (fun a b ab b1=>by omega) fun m m1 m2 Lm Um why => ?_)
 dsimp only
 by_cases mn:m=n
 ·rw [if_pos (by simpa using mn)]
  exact wpS_pure (h m ix st B m1 m2 Lm Um)
 ·rw [if_neg (by simpa using mn)]
  have hl:lt m (gx ix (m-1))=true:=why.resolve_left mn
  have em:gx ix m=m:=Lm.suf m (Nat.le_refl _) (by omega)
  have hz:m≤ix.size:=by rw [Lm.size];exact m2
  by_cases gt:m > 1
  ·rw [if_pos gt]
   refine wpS_bind (zgY O B Lm m2 (by omega) (by omega) ?_)
   cases rose:lt (gx ix 0) (gx ix (m-1)) with
   | true =>
    simp only [if_true]
    exact wpS_pure (h m ix st B m1 m2 Lm Um)
   | false =>
    simp only [Bool.false_eq_true,if_false]
    have flat:∀ a b,a<m→b<m→lt (gx ix a) (gx ix b)=false:=fun a b am bm=>by
     cases z:lt (gx ix a) (gx ix b) with
     | false=>rfl
     | true =>
      rcases W.neg _ (gx ix 0) _ z with y|y
      ·by_cases a0:a=0
       ·rw [a0] at y;have:=W.asy _ _ y;rw [y] at this;cases this
       ·rw [Bef.no W (Um 0 a (by omega) am)] at y;exact zqb y
      ·rcases W.neg _ (gx ix (m-1)) _ y with u|u
       ·rw [rose] at u;exact zqb u
       ·by_cases bm':b=m-1
        ·rw [bm'] at u;have:=W.asy _ _ u;rw [u] at this;cases this
        ·rw [Bef.no W (Um b (m-1) (by omega) (by omega))] at u;exact zqb u
    have rise:∀ a b,a<b→b<m→gx ix a<gx ix b:=fun a b ab bm=>by
     rcases Um a b ab bm with z|z
     ·rw [flat a b (by omega) bm] at z;exact zqb z
     ·exact z.2
    have D:Dn lt (mirror ix 0 m ((m-0) / 2)) m:=fun a b ab bm=>by
     rw [za2 hz,za2 hz,if_pos (by omega),if_pos (by omega)]
     exact .inr ⟨flat _ _ (by omega) (by omega),rise _ _ (by omega) (by omega)⟩
    refine wpS_bind (wpS_reverse (zeC W O (by omega) (B.set (by rw [B.arr,zbr])) ((Lm.rev m2 (Nat.zero_le _)).succ (by omega)) (Eqs.less W m1 D ?_) h))
    rw [za2 hz,za2 hz,if_neg (show ¬ (0≤m∧m<m) by omega),if_pos (by omega),em]
    rcases W.neg _ (gx ix (0+m-1-(m-1))) _ hl with z|z
    ·exact z
    ·rw [flat _ _ (by omega) (by omega)] at z;exact zqb z
  ·rw [if_neg gt]
   have e1:m=1:=by omega
   subst e1
   refine zeC W O (by omega) B (Lm.succ (by omega)) (Eqs.less W (Nat.le_refl 1) (fun a b ab b1=>by omega) ?_) h
   rw [em];exact hl
theorem zkh {Q:Unit→SortSt→Prop}(B:SB it kind ix st)(L:Pl n ix 1)(h2:2≤n)(h64:n<64)
 (h:∀ jx st',arrOf st'=jx.map it→failedOf st'=none→Pl n jx n→Up lt jx n→Q () st'):wpS (model prog w) A E s sortRuns' Q st:=by
 have Fin:∀ st',∀ jx,SB it kind jx st'→Pl n jx n→Up lt jx n→∃ jx,arrOf (setPending st' ((pendingOf st').push (0,n,0)))=jx.map it∧failedOf (setPending st' ((pendingOf st').push (0,n,0)))=none∧pendingOf (setPending st' ((pendingOf st').push (0,n,0))) = #[(0,n,0)]∧Pl n jx n∧Up lt jx n :=
  fun st' jx b p u=>⟨jx,b.arr,b.fl,by show (pendingOf st').push _=_;rw [b.pd];rfl,p,u⟩
 rw [sortRuns'_eq]
 refine wpS_bind (wpS_get ?_)
 dsimp only
 have sz:(arrOf st).size=n:=by rw [B.arr,Array.size_map];exact L.size
 have mr:=zdM h2 h64
 simp -iota only [sz,mr]
 refine wpS_bind (wpS_mono (wpS_forRange (I:=fun x c sx=>(x=0∧c=(none,0)∧SB it kind ix sx)∨(1≤x∧c=(none,n)∧∃ jx,arrOf sx=jx.map it∧failedOf sx=none∧pendingOf sx = #[(0,n,0)]∧Pl n jx n∧Up lt jx n))
  (Q:=fun c sx=>c=(none,n)∧∃ jx,arrOf sx=jx.map it∧failedOf sx=none∧pendingOf sx = #[(0,n,0)]∧Pl n jx n∧Up lt jx n) ?_ ?_ (.inl ⟨rfl,rfl,B⟩)) ?_)
 ·rintro x c sx _ xn (⟨rfl,rfl,Bx⟩|⟨x1,rfl,D⟩)
  ·dsimp only
   rw [if_neg (by omega)]
   simp -iota only [Nat.sub_zero,Nat.min_self,Nat.zero_add]
   refine wpS_bind (zis W O (by omega) Bx L fun m jx s2 B2 m1 m2 L2 U2 => ?_)
   dsimp only
   by_cases mn:m<n
   ·rw [if_pos mn]
    refine wpS_bind (wpS_lift (wpAny_rule ⟨rfl,?_⟩))
    refine wpS_bind (zlc W O m2 m1 B2 L2 U2 fun kx s3 B3 L3 U3 => ?_)
    simp -iota only [Bool.not_true,Bool.false_eq_true,if_false]
    refine wpS_bind (wpS_get ?_)
    rw [show (pendingOf s3).back? = none by rw [B3.pd];rfl]
    dsimp only
    exact wpS_bind (wpS_modify (wpS_pure (.inr ⟨by omega,rfl,Fin s3 kx B3 L3 U3⟩)))
   ·rw [if_neg mn]
    have e:m=n:=by omega
    subst e
    refine wpS_bind (wpS_get ?_)
    rw [show (pendingOf s2).back? = none by rw [B2.pd];rfl]
    dsimp only
    exact wpS_bind (wpS_modify (wpS_pure (.inr ⟨by omega,rfl,Fin s2 jx B2 L2 U2⟩)))
  ·dsimp only
   rw [if_pos (Nat.le_refl _)]
   exact wpS_pure ⟨rfl,D⟩
 ·rintro c sx (⟨x0,_,_⟩|⟨_,rfl,D⟩)
  ·omega
  ·exact ⟨rfl,D⟩
 ·rintro c sx ⟨rfl,jx,d1,d2,d3,d4,d5⟩
  dsimp only
  refine wpS_bind (wpS_mono (wpS_forRange (I:=fun _ c sy=>sy=sx∧c=(none,())) (Q:=fun c sy=>sy=sx∧c=(none,())) ?_ (fun _ _ z=>z) ⟨rfl,rfl⟩) ?_)
  ·rintro x c sy _ _ ⟨rfl,rfl⟩
   refine wpS_bind (wpS_get ?_)
   rw [if_pos (by rw [d3];exact Nat.le_refl 1)]
   exact wpS_pure ⟨rfl,rfl⟩
  ·rintro c sy ⟨rfl,rfl⟩
   exact wpS_pure (h jx _ d1 d2 d4 d5)
end
end L2
namespace L2
open PySem PySem.Spec PyProof.Rows
noncomputable def nthV (vs:List Value)(i:Nat):Value:=vs.getD i .none
theorem zc3 (vs:List Value):vs.toArray.zip vs.toArray=(Array.range vs.length).map fun i=>(nthV vs i,nthV vs i):=by
 apply Array.ext_getElem?
 intro k
 rw [Array.getElem?_map]
 by_cases h:k<vs.length
 ·rw [Array.getElem?_range,if_pos h]
  have e:nthV vs k=vs[k]:=by unfold nthV;rw [List.getD_eq_getElem?_getD,List.getElem?_eq_getElem h];rfl
  simp [Array.getElem?_zip_eq_some,h,e]
 ·rw [Array.getElem?_range,if_neg h,Array.getElem?_eq_none (by simp;omega)]
  rfl
theorem zeL {n k:Nat}(h:k<n):gx (Array.range n) k=k:=by
 unfold gx
 rw [Array.getElem?_range,if_pos h]
 rfl
theorem zeK (n k:Nat)(hk:k≤n):Pl n (Array.range n) k:=by
 refine ⟨Array.size_range,Array.Perm.refl _,fun a ha => ?_,fun a _ h=>zeL h⟩
 rw [zeL (by omega)];exact ha
section
variable {prog:Program}{w:World}{A:Around}{E:Value→Shared→Prop}{s:Shared}{lt:Nat→Nat→Bool}
def Keys (prog:Program)(w:World)(A:Around)(s:Shared)(vs:List Value)(lt:Nat→Nat→Bool):Prop :=
 ∃ kind,(∀ (E:Value→Shared→Prop) (Q:SortKind→Shared→Prop),Q kind s→wpAny (model prog w) A (keyKind' vs.toArray) Q E s)∧Orc prog w A s kind (fun i=>(nthV vs i,nthV vs i)) lt vs.length
theorem zf6 {a:Addr}{vs:List Value}{n:Nat}{P:Fin→Shared→Prop}(W:Wk lt)(ho:s.heap.get? a=some (seqObj "list" vs.toArray n))(h64:vs.length<64)
 (hk:∀ h',(∀ b o,b≠a→s.heap.get? b=some o→h'.get? b=some o)→2≤vs.length→Keys prog w A { s with heap:=h' } vs lt)
 (h:∀ jx,Pl vs.length jx vs.length→Up lt jx vs.length→P (.done (.ret .none)) { s with heap:=sortedHeap s.heap a vs (jx.map (nthV vs)) }) :
 wpAny (model prog w) A (Builtin.«list.sort» ⟨[.ref a],[]⟩) P E s:=by
 rw [list_sort_plain]
 have la:a<s.heap.objs.size:=Heap.lt_size ho
 obtain ⟨c1,g1⟩:∃ c1,(s.heap.update a (Obj.mapSeq fun _ => #[])).get? a=some (seqObj "list" #[] c1):=⟨_,get?_update_seq ho (fun _ => #[])⟩
 refine wpAny_bind (listItems_at ho rfl (wpAny_bind (listUpdate_at ho rfl (wpAny_bind (seqEpoch_at g1 rfl (wpAny_bind (wpAny_newTuple (wpAny_bind (wpAny_newList (wpAny_holding ?_))))))))))
 have ne1:∀ b,b<s.heap.objs.size→b≠(s.heap.update a (Obj.mapSeq fun _ => #[])).objs.size:=fun b hb=>by
  rw [Heap.size_update];exact Nat.ne_of_lt hb
 have ne2:∀ b,b<s.heap.objs.size→b≠((s.heap.update a (Obj.mapSeq fun _ => #[])).push (seqObj "tuple" vs.toArray 0)).objs.size:=fun b hb=>by
  rw [size_push',Heap.size_update];exact Nat.ne_of_lt (Nat.lt_succ_of_lt hb)
 have g6:(((s.heap.update a (Obj.mapSeq fun _ => #[])).push (seqObj "tuple" vs.toArray 0)).push (seqObj "list" #[] 0)).get? a=some (seqObj "list" #[] c1):=by
  rw [Heap.get?_push_ne _ _ _ (ne2 a la),Heap.get?_push_ne _ _ _ (ne1 a la)]
  exact g1
 have kp:∀ b o,b≠a→s.heap.get? b=some o→(((s.heap.update a (Obj.mapSeq fun _ => #[])).push (seqObj "tuple" vs.toArray 0)).push (seqObj "list" #[] 0)).get? b=some o:=fun b o hb e=>by
  rw [Heap.get?_push_ne _ _ _ (ne2 b (Heap.lt_size e)),Heap.get?_push_ne _ _ _ (ne1 b (Heap.lt_size e)),Heap.get?_update_ne _ _ _ _ hb]
  exact e
 have ms:∀ (jx:Array Nat),(jx.map fun i=>(nthV vs i,nthV vs i)).map (·.2)=jx.map (nthV vs):=fun jx=>by
  rw [Array.map_map];rfl
 show wpAny (model prog w) A _ P E { s with heap:=((s.heap.update a (Obj.mapSeq fun _ => #[])).push (seqObj "tuple" vs.toArray 0)).push (seqObj "list" #[] 0) }
 dsimp only
 have sz:vs.toArray.size=vs.length:=by simp
 by_cases few:vs.toArray.size<2
 ·rw [if_pos few,if_pos few]
  refine wpAny_bind (wpAny_pure ?_)
  rw [StateT.run_pure]
  refine wpAny_bind (wpAny_pure ?_)
  dsimp only
  refine wpAny_bind (seqEpoch_at g6 rfl (wpAny_bind (listUpdate_at g6 rfl ?_ (hsz2:=by rw [Array.size_map,zc3,Array.size_map,Array.size_range,sizeLine_eq];omega))))
  simp only [bne_self_eq_false,Bool.false_eq_true,if_false]
  have fin:=h (Array.range vs.length) (zeK _ _ (Nat.le_refl _)) fun i j ij jn=>by omega
  rw [← ms,← zc3] at fin
  exact wpAny_pure fin
 ·rw [if_neg few,if_neg few]
  refine zc1b (hk _ kp (by omega)) fun kind k1 k2 => ?_
  refine wpAny_bind (k1 _ _ ?_)
  refine wpAny_bind (wpAny_mono (zkh W k2 (ix:=Array.range vs.length) (st:=SortSt.mk' kind (vs.toArray.zip vs.toArray) #[] 7 none) (Q:=fun _ st' => ∃ jx,arrOf st'=jx.map (fun i=>(nthV vs i,nthV vs i))∧failedOf st'=none∧Pl vs.length jx vs.length∧Up lt jx vs.length)
   ⟨zc3 vs,rfl,rfl,rfl⟩ (zeK _ _ (by omega)) (by omega) h64 fun jx st' a1 a2 a3 a4=>⟨jx,a1,a2,a3,a4⟩) ?_ fun _ _ e=>e)
  rintro ⟨⟨⟩,st'⟩ s' ⟨rfl,jx,q1,q2,q3,q4⟩
  dsimp only
  refine wpAny_bind (seqEpoch_at g6 rfl (wpAny_bind (listUpdate_at g6 rfl ?_ (hsz2:=by
   rw [Array.size_map,q1,Array.size_map,q3.size,sizeLine_eq];omega))))
  rw [q2]
  simp only [bne_self_eq_false,Bool.false_eq_true,if_false]
  have fin:=h jx q3 q4
  rw [← ms,← q1] at fin
  exact wpAny_pure fin
theorem zgk {x:Value}{Q:Value→Shared→Prop}(W:Wk lt)
 (hc:wpAny (model prog w) A.in1 (collect x) (fun vs s1=>vs.length<64∧(∀ h',(∀ b o,s1.heap.get? b=some o→h'.get? b=some o)→2≤vs.length→Keys prog w A.in1.in1 { s1 with heap:=h' } vs lt) ∧
  ∀ jx h' l,Pl vs.length jx vs.length→Up lt jx vs.length→(∀ b o,s1.heap.get? b=some o→h'.get? b=some o)→s1.heap.objs.size≤l→(∃ e,h'.get? l=some (seqObj "list" (jx.map (nthV vs)) e))→Q (.ref l) { s1 with heap:=h' }) E s) :
 wpAny (model prog w) A (call (.builtin "sorted") [x]) Q E s:=by
 refine Calls.call_function_entry kind_sorted plain_sorted entry_sorted (args_sorted1 _) ?_
 unfold Builtin.«sorted»
 refine wpAny_bind (m:=checkCount "sorted" 1 1 _) (wpAny_pure (wpAny_bind (wpAny_mono hc (fun vs s1 z => ?_) fun _ _ e=>e)))
 obtain ⟨h64,hk,hq⟩:=z
 have gl:(s1.heap.push (seqObj "list" vs.toArray 0)).get? s1.heap.objs.size=some (seqObj "list" vs.toArray 0):=Heap.get?_push_size _ rfl
 have nl:∀ b o,s1.heap.get? b=some o→b≠s1.heap.objs.size:=fun b o e=>Nat.ne_of_lt (Heap.lt_size e)
 refine wpAny_bind (wpAny_newList (wpAny_bind (wpAny_holding (wpAny_call_entry slot_list_sort ⟨_,gl,rfl⟩ entry_list_sort (zf6 (s:={ s1 with heap:=s1.heap.push (seqObj "list" vs.toArray 0) }) W gl h64 (fun h' kp=>hk h' fun b o e=>kp b o (nl b o e) (Heap.get?_push_of_some _ e)) fun jx p u=>⟨_,rfl,wpAny_pure ⟨_,rfl,?_⟩⟩) (args_list_sort _)))))
 refine hq jx _ _ p u (fun b o e => ?_) (Nat.le_refl _) (sortedHeap_at gl)
 rw [sortedHeap_old (nl b o e) (by rw [size_push'];exact Nat.lt_succ_of_lt (Heap.lt_size e))]
 exact Heap.get?_push_of_some _ e
end
end L2
namespace L2
open PySem PySem.Spec PyProof.Rows
structure Tot {α : Type}(ltb : α → α → Bool):Prop where
 asy:∀ a b,ltb a b=true→ltb b a=false
 neg:∀ a b c,ltb a c=true→ltb a b=true∨ltb b c=true
 tot:∀ a b,ltb a b=false→ltb b a=false→a=b
theorem Tot.wk {α : Type}{ltb : α → α → Bool}(T:Tot ltb)(f:Nat → α):Wk fun i j=>ltb (f i) (f j):=⟨fun i j=>T.asy _ _,fun i j k=>T.neg _ _ _⟩
section
variable {α : Type}(ltb : α → α → Bool)
noncomputable def insB (x : α):List α → List α
 | [] => [x]
 | y::r=>if ltb x y=true then x::y::r else y::insB x r
def zb2:List α → List α
 | [] => []
 | x::r=>insB ltb x (zb2 r)
noncomputable def Sd (l:List α):Prop:=l.Pairwise fun a b=>ltb b a=false
variable {ltb}
theorem zcl (x : α):∀ l:List α,(insB ltb x l).Perm (x::l)
 | []=>List.Perm.refl _
 | y::r=>by
  unfold insB
  split
  ·exact List.Perm.refl _
  ·exact ((zcl x r).cons y).trans (List.Perm.swap x y r)
theorem zbp:∀ l:List α,(zb2 ltb l).Perm l
 | []=>List.Perm.refl _
 | x::r=>(zcl x _).trans ((zbp r).cons x)
theorem zhm (T:Tot ltb)(x : α):∀ l:List α,Sd ltb l→Sd ltb (insB ltb x l)
 | [],_=>List.pairwise_singleton _ _
 | y::r,h=>by
  obtain ⟨h1,h2⟩:=List.pairwise_cons.mp h
  unfold insB
  split
  ·rename_i c
   refine List.pairwise_cons.mpr ⟨fun z hz => ?_,h⟩
   rcases List.mem_cons.mp hz with e|e
   ·rw [e];exact T.asy _ _ c
   ·cases q:ltb z x with
    | false=>rfl
    | true =>
     have n1:=h1 z e
     rcases T.neg x z y c with u|u
     ·rw [T.asy _ _ u] at q;exact zqb q
     ·rw [n1] at u;exact zqb u
  ·rename_i c
   refine List.pairwise_cons.mpr ⟨fun z hz => ?_,zhm T x r h2⟩
   rcases List.mem_cons.mp ((zcl x r).mem_iff.mp hz) with e|e
   ·rw [e]
    cases q:ltb x y with
    | false=>rfl
    | true=>exact absurd q c
   ·exact h1 z e
theorem zcc (T:Tot ltb):∀ l:List α,Sd ltb (zb2 ltb l)
 | []=>List.Pairwise.nil
 | x::r=>zhm T x _ (zcc T r)
theorem ziO (T:Tot ltb):∀ {a b:List α},a.Perm b→Sd ltb a→Sd ltb b→a=b
 | [],b,p,_,_=>p.nil_eq
 | x::r,b,p,ha,hb=>by
  cases b with
  | nil=>exact absurd p.length_eq (by simp)
  | cons y t =>
   obtain ⟨a1,a2⟩:=List.pairwise_cons.mp ha
   obtain ⟨b1,b2⟩:=List.pairwise_cons.mp hb
   have e:x=y:=by
    rcases List.mem_cons.mp (p.mem_iff.mp List.mem_cons_self) with z|z
    ·exact z
    ·rcases List.mem_cons.mp (p.mem_iff.mpr List.mem_cons_self) with u|u
     ·exact u.symm
     ·exact T.tot _ _ (b1 x z) (a1 y u)
   subst e
   rw [ziO T p.cons_inv a2 b2]
theorem zcY (T:Tot ltb){l:List α}{d : α}{jx:Array Nat}(p:Pl l.length jx l.length)(u:Up (fun i j=>ltb (l.getD i d) (l.getD j d)) jx l.length):jx.toList.map (fun i=>l.getD i d)=zb2 ltb l:=by
 refine ziO T ?_ ?_ (zcc T l)
 ·refine List.Perm.trans ?_ (zbp l).symm
  have q:jx.toList.Perm (List.range l.length):=by
   have:=Array.perm_iff_toList_perm.mp p.perm
   simpa using this
  refine (q.map _).trans (List.Perm.of_eq ?_)
  apply List.ext_getElem
  ·simp
  ·intro i h1 h2
   simp [h2]
 ·refine List.pairwise_iff_getElem.mpr fun a b ha hb ab => ?_
  rw [List.getElem_map,List.getElem_map]
  have sz:jx.toList.length=l.length:=by rw [Array.length_toList,p.size]
  rw [List.length_map] at ha hb
  have ea:jx.toList[a]=gx jx a:=by
   unfold gx
   rw [Array.getElem?_eq_getElem (by rw [p.size];omega)]
   simp
  have eb:jx.toList[b]=gx jx b:=by
   unfold gx
   rw [Array.getElem?_eq_getElem (by rw [p.size];omega)]
   simp
  rw [ea,eb]
  exact Bef.no (T.wk fun i=>l.getD i d) (u a b ab (by omega))
end
theorem zgm {α : Type}{l:List α}{i:Nat}{d x : α}(h:l[i]? = some x):l.getD i d=x:=by
 rw [List.getD_eq_getElem?_getD,h];rfl
end L2
namespace L2
open PySem PySem.Spec PyProof.Rows
section
variable {X:Cx}{tg iter elt c:Expr}{scope:Scope}{pos:Pos}{wi:TI}{g:TG}{te:TE}{tt:TT}
theorem zhv (N:List Str)(cap:List (Option Nat))(hc:X.calm=true)(okB:za8 scope X.env N X.N cap=true)(hi:PI X tg iter wi)(hg:∀ cl C s H ex,PG (zap X scope N cl C s H ex) tg g)(ht:∀ cl C s H ex,PT (zap X scope N cl C s H ex) c tt)(he:∀ cl C s H ex,PE (zap X scope N cl C s H ex) elt te)
 (hs:∀ x,foldedSetIterable iter X.env x=pure x) {use:Option (Value→Sem Unit)} {R:Value→Shared→Prop} {fpos:Pos} {pins:List (Addr×Obj)} {s:Shared} {σ : St} {H:Hp} {Q:VK} (I:Inv X pins σ H s) (h:zcS cap wi g tt te σ H Q) (fin:zcm X pins σ Q use R) :
 wpAny (model X.prog X.w) X.A (comprehension (.ListComp elt [⟨tg,iter,[c],0⟩] scope pos) scope X.env fpos (newList []) false (eval iter X.env) use) R X.xe s :=
 zeQ (test:=fun env R Q s=>wpAny (model X.prog X.w) X.A (isTrue c env (eval c env)) Q (notedBy (model X.prog X.w) X.A env fun e s'=>R (.error e) s') s) N (fun I turn n h=>PySem.W.kct_loop I turn n h)
  (fun cl C s H ex _ _ _ _ _ _ _ _ hR I q k=>wpAny_mono (ht cl C s H ex _ _ _ _ _ I q) (fun b s8 z=>by obtain ⟨H8,I8,q8⟩:=z;exact k b s8 H8 I8 q8) fun e s' hx=>wpAny_mono hx (fun _ s'' z=>hR _ _ z) fun _ _ z=>hR _ _ z) cap hc okB hi hg (fun cl C s H ex _=>he cl C s H ex) hs I h fin
theorem zgy (N:List Str)(cap:List (Option Nat))(hc:X.calm=true)(okB:za8 scope X.env N X.N cap=true)(hi:PI X tg iter wi)(hg:∀ cl C s H ex,PG (zap X scope N cl C s H ex) tg g)(ht:∀ cl C s H ex,PT (zap X scope N cl C s H ex) c tt)(he:∀ cl C s H ex,PE (zap X scope N cl C s H ex) elt te)
 (hs:autoParam (∀ x,foldedSetIterable iter X.env x=pure x) zaw._auto_1):PE X (.ListComp elt [⟨tg,iter,[c],0⟩] scope pos) (zcS cap wi g tt te):=by
 intro pins s σ H Q I h
 rw [eval_ListComp]
 exact zhv N cap hc okB hi hg ht he hs I h zeH
end
theorem zeV {g:Nat→V}{u:Nat→Value}:∀ {L:List Nat},(∀ i∈L,RelV (g i) (u i))→Vals (L.map g) (L.map u)
 | [],_=>.nil
 | i::L,h=>.cons (h i List.mem_cons_self) (zeV fun j hj=>h j (List.mem_cons_of_mem _ hj))
theorem Pl.mem {n:Nat}{jx:Array Nat}(p:Pl n jx n){i:Nat}(h:i∈jx.toList):i<n:=by
 have q:=(Array.perm_iff_toList_perm.mp p.perm).mem_iff.mp h
 simpa using q
theorem Pl.len {n k:Nat}{jx:Array Nat}(p:Pl n jx k):jx.toList.length=n:=by rw [Array.length_toList,p.size]
end L2
namespace L2.DL
open PySem PySem.Spec PyProof.Rows
theorem zdq {c:Prop}{_:Decidable c}{α : Type}{a z : α}(h:(if c then some a else none)=some z):c∧a=z:=by
 by_cases q:c
 ·rw [if_pos q] at h;exact ⟨q,Option.some.inj h⟩
 ·rw [if_neg q] at h;exact zqn h
inductive D where
 | non|bl (b:Bool)|int (i:Int)|str (x:Str)|ty (n:String)|scr (ns:List Int)
 | tup (ds:List D)|lst (ds:List D)|dct (ks:List Key) (ds:List D)|ins (c:Str) (fs:List Str) (ds:List D)
 | exc (c:Str)|ucl (c:Str)
 | adr (a:Addr)|dcf (ks:List Key) (ds:List D)
 | pin (a:Addr) (d:D)
inductive Res (α : Type) where
 | ok (a : α)|ex (c:Str) (fs:List D)|no
noncomputable def Res.bind {α β : Type}(r:Res α)(g : α → Res β):Res β := match r with
 | .ok a=>g a
 | .ex c fs=>.ex c fs
 | .no=>.no
noncomputable def Res.need {α : Type}(r:Res α)(p : α → Prop)(q:Str→List D→Prop):Prop:=match r with
 | .ok a=>p a
 | .ex c fs=>q c fs
 | .no=>False
@[simp] theorem Res.bind_ok {α β : Type}(a : α)(g : α → Res β):(Res.ok a).bind g=g a:=rfl
theorem Res.need_bind {α β : Type}{r:Res α}{g : α → Res β}{p : β → Prop}{q:Str→List D→Prop}(h:(r.bind g).need p q):r.need (fun a=>(g a).need p q) q:=by
 cases r<;>exact h
theorem Res.need.mono {α : Type}{r:Res α}{p p' : α → Prop}{q q':Str→List D→Prop}(h:r.need p q)(hp:∀ a,p a→p' a)(hq:∀ c fs,q c fs→q' c fs):r.need p' q':=by
 cases r with
 | ok a=>exact hp a h
 | ex c fs=>exact hq c fs h
 | no=>exact h
theorem Res.need.monoE {α : Type}{r:Res α}{p p' : α → Prop}{q q':Str→List D→Prop}(h:r.need p q)(hp:∀ a,r=.ok a→p a→p' a)(hq:∀ c fs,q c fs→q' c fs):r.need p' q':=by
 cases r with
 | ok a=>exact hp a rfl h
 | ex c fs=>exact hq c fs h
 | no=>exact h
noncomputable def ExcO (C x:Addr):HO:=.ext fun h => ∃ o,h.get? x=some o∧o.cls=.ref C
noncomputable def TupD (_:PySem.W.Frag)(H:Hp)(a:Addr)(xs:List V):Prop:=H a=some (.tup xs)
theorem TupD.same {K:PySem.W.Frag}{H H':Hp}{a:Addr}{xs:List V}(e:Same H H')(h:TupD K H a xs):TupD K H' a xs:=e _ _ h
theorem TupD.of {K:PySem.W.Frag}{H:Hp}{a:Addr}{xs:List V}(h:H a=some (.tup xs)):TupD K H a xs:=h
theorem TupD.sq {K:PySem.W.Frag}{H:Hp}{a:Addr}{xs:List V}(h:TupD K H a xs):SqT K H a xs:=SqT.of h
noncomputable def LstD (_:PySem.W.Frag)(H:Hp)(a:Addr)(xs:List V):Prop:=Rd H a (.lst xs)
theorem LstD.same {K:PySem.W.Frag}{H H':Hp}{a:Addr}{xs:List V}(e:Same H H')(h:LstD K H a xs):LstD K H' a xs:=h.imp (fun q=>e _ _ q) (by rintro ⟨o,q⟩;exact ⟨o,e _ _ q⟩)
theorem LstD.of {K:PySem.W.Frag}{H:Hp}{a:Addr}{xs:List V}(h:H a=some (.lst xs)):LstD K H a xs:=.inl h
theorem LstD.sq {K:PySem.W.Frag}{H:Hp}{a:Addr}{xs:List V}(h:LstD K H a xs):SqL K H a xs:=.inl h
section
variable (K:PySem.W.Frag)
mutual
noncomputable def IsD (H:Hp):D→V→Prop
 | .non,v=>v=.non
 | .bl b,v=>v=.bl b
 | .int i,v=>v=.int i
 | .str x,v=>v=.str x
 | .ty n,v=>v=.ty n
 | .scr ns,v => ∃ a,v=.ref a∧SqL K H a (ns.map V.int)
 | .tup ds,v => ∃ a xs,v=.ref a∧TupD K H a xs∧IsDs H ds xs
 | .lst ds,v => ∃ a xs,v=.ref a∧LstD K H a xs∧IsDs H ds xs
 | .dct ks ds,v => ∃ a xs,v=.ref a∧H a=some (.dK (ks.zip xs))∧ks.length=xs.length∧IsDs H ds xs
 | .ins c fs ds,v => ∃ a C dx xs,v=.ref a∧PySem.W.nsIn K mainGlobals c=some (some (.ref C))∧H a=some (.ins C dx (fs.zip xs))∧fs.length=xs.length∧IsDs H ds xs
 | .exc c,v => ∃ a C,v=.ref a∧PySem.W.nsIn K mainGlobals c=some (some (.ref C))∧H a=some (ExcO C a)
 | .ucl c,v => ∃ C,v=.ref C∧PySem.W.nsIn K mainGlobals c=some (some (.ref C))
 | .adr a,v=>v=.ref a
 | .dcf ks ds,v => ∃ a o xs,v=.ref a∧H a=some (.frz o (.dK (ks.zip xs)))∧ks.length=xs.length∧IsDs H ds xs
 | .pin a d,v=>v=.ref a∧IsD H d v
noncomputable def IsDs (H:Hp):List D→List V→Prop
 | [],xs=>xs=[]
 | d::ds,xs => ∃ x r,xs=x::r∧IsD H d x∧IsDs H ds r
end
end
section
variable {K:PySem.W.Frag}{H H':Hp}
theorem IsD.non_iff {v:V}:IsD K H .non v↔v=.non:=.rfl
theorem IsD.bl_iff {b:Bool}{v:V}:IsD K H (.bl b) v↔v=.bl b:=.rfl
theorem IsD.int_iff {i:Int}{v:V}:IsD K H (.int i) v↔v=.int i:=.rfl
theorem IsD.str_iff {x:Str}{v:V}:IsD K H (.str x) v↔v=.str x:=.rfl
theorem IsD.ty_iff {n:String}{v:V}:IsD K H (.ty n) v↔v=.ty n:=.rfl
theorem IsD.scr_iff {ns:List Int}{v:V}:IsD K H (.scr ns) v↔∃ a,v=.ref a∧SqL K H a (ns.map V.int):=.rfl
theorem IsD.tup_iff {ds:List D}{v:V}:IsD K H (.tup ds) v↔∃ a xs,v=.ref a∧TupD K H a xs∧IsDs K H ds xs:=.rfl
theorem IsD.lst_iff {ds:List D}{v:V}:IsD K H (.lst ds) v↔∃ a xs,v=.ref a∧LstD K H a xs∧IsDs K H ds xs:=.rfl
theorem IsD.dct_iff {ks:List Key}{ds:List D}{v:V}:IsD K H (.dct ks ds) v↔∃ a xs,v=.ref a∧H a=some (.dK (ks.zip xs))∧ks.length=xs.length∧IsDs K H ds xs:=.rfl
theorem IsD.ins_iff {c:Str}{fs:List Str}{ds:List D}{v:V}:IsD K H (.ins c fs ds) v↔∃ a C dx xs,v=.ref a∧PySem.W.nsIn K mainGlobals c=some (some (.ref C))∧H a=some (.ins C dx (fs.zip xs))∧fs.length=xs.length∧IsDs K H ds xs:=.rfl
theorem IsD.exc_iff {c:Str}{v:V}:IsD K H (.exc c) v↔∃ a C,v=.ref a∧PySem.W.nsIn K mainGlobals c=some (some (.ref C))∧H a=some (ExcO C a):=.rfl
theorem IsD.adr_iff {a:Addr}{v:V}:IsD K H (.adr a) v↔v=.ref a:=.rfl
theorem IsD.dcf_iff {ks:List Key}{ds:List D}{v:V}:IsD K H (.dcf ks ds) v↔∃ a o xs,v=.ref a∧H a=some (.frz o (.dK (ks.zip xs)))∧ks.length=xs.length∧IsDs K H ds xs:=.rfl
theorem IsD.pin_iff {a:Addr}{d:D}{v:V}:IsD K H (.pin a d) v↔v=.ref a∧IsD K H d v:=.rfl
theorem IsDs.nil_iff {xs:List V}:IsDs K H [] xs↔xs=[]:=.rfl
theorem IsDs.cons_iff {d:D}{ds:List D}{xs:List V}:IsDs K H (d::ds) xs↔∃ x r,xs=x::r∧IsD K H d x∧IsDs K H ds r:=.rfl
mutual
theorem IsD.same (e:Same H H'):∀ (d:D) (v:V),IsD K H d v→IsD K H' d v
 | .non,_,h=>h
 | .bl _,_,h=>h
 | .int _,_,h=>h
 | .str _,_,h=>h
 | .ty _,_,h=>h
 | .scr _,_,h=>by
  refine zc1b (IsD.scr_iff.mp h) fun a h1 h2 => ?_
  exact IsD.scr_iff.mpr ⟨a,h1,Same.seq e h2⟩
 | .tup ds,_,h=>by
  refine zc2c (IsD.tup_iff.mp h) fun a xs h1 h2 h3 => ?_
  exact IsD.tup_iff.mpr ⟨a,xs,h1,h2.same e,IsDs.same e ds xs h3⟩
 | .lst ds,_,h=>by
  refine zc2c (IsD.lst_iff.mp h) fun a xs h1 h2 h3 => ?_
  exact IsD.lst_iff.mpr ⟨a,xs,h1,h2.same e,IsDs.same e ds xs h3⟩
 | .dct ks ds,_,h=>by
  refine zc2d (IsD.dct_iff.mp h) fun a xs h1 h2 h4 h3 => ?_
  exact IsD.dct_iff.mpr ⟨a,xs,h1,e _ _ h2,h4,IsDs.same e ds xs h3⟩
 | .ins c fs ds,_,h=>by
  refine zc4a (IsD.ins_iff.mp h) fun a C dx xs zz=>zc0e zz fun h1 h5 h2 h4 h3 => ?_
  exact IsD.ins_iff.mpr ⟨a,C,dx,xs,h1,h5,e _ _ h2,h4,IsDs.same e ds xs h3⟩
 | .exc _,_,h=>by
  refine zc2c (IsD.exc_iff.mp h) fun a C h1 h2 h3 => ?_
  exact IsD.exc_iff.mpr ⟨a,C,h1,h2,e _ _ h3⟩
 | .ucl _,_,h=>h
 | .adr _,_,h=>h
 | .dcf ks ds,_,h=>by
  obtain ⟨a,o,xs,h1,h2,h4,h3⟩:=IsD.dcf_iff.mp h
  exact IsD.dcf_iff.mpr ⟨a,o,xs,h1,e _ _ h2,h4,IsDs.same e ds xs h3⟩
 | .pin a d,v,h=>IsD.pin_iff.mpr ⟨(IsD.pin_iff.mp h).1,IsD.same e d v (IsD.pin_iff.mp h).2⟩
theorem IsDs.same (e:Same H H'):∀ (ds:List D) (xs:List V),IsDs K H ds xs→IsDs K H' ds xs
 | [],_,h=>h
 | d::ds,_,h=>by
  refine zc2c (IsDs.cons_iff.mp h) fun x r h1 h2 h3 => ?_
  exact IsDs.cons_iff.mpr ⟨x,r,h1,IsD.same e d x h2,IsDs.same e ds r h3⟩
end
theorem IsDs.mk {d:D}{ds:List D}{x:V}{xs:List V}(h:IsD K H d x)(r:IsDs K H ds xs):IsDs K H (d::ds) (x::xs):=IsDs.cons_iff.mpr ⟨x,xs,rfl,h,r⟩
theorem IsDs.nil:IsDs K H [] []:=IsDs.nil_iff.mpr rfl
theorem IsDs.length:∀ {ds:List D} {xs:List V},IsDs K H ds xs→xs.length=ds.length
 | [],xs,h=>by rw [IsDs.nil_iff] at h;subst h;rfl
 | d::ds,xs,h=>by
  rw [IsDs.cons_iff] at h
  obtain ⟨x,r,rfl,_,h3⟩:=h
  rw [List.length_cons,List.length_cons,IsDs.length h3]
theorem IsDs.get:∀ {ds:List D} {xs:List V} {i:Nat} {d:D},IsDs K H ds xs→ds[i]? = some d→∃ x,xs[i]? = some x∧IsD K H d x
 | [],_,_,_,_,e=>by exact zqn e
 | d::ds,xs,i,e,h,q=>by
  rw [IsDs.cons_iff] at h
  refine zc2c h fun x r zr2 h2 h3 => ?_
  obtain rfl:=zr2
  cases i with
  | zero=>cases q;exact ⟨x,rfl,h2⟩
  | succ i=>exact IsDs.get (i:=i) h3 q
theorem IsDs.getV {ds:List D}{xs:List V}{i:Nat}{x:V}(h:IsDs K H ds xs)(q:xs[i]? = some x):∃ d,ds[i]? = some d∧IsD K H d x:=by
 have hl:=h.length
 have hi:i<ds.length:=by rw [← hl];exact (List.getElem?_eq_some_iff.mp q).1
 refine zc1b (h.get (List.getElem?_eq_getElem hi)) fun y h1 h2 => ?_
 rw [q] at h1
 obtain rfl:=Option.some.inj h1
 exact ⟨_,List.getElem?_eq_getElem hi,h2⟩
theorem IsDs.append:∀ {ds es:List D} {xs ys:List V},IsDs K H ds xs→IsDs K H es ys→IsDs K H (ds++es) (xs++ys)
 | [],_,xs,_,h,h'=>by rw [IsDs.nil_iff] at h;subst h;exact h'
 | d::ds,_,xs,_,h,h'=>by
  rw [IsDs.cons_iff] at h
  refine zc2c h fun x r zr2 h2 h3 => ?_
  obtain rfl:=zr2
  exact IsDs.mk h2 (IsDs.append h3 h')
theorem IsDs.snoc {ds:List D}{xs:List V}{d:D}{x:V}(h:IsDs K H ds xs)(h':IsD K H d x):IsDs K H (ds++[d]) (xs++[x]):=h.append (.mk h' .nil)
theorem IsDs.set:∀ (n:Nat) {ds:List D} {xs:List V} {d:D} {x:V},IsDs K H ds xs→IsD K H d x→IsDs K H (ds.set n d) (xs.set n x)
 | _,[],xs,_,_,h,_=>by rw [IsDs.nil_iff] at h;subst h;exact .nil
 | 0,d::ds,xs,_,_,h,q=>by
  rw [IsDs.cons_iff] at h
  refine zc2c h fun x r zr2 h2 h3 => ?_
  obtain rfl:=zr2
  exact IsDs.mk q h3
 | n+1,d::ds,xs,_,_,h,q=>by
  rw [IsDs.cons_iff] at h
  refine zc2c h fun x r zr2 h2 h3 => ?_
  obtain rfl:=zr2
  exact IsDs.mk h2 (IsDs.set n h3 q)
theorem IsDs.ints:∀ (ns:List Int),IsDs K H (ns.map D.int) (ns.map V.int)
 | []=>.nil
 | n::ns=>.mk (IsD.int_iff.mpr rfl) (IsDs.ints ns)
theorem IsDs.ints_iff:∀ {ns:List Int} {xs:List V},IsDs K H (ns.map D.int) xs→xs=ns.map V.int
 | [],_,h=>IsDs.nil_iff.mp h
 | n::ns,xs,h=>by
  rw [List.map_cons,IsDs.cons_iff] at h
  obtain ⟨x,r,rfl,h2,h3⟩:=h
  rw [IsD.int_iff] at h2
  rw [h2,IsDs.ints_iff h3]
  rfl
end
structure Ext (F H F' H':Hp):Prop where
 ff:Same F F'
 fh:Same F' H'
 hh:Same H H'
 new:∀ a,F a=none→H a≠none→F' a=none
theorem Ext.refl {F H:Hp}(h:Same F H):Ext F H F H:=⟨.refl _,h,.refl _,fun _ e _=>e⟩
theorem Ext.trans {F H F1 H1 F2 H2:Hp}(a:Ext F H F1 H1)(b:Ext F1 H1 F2 H2):Ext F H F2 H2 :=
 ⟨a.ff.trans b.ff,b.fh,a.hh.trans b.hh,fun x e n=>b.new x (a.new x e n) (by
  cases q:H x with
  | none=>exact absurd q n
  | some o=>rw [a.hh _ _ q];simp)⟩
theorem zan {F H:Hp}{p:Addr}(h:Same F H)(hp:H p=none):F p=none:=h.free hp
theorem Ext.alloc {F H:Hp}{p:Addr}(h:Same F H)(hp:H p=none)(o:HO):Ext F H (upd F p o) (upd H p o) :=
 ⟨zaB (h.free hp) o,fun b u e=>by
  by_cases q:b=p
  ·subst q;rw [zah] at e ⊢;exact e
  ·rw [zai q] at e ⊢;exact h _ _ e,zaB hp o,fun a e n=>by
  have q:a≠p:=fun z=>n (by rw [z];exact hp)
  rw [zai q];exact e⟩
theorem Ext.keep {F H:Hp}{p:Addr}(h:Same F H)(hp:H p=none)(o:HO):Ext F H F (upd H p o) :=
 ⟨.refl _,h.trans (zaB hp o),zaB hp o,fun _ e _=>e⟩
theorem Ext.grow {F H H':Hp}(h:Same F H)(hh:Same H H'):Ext F H F H':=⟨.refl _,h.trans hh,hh,fun _ e _=>e⟩
inductive SV where
 | val (d:D)|own (p:Bool) (d:D)
structure Bs where
 F0:Hp
 H0:Hp
 pa:Nat→Option (Addr×List V)
abbrev SD:=List (Option SV)
def zbt (K:PySem.W.Frag)(F H:Hp)(l:Addr):D→Prop
 | .lst ds => ∃ xs,H l=some (.lst xs)∧IsDs K F ds xs
 | .dct ks ds => ∃ xs,H l=some (.dK (ks.zip xs))∧ks.length=xs.length∧IsDs K F ds xs
 | .ins c fs ds => ∃ C dx xs,PySem.W.nsIn K mainGlobals c=some (some (.ref C))∧H l=some (.ins C dx (fs.zip xs))∧fs.length=xs.length∧IsDs K F ds xs
 | _=>False
theorem zbt.has {K:PySem.W.Frag}{F H:Hp}{l:Addr}{d:D}(h:zbt K F H l d):∃ o,H l=some o:=by
 cases d with
 | lst ds=>obtain ⟨xs,e,_⟩:=h;exact ⟨_,e⟩
 | dct ks ds=>obtain ⟨xs,e,_⟩:=h;exact ⟨_,e⟩
 | ins c fs ds=>obtain ⟨C,dx,xs,_,e,_⟩:=h;exact ⟨_,e⟩
 | _=>exact False.elim h
theorem zbt.ext {K:PySem.W.Frag}{F H F' H':Hp}{l:Addr}{d:D}(h:zbt K F H l d)(ff:Same F F')(hh:∀ o,H l=some o→H' l=some o):zbt K F' H' l d:=by
 cases d with
 | lst ds=>obtain ⟨xs,e,q⟩:=h;exact ⟨xs,hh _ e,IsDs.same ff _ _ q⟩
 | dct ks ds=>obtain ⟨xs,e,z,q⟩:=h;exact ⟨xs,hh _ e,z,IsDs.same ff _ _ q⟩
 | ins c fs ds=>obtain ⟨C,dx,xs,k,e,z,q⟩:=h;exact ⟨C,dx,xs,k,hh _ e,z,IsDs.same ff _ _ q⟩
 | _=>exact False.elim h
theorem zbt.frz {K:PySem.W.Frag}{F H:Hp}{l:Addr}{d:D}{o:HO}(h:zbt K F H l d)(e:H l=Option.some o)(n:F l=none):IsD K (upd F l o) d (.ref l):=by
 cases d with
 | lst ds =>
  refine zc1b h fun xs e' q => ?_
  rw [e] at e';obtain rfl:=Option.some.inj e'
  exact IsD.lst_iff.mpr ⟨l,xs,rfl,.of zah,IsDs.same (zaB n _) _ _ q⟩
 | dct ks ds =>
  refine zc1c h fun xs e' z q => ?_
  rw [e] at e';obtain rfl:=Option.some.inj e'
  exact IsD.dct_iff.mpr ⟨l,xs,rfl,zah,z,IsDs.same (zaB n _) _ _ q⟩
 | ins c fs ds =>
  refine zc3a h fun C dx xs zz=>zc0d zz fun k e' z q => ?_
  rw [e] at e';obtain rfl:=Option.some.inj e'
  exact IsD.ins_iff.mpr ⟨l,C,dx,xs,rfl,k,zah,z,IsDs.same (zaB n _) _ _ q⟩
 | _=>exact False.elim h
noncomputable def zil (H:Hp)(l:Addr)(o:Option (Addr×List V)):Prop:=∃ xs,o=some (l,xs)∧H l=some (.lst xs)
structure RS (K:PySem.W.Frag)(B:Bs)(F H:Hp)(sd:SD)(σ : St):Prop where
 ext:Ext B.F0 B.H0 F H
 len : σ.length=sd.length
 val:∀ {i:Nat} {d:D},sd[i]? = some (some (.val d))→∃ v,σ[i]? = some (some v)∧IsD K F d v
 own:∀ {i:Nat} {p:Bool} {d:D},sd[i]? = some (some (.own p d))→∃ l,σ[i]? = some (some (.ref l))∧B.H0 l=none∧F l=none∧zbt K F H l d∧(p=true→zil H l (B.pa i))
 apart:∀ {i j:Nat} {p q:Bool} {d e:D} {l:Addr},i≠j→sd[i]? = some (some (.own p d))→sd[j]? = some (some (.own q e)) → σ[i]? = some (some (.ref l)) → σ[j]? ≠ some (some (.ref l))
section
variable {K:PySem.W.Frag}{B:Bs}{F H F' H':Hp}{sd:SD}{σ : St}
theorem zil.mono {l:Addr}{o:Option (Addr×List V)}(h:zil H l o)(k:∀ u,H l=some u→H' l=some u):zil H' l o:=let ⟨xs,h1,h2⟩:=h;⟨xs,h1,k _ h2⟩
theorem RS.step (r:RS K B F H sd σ)(e:Ext F H F' H'):RS K B F' H' sd σ where
 ext:=r.ext.trans e
 len:=r.len
 val:=fun h=>let ⟨v,h1,h2⟩:=r.val h;⟨v,h1,IsD.same e.ff _ _ h2⟩
 own:=fun h=>by
  refine zc1e (r.own h) fun l h1 h2 h3 h4 h5 => ?_
  obtain ⟨o,ho⟩:=h4.has
  exact ⟨l,h1,h2,e.new l h3 (by rw [ho];simp),h4.ext e.ff fun o q=>e.hh _ _ q,fun p=>(h5 p).mono fun u q=>e.hh _ _ q⟩
 apart:=r.apart
theorem zaj {α : Type}{l:List α}{i j:Nat}{a : α}(h:i≠j):(l.set i a)[j]? = l[j]? := List.getElem?_set_ne h
theorem zam {α : Type}{l:List α}{i:Nat}{a b : α}(h:(l.set i a)[i]? = some b):b=a∧i<l.length:=by
 have hi:i<l.length:=by
  have:=(List.getElem?_eq_some_iff.mp h).1
  rwa [List.length_set] at this
 rw [List.getElem?_set_self hi] at h
 exact ⟨(Option.some.inj h).symm,hi⟩
theorem RS.setVal {i:Nat}{d:D}{v:V}(r:RS K B F H sd σ)(h:IsD K F d v):RS K B F H (sd.set i (some (.val d))) (σ.set i (some v)) where
 ext:=r.ext
 len:=by rw [List.length_set,List.length_set,r.len]
 val:=fun {j e} q=>by
  by_cases z:i=j
  ·subst z
   obtain ⟨e1,hi⟩:=zam q
   cases e1
   exact ⟨v,List.getElem?_set_self (by rw [r.len];exact hi),h⟩
  ·rw [zaj z] at q ⊢
   exact r.val q
 own:=fun {j p e} q=>by
  by_cases z:i=j
  ·subst z
   obtain ⟨e1,_⟩:=zam q
   cases e1
  ·rw [zaj z] at q ⊢
   exact r.own q
 apart:=fun {j k p1 p2 d1 d2 l} n q1 q2 q3=>by
  have z1:i≠j:=fun z=>by subst z;obtain ⟨e1,_⟩:=zam q1;cases e1
  have z2:i≠k:=fun z=>by subst z;obtain ⟨e1,_⟩:=zam q2;cases e1
  rw [zaj z1] at q1 q3
  rw [zaj z2] at q2 ⊢
  exact r.apart n q1 q2 q3
theorem RS.setOwn {i:Nat}{d:D}{l:Addr}(r:RS K B F H sd σ)(h0:B.H0 l=none)(hf:F l=none)(h:zbt K F H l d)(fr:∀ (j:Nat) (p:Bool) (e:D),sd[j]? = some (some (SV.own p e)) → σ[j]? ≠ some (some (.ref l))) :
 RS K B F H (sd.set i (some (.own false d))) (σ.set i (some (.ref l))) where
 ext:=r.ext
 len:=by rw [List.length_set,List.length_set,r.len]
 val:=fun {j e} q=>by
  by_cases z:i=j
  ·subst z
   obtain ⟨e1,_⟩:=zam q
   cases e1
  ·rw [zaj z] at q ⊢
   exact r.val q
 own:=fun {j p e} q=>by
  by_cases z:i=j
  ·subst z
   obtain ⟨e1,hi⟩:=zam q
   cases e1
   exact ⟨l,List.getElem?_set_self (by rw [r.len];exact hi),h0,hf,h,fun z=>by cases z⟩
  ·rw [zaj z] at q ⊢
   exact r.own q
 apart:=fun {j k p1 p2 d1 d2 m} n q1 q2 q3=>by
  by_cases z1:i=j
  ·subst z1
   obtain ⟨_,hi⟩:=zam q1
   rw [zaj n] at q2 ⊢
   rw [List.getElem?_set_self (by rw [r.len];exact hi)] at q3
   cases q3
   exact fr k p2 d2 q2
  ·rw [zaj z1] at q1 q3
   by_cases z2:i=k
   ·subst z2
    obtain ⟨_,hi⟩:=zam q2
    rw [List.getElem?_set_self (by rw [r.len];exact hi)]
    intro e
    cases e
    exact fr j p1 d1 q1 q3
   ·rw [zaj z2] at q2 ⊢
    exact r.apart n q1 q2 q3
theorem RS.chg {i:Nat}{p:Bool}{d d':D}{l:Addr}{o:HO}(r:RS K B F H sd σ)(hi:sd[i]? = some (some (.own p d)))(hl : σ[i]? = some (some (.ref l)))(h:zbt K F (upd H l o) l d') :
 RS K B F (upd H l o) (sd.set i (some (.own false d'))) σ := by
 refine zc1e (r.own hi) fun l' e1 h0 hf _ _ => ?_
 rw [hl] at e1
 cases e1
 have hil:i<sd.length:=(List.getElem?_eq_some_iff.mp hi).1
 refine ⟨⟨r.ext.ff,zdp o r.ext.fh hf,zdp o r.ext.hh h0,r.ext.new⟩,by rw [List.length_set,r.len],fun {j e} q => ?_,fun {j p e} q => ?_,fun {j k p1 p2 d1 d2 m} n q1 q2 q3 => ?_⟩
 ·by_cases z:i=j
  ·subst z
   obtain ⟨e1,_⟩:=zam q
   cases e1
  ·rw [zaj z] at q
   exact r.val q
 ·by_cases z:i=j
  ·subst z
   obtain ⟨e1,_⟩:=zam q
   cases e1
   exact ⟨l,hl,h0,hf,h,fun z=>by cases z⟩
  ·rw [zaj z] at q
   refine zc1e (r.own q) fun m m1 m2 m3 m4 m5 => ?_
   have ne:m≠l:=fun e=>r.apart z hi q hl (by rw [← e];exact m1)
   exact ⟨m,m1,m2,m3,m4.ext (.refl _) fun u q'=>by rw [zai ne];exact q',fun p=>(m5 p).mono fun u q'=>by rw [zai ne];exact q'⟩
 ·have g:∀ {j:Nat} {p:Bool} {e:D},(sd.set i (some (.own false d')))[j]? = some (some (.own p e))→∃ p' e',sd[j]? = some (some (.own p' e')):=fun {j p e} q=>by
   by_cases z:i=j
   ·subst z;exact ⟨_,d,hi⟩
   ·rw [zaj z] at q;exact ⟨p,e,q⟩
  refine zc2a (g q1) fun _ _ p1 => ?_
  refine zc2a (g q2) fun _ _ p2 => ?_
  exact r.apart n p1 p2 q3
theorem RS.frz1 {i:Nat}{p:Bool}{d:D}(r:RS K B F H sd σ)(hi:sd[i]? = some (some (.own p d))):∃ F',Same F F'∧RS K B F' H (sd.set i (some (.val d))) σ := by
 refine zc1e (r.own hi) fun l hl h0 hf ho _ => ?_
 obtain ⟨o,e⟩:=ho.has
 have hil:i<sd.length:=(List.getElem?_eq_some_iff.mp hi).1
 have sF:Same F (upd F l o):=zaB hf o
 refine ⟨upd F l o,sF,⟨r.ext.ff.trans sF,fun b u q => ?_,r.ext.hh,fun a q1 q2 => ?_⟩,by rw [List.length_set,r.len],fun {j x} q => ?_,fun {j p x} q => ?_,fun {j k p1 p2 d1 d2 m} n q1 q2 q3 => ?_⟩
 ·by_cases z:b=l
  ·subst z;rw [zah] at q;cases q;exact e
  ·rw [zai z] at q;exact r.ext.fh _ _ q
 ·have z:a≠l:=fun z=>q2 (by rw [z];exact h0)
  rw [zai z]
  exact r.ext.new a q1 q2
 ·by_cases z:i=j
  ·subst z
   obtain ⟨e1,_⟩:=zam q
   cases e1
   exact ⟨_,hl,ho.frz e hf⟩
  ·rw [zaj z] at q
   refine zc1b (r.val q) fun v v1 v2 => ?_
   exact ⟨v,v1,IsD.same sF _ _ v2⟩
 ·by_cases z:i=j
  ·subst z
   obtain ⟨e1,_⟩:=zam q
   cases e1
  ·rw [zaj z] at q
   refine zc1e (r.own q) fun m m1 m2 m3 m4 m5 => ?_
   have ne:m≠l:=fun e=>r.apart z hi q hl (by rw [← e];exact m1)
   exact ⟨m,m1,m2,by rw [zai ne];exact m3,m4.ext sF fun u q'=>q',m5⟩
 ·have z1:i≠j:=fun z=>by subst z;obtain ⟨e1,_⟩:=zam q1;cases e1
  have z2:i≠k:=fun z=>by subst z;obtain ⟨e1,_⟩:=zam q2;cases e1
  rw [zaj z1] at q1
  rw [zaj z2] at q2
  exact r.apart n q1 q2 q3
noncomputable def frzD:List Nat→SD→SD
 | [],sd=>sd
 | i::is,sd=>frzD is (match sd[i]? with
  | some (some (.own _ d))=>sd.set i (some (.val d))
  | _=>sd)
theorem RS.frz:∀ (is:List Nat) {F:Hp} {sd:SD},RS K B F H sd σ → ∃ F',Same F F'∧RS K B F' H (frzD is sd) σ
 | [],F,sd,r=>⟨F,.refl _,r⟩
 | i::is,F,sd,r=>by
  unfold frzD
  split
  ·rename_i p d h
   refine zc1b (r.frz1 h) fun F1 s1 r1 => ?_
   refine zc1b (RS.frz is r1) fun F2 s2 r2 => ?_
   exact ⟨F2,s1.trans s2,r2⟩
  ·exact RS.frz is r
end
end L2.DL
namespace L2.DL
open PySem PySem.Spec PyProof.Rows
def ExcIs (K:PySem.W.Frag)(F H:Hp)(c:Str)(fs:List D)(cv:Value)(a:Option Addr):Prop :=
 ∃ C,cv=.ref C∧PySem.W.nsIn K mainGlobals c=some (some (.ref C))∧(fs=[]∨∃ p n d x,fs=[d]∧a=some p∧H p=some (.xd [(n,x)])∧IsD K F d x)
def XW (K:PySem.W.Frag)(E:XK)(F H:Hp)(c:Str)(fs:List D):Prop:=∀ cv a F' H',Ext F H F' H'→ExcIs K F' H' c fs cv a→E cv a H'
theorem XW.ext {K:PySem.W.Frag}{E:XK}{F H F' H':Hp}{c:Str}{fs:List D}(h:XW K E F H c fs)(e:Ext F H F' H'):XW K E F' H' c fs:=fun cv a F2 H2 e2 q=>h cv a F2 H2 (e.trans e2) q
abbrev FE:=SD→Res D
abbrev FT:=SD→Res Bool
abbrev FA:=SD→Res (List D)
def OkD (K:PySem.W.Frag)(F H:Hp)(Q:VK)(d:D):Prop:=∀ v F' H',Ext F H F' H'→IsD K F' d v→Q v H'
noncomputable def OkB (F H:Hp)(Q:Bool→Hp→Prop)(b:Bool):Prop:=∀ F' H',Ext F H F' H'→Q b H'
def OkA (K:PySem.W.Frag)(F H:Hp)(Q:List V→Hp→Prop)(ds:List D):Prop:=∀ vs F' H',Ext F H F' H'→IsDs K F' ds vs→Q vs H'
def OkN (K:PySem.W.Frag)(F H:Hp)(Q:VK)(d:D):Prop:=∀ l F' H',Ext F H F' H'→H l=none→F' l=none→zbt K F' H' l d→Q (.ref l) H'
def tD (K:PySem.W.Frag)(E:XK)(f:FE):TE:=fun σ H Q => ∃ B F sd,RS K B F H sd σ ∧ (f sd).need (OkD K F H Q) (XW K E F H)
def tDT (K:PySem.W.Frag)(E:XK)(f:FT):TT:=fun σ H Q => ∃ B F sd,RS K B F H sd σ ∧ (f sd).need (OkB F H Q) (XW K E F H)
def tDA (K:PySem.W.Frag)(E:XK)(f:FA):TA:=fun σ H Q => ∃ B F sd,RS K B F H sd σ ∧ (f sd).need (OkA K F H Q) (XW K E F H)
def tDN (K:PySem.W.Frag)(E:XK)(f:FE):TE:=fun σ H Q => ∃ B F sd,RS K B F H sd σ ∧ (f sd).need (OkN K F H Q) (XW K E F H)
abbrev QE (X:Cx)(E:XK)(e:Expr)(f:FE):Prop:=PE X e (tD X.K E f)
abbrev QT (X:Cx)(E:XK)(e:Expr)(f:FT):Prop:=PT X e (tDT X.K E f)
abbrev QW (X:Cx)(E:XK)(e:Expr)(f:FT):Prop:=PW X e (tDT X.K E f)
abbrev QA (X:Cx)(E:XK)(es:List Expr)(f:FA):Prop:=PA X es (tDA X.K E f)
abbrev QN (X:Cx)(E:XK)(e:Expr)(f:FE):Prop:=PE X e (tDN X.K E f)
theorem PE.weak {X:Cx}{e:Expr}{t t':TE}(h:PE X e t)(w:∀ σ H Q,t' σ H Q→t σ H Q):PE X e t':=fun pins s σ H Q I q=>h pins s σ H Q I (w _ _ _ q)
theorem PT.weak {X:Cx}{e:Expr}{t t':TT}(h:PT X e t)(w:∀ σ H Q,t' σ H Q→t σ H Q):PT X e t':=fun pins s σ H Q I q=>h pins s σ H Q I (w _ _ _ q)
theorem PW.weak {X:Cx}{e:Expr}{t t':TT}(h:PW X e t)(w:∀ σ H Q,t' σ H Q→t σ H Q):PW X e t':=fun whole pins s σ H Q I q=>h whole pins s σ H Q I (w _ _ _ q)
theorem PA.weak {X:Cx}{e:List Expr}{t t':TA}(h:PA X e t)(w:∀ σ H Q,t' σ H Q→t σ H Q):PA X e t':=fun pos pins s σ H Q I q=>h pos pins s σ H Q I (w _ _ _ q)
theorem PS.weak {X:Cx}{e:Stmt}{t t':TS}(h:PS X e t)(w:∀ D σ H,t' D σ H→t D σ H):PS X e t':=fun pins s σ H D I q=>h pins s σ H D I (w _ _ _ q)
theorem PSs.weak {X:Cx}{e:List Stmt}{t t':TS}(h:PSs X e t)(w:∀ D σ H,t' D σ H→t D σ H):PSs X e t':=fun pins s σ H D I q=>h pins s σ H D I (w _ _ _ q)
theorem PI.weak {X:Cx}{tg e:Expr}{t t':TI}(h:PI X tg e t)(w:∀ σ H R,t' σ H R→t σ H R):PI X tg e t':=fun pins s σ H R I q=>h pins s σ H R I (w _ _ _ q)
section
variable {K:PySem.W.Frag}{E:XK}{F H F' H':Hp}
theorem OkD.ext {Q:VK}{d:D}(h:OkD K F H Q d)(e:Ext F H F' H'):OkD K F' H' Q d:=fun v F2 H2 e2 q=>h v F2 H2 (e.trans e2) q
theorem OkB.ext {Q:Bool→Hp→Prop}{b:Bool}(h:OkB F H Q b)(e:Ext F H F' H'):OkB F' H' Q b:=fun F2 H2 e2=>h F2 H2 (e.trans e2)
theorem OkN.ext {Q:VK}{d:D}(h:OkN K F H Q d)(e:Ext F H F' H'):OkN K F' H' Q d:=fun l F2 H2 e2 q=>h l F2 H2 (e.trans e2) (zan e.hh q)
theorem zlI {Q:VK}{r:Res D}(h:r.need (OkD K F H Q) (XW K E F H))(e:Ext F H F' H'):r.need (OkD K F' H' Q) (XW K E F' H'):=h.mono (fun _ q=>q.ext e) fun _ _ q=>q.ext e
theorem zme {Q:Bool→Hp→Prop}{r:Res Bool}(h:r.need (OkB F H Q) (XW K E F H))(e:Ext F H F' H'):r.need (OkB F' H' Q) (XW K E F' H'):=h.mono (fun _ q=>q.ext e) fun _ _ q=>q.ext e
theorem needN {Q:VK}{r:Res D}(h:r.need (OkN K F H Q) (XW K E F H))(e:Ext F H F' H'):r.need (OkN K F' H' Q) (XW K E F' H'):=h.mono (fun _ q=>q.ext e) fun _ _ q=>q.ext e
theorem OkD.new {Q:VK}{d:D}(h:OkD K F H Q d):OkN K F H Q d:=fun l F' H' e n n' o=>by
 obtain ⟨u,hu⟩:=o.has
 refine h (.ref l) (upd F' l u) H' ⟨e.ff.trans (zaB n' u),fun b v q => ?_,e.hh,fun a q1 q2 => ?_⟩ (o.frz hu n')
 ·by_cases z:b=l
  ·subst z;rw [zah] at q;cases q;exact hu
  ·rw [zai z] at q;exact e.fh _ _ q
 ·have z:a≠l:=fun z=>q2 (by rw [z];exact n)
  rw [zai z];exact e.new a q1 q2
end
section
variable {X:Cx}{E:XK}
theorem QN.qe {e:Expr}{f:FE}(h:QN X E e f):QE X E e f:=PE.weak h (by rintro σ H Q ⟨B,F,sd,r,n⟩;exact ⟨B,F,sd,r,n.mono (fun _ q=>q.new) fun _ _ q=>q⟩)
noncomputable def dVar (i:Nat):FE:=fun sd=>match sd[i]? with
 | some (some (.val d))=>.ok d
 | _=>.no
noncomputable def dC (d:D):FE:=fun _=>.ok d
theorem zac {i:Nat}{e:Expr}(h:PE X e (tVar i)):QE X E e (dVar i):=PE.weak h fun σ H Q zh=>by
 refine zc3b zh fun B F sd r n => ?_
 unfold dVar at n
 split at n
 ·rename_i d q
  refine zc1b (r.val q) fun v h1 h2 => ?_
  exact ⟨v,h1,n v F H (.refl r.ext.fh) h2⟩
 ·exact n.elim
theorem zdu {e:Expr}{v:V}{d:D}(h:PE X e (tC v))(i:∀ F,IsD X.K F d v):QE X E e (dC d):=PE.weak h (by rintro σ H Q ⟨B,F,sd,r,n⟩;exact n v F H (.refl r.ext.fh) (i F))
theorem zae {i j pos}:QE X E (.Constant (.int i) j pos) (dC (.int i)):=zdu zlP fun _=>IsD.int_iff.mpr rfl
theorem zjn {b j pos}:QE X E (.Constant (.bool b) j pos) (dC (.bl b)):=zdu pe_bl fun _=>IsD.bl_iff.mpr rfl
theorem zaN {x j pos}:QE X E (.Constant (.str x) j pos) (dC (.str x)):=zdu zmi fun _=>IsD.str_iff.mpr rfl
noncomputable def Res.ofO {α : Type}:Option α → Res α
 | some a=>.ok a
 | none=>.no
@[simp] theorem Res.ofO_some {α : Type}(a : α):Res.ofO (some a)=.ok a:=rfl
theorem Res.need_ofO {α : Type}{o:Option α}{p : α → Prop}{q:Str→List D→Prop}(h:(Res.ofO o).need p q):∃ a,o=some a∧p a:=by
 cases o with
 | none=>exact h.elim
 | some a=>exact ⟨a,rfl,h⟩
def dOp (g:D→D→Option D)(fa fb:FE):FE:=fun sd=>(fa sd).bind fun x=>(fb sd).bind fun y=>.ofO (g x y)
def dUn (g:D→Option D)(fa:FE):FE:=fun sd=>(fa sd).bind fun x=>.ofO (g x)
def rD2 (K:PySem.W.Frag)(g:D→D→Option D):R2:=fun v w H Q => ∃ F d e z,Same F H∧IsD K F d v∧IsD K F e w∧g d e=some z∧OkD K F H Q z
def rD1 (K:PySem.W.Frag)(g:D→Option D):V→Hp→VK→Prop:=fun v H Q => ∃ F d z,Same F H∧IsD K F d v∧g d=some z∧OkD K F H Q z
def rDA (K:PySem.W.Frag)(g:List D→Option D):List V→Hp→VK→Prop:=fun vs H Q => ∃ F ds z,Same F H∧IsDs K F ds vs∧g ds=some z∧OkD K F H Q z
def rDAN (K:PySem.W.Frag)(g:List D→Option D):List V→Hp→VK→Prop:=fun vs H Q => ∃ F ds z,Same F H∧IsDs K F ds vs∧g ds=some z∧OkN K F H Q z
theorem zhT {K:PySem.W.Frag}{g:D→D→Option D}{fa fb:FE}{σ : St}{H:Hp}{Q:VK}(h:tD K E (dOp g fa fb) σ H Q):tOp (rD2 K g) (tD K E fa) (tD K E fb) σ H Q:=by
 refine zc3b h fun B F sd r n => ?_
 refine ⟨B,F,sd,r,(Res.need_bind n).mono (fun x n1 v F1 H1 e1 i1 => ?_) fun _ _ q=>q⟩
 refine ⟨B,F1,sd,r.step e1,(Res.need_bind n1).mono (fun y n2 w F2 H2 e2 i2 => ?_) fun _ _ q=>q.ext e1⟩
 refine zc1b (Res.need_ofO n2) fun z hz q => ?_
 exact ⟨F2,x,y,z,e2.fh,IsD.same e2.ff _ _ i1,i2,hz,q.ext (e1.trans e2)⟩
theorem tD_un {K:PySem.W.Frag}{g:D→Option D}{fa:FE}{σ : St}{H:Hp}{Q:VK}(h:tD K E (dUn g fa) σ H Q):tUn (rD1 K g) (tD K E fa) σ H Q:=by
 refine zc3b h fun B F sd r n => ?_
 refine ⟨B,F,sd,r,(Res.need_bind n).mono (fun x n1 v F1 H1 e1 i1 => ?_) fun _ _ q=>q⟩
 refine zc1b (Res.need_ofO n1) fun z hz q => ?_
 exact ⟨F1,x,z,e1.fh,i1,hz,q.ext e1⟩
abbrev OpD (X:Cx)(f:Value→Value→Sem Value)(g:D→D→Option D):Prop:=OpR X f (rD2 X.K g)
theorem OpR.weak {f:Value→Value→Sem Value}{r r':R2}(h:OpR X f r)(w:∀ x y H Q,r' x y H Q→r x y H Q):OpR X f r':=fun pins s σ H x y v u Q I rx ry q=>h pins s σ H x y v u Q I rx ry (w _ _ _ _ q)
theorem UnR.weak {f:Value→Sem Value}{r r':V→Hp→VK→Prop}(h:UnR X f r)(w:∀ x H Q,r' x H Q→r x H Q):UnR X f r':=fun pins s σ H x v Q I rx q=>h pins s σ H x v Q I rx (w _ _ _ q)
theorem zas.weak {f:Value}{r r':List V→Hp→VK→Prop}(h:zas X f r)(w:∀ x H Q,r' x H Q→r x H Q):zas X f r':=fun pins s σ H x v Q I rx q=>h pins s σ H x v Q I rx (w _ _ _ q)
theorem IxR.weak {r r':R2}(h:IxR X r)(w:∀ x y H Q,r' x y H Q→r x y H Q):IxR X r':=fun value slice pins s σ H x y v u Q I rx ry q e=>h value slice pins s σ H x y v u Q I rx ry (w _ _ _ _ q) e
variable {a b:Expr}{fa fb:FE}{pos:Pos}
theorem q_op {op:Operator}{g:D→D→Option D}(ho:OpD X (binaryOp op) g)(ha:QE X E a fa)(hb:QE X E b fb):QE X E (.BinOp a op b pos) (dOp g fa fb):=PE.weak (zms ho ha hb) fun _ _ _ h=>zhT h
theorem q_un {op:UnaryOp}{g:D→Option D}(ho:UnR X (unaryOp op) (rD1 X.K g))(ha:QE X E a fa):QE X E (.UnaryOp op a pos) (dUn g fa):=PE.weak (pe_un ho ha) fun _ _ _ h=>tD_un h
theorem ziX {op:CmpOp}{g:D→D→Option D}(ho:OpD X (compareOp op) g)(ha:QE X E a fa)(hb:QE X E b fb)(hm:behindInMarks op b=false):QE X E (.Compare a [op] [b] pos) (dOp g fa fb):=PE.weak (zjm ho ha hb hm) fun _ _ _ h=>zhT h
def za4 (fa:FE):FT:=fun sd=>(fa sd).bind fun x=>match x with
 | .bl b=>.ok b
 | _=>.no
theorem zcd {K:PySem.W.Frag}{σ : St}{H:Hp}{Q:Bool→Hp→Prop}(h:tDT K E (za4 fa) σ H Q):tD K E fa σ H (fun x H' => ∃ k,x=.bl k∧Q k H'):=by
 refine zc3b h fun B F sd r n => ?_
 refine ⟨B,F,sd,r,(Res.need_bind n).mono (fun x n1 v F1 H1 e1 i1 => ?_) fun _ _ q=>q⟩
 cases x with
 | bl k=>exact ⟨k,IsD.bl_iff.mp i1,n1 F1 H1 e1⟩
 | _=>exact n1.elim
theorem zbe {op:CmpOp}{g:D→D→Option D}(ho:OpD X (compareOp op) g)(ha:QE X E a fa)(hb:QE X E b fb)(hm:behindInMarks op b=false):QT X E (.Compare a [op] [b] pos) (za4 (dOp g fa fb)) :=
 PT.weak (zfW ho ha hb hm) fun σ H Q h=>by
  have h:=zcd h
  exact zhT h
theorem ziH (ha:QE X E a fa)(he:autoParam (∀ whole,isTrue a X.env whole=(do let v ← whole;standAt a.pos;holding [v] (truthy v))) zaw._auto_1):QT X E a (za4 fa):=PT.weak (zkT ha he) fun σ H Q q=>zcd q
def zib (f:FT):FT:=fun sd=>(f sd).bind fun b=>.ok (!b)
def zhY (f g:FT):FT:=fun sd=>(f sd).bind fun b=>if b then g sd else .ok false
def dOrT (f g:FT):FT:=fun sd=>(f sd).bind fun b=>if b then .ok true else g sd
variable {f g:FT}{rest:List Expr}
theorem zlE (ha:QT X E a f):QT X E (.UnaryOp .Not a pos) (zib f):=PT.weak (zkA ha) fun σ H Q ⟨B,F,sd,r,n⟩ =>
 ⟨B,F,sd,r,(Res.need_bind n).mono (fun _ q=>q) fun _ _ q=>q⟩
theorem zks (ha:QT X E a f):QW X E (.BoolOp .And [a] pos) f:=zka ha
theorem zmd (ha:QT X E a f):QW X E (.BoolOp .Or [a] pos) f:=zkD ha
theorem zkM (ha:QT X E a f)(hb:QW X E (.BoolOp .And (b::rest) pos) g):QW X E (.BoolOp .And (a::b::rest) pos) (zhY f g):=PW.weak (zma ha hb) fun σ H Q zh=>by
 refine zc3b zh fun B F sd r n => ?_
 refine ⟨B,F,sd,r,(Res.need_bind n).mono (fun k n1 F1 H1 e1 => ?_) fun _ _ q=>q⟩
 cases k with
 | true=>exact ⟨B,F1,sd,r.step e1,zme n1 e1⟩
 | false=>exact n1 F1 H1 e1
theorem qw_or (ha:QT X E a f)(hb:QW X E (.BoolOp .Or (b::rest) pos) g):QW X E (.BoolOp .Or (a::b::rest) pos) (dOrT f g):=PW.weak (pw_or ha hb) fun σ H Q zh=>by
 refine zc3b zh fun B F sd r n => ?_
 refine ⟨B,F,sd,r,(Res.need_bind n).mono (fun k n1 F1 H1 e1 => ?_) fun _ _ q=>q⟩
 cases k with
 | true=>exact n1 F1 H1 e1
 | false=>exact ⟨B,F1,sd,r.step e1,zme n1 e1⟩
theorem QW.qt {e:Expr}(h:QW X E e f):QT X E e f:=PW.pt h
def zix (fa fb:FE):FE:=fun sd=>(za4 fa sd).bind fun b=>if b then fb sd else .ok (.bl false)
def zjA (fa:FE):FE:=fun sd=>(za4 fa sd).bind fun b=>.ok (.bl !b)
theorem zlC {op}(h:QE X E a fa):QE X E (.BoolOp op [a] pos) fa:=zlQ h
theorem zlH (ha:QE X E a fa)(hb:QE X E (.BoolOp .And (b::rest) pos) fb):QE X E (.BoolOp .And (a::b::rest) pos) (zix fa fb):=PE.weak (zmv ha hb) fun σ H Q zh=>by
 obtain ⟨B,F,sd,r,n⟩:=zh
 refine zcd (K:=X.K) (E:=E) (Q:=fun c H1=>if c=true then tD X.K E fb σ H1 Q else Q (.bl false) H1) ⟨B,F,sd,r,(Res.need_bind n).mono (fun k n1 F1 H1 e1 => ?_) fun _ _ q=>q⟩
 cases k with
 | true=>exact ⟨B,F1,sd,r.step e1,zlI n1 e1⟩
 | false=>exact n1 _ F1 H1 e1 (IsD.bl_iff.mpr rfl)
theorem q_not (ha:QE X E a fa):QE X E (.UnaryOp .Not a pos) (zjA fa):=PE.weak (zmb ha) fun σ H Q zh=>by
 refine zc3b zh fun B F sd r n => ?_
 refine zcd (K:=X.K) (E:=E) (Q:=fun c H1=>Q (.bl (!c)) H1) ⟨B,F,sd,r,(Res.need_bind n).mono (fun k n1 F1 H1 e1 => ?_) fun _ _ q=>q⟩
 exact n1 _ F1 H1 e1 (IsD.bl_iff.mpr rfl)
noncomputable def dNil:FA:=fun _=>.ok []
def zab (fa:FE)(fr:FA):FA:=fun sd=>(fa sd).bind fun x=>(fr sd).bind fun xs=>.ok (x::xs)
theorem zad:QA X E [] dNil:=PA.weak zdF (by rintro σ H Q ⟨B,F,sd,r,n⟩;exact n [] F H (.refl r.ext.fh) .nil)
theorem zaa {e:Expr}{es:List Expr}{fe:FE}{fr:FA}(ha:QE X E e fe)(hr:QA X E es fr)(hs:autoParam (starEach (e::es) X.env=(false,eval e X.env)::starEach es X.env) zau._auto_1):QA X E (e::es) (zab fe fr) :=
 PA.weak (zci ha hr hs) fun σ H Q zh=>by
  refine zc3b zh fun B F sd r n => ?_
  refine ⟨B,F,sd,r,(Res.need_bind n).mono (fun x n1 v F1 H1 e1 i1 => ?_) fun _ _ q=>q⟩
  refine ⟨B,F1,sd,r.step e1,(Res.need_bind n1).mono (fun xs n2 vs F2 H2 e2 i2 => ?_) fun _ _ q=>q.ext e1⟩
  exact n2 _ F2 H2 (e1.trans e2) (.mk (IsD.same e2.ff _ _ i1) i2)
def dLst (fr:FA):FE:=fun sd=>(fr sd).bind fun xs=>if xs.length≤1000 then .ok (.lst xs) else .no
theorem zcE {es:List Expr}{fr:FA}(h:QA X E es fr):QN X E (.List es pos) (dLst fr):=PE.weak (zkY h) fun σ H Q zh=>by
 refine zc3b zh fun B F sd r n => ?_
 refine ⟨B,F,sd,r,(Res.need_bind n).mono (fun xs n1 vs F1 H1 e1 i1 => ?_) fun _ _ q=>q⟩
 split at n1
 ·rename_i hl
  have hz:=i1.length
  refine ⟨zfx (by omega),fun p hp => ?_⟩
  exact n1 p F1 (upd H1 p (.lst vs)) (e1.trans (.keep e1.fh hp _)) (zan e1.hh hp) (zan e1.fh hp) ⟨vs,zah,i1⟩
 ·exact n1.elim
def SpD (K:PySem.W.Frag)(Fn:List D→Res D):Sp:=fun vs H Q _ => ∃ F ds,Same F H∧IsDs K F ds vs∧(Fn ds).need (OkD K F H Q) (XW K E0 F H)
def SpN (K:PySem.W.Frag)(Fn:List D→Res D):Sp:=fun vs H Q _ => ∃ F ds,Same F H∧IsDs K F ds vs∧(Fn ds).need (OkN K F H Q) (XW K E0 F H)
def zaA (Fn:List D→Res D)(fr:FA):FE:=fun sd=>(fr sd).bind Fn
theorem q_fn {name:Str}{k:Nat}{ps:List Str}{Fn:List D→Res D}{p:Pos}{e:Expr}{es:List Expr}{fr:FA}(c:zak X.prog X.w X.K X.mg X.base name k ps (SpD X.K Fn))(hr:Room k X.A)(hg:Gl X name)(ha:QA X E0 (e::es) fr)
 (hdb:autoParam ((name == ("__debug__" : Str))=false) zav._auto_1) (he:starEach (e::es) X.env=(false,eval e X.env)::starEach es X.env:=by rfl) (hpl:(backTo pos (starEach es X.env)).any (·.1)=false:=by rfl) :
 QE X E0 (.Call (.Name name p) (e::es) [] pos) (zaA Fn fr):=PE.weak (zij c hr hg ha hdb he hpl) fun σ H Q zh=>by
 refine zc3b zh fun B F sd r n => ?_
 refine ⟨B,F,sd,r,(Res.need_bind n).mono (fun xs n1 vs F1 H1 e1 i1 => ?_) fun _ _ q=>q⟩
 show SpD X.K Fn (vs++[]) H1 Q E0
 rw [List.append_nil]
 exact ⟨F1,xs,e1.fh,i1,zlI n1 e1⟩
theorem ziv {name:Str}{k:Nat}{ps:List Str}{Fn:List D→Res D}{p:Pos}{e:Expr}{es:List Expr}{fr:FA}(c:zak X.prog X.w X.K X.mg X.base name k ps (SpN X.K Fn))(hr:Room k X.A)(hg:Gl X name)(ha:QA X E0 (e::es) fr)
 (hdb:autoParam ((name == ("__debug__" : Str))=false) zav._auto_1) (he:starEach (e::es) X.env=(false,eval e X.env)::starEach es X.env:=by rfl) (hpl:(backTo pos (starEach es X.env)).any (·.1)=false:=by rfl) :
 QN X E0 (.Call (.Name name p) (e::es) [] pos) (zaA Fn fr):=PE.weak (zij c hr hg ha hdb he hpl) fun σ H Q zh=>by
 refine zc3b zh fun B F sd r n => ?_
 refine ⟨B,F,sd,r,(Res.need_bind n).mono (fun xs n1 vs F1 H1 e1 i1 => ?_) fun _ _ q=>q⟩
 show SpN X.K Fn (vs++[]) H1 Q E0
 rw [List.append_nil]
 exact ⟨F1,xs,e1.fh,i1,needN n1 e1⟩
def dBlt (g:List D→Option D)(fr:FA):FE:=fun sd=>(fr sd).bind fun xs=>.ofO (g xs)
theorem za3 {id:String}{x:Str}{p:Pos}{e:Expr}{es:List Expr}{g:List D→Option D}{fr:FA}(hc:zas X (.builtin id) (rDA X.K g))(hg:Gl X x)(hm:X.mg x=none)(hv:bootBuiltins x=some (.builtin id))(ha:QA X E (e::es) fr)(hn:autoParam (x ≠ "__name__") zav._auto_1)(hdb:autoParam ((x == ("__debug__" : Str))=false) zav._auto_1)
 (he:autoParam (starEach (e::es) X.env=(false,eval e X.env)::starEach es X.env) zau._auto_1) (hpl:autoParam ((backTo pos (starEach es X.env)).any (·.1)=false) zau._auto_1):QE X E (.Call (.Name x p) (e::es) [] pos) (dBlt g fr) :=
 PE.weak (zeF hc hg hm hv ha hn hdb he hpl) fun σ H Q zh=>by
  refine zc3b zh fun B F sd r n => ?_
  refine ⟨B,F,sd,r,(Res.need_bind n).mono (fun xs n1 vs F1 H1 e1 i1 => ?_) fun _ _ q=>q⟩
  refine zc1b (Res.need_ofO n1) fun z hz q => ?_
  exact ⟨F1,xs,z,e1.fh,i1,hz,q.ext e1⟩
theorem zeI {id:String}{x:Str}{p:Pos}{e:Expr}{es:List Expr}{g:List D→Option D}{fr:FA}(hc:zas X (.builtin id) (rDAN X.K g))(hg:Gl X x)(hm:X.mg x=none)(hv:bootBuiltins x=some (.builtin id))(ha:QA X E (e::es) fr)(hn:autoParam (x ≠ "__name__") zav._auto_1)(hdb:autoParam ((x == ("__debug__" : Str))=false) zav._auto_1)
 (he:autoParam (starEach (e::es) X.env=(false,eval e X.env)::starEach es X.env) zau._auto_1) (hpl:autoParam ((backTo pos (starEach es X.env)).any (·.1)=false) zau._auto_1):QN X E (.Call (.Name x p) (e::es) [] pos) (dBlt g fr) :=
 PE.weak (zeF hc hg hm hv ha hn hdb he hpl) fun σ H Q zh=>by
  refine zc3b zh fun B F sd r n => ?_
  refine ⟨B,F,sd,r,(Res.need_bind n).mono (fun xs n1 vs F1 H1 e1 i1 => ?_) fun _ _ q=>q⟩
  refine zc1b (Res.need_ofO n1) fun z hz q => ?_
  exact ⟨F1,xs,z,e1.fh,i1,hz,q.ext e1⟩
theorem zcf {T:String}{x:Str}{p:Pos}{e:Expr}{es:List Expr}{g:List D→Option D}{fr:FA}(hc:zas X (.type T) (rDA X.K g))(hg:Gl X x)(hm:X.mg x=none)(hv:bootBuiltins x=some (.type T))(ha:QA X E (e::es) fr)(hn:autoParam (x ≠ "__name__") zav._auto_1)(hdb:autoParam ((x == ("__debug__" : Str))=false) zav._auto_1)
 (he:autoParam (starEach (e::es) X.env=(false,eval e X.env)::starEach es X.env) zau._auto_1) (hpl:autoParam ((backTo pos (starEach es X.env)).any (·.1)=false) zau._auto_1):QE X E (.Call (.Name x p) (e::es) [] pos) (dBlt g fr) :=
 PE.weak (zdJ hc hg hm hv ha hn hdb he hpl) fun σ H Q zh=>by
  refine zc3b zh fun B F sd r n => ?_
  refine ⟨B,F,sd,r,(Res.need_bind n).mono (fun xs n1 vs F1 H1 e1 i1 => ?_) fun _ _ q=>q⟩
  refine zc1b (Res.need_ofO n1) fun z hz q => ?_
  exact ⟨F1,xs,z,e1.fh,i1,hz,q.ext e1⟩
theorem zaD {T:String}{x:Str}{p:Pos}{e:Expr}{es:List Expr}{g:List D→Option D}{fr:FA}(hc:zas X (.type T) (rDAN X.K g))(hg:Gl X x)(hm:X.mg x=none)(hv:bootBuiltins x=some (.type T))(ha:QA X E (e::es) fr)(hn:autoParam (x ≠ "__name__") zav._auto_1)(hdb:autoParam ((x == ("__debug__" : Str))=false) zav._auto_1)
 (he:autoParam (starEach (e::es) X.env=(false,eval e X.env)::starEach es X.env) zau._auto_1) (hpl:autoParam ((backTo pos (starEach es X.env)).any (·.1)=false) zau._auto_1):QN X E (.Call (.Name x p) (e::es) [] pos) (dBlt g fr) :=
 PE.weak (zdJ hc hg hm hv ha hn hdb he hpl) fun σ H Q zh=>by
  refine zc3b zh fun B F sd r n => ?_
  refine ⟨B,F,sd,r,(Res.need_bind n).mono (fun xs n1 vs F1 H1 e1 i1 => ?_) fun _ _ q=>q⟩
  refine zc1b (Res.need_ofO n1) fun z hz q => ?_
  exact ⟨F1,xs,z,e1.fh,i1,hz,q.ext e1⟩
noncomputable def zbP:D→Bool
 | .tup _=>false
 | .lst _=>false
 | .dct _ _=>false
 | .ins _ _ _=>false
 | .exc _=>false
 | .dcf _ _=>false
 | .pin _ _=>false
 | .scr _=>false
 | _=>true
theorem IsD.scal {K:PySem.W.Frag}{F F':Hp}{d:D}{v:V}(s:zbP d=true)(h:IsD K F d v):IsD K F' d v:=by
 cases d with
 | tup _=>exact zqb s
 | lst _=>exact zqb s
 | dct _ _=>exact zqb s
 | ins _ _ _=>exact zqb s
 | exc _=>exact zqb s
 | dcf _ _=>exact zqb s
 | pin _ _=>exact zqb s
 | scr _=>exact zqb s
 | _=>exact h
noncomputable def Res.bare {α : Type}(r:Res α):Res α := match r with
 | .ok a=>.ok a
 | .ex c []=>.ex c []
 | _=>.no
theorem Res.need_bare {α : Type}{K:PySem.W.Frag}{F H F1:Hp}{r:Res α}{p : α → Prop}(sF:Same F H)(h:r.bare.need p (XW K E0 F H)):r.need p (XW K E0 F1 H):=by
 cases r with
 | ok a=>exact h
 | no=>exact h
 | ex c fs =>
  cases fs with
  | nil=>exact fun cv a F2 H2 e2 ⟨C,h1,h2,_⟩=>h cv none F H2 (.grow sF e2.hh) ⟨C,h1,h2,.inl rfl⟩
  | cons d r=>exact h.elim
def dTmp (is:List Nat)(f:FE):FE:=fun sd=>(f (frzD is sd)).bare.bind fun d=>if zbP d then .ok d else .no
theorem q_tmp {e:Expr}{fe:FE}(is:List Nat)(h:QE X E0 e fe):QE X E0 e (dTmp is fe):=PE.weak h fun σ H Q zh=>by
 refine zc3b zh fun B F sd r n => ?_
 refine zc1b (r.frz is) fun F1 s1 r1 => ?_
 refine ⟨B,F1,_,r1,(Res.need_bare r.ext.fh (Res.need_bind n)).mono (fun d n1 v F2 H2 e2 i2 => ?_) fun c fs q=>q⟩
 split at n1
 ·rename_i hs
  exact n1 v F H2 (.grow r.ext.fh e2.hh) (i2.scal hs)
 ·exact n1.elim
end
end L2.DL
namespace L2.DL
open PySem PySem.Spec PyProof.Rows
inductive Out where
 | next (sd:SD)|ret (d:D)|brk (sd:SD)|cont (sd:SD)
def OkM (K:PySem.W.Frag)(F H:Hp)(Q:VK)(d:D):Prop:=if zbP d=true then OkD K F H Q d else OkN K F H Q d
def zic (K:PySem.W.Frag)(m:Option Bool)(B:Bs)(Q:VK)(d:D):Prop:=match m with
 | some true=>OkN K B.F0 B.H0 Q d
 | some false=>OkD K B.F0 B.H0 Q d
 | none=>OkM K B.F0 B.H0 Q d
def zec (K:PySem.W.Frag)(m:Option Bool)(B:Bs)(F:Hp)(T:Ends):Out→Prop
 | .next sd => ∀ σ F' H',Same F F'→RS K B F' H' sd σ → T.nx σ H'
 | .brk sd => ∀ σ F' H',Same F F'→RS K B F' H' sd σ → T.bk σ H'
 | .cont sd => ∀ σ F' H',Same F F'→RS K B F' H' sd σ → T.ct σ H'
 | .ret d=>zic K m B T.rt d
abbrev FS:=SD→Res Out
def tDS (K:PySem.W.Frag)(E:XK)(m:Option Bool)(g:FS):TS:=fun T σ H => ∃ B F sd,RS K B F H sd σ ∧ (g sd).need (zec K m B F T) (XW K E B.F0 B.H0)
abbrev QS (X:Cx)(E:XK)(m:Option Bool)(st:Stmt)(g:FS):Prop:=PS X st (tDS X.K E m g)
abbrev QSs (X:Cx)(E:XK)(m:Option Bool)(st:List Stmt)(g:FS):Prop:=PSs X st (tDS X.K E m g)
section
variable {K:PySem.W.Frag}{E:XK}{m:Option Bool}{B:Bs}{F F' H:Hp}{T:Ends}
theorem zec.mono {o:Out}(h:zec K m B F T o)(e:Same F F'):zec K m B F' T o:=by
 cases o with
 | next sd=>exact fun σ F2 H2 s r=>h σ F2 H2 (e.trans s) r
 | brk sd=>exact fun σ F2 H2 s r=>h σ F2 H2 (e.trans s) r
 | cont sd=>exact fun σ F2 H2 s r=>h σ F2 H2 (e.trans s) r
 | ret d=>exact h
end
section
variable {X:Cx}{E:XK}{m:Option Bool}{st:Stmt}{sts:List Stmt}{g g1 g2:FS}{pos:Pos}
noncomputable def zbJ:FS:=fun sd=>.ok (.next sd)
def sSeq (g1 g2:FS):FS:=fun sd=>(g1 sd).bind fun o=>match o with
 | .next sd'=>g2 sd'
 | o=>.ok o
theorem zbh:QSs X E m [] zbJ:=PSs.weak zd2 (by rintro T σ H ⟨B,F,sd,r,n⟩;exact n σ F H (.refl _) r)
theorem zao (h:QS X E m st g):QSs X E m [st] g:=ze5 h
theorem zal (h1:QS X E m st g1)(h2:QSs X E m sts g2):QSs X E m (st::sts) (sSeq g1 g2):=PSs.weak (zb7 h1 h2) fun T σ H zh=>by
 refine zc3b zh fun B F sd r n => ?_
 refine ⟨B,F,sd,r,(Res.need_bind n).mono (fun o n1 => ?_) fun _ _ q=>q⟩
 cases o with
 | next sd'=>exact fun σ' F' H' s r'=>⟨B,F',sd',r',n1.mono (fun o q=>q.mono s) fun _ _ q=>q⟩
 | ret d=>exact n1
 | brk sd'=>exact n1
 | cont sd'=>exact n1
theorem zcH (is:List Nat)(h:QS X E m st g):QS X E m st (fun sd=>g (frzD is sd)):=PS.weak h fun T σ H zh=>by
 refine zc3b zh fun B F sd r n => ?_
 refine zc1b (r.frz is) fun F1 s1 r1 => ?_
 exact ⟨B,F1,_,r1,n.mono (fun _ q=>q.mono s1) fun _ _ q=>q⟩
variable {e:Expr}{fe:FE}
def sSet (i:Nat)(f:FE):FS:=fun sd=>(f sd).bind fun d=>.ok (.next (sd.set i (some (.val d))))
def sOwn (i:Nat)(f:FE):FS:=fun sd=>(f sd).bind fun d=>.ok (.next (sd.set i (some (.own false d))))
theorem zaW {i:Nat}{x:Str}{pos':Pos}(hN:X.N.Nodup)(hi:X.N[i]? = some x)(hx:Loc X.env.scope x)(he:QE X E e fe)(hs:autoParam (swapsWith e (some (.Name x pos')) pos.line X.env=pure false) zau._auto_1)
 (hf:X.fn x=true∨X.env.scope.names.lookup x=some .local:=by first|exact .inl rfl|exact .inr rfl):QS X E m (.Assign [.Name x pos'] e pos) (sSet i fe):=PS.weak (zdB hN hi hx he hs hf) fun T σ H zh=>by
 refine zc3b zh fun B F sd r n => ?_
 refine ⟨B,F,sd,r,(Res.need_bind n).mono (fun d n1 v F1 H1 e1 i1 => ?_) fun _ _ q=>q.ext r.ext⟩
 exact n1 _ F1 H1 e1.ff ((r.step e1).setVal i1)
theorem zb6 {i:Nat}{x:Str}{pos':Pos}(hN:X.N.Nodup)(hi:X.N[i]? = some x)(hx:Loc X.env.scope x)(he:QN X E e fe)(hs:autoParam (swapsWith e (some (.Name x pos')) pos.line X.env=pure false) zau._auto_1)
 (hf:X.fn x=true∨X.env.scope.names.lookup x=some .local:=by first|exact .inl rfl|exact .inr rfl):QS X E m (.Assign [.Name x pos'] e pos) (sOwn i fe):=PS.weak (zdB hN hi hx he hs hf) fun T σ H zh=>by
 refine zc3b zh fun B F sd r n => ?_
 refine ⟨B,F,sd,r,(Res.need_bind n).mono (fun d n1 l F1 H1 e1 h1 h2 h3 => ?_) fun _ _ q=>q.ext r.ext⟩
 refine n1 _ F1 H1 e1.ff ((r.step e1).setOwn (zan r.ext.hh h1) h2 h3 fun j p d' q1 q2 => ?_)
 refine zc1e (r.own q1) fun l' p1 _ _ p4 _ => ?_
 rw [p1] at q2
 cases q2
 obtain ⟨o,ho⟩:=p4.has
 rw [h1] at ho
 exact zqn ho
def sRet (f:FE):FS:=fun sd=>(f sd).bind fun d=>.ok (.ret d)
theorem zaX (he:QE X E e fe):QS X E false (.Return (some e) pos) (sRet fe):=PS.weak (zeU he) fun T σ H zh=>by
 refine zc3b zh fun B F sd r n => ?_
 refine ⟨B,F,sd,r,(Res.need_bind n).mono (fun d n1 v F1 H1 e1 i1 => ?_) fun _ _ q=>q.ext r.ext⟩
 exact n1 v F1 H1 (r.ext.trans e1) i1
theorem zfP (he:QN X E e fe):QS X E true (.Return (some e) pos) (sRet fe):=PS.weak (zeU he) fun T σ H zh=>by
 refine zc3b zh fun B F sd r n => ?_
 refine ⟨B,F,sd,r,(Res.need_bind n).mono (fun d n1 l F1 H1 e1 h1 h2 h3 => ?_) fun _ _ q=>q.ext r.ext⟩
 exact n1 l F1 H1 (r.ext.trans e1) (zan r.ext.hh h1) h2 h3
noncomputable def zcn (i:Nat):FS:=fun sd=>match sd[i]? with
 | some (some (.own _ d))=>.ok (.ret d)
 | _=>.no
theorem zgE {i:Nat}(he:PE X e (tVar i)):QS X E true (.Return (some e) pos) (zcn i):=PS.weak (zeU he) fun T σ H zh=>by
 refine zc3b zh fun B F sd r n => ?_
 unfold zcn at n
 split at n
 ·rename_i d q
  refine zc1e (r.own q) fun l h1 h2 h3 h4 _ => ?_
  exact ⟨.ref l,h1,n l F H r.ext h2 h3 h4⟩
 ·exact n.elim
def sIf (c:FT)(g1 g2:FS):FS:=fun sd=>(c sd).bind fun b=>if b then g1 sd else g2 sd
theorem zcB {c:Expr}{a b:List Stmt}{fc:FT}(hc:QT X E c fc)(ha:QSs X E m a g1)(hb:QSs X E m b g2):QS X E m (.If c a b pos) (sIf fc g1 g2):=PS.weak (zjS hc ha hb) fun T σ H zh=>by
 refine zc3b zh fun B F sd r n => ?_
 refine ⟨B,F,sd,r,(Res.need_bind n).mono (fun b n1 F1 H1 e1 => ?_) fun _ _ q=>q.ext r.ext⟩
 cases b with
 | true=>exact ⟨B,F1,sd,r.step e1,n1.mono (fun _ q=>q.mono e1.ff) fun _ _ q=>q⟩
 | false=>exact ⟨B,F1,sd,r.step e1,n1.mono (fun _ q=>q.mono e1.ff) fun _ _ q=>q⟩
def zaH (i:Nat)(f:FE):FS:=fun sd=>match sd[i]? with
 | some (some (.own false (.lst ds)))=>(f sd).bind fun d=>if ds.length<sizeLine then .ok (.next (sd.set i (some (.own false (.lst (ds++[d])))))) else .no
 | _=>.no
theorem zaY {i:Nat}{o:Expr}{apos cpos:Pos}(ho:PE X o (tVar i))(he:QE X E e fe)
 (hp:∀ {to:TE} {t:TA},PE X o to→PA X [e] t→PE X (.Call (.Attribute o "append" apos) [e] [] cpos) (tBM X.K "list" zdn to t))
 (hs:autoParam (swapsWith (.Call (.Attribute o "append" apos) [e] [] cpos) none pos.line X.env=pure false) zau._auto_1)
 (hst:autoParam (starEach [e] X.env=(false,eval e X.env)::starEach [] X.env) zau._auto_1):QS X E m (.Expr (.Call (.Attribute o "append" apos) [e] [] cpos) pos) (zaH i fe) :=
 PS.weak (zes (hp ho (zaa he zad hst)) hs) fun T σ H zh=>by
  obtain ⟨B,F,sd,r,n⟩:=zh
  unfold zaH at n
  split at n
  ·rename_i ds hi
   obtain ⟨l,h1,h2,h3,⟨xs,h4,h5⟩,_⟩:=r.own hi
   refine ⟨.ref l,h1,.inl ⟨rfl,xs,SqL.of h4⟩,B,F,sd,r,?_⟩
   unfold zab dNil
   show ((fe sd).bind fun x=>.ok [x]).need _ _
   have n2:=Res.need_bind n
   cases q:fe sd with
   | no=>rw [q] at n2;exact n2
   | ex c fs=>rw [q] at n2;exact n2.ext r.ext
   | ok d =>
    rw [q] at n2
    intro vs F1 H1 e1 i1
    rw [IsDs.cons_iff] at i1
    obtain ⟨v,w,rfl,i2,i3⟩:=i1
    rw [IsDs.nil_iff] at i3
    subst i3
    have n3:(if ds.length<sizeLine then Res.ok (Out.next (sd.set i (some (.own false (.lst (ds++[d])))))) else .no).need (zec X.K m B F T) (XW X.K E B.F0 B.H0):=n2
    split at n3
    ·rename_i hz
     have hl:=h5.length
     refine ⟨l,xs,v,rfl,rfl,e1.hh _ _ h4,by omega,?_⟩
     have r1:=r.step e1
     exact n3 σ F1 _ e1.ff (r1.chg hi h1 ⟨xs++[v],zah,(IsDs.same e1.ff _ _ h5).snoc i2⟩)
    ·exact n3.elim
  ·exact n.elim
inductive Tg where
 | one (i:Nat)|tup (is:List Nat)
noncomputable def setAll:List Nat→List D→SD→SD
 | i::is,d::ds,sd=>setAll is ds (sd.set i (some (.val d)))
 | _,_,sd=>sd
def zaE:Tg→D→SD→Res SD
 | .one i,d,sd=>.ok (sd.set i (some (.val d)))
 | .tup is,.tup ds,sd=>if ds.length=is.length then .ok (setAll is ds sd) else .no
 | _,_,_=>.no
noncomputable def zdw:List Nat→List V→St→St
 | i::is,v::vs,σ => zdw is vs (σ.set i (some v))
 | _,_,σ => σ
theorem RS.setAll {K:PySem.W.Frag}{B:Bs}{F H:Hp}:∀ {is:List Nat} {ds:List D} {vs:List V} {sd:SD} {σ : St},RS K B F H sd σ → IsDs K F ds vs→RS K B F H (setAll is ds sd) (zdw is vs σ)
 | [],ds,vs,sd,σ,r,_=>r
 | i::is,[],vs,sd,σ,r,h=>by
  rw [IsDs.nil_iff] at h
  subst h
  exact r
 | i::is,d::ds,vs,sd,σ,r,h=>by
  rw [IsDs.cons_iff] at h
  refine zc2c h fun v w zr2 h1 h2 => ?_
  obtain rfl:=zr2
  exact RS.setAll (is:=is) (ds:=ds) (vs:=w) (r.setVal (i:=i) h1) h2
theorem RS.forget {K:PySem.W.Frag}{B:Bs}{F H:Hp}{sd sd':SD}{σ : St}(r:RS K B F H sd σ)(hl:sd'.length=sd.length)(h:∀ (i:Nat) (x:SV),sd'[i]? = some (some x)→sd[i]? = some (some x)):RS K B F H sd' σ :=
 ⟨r.ext,by rw [r.len,hl],fun q=>r.val (h _ _ q),fun q=>r.own (h _ _ q),fun n q1 q2 q3=>r.apart n (h _ _ q1) (h _ _ q2) q3⟩
def gT:Tg→PySem.W.Frag→TG
 | .one i,_=>zdo i
 | .tup is,K=>fun v σ H Q => ∃ a xs,v=.ref a∧SqT K H a xs∧xs.length=is.length∧Q (zdw is xs σ) H
theorem zid {K:PySem.W.Frag}{tg:Tg}{B:Bs}{F H:Hp}{sd:SD}{σ : St}{d:D}{v:V}{p:SD→Prop}{q:Str→List D→Prop}{Q:St→Hp→Prop}(r:RS K B F H sd σ)(hi:IsD K F d v)(n:(zaE tg d sd).need p q)
 (h:∀ sd' σ',p sd'→zaE tg d sd=.ok sd'→RS K B F H sd' σ'→Q σ' H):gT tg K v σ H Q:=by
 cases tg with
 | one i=>exact h _ _ n rfl (r.setVal hi)
 | tup is =>
  cases d with
  | tup ds =>
   rw [IsD.tup_iff] at hi
   refine zc2c hi fun a xs zr2 h1 h2 => ?_
   obtain rfl:=zr2
   have eb:zaE (.tup is) (.tup ds) sd=if ds.length=is.length then .ok (setAll is ds sd) else .no:=rfl
   by_cases hl:ds.length=is.length
   ·rw [if_pos hl] at eb
    rw [eb] at n
    exact ⟨a,xs,rfl,(h1.same r.ext.fh).sq,by rw [h2.length,hl],h _ _ n eb (r.setAll h2)⟩
   ·rw [if_neg hl] at eb
    rw [eb] at n
    exact n.elim
  | _=>exact n.elim
abbrev QG (X:Cx)(e:Expr)(tg:Tg):Prop:=PG X e (gT tg X.K)
def Walk (K:PySem.W.Frag)(F1:Hp)(J:It)(ds:List D):Prop:=∀ (i:Nat) (F2 H2:Hp),Same F1 F2→Same F2 H2 →
 (i<ds.length→J.go i H2∧∀ x H3,J.yld i H2 x H3→∃ d F3,ds[i]? = some d∧Ext F2 H2 F3 H3∧IsD K F3 d x)∧(ds.length≤i→J.stop i H2)
def tDI (K:PySem.W.Frag)(E:XK)(f:FA):TI:=fun σ H R => ∃ B F sd,RS K B F H sd σ ∧ (f sd).need (fun ds => ∀ J F' H',Ext F H F' H'→Walk K F' J ds→R J H') (XW K E F H)
abbrev QI (X:Cx)(E:XK)(tg iter:Expr)(f:FA):Prop:=PI X tg iter (tDI X.K E f)
def forD (b:D→FS):List D→FS
 | [],sd=>.ok (.next sd)
 | x::xs,sd=>(b x sd).bind fun o=>match o with
  | .next sd'=>forD b xs sd'
  | .cont sd'=>forD b xs sd'
  | .brk sd'=>.ok (.next sd')
  | .ret d=>.ok (.ret d)
def sFor (it:FA)(tg:Tg)(b:FS):FS:=fun sd=>(it sd).bind fun ds=>forD (fun x sd=>(zaE tg x sd).bind b) ds sd
theorem zbR {tg iter:Expr}{body:List Stmt}{fi:FA}{t:Tg}(hp:PassesOwn (model X.prog X.w) X.A X.env X.xe)(hc:X.calm=true)(hi:QI X E tg iter fi)(hg:QG X tg t)(hb:QSs X E m body g)
 (hss:autoParam (∀ x,foldedSetIterable iter X.env x=pure x) zaw._auto_1):QS X E m (.For tg iter body [] pos) (sFor fi t g):=PS.weak (zhg hp hc hi hg hb hss) fun T σ H zh=>by
 refine zc3b zh fun B F sd r n => ?_
 refine ⟨B,F,sd,r,(Res.need_bind n).mono (fun ds n1 J F1 H1 e1 wk => ?_) fun _ _ q=>q.ext r.ext⟩
 refine ⟨fun i k σ H=>k=ds.length-i∧i≤ds.length∧∃ F2 sd,Same F1 F2∧RS X.K B F2 H sd σ ∧ (forD (fun x sd=>(zaE t x sd).bind g) (ds.drop i) sd).need (zec X.K m B F2 T) (XW X.K E B.F0 B.H0),
  ⟨ds.length,rfl,Nat.zero_le _,F1,sd,.refl _,r.step e1,n1.mono (fun _ q=>q.mono e1.ff) fun _ _ q=>q⟩,?_⟩
 rintro i k σ2 H2 ⟨rfl,hi,F2,sd2,s2,r2,n2⟩
 obtain ⟨w1,w2⟩:=wk i F2 H2 s2 r2.ext.fh
 by_cases hlt:i<ds.length
 ·obtain ⟨go,yl⟩:=w1 hlt
  refine .inr ⟨go,fun σ' H' => ∃ F3 sd3,Same F1 F3∧RS X.K B F3 H' sd3 σ'∧(forD (fun x sd=>(zaE t x sd).bind g) (ds.drop (i+1)) sd3).need (zec X.K m B F3 T) (XW X.K E B.F0 B.H0),
   fun σ' H' ⟨F3,sd3,q1,q2,q3⟩=>⟨ds.length-(i+1),by omega,rfl,hlt,F3,sd3,q1,q2,q3⟩,fun x H3 y => ?_⟩
  refine zc2c (yl x H3 y) fun d F3 hd e3 i3 => ?_
  rw [List.drop_eq_getElem_cons hlt] at n2
  have hd':ds[i]=d:=by rw [List.getElem?_eq_getElem hlt] at hd;exact Option.some.inj hd
  rw [hd'] at n2
  have r3:=r2.step e3
  unfold forD at n2
  have n3:=Res.need_bind (Res.need_bind n2)
  refine zid r3 i3 n3 fun sd' σ' n4 _ r4 => ?_
  refine ⟨B,F3,sd',r4,n4.mono (fun o n5 => ?_) fun _ _ q=>q⟩
  cases o with
  | next sd5=>exact fun σ5 F5 H5 s5 r5=>⟨F5,sd5,(s2.trans e3.ff).trans s5,r5,n5.mono (fun _ q=>q.mono (e3.ff.trans s5)) fun _ _ q=>q⟩
  | cont sd5=>exact fun σ5 F5 H5 s5 r5=>⟨F5,sd5,(s2.trans e3.ff).trans s5,r5,n5.mono (fun _ q=>q.mono (e3.ff.trans s5)) fun _ _ q=>q⟩
  | brk sd5=>exact fun σ5 F5 H5 s5 r5=>n5 σ5 F5 H5 (e3.ff.trans s5) r5
  | ret d=>exact n5
 ·have he:i=ds.length:=by omega
  refine .inl ⟨w2 (by omega),?_⟩
  subst he
  rw [List.drop_length] at n2
  exact n2 σ2 F2 H2 (.refl _) r2
def mapD {α β : Type}(f : α → Res β):List α → Res (List β)
 | []=>.ok []
 | x::xs=>(f x).bind fun y=>(mapD f xs).bind fun ys=>.ok (y::ys)
def capD (cap:List (Option Nat))(sd:SD):SD:=cap.map fun o=>o.bind fun j=>match sd[j]? with
 | some (some (.val d))=>some (.val d)
 | _=>none
noncomputable def zbB (sd:SD)(i:Nat):Bool:=match sd[i]? with
 | some none=>true
 | _=>false
def zcw (sd:SD):Tg→Bool
 | .one i=>zbB sd i
 | .tup is=>is.all (zbB sd)
def zbZ (cap:List (Option Nat))(it:FA)(tg:Tg)(f:FE):FE:=fun sd=>(it sd).bind fun ds=>if zcw (capD cap sd) tg=true∧ds.length<sizeLine then
 (mapD (fun x=>(zaE tg x (capD cap sd)).bind f) ds).bind fun ys=>.ok (.lst ys) else .no
theorem RS.cap {K:PySem.W.Frag}{B:Bs}{F H:Hp}{sd:SD}{σ : St}(cap:List (Option Nat))(r:RS K B F H sd σ):RS K B F H (capD cap sd) (zet cap σ):=by
 have key:∀ {i:Nat} {x:SV},(capD cap sd)[i]? = some (some x)→∃ j d,cap[i]? = some (some j)∧sd[j]? = some (some (.val d))∧x=.val d:=fun {i x} q=>by
  unfold capD at q
  rw [List.getElem?_map] at q
  cases hc:cap[i]? with
  | none=>rw [hc] at q;exact zqn q
  | some o =>
   rw [hc] at q
   cases o with
   | none=>cases q
   | some j =>
    have q:(match sd[j]? with
     | some (some (.val d))=>some (SV.val d)
     | _=>none)=some x:=Option.some.inj q
    split at q
    ·rename_i d hd
     exact ⟨j,d,rfl,hd,(Option.some.inj q).symm⟩
    ·exact zqn q
 refine ⟨r.ext,by unfold capD zet;rw [List.length_map,List.length_map],fun {i d} q => ?_,fun {i p d} q => ?_,fun {i j p p' d e l} _ q => ?_⟩
 ·refine zc2c (key q) fun j d' h1 h2 h3 => ?_
  cases h3
  refine zc1b (r.val h2) fun v v1 v2 => ?_
  refine ⟨v,?_,v2⟩
  unfold zet
  rw [List.getElem?_map,h1]
  show some (Option.bind (some j) fun j=>(σ[j]?).join)=_
  rw [Option.bind_some,v1]
  rfl
 ·refine zc2c (key q) fun j d' h1 h2 h3 => ?_
  cases h3
 ·refine zc2c (key q) fun j d' h1 h2 h3 => ?_
  cases h3
theorem zb3:∀ (is:List Nat) (ds:List D) (sd0 sd:SD),is.all (zbB sd0)=true→sd.length=sd0.length→(∀ (i:Nat) (x:SV),sd0[i]? = some (some x)→sd[i]? = some (some x)) →
 (setAll is ds sd).length=sd0.length∧∀ (i:Nat) (x:SV),sd0[i]? = some (some x)→(setAll is ds sd)[i]? = some (some x)
 | [],ds,sd0,sd,_,hl,h=>⟨hl,h⟩
 | i::is,[],sd0,sd,_,hl,h=>⟨hl,h⟩
 | i::is,d::ds,sd0,sd,hn,hl,h=>by
  rw [List.all_cons,Bool.and_eq_true] at hn
  refine zb3 is ds sd0 (sd.set i (some (.val d))) hn.2 (by rw [List.length_set,hl]) fun j x q => ?_
  have ne:i≠j:=fun z=>by
   subst z
   have:=hn.1
   unfold zbB at this
   rw [q] at this
   exact zqb this
  rw [zaj ne]
  exact h j x q
theorem zcK {tg:Tg}{sd0 sd:SD}{d:D}(hn:zcw sd0 tg=true)(h:zaE tg d sd0=.ok sd):sd0.length=sd.length∧∀ (i:Nat) (x:SV),sd0[i]? = some (some x)→sd[i]? = some (some x):=by
 cases tg with
 | one i =>
  cases h
  have:=zb3 [i] [d] sd0 sd0 (by rw [List.all_cons,List.all_nil,Bool.and_true];exact hn) rfl fun _ _ q=>q
  exact ⟨this.1.symm,this.2⟩
 | tup is =>
  cases d with
  | tup ds =>
   have eb:zaE (.tup is) (.tup ds) sd0=if ds.length=is.length then .ok (setAll is ds sd0) else .no:=rfl
   rw [eb] at h
   split at h
   ·cases h
    have:=zb3 is ds sd0 sd0 hn rfl fun _ _ q=>q
    exact ⟨this.1.symm,this.2⟩
   ·cases h
  | _=>cases h
theorem zhu {α β : Type}{f : α → Res β}{xs:List α}{i:Nat}{x : α}{p:List β → Prop}{q:Str→List D→Prop}(hx:xs[i]? = some x)(h:(mapD f (xs.drop i)).need p q):(f x).need (fun y=>(mapD f (xs.drop (i+1))).need (fun ys=>p (y::ys)) q) q:=by
 have hlt:i<xs.length:=(List.getElem?_eq_some_iff.mp hx).1
 rw [List.drop_eq_getElem_cons hlt] at h
 have e:xs[i]=x:=by rw [List.getElem?_eq_getElem hlt] at hx;exact Option.some.inj hx
 rw [e] at h
 unfold mapD at h
 refine (Res.need_bind h).mono (fun y h1 => ?_) fun _ _ z=>z
 exact (Res.need_bind h1).mono (fun ys h2=>h2) fun _ _ z=>z
theorem zd1 {K:PySem.W.Frag}{t:Tg}{fi:FA}{f:FE}{cap:List (Option Nat)}{σ : St}{H:Hp}{Q:VK}(hh:tDN K E (zbZ cap fi t f) σ H Q):zgo cap (tDI K E fi) (gT t K) (tD K E f) σ H Q:=by
 refine zc3b hh fun B F sd r n => ?_
 refine ⟨B,F,sd,r,(Res.need_bind n).mono (fun ds n1 J F1 H1 e1 wk => ?_) fun _ _ q=>q⟩
 split at n1
 ·rename_i hh
  obtain ⟨hn,hz⟩:=hh
  refine ⟨fun i k ys σ H2=>k=ds.length-i∧i≤ds.length∧∃ F2 es,Ext F1 H1 F2 H2∧RS K B F2 H2 (capD cap sd) σ ∧ IsDs K F2 es ys∧es.length=i ∧
   (mapD (fun x=>(zaE t x (capD cap sd)).bind f) (ds.drop i)).need (fun rs=>OkN K F2 H2 Q (.lst (es++rs))) (XW K E F2 H2),⟨ds.length,rfl,Nat.zero_le _,F1,[],.refl e1.fh,(r.step e1).cap cap,.nil,rfl,?_⟩,?_⟩
  ·exact (Res.need_bind n1).mono (fun rs q=>(show OkN K F H Q (.lst rs) from q).ext e1) fun _ _ q=>q.ext e1
  rintro i k ys σ2 H2 ⟨rfl,hi,F2,es,e2,r2,i2,hl,n2⟩
  have ly:=i2.length
  refine ⟨by omega,?_⟩
  obtain ⟨w1,w2⟩:=wk i F2 H2 e2.ff e2.fh
  by_cases hlt:i<ds.length
  ·obtain ⟨go,yl⟩:=w1 hlt
   refine .inr ⟨go,fun x H3 y => ?_⟩
   refine zc2c (yl x H3 y) fun d F3 hd e3 i3 => ?_
   have n3:=zhu hd n2
   have r3:=r2.step e3
   refine zid (K:=K) r3 i3 (Res.need_bind n3) fun sd' σ' n4 hb r4 => ?_
   obtain ⟨b1,b2⟩:=zcK hn hb
   refine ⟨B,F3,sd',r4,n4.mono (fun y n5 v F4 H4 e4 i4 => ?_) fun _ _ q=>q.ext e3⟩
   refine ⟨ds.length-(i+1),by omega,rfl,hlt,F4,es++[y],(e2.trans e3).trans e4,(r4.step e4).forget b1 b2,(IsDs.same (e3.ff.trans e4.ff) _ _ i2).snoc i4,by rw [List.length_append,hl];rfl,?_⟩
   refine n5.mono (fun rs q => ?_) fun _ _ q=>q.ext (e3.trans e4)
   rw [List.append_assoc]
   exact q.ext (e3.trans e4)
  ·have he:i=ds.length:=by omega
   subst he
   refine .inl ⟨w2 (Nat.le_refl _),fun D hD => ?_⟩
   rw [List.drop_length] at n2
   have q:OkN K F2 H2 Q (.lst (es++[])):=n2
   rw [List.append_nil] at q
   exact q D F2 _ (.keep r2.ext.fh hD _) hD (zan r2.ext.fh hD) ⟨ys,zah,i2⟩
 ·exact n1.elim
theorem zeG {tg iter elt:Expr}{scope:Scope}{t:Tg}{fi:FA}{f:FE}(N:List Str)(cap:List (Option Nat))(hc:X.calm=true)(okB:za8 scope X.env N X.N cap=true)(hi:QI X E tg iter fi)
 (hg:∀ cl C s H ex,QG (zap X scope N cl C s H ex) tg t) (he:∀ cl C s H ex,QE (zap X scope N cl C s H ex) E elt f) (hs:autoParam (∀ x,foldedSetIterable iter X.env x=pure x) zaw._auto_1) :
 QN X E (.ListComp elt [⟨tg,iter,[],0⟩] scope pos) (zbZ cap fi t f):=PE.weak (zjv (g:=gT t X.K) (te:=tD X.K E f) N cap hc okB hi hg he hs) fun _ _ _ h=>zd1 h
noncomputable def zay (n:Nat)(ds:List D):SD:=ds.map (fun d=>some (.val d))++List.replicate (n-ds.length) none
def runD (n ar:Nat)(g:FS)(ds:List D):Res D:=if ds.length=ar then (g (zay n ds)).bind fun o=>match o with
 | .ret d=>.ok d
 | .next _=>.ok .non
 | _=>.no else .no
def runN (n ar:Nat)(g:FS)(ds:List D):Res D:=if ds.length=ar then (g (zay n ds)).bind fun o=>match o with
 | .ret d=>.ok d
 | _=>.no else .no
theorem RS.start {K:PySem.W.Frag}{F H:Hp}{N:List Str}{ds:List D}{vs:List V}(s:Same F H)(h:IsDs K F ds vs):RS K ⟨F,H,fun _=>none⟩ F H (zay N.length ds) (start N vs):=by
 have key:∀ {i:Nat} {x:SV},(zay N.length ds)[i]? = some (some x)→∃ d,ds[i]? = some d∧x=.val d:=fun {i x} q=>by
  unfold zay at q
  by_cases hi:i<ds.length
  ·rw [List.getElem?_append_left (by rw [List.length_map];exact hi),List.getElem?_map,List.getElem?_eq_getElem hi] at q
   exact ⟨ds[i],List.getElem?_eq_getElem hi,(Option.some.inj (Option.some.inj q)).symm⟩
  ·rw [List.getElem?_append_right (by rw [List.length_map];omega),List.getElem?_replicate] at q
   split at q<;>(first|exact zqn q|cases q)
 refine ⟨.refl s,by unfold zay L2.start;simp [h.length],fun {i d} q => ?_,fun {i p d} q => ?_,fun {i j p p' d e l} _ q => ?_⟩
 ·refine zc1b (key q) fun d' h1 h2 => ?_
  cases h2
  refine zc1b (h.get h1) fun v v1 v2 => ?_
  refine ⟨v,?_,v2⟩
  unfold L2.start
  rw [List.getElem?_append_left (by rw [List.length_map];exact (List.getElem?_eq_some_iff.mp v1).1),List.getElem?_map,v1]
  rfl
 ·refine zc1b (key q) fun _ _ h2 => ?_
  cases h2
 ·refine zc1b (key q) fun _ _ h2 => ?_
  cases h2
section
variable {P:Program}{w:World}{K:PySem.W.Frag}{mg:Str→Option Value}{base:Heap}{x qual:Str}{f:Addr}{fd:FuncData}{N ps:List Str}{k:Nat}
theorem fn_d {g:FS}(F:Fun K x qual st f fd)(S:FnScope N ps (zaf st))
 (hb:∀ (cdv:Value) (A:Around) (outer:List Env) (s:Shared) (H:Hp) (E:XK),Room k (A.deeper (envOfC qual (zaf st) s.heap.objs.size f cdv))→QSs (cxOf CX0 P w K mg base N qual (zaf st) f cdv A outer s H E).nox E0 false (zaT st) g) :
 FnOk P w K mg base CX0 (k+1) f fd ps (SpD K (runD N.length ps.length g)):=by
 refine F.ok S (fun vs H Q E ⟨F,ds,_,h,n⟩ => ?_) fun cdv A outer s H vs Q E hr ⟨F,ds,hs,h,n⟩=>⟨_,hb cdv A outer s H E hr,?_⟩
 ·unfold runD at n
  split at n
  ·rw [h.length];assumption
  ·exact n.elim
 ·unfold runD at n
  split at n
  ·refine ⟨⟨F,H,fun _=>none⟩,F,_,RS.start hs h,(Res.need_bind n).mono (fun o n1 => ?_) fun _ _ q=>q⟩
   cases o with
   | next sd=>exact fun σ F' H' _ r=>n1 .non F' H' r.ext (IsD.non_iff.mpr rfl)
   | ret d=>exact n1
   | brk sd=>exact n1.elim
   | cont sd=>exact n1.elim
  ·exact n.elim
theorem fn_n {g:FS}(F:Fun K x qual st f fd)(S:FnScope N ps (zaf st))
 (hb:∀ (cdv:Value) (A:Around) (outer:List Env) (s:Shared) (H:Hp) (E:XK),Room k (A.deeper (envOfC qual (zaf st) s.heap.objs.size f cdv))→QSs (cxOf CX0 P w K mg base N qual (zaf st) f cdv A outer s H E).nox E0 true (zaT st) g) :
 FnOk P w K mg base CX0 (k+1) f fd ps (SpN K (runN N.length ps.length g)):=by
 refine F.ok S (fun vs H Q E ⟨F,ds,_,h,n⟩ => ?_) fun cdv A outer s H vs Q E hr ⟨F,ds,hs,h,n⟩=>⟨_,hb cdv A outer s H E hr,?_⟩
 ·unfold runN at n
  split at n
  ·rw [h.length];assumption
  ·exact n.elim
 ·unfold runN at n
  split at n
  ·refine ⟨⟨F,H,fun _=>none⟩,F,_,RS.start hs h,(Res.need_bind n).mono (fun o n1 => ?_) fun _ _ q=>q⟩
   cases o with
   | next sd=>exact n1.elim
   | ret d=>exact n1
   | brk sd=>exact n1.elim
   | cont sd=>exact n1.elim
  ·exact n.elim
end
end
end L2.DL
namespace L2.DL
open PySem PySem.Spec PyProof.Rows
noncomputable def prD (p:Int×Int):D:=.tup [.int p.1,.int p.2]
def rwD (r:List (Int×Int)):D:=.tup (r.map prD)
def zbg {α : Type}(f:D→Option α):List D→Option (List α)
 | []=>some []
 | d::ds=>(f d).bind fun x=>(zbg f ds).map fun xs=>x::xs
noncomputable def zek:D→Option Int
 | .int i=>some i
 | _=>none
theorem zdS {α β : Type}{f:D→Option α}{g : β → D}{k : β → α}(h:∀ x,f (g x)=some (k x)):∀ l:List β,zbg f (l.map g)=some (l.map k)
 | []=>rfl
 | x::r=>by rw [List.map_cons];unfold zbg;rw [h,zdS h r];rfl
theorem zdE {α : Type}{f:D→Option α}{g : α → D}(h:∀ d x,f d=some x→d=g x):∀ {ds:List D} {l:List α},zbg f ds=some l→ds=l.map g
 | [],l,e=>by cases e;rfl
 | d::ds,l,e=>by
  unfold zbg at e
  cases h1:f d with
  | none=>rw [h1] at e;exact zqn e
  | some x =>
   cases h2:zbg f ds with
   | none=>rw [h1,h2] at e;exact zqn e
   | some xs =>
    rw [h1,h2] at e
    obtain rfl:=Option.some.inj e
    rw [List.map_cons,← h d x h1,← zdE h h2]
theorem zgL {d:D}{i:Int}(h:zek d=some i):d=.int i:=by
 cases d with
 | int j=>cases h;rfl
 | _=>exact zqn h
theorem zfl {ds:List D}{l:List Int}(h:zbg zek ds=some l):ds=l.map D.int:=zdE (fun _ _=>zgL) h
theorem zcR (l:List Int):zbg zek (l.map D.int)=some l:=by
 have h:=zdS (f:=zek) (g:=D.int) (k:=fun i:Int=>i) (fun _=>rfl) l
 rw [h,List.map_id']
section
variable {X:Cx}{E:XK}
noncomputable def gI (f:Int→Int→D):D→D→Option D
 | .int i,.int j=>some (f i j)
 | _,_=>none
noncomputable def gIc (c:Int→Int→Bool)(f:Int→Int→D):D→D→Option D
 | .int i,.int j=>if c i j then some (f i j) else none
 | _,_=>none
theorem zjG {h:Value→Value→Sem Value}{f:Int→Int→D}{g:Int→Int→V}(o:OpR X h (rI0 g))(hg:∀ i j F,IsD X.K F (f i j) (g i j)):OpD X h (gI f):=OpR.weak o fun x y H Q zh=>by
 obtain ⟨F,d,e,z,sF,id,ie,hz,q⟩:=zh
 cases d with
 | int i =>
  cases e with
  | int j=>cases hz;exact ⟨i,j,IsD.int_iff.mp id,IsD.int_iff.mp ie,q _ F H (.refl sF) (hg i j F)⟩
  | _=>exact zqn hz
 | _=>exact zqn hz
theorem zdT {h:Value→Value→Sem Value}{C:Int→Int→Prop}{c:Int→Int→Bool}{f:Int→Int→D}{g:Int→Int→V}(o:OpR X h (rI C g))(hc:∀ i j,c i j=true→C i j)(hg:∀ i j F,IsD X.K F (f i j) (g i j)):OpD X h (gIc c f):=OpR.weak o fun x y H Q zh=>by
 obtain ⟨F,d,e,z,sF,id,ie,hz,q⟩:=zh
 cases d with
 | int i =>
  cases e with
  | int j =>
   have hz:(if c i j then some (f i j) else none)=some z:=hz
   split at hz
   ·rename_i hcc
    cases hz;exact ⟨i,j,IsD.int_iff.mp id,IsD.int_iff.mp ie,hc i j hcc,q _ F H (.refl sF) (hg i j F)⟩
   ·exact zqn hz
  | _=>exact zqn hz
 | _=>exact zqn hz
theorem isI (i:Int)(F:Hp):IsD X.K F (.int i) (.int i):=IsD.int_iff.mpr rfl
theorem isB (b:Bool)(F:Hp):IsD X.K F (.bl b) (.bl b):=IsD.bl_iff.mpr rfl
noncomputable def gSub:=gI fun i j=>.int (i-j)
noncomputable def bigB:Nat:=10715086071862673209484250490600018105614048117055336074437503883703510511249361224931983788156958581275946729175531468251871452856923140435984577574698574803934567774824230985421074605062371141877954182153046474983581941267398767559165543946077062914571196477686542167660429831652624386837205668069376
def zbY (i j:Int):Bool:=(Nat.blt i.natAbs 18446744073709551616||Nat.blt j.natAbs 18446744073709551616)||(Nat.blt i.natAbs bigB&&Nat.blt j.natAbs bigB)
theorem zeD {k:Int}(h:k.natAbs<bigB):Builtin.Int.intBits k≤2 ^ 20:=by
 have e:bigB≤2 ^ 1000:=Nat.le_of_ble_eq_true rfl
 have hn:k.natAbs<2 ^ 1000:=Nat.lt_of_lt_of_le h e
 unfold Builtin.Int.intBits
 split
 ·exact Nat.zero_le _
 ·have l:k.natAbs.log2<1000:=by
   rcases Nat.eq_zero_or_pos k.natAbs with h0|hp
   ·rw [h0];decide
   ·exact (Nat.log2_lt (Nat.ne_of_gt hp)).mpr hn
  have e:(2:Nat) ^ 20=1048576:=by decide
  omega
theorem zii {i j:Int}(h:zbY i j=true):IntMulOk i j:=by
 unfold zbY at h
 rw [Bool.or_eq_true,Bool.or_eq_true,Bool.and_eq_true,Nat.blt_eq,Nat.blt_eq,Nat.blt_eq,Nat.blt_eq] at h
 rcases h with (h|h)|⟨h1,h2⟩
 ·exact .of_left (intBits_le_64 (by omega) (by omega))
 ·exact .of_right (intBits_le_64 (by omega) (by omega))
 ·exact .of_bits (zeD h1) (zeD h2)
theorem zjM:OpR X (binaryOp .Mult) (rI (fun i j=>zbY i j=true) fun i j=>.int (i*j)):=opI fun _ _ _ _ _ _ _ hc q=>mul_int q (zii hc)
def gMul:=gIc zbY fun i j=>.int (i*j)
def zhw:=gIc (fun _ j=>Nat.blt 0 j.toNat&&Nat.blt j.toNat 1073741824) fun i j=>.int (i / j)
def gMod:=gIc (fun _ j=>Nat.blt 0 j.toNat) fun i j=>.int (i % j)
def gPow:=gIc (fun i j=>Nat.ble (-j).toNat 0&&(Nat.ble j.toNat 1000000&&Nat.blt i.natAbs 18446744073709551616)) fun i j=>.int (i ^ j.toNat)
noncomputable def gLt:=gI fun i j=>.bl (decide (i<j))
noncomputable def gGt:=gI fun i j=>.bl (decide (j<i))
theorem zcj:OpD X (binaryOp .Sub) gSub:=zjG zlS fun _ _ F=>isI _ F
theorem zfp:OpD X (binaryOp .Mult) gMul:=zdT zjM (fun i j h=>h) fun _ _ F=>isI _ F
theorem zfF:OpD X (binaryOp .FloorDiv) zhw:=zdT zjf (fun i j h=>by rw [Bool.and_eq_true,Nat.blt_eq,Nat.blt_eq] at h;unfold CDiv;omega) fun _ _ F=>isI _ F
theorem zc9:OpD X (binaryOp .Mod) gMod:=zdT zlO (fun i j h=>by rw [Nat.blt_eq] at h;omega) fun _ _ F=>isI _ F
theorem zdH:OpD X (binaryOp .Pow) gPow:=zdT zmp (fun i j h=>by rw [Bool.and_eq_true,Bool.and_eq_true,Nat.ble_eq,Nat.ble_eq,Nat.blt_eq] at h;unfold CPow;omega) fun _ _ F=>isI _ F
theorem o_lt:OpD X (compareOp .Lt) gLt:=zjG op_lt fun _ _ F=>isB _ F
theorem o_gt:OpD X (compareOp .Gt) gGt:=zjG op_gt fun _ _ F=>isB _ F
noncomputable def gNeg:D→Option D
 | .int i=>some (.int (-i))
 | _=>none
theorem zfT:UnR X (unaryOp .USub) (rD1 X.K gNeg):=UnR.weak zkG fun x H Q zh=>by
 obtain ⟨F,d,z,sF,id,hz,q⟩:=zh
 cases d with
 | int i=>cases hz;exact ⟨i,IsD.int_iff.mp id,q _ F H (.refl sF) (isI _ F)⟩
 | _=>exact zqn hz
noncomputable def gAdd:D→D→Option D
 | .int i,.int j=>some (.int (i+j))
 | .str x,.str y=>if x.length+y.length≤sizeLine then some (.str (x++y)) else none
 | .tup a,.tup b=>if a ≠ []∧b ≠ []∧a.length+b.length≤sizeLine then some (.tup (a++b)) else none
 | .lst a,.lst b=>if a.length+b.length≤sizeLine then some (.lst (a++b)) else none
 | _,_=>none
def rCat' (K:PySem.W.Frag):R2:=fun x y H Q => ∃ l b xs zs,x=.ref l∧y=.ref b∧LstD K H l xs∧LstD K H b zs∧xs.length+zs.length≤sizeLine∧∀ p,H p=none→Q (.ref p) (upd H p (.lst (xs++zs)))
theorem ziY:OpR X (binaryOp .Add) (rCat' X.K):=by
 intro pins s σ H x y v u Q I rx ry h
 refine zc4a h fun l b xs zs zz=>zc0e zz fun zr4 zr5 hl hb zz=>zc0b zz fun hz q => ?_
 obtain rfl:=zr4
 obtain rfl:=zr5
 obtain rfl:v=Value.ref l:=rx
 obtain rfl:u=Value.ref b:=ry
 refine zc0b (hl.ok I.hok) fun _ zz=>zc2b zz fun its n r1 e1 => ?_
 refine zc0b (hb.ok I.hok) fun _ zz=>zc2b zz fun its2 n2 r2 e2 => ?_
 have hl1:=r1.length
 have hl2:=r2.length
 refine PySem.P.add_list e1 e2 ?_ (by rw [List.size_toArray,List.size_toArray];omega)
 have ea:its.toArray++its2.toArray=(its++its2).toArray:=by simp
 rw [ea]
 exact ⟨.ref _,_,I.lnew (t':=s.toks) (r1.append r2) (by rw [List.length_append];omega),rfl,q _ I.fresh⟩
theorem zaO:OpD X (binaryOp .Add) gAdd:=by
 rintro pins s σ H x y v u Q I rx ry ⟨F,d,e,z,sF,id,ie,hz,q⟩
 cases d with
 | int i =>
  cases e with
  | int j=>cases hz;exact zla pins s σ H x y v u Q I rx ry ⟨i,j,IsD.int_iff.mp id,IsD.int_iff.mp ie,q _ F H (.refl sF) (isI _ F)⟩
  | _=>exact zqn hz
 | str a =>
  cases e with
  | str b =>
   have hz:(if a.length+b.length≤sizeLine then some (D.str (a++b)) else none)=some z:=hz
   split at hz
   ·rename_i hl
    cases hz;exact zfz pins s σ H x y v u Q I rx ry ⟨a,b,IsD.str_iff.mp id,IsD.str_iff.mp ie,hl,q _ F H (.refl sF) (IsD.str_iff.mpr rfl)⟩
   ·exact zqn hz
  | _=>exact zqn hz
 | tup a =>
  cases e with
  | tup b =>
   have hz:(if a ≠ []∧b ≠ []∧a.length+b.length≤sizeLine then some (D.tup (a++b)) else none)=some z:=hz
   split at hz
   ·rename_i hl
    obtain rfl:=Option.some.inj hz
    rw [IsD.tup_iff] at id ie
    obtain ⟨la,xs,rfl,h1,h2⟩:=id
    obtain ⟨lb,ys,rfl,h3,h4⟩:=ie
    have l1:=h2.length
    have l2:=h4.length
    have x0:xs ≠ []:=fun z=>hl.1 (List.length_eq_zero_iff.mp (by rw [← l1,z];rfl))
    have y0:ys ≠ []:=fun z=>hl.2.1 (List.length_eq_zero_iff.mp (by rw [← l2,z];rfl))
    refine ziW pins s σ H _ _ v u Q I rx ry ⟨la,lb,xs,ys,rfl,rfl,(h1.same sF).sq,(h3.same sF).sq,x0,by have:=hl.2.2;omega,fun z=>absurd z y0,fun _ p hp => ?_⟩
    have ea:=Ext.alloc sF hp (.tup (xs++ys))
    exact q _ _ _ ea (IsD.tup_iff.mpr ⟨p,_,rfl,.of zah,IsDs.same ea.ff _ _ (h2.append h4)⟩)
   ·exact zqn hz
  | _=>exact zqn hz
 | lst a =>
  cases e with
  | lst b =>
   have hz:(if a.length+b.length≤sizeLine then some (D.lst (a++b)) else none)=some z:=hz
   split at hz
   ·rename_i hl
    obtain rfl:=Option.some.inj hz
    rw [IsD.lst_iff] at id ie
    obtain ⟨la,xs,rfl,h1,h2⟩:=id
    obtain ⟨lb,ys,rfl,h3,h4⟩:=ie
    have l1:=h2.length
    have l2:=h4.length
    refine ziY pins s σ H _ _ v u Q I rx ry ⟨la,lb,xs,ys,rfl,rfl,h1.same sF,h3.same sF,by omega,fun p hp => ?_⟩
    have ea:=Ext.alloc sF hp (.lst (xs++ys))
    exact q _ _ _ ea (IsD.lst_iff.mpr ⟨p,_,rfl,.of zah,IsDs.same ea.ff _ _ (h2.append h4)⟩)
   ·exact zqn hz
  | _=>exact zqn hz
 | _=>exact zqn hz
mutual
noncomputable def toPy:D→PyData
 | .non=>.none
 | .bl b=>.bool b
 | .int i=>.int i
 | .str x=>.str x
 | .tup ds=>.tuple (zcD ds)
 | .lst ds=>.list (zcD ds)
 | .ty _=>.none
 | .scr _=>.none
 | .dct _ _=>.none
 | .ins _ _ _=>.none
 | .exc _=>.none
 | .ucl _=>.none
 | .adr _=>.none
 | .dcf _ _=>.none
 | .pin _ _=>.none
noncomputable def zcD:List D→List PyData
 | [] => []
 | d::ds=>toPy d::zcD ds
end
noncomputable def plN:Nat→D→Bool
 | 0,_=>false
 | _+1,.int _=>true
 | _+1,.str x=>PyData.strOk x
 | _+1,.non=>true
 | n+1,.tup ds=>ds.all (plN n)
 | n+1,.lst ds=>ds.all (plN n)
 | _+1,_=>false
theorem zfd:∀ (n:Nat) (d:D),plN n d=true→(toPy d).canLay0=true∧(toPy d).depth≤n:=fun n=>by
 induction n with
 | zero=>intro _ h;exact zqb h
 | succ n ihn =>
  intro d h
  have all:∀ ds:List D,ds.all (plN n)=true→PyData.canLayAll0 (zcD ds)=true∧PyData.depthAll (zcD ds)≤n:=by
   intro ds
   induction ds with
   | nil=>intro _;exact ⟨rfl,Nat.zero_le _⟩
   | cons d ds ih =>
    intro h
    rw [List.all_cons,Bool.and_eq_true] at h
    obtain ⟨h1,h2⟩:=ihn d h.1
    obtain ⟨h3,h4⟩:=ih h.2
    exact ⟨Bool.and_eq_true_iff.mpr ⟨h1,h3⟩,Nat.max_le.mpr ⟨h2,h4⟩⟩
  cases d with
  | int i=>exact ⟨rfl,Nat.zero_le _⟩
  | str i=>exact ⟨h,Nat.zero_le _⟩
  | non=>exact ⟨rfl,Nat.zero_le _⟩
  | tup ds=>exact ⟨(all ds h).1,Nat.succ_le_succ (all ds h).2⟩
  | lst ds=>exact ⟨(all ds h).1,Nat.succ_le_succ (all ds h).2⟩
  | _=>exact zqb h
theorem D.ne {d e:D}(h:(d.ctorIdx == e.ctorIdx)=false):¬ d=e:=fun q=>by
 rw [q,beq_self_eq_true] at h
 cases  h
theorem ziJ:∀ (n:Nat) (d e:D),plN n d=true→plN n e=true→(PyData.eqv (toPy d) (toPy e)=true↔d=e):=fun n=>by
 induction n with
 | zero=>intro _ _ h;exact zqb h
 | succ n ihn =>
  intro d e h h'
  have all:∀ ds es:List D,ds.all (plN n)=true→es.all (plN n)=true→(PyData.eqvAll (zcD ds) (zcD es)=true↔ds=es):=by
   intro ds
   induction ds with
   | nil =>
    intro es _ _
    cases es with
    | nil=>exact iff_of_true rfl rfl
    | cons e es=>exact iff_of_false Bool.false_ne_true (fun q=>List.cons_ne_nil _ _ q.symm)
   | cons d ds ih =>
    intro es h1 h2
    cases es with
    | nil=>exact iff_of_false Bool.false_ne_true (List.cons_ne_nil _ _)
    | cons e es =>
     rw [List.all_cons,Bool.and_eq_true] at h1 h2
     show (PyData.eqv (toPy d) (toPy e)&&PyData.eqvAll (zcD ds) (zcD es))=true↔_
     rw [Bool.and_eq_true_iff,ihn d e h1.1 h2.1,ih es h1.2 h2.2,List.cons.injEq]
  cases d with
  | int i =>
   cases e with
   | int j=>exact ⟨fun q=>congrArg D.int (beq_iff_eq.mp q),fun q=>beq_iff_eq.mpr (D.int.inj q)⟩
   | str _=>exact iff_of_false Bool.false_ne_true (D.ne rfl)
   | non=>exact iff_of_false Bool.false_ne_true (D.ne rfl)
   | tup _=>exact iff_of_false Bool.false_ne_true (D.ne rfl)
   | lst _=>exact iff_of_false Bool.false_ne_true (D.ne rfl)
   | _=>exact zqb h'
  | str i =>
   cases e with
   | str j=>exact ⟨fun q=>congrArg D.str (of_decide_eq_true q),fun q=>decide_eq_true (D.str.inj q)⟩
   | int _=>exact iff_of_false Bool.false_ne_true (D.ne rfl)
   | non=>exact iff_of_false Bool.false_ne_true (D.ne rfl)
   | tup _=>exact iff_of_false Bool.false_ne_true (D.ne rfl)
   | lst _=>exact iff_of_false Bool.false_ne_true (D.ne rfl)
   | _=>exact zqb h'
  | non =>
   cases e with
   | non=>exact iff_of_true rfl rfl
   | int _=>exact iff_of_false Bool.false_ne_true (D.ne rfl)
   | str _=>exact iff_of_false Bool.false_ne_true (D.ne rfl)
   | tup _=>exact iff_of_false Bool.false_ne_true (D.ne rfl)
   | lst _=>exact iff_of_false Bool.false_ne_true (D.ne rfl)
   | _=>exact zqb h'
  | tup ds =>
   cases e with
   | tup es=>exact (all ds es h h').trans ⟨fun q=>congrArg D.tup q,fun q=>D.tup.inj q⟩
   | int _=>exact iff_of_false Bool.false_ne_true (D.ne rfl)
   | str _=>exact iff_of_false Bool.false_ne_true (D.ne rfl)
   | non=>exact iff_of_false Bool.false_ne_true (D.ne rfl)
   | lst _=>exact iff_of_false Bool.false_ne_true (D.ne rfl)
   | _=>exact zqb h'
  | lst ds =>
   cases e with
   | lst es=>exact (all ds es h h').trans ⟨fun q=>congrArg D.lst q,fun q=>D.lst.inj q⟩
   | int _=>exact iff_of_false Bool.false_ne_true (D.ne rfl)
   | str _=>exact iff_of_false Bool.false_ne_true (D.ne rfl)
   | non=>exact iff_of_false Bool.false_ne_true (D.ne rfl)
   | tup _=>exact iff_of_false Bool.false_ne_true (D.ne rfl)
   | _=>exact zqb h'
  | _=>exact zqb h
theorem zb9 {P:Program}{w:World}{K:PySem.W.Frag}{H:Hp}{h:Heap}(ok:HOk P w H h):∀ (n:Nat) (d:D) (v:V) (u:Value),plN n d=true→IsD K H d v→RelV v u→∃ as,Reads h u (toPy d) as
 | 0,_,_,_,p,_,_=>by exact zqb p
 | n+1,d,v,u,p,q,r=>by
  have all:∀ (ds:List D) (xs:List V) (us:List Value),ds.all (plN n)=true→IsDs K H ds xs→Vals xs us→∃ as,ReadsAll h us (zcD ds) as:=by
   intro ds
   induction ds with
   | nil =>
    intro xs us _ h1 h2
    rw [IsDs.nil_iff] at h1
    subst h1
    cases h2
    exact ⟨_,.nil⟩
   | cons d ds ih =>
    intro xs us hp h1 h2
    rw [List.all_cons,Bool.and_eq_true] at hp
    rw [IsDs.cons_iff] at h1
    refine zc2c h1 fun x rs zr2 h3 h4 => ?_
    obtain rfl:=zr2
    cases h2 with
    | cons r1 r2 =>
     obtain ⟨as,ra⟩:=zb9 ok n d x _ hp.1 h3 r1
     obtain ⟨bs,rb⟩:=ih rs _ hp.2 h4 r2
     exact ⟨_,.cons ra rb⟩
  cases d with
  | int i =>
   rw [IsD.int_iff] at q;subst q
   obtain ⟨t,rfl⟩:=(show ∃ t,u=Value.int i t from r)
   exact ⟨_,.int i t⟩
  | str x =>
   rw [IsD.str_iff] at q;subst q
   obtain ⟨t,rfl⟩:=(show ∃ t,u=Value.str x t from r)
   exact ⟨_,.str x t⟩
  | non =>
   rw [IsD.non_iff] at q;subst q
   obtain rfl:u=Value.none:=r
   exact ⟨_,.none⟩
  | tup ds =>
   rw [IsD.tup_iff] at q
   refine zc2c q fun a xs zr2 h2 h3 => ?_
   obtain rfl:=zr2
   obtain rfl:u=Value.ref a:=r
   refine zc0b ((show zaI P w H h a (.tup xs) from ok a _ h2)) fun _ zz=>zc1b zz fun its rv zz=>zc1c zz fun o e c zz=>zc1a zz fun n' dt => ?_
   obtain ⟨as,ra⟩:=all ds xs its p h3 rv
   exact ⟨_,.tuple e c dt (by simpa using ra)⟩
  | lst ds =>
   rw [IsD.lst_iff] at q
   refine zc2c q fun a xs zr2 h2 h3 => ?_
   obtain rfl:=zr2
   obtain rfl:u=Value.ref a:=r
   refine zc0b (h2.ok ok) fun _ zz=>zc2b zz fun its n' rv e => ?_
   obtain ⟨as,ra⟩:=all ds xs its p h3 rv
   exact ⟨_,.list e rfl rfl (by simpa using ra)⟩
  | _=>exact zqb p
noncomputable section
open Classical
noncomputable def zbG (d e:D):Bool:=decide (d=e)
theorem zbo (d:D):zbG d d=true:=decide_eq_true rfl
theorem zd8 {d e:D}:zbG d e=true↔d=e:=decide_eq_true_iff
theorem zeX {d e:D}:zbG d e=false↔d≠e:=decide_eq_false_iff_not
def gEq:D→D→Option D
 | .bl a,.bl b=>some (.bl (a == b))
 | d,e=>if plN 12 d&&plN 12 e then some (.bl (zbG d e)) else none
def gNe:D→D→Option D
 | .bl a,.bl b=>some (.bl (a != b))
 | d,e=>if plN 12 d&&plN 12 e then some (.bl (!zbG d e)) else none
end
theorem zhd {d e:D}(h1:plN 12 d=true)(h2:plN 12 e=true):gEq d e=some (.bl (zbG d e)):=by
 unfold gEq
 split
 ·exact zqb h1
 ·rw [h1,h2];rfl
theorem zi9 {d e:D}(h1:plN 12 d=true)(h2:plN 12 e=true):gNe d e=some (.bl (!zbG d e)):=by
 unfold gNe
 split
 ·exact zqb h1
 ·rw [h1,h2];rfl
theorem zkm (i j:Int):gEq (.int i) (.int j)=some (.bl (decide (i=j))):=by
 rw [zhd rfl rfl]
 congr 2
 by_cases h:i=j
 ·rw [decide_eq_true h,h,zbo]
 ·rw [decide_eq_false h,zeX.mpr fun z=>h (by injection z)]
theorem zj8 (i j:Int):gNe (.int i) (.int j)=some (.bl (!decide (i=j))):=by
 rw [zi9 rfl rfl]
 congr 3
 by_cases h:i=j
 ·rw [decide_eq_true h,h,zbo]
 ·rw [decide_eq_false h,zeX.mpr fun z=>h (by injection z)]
theorem o_eq (hu:X.A.units+64<cLine):OpD X (compareOp .Eq) gEq:=by
 rintro pins s σ H x y v u Q I rx ry ⟨F,d,e,z,sF,id,ie,hz,q⟩
 unfold gEq at hz
 split at hz
 ·rename_i a b
  obtain rfl:=Option.some.inj hz
  refine op_eq pins s σ H x y v u Q I rx ry ⟨?_,?_⟩
  ·rw [IsD.bl_iff.mp id,IsD.bl_iff.mp ie];rfl
  ·rw [IsD.bl_iff.mp id,IsD.bl_iff.mp ie]
   refine q _ F H (.refl sF) ?_
   rw [IsD.bl_iff]
   cases a<;>cases b<;>rfl
 ·split at hz
  ·rename_i hp
   rw [Bool.and_eq_true] at hp
   obtain rfl:=Option.some.inj hz
   obtain ⟨as,ra⟩:=zb9 I.hok 12 d x v hp.1 (IsD.same sF _ _ id) rx
   obtain ⟨bs,rb⟩:=zb9 I.hok 12 e y u hp.2 (IsD.same sF _ _ ie) ry
   obtain ⟨l1,z1⟩:=zfd 12 d hp.1
   obtain ⟨l2,z2⟩:=zfd 12 e hp.2
   refine PySem.SeqAt.compareEq_reads ra rb l1 l2 (by omega) ?_
   have hb:PyData.eqv (toPy d) (toPy e)=zbG d e:=Bool.eq_iff_iff.mpr ((ziJ 12 d e hp.1 hp.2).trans zd8.symm)
   rw [hb]
   exact ⟨.bl _,H,I,rfl,q _ F H (.refl sF) (isB _ F)⟩
  ·exact zqn hz
theorem o_ne (hu:X.A.units+64<cLine):OpD X (compareOp .NotEq) gNe:=by
 rintro pins s σ H x y v u Q I rx ry ⟨F,d,e,z,sF,id,ie,hz,q⟩
 unfold gNe at hz
 split at hz
 ·rename_i a b
  obtain rfl:=Option.some.inj hz
  refine op_ne pins s σ H x y v u Q I rx ry ⟨?_,?_⟩
  ·rw [IsD.bl_iff.mp id,IsD.bl_iff.mp ie];rfl
  ·rw [IsD.bl_iff.mp id,IsD.bl_iff.mp ie]
   refine q _ F H (.refl sF) ?_
   rw [IsD.bl_iff]
   cases a<;>cases b<;>rfl
 ·split at hz
  ·rename_i hp
   rw [Bool.and_eq_true] at hp
   obtain rfl:=Option.some.inj hz
   obtain ⟨as,ra⟩:=zb9 I.hok 12 d x v hp.1 (IsD.same sF _ _ id) rx
   obtain ⟨bs,rb⟩:=zb9 I.hok 12 e y u hp.2 (IsD.same sF _ _ ie) ry
   obtain ⟨l1,z1⟩:=zfd 12 d hp.1
   obtain ⟨l2,z2⟩:=zfd 12 e hp.2
   refine PySem.SeqAt.compareNe_reads ra rb l1 l2 (by omega) ?_
   have hb:PyData.eqv (toPy d) (toPy e)=zbG d e:=Bool.eq_iff_iff.mpr ((ziJ 12 d e hp.1 hp.2).trans zd8.symm)
   rw [hb]
   exact ⟨.bl _,H,I,rfl,q _ F H (.refl sF) (isB _ F)⟩
  ·exact zqn hz
end
end L2.DL
namespace L2.DL
open PySem PySem.Spec PyProof.Rows
theorem PE.or {X:Cx}{e:Expr}{t t':TE}(h:PE X e t)(h':PE X e t'):PE X e (fun σ H Q=>t σ H Q∨t' σ H Q):=fun pins s σ H Q I q=>q.elim (h pins s σ H Q I) (h' pins s σ H Q I)
noncomputable def zd7:D→Option Key
 | .int i=>some (.inl i)
 | .str x=>some (.inr x)
 | _=>none
theorem zeR {K:PySem.W.Frag}{H:Hp}{d:D}{k:Key}{v:V}(h:zd7 d=some k)(i:IsD K H d v):v=kV k:=by
 cases d with
 | int j=>cases h;exact IsD.int_iff.mp i
 | str x=>cases h;exact IsD.str_iff.mp i
 | _=>exact zqn h
noncomputable def valD:List Key→List D→Key→Option D
 | k::ks,d::ds,q=>if k=q then some d else valD ks ds q
 | _,_,_=>none
theorem zhz (k q:Key)(v:V)(r:List (Key×V)):valV ((k,v)::r) q=if k=q then some v else valV r q:=by
 unfold valV
 rw [List.find?_cons]
 by_cases h:k=q
 ·rw [if_pos h,decide_eq_true h];rfl
 ·rw [if_neg h,decide_eq_false h]
theorem zg3 {k q:Key}{ks:List Key}{d:D}{ds:List D}:valD (k::ks) (d::ds) q=if k=q then some d else valD ks ds q:=rfl
theorem zez {K:PySem.W.Frag}{H:Hp}(q:Key):∀ {ks:List Key} {ds:List D} {xs:List V},ks.length=xs.length→IsDs K H ds xs →
 (∀ d,valD ks ds q=some d→∃ x,valV (ks.zip xs) q=some x∧IsD K H d x)∧(valD ks ds q=none→valV (ks.zip xs) q=none)
 | [],ds,xs,hl,h=>by
  have:xs=[]:=List.length_eq_zero_iff.mp hl.symm
  subst this
  refine ⟨fun d e => ?_,fun _=>rfl⟩
  cases ds<;>exact zqn e
 | k::ks,[],xs,hl,h=>by
  rw [IsDs.nil_iff] at h
  subst h
  cases hl
 | k::ks,d::ds,xs,hl,h=>by
  rw [IsDs.cons_iff] at h
  refine zc2c h fun x r zr2 h1 h2 => ?_
  obtain rfl:=zr2
  have ih:=zez q (ks:=ks) (Nat.succ.inj hl) h2
  rw [List.zip_cons_cons,zhz]
  rw [zg3]
  by_cases hk:k=q
  ·rw [if_pos hk,if_pos hk]
   exact ⟨fun d' e=>by cases e;exact ⟨x,rfl,h1⟩,fun e=>by cases e⟩
  ·rw [if_neg hk,if_neg hk]
   exact ih
section
variable {X:Cx}{E:XK}{m:Option Bool}{a b o i e:Expr}{fa fb fo fi fv:FE}{pos pos' apos cpos:Pos}
theorem zd6 {K:PySem.W.Frag}{H:Hp}{ds:List D}{xs:List V}{k:Int}{d:D}(h:IsDs K H ds xs)(e:atI ds k=some d):∃ x,atI xs k=some x∧IsD K H d x:=by
 unfold atI at e ⊢
 rw [h.length]
 cases hj:ixN ds.length k with
 | none=>rw [hj] at e;exact zqn e
 | some j =>
  rw [hj] at e
  exact h.get e
def gIx:D→D→Option D
 | .lst ds,.int k=>atI ds k
 | .tup ds,.int k=>atI ds k
 | .scr ns,.int k=>(atI ns k).map .int
 | .str x,.int k=>if x.length≤sizeLine then (atI x.cps.toList k).map fun c=>.str ⟨#[c]⟩ else none
 | .dct ks ds,k=>(zd7 k).bind fun q=>valD ks ds q
 | .dcf ks ds,k=>(zd7 k).bind fun q=>valD ks ds q
 | _,_=>none
theorem zkW {K:PySem.W.Frag}{H:Hp}{d:D}{ks:List Key}{ds:List D}{v:V}(hd:d=.dct ks ds∨d=.dcf ks ds)(h:IsD K H d v):∃ a xs,v=.ref a∧Rd H a (.dK (ks.zip xs))∧ks.length=xs.length∧IsDs K H ds xs:=by
 rcases hd with rfl|rfl
 ·obtain ⟨a,xs,h1,h2,h3⟩:=IsD.dct_iff.mp h
  exact ⟨a,xs,h1,.inl h2,h3⟩
 ·obtain ⟨a,o,xs,h1,h2,h3⟩:=IsD.dcf_iff.mp h
  exact ⟨a,xs,h1,.inr ⟨o,h2⟩,h3⟩
theorem zeo {H H':Hp}{a:Addr}{u:HO}(e:Same H H')(h:Rd H a u):Rd H' a u:=h.imp (fun q=>e _ _ q) (by rintro ⟨o,q⟩;exact ⟨o,e _ _ q⟩)
theorem zkw {H:Hp}{a:Addr}{kvs:List (Key×V)}{k:Key}(e:Rd H a (.dK kvs)):DGet H a (kV k) (valV kvs k):=.inl ⟨kvs,k,e,rfl,rfl⟩
theorem zgN:IxR X (rD2 X.K fun d e=>match d with
 | .dct _ _=>none
 | .dcf _ _=>none
 | d=>gIx d e):=IxR.weak zkZ fun x y H Q ⟨F,d,e,z,sF,id,ie,hz,q⟩=>by
 cases d with
 | lst ds =>
  cases e with
  | int k =>
   rw [IsD.lst_iff] at id
   refine zc2c id fun p xs zr2 h1 h2 => ?_
   obtain rfl:=zr2
   refine zc1b (zd6 h2 (show atI ds k=some z from hz)) fun x hx i2 => ?_
   exact .inl ⟨p,xs,k,x,rfl,IsD.int_iff.mp ie,(h1.same sF).sq,hx,q _ F H (.refl sF) i2⟩
  | _=>exact zqn hz
 | tup ds =>
  cases e with
  | int k =>
   rw [IsD.tup_iff] at id
   refine zc2c id fun p xs zr2 h1 h2 => ?_
   obtain rfl:=zr2
   refine zc1b (zd6 h2 (show atI ds k=some z from hz)) fun x hx i2 => ?_
   exact .inr (.inl ⟨p,xs,k,x,rfl,IsD.int_iff.mp ie,(h1.same sF).sq,hx,q _ F H (.refl sF) i2⟩)
  | _=>exact zqn hz
 | scr ns =>
  cases e with
  | int k =>
   rw [IsD.scr_iff] at id
   refine zc1b id fun p zr1 h1 => ?_
   obtain rfl:=zr1
   refine zc1b (Option.map_eq_some_iff.mp (show (atI ns k).map D.int=some z from hz)) fun j hj hz => ?_
   subst hz
   refine .inl ⟨p,_,k,.int j,rfl,IsD.int_iff.mp ie,Same.seq sF h1,?_,q _ F H (.refl sF) (isI _ F)⟩
   unfold atI at hj ⊢
   rw [List.length_map]
   cases hx:ixN ns.length k with
   | none=>rw [hx] at hj;exact zqn hj
   | some i=>rw [hx] at hj;show (ns.map V.int)[i]? = _;rw [List.getElem?_map,show ns[i]? = some j from hj];rfl
  | _=>exact zqn hz
 | str t =>
  cases e with
  | int k =>
   have hz:(if t.length≤sizeLine then (atI t.cps.toList k).map fun c=>D.str ⟨#[c]⟩ else none)=some z:=hz
   split at hz
   ·rename_i hl
    cases hc:atI t.cps.toList k with
    | none=>rw [hc] at hz;exact zqn hz
    | some c =>
     rw [hc] at hz
     obtain rfl:=Option.some.inj hz
     exact .inr (.inr ⟨t,k,c,IsD.str_iff.mp id,IsD.int_iff.mp ie,hl,hc,q _ F H (.refl sF) (IsD.str_iff.mpr rfl)⟩)
   ·exact zqn hz
  | _=>exact zqn hz
 | _=>exact zqn hz
theorem zbH (hu:X.A.units+1<cLine)(ha:QE X E a fa)(hb:QE X E b fb)(hs:zbN b)(hs2:NoSl b):QE X E (.Subscript a b pos) (dOp gIx fa fb) :=
 PE.weak (PE.or (zhj hu ha hb hs2) (zgj (zgN) ha hb hs)) fun σ H Q h=>by
  refine zc3b h fun B F sd r n => ?_
  by_cases hd:∃ d ks ds,fa sd=.ok d∧(d=.dct ks ds∨d=.dcf ks ds)
  ·obtain ⟨d,ks,ds,hd,hc⟩:=hd
   refine .inl ⟨B,F,sd,r,(Res.need_bind n).monoE (fun x hx n1 v F1 H1 e1 i1 => ?_) fun _ _ q=>q⟩
   rw [hd] at hx
   cases hx
   refine ⟨B,F1,sd,r.step e1,(Res.need_bind n1).mono (fun y n2 w F2 H2 e2 i2 => ?_) fun _ _ q=>q.ext e1⟩
   refine zc1b (Res.need_ofO n2) fun z hz q => ?_
   obtain ⟨k,hk,hz⟩:=Option.bind_eq_some_iff.mp (show (zd7 y).bind (fun q=>valD ks ds q)=some z by rcases hc with rfl|rfl<;>exact hz)
   refine zc2d (zkW hc i1) fun p xs zr2 h1 h2 h3 => ?_
   obtain rfl:=zr2
   refine zc1b ((zez k h2 h3).1 z hz) fun x hx ix => ?_
   refine ⟨p,x,rfl,?_,q x F2 H2 (e1.trans e2) (IsD.same e2.ff _ _ ix)⟩
   rw [zeR hk i2,← hx]
   exact zkw (zeo e2.hh (zeo e1.fh h1))
  ·refine .inr (zhT ⟨B,F,sd,r,?_⟩)
   unfold dOp at n ⊢
   cases hx:fa sd with
   | ok d =>
    rw [hx] at n
    cases d with
    | dct ks ds=>exact absurd ⟨_,ks,ds,hx,.inl rfl⟩ hd
    | dcf ks ds=>exact absurd ⟨_,ks,ds,hx,.inr rfl⟩ hd
    | _=>exact n
   | no=>rw [hx] at n;exact n
   | ex c fs=>rw [hx] at n;exact n
def gIn (neg:Bool):D→D→Option D
 | k,.dct ks ds=>(zd7 k).map fun q=>.bl (if neg then !(valD ks ds q).isSome else (valD ks ds q).isSome)
 | k,.dcf ks ds=>(zd7 k).map fun q=>.bl (if neg then !(valD ks ds q).isSome else (valD ks ds q).isSome)
 | d,.lst ds=>if plN 12 d&&ds.all (plN 12) then some (.bl (if neg then !ds.any (fun e=>zbG e d) else ds.any fun e=>zbG e d)) else none
 | d,.tup ds=>if plN 12 d&&ds.all (plN 12) then some (.bl (if neg then !ds.any (fun e=>zbG e d) else ds.any fun e=>zbG e d)) else none
 | _,_=>none
end
end L2.DL
namespace L2.DL
open PySem PySem.Spec PyProof.Rows
section
variable {X:Cx}{E:XK}{m:Option Bool}{a b o i e f tg:Expr}{fa fb fo fi fv:FE}{fr:FA}{pos pos' apos cpos p:Pos}
theorem zbv {K:PySem.W.Frag}{H:Hp}{d:D}{vs:List V}(h:IsDs K H [d] vs):∃ v,vs=[v]∧IsD K H d v:=by
 rw [IsDs.cons_iff] at h
 refine zc2c h fun v r zr2 h1 h2 => ?_
 obtain rfl:=zr2
 rw [IsDs.nil_iff] at h2
 subst h2
 exact ⟨v,rfl,h1⟩
theorem zjN {K:PySem.W.Frag}{H:Hp}{d e:D}{vs:List V}(h:IsDs K H [d,e] vs):∃ v w,vs=[v,w]∧IsD K H d v∧IsD K H e w:=by
 rw [IsDs.cons_iff] at h
 refine zc2c h fun v r zr2 h1 h2 => ?_
 obtain rfl:=zr2
 refine zc1b (zbv h2) fun w zr1 h3 => ?_
 obtain rfl:=zr1
 exact ⟨v,w,rfl,h1,h3⟩
noncomputable def gLen:List D→Option D
 | [.lst ds]=>some (.int ds.length)
 | [.tup ds]=>some (.int ds.length)
 | [.dct ks _]=>some (.int ks.length)
 | [.scr ns]=>some (.int ns.length)
 | [.str x]=>if x.length≤sizeLine then some (.int x.length) else none
 | _=>none
noncomputable def LenP (ds:List D)(z:D):Prop:=(∃ es,ds=[.lst es]∧z=.int es.length)∨(∃ es,ds=[.tup es]∧z=.int es.length)∨(∃ ks es,ds=[.dct ks es]∧z=.int ks.length)∨(∃ ns,ds=[.scr ns]∧z=.int ns.length)∨∃ x,x.length≤sizeLine∧ds=[.str x]∧z=.int x.length
theorem zhZ {ds:List D}{z:D}(hz:gLen ds=some z):LenP ds z:=by
 cases ds with
 | nil=>exact zqn hz
 | cons d ds =>
  cases ds with
  | nil =>
   cases d with
   | lst ds=>exact .inl ⟨_,rfl,(Option.some.inj hz).symm⟩
   | tup ds=>exact .inr (.inl ⟨_,rfl,(Option.some.inj hz).symm⟩)
   | dct ks ds=>exact .inr (.inr (.inl ⟨_,_,rfl,(Option.some.inj hz).symm⟩))
   | scr ns=>exact .inr (.inr (.inr (.inl ⟨_,rfl,(Option.some.inj hz).symm⟩)))
   | str x=>exact let q:=zdq hz;.inr (.inr (.inr (.inr ⟨_,q.1,rfl,q.2.symm⟩)))
   | _=>exact zqn hz
  | cons e ds=>cases d<;>exact zqn hz
theorem zcX:zas X (.builtin "len") (rDA X.K gLen):=zas.weak (zas.or zdA (zas.or zht zdC)) fun xs H Q zh=>by
 obtain ⟨F,ds,z,sF,id,hz,q⟩:=zh
 rcases zhZ hz with ⟨es,rfl,rfl⟩|⟨es,rfl,rfl⟩|⟨ks,es,rfl,rfl⟩|⟨ns,rfl,rfl⟩|⟨x,hl,rfl,rfl⟩
 ·obtain ⟨v,rfl,h⟩:=zbv id
  rw [IsD.lst_iff] at h
  obtain ⟨a,ys,rfl,h1,h2⟩:=h
  rw [← h2.length] at q
  exact .inl ⟨a,ys,rfl,.inl (h1.same sF).sq,q _ F H (.refl sF) (isI _ F)⟩
 ·obtain ⟨v,rfl,h⟩:=zbv id
  rw [IsD.tup_iff] at h
  obtain ⟨a,ys,rfl,h1,h2⟩:=h
  rw [← h2.length] at q
  exact .inl ⟨a,ys,rfl,.inr (h1.same sF).sq,q _ F H (.refl sF) (isI _ F)⟩
 ·obtain ⟨v,rfl,h⟩:=zbv id
  rw [IsD.dct_iff] at h
  obtain ⟨a,ys,rfl,h1,h2,h3⟩:=h
  refine .inr (.inl ⟨a,_,rfl,sF _ _ h1,?_⟩)
  rw [List.length_zip,← h2,Nat.min_self]
  exact q _ F H (.refl sF) (isI _ F)
 ·obtain ⟨v,rfl,h⟩:=zbv id
  rw [IsD.scr_iff] at h
  obtain ⟨a,rfl,h1⟩:=h
  refine .inl ⟨a,_,rfl,.inl (Same.seq sF h1),?_⟩
  rw [List.length_map]
  exact q _ F H (.refl sF) (isI _ F)
 ·obtain ⟨v,rfl,h⟩:=zbv id
  rw [IsD.str_iff] at h
  subst h
  exact .inr (.inr ⟨_,rfl,hl,q _ F H (.refl sF) (isI _ F)⟩)
noncomputable def ziz:List D→Option D
 | [.int i,.int j]=>some (.int (if j > i then j else i))
 | _=>none
noncomputable def zik:List D→Option D
 | [.int i,.int j]=>some (.int (if j<i then j else i))
 | _=>none
noncomputable def zlp (ds:List D):Prop:=∃ i j,ds=[.int i,.int j]
theorem zh9 {ds:List D}{z:D}(hz:ziz ds=some z):zlp ds:=by
 cases ds with
 | nil=>exact zqn hz
 | cons d ds =>
  cases ds with
  | nil=>cases d<;>exact zqn hz
  | cons e ds =>
   cases d with
   | int i =>
    cases e with
    | int j =>
     cases ds with
     | nil=>exact ⟨_,_,rfl⟩
     | cons _ _=>exact zqn hz
    | _=>exact zqn hz
   | _=>exact zqn hz
theorem zkk {ds:List D}{z:D}(hz:zik ds=some z):zlp ds:=by
 cases ds with
 | nil=>exact zqn hz
 | cons d ds =>
  cases ds with
  | nil=>cases d<;>exact zqn hz
  | cons e ds =>
   cases d with
   | int i =>
    cases e with
    | int j =>
     cases ds with
     | nil=>exact ⟨_,_,rfl⟩
     | cons _ _=>exact zqn hz
    | _=>exact zqn hz
   | _=>exact zqn hz
theorem zkV (hc:X.calm=true):zas X (.builtin "max") (rDA X.K ziz):=zas.weak (zfV hc) fun xs H Q zh=>by
 refine zc3a zh fun F ds z zz=>zc0d zz fun sF id hz q => ?_
 refine zc2a (zh9 hz) fun i j zr2 => ?_
 obtain rfl:=zr2
 obtain rfl:=Option.some.inj hz
 refine zc2c (zjN id) fun v w zr2 h1 h2 => ?_
 obtain rfl:=zr2
 exact ⟨_,_,by rw [IsD.int_iff.mp h1,IsD.int_iff.mp h2],q _ F H (.refl sF) (isI _ F)⟩
theorem zmh (hc:X.calm=true):zas X (.builtin "min") (rDA X.K zik):=zas.weak (zfQ hc) fun xs H Q zh=>by
 refine zc3a zh fun F ds z zz=>zc0d zz fun sF id hz q => ?_
 refine zc2a (zkk hz) fun i j zr2 => ?_
 obtain rfl:=zr2
 obtain rfl:=Option.some.inj hz
 refine zc2c (zjN id) fun v w zr2 h1 h2 => ?_
 obtain rfl:=zr2
 exact ⟨_,_,by rw [IsD.int_iff.mp h1,IsD.int_iff.mp h2],q _ F H (.refl sF) (isI _ F)⟩
def zbz:D→Option (List Int)
 | .lst ds=>zbg zek ds
 | _=>none
theorem zbA {K:PySem.W.Frag}{H:Hp}{d:D}{ns:List Int}{v:V}(h:zbz d=some ns)(i:IsD K H d v):∃ a,v=.ref a∧LstD K H a (ns.map V.int):=by
 cases d with
 | lst ds =>
  rw [IsD.lst_iff] at i
  refine zc2c i fun a xs zr2 h1 h2 => ?_
  obtain rfl:=zr2
  rw [zfl (show zbg zek ds=some ns from h)] at h2
  rw [IsDs.ints_iff h2] at h1
  exact ⟨a,rfl,h1⟩
 | _=>exact zqn h
theorem zbQ (ns:List Int):zbz (.lst (ns.map D.int))=some ns:=zcR ns
def zga:List D→Option D
 | [d]=>(zbz d).bind fun ns=>if ns=[] then none else some (.int (maxI ns))
 | _=>none
def zgA:List D→Option D
 | [d]=>(zbz d).bind fun ns=>if ns=[] then none else some (.int (minI ns))
 | _=>none
theorem zlG (hc:X.calm=true):zas X (.builtin "max") (rDA X.K zga):=zas.weak (zgF hc) fun xs H Q zh=>by
 refine zc3a zh fun F ds z zz=>zc0d zz fun sF id hz q => ?_
 unfold zga at hz
 split at hz
 ·refine zc1b (Option.bind_eq_some_iff.mp hz) fun ns h1 hz => ?_
  split at hz
  ·exact zqn hz
  ·rename_i hn
   obtain rfl:=Option.some.inj hz
   refine zc1b (zbv id) fun v zr1 h => ?_
   obtain rfl:=zr1
   refine zc1b (zbA h1 h) fun a zr1 h2 => ?_
   obtain rfl:=zr1
   exact ⟨a,ns,rfl,(h2.same sF).sq,hn,q _ F H (.refl sF) (isI _ F)⟩
 ·exact zqn hz
theorem zlT (hc:X.calm=true):zas X (.builtin "min") (rDA X.K zgA):=zas.weak (zgI hc) fun xs H Q zh=>by
 refine zc3a zh fun F ds z zz=>zc0d zz fun sF id hz q => ?_
 unfold zgA at hz
 split at hz
 ·refine zc1b (Option.bind_eq_some_iff.mp hz) fun ns h1 hz => ?_
  split at hz
  ·exact zqn hz
  ·rename_i hn
   obtain rfl:=Option.some.inj hz
   refine zc1b (zbv id) fun v zr1 h => ?_
   obtain rfl:=zr1
   refine zc1b (zbA h1 h) fun a zr1 h2 => ?_
   obtain rfl:=zr1
   exact ⟨a,ns,rfl,(h2.same sF).sq,hn,q _ F H (.refl sF) (isI _ F)⟩
 ·exact zqn hz
noncomputable def tyN:D→Option String
 | .non=>some "NoneType"
 | .bl _=>some "bool"
 | .int _=>some "int"
 | .str _=>some "str"
 | .lst _=>some "list"
 | .tup _=>some "tuple"
 | .dct _ _=>some "dict"
 | _=>none
noncomputable def tyIn (t n:String):Bool:=(t == n)||(t == "bool" && n == "int")
noncomputable def zc1 (t n:String):Bool:=["NoneType", "bool", "int", "str", "list", "tuple", "dict"].contains t&&["bool", "int", "str", "list", "tuple", "dict"].contains n
theorem zkl (K:PySem.W.Frag)(t n:String)(h:zc1 t n=true):PySem.W.kitOne K (.type t) (.type n)=some (tyIn t n):=by
 unfold zc1 at h
 rw [Bool.and_eq_true,List.contains_iff_mem,List.contains_iff_mem] at h
 obtain ⟨h1,h2⟩:=h
 simp only [List.mem_cons,List.not_mem_nil,or_false] at h1 h2
 rcases h1 with rfl|rfl|rfl|rfl|rfl|rfl|rfl<;>rcases h2 with rfl|rfl|rfl|rfl|rfl|rfl<;>first|rfl|kernel_rfl
def gIsi:List D→Option D
 | [d,.ty n]=>(tyN d).bind fun t=>if zc1 t n then some (.bl (tyIn t n)) else none
 | _=>none
theorem zkJ {K:PySem.W.Frag}{H:Hp}{d:D}{v:V}{t:String}(h:tyN d=some t)(i:IsD K H d v):TyOf K H v (.type t):=by
 cases d with
 | non=>cases h;rw [IsD.non_iff.mp i];exact .non
 | bl b=>cases h;rw [IsD.bl_iff.mp i];exact .bl b
 | int j=>cases h;rw [IsD.int_iff.mp i];exact .int j
 | str x=>cases h;rw [IsD.str_iff.mp i];exact .str x
 | lst ds =>
  obtain rfl:=Option.some.inj h
  rw [IsD.lst_iff] at i
  refine zc2c i fun a xs zr2 h1 _ => ?_
  obtain rfl:=zr2
  rcases h1 with h1|⟨o,h1⟩
  ·exact .lst h1
  ·exact .frz h1
 | tup ds =>
  obtain rfl:=Option.some.inj h
  rw [IsD.tup_iff] at i
  refine zc2c i fun a xs zr2 h1 _ => ?_
  obtain rfl:=zr2
  exact .tup h1
 | dct ks ds =>
  obtain rfl:=Option.some.inj h
  rw [IsD.dct_iff] at i
  refine zc2c i fun a xs zr2 h1 _ => ?_
  obtain rfl:=zr2
  exact .dK h1
 | ty n=>exact zqn h
 | scr n=>exact zqn h
 | ins C fs ds=>exact zqn h
 | exc c=>exact zqn h
 | ucl c=>exact zqn h
 | adr c=>exact zqn h
 | dcf c ds=>exact zqn h
 | pin c ds=>exact zqn h
def IsiP (ds:List D)(z:D):Prop:=∃ d n t,ds=[d,.ty n]∧tyN d=some t∧zc1 t n=true∧z=.bl (tyIn t n)
theorem zh4 {ds:List D}{z:D}(hz:gIsi ds=some z):IsiP ds z:=by
 cases ds with
 | nil=>exact zqn hz
 | cons d ds =>
  cases ds with
  | nil=>exact zqn hz
  | cons e ds =>
   cases ds with
   | nil =>
    cases e with
    | ty n =>
     refine zc1b (Option.bind_eq_some_iff.mp (show (tyN d).bind (fun t=>if zc1 t n then some (D.bl (tyIn t n)) else none)=some z from hz)) fun t h1 hz => ?_
     exact ⟨d,n,t,rfl,h1,(zdq hz).1,(zdq hz).2.symm⟩
    | _=>exact zqn hz
   | cons _ _=>cases e<;>exact zqn hz
theorem zmf:zas X (.builtin "isinstance") (rDA X.K gIsi):=zas.weak zim fun xs H Q zh=>by
 refine zc3a zh fun F ds z zz=>zc0d zz fun sF id hz q => ?_
 refine zc3a (zh4 hz) fun d n t zz=>zc0d zz fun zr3 h1 hk zr6 => ?_
 obtain rfl:=zr3
 obtain rfl:=zr6
 refine zc2c (zjN id) fun v w zr2 h2 h3 => ?_
 obtain rfl:=zr2
 exact ⟨v,_,_,_,by rw [IsD.ty_iff.mp h3],zkJ h1 (IsD.same sF _ _ h2),zkl _ _ _ hk,q _ F H (.refl sF) (isB _ F)⟩
theorem zmq {n:String}{x:Str}{u:Value}(hg:Gl X x)(hm:X.mg x=none)(hv:bootBuiltins x=some u)(r:RelV (.ty n) u)(hn:autoParam (x ≠ "__name__") zav._auto_1)(hd:autoParam ((x == ("__debug__" : Str))=false) zav._auto_1):QE X E (.Name x pos) (dC (.ty n)) :=
 zdu (zkx (v:=.ty n) hg hm hv r hn hd) fun _=>IsD.ty_iff.mpr rfl
noncomputable def zbw:List D→Option D
 | [.lst ds]=>some (.lst ds)
 | [.tup ds]=>some (.lst ds)
 | [.scr ns]=>some (.lst (ns.map .int))
 | _=>none
noncomputable def ListP (ds:List D)(z:D):Prop:=(∃ es,ds=[.lst es]∧z=.lst es)∨(∃ es,ds=[.tup es]∧z=.lst es)∨∃ ns,ds=[.scr ns]∧z=.lst (ns.map .int)
theorem zfX {ds:List D}{z:D}(hz:zbw ds=some z):ListP ds z:=by
 cases ds with
 | nil=>exact zqn hz
 | cons d ds =>
  cases ds with
  | nil =>
   cases d with
   | lst ds=>exact .inl ⟨_,rfl,(Option.some.inj hz).symm⟩
   | tup ds=>exact .inr (.inl ⟨_,rfl,(Option.some.inj hz).symm⟩)
   | scr ns=>exact .inr (.inr ⟨_,rfl,(Option.some.inj hz).symm⟩)
   | _=>exact zqn hz
  | cons e ds=>cases d<;>exact zqn hz
theorem zbS:zas X (.type "list") (rDAN X.K zbw):=zas.weak zdR fun xs H Q zh=>by
 obtain ⟨F,ds,z,sF,id,hz,q⟩:=zh
 have fin:∀ {es:List D} {ys:List V},IsDs X.K F es ys→OkN X.K F H Q (.lst es)→∀ l,H l=none→Q (.ref l) (upd H l (.lst ys)):=fun {es ys} h q l hl =>
  q l F _ (.keep sF hl _) hl (zan sF hl) ⟨ys,zah,h⟩
 rcases zfX hz with ⟨es,rfl,rfl⟩|⟨es,rfl,rfl⟩|⟨ns,rfl,rfl⟩
 ·obtain ⟨v,rfl,h⟩:=zbv id
  rw [IsD.lst_iff] at h
  obtain ⟨a,ys,rfl,h1,h2⟩:=h
  exact ⟨a,ys,rfl,.inl (h1.same sF).sq,fin h2 q⟩
 ·obtain ⟨v,rfl,h⟩:=zbv id
  rw [IsD.tup_iff] at h
  obtain ⟨a,ys,rfl,h1,h2⟩:=h
  exact ⟨a,ys,rfl,.inr (h1.same sF).sq,fin h2 q⟩
 ·obtain ⟨v,rfl,h⟩:=zbv id
  rw [IsD.scr_iff] at h
  obtain ⟨a,rfl,h1⟩:=h
  exact ⟨a,_,rfl,.inl (Same.seq sF h1),fin (IsDs.ints _) q⟩
noncomputable def zeE:List D→Option D
 | [.lst ds]=>some (.tup ds)
 | [.tup ds]=>some (.tup ds)
 | _=>none
noncomputable def TupP (ds:List D)(z:D):Prop:=(∃ es,ds=[.lst es]∧z=.tup es)∨∃ es,ds=[.tup es]∧z=.tup es
theorem zf5 {ds:List D}{z:D}(hz:zeE ds=some z):TupP ds z:=by
 cases ds with
 | nil=>exact zqn hz
 | cons d ds =>
  cases ds with
  | nil =>
   cases d with
   | lst ds=>exact .inl ⟨_,rfl,(Option.some.inj hz).symm⟩
   | tup ds=>exact .inr ⟨_,rfl,(Option.some.inj hz).symm⟩
   | _=>exact zqn hz
  | cons e ds=>cases d<;>exact zqn hz
theorem zkg:zas X (.type "tuple") (rDA X.K zeE):=zas.weak zdm fun xs H Q zh=>by
 refine zc3a zh fun F ds z zz=>zc0d zz fun sF id hz q => ?_
 rcases zf5 hz with ⟨es,rfl,rfl⟩|⟨es,rfl,rfl⟩
 ·refine zc1b (zbv id) fun v zr1 h => ?_
  obtain rfl:=zr1
  rw [IsD.lst_iff] at h
  refine zc2c h fun a ys zr2 h1 h2 => ?_
  obtain rfl:=zr2
  refine ⟨a,ys,rfl,.inl ⟨(h1.same sF).sq,fun l hl => ?_⟩⟩
  have ea:=Ext.alloc sF hl (.tup ys)
  exact q _ _ _ ea (IsD.tup_iff.mpr ⟨l,ys,rfl,.of zah,IsDs.same ea.ff _ _ h2⟩)
 ·refine zc1b (zbv id) fun v zr1 h => ?_
  obtain rfl:=zr1
  have h':=h
  rw [IsD.tup_iff] at h
  refine zc2c h fun a ys zr2 h1 h2 => ?_
  obtain rfl:=zr2
  exact ⟨a,ys,rfl,.inr ⟨(h1.same sF).sq,q _ F H (.refl sF) h'⟩⟩
noncomputable def walkL:D→Option (List D)
 | .lst ds=>some ds
 | .scr ns=>some (ns.map .int)
 | _=>none
noncomputable def walkT:D→Option (List D)
 | .tup ds=>some ds
 | _=>none
def iL (f:FE):FA:=fun sd=>(f sd).bind fun d=>.ofO (walkL d)
def iT (f:FE):FA:=fun sd=>(f sd).bind fun d=>.ofO (walkT d)
theorem zbO {K:PySem.W.Frag}{F1:Hp}{J:It}{ds:List D}{xs:List V}{S:Hp→Prop}(h:IsDs K F1 ds xs)(sm:∀ F H,Same F1 F→Same F H→S H)(g:∀ i H x,S H→xs[i]? = some x→J.go i H)(st:∀ i H,S H→xs.length≤i→J.stop i H)
 (yl:∀ i H x H',S H→J.yld i H x H'→H'=H∧xs[i]? = some x):Walk K F1 J ds:=fun i F2 H2 s1 s2=>by
 have hS:=sm F2 H2 s1 s2
 refine ⟨fun hi => ?_,fun hi=>st i H2 hS (by rw [h.length];exact hi)⟩
 refine zc1b (h.get (List.getElem?_eq_getElem hi)) fun x hx _ => ?_
 refine ⟨g i H2 x hS hx,fun y H3 hy => ?_⟩
 obtain ⟨rfl,hy'⟩:=yl i H2 y H3 hS hy
 refine zc1b (h.getV hy') fun d hd id => ?_
 exact ⟨d,F2,hd,.refl s2,IsD.same s1 _ _ id⟩
theorem zjs (h:QE X E e fa):QI X E tg e (iL fa):=PI.weak (zjz h) fun σ H R zh=>by
 refine zc3b zh fun B F sd r n => ?_
 refine ⟨B,F,sd,r,(Res.need_bind n).mono (fun d n1 v F1 H1 e1 i1 => ?_) fun _ _ q=>q⟩
 refine zc1b (Res.need_ofO n1) fun ds hz q => ?_
 cases d with
 | lst es =>
  obtain rfl:=Option.some.inj hz
  rw [IsD.lst_iff] at i1
  refine zc2c i1 fun a xs zr2 h1 h2 => ?_
  obtain rfl:=zr2
  refine ⟨a,rfl,⟨xs,(h1.same e1.fh).sq⟩,q _ F1 H1 e1 (zbO (S:=fun H=>SqL X.K H a xs) h2 (fun F H s1 s2=>((h1.same s1).same s2).sq) (fun i H x hS hx=>⟨xs,x,hS,hx⟩) (fun i H hS hi=>⟨xs,hS,hi⟩) fun i H x H' hS hy=>⟨hy.1,hy.2 xs hS⟩)⟩
 | scr ns =>
  obtain rfl:=Option.some.inj hz
  rw [IsD.scr_iff] at i1
  refine zc1b i1 fun a zr1 h1 => ?_
  obtain rfl:=zr1
  refine ⟨a,rfl,⟨_,Same.seq e1.fh h1⟩,q _ F1 H1 e1 (zbO (S:=fun H=>SqL X.K H a (ns.map V.int)) (IsDs.ints ns) (fun F H s1 s2=>Same.seq s2 (Same.seq s1 h1)) (fun i H x hS hx=>⟨_,x,hS,hx⟩) (fun i H hS hi=>⟨_,hS,hi⟩) fun i H x H' hS hy=>⟨hy.1,hy.2 _ hS⟩)⟩
 | _=>exact zqn hz
theorem zmg (h:QE X E e fa):QI X E tg e (iT fa):=PI.weak (zlB h) fun σ H R zh=>by
 refine zc3b zh fun B F sd r n => ?_
 refine ⟨B,F,sd,r,(Res.need_bind n).mono (fun d n1 v F1 H1 e1 i1 => ?_) fun _ _ q=>q⟩
 refine zc1b (Res.need_ofO n1) fun ds hz q => ?_
 cases d with
 | tup es =>
  obtain rfl:=Option.some.inj hz
  rw [IsD.tup_iff] at i1
  refine zc2c i1 fun a xs zr2 h1 h2 => ?_
  obtain rfl:=zr2
  refine ⟨a,rfl,⟨xs,(h1.same e1.fh).sq⟩,q _ F1 H1 e1 (zbO (S:=fun H=>SqT X.K H a xs) h2 (fun F H s1 s2=>((h1.same s1).same s2).sq) (fun i H x hS hx=>⟨xs,x,hS,hx⟩) (fun i H hS hi=>⟨xs,hS,hi⟩) fun i H x H' hS hy=>⟨hy.1,hy.2 xs hS⟩)⟩
 | _=>exact zqn hz
noncomputable def PIor {X:Cx}{tg e:Expr}{t t':TI}(h:PI X tg e t)(h':PI X tg e t'):PI X tg e (fun σ H R=>t σ H R∨t' σ H R):=fun pins s σ H R I q=>q.elim (h pins s σ H R I) (h' pins s σ H R I)
noncomputable def zel:D→Option (List D)
 | .lst ds=>some ds
 | .scr ns=>some (ns.map .int)
 | .tup ds=>some ds
 | _=>none
def iS (f:FE):FA:=fun sd=>(f sd).bind fun d=>.ofO (zel d)
theorem zby (h:QE X E e fa):QI X E tg e (iS fa):=PI.weak (PIor (zjs (E:=E) h) (zmg (E:=E) h)) fun σ H R zh=>by
 refine zc3b zh fun B F sd r n => ?_
 by_cases hd:∃ ds,fa sd=.ok (.tup ds)
 ·obtain ⟨ds,hd⟩:=hd
  refine .inr ⟨B,F,sd,r,?_⟩
  unfold iS at n
  unfold iT
  rw [hd] at n ⊢
  exact n
 ·refine .inl ⟨B,F,sd,r,?_⟩
  unfold iS at n
  unfold iL
  cases hx:fa sd with
  | ok d =>
   rw [hx] at n
   cases d with
   | tup ds=>exact absurd ⟨ds,hx⟩ hd
   | _=>exact n
  | no=>rw [hx] at n;exact n
  | ex c fs=>rw [hx] at n;exact n
noncomputable def zaz (lo:Int)(n:Nat):List D:=(List.range n).map fun k:Nat=>.int (lo+k)
noncomputable def zen (j:Int):Bool:=Nat.ble j.toNat 1000000000&&Nat.ble (-j).toNat 1000000000
theorem zce {j:Int}(h:zen j=true) : -(2 ^ 62)≤j∧j<2 ^ 62:=by
 unfold zen at h
 rw [Bool.and_eq_true,Nat.ble_eq,Nat.ble_eq] at h
 omega
theorem zeY {j:Int}(h1 : -1000000000≤j)(h2:j≤1000000000):zen j=true:=by
 unfold zen
 rw [Bool.and_eq_true,Nat.ble_eq,Nat.ble_eq]
 omega
def iR1 (fr:FA):FA:=fun sd=>(fr sd).bind fun ds=>match ds with
 | [.int j]=>if zen j then .ok (zaz 0 j.toNat) else .no
 | _=>.no
theorem zcM {K:PySem.W.Frag}{F1:Hp}(lo:Int)(n:Nat):Walk K F1 (Itr lo n) (zaz lo n):=fun i F2 H2 s1 s2=>by
 have hl:(zaz lo n).length=n:=by unfold zaz;rw [List.length_map,List.length_range]
 rw [hl]
 refine ⟨fun hi=>⟨hi,fun x H3 hy => ?_⟩,fun hi=>hi⟩
 obtain ⟨rfl,rfl⟩:=hy
 refine ⟨.int (lo+i),F2,?_,.refl s2,IsD.int_iff.mpr rfl⟩
 unfold zaz
 rw [List.getElem?_map,List.getElem?_range hi]
 rfl
theorem zaV {a:Expr}(hg:Gl X "range")(hm:X.mg "range" = none)(ha:QA X E [a] fr)(hs:autoParam (starEach [a] X.env=[(false,eval a X.env)]) zau._auto_1):QI X E tg (.Call (.Name "range" p) [a] [] pos) (iR1 fr):=PI.weak (zeg hg hm ha hs) fun σ H R zh=>by
 refine zc3b zh fun B F sd r n => ?_
 refine ⟨B,F,sd,r,(Res.need_bind n).mono (fun ds n1 vs F1 H1 e1 i1 => ?_) fun _ _ q=>q⟩
 split at n1
 ·split at n1
  ·rename_i j hj
   refine zc1b (zbv i1) fun v zr1 h => ?_
   obtain rfl:=zr1
   rw [IsD.int_iff.mp h]
   exact ⟨j,rfl,(zce hj).1,(zce hj).2,n1 _ F1 H1 e1 (zcM 0 _)⟩
  ·exact n1.elim
 ·exact n1.elim
end
end L2.DL
namespace L2.DL
open PySem PySem.Spec PyProof.Rows
section
variable {X:Cx}{E:XK}{m:Option Bool}{a b o i e f tg:Expr}{fa fb fo fi fv:FE}{fr:FA}{pos pos' apos cpos p:Pos}
theorem PG.weak {e:Expr}{t t':TG}(h:PG X e t)(w:∀ v σ H Q,t' v σ H Q→t v σ H Q):PG X e t':=fun pins s σ H v u Q I r q=>h pins s σ H v u Q I r (w _ _ _ _ q)
def zgf:List Nat→TGs
 | []=>gNil
 | i::is=>zkC (zdo i) (zgf is)
theorem zdD:∀ {is:List Nat} {xs:List V} {σ : St} {H:Hp} {Q:St→Hp→Prop},xs.length=is.length→Q (zdw is xs σ) H→zgf is xs σ H Q
 | [],xs,σ,H,Q,hl,q=>⟨List.length_eq_zero_iff.mp hl,q⟩
 | i::is,[],σ,H,Q,hl,q=>by cases hl
 | i::is,x::xs,σ,H,Q,hl,q=>⟨x,xs,rfl,zdD (is:=is) (xs:=xs) (Nat.succ.inj hl) q⟩
theorem zaQ {i:Nat}{e:Expr}(h:PG X e (zdo i)):QG X e (.one i):=h
theorem zg5 (is:List Nat){e:Expr}(h:PG X e (gTup X.K is.length (zgf is))):QG X e (.tup is):=PG.weak h (by rintro v σ H Q ⟨a,xs,e,h1,h2,q⟩;exact ⟨a,xs,e,h1,h2,zdD h2 q⟩)
def zc8 (tg:Tg)(c:FT)(f:FE)(sd:SD):List D→Res (List D)
 | []=>.ok []
 | x::xs=>(zaE tg x sd).bind fun s=>(c s).bind fun b=>if b then (f s).bind fun y=>(zc8 tg c f sd xs).bind fun ys=>.ok (y::ys) else zc8 tg c f sd xs
def zdr (cap:List (Option Nat))(it:FA)(tg:Tg)(c:FT)(f:FE):FE:=fun sd=>(it sd).bind fun ds=>if zcw (capD cap sd) tg=true∧ds.length<sizeLine then
 (zc8 tg c f (capD cap sd) ds).bind fun ys=>.ok (.lst ys) else .no
theorem zfv {K:PySem.W.Frag}{t:Tg}{fi:FA}{fc:FT}{f:FE}{cap:List (Option Nat)}{σ : St}{H:Hp}{Q:VK}(hh:tDN K E (zdr cap fi t fc f) σ H Q):zcS cap (tDI K E fi) (gT t K) (tDT K E fc) (tD K E f) σ H Q:=by
 refine zc3b hh fun B F sd r n => ?_
 refine ⟨B,F,sd,r,(Res.need_bind n).mono (fun ds n1 J F1 H1 e1 wk => ?_) fun _ _ q=>q⟩
 split at n1
 ·rename_i hh
  obtain ⟨hn,hz⟩:=hh
  refine ⟨fun i k ys σ H2=>k=ds.length-i∧i≤ds.length∧∃ F2 es,Ext F1 H1 F2 H2∧RS K B F2 H2 (capD cap sd) σ ∧ IsDs K F2 es ys∧es.length≤i ∧
   (zc8 t fc f (capD cap sd) (ds.drop i)).need (fun rs=>OkN K F2 H2 Q (.lst (es++rs))) (XW K E F2 H2),⟨ds.length,rfl,Nat.zero_le _,F1,[],.refl e1.fh,(r.step e1).cap cap,.nil,Nat.le_refl _,?_⟩,?_⟩
  ·exact (Res.need_bind n1).mono (fun rs q=>(show OkN K F H Q (.lst rs) from q).ext e1) fun _ _ q=>q.ext e1
  rintro i k ys σ2 H2 ⟨rfl,hi,F2,es,e2,r2,i2,hl,n2⟩
  have ly:=i2.length
  refine ⟨by omega,?_⟩
  obtain ⟨w1,w2⟩:=wk i F2 H2 e2.ff e2.fh
  by_cases hlt:i<ds.length
  ·obtain ⟨go,yl⟩:=w1 hlt
   refine .inr ⟨go,fun x H3 y => ?_⟩
   refine zc2c (yl x H3 y) fun d F3 hd e3 i3 => ?_
   rw [List.drop_eq_getElem_cons hlt] at n2
   have hd':ds[i]=d:=by rw [List.getElem?_eq_getElem hlt] at hd;exact Option.some.inj hd
   rw [hd'] at n2
   unfold zc8 at n2
   have r3:=r2.step e3
   refine zid (K:=K) r3 i3 (Res.need_bind n2) fun sd' σ' n4 hb r4 => ?_
   obtain ⟨b1,b2⟩:=zcK hn hb
   refine ⟨B,F3,sd',r4,(Res.need_bind n4).mono (fun b n5 F4 H4 e4 => ?_) fun _ _ q=>q.ext e3⟩
   cases b with
   | true =>
    refine ⟨B,F4,sd',r4.step e4,(Res.need_bind n5).mono (fun y n6 v F5 H5 e5 i5 => ?_) fun _ _ q=>q.ext (e3.trans e4)⟩
    refine ⟨ds.length-(i+1),by omega,rfl,hlt,F5,es++[y],((e2.trans e3).trans e4).trans e5,((r4.step e4).step e5).forget b1 b2,(IsDs.same ((e3.ff.trans e4.ff).trans e5.ff) _ _ i2).snoc i5,by rw [List.length_append];exact Nat.succ_le_succ hl,?_⟩
    refine (Res.need_bind n6).mono (fun rs q => ?_) fun _ _ q=>q.ext ((e3.trans e4).trans e5)
    rw [List.append_assoc]
    exact (show OkN K F2 H2 Q (.lst (es++y::rs)) from q).ext ((e3.trans e4).trans e5)
   | false =>
    refine ⟨ds.length-(i+1),by omega,rfl,hlt,F4,es,(e2.trans e3).trans e4,(r4.step e4).forget b1 b2,IsDs.same (e3.ff.trans e4.ff) _ _ i2,Nat.le_succ_of_le hl,?_⟩
    exact (show (zc8 t fc f (capD cap sd) (ds.drop (i+1))).need _ _ from n5).mono (fun rs q=>q.ext (e3.trans e4)) fun _ _ q=>q.ext (e3.trans e4)
  ·have he:i=ds.length:=by omega
   subst he
   refine .inl ⟨w2 (Nat.le_refl _),fun D hD => ?_⟩
   rw [List.drop_length] at n2
   have q:OkN K F2 H2 Q (.lst (es++[])):=n2
   rw [List.append_nil] at q
   exact q D F2 _ (.keep r2.ext.fh hD _) hD (zan r2.ext.fh hD) ⟨ys,zah,i2⟩
 ·exact n1.elim
theorem zhW {tg iter elt c:Expr}{scope:Scope}{t:Tg}{fi:FA}{fc:FT}{f:FE}(N:List Str)(cap:List (Option Nat))(hc:X.calm=true)(okB:za8 scope X.env N X.N cap=true)(hi:QI X E tg iter fi)
 (hg:∀ cl C s H ex,QG (zap X scope N cl C s H ex) tg t) (ht:∀ cl C s H ex,QT (zap X scope N cl C s H ex) E c fc) (he:∀ cl C s H ex,QE (zap X scope N cl C s H ex) E elt f) (hs:autoParam (∀ x,foldedSetIterable iter X.env x=pure x) zaw._auto_1) :
 QN X E (.ListComp elt [⟨tg,iter,[c],0⟩] scope pos) (zdr cap fi t fc f):=PE.weak (zgy (g:=gT t X.K) (tt:=tDT X.K E fc) (te:=tD X.K E f) N cap hc okB hi hg ht he hs) fun _ _ _ h=>zfv h
end
end L2.DL
namespace L2.DL
open PySem PySem.Spec PyProof.Rows
section
variable {P:Program}{w:World}{K:PySem.W.Frag}{mg:Str→Option Value}{base:Heap}{f:Addr}{fd:FuncData}{ps:List Str}{k:Nat}
theorem zl5:FnOk P w K mg base CX0 k f fd ps (SpD K fun _=>.no):=⟨fun _ _ _ _ ⟨_,_,_,_,n⟩=>n.elim,(by rintro _ _ _ _ _ _ _ _ _ _ _ _ _ ⟨_,_,_,_,n⟩;exact n.elim)⟩
end
section
variable {X:Cx}{E:XK}{m:Option Bool}{a b o i e f tg:Expr}{fa fb fo fi fv:FE}{fr:FA}{pos pos' apos cpos p:Pos}
def zbX (i:Nat)(fb:FE):FE:=fun sd=>match sd[i]? with
 | some (some (.own _ d))=>(fb sd).bind fun y=>.ofO (gIx d y)
 | _=>.no
theorem zgt {i:Nat}(hu:X.A.units+1<cLine)(ha:PE X a (tVar i))(hb:QE X E b fb)(hs:zbN b)(hs2:NoSl b):QE X E (.Subscript a b pos) (zbX i fb) :=
 PE.weak (PE.or (zhj hu ha hb hs2) (zgj zdy ha hb hs)) fun σ H Q zh=>by
  refine zc3b zh fun B F sd r n => ?_
  unfold zbX at n
  split at n
  ·rename_i p d hi
   refine zc1e (r.own hi) fun l h1 h2 h3 h4 _ => ?_
   cases d with
   | lst ds =>
    refine zc1b h4 fun xs g1 g2 => ?_
    refine .inr ⟨.ref l,h1,B,F,sd,r,(Res.need_bind n).mono (fun y n1 w F1 H1 e1 i1 => ?_) fun _ _ q=>q⟩
    refine zc1b (Res.need_ofO n1) fun z hz q => ?_
    cases y with
    | int k =>
     refine zc1b (zd6 g2 (show atI ds k=some z from hz)) fun x hx ix => ?_
     exact ⟨l,xs,k,x,rfl,IsD.int_iff.mp i1,SqL.of (e1.hh _ _ g1),hx,q _ F1 H1 e1 (IsD.same e1.ff _ _ ix)⟩
    | _=>exact zqn hz
   | dct ks ds =>
    refine zc1c h4 fun xs g1 g2 g3 => ?_
    refine .inl ⟨.ref l,h1,B,F,sd,r,(Res.need_bind n).mono (fun y n1 w F1 H1 e1 i1 => ?_) fun _ _ q=>q⟩
    refine zc1b (Res.need_ofO n1) fun z hz q => ?_
    refine zc1b (Option.bind_eq_some_iff.mp (show (zd7 y).bind (fun q=>valD ks ds q)=some z from hz)) fun k hk hz => ?_
    refine zc1b ((zez k g2 g3).1 z hz) fun x hx ix => ?_
    refine ⟨l,x,rfl,?_,q x F1 H1 e1 (IsD.same e1.ff _ _ ix)⟩
    rw [zeR hk i1,← hx]
    exact DGet.k (e1.hh _ _ g1)
   | ins c fs ds =>
    refine .inr ⟨.ref l,h1,B,F,sd,r,(Res.need_bind n).mono (fun y n1 w F1 H1 e1 i1 => ?_) fun _ _ q=>q⟩
    refine zc1b (Res.need_ofO n1) fun z hz q => ?_
    cases y<;>exact zqn hz
   | _=>exact h4.elim
  ·exact n.elim
end
end L2.DL
namespace L2
open PySem PySem.Spec PyProof.Rows
section
variable {X:Cx}{tg iter elt c:Expr}{scope:Scope}{pos:Pos}{wi:TI}{g:TG}{te:TE}{tt:TT}
theorem zju {y:Str}{py:Pos}{iy:Nat}{pins:List (Addr×Obj)}{σ : St}{DD:Ends}(hNN:X.N.Nodup)(hiy:X.N[iy]? = some y)(hyy:Loc X.env.scope y)(hyf:X.fn y=true∨X.env.scope.names.lookup y=some .local) :
 zcm X pins σ (fun v H'=>DD.nx (σ.set iy (some v)) H') (some (assign (.Name y py) X.env)) (fun _ s'=>SP X pins DD .next s'):=fun C D m s5 r hm nC nF sz cC pC k=>by
 refine zc2d (k s5.heap ⟨rfl,fun _ _=>rfl⟩) fun v5 H5 K5 rv5 fC q5 => ?_
 refine zc3c (id hm) fun oC esC epC hoC hdC hrC => ?_
 have KP:Inv X (pins++[(C,oC)]) σ H5 { s5 with heap:=s5.heap }:=K5.pins_of fun p hp=>by
  rcases List.mem_append.mp hp with hp|hp
  ·exact K5.pin p (List.mem_append_right _ hp)
  ·have e:=List.mem_singleton.mp hp
   subst e
   exact ⟨hoC,fC,nC,nF,fun v z=>by rw [show oC.data=_ from z] at hdC;cases hdC⟩
 refine wpAny_assign_Name (zdv KP hNN hiy hyy rv5 (fun s6 I6 => ?_) hyf)
 have p6:=I6.pin (C,oC) (List.mem_append_right _ (List.mem_append_right _ List.mem_cons_self))
 refine ⟨m,⟨oC,esC,epC,p6.1,hdC,hrC⟩,fun h' hs'=>⟨_,H5,?_,q5⟩⟩
 exact (I6.pins_of (pins':=pins) fun p hp=>I6.pin p (List.mem_append_right _ (List.mem_append_left _ hp))).turned (t':=s6.toks) (it:=C) (fun b o hb e=>(hs'.2 b hb).trans e) fC nC (.inr sz) cC pC
theorem zcQ {y:Str}{py spos:Pos}{iy:Nat}(hsw:swapsWith (.ListComp elt [⟨tg,iter,[],0⟩] scope pos) (some (.Name y py)) spos.line X.env=pure true)(hNN:X.N.Nodup)(hiy:X.N[iy]? = some y)(hyy:Loc X.env.scope y)(hyf:X.fn y=true∨X.env.scope.names.lookup y=some .local)(N:List Str)(cap:List (Option Nat))(hc:X.calm=true)(okB:za8 scope X.env N X.N cap=true)(hi:PI X tg iter wi)(hg:∀ cl C s H ex,PG (zap X scope N cl C s H ex) tg g)(he:∀ cl C s H ex,PE (zap X scope N cl C s H ex) elt te)
 (hs:autoParam (∀ x,foldedSetIterable iter X.env x=pure x) zaw._auto_1):PS X (.Assign [.Name y py] (.ListComp elt [⟨tg,iter,[],0⟩] scope pos) spos) (tAsg (zgo cap wi g te) (zdo iy)):=by
 intro pins s σ H DD I h
 rw [exec_Assign_Name_used _ _ _ _ hsw]
 refine wpAny_bind (wpAny_standAt (wpAny_bind ?_))
 refine wpAny_bind (wpAny_mono (zhs (use:=some (assign (.Name y py) X.env)) (R:=fun _ s'=>SP X pins DD .next s') N cap hc okB hi hg (fun cl C s H ex _=>he cl C s H ex) hs I h (zju hNN hiy hyy hyf)) (fun _ s' hq=>wpAny_pure (wpAny_pure hq)) fun _ _ e=>e)
end
end L2
namespace L2.DL
open PySem PySem.Spec PyProof.Rows
section
variable {X:Cx}{E:XK}{m:Option Bool}{tg iter elt c:Expr}{scope:Scope}{pos spos py:Pos}{y:Str}{iy:Nat}{t:Tg}{fi:FA}{fc:FT}{f:FE}
theorem zjW {K:PySem.W.Frag}{te:TE}{i:Nat}{fe:FE}(w:∀ σ H Q,tDN K E fe σ H Q→te σ H Q){T:Ends}{σ : St}{H:Hp}(h:tDS K E m (sSet i fe) T σ H):tAsg te (zdo i) T σ H:=w _ _ _ (by
 obtain ⟨B,F,sd,r,n⟩:=h
 refine ⟨B,F,sd,r,(Res.need_bind n).mono (fun d n1=>OkD.new fun v F1 H1 e1 i1 => ?_) fun _ _ q=>q.ext r.ext⟩
 exact n1 _ F1 H1 e1.ff ((r.step e1).setVal i1))
theorem zj6 {K:PySem.W.Frag}{te:TE}{i:Nat}{fe:FE}(w:∀ σ H Q,tDN K E fe σ H Q→te σ H Q){T:Ends}{σ : St}{H:Hp}(h:tDS K E m (sOwn i fe) T σ H):tAsg te (zdo i) T σ H:=w _ _ _ (by
 obtain ⟨B,F,sd,r,n⟩:=h
 refine ⟨B,F,sd,r,(Res.need_bind n).mono (fun d n1 l F1 H1 e1 h1 h2 h3 => ?_) fun _ _ q=>q.ext r.ext⟩
 refine n1 _ F1 H1 e1.ff ((r.step e1).setOwn (zan r.ext.hh h1) h2 h3 fun j p d' q1 q2 => ?_)
 obtain ⟨l',p1,_,_,p4,_⟩:=r.own q1
 rw [p1] at q2
 cases q2
 obtain ⟨o,ho⟩:=p4.has
 rw [h1] at ho
 exact zqn ho)
theorem zf2 (N:List Str)(cap:List (Option Nat))(hNN:X.N.Nodup)(hiy:X.N[iy]? = some y)(hyy:Loc X.env.scope y)(hc:X.calm=true)(okB:za8 scope X.env N X.N cap=true)(hi:QI X E tg iter fi)
 (hg:∀ cl C s H ex,QG (zap X scope N cl C s H ex) tg t) (he:∀ cl C s H ex,QE (zap X scope N cl C s H ex) E elt f) (hsw:autoParam (swapsWith (.ListComp elt [⟨tg,iter,[],0⟩] scope pos) (some (.Name y py)) spos.line X.env=pure true) zau._auto_1)
 (hyf:X.fn y=true∨X.env.scope.names.lookup y=some .local:=by first|exact .inl rfl|exact .inr rfl) (hs:∀ x,foldedSetIterable iter X.env x=pure x:=by intro _;rfl) :
 QS X E m (.Assign [.Name y py] (.ListComp elt [⟨tg,iter,[],0⟩] scope pos) spos) (sSet iy (zbZ cap fi t f)):=by
 have hh:=zcQ (g:=gT t X.K) (te:=tD X.K E f) hsw hNN hiy hyy hyf N cap hc okB hi hg he hs
 exact PS.weak hh fun T σ H h=>zjW (fun _ _ _ q=>zd1 q) h
end
end L2.DL
namespace L2.DL
open PySem PySem.Spec PyProof.Rows
noncomputable def zlV:Option (Option SV)→Res D
 | some (some (.val d))=>.ok d
 | _=>.no
@[simp] theorem zkH (d:D):zlV (some (some (.val d)))=.ok d:=rfl
@[simp] theorem zml (i:Nat)(sd:SD):dVar i sd=zlV sd[i]? := rfl
@[simp] theorem ev_C (d:D)(sd:SD):dC d sd=.ok d:=rfl
@[simp] theorem ev_op (g:D→D→Option D)(fa fb:FE)(sd:SD):dOp g fa fb sd=(fa sd).bind fun x=>(fb sd).bind fun y=>.ofO (g x y):=rfl
@[simp] theorem ev_un (g:D→Option D)(fa:FE)(sd:SD):dUn g fa sd=(fa sd).bind fun x=>.ofO (g x):=rfl
noncomputable def bOf:D→Res Bool
 | .bl b=>.ok b
 | _=>.no
@[simp] theorem bOf_bl (b:Bool):bOf (.bl b)=.ok b:=rfl
@[simp] theorem ev_bool (fa:FE)(sd:SD):za4 fa sd=(fa sd).bind bOf:=by
 unfold za4
 cases fa sd with
 | ok d=>cases d<;>rfl
 | ex c fs=>rfl
 | no=>rfl
@[simp] theorem ev_notT (f:FT)(sd:SD):zib f sd=(f sd).bind fun b=>.ok (!b):=rfl
@[simp] theorem ev_andT (f g:FT)(sd:SD):zhY f g sd=(f sd).bind fun b=>if b then g sd else .ok false:=rfl
@[simp] theorem ev_orT (f g:FT)(sd:SD):dOrT f g sd=(f sd).bind fun b=>if b then .ok true else g sd:=rfl
@[simp] theorem ev_andV (fa fb:FE)(sd:SD):zix fa fb sd=(za4 fa sd).bind fun b=>if b then fb sd else .ok (.bl false):=rfl
@[simp] theorem ev_notV (fa:FE)(sd:SD):zjA fa sd=(za4 fa sd).bind fun b=>.ok (.bl !b):=rfl
@[simp] theorem zmm (sd:SD):dNil sd=.ok []:=rfl
@[simp] theorem zhx (fa:FE)(fr:FA)(sd:SD):zab fa fr sd=(fa sd).bind fun x=>(fr sd).bind fun xs=>.ok (x::xs):=rfl
@[simp] theorem ev_lst (fr:FA)(sd:SD):dLst fr sd=(fr sd).bind fun xs=>if xs.length≤1000 then .ok (.lst xs) else .no:=rfl
@[simp] theorem ev_call (Fn:List D→Res D)(fr:FA)(sd:SD):zaA Fn fr sd=(fr sd).bind Fn:=rfl
@[simp] theorem ev_blt (g:List D→Option D)(fr:FA)(sd:SD):dBlt g fr sd=(fr sd).bind fun xs=>.ofO (g xs):=rfl
@[simp] theorem ev_tmp (is:List Nat)(f:FE)(sd:SD):dTmp is f sd=(f (frzD is sd)).bare.bind fun d=>if zbP d then .ok d else .no:=rfl
@[simp] theorem scal_int (i:Int):zbP (.int i)=true:=rfl
@[simp] theorem scal_bl (i:Bool):zbP (.bl i)=true:=rfl
@[simp] theorem frzD_nil (sd:SD):frzD [] sd=sd:=rfl
noncomputable def frz1 (i:Nat)(sd:SD):Option (Option SV)→SD
 | some (some (.own _ d))=>sd.set i (some (.val d))
 | _=>sd
@[simp] theorem frz1_own (i:Nat)(sd:SD)(p:Bool)(d:D):frz1 i sd (some (some (.own p d)))=sd.set i (some (.val d)):=rfl
@[simp] theorem zmo (i:Nat)(is:List Nat)(sd:SD):frzD (i::is) sd=frzD is (frz1 i sd sd[i]?):=by
 show frzD is _=frzD is _
 congr 1
noncomputable def seqK (g:FS):Out→Res Out
 | .next sd=>g sd
 | o=>.ok o
@[simp] theorem zlK (g:FS)(sd:SD):seqK g (.next sd)=g sd:=rfl
@[simp] theorem seqK_ret (g:FS)(d:D):seqK g (.ret d)=.ok (.ret d):=rfl
@[simp] theorem zll (g1 g2:FS)(sd:SD):sSeq g1 g2 sd=(g1 sd).bind (seqK g2):=by
 unfold sSeq
 cases g1 sd with
 | ok o=>cases o<;>rfl
 | ex c fs=>rfl
 | no=>rfl
@[simp] theorem ev_next (sd:SD):zbJ sd=.ok (.next sd):=rfl
@[simp] theorem ev_set (i:Nat)(f:FE)(sd:SD):sSet i f sd=(f sd).bind fun d=>.ok (.next (sd.set i (some (.val d)))):=rfl
@[simp] theorem ev_own (i:Nat)(f:FE)(sd:SD):sOwn i f sd=(f sd).bind fun d=>.ok (.next (sd.set i (some (.own false d)))):=rfl
@[simp] theorem ev_ret (f:FE)(sd:SD):sRet f sd=(f sd).bind fun d=>.ok (.ret d):=rfl
noncomputable def ownV:Option (Option SV)→Res D
 | some (some (.own _ d))=>.ok d
 | _=>.no
@[simp] theorem ownV_own (p:Bool)(d:D):ownV (some (some (.own p d)))=.ok d:=rfl
@[simp] theorem zlZ (i:Nat)(sd:SD):zcn i sd=(ownV sd[i]?).bind fun d=>.ok (.ret d):=by
 unfold zcn
 cases sd[i]? with
 | none=>rfl
 | some o =>
  cases o with
  | none=>rfl
  | some v=>cases v<;>rfl
@[simp] theorem ev_ifS (c:FT)(g1 g2:FS)(sd:SD):sIf c g1 g2 sd=(c sd).bind fun b=>if b then g1 sd else g2 sd:=rfl
noncomputable def ownL:Option (Option SV)→Res (List D)
 | some (some (.own false (.lst ds)))=>.ok ds
 | _=>.no
@[simp] theorem ownL_own (ds:List D):ownL (some (some (.own false (.lst ds))))=.ok ds:=rfl
@[simp] theorem zld (i:Nat)(f:FE)(sd:SD):zaH i f sd=(ownL sd[i]?).bind fun ds=>(f sd).bind fun d=>if ds.length<sizeLine then .ok (.next (sd.set i (some (.own false (.lst (ds++[d])))))) else .no:=by
 unfold zaH
 cases sd[i]? with
 | none=>rfl
 | some o =>
  cases o with
  | none=>rfl
  | some v =>
   cases v with
   | val d=>rfl
   | own p d=>cases p<;>cases d<;>rfl
noncomputable def outV:Out→Res D
 | .ret d=>.ok d
 | .next _=>.ok .non
 | _=>.no
@[simp] theorem outV_ret (d:D):outV (.ret d)=.ok d:=rfl
theorem zfr (n ar:Nat)(g:FS)(ds:List D)(h:ds.length=ar):runD n ar g ds=(g (zay n ds)).bind outV:=by
 unfold runD
 rw [if_pos h]
 cases g (zay n ds) with
 | ok o=>cases o<;>rfl
 | ex c fs=>rfl
 | no=>rfl
noncomputable def outN:Out→Res D
 | .ret d=>.ok d
 | _=>.no
@[simp] theorem outN_ret (d:D):outN (.ret d)=.ok d:=rfl
theorem zkK (n ar:Nat)(g:FS)(ds:List D)(h:ds.length=ar):runN n ar g ds=(g (zay n ds)).bind outN:=by
 unfold runN
 rw [if_pos h]
 cases g (zay n ds) with
 | ok o=>cases o<;>rfl
 | ex c fs=>rfl
 | no=>rfl
@[simp] theorem run_d1 (n:Nat)(g:FS)(a:D):runD n 1 g [a]=(g (some (.val a)::List.replicate (n-1) none)).bind outV:=zfr n 1 g [a] rfl
@[simp] theorem run_d2 (n:Nat)(g:FS)(a b:D):runD n 2 g [a,b]=(g (some (.val a)::some (.val b)::List.replicate (n-2) none)).bind outV:=zfr n 2 g [a,b] rfl
@[simp] theorem run_d3 (n:Nat)(g:FS)(a b c:D):runD n 3 g [a,b,c]=(g (some (.val a)::some (.val b)::some (.val c)::List.replicate (n-3) none)).bind outV:=zfr n 3 g [a,b,c] rfl
@[simp] theorem run_n3 (n:Nat)(g:FS)(a b c:D):runN n 3 g [a,b,c]=(g (some (.val a)::some (.val b)::some (.val c)::List.replicate (n-3) none)).bind outN:=zkK n 3 g [a,b,c] rfl
@[simp] theorem gAdd_int (i j:Int):gAdd (.int i) (.int j)=some (.int (i+j)):=rfl
@[simp] theorem gSub_int (i j:Int):gSub (.int i) (.int j)=some (.int (i-j)):=rfl
@[simp] theorem gNeg_int (i:Int):gNeg (.int i)=some (.int (-i)):=rfl
@[simp] theorem gLt_int (i j:Int):gLt (.int i) (.int j)=some (.bl (decide (i<j))):=rfl
@[simp] theorem gGt_int (i j:Int):gGt (.int i) (.int j)=some (.bl (decide (j<i))):=rfl
@[simp] theorem gEq_int' (i j:Int):gEq (.int i) (.int j)=some (.bl (decide (i=j))):=zkm i j
@[simp] theorem gNe_int' (i j:Int):gNe (.int i) (.int j)=some (.bl (!decide (i=j))):=zj8 i j
theorem zbL {i j:Int}(h:zbY i j=true):gMul (.int i) (.int j)=some (.int (i*j)):=by
 show (if zbY i j then _ else _)=_
 rw [if_pos h]
theorem zkf {i j:Int}(h1 : -18446744073709551616<j)(h2:j<18446744073709551616):zbY i j=true:=by
 unfold zbY
 rw [Bool.or_eq_true,Bool.or_eq_true,Nat.blt_eq,Nat.blt_eq]
 exact .inl (by omega)
theorem zdl {i j:Int}(h1 : -18446744073709551616<i)(h2:i<18446744073709551616):zbY i j=true:=by
 unfold zbY
 rw [Bool.or_eq_true,Bool.or_eq_true,Nat.blt_eq,Nat.blt_eq]
 exact .inl (by omega)
theorem zk0 {i j:Int}(h1:i.natAbs<bigB)(h2:j.natAbs<bigB):zbY i j=true:=by
 unfold zbY
 rw [Bool.or_eq_true,Bool.and_eq_true,Nat.blt_eq,Nat.blt_eq]
 exact .inr ⟨h1,h2⟩
@[simp] theorem zfR {i j:Int}(h:0<j):gMod (.int i) (.int j)=some (.int (i % j)):=by
 show (if Nat.blt 0 j.toNat then _ else _)=_
 rw [if_pos (by rw [Nat.blt_eq];omega)]
@[simp] theorem zeO {i j:Int}(h:0<j)(h2:j<1073741824):zhw (.int i) (.int j)=some (.int (i / j)):=by
 show (if Nat.blt 0 j.toNat&&Nat.blt j.toNat 1073741824 then _ else _)=_
 rw [if_pos (by rw [Bool.and_eq_true,Nat.blt_eq,Nat.blt_eq];omega)]
@[simp] theorem gLen_lst (ds:List D):gLen [.lst ds]=some (.int ds.length):=rfl
@[simp] theorem gLen_scr (ns:List Int):gLen [.scr ns]=some (.int ns.length):=rfl
@[simp] theorem zlL (i j:Int):ziz [.int i,.int j]=some (.int (if j > i then j else i)):=rfl
@[simp] theorem zlX (i j:Int):zik [.int i,.int j]=some (.int (if j<i then j else i)):=rfl
@[simp] theorem zk9 (ds:List D):zbw [.lst ds]=some (.lst ds):=rfl
@[simp] theorem zk4 (ds:List D):zeE [.lst ds]=some (.tup ds):=rfl
@[simp] theorem gIx_lst (ds:List D)(k:Int):gIx (.lst ds) (.int k)=atI ds k:=rfl
@[simp] theorem gIx_scr (ns:List Int)(k:Int):gIx (.scr ns) (.int k)=(atI ns k).map .int:=rfl
theorem zfy {ns:List Int}(h:ns ≠ []):zga [.lst (ns.map .int)]=some (.int (maxI ns)):=by
 unfold zga
 show (zbz _).bind _=_
 rw [zbQ]
 show (if ns=[] then none else some (D.int (maxI ns)))=_
 rw [if_neg h]
theorem zfu {ns:List Int}(h:ns ≠ []):zgA [.lst (ns.map .int)]=some (.int (minI ns)):=by
 unfold zgA
 show (zbz _).bind _=_
 rw [zbQ]
 show (if ns=[] then none else some (D.int (minI ns)))=_
 rw [if_neg h]
@[simp] theorem ev_iS (f:FE)(sd:SD):iS f sd=(f sd).bind fun d=>.ofO (zel d):=rfl
@[simp] theorem zl9 (ds:List D):zel (.lst ds)=some ds:=rfl
@[simp] theorem zl8 (ds:List D):zel (.tup ds)=some ds:=rfl
def zbx:List D→Res (List D)
 | [.int j]=>if zen j then .ok (zaz 0 j.toNat) else .no
 | _=>.no
@[simp] theorem ev_iR1 (fr:FA)(sd:SD):iR1 fr sd=(fr sd).bind zbx:=by
 unfold iR1
 cases fr sd with
 | ok ds=>show (match ds with|[.int j]=>_|_=>_)=zbx ds;unfold zbx;rfl
 | ex c fs=>rfl
 | no=>rfl
theorem zaK {j:Int}(h1 : -1000000000≤j)(h2:j≤1000000000):zbx [.int j]=.ok (zaz 0 j.toNat):=if_pos (zeY h1 h2)
theorem zb5 {lo:Int}{n i:Nat}{x:D}(h:(zaz lo n)[i]? = some x):x=.int (lo+i)∧i<n:=by
 unfold zaz at h
 rw [List.getElem?_map] at h
 by_cases hi:i<n
 ·rw [List.getElem?_range hi] at h
  exact ⟨(Option.some.inj h).symm,hi⟩
 ·rw [List.getElem?_eq_none (by rw [List.length_range];omega)] at h
  exact zqn h
theorem zaZ (lo:Int)(n:Nat):(zaz lo n).length=n:=by unfold zaz;rw [List.length_map,List.length_range]
def forT (tg:Tg)(b:FS)(ds:List D)(sd:SD):Res Out:=forD (fun x sd=>(zaE tg x sd).bind b) ds sd
@[simp] theorem ev_for (it:FA)(tg:Tg)(b:FS)(sd:SD):sFor it tg b sd=(it sd).bind fun ds=>forT tg b ds sd:=rfl
@[simp] theorem zcs (i:Nat)(d:D)(sd:SD):zaE (.one i) d sd=.ok (sd.set i (some (.val d))):=rfl
@[simp] theorem zk5 (i j:Nat)(p:Int×Int)(sd:SD):zaE (.tup [i,j]) (prD p) sd=.ok ((sd.set i (some (.val (.int p.1)))).set j (some (.val (.int p.2)))):=rfl
theorem zb0 {tg:Tg}{b:FS}{ds:List D}{sd:SD}(P:Nat→SD→Prop)(h0:P 0 sd)(hs:∀ (i:Nat) (x:D) (sd:SD),ds[i]? = some x→P i sd→∃ sd',(zaE tg x sd).bind b=.ok (.next sd')∧P (i+1) sd'):∃ sd',forT tg b ds sd=.ok (.next sd')∧P ds.length sd':=by
 have key:∀ (k i:Nat) (sd:SD),ds.length-i=k→i≤ds.length→P i sd→∃ sd',forT tg b (ds.drop i) sd=.ok (.next sd')∧P ds.length sd':=by
  intro k
  induction k with
  | zero =>
   intro i sd e hi p
   have:i=ds.length:=by omega
   subst this
   rw [List.drop_length]
   exact ⟨sd,rfl,p⟩
  | succ k ih =>
   intro i sd e hi p
   have hlt:i<ds.length:=by omega
   rw [List.drop_eq_getElem_cons hlt]
   refine zc1b (hs i ds[i] sd (List.getElem?_eq_getElem hlt) p) fun sd' h1 h2 => ?_
   refine zc1b (ih (i+1) sd' (by omega) hlt h2) fun sd2 h3 h4 => ?_
   refine ⟨sd2,?_,h4⟩
   unfold forT forD
   rw [h1]
   exact h3
 have:=key ds.length 0 sd (by omega) (Nat.zero_le _) h0
 rwa [List.drop_zero] at this
theorem zih {tg:Tg}{b:FS}{ds:List D}{sd:SD}(R:Res Out→Prop)(P:Nat→SD→Prop)(h0:P 0 sd)(he:∀ sd,P ds.length sd→R (.ok (.next sd)))
 (hs:∀ (i:Nat) (x:D) (sd:SD),ds[i]? = some x→P i sd→(∃ sd',((zaE tg x sd).bind b=.ok (.next sd')∨(zaE tg x sd).bind b=.ok (.cont sd'))∧P (i+1) sd')∨(∃ sd',(zaE tg x sd).bind b=.ok (.brk sd')∧R (.ok (.next sd')))∨∃ d,(zaE tg x sd).bind b=.ok (.ret d)∧R (.ok (.ret d))):R (forT tg b ds sd):=by
 have key:∀ (k i:Nat) (sd:SD),ds.length-i=k→i≤ds.length→P i sd→R (forT tg b (ds.drop i) sd):=by
  intro k
  induction k with
  | zero =>
   intro i sd e hi p
   have:i=ds.length:=by omega
   subst this
   rw [List.drop_length]
   exact he sd p
  | succ k ih =>
   intro i sd e hi p
   have hlt:i<ds.length:=by omega
   rw [List.drop_eq_getElem_cons hlt]
   unfold forT forD
   rcases hs i ds[i] sd (List.getElem?_eq_getElem hlt) p with ⟨sd',h1|h1,h2⟩|⟨sd',h1,h2⟩|⟨d,h1,h2⟩
   ·rw [h1];exact ih (i+1) sd' (by omega) hlt h2
   ·rw [h1];exact ih (i+1) sd' (by omega) hlt h2
   ·rw [h1];exact h2
   ·rw [h1];exact h2
 have:=key ds.length 0 sd (by omega) (Nat.zero_le _) h0
 rwa [List.drop_zero] at this
theorem zeW {α β γ : Type}{f : α → Res β}{k : γ → α}{g : γ → β}{xs:List γ}(h:∀ x∈xs,f (k x)=.ok (g x)):mapD f (xs.map k)=.ok (xs.map g):=by
 induction xs with
 | nil=>rfl
 | cons x xs ih =>
  rw [List.map_cons]
  unfold mapD
  rw [h x List.mem_cons_self,ih fun y hy=>h y (List.mem_cons_of_mem _ hy)]
  rfl
def mapE (tg:Tg)(f:FE)(c:SD)(ds:List D):Res (List D):=mapD (fun x=>(zaE tg x c).bind f) ds
@[simp] theorem ev_comp (cap:List (Option Nat))(it:FA)(tg:Tg)(f:FE)(sd:SD):zbZ cap it tg f sd=(it sd).bind fun ds=>if zcw (capD cap sd) tg=true∧ds.length<sizeLine then (mapE tg f (capD cap sd) ds).bind fun ys=>.ok (.lst ys) else .no:=rfl
noncomputable def capV:Option (Option SV)→Option SV
 | some (some (.val d))=>some (.val d)
 | _=>none
@[simp] theorem capV_val (d:D):capV (some (some (.val d)))=some (.val d):=rfl
@[simp] theorem capD_nil (sd:SD):capD [] sd=[]:=rfl
@[simp] theorem capD_n (cap:List (Option Nat))(sd:SD):capD (none::cap) sd=none::capD cap sd:=rfl
@[simp] theorem capD_s (j:Nat)(cap:List (Option Nat))(sd:SD):capD (some j::cap) sd=capV sd[j]? :: capD cap sd:=rfl
@[simp] theorem zk7 (sd:SD)(i:Nat):zcw sd (.one i)=zbB sd i:=rfl
@[simp] theorem zk8 (sd:SD)(is:List Nat):zcw sd (.tup is)=is.all (zbB sd):=rfl
@[simp] theorem noneAt_0 (sd:SD):zbB (none::sd) 0=true:=rfl
@[simp] theorem noneAt_s (o:Option SV)(sd:SD)(i:Nat):zbB (o::sd) (i+1)=zbB sd i:=rfl
theorem zgn {α : Type}{tg:Tg}{f:FE}{c:SD}{k : α → D}{g : α → D}{xs:List α}(h:∀ x∈xs,(zaE tg (k x) c).bind f=.ok (g x)):mapE tg f c (xs.map k)=.ok (xs.map g):=zeW h
theorem zcI {tg:Tg}{f:FE}{c:SD}{lo:Int}{n:Nat}{g:Nat→D}(h:∀ i,i<n→(zaE tg (.int (lo+i)) c).bind f=.ok (g i)):mapE tg f c (zaz lo n)=.ok ((List.range n).map g):=zeW fun i hi=>h i (List.mem_range.mp hi)
@[simp] theorem zmk (cap:List (Option Nat))(it:FA)(tg:Tg)(c:FT)(f:FE)(sd:SD):zdr cap it tg c f sd=(it sd).bind fun ds=>if zcw (capD cap sd) tg=true∧ds.length<sizeLine then (zc8 tg c f (capD cap sd) ds).bind fun ys=>.ok (.lst ys) else .no:=rfl
theorem zhI {α : Type}{tg:Tg}{c:FT}{f:FE}{sd:SD}{k : α → D}{s : α → SD}{p : α → Bool}{g : α → D}{xs:List α}(h1:∀ x∈xs,zaE tg (k x) sd=.ok (s x))(h2:∀ x∈xs,c (s x)=.ok (p x))(h3:∀ x∈xs,p x=true→f (s x)=.ok (g x)) :
 zc8 tg c f sd (xs.map k)=.ok ((xs.filter p).map g):=by
 induction xs with
 | nil=>rfl
 | cons x xs ih =>
  have ih:=ih (fun y hy=>h1 y (List.mem_cons_of_mem _ hy)) (fun y hy=>h2 y (List.mem_cons_of_mem _ hy)) (fun y hy=>h3 y (List.mem_cons_of_mem _ hy))
  rw [List.map_cons,List.filter_cons]
  unfold zc8
  rw [h1 x List.mem_cons_self,Res.bind_ok,h2 x List.mem_cons_self,Res.bind_ok]
  cases q:p x with
  | true =>
   rw [if_pos rfl,if_pos rfl,h3 x List.mem_cons_self q,Res.bind_ok,ih]
   rfl
  | false =>
   rw [if_neg (by simp),if_neg (by simp),ih]
theorem za0 {n:Nat}(h:n≤1000):n<sizeLine:=zea h
@[simp] theorem ziQ (i:Int):gIsi [.int i,.ty "bool"]=some (.bl false):=rfl
@[simp] theorem zkj (i:Int):gIsi [.int i,.ty "int"]=some (.bl true):=rfl
end L2.DL
namespace L2.DL
open PySem PySem.Spec PyProof.Rows
noncomputable def zaR {α : Type}(xs:List α)(lo hi st:Option Int):List α := (sliceRange (sliceBounds lo hi st xs.length).1 (sliceBounds lo hi st xs.length).2.1 (sliceBounds lo hi st xs.length).2.2).filterMap (xs[·]?)
theorem zfa (its:List Value)(lo hi st:Option Int):slicePick its.toArray lo hi st=(zaR its lo hi st).toArray:=by
 unfold slicePick zaR
 rw [List.size_toArray]
 congr 2
 funext i
 simp
theorem zfB {xs:List V}{its:List Value}(r:Vals xs its)(lo hi st:Option Int):Vals (zaR xs lo hi st) (zaR its lo hi st):=by
 unfold zaR
 rw [r.length]
 generalize sliceRange _ _ _=ix
 induction ix with
 | nil=>exact .nil
 | cons i ix ih =>
  rw [List.filterMap_cons,List.filterMap_cons]
  cases hx:xs[i]? with
  | none=>rw [r.none_of hx];exact ih
  | some x =>
   refine zc1b (r.get hx) fun u hu ru => ?_
   rw [hu]
   exact .cons ru ih
theorem zjy {K:PySem.W.Frag}{H:Hp}{ds:List D}{xs:List V}(r:IsDs K H ds xs)(lo hi st:Option Int):IsDs K H (zaR ds lo hi st) (zaR xs lo hi st):=by
 unfold zaR
 rw [r.length]
 generalize sliceRange _ _ _=ix
 induction ix with
 | nil=>exact .nil
 | cons i ix ih =>
  rw [List.filterMap_cons,List.filterMap_cons]
  cases hx:ds[i]? with
  | none =>
   have hn:xs[i]? = none:=List.getElem?_eq_none_iff.mpr (by rw [r.length];exact List.getElem?_eq_none_iff.mp hx)
   rw [hn];exact ih
  | some x =>
   refine zc1b (r.get hx) fun u hu ru => ?_
   rw [hu]
   exact .mk ru ih
theorem zeA {α β : Type}(f : α → β)(xs:List α)(lo hi st:Option Int):zaR (xs.map f) lo hi st=(zaR xs lo hi st).map f:=by
 unfold zaR
 rw [List.length_map]
 generalize sliceRange _ _ _=ix
 induction ix with
 | nil=>rfl
 | cons i ix ih =>
  rw [List.filterMap_cons,List.filterMap_cons,List.getElem?_map]
  cases xs[i]? with
  | none=>exact ih
  | some x=>show f x::_=_;rw [ih];rfl
theorem zh1 {α : Type}(xs:List α)(lo hi st:Option Int):(zaR xs lo hi st).length≤xs.length:=by
 have h:=slicePick_size_le (xs.map fun _=>Value.none).toArray lo hi st
 rw [zfa,List.size_toArray,List.size_toArray,zeA,List.length_map,List.length_map] at h
 exact h
section
variable {X:Cx}{E:XK}{m:Option Bool}{a b o i e f tg:Expr}{fa fb fo fi fv fe:FE}{fr:FA}{pos pos' apos cpos p p2:Pos}{lo hi st:Option Expr}
abbrev FO:=SD→Res (Option Int)
def tDO (K:PySem.W.Frag)(E:XK)(f:FO):TO:=fun σ H Q => ∃ B F sd,RS K B F H sd σ ∧ (f sd).need (fun o => ∀ F' H',Ext F H F' H'→Q o H') (XW K E F H)
noncomputable def zcZ:FO:=fun _=>.ok none
def zeu (f:FE):FO:=fun sd=>(f sd).bind fun d=>match d with
 | .int i=>.ok (some i)
 | _=>.no
abbrev QO (X:Cx)(E:XK)(e:Option Expr)(f:FO):Prop:=PO X e (tDO X.K E f)
theorem PO.weak {e:Option Expr}{t t':TO}(h:PO X e t)(w:∀ σ H Q,t' σ H Q→t σ H Q):PO X e t':=fun pins s σ H Q I q=>h pins s σ H Q I (w _ _ _ q)
theorem zjj:QO X E none zcZ:=PO.weak zji (by rintro σ H Q ⟨B,F,sd,r,n⟩;exact n F H (.refl r.ext.fh))
theorem zhy (h:QE X E e fe):QO X E (some e) (zeu fe):=PO.weak (zje h) fun σ H Q zh=>by
 refine zc3b zh fun B F sd r n => ?_
 refine ⟨B,F,sd,r,(Res.need_bind n).mono (fun d n1 v F1 H1 e1 i1 => ?_) fun _ _ q=>q⟩
 cases d with
 | int i=>exact ⟨i,IsD.int_iff.mp i1,n1 F1 H1 e1⟩
 | _=>exact n1.elim
def rSl3 (K:PySem.W.Frag):V→Option Int→Option Int→Option Int→Hp→VK→Prop:=fun x lo hi st H Q => ∃ a xs,x=.ref a∧SqL K H a xs∧st≠some 0∧∀ p,H p=none→Q (.ref p) (upd H p (.lst (zaR xs lo hi st)))
noncomputable def tSl3 (r:V→Option Int→Option Int→Option Int→Hp→VK→Prop)(te:TE)(tl th ts:TO):TE:=fun σ H Q=>te σ H fun x H1=>tl σ H1 fun l H2=>th σ H2 fun u H3=>ts σ H3 fun c H4=>r x l u c H4 Q
theorem zgZ {te:TE}{tl th ts:TO}(he:PE X e te)(hl:PO X lo tl)(hu:PO X hi th)(hs:PO X st ts):PE X (.Subscript e (.Slice lo hi st p2) pos) (tSl3 (rSl3 X.K) te tl th ts):=by
 intro pins s σ H Q I h
 refine Subscript_ (thn (he pins s σ H _ I h) fun v s1 zh => ?_)
 refine zc2c zh fun x H1 I1 r1 q1 => ?_
 refine wpAny_Slice (thn (hl pins s1 σ H1 _ I1 q1) fun vl s2 ⟨l,H2,I2,pl,q2⟩=>thn (hu pins s2 σ H2 _ I2 q2) fun vu s3 ⟨u,H3,I3,pu,q3⟩=>thn (hs pins s3 σ H3 _ I3 q3) fun vs s4 zh => ?_)
 refine zc2c zh fun c H4 I4 ps q4 => ?_
 refine zc2d q4 fun a xs zr2 hx h0 q => ?_
 obtain rfl:=zr2
 obtain rfl:v=Value.ref a:=r1
 have I5:Inv X pins σ H4 { s4 with heap:=s4.heap.push { cls:=.type "slice",data:=.fields #[vl,vu,vs] } }:=I4.kept (t':=s4.toks) fun b ob q=>Heap.get?_push_of_some _ q
 refine zc1c (I5.list hx) fun its r ht hz => ?_
 have hlen:=r.length
 show wpAny (model X.prog X.w) X.A (subscriptTail e (.Slice lo hi st p2) (.ref a) (.ref s4.heap.objs.size)) (EP X pins σ Q) X.xe { s4 with heap:=s4.heap.push { cls:=.type "slice",data:=.fields #[vl,vu,vs] } }
 suffices fin:wpAny (model X.prog X.w) X.A (getItem (.ref a) (.ref s4.heap.objs.size)) (EP X pins σ Q) X.xe { s4 with heap:=s4.heap.push { cls:=.type "slice",data:=.fields #[vl,vu,vs] } } by
  cases st with
  | none=>exact tail_any (ops:=[.ref s4.heap.objs.size,.ref a]) ht.isList.typeIs slot_list_getitem.lookup fin (by with_unfolding_all rfl)
  | some c=>exact tail_any (ops:=[.ref a,.ref s4.heap.objs.size]) ht.isList.typeIs slot_list_getitem.lookup fin (by with_unfolding_all rfl)
 refine wpAny_getItem_list_slice ht.isList (Heap.IsSliceOf.new ..) pl pu ps h0 ?_ (by rw [List.size_toArray]<;>omega)
 rw [zfa]
 refine ⟨.ref _,_,I5.laid (t':=s4.toks) (o:=.lst (zaR xs l u c)) (fun b ob q=>Heap.get?_push_of_some _ q) (Nat.le_refl _) ?_,rfl,q _ (I5.hok.fresh (Nat.le_refl _))⟩
 exact ⟨Nat.le_trans (zh1 xs l u c) hz,_,0,zfB r l u c,Heap.get?_push_size _ rfl⟩
def gSl:D→Option Int→Option Int→Option Int→Option D
 | .lst ds,lo,hi,st=>if st=some 0 then none else some (.lst (zaR ds lo hi st))
 | .scr ns,lo,hi,st=>if st=some 0 then none else some (.lst ((zaR ns lo hi st).map .int))
 | _,_,_,_=>none
def dSl (fe:FE)(fl fh fs:FO):FE:=fun sd=>(fe sd).bind fun d=>(fl sd).bind fun l=>(fh sd).bind fun h=>(fs sd).bind fun c=>.ofO (gSl d l h c)
theorem zki {fl fh fs:FO}(he:QE X E e fe)(hl:QO X E lo fl)(hu:QO X E hi fh)(hs:QO X E st fs):QN X E (.Subscript e (.Slice lo hi st p2) pos) (dSl fe fl fh fs):=PE.weak (zgZ he hl hu hs) fun σ H Q zh=>by
 refine zc3b zh fun B F sd r n => ?_
 refine ⟨B,F,sd,r,(Res.need_bind n).mono (fun d n1 v F1 H1 e1 i1 => ?_) fun _ _ q=>q⟩
 refine ⟨B,F1,sd,r.step e1,(Res.need_bind n1).mono (fun l n2 F2 H2 e2 => ?_) fun _ _ q=>q.ext e1⟩
 refine ⟨B,F2,sd,(r.step e1).step e2,(Res.need_bind n2).mono (fun h n3 F3 H3 e3 => ?_) fun _ _ q=>q.ext (e1.trans e2)⟩
 refine ⟨B,F3,sd,((r.step e1).step e2).step e3,(Res.need_bind n3).mono (fun c n4 F4 H4 e4 => ?_) fun _ _ q=>q.ext ((e1.trans e2).trans e3)⟩
 refine zc1b (Res.need_ofO n4) fun z hz q => ?_
 have e14:=((e2.trans e3).trans e4)
 have eA:=e1.trans e14
 cases d with
 | lst ds =>
  have hz:(if c=some 0 then none else some (D.lst (zaR ds l h c)))=some z:=hz
  split at hz
  ·exact zqn hz
  ·rename_i h0
   obtain rfl:=Option.some.inj hz
   rw [IsD.lst_iff] at i1
   refine zc2c i1 fun a xs zr2 h1 h2 => ?_
   obtain rfl:=zr2
   exact ⟨a,xs,rfl,((h1.same e14.ff).same e14.fh).sq,h0,fun p hp=>q p F4 _ (eA.trans (.keep e4.fh hp _)) (zan eA.hh hp) (zan e4.fh hp) ⟨_,zah,zjy (IsDs.same e14.ff _ _ h2) l h c⟩⟩
 | scr ns =>
  have hz:(if c=some 0 then none else some (D.lst ((zaR ns l h c).map .int)))=some z:=hz
  split at hz
  ·exact zqn hz
  ·rename_i h0
   obtain rfl:=Option.some.inj hz
   rw [IsD.scr_iff] at i1
   refine zc1b i1 fun a zr1 h1 => ?_
   obtain rfl:=zr1
   refine ⟨a,_,rfl,Same.seq e14.fh (Same.seq e14.ff h1),h0,fun p hp=>q p F4 _ (eA.trans (.keep e4.fh hp _)) (zan eA.hh hp) (zan e4.fh hp) ⟨_,zah,?_⟩⟩
   rw [zeA]
   exact IsDs.ints _
 | _=>exact zqn hz
@[simp] theorem ev_sl (fe:FE)(fl fh fs:FO)(sd:SD):dSl fe fl fh fs sd=(fe sd).bind fun d=>(fl sd).bind fun l=>(fh sd).bind fun h=>(fs sd).bind fun c=>.ofO (gSl d l h c):=rfl
@[simp] theorem zln (sd:SD):zcZ sd=.ok none:=rfl
noncomputable def zfC:D→Res (Option Int)
 | .int i=>.ok (some i)
 | _=>.no
@[simp] theorem zk3 (i:Int):zfC (.int i)=.ok (some i):=rfl
@[simp] theorem ev_part (f:FE)(sd:SD):zeu f sd=(f sd).bind zfC:=by
 unfold zeu
 cases f sd with
 | ok d=>cases d<;>rfl
 | ex c fs=>rfl
 | no=>rfl
theorem zkp {ds:List Int}{lo hi:Option Int}{c:Int}(h:c≠0):gSl (.scr ds) lo hi (some c)=some (.lst ((zaR ds lo hi (some c)).map .int)):=if_neg fun z=>h (Option.some.inj z)
def zie (i:Nat)(fk fv:FE):FS:=fun sd=>(fv sd).bind fun v=>match sd[i]? with
 | some (some (.own false (.lst ds)))=>(fk sd).bind fun k=>match k with
  | .int k=>match ixN ds.length k with
   | some j=>.ok (.next (sd.set i (some (.own false (.lst (ds.set j v))))))
   | none=>.no
  | _=>.no
 | _=>.no
theorem zkb {j:Nat}(ho:PE X o (tVar j))(hi:QE X E i fi)(hv:QE X E e fv)(ha:∀ v,assign (.Subscript o i pos') X.env v=(do
 let ov ← holding [v] (eval o X.env)
 let iv ← holding [v,ov] (eval i X.env)
 standAt pos'
 holding [v,ov,iv] (setItem ov iv v)
 release [v,ov,iv] []):=by intro _;rfl) (hs:swapsWithSole [.Subscript o i pos'] e pos.line X.env=pure false:=by rfl) (hw:swappedStores [.Subscript o i pos'] e X.env=pure none:=by rfl)
 (h1:autoParam ((assignEach [.Subscript o i pos'] X.env).map (·.2)=[assign (.Subscript o i pos') X.env]) zau._auto_1):QS X E m (.Assign [.Subscript o i pos'] e pos) (zie j fi fv):=PS.weak (ziA hv (ziR ho hi zff ha) hs hw h1) fun T σ H zh=>by
 refine zc3b zh fun B F sd r n => ?_
 refine ⟨B,F,sd,r,(Res.need_bind n).mono (fun d n1 v F1 H1 e1 i1 => ?_) fun _ _ q=>q.ext r.ext⟩
 split at n1
 ·rename_i ds hj
  refine zc1e ((r.step e1).own hj) fun l h1 h2 h3 zr4 _ => ?_
  obtain ⟨xs,h4,h5⟩:=zr4
  refine ⟨.ref l,h1,B,F1,sd,r.step e1,(Res.need_bind n1).mono (fun k n2 w F2 H2 e2 i2 => ?_) fun _ _ q=>q.ext (r.step e1).ext⟩
  split at n2
  ·rename_i k
   split at n2
   ·rename_i q hk
    have hH:=e2.hh _ _ h4
    have hl:=h5.length
    refine ⟨l,xs,k,q,rfl,IsD.int_iff.mp i2,hH,by rw [hl];exact hk,?_⟩
    exact n2 σ F2 _ (e1.ff.trans e2.ff) (((r.step e1).step e2).chg hj h1 ⟨_,zah,(IsDs.same e2.ff _ _ h5).set q (IsD.same e2.ff _ _ i1)⟩)
   ·exact n2.elim
  ·exact n2.elim
 ·exact n1.elim
@[simp] theorem ev_lput (i:Nat)(fk fv:FE)(sd:SD):zie i fk fv sd=(fv sd).bind fun v=>(ownL sd[i]?).bind fun ds=>(fk sd).bind fun k=>(zfC k).bind fun k=>(Res.ofO (ixN ds.length (k.getD 0))).bind fun j=>.ok (.next (sd.set i (some (.own false (.lst (ds.set j v)))))):=by
 unfold zie
 cases fv sd with
 | ok v =>
  show (match sd[i]? with
   | some (some (.own false (.lst ds)))=>_
   | _=>_)=(ownL sd[i]?).bind _
  cases sd[i]? with
  | none=>rfl
  | some o =>
   cases o with
   | none=>rfl
   | some w =>
    cases w with
    | val d=>rfl
    | own p d =>
     cases p with
     | true=>cases d<;>rfl
     | false =>
      cases d with
      | lst ds =>
       show (fk sd).bind _=(fk sd).bind _
       cases fk sd with
       | ok k =>
        cases k with
        | int k=>show (match ixN ds.length k with|some j=>_|none=>_)=(Res.ofO (ixN ds.length k)).bind _;cases ixN ds.length k<;>rfl
        | _=>rfl
       | ex c fs=>rfl
       | no=>rfl
      | _=>rfl
 | ex c fs=>rfl
 | no=>rfl
@[simp] theorem ev_ixOwn (i:Nat)(fb:FE)(sd:SD):zbX i fb sd=(ownV sd[i]?).bind fun d=>(fb sd).bind fun y=>.ofO (gIx d y):=by
 unfold zbX
 cases sd[i]? with
 | none=>rfl
 | some o =>
  cases o with
  | none=>rfl
  | some v=>cases v<;>rfl
end
end L2.DL
namespace L2
open PySem PySem.Spec PyProof.Rows
section
variable {X:Cx}
theorem zgg (hc:X.calm=true):zas X (.builtin "sum") (fun xs H Q => ∃ (a:Addr) (ns:List Int),xs=[.ref a]∧SqL X.K H a (ns.map V.int)∧Q (.int ns.sum) H):=by
 intro pins s σ H xs us Q I r h
 refine zc2c h fun a ns zr2 hl q => ?_
 obtain rfl:=zr2
 refine zc1b (zcA r) fun u zr1 ru => ?_
 obtain rfl:=zr1
 obtain rfl:u=Value.ref a:=ru
 refine zc1c (I.list hl) fun its rv p hz => ?_
 have hi:IntsAre its ns:=zbK rv
 obtain ⟨ys,e⟩:=hi.allInts.items
 have hns:ns=ys.toList.map (·.1):=by
  rw [← hi.numsOf,← nums_intItems,← e]
 have hl':=p.isList
 rw [e] at hl'
 refine sum_intListG (I.ok.hd hc) hl' fun h' tk t' hk => ?_
 refine ⟨.int ns.sum,H,I.kept hk,⟨t',?_⟩,q⟩
 rw [preSum_eq,List.take_of_length_le (by simp),← hns]
end
end L2
namespace L2.DL
open PySem PySem.Spec PyProof.Rows
def gSum:List D→Option D
 | [d]=>(zbz d).bind fun ns=>some (.int ns.sum)
 | _=>none
section
variable {X:Cx}{E:XK}{m:Option Bool}{a b o i e f tg:Expr}{fa fb fo fi fv fe:FE}{fr:FA}{pos pos' apos cpos p p2:Pos}{lo hi st:Option Expr}
theorem b_sum (hc:X.calm=true):zas X (.builtin "sum") (rDA X.K gSum):=zas.weak (zgg hc) fun xs H Q zh=>by
 refine zc3a zh fun F ds z zz=>zc0d zz fun sF id hz q => ?_
 unfold gSum at hz
 split at hz
 ·refine zc1b (Option.bind_eq_some_iff.mp hz) fun ns h1 hz => ?_
  obtain rfl:=Option.some.inj hz
  refine zc1b (zbv id) fun v zr1 h => ?_
  obtain rfl:=zr1
  refine zc1b (zbA h1 h) fun a zr1 h2 => ?_
  obtain rfl:=zr1
  exact ⟨a,ns,rfl,(h2.same sF).sq,q _ F H (.refl sF) (isI _ F)⟩
 ·exact zqn hz
end
@[simp] theorem zkR (ns:List Int):gSum [.lst (ns.map .int)]=some (.int ns.sum):=by
 show (zbz _).bind _=_
 rw [zbQ]
 rfl
end L2.DL
namespace L2
open PySem PySem.Spec PyProof.Rows
end L2
namespace L2.DL
open PySem PySem.Spec PyProof.Rows
end L2.DL
namespace L2.ST
open PySem
noncomputable def zjo (t:SetTable):Nat→SetTable.Probe→SetTable.Probe
 | 0,p=>p
 | n+1,p=>zjo t n (t.advance p)
theorem zeq (mask i:Nat):SetTable.runEnd mask i-i≤9:=by
 unfold SetTable.runEnd
 split<;>omega
end L2.ST
namespace L2.ST
open PySem
noncomputable def UpA (xs:Array Nat):Prop:=∀ i j,i<j→j<xs.size→xs.getD i 0<xs.getD j 0
noncomputable def occ (t:SetTable)(j:Nat):Prop:=∃ i,i<t.place.size∧t.place.getD i 0=j
def Way (t:SetTable)(o:Nat→Prop)(x:Int)(y:Nat):Prop:=∃ n,(zjo t n (t.probeStart x)).j=y∧∀ m,m<n→o (zjo t m (t.probeStart x)).j
structure TabOk (t:SetTable)(hs:Array Int):Prop where
 size:t.place.size=hs.size
 up:UpA t.place
 le:∀ i,i<t.place.size→t.place.getD i 0≤t.mask
 nod:t.dummies = #[]
 pow:∃ k,t.mask+1=2 ^ k
 room:t.place.size≤t.mask
 ways:∀ i,i<t.place.size→Way t (occ t) (hs.getD i 0) (t.place.getD i 0)
end L2.ST
namespace L2.ST
open PySem
structure SetIs (hp:Heap)(a:Addr)(es:Array (Int×Value))(t:SetTable):Prop where
 at_:∃ ep,hp.get? a=some { cls:=.type "set",dict:=none,data:=.set es ep t,slots:=#[] }
 tab:TabOk t (es.map (·.1))
 seven:7≤t.mask
 most:t.mask≤8*es.size+7
 room:es.size*5<t.mask*3
 refs:∀ i (hi:i<es.size),∃ b,es[i].2=.ref b
variable {prog:Program}{w:World}{A:Around}{E:Value→Shared→Prop}{s:Shared}
end L2.ST
namespace L2.ST
open PySem PySem.Spec PyProof.Rows
noncomputable def Holds (hsh:Value→Int)(hp:Heap)(S:Addr)(ld:Bool)(D:List Value):Prop:=∃ es t,SetIs hp S es t∧es.toList.Perm (D.map fun v=>(hsh v,v))∧t.led=ld∧t.plain=true
end L2.ST
namespace L2.ST
open PySem PySem.Spec PyProof.Rows
section
variable {prog:Program}{w:World}{A:Around}{E:Value→Shared→Prop}{s:Shared}
theorem keyed_orc {vs keys:List Value}{kz:List Int}(hk:IntsAre keys kz)(hl:kz.length=vs.length):Orc prog w A s oneType' (fun i=>(nthV keys i,nthV vs i)) (fun i j=>decide (kz.getD i 0<kz.getD j 0)) vs.length:=by
 have at_:∀ {keys:List Value} {kz:List Int},IntsAre keys kz→∀ i,i<kz.length→∃ t,nthV keys i=.int (kz.getD i 0) t:=by
  intro keys kz h
  induction h with
  | nil=>intro i hi;exact absurd hi (Nat.not_lt_zero _)
  | cons n t _ ih =>
   intro i hi
   cases i with
   | zero=>exact ⟨t,rfl⟩
   | succ i=>exact ih i (by simpa -iota using hi)
 intro i j hi hj E Q hq
 obtain ⟨t,e1⟩:=at_ hk i (by omega)
 obtain ⟨u,e2⟩:=at_ hk j (by omega)
 show wpAny (model prog w) A (keyLt' oneType' (nthV keys i) (nthV keys j)) Q E s
 rw [e1,e2]
 exact PySem.W.kat_lt_int hq
end
end L2.ST
namespace L2.DL
open PySem PySem.Spec PyProof.Rows L2.ST
end L2.DL
namespace L2
open PySem PySem.Spec PyProof.Rows
end L2
namespace L2.DL
open PySem PySem.Spec PyProof.Rows
noncomputable def Res.strict {α : Type}:Res α → Res α
 | .ok a=>.ok a
 | _=>.no
theorem Res.need_strict {α : Type}{r:Res α}{p : α → Prop}{q q':Str→List D→Prop}(h:r.strict.need p q):r.need p q':=by
 cases r with
 | ok a=>exact h
 | ex c fs=>exact h.elim
 | no=>exact h
end L2.DL
namespace L2.DL
open PySem PySem.Spec PyProof.Rows
noncomputable def delH (H:Hp)(l:Addr):Hp:=fun a=>if a=l then none else H a
theorem zg6 {H:Hp}{l:Addr}:Same (delH H l) H:=fun a o e=>by
 unfold delH at e
 split at e
 ·exact zqn e
 ·exact e
theorem zkd {H:Hp}{l:Addr}:delH H l l=none:=by unfold delH;rw [if_pos rfl]
theorem zjq {H:Hp}{l a:Addr}(h:a≠l):delH H l a=H a:=by unfold delH;rw [if_neg h]
end L2.DL
namespace L2
open PySem PySem.Spec PyProof.Rows
noncomputable def zbl (K:PySem.W.Frag)(x:Str)(st:Stmt):Prop:=∃ f fd,PySem.W.nsIn K mainGlobals x=some (some (.ref f))∧Fun K x x st f fd
theorem zbl.callee {P:Program}{w:World}{K:PySem.W.Frag}{h base:Heap}{mg:Str→Option Value}{x:Str}{st:Stmt}{k:Nat}{ps:List Str}{sp:Sp}(X:K.In h)(G:h.Ns mainGlobals mg)(d:zbl K x st)
 (ok:∀ {f:Addr} {fd:FuncData},Fun K x x st f fd→FnOk P w K mg base CX0 k f fd ps sp)
 (hb:∀ (kV doc pm:Value) (an:Option Addr) (cdv ct:Value) (us:List Value),us.length=ps.length→bindArgs (PySem.W.fnOf x x (zc0 st) (zaT st) (zaf st) .none kV doc pm an cdv ct) ⟨us,[]⟩=pure (ps.zip us)):zak P w K mg base x k ps sp:=by
 refine zc2b d fun f fd a F => ?_
 exact ⟨f,fd,ok F,F.binds hb,F.kp,PySem.W.mg_of X G a⟩
end L2
namespace L2
open PySem PySem.Spec PyProof.Rows
end L2
namespace L2.DL
open PySem PySem.Spec PyProof.Rows
noncomputable def gStr:List D→Option D
 | [.int i]=>if Nat.ble i.natAbs.log2 1900 then some (.str (toString i)) else none
 | _=>none
section
variable {X:Cx}{E:XK}{tg e a b:Expr}{fe fa fb:FE}{lo hi:Option Expr}{p2 pos p:Pos}
theorem ziU:zas X (.type "str") (rDA X.K gStr):=zas.weak zdL fun xs H Q zh=>by
 obtain ⟨F,ds,z,sF,id,hz,q⟩:=zh
 unfold gStr at hz
 split at hz
 ·rename_i i
  split at hz
  ·rename_i hl
   obtain rfl:=Option.some.inj hz
   obtain ⟨v1,r1,e1,i1,id⟩:=IsDs.cons_iff.mp id
   rw [IsDs.nil_iff] at id
   subst id e1
   exact ⟨i,by rw [IsD.int_iff.mp i1],Nat.lt_of_le_of_lt (Nat.ble_eq.mp hl) (by decide),q _ F H (.refl sF) (IsD.str_iff.mpr rfl)⟩
  ·exact zqn hz
 ·exact zqn hz
end
end L2.DL
namespace L2.DL
open PySem PySem.Spec PyProof.Rows
structure ClsD (K:PySem.W.Frag)(mg:Str→Option Value)(c:Str)(C:Addr)(fs:List Str):Prop where
 ns:PySem.W.nsIn K mainGlobals c=some (some (.ref C))
 mgc:mg c=some (.ref C)
 cls:Cls K C
 no:∀ f∈fs,zbV K C f
noncomputable def fldD (f:Str):List Str→List D→Option D
 | g::gs,d::ds=>if g=f then some d else fldD f gs ds
 | _,_=>none
theorem ziE {K:PySem.W.Frag}{H:Hp}{f:Str}:∀ {fs:List Str} {ds:List D} {xs:List V} {d:D},IsDs K H ds xs→fs.length=xs.length→fldD f fs ds=some d→∃ x,(fs.zip xs).lookup f=some x∧IsD K H d x
 | [],ds,xs,d,_,_,h=>by unfold fldD at h;exact zqn h
 | g::gs,[],xs,d,i,l,h=>by
  rw [IsDs.nil_iff] at i
  subst i
  cases l
 | g::gs,e::ds,xs,d,i,l,h=>by
  obtain ⟨x,r,rfl,i1,i2⟩:=IsDs.cons_iff.mp i
  unfold fldD at h
  rw [List.zip_cons_cons]
  by_cases q:g=f
  ·rw [if_pos q] at h
   obtain rfl:=Option.some.inj h
   have hb:(f == g)=true:=beq_iff_eq.mpr q.symm
   exact ⟨x,by simp only [List.lookup,hb],i1⟩
  ·rw [if_neg q] at h
   obtain ⟨y,h1,h2⟩:=ziE (fs:=gs) i2 (by simpa using l) h
   have hb:(f == g)=false:=beq_eq_false_iff_ne.mpr fun z=>q z.symm
   exact ⟨y,by simp only [List.lookup,hb];exact h1,h2⟩
def gFld (c f:Str):D→Option D
 | .ins c' fs ds=>if c'=c then fldD f fs ds else none
 | _=>none
section
variable {X:Cx}{E:XK}{e:Expr}{fe:FE}{pos:Pos}
theorem zb1 {c f:Str}{C:Addr}{fs:List Str}(k:ClsD X.K X.mg c C fs)(hf:f∈fs)(he:QE X E e fe)(hb:autoParam (attributeBase e f X.env (eval e X.env)=eval e X.env) zau._auto_1):QE X E (.Attribute e f pos) (dUn (gFld c f) fe):=PE.weak (zlY he hb) fun σ H Q zh=>by
 obtain ⟨B,F,sd,r,n⟩:=zh
 refine ⟨B,F,sd,r,(Res.need_bind n).mono (fun d n1 v F1 H1 e1 i1 => ?_) fun _ _ q=>q⟩
 obtain ⟨z,hz,q⟩:=Res.need_ofO n1
 cases d with
 | ins c' gs ds =>
  have hw:(if c'=c then fldD f gs ds else none)=some z:=hz
  by_cases hc:c'=c
  ·rw [if_pos hc] at hw
   subst hc
   obtain ⟨a,C',dx,xs,rfl,hC,hH,hl,hi⟩:=IsD.ins_iff.mp i1
   rw [k.ns] at hC
   cases hC
   obtain ⟨x,h1,h2⟩:=ziE hi hl hw
   exact ⟨a,C,dx,_,x,rfl,e1.fh _ _ hH,k.cls,k.no f hf,h1,q _ F1 H1 e1 h2⟩
  ·rw [if_neg hc] at hw
   exact zqn hw
 | _=>exact zqn hz
end
theorem zfc (f:Str)(v:V):∀ fs:List (Str×V),f∉fs.map (·.1)→putF f v fs=fs++[(f,v)]
 | [],_=>rfl
 | (g,x)::r,h=>by
  rw [List.map_cons,List.mem_cons,not_or] at h
  show (if g=f then (g,v)::r else (g,x)::putF f v r)=_
  rw [if_neg (fun z=>h.1 z.symm),zfc f v r h.2]
  rfl
def tI (K:PySem.W.Frag)(c:Str)(names:List Str)(g:FA):TS:=fun T σ H => ∃ B F sd x C dx fs xs ds0,RS K B F H sd σ ∧ (∀ (i:Nat) (p:Bool) (d:D),sd[i]? ≠ some (some (SV.own p d))) ∧ σ[0]? = some (some (.ref x))∧B.H0 x=none∧F x=none∧PySem.W.nsIn K mainGlobals c=some (some (.ref C))∧H x=some (.ins C dx (fs.zip xs))∧fs.length=xs.length∧(fs++names).Nodup∧(fs++names).length<900∧IsDs K F ds0 xs ∧
 (g sd).need (fun ds => ∀ F' H' xs',Ext B.F0 B.H0 F' H'→F' x=none→H' x=some (.ins C dx ((fs++names).zip xs'))→(fs++names).length=xs'.length→IsDs K F' (ds0++ds) xs'→T.nx σ H') (XW K E0 B.F0 B.H0)
section
variable {X:Cx}{o e:Expr}{fe:FE}{g:FA}{pos pos':Pos}{ss:List Stmt}{c f:Str}{C:Addr}{fs names:List Str}
theorem ziF:PSs X [] (tI X.K c [] dNil):=PSs.weak zd2 fun T σ H zh=>by
 obtain ⟨B,F,sd,x,C,dx,fs,xs,ds0,r,no,h0,h1,h2,hC,hH,hl,hn,hm,hi,n⟩:=zh
 have n:∀ F' H' xs',Ext B.F0 B.H0 F' H'→F' x=none→H' x=some (.ins C dx ((fs++[]).zip xs'))→(fs++[]).length=xs'.length→IsDs X.K F' (ds0++[]) xs'→T.nx σ H':=n
 simp only [List.append_nil] at n
 exact n F H xs r.ext h2 hH hl hi
theorem zdk (k:ClsD X.K X.mg c C fs)(hf:f∈fs)(ho:PE X o (tVar 0))(he:QE X E0 e fe)(hr:PSs X ss (tI X.K c names g))(hs:autoParam (swapsWith e (some (.Attribute o f pos')) pos.line X.env=pure false) zau._auto_1) :
 PSs X (.Assign [.Attribute o f pos'] e pos::ss) (tI X.K c (f::names) (zab fe g)):=PSs.weak (zb7 (zl7 ho he hs) hr) fun T σ H zh=>by
 obtain ⟨B,F,sd,x,C',dx,gs,xs,ds0,r,no,h0,h1,h2,hC,hH,hl,hn,hm,hi,n⟩:=zh
 refine ⟨B,F,sd,r,(Res.need_bind n).mono (fun d n1 v F1 H1 e1 i1 => ?_) fun _ _ q=>q.ext r.ext⟩
 have c1:C'=C:=by
  rw [k.ns] at hC
  cases hC
  rfl
 subst c1
 have hH1:=e1.hh _ _ hH
 have hF1:F1 x=none:=e1.new x h2 (by rw [hH];simp)
 have lz:(gs.zip xs).map (·.1)=gs:=by rw [List.map_fst_zip (by omega)]
 have hfn:f∉gs:=fun z=>by
  have:=(List.nodup_append.mp hn).2.2 f z f (List.mem_cons_self ..)
  exact this rfl
 have ll:(gs.zip xs).length<1000:=by
  rw [List.length_zip]
  simp at hm
  omega
 refine ⟨.ref x,h0,x,C',dx,_,rfl,hH1,k.cls,k.no f hf,ll,?_⟩
 rw [zfc f v _ (by rw [lz];exact hfn)]
 have ez:gs.zip xs++[(f,v)]=(gs++[f]).zip (xs++[v]):=by rw [List.zip_append hl];rfl
 rw [ez]
 have r1:=r.step e1
 have hi1:IsDs X.K F1 (ds0++[d]) (xs++[v]):=IsDs.snoc (IsDs.same e1.ff _ _ hi) i1
 refine ⟨B,F1,sd,x,C',dx,gs++[f],xs++[v],ds0++[d],⟨⟨r1.ext.ff,fun a o e => ?_,fun a o e => ?_,r1.ext.new⟩,r1.len,r1.val,fun q=>absurd q (no _ _ _),fun _ q _ _=>absurd q (no _ _ _)⟩,no,h0,h1,hF1,hC,zah,by simp [hl],by simpa using hn,by simpa using hm,hi1,(Res.need_bind n1).mono (fun ds n2 F2 H2 xs2 e2 f2 q1 q2 q3 => ?_) fun _ _ q=>q⟩
 ·rw [zai (zar e hF1)]
  exact r1.ext.fh _ _ e
 ·rw [zai (zar e h1)]
  exact r1.ext.hh _ _ e
 ·exact n2 F2 H2 xs2 e2 f2 (by simpa using q1) (by simpa using q2) (by simpa using q3)
end
def SpI (K:PySem.W.Frag)(c:Str)(names:List Str)(Fn:List D→Res (List D)):Sp:=fun vs H Q _ => ∃ F ds x C dx us,Same F H∧vs=.ref x::us∧IsDs K F ds us∧F x=none∧PySem.W.nsIn K mainGlobals c=some (some (.ref C))∧H x=some (.ins C dx []) ∧
 (Fn ds).need (fun es => ∀ F' H' xs,Ext F (delH H x) F' H'→F' x=none→H' x=some (.ins C dx (names.zip xs))→names.length=xs.length→IsDs K F' es xs→Q .non H') (XW K E0 F (delH H x))
def runI (n ar:Nat)(g:FA)(ds:List D):Res (List D):=if ds.length+1=ar then g (none::zay (n-1) ds) else .no
theorem RS.startI {K:PySem.W.Frag}{F H:Hp}{N:List Str}{ds:List D}{us:List V}{x:Addr}(s:Same F H)(h:IsDs K F ds us) :
 RS K ⟨F,delH H x,fun _=>none⟩ F H (none::zay N.length ds) (some (.ref x)::L2.start N us)∧∀ (i:Nat) (p:Bool) (d:D),(none::zay N.length ds:SD)[i]? ≠ some (some (SV.own p d)):=by
 have r0:=RS.start (N:=N) s h
 have no:∀ (i:Nat) (p:Bool) (d:D),(none::zay N.length ds:SD)[i]? ≠ some (some (SV.own p d)):=fun i p d q=>by
  cases i with
  | zero=>cases q
  | succ i =>
   obtain ⟨l,_,h2,_,h4,_⟩:=r0.own (i:=i) (p:=p) (d:=d) q
   obtain ⟨o,ho⟩:=h4.has
   have h2:H l=none:=h2
   rw [h2] at ho
   exact zqn ho
 refine ⟨⟨⟨.refl _,s,zg6,fun _ e _=>e⟩,by simp [r0.len],fun {i d} q => ?_,fun q=>absurd q (no _ _ _),fun _ q _ _=>absurd q (no _ _ _)⟩,no⟩
 cases i with
 | zero=>cases q
 | succ i=>exact r0.val (i:=i) q
section
variable {P:Program}{w:World}{K:PySem.W.Frag}{mg:Str→Option Value}{base:Heap}{x qual:Str}{st:Stmt}{f:Addr}{fd:FuncData}{N ps:List Str}{k:Nat}
theorem fn_i {c y:Str}{names:List Str}{g:FA}(F:Fun K x qual st f fd)(S:FnScope (y::N) ps (zaf st))(hn:names.Nodup)(hm:names.length<900)
 (hb:∀ (cdv:Value) (A:Around) (outer:List Env) (s:Shared) (H:Hp) (E:XK),Room k (A.deeper (envOfC qual (zaf st) s.heap.objs.size f cdv))→PSs (cxOf CX0 P w K mg base (y::N) qual (zaf st) f cdv A outer s H E).nox (zaT st) (tI K c names g)) :
 FnOk P w K mg base CX0 (k+1) f fd ps (SpI K c names (runI (y::N).length ps.length g)):=by
 refine F.ok S (fun vs H Q E ⟨F,ds,x,C,dx,us,_,e,i,_,_,_,n⟩ => ?_) fun cdv A outer s H vs Q E hr ⟨F,ds,x,C,dx,us,hs,e,i,hf,hC,hH,n⟩=>⟨_,hb cdv A outer s H E hr,?_⟩
 ·unfold runI at n
  split at n
  ·rename_i h
   rw [e,← h,List.length_cons,i.length]
  ·exact n.elim
 ·subst e
  unfold runI at n
  split at n
  ·have es:L2.start (y::N) (.ref x::us)=some (.ref x)::L2.start N us:=by
    unfold L2.start
    simp
   rw [es]
   obtain ⟨r,no⟩:=RS.startI (N:=N) (x:=x) hs i
   exact ⟨_,F,_,x,C,dx,[],[],[],r,no,rfl,zkd,hf,hC,hH,rfl,hn,hm,.nil,n⟩
  ·exact n.elim
end
def MkD (P:Program)(w:World)(K:PySem.W.Frag)(mg:Str→Option Value)(base:Heap)(c:Str)(names:List Str)(k:Nat)(ps:List Str)(Fn:List D→Res (List D)):Prop :=
 ∃ C f fd,ClsD K mg c C names∧Mk K C f∧FnOk P w K mg base CX0 k f fd ps (SpI K c names Fn)∧zda K fd ps []
def ziq (c:Str)(names:List Str)(Fn:List D→Res (List D))(fa:FA):FE:=fun sd=>(fa sd).bind fun ds=>(Fn ds).bind fun es=>.ok (.ins c names es)
section
variable {X:Cx}{pos:Pos}
theorem ziD {c:Str}{names:List Str}{k:Nat}{ps:List Str}{Fn:List D→Res (List D)}{p:Pos}{e:Expr}{es:List Expr}{fa:FA}(M:MkD X.prog X.w X.K X.mg X.base c names k ps Fn)(hr:Room (k+1) X.A)(hg:Gl X c)(ha:QA X E0 (e::es) fa)
 (hdb:autoParam ((c == ("__debug__" : Str))=false) zav._auto_1) (he:starEach (e::es) X.env=(false,eval e X.env)::starEach es X.env:=by rfl) (hpl:(backTo pos (starEach es X.env)).any (·.1)=false:=by rfl) :
 QN X E0 (.Call (.Name c p) (e::es) [] pos) (ziq c names Fn fa):=by
 obtain ⟨C,f,fd,kd,mk,F,b⟩:=M
 refine PE.weak (zjT mk F hr hg kd.mgc b .nil zlf ha hdb he hpl) fun σ H Q zh => ?_
 obtain ⟨B,F,sd,r,n⟩:=zh
 refine ⟨B,F,sd,r,(Res.need_bind n).mono (fun ds n1 vs F1 H1 e1 i1 x dx nx ndx ne => ?_) fun _ _ q=>q⟩
 have n2:=Res.need_bind n1
 have hF1:F1 x=none:=by
  cases q:F1 x with
  | none=>rfl
  | some o=>rw [e1.fh _ _ q] at nx;cases nx
 have hH0:H x=none:=by
  cases q:H x with
  | none=>rfl
  | some o=>rw [e1.hh _ _ q] at nx;cases nx
 have s1:∀ {G:Hp},Same G H1→Same G (delH (upd (upd H1 dx (.own x)) x (.ins C dx [])) x):=fun {G} s a o q=>by
  have q1:=s _ _ q
  rw [zjq (zar q1 nx),zai (zar q1 nx),zai (zar q1 ndx)]
  exact q1
 have s2:Same F1 (upd (upd H1 dx (.own x)) x (.ins C dx [])):=fun a o q=>by
  have q1:=e1.fh _ _ q
  rw [zai (zar q1 nx),zai (zar q1 ndx)]
  exact q1
 have ed:Ext F H F1 (delH (upd (upd H1 dx (.own x)) x (.ins C dx [])) x):=⟨e1.ff,s1 e1.fh,s1 e1.hh,e1.new⟩
 rw [List.append_nil]
 refine ⟨F1,ds,x,C,dx,vs,s2,rfl,i1,hF1,kd.ns,zah,n2.mono (fun es n3 F2 H2 xs e2 f2 h2 l2 i2=>⟨rfl,?_⟩) fun _ _ q=>q.ext ed⟩
 exact n3 x F2 H2 (ed.trans e2) hH0 f2 ⟨C,dx,xs,kd.ns,h2,l2,i2⟩
end
def zlN (K:PySem.W.Frag)(c qual:Str)(fs:List Str)(st:Stmt):Prop:=∃ C fI fdI,PySem.W.nsIn K mainGlobals c=some (some (.ref C))∧Cls K C∧(∀ f∈fs,zbV K C f)∧Mk K C fI∧Fun K "__init__" qual st fI fdI
end L2.DL
namespace L2.DL
open PySem PySem.Spec PyProof.Rows
noncomputable def zgW (F F':Hp):Prop:=∀ a xs,F' a=some (.tup xs)→F a=some (.tup xs)
section
variable {K:PySem.W.Frag}{B:Bs}{F H F' H':Hp}{sd:SD}{σ : St}
theorem RS.frz1C {i:Nat}{p:Bool}{d:D}(r:RS K B F H sd σ)(hi:sd[i]? = some (some (.own p d))):∃ F',Same F F'∧zgW F F'∧RS K B F' H (sd.set i (some (.val d))) σ := by
 obtain ⟨l,hl,h0,hf,ho,_⟩:=r.own hi
 obtain ⟨o,e⟩:=ho.has
 have hil:i<sd.length:=(List.getElem?_eq_some_iff.mp hi).1
 have sF:Same F (upd F l o):=zaB hf o
 have nt:zgW F (upd F l o):=fun a xs q=>by
  by_cases z:a=l
  ·subst z
   rw [zah] at q
   obtain rfl:=Option.some.inj q
   cases d with
   | lst ds=>obtain ⟨_,h,_⟩:=ho;rw [e] at h;cases h
   | dct ks ds=>obtain ⟨_,h,_⟩:=ho;rw [e] at h;cases h
   | ins c fs ds=>obtain ⟨_,_,_,_,h,_⟩:=ho;rw [e] at h;cases h
   | _=>exact ho.elim
  ·rw [zai z] at q
   exact q
 refine ⟨upd F l o,sF,nt,⟨r.ext.ff.trans sF,fun b u q => ?_,r.ext.hh,fun a q1 q2 => ?_⟩,by rw [List.length_set,r.len],fun {j x} q => ?_,fun {j p x} q => ?_,fun {j k p1 p2 d1 d2 m} n q1 q2 q3 => ?_⟩
 ·by_cases z:b=l
  ·subst z;rw [zah] at q;cases q;exact e
  ·rw [zai z] at q;exact r.ext.fh _ _ q
 ·have z:a≠l:=fun z=>q2 (by rw [z];exact h0)
  rw [zai z]
  exact r.ext.new a q1 q2
 ·by_cases z:i=j
  ·subst z
   obtain ⟨e1,_⟩:=zam q
   cases e1
   exact ⟨_,hl,ho.frz e hf⟩
  ·rw [zaj z] at q
   obtain ⟨v,v1,v2⟩:=r.val q
   exact ⟨v,v1,IsD.same sF _ _ v2⟩
 ·by_cases z:i=j
  ·subst z
   obtain ⟨e1,_⟩:=zam q
   cases e1
  ·rw [zaj z] at q
   obtain ⟨m,m1,m2,m3,m4,m5⟩:=r.own q
   have ne:m≠l:=fun e=>r.apart z hi q hl (by rw [← e];exact m1)
   exact ⟨m,m1,m2,by rw [zai ne];exact m3,m4.ext sF fun u q'=>q',m5⟩
 ·have z1:i≠j:=fun z=>by subst z;obtain ⟨e1,_⟩:=zam q1;cases e1
  have z2:i≠k:=fun z=>by subst z;obtain ⟨e1,_⟩:=zam q2;cases e1
  rw [zaj z1] at q1
  rw [zaj z2] at q2
  exact r.apart n q1 q2 q3
theorem RS.frzC:∀ (is:List Nat) {F:Hp} {sd:SD},RS K B F H sd σ → ∃ F',Same F F'∧zgW F F'∧RS K B F' H (frzD is sd) σ
 | [],F,sd,r=>⟨F,.refl _,fun _ _ q=>q,r⟩
 | i::is,F,sd,r=>by
  unfold frzD
  split
  ·rename_i p d h
   obtain ⟨F1,s1,t1,r1⟩:=r.frz1C h
   obtain ⟨F2,s2,t2,r2⟩:=RS.frzC is r1
   exact ⟨F2,s1.trans s2,fun a xs q=>t1 a xs (t2 a xs q),r2⟩
  ·exact RS.frzC is r
def zh8:D→Bool
 | .tup ds=>ds.all zbP
 | d=>zbP d
noncomputable def zc7 (F H F2:Hp):Hp:=fun a=>match H a,F2 a with
 | none,some (.tup xs)=>some (.tup xs)
 | _,_=>F a
theorem IsDs.scals:∀ {ds:List D} {xs:List V},ds.all zbP=true→IsDs K F ds xs→IsDs K F' ds xs
 | [],xs,_,h=>by rw [IsDs.nil_iff] at h ⊢;exact h
 | d::ds,xs,s,h=>by
  obtain ⟨x,r,rfl,h1,h2⟩:=IsDs.cons_iff.mp h
  rw [List.all_cons,Bool.and_eq_true] at s
  exact IsDs.cons_iff.mpr ⟨x,r,rfl,h1.scal s.1,IsDs.scals s.2 h2⟩
theorem zgV {F1 F2 H2:Hp}(s:Same F H)(s1:Same F F1)(e:Ext F1 H F2 H2):Ext F H (zc7 F H F2) H2:=by
 refine ⟨fun a o q => ?_,fun a o q => ?_,e.hh,fun a q1 q2 => ?_⟩
 ·unfold zc7
  rw [s _ _ q]
  exact q
 ·unfold zc7 at q
  split at q
  ·rename_i h1 h2
   obtain rfl:=Option.some.inj q
   exact e.fh _ _ h2
  ·exact e.hh _ _ (s _ _ q)
 ·unfold zc7
  cases h:H a with
  | none=>exact absurd h q2
  | some o=>exact q1
theorem zhQ {F1 F2 H2:Hp}(s:Same F H)(s1:Same F F1)(nt:zgW F F1)(e:Ext F1 H F2 H2){d:D}{v:V}(hd:zh8 d=true)(i:IsD K F2 d v):IsD K (zc7 F H F2) d v:=by
 cases d with
 | tup ds =>
  obtain ⟨a,xs,rfl,h1,h2⟩:=IsD.tup_iff.mp i
  refine IsD.tup_iff.mpr ⟨a,xs,rfl,?_,IsDs.scals hd h2⟩
  have h1:F2 a=some (.tup xs):=h1
  show zc7 F H F2 a=some (.tup xs)
  unfold zc7
  cases h:H a with
  | none=>rw [h1]
  | some o =>
   show F a=some (.tup xs)
   cases q:F1 a with
   | none=>rw [e.new a q (by rw [h];simp)] at h1;exact zqn h1
   | some u =>
    have:=e.ff _ _ q
    rw [h1] at this
    obtain rfl:=Option.some.inj this
    exact nt _ _ q
 | _=>exact i.scal hd
theorem zef {F1 F2 H2:Hp}(s:Same F H)(s1:Same F F1)(nt:zgW F F1)(e:Ext F1 H F2 H2):∀ {ds:List D} {xs:List V},ds.all zh8=true→IsDs K F2 ds xs→IsDs K (zc7 F H F2) ds xs
 | [],xs,_,h=>by rw [IsDs.nil_iff] at h ⊢;exact h
 | d::ds,xs,hd,h=>by
  obtain ⟨x,r,rfl,h1,h2⟩:=IsDs.cons_iff.mp h
  rw [List.all_cons,Bool.and_eq_true] at hd
  exact IsDs.cons_iff.mpr ⟨x,r,rfl,zhQ s s1 nt e hd.1 h1,zef s s1 nt e hd.2 h2⟩
def zhJ:D→Bool
 | .lst ds=>ds.all zh8
 | _=>false
def zhD (is:List Nat)(f:FE):FE:=fun sd=>(f (frzD is sd)).bare.bind fun d=>if zhJ d then .ok d else .no
theorem tmpN {fe:FE}{is:List Nat}{Q:VK}(h:tDN K E0 (zhD is fe) σ H Q):tDN K E0 fe σ H Q:=by
 obtain ⟨B,F,sd,r,n⟩:=h
 obtain ⟨F1,s1,nt,r1⟩:=r.frzC is
 refine ⟨B,F1,_,r1,(Res.need_bare r.ext.fh (Res.need_bind n)).mono (fun d n1 l F2 H2 e2 h1 h2 h3 => ?_) fun c fs q=>q⟩
 split at n1
 ·rename_i hs
  cases d with
  | lst ds =>
   obtain ⟨xs,g1,g2⟩:=h3
   refine n1 l (zc7 F H F2) H2 (zgV r.ext.fh s1 e2) h1 ?_ ⟨xs,g1,zef r.ext.fh s1 nt e2 hs g2⟩
   unfold zc7
   rw [h1,h2]
   cases q:F l with
   | none=>rfl
   | some o=>rw [r.ext.fh _ _ q] at h1;cases h1
  | _=>exact zqb hs
 ·exact n1.elim
end
section
variable {X:Cx}{m:Option Bool}{tg iter elt c:Expr}{scope:Scope}{pos spos py:Pos}{y:Str}{iy:Nat}{t:Tg}{fi:FA}{fc:FT}{f:FE}
theorem zer (is:List Nat)(N:List Str)(cap:List (Option Nat))(hNN:X.N.Nodup)(hiy:X.N[iy]? = some y)(hyy:Loc X.env.scope y)(hc:X.calm=true)(okB:za8 scope X.env N X.N cap=true)(hi:QI X E0 tg iter fi)
 (hg:∀ cl C s H ex,QG (zap X scope N cl C s H ex) tg t) (he:∀ cl C s H ex,QE (zap X scope N cl C s H ex) E0 elt f) (hsw:autoParam (swapsWith (.ListComp elt [⟨tg,iter,[],0⟩] scope pos) (some (.Name y py)) spos.line X.env=pure true) zau._auto_1)
 (hyf:X.fn y=true∨X.env.scope.names.lookup y=some .local:=by first|exact .inl rfl|exact .inr rfl) (hs:∀ x,foldedSetIterable iter X.env x=pure x:=by intro _;rfl) :
 QS X E0 m (.Assign [.Name y py] (.ListComp elt [⟨tg,iter,[],0⟩] scope pos) spos) (sOwn iy (zhD is (zbZ cap fi t f))):=by
 have hh:=zcQ (g:=gT t X.K) (te:=tD X.K E0 f) hsw hNN hiy hyy hyf N cap hc okB hi hg he hs
 exact PS.weak hh fun T σ H h=>zj6 (fun _ _ _ q=>zd1 (tmpN q)) h
end
end L2.DL
namespace L2
open PySem
theorem zbk {N P:List Str}{sc:Scope}(a:autoParam (sc.kind=.function) zau._auto_1)(b:autoParam (sc.isCoroutine=false) zau._auto_1)(c:autoParam (sc.isGenerator=false) zau._auto_1)(d:N.Nodup:=by decide +kernel)(e:N.take P.length=P:=by rfl)
 (f:∀ x∈P,sc.names.lookup x=some .local∨sc.names.lookup x=some .cell:=by decide +kernel) (g:∀ y∈sc.names,y.2 ≠ .free:=by decide +kernel):FnScope N P sc:=⟨a,b,c,d,e,f,g⟩
theorem zdh (N:List Str)(h:N.Nodup:=by decide +kernel):N.Nodup:=h
theorem pgn {X:Cx}{x:Str}{pos:Pos}(i:Nat)(hN:X.N.Nodup)(hi:autoParam (X.N[i]? = some x) zau._auto_1)(hx:Loc X.env.scope x:=by first|exact .inl rfl|exact .inr rfl)(hf:X.fn x=true∨X.env.scope.names.lookup x=some .local:=by first|exact .inl rfl|exact .inr rfl|assumption):PG X (.Name x pos) (zdo i):=za9 hN hi hx hf
section
variable {p:List Value→Prop}
theorem us1 (h:∀ a,p [a]):∀ us:List Value,us.length=1→p us:=fun us e=>by
 obtain ⟨a,rfl⟩:=List.length_eq_one_iff.mp e
 exact h a
theorem us2 (h:∀ a b,p [a,b]):∀ us:List Value,us.length=2→p us:=fun us e=>by
 cases us with
 | nil=>exact absurd e (by decide)
 | cons a us=>exact us1 (p:=fun us=>p (a::us)) (fun b=>h a b) us (Nat.succ.inj e)
theorem us3 (h:∀ a b c,p [a,b,c]):∀ us:List Value,us.length=3→p us:=fun us e=>by
 cases us with
 | nil=>exact absurd e (by decide)
 | cons a us=>exact us2 (p:=fun us=>p (a::us)) (fun b c=>h a b c) us (Nat.succ.inj e)
theorem us4 (h:∀ a b c d,p [a,b,c,d]):∀ us:List Value,us.length=4→p us:=fun us e=>by
 cases us with
 | nil=>exact absurd e (by decide)
 | cons a us=>exact us3 (p:=fun us=>p (a::us)) (fun b c d=>h a b c d) us (Nat.succ.inj e)
theorem us5 (h:∀ a b c d e,p [a,b,c,d,e]):∀ us:List Value,us.length=5→p us:=fun us e=>by
 cases us with
 | nil=>exact absurd e (by decide)
 | cons a us=>exact us4 (p:=fun us=>p (a::us)) (fun b c d e=>h a b c d e) us (Nat.succ.inj e)
end
end L2
namespace L2.DL
open PySem PySem.Spec PyProof.Rows
abbrev HP:=List (Addr×D)
noncomputable def hpAt:HP→Addr→Option D
 | [],_=>none
 | p::r,a=>if a=p.1 then some p.2 else hpAt r a
noncomputable def zey:HP→Addr→D→HP
 | [],_,_ => []
 | p::r,a,d=>if a=p.1 then (p.1,d)::r else p::zey r a d
theorem zcg (a:Addr):hpAt [] a=none:=rfl
theorem zaq (p:Addr×D)(r:HP)(a:Addr):hpAt (p::r) a=if a=p.1 then some p.2 else hpAt r a:=rfl
theorem zdx:∀ {hp:HP} {a:Addr} {d:D} (b:Addr),hpAt hp a≠none→hpAt (zey hp a d) b=if b=a then some d else hpAt hp b
 | [],a,d,b,h=>absurd rfl h
 | p::r,a,d,b,h=>by
  unfold zey
  by_cases z:a=p.1
  ·rw [if_pos z,zaq,zaq]
   show (if b=p.1 then some d else _)=_
   rw [← z]
   by_cases y:b=a
   ·rw [if_pos y,if_pos y]
   ·rw [if_neg y,if_neg y,if_neg y]
  ·rw [if_neg z,zaq,zaq]
   rw [zaq,if_neg z] at h
   rw [zdx b h]
   by_cases y:b=p.1
   ·rw [if_pos y,if_pos y,if_neg fun x=>z (by rw [← x,y])]
   ·rw [if_neg y,if_neg y]
structure RT (K:PySem.W.Frag)(B B':Bs)(F H:Hp)(sd:SD)(hp:HP)(σ : St):Prop where
 rs:RS K B' F H sd σ
 f0:B'.F0=B.F0
 pa:B'.pa=B.pa
 out:∀ a,hpAt hp a=none→B'.H0 a=B.H0 a
 obj:∀ a d,hpAt hp a=some d→B.F0 a=none∧B.H0 a=none∧zbt K F B'.H0 a d
section
variable {K:PySem.W.Frag}{B B':Bs}{F F' H H':Hp}{sd sd':SD}{hp:HP}{σ σ':St}{a:Addr}{d:D}
theorem RT.sub (t:RT K B B' F H sd hp σ):Same B.H0 B'.H0:=fun a o e=>by
 cases q:hpAt hp a with
 | none=>rw [t.out a q];exact e
 | some d=>rw [(t.obj a d q).2.1] at e;exact zqn e
theorem RT.ext0 (t:RT K B B' F H sd hp σ){F2 H2:Hp}(e:Ext B'.F0 B'.H0 F2 H2):Ext B.F0 B.H0 F2 H2 :=
 ⟨by rw [← t.f0];exact e.ff,e.fh,t.sub.trans e.hh,fun a h0 h1=>e.new a (by rw [t.f0];exact h0) fun z=>h1 (zan t.sub z)⟩
theorem RT.go (t:RT K B B' F H sd hp σ)(s:Same F F')(r:RS K B' F' H' sd' σ'):RT K B B' F' H' sd' hp σ' :=
 ⟨r,t.f0,t.pa,t.out,fun a d h=>let ⟨h1,h2,h3⟩:=t.obj a d h;⟨h1,h2,h3.ext s fun _ q=>q⟩⟩
theorem RT.free (t:RT K B B' F H sd hp σ)(h:hpAt hp a=some d):F a=none:=by
 obtain ⟨h1,h2,h3⟩:=t.obj a d h
 obtain ⟨o,ho⟩:=h3.has
 exact t.rs.ext.new a (by rw [t.f0];exact h1) (by rw [ho];simp)
theorem RT.lies (t:RT K B B' F H sd hp σ)(h:hpAt hp a=some d):zbt K F H a d:=(t.obj a d h).2.2.ext (.refl _) fun o q=>t.rs.ext.hh _ _ q
theorem RT.no_own (t:RT K B B' F H sd hp σ)(h:hpAt hp a=some d){l:Addr}(hl:B'.H0 l=none):l≠a:=fun z=>by
 obtain ⟨o,ho⟩:=(t.obj a d h).2.2.has
 rw [← z,hl] at ho
 exact zqn ho
theorem RT.ret {m:Option Bool}{Q:VK}(t:RT K B B' F H sd hp σ)(h:zic K m B Q d):zic K m B' Q d:=by
 have a1:OkD K B.F0 B.H0 Q d→OkD K B'.F0 B'.H0 Q d:=fun h v F2 H2 e i=>h v F2 H2 (t.ext0 e) i
 have a2:OkN K B.F0 B.H0 Q d→OkN K B'.F0 B'.H0 Q d:=fun h l F2 H2 e n n2 o=>h l F2 H2 (t.ext0 e) (zan t.sub n) n2 o
 cases m with
 | none =>
  have h:OkM K B.F0 B.H0 Q d:=h
  show OkM K B'.F0 B'.H0 Q d
  unfold OkM at h ⊢
  by_cases q:zbP d=true
  ·rw [if_pos q] at h ⊢;exact a1 h
  ·rw [if_neg q] at h ⊢;exact a2 h
 | some b =>
  cases b with
  | true=>exact a2 h
  | false=>exact a1 h
theorem RT.xw {E:XK}{c:Str}{fs:List D}(t:RT K B B' F H sd hp σ)(h:XW K E B.F0 B.H0 c fs):XW K E B'.F0 B'.H0 c fs:=fun cv a F2 H2 e q=>h cv a F2 H2 (t.ext0 e) q
theorem RT.chg (t:RT K B B' F H sd hp σ){d':D}{o:HO}(ha:hpAt hp a=some d)(h:zbt K F (upd H a o) a d'):RT K B ⟨B'.F0,upd B'.H0 a o,B'.pa⟩ F (upd H a o) sd (zey hp a d') σ := by
 have hf:=t.free ha
 obtain ⟨b1,b2,b3⟩:=t.obj a d ha
 have hn:hpAt hp a≠none:=by rw [ha];simp
 refine ⟨⟨⟨t.rs.ext.ff,zdp o t.rs.ext.fh hf,fun b u e => ?_,fun b h0 h1 => ?_⟩,t.rs.len,t.rs.val,fun {i p e} q => ?_,t.rs.apart⟩,t.f0,t.pa,fun b hb => ?_,fun b e hb => ?_⟩
 ·have e:upd B'.H0 a o b=some u:=e
  by_cases z:b=a
  ·subst z;rw [zah] at e ⊢;exact e
  ·rw [zai z] at e ⊢;exact t.rs.ext.hh _ _ e
 ·by_cases z:b=a
  ·rw [z];exact hf
  ·exact t.rs.ext.new b h0 fun y=>h1 (by show upd B'.H0 a o b=none;rw [zai z];exact y)
 ·obtain ⟨l,l1,l2,l3,l4,l5⟩:=t.rs.own q
  have ne:=t.no_own ha l2
  exact ⟨l,l1,(zai ne).trans l2,l3,l4.ext (.refl _) (fun u q'=>by rw [zai ne];exact q'),fun z=>(l5 z).mono fun u q'=>by rw [zai ne];exact q'⟩
 ·rw [zdx b hn] at hb
  by_cases z:b=a
  ·rw [if_pos z] at hb;exact zqn hb.symm
  ·rw [if_neg z] at hb
   show upd B'.H0 a o b=B.H0 b
   rw [zai z]
   exact t.out b hb
 ·rw [zdx b hn] at hb
  by_cases z:b=a
  ·rw [if_pos z] at hb
   obtain rfl:=Option.some.inj hb
   subst z
   exact ⟨b1,b2,h.ext (.refl _) fun u q=>by show upd B'.H0 b o b=some u;rw [zah] at q ⊢;exact q⟩
  ·rw [if_neg z] at hb
   obtain ⟨c1,c2,c3⟩:=t.obj b e hb
   exact ⟨c1,c2,c3.ext (.refl _) fun u q=>by show upd B'.H0 a o b=some u;rw [zai z];exact q⟩
def addF (F H0:Hp)(hp:HP):Hp:=fun a=>match hpAt hp a with
 | some _=>H0 a
 | none=>F a
theorem RT.frz (t:RT K B B' F H sd hp σ):∃ F1,Same F F1∧RS K B F1 H sd σ ∧ ∀ a d,hpAt hp a=some d→IsD K F1 d (.ref a):=by
 have s0:∀ b d,hpAt hp b=some d→addF F B'.H0 hp b=B'.H0 b:=fun b d e=>by unfold addF;rw [e]
 have s1:∀ b,hpAt hp b=none→addF F B'.H0 hp b=F b:=fun b e=>by unfold addF;rw [e]
 have sF:Same F (addF F B'.H0 hp):=fun b u e=>by
  cases q:hpAt hp b with
  | none=>rw [s1 b q];exact e
  | some d=>rw [t.free q] at e;exact zqn e
 refine ⟨addF F B'.H0 hp,sF,⟨⟨?_,fun b u e => ?_,t.sub.trans t.rs.ext.hh,fun b h0 h1 => ?_⟩,t.rs.len,fun q=>let ⟨v,h1,h2⟩:=t.rs.val q;⟨v,h1,IsD.same sF _ _ h2⟩,fun {i p e} q => ?_,t.rs.apart⟩,fun b e hb => ?_⟩
 ·rw [← t.f0];exact t.rs.ext.ff.trans sF
 ·cases q:hpAt hp b with
  | none=>rw [s1 b q] at e;exact t.rs.ext.fh _ _ e
  | some d=>rw [s0 b d q] at e;exact t.rs.ext.hh _ _ e
 ·cases q:hpAt hp b with
  | none=>rw [s1 b q];exact t.rs.ext.new b (by rw [t.f0];exact h0) (by rw [t.out b q];exact h1)
  | some d=>exact absurd (t.obj b d q).2.1 h1
 ·obtain ⟨l,l1,l2,l3,l4,l5⟩:=t.rs.own q
  have hl:hpAt hp l=none:=by
   cases z:hpAt hp l with
   | none=>rfl
   | some d'=>exact absurd rfl (t.no_own z l2)
  exact ⟨l,l1,zan t.sub l2,by rw [s1 l hl];exact l3,l4.ext sF fun _ q=>q,fun z=>by rw [← t.pa];exact l5 z⟩
 ·obtain ⟨c1,c2,c3⟩:=t.obj b e hb
  obtain ⟨o,ho⟩:=c3.has
  refine IsD.same (fun c u q => ?_) _ _ (c3.frz ho (t.free hb))
  by_cases z:c=b
  ·subst z;rw [zah] at q;rw [s0 c e hb,ho];exact q
  ·rw [zai z] at q;exact sF _ _ q
end
mutual
noncomputable def der (hp:HP):D→D
 | .adr a=>match hpAt hp a with
  | some d=>d
  | none=>.adr a
 | .lst ds=>.lst (ders hp ds)
 | .non=>.non
 | .bl b=>.bl b
 | .int i=>.int i
 | .str x=>.str x
 | .ty n=>.ty n
 | .scr ns=>.scr ns
 | .tup ds=>.tup ds
 | .dct ks ds=>.dct ks ds
 | .ins c fs ds=>.ins c fs ds
 | .exc c=>.exc c
 | .ucl c=>.ucl c
 | .dcf ks ds=>.dcf ks ds
 | .pin a d=>.pin a d
noncomputable def ders (hp:HP):List D→List D
 | [] => []
 | d::ds=>der hp d::ders hp ds
end
theorem zjO (hp:HP)(a:Addr):der hp (.adr a)=match hpAt hp a with
 | some d=>d
 | none=>.adr a:=by rw [der]
theorem zj9 (hp:HP)(ds:List D):der hp (.lst ds)=.lst (ders hp ds):=by rw [der]
theorem zh3 (hp:HP):ders hp []=[]:=by rw [ders]
theorem zgT (hp:HP)(d:D)(ds:List D):ders hp (d::ds)=der hp d::ders hp ds:=by rw [ders]
section
variable {K:PySem.W.Frag}{B:Bs}{F H:Hp}{sd:SD}{hp:HP}{σ : St}
mutual
theorem IsD.der (ho:∀ a d,hpAt hp a=some d→IsD K F d (.ref a)):∀ (d:D) (v:V),IsD K F d v→IsD K F (der hp d) v
 | .adr a,v,h=>by
  obtain rfl:=IsD.adr_iff.mp h
  rw [zjO]
  split
  ·rename_i d q;exact ho a d q
  ·exact IsD.adr_iff.mpr rfl
 | .lst ds,v,h=>by
  obtain ⟨a,xs,h1,h2,h3⟩:=IsD.lst_iff.mp h
  rw [zj9]
  exact IsD.lst_iff.mpr ⟨a,xs,h1,h2,IsDs.der ho ds xs h3⟩
 | .non,v,h=>by rw [L2.DL.der];exact h
 | .bl b,v,h=>by rw [L2.DL.der];exact h
 | .int b,v,h=>by rw [L2.DL.der];exact h
 | .str b,v,h=>by rw [L2.DL.der];exact h
 | .ty b,v,h=>by rw [L2.DL.der];exact h
 | .scr b,v,h=>by rw [L2.DL.der];exact h
 | .tup b,v,h=>by rw [L2.DL.der];exact h
 | .dct b c,v,h=>by rw [L2.DL.der];exact h
 | .ins b c d,v,h=>by rw [L2.DL.der];exact h
 | .exc b,v,h=>by rw [L2.DL.der];exact h
 | .ucl b,v,h=>by rw [L2.DL.der];exact h
 | .dcf b c,v,h=>by rw [L2.DL.der];exact h
 | .pin b c,v,h=>by rw [L2.DL.der];exact h
theorem IsDs.der (ho:∀ a d,hpAt hp a=some d→IsD K F d (.ref a)):∀ (ds:List D) (xs:List V),IsDs K F ds xs→IsDs K F (ders hp ds) xs
 | [],xs,h=>by rw [zh3];exact h
 | d::ds,xs,h=>by
  obtain ⟨x,r,h1,h2,h3⟩:=IsDs.cons_iff.mp h
  rw [zgT]
  exact IsDs.cons_iff.mpr ⟨x,r,h1,IsD.der ho d x h2,IsDs.der ho ds r h3⟩
end
def derI (hp:HP):List Nat→SD→SD
 | [],sd=>sd
 | i::is,sd=>derI hp is (match sd[i]? with
  | some (some (.val d))=>sd.set i (some (.val (der hp d)))
  | _=>sd)
theorem zbE {α : Type}{l:List α}{i:Nat}{a : α}(h:l[i]? = some a):l.set i a=l:=by
 apply List.ext_getElem?
 intro j
 by_cases z:i=j
 ·subst z
  rw [List.getElem?_set_self (List.getElem?_eq_some_iff.mp h).1,h]
 ·rw [List.getElem?_set_ne z]
theorem RS.reval {i:Nat}{d d':D}(r:RS K B F H sd σ)(hi:sd[i]? = some (some (.val d)))(h:∀ v,IsD K F d v→IsD K F d' v):RS K B F H (sd.set i (some (.val d'))) σ := by
 obtain ⟨v,h1,h2⟩:=r.val hi
 have:=r.setVal (i:=i) (h v h2)
 rw [zbE h1] at this
 exact this
theorem RS.derI (ho:∀ a d,hpAt hp a=some d→IsD K F d (.ref a)):∀ (is:List Nat) {sd:SD},RS K B F H sd σ → RS K B F H (derI hp is sd) σ
 | [],sd,r=>r
 | i::is,sd,r=>by
  unfold L2.DL.derI
  split
  ·rename_i d h
   exact RS.derI ho is (r.reval h fun v q=>IsD.der ho d v q)
  ·exact RS.derI ho is r
end
inductive Out2 where
 | next (sd:SD) (hp:HP)|ret (d:D)|brk (sd:SD) (hp:HP)|cont (sd:SD) (hp:HP)
def zbT (K:PySem.W.Frag)(m:Option Bool)(B:Bs)(F:Hp)(T:Ends):Out2→Prop
 | .next sd hp => ∀ σ B' F' H',Same F F'→RT K B B' F' H' sd hp σ → T.nx σ H'
 | .brk sd hp => ∀ σ B' F' H',Same F F'→RT K B B' F' H' sd hp σ → T.bk σ H'
 | .cont sd hp => ∀ σ B' F' H',Same F F'→RT K B B' F' H' sd hp σ → T.ct σ H'
 | .ret d=>zic K m B T.rt d
abbrev FS2:=SD→HP→Res Out2
def tDS2 (K:PySem.W.Frag)(E:XK)(m:Option Bool)(g:FS2):TS:=fun T σ H => ∃ B B' F sd hp,RT K B B' F H sd hp σ ∧ (g sd hp).need (zbT K m B F T) (XW K E B.F0 B.H0)
abbrev Q2S (X:Cx)(E:XK)(m:Option Bool)(st:Stmt)(g:FS2):Prop:=PS X st (tDS2 X.K E m g)
abbrev Q2Ss (X:Cx)(E:XK)(m:Option Bool)(st:List Stmt)(g:FS2):Prop:=PSs X st (tDS2 X.K E m g)
noncomputable def up2 (hp:HP):Out→Out2
 | .next sd=>.next sd hp
 | .ret d=>.ret d
 | .brk sd=>.brk sd hp
 | .cont sd=>.cont sd hp
section
variable {K:PySem.W.Frag}{E:XK}{m:Option Bool}{B B':Bs}{F F' H:Hp}{T:Ends}{sd:SD}{hp:HP}{σ : St}
theorem zbT.mono {o:Out2}(h:zbT K m B F T o)(e:Same F F'):zbT K m B F' T o:=by
 cases o with
 | next sd hp=>exact fun σ B2 F2 H2 s r=>h σ B2 F2 H2 (e.trans s) r
 | brk sd hp=>exact fun σ B2 F2 H2 s r=>h σ B2 F2 H2 (e.trans s) r
 | cont sd hp=>exact fun σ B2 F2 H2 s r=>h σ B2 F2 H2 (e.trans s) r
 | ret d=>exact h
theorem RT.lift (t:RT K B B' F H sd hp σ){o:Out}(h:zbT K m B F T (up2 hp o)):zec K m B' F T o:=by
 cases o with
 | next sd'=>exact fun σ' F' H' s r=>h σ' B' F' H' s (t.go s r)
 | brk sd'=>exact fun σ' F' H' s r=>h σ' B' F' H' s (t.go s r)
 | cont sd'=>exact fun σ' F' H' s r=>h σ' B' F' H' s (t.go s r)
 | ret d=>exact t.ret h
end
section
variable {X:Cx}{E:XK}{m:Option Bool}{st:Stmt}{sts:List Stmt}{g:FS}{g1 g2:FS2}{pos pos':Pos}{o i e:Expr}{fo fi fv:FE}
def s2L (g:FS):FS2:=fun sd hp=>(g sd).bind fun o=>.ok (up2 hp o)
theorem zaF (h:QS X E m st g):Q2S X E m st (s2L g):=PS.weak h (by rintro T σ H ⟨B,B',F,sd,hp,t,n⟩;exact ⟨B',F,sd,t.rs,(Res.need_bind n).mono (fun o n1=>t.lift n1) fun _ _ q=>t.xw q⟩)
noncomputable def zi5:FS2:=fun sd hp=>.ok (.next sd hp)
def zbu (g1 g2:FS2):FS2:=fun sd hp=>(g1 sd hp).bind fun o=>match o with
 | .next sd' hp'=>g2 sd' hp'
 | o=>.ok o
theorem zkF:Q2Ss X E m [] zi5:=PSs.weak zd2 (by rintro T σ H ⟨B,B',F,sd,hp,t,n⟩;exact n σ B' F H (.refl _) t)
theorem zgX (h:Q2S X E m st g1):Q2Ss X E m [st] g1:=ze5 h
theorem zbb (h1:Q2S X E m st g1)(h2:Q2Ss X E m sts g2):Q2Ss X E m (st::sts) (zbu g1 g2):=PSs.weak (zb7 h1 h2) fun T σ H zh=>by
 obtain ⟨B,B',F,sd,hp,t,n⟩:=zh
 refine ⟨B,B',F,sd,hp,t,(Res.need_bind n).mono (fun o n1 => ?_) fun _ _ q=>q⟩
 cases o with
 | next sd' hp'=>exact fun σ' B2 F' H' s r'=>⟨B,B2,F',sd',hp',r',n1.mono (fun o q=>q.mono s) fun _ _ q=>q⟩
 | ret d=>exact n1
 | brk sd' hp'=>exact n1
 | cont sd' hp'=>exact n1
abbrev FT2:=SD→HP→Res Bool
def tDT2 (K:PySem.W.Frag)(E:XK)(f:FT2):TT:=fun σ H Q => ∃ B B' F sd hp,RT K B B' F H sd hp σ ∧ (f sd hp).need (OkB F H Q) (XW K E F H)
abbrev Q2T (X:Cx)(E:XK)(e:Expr)(f:FT2):Prop:=PT X e (tDT2 X.K E f)
noncomputable def t2L (f:FT):FT2:=fun sd _=>f sd
theorem zhS {f:FT}(h:QT X E e f):Q2T X E e (t2L f):=PT.weak h (by rintro σ H Q ⟨B,B',F,sd,hp,t,n⟩;exact ⟨B',F,sd,t.rs,n⟩)
def s2If (c:FT2)(g1 g2:FS2):FS2:=fun sd hp=>(c sd hp).bind fun b=>if b then g1 sd hp else g2 sd hp
theorem q2_if {c:Expr}{a b:List Stmt}{fc:FT2}(hc:Q2T X E c fc)(ha:Q2Ss X E m a g1)(hb:Q2Ss X E m b g2):Q2S X E m (.If c a b pos) (s2If fc g1 g2):=PS.weak (zjS hc ha hb) fun T σ H zh=>by
 obtain ⟨B,B',F,sd,hp,t,n⟩:=zh
 refine ⟨B,B',F,sd,hp,t,(Res.need_bind n).mono (fun b n1 F1 H1 e1 => ?_) fun _ _ q=>q.ext (t.ext0 t.rs.ext)⟩
 cases b with
 | true=>exact ⟨B,B',F1,sd,hp,t.go e1.ff (t.rs.step e1),n1.mono (fun _ q=>q.mono e1.ff) fun _ _ q=>q⟩
 | false=>exact ⟨B,B',F1,sd,hp,t.go e1.ff (t.rs.step e1),n1.mono (fun _ q=>q.mono e1.ff) fun _ _ q=>q⟩
def for2 (b:D→FS2):List D→FS2
 | [],sd,hp=>.ok (.next sd hp)
 | x::xs,sd,hp=>(b x sd hp).bind fun o=>match o with
  | .next sd' hp'=>for2 b xs sd' hp'
  | .cont sd' hp'=>for2 b xs sd' hp'
  | .brk sd' hp'=>.ok (.next sd' hp')
  | .ret d=>.ok (.ret d)
def zcv (tg:Tg)(b:FS2)(x:D):FS2:=fun sd hp=>(zaE tg x sd).bind fun s=>b s hp
def zjF (it:FA)(tg:Tg)(b:FS2):FS2:=fun sd hp=>(it sd).bind fun ds=>for2 (zcv tg b) ds sd hp
theorem zho {T:Ends}{B B1:Bs}{F1 H1:Hp}{sd:SD}{hp:HP}{σ : St}{t:Tg}{J:It}{ds:List D}(wk:Walk X.K F1 J ds)(r:RT X.K B B1 F1 H1 sd hp σ)(n1:(for2 (zcv t g1) ds sd hp).need (zbT X.K m B F1 T) (XW X.K E B.F0 B.H0)) :
 ∃ W:Nat→Nat→St→Hp→Prop,(∃ m,W 0 m σ H1)∧∀ i m' σ H,W i m' σ H→(J.stop i H∧T.nx σ H)∨(J.go i H∧∃ N:St→Hp→Prop,(∀ σ' H',N σ' H'→∃ m2,m2<m'∧W (i+1) m2 σ' H')∧∀ x H',J.yld i H x H'→gT t X.K x σ H' fun σ2 H2=>tDS2 X.K E m g1 { T with nx:=N,ct:=N,bk:=T.nx } σ2 H2):=by
 refine ⟨fun i k σ H=>k=ds.length-i∧i≤ds.length∧∃ B2 F2 sd hp,Same F1 F2∧RT X.K B B2 F2 H sd hp σ ∧ (for2 (zcv t g1) (ds.drop i) sd hp).need (zbT X.K m B F2 T) (XW X.K E B.F0 B.H0),
  ⟨ds.length,rfl,Nat.zero_le _,B1,F1,sd,hp,.refl _,r,n1⟩,?_⟩
 rintro i k σ2 H2 ⟨rfl,hi,B2,F2,sd2,hp2,s2,r2,n2⟩
 obtain ⟨w1,w2⟩:=wk i F2 H2 s2 r2.rs.ext.fh
 by_cases hlt:i<ds.length
 ·obtain ⟨go,yl⟩:=w1 hlt
  refine .inr ⟨go,fun σ' H' => ∃ B3 F3 sd3 hp3,Same F1 F3∧RT X.K B B3 F3 H' sd3 hp3 σ'∧(for2 (zcv t g1) (ds.drop (i+1)) sd3 hp3).need (zbT X.K m B F3 T) (XW X.K E B.F0 B.H0),
   fun σ' H' ⟨B3,F3,sd3,hp3,q1,q2,q3⟩=>⟨ds.length-(i+1),by omega,rfl,hlt,B3,F3,sd3,hp3,q1,q2,q3⟩,fun x H3 y => ?_⟩
  obtain ⟨d,F3,hd,e3,i3⟩:=yl x H3 y
  rw [List.drop_eq_getElem_cons hlt] at n2
  have hd':ds[i]=d:=by rw [List.getElem?_eq_getElem hlt] at hd;exact Option.some.inj hd
  rw [hd'] at n2
  have r3:=r2.go e3.ff (r2.rs.step e3)
  unfold for2 at n2
  have n3:=Res.need_bind (Res.need_bind n2)
  refine zid r3.rs i3 n3 fun sd' σ' n4 _ r4 => ?_
  refine ⟨B,B2,F3,sd',hp2,r3.go (.refl _) r4,n4.mono (fun o n5 => ?_) fun _ _ q=>q⟩
  cases o with
  | next sd5 hp5=>exact fun σ5 B5 F5 H5 s5 r5=>⟨B5,F5,sd5,hp5,(s2.trans e3.ff).trans s5,r5,n5.mono (fun _ q=>q.mono (e3.ff.trans s5)) fun _ _ q=>q⟩
  | cont sd5 hp5=>exact fun σ5 B5 F5 H5 s5 r5=>⟨B5,F5,sd5,hp5,(s2.trans e3.ff).trans s5,r5,n5.mono (fun _ q=>q.mono (e3.ff.trans s5)) fun _ _ q=>q⟩
  | brk sd5 hp5=>exact fun σ5 B5 F5 H5 s5 r5=>n5 σ5 B5 F5 H5 (e3.ff.trans s5) r5
  | ret d=>exact n5
 ·have he:i=ds.length:=by omega
  refine .inl ⟨w2 (by omega),?_⟩
  subst he
  rw [List.drop_length] at n2
  exact n2 σ2 B2 F2 H2 (.refl _) r2
theorem zlr {tg iter:Expr}{body:List Stmt}{it:FA}{t:Tg}(hp:PassesOwn (model X.prog X.w) X.A X.env X.xe)(hc:X.calm=true)(hi:QI X E tg iter it)(hg:QG X tg t)(hb:Q2Ss X E m body g1)
 (hss:autoParam (∀ x,foldedSetIterable iter X.env x=pure x) zaw._auto_1):Q2S X E m (.For tg iter body [] pos) (zjF it t g1):=PS.weak (zhg hp hc hi hg hb hss) fun T σ H zh=>by
 obtain ⟨B,B',F,sd,hp,r,n⟩:=zh
 refine ⟨B',F,sd,r.rs,(Res.need_bind n).mono (fun ds n1 J F1 H1 e1 wk => ?_) fun _ _ q=>q.ext (r.ext0 r.rs.ext)⟩
 exact zho wk (r.go e1.ff (r.rs.step e1)) (n1.mono (fun _ q=>q.mono e1.ff) fun _ _ q=>q)
end
end L2.DL
namespace L2
open PySem PySem.Spec PyProof.Rows
noncomputable def ltI (a b:Int):Bool:=decide (a<b)
theorem zdf:Tot ltI:=by
 refine ⟨fun a b h => ?_,fun a b c h => ?_,fun a b h1 h2 => ?_⟩
 ·unfold ltI at *;simp at *;omega
 ·unfold ltI at *;simp at *;omega
 ·unfold ltI at *;simp at *;omega
section
variable {prog:Program}{w:World}{A:Around}{s:Shared}
theorem zeP:∀ {vs:List Value} {ks:List Int},IntsAre vs ks→∀ v∈vs,∃ k t,v=Value.int k t
 | _,_,.nil,v,hv=>by cases hv
 | _,_,.cons n t r,v,hv=>by
  rcases List.mem_cons.mp hv with z|z
  ·exact ⟨n,t,z⟩
  ·exact zeP r v z
theorem zh7 {vs:List Value}{ks:List Int}(hk:IntsAre vs ks)(h2:2≤vs.length):Keys prog w A s vs fun i j=>ltI (ks.getD i 0) (ks.getD j 0) :=
 ⟨oneType',fun E Q h=>PySem.W.kas_kind (T:=Value.type "int") h2 (fun v hv=>by
  obtain ⟨k,t,rfl⟩:=zeP hk v hv
  exact PySem.W.Looks.of_pure rfl) rfl rfl h,ST.keyed_orc hk hk.length.symm⟩
theorem zgp:∀ {vs:List Value} {ks:List Int},vs.length=ks.length→(∀ (i:Nat) (k:Int),ks[i]? = some k→∃ t,vs[i]? = some (Value.int k t))→IntsAre vs ks
 | [],[],_,_=>.nil
 | [],_::_,h,_=>by cases h
 | _::_,[],h,_=>by cases h
 | v::vs,k::ks,h,at_=>by
  obtain ⟨t,ht⟩:=at_ 0 k rfl
  obtain rfl:v=Value.int k t:=Option.some.inj ht
  exact .cons k t (zgp (by simpa using h) fun i k hk=>at_ (i+1) k hk)
end
end L2
namespace L2.DL
open PySem PySem.Spec PyProof.Rows
end L2.DL
namespace L2.DL
open PySem PySem.Spec PyProof.Rows
@[simp] theorem up2_next (hp:HP)(sd:SD):up2 hp (.next sd)=.next sd hp:=rfl
@[simp] theorem zlW (g:FS)(sd:SD)(hp:HP):s2L g sd hp=(g sd).bind fun o=>.ok (up2 hp o):=rfl
noncomputable def seq2 (g:FS2):Out2→Res Out2
 | .next sd hp=>g sd hp
 | o=>.ok o
@[simp] theorem zmt (g:FS2)(sd:SD)(hp:HP):seq2 g (.next sd hp)=g sd hp:=rfl
@[simp] theorem zhN (g1 g2:FS2)(sd:SD)(hp:HP):zbu g1 g2 sd hp=(g1 sd hp).bind (seq2 g2):=by
 unfold zbu
 cases g1 sd hp with
 | ok o=>cases o<;>rfl
 | ex c fs=>rfl
 | no=>rfl
@[simp] theorem zfE (c:FT2)(g1 g2:FS2)(sd:SD)(hp:HP):s2If c g1 g2 sd hp=(c sd hp).bind fun b=>if b then g1 sd hp else g2 sd hp:=rfl
@[simp] theorem ev_t2L (f:FT)(sd:SD)(hp:HP):t2L f sd hp=f sd:=rfl
@[simp] theorem ev_s2For (it:FA)(tg:Tg)(b:FS2)(sd:SD)(hp:HP):zjF it tg b sd hp=(it sd).bind fun ds=>for2 (zcv tg b) ds sd hp:=rfl
@[simp] theorem derI_nil (hp:HP)(sd:SD):derI hp [] sd=sd:=rfl
def der1 (hp:HP)(i:Nat)(sd:SD):Option (Option SV)→SD
 | some (some (.val d))=>sd.set i (some (.val (der hp d)))
 | _=>sd
@[simp] theorem der1_val (hp:HP)(i:Nat)(sd:SD)(d:D):der1 hp i sd (some (some (.val d)))=sd.set i (some (.val (der hp d))):=rfl
@[simp] theorem zkP (hp:HP)(i:Nat)(is:List Nat)(sd:SD):derI hp (i::is) sd=derI hp is (der1 hp i sd sd[i]?):=by
 show derI hp is _=derI hp is _
 congr 1
def zkN (b:D→FS2)(xs:List D):Out2→Res Out2
 | .next sd hp=>for2 b xs sd hp
 | .cont sd hp=>for2 b xs sd hp
 | .brk sd hp=>.ok (.next sd hp)
 | .ret d=>.ok (.ret d)
@[simp] theorem zft (b:D→FS2)(xs:List D)(sd:SD)(hp:HP):zkN b xs (.next sd hp)=for2 b xs sd hp:=rfl
theorem zf8 (b:D→FS2)(x:D)(xs:List D)(sd:SD)(hp:HP):for2 b (x::xs) sd hp=(b x sd hp).bind (zkN b xs):=by
 show (b x sd hp).bind _=_
 cases b x sd hp with
 | ok o=>cases o<;>rfl
 | ex c fs=>rfl
 | no=>rfl
@[simp] theorem zhR (tg:Tg)(b:FS2)(x:D)(sd:SD)(hp:HP):zcv tg b x sd hp=(zaE tg x sd).bind fun s=>b s hp:=rfl
theorem zdg {b:D→FS2}:∀ {ds:List D} {sd:SD} {hp:HP} (P:Nat→SD→HP→Prop),P 0 sd hp→(∀ (i:Nat) (x:D) (sd:SD) (hp:HP),ds[i]? = some x→P i sd hp→∃ sd' hp',b x sd hp=.ok (.next sd' hp')∧P (i+1) sd' hp') →
 ∃ sd' hp',for2 b ds sd hp=.ok (.next sd' hp')∧P ds.length sd' hp'
 | [],sd,hp,P,h0,_=>⟨sd,hp,rfl,h0⟩
 | x::xs,sd,hp,P,h0,hs=>by
  obtain ⟨sd1,hp1,e1,p1⟩:=hs 0 x sd hp rfl h0
  obtain ⟨sd2,hp2,e2,p2⟩:=zdg (ds:=xs) (fun i=>P (i+1)) p1 fun i y sd hp hy p=>hs (i+1) y sd hp hy p
  refine ⟨sd2,hp2,?_,p2⟩
  rw [zf8,e1,Res.bind_ok,zft,e2]
end L2.DL
namespace L2.DL
open PySem PySem.Spec PyProof.Rows
end L2.DL
namespace L2.DL
open PySem PySem.Spec PyProof.Rows
end L2.DL
namespace L2.DL
open PySem PySem.Spec PyProof.Rows
def Lent (K:PySem.W.Frag)(F H:Hp)(hp:HP):Prop:=∀ a d,hpAt hp a=some d→F a=none∧zbt K F H a d
theorem RT.lent {K:PySem.W.Frag}{B B':Bs}{F H:Hp}{sd:SD}{hp:HP}{σ : St}(t:RT K B B' F H sd hp σ):Lent K F H hp:=fun _ _ h=>⟨t.free h,t.lies h⟩
section
variable {K:PySem.W.Frag}{B B':Bs}{F H:Hp}{sd:SD}{hp:HP}{σ : St}
theorem RT.drop (t:RT K B B' F H sd hp σ):RS K B F H sd σ := ⟨t.ext0 t.rs.ext,t.rs.len,t.rs.val,fun q=>let ⟨l,l1,l2,l3,l4,l5⟩:=t.rs.own q;⟨l,l1,zan t.sub l2,l3,l4,fun z=>by rw [← t.pa];exact l5 z⟩,t.rs.apart⟩
end
end L2.DL
namespace L2.DL
open PySem PySem.Spec PyProof.Rows
abbrev FX2:=SD→HP→Res (D×HP)
abbrev FXA2:=SD→HP→Res (List D×HP)
abbrev FXT2:=SD→HP→Res (Bool×HP)
def tDX2 (K:PySem.W.Frag)(E:XK)(f:FX2):TE:=fun σ H Q => ∃ B B' F sd hp,RT K B B' F H sd hp σ ∧ (f sd hp).need (fun p => ∀ v B2 F' H',Same F F'→RT K B B2 F' H' sd p.2 σ → IsD K F' p.1 v→Q v H') (XW K E B.F0 B.H0)
abbrev Q2X (X:Cx)(E:XK)(e:Expr)(f:FX2):Prop:=PE X e (tDX2 X.K E f)
def tDXA2 (K:PySem.W.Frag)(E:XK)(f:FXA2):TA:=fun σ H Q => ∃ B B' F sd hp,RT K B B' F H sd hp σ ∧ (f sd hp).need (fun p => ∀ vs B2 F' H',Same F F'→RT K B B2 F' H' sd p.2 σ → IsDs K F' p.1 vs→Q vs H') (XW K E B.F0 B.H0)
abbrev Q2XA (X:Cx)(E:XK)(es:List Expr)(f:FXA2):Prop:=PA X es (tDXA2 X.K E f)
def tDXT2 (K:PySem.W.Frag)(E:XK)(f:FXT2):TT:=fun σ H Q => ∃ B B' F sd hp,RT K B B' F H sd hp σ ∧ (f sd hp).need (fun p => ∀ B2 F' H',Same F F'→RT K B B2 F' H' sd p.2 σ → Q p.1 H') (XW K E B.F0 B.H0)
abbrev Q2XT (X:Cx)(E:XK)(e:Expr)(f:FXT2):Prop:=PT X e (tDXT2 X.K E f)
section
variable {X:Cx}{E:XK}{m:Option Bool}{a b e o i:Expr}{es:List Expr}{fa fb fe fo fi:FE}{f2 g2:FX2}{fr:FXA2}{pos pos':Pos}
def x2L (fe:FE):FX2:=fun sd hp=>(fe sd).bind fun d=>.ok (d,hp)
theorem zax (h:QE X E e fe):Q2X X E e (x2L fe):=PE.weak h (by rintro σ H Q ⟨B,B',F,sd,hp,t,n⟩;exact ⟨B',F,sd,t.rs,(Res.need_bind n).mono (fun d n1 v F1 H1 e1 i1=>n1 v B' F1 H1 e1.ff (t.go e1.ff (t.rs.step e1)) i1) fun _ _ q=>q.ext (t.ext0 t.rs.ext)⟩)
def x2Ix (fo fi:FE):FX2:=fun sd hp=>(fo sd).bind fun o=>match o with
 | .adr a=>match hpAt hp a with
  | some (.lst es)=>(fi sd).bind fun k=>(Res.ofO (gIx (.lst es) k)).bind fun z=>.ok (z,hp)
  | _=>.no
 | _=>.no
theorem ziP (ho:QE X E o fo)(hi:QE X E i fi)(hs:zbN i):Q2X X E (.Subscript o i pos) (x2Ix fo fi):=PE.weak (zgj zdy ho hi hs) fun σ H Q zh=>by
 obtain ⟨B,B',F,sd,hp,t,n⟩:=zh
 refine ⟨B',F,sd,t.rs,(Res.need_bind n).mono (fun d n1 v F1 H1 e1 i1 => ?_) fun _ _ q=>q.ext (t.ext0 t.rs.ext)⟩
 split at n1
 ·rename_i a
  obtain rfl:=IsD.adr_iff.mp i1
  split at n1
  ·rename_i es ha
   have t1:=t.go e1.ff (t.rs.step e1)
   refine ⟨B',F1,sd,t1.rs,(Res.need_bind n1).mono (fun y n2 w F2 H2 e2 i2 => ?_) fun _ _ q=>q.ext (t.ext0 t1.rs.ext)⟩
   have t2:=t1.go e2.ff (t1.rs.step e2)
   obtain ⟨xs,g1,g2⟩:=t2.lies ha
   obtain ⟨z,hz,q⟩:=Res.need_ofO (Res.need_bind n2)
   cases y with
   | int k =>
    obtain ⟨x,hx,ix⟩:=zd6 g2 (show atI es k=some z from hz)
    exact ⟨a,xs,k,x,rfl,IsD.int_iff.mp i2,SqL.of g1,hx,q _ B' F2 H2 (e1.ff.trans e2.ff) t2 ix⟩
   | _=>exact zqn hz
  ·exact n1.elim
 ·exact n1.elim
def x2Op (g:D→D→Option D)(fa fb:FX2):FX2:=fun sd hp=>(fa sd hp).bind fun p=>(fb sd p.2).bind fun q=>(Res.ofO (g p.1 q.1)).bind fun z=>.ok (z,q.2)
theorem zew {K:PySem.W.Frag}{g:D→D→Option D}{σ : St}{H:Hp}{Q:VK}(h:tDX2 K E (x2Op g f2 g2) σ H Q):tOp (rD2 K g) (tDX2 K E f2) (tDX2 K E g2) σ H Q:=by
 obtain ⟨B,B',F,sd,hp,t,n⟩:=h
 refine ⟨B,B',F,sd,hp,t,(Res.need_bind n).mono (fun p n1 v B1 F1 H1 s1 t1 i1 => ?_) fun _ _ q=>q⟩
 refine ⟨B,B1,F1,sd,p.2,t1,(Res.need_bind n1).mono (fun q n2 w B2 F2 H2 s2 t2 i2 => ?_) fun _ _ q=>q⟩
 obtain ⟨z,hz,k⟩:=Res.need_ofO (Res.need_bind n2)
 exact ⟨F2,p.1,q.1,z,t2.rs.ext.fh,IsD.same s2 _ _ i1,i2,hz,fun u F3 H3 e3 i3=>k u B2 F3 H3 ((s1.trans s2).trans e3.ff) (t2.go e3.ff (t2.rs.step e3)) i3⟩
theorem zco {op:Operator}{g:D→D→Option D}(ho:OpD X (binaryOp op) g)(ha:Q2X X E a f2)(hb:Q2X X E b g2):Q2X X E (.BinOp a op b pos) (x2Op g f2 g2):=PE.weak (zms ho ha hb) fun _ _ _ h=>zew h
theorem zkq {g:D→D→Option D}(hr:IxR X (rD2 X.K g))(ha:Q2X X E a f2)(hb:Q2X X E b g2)(hs:zbN b):Q2X X E (.Subscript a b pos) (x2Op g f2 g2):=PE.weak (zgj hr ha hb hs) fun _ _ _ h=>zew h
def zfZ (fa:FX2):FXT2:=fun sd hp=>(fa sd hp).bind fun p=>match p.1 with
 | .bl b=>.ok (b,p.2)
 | _=>.no
theorem zhL {op:CmpOp}{g:D→D→Option D}(ho:OpD X (compareOp op) g)(ha:Q2X X E a f2)(hb:Q2X X E b g2)(hm:behindInMarks op b=false):Q2XT X E (.Compare a [op] [b] pos) (zfZ (x2Op g f2 g2)):=PT.weak (zfW ho ha hb hm) fun σ H Q zh=>by
 obtain ⟨B,B',F,sd,hp,t,n⟩:=zh
 refine zew ⟨B,B',F,sd,hp,t,(Res.need_bind n).mono (fun p n1 v B1 F1 H1 s1 t1 i1 => ?_) fun _ _ q=>q⟩
 obtain ⟨d,hp1⟩:=p
 cases d with
 | bl k=>exact ⟨k,IsD.bl_iff.mp i1,n1 B1 F1 H1 s1 t1⟩
 | _=>exact n1.elim
noncomputable def zf7:FXA2:=fun _ hp=>.ok ([],hp)
def zbi (f:FX2)(g:FXA2):FXA2:=fun sd hp=>(f sd hp).bind fun p=>(g sd p.2).bind fun q=>.ok (p.1::q.1,q.2)
theorem zdj:Q2XA X E [] zf7:=PA.weak zdF (by rintro σ H Q ⟨B,B',F,sd,hp,t,n⟩;exact n [] B' F H (.refl _) t .nil)
theorem zaL (ha:Q2X X E e f2)(hr:Q2XA X E es fr)(hs:autoParam (starEach (e::es) X.env=(false,eval e X.env)::starEach es X.env) zau._auto_1):Q2XA X E (e::es) (zbi f2 fr):=PA.weak (zci ha hr hs) fun σ H Q zh=>by
 obtain ⟨B,B',F,sd,hp,t,n⟩:=zh
 refine ⟨B,B',F,sd,hp,t,(Res.need_bind n).mono (fun p n1 v B1 F1 H1 s1 t1 i1 => ?_) fun _ _ q=>q⟩
 refine ⟨B,B1,F1,sd,p.2,t1,(Res.need_bind n1).mono (fun q n2 vs B2 F2 H2 s2 t2 i2 => ?_) fun _ _ q=>q⟩
 exact n2 (v::vs) B2 F2 H2 (s1.trans s2) t2 (.mk (IsD.same s2 _ _ i1) i2)
def zgG (fr:FXA2):FX2:=fun sd hp=>(fr sd hp).bind fun p=>if p.1.length≤1000 then .ok (.tup p.1,p.2) else .no
theorem zg8 {x1}(h:Q2XA X E es fr):Q2X X E (.Tuple es x1 pos) (zgG fr):=PE.weak (zkE h) fun σ H Q zh=>by
 obtain ⟨B,B',F,sd,hp,t,n⟩:=zh
 refine ⟨B,B',F,sd,hp,t,(Res.need_bind n).mono (fun p n1 vs B1 F1 H1 s1 t1 i1 => ?_) fun _ _ q=>q⟩
 split at n1
 ·rename_i hl
  have hz:=i1.length
  refine ⟨zfx (by omega),fun q hq => ?_⟩
  have ea:=Ext.alloc t1.rs.ext.fh hq (.tup vs)
  exact n1 _ B1 _ _ (s1.trans ea.ff) (t1.go ea.ff (t1.rs.step ea)) (IsD.tup_iff.mpr ⟨q,vs,rfl,.of zah,IsDs.same ea.ff _ _ i1⟩)
 ·exact n1.elim
def zcL (i:Nat)(f:FX2):FS2:=fun sd hp=>(f sd hp).bind fun p=>.ok (.next (sd.set i (some (.val p.1))) p.2)
theorem ze7 {i:Nat}{x:Str}{p1:Pos}(hN:X.N.Nodup)(hi:X.N[i]? = some x)(hx:Loc X.env.scope x)(he:Q2X X E e f2)(hs:autoParam (swapsWith e (some (.Name x pos')) p1.line X.env=pure false) zau._auto_1)(hf:X.fn x=true∨X.env.scope.names.lookup x=some .local:=by first|exact .inl rfl|exact .inr rfl) :
 Q2S X E m (.Assign [.Name x pos'] e p1) (zcL i f2):=PS.weak (zdB hN hi hx he hs hf) fun T σ H zh=>by
 obtain ⟨B,B',F,sd,hp,t,n⟩:=zh
 refine ⟨B,B',F,sd,hp,t,(Res.need_bind n).mono (fun p n1 v B1 F1 H1 s1 t1 i1 => ?_) fun _ _ q=>q⟩
 exact n1 _ B1 F1 H1 s1 (t1.go (.refl _) (t1.rs.setVal i1))
def zd0 (fo fi:FE)(fv:FX2):FS2:=fun sd hp=>(fv sd hp).bind fun p=>(fo sd).bind fun o=>match o with
 | .adr a=>match hpAt p.2 a with
  | some (.lst es)=>(fi sd).bind fun k=>match k with
   | .int k=>match ixN es.length k with
    | some q=>.ok (.next sd (zey p.2 a (.lst (es.set q p.1))))
    | none=>.no
   | _=>.no
  | _=>.no
 | _=>.no
theorem zhB (ho:QE X E o fo)(hi:QE X E i fi)(hv:Q2X X E e f2)(ha:∀ v,assign (.Subscript o i pos') X.env v=(do
 let ov ← holding [v] (eval o X.env)
 let iv ← holding [v,ov] (eval i X.env)
 standAt pos'
 holding [v,ov,iv] (setItem ov iv v)
 release [v,ov,iv] []):=by intro _;rfl) (hs:swapsWithSole [.Subscript o i pos'] e pos.line X.env=pure false:=by rfl) (hw:swappedStores [.Subscript o i pos'] e X.env=pure none:=by rfl)
 (h1:autoParam ((assignEach [.Subscript o i pos'] X.env).map (·.2)=[assign (.Subscript o i pos') X.env]) zau._auto_1):Q2S X E m (.Assign [.Subscript o i pos'] e pos) (zd0 fo fi f2):=PS.weak (ziA hv (ziR ho hi zff ha) hs hw h1) fun T σ H zh=>by
 obtain ⟨B,B',F,sd,hp,t,n⟩:=zh
 refine ⟨B,B',F,sd,hp,t,(Res.need_bind n).mono (fun p n1 v B1 F1 H1 s1 t1 i1 => ?_) fun _ _ q=>q⟩
 refine ⟨B1,F1,sd,t1.rs,(Res.need_bind n1).mono (fun d n2 v2 F2 H2 e2 i2 => ?_) fun _ _ q=>q.ext (t1.ext0 t1.rs.ext)⟩
 split at n2
 ·rename_i a
  obtain rfl:=IsD.adr_iff.mp i2
  have t2:=t1.go e2.ff (t1.rs.step e2)
  split at n2
  ·rename_i es ha
   refine ⟨B1,F2,sd,t2.rs,(Res.need_bind n2).mono (fun k n3 w F3 H3 e3 i3 => ?_) fun _ _ q=>q.ext (t1.ext0 t2.rs.ext)⟩
   have t3:=t2.go e3.ff (t2.rs.step e3)
   split at n3
   ·rename_i k
    split at n3
    ·rename_i q hk
     obtain ⟨xs,g1,g2⟩:=t3.lies ha
     have hl:=g2.length
     refine ⟨a,xs,k,q,rfl,IsD.int_iff.mp i3,g1,by rw [hl];exact hk,?_⟩
     exact n3 σ _ F3 _ ((s1.trans e2.ff).trans e3.ff) (t3.chg ha ⟨_,zah,g2.set q (IsD.same (e2.ff.trans e3.ff) _ _ i1)⟩)
    ·exact n3.elim
   ·exact n3.elim
  ·exact n2.elim
 ·exact n2.elim
def zdV (i:Nat)(f:FX2):FS2:=fun sd hp=>match sd[i]? with
 | some (some (.own false (.lst ds)))=>(f sd hp).bind fun p=>if ds.length<sizeLine then .ok (.next (sd.set i (some (.own false (.lst (ds++[p.1]))))) p.2) else .no
 | _=>.no
theorem zjZ {i:Nat}{apos cpos:Pos}(ho:PE X o (tVar i))(he:Q2X X E e f2)
 (hp:∀ {to:TE} {t:TA},PE X o to→PA X [e] t→PE X (.Call (.Attribute o "append" apos) [e] [] cpos) (tBM X.K "list" zdn to t))
 (hs:autoParam (swapsWith (.Call (.Attribute o "append" apos) [e] [] cpos) none pos.line X.env=pure false) zau._auto_1)
 (hst:autoParam (starEach [e] X.env=(false,eval e X.env)::starEach [] X.env) zau._auto_1):Q2S X E m (.Expr (.Call (.Attribute o "append" apos) [e] [] cpos) pos) (zdV i f2) :=
 PS.weak (zes (hp ho (zci he zdF hst)) hs) fun T σ H zh=>by
  obtain ⟨B,B',F,sd,hp,t,n⟩:=zh
  unfold zdV at n
  split at n
  ·rename_i ds hi
   obtain ⟨l,h1,h2,h3,⟨xs,h4,h5⟩,_⟩:=t.rs.own hi
   refine ⟨.ref l,h1,.inl ⟨rfl,xs,SqL.of h4⟩,B,B',F,sd,hp,t,(Res.need_bind n).mono (fun p n3 v B1 F1 H1 s1 t1 i1 => ?_) fun _ _ q=>q⟩
   split at n3
   ·rename_i hz
    obtain ⟨l',g1,g2,g3,⟨ys,g4,g5⟩,_⟩:=t1.rs.own hi
    rw [h1] at g1
    cases g1
    have hl:=g5.length
    refine ⟨l,ys,v,rfl,rfl,g4,by omega,?_⟩
    exact n3 σ B1 F1 _ s1 (t1.go (.refl _) (t1.rs.chg hi h1 ⟨ys++[v],zah,g5.snoc i1⟩))
   ·exact n3.elim
  ·exact n.elim
end
def zlR (K:PySem.W.Frag)(E:XK)(g:FX2):TS:=fun T σ H => ∃ B B' F sd hp,RT K B B' F H sd hp σ ∧ (g sd hp).need (fun p => ∀ v σ' sd' B2 F' H',Same F F'→RT K B B2 F' H' sd' p.2 σ'→IsD K F' p.1 v→T.rt v H') (XW K E B.F0 B.H0)
abbrev Q2E' (X:Cx)(E:XK)(sts:List Stmt)(g:FX2):Prop:=PSs X sts (zlR X.K E g)
section
variable {X:Cx}{E:XK}{m:Option Bool}{e:Expr}{f2 g2 ga:FX2}{g1:FS2}{fc:FXT2}{pos:Pos}{st:Stmt}{sts a:List Stmt}{c:Expr}
theorem zdX (h:Q2X X E e f2):Q2E' X E [.Return (some e) pos] f2:=PSs.weak (ze5 (zeU h)) (by rintro T σ H ⟨B,B',F,sd,hp,t,n⟩;exact ⟨B,B',F,sd,hp,t,n.mono (fun p n1 v B1 F1 H1 s1 t1 i1=>n1 v σ sd B1 F1 H1 s1 t1 i1) fun _ _ q=>q⟩)
def eSeq (g1:FS2)(g2:FX2):FX2:=fun sd hp=>(g1 sd hp).bind fun o=>match o with
 | .next sd' hp'=>g2 sd' hp'
 | _=>.no
theorem zba (h1:Q2S X E m st g1)(h2:Q2E' X E sts g2):Q2E' X E (st::sts) (eSeq g1 g2):=PSs.weak (zb7 h1 h2) fun T σ H zh=>by
 obtain ⟨B,B',F,sd,hp,t,n⟩:=zh
 refine ⟨B,B',F,sd,hp,t,(Res.need_bind n).mono (fun o n1 => ?_) fun _ _ q=>q⟩
 cases o with
 | next sd' hp'=>exact fun σ' B2 F' H' s r'=>⟨B,B2,F',sd',hp',r',n1.mono (fun p q v σ2 sd2 B3 F3 H3 s3 t3 i3=>q v σ2 sd2 B3 F3 H3 (s.trans s3) t3 i3) fun _ _ q=>q⟩
 | ret d=>exact n1.elim
 | brk sd' hp'=>exact n1.elim
 | cont sd' hp'=>exact n1.elim
def eIf (fc:FXT2)(ga g2:FX2):FX2:=fun sd hp=>(fc sd hp).bind fun p=>if p.1 then ga sd p.2 else g2 sd p.2
theorem qe_if (hc:Q2XT X E c fc)(ha:Q2E' X E a ga)(h2:Q2E' X E sts g2):Q2E' X E (.If c a [] pos::sts) (eIf fc ga g2):=PSs.weak (zb7 (zjS hc ha zd2) h2) fun T σ H zh=>by
 obtain ⟨B,B',F,sd,hp,t,n⟩:=zh
 refine ⟨B,B',F,sd,hp,t,(Res.need_bind n).mono (fun p n1 B1 F1 H1 s1 t1 => ?_) fun _ _ q=>q⟩
 obtain ⟨k,hp1⟩:=p
 cases k with
 | true=>exact ⟨B,B1,F1,sd,hp1,t1,n1.mono (fun p q v σ2 sd2 B3 F3 H3 s3 t3 i3=>q v σ2 sd2 B3 F3 H3 (s1.trans s3) t3 i3) fun _ _ q=>q⟩
 | false=>exact ⟨B,B1,F1,sd,hp1,t1,n1.mono (fun p q v σ2 sd2 B3 F3 H3 s3 t3 i3=>q v σ2 sd2 B3 F3 H3 (s1.trans s3) t3 i3) fun _ _ q=>q⟩
end
end L2.DL
namespace L2.DL
open PySem PySem.Spec PyProof.Rows
structure ExtW (K:PySem.W.Frag)(F H:Hp)(hp:HP)(F' H':Hp)(hp':HP):Prop where
 ff:Same F F'
 fh:Same F' H'
 hh:∀ a o,hpAt hp a=none→H a=some o→H' a=some o
 new:∀ a,F a=none→H a≠none→F' a=none
 len:Lent K F' H' hp'
 dom:∀ a,hpAt hp' a=none↔hpAt hp a=none
theorem zc4:∀ {hp:HP} {a:Addr},hpAt hp a=none↔a∉hp.map (·.1)
 | [],a=>by simp [zcg]
 | p::r,a=>by
  rw [zaq,List.map_cons,List.mem_cons,not_or]
  by_cases z:a=p.1
  ·rw [if_pos z]
   exact ⟨fun h=>(nomatch h),fun h=>absurd z h.1⟩
  ·rw [if_neg z,zc4 (hp:=r)]
   exact ⟨fun h=>⟨z,h⟩,fun h=>h.2⟩
def hide (H:Hp)(hp:HP):Hp:=fun a=>match hpAt hp a with
 | none=>H a
 | some _=>none
theorem zbC {H:Hp}{hp:HP}{a:Addr}(h:hpAt hp a=none):hide H hp a=H a:=by unfold hide;rw [h]
theorem zjk {H:Hp}{hp:HP}{a:Addr}{d:D}(h:hpAt hp a=some d):hide H hp a=none:=by unfold hide;rw [h]
def SpE2 (K:PySem.W.Frag)(Fn:List D→HP→Res (D×HP)):Sp:=fun vs H Q _ => ∃ F ds hp,Same F H∧IsDs K F ds vs∧Lent K F H hp∧(Fn ds hp).need (fun p => ∀ v F' H',ExtW K F H hp F' H' p.2→IsD K F' p.1 v→Q v H') (XW K E0 F (hide H hp))
def zc5 (n ar:Nat)(g:FX2)(ds:List D)(hp:HP):Res (D×HP):=if ds.length=ar then (g (zay n ds) hp).bind fun p=>if p.2.map (·.1)=hp.map (·.1) then .ok p else .no else .no
section
variable {K:PySem.W.Frag}{B B':Bs}{F F' H H':Hp}{sd:SD}{hp hp':HP}{σ : St}
theorem RT.call (t:RT K B B' F H sd hp σ)(w:ExtW K F H hp F' H' hp'):∃ B2,RT K B B2 F' H' sd hp' σ := by
 have out:∀ a o,hpAt hp a=none→B'.H0 a=some o→H' a=some o:=fun a o h e=>w.hh a o h (t.rs.ext.hh _ _ e)
 refine ⟨⟨B'.F0,fun a=>match hpAt hp a with
  | none=>B'.H0 a
  | some _=>H' a,B'.pa⟩,⟨⟨t.rs.ext.ff.trans w.ff,w.fh,fun a o e => ?_,fun a h0 h1 => ?_⟩,t.rs.len,fun q=>let ⟨v,h1,h2⟩:=t.rs.val q;⟨v,h1,IsD.same w.ff _ _ h2⟩,fun {i p d} q => ?_,t.rs.apart⟩,t.f0,t.pa,fun a ha => ?_,fun a d ha => ?_⟩
 ·have e:(match hpAt hp a with
   | none=>B'.H0 a
   | some _=>H' a)=some o:=e
  cases z:hpAt hp a with
  | none=>rw [z] at e;exact out a o z e
  | some d=>rw [z] at e;exact e
 ·cases z:hpAt hp a with
  | none =>
   have h1:(match hpAt hp a with
    | none=>B'.H0 a
    | some _=>H' a)≠none:=h1
   rw [z] at h1
   refine w.new a (t.rs.ext.new a h0 h1) fun y => ?_
   exact h1 (zan t.rs.ext.hh y)
  | some d =>
   obtain ⟨o,ho⟩:=(t.lies z).has
   exact w.new a (t.free z) (by rw [ho];simp)
 ·obtain ⟨l,l1,l2,l3,l4,l5⟩:=t.rs.own q
  have hl:hpAt hp l=none:=by
   cases z:hpAt hp l with
   | none=>rfl
   | some d'=>exact absurd rfl (t.no_own z l2)
  obtain ⟨o,ho⟩:=l4.has
  refine ⟨l,l1,?_,w.new l l3 (by rw [ho];simp),l4.ext w.ff fun u q=>w.hh _ _ hl q,fun z=>(l5 z).mono fun u q=>w.hh _ _ hl q⟩
  show (match hpAt hp l with
   | none=>B'.H0 l
   | some _=>H' l)=none
  rw [hl]
  exact l2
 ·have ha:=(w.dom a).mp ha
  show (match hpAt hp a with
   | none=>B'.H0 a
   | some _=>H' a)=B.H0 a
  rw [ha]
  exact t.out a ha
 ·cases z:hpAt hp a with
  | none=>rw [(w.dom a).mpr z] at ha;cases ha
  | some d0 =>
   obtain ⟨c1,c2,_⟩:=t.obj a d0 z
   refine ⟨c1,c2,(w.len a d ha).2.ext (.refl _) fun o q => ?_⟩
   show (match hpAt hp a with
    | none=>B'.H0 a
    | some _=>H' a)=some o
   rw [z]
   exact q
theorem RT.hidden (t:RT K B B' F H sd hp σ):Ext B.F0 B.H0 F (hide H hp):=by
 have e:=t.ext0 t.rs.ext
 refine ⟨e.ff,fun a o q => ?_,fun a o q => ?_,e.new⟩
 ·cases z:hpAt hp a with
  | none=>rw [zbC z];exact e.fh _ _ q
  | some d=>rw [t.free z] at q;exact zqn q
 ·cases z:hpAt hp a with
  | none=>rw [zbC z];exact e.hh _ _ q
  | some d=>rw [(t.obj a d z).2.1] at q;exact zqn q
end
section
variable {P:Program}{w:World}{K:PySem.W.Frag}{mg:Str→Option Value}{base:Heap}{x qual:Str}{st:Stmt}{f:Addr}{fd:FuncData}{N ps:List Str}{k:Nat}
theorem ziw {g:FX2}(F:Fun K x qual st f fd)(S:FnScope N ps (zaf st))
 (hb:∀ (cdv:Value) (A:Around) (outer:List Env) (s:Shared) (H:Hp) (E:XK),Room k (A.deeper (envOfC qual (zaf st) s.heap.objs.size f cdv))→PSs (cxOf CX0 P w K mg base N qual (zaf st) f cdv A outer s H E).nox (zaT st) (zlR K E0 g)) :
 FnOk P w K mg base CX0 (k+1) f fd ps (SpE2 K (zc5 N.length ps.length g)):=by
 refine F.ok S (fun vs H Q E ⟨F,ds,hp,_,i,_,n⟩ => ?_) fun cdv A outer s H vs Q E hr ⟨F,ds,hp,hs,i,ln,n⟩=>⟨_,hb cdv A outer s H E hr,?_⟩
 ·unfold zc5 at n
  split at n
  ·rw [i.length];assumption
  ·exact n.elim
 ·unfold zc5 at n
  split at n
  ·have t:RT K ⟨F,hide H hp,fun _=>none⟩ ⟨F,H,fun _=>none⟩ F H (zay N.length ds) hp (L2.start N vs):=⟨RS.start hs i,rfl,rfl,fun a ha=>(zbC ha).symm,fun a d ha=>⟨(ln a d ha).1,zjk ha,(ln a d ha).2⟩⟩
   refine ⟨_,_,F,_,hp,t,(Res.need_bind n).mono (fun p n1 v σ' sd' B2 F' H' s1 t1 i1 => ?_) fun _ _ q=>q⟩
   split at n1
   ·rename_i hd
    have dom:∀ a,hpAt p.2 a=none↔hpAt hp a=none:=fun a=>by rw [zc4,zc4,hd]
    have e:=t1.ext0 t1.rs.ext
    refine n1 v F' H' ⟨s1,t1.rs.ext.fh,fun a o ha q=>e.hh a o ((zbC ha).trans q),fun a h0 h1 => ?_,t1.lent,dom⟩ i1
    cases z:hpAt hp a with
    | none=>exact e.new a h0 fun y=>h1 ((zbC z).symm.trans y)
    | some d =>
     cases y:hpAt p.2 a with
     | none=>rw [(dom a).mp y] at z;cases z
     | some d'=>exact t1.free y
   ·exact n1.elim
  ·exact n.elim
end
section
variable {X:Cx}{pos:Pos}
def zaC (Fn:List D→HP→Res (D×HP))(fr:FA):FX2:=fun sd hp=>(fr sd).bind fun ds=>Fn ds hp
theorem za6 {name:Str}{k:Nat}{ps:List Str}{Fn:List D→HP→Res (D×HP)}{p:Pos}{e:Expr}{es:List Expr}{fr:FA}(c:zak X.prog X.w X.K X.mg X.base name k ps (SpE2 X.K Fn))(hr:Room k X.A)(hg:Gl X name)(ha:QA X E0 (e::es) fr)
 (hdb:autoParam ((name == ("__debug__" : Str))=false) zav._auto_1) (he:starEach (e::es) X.env=(false,eval e X.env)::starEach es X.env:=by rfl) (hpl:(backTo pos (starEach es X.env)).any (·.1)=false:=by rfl) :
 Q2X X E0 (.Call (.Name name p) (e::es) [] pos) (zaC Fn fr):=PE.weak (zij c hr hg ha hdb he hpl) fun σ H Q zh=>by
 obtain ⟨B,B',F,sd,hp,t,n⟩:=zh
 refine ⟨B',F,sd,t.rs,(Res.need_bind n).mono (fun ds n1 vs F1 H1 e1 i1 => ?_) fun _ _ q=>q.ext (t.ext0 t.rs.ext)⟩
 have t1:=t.go e1.ff (t.rs.step e1)
 show SpE2 X.K Fn (vs++[]) H1 Q E0
 rw [List.append_nil]
 refine ⟨F1,ds,hp,e1.fh,i1,t1.lent,n1.mono (fun p n2 v F2 H2 w i => ?_) fun _ _ q=>q.ext t1.hidden⟩
 obtain ⟨B2,t2⟩:=t1.call w
 exact n2 v B2 F2 H2 (e1.ff.trans w.ff) t2 i
end
abbrev FX:=SD→Res (D×SD)
def tDX (K:PySem.W.Frag)(E:XK)(f:FX):TE:=fun σ H Q => ∃ B F sd,RS K B F H sd σ ∧ (f sd).need (fun p => ∀ v F' H',Same F F'→RS K B F' H' p.2 σ → IsD K F' p.1 v→Q v H') (XW K E B.F0 B.H0)
abbrev QX (X:Cx)(E:XK)(e:Expr)(f:FX):Prop:=PE X e (tDX X.K E f)
open Classical in
noncomputable def allX (g:Addr→Res (D×SD)):Res (D×SD):=if h:∃ o,∀ a,g a=.ok o then .ok (Classical.choose h) else .no
theorem zj3 {g:Addr→Res (D×SD)}{o:D×SD}(h:∀ a,g a=.ok o):allX g=.ok o:=by
 have hx:∃ o,∀ a,g a=.ok o:=⟨o,h⟩
 unfold allX
 rw [dif_pos hx]
 have h1:=Classical.choose_spec hx 0
 rw [h 0] at h1
 exact h1.symm
theorem zfJ {g:Addr→Res (D×SD)}{p:D×SD→Prop}{q:Str→List D→Prop}(h:(allX g).need p q)(a:Addr):(g a).need p q:=by
 unfold allX at h
 split at h
 ·rename_i hx
  rw [Classical.choose_spec hx a]
  exact h
 ·exact h.elim
def xOwn (i:Nat)(f:FX2):FX:=fun sd=>match sd[i]? with
 | some (some (.own false d))=>allX fun a=>(f (sd.set i (some (.val (.adr a)))) [(a,d)]).bind fun p=>match hpAt p.2 a with
  | some d1=>.ok (p.1,sd.set i (some (.own false d1)))
  | none=>.no
 | _=>.no
theorem RT.ofOwn {K:PySem.W.Frag}{B:Bs}{F H:Hp}{sd:SD}{σ : St}{i:Nat}{p:Bool}{d:D}{l:Addr}(r:RS K B F H sd σ)(hi:sd[i]? = some (some (.own p d)))(hl : σ[i]? = some (some (.ref l)))(h0:B.H0 l=none)(hf:F l=none)(ho:zbt K F H l d) :
 RT K B ⟨B.F0,fun a=>if a=l then H l else B.H0 a,B.pa⟩ F H (sd.set i (some (.val (.adr l)))) [(l,d)] σ := by
 have r1:=r.setVal (i:=i) (d:=.adr l) (v:=.ref l) (IsD.adr_iff.mpr rfl)
 rw [zbE hl] at r1
 have at_:∀ {a:Addr} {e:D},hpAt [(l,d)] a=some e→a=l∧e=d:=fun {a e} q=>by
  rw [zaq,zcg] at q
  by_cases z:a=l
  ·rw [if_pos z] at q;cases q;exact ⟨z,rfl⟩
  ·rw [if_neg z] at q;cases q
 refine ⟨⟨⟨r1.ext.ff,r1.ext.fh,fun a o e => ?_,fun a h1 h2 => ?_⟩,r1.len,r1.val,fun {j p' d'} q => ?_,r1.apart⟩,rfl,rfl,fun a ha => ?_,fun a e ha => ?_⟩
 ·have e:(if a=l then H l else B.H0 a)=some o:=e
  by_cases z:a=l
  ·rw [if_pos z] at e;rw [z];exact e
  ·rw [if_neg z] at e;exact r1.ext.hh _ _ e
 ·by_cases z:a=l
  ·rw [z];exact hf
  ·have h2:(if a=l then H l else B.H0 a)≠none:=h2
   rw [if_neg z] at h2
   exact r1.ext.new a h1 h2
 ·have ij:i≠j:=fun z=>by
   subst z
   have:=(zam q).1
   cases this
  obtain ⟨b,b1,b2,b3,b4,b5⟩:=r1.own q
  rw [zaj ij] at q
  have ne:b≠l:=fun z=>r.apart ij hi q hl (z ▸ b1)
  exact ⟨b,b1,by show (if b=l then H l else B.H0 b)=none;rw [if_neg ne];exact b2,b3,b4,b5⟩
 ·have ne:a≠l:=fun z=>by rw [zaq,if_pos z] at ha;cases ha
  show (if a=l then H l else B.H0 a)=B.H0 a
  rw [if_neg ne]
 ·obtain ⟨rfl,rfl⟩:=at_ ha
  refine ⟨zan r.ext.ff hf,h0,ho.ext (.refl _) fun o q => ?_⟩
  show (if a=a then H a else B.H0 a)=some o
  rw [if_pos rfl]
  exact q
theorem zcJ {X:Cx}{E:XK}{e:Expr}{i:Nat}{f2:FX2}(h:Q2X X E e f2):QX X E e (xOwn i f2):=PE.weak h fun σ H Q zh=>by
 obtain ⟨B,F,sd,r,n⟩:=zh
 unfold xOwn at n
 split at n
 ·rename_i d hi
  obtain ⟨l,h1,h2,h3,h4,_⟩:=r.own hi
  refine ⟨B,_,F,_,_,RT.ofOwn r hi h1 h2 h3 h4,(Res.need_bind (zfJ n l)).mono (fun p n1 v B2 F' H' s t i1 => ?_) fun _ _ q=>q⟩
  split at n1
  ·rename_i d1 hd
   refine n1 v F' H' s ?_ i1
   have r2:=t.drop.setOwn (i:=i) (d:=d1) (l:=l) (t.obj l d1 hd).2.1 (t.free hd) (t.lies hd) fun j p e q z=>by
    obtain ⟨b,b1,b2,_⟩:=t.rs.own q
    rw [z] at b1
    cases b1
    exact absurd rfl (t.no_own hd b2)
   rw [List.set_set,zbE h1] at r2
   exact r2
  ·exact n1.elim
 ·exact n.elim
section
variable {X:Cx}{E:XK}{m:Option Bool}{e o:Expr}{f:FX}{pos pos':Pos}
def zfj (i:Nat)(f:FX):FS:=fun sd=>(f sd).bind fun p=>.ok (.next (p.2.set i (some (.val p.1))))
@[simp] theorem zj4 (i:Nat)(f:FX)(sd:SD):zfj i f sd=(f sd).bind fun p=>.ok (.next (p.2.set i (some (.val p.1)))):=rfl
theorem ze3 {i:Nat}{x:Str}{p1:Pos}(hN:X.N.Nodup)(hi:X.N[i]? = some x)(hx:Loc X.env.scope x)(he:QX X E e f)(hs:autoParam (swapsWith e (some (.Name x pos')) p1.line X.env=pure false) zau._auto_1)(hf:X.fn x=true∨X.env.scope.names.lookup x=some .local:=by first|exact .inl rfl|exact .inr rfl) :
 QS X E m (.Assign [.Name x pos'] e p1) (zfj i f):=PS.weak (zdB hN hi hx he hs hf) fun T σ H zh=>by
 obtain ⟨B,F,sd,r,n⟩:=zh
 refine ⟨B,F,sd,r,(Res.need_bind n).mono (fun p n1 v F1 H1 s1 r1 i1 => ?_) fun _ _ q=>q⟩
 exact n1 _ F1 H1 s1 (r1.setVal i1)
def zeh (i:Nat)(f:FX):FS:=fun sd=>match sd[i]? with
 | some (some (.own false (.lst _)))=>(f sd).bind fun p=>match p.2[i]? with
  | some (some (.own false (.lst ds)))=>if ds.length<sizeLine then .ok (.next (p.2.set i (some (.own false (.lst (ds++[p.1])))))) else .no
  | _=>.no
 | _=>.no
theorem zgh {i:Nat}{apos cpos:Pos}(ho:PE X o (tVar i))(he:QX X E e f)
 (hp:∀ {to:TE} {t:TA},PE X o to→PA X [e] t→PE X (.Call (.Attribute o "append" apos) [e] [] cpos) (tBM X.K "list" zdn to t))
 (hs:autoParam (swapsWith (.Call (.Attribute o "append" apos) [e] [] cpos) none pos.line X.env=pure false) zau._auto_1)
 (hst:autoParam (starEach [e] X.env=(false,eval e X.env)::starEach [] X.env) zau._auto_1):QS X E m (.Expr (.Call (.Attribute o "append" apos) [e] [] cpos) pos) (zeh i f) :=
 PS.weak (zes (hp ho (zci he zdF hst)) hs) fun T σ H zh=>by
  obtain ⟨B,F,sd,r,n⟩:=zh
  unfold zeh at n
  split at n
  ·rename_i es hi
   obtain ⟨l,h1,h2,h3,⟨xs,h4,h5⟩,_⟩:=r.own hi
   refine ⟨.ref l,h1,.inl ⟨rfl,xs,SqL.of h4⟩,B,F,sd,r,(Res.need_bind n).mono (fun p n3 v F1 H1 s1 r1 i1 => ?_) fun _ _ q=>q⟩
   split at n3
   ·rename_i ds hj
    split at n3
    ·rename_i hz
     obtain ⟨l',g1,g2,g3,⟨ys,g4,g5⟩,_⟩:=r1.own hj
     rw [h1] at g1
     cases g1
     have hl:=g5.length
     refine ⟨l,ys,v,rfl,rfl,g4,by omega,?_⟩
     exact n3 σ F1 _ s1 (r1.chg hj h1 ⟨ys++[v],zah,g5.snoc i1⟩)
    ·exact n3.elim
   ·exact n3.elim
  ·exact n.elim
end
noncomputable def sNo:FS:=fun _=>.no
theorem qs_no {X:Cx}{E:XK}{m:Option Bool}{st:Stmt}:QS X E m st sNo:=(by rintro pins s σ H T I ⟨B,F,sd,r,n⟩;exact n.elim)
end L2.DL
namespace L2
open PySem PyProof.Rows
def zgK:List V→Hp→VK→Prop:=fun xs H Q => ∃ a ks,xs=[.ref a]∧Rd H a (.lst (ks.map V.int))∧ks.length<64∧∀ l,H l=none→Q (.ref l) (upd H l (.lst ((zb2 ltI ks).map V.int)))
theorem zcu {X:Cx}:zas X (.builtin "sorted") zgK:=by
 intro pins s σ H xs us Q I rv h
 obtain ⟨a,ks,rfl,ha,h64,q⟩:=h
 obtain ⟨u,rfl,ru⟩:=zcA rv
 obtain rfl:u=Value.ref a:=ru
 obtain ⟨its,ri,pl,hz⟩:=I.list (.inl ha)
 have l2:=ri.length
 rw [List.length_map] at l2
 have lw:its.length=ks.length:=l2.symm
 have up:∀ b o,s.heap.get? b=some o→((s.heap.push (seqObj "list" #[] 0)).update s.heap.objs.size (Obj.mapSeq (· ++ its.toArray))).get? b=some o:=fun b o e=>by
  rw [Heap.get?_update_ne _ _ _ _ (Nat.ne_of_lt (Heap.lt_size e)),Heap.get?_push_ne _ _ _ (Nat.ne_of_lt (Heap.lt_size e))]
  exact e
 have at3:∀ {i:Nat} {k:Int},ks[i]? = some k→∃ t,its[i]? = some (Value.int k t):=fun {i k} hi=>by
  obtain ⟨v,hv,rr⟩:=ri.get (i:=i) (x:=V.int k) (by rw [List.getElem?_map,hi];rfl)
  obtain ⟨t,rfl⟩:∃ t,v=Value.int k t:=rr
  exact ⟨t,hv⟩
 have inz:IntsAre its ks:=zgp lw fun i k hi=>at3 hi
 refine zgk (zdf.wk fun i=>ks.getD i 0) (collect_list pl.isList ⟨by omega,fun h' kp h2=>zh7 inz h2,fun jx h' l p u kp hl gl => ?_⟩ (by rw [lw];exact zfx (by omega)))
 obtain ⟨e,gl⟩:=gl
 rw [lw] at p u
 have szl:s.heap.objs.size≤l:=by
  have:((s.heap.push (seqObj "list" #[] 0)).update s.heap.objs.size (Obj.mapSeq (· ++ its.toArray))).objs.size=s.heap.objs.size+1:=by rw [Heap.size_update,size_push']
  have hl:((s.heap.push (seqObj "list" #[] 0)).update s.heap.objs.size (Obj.mapSeq (· ++ its.toArray))).objs.size≤l:=hl
  omega
 have sp:=zcY zdf p u
 refine ⟨.ref l,upd H l (.lst ((zb2 ltI ks).map V.int)),I.laid (a:=l) (o:=.lst ((zb2 ltI ks).map V.int)) (t':=s.toks) (fun b o e=>kp b o (up b o e)) szl ⟨?_,jx.toList.map (nthV its),e,?_,?_⟩,rfl,q l (I.hok.fresh szl)⟩
 ·rw [← sp,List.length_map,List.length_map,p.len];exact zfx (by omega)
 ·rw [← sp,List.map_map]
  refine zeV fun i hi => ?_
  have hn:=p.mem hi
  obtain ⟨t,ht⟩:=at3 (List.getElem?_eq_getElem hn)
  unfold nthV
  rw [zgm ht,show (V.int ∘ fun i=>ks.getD i 0) i=V.int (ks.getD i 0) from rfl,zgm (List.getElem?_eq_getElem hn)]
  exact ⟨t,rfl⟩
 ·rw [gl]
  congr 3
  apply Array.ext'
  simp
end L2
namespace L2.DL
open PySem L2
def zb8:List D→Option D
 | [d]=>(zbz d).bind fun ns=>if ns.length<64 then some (.lst ((zb2 ltI ns).map .int)) else none
 | _=>none
theorem zcF {ns:List Int}(h:ns.length<64):zb8 [.lst (ns.map .int)]=some (.lst ((zb2 ltI ns).map .int)):=by
 show (zbg zek (ns.map D.int)).bind _=_
 rw [zcR]
 exact if_pos h
section
variable {X:Cx}{E:XK}{m:Option Bool}{e:Expr}{es:List Expr}{sts:List Stmt}
theorem zcN:zas X (.builtin "sorted") (rDAN X.K zb8):=zas.weak zcu fun xs H Q zh=>by
 obtain ⟨F,ds,z,sF,id,hz,q⟩:=zh
 cases ds with
 | nil=>exact zqn hz
 | cons d ds =>
  cases ds with
  | cons _ _=>exact zqn hz
  | nil =>
   obtain ⟨v,rfl,h⟩:=zbv id
   obtain ⟨ns,h1,h2⟩:=Option.bind_eq_some_iff.mp (show (zbz d).bind (fun ns=>if ns.length<64 then some (D.lst ((zb2 ltI ns).map .int)) else none)=some z from hz)
   split at h2
   ·rename_i hl
    obtain rfl:=Option.some.inj h2
    obtain ⟨a,rfl,g⟩:=zbA h1 h
    exact ⟨a,ns,rfl,zeo sF g,hl,fun p hp=>q p F _ (.keep sF hp _) hp (zan sF hp) ⟨_,zah,IsDs.ints _⟩⟩
   ·exact zqn h2
end
end L2.DL
namespace L2.DL
open PySem PySem.Spec PyProof.Rows
section
variable {X:Cx}{E:XK}{e:Expr}{g:FX2}{fe:FE}{sts:List Stmt}
def eFrz (i:Nat)(g:FX2):FX2:=fun sd hp=>g (frzD [i] sd) hp
theorem ziG {i:Nat}(h:Q2E' X E sts g):Q2E' X E sts (eFrz i g):=PSs.weak h fun T σ H zh=>by
 obtain ⟨B,B',F,sd,hp,t,n⟩:=zh
 obtain ⟨F',s,r⟩:=t.rs.frz [i]
 exact ⟨B,B',F',_,hp,t.go s r,(show (g (frzD [i] sd) hp).need _ _ from n).mono (fun p q v σ2 sd2 B3 F3 H3 s3 t3 i3=>q v σ2 sd2 B3 F3 H3 (s.trans s3) t3 i3) fun _ _ q=>q⟩
def gIxS:D→D→Option D:=fun d e=>match d with
 | .dct _ _=>none
 | .dcf _ _=>none
 | d=>gIx d e
theorem ixd_S:IxR X (rD2 X.K gIxS):=zgN
def x2Rd (is:List Nat)(f:FE):FX2:=fun sd hp=>(f (derI hp is sd)).strict.bind fun d=>if zbP d then .ok (d,hp) else .no
theorem ziC (is:List Nat)(h:QE X E e fe):Q2X X E e (x2Rd is fe):=PE.weak h fun σ H Q zh=>by
 obtain ⟨B,B',F,sd,hp,t,n⟩:=zh
 obtain ⟨F1,s1,r1,ho⟩:=t.frz
 refine ⟨B,F1,_,r1.derI ho is,(Res.need_strict (Res.need_bind n)).mono (fun d n1 v F2 H2 e2 i2 => ?_) fun c fs q=>q⟩
 split at n1
 ·rename_i hs
  have eg:Ext F H F H2:=.grow t.rs.ext.fh e2.hh
  exact n1 v B' F H2 (.refl _) (t.go eg.ff (t.rs.step eg)) (i2.scal hs)
 ·exact n1.elim
theorem zh0:OpR X (binaryOp .FloorDiv) (rI (fun _ j=>0<j∧j.natAbs<bigB) fun i j=>.int (i / j)):=opI fun i j _ _ _ _ _ hc q=>by
 have h1:(0:Int)<j:=hc.1
 have hn:j.natAbs<2 ^ 1000:=Nat.lt_of_lt_of_le hc.2 (Nat.le_of_ble_eq_true rfl)
 have l:j.natAbs.log2<1000:=(Nat.log2_lt (show j.natAbs≠0 by omega)).mpr hn
 exact floordiv_int (by omega) (by rw [Int.fdiv_eq_ediv_of_nonneg i (by omega)];exact q) (.inl (PyProof.noPylong_of_log2 (by omega)))
def zdO:=gIc (fun _ j=>Nat.blt 0 j.toNat&&Nat.blt j.natAbs bigB) fun i j=>.int (i / j)
theorem zkt:OpD X (binaryOp .FloorDiv) zdO:=zdT zh0 (fun i j h=>by rw [Bool.and_eq_true,Nat.blt_eq,Nat.blt_eq] at h;exact ⟨by omega,h.2⟩) fun _ _ F=>isI _ F
theorem zhl {i j:Int}(h:0<j)(h2:j.natAbs<bigB):zdO (.int i) (.int j)=some (.int (i / j)):=by
 show (if Nat.blt 0 j.toNat&&Nat.blt j.natAbs bigB then _ else _)=_
 rw [if_pos (by rw [Bool.and_eq_true,Nat.blt_eq,Nat.blt_eq];exact ⟨by omega,h2⟩)]
end
end L2.DL
namespace L2.DL
open PySem PySem.Spec PyProof.Rows
section
variable {K:PySem.W.Frag}{B B' B2:Bs}{F F' H H':Hp}{sd sd2:SD}{hp hp2:HP}{σ : St}{l:Addr}{d:D}
theorem zde:∀ {h1 h2:HP} {a:Addr},hpAt (h1++h2) a=(hpAt h1 a).or (hpAt h2 a)
 | [],h2,a=>rfl
 | p::r,h2,a=>by
  rw [List.cons_append,zaq,zaq]
  by_cases z:a=p.1
  ·rw [if_pos z,if_pos z];rfl
  ·rw [if_neg z,if_neg z];exact zde
theorem RT.comp (t:RT K B B' F H sd hp σ)(t2:RT K B' B2 F H sd2 hp2 σ):RT K B B2 F H sd2 (hp2++hp) σ := by
 refine ⟨t2.rs,t2.f0.trans t.f0,t2.pa.trans t.pa,fun a ha => ?_,fun a e ha => ?_⟩
 ·rw [zde] at ha
  cases z:hpAt hp2 a with
  | some e=>rw [z] at ha;cases ha
  | none=>rw [z] at ha;exact (t2.out a z).trans (t.out a ha)
 ·rw [zde] at ha
  cases z:hpAt hp2 a with
  | some e' =>
   rw [z] at ha
   cases ha
   obtain ⟨b1,b2,b3⟩:=t2.obj a _ z
   exact ⟨by rw [← t.f0];exact b1,zan t.sub b2,b3⟩
  | none =>
   rw [z] at ha
   obtain ⟨b1,b2,b3⟩:=t.obj a e ha
   exact ⟨b1,b2,b3.ext (.refl _) fun o q=>t2.sub _ _ q⟩
theorem RT.split (t:RT K B B2 F H sd ((l,d)::hp) σ)(hl:hpAt hp l=none):∃ B3,RT K B3 B2 F H sd [(l,d)] σ ∧ ∀ sd',RS K B3 F H sd' σ → RT K B B3 F H sd' hp σ := by
 have at_:∀ {a:Addr},a≠l→hpAt ((l,d)::hp) a=hpAt hp a:=fun z=>by rw [zaq,if_neg z]
 have al:hpAt ((l,d)::hp) l=some d:=by rw [zaq,if_pos rfl]
 obtain ⟨b1,b2,b3⟩:=t.obj l d al
 refine ⟨⟨B2.F0,fun a=>if a=l then none else B2.H0 a,B2.pa⟩,⟨t.rs,rfl,rfl,fun a ha => ?_,fun a e ha => ?_⟩,fun sd' r=>⟨r,t.f0,t.pa,fun a ha => ?_,fun a e ha => ?_⟩⟩
 ·have ne:a≠l:=fun z=>by rw [zaq,if_pos z] at ha;cases ha
  show B2.H0 a=if a=l then none else B2.H0 a
  rw [if_neg ne]
 ·rw [zaq,zcg] at ha
  by_cases z:a=l
  ·rw [if_pos z] at ha
   cases ha
   rw [z]
   exact ⟨t.f0.symm ▸ b1,if_pos rfl,b3⟩
  ·rw [if_neg z] at ha;cases ha
 ·show (if a=l then none else B2.H0 a)=B.H0 a
  by_cases z:a=l
  ·rw [if_pos z,z,b2]
  ·rw [if_neg z];exact t.out a ((at_ z).trans ha)
 ·have ne:a≠l:=fun z=>by rw [z,hl] at ha;cases ha
  obtain ⟨c1,c2,c3⟩:=t.obj a e ((at_ ne).trans ha)
  refine ⟨c1,c2,c3.ext (.refl _) fun o q => ?_⟩
  show (if a=l then none else B2.H0 a)=some o
  rw [if_neg ne]
  exact q
end
abbrev FX3:=SD→HP→Res (D×SD×HP)
def tDX3 (K:PySem.W.Frag)(E:XK)(f:FX3):TE:=fun σ H Q => ∃ B B' F sd hp,RT K B B' F H sd hp σ ∧ (f sd hp).need (fun p => ∀ v B2 F' H',Same F F'→RT K B B2 F' H' p.2.1 p.2.2 σ → IsD K F' p.1 v→Q v H') (XW K E B.F0 B.H0)
abbrev Q3X (X:Cx)(E:XK)(e:Expr)(f:FX3):Prop:=PE X e (tDX3 X.K E f)
open Classical in
def all3 (hp:HP)(g:Addr→Res (D×SD×HP)):Res (D×SD×HP):=if h:∃ o,∀ a,hpAt hp a=none→g a=.ok o then .ok (Classical.choose h) else .no
theorem zjE {hp:HP}{g:Addr→Res (D×SD×HP)}{o:D×SD×HP}(h0:∃ a,hpAt hp a=none)(h:∀ a,hpAt hp a=none→g a=.ok o):all3 hp g=.ok o:=by
 have hx:∃ o,∀ a,hpAt hp a=none→g a=.ok o:=⟨o,h⟩
 obtain ⟨a,ha⟩:=h0
 unfold all3
 rw [dif_pos hx]
 have h1:=Classical.choose_spec hx a ha
 rw [h a ha] at h1
 exact h1.symm
theorem zhp {hp:HP}{g:Addr→Res (D×SD×HP)}{p:D×SD×HP→Prop}{q:Str→List D→Prop}(h:(all3 hp g).need p q){a:Addr}(ha:hpAt hp a=none):(g a).need p q:=by
 unfold all3 at h
 split at h
 ·rename_i hx
  rw [Classical.choose_spec hx a ha]
  exact h
 ·exact h.elim
def x3K (i:Nat)(sd:SD)(hp:HP)(a:Addr)(p:D×HP):Res (D×SD×HP):=match p.2 with
 | q::hp1=>if q.1=a∧hpAt hp1 a=none then .ok (p.1,sd.set i (some (.own false q.2)),hp1) else .no
 | []=>.no
def zg2 (i:Nat)(f:FX2):FX3:=fun sd hp=>match sd[i]? with
 | some (some (.own false d))=>all3 hp fun a=>(f (sd.set i (some (.val (.adr a)))) ((a,d)::hp)).bind (x3K i sd hp a)
 | _=>.no
theorem zlt {X:Cx}{E:XK}{e:Expr}{i:Nat}{f2:FX2}(h:Q2X X E e f2):Q3X X E e (zg2 i f2):=PE.weak h fun σ H Q zh=>by
 obtain ⟨B,B',F,sd,hp,t,n⟩:=zh
 unfold zg2 at n
 split at n
 ·rename_i d hi
  obtain ⟨l,h1,h2,h3,h4,_⟩:=t.rs.own hi
  have hl:hpAt hp l=none:=by
   cases z:hpAt hp l with
   | none=>rfl
   | some d'=>exact absurd rfl (t.no_own z h2)
  refine ⟨B,_,F,_,_,t.comp (RT.ofOwn t.rs hi h1 h2 h3 h4),(Res.need_bind (zhp n hl)).mono (fun p n1 v B2 F' H' s t1 i1 => ?_) fun _ _ q=>q⟩
  obtain ⟨y,hp1⟩:=p
  unfold x3K at n1
  split at n1
  ·rename_i q hp1' e0
   cases e0
   split at n1
   ·rename_i hq
    obtain ⟨q1,q2⟩:=q
    obtain ⟨e1,hn⟩:=hq
    cases e1
    obtain ⟨B3,t3,back⟩:=t1.split hn
    have hd:hpAt [(q1,q2)] q1=some q2:=by rw [zaq,if_pos rfl]
    have r2:=t3.drop.setOwn (i:=i) (d:=q2) (l:=q1) (t3.obj q1 q2 hd).2.1 (t3.free hd) (t3.lies hd) fun j p e q z=>by
     obtain ⟨b,b1,b2,_⟩:=t3.rs.own q
     rw [z] at b1
     cases b1
     exact absurd rfl (t3.no_own hd b2)
    rw [List.set_set,zbE h1] at r2
    exact n1 v B3 F' H' s (back _ r2) i1
   ·exact n1.elim
  ·exact n1.elim
 ·exact n.elim
section
variable {X:Cx}{E:XK}{m:Option Bool}{e o i:Expr}{es:List Expr}{f2 g2:FX2}{f3:FX3}{f:FX}{fr2:FXA2}{pos pos':Pos}
def ixX (z:D)(q:D×HP):Res (D×HP):=match z with
 | .adr a=>match hpAt q.2 a with
  | some (.lst es)=>(Res.ofO (gIx (.lst es) q.1)).bind fun z=>.ok (z,q.2)
  | _=>.no
 | _=>.no
def zjX (fo fi:FX2):FX2:=fun sd hp=>(fo sd hp).bind fun p=>(fi sd p.2).bind (ixX p.1)
theorem zjY (ho:Q2X X E o f2)(hi:Q2X X E i g2)(hs:zbN i):Q2X X E (.Subscript o i pos) (zjX f2 g2):=PE.weak (zgj zdy ho hi hs) fun σ H Q zh=>by
 obtain ⟨B,B',F,sd,hp,t,n⟩:=zh
 refine ⟨B,B',F,sd,hp,t,(Res.need_bind n).mono (fun p n1 v B1 F1 H1 s1 t1 i1 => ?_) fun _ _ q=>q⟩
 refine ⟨B,B1,F1,sd,p.2,t1,(Res.need_bind n1).mono (fun q n2 w B2 F2 H2 s2 t2 i2 => ?_) fun _ _ q=>q⟩
 unfold ixX at n2
 split at n2
 ·rename_i a he
  rw [he] at i1
  obtain rfl:=IsD.adr_iff.mp i1
  split at n2
  ·rename_i es ha
   obtain ⟨xs,g1,g2⟩:=t2.lies ha
   obtain ⟨z,hz,k⟩:=Res.need_ofO (Res.need_bind n2)
   obtain ⟨y,hp2⟩:=q
   cases y with
   | int j =>
    obtain ⟨x,hx,ix⟩:=zd6 g2 (show atI es j=some z from hz)
    exact ⟨a,xs,j,x,rfl,IsD.int_iff.mp i2,SqL.of g1,hx,k _ B2 F2 H2 (s1.trans s2) t2 ix⟩
   | _=>exact zqn hz
  ·exact n2.elim
 ·exact n2.elim
def zex (Fn:List D→HP→Res (D×HP))(fr:FXA2):FX2:=fun sd hp=>(fr sd hp).bind fun p=>Fn p.1 p.2
theorem zgH {name:Str}{k:Nat}{ps:List Str}{Fn:List D→HP→Res (D×HP)}{p:Pos}(c:zak X.prog X.w X.K X.mg X.base name k ps (SpE2 X.K Fn))(hr:Room k X.A)(hg:Gl X name)(ha:Q2XA X E0 (e::es) fr2)
 (hdb:autoParam ((name == ("__debug__" : Str))=false) zav._auto_1) (he:starEach (e::es) X.env=(false,eval e X.env)::starEach es X.env:=by rfl) (hpl:(backTo pos (starEach es X.env)).any (·.1)=false:=by rfl) :
 Q2X X E0 (.Call (.Name name p) (e::es) [] pos) (zex Fn fr2):=PE.weak (zij c hr hg ha hdb he hpl) fun σ H Q zh=>by
 obtain ⟨B,B',F,sd,hp,t,n⟩:=zh
 refine ⟨B,B',F,sd,hp,t,(Res.need_bind n).mono (fun p n1 vs B1 F1 H1 s1 t1 i1 => ?_) fun _ _ q=>q⟩
 show SpE2 X.K Fn (vs++[]) H1 Q E0
 rw [List.append_nil]
 refine ⟨F1,p.1,p.2,t1.rs.ext.fh,i1,t1.lent,n1.mono (fun q n2 v F2 H2 w i => ?_) fun _ _ q=>q.ext t1.hidden⟩
 obtain ⟨B2,t2⟩:=t1.call w
 exact n2 v B2 F2 H2 (s1.trans w.ff) t2 i
def zdb (i:Nat)(f:FX3):FS2:=fun sd hp=>(f sd hp).bind fun p=>.ok (.next (p.2.1.set i (some (.val p.1))) p.2.2)
theorem zia {i:Nat}{x:Str}{p1:Pos}(hN:X.N.Nodup)(hi:X.N[i]? = some x)(hx:Loc X.env.scope x)(he:Q3X X E e f3)(hs:autoParam (swapsWith e (some (.Name x pos')) p1.line X.env=pure false) zau._auto_1)(hf:X.fn x=true∨X.env.scope.names.lookup x=some .local:=by first|exact .inl rfl|exact .inr rfl) :
 Q2S X E m (.Assign [.Name x pos'] e p1) (zdb i f3):=PS.weak (zdB hN hi hx he hs hf) fun T σ H zh=>by
 obtain ⟨B,B',F,sd,hp,t,n⟩:=zh
 refine ⟨B,B',F,sd,hp,t,(Res.need_bind n).mono (fun p n1 v B1 F1 H1 s1 t1 i1 => ?_) fun _ _ q=>q⟩
 exact n1 _ B1 F1 H1 s1 (t1.go (.refl _) (t1.rs.setVal i1))
def zls (tg:Tg)(b:FS2)(hp:HP)(p:D×SD):Res Out2:=match p.1 with
 | .int j=>if zen j then for2 (zcv tg b) (zaz 0 j.toNat) p.2 hp else .no
 | _=>.no
def zfb (f:FX)(tg:Tg)(b:FS2):FS2:=fun sd hp=>(f sd).bind (zls tg b hp)
theorem zjt {tg a:Expr}{body:List Stmt}{t:Tg}{g:FS2}{p p2:Pos}(hp:PassesOwn (model X.prog X.w) X.A X.env X.xe)(hc:X.calm=true)(hgl:Gl X "range")(hm:X.mg "range" = none)(ha:QX X E a f)(hg:QG X tg t)(hb:Q2Ss X E m body g)(hst:autoParam (starEach [a] X.env=(false,eval a X.env)::starEach [] X.env) zau._auto_1)(hs:autoParam (starEach [a] X.env=[(false,eval a X.env)]) zau._auto_1)
 (hss:autoParam (∀ x,foldedSetIterable (.Call (.Name "range" p) [a] [] p2) X.env x=pure x) zaw._auto_1):Q2S X E m (.For tg (.Call (.Name "range" p) [a] [] p2) body [] pos) (zfb f t g):=PS.weak (zhg hp hc (zeg hgl hm (zci ha zdF hst) hs) hg hb hss) fun T σ H zh=>by
 obtain ⟨B,B',F,sd,hp,t,n⟩:=zh
 refine ⟨B',F,sd,t.rs,(Res.need_bind n).mono (fun q n1 v F1 H1 s1 r1 i1 => ?_) fun _ _ q=>t.xw q⟩
 unfold zls at n1
 split at n1
 ·rename_i j hj
  split at n1
  ·rename_i hk
   rw [hj] at i1
   rw [IsD.int_iff.mp i1]
   exact ⟨j,rfl,(zce hk).1,(zce hk).2,zho (zcM 0 _) (t.go s1 r1) (n1.mono (fun _ q=>q.mono s1) fun _ _ q=>q)⟩
  ·exact n1.elim
 ·exact n1.elim
end
end L2.DL
namespace L2.DL
open PySem PySem.Spec PyProof.Rows
noncomputable def unp0:D→D
 | .pin _ d=>d
 | d=>d
def unpL:D→D
 | .lst ds=>.lst (ds.map unp0)
 | .pin _ d=>d
 | d=>d
def unpI:D→D
 | .ins c fs ds=>.ins c fs (ds.map unpL)
 | d=>unpL d
section
variable {K:PySem.W.Frag}{F H:Hp}
theorem IsDs.mapD {f:D→D}(h:∀ d v,IsD K F d v→IsD K F (f d) v):∀ {ds:List D} {xs:List V},IsDs K F ds xs→IsDs K F (ds.map f) xs
 | [],_,q=>q
 | d::ds,xs,q=>by
  obtain ⟨x,r,h1,h2,h3⟩:=IsDs.cons_iff.mp q
  exact IsDs.cons_iff.mpr ⟨x,r,h1,h d x h2,IsDs.mapD h h3⟩
theorem IsD.unp0 {d:D}{v:V}(h:IsD K F d v):IsD K F (unp0 d) v:=by
 cases d with
 | pin a d=>exact (IsD.pin_iff.mp h).2
 | _=>exact h
theorem IsD.unpL {d:D}{v:V}(h:IsD K F d v):IsD K F (unpL d) v:=by
 cases d with
 | pin a d=>exact (IsD.pin_iff.mp h).2
 | lst ds =>
  obtain ⟨a,xs,h1,h2,h3⟩:=IsD.lst_iff.mp h
  exact IsD.lst_iff.mpr ⟨a,xs,h1,h2,h3.mapD fun _ _ q=>q.unp0⟩
 | _=>exact h
theorem IsD.unpI {d:D}{v:V}(h:IsD K F d v):IsD K F (unpI d) v:=by
 cases d with
 | ins c fs ds =>
  obtain ⟨a,C,dx,xs,h1,h5,h2,h4,h3⟩:=IsD.ins_iff.mp h
  exact IsD.ins_iff.mpr ⟨a,C,dx,xs,h1,h5,h2,h4,h3.mapD fun _ _ q=>q.unpL⟩
 | _=>exact h.unpL
noncomputable def ziy:D→Bool
 | .ins _ _ _=>true
 | _=>false
theorem IsDs.pins:∀ {ds:List D} {xs:List V},ds.all ziy=true→IsDs K F ds xs→∃ as:List Addr,as.length=ds.length∧IsDs K F (List.zipWith .pin as ds) xs
 | [],_,_,q=>⟨[],rfl,q⟩
 | d::ds,xs,hi,q=>by
  obtain ⟨x,r,h1,h2,h3⟩:=IsDs.cons_iff.mp q
  rw [List.all_cons,Bool.and_eq_true] at hi
  obtain ⟨as,hl,h4⟩:=IsDs.pins hi.2 h3
  cases d with
  | ins c fs es =>
   obtain ⟨a,_,_,_,e,_⟩:=IsD.ins_iff.mp h2
   exact ⟨a::as,by rw [List.length_cons,List.length_cons,hl],IsDs.cons_iff.mpr ⟨x,r,h1,IsD.pin_iff.mpr ⟨e,h2⟩,h4⟩⟩
  | _=>exact zqb hi.1
end
open Classical in
noncomputable def allP (n:Nat)(g:List Addr→Res Out):Res Out:=if h:∃ o,∀ as,as.length=n→g as=.ok o then .ok (Classical.choose h) else .no
theorem zkz {n:Nat}{g:List Addr→Res Out}{o:Out}(h:∀ as,as.length=n→g as=.ok o):allP n g=.ok o:=by
 have hx:∃ o,∀ as,as.length=n→g as=.ok o:=⟨o,h⟩
 unfold allP
 rw [dif_pos hx]
 have hl:(List.replicate n (0:Addr)).length=n:=List.length_replicate
 have h1:=Classical.choose_spec hx _ hl
 rw [h _ hl] at h1
 exact h1.symm
theorem zfU {n:Nat}{g:List Addr→Res Out}{p:Out→Prop}{q:Str→List D→Prop}(h:(allP n g).need p q){as:List Addr}(ha:as.length=n):(g as).need p q:=by
 unfold allP at h
 split at h
 ·rename_i hx
  rw [Classical.choose_spec hx as ha]
  exact h
 ·exact h.elim
def sPin (i:Nat)(g:FS):FS:=fun sd=>match sd[i]? with
 | some (some (.val (.ins c fs [.lst ds])))=>if ds.all ziy then allP ds.length fun as=>g (sd.set i (some (.val (.ins c fs [.lst (List.zipWith .pin as ds)])))) else .no
 | _=>.no
section
variable {X:Cx}{E:XK}{m:Option Bool}{e:Expr}{fe:FE}{sts:List Stmt}{g:FS}
theorem zjL (i:Nat)(h:QSs X E m sts g):QSs X E m sts (sPin i g):=PSs.weak h fun T σ H zh=>by
 obtain ⟨B,F,sd,r,n⟩:=zh
 unfold sPin at n
 split at n
 ·rename_i c fs ds hi
  split at n
  ·rename_i hd
   obtain ⟨v,h1,h2⟩:=r.val hi
   obtain ⟨a,C,dx,xs,e1,e2,e3,e4,e5⟩:=IsD.ins_iff.mp h2
   obtain ⟨x,rs,e6,e7,e8⟩:=IsDs.cons_iff.mp e5
   obtain ⟨l,ys,e9,e10,e11⟩:=IsD.lst_iff.mp e7
   obtain ⟨as,hl,e12⟩:=e11.pins hd
   have r2:=r.setVal (i:=i) (v:=v) (IsD.ins_iff.mpr ⟨a,C,dx,xs,e1,e2,e3,e4,IsDs.cons_iff.mpr ⟨x,rs,e6,IsD.lst_iff.mpr ⟨l,ys,e9,e10,e12⟩,e8⟩⟩)
   rw [zbE h1] at r2
   exact ⟨B,F,_,r2,zfU n hl⟩
  ·exact n.elim
 ·exact n.elim
def dUnp (f:FE):FE:=fun sd=>(f sd).bind fun d=>.ok (unpI d)
@[simp] theorem ev_unp (f:FE)(sd:SD):dUnp f sd=(f sd).bind fun d=>.ok (unpI d):=rfl
theorem zcC (h:QE X E e fe):QE X E e (dUnp fe):=PE.weak h (by rintro σ H Q ⟨B,F,sd,r,n⟩;exact ⟨B,F,sd,r,(Res.need_bind n).mono (fun d n1 v F1 H1 e1 i1=>n1 v F1 H1 e1 i1.unpI) fun _ _ q=>q⟩)
noncomputable def pinA:D→Option Addr
 | .pin a _=>some a
 | _=>none
def gEqP:D→D→Option D
 | .lst ds,.lst es=>(zbg pinA ds).bind fun as=>(zbg pinA es).bind fun bs=>if as=bs then some (.bl true) else none
 | _,_=>none
theorem zds {K:PySem.W.Frag}{F:Hp}:∀ {ds:List D} {xs:List V} {as:List Addr},zbg pinA ds=some as→IsDs K F ds xs→xs=as.map V.ref
 | [],xs,as,h,q=>by cases h;exact IsDs.nil_iff.mp q
 | d::ds,xs,as,h,q=>by
  obtain ⟨x,r,h1,h2,h3⟩:=IsDs.cons_iff.mp q
  obtain ⟨a,ha,h⟩:=Option.bind_eq_some_iff.mp h
  obtain ⟨bs,hb,rfl⟩:=Option.map_eq_some_iff.mp h
  cases d with
  | pin b d =>
   cases ha
   rw [h1,(IsD.pin_iff.mp h2).1,zds hb h3]
   rfl
  | _=>exact zqn ha
theorem zcV:∀ {as:List Addr} {us:List Value},Vals (as.map V.ref) us→us=as.map Value.ref
 | [],us,r=>by cases r;rfl
 | a::as,us,r=>by
  cases r with
  | cons r1 r2 =>
   obtain rfl:_=Value.ref a:=r1
   rw [zcV r2]
   rfl
theorem o_eqP (hu:X.A.units+64<cLine):OpD X (compareOp .Eq) gEqP:=by
 rintro pins s σ H x y v u Q I rx ry ⟨F,d,e,z,sF,id,ie,hz,q⟩
 cases d with
 | lst ds =>
  cases e with
  | lst es =>
   obtain ⟨as,ha,hz⟩:=Option.bind_eq_some_iff.mp hz
   obtain ⟨bs,hb,hz⟩:=Option.bind_eq_some_iff.mp hz
   split at hz
   ·rename_i hab
    subst hab
    cases hz
    obtain ⟨l,xs,rfl,h2,h3⟩:=IsD.lst_iff.mp id
    obtain ⟨b,ys,rfl,h5,h6⟩:=IsD.lst_iff.mp ie
    obtain rfl:v=Value.ref l:=rx
    obtain rfl:u=Value.ref b:=ry
    obtain rfl:=zds ha h3
    obtain rfl:=zds hb h6
    obtain ⟨_,its,n1,r1,e1⟩:=(h2.same sF).ok I.hok
    obtain ⟨_,its2,n2,r2,e2⟩:=(h5.same sF).ok I.hok
    obtain rfl:=zcV r1
    obtain rfl:=zcV r2
    have ht:(List.range (as.map Value.ref).toArray.size).all (fun _=>true)=true:=List.all_eq_true.mpr fun _ _=>rfl
    refine PySem.P.eq_list (e:=fun _=>true) e1 e2 rfl (fun j h1 h2 => ?_) (by omega) ?_
    ·exact fun prog w A E s Q h=>PySem.SeqAt.EqAt.same (A:=A) (s:=s) _ prog w E Q h
    ·rw [ht]
     exact ⟨.bl _,H,I,rfl,q _ F H (.refl sF) (isB _ F)⟩
   ·exact zqn hz
  | _=>exact zqn hz
 | _=>exact zqn hz
noncomputable def gEqE:D→D→Option D
 | .lst ds,.lst []=>some (.bl ds.isEmpty)
 | _,_=>none
theorem o_eqE (hu:X.A.units+64<cLine):OpD X (compareOp .Eq) gEqE:=by
 rintro pins s σ H x y v u Q I rx ry ⟨F,d,e,z,sF,id,ie,hz,q⟩
 cases d with
 | lst ds =>
  cases e with
  | lst es =>
   cases es with
   | cons _ _=>exact zqn hz
   | nil =>
    cases hz
    obtain ⟨l,xs,rfl,h2,h3⟩:=IsD.lst_iff.mp id
    obtain ⟨b,ys,rfl,h5,h6⟩:=IsD.lst_iff.mp ie
    obtain rfl:v=Value.ref l:=rx
    obtain rfl:u=Value.ref b:=ry
    obtain rfl:=IsDs.nil_iff.mp h6
    obtain ⟨_,its,n1,r1,e1⟩:=(h2.same sF).ok I.hok
    obtain ⟨_,its2,n2,r2,e2⟩:=(h5.same sF).ok I.hok
    cases r2
    have hl:=h3.length
    have hl1:=r1.length
    cases ds with
    | nil =>
     have z0:its=[]:=List.length_eq_zero_iff.mp (by rw [← hl1,hl];rfl)
     subst z0
     exact PySem.P.eq_list (e:=fun _=>true) e1 e2 rfl (fun j h1 h2=>absurd h1 (Nat.not_lt_zero _)) (by omega) ⟨.bl true,H,I,rfl,q _ F H (.refl sF) (isB _ F)⟩
    | cons d ds =>
     refine PySem.P.eq_list_lengths e1 e2 ?_ (by omega) ⟨.bl false,H,I,rfl,q _ F H (.refl sF) (isB _ F)⟩
     have z1:its.length=ds.length+1:=by rw [← hl1,hl];rfl
     rw [List.size_toArray,z1]
     rfl
  | _=>exact zqn hz
 | _=>exact zqn hz
end
end L2.DL
set_option maxHeartbeats 4000000
namespace My
open PySem L2 L2.DL
@[simp high] theorem gt1 {α : Type}(a0 a1 : α)(l:List α):(a0::a1::l)[1]? = some a1:=rfl
@[simp high] theorem se1 {α : Type}(a0 a1 v : α)(l:List α):(a0::a1::l).set 1 v=a0::v::l:=rfl
@[simp high] theorem gt2 {α : Type}(a0 a1 a2 : α)(l:List α):(a0::a1::a2::l)[2]? = some a2:=rfl
@[simp high] theorem se2 {α : Type}(a0 a1 a2 v : α)(l:List α):(a0::a1::a2::l).set 2 v=a0::a1::v::l:=rfl
@[simp high] theorem gt3 {α : Type}(a0 a1 a2 a3 : α)(l:List α):(a0::a1::a2::a3::l)[3]? = some a3:=rfl
@[simp high] theorem se3 {α : Type}(a0 a1 a2 a3 v : α)(l:List α):(a0::a1::a2::a3::l).set 3 v=a0::a1::a2::v::l:=rfl
@[simp high] theorem gt4 {α : Type}(a0 a1 a2 a3 a4 : α)(l:List α):(a0::a1::a2::a3::a4::l)[4]? = some a4:=rfl
@[simp high] theorem se4 {α : Type}(a0 a1 a2 a3 a4 v : α)(l:List α):(a0::a1::a2::a3::a4::l).set 4 v=a0::a1::a2::a3::v::l:=rfl
@[simp high] theorem gt5 {α : Type}(a0 a1 a2 a3 a4 a5 : α)(l:List α):(a0::a1::a2::a3::a4::a5::l)[5]? = some a5:=rfl
@[simp high] theorem se5 {α : Type}(a0 a1 a2 a3 a4 a5 v : α)(l:List α):(a0::a1::a2::a3::a4::a5::l).set 5 v=a0::a1::a2::a3::a4::v::l:=rfl
@[simp high] theorem gt6 {α : Type}(a0 a1 a2 a3 a4 a5 a6 : α)(l:List α):(a0::a1::a2::a3::a4::a5::a6::l)[6]? = some a6:=rfl
@[simp high] theorem se6 {α : Type}(a0 a1 a2 a3 a4 a5 a6 v : α)(l:List α):(a0::a1::a2::a3::a4::a5::a6::l).set 6 v=a0::a1::a2::a3::a4::a5::v::l:=rfl
@[simp high] theorem gt7 {α : Type}(a0 a1 a2 a3 a4 a5 a6 a7 : α)(l:List α):(a0::a1::a2::a3::a4::a5::a6::a7::l)[7]? = some a7:=rfl
@[simp high] theorem se7 {α : Type}(a0 a1 a2 a3 a4 a5 a6 a7 v : α)(l:List α):(a0::a1::a2::a3::a4::a5::a6::a7::l).set 7 v=a0::a1::a2::a3::a4::a5::a6::v::l:=rfl
@[simp high] theorem gt8 {α : Type}(a0 a1 a2 a3 a4 a5 a6 a7 a8 : α)(l:List α):(a0::a1::a2::a3::a4::a5::a6::a7::a8::l)[8]? = some a8:=rfl
@[simp high] theorem se8 {α : Type}(a0 a1 a2 a3 a4 a5 a6 a7 a8 v : α)(l:List α):(a0::a1::a2::a3::a4::a5::a6::a7::a8::l).set 8 v=a0::a1::a2::a3::a4::a5::a6::a7::v::l:=rfl
@[simp high] theorem gt9 {α : Type}(a0 a1 a2 a3 a4 a5 a6 a7 a8 a9 : α)(l:List α):(a0::a1::a2::a3::a4::a5::a6::a7::a8::a9::l)[9]? = some a9:=rfl
@[simp high] theorem se9 {α : Type}(a0 a1 a2 a3 a4 a5 a6 a7 a8 a9 v : α)(l:List α):(a0::a1::a2::a3::a4::a5::a6::a7::a8::a9::l).set 9 v=a0::a1::a2::a3::a4::a5::a6::a7::a8::v::l:=rfl
@[simp high] theorem gt10 {α : Type}(a0 a1 a2 a3 a4 a5 a6 a7 a8 a9 a10 : α)(l:List α):(a0::a1::a2::a3::a4::a5::a6::a7::a8::a9::a10::l)[10]? = some a10:=rfl
@[simp high] theorem se10 {α : Type}(a0 a1 a2 a3 a4 a5 a6 a7 a8 a9 a10 v : α)(l:List α):(a0::a1::a2::a3::a4::a5::a6::a7::a8::a9::a10::l).set 10 v=a0::a1::a2::a3::a4::a5::a6::a7::a8::a9::v::l:=rfl
@[simp high] theorem gt11 {α : Type}(a0 a1 a2 a3 a4 a5 a6 a7 a8 a9 a10 a11 : α)(l:List α):(a0::a1::a2::a3::a4::a5::a6::a7::a8::a9::a10::a11::l)[11]? = some a11:=rfl
@[simp high] theorem se11 {α : Type}(a0 a1 a2 a3 a4 a5 a6 a7 a8 a9 a10 a11 v : α)(l:List α):(a0::a1::a2::a3::a4::a5::a6::a7::a8::a9::a10::a11::l).set 11 v=a0::a1::a2::a3::a4::a5::a6::a7::a8::a9::a10::v::l:=rfl
@[simp high] theorem gt12 {α : Type}(a0 a1 a2 a3 a4 a5 a6 a7 a8 a9 a10 a11 a12 : α)(l:List α):(a0::a1::a2::a3::a4::a5::a6::a7::a8::a9::a10::a11::a12::l)[12]? = some a12:=rfl
@[simp high] theorem se12 {α : Type}(a0 a1 a2 a3 a4 a5 a6 a7 a8 a9 a10 a11 a12 v : α)(l:List α):(a0::a1::a2::a3::a4::a5::a6::a7::a8::a9::a10::a11::a12::l).set 12 v=a0::a1::a2::a3::a4::a5::a6::a7::a8::a9::a10::a11::v::l:=rfl
@[simp high] theorem gt13 {α : Type}(a0 a1 a2 a3 a4 a5 a6 a7 a8 a9 a10 a11 a12 a13 : α)(l:List α):(a0::a1::a2::a3::a4::a5::a6::a7::a8::a9::a10::a11::a12::a13::l)[13]? = some a13:=rfl
@[simp high] theorem se13 {α : Type}(a0 a1 a2 a3 a4 a5 a6 a7 a8 a9 a10 a11 a12 a13 v : α)(l:List α):(a0::a1::a2::a3::a4::a5::a6::a7::a8::a9::a10::a11::a12::a13::l).set 13 v=a0::a1::a2::a3::a4::a5::a6::a7::a8::a9::a10::a11::a12::v::l:=rfl
noncomputable def zbf (ns:List Int)(k:Int):Int:=ns.getD k.toNat 0
noncomputable def nthI (hs:List Int)(t:Int):Int:=hs.getD t.toNat 0
theorem zg1 (r:List Int):plN 12 (.lst (r.map D.int))=true:=by
 show (r.map D.int).all (plN 11)=true
 rw [List.all_map,List.all_eq_true]
 exact fun p _=>rfl
theorem zbM {α : Type}{l:List α}{k:Nat}(h:k<l.length):atI l (k:Int)=l[k]? := by
 unfold atI ixN
 rw [if_pos (by omega),if_pos (by omega),Int.toNat_natCast]
 rfl
theorem zhV {hs:List Int}{t:Int}(h0:0≤t)(h1:t<(hs.length:Int)):atI (hs.map D.int) t=some (.int (nthI hs t)):=by
 have e:ixN hs.length t=some t.toNat:=by unfold ixN;rw [if_pos h0,if_pos h1]
 have hl:t.toNat<hs.length:=by omega
 unfold atI nthI
 rw [List.length_map,e]
 show (hs.map D.int)[t.toNat]? = _
 rw [List.getElem?_map,List.getElem?_eq_getElem hl,List.getD_eq_getElem?_getD,List.getElem?_eq_getElem hl]
 rfl
theorem zd9 {α : Type}{f : α → D}{l:List α}{i:Nat}{x:D}(h:(l.map f)[i]? = some x):∃ p,l[i]? = some p∧x=f p:=by
 rw [List.getElem?_map] at h
 cases q:l[i]? with
 | none=>rw [q] at h;(first|exact zqn h|exact zqb h|(obtain rfl:=Option.some.inj h)|cases h)
 | some p=>rw [q] at h;exact ⟨p,rfl,(Option.some.inj h).symm⟩
structure RowOk (n:Int)(r:List (Int×Int)):Prop where
 ne:r ≠ []
 once:Once r
 mem:∀ p∈r,0≤p.1∧p.1<n
 len:r.length≤12
def frD (f:List (List (Int×Int))):D:=.lst (f.map rwD)
theorem zi1 {α : Type}(l:List α)(x y : α):(l++[x]).set l.length y=l++[y]:=by
 induction l with
 | nil=>rfl
 | cons a l ih=>show a::(l++[x]).set l.length y=_;rw [ih];rfl
theorem zjV {α : Type}(l:List α)(x : α):ixN (l++[x]).length (l.length:Int)=some l.length:=by
 unfold ixN
 rw [if_pos (by omega),if_pos (by rw [List.length_append,List.length_singleton];omega),Int.toNat_natCast]
@[simp] theorem gList_fr (f:List (List (Int×Int))):zbw [frD f]=some (frD f):=rfl
@[simp] theorem walkS_fr (f:List (List (Int×Int))):zel (frD f)=some (f.map rwD):=rfl
@[simp] theorem walkS_rw (r:List (Int×Int)):zel (rwD r)=some (r.map prD):=rfl
@[simp] theorem gLen_fr (f:List (List (Int×Int))):gLen [frD f]=some (.int f.length):=by show some (D.int (f.map rwD).length)=_;rw [List.length_map]
@[simp] theorem ziZ (f:List (List (Int×Int))):gIsi [frD f,.ty "list"]=some (.bl true):=rfl
@[simp] theorem ziK (f:List (Int×Int)):gIsi [rwD f,.ty "tuple"]=some (.bl true):=rfl
@[simp] theorem ziI (p:Int×Int):gIsi [prD p,.ty "tuple"]=some (.bl true):=rfl
@[simp] theorem gLen_pr (p:Int×Int):gLen [prD p]=some (.int 2):=rfl
@[simp] theorem gIx_pr0 (p:Int×Int):gIx (prD p) (.int 0)=some (.int p.1):=rfl
@[simp] theorem gIx_pr1 (p:Int×Int):gIx (prD p) (.int 1)=some (.int p.2):=rfl
theorem pl_rw (n:Nat)(r:List (Int×Int)):plN (n+3) (rwD r)=true:=by
 show (r.map prD).all (plN (n+2))=true
 rw [List.all_map,List.all_eq_true]
 exact fun p _=>rfl
structure FormOk (n:Int)(f:List (List (Int×Int))):Prop where
 ne:f ≠ []
 rows:∀ r∈f,RowOk n r
 len:f.length≤100
noncomputable def Rise (r:List (Int×Int)):Prop:=(r.map (·.1)).Pairwise (· < ·)
theorem zg4 {α : Type}{f : α → Bool}{l:List α}{i:Nat}{p : α}(h:∀ q∈l.take i,f q=false)(hp:l[i]? = some p)(hf:f p=true):l.find? f=some p:=by
 have hi:=(List.getElem?_eq_some_iff.mp hp).1
 have e:l=l.take i++(p::l.drop (i+1)):=by
  have e1:l.drop i=p::l.drop (i+1):=by
   rw [List.drop_eq_getElem_cons hi]
   congr 1
   exact (List.getElem?_eq_some_iff.mp hp).2
  rw [← e1,List.take_append_drop]
 rw [e,List.find?_append,List.find?_eq_none.mpr fun q hq=>by rw [h q hq];simp]
 simp [hf]
structure ThingsOk (ts:List Int):Prop where
 ne:ts ≠ []
 len:ts.length≤4
 rng:∀ t∈ts,0≤t∧t<12
 up:ts.Pairwise (· < ·)
theorem zgz {r:List (Int×Int)}(h:Rise r):Once r:=by
 unfold Rise at h
 unfold Once List.Nodup
 exact h.imp fun h e=>by omega
theorem zfO {α : Type}[Inhabited α]{P:Nat → α → Prop}{n:Nat}(h:∀ i,i<n→∃ a,P i a):∃ g:Nat → α,∀ i,i<n→P i (g i):=by
 classical
 exact ⟨fun i=>if q:i<n then (h i q).choose else default,fun i hi=>by
  show P i (if q:i<n then (h i q).choose else default)
  rw [dif_pos hi]
  exact (h i hi).choose_spec⟩
structure Over (f:List (List (Int×Int)))(hs:List Int):Prop where
 ne:f ≠ []
 rne:∀ r∈f,r ≠ []
 once:∀ r∈f,Once r
 bnd:∀ r∈f,∀ p∈r,0≤p.1∧p.1<(hs.length:Int)
structure RoundOk (n:Int)(fs:List (List (List (Int×Int)))):Prop where
 len:(fs.length:Int)=n
 low:1≤n
 most:n≤12
 forms:∀ f∈fs,FormOk n f
theorem RoundOk.over {n:Int}{fs:List (List (List (Int×Int)))}(R:RoundOk n fs){hs:List Int}(h:hs.length=fs.length):∀ f∈fs,Over f hs:=fun f hf=>⟨(R.forms f hf).ne,fun r hr=>((R.forms f hf).rows r hr).ne,fun r hr=>((R.forms f hf).rows r hr).once,fun r hr p hp=>by
 have:=((R.forms f hf).rows r hr).mem p hp
 have:=R.len
 omega⟩
def rdD (fs:List (List (List (Int×Int)))):D:=.lst (fs.map frD)
@[simp] theorem walkS_rd (fs:List (List (List (Int×Int)))):zel (rdD fs)=some (fs.map frD):=rfl
open L2.ST
structure PairsOk (ts:List Int)(r:List (Int×Int)):Prop where
 ne:r ≠ []
 len:r.length≤4
 mem:∀ p∈r,p.1∈ts
 up:r.Pairwise fun p q=>p.1<q.1
theorem zkv {r:List (Int×Int)}(h:r.Pairwise fun p q=>p.1<q.1):Once r:=by
 unfold Once List.Nodup
 rw [List.pairwise_map]
 exact h.imp fun h e=>by omega
theorem PairsOk.row {ts:List Int}{r:List (Int×Int)}(T:ThingsOk ts)(P:PairsOk ts r):RowOk 12 r:=⟨P.ne,zkv P.up,fun p hp=>T.rng _ (P.mem p hp),Nat.le_trans P.len (by omega)⟩
structure JRow (r:List (Int×Int)):Prop where
 ne:r ≠ []
 rise:Rise r
 bnd:∀ p∈r,0≤p.1∧p.1<12
theorem JRow.once {r:List (Int×Int)}(h:JRow r):Once r:=zgz h.rise
theorem JRow.len {r:List (Int×Int)}(h:JRow r):r.length≤12:=by
 have up:(r.map (·.1)).Pairwise (· < ·):=h.rise
 have key:∀ (l:List Int) (a:Int),l.Pairwise (· < ·)→(∀ x∈l,a≤x∧x<12)→(l.length:Int)≤max 0 (12-a):=by
  intro l
  induction l with
  | nil=>intro a _ _;simp;omega
  | cons x l ih =>
   intro a hp hb
   rw [List.pairwise_cons] at hp
   have h1:=hb x List.mem_cons_self
   have:=ih (x+1) hp.2 fun y hy=>⟨by have:=hp.1 y hy;omega,(hb y (List.mem_cons_of_mem _ hy)).2⟩
   rw [List.length_cons]
   omega
 have:=key _ 0 up fun x hx=>by
  obtain ⟨p,hp,rfl⟩:=List.mem_map.mp hx
  exact h.bnd p hp
 rw [List.length_map] at this
 omega
noncomputable def asc (x:Str):Prop:=x.cps.all (· < 128)=true
theorem zcW {x:Str}:asc x↔∀ c∈x.cps.toList,c<128:=by
 unfold asc
 rw [← Array.all_toList,List.all_eq_true]
 exact ⟨fun h c hc=>of_decide_eq_true (h c hc),fun h c hc=>decide_eq_true (h c hc)⟩
theorem zjP (a b:Str):(a++b).length=a.length+b.length:=Array.size_append
theorem zjg (a b:Str):(a++b).cps.toList=a.cps.toList++b.cps.toList:=Array.toList_append
theorem zjr {a b:Str}(ha:asc a)(hb:asc b):asc (a++b):=zcW.mpr fun c hc=>by
 rw [zjg] at hc
 rcases List.mem_append.mp hc with h|h
 ·exact zcW.mp ha c h
 ·exact zcW.mp hb c h
structure TxtOk (n:Nat)(x:Str):Prop where
 len:x.length≤n
 asc:asc x
theorem TxtOk.app {m n:Nat}{a b:Str}(ha:TxtOk m a)(hb:TxtOk n b):TxtOk (m+n) (a++b):=⟨by rw [zjP];have:=ha.len;have:=hb.len;omega,zjr ha.asc hb.asc⟩
theorem TxtOk.mono {m n:Nat}{a:Str}(ha:TxtOk m a)(h:m≤n):TxtOk n a:=⟨Nat.le_trans ha.len h,ha.asc⟩
theorem zcP {n:Nat}{x:Str}(h:(decide (x.length≤n)&&x.cps.all (· < 128))=true):TxtOk n x:=by
 rw [Bool.and_eq_true] at h
 exact ⟨of_decide_eq_true h.1,h.2⟩
theorem zdz {m n:Nat}{a b:Str}(ha:TxtOk m a)(hb:TxtOk n b)(h:m+n≤1000):gAdd (.str a) (.str b)=some (.str (a++b)):=if_pos (zfx (by have:=ha.len;have:=hb.len;omega))
theorem zhH:∀ k:Fin 64,(Nat.ble (k.val:Int).natAbs.log2 1900=true)∧(decide ((toString (k.val:Int):Str).length≤2)&&(toString (k.val:Int):Str).cps.all (· < 128))=true:=by decide +kernel
noncomputable def digF (k:Nat):Str:=(toString (k:Int):Str)
theorem zcb {k:Nat}(h:k<64):gStr [.int (k:Int)]=some (.str (digF k))∧TxtOk 2 (digF k):=by
 obtain ⟨h1,h2⟩:=zhH ⟨k,h⟩
 exact ⟨if_pos h1,zcP h2⟩
noncomputable def low (x:Str):Prop:=∀ c∈x.cps.toList,97≤c∧c<123
@[simp] theorem run_d5 (n:Nat)(g:FS)(a b c d e:D):runD n 5 g [a,b,c,d,e]=(g (some (.val a)::some (.val b)::some (.val c)::some (.val d)::some (.val e)::List.replicate (n-5) none)).bind outV:=zfr n 5 g [a,b,c,d,e] rfl
structure Pl where
 name:Str
 givens:List Str
 rows:List (Str×Str×List (Int×Int))
def rowD (r:Str×Str×List (Int×Int)):D:=.tup [.str r.1,.str r.2.1,rwD r.2.2]
def zjl (p:Pl):D:=.tup [.str p.name,.lst (p.givens.map .str),.lst (p.rows.map rowD)]
def zag (p:Pl):D:=.ins "Plan" ["name", "givens", "rows"] [.str p.name,.lst (p.givens.map .str),.lst (p.rows.map rowD)]
def zaU (ps:List Pl):D:=.ins "Book" ["plans"] [.lst (ps.map zag)]
noncomputable def prtD (p:Str×Int):D:=.tup [.str p.1,.int p.2]
@[simp] theorem gIx_row0 (r:Str×Str×List (Int×Int)):gIx (rowD r) (.int 0)=some (.str r.1):=rfl
@[simp] theorem gIx_row1 (r:Str×Str×List (Int×Int)):gIx (rowD r) (.int 1)=some (.str r.2.1):=rfl
@[simp] theorem gIx_row2 (r:Str×Str×List (Int×Int)):gIx (rowD r) (.int 2)=some (rwD r.2.2):=rfl
@[simp] theorem zmw (p:Pl):gIx (zjl p) (.int 0)=some (.str p.name):=rfl
@[simp] theorem zmn (p:Pl):gIx (zjl p) (.int 1)=some (.lst (p.givens.map .str)):=rfl
@[simp] theorem zlb (p:Pl):gIx (zjl p) (.int 2)=some (.lst (p.rows.map rowD)):=rfl
@[simp] theorem gIx_prt0 (p:Str×Int):gIx (prtD p) (.int 0)=some (.str p.1):=rfl
@[simp] theorem gIx_prt1 (p:Str×Int):gIx (prtD p) (.int 1)=some (.int p.2):=rfl
@[simp] theorem zl1 (ps:List Pl):gFld "Book" "plans" (zaU ps)=some (.lst (ps.map zag)):=rfl
@[simp] theorem fld_name (p:Pl):gFld "Plan" "name" (zag p)=some (.str p.name):=rfl
@[simp] theorem zk6 (p:Pl):gFld "Plan" "givens" (zag p)=some (.lst (p.givens.map .str)):=rfl
@[simp] theorem fld_rows (p:Pl):gFld "Plan" "rows" (zag p)=some (.lst (p.rows.map rowD)):=rfl
theorem zeT {n:Nat}{x:Str}(h:asc x):plN (n+1) (.str x)=true:=by
 show PyData.strOk x=true
 unfold PyData.strOk
 rw [← Array.all_toList,List.all_eq_true]
 exact fun c hc=>decide_eq_true (Nat.lt_trans (zcW.mp h c hc) (by omega))
theorem zgr {α : Type}{f:Nat → α}{n:Nat}(h:((List.range n).map f).Nodup){a b:Nat}(ha:a<n)(hb:b<n)(e:f a=f b):a=b:=by
 have h:=List.pairwise_iff_getElem.mp (List.pairwise_map.mp h)
 rcases Nat.lt_trichotomy a b with z|z|z
 ·exact absurd (by rw [List.getElem_range,List.getElem_range];exact e) (h a b (by rw [List.length_range];exact ha) (by rw [List.length_range];exact hb) z)
 ·exact z
 ·exact absurd (by rw [List.getElem_range,List.getElem_range];exact e.symm) (h b a (by rw [List.length_range];exact hb) (by rw [List.length_range];exact ha) z)
noncomputable def signs (l:List Nat):Bool:=l[0]? == some 120||l[0]? == some 121||l[0]? == some 113||l[2]? == some 113
structure WB (ps:List Pl):Prop where
 l1:1≤ps.length
 l2:ps.length≤20
 nd:(ps.map (·.name)).Nodup
 ok:∀ p∈ps,TxtOk 12 p.name∧1≤p.name.length∧p.name ≠ "all" ∧ p.name ≠ "first"
 how:∀ (i:Nat) (p:Pl),ps[i]? = some p→∀ r∈p.rows,r.2.1 = "all" ∨ r.2.1 = "first" ∨ r.2.1∈(ps.take i).map (·.name)
 sz:∀ p∈ps,p.rows.length≤40∧p.givens.length≤12
@[simp] theorem ev_tmpN (is:List Nat)(f:FE)(sd:SD):zhD is f sd=(f (frzD is sd)).bare.bind fun d=>if zhJ d then .ok d else .no:=rfl
@[simp] theorem ev_make (c:Str)(names:List Str)(Fn:List D→Res (List D))(fa:FA)(sd:SD):ziq c names Fn fa sd=(fa sd).bind fun ds=>(Fn ds).bind fun es=>.ok (.ins c names es):=rfl
@[simp] theorem zgM (i j k:Nat)(r:Str×Str×List (Int×Int))(sd:SD):zaE (.tup [i,j,k]) (rowD r) sd=.ok (((sd.set i (some (.val (.str r.1)))).set j (some (.val (.str r.2.1)))).set k (some (.val (rwD r.2.2)))):=rfl
@[simp] theorem zmc (x:Str):zd7 (.str x)=some (.inr x):=rfl
noncomputable def dT (t:List (Str×Int)):D:=.dct (t.map fun p=>.inr p.1) (t.map fun p=>.int p.2)
noncomputable def lkT (t:List (Str×Int))(x:Str):Option Int:=(t.find? fun p=>decide (p.1=x)).map (·.2)
theorem zfA {a b:Str}:((Sum.inr a:Key)=.inr b)↔a=b:=⟨fun z=>by injection z,fun z=>by rw [z]⟩
theorem ziV:∀ (t:List (Str×Int)) (x:Str),valD (t.map fun p=>.inr p.1) (t.map fun p=>.int p.2) (.inr x)=(lkT t x).map .int
 | [],_=>rfl
 | p::t,x=>by
  rw [List.map_cons,List.map_cons]
  unfold valD lkT
  rw [List.find?_cons]
  by_cases h:p.1=x
  ·rw [if_pos (zfA.mpr h),decide_eq_true h]
   rfl
  ·rw [if_neg (fun z=>h (zfA.mp z)),decide_eq_false h]
   exact ziV t x
@[simp] theorem gIx_T (t:List (Str×Int))(x:Str):gIx (dT t) (.str x)=(lkT t x).map .int:=ziV t x
@[simp] theorem gIn_T (neg:Bool)(t:List (Str×Int))(x:Str):gIn neg (.str x) (dT t)=some (.bl (if neg then !(lkT t x).isSome else (lkT t x).isSome)):=by
 show some (D.bl (if neg then !(valD (t.map fun p=>.inr p.1) (t.map fun p=>.int p.2) (.inr x)).isSome else (valD (t.map fun p=>.inr p.1) (t.map fun p=>.int p.2) (.inr x)).isSome))=_
 rw [ziV,Option.isSome_map]
theorem ze4 {t:List (Str×Int)}{x:Str}:lkT t x=none↔x∉t.map (·.1):=by
 unfold lkT
 rw [Option.map_eq_none_iff,List.find?_eq_none]
 constructor
 ·intro h z
  obtain ⟨p,hp,e⟩:=List.mem_map.mp z
  exact h p hp (decide_eq_true e)
 ·intro h p hp z
  exact h (List.mem_map.mpr ⟨p,hp,of_decide_eq_true z⟩)
theorem zl2 {a b:List (Str×Int)}{x:Str}(h:x∉a.map (·.1)):lkT (a++b) x=lkT b x:=by
 unfold lkT
 rw [List.find?_append,show a.find? (fun p=>decide (p.1=x))=none from Option.map_eq_none_iff.mp (ze4.mpr h)]
 rfl
theorem lk_at (x:Str)(v:Int)(b:List (Str×Int)):lkT ((x,v)::b) x=some v:=by
 unfold lkT
 rw [List.find?_cons,decide_eq_true rfl]
 rfl
noncomputable def isP (how:Str):Bool:=!(decide (how = "all")||decide (how = "first"))
def wt1 (t:List (Str×Int))(p:Pl):Int:=p.rows.length+((p.rows.filter fun r=>isP r.2.1).map fun r=>(lkT t r.2.1).getD 0).sum
def wtS (t:List (Str×Int))(p:Pl):List (Str×Int):=t++[(p.name,wt1 t p)]
def wtF (ps:List Pl):List (Str×Int):=ps.foldl wtS []
theorem zjK (ps:List Pl)(p:Pl):wtF (ps++[p])=wtF ps++[(p.name,wt1 (wtF ps) p)]:=by
 unfold wtF
 rw [List.foldl_append]
 rfl
theorem zg7:∀ (l:List Pl) (t:List (Str×Int)),∃ u,l.foldl wtS t=t++u
 | [],t=>⟨[],by simp⟩
 | p::l,t=>by
  obtain ⟨u,e⟩:=zg7 l (wtS t p)
  exact ⟨(p.name,wt1 t p)::u,by rw [List.foldl_cons,e];unfold wtS;simp⟩
theorem zfH:∀ (l:List Pl) (t:List (Str×Int)),(l.foldl wtS t).map (·.1)=t.map (·.1)++l.map (·.name)
 | [],t=>by simp
 | p::l,t=>by
  rw [List.foldl_cons,zfH l]
  unfold wtS
  simp
theorem zcU (l:List Pl):(wtF l).map (·.1)=l.map (·.name):=by
 unfold wtF
 rw [zfH]
 rfl
theorem WB.fresh {ps:List Pl}(W:WB ps){i:Nat}{p:Pl}(hi:ps[i]? = some p):p.name∉(wtF (ps.take i)).map (·.1):=by
 rw [zcU]
 intro z
 have hlt:i<ps.length:=(List.getElem?_eq_some_iff.mp hi).1
 obtain ⟨y,hy,e⟩:=List.mem_map.mp z
 obtain ⟨j,hj,ej⟩:=List.getElem_of_mem hy
 rw [List.length_take] at hj
 have nd:=List.pairwise_iff_getElem.mp (List.pairwise_map.mp W.nd) j i (by omega) hlt (by omega)
 rw [List.getElem_take] at ej
 apply nd
 rw [ej,e,(List.getElem?_eq_some_iff.mp hi).2]
theorem WB.at {ps:List Pl}(W:WB ps){i:Nat}{p:Pl}(hi:ps[i]? = some p):lkT (wtF ps) p.name=some (wt1 (wtF (ps.take i)) p):=by
 have hlt:i<ps.length:=(List.getElem?_eq_some_iff.mp hi).1
 have e:wtF ps=(ps.drop (i+1)).foldl wtS (wtF (ps.take i)++[(p.name,wt1 (wtF (ps.take i)) p)]):=by
  rw [← zjK]
  unfold wtF
  rw [← List.foldl_append]
  congr 1
  have tk:ps.take (i+1)=ps.take i++[p]:=by rw [List.take_succ,hi];rfl
  rw [← tk,List.take_append_drop]
 obtain ⟨u,hu⟩:=zg7 (ps.drop (i+1)) (wtF (ps.take i)++[(p.name,wt1 (wtF (ps.take i)) p)])
 rw [e,hu,List.append_assoc,zl2 (W.fresh hi)]
 exact lk_at _ _ _
theorem WB.part {ps:List Pl}(W:WB ps){i:Nat}{p:Pl}(hi:ps[i]? = some p){r:Str×Str×List (Int×Int)}(hr:r∈p.rows):(lkT (wtF (ps.take i)) r.2.1).isSome=isP r.2.1:=by
 have out:∀ w:Str,(∀ y∈ps,y.name≠w)→lkT (wtF (ps.take i)) w=none:=fun w hw=>ze4.mpr (by
  rw [zcU]
  intro z
  obtain ⟨y,hy,e⟩:=List.mem_map.mp z
  exact hw y (List.mem_of_mem_take hy) e)
 rcases W.how i p hi r hr with z|z|z
 ·rw [z,out "all" fun y hy=>(W.ok y hy).2.2.1]
  decide +kernel
 ·rw [z,out "first" fun y hy=>(W.ok y hy).2.2.2]
  decide +kernel
 ·have h1:(lkT (wtF (ps.take i)) r.2.1).isSome=true:=by
   cases h:lkT (wtF (ps.take i)) r.2.1 with
   | some v=>rfl
   | none=>exact absurd (by rw [zcU];exact z) (ze4.mp h)
  rw [h1]
  obtain ⟨y,hy,e⟩:=List.mem_map.mp z
  have ok:=W.ok y (List.mem_of_mem_take hy)
  unfold isP
  rw [← e,decide_eq_false ok.2.2.1,decide_eq_false ok.2.2.2]
  rfl
theorem zhq {α : Type}(f : α → Int)(l:List α):zhJ (.lst (l.map fun r=>D.int (f r)))=true:=by
 show (l.map fun r=>D.int (f r)).all zh8=true
 rw [List.all_eq_true]
 intro x hx
 obtain ⟨y,_,rfl⟩:=List.mem_map.mp hx
 rfl
@[simp] theorem ziS (fe:FE)(sd:SD)(hp:HP):x2L fe sd hp=(fe sd).bind fun d=>.ok (d,hp):=rfl
@[simp] theorem zgq (g:D→D→Option D)(fa fb:FX2)(sd:SD)(hp:HP):x2Op g fa fb sd hp=(fa sd hp).bind fun p=>(fb sd p.2).bind fun q=>(Res.ofO (g p.1 q.1)).bind fun z=>.ok (z,q.2):=rfl
@[simp] theorem zge (Fn:List D→HP→Res (D×HP))(fr:FA)(sd:SD)(hp:HP):zaC Fn fr sd hp=(fr sd).bind fun ds=>Fn ds hp:=rfl
@[simp] theorem ev_x2Nil (sd:SD)(hp:HP):zf7 sd hp=.ok ([],hp):=rfl
@[simp] theorem zl6 (f:FX2)(g:FXA2)(sd:SD)(hp:HP):zbi f g sd hp=(f sd hp).bind fun p=>(g sd p.2).bind fun q=>.ok (p.1::q.1,q.2):=rfl
@[simp] theorem ev_x2Tup (fr:FXA2)(sd:SD)(hp:HP):zgG fr sd hp=(fr sd hp).bind fun p=>if p.1.length≤1000 then .ok (.tup p.1,p.2) else .no:=rfl
@[simp] theorem zlz (i:Nat)(f:FX2)(sd:SD)(hp:HP):zcL i f sd hp=(f sd hp).bind fun p=>.ok (.next (sd.set i (some (.val p.1))) p.2):=rfl
@[simp] theorem ev_eFrz (i:Nat)(g:FX2)(sd:SD)(hp:HP):eFrz i g sd hp=g (frzD [i] sd) hp:=rfl
@[simp] theorem ev_x2Rd (is:List Nat)(f:FE)(sd:SD)(hp:HP):x2Rd is f sd hp=(f (derI hp is sd)).strict.bind fun d=>if zbP d then .ok (d,hp) else .no:=rfl
noncomputable def eK (g:FX2):Out2→Res (D×HP)
 | .next sd hp=>g sd hp
 | _=>.no
@[simp] theorem eK_next (g:FX2)(sd:SD)(hp:HP):eK g (.next sd hp)=g sd hp:=rfl
@[simp] theorem zkr (g1:FS2)(g:FX2)(sd:SD)(hp:HP):eSeq g1 g sd hp=(g1 sd hp).bind (eK g):=by
 unfold eSeq
 cases g1 sd hp with
 | ok o=>cases o<;>rfl
 | ex c es=>rfl
 | no=>rfl
@[simp] theorem ev_eIf (fc:FXT2)(ga g:FX2)(sd:SD)(hp:HP):eIf fc ga g sd hp=(fc sd hp).bind fun p=>if p.1 then ga sd p.2 else g sd p.2:=rfl
noncomputable def tK (p:D×HP):Res (Bool×HP):=match p.1 with
 | .bl b=>.ok (b,p.2)
 | _=>.no
@[simp] theorem tK_bl (b:Bool)(hp:HP):tK (.bl b,hp)=.ok (b,hp):=rfl
@[simp] theorem zlo (f:FX2)(sd:SD)(hp:HP):zfZ f sd hp=(f sd hp).bind tK:=rfl
noncomputable def potD (p:Int):D:=.lst [.int p]
theorem zgx (a:Addr)(d:D):hpAt [(a,d)] a=some d:=if_pos rfl
theorem ze8 (a:Addr)(d:D)(R:HP):hpAt ((a,d)::R) a=some d:=if_pos rfl
theorem zhO (a:Addr)(d e:D)(R:HP):zey ((a,d)::R) a e=(a,e)::R:=if_pos rfl
theorem zeM {fo fi:FE}{sd:SD}{a:Addr}{p:Int}{R:HP}(ho:fo sd=.ok (.adr a))(hi:fi sd=.ok (.int 0)):x2Ix fo fi sd ((a,potD p)::R)=.ok (.int p,(a,potD p)::R):=by
 unfold x2Ix
 rw [ho,Res.bind_ok]
 show (match hpAt ((a,potD p)::R) a with
  | some (.lst es)=>(fi sd).bind fun k=>(Res.ofO (gIx (.lst es) k)).bind fun z=>.ok (z,(a,potD p)::R)
  | _=>.no)=_
 rw [ze8]
 show ((fi sd).bind fun k=>(Res.ofO (gIx (potD p) k)).bind fun z=>.ok (z,(a,potD p)::R))=_
 rw [hi]
 rfl
theorem zdt {i:Nat}{f:FX2}{sd:SD}{d d1 v:D}(h:sd[i]? = some (some (.own false d)))(hf:∀ a,f (sd.set i (some (.val (.adr a)))) [(a,d)]=.ok (v,[(a,d1)])):xOwn i f sd=.ok (v,sd.set i (some (.own false d1))):=by
 unfold xOwn
 rw [h]
 refine zj3 fun a => ?_
 rw [hf a,Res.bind_ok]
 show (match hpAt [(a,d1)] a with
  | some d2=>Res.ok (v,sd.set i (some (.own false d2)))
  | none=>.no)=Res.ok (v,sd.set i (some (.own false d1)))
 rw [zgx]
theorem zdi {n ar:Nat}{g:FX2}{ds:List D}{a:Addr}{d d1 v:D}(h:ds.length=ar)(hg:g (zay n ds) [(a,d)]=.ok (v,[(a,d1)])):zc5 n ar g ds [(a,d)]=.ok (v,[(a,d1)]):=by
 unfold zc5
 rw [if_pos h,hg,Res.bind_ok]
 exact if_pos rfl
theorem zg9 {n ar:Nat}{g:FX2}{ds:List D}{a:Addr}{d d1 v:D}{R:HP}(h:ds.length=ar)(hg:g (zay n ds) ((a,d)::R)=.ok (v,(a,d1)::R)):zc5 n ar g ds ((a,d)::R)=.ok (v,(a,d1)::R):=by
 unfold zc5
 rw [if_pos h,hg,Res.bind_ok]
 exact if_pos rfl
theorem zlM {j:Int}(h:0≤j)(h2:j<10000000000000000000000000000000000000000):j.natAbs<bigB:=Nat.lt_of_lt_of_le (show j.natAbs<10000000000000000000000000000000000000000 by omega) (Nat.le_of_ble_eq_true rfl)
theorem sqN {a b:FS}{sd sd':SD}{r:Res Out}(h:a sd=.ok (.next sd'))(h2:b sd'=r):sSeq a b sd=r:=by
 rw [zll,h]
 exact h2
theorem sqE {a:FS2}{b:FX2}{sd sd':SD}{hp hp':HP}{r:Res (D×HP)}(h:a sd hp=.ok (.next sd' hp'))(h2:b sd' hp'=r):eSeq a b sd hp=r:=by
 rw [zkr,h]
 exact h2
theorem zbm {g:FS}{sd sd':SD}{hp:HP}(h:g sd=.ok (.next sd')):s2L g sd hp=.ok (.next sd' hp):=by
 rw [zlW,h]
 rfl
theorem zck {i:Nat}{f:FX}{sd sd':SD}{v:D}(h:f sd=.ok (v,sd')):zfj i f sd=.ok (.next (sd'.set i (some (.val v)))):=by
 rw [zj4,h]
 rfl
theorem zei {i:Nat}{f:FX}{sd sd':SD}{v:D}{ds ds':List D}(h0:sd[i]? = some (some (.own false (.lst ds'))))(h:f sd=.ok (v,sd'))(h1:sd'[i]? = some (some (.own false (.lst ds))))(hl:ds.length<sizeLine):zeh i f sd=.ok (.next (sd'.set i (some (.own false (.lst (ds++[v])))))):=by
 unfold zeh
 rw [h0]
 show (f sd).bind _=_
 rw [h,Res.bind_ok]
 show (match sd'[i]? with
  | some (some (.own false (.lst ds)))=>if ds.length<sizeLine then Res.ok (Out.next (sd'.set i (some (.own false (.lst (ds++[v])))))) else .no
  | _=>.no)=_
 rw [h1]
 exact if_pos hl
theorem zbn {i:Nat}{sd:SD}{p m:Int}{Fn:List D→HP→Res (D×HP)}(hF:∀ a,Fn [.adr a,.int m] [(a,potD p)]=.ok (.int (p % m),[(a,potD (p / m))]))(h:sd[i]? = some (some (.own false (potD p))))(fm:FE)(hm:∀ a,fm (sd.set i (some (.val (.adr a))))=.ok (.int m))(g:D→D→Option D)(fe:FE){d z:D}(hd:∀ a,fe (sd.set i (some (.val (.adr a))))=.ok d)(hz:g d (.int (p % m))=some z) :
 xOwn i (x2Op g (x2L fe) (zaC Fn (zab (dVar i) (zab fm dNil)))) sd=.ok (z,sd.set i (some (.own false (potD (p / m))))):=by
 refine zdt h fun a => ?_
 have hv:(sd.set i (some (.val (.adr a))))[i]? = some (some (.val (.adr a))):=by
  have hi:i<sd.length:=(List.getElem?_eq_some_iff.mp h).1
  rw [List.getElem?_set_self hi]
 have hd:=hd a
 have hm:=hm a
 have hF:=hF a
 have hv2:dVar i (sd.set i (some (.val (.adr a))))=.ok (.adr a):=by
  unfold dVar
  rw [hv]
 rw [zgq,ziS,hd,Res.bind_ok,Res.bind_ok,zge,zhx,hv2,Res.bind_ok,zhx,hm]
 simp only [Res.bind_ok,zmm,hF,hz]
 rfl
theorem zaG {x y:Str}(hx:asc x)(hy:asc y):gEq (.str x) (.str y)=some (.bl (decide (x=y))):=by
 rw [zhd (zeT hx) (zeT hy)]
 unfold zbG
 congr 2
 exact decide_eq_decide.mpr ⟨fun z=>by injection z,fun z=>by rw [z]⟩
theorem zb4:asc "all" := by unfold asc;decide +kernel
theorem zaM:asc "first" := by unfold asc;decide +kernel
theorem zmj:gEq (.str "all") (.str "all")=some (.bl true):=by rw [zaG zb4 zb4];congr 2
theorem zlJ:gEq (.str "first") (.str "all")=some (.bl false):=by rw [zaG zaM zb4];congr 2
theorem zle:gEq (.str "first") (.str "first")=some (.bl true):=by rw [zaG zaM zaM];congr 2
def tmsF (found:List Int)(its:List (Int×Int)):List Int:=its.map fun p=>nthI found p.1+p.2
def valF (found:List Int)(r:Str×Str×List (Int×Int)):Int:=if r.2.1 = "all" then maxI (tmsF found r.2.2) else minI (tmsF found r.2.2)
def runF (rows:List (Str×Str×List (Int×Int)))(hs:List Int):List Int:=rows.foldl (fun f r=>f++[valF f r]) hs
structure RowsOk (n:Nat)(rows:List (Str×Str×List (Int×Int))):Prop where
 len:rows.length≤8
 pos:1≤rows.length
 how:∀ r∈rows,r.2.1 = "all" ∨ r.2.1 = "first"
 ne:∀ r∈rows,r.2.2 ≠ []
 sh:∀ r∈rows,r.2.2.length≤10
 rng:∀ (k:Nat) r,rows[k]? = some r→∀ p∈r.2.2,0≤p.1∧p.1<(n:Int)+k
theorem zeq:∀ (rows:List (Str×Str×List (Int×Int))) (hs:List Int),(runF rows hs).length=hs.length+rows.length
 | [],hs=>rfl
 | r::rows,hs=>by
  show (runF rows (hs++[valF hs r])).length=_
  rw [zeq rows,List.length_append,List.length_singleton,List.length_cons]
  omega
theorem ziB {found:List Int}{its:List (Int×Int)}(h:its ≠ []):tmsF found its ≠ []:=fun z=>h (List.map_eq_nil_iff.mp z)
theorem zhi (found:List Int)(its:List (Int×Int)):(tmsF found its).length=its.length:=by unfold tmsF;rw [List.length_map]
theorem zgD {found:List Int}{its:List (Int×Int)}(h:∀ p∈its,0≤p.1∧p.1<(found.length:Int)):mapE (.tup [0,1]) (dOp gAdd (dOp gIx (dVar 2) (dVar 0)) (dVar 1)) [none,none,some (.val (.lst (found.map .int)))] (its.map prD)=.ok ((tmsF found its).map .int):=by
 unfold tmsF
 rw [List.map_map]
 exact zgn fun p hp=>by
  have:=zhV (h p hp).1 (h p hp).2
  simp [this]
theorem RowsOk.at {n:Nat}{rows:List (Str×Str×List (Int×Int))}(ok:RowsOk n rows){hs:List Int}(hn:hs.length=n){i:Nat}{r:Str×Str×List (Int×Int)}(h:rows[i]? = some r):(∀ p∈r.2.2,0≤p.1∧p.1<((runF (rows.take i) hs).length:Int))∧(runF (rows.take i) hs).length=n+i∧i<rows.length∧r∈rows:=by
 have hi:=(List.getElem?_eq_some_iff.mp h).1
 have e:(runF (rows.take i) hs).length=n+i:=by rw [zeq,List.length_take];omega
 refine ⟨fun p hp => ?_,e,hi,List.mem_of_getElem? h⟩
 have:=ok.rng i r h p hp
 rw [e]
 omega
theorem zcy {α : Type}{f : α → D}(ys:List α)(x : α):gIx (.lst ((ys++[x]).map f)) (.int (-1))=some (f x):=by
 show atI ((ys++[x]).map f) (-1)=_
 unfold atI ixN
 rw [if_neg (by omega),if_pos (by rw [List.length_map,List.length_append,List.length_singleton];omega)]
 have e:((-1:Int)+(((ys++[x]).map f).length:Int)).toNat=ys.length:=by
  rw [List.length_map,List.length_append,List.length_singleton]
  omega
 show ((ys++[x]).map f)[_]? = _
 rw [e,List.getElem?_map,List.getElem?_append_right (Nat.le_refl _),Nat.sub_self]
 rfl
theorem zfM {α : Type}{l:List α}(h:l ≠ []):∃ ys x,l=ys++[x]:=⟨l.dropLast,l.getLast h,(List.dropLast_concat_getLast h).symm⟩
theorem zhK {l:List Int}(h:l ≠ []):gIx (.lst ((zb2 ltI l).map .int)) (.int (-1))=some (.int (maxI l)):=by
 have p:=zbp (ltb:=ltI) l
 have s:=zcc zdf l
 have ne:zb2 ltI l ≠ []:=fun z=>h (by rw [z] at p;exact p.symm.eq_nil)
 obtain ⟨ys,x,e⟩:=zfM ne
 rw [e] at p s ⊢
 rw [zcy]
 congr 2
 refine zfD (p.mem_iff.mp (List.mem_append_right _ List.mem_cons_self)) fun y hy => ?_
 rcases List.mem_append.mp (p.mem_iff.mpr hy) with z|z
 ·have:=(List.pairwise_append.mp s).2.2 y z x List.mem_cons_self
  unfold ltI at this
  have:=of_decide_eq_false this
  omega
 ·rw [List.mem_singleton.mp z];omega
theorem zh6 {l:List Int}(h:l ≠ []):gIx (.lst ((zb2 ltI l).map .int)) (.int 0)=some (.int (minI l)):=by
 have p:=zbp (ltb:=ltI) l
 have s:=zcc zdf l
 cases e:zb2 ltI l with
 | nil=>rw [e] at p;exact absurd p.symm.eq_nil h
 | cons x ys =>
  rw [e] at p s
  have a0:=zbM (l:=(x::ys).map D.int) (k:=0) (by simp)
  have a0:gIx (.lst ((x::ys).map D.int)) (.int 0)=some (.int x):=a0
  rw [a0]
  congr 2
  refine zgS (p.mem_iff.mp List.mem_cons_self) fun y hy => ?_
  rcases List.mem_cons.mp (p.mem_iff.mpr hy) with z|z
  ·omega
  ·have:=(List.pairwise_cons.mp s).1 y z
   unfold ltI at this
   have:=of_decide_eq_false this
   omega
theorem sq2 {a b:FS2}{sd sd':SD}{hp hp':HP}{r:Res Out2}(h:a sd hp=.ok (.next sd' hp'))(h2:b sd' hp'=r):zbu a b sd hp=r:=by
 rw [zhN,h]
 exact h2
theorem if2_t {c:FT2}{g1 g2:FS2}{sd:SD}{hp:HP}{r:Res Out2}(h:c sd hp=.ok true)(h1:g1 sd hp=r):s2If c g1 g2 sd hp=r:=by
 rw [zfE,h]
 exact h1
theorem if2_f {c:FT2}{g1 g2:FS2}{sd:SD}{hp:HP}{r:Res Out2}(h:c sd hp=.ok false)(h1:g2 sd hp=r):s2If c g1 g2 sd hp=r:=by
 rw [zfE,h]
 exact h1
theorem zhA {i:Nat}{f:FX2}{sd:SD}{a0:Addr}{da d d1 v:D}(h:sd[i]? = some (some (.own false d)))(hf:∀ a,a≠a0→f (sd.set i (some (.val (.adr a)))) [(a,d),(a0,da)]=.ok (v,[(a,d1),(a0,da)])):zg2 i f sd [(a0,da)]=.ok (v,sd.set i (some (.own false d1)),[(a0,da)]):=by
 unfold zg2
 rw [h]
 have at_:∀ a,hpAt [(a0,da)] a=none↔a≠a0:=fun a=>by
  rw [zaq,zcg]
  by_cases z:a=a0
  ·rw [if_pos z];exact ⟨fun q=>(nomatch q),fun q=>absurd z q⟩
  ·rw [if_neg z];exact ⟨fun _=>z,fun _=>rfl⟩
 refine zjE ⟨a0+1,(at_ _).mpr (Nat.succ_ne_self a0)⟩ fun a ha => ?_
 rw [hf a ((at_ a).mp ha),Res.bind_ok]
 exact if_pos ⟨rfl,ha⟩
theorem zig {i:Nat}{f:FX3}{sd sd':SD}{hp hp':HP}{v:D}(h:f sd hp=.ok (v,sd',hp')):zdb i f sd hp=.ok (.next (sd'.set i (some (.val v))) hp'):=by
 unfold zdb
 rw [h]
 rfl
theorem zi3 {f:FX}{tg:Tg}{b:FS2}{sd sd':SD}{hp:HP}{n:Nat}(h:f sd=.ok (.int n,sd'))(hn:n≤1000):zfb f tg b sd hp=for2 (zcv tg b) (zaz 0 n) sd' hp:=by
 unfold zfb
 rw [h,Res.bind_ok]
 exact if_pos (zeY (by omega) (by omega))
@[simp] theorem ev_x2IxX (fo fi:FX2)(sd:SD)(hp:HP):zjX fo fi sd hp=(fo sd hp).bind fun p=>(fi sd p.2).bind (ixX p.1):=rfl
@[simp] theorem zk2 (Fn:List D→HP→Res (D×HP))(fr:FXA2)(sd:SD)(hp:HP):zex Fn fr sd hp=(fr sd hp).bind fun p=>Fn p.1 p.2:=rfl
theorem zlu {a b:Addr}{d z:D}{es:List D}{k:Int}(h:a≠b)(hz:atI es k=some z):ixX (.adr a) (.int k,[(b,d),(a,.lst es)])=.ok (z,[(b,d),(a,.lst es)]):=by
 unfold ixX
 have e:hpAt [(b,d),(a,D.lst es)] a=some (.lst es):=by rw [zaq,if_neg h,ze8]
 simp only [e]
 show (Res.ofO (atI es k)).bind _=_
 rw [hz]
 rfl
noncomputable def pl0:Pl:=⟨"",[],[]⟩
abbrev Rw:=Str×Str×List (Int×Int)
structure RwP (ps:List Pl)(n:Int)(r:Rw):Prop where
 nm:asc r.1
 how:r.2.1 = "all" ∨ r.2.1 = "first" ∨ ∃ q∈ps,r.2.1=q.name∧r.2.2.length=q.givens.length
 ne:r.2.2 ≠ []
 sh:r.2.2.length≤10
 rng:∀ p∈r.2.2,0≤p.1∧p.1<n
structure PlP (ps:List Pl)(p:Pl):Prop where
 g1:1≤p.givens.length
 g2:p.givens.length≤4
 r1:1≤p.rows.length
 r2:p.rows.length≤8
 row:∀ (k:Nat) r,p.rows[k]? = some r→RwP ps ((p.givens.length:Int)+k) r
structure BkP (ps:List Pl):Prop where
 len:ps.length≤4
 nm:∀ (i:Nat) p,ps[i]? = some p→p.name = "p" ++ digF i
 ok:∀ (i:Nat) p,ps[i]? = some p→PlP (ps.take i) p
theorem zmr:((List.range 4).map fun k=>(("p" : Str)++digF k).cps.toList).Nodup:=by decide +kernel
theorem zjc {i j:Nat}(hi:i<4)(hj:j<4)(e:("p" : Str)++digF i = "p" ++ digF j):i=j:=zgr zmr hi hj (by rw [e])
theorem zjd:∀ k:Fin 4,(decide ((("p" : Str)++digF k.1).length≤3)&&(("p" : Str)++digF k.1).cps.all (· < 128))=true∧(("p" : Str)++digF k.1).cps.toList≠("all" : Str).cps.toList∧(("p" : Str)++digF k.1).cps.toList≠("first" : Str).cps.toList:=by decide +kernel
theorem zlg {k:Nat}(h:k<4):TxtOk 3 ("p" ++ digF k)∧("p" : Str)++digF k ≠ "all" ∧ ("p" : Str)++digF k ≠ "first" := by
 obtain ⟨h1,h2,h3⟩:=zjd ⟨k,h⟩
 exact ⟨zcP h1,fun e=>h2 (by rw [e]),fun e=>h3 (by rw [e])⟩
theorem BkP.at {ps:List Pl}(B:BkP ps){i:Nat}{p:Pl}(h:ps[i]? = some p):i<ps.length∧i<4∧asc p.name∧p.name ≠ "all" ∧ p.name ≠ "first" := by
 have hi:=(List.getElem?_eq_some_iff.mp h).1
 have l:=B.len
 obtain ⟨h1,h2,h3⟩:=zlg (show i<4 by omega)
 rw [B.nm i p h]
 exact ⟨hi,by omega,h1.asc,h2,h3⟩
theorem BkP.find {ps:List Pl}(B:BkP ps){i:Nat}{p:Pl}(h:ps[i]? = some p):ps.find? (fun q=>decide (q.name=p.name))=some p:=by
 refine zg4 (i:=i) (fun q hq => ?_) h (decide_eq_true rfl)
 obtain ⟨j,hj⟩:=List.mem_iff_getElem?.mp hq
 have hjl:=(List.getElem?_eq_some_iff.mp hj).1
 rw [List.length_take] at hjl
 rw [List.getElem?_take_of_lt (by omega)] at hj
 have l:=B.len
 have hil:=(List.getElem?_eq_some_iff.mp h).1
 refine decide_eq_false fun e => ?_
 rw [B.nm i p h,B.nm j q hj] at e
 have:=zjc (by omega) (by omega) e
 omega
def valP (rc:Str→List Int→Int)(found:List Int)(r:Rw):Int:=if r.2.1 = "all" then maxI (tmsF found r.2.2) else if r.2.1 = "first" then minI (tmsF found r.2.2) else rc r.2.1 (tmsF found r.2.2)
def runR (rc:Str→List Int→Int)(rows:List Rw)(hs:List Int):List Int:=rows.foldl (fun f r=>f++[valP rc f r]) hs
def runP (ps:List Pl):Nat→Pl→List Int→List Int
 | 0,_,_ => []
 | n+1,p,hs=>runR (fun x ts=>(runP ps n ((ps.find? fun q=>decide (q.name=x)).getD pl0) ts).getLastD 0) p.rows hs
theorem zd3 {rc:Str→List Int→Int}{rows:List Rw}{hs:List Int}{i:Nat}{r:Rw}(h:rows[i]? = some r):runR rc (rows.take (i+1)) hs=runR rc (rows.take i) hs++[valP rc (runR rc (rows.take i) hs) r]:=by
 unfold runR
 rw [List.take_succ,h,List.foldl_append]
 rfl
theorem zdc (rc:Str→List Int→Int):∀ (rows:List Rw) (hs:List Int),(runR rc rows hs).length=hs.length+rows.length
 | [],hs=>rfl
 | r::rows,hs=>by
  show (runR rc rows (hs++[valP rc hs r])).length=_
  rw [zdc rc rows,List.length_append,List.length_singleton,List.length_cons]
  omega
theorem zit {ps:List Pl}{n:Nat}{p:Pl}{hs:List Int}:(runP ps (n+1) p hs).length=hs.length+p.rows.length:=zdc _ _ _
theorem zdQ {ps qs:List Pl}{n:Nat}{p:Pl}{hs:List Int}(P:PlP qs p):∃ ys,runP ps (n+1) p hs=ys++[(runP ps (n+1) p hs).getLastD 0]:=by
 have ne:runP ps (n+1) p hs ≠ []:=fun z=>by
  have r1:=zit (ps:=ps) (n:=n) (p:=p) (hs:=hs)
  rw [z] at r1
  have r2:=P.r1
  have r1:0=hs.length+p.rows.length:=r1
  omega
 obtain ⟨ys,x,e⟩:=zfM ne
 exact ⟨ys,by rw [e,List.getLastD_concat]⟩
theorem PlP.at {qs:List Pl}{p:Pl}(P:PlP qs p){rc:Str→List Int→Int}{hs:List Int}(hn:hs.length=p.givens.length){i:Nat}{r:Rw}(h:p.rows[i]? = some r):(∀ y∈r.2.2,0≤y.1∧y.1<((runR rc (p.rows.take i) hs).length:Int))∧(runR rc (p.rows.take i) hs).length=p.givens.length+i∧i<p.rows.length:=by
 have hi:=(List.getElem?_eq_some_iff.mp h).1
 have e:(runR rc (p.rows.take i) hs).length=p.givens.length+i:=by rw [zdc,List.length_take];omega
 refine ⟨fun y hy => ?_,e,hi⟩
 have:=(P.row i r h).rng y hy
 rw [e]
 omega
theorem pl_pr {qs:List Pl}{p:Pl}(P:PlP qs p)(hq:∀ q∈qs,asc q.name)(n:Nat):plN (n+6) (.lst (p.rows.map rowD))=true:=by
 show (p.rows.map rowD).all (plN (n+5))=true
 rw [List.all_eq_true]
 intro x hx
 obtain ⟨r,hr,rfl⟩:=List.mem_map.mp hx
 obtain ⟨k,hk⟩:=List.mem_iff_getElem?.mp hr
 have R:=P.row k r hk
 have a2:asc r.2.1:=by
  rcases R.how with z|z|⟨q,z1,z2,_⟩
  ·rw [z];exact zb4
  ·rw [z];exact zaM
  ·rw [z2];exact hq q z1
 show [D.str r.1,D.str r.2.1,rwD r.2.2].all (plN (n+4))=true
 rw [List.all_cons,List.all_cons,List.all_cons,zeT R.nm,zeT a2,pl_rw (n+1)]
 rfl
theorem BkP.snoc {ps:List Pl}{p:Pl}(B:BkP ps)(l:ps.length<4)(P:PlP ps p)(hn:p.name = "p" ++ digF ps.length):BkP (ps++[p]):=by
 have at_:∀ (i:Nat) q,(ps++[p])[i]? = some q→(i<ps.length∧ps[i]? = some q)∨(i=ps.length∧q=p):=fun i q h=>by
  rcases Nat.lt_or_ge i ps.length with z|z
  ·rw [List.getElem?_append_left z] at h
   exact .inl ⟨z,h⟩
  ·rw [List.getElem?_append_right z] at h
   rcases Nat.eq_zero_or_pos (i-ps.length) with y|y
   ·rw [y] at h
    first|exact zqn h|exact zqb h|(obtain rfl:=Option.some.inj h)|cases h
    exact .inr ⟨by omega,rfl⟩
   ·rw [List.getElem?_eq_none (by rw [List.length_singleton];omega)] at h
    first|exact zqn h|exact zqb h|(obtain rfl:=Option.some.inj h)|cases h
 refine ⟨by rw [List.length_append,List.length_singleton];omega,fun i q h => ?_,fun i q h => ?_⟩
 ·rcases at_ i q h with ⟨_,z⟩|⟨rfl,rfl⟩
  ·exact B.nm i q z
  ·exact hn
 ·rcases at_ i q h with ⟨y,z⟩|⟨rfl,rfl⟩
  ·rw [List.take_append_of_le_length (by omega)]
   exact B.ok i q z
  ·rw [List.take_append_of_le_length (Nat.le_refl _),List.take_length]
   exact P
theorem zkQ:BkP []:=⟨Nat.zero_le _,(by intro i p h;(first|exact zqn h|exact zqb h|(obtain rfl:=Option.some.inj h)|cases h)),(by intro i p h;(first|exact zqn h|exact zqb h|(obtain rfl:=Option.some.inj h)|cases h))⟩
theorem BkP.giv {ps:List Pl}(B:BkP ps):∀ q∈ps,1≤q.givens.length∧q.givens.length≤4:=fun q hq=>by
 obtain ⟨i,hi⟩:=List.mem_iff_getElem?.mp hq
 exact ⟨(B.ok i q hi).g1,(B.ok i q hi).g2⟩
theorem BkP.ascs {ps:List Pl}(B:BkP ps):∀ q∈ps,asc q.name:=fun q hq=>by
 obtain ⟨i,hi⟩:=List.mem_iff_getElem?.mp hq
 exact (B.at hi).2.2.1
def rcP (ps:List Pl)(n:Nat)(x:Str)(ts:List Int):Int:=(runP ps n ((ps.find? fun q=>decide (q.name=x)).getD pl0) ts).getLastD 0
theorem zd4 (ps:List Pl)(n:Nat)(p:Pl)(hs:List Int):runP ps (n+1) p hs=runR (rcP ps n) p.rows hs:=rfl
theorem BkP.how {ps:List Pl}(B:BkP ps){i:Nat}{p:Pl}(hp:ps[i]? = some p){k:Nat}{r:Rw}(hr:p.rows[k]? = some r):r.2.1 = "all" ∨ r.2.1 = "first" ∨ (asc r.2.1∧r.2.1 ≠ "all" ∧ r.2.1 ≠ "first" ∧ ∃ j q,j<i∧ps[j]? = some q∧r.2.1=q.name∧r.2.2.length=q.givens.length):=by
 rcases ((B.ok i p hp).row k r hr).how with z|z|⟨q,z1,z2,z3⟩
 ·exact .inl z
 ·exact .inr (.inl z)
 ·obtain ⟨j,hj⟩:=List.mem_iff_getElem?.mp z1
  have hjl:=(List.getElem?_eq_some_iff.mp hj).1
  rw [List.length_take] at hjl
  rw [List.getElem?_take_of_lt (by omega)] at hj
  obtain ⟨_,_,a1,a2,a3⟩:=B.at hj
  exact .inr (.inr ⟨by rw [z2];exact a1,by rw [z2];exact a2,by rw [z2];exact a3,j,q,by omega,hj,z2,z3⟩)
theorem BkP.part {ps:List Pl}(B:BkP ps){j n:Nat}{q:Pl}(hq:ps[j]? = some q)(ts:List Int):∃ ys,runP ps (n+1) q ts=ys++[rcP ps (n+1) q.name ts]:=by
 obtain ⟨ys,e⟩:=zdQ (ps:=ps) (n:=n) (hs:=ts) (B.ok j q hq)
 refine ⟨ys,?_⟩
 unfold rcP
 rw [B.find hq]
 exact e
theorem zjJ {i:Nat}{g:FS}{sd:SD}{c:Str}{fs:List Str}{ds:List D}{o:Out}(h:sd[i]? = some (some (.val (.ins c fs [.lst ds]))))(hd:ds.all ziy=true)(hg:∀ as,as.length=ds.length→g (sd.set i (some (.val (.ins c fs [.lst (List.zipWith .pin as ds)]))))=.ok o):sPin i g sd=.ok o:=by
 unfold sPin
 rw [h]
 show (if ds.all ziy then _ else _)=_
 rw [if_pos hd]
 exact zkz hg
theorem zgJ:∀ (as:List Addr) (ds:List D),as.length=ds.length→(List.zipWith D.pin as ds).map unp0=ds∧zbg pinA (List.zipWith D.pin as ds)=some as
 | [],[],_=>⟨rfl,rfl⟩
 | [],_::_,h=>by first|exact zqn h|exact zqb h|(obtain rfl:=Option.some.inj h)|cases h
 | _::_,[],h=>by first|exact zqn h|exact zqb h|(obtain rfl:=Option.some.inj h)|cases h
 | a::as,d::ds,h=>by
  obtain ⟨h1,h2⟩:=zgJ as ds (by injection h)
  refine ⟨?_,?_⟩
  ·rw [List.zipWith_cons_cons,List.map_cons,h1];rfl
  ·show ((zbg pinA (List.zipWith D.pin as ds)).map fun xs=>a::xs)=_
   rw [h2]
   rfl
def I_Book:List D→Res (List D):=runI 2 2 (zab (dBlt zbw (zab (dVar 1) dNil)) dNil)
def I_Plan:List D→Res (List D):=runI 4 4 (zab (dVar 1) (zab (dBlt zbw (zab (dVar 2) dNil)) (zab (dBlt zbw (zab (dVar 3) dNil)) dNil)))
def G_z5:FS:=(sSeq (sIf (za4 (dOp gLt (dVar 1) (dBlt gLen (zab (dVar 0) dNil)))) (sRet (dOp gIx (dVar 0) (dVar 1))) zbJ) (sRet (dC (.int 0))))
def F_z5:List D→Res D:=runD 2 2 G_z5
theorem f_z5 (ns:List Int)(k:Nat):F_z5 [.scr ns,.int k]=.ok (.int (zbf ns k)):=by
 unfold zbf
 rw [Int.toNat_natCast]
 by_cases h:k<ns.length
 ·have e:atI ns (k:Int)=some ns[k]:=by rw [zbM h];exact List.getElem?_eq_getElem h
  have e2:ns.getD k 0=ns[k]:=by rw [List.getD_eq_getElem?_getD,List.getElem?_eq_getElem h];rfl
  rw [e2]
  simp [F_z5,G_z5,h,e]
 ·have e2:ns.getD k 0=0:=by rw [List.getD_eq_getElem?_getD,List.getElem?_eq_none (by omega)];rfl
  rw [e2]
  simp [F_z5,G_z5,h]
def G_z6:FX2:=(eSeq (zcL 2 (x2Op gMod (x2Ix (dVar 0) (dC (.int 0))) (x2L (dVar 1)))) (eSeq (zd0 (dVar 0) (dC (.int 0)) (x2Op zdO (x2Ix (dVar 0) (dC (.int 0))) (x2L (dVar 1)))) (x2L (dVar 2))))
def F_z6:List D→HP→Res (D×HP):=zc5 3 2 G_z6
theorem zcp {p m:Int}(a:Addr)(R:HP)(h:0<m)(h2:m<10000000000000000000000000000000000000000):F_z6 [.adr a,.int m] ((a,potD p)::R)=.ok (.int (p % m),(a,potD (p / m))::R):=by
 refine zg9 rfl ?_
 have x1:=zeM (fo:=dVar 0) (fi:=dC (.int 0)) (sd:=[some (.val (.adr a)),some (.val (.int m)),none]) (a:=a) (p:=p) (R:=R) rfl rfl
 have x2:=zeM (fo:=dVar 0) (fi:=dC (.int 0)) (sd:=[some (.val (.adr a)),some (.val (.int m)),some (.val (.int (p % m)))]) (a:=a) (p:=p) (R:=R) rfl rfl
 have g1:=zfR (i:=p) h
 have g2:=zhl (i:=p) h (zlM (by omega) h2)
 have lp:zd0 (dVar 0) (dC (.int 0)) (x2Op zdO (x2Ix (dVar 0) (dC (.int 0))) (x2L (dVar 1))) [some (.val (.adr a)),some (.val (.int m)),some (.val (.int (p % m)))] ((a,potD p)::R)=.ok (.next [some (.val (.adr a)),some (.val (.int m)),some (.val (.int (p % m)))] ((a,potD (p / m))::R)):=by
  unfold zd0
  rw [zgq,x2]
  simp only [Res.bind_ok,ziS,zml]
  show (((Res.ofO (zdO (.int p) (.int m))).bind _).bind _)=_
  rw [g2]
  show (match hpAt ((a,potD p)::R) a with
   | some (.lst es)=>_
   | _=>Res.no)=_
  rw [ze8]
  show Res.ok (Out2.next _ (zey ((a,potD p)::R) a (potD (p / m))))=_
  rw [zhO]
 simp [G_z6,zay,x1,g1,lp]
theorem f_z6 {p m:Int}(a:Addr)(h:0<m)(h2:m<10000000000000000000000000000000000000000):F_z6 [.adr a,.int m] [(a,potD p)]=.ok (.int (p % m),[(a,potD (p / m))]):=zcp a [] h h2
def G_z7:FX2:=(eIf (zfZ (x2Op gGt (zaC F_z6 (zab (dVar 0) (zab (dC (.int 4)) dNil))) (x2L (dC (.int 0))))) (x2Op gSub (zaC F_z6 (zab (dVar 0) (zab (dC (.int 9)) dNil))) (x2L (dC (.int 4)))) (x2Op gSub (zaC F_z6 (zab (dVar 0) (zab (dOp gSub (dOp gMul (dC (.int 2)) (dOp gPow (dC (.int 10)) (dC (.int 30)))) (dC (.int 1))) dNil))) (x2L (dOp gSub (dOp gPow (dC (.int 10)) (dC (.int 30))) (dC (.int 1))))))
def F_z7:List D→HP→Res (D×HP):=zc5 1 1 G_z7
noncomputable def zjI (p:Int):Int:=if 0<p % 4 then p / 4 % 9-4 else p / 4 % 1999999999999999999999999999999-999999999999999999999999999999
noncomputable def zj2 (p:Int):Int:=if 0<p % 4 then p / 4 / 9 else p / 4 / 1999999999999999999999999999999
theorem f_z7 {p:Int}(a:Addr):F_z7 [.adr a] [(a,potD p)]=.ok (.int (zjI p),[(a,potD (zj2 p))]):=by
 refine zdi rfl ?_
 have t1:=f_z6 (p:=p) (m:=4) a (by omega) (by omega)
 have t2:=f_z6 (p:=p / 4) (m:=9) a (by omega) (by omega)
 have t3:=f_z6 (p:=p / 4) (m:=1999999999999999999999999999999) a (by decide +kernel) (by decide +kernel)
 have q1:gPow (.int 10) (.int 30)=some (.int 1000000000000000000000000000000):=by
  show some (D.int (10 ^ 30))=_
  congr 2
 have q2:gMul (.int 2) (.int 1000000000000000000000000000000)=some (.int 2000000000000000000000000000000):=zbL (zdl (by omega) (by omega))
 unfold zjI zj2
 by_cases h:0<p % 4
 ·simp [G_z7,zay,t1,t2,h]
 ·simp [G_z7,zay,t1,t3,q1,q2,h]
def G_z8:FX2:=(eSeq (s2L (sOwn 3 (dLst dNil))) (eSeq (zjF (iR1 (zab (dVar 2) dNil)) (.one 4) (zbu (zcL 5 (zaC F_z6 (zab (dVar 0) (zab (dVar 1) dNil)))) (zdV 3 (zgG (zbi (x2L (dVar 5)) (zbi (zaC F_z7 (zab (dVar 0) dNil)) zf7)))))) (eFrz 3 (x2L (dBlt zeE (zab (dVar 3) dNil))))))
def F_z8:List D→HP→Res (D×HP):=zc5 6 3 G_z8
def potI (m p:Int):Nat→Int
 | 0=>p
 | n+1=>zj2 (potI m p n / m)
def zj0 (m p:Int)(k:Nat):Int×Int:=(potI m p k % m,zjI (potI m p k / m))
def itsF (m p:Int)(n:Nat):List (Int×Int):=(List.range n).map (zj0 m p)
theorem zi2 (m p:Int)(n:Nat):itsF m p (n+1)=itsF m p n++[zj0 m p n]:=by
 unfold itsF
 rw [List.range_succ,List.map_append]
 rfl
theorem zch (m p:Int)(n:Nat):(itsF m p n).length=n:=by unfold itsF;rw [List.length_map,List.length_range]
theorem f_z8 {p m:Int}{c:Nat}(a:Addr)(h:0<m)(h2:m<1000)(hc:c≤10):F_z8 [.adr a,.int m,.int c] [(a,potD p)]=.ok (rwD (itsF m p c),[(a,potD (potI m p c))]):=by
 refine zdi rfl ?_
 have r1:zbx [.int c]=.ok (zaz 0 c):=by rw [zaK (by omega) (by omega)];rfl
 obtain ⟨sd',hp',e,u,v,hs,hh⟩:=zdg (b:=zcv (.one 4) (zbu (zcL 5 (zaC F_z6 (zab (dVar 0) (zab (dVar 1) dNil)))) (zdV 3 (zgG (zbi (x2L (dVar 5)) (zbi (zaC F_z7 (zab (dVar 0) dNil)) zf7)))))) (ds:=zaz 0 c) (sd:=[some (.val (.adr a)),some (.val (.int m)),some (.val (.int c)),some (.own false (.lst [])),none,none]) (hp:=[(a,potD p)])
  (P:=fun i sd hp => ∃ u v,sd=[some (.val (.adr a)),some (.val (.int m)),some (.val (.int c)),some (.own false (.lst ((itsF m p i).map prD))),u,v]∧hp=[(a,potD (potI m p i))]) ⟨none,none,rfl,rfl⟩ (by
   rintro i x sd hp hx ⟨u,v,rfl,rfl⟩
   obtain ⟨rfl,hi⟩:=zb5 hx
   have t1:=f_z6 (p:=potI m p i) (m:=m) a h (by omega)
   have t2:=f_z7 (p:=potI m p i / m) a
   have hz:=za0 (show (itsF m p i).length≤1000 by rw [zch];omega)
   refine ⟨[some (.val (.adr a)),some (.val (.int m)),some (.val (.int c)),some (.own false (.lst ((itsF m p (i+1)).map prD))),some (.val (.int i)),some (.val (.int (potI m p i % m)))],[(a,potD (potI m p (i+1)))],?_,_,_,rfl,rfl⟩
   rw [zi2]
   simp [t1,t2,hz,zdV,potI,zj0,prD])
 subst hs hh
 rw [zaZ] at e
 simp [G_z8,zay,r1,e]
 rfl
def G_z9:FX2:=(eSeq (s2L (sOwn 5 (dLst (zab (dOp gMod (zaA F_z5 (zab (dVar 0) (zab (dVar 1) dNil))) (dOp gPow (dC (.int 10)) (dC (.int 9)))) dNil)))) (eSeq (s2L (zfj 6 (xOwn 5 (x2Op gAdd (x2L (dC (.int 1))) (zaC F_z6 (zab (dVar 5) (zab (dC (.int 4)) dNil))))))) (eSeq (s2L (sOwn 7 (dLst dNil))) (eSeq (zcL 8 (x2Rd [3] (dOp gEqE (dVar 3) (dLst dNil)))) (eSeq (zfb (xOwn 5 (x2Op gAdd (x2L (dC (.int 1))) (zaC F_z6 (zab (dVar 5) (zab (dVar 4) dNil))))) (.one 9) (zbu (s2L (sOwn 10 (dLst (zab (dOp gAdd (dOp gMul (dOp gMod (zaA F_z5 (zab (dVar 0) (zab (dOp gAdd (dOp gAdd (dVar 1) (dC (.int 1))) (dVar 9)) dNil))) (dOp gPow (dC (.int 10)) (dC (.int 64)))) (dOp gPow (dC (.int 10)) (dC (.int 20)))) (dOp gMod (zaA F_z5 (zab (dVar 0) (zab (dVar 1) dNil))) (dOp gPow (dC (.int 10)) (dC (.int 20))))) dNil)))) (zbu (s2L (zfj 11 (xOwn 10 (x2Op gIxS (x2L (dLst (zab (dC (.str "all")) (zab (dC (.str "first")) (zab (dC (.str "all")) (zab (dC (.str "first")) (zab (dC (.str "part")) dNil))))))) (zaC F_z6 (zab (dVar 10) (zab (dC (.int 5)) dNil))))))) (zbu (s2L (zfj 12 (xOwn 10 (x2Op gAdd (x2L (dC (.int 1))) (zaC F_z6 (zab (dVar 10) (zab (dC (.int 4)) dNil))))))) (zbu (s2L (sIf (zhY (za4 (dOp gEq (dVar 11) (dC (.str "part")))) (za4 (dVar 8))) (sSet 11 (dC (.str "all"))) zbJ)) (zbu (s2If (t2L (za4 (dOp gEq (dVar 11) (dC (.str "part"))))) (zbu (s2L (sSet 8 (dC (.bl true)))) (zbu (zdb 13 (zg2 10 (zjX (x2L (dVar 3)) (zex F_z6 (zbi (x2L (dVar 10)) (zbi (x2Rd [3] (dBlt gLen (zab (dVar 3) dNil))) zf7)))))) (zbu (s2L (sSet 11 (dUn (gFld "Plan" "name") (dVar 13)))) (s2L (sSet 12 (dBlt gLen (zab (dUn (gFld "Plan" "givens") (dVar 13)) dNil))))))) zi5) (s2L (zeh 7 (xOwn 10 (zgG (zbi (x2L (dOp gAdd (dC (.str "m")) (dBlt gStr (zab (dVar 9) dNil)))) (zbi (x2L (dVar 11)) (zbi (zaC F_z8 (zab (dVar 10) (zab (dOp gAdd (dVar 6) (dVar 9)) (zab (dVar 12) dNil)))) zf7))))))))))))) (eFrz 7 (x2L (ziq "Plan" ["name", "givens", "rows"] I_Plan (zab (dVar 2) (zab (zbZ [none] (iR1 (zab (dVar 6) dNil)) (.one 0) (dOp gAdd (dC (.str "g")) (dBlt gStr (zab (dVar 0) dNil)))) (zab (dVar 7) dNil)))))))))))
def F_z9:List D→HP→Res (D×HP):=zc5 14 5 G_z9
def plG (ns:List Int)(s:Nat):Nat:=(1+zbf ns s % 1000000000 % 4).toNat
def plM (ns:List Int)(s:Nat)(m:Int):Nat:=(1+zbf ns s % 1000000000 / 4 % m).toNat
def plC (ns:List Int)(s k:Nat):Int:=zbf ns (s+1+k) % 10000000000000000000000000000000000000000000000000000000000000000*100000000000000000000+zbf ns s % 100000000000000000000
noncomputable def howF (c:Int):Str:=if c % 5=1∨c % 5=3 then "first" else "all"
def plQ (ps:List Pl)(c:Int):Pl:=ps.getD (c % (ps.length:Int)).toNat pl0
abbrev isPt (ps:List Pl)(c:Int)(used:Bool):Prop:=c % 5=4∧used=false
def plS (ns:List Int)(s:Nat)(ps:List Pl):Nat→List Rw×Bool
 | 0=>([],ps.isEmpty)
 | k+1=>if isPt ps (plC ns s k) (plS ns s ps k).2 then ((plS ns s ps k).1++[("m" ++ digF k,(plQ ps (plC ns s k / 5 / 4)).name,itsF ((plG ns s:Int)+k) (plC ns s k / 5 / 4 / ps.length) (plQ ps (plC ns s k / 5 / 4)).givens.length)],true)
  else ((plS ns s ps k).1++[("m" ++ digF k,howF (plC ns s k),itsF ((plG ns s:Int)+k) (plC ns s k / 5 / 4) (1+plC ns s k / 5 % 4).toNat)],(plS ns s ps k).2)
theorem zhP (ns:List Int)(s:Nat)(ps:List Pl)(k:Nat):plS ns s ps (k+1)=if isPt ps (plC ns s k) (plS ns s ps k).2 then ((plS ns s ps k).1++[("m" ++ digF k,(plQ ps (plC ns s k / 5 / 4)).name,itsF ((plG ns s:Int)+k) (plC ns s k / 5 / 4 / ps.length) (plQ ps (plC ns s k / 5 / 4)).givens.length)],true)
 else ((plS ns s ps k).1++[("m" ++ digF k,howF (plC ns s k),itsF ((plG ns s:Int)+k) (plC ns s k / 5 / 4) (1+plC ns s k / 5 % 4).toNat)],(plS ns s ps k).2):=rfl
def plF (ns:List Int)(s:Nat)(nm:Str)(ps:List Pl)(m:Int):Pl:=⟨nm,(List.range (plG ns s)).map fun k => "g" ++ digF k,(plS ns s ps (plM ns s m)).1⟩
theorem zha (ns:List Int)(s:Nat):1≤plG ns s∧plG ns s≤4:=by unfold plG;omega
theorem zi6 (ns:List Int)(s:Nat){m:Int}(h1:1≤m)(h2:m≤8):1≤plM ns s m∧plM ns s m≤8∧(plM ns s m:Int)≤m:=by
 unfold plM
 have a:=Int.emod_nonneg (zbf ns s % 1000000000 / 4) (show m≠0 by omega)
 have b:=Int.emod_lt_of_pos (zbf ns s % 1000000000 / 4) (show 0<m by omega)
 omega
theorem zgu {ps:List Pl}(h:ps ≠ [])(c:Int):plQ ps c∈ps∧atI (ps.map zag) (c % (ps.length:Int))=some (zag (plQ ps c)):=by
 have hl:0<ps.length:=List.length_pos_iff.mpr h
 have a:=Int.emod_nonneg c (show (ps.length:Int)≠0 by omega)
 have b:=Int.emod_lt_of_pos c (show 0<(ps.length:Int) by omega)
 unfold plQ
 obtain ⟨j,hj⟩:∃ j:Nat,c % (ps.length:Int)=(j:Int):=⟨(c % (ps.length:Int)).toNat,by omega⟩
 rw [hj] at a b ⊢
 have jl:j<ps.length:=by omega
 have e:=zbM (l:=ps.map zag) (k:=j) (by rw [List.length_map];exact jl)
 rw [e,Int.toNat_natCast,List.getElem?_map,List.getD_eq_getElem?_getD,List.getElem?_eq_getElem jl]
 exact ⟨List.getElem_mem jl,rfl⟩
theorem zcr (ns:List Int)(s:Nat)(ps:List Pl):∀ k,(plS ns s ps k).1.length=k
 | 0=>rfl
 | k+1=>by
  unfold plS
  split
  ·rw [List.length_append,zcr ns s ps k];rfl
  ·rw [List.length_append,zcr ns s ps k];rfl
theorem zcT {ns:List Int}{s:Nat}{ps:List Pl}:∀ {k:Nat},(plS ns s ps k).2=false→ps ≠ []
 | 0,h,z=>by rw [z] at h;(first|exact zqn h|exact zqb h|(obtain rfl:=Option.some.inj h)|cases h)
 | k+1,h,z=>by
  unfold plS at h
  split at h
  ·first|exact zqn h|exact zqb h|(obtain rfl:=Option.some.inj h)|cases h
  ·exact zcT h z
theorem zf9 {ns:List Int}{s:Nat}{ps:List Pl}(hg:∀ q∈ps,1≤q.givens.length∧q.givens.length≤4):∀ (k:Nat),k≤60→∀ (i:Nat) r,(plS ns s ps k).1[i]? = some r→RwP ps ((plG ns s:Int)+i) r
 | 0,_,i,r,h=>by first|exact zqn h|exact zqb h|(obtain rfl:=Option.some.inj h)|cases h
 | k+1,hk,i,r,h=>by
  have eg:=zha ns s
  have l1:TxtOk 1 "m" := zcP (by decide +kernel)
  have a1:=(l1.app (zcb (k:=k) (by omega)).2).asc
  have its_rng:∀ (p:Int) (n:Nat),∀ x∈itsF ((plG ns s:Int)+k) p n,0≤x.1∧x.1<(plG ns s:Int)+k:=fun p n x hx=>by
   obtain ⟨j,_,rfl⟩:=List.mem_map.mp hx
   exact ⟨Int.emod_nonneg _ (by omega),Int.emod_lt_of_pos _ (by omega)⟩
  have its_ne:∀ (p:Int) (n:Nat),1≤n→itsF ((plG ns s:Int)+k) p n ≠ []:=fun p n hn z=>by
   have:=zch ((plG ns s:Int)+k) p n
   rw [z] at this
   have:0=n:=this
   omega
  have last:∀ (x:Rw),((plS ns s ps k).1++[x])[i]? = some r→(i<k∧(plS ns s ps k).1[i]? = some r)∨(i=k∧r=x):=fun x hx=>by
   have ll:=zcr ns s ps k
   rcases Nat.lt_or_ge i k with z|z
   ·rw [List.getElem?_append_left (by omega)] at hx
    exact .inl ⟨z,hx⟩
   ·rw [List.getElem?_append_right (by omega)] at hx
    have hi:i-(plS ns s ps k).1.length=0:=by
     rcases Nat.eq_zero_or_pos (i-(plS ns s ps k).1.length) with y|y
     ·exact y
     ·rw [List.getElem?_eq_none (by rw [List.length_singleton];omega)] at hx
      first|exact zqn hx|exact zqb hx|(obtain rfl:=Option.some.inj hx)|cases hx
    rw [hi] at hx
    first|exact zqn hx|exact zqb hx|(obtain rfl:=Option.some.inj hx)|cases hx
    exact .inr ⟨by omega,rfl⟩
  unfold plS at h
  split at h
  ·rename_i hp
   rcases last _ h with ⟨_,z⟩|⟨rfl,rfl⟩
   ·exact zf9 hg k (by omega) i r z
   ·obtain ⟨qm,_⟩:=zgu (zcT hp.2) (plC ns s i / 5 / 4)
    obtain ⟨g1,g2⟩:=hg _ qm
    exact ⟨a1,.inr (.inr ⟨_,qm,rfl,zch _ _ _⟩),its_ne _ _ g1,by rw [zch];omega,its_rng _ _⟩
  ·rcases last _ h with ⟨_,z⟩|⟨rfl,rfl⟩
   ·exact zf9 hg k (by omega) i r z
   ·refine ⟨a1,?_,its_ne _ _ (by omega),by rw [zch];omega,its_rng _ _⟩
    show howF (plC ns s i)=_∨howF (plC ns s i)=_∨_
    unfold howF
    split
    ·exact .inr (.inl rfl)
    ·exact .inl rfl
theorem zkS {ns:List Int}{s:Nat}{nm:Str}{ps:List Pl}{m:Int}(hg:∀ q∈ps,1≤q.givens.length∧q.givens.length≤4)(h1:1≤m)(h2:m≤8):PlP ps (plF ns s nm ps m):=by
 have eg:=zha ns s
 have en:=zi6 ns s h1 h2
 have lg:(plF ns s nm ps m).givens.length=plG ns s:=by
  show ((List.range (plG ns s)).map fun k => "g" ++ digF k).length=_
  rw [List.length_map,List.length_range]
 have lr:(plF ns s nm ps m).rows.length=plM ns s m:=zcr ns s ps _
 exact ⟨by omega,by omega,by omega,by omega,fun k r h=>by rw [lg];exact zf9 hg _ (by omega) k r h⟩
theorem f_z9 (ns:List Int){s:Nat}{nm:Str}{ps:List Pl}{m:Int}(hs:s≤60)(hl:ps.length≤20)(hg:∀ q∈ps,1≤q.givens.length∧q.givens.length≤4)(h1:1≤m)(h2:m≤8)(a:Addr):F_z9 [.scr ns,.int s,.str nm,.adr a,.int m] [(a,.lst (ps.map zag))]=.ok (zag (plF ns s nm ps m),[(a,.lst (ps.map zag))]):=by
 refine zdi rfl ?_
 have eg:=zha ns s
 have en:=zi6 ns s h1 h2
 have c1:=f_z5 ns s
 have q9:gPow (.int 10) (.int 9)=some (.int 1000000000):=rfl
 have q64:gPow (.int 10) (.int 64)=some (.int 10000000000000000000000000000000000000000000000000000000000000000):=by
  show some (D.int (10 ^ 64))=_
  congr 2
 have q20:gPow (.int 10) (.int 20)=some (.int 100000000000000000000):=rfl
 have l1:TxtOk 1 "m" := zcP (by decide +kernel)
 have l2:TxtOk 1 "g" := zcP (by decide +kernel)
 have ap:asc "part" := by unfold asc;decide +kernel
 have p1:gEq (.str "part") (.str "part")=some (.bl true):=by rw [zaG ap ap];congr 2
 have p2:gEq (.str "all") (.str "part")=some (.bl false):=by rw [zaG zb4 ap];congr 2
 have p3:gEq (.str "first") (.str "part")=some (.bl false):=by rw [zaG zaM ap];congr 2
 obtain ⟨P,hP⟩:∃ P,P=zbf ns s % 1000000000:=⟨_,rfl⟩
 have hgv:1+P % 4=(plG ns s:Int):=by unfold plG;omega
 have hn:1+P / 4 % m=(plM ns s m:Int):=by
  unfold plM
  have z:=Int.emod_nonneg (zbf ns s % 1000000000 / 4) (show m≠0 by omega)
  rw [hP]
  omega
 have hu:gEqE (.lst (ps.map zag)) (.lst [])=some (.bl ps.isEmpty):=by show some (D.bl (ps.map zag).isEmpty)=_;rw [List.isEmpty_map]
 generalize hR:ps.map zag=PD at hu
 unfold G_z9
 refine sqE (sd':=[some (.val (.scr ns)),some (.val (.int s)),some (.val (.str nm)),some (.val (.adr a)),some (.val (.int m)),some (.own false (potD P)),none,none,none,none,none,none,none,none]) (zbm ?_) ?_
 ·simp [zay,c1,q9,hP,potD]
 refine sqE (zbm (zck (zbn (fun a=>f_z6 a (by omega) (by omega)) rfl _ (fun _=>rfl) _ _ (fun _=>rfl) (z:=.int (plG ns s)) (by rw [← hgv];rfl)))) ?_
 refine sqE (sd':=[some (.val (.scr ns)),some (.val (.int s)),some (.val (.str nm)),some (.val (.adr a)),some (.val (.int m)),some (.own false (potD (P / 4))),some (.val (.int (plG ns s))),some (.own false (.lst [])),none,none,none,none,none,none]) (zbm ?_) ?_
 ·simp
 refine sqE (sd':=[some (.val (.scr ns)),some (.val (.int s)),some (.val (.str nm)),some (.val (.adr a)),some (.val (.int m)),some (.own false (potD (P / 4))),some (.val (.int (plG ns s))),some (.own false (.lst [])),some (.val (.bl ps.isEmpty)),none,none,none,none,none]) (hp':=[(a,.lst PD)]) ?_ ?_
 ·have zd:der [(a,D.lst PD)] (.adr a)=.lst PD:=by
   unfold der
   rw [zgx]
  simp [zd,hu,Res.strict]
 have hn0:=hn
 generalize hB:zbu (s2L (sOwn 10 _)) _=b
 have lp:∃ u9 u10 u11 u12 u13,for2 (zcv (.one 9) b) (zaz 0 (plM ns s m)) [some (.val (.scr ns)),some (.val (.int s)),some (.val (.str nm)),some (.val (.adr a)),some (.val (.int m)),some (.own false (potD (P / 4 / m))),some (.val (.int (plG ns s))),some (.own false (.lst ([]))),some (.val (.bl ps.isEmpty)),none,none,none,none,none] [(a,.lst PD)]=.ok (.next [some (.val (.scr ns)),some (.val (.int s)),some (.val (.str nm)),some (.val (.adr a)),some (.val (.int m)),some (.own false (potD (P / 4 / m))),some (.val (.int (plG ns s))),some (.own false (.lst ((plF ns s nm ps m).rows.map rowD))),some (.val (.bl (plS ns s ps (plM ns s m)).2)),u9,u10,u11,u12,u13] [(a,.lst PD)]):=by
  obtain ⟨sd',hp',e,u9,u10,u11,u12,u13,hs',hh⟩:=zdg (b:=zcv (.one 9) b) (ds:=zaz 0 (plM ns s m)) (sd:=[some (.val (.scr ns)),some (.val (.int s)),some (.val (.str nm)),some (.val (.adr a)),some (.val (.int m)),some (.own false (potD (P / 4 / m))),some (.val (.int (plG ns s))),some (.own false (.lst ([]))),some (.val (.bl ps.isEmpty)),none,none,none,none,none]) (hp:=[(a,.lst PD)])
   (P:=fun i sd hp => ∃ u9 u10 u11 u12 u13,sd=[some (.val (.scr ns)),some (.val (.int s)),some (.val (.str nm)),some (.val (.adr a)),some (.val (.int m)),some (.own false (potD (P / 4 / m))),some (.val (.int (plG ns s))),some (.own false (.lst ((plS ns s ps i).1.map rowD))),some (.val (.bl (plS ns s ps i).2)),u9,u10,u11,u12,u13]∧hp=[(a,.lst PD)]) ⟨none,none,none,none,none,rfl,rfl⟩ (by
    rintro i x sd hp hx ⟨u9,u10,u11,u12,u13,rfl,rfl⟩
    obtain ⟨rfl,hi⟩:=zb5 hx
    rw [Int.zero_add]
    have c2:=f_z5 ns (s+1+i)
    rw [show (((s+1+i:Nat):Int))=(s:Int)+1+(i:Int) by omega] at c2
    have m0:=Int.emod_nonneg (zbf ns (s+1+i)) (b:=10000000000000000000000000000000000000000000000000000000000000000) (by omega)
    have m1:=Int.emod_lt_of_pos (zbf ns (s+1+i)) (b:=10000000000000000000000000000000000000000000000000000000000000000) (by omega)
    have m2:=zbL (i:=zbf ns (s+1+i) % 10000000000000000000000000000000000000000000000000000000000000000) (j:=100000000000000000000) (zk0 (Nat.lt_of_lt_of_le (show _<10000000000000000000000000000000000000000000000000000000000000000 by omega) (Nat.le_of_ble_eq_true rfl)) (Nat.le_of_ble_eq_true rfl))
    have eC:zbf ns (s+1+i) % 10000000000000000000000000000000000000000000000000000000000000000*100000000000000000000+zbf ns s % 100000000000000000000=plC ns s i:=rfl
    subst hB
    obtain ⟨dg,dt⟩:=zcb (k:=i) (by omega)
    have g3:=zdz l1 dt (by omega)
    have lS:=zcr ns s ps i
    have hz:((plS ns s ps i).1.map rowD).length<sizeLine:=za0 (by rw [List.length_map,lS];omega)
    rw [zhP]
    have us:=zcT (ns:=ns) (s:=s) (ps:=ps) (k:=i)
    generalize plS ns s ps i=st at hz us
    obtain ⟨rs,used⟩:=st
    have hz:(rs.map rowD).length<sizeLine:=hz
    have us:used=false→ps ≠ []:=us
    obtain ⟨C,hC⟩:∃ C,C=plC ns s i:=⟨_,rfl⟩
    rw [← hC] at eC ⊢
    obtain ⟨n,hcn⟩:∃ n:Nat,1+C / 5 % 4=(n:Int):=⟨(1+C / 5 % 4).toNat,by omega⟩
    have hnt:(1+C / 5 % 4).toNat=n:=by omega
    rw [hnt]
    rw [zhR,zcs,Res.bind_ok]
    have ix:∃ h0,gIxS (.lst [.str "all",.str "first",.str "all",.str "first",.str "part"]) (.int (C % 5))=some (.str h0)∧((h0 = "part" ∧ howF C = "all" ∧ C % 5=4)∨(h0 = "all" ∧ howF C = "all" ∧ C % 5≠4)∨(h0 = "first" ∧ howF C = "first" ∧ C % 5≠4)):=by
     unfold howF
     obtain z|z|z|z|z:C % 5=0∨C % 5=1∨C % 5=2∨C % 5=3∨C % 5=4:=by omega
     ·rw [z];exact ⟨_,rfl,.inr (.inl ⟨rfl,by simp,by omega⟩)⟩
     ·rw [z];exact ⟨_,rfl,.inr (.inr ⟨rfl,by simp,by omega⟩)⟩
     ·rw [z];exact ⟨_,rfl,.inr (.inl ⟨rfl,by simp,by omega⟩)⟩
     ·rw [z];exact ⟨_,rfl,.inr (.inr ⟨rfl,by simp,by omega⟩)⟩
     ·rw [z];exact ⟨_,rfl,.inl ⟨rfl,by simp,rfl⟩⟩
    obtain ⟨h0,ix,hw⟩:=ix
    have nxt:∀ (b6:FS2) (r:Res Out2),(∀ h1:Str,(h1 = "part" ∧ isPt ps C used)∨(h1=howF C∧¬ isPt ps C used∧gEq (.str h1) (.str "part")=some (.bl false))→b6 [some (.val (.scr ns)),some (.val (.int s)),some (.val (.str nm)),some (.val (.adr a)),some (.val (.int m)),some (.own false (potD (P / 4 / m))),some (.val (.int (plG ns s))),some (.own false (.lst (rs.map rowD))),some (.val (.bl used)),some (.val (.int i)),some (.own false (potD (C / 5 / 4))),some (.val (.str h1)),some (.val (.int n)),u13] [(a,.lst PD)]=r)→zbu (s2L (sIf (zhY (za4 (dOp gEq (dVar 11) (dC (.str "part")))) (za4 (dVar 8))) (sSet 11 (dC (.str "all"))) zbJ)) b6 [some (.val (.scr ns)),some (.val (.int s)),some (.val (.str nm)),some (.val (.adr a)),some (.val (.int m)),some (.own false (potD (P / 4 / m))),some (.val (.int (plG ns s))),some (.own false (.lst (rs.map rowD))),some (.val (.bl used)),some (.val (.int i)),some (.own false (potD (C / 5 / 4))),some (.val (.str h0)),some (.val (.int n)),u13] [(a,.lst PD)]=r:=fun b6 r k=>by
     rcases hw with ⟨z1,z2,z3⟩|⟨z1,z2,z3⟩|⟨z1,z2,z3⟩
     ·subst z1
      cases used with
      | true=>exact sq2 (sd':=[some (.val (.scr ns)),some (.val (.int s)),some (.val (.str nm)),some (.val (.adr a)),some (.val (.int m)),some (.own false (potD (P / 4 / m))),some (.val (.int (plG ns s))),some (.own false (.lst (rs.map rowD))),some (.val (.bl true)),some (.val (.int i)),some (.own false (potD (C / 5 / 4))),some (.val (.str "all")),some (.val (.int n)),u13]) (hp':=[(a,.lst PD)]) (by simp [p1]) (k "all" (.inr ⟨z2.symm,fun q=>(nomatch q.2),p2⟩))
      | false=>exact sq2 (sd':=[some (.val (.scr ns)),some (.val (.int s)),some (.val (.str nm)),some (.val (.adr a)),some (.val (.int m)),some (.own false (potD (P / 4 / m))),some (.val (.int (plG ns s))),some (.own false (.lst (rs.map rowD))),some (.val (.bl false)),some (.val (.int i)),some (.own false (potD (C / 5 / 4))),some (.val (.str "part")),some (.val (.int n)),u13]) (hp':=[(a,.lst PD)]) (by simp [p1]) (k "part" (.inl ⟨rfl,z3,rfl⟩))
     ·subst z1
      exact sq2 (sd':=[some (.val (.scr ns)),some (.val (.int s)),some (.val (.str nm)),some (.val (.adr a)),some (.val (.int m)),some (.own false (potD (P / 4 / m))),some (.val (.int (plG ns s))),some (.own false (.lst (rs.map rowD))),some (.val (.bl used)),some (.val (.int i)),some (.own false (potD (C / 5 / 4))),some (.val (.str "all")),some (.val (.int n)),u13]) (hp':=[(a,.lst PD)]) (by simp [p2]) (k "all" (.inr ⟨z2.symm,fun q=>z3 q.1,p2⟩))
     ·subst z1
      exact sq2 (sd':=[some (.val (.scr ns)),some (.val (.int s)),some (.val (.str nm)),some (.val (.adr a)),some (.val (.int m)),some (.own false (potD (P / 4 / m))),some (.val (.int (plG ns s))),some (.own false (.lst (rs.map rowD))),some (.val (.bl used)),some (.val (.int i)),some (.own false (potD (C / 5 / 4))),some (.val (.str "first")),some (.val (.int n)),u13]) (hp':=[(a,.lst PD)]) (by simp [p3]) (k "first" (.inr ⟨z2.symm,fun q=>z3 q.1,p3⟩))
    have it:=fun (p:Int) (c:Nat) (hc:c≤10)=>fun a=>f_z8 (p:=p) (m:=(plG ns s:Int)+i) (c:=c) a (by omega) (by omega) hc
    by_cases hp:isPt ps C used
    ·rw [if_pos hp]
     obtain ⟨qm,qa⟩:=zgu (us hp.2) (C / 5 / 4)
     have ql:=hg _ qm
     have hps:0<ps.length:=List.length_pos_iff.mpr (us hp.2)
     have lPD:PD.length=ps.length:=by rw [← hR,List.length_map]
     rw [hR] at qa
     generalize plQ ps (C / 5 / 4)=q at qa ql
     refine ⟨[some (.val (.scr ns)),some (.val (.int s)),some (.val (.str nm)),some (.val (.adr a)),some (.val (.int m)),some (.own false (potD (P / 4 / m))),some (.val (.int (plG ns s))),some (.own false (.lst ((rs++[("m" ++ digF i,q.name,itsF ((plG ns s:Int)+i) (C / 5 / 4 / ps.length) q.givens.length)]).map rowD))),some (.val (.bl true)),some (.val (.int i)),some (.own false (potD (potI ((plG ns s:Int)+i) (C / 5 / 4 / ps.length) q.givens.length))),some (.val (.str q.name)),some (.val (.int q.givens.length)),some (.val (zag q))],[(a,.lst PD)],?_,_,_,_,_,_,rfl,rfl⟩
     refine sq2 (sd':=[some (.val (.scr ns)),some (.val (.int s)),some (.val (.str nm)),some (.val (.adr a)),some (.val (.int m)),some (.own false (potD (P / 4 / m))),some (.val (.int (plG ns s))),some (.own false (.lst (rs.map rowD))),some (.val (.bl used)),some (.val (.int i)),some (.own false (potD (C))),u11,u12,u13]) (hp':=[(a,.lst PD)]) (zbm ?_) ?_
     ·simp [c1,c2,q64,q20,m2,eC,potD]
     refine sq2 (zbm (zck (zbn (fun a=>f_z6 a (by omega) (by omega)) rfl _ (fun _=>rfl) _ _ (fun _=>rfl) (z:=.str h0) ix))) ?_
     refine sq2 (zbm (zck (zbn (p:=C / 5) (fun a=>f_z6 a (by omega) (by omega)) rfl _ (fun _=>rfl) _ _ (fun _=>rfl) (z:=.int n) (by rw [← hcn];rfl)))) ?_
     refine nxt _ _ fun h1 hh1 => ?_
     have e1:h1 = "part" := by
      rcases hh1 with z|z
      ·exact z.1
      ·exact absurd hp z.2.1
     subst e1
     refine sq2 (sd':=[some (.val (.scr ns)),some (.val (.int s)),some (.val (.str nm)),some (.val (.adr a)),some (.val (.int m)),some (.own false (potD (P / 4 / m))),some (.val (.int (plG ns s))),some (.own false (.lst (rs.map rowD))),some (.val (.bl true)),some (.val (.int i)),some (.own false (potD (C / 5 / 4 / ps.length))),some (.val (.str q.name)),some (.val (.int q.givens.length)),some (.val (zag q))]) (hp':=[(a,.lst PD)]) (if2_t (by simp [p1]) ?_) ?_
     ·refine sq2 (sd':=[some (.val (.scr ns)),some (.val (.int s)),some (.val (.str nm)),some (.val (.adr a)),some (.val (.int m)),some (.own false (potD (P / 4 / m))),some (.val (.int (plG ns s))),some (.own false (.lst (rs.map rowD))),some (.val (.bl true)),some (.val (.int i)),some (.own false (potD (C / 5 / 4))),some (.val (.str "part")),some (.val (.int n)),u13]) (hp':=[(a,.lst PD)]) (by simp) ?_
      have zd:∀ b:Addr,b≠a→der [(b,potD (C / 5 / 4)),(a,D.lst PD)] (.adr a)=.lst PD:=fun b hb=>by
       unfold der
       rw [zaq,if_neg (fun z=>hb z.symm),zgx]
      refine sq2 (zig (zhA (d1:=potD (C / 5 / 4 / ps.length)) (v:=zag q) rfl fun b hb => ?_)) ?_
      ·have tk:=zcp (p:=C / 5 / 4) (m:=(ps.length:Int)) b [(a,D.lst PD)] (by omega) (by omega)
       have ixq:=zlu (b:=b) (d:=potD (C / 5 / 4 / ps.length)) (fun z=>hb z.symm) qa
       simp [zd b hb,Res.strict,lPD,tk,ixq,zbP]
      have fn:gFld "Plan" "name" (zag q)=some (.str q.name):=rfl
      have fg:gFld "Plan" "givens" (zag q)=some (.lst (q.givens.map .str)):=rfl
      generalize zag q=qd at fn fg
      simp [fn,fg]
     ·have it:=it (C / 5 / 4 / ps.length) q.givens.length (by omega)
      refine zbm ((zei rfl (zdt (d1:=potD (potI ((plG ns s:Int)+i) (C / 5 / 4 / ps.length) q.givens.length)) (v:=rowD ("m" ++ digF i,q.name,itsF ((plG ns s:Int)+i) (C / 5 / 4 / ps.length) q.givens.length)) rfl fun a => ?_) rfl hz).trans ?_)
      ·have it:=it a
       simp [dg,g3,it,rowD]
      ·rw [List.map_append]
       rfl
    ·rw [if_neg hp]
     refine ⟨[some (.val (.scr ns)),some (.val (.int s)),some (.val (.str nm)),some (.val (.adr a)),some (.val (.int m)),some (.own false (potD (P / 4 / m))),some (.val (.int (plG ns s))),some (.own false (.lst ((rs++[("m" ++ digF i,howF C,itsF ((plG ns s:Int)+i) (C / 5 / 4) n)]).map rowD))),some (.val (.bl used)),some (.val (.int i)),some (.own false (potD (potI ((plG ns s:Int)+i) (C / 5 / 4) n))),some (.val (.str (howF C))),some (.val (.int n)),u13],[(a,.lst PD)],?_,_,_,_,_,_,rfl,rfl⟩
     refine sq2 (sd':=[some (.val (.scr ns)),some (.val (.int s)),some (.val (.str nm)),some (.val (.adr a)),some (.val (.int m)),some (.own false (potD (P / 4 / m))),some (.val (.int (plG ns s))),some (.own false (.lst (rs.map rowD))),some (.val (.bl used)),some (.val (.int i)),some (.own false (potD (C))),u11,u12,u13]) (hp':=[(a,.lst PD)]) (zbm ?_) ?_
     ·simp [c1,c2,q64,q20,m2,eC,potD]
     refine sq2 (zbm (zck (zbn (fun a=>f_z6 a (by omega) (by omega)) rfl _ (fun _=>rfl) _ _ (fun _=>rfl) (z:=.str h0) ix))) ?_
     refine sq2 (zbm (zck (zbn (p:=C / 5) (fun a=>f_z6 a (by omega) (by omega)) rfl _ (fun _=>rfl) _ _ (fun _=>rfl) (z:=.int n) (by rw [← hcn];rfl)))) ?_
     refine nxt _ _ fun h1 hh1 => ?_
     obtain ⟨e1,_,e2⟩:h1=howF C∧¬ isPt ps C used∧gEq (.str h1) (.str "part")=some (.bl false):=by
      rcases hh1 with z|z
      ·exact absurd z.2 hp
      ·exact z
     subst e1
     refine sq2 (sd':=[some (.val (.scr ns)),some (.val (.int s)),some (.val (.str nm)),some (.val (.adr a)),some (.val (.int m)),some (.own false (potD (P / 4 / m))),some (.val (.int (plG ns s))),some (.own false (.lst (rs.map rowD))),some (.val (.bl used)),some (.val (.int i)),some (.own false (potD (C / 5 / 4))),some (.val (.str (howF C))),some (.val (.int n)),u13]) (hp':=[(a,.lst PD)]) (if2_f (by simp [e2]) rfl) ?_
     have it:=it (C / 5 / 4) n (by omega)
     refine zbm ((zei rfl (zdt (d1:=potD (potI ((plG ns s:Int)+i) (C / 5 / 4) n)) (v:=rowD ("m" ++ digF i,howF C,itsF ((plG ns s:Int)+i) (C / 5 / 4) n)) rfl fun a => ?_) rfl hz).trans ?_)
     ·have it:=it a
      simp [dg,g3,it,rowD]
     ·rw [List.map_append]
      rfl)
  rw [zaZ] at hs'
  exact ⟨u9,u10,u11,u12,u13,by rw [e,hs',hh];rfl⟩
 obtain ⟨u9,u10,u11,u12,u13,lp⟩:=lp
 refine sqE ((zi3 (n:=plM ns s m) (zbn (fun a=>f_z6 a (by omega) (by omega)) rfl _ (fun _=>rfl) _ _ (fun _=>rfl) (z:=.int (plM ns s m)) (by rw [← hn];rfl)) (by omega)).trans lp) ?_
 have r1:zbx [.int (plG ns s)]=.ok (zaz 0 (plG ns s)):=by rw [zaK (by omega) (by omega)];rfl
 have mk:mapE (.one 0) (dOp gAdd (dC (.str "g")) (dBlt gStr (zab (dVar 0) dNil))) [none] (zaz 0 (plG ns s))=.ok ((List.range (plG ns s)).map fun k:Nat=>.str ("g" ++ digF k)):=zcI fun i hi=>by
  obtain ⟨dg,dt⟩:=zcb (k:=i) (by omega)
  have g3:=zdz l2 dt (by omega)
  simp [dg,g3]
 have hz:=zaZ 0 (plG ns s)
 have e0:zag (plF ns s nm ps m)=.ins "Plan" ["name", "givens", "rows"] [.str nm,.lst ((List.range (plG ns s)).map fun k:Nat=>.str ("g" ++ digF k)),.lst ((plF ns s nm ps m).rows.map rowD)]:=by
  show D.ins _ _ [_,.lst (List.map D.str (List.map _ _)),_]=_
  rw [List.map_map]
  rfl
 rw [e0]
 generalize (plF ns s nm ps m).rows.map rowD=RD
 simp [r1,mk,hz,za0 (show plG ns s≤1000 by omega),I_Plan,runI,zay]
def zi0:FS:=(sSeq (sOwn 3 (dLst dNil)) (sSeq (sFor (iR1 (zab (dVar 1) dNil)) (.one 4) (zeh 3 (xOwn 3 (zaC F_z9 (zab (dVar 0) (zab (dOp gAdd (dC (.int 1)) (dOp gMul (dVar 4) (dOp gAdd (dVar 2) (dC (.int 1))))) (zab (dOp gAdd (dC (.str "p")) (dBlt gStr (zab (dVar 4) dNil))) (zab (dVar 3) (zab (dVar 2) dNil))))))))) (fun sd=>(sRet (ziq "Book" ["plans"] I_Book (zab (dVar 3) dNil))) (frzD [3] sd))))
def zfi:List D→Res D:=runN 5 3 zi0
theorem f_z10 (ns:List Int){n m:Nat}(hn:n≤4)(h1:1≤m)(h2:m≤8):∃ ps,ps.length=n∧BkP ps∧zfi [.scr ns,.int n,.int m]=.ok (zaU ps):=by
 have r1:zbx [.int n]=.ok (zaz 0 n):=by rw [zaK (by omega) (by omega)];rfl
 have l1:TxtOk 1 "p" := zcP (by decide +kernel)
 obtain ⟨sd',e,ps,u,hs,hl,B⟩:=zb0 (tg:=.one 4) (b:=zeh 3 (xOwn 3 (zaC F_z9 (zab (dVar 0) (zab (dOp gAdd (dC (.int 1)) (dOp gMul (dVar 4) (dOp gAdd (dVar 2) (dC (.int 1))))) (zab (dOp gAdd (dC (.str "p")) (dBlt gStr (zab (dVar 4) dNil))) (zab (dVar 3) (zab (dVar 2) dNil)))))))) (ds:=zaz 0 n) (sd:=[some (.val (.scr ns)),some (.val (.int n)),some (.val (.int m)),some (.own false (.lst [])),none])
  (P:=fun i sd => ∃ (ps:List Pl) (u:Option SV),sd=[some (.val (.scr ns)),some (.val (.int n)),some (.val (.int m)),some (.own false (.lst (ps.map zag))),u]∧ps.length=i∧BkP ps) ⟨[],none,rfl,rfl,zkQ⟩ (by
   rintro i x sd hx ⟨ps,u,rfl,hl,B⟩
   obtain ⟨rfl,hi⟩:=zb5 hx
   rw [Int.zero_add]
   obtain ⟨dg,dt⟩:=zcb (k:=i) (by omega)
   have g3:=zdz l1 dt (by omega)
   have m1:=zbL (zdl (i:=(i:Int)) (j:=(m:Int)+1) (by omega) (by omega))
   have hb:i*(m+1)≤3*9:=Nat.mul_le_mul (by omega) (by omega)
   obtain ⟨s,es⟩:∃ s:Nat,s=1+i*(m+1):=⟨_,rfl⟩
   have es2:1+(i:Int)*((m:Int)+1)=(s:Int):=by rw [es];push_cast;rfl
   have P:=zkS (ns:=ns) (s:=s) (nm := "p" ++ digF i) (ps:=ps) (m:=(m:Int)) B.giv (by omega) (by omega)
   have fp:=fun a=>f_z9 ns (s:=s) (nm := "p" ++ digF i) (ps:=ps) (m:=(m:Int)) (by omega) (by omega) B.giv (by omega) (by omega) a
   refine ⟨[some (.val (.scr ns)),some (.val (.int n)),some (.val (.int m)),some (.own false (.lst ((ps++[plF ns s ("p" ++ digF i) ps m]).map zag))),some (.val (.int i))],?_,_,_,rfl,by rw [List.length_append,List.length_singleton,hl],B.snoc (by omega) P (by rw [hl];rfl)⟩
   rw [zcs,Res.bind_ok]
   refine (zei rfl (zdt (d1:=.lst (ps.map zag)) (v:=zag (plF ns s ("p" ++ digF i) ps m)) rfl fun a => ?_) rfl (za0 (by rw [List.length_map];omega))).trans ?_
   ·have fp:=fp a
    simp [dg,g3,m1,es2,fp]
   ·rw [List.map_append]
    rfl)
 subst hs
 rw [zaZ] at hl
 refine ⟨ps,hl,B,?_⟩
 have e2:zaU ps=.ins "Book" ["plans"] [.lst (ps.map zag)]:=rfl
 rw [e2]
 generalize ps.map zag=PD at e
 simp [zfi,zi0,r1,e,I_Book,runI,zay]
def zhE:FS:=(sSeq (sOwn 2 (dLst dNil)) (sSeq (sFor (iR1 (zab (dVar 1) dNil)) (.one 3) (sSeq (sSet 4 (dOp gMod (dOp gMul (dOp gAdd (dOp gAdd (dOp gMod (dOp zhw (dVar 0) (dOp gAdd (dVar 3) (dC (.int 1)))) (dC (.int 2147483647))) (dOp gMul (dC (.int 17)) (dVar 3))) (dC (.int 5))) (dC (.int 48271))) (dC (.int 2147483647)))) (sSeq (zaH 2 (dOp gSub (dOp gMod (dVar 4) (dC (.int 19))) (dC (.int 9)))) (sIf (za4 (dOp gEq (dOp gMod (dOp zhw (dVar 4) (dC (.int 19))) (dC (.int 3))) (dC (.int 0)))) (zie 2 (dVar 3) (dOp gSub (dOp gMod (dOp zhw (dVar 0) (dOp gAdd (dVar 3) (dC (.int 2)))) (dOp gAdd (dOp gMul (dC (.int 2)) (dOp gPow (dC (.int 10)) (dC (.int 60)))) (dC (.int 1)))) (dOp gPow (dC (.int 10)) (dC (.int 60))))) zbJ)))) (zcn 2)))
def zcG:List D→Res D:=runN 5 2 zhE
theorem f_z11 (c:Int){n:Nat}(hn:n≤12):∃ hs:List Int,hs.length=n∧zcG [.int c,.int n]=.ok (.lst (hs.map .int)):=by
 have r1:zbx [.int n]=.ok (zaz 0 n):=by rw [zaK (by omega) (by omega)];rfl
 have q60:gPow (.int 10) (.int 60)=some (.int 1000000000000000000000000000000000000000000000000000000000000):=by
  show some (D.int (10 ^ 60))=_
  congr 2
 have m9:gMul (.int 2) (.int 1000000000000000000000000000000000000000000000000000000000000)=some (.int 2000000000000000000000000000000000000000000000000000000000000):=by
  rw [zbL (zdl (by omega) (by omega))]
  rfl
 unfold zcG
 rw [zkK 5 2 _ [.int c,.int n] rfl]
 unfold zhE
 generalize hB:sSeq (sSet 4 _) _=b
 obtain ⟨sd',e,hs,u,v,hs',hl⟩:=zb0 (tg:=.one 3) (b:=b) (ds:=zaz 0 n) (sd:=[some (.val (.int c)),some (.val (.int n)),some (.own false (.lst [])),none,none])
  (P:=fun i sd => ∃ (hs:List Int) (u v:Option SV),sd=[some (.val (.int c)),some (.val (.int n)),some (.own false (.lst (hs.map .int))),u,v]∧hs.length=i) ⟨[],none,none,rfl,rfl⟩ (by
   rintro i x sd hx ⟨hs,u,v,rfl,hl⟩
   obtain ⟨rfl,hi⟩:=zb5 hx
   rw [Int.zero_add]
   have d1:=zeO (i:=c) (j:=(i:Int)+1) (by omega) (by omega)
   have d2:=zeO (i:=c) (j:=(i:Int)+2) (by omega) (by omega)
   have m1:=zbL (zdl (i:=17) (j:=(i:Int)) (by omega) (by omega))
   generalize hw:c / ((i:Int)+1)=w at d1
   generalize hw2:c / ((i:Int)+2)=w2 at d2
   have m2:=zbL (zkf (i:=w % 2147483647+17*(i:Int)+5) (j:=48271) (by omega) (by omega))
   generalize hx:(w % 2147483647+17*(i:Int)+5)*48271=x at m2
   have m3:=zfR (i:=w2) (j:=2000000000000000000000000000000000000000000000000000000000001) (by omega)
   have lm:(hs.map D.int).length=i:=by rw [List.length_map];exact hl
   have hz:=za0 (show hs.length≤1000 by omega)
   generalize hy:x % 2147483647 % 19-9=y
   have hx2:ixN (hs.length+1) (i:Int)=some i:=by have:=zjV (hs.map D.int) (D.int y);rw [lm,List.length_append,List.length_map] at this;exact this
   have hset:∀ z,(hs.map D.int++[D.int y]).set i z=hs.map D.int++[z]:=fun z=>by have:=zi1 (hs.map D.int) (D.int y) z;rw [lm] at this;exact this
   subst hB
   by_cases z:x % 2147483647 / 19 % 3=0
   ·refine ⟨[some (.val (.int c)),some (.val (.int n)),some (.own false (.lst ((hs++[w2 % 2000000000000000000000000000000000000000000000000000000000001-1000000000000000000000000000000000000000000000000000000000000]).map .int))),some (.val (.int i)),some (.val (.int (x % 2147483647)))],?_,_,_,_,rfl,by rw [List.length_append,List.length_singleton,hl]⟩
    simp [d1,d2,m1,m2,m3,q60,m9,hz,hy,z,hx2,hset]
   ·refine ⟨[some (.val (.int c)),some (.val (.int n)),some (.own false (.lst ((hs++[y]).map .int))),some (.val (.int i)),some (.val (.int (x % 2147483647)))],?_,_,_,_,rfl,by rw [List.length_append,List.length_singleton,hl]⟩
    simp [d1,d2,m1,m2,hz,hy,z])
 subst hs'
 refine ⟨hs,by rw [hl,zaZ],?_⟩
 simp [zay,r1,e]
def zgR (self:List D→Res D):FS:=(sSeq (sOwn 3 (dBlt zbw (zab (dVar 2) dNil))) (sSeq (sFor (iS (dUn (gFld "Plan" "rows") (dVar 1))) (.one 4) (sSeq (sOwn 5 (zhD [3] (zbZ [none,none,some 3] (iS (dOp gIx (dVar 4) (dC (.int 2)))) (.tup [0,1]) (dOp gAdd (dOp gIx (dVar 2) (dVar 0)) (dVar 1))))) (sIf (za4 (dOp gEq (dOp gIx (dVar 4) (dC (.int 1))) (dC (.str "all")))) (fun sd=>(zaH 3 (dOp gIx (dBlt zb8 (zab (dVar 5) dNil)) (dUn gNeg (dC (.int 1))))) (frzD [5] sd)) (sIf (za4 (dOp gEq (dOp gIx (dVar 4) (dC (.int 1))) (dC (.str "first")))) (fun sd=>(zaH 3 (dOp gIx (dBlt zb8 (zab (dVar 5) dNil)) (dC (.int 0)))) (frzD [5] sd)) (sSeq (sSet 6 (dOp gIx (zdr [none,some 4] (iS (dVar 0)) (.one 0) (za4 (dOp gEq (dUn (gFld "Plan" "name") (dVar 0)) (dOp gIx (dVar 1) (dC (.int 1))))) (dVar 0)) (dC (.int 0)))) (fun sd=>(zaH 3 (dOp gIx (zaA self (zab (dVar 0) (zab (dVar 6) (zab (dVar 5) dNil)))) (dUn gNeg (dC (.int 1))))) (frzD [5] sd))))))) (fun sd=>(sRet (dVar 3)) (frzD [3] sd))))
def F_z12:Nat→List D→Res D
 | 0=>fun _=>.no
 | n+1=>runD 7 3 (zgR (F_z12 n))
theorem zkI {ps:List Pl}(B:BkP ps):∀ (n i:Nat) (p:Pl) (hs:List Int),ps[i]? = some p→i<n→hs.length=p.givens.length→F_z12 n [.lst (ps.map zag),zag p,.lst (hs.map .int)]=.ok (.lst ((runP ps n p hs).map .int))
 | 0,i,p,hs,_,h,_=>absurd h (Nat.not_lt_zero _)
 | n+1,i,p,hs,hp,hi,hl=>by
  have P:=B.ok i p hp
  have g2:=P.g2
  have r2:=P.r2
  have lps:=B.len
  have fr:gFld "Plan" "rows" (zag p)=some (.lst (p.rows.map rowD)):=rfl
  show runD 7 3 (zgR (F_z12 n)) _=_
  rw [zd4,zfr 7 3 _ [.lst (ps.map zag),zag p,.lst (hs.map .int)] rfl]
  unfold zgR
  generalize hB:sSeq (sOwn 5 _) _=b
  obtain ⟨sd',e,u,v,w,hs'⟩:=zb0 (tg:=.one 4) (b:=b) (ds:=p.rows.map rowD) (sd:=[some (.val (.lst (ps.map zag))),some (.val (zag p)),some (.val (.lst (hs.map .int))),some (.own false (.lst (hs.map .int))),none,none,none])
   (P:=fun i sd => ∃ u v w,sd=[some (.val (.lst (ps.map zag))),some (.val (zag p)),some (.val (.lst (hs.map .int))),some (.own false (.lst ((runR (rcP ps n) (p.rows.take i) hs).map .int))),u,v,w]) ⟨none,none,none,rfl⟩ (by
    rintro k x sd hx ⟨u,v,w,rfl⟩
    obtain ⟨r,hr1,rfl⟩:=zd9 hx
    obtain ⟨bd,ln,hk⟩:=P.at (rc:=rcP ps n) hl hr1
    have R:=P.row k r hr1
    have tr:=zgD bd
    have l10:=R.sh
    have tne:=ziB (found:=runR (rcP ps n) (p.rows.take k) hs) R.ne
    have tl:=zhi (runR (rcP ps n) (p.rows.take k) hs) r.2.2
    have hw:=B.how hp hr1
    have z1:=za0 (show r.2.2.length≤1000 by omega)
    have z2:=za0 (show (runR (rcP ps n) (p.rows.take k) hs).length≤1000 by omega)
    rw [zd3 hr1]
    unfold valP
    obtain ⟨nm,how,its⟩:=r
    simp only at *
    generalize tmsF (runR (rcP ps n) (p.rows.take k) hs) its=ts at *
    have gs:=zcF (ns:=ts) (by omega)
    have g1:=zhK tne
    have g2':=zh6 tne
    have fl:=zhq id ts
    have fl:zhJ (.lst (ts.map D.int))=true:=fl
    generalize (zb2 ltI ts).map D.int=ss at gs g1 g2'
    have g1:atI ss (-1)=_:=g1
    have g2':atI ss 0=_:=g2'
    subst hB
    have i1:gIx (rowD (nm,how,its)) (.int 1)=some (.str how):=rfl
    have i2:gIx (rowD (nm,how,its)) (.int 2)=some (.tup (its.map prD)):=rfl
    rcases hw with z|z|⟨z0,z1',z2',j,q,z3,z4,z5,z6⟩
    ·subst z
     generalize rowD (nm, "all",its)=rr at i1 i2
     generalize zag p=pp
     refine ⟨[some (.val (.lst (ps.map zag))),some (.val pp),some (.val (.lst (hs.map .int))),some (.own false (.lst ((runR (rcP ps n) (p.rows.take k) hs++[maxI ts]).map .int))),some (.val rr),some (.val (.lst (ts.map .int))),w],?_,_,_,_,rfl⟩
     simp [i1,i2,tr,gs,g1,fl,z1,z2,zmj,Res.bare]
    ·subst z
     have nfa:¬ ("first" : Str) = "all" := by decide +kernel
     generalize rowD (nm, "first",its)=rr at i1 i2
     generalize zag p=pp
     refine ⟨[some (.val (.lst (ps.map zag))),some (.val pp),some (.val (.lst (hs.map .int))),some (.own false (.lst ((runR (rcP ps n) (p.rows.take k) hs++[minI ts]).map .int))),some (.val rr),some (.val (.lst (ts.map .int))),w],?_,_,_,_,rfl⟩
     simp [i1,i2,tr,gs,g2',fl,z1,z2,zlJ,zle,nfa,Res.bare]
    ·rw [if_neg z1',if_neg z2']
     obtain ⟨n',rfl⟩:∃ n',n=n'+1:=⟨n-1,by omega⟩
     obtain ⟨ys,ey⟩:=B.part (n:=n') z4 ts
     have ih:=zkI B (n'+1) j q ts z4 (by omega) (tl.trans z6)
     rw [ey,← z5] at ih
     have e1:=zaG z0 zb4
     have e2:=zaG z0 zaM
     have fd:=B.find z4
     rw [← z5] at fd
     have mt:zc8 (.one 0) (za4 (dOp gEq (dUn (gFld "Plan" "name") (dVar 0)) (dOp gIx (dVar 1) (dC (.int 1))))) (dVar 0) [none,some (.val (rowD (nm,how,its)))] (ps.map zag)=.ok ((ps.filter fun q=>decide (q.name=how)).map zag):=by
      refine zhI (s:=fun q => [some (.val (zag q)),some (.val (rowD (nm,how,its)))]) (fun q _=>rfl) (fun q hq => ?_) fun q _ _=>rfl
      have ge:=zaG (B.ascs q hq) z0
      have fn:gFld "Plan" "name" (zag q)=some (.str q.name):=rfl
      generalize rowD (nm,how,its)=rr at i1
      simp [fn,i1,ge]
     have a0:atI ((ps.filter fun q=>decide (q.name=how)).map zag) 0=some (zag q):=by
      have hh:(ps.filter fun q=>decide (q.name=how)).head? = some q:=by rw [List.head?_filter];exact fd
      cases c:ps.filter fun q=>decide (q.name=how) with
      | nil=>rw [c] at hh;exact zqn hh
      | cons y l =>
       rw [c] at hh
       have e0:y=q:=Option.some.inj hh
       rw [e0]
       exact zbM (l:=(q::l).map zag) (k:=0) (by simp)
     generalize (ps.filter fun q=>decide (q.name=how)).map zag=FD at mt a0
     have lz:=za0 (show (ps.map zag).length≤1000 by rw [List.length_map];omega)
     have li:=zcy (f:=D.int) ys (rcP ps (n'+1) how ts)
     generalize (ys++[rcP ps (n'+1) how ts]).map D.int=YD at ih li
     have li:atI YD (-1)=some (.int (rcP ps (n'+1) how ts)):=li
     generalize rcP ps (n'+1) how ts=val at li
     generalize rowD (nm,how,its)=rr at i1 i2 mt
     generalize hPD:ps.map zag=PD at mt ih lz
     generalize zag p=pp
     generalize zag q=qd at a0 ih
     refine ⟨[some (.val (.lst PD)),some (.val pp),some (.val (.lst (hs.map .int))),some (.own false (.lst ((runR (rcP ps (n'+1)) (p.rows.take k) hs++[val]).map .int))),some (.val rr),some (.val (.lst (ts.map .int))),some (.val qd)],?_,_,_,_,rfl⟩
     simp [i1,i2,tr,fl,z1,z2,e1,e2,z1',z2',mt,a0,lz,ih,li,Res.bare])
  rw [List.length_map,List.take_length] at hs'
  subst hs'
  have run:∀ {r:Res Out} {d1:D},r=.ok (.ret d1)→r.bind outV=.ok d1:=fun e=>by rw [e];rfl
  refine run ?_
  refine sqN (sd':=[some (.val (.lst (ps.map zag))),some (.val (zag p)),some (.val (.lst (hs.map .int))),some (.own false (.lst (hs.map .int))),none,none,none]) (by simp [zay]) ?_
  refine sqN (sd':=_) (Eq.trans ?_ e) ?_
  ·simp [fr]
  ·simp
def zhF:FS:=(sSeq (sSet 3 (dBlt zik (zab (dVar 2) (zab (dBlt ziz (zab (dC (.int 0)) (zab (dOp gSub (dBlt gLen (zab (dVar 0) dNil)) (dVar 1)) dNil))) dNil)))) (sRet (zbZ [none,some 0,some 1,some 2] (iR1 (zab (dVar 3) dNil)) (.one 0) (dBlt gSum (zab (dSl (dVar 1) (zeu (dOp gAdd (dVar 2) (dVar 0))) zcZ (zeu (dVar 3))) dNil)))))
def zgU:List D→Res D:=runN 4 3 zhF
theorem zdU {ns:List Int}(h:ns.length≤63){a most:Int}(a0:0≤a)(a1:a≤100)(m0:1≤most)(m1:most≤60):∃ cs:List Int,(cs.length:Int)≤most∧zgU [.scr ns,.int a,.int most]=.ok (.lst (cs.map .int)):=by
 obtain ⟨m,hm,em⟩:∃ m:Nat,(m:Int)≤most∧(if (if a<(ns.length:Int) then (ns.length:Int)-a else 0)<most then (if a<(ns.length:Int) then (ns.length:Int)-a else 0) else most)=(m:Int):=by
  refine ⟨(if (if a<(ns.length:Int) then (ns.length:Int)-a else 0)<most then (if a<(ns.length:Int) then (ns.length:Int)-a else 0) else most).toNat,?_,?_⟩<;>(repeat' split)<;>omega
 have r1:zbx [.int (m:Int)]=.ok (zaz 0 m):=by
  rw [zaK (by omega) (by omega),Int.toNat_natCast]
 have key:mapE (.one 0) (dBlt gSum (zab (dSl (dVar 1) (zeu (dOp gAdd (dVar 2) (dVar 0))) zcZ (zeu (dVar 3))) dNil)) [none,some (.val (.scr ns)),some (.val (.int a)),some (.val (.int most))] (zaz 0 m)=.ok ((List.range m).map fun k:Nat=>.int (zaR ns (some (a+(k:Int))) none (some most)).sum):=zcI fun i hi=>by
  have gs:=zkp (ds:=ns) (lo:=some (a+(i:Int))) (hi:=none) (c:=most) (by omega)
  simp [gs]
 refine ⟨(List.range m).map fun k:Nat=>(zaR ns (some (a+(k:Int))) none (some most)).sum,by simpa using hm,?_⟩
 rw [List.map_map]
 have lz:=za0 (show m≤1000 by omega)
 simp [zgU,zhF,em,r1,key,zaZ,lz]
def G_z4:FS:=(sRet (zix (dBlt gIsi (zab (dVar 0) (zab (dC (.ty "int")) dNil))) (zjA (dBlt gIsi (zab (dVar 0) (zab (dC (.ty "bool")) dNil))))))
def F_z4:List D→Res D:=runD 1 1 G_z4
@[simp] theorem zhh (i:Int):F_z4 [.int i]=.ok (.bl true):=by
 simp [F_z4,G_z4]
def G_z2 (self:List D→Res D):FS:=(sRet (dOp gIx (zaA self (zab (dVar 0) (zab (dVar 1) (zab (dVar 2) dNil)))) (dUn gNeg (dC (.int 1)))))
def G_z3 (self:List D→Res D):FS:=(sSeq (sIf (za4 (dOp gEq (dVar 1) (dC (.str "all")))) (sRet (dBlt zga (zab (dVar 2) dNil))) zbJ) (sSeq (sIf (za4 (dOp gEq (dVar 1) (dC (.str "first")))) (sRet (dBlt zgA (zab (dVar 2) dNil))) zbJ) (sRet (zaA self (zab (dVar 0) (zab (dVar 1) (zab (dVar 2) dNil)))))))
def G_z0:FS:=(sSeq (sFor (iS (dUn (gFld "Book" "plans") (dVar 0))) (.one 2) (sIf (za4 (dOp gEq (dUn (gFld "Plan" "name") (dVar 2)) (dVar 1))) (sRet (dVar 2)) zbJ)) sNo)
def F_z0:List D→Res D:=runD 3 2 G_z0
theorem f_z0 {ps:List Pl}{x:Str}{p:Pl}(hx:asc x)(hp:∀ p∈ps,asc p.name)(hf:ps.find? (fun p=>decide (p.name=x))=some p):F_z0 [zaU ps,.str x]=.ok (zag p):=by
 have ge:∀ p∈ps,gEq (.str p.name) (.str x)=some (.bl (decide (p.name=x))):=fun p hq=>zaG (hp p hq) hx
 have lp:forT (.one 2) (sIf (za4 (dOp gEq (dUn (gFld "Plan" "name") (dVar 2)) (dVar 1))) (sRet (dVar 2)) zbJ) (ps.map zag) [some (.val (zaU ps)),some (.val (.str x)),none]=.ok (.ret (zag p)):=by
  refine zih (R:=fun r=>r=.ok (.ret (zag p))) (P:=fun i sd=>(∀ q∈ps.take i,decide (q.name=x)=false)∧∃ u,sd=[some (.val (zaU ps)),some (.val (.str x)),u]) ⟨fun q h=>by simp at h,none,rfl⟩ (fun sd ⟨h1,h2⟩ => ?_) fun i d sd hd ⟨h1,u,h2⟩ => ?_
  ·rw [List.length_map,List.take_length] at h1
   have:ps.find? (fun p=>decide (p.name=x))=none:=List.find?_eq_none.mpr fun q hq=>by rw [h1 q hq];simp
   rw [this] at hf
   first|exact zqn hf|exact zqb hf|(obtain rfl:=Option.some.inj hf)|cases hf
  ·obtain ⟨q,hp1,rfl⟩:=zd9 hd
   have hm:q∈ps:=List.mem_of_getElem? hp1
   have gp:=ge q hm
   have tk:ps.take (i+1)=ps.take i++[q]:=by rw [List.take_succ,hp1];rfl
   cases c:decide (q.name=x) with
   | true =>
    rw [c] at gp
    refine .inr (.inr ⟨zag q,?_,?_⟩)
    ·subst h2
     simp [gp]
    ·rw [zg4 h1 hp1 c] at hf
     first|exact zqn hf|exact zqb hf|(obtain rfl:=Option.some.inj hf)|cases hf
     rfl
   | false =>
    rw [c] at gp
    refine .inl ⟨[some (.val (zaU ps)),some (.val (.str x)),some (.val (zag q))],.inl ?_,fun y hy => ?_,_,rfl⟩
    ·subst h2
     simp [gp]
    ·rw [tk] at hy
     rcases List.mem_append.mp hy with z|z
     ·exact h1 y z
     ·rw [List.mem_singleton.mp z];exact c
 simp [F_z0,G_z0,lp]
def G_z1 (self:List D→Res D):FS:=(sSeq (sOwn 3 (dBlt zbw (zab (dVar 2) dNil))) (sSeq (sFor (iS (dUn (gFld "Plan" "rows") (zaA F_z0 (zab (dVar 0) (zab (dVar 1) dNil))))) (.tup [4,5,6]) (zaH 3 (dTmp [3] (zaA self (zab (dVar 0) (zab (dVar 5) (zab (zbZ [none,none,some 3] (iS (dVar 6)) (.tup [0,1]) (dOp gAdd (dOp gIx (dVar 2) (dVar 0)) (dVar 1))) dNil))))))) (fun sd=>(sRet (dVar 3)) (frzD [3] sd))))
def F_z1:Nat→List D→Res D
 | 0=>fun _=>.no
 | n+1=>runD 7 3 (G_z1 (runD 3 3 (G_z3 (runD 3 3 (G_z2 (F_z1 n))))))
def F_z2 (n:Nat):List D→Res D:=runD 3 3 (G_z2 (F_z1 n))
def F_z3 (n:Nat):List D→Res D:=runD 3 3 (G_z3 (F_z2 n))
theorem f_z2 {n:Nat}{bk nm hs:D}{ys:List Int}{x:Int}(h:F_z1 n [bk,nm,hs]=.ok (.lst ((ys++[x]).map .int))):F_z2 n [bk,nm,hs]=.ok (.int x):=by
 have l:=zcy (f:=D.int) ys x
 generalize (ys++[x]).map D.int=es at h l
 have l:atI es (-1)=some (.int x):=l
 simp [F_z2,G_z2,h,l]
theorem zfh (n:Nat)(b:D){hs:List Int}(hn:hs ≠ []):F_z3 n [b,.str "all",.lst (hs.map .int)]=.ok (.int (maxI hs)):=by
 have m1:=zfy hn
 simp [F_z3,G_z3,zmj,m1]
theorem zdN (n:Nat)(b:D){hs:List Int}(hn:hs ≠ []):F_z3 n [b,.str "first",.lst (hs.map .int)]=.ok (.int (minI hs)):=by
 have m2:=zfu hn
 simp [F_z3,G_z3,zlJ,zle,m2]
theorem zep {n:Nat}{b d:D}{how:Str}{z:D}(ha:asc how)(h1:how ≠ "all")(h2:how ≠ "first")(h:F_z2 n [b,.str how,d]=.ok z):F_z3 n [b,.str how,d]=.ok z:=by
 have e1:=zaG ha zb4
 have e2:=zaG ha zaM
 simp [F_z3,G_z3,e1,e2,h1,h2,h]
theorem f_z1 {ps:List Pl}(B:BkP ps):∀ (n i:Nat) (p:Pl) (hs:List Int),ps[i]? = some p→i<n→hs.length=p.givens.length→F_z1 n [zaU ps,.str p.name,.lst (hs.map .int)]=.ok (.lst ((runP ps n p hs).map .int))
 | 0,i,p,hs,_,h,_=>absurd h (Nat.not_lt_zero _)
 | n+1,i,p,hs,hp,hi,hl=>by
  have P:=B.ok i p hp
  have g2:=P.g2
  have r2:=P.r2
  have pb:=f_z0 (B.at hp).2.2.1 B.ascs (B.find hp)
  show runD 7 3 (G_z1 (F_z3 n)) _=_
  rw [zd4]
  obtain ⟨sd',e,u,v,w,hs'⟩:=zb0 (tg:=.tup [4,5,6]) (b:=zaH 3 (dTmp [3] (zaA (F_z3 n) (zab (dVar 0) (zab (dVar 5) (zab (zbZ [none,none,some 3] (iS (dVar 6)) (.tup [0,1]) (dOp gAdd (dOp gIx (dVar 2) (dVar 0)) (dVar 1))) dNil)))))) (ds:=p.rows.map rowD) (sd:=[some (.val (zaU ps)),some (.val (.str p.name)),some (.val (.lst (hs.map .int))),some (.own false (.lst (hs.map .int))),none,none,none])
   (P:=fun i sd => ∃ u v w,sd=[some (.val (zaU ps)),some (.val (.str p.name)),some (.val (.lst (hs.map .int))),some (.own false (.lst ((runR (rcP ps n) (p.rows.take i) hs).map .int))),u,v,w]) ⟨none,none,none,rfl⟩ (by
    rintro k x sd hx ⟨u,v,w,rfl⟩
    obtain ⟨r,hr1,rfl⟩:=zd9 hx
    obtain ⟨bd,ln,hk⟩:=P.at (rc:=rcP ps n) hl hr1
    have R:=P.row k r hr1
    have tr:=zgD bd
    have l10:=R.sh
    have tne:=ziB (found:=runR (rcP ps n) (p.rows.take k) hs) R.ne
    have tl:=zhi (runR (rcP ps n) (p.rows.take k) hs) r.2.2
    have mh:F_z3 n [zaU ps,.str r.2.1,.lst ((tmsF (runR (rcP ps n) (p.rows.take k) hs) r.2.2).map .int)]=.ok (.int (valP (rcP ps n) (runR (rcP ps n) (p.rows.take k) hs) r)):=by
     unfold valP
     rcases B.how hp hr1 with z|z|⟨z0,z1,z2,j,q,z3,z4,z5,z6⟩
     ·rw [z,if_pos rfl];exact zfh n _ tne
     ·rw [z,if_neg (by decide +kernel),if_pos rfl];exact zdN n _ tne
     ·rw [if_neg z1,if_neg z2]
      refine zep z0 z1 z2 ?_
      obtain ⟨n',rfl⟩:∃ n',n=n'+1:=⟨n-1,by omega⟩
      obtain ⟨ys,ey⟩:=B.part (n:=n') z4 (tmsF (runR (rcP ps (n'+1)) (p.rows.take k) hs) r.2.2)
      have ih:=f_z1 B (n'+1) j q _ z4 (by omega) (tl.trans z6)
      rw [ey,← z5] at ih
      exact f_z2 ih
    have z1:=za0 (show r.2.2.length≤1000 by omega)
    have z2:=za0 (show (runR (rcP ps n) (p.rows.take k) hs).length≤1000 by omega)
    refine ⟨[some (.val (zaU ps)),some (.val (.str p.name)),some (.val (.lst (hs.map .int))),some (.own false (.lst ((runR (rcP ps n) (p.rows.take (k+1)) hs).map .int))),some (.val (.str r.1)),some (.val (.str r.2.1)),some (.val (rwD r.2.2))],?_,_,_,_,rfl⟩
    rw [zd3 hr1]
    have er:rwD r.2.2=.tup (r.2.2.map prD):=rfl
    generalize valP (rcP ps n) (runR (rcP ps n) (p.rows.take k) hs) r=val at mh
    generalize zaU ps=bk at mh
    rw [zgM,Res.bind_ok]
    simp [er,tr,mh,z1,z2,Res.bare])
  rw [List.length_map,List.take_length] at hs'
  subst hs'
  have fr:gFld "Plan" "rows" (zag p)=some (.lst (p.rows.map rowD)):=rfl
  generalize zaU ps=bk at pb e
  generalize zag p=pl at pb fr
  simp [G_z1,pb,fr,e]
def zhX:FS:=(sSeq (sSet 1 (zaA zfi (zab (dVar 0) (zab (dOp gAdd (dC (.int 2)) (dOp gMod (zaA F_z5 (zab (dVar 0) (zab (dC (.int 0)) dNil))) (dC (.int 3)))) (zab (dC (.int 4)) dNil))))) (sPin 1 (sSeq (sSet 2 (dBlt zbw (zab (dUn (gFld "Book" "plans") (dVar 1)) dNil))) (sSeq (sSet 3 (zbZ [none] (iS (dUnp (dVar 2))) (.one 0) (dBlt zbw (zab (dUn (gFld "Plan" "rows") (dVar 0)) dNil)))) (sSeq (sFor (iS (dOp gAdd (dLst (zab (dC (.int 3)) dNil)) (zaA zgU (zab (dVar 0) (zab (dC (.int 21)) (zab (dC (.int 20)) dNil)))))) (.one 4) (sSeq (sOwn 5 (dLst dNil)) (sSeq (sFor (iS (dUnp (dVar 2))) (.one 6) (sSeq (sSet 7 (zaA zcG (zab (dVar 4) (zab (dBlt gLen (zab (dUn (gFld "Plan" "givens") (dVar 6)) dNil)) dNil)))) (sSeq (zaH 5 (zaA (F_z12 4) (zab (dUnp (dVar 2)) (zab (dVar 6) (zab (dVar 7) dNil))))) (sIf (za4 (dOp gNe (zaA (F_z1 4) (zab (dUnp (dVar 1)) (zab (dUn (gFld "Plan" "name") (dVar 6)) (zab (dVar 7) dNil)))) (zbX 5 (dUn gNeg (dC (.int 1)))))) (sRet (dC (.bl false))) zbJ)))) (sFor (iR1 (zab (dBlt gLen (zab (dUnp (dVar 2)) dNil)) dNil)) (.one 8) (sSeq (sSet 6 (dOp gIx (dUnp (dVar 2)) (dOp gSub (dOp gSub (dBlt gLen (zab (dUnp (dVar 2)) dNil)) (dC (.int 1))) (dVar 8)))) (sSeq (sSet 7 (zaA zcG (zab (dVar 4) (zab (dBlt gLen (zab (dUn (gFld "Plan" "givens") (dVar 6)) dNil)) dNil)))) (sSeq (sSet 9 (zaA (F_z2 4) (zab (dUnp (dVar 1)) (zab (dUn (gFld "Plan" "name") (dVar 6)) (zab (dVar 7) dNil))))) (sIf (dOrT (zib (za4 (zaA F_z4 (zab (dVar 9) dNil)))) (za4 (dOp gNe (dVar 9) (dOp gIx (zbX 5 (dOp gSub (dOp gSub (dBlt gLen (zab (dUnp (dVar 2)) dNil)) (dC (.int 1))) (dVar 8))) (dUn gNeg (dC (.int 1))))))) (sRet (dC (.bl false))) zbJ)))))))) (sRet (zix (dOp gEqP (dUn (gFld "Book" "plans") (dVar 1)) (dVar 2)) (dOp gEq (zbZ [none] (iS (dUnp (dVar 2))) (.one 0) (dBlt zbw (zab (dUn (gFld "Plan" "rows") (dVar 0)) dNil))) (dVar 3)))))))))
def zfq:List D→Res D:=runD 10 1 zhX
theorem law_true (ns:List Int)(h:ns.length≤63):zfq [.scr ns]=.ok (.bl true):=by
 have c0:F_z5 [.scr ns,.int 0]=.ok (.int (zbf ns 0)):=f_z5 ns 0
 obtain ⟨L,hL,l1,l2⟩:∃ L:Nat,2+zbf ns 0 % 3=(L:Int)∧2≤L∧L≤4:=⟨(2+zbf ns 0 % 3).toNat,by omega,by omega,by omega⟩
 obtain ⟨ps,lp,B,fb⟩:=f_z10 ns (n:=L) (m:=4) l2 (by omega) (by omega)
 have fb:zfi [.scr ns,.int L,.int 4]=.ok (zaU ps):=fb
 obtain ⟨cs,hcs,ftu⟩:=zdU h (a:=21) (most:=20) (by omega) (by omega) (by omega) (by omega)
 have ga:gAdd (.lst [.int 3]) (.lst (cs.map .int))=some (.lst (((3:Int)::cs).map .int)):=by
  rw [List.map_cons]
  exact if_pos (zfx (by rw [List.length_map,List.length_singleton];omega))
 have run:∀ {g:FS} {d:D},g (zay 10 [.scr ns])=.ok (.ret d)→runD 10 1 g [.scr ns]=.ok d:=fun e=>by
  rw [zfr 10 1 _ [.scr ns] rfl,e]
  rfl
 have rowsE:mapE (.one 0) (dBlt zbw (zab (dUn (gFld "Plan" "rows") (dVar 0)) dNil)) [none] (ps.map zag)=.ok (ps.map fun p=>.lst (p.rows.map rowD)):=zgn fun p _=>by
  have fr:gFld "Plan" "rows" (zag p)=some (.lst (p.rows.map rowD)):=rfl
  simp [fr]
 have plR:plN 12 (.lst (ps.map fun p=>.lst (p.rows.map rowD)))=true:=by
  show (ps.map fun p=>D.lst (p.rows.map rowD)).all (plN 11)=true
  rw [List.all_eq_true]
  intro x hx
  obtain ⟨p,hp,rfl⟩:=List.mem_map.mp hx
  obtain ⟨i,hi⟩:=List.mem_iff_getElem?.mp hp
  exact pl_pr (B.ok i p hi) (fun q hq=>B.ascs q (List.mem_of_mem_take hq)) 5
 have sameR:gEq (.lst (ps.map fun p=>.lst (p.rows.map rowD))) (.lst (ps.map fun p=>.lst (p.rows.map rowD)))=some (.bl true):=by rw [zhd plR plR,zbo]
 generalize (ps.map fun p=>D.lst (p.rows.map rowD))=RV at rowsE sameR
 refine run ?_
 unfold zhX
 refine sqN (sd':=[some (.val (.scr ns)),some (.val (zaU ps)),none,none,none,none,none,none,none,none]) (by simp [zay,c0,hL,fb]) ?_
 refine zjJ (ds:=ps.map zag) rfl (List.all_eq_true.mpr fun x hx=>by obtain ⟨p,_,rfl⟩:=List.mem_map.mp hx;rfl) fun as has => ?_
 obtain ⟨u1,u2⟩:=zgJ as (ps.map zag) has
 have lPP:(List.zipWith D.pin as (ps.map zag)).length=L:=by rw [List.length_zipWith,has,Nat.min_self,List.length_map,lp]
 show sSeq _ _ [some (.val (.scr ns)),some (.val (.ins "Book" ["plans"] [.lst (List.zipWith D.pin as (ps.map zag))])),none,none,none,none,none,none,none,none]=_
 generalize List.zipWith D.pin as (ps.map zag)=PP at u1 u2 lPP
 have uB:unpI (.ins "Book" ["plans"] [.lst PP])=zaU ps:=by
  show D.ins "Book" ["plans"] [.lst (PP.map unp0)]=_
  rw [u1]
  rfl
 have uP:unpI (.lst PP)=.lst (ps.map zag):=by
  show D.lst (PP.map unp0)=_
  rw [u1]
 have eqP:gEqP (.lst PP) (.lst PP)=some (.bl true):=by
  show ((zbg pinA PP).bind fun as=>(zbg pinA PP).bind fun bs=>if as=bs then some (D.bl true) else none)=_
  rw [u2]
  exact if_pos rfl
 have fB:gFld "Book" "plans" (.ins "Book" ["plans"] [.lst PP])=some (.lst PP):=rfl
 generalize D.ins "Book" ["plans"] [.lst PP]=bk at uB fB
 have lPD:(ps.map zag).length=L:=by rw [List.length_map,lp]
 have zPD:(ps.map zag).length<sizeLine:=za0 (by omega)
 refine sqN (sd':=[some (.val (.scr ns)),some (.val bk),some (.val (.lst PP)),none,none,none,none,none,none,none]) (by simp [fB]) ?_
 refine sqN (sd':=[some (.val (.scr ns)),some (.val bk),some (.val (.lst PP)),some (.val (.lst RV)),none,none,none,none,none,none]) (by simp [uP,rowsE,lp,za0 (show L≤1000 by omega)]) ?_
 generalize hB:sSeq (sOwn 5 _) _=b
 obtain ⟨sd',e,u4,u5,u6,u7,u8,u9,hs'⟩:=zb0 (tg:=.one 4) (b:=b) (ds:=((3:Int)::cs).map .int) (sd:=[some (.val (.scr ns)),some (.val bk),some (.val (.lst PP)),some (.val (.lst RV)),none,none,none,none,none,none])
  (P:=fun _ sd => ∃ u4 u5 u6 u7 u8 u9:Option SV,sd=[some (.val (.scr ns)),some (.val bk),some (.val (.lst PP)),some (.val (.lst RV)),u4,u5,u6,u7,u8,u9]) ⟨none,none,none,none,none,none,rfl⟩ (by
   rintro i x sd hx ⟨u4,u5,u6,u7,u8,u9,rfl⟩
   obtain ⟨c,_,rfl⟩:=zd9 hx
   obtain ⟨hF,hFo⟩:=zfO (n:=13) (P:=fun (n:Nat) (hs:List Int)=>hs.length=n∧zcG [.int c,.int n]=.ok (.lst (hs.map .int))) fun n hn=>by
    obtain ⟨hs,h1,h2⟩:=f_z11 c (n:=n) (by omega)
    exact ⟨hs,h1,h2⟩
   have one:∀ (j:Nat) p,ps[j]? = some p→zcG [.int c,.int p.givens.length]=.ok (.lst ((hF p.givens.length).map .int))∧F_z12 4 [.lst (ps.map zag),zag p,.lst ((hF p.givens.length).map .int)]=.ok (.lst ((runP ps 4 p (hF p.givens.length)).map .int))∧F_z1 4 [zaU ps,.str p.name,.lst ((hF p.givens.length).map .int)]=.ok (.lst ((runP ps 4 p (hF p.givens.length)).map .int))∧F_z2 4 [zaU ps,.str p.name,.lst ((hF p.givens.length).map .int)]=.ok (.int ((runP ps 4 p (hF p.givens.length)).getLastD 0))∧gIx (.lst ((runP ps 4 p (hF p.givens.length)).map .int)) (.int (-1))=some (.int ((runP ps 4 p (hF p.givens.length)).getLastD 0)):=fun j p hp=>by
    have g2:=(B.ok j p hp).g2
    obtain ⟨h1,h2⟩:=hFo p.givens.length (by omega)
    have hj:=(B.at hp).2.1
    have r1:=zkI B 4 j p _ hp hj h1
    have r2:=f_z1 B 4 j p _ hp hj h1
    obtain ⟨ys,ey⟩:=zdQ (ps:=ps) (n:=3) (hs:=hF p.givens.length) (B.ok j p hp)
    refine ⟨h2,r1,r2,?_,?_⟩
    ·rw [ey] at r2
     have:=f_z2 r2
     exact this
    ·have:=zcy (f:=D.int) ys ((runP ps 4 p (hF p.givens.length)).getLastD 0)
     rw [← ey] at this
     exact this
   subst hB
   rw [zcs,Res.bind_ok]
   obtain ⟨sd1,e1,v6,v7,hs1⟩:=zb0 (tg:=.one 6) (b:=(sSeq (sSet 7 (zaA zcG (zab (dVar 4) (zab (dBlt gLen (zab (dUn (gFld "Plan" "givens") (dVar 6)) dNil)) dNil)))) (sSeq (zaH 5 (zaA (F_z12 4) (zab (dUnp (dVar 2)) (zab (dVar 6) (zab (dVar 7) dNil))))) (sIf (za4 (dOp gNe (zaA (F_z1 4) (zab (dUnp (dVar 1)) (zab (dUn (gFld "Plan" "name") (dVar 6)) (zab (dVar 7) dNil)))) (zbX 5 (dUn gNeg (dC (.int 1)))))) (sRet (dC (.bl false))) zbJ)))) (ds:=ps.map zag) (sd:=[some (.val (.scr ns)),some (.val bk),some (.val (.lst PP)),some (.val (.lst RV)),some (.val (.int c)),some (.own false (.lst [])),u6,u7,u8,u9])
    (P:=fun i sd => ∃ v6 v7:Option SV,sd=[some (.val (.scr ns)),some (.val bk),some (.val (.lst PP)),some (.val (.lst RV)),some (.val (.int c)),some (.own false (.lst ((ps.take i).map fun p=>.lst ((runP ps 4 p (hF p.givens.length)).map .int)))),v6,v7,u8,u9]) ⟨u6,u7,rfl⟩ (by
     rintro j x sd hx ⟨v6,v7,rfl⟩
     obtain ⟨p,hp,rfl⟩:=zd9 hx
     obtain ⟨o1,o2,o3,_,_⟩:=one j p hp
     have tk:ps.take (j+1)=ps.take j++[p]:=by rw [List.take_succ,hp];rfl
     have zz:((ps.take j).map fun p=>D.lst ((runP ps 4 p (hF p.givens.length)).map .int)).length<sizeLine:=za0 (by rw [List.length_map,List.length_take];omega)
     have li:=zcy (f:=fun p:Pl=>D.lst ((runP ps 4 p (hF p.givens.length)).map .int)) (ps.take j) p
     have nn:gNe (.lst ((runP ps 4 p (hF p.givens.length)).map .int)) (.lst ((runP ps 4 p (hF p.givens.length)).map .int))=some (.bl false):=by rw [zi9 (zg1 _) (zg1 _),zbo];rfl
     rw [tk]
     rw [List.map_append,List.map_cons,List.map_nil] at li ⊢
     have fn:gFld "Plan" "name" (zag p)=some (.str p.name):=rfl
     have fg:gFld "Plan" "givens" (zag p)=some (.lst (p.givens.map .str)):=rfl
     generalize ((ps.take j).map fun p=>D.lst ((runP ps 4 p (hF p.givens.length)).map .int))=DU at zz li
     generalize hY:(runP ps 4 p (hF p.givens.length)).map D.int=Y at o2 o3 li nn
     have li:atI (DU++[.lst Y]) (-1)=some (.lst Y):=li
     generalize (hF p.givens.length).map D.int=H at o1 o2 o3
     generalize zag p=pd at fn fg o2
     generalize zaU ps=bD at uB o3
     generalize ps.map zag=PD at uP o2
     refine ⟨[some (.val (.scr ns)),some (.val bk),some (.val (.lst PP)),some (.val (.lst RV)),some (.val (.int c)),some (.own false (.lst (DU++[.lst Y]))),some (.val pd),some (.val (.lst H)),u8,u9],?_,_,_,rfl⟩
     simp [fg,fn,o1,uP,o2,zz,uB,o3,li,nn])
   subst hs1
   rw [List.length_map,List.take_length] at e1
   have dz:∀ (j:Nat) p,ps[j]? = some p→atI (ps.map fun p=>D.lst ((runP ps 4 p (hF p.givens.length)).map .int)) (j:Int)=some (.lst ((runP ps 4 p (hF p.givens.length)).map .int)):=fun j p hp=>by
    rw [zbM (by rw [List.length_map];exact (List.getElem?_eq_some_iff.mp hp).1),List.getElem?_map,hp]
    rfl
   have pz:∀ (j:Nat) p,ps[j]? = some p→atI (ps.map zag) (j:Int)=some (zag p):=fun j p hp=>by
    rw [zbM (by rw [List.length_map];exact (List.getElem?_eq_some_iff.mp hp).1),List.getElem?_map,hp]
    rfl
   generalize (ps.map fun p=>D.lst ((runP ps 4 p (hF p.givens.length)).map .int))=DU at e1 dz
   have r2:zbx [.int L]=.ok (zaz 0 L):=by rw [zaK (by omega) (by omega)];rfl
   obtain ⟨sd2,e2,w6,w7,w8,w9,hs2⟩:=zb0 (tg:=.one 8) (b:=(sSeq (sSet 6 (dOp gIx (dUnp (dVar 2)) (dOp gSub (dOp gSub (dBlt gLen (zab (dUnp (dVar 2)) dNil)) (dC (.int 1))) (dVar 8)))) (sSeq (sSet 7 (zaA zcG (zab (dVar 4) (zab (dBlt gLen (zab (dUn (gFld "Plan" "givens") (dVar 6)) dNil)) dNil)))) (sSeq (sSet 9 (zaA (F_z2 4) (zab (dUnp (dVar 1)) (zab (dUn (gFld "Plan" "name") (dVar 6)) (zab (dVar 7) dNil))))) (sIf (dOrT (zib (za4 (zaA F_z4 (zab (dVar 9) dNil)))) (za4 (dOp gNe (dVar 9) (dOp gIx (zbX 5 (dOp gSub (dOp gSub (dBlt gLen (zab (dUnp (dVar 2)) dNil)) (dC (.int 1))) (dVar 8))) (dUn gNeg (dC (.int 1))))))) (sRet (dC (.bl false))) zbJ))))) (ds:=zaz 0 L) (sd:=[some (.val (.scr ns)),some (.val bk),some (.val (.lst PP)),some (.val (.lst RV)),some (.val (.int c)),some (.own false (.lst DU)),v6,v7,u8,u9])
    (P:=fun i sd => ∃ w6 w7 w8 w9:Option SV,sd=[some (.val (.scr ns)),some (.val bk),some (.val (.lst PP)),some (.val (.lst RV)),some (.val (.int c)),some (.own false (.lst DU)),w6,w7,w8,w9]) ⟨_,_,_,_,rfl⟩ (by
     rintro k x sd hx ⟨w6,w7,w8,w9,rfl⟩
     obtain ⟨rfl,hk⟩:=zb5 hx
     rw [Int.zero_add]
     obtain ⟨j,hj⟩:∃ j:Nat,j=L-1-k:=⟨_,rfl⟩
     have ej:(L:Int)-1-(k:Int)=(j:Int):=by omega
     obtain ⟨p,hp⟩:∃ p,ps[j]? = some p:=⟨ps[j]'(by omega),List.getElem?_eq_getElem (by omega)⟩
     obtain ⟨o1,_,_,o4,o5⟩:=one j p hp
     have dz:=dz j p hp
     have pz:=pz j p hp
     have fn:gFld "Plan" "name" (zag p)=some (.str p.name):=rfl
     have fg:gFld "Plan" "givens" (zag p)=some (.lst (p.givens.map .str)):=rfl
     generalize (runP ps 4 p (hF p.givens.length)).map D.int=Y at o5 dz
     generalize (runP ps 4 p (hF p.givens.length)).getLastD 0=y at o4 o5
     have o5:atI Y (-1)=some (.int y):=o5
     generalize (hF p.givens.length).map D.int=H at o1 o4
     generalize zag p=pd at fn fg pz
     generalize zaU ps=bD at uB o4
     generalize ps.map zag=PD at uP pz lPD
     refine ⟨[some (.val (.scr ns)),some (.val bk),some (.val (.lst PP)),some (.val (.lst RV)),some (.val (.int c)),some (.own false (.lst DU)),some (.val pd),some (.val (.lst H)),some (.val (.int k)),some (.val (.int y))],?_,_,_,_,_,rfl⟩
     simp [uP,lPD,ej,pz,fg,fn,o1,uB,o4,dz,o5])
   subst hs2
   refine ⟨[some (.val (.scr ns)),some (.val bk),some (.val (.lst PP)),some (.val (.lst RV)),some (.val (.int c)),some (.own false (.lst DU)),w6,w7,w8,w9],?_,_,_,_,_,_,_,rfl⟩
   refine sqN (sd':=[some (.val (.scr ns)),some (.val bk),some (.val (.lst PP)),some (.val (.lst RV)),some (.val (.int c)),some (.own false (.lst [])),u6,u7,u8,u9]) (by simp) ?_
   refine sqN (Eq.trans (by simp [uP]) e1) ?_
   refine Eq.trans ?_ e2
   generalize ps.map zag=PD at uP lPD
   simp [uP,lPD,r2])
 subst hs'
 refine sqN (Eq.trans (by simp [ftu,ga]) e) ?_
 simp [fB,eqP,uP,rowsE,lp,za0 (show L≤1000 by omega),sameR]
end My
set_option maxHeartbeats 4000000
namespace My
open PySem L2 L2.DL
noncomputable def top (i:Nat):Stmt:=PySem.Challenge.pw_allfirst_k49_parts_run.main.body.getD i (.Pass ⟨0,0,0,0⟩)
structure Mg (mg:Str→Option Value):Prop where
 bool_:mg "bool" = none
 int_:mg "int" = none
 isinstance_:mg "isinstance" = none
 len_:mg "len" = none
 list_:mg "list" = none
 max_:mg "max" = none
 min_:mg "min" = none
 range_:mg "range" = none
 sorted_:mg "sorted" = none
 str_:mg "str" = none
 sum_:mg "sum" = none
 tuple_:mg "tuple" = none
section
variable {P:Program}{w:World}{K:PySem.W.Frag}{mg:Str→Option Value}{base:Heap}{f:Addr}{fd:FuncData}
abbrev zee:Stmt:=zgs (top 5) 0
theorem zjD:FnScope ["self", "plans"] ["self", "plans"] (zaf zee):=zbk
theorem zj1 {C:Addr}(F:Fun K "__init__" "Book.__init__" zee f fd)(m:Mg mg)(k:ClsD K mg "Book" C ["plans"]):FnOk P w K mg base CX0 1 f fd ["self", "plans"] (SpI K "Book" ["plans"] I_Book):=by
 have sc:=zjD
 refine fn_i (k:=0) (N:=["plans"]) (ps:=["self", "plans"]) (g:=(zab (dBlt zbw (zab (dVar 1) dNil)) dNil)) F sc (by decide) (by decide) fun cdv A outer s H E hr => ?_
 exact (zdk k (by decide) (pv 0) (QN.qe (zaD (x := "list") zbS rfl m.list_ zbj (zaa (zac (pv 1)) zad))) ziF)
abbrev zdP:Stmt:=zgs (top 4) 0
theorem zjQ:FnScope ["self", "name", "givens", "rows"] ["self", "name", "givens", "rows"] (zaf zdP):=zbk
theorem zjH {C:Addr}(F:Fun K "__init__" "Plan.__init__" zdP f fd)(m:Mg mg)(k:ClsD K mg "Plan" C ["name", "givens", "rows"]):FnOk P w K mg base CX0 1 f fd ["self", "name", "givens", "rows"] (SpI K "Plan" ["name", "givens", "rows"] I_Plan):=by
 have sc:=zjQ
 refine fn_i (k:=0) (N:=["name", "givens", "rows"]) (ps:=["self", "name", "givens", "rows"]) (g:=(zab (dVar 1) (zab (dBlt zbw (zab (dVar 2) dNil)) (zab (dBlt zbw (zab (dVar 3) dNil)) dNil)))) F sc (by decide) (by decide) fun cdv A outer s H E hr => ?_
 exact (zdk k (by decide) (pv 0) (zac (pv 1)) (zdk k (by decide) (pv 0) (QN.qe (zaD (x := "list") zbS rfl m.list_ zbj (zaa (zac (pv 2)) zad))) (zdk k (by decide) (pv 0) (QN.qe (zaD (x := "list") zbS rfl m.list_ zbj (zaa (zac (pv 3)) zad))) ziF)))
abbrev s_z5:Stmt:=top 13
theorem sc_z5:FnScope ["script", "k"] ["script", "k"] (zaf s_z5):=zbk
theorem ok_z5 {k:Nat}(F:Fun K "_law_cell_at" "_law_cell_at" s_z5 f fd)(m:Mg mg)  : FnOk P w K mg base CX0 (k+1) f fd ["script", "k"] (SpD K F_z5):=by
 have sc:=sc_z5
 refine fn_d (N:=["script", "k"]) (ps:=["script", "k"]) (g:=G_z5) F sc fun cdv A outer s H E hr => ?_
 unfold G_z5
 exact (zal (zcB (zbe o_lt (zac (pv 1)) (za3 (x := "len") zcX rfl m.len_ zbF (zaa (zac (pv 0)) zad)) (zaJ _)) (zao (zaX (zbH (zbs hr) (zac (pv 0)) (zac (pv 1)) (fun _ _=>rfl) (fun _ _=>rfl)))) zbh) (zao (zaX zae)))
abbrev s_z6:Stmt:=top 14
theorem sc_z6:FnScope ["pot", "many", "digit"] ["pot", "many"] (zaf s_z6):=zbk
theorem ok_z6 {k:Nat}(F:Fun K "_law_take" "_law_take" s_z6 f fd)(m:Mg mg)  : FnOk P w K mg base CX0 (k+1) f fd ["pot", "many"] (SpE2 K F_z6):=by
 have sc:=sc_z6
 refine ziw (N:=["pot", "many", "digit"]) (ps:=["pot", "many"]) (g:=G_z6) F sc fun cdv A outer s H E hr => ?_
 unfold G_z6
 exact (zba (m:=none) (ze7 (i:=2) sc.nd rfl (.inl rfl) (zco zc9 (ziP (zac (pv 0)) zae (fun _ _=>rfl)) (zax (zac (pv 1))))) (zba (m:=none) (zhB (zac (pv 0)) zae (zco zkt (ziP (zac (pv 0)) zae (fun _ _=>rfl)) (zax (zac (pv 1))))) (zdX (zax (zac (pv 2))))))
abbrev s_z7:Stmt:=top 15
theorem sc_z7:FnScope ["pot"] ["pot"] (zaf s_z7):=zbk
theorem ok_z7 {k:Nat}(F:Fun K "_law_wait" "_law_wait" s_z7 f fd)(m:Mg mg)(c_z6:zak P w K mg base "_law_take" k ["pot", "many"] (SpE2 K F_z6)):FnOk P w K mg base CX0 (k+1) f fd ["pot"] (SpE2 K F_z7):=by
 have sc:=sc_z7
 refine ziw (N:=["pot"]) (ps:=["pot"]) (g:=G_z7) F sc fun cdv A outer s H E hr => ?_
 unfold G_z7
 exact (qe_if (zhL o_gt (za6 c_z6 hr rfl (zaa (zac (pv 0)) (zaa zae zad))) (zax zae) (zaJ _)) (zdX (zco zcj (za6 c_z6 hr rfl (zaa (zac (pv 0)) (zaa zae zad))) (zax zae))) (zdX (zco zcj (za6 c_z6 hr rfl (zaa (zac (pv 0)) (zaa (q_op zcj (q_op zfp zae (q_op zdH zae zae)) zae) zad))) (zax (q_op zcj (q_op zdH zae zae) zae)))))
abbrev s_z8:Stmt:=top 16
theorem sc_z8:FnScope ["pot", "many", "count", "items", "k", "thing"] ["pot", "many", "count"] (zaf s_z8):=zbk
theorem ok_z8 {k:Nat}(F:Fun K "_law_items" "_law_items" s_z8 f fd)(m:Mg mg)(c_z6:zak P w K mg base "_law_take" k ["pot", "many"] (SpE2 K F_z6))(c_z7:zak P w K mg base "_law_wait" k ["pot"] (SpE2 K F_z7)):FnOk P w K mg base CX0 (k+1) f fd ["pot", "many", "count"] (SpE2 K F_z8):=by
 have sc:=sc_z8
 refine ziw (N:=["pot", "many", "count", "items", "k", "thing"]) (ps:=["pot", "many", "count"]) (g:=G_z8) F sc fun cdv A outer s H E hr => ?_
 unfold G_z8
 exact (zba (m:=none) (zaF (zb6 (i:=3) sc.nd rfl (.inl rfl) (zcE zad))) (zba (m:=none) (zlr PassesOwn.never rfl (zaV rfl m.range_ (zaa (zac (pv 2)) zad)) (zaQ (za9 (i:=4) sc.nd rfl (.inl rfl))) (zbb (ze7 (i:=5) sc.nd rfl (.inl rfl) (za6 c_z6 hr rfl (zaa (zac (pv 0)) (zaa (zac (pv 1)) zad)))) (zgX (zjZ (pv 3) (zg8 (zaL (zax (zac (pv 5))) (zaL (za6 c_z7 hr rfl (zaa (zac (pv 0)) zad)) zdj))) (fun h1 h2=>zdd PySem.F.plainAttrs_list PySem.F.slot_list_append PySem.F.type_list_append za7 h1 h2))))) (ziG (i:=3) (zdX (zax (zcf (x := "tuple") zkg rfl m.tuple_ zin (zaa (zac (pv 3)) zad)))))))
abbrev s_z9:Stmt:=top 17
theorem sc_z9:FnScope ["script", "start", "name", "ahead", "most_rows", "pot", "givens", "rows", "used", "k", "cell", "how", "count", "part"] ["script", "start", "name", "ahead", "most_rows"] (zaf s_z9):=zbk
theorem ok_z9 {k:Nat}(F:Fun K "_law_plan" "_law_plan" s_z9 f fd)(m:Mg mg)(c_z5:zak P w K mg base "_law_cell_at" k ["script", "k"] (SpD K F_z5))(c_z8:zak P w K mg base "_law_items" k ["pot", "many", "count"] (SpE2 K F_z8))(c_z6:zak P w K mg base "_law_take" k ["pot", "many"] (SpE2 K F_z6)){D_Plan:Addr}(k_Plan:ClsD K mg "Plan" D_Plan ["name", "givens", "rows"])(zdP:MkD P w K mg base "Plan" ["name", "givens", "rows"] 1 ["self", "name", "givens", "rows"] I_Plan)(h2:2≤k):FnOk P w K mg base CX0 (k+1) f fd ["script", "start", "name", "ahead", "most_rows"] (SpE2 K F_z9):=by
 have sc:=sc_z9
 refine ziw (N:=["script", "start", "name", "ahead", "most_rows", "pot", "givens", "rows", "used", "k", "cell", "how", "count", "part"]) (ps:=["script", "start", "name", "ahead", "most_rows"]) (g:=G_z9) F sc fun cdv A outer s H E hr => ?_
 unfold G_z9
 exact (zba (m:=none) (zaF (zb6 (i:=5) sc.nd rfl (.inl rfl) (zcE (zaa (q_op zc9 (q_fn c_z5 hr rfl (zaa (zac (pv 0)) (zaa (zac (pv 1)) zad))) (q_op zdH zae zae)) zad)))) (zba (m:=none) (zaF (ze3 (i:=6) sc.nd rfl (.inl rfl) (zcJ (i:=5) (zco zaO (zax zae) (za6 c_z6 hr rfl (zaa (zac (pv 5)) (zaa zae zad))))))) (zba (m:=none) (zaF (zb6 (i:=7) sc.nd rfl (.inl rfl) (zcE zad))) (zba (m:=none) (ze7 (i:=8) sc.nd rfl (.inl rfl) (ziC [3] (ziX (o_eqE hr.units) (zac (pv 3)) (QN.qe (zcE zad)) (zaJ _)))) (zba (m:=none) (zjt PassesOwn.never rfl rfl m.range_ (zcJ (i:=5) (zco zaO (zax zae) (za6 c_z6 hr rfl (zaa (zac (pv 5)) (zaa (zac (pv 4)) zad))))) (zaQ (za9 (i:=9) sc.nd rfl (.inl rfl))) (zbb (zaF (zb6 (i:=10) sc.nd rfl (.inl rfl) (zcE (zaa (q_op zaO (q_op zfp (q_op zc9 (q_fn c_z5 hr rfl (zaa (zac (pv 0)) (zaa (q_op zaO (q_op zaO (zac (pv 1)) zae) (zac (pv 9))) zad))) (q_op zdH zae zae)) (q_op zdH zae zae)) (q_op zc9 (q_fn c_z5 hr rfl (zaa (zac (pv 0)) (zaa (zac (pv 1)) zad))) (q_op zdH zae zae))) zad)))) (zbb (zaF (ze3 (i:=11) sc.nd rfl (.inl rfl) (zcJ (i:=10) (zkq ixd_S (zax (QN.qe (zcE (zaa zaN (zaa zaN (zaa zaN (zaa zaN (zaa zaN zad)))))))) (za6 c_z6 hr rfl (zaa (zac (pv 10)) (zaa zae zad))) (fun _ _=>rfl))))) (zbb (zaF (ze3 (i:=12) sc.nd rfl (.inl rfl) (zcJ (i:=10) (zco zaO (zax zae) (za6 c_z6 hr rfl (zaa (zac (pv 10)) (zaa zae zad))))))) (zbb (zaF (zcB (QW.qt (zkM (zbe (o_eq hr.units) (zac (pv 11)) zaN (zaJ _)) (zks (ziH (zac (pv 8)))))) (zao (zaW (i:=11) sc.nd rfl (.inl rfl) zaN)) zbh)) (zbb (q2_if (zhS (zbe (o_eq hr.units) (zac (pv 11)) zaN (zaJ _))) (zbb (zaF (zaW (i:=8) sc.nd rfl (.inl rfl) zjn)) (zbb (zia (i:=13) sc.nd rfl (.inl rfl) (zlt (i:=10) (zjY (zax (zac (pv 3))) (zgH c_z6 hr rfl (zaL (zax (zac (pv 10))) (zaL (ziC [3] (za3 (x := "len") zcX rfl m.len_ zbF (zaa (zac (pv 3)) zad))) zdj))) (fun _ _=>rfl)))) (zbb (zaF (zaW (i:=11) sc.nd rfl (.inl rfl) (zb1 k_Plan (by decide) (zac (pv 13))))) (zgX (zaF (zaW (i:=12) sc.nd rfl (.inl rfl) (za3 (x := "len") zcX rfl m.len_ zbF (zaa (zb1 k_Plan (by decide) (zac (pv 13))) zad)))))))) zkF) (zgX (zaF (zgh (pv 7) (zcJ (i:=10) (zg8 (zaL (zax (q_op zaO zaN (zcf (x := "str") ziU rfl m.str_ zhe (zaa (zac (pv 9)) zad)))) (zaL (zax (zac (pv 11))) (zaL (za6 c_z8 hr rfl (zaa (zac (pv 10)) (zaa (q_op zaO (zac (pv 6)) (zac (pv 9))) (zaa (zac (pv 12)) zad)))) zdj))))) (fun h1 h2=>zdd PySem.F.plainAttrs_list PySem.F.slot_list_append PySem.F.type_list_append za7 h1 h2)))))))))) (ziG (i:=7) (zdX (zax (QN.qe (ziD zdP (hr.mono h2) rfl (zaa (zac (pv 2)) (zaa (QN.qe (zeG ["k"] [none] rfl rfl (zaV rfl m.range_ (zaa (zac (pv 6)) zad)) (fun _ _ _ _ _=>(zaQ (pgn 0 (zdh ["k"])))) (fun _ _ _ _ _=>(q_op zaO zaN (zcf (x := "str") ziU rfl m.str_ zhe (zaa (zac (pv 0)) zad)))))) (zaa (zac (pv 7)) zad)))))))))))))
abbrev zjB:Stmt:=top 18
theorem zmx:FnScope ["script", "plans", "most_rows", "found", "k"] ["script", "plans", "most_rows"] (zaf zjB):=zbk
theorem zlA {k:Nat}(F:Fun K "_law_book" "_law_book" zjB f fd)(m:Mg mg)(c_z9:zak P w K mg base "_law_plan" k ["script", "start", "name", "ahead", "most_rows"] (SpE2 K F_z9))(zee:MkD P w K mg base "Book" ["plans"] 1 ["self", "plans"] I_Book)(h2:2≤k):FnOk P w K mg base CX0 (k+1) f fd ["script", "plans", "most_rows"] (SpN K zfi):=by
 have sc:=zmx
 refine fn_n (N:=["script", "plans", "most_rows", "found", "k"]) (ps:=["script", "plans", "most_rows"]) (g:=zi0) F sc fun cdv A outer s H E hr => ?_
 unfold zi0
 exact (zal (zb6 (i:=3) sc.nd rfl (.inl rfl) (zcE zad)) (zal (zbR PassesOwn.never rfl (zaV rfl m.range_ (zaa (zac (pv 1)) zad)) (zaQ (za9 (i:=4) sc.nd rfl (.inl rfl))) (zao (zgh (pv 3) (zcJ (i:=3) (za6 c_z9 hr rfl (zaa (zac (pv 0)) (zaa (q_op zaO zae (q_op zfp (zac (pv 4)) (q_op zaO (zac (pv 2)) zae))) (zaa (q_op zaO zaN (zcf (x := "str") ziU rfl m.str_ zhe (zaa (zac (pv 4)) zad))) (zaa (zac (pv 3)) (zaa (zac (pv 2)) zad))))))) (fun h1 h2=>zdd PySem.F.plainAttrs_list PySem.F.slot_list_append PySem.F.type_list_append za7 h1 h2)))) (zao (zcH [3] (zfP (ziD zee (hr.mono h2) rfl (zaa (zac (pv 3)) zad)))))))
abbrev zj7:Stmt:=top 19
theorem zmu:FnScope ["cell", "many", "hours", "k", "mixed"] ["cell", "many"] (zaf zj7):=zbk
theorem zl4 {k:Nat}(F:Fun K "_law_hours" "_law_hours" zj7 f fd)(m:Mg mg)  : FnOk P w K mg base CX0 (k+1) f fd ["cell", "many"] (SpN K zcG):=by
 have sc:=zmu
 refine fn_n (N:=["cell", "many", "hours", "k", "mixed"]) (ps:=["cell", "many"]) (g:=zhE) F sc fun cdv A outer s H E hr => ?_
 unfold zhE
 exact (zal (zb6 (i:=2) sc.nd rfl (.inl rfl) (zcE zad)) (zal (zbR PassesOwn.never rfl (zaV rfl m.range_ (zaa (zac (pv 1)) zad)) (zaQ (za9 (i:=3) sc.nd rfl (.inl rfl))) (zal (zaW (i:=4) sc.nd rfl (.inl rfl) (q_op zc9 (q_op zfp (q_op zaO (q_op zaO (q_op zc9 (q_op zfF (zac (pv 0)) (q_op zaO (zac (pv 3)) zae)) zae) (q_op zfp zae (zac (pv 3)))) zae) zae) zae)) (zal (zaY (pv 2) (q_op zcj (q_op zc9 (zac (pv 4)) zae) zae) (fun h1 h2=>zdd PySem.F.plainAttrs_list PySem.F.slot_list_append PySem.F.type_list_append za7 h1 h2)) (zao (zcB (zbe (o_eq hr.units) (q_op zc9 (q_op zfF (zac (pv 4)) zae) zae) zae (zaJ _)) (zao (zkb (pv 2) (zac (pv 3)) (q_op zcj (q_op zc9 (q_op zfF (zac (pv 0)) (q_op zaO (zac (pv 3)) zae)) (q_op zaO (q_op zfp zae (q_op zdH zae zae)) zae)) (q_op zdH zae zae)))) zbh))))) (zao (zgE (pv 2)))))
abbrev zjR:Stmt:=top 20
theorem zlD:FnScope ["plans", "plan", "hours", "found", "row", "times", "part"] ["plans", "plan", "hours"] (zaf zjR):=zbk
theorem zeJ {k:Nat}(F:Fun K "_law_run" "_law_run" zjR f fd)(m:Mg mg)  {D_Plan:Addr}(k_Plan:ClsD K mg "Plan" D_Plan ["name", "givens", "rows"]){j:Nat}(c_z12:zak P w K mg base "_law_run" k ["plans", "plan", "hours"] (SpD K (F_z12 j))):FnOk P w K mg base CX0 (k+1) f fd ["plans", "plan", "hours"] (SpD K (F_z12 (j+1))):=by
 have sc:=zlD
 refine fn_d (N:=["plans", "plan", "hours", "found", "row", "times", "part"]) (ps:=["plans", "plan", "hours"]) (g:=zgR (F_z12 j)) F sc fun cdv A outer s H E hr => ?_
 unfold zgR
 exact (zal (zb6 (i:=3) sc.nd rfl (.inr rfl) (zaD (x := "list") zbS rfl m.list_ zbj (zaa (zac (pv 2)) zad))) (zal (zbR PassesOwn.never rfl (zby (zb1 k_Plan (by decide) (zac (pv 1)))) (zaQ (za9 (i:=4) sc.nd rfl (.inr rfl))) (zal (zer [3] ["thing", "wait", "found"] [none,none,some 3] sc.nd rfl (.inl rfl) rfl rfl (zby (zbH (zbs hr) (zac (pv 4)) zae (fun _ _=>rfl) (fun _ _=>rfl))) (fun _ _ _ _ _=>(zg5 [0,1] (zgO rfl (zbd (pgn 0 (zdh ["thing", "wait", "found"])) (zbd (pgn 1 (zdh ["thing", "wait", "found"])) ze9))))) (fun _ _ _ _ _=>(q_op zaO (zbH (zbs hr) (zac (pv 2)) (zac (pv 0)) (fun _ _=>rfl) (fun _ _=>rfl)) (zac (pv 1))))) (zao (zcB (zbe (o_eq hr.units) (zbH (zbs hr) (zac (pv 4)) zae (fun _ _=>rfl) (fun _ _=>rfl)) zaN (zaJ _)) (zao (zcH [5] (zaY (pv 3) (zbH (zbs hr) (QN.qe (zeI (x := "sorted") zcN rfl m.sorted_ zd5 (zaa (zac (pv 5)) zad))) (q_un zfT zae) (fun _ _=>rfl) (fun _ _=>rfl)) (fun h1 h2=>zdd PySem.F.plainAttrs_list PySem.F.slot_list_append PySem.F.type_list_append za7 h1 h2)))) (zao (zcB (zbe (o_eq hr.units) (zbH (zbs hr) (zac (pv 4)) zae (fun _ _=>rfl) (fun _ _=>rfl)) zaN (zaJ _)) (zao (zcH [5] (zaY (pv 3) (zbH (zbs hr) (QN.qe (zeI (x := "sorted") zcN rfl m.sorted_ zd5 (zaa (zac (pv 5)) zad))) zae (fun _ _=>rfl) (fun _ _=>rfl)) (fun h1 h2=>zdd PySem.F.plainAttrs_list PySem.F.slot_list_append PySem.F.type_list_append za7 h1 h2)))) (zal (zaW (i:=6) sc.nd rfl (.inl rfl) (zbH (zbs hr) (QN.qe (zhW ["one", "row"] [none,some 4] rfl rfl (zby (zac (pv 0))) (fun _ _ _ _ _=>(zaQ (pgn 0 (zdh ["one", "row"])))) (fun _ _ _ _ _=>(zbe (o_eq hr.units) (zb1 k_Plan (by decide) (zac (pv 0))) (zbH (zbs hr) (zac (pv 1)) zae (fun _ _=>rfl) (fun _ _=>rfl)) (zaJ _))) (fun _ _ _ _ _=>(zac (pv 0))))) zae (fun _ _=>rfl) (fun _ _=>rfl))) (zao (zcH [5] (zaY (pv 3) (zbH (zbs hr) (q_fn c_z12 hr rfl (zaa (zac (pv 0)) (zaa (zac (pv 6)) (zaa (zac (pv 5)) zad)))) (q_un zfT zae) (fun _ _=>rfl) (fun _ _=>rfl)) (fun h1 h2=>zdd PySem.F.plainAttrs_list PySem.F.slot_list_append PySem.F.type_list_append za7 h1 h2))))))))))) (zao (zcH [3] (zaX (zac (pv 3)))))))
abbrev zjC:Stmt:=top 21
theorem zlq:FnScope ["script", "start", "most", "many"] ["script", "start", "most"] (zaf zjC):=zbk
theorem zkO {k:Nat}(F:Fun K "_law_turns" "_law_turns" zjC f fd)(m:Mg mg)  : FnOk P w K mg base CX0 (k+1) f fd ["script", "start", "most"] (SpN K zgU):=by
 have sc:=zlq
 refine fn_n (N:=["script", "start", "most", "many"]) (ps:=["script", "start", "most"]) (g:=zhF) F sc fun cdv A outer s H E hr => ?_
 unfold zhF
 exact (zal (zaW (i:=3) sc.nd rfl (.inl rfl) (za3 (x := "min") (zmh rfl) rfl m.min_ ziL (zaa (zac (pv 2)) (zaa (za3 (x := "max") (zkV rfl) rfl m.max_ ziN (zaa zae (zaa (q_op zcj (za3 (x := "len") zcX rfl m.len_ zbF (zaa (zac (pv 0)) zad)) (zac (pv 1))) zad))) zad)))) (zao (zfP (zeG ["k", "script", "start", "most"] [none,some 0,some 1,some 2] rfl rfl (zaV rfl m.range_ (zaa (zac (pv 3)) zad)) (fun _ _ _ _ _=>(zaQ (pgn 0 (zdh ["k", "script", "start", "most"])))) (fun _ _ _ _ _=>(za3 (x := "sum") (b_sum rfl) rfl m.sum_ zkX (zaa (QN.qe (zki (zac (pv 1)) (zhy (q_op zaO (zac (pv 2)) (zac (pv 0)))) zjj (zhy (zac (pv 3))))) zad)))))))
abbrev s_z4:Stmt:=top 12
theorem sc_z4:FnScope ["found"] ["found"] (zaf s_z4):=zbk
theorem ok_z4 {k:Nat}(F:Fun K "_law_whole" "_law_whole" s_z4 f fd)(m:Mg mg)  : FnOk P w K mg base CX0 (k+1) f fd ["found"] (SpD K F_z4):=by
 have sc:=sc_z4
 refine fn_d (N:=["found"]) (ps:=["found"]) (g:=G_z4) F sc fun cdv A outer s H E hr => ?_
 unfold G_z4
 exact (zao (zaX (zlH (za3 (x := "isinstance") zmf rfl m.isinstance_ zbD (zaa (zac (pv 0)) (zaa (zmq (n := "int") (x := "int") rfl m.int_ zlF rfl) zad))) (zlC (q_not (za3 (x := "isinstance") zmf rfl m.isinstance_ zbD (zaa (zac (pv 0)) (zaa (zmq (n := "bool") (x := "bool") rfl m.bool_ zko rfl) zad))))))))
abbrev s_z2:Stmt:=top 9
theorem sc_z2:FnScope ["book", "name", "hours"] ["book", "name", "hours"] (zaf s_z2):=zbk
theorem zfI {k:Nat}(F:Fun K "told_hour" "told_hour" s_z2 f fd)(m:Mg mg)  {j:Nat}(c_z1:zak P w K mg base "hours_of" k ["book", "name", "hours"] (SpD K (F_z1 j))):FnOk P w K mg base CX0 (k+1) f fd ["book", "name", "hours"] (SpD K (F_z2 j)):=by
 have sc:=sc_z2
 refine fn_d (N:=["book", "name", "hours"]) (ps:=["book", "name", "hours"]) (g:=G_z2 (F_z1 j)) F sc fun cdv A outer s H E hr => ?_
 unfold G_z2
 exact (zao (zaX (zbH (zbs hr) (q_fn c_z1 hr rfl (zaa (zac (pv 0)) (zaa (zac (pv 1)) (zaa (zac (pv 2)) zad)))) (q_un zfT zae) (fun _ _=>rfl) (fun _ _=>rfl))))
abbrev s_z3:Stmt:=top 10
theorem sc_z3:FnScope ["book", "how", "hours"] ["book", "how", "hours"] (zaf s_z3):=zbk
theorem zgi {k:Nat}(F:Fun K "made_hour" "made_hour" s_z3 f fd)(m:Mg mg)  {j:Nat}(c_z2:zak P w K mg base "told_hour" k ["book", "name", "hours"] (SpD K (F_z2 j))):FnOk P w K mg base CX0 (k+1) f fd ["book", "how", "hours"] (SpD K (F_z3 j)):=by
 have sc:=sc_z3
 refine fn_d (N:=["book", "how", "hours"]) (ps:=["book", "how", "hours"]) (g:=G_z3 (F_z2 j)) F sc fun cdv A outer s H E hr => ?_
 unfold G_z3
 exact (zal (zcB (zbe (o_eq hr.units) (zac (pv 1)) zaN (zaJ _)) (zao (zaX (za3 (x := "max") (zlG rfl) rfl m.max_ ziN (zaa (zac (pv 2)) zad)))) zbh) (zal (zcB (zbe (o_eq hr.units) (zac (pv 1)) zaN (zaJ _)) (zao (zaX (za3 (x := "min") (zlT rfl) rfl m.min_ ziL (zaa (zac (pv 2)) zad)))) zbh) (zao (zaX (q_fn c_z2 hr rfl (zaa (zac (pv 0)) (zaa (zac (pv 1)) (zaa (zac (pv 2)) zad))))))))
abbrev s_z0:Stmt:=top 6
theorem sc_z0:FnScope ["book", "name", "plan"] ["book", "name"] (zaf s_z0):=zbk
theorem ok_z0 {k:Nat}(F:Fun K "plan_by" "plan_by" s_z0 f fd)(m:Mg mg)  {D_Book:Addr}(k_Book:ClsD K mg "Book" D_Book ["plans"]){D_Plan:Addr}(k_Plan:ClsD K mg "Plan" D_Plan ["name", "givens", "rows"]):FnOk P w K mg base CX0 (k+1) f fd ["book", "name"] (SpD K F_z0):=by
 have sc:=sc_z0
 refine fn_d (N:=["book", "name", "plan"]) (ps:=["book", "name"]) (g:=G_z0) F sc fun cdv A outer s H E hr => ?_
 unfold G_z0
 exact (zal (zbR PassesOwn.never rfl (zby (zb1 k_Book (by decide) (zac (pv 0)))) (zaQ (za9 (i:=2) sc.nd rfl (.inl rfl))) (zao (zcB (zbe (o_eq hr.units) (zb1 k_Plan (by decide) (zac (pv 2))) (zac (pv 1)) (zaJ _)) (zao (zaX (zac (pv 2)))) zbh))) (zao qs_no))
abbrev s_z1:Stmt:=top 8
theorem sc_z1:FnScope ["book", "name", "hours", "told", "made", "how", "items"] ["book", "name", "hours"] (zaf s_z1):=zbk
theorem zhM {k:Nat}(F:Fun K "hours_of" "hours_of" s_z1 f fd)(m:Mg mg)(c_z0:zak P w K mg base "plan_by" k ["book", "name"] (SpD K F_z0)){D_Plan:Addr}(k_Plan:ClsD K mg "Plan" D_Plan ["name", "givens", "rows"]){j:Nat}(c_z3:zak P w K mg base "made_hour" k ["book", "how", "hours"] (SpD K (F_z3 j))):FnOk P w K mg base CX0 (k+1) f fd ["book", "name", "hours"] (SpD K (F_z1 (j+1))):=by
 have sc:=sc_z1
 refine fn_d (N:=["book", "name", "hours", "told", "made", "how", "items"]) (ps:=["book", "name", "hours"]) (g:=G_z1 (F_z3 j)) F sc fun cdv A outer s H E hr => ?_
 unfold G_z1
 exact (zal (zb6 (i:=3) sc.nd rfl (.inr rfl) (zaD (x := "list") zbS rfl m.list_ zbj (zaa (zac (pv 2)) zad))) (zal (zbR PassesOwn.never rfl (zby (zb1 k_Plan (by decide) (q_fn c_z0 hr rfl (zaa (zac (pv 0)) (zaa (zac (pv 1)) zad))))) (zg5 [4,5,6] (zgO rfl (zbd (za9 (i:=4) sc.nd rfl (.inl rfl)) (zbd (za9 (i:=5) sc.nd rfl (.inl rfl)) (zbd (za9 (i:=6) sc.nd rfl (.inl rfl)) ze9))))) (zao (zaY (pv 3) (q_tmp [3] (q_fn c_z3 hr rfl (zaa (zac (pv 0)) (zaa (zac (pv 5)) (zaa (QN.qe (zeG ["thing", "wait", "told"] [none,none,some 3] rfl rfl (zby (zac (pv 6))) (fun _ _ _ _ _=>(zg5 [0,1] (zgO rfl (zbd (pgn 0 (zdh ["thing", "wait", "told"])) (zbd (pgn 1 (zdh ["thing", "wait", "told"])) ze9))))) (fun _ _ _ _ _=>(q_op zaO (zbH (zbs hr) (zac (pv 2)) (zac (pv 0)) (fun _ _=>rfl) (fun _ _=>rfl)) (zac (pv 1)))))) zad))))) (fun h1 h2=>zdd PySem.F.plainAttrs_list PySem.F.slot_list_append PySem.F.type_list_append za7 h1 h2)))) (zao (zcH [3] (zaX (zac (pv 3)))))))
abbrev zjx:Stmt:=top 22
theorem zmy:FnScope ["script", "book", "plans", "rows", "cell", "dues", "plan", "hours", "k", "told"] ["script"] (zaf zjx):=zbk
theorem zkB {k:Nat}(F:Fun K "law" "law" zjx f fd)(m:Mg mg)(c_z10:zak P w K mg base "_law_book" k ["script", "plans", "most_rows"] (SpN K zfi))(c_z5:zak P w K mg base "_law_cell_at" k ["script", "k"] (SpD K F_z5))(c_z11:zak P w K mg base "_law_hours" k ["cell", "many"] (SpN K zcG))(c_z12:zak P w K mg base "_law_run" k ["plans", "plan", "hours"] (SpD K (F_z12 4)))(c_z13:zak P w K mg base "_law_turns" k ["script", "start", "most"] (SpN K zgU))(c_z4:zak P w K mg base "_law_whole" k ["found"] (SpD K F_z4))(c_z1:zak P w K mg base "hours_of" k ["book", "name", "hours"] (SpD K (F_z1 4)))(c_z2:zak P w K mg base "told_hour" k ["book", "name", "hours"] (SpD K (F_z2 4))){D_Book:Addr}(k_Book:ClsD K mg "Book" D_Book ["plans"]){D_Plan:Addr}(k_Plan:ClsD K mg "Plan" D_Plan ["name", "givens", "rows"]):FnOk P w K mg base CX0 (k+1) f fd ["script"] (SpD K zfq):=by
 have sc:=zmy
 refine fn_d (N:=["script", "book", "plans", "rows", "cell", "dues", "plan", "hours", "k", "told"]) (ps:=["script"]) (g:=zhX) F sc fun cdv A outer s H E hr => ?_
 unfold zhX
 exact (zal (zaW (i:=1) sc.nd rfl (.inl rfl) (QN.qe (ziv c_z10 hr rfl (zaa (zac (pv 0)) (zaa (q_op zaO zae (q_op zc9 (q_fn c_z5 hr rfl (zaa (zac (pv 0)) (zaa zae zad))) zae)) (zaa zae zad)))))) (zjL 1 (zal (zaW (i:=2) sc.nd rfl (.inl rfl) (QN.qe (zaD (x := "list") zbS rfl m.list_ zbj (zaa (zb1 k_Book (by decide) (zac (pv 1))) zad)))) (zal (zf2 ["plan"] [none] sc.nd rfl (.inl rfl) rfl rfl (zby (zcC (zac (pv 2)))) (fun _ _ _ _ _=>(zaQ (pgn 0 (zdh ["plan"])))) (fun _ _ _ _ _=>(QN.qe (zaD (x := "list") zbS rfl m.list_ zbj (zaa (zb1 k_Plan (by decide) (zac (pv 0))) zad))))) (zal (zbR PassesOwn.never rfl (zby (q_op zaO (QN.qe (zcE (zaa zae zad))) (QN.qe (ziv c_z13 hr rfl (zaa (zac (pv 0)) (zaa zae (zaa zae zad))))))) (zaQ (za9 (i:=4) sc.nd rfl (.inl rfl))) (zal (zb6 (i:=5) sc.nd rfl (.inl rfl) (zcE zad)) (zal (zbR PassesOwn.never rfl (zby (zcC (zac (pv 2)))) (zaQ (za9 (i:=6) sc.nd rfl (.inl rfl))) (zal (zaW (i:=7) sc.nd rfl (.inl rfl) (QN.qe (ziv c_z11 hr rfl (zaa (zac (pv 4)) (zaa (za3 (x := "len") zcX rfl m.len_ zbF (zaa (zb1 k_Plan (by decide) (zac (pv 6))) zad)) zad))))) (zal (zaY (pv 5) (q_fn c_z12 hr rfl (zaa (zcC (zac (pv 2))) (zaa (zac (pv 6)) (zaa (zac (pv 7)) zad)))) (fun h1 h2=>zdd PySem.F.plainAttrs_list PySem.F.slot_list_append PySem.F.type_list_append za7 h1 h2)) (zao (zcB (zbe (o_ne hr.units) (q_fn c_z1 hr rfl (zaa (zcC (zac (pv 1))) (zaa (zb1 k_Plan (by decide) (zac (pv 6))) (zaa (zac (pv 7)) zad)))) (zgt (zbs hr) (pv 5) (q_un zfT zae) (fun _ _=>rfl) (fun _ _=>rfl)) (zaJ _)) (zao (zaX zjn)) zbh))))) (zao (zbR PassesOwn.never rfl (zaV rfl m.range_ (zaa (za3 (x := "len") zcX rfl m.len_ zbF (zaa (zcC (zac (pv 2))) zad)) zad)) (zaQ (za9 (i:=8) sc.nd rfl (.inl rfl))) (zal (zaW (i:=6) sc.nd rfl (.inl rfl) (zbH (zbs hr) (zcC (zac (pv 2))) (q_op zcj (q_op zcj (za3 (x := "len") zcX rfl m.len_ zbF (zaa (zcC (zac (pv 2))) zad)) zae) (zac (pv 8))) (fun _ _=>rfl) (fun _ _=>rfl))) (zal (zaW (i:=7) sc.nd rfl (.inl rfl) (QN.qe (ziv c_z11 hr rfl (zaa (zac (pv 4)) (zaa (za3 (x := "len") zcX rfl m.len_ zbF (zaa (zb1 k_Plan (by decide) (zac (pv 6))) zad)) zad))))) (zal (zaW (i:=9) sc.nd rfl (.inl rfl) (q_fn c_z2 hr rfl (zaa (zcC (zac (pv 1))) (zaa (zb1 k_Plan (by decide) (zac (pv 6))) (zaa (zac (pv 7)) zad))))) (zao (zcB (QW.qt (qw_or (zlE (ziH (q_fn c_z4 hr rfl (zaa (zac (pv 9)) zad)))) (zmd (zbe (o_ne hr.units) (zac (pv 9)) (zbH (zbs hr) (zgt (zbs hr) (pv 5) (q_op zcj (q_op zcj (za3 (x := "len") zcX rfl m.len_ zbF (zaa (zcC (zac (pv 2))) zad)) zae) (zac (pv 8))) (fun _ _=>rfl) (fun _ _=>rfl)) (q_un zfT zae) (fun _ _=>rfl) (fun _ _=>rfl)) (zaJ _))))) (zao (zaX zjn)) zbh)))))))))) (zao (zaX (zlH (ziX (o_eqP hr.units) (zb1 k_Book (by decide) (zac (pv 1))) (zac (pv 2)) (zaJ _)) (zlC (ziX (o_eq hr.units) (QN.qe (zeG ["plan"] [none] rfl rfl (zby (zcC (zac (pv 2)))) (fun _ _ _ _ _=>(zaQ (pgn 0 (zdh ["plan"])))) (fun _ _ _ _ _=>(QN.qe (zaD (x := "list") zbS rfl m.list_ zbj (zaa (zb1 k_Plan (by decide) (zac (pv 0))) zad)))))) (zac (pv 3)) (zaJ _)))))))))))
end
def zeB (K:PySem.W.Frag):Sp:=fun vs H Q _ => ∃ (a:Addr) (ns:List Int),vs=[.ref a]∧SqL K H a (ns.map V.int)∧ns.length≤63∧∀ H',Q (.bl true) H'
theorem zkn (K:PySem.W.Frag)(vs:List V)(H:Hp)(Q:VK)(E:XK)(h:zeB K vs H Q E):SpD K zfq vs H Q E:=by
 obtain ⟨a,ns,rfl,hS,hl,q⟩:=h
 refine ⟨H,[.scr ns],Same.refl _,IsDs.mk (IsD.scr_iff.mpr ⟨a,rfl,hS⟩) .nil,?_⟩
 rw [law_true ns hl]
 intro v F' H' e i
 rw [IsD.bl_iff.mp i]
 exact q H'
theorem all_mk {l:PySem.W.OpenLaw}{w:World}{K:PySem.W.Frag}{h:Heap}{mg:Str→Option Value}{fa:Addr}(X:K.In h)(G:h.Ns mainGlobals mg)(hfa:mg "law" = some (.ref fa))
 (d_z5:zbl K "_law_cell_at" s_z5)
 (d_z6:zbl K "_law_take" s_z6)
 (d_z7:zbl K "_law_wait" s_z7)
 (d_z8:zbl K "_law_items" s_z8)
 (d_z9:zbl K "_law_plan" s_z9)
 (d_z10:zbl K "_law_book" zjB)
 (d_z11:zbl K "_law_hours" zj7)
 (d_z12:zbl K "_law_run" zjR)
 (d_z13:zbl K "_law_turns" zjC)
 (d_z4:zbl K "_law_whole" s_z4)
 (d_z2:zbl K "told_hour" s_z2)
 (d_z3:zbl K "made_hour" s_z3)
 (d_z0:zbl K "plan_by" s_z0)
 (d_z1:zbl K "hours_of" s_z1)
 (d_law:zbl K "law" zjx)
 (l_Book:zlN K "Book" "Book.__init__" ["plans"] zee)
 (l_Plan:zlN K "Plan" "Plan.__init__" ["name", "givens", "rows"] zdP)
 (z_bool:PySem.W.nsIn K mainGlobals "bool" = some none)
 (z_int:PySem.W.nsIn K mainGlobals "int" = some none)
 (z_isinstance:PySem.W.nsIn K mainGlobals "isinstance" = some none)
 (z_len:PySem.W.nsIn K mainGlobals "len" = some none)
 (z_list:PySem.W.nsIn K mainGlobals "list" = some none)
 (z_max:PySem.W.nsIn K mainGlobals "max" = some none)
 (z_min:PySem.W.nsIn K mainGlobals "min" = some none)
 (z_range:PySem.W.nsIn K mainGlobals "range" = some none)
 (z_sorted:PySem.W.nsIn K mainGlobals "sorted" = some none)
 (z_str:PySem.W.nsIn K mainGlobals "str" = some none)
 (z_sum:PySem.W.nsIn K mainGlobals "sum" = some none)
 (z_tuple:PySem.W.nsIn K mainGlobals "tuple" = some none) :
 ∃ fd:FuncData,(∀ (s:Shared) (v:Value),BindsTo s fd ⟨[v],[]⟩ [("script",v)])∧∀ base:Heap,K.In base→base.Ns mainGlobals mg→FnOk l.prog w K mg base CX0 15 fa fd ["script"] (zeB K):=by
 obtain ⟨f_law,fd_law,a_law,zfq⟩:=d_law
 have e:=hfa.symm.trans (PySem.W.mg_of X G a_law)
 first|exact zqn e|exact zqb e|(obtain rfl:=Option.some.inj e)|cases e
 have m:Mg mg:=⟨PySem.W.mg_none_of X G z_bool,PySem.W.mg_none_of X G z_int,PySem.W.mg_none_of X G z_isinstance,PySem.W.mg_none_of X G z_len,PySem.W.mg_none_of X G z_list,PySem.W.mg_none_of X G z_max,PySem.W.mg_none_of X G z_min,PySem.W.mg_none_of X G z_range,PySem.W.mg_none_of X G z_sorted,PySem.W.mg_none_of X G z_str,PySem.W.mg_none_of X G z_sum,PySem.W.mg_none_of X G z_tuple⟩
 obtain ⟨_,_,a_z12,F_z12⟩:=d_z12
 obtain ⟨_,_,a_z2,F_z2⟩:=d_z2
 obtain ⟨_,_,a_z3,F_z3⟩:=d_z3
 obtain ⟨_,_,a_z1,F_z1⟩:=d_z1
 obtain ⟨D_Book,fI_Book,fdI_Book,l1_Book,l2_Book,l3_Book,l4_Book,l5_Book⟩:=l_Book
 have k_Book:ClsD K mg "Book" D_Book ["plans"]:=⟨l1_Book,PySem.W.mg_of X G l1_Book,l2_Book,l3_Book⟩
 obtain ⟨D_Plan,fI_Plan,fdI_Plan,l1_Plan,l2_Plan,l3_Plan,l4_Plan,l5_Plan⟩:=l_Plan
 have k_Plan:ClsD K mg "Plan" D_Plan ["name", "givens", "rows"]:=⟨l1_Plan,PySem.W.mg_of X G l1_Plan,l2_Plan,l3_Plan⟩
 refine ⟨fd_law,(by obtain ⟨_,_,_,_,_,_,_,_,_,rfl,_,_⟩:=id zfq.ex;exact fun s v=>.of_eq rfl),fun base _ _ => ?_⟩
 have j_Book:MkD l.prog w K mg base "Book" ["plans"] 1 ["self", "plans"] My.I_Book:=⟨_,_,_,k_Book,l4_Book,zj1 l5_Book m k_Book,l5_Book.binds fun _ _ _ _ _ _=>us2 fun _ _=>rfl⟩
 have j_Plan:MkD l.prog w K mg base "Plan" ["name", "givens", "rows"] 1 ["self", "name", "givens", "rows"] My.I_Plan:=⟨_,_,_,k_Plan,l4_Plan,zjH l5_Plan m k_Plan,l5_Plan.binds fun _ _ _ _ _ _=>us4 fun _ _ _ _=>rfl⟩
 have C_z5:=d_z5.callee (P:=l.prog) (w:=w) (base:=base) X G (fun F=>ok_z5 (k:=0) F m ) fun _ _ _ _ _ _=>us2 fun _ _=>rfl
 have C_z6:=d_z6.callee (P:=l.prog) (w:=w) (base:=base) X G (fun F=>ok_z6 (k:=0) F m ) fun _ _ _ _ _ _=>us2 fun _ _=>rfl
 have C_z7:=d_z7.callee (P:=l.prog) (w:=w) (base:=base) X G (fun F=>ok_z7 (k:=1) F m (C_z6.mono (by decide))) fun _ _ _ _ _ _=>us1 fun _=>rfl
 have C_z8:=d_z8.callee (P:=l.prog) (w:=w) (base:=base) X G (fun F=>ok_z8 (k:=2) F m (C_z6.mono (by decide)) (C_z7.mono (by decide))) fun _ _ _ _ _ _=>us3 fun _ _ _=>rfl
 have C_z9:=d_z9.callee (P:=l.prog) (w:=w) (base:=base) X G (fun F=>ok_z9 (k:=3) F m (C_z5.mono (by decide)) (C_z8.mono (by decide)) (C_z6.mono (by decide)) k_Plan j_Plan (by decide)) fun _ _ _ _ _ _=>us5 fun _ _ _ _ _=>rfl
 have C_z10:=d_z10.callee (P:=l.prog) (w:=w) (base:=base) X G (fun F=>zlA (k:=4) F m (C_z9.mono (by decide)) j_Book (by decide)) fun _ _ _ _ _ _=>us3 fun _ _ _=>rfl
 have C_z11:=d_z11.callee (P:=l.prog) (w:=w) (base:=base) X G (fun F=>zl4 (k:=0) F m ) fun _ _ _ _ _ _=>us2 fun _ _=>rfl
 have D0_z12:zak l.prog w K mg base "_law_run" 0 ["plans", "plan", "hours"] (SpD K (My.F_z12 0)):=⟨_,_,zl5,F_z12.binds fun _ _ _ _ _ _=>us3 fun _ _ _=>rfl,F_z12.kp,PySem.W.mg_of X G a_z12⟩
 have D1_z12:zak l.prog w K mg base "_law_run" 1 ["plans", "plan", "hours"] (SpD K (My.F_z12 1)):=⟨_,_,zeJ (k:=0) F_z12 m k_Plan D0_z12,F_z12.binds fun _ _ _ _ _ _=>us3 fun _ _ _=>rfl,F_z12.kp,PySem.W.mg_of X G a_z12⟩
 have D2_z12:zak l.prog w K mg base "_law_run" 2 ["plans", "plan", "hours"] (SpD K (My.F_z12 2)):=⟨_,_,zeJ (k:=1) F_z12 m k_Plan D1_z12,F_z12.binds fun _ _ _ _ _ _=>us3 fun _ _ _=>rfl,F_z12.kp,PySem.W.mg_of X G a_z12⟩
 have D3_z12:zak l.prog w K mg base "_law_run" 3 ["plans", "plan", "hours"] (SpD K (My.F_z12 3)):=⟨_,_,zeJ (k:=2) F_z12 m k_Plan D2_z12,F_z12.binds fun _ _ _ _ _ _=>us3 fun _ _ _=>rfl,F_z12.kp,PySem.W.mg_of X G a_z12⟩
 have C_z12:zak l.prog w K mg base "_law_run" 4 ["plans", "plan", "hours"] (SpD K (My.F_z12 4)):=⟨_,_,zeJ (k:=3) F_z12 m k_Plan D3_z12,F_z12.binds fun _ _ _ _ _ _=>us3 fun _ _ _=>rfl,F_z12.kp,PySem.W.mg_of X G a_z12⟩
 have C_z13:=d_z13.callee (P:=l.prog) (w:=w) (base:=base) X G (fun F=>zkO (k:=0) F m ) fun _ _ _ _ _ _=>us3 fun _ _ _=>rfl
 have C_z4:=d_z4.callee (P:=l.prog) (w:=w) (base:=base) X G (fun F=>ok_z4 (k:=0) F m ) fun _ _ _ _ _ _=>us1 fun _=>rfl
 have C_z0:=d_z0.callee (P:=l.prog) (w:=w) (base:=base) X G (fun F=>ok_z0 (k:=0) F m k_Book k_Plan) fun _ _ _ _ _ _=>us2 fun _ _=>rfl
 have D0_z1:zak l.prog w K mg base "hours_of" 1 ["book", "name", "hours"] (SpD K (My.F_z1 0)):=⟨_,_,zl5,F_z1.binds fun _ _ _ _ _ _=>us3 fun _ _ _=>rfl,F_z1.kp,PySem.W.mg_of X G a_z1⟩
 have D0_z2:zak l.prog w K mg base "told_hour" 2 ["book", "name", "hours"] (SpD K (My.F_z2 0)):=⟨_,_,zfI (k:=1) F_z2 m  D0_z1,F_z2.binds fun _ _ _ _ _ _=>us3 fun _ _ _=>rfl,F_z2.kp,PySem.W.mg_of X G a_z2⟩
 have D0_z3:zak l.prog w K mg base "made_hour" 3 ["book", "how", "hours"] (SpD K (My.F_z3 0)):=⟨_,_,zgi (k:=2) F_z3 m  D0_z2,F_z3.binds fun _ _ _ _ _ _=>us3 fun _ _ _=>rfl,F_z3.kp,PySem.W.mg_of X G a_z3⟩
 have D1_z1:zak l.prog w K mg base "hours_of" 4 ["book", "name", "hours"] (SpD K (My.F_z1 1)):=⟨_,_,zhM (k:=3) F_z1 m (C_z0.mono (by decide)) k_Plan D0_z3,F_z1.binds fun _ _ _ _ _ _=>us3 fun _ _ _=>rfl,F_z1.kp,PySem.W.mg_of X G a_z1⟩
 have D1_z2:zak l.prog w K mg base "told_hour" 5 ["book", "name", "hours"] (SpD K (My.F_z2 1)):=⟨_,_,zfI (k:=4) F_z2 m  D1_z1,F_z2.binds fun _ _ _ _ _ _=>us3 fun _ _ _=>rfl,F_z2.kp,PySem.W.mg_of X G a_z2⟩
 have D1_z3:zak l.prog w K mg base "made_hour" 6 ["book", "how", "hours"] (SpD K (My.F_z3 1)):=⟨_,_,zgi (k:=5) F_z3 m  D1_z2,F_z3.binds fun _ _ _ _ _ _=>us3 fun _ _ _=>rfl,F_z3.kp,PySem.W.mg_of X G a_z3⟩
 have D2_z1:zak l.prog w K mg base "hours_of" 7 ["book", "name", "hours"] (SpD K (My.F_z1 2)):=⟨_,_,zhM (k:=6) F_z1 m (C_z0.mono (by decide)) k_Plan D1_z3,F_z1.binds fun _ _ _ _ _ _=>us3 fun _ _ _=>rfl,F_z1.kp,PySem.W.mg_of X G a_z1⟩
 have D2_z2:zak l.prog w K mg base "told_hour" 8 ["book", "name", "hours"] (SpD K (My.F_z2 2)):=⟨_,_,zfI (k:=7) F_z2 m  D2_z1,F_z2.binds fun _ _ _ _ _ _=>us3 fun _ _ _=>rfl,F_z2.kp,PySem.W.mg_of X G a_z2⟩
 have D2_z3:zak l.prog w K mg base "made_hour" 9 ["book", "how", "hours"] (SpD K (My.F_z3 2)):=⟨_,_,zgi (k:=8) F_z3 m  D2_z2,F_z3.binds fun _ _ _ _ _ _=>us3 fun _ _ _=>rfl,F_z3.kp,PySem.W.mg_of X G a_z3⟩
 have D3_z1:zak l.prog w K mg base "hours_of" 10 ["book", "name", "hours"] (SpD K (My.F_z1 3)):=⟨_,_,zhM (k:=9) F_z1 m (C_z0.mono (by decide)) k_Plan D2_z3,F_z1.binds fun _ _ _ _ _ _=>us3 fun _ _ _=>rfl,F_z1.kp,PySem.W.mg_of X G a_z1⟩
 have D3_z2:zak l.prog w K mg base "told_hour" 11 ["book", "name", "hours"] (SpD K (My.F_z2 3)):=⟨_,_,zfI (k:=10) F_z2 m  D3_z1,F_z2.binds fun _ _ _ _ _ _=>us3 fun _ _ _=>rfl,F_z2.kp,PySem.W.mg_of X G a_z2⟩
 have D3_z3:zak l.prog w K mg base "made_hour" 12 ["book", "how", "hours"] (SpD K (My.F_z3 3)):=⟨_,_,zgi (k:=11) F_z3 m  D3_z2,F_z3.binds fun _ _ _ _ _ _=>us3 fun _ _ _=>rfl,F_z3.kp,PySem.W.mg_of X G a_z3⟩
 have D4_z1:zak l.prog w K mg base "hours_of" 13 ["book", "name", "hours"] (SpD K (My.F_z1 4)):=⟨_,_,zhM (k:=12) F_z1 m (C_z0.mono (by decide)) k_Plan D3_z3,F_z1.binds fun _ _ _ _ _ _=>us3 fun _ _ _=>rfl,F_z1.kp,PySem.W.mg_of X G a_z1⟩
 have D4_z2:zak l.prog w K mg base "told_hour" 14 ["book", "name", "hours"] (SpD K (My.F_z2 4)):=⟨_,_,zfI (k:=13) F_z2 m  D4_z1,F_z2.binds fun _ _ _ _ _ _=>us3 fun _ _ _=>rfl,F_z2.kp,PySem.W.mg_of X G a_z2⟩
 have D4_z3:zak l.prog w K mg base "made_hour" 15 ["book", "how", "hours"] (SpD K (My.F_z3 4)):=⟨_,_,zgi (k:=14) F_z3 m  D4_z2,F_z3.binds fun _ _ _ _ _ _=>us3 fun _ _ _=>rfl,F_z3.kp,PySem.W.mg_of X G a_z3⟩
 have C_z2:=D4_z2
 have C_z3:=D4_z3
 have C_z1:=D4_z1
 exact ((zkB (k:=14) (P:=l.prog) (w:=w) (base:=base) zfq m (C_z10.mono (by decide)) (C_z5.mono (by decide)) (C_z11.mono (by decide)) (C_z12.mono (by decide)) (C_z13.mono (by decide)) (C_z4.mono (by decide)) (C_z1.mono (by decide)) (C_z2.mono (by decide)) k_Book k_Plan).mono (by decide)).imp (zkn K)
theorem walk {l:PySem.W.OpenLaw}{q:Program}{loose:List Str}{XP:(Str→Option Value)→Heap→Prop}{YP:World→Heap→Prop}{d:DefRec}{K:Params→PySem.W.Frag}(hn:l.most=some 63)(hdf:d.params.defaults=[])
 (hY:∀ (w:World) (h:Heap),YP w h→(K w.params).In h)
 (F:∀ (w:World) (mg:Str→Option Value) (fa:Addr) (h:Heap),(K w.params).In h→h.Ns mainGlobals mg→mg d.name=some (.ref fa) →
  ∃ fd:FuncData,(∀ (s:Shared) (u:Value),BindsTo s fd ⟨[u],[]⟩ [("script",u)])∧∀ base:Heap,(K w.params).In base→base.Ns mainGlobals mg→FnOk l.prog w (K w.params) mg base CX0 15 fa fd ["script"] (zeB (K w.params))) :
 PySem.W.WalkO q loose XP YP l.row.toRowW d [] (fun f vs=>PySem.call f vs) :=
 L2.walk_of (n:=63) (k:=15) (x := "script") (CX:=fun _=>CX0) (sp:=fun w=>zeB (K w.params)) hn (by decide) hdf ⟨rfl,by decide,by decide⟩ hY F (fun _ _ a ns hl _ hS=>⟨a,ns,rfl,hS,hl,fun _=>rfl⟩) fun _ _ _ _ _ z=>z
end My
open PySem PySem.W PyProof.Rows
set_option maxRecDepth 100000 in
set_option maxHeartbeats 0 in
theorem PySem.Challenge.cw_allfirst_k49_parts_run_holds : PySem.Challenge.rw_allfirst_k49_parts_run.Holds := by
 w_on;o_law;k_head;(case hw=>w_witness2)
 k_fill
 refine My.walk (l:=PySem.Challenge.rw_allfirst_k49_parts_run) rfl rfl (fun w h Y=>PySem.W.kIn_of Y) ?F
 case F =>
  intro w mg fa h KX G hmg
  refine' My.all_mk KX G hmg ?d_z5 ?d_z6 ?d_z7 ?d_z8 ?d_z9 ?d_z10 ?d_z11 ?d_z12 ?d_z13 ?d_z4 ?d_z2 ?d_z3 ?d_z0 ?d_z1 ?d_law ?l_Book ?l_Plan ?z_bool ?z_int ?z_isinstance ?z_len ?z_list ?z_max ?z_min ?z_range ?z_sorted ?z_str ?z_sum ?z_tuple
  (case d_z5|d_z6|d_z7|d_z8|d_z9|d_z10|d_z11|d_z12|d_z13|d_z4|d_z2|d_z3|d_z0|d_z1|d_law=>refine' ⟨_,_,?a,L2.fun_mk ?l ?c ?k⟩;(case a=>k_is);(case l=>k_is);(case c=>k_is);(case k=>k_is))
  (case l_Book=>refine' ⟨_,_,_,?ua,⟨?up,?uh,?uo,?us⟩,List.forall_mem_cons.mpr ⟨?uf0,List.forall_mem_nil _⟩,⟨?um,?ui,?un,?ue⟩,L2.fun_mk ?ul ?uc ?uk⟩;(case ua=>k_is);(case ui=>k_is);(case ul=>k_is);(case uc=>k_is);(case uk=>k_is);(case up=>k_is);(case uh=>k_is);(case uo=>k_is);(case us=>k_is);(case um=>k_is);(case un=>k_is);(case ue=>k_is);(case uf0=>show PySem.W.findIn _ _ _=_;k_is))
  (case l_Plan=>refine' ⟨_,_,_,?ua,⟨?up,?uh,?uo,?us⟩,List.forall_mem_cons.mpr ⟨?uf0,List.forall_mem_cons.mpr ⟨?uf1,List.forall_mem_cons.mpr ⟨?uf2,List.forall_mem_nil _⟩⟩⟩,⟨?um,?ui,?un,?ue⟩,L2.fun_mk ?ul ?uc ?uk⟩;(case ua=>k_is);(case ui=>k_is);(case ul=>k_is);(case uc=>k_is);(case uk=>k_is);(case up=>k_is);(case uh=>k_is);(case uo=>k_is);(case us=>k_is);(case um=>k_is);(case un=>k_is);(case ue=>k_is);(case uf0=>show PySem.W.findIn _ _ _=_;k_is);(case uf1=>show PySem.W.findIn _ _ _=_;k_is);(case uf2=>show PySem.W.findIn _ _ _=_;k_is))
  (case z_bool|z_int|z_isinstance|z_len|z_list|z_max|z_min|z_range|z_sorted|z_str|z_sum|z_tuple=>k_is)
