import PyProof.Rows.All
import Wide.All
import OpenK.AllK
import Wide.FinOn
import Lean
import PyProof.EqAt
import PyProof.EqKinds
import PyProof.TupleCall
import PyProof.P3Eq
import PyProof.NeData
import PySem.Challenge.RW_allfirst_k15_papers_of_lags
set_option Elab.async false
set_option linter.all false
set_option maxRecDepth 100000
set_option bootstrap.genMatcherCode false
set_option compiler.extract_closed false
set_option genSizeOf false
noncomputable section
local macro_rules | `(tactic| omega) => `(tactic| lia)
theorem zau (_:True=True:=by rfl):True:=trivial
theorem zav (_:True:=by decide):True:=trivial
theorem zaw (_:Nat→True=True:=by intro _;rfl):True:=trivial
theorem zc0b {p0 p1:Prop}{P:Prop}(h:p0∧p1)(k:p0→p1→P):P:=by
 obtain ⟨h0,h1⟩:=h
 exact k h0 h1
theorem zc0c {p0 p1 p2:Prop}{P:Prop}(h:p0∧p1∧p2)(k:p0→p1→p2→P):P:=by
 obtain ⟨h0,h1,h2⟩:=h
 exact k h0 h1 h2
theorem zc0d {p0 p1 p2 p3:Prop}{P:Prop}(h:p0∧p1∧p2∧p3)(k:p0→p1→p2→p3→P):P:=by
 obtain ⟨h0,h1,h2,h3⟩:=h
 exact k h0 h1 h2 h3
theorem zc0e {p0 p1 p2 p3 p4:Prop}{P:Prop}(h:p0∧p1∧p2∧p3∧p4)(k:p0→p1→p2→p3→p4→P):P:=by
 obtain ⟨h0,h1,h2,h3,h4⟩:=h
 exact k h0 h1 h2 h3 h4
theorem zc1a.{u0}{α0:Sort u0}{p0 : α0→Prop}{P:Prop}(h:∃ a0,p0 a0)(k:∀ a0,p0 a0→P):P:=by
 obtain ⟨a0,h0⟩:=h
 exact k a0 h0
theorem zc1b.{u0}{α0:Sort u0}{p0 p1 : α0→Prop}{P:Prop}(h:∃ a0,p0 a0∧p1 a0)(k:∀ a0,p0 a0→p1 a0→P):P:=by
 obtain ⟨a0,h0,h1⟩:=h
 exact k a0 h0 h1
theorem zc1c.{u0}{α0:Sort u0}{p0 p1 p2 : α0→Prop}{P:Prop}(h:∃ a0,p0 a0∧p1 a0∧p2 a0)(k:∀ a0,p0 a0→p1 a0→p2 a0→P):P:=by
 obtain ⟨a0,h0,h1,h2⟩:=h
 exact k a0 h0 h1 h2
theorem zc1d.{u0}{α0:Sort u0}{p0 p1 p2 p3 : α0→Prop}{P:Prop}(h:∃ a0,p0 a0∧p1 a0∧p2 a0∧p3 a0)(k:∀ a0,p0 a0→p1 a0→p2 a0→p3 a0→P):P:=by
 obtain ⟨a0,h0,h1,h2,h3⟩:=h
 exact k a0 h0 h1 h2 h3
theorem zc1e.{u0}{α0:Sort u0}{p0 p1 p2 p3 p4 : α0→Prop}{P:Prop}(h:∃ a0,p0 a0∧p1 a0∧p2 a0∧p3 a0∧p4 a0)(k:∀ a0,p0 a0→p1 a0→p2 a0→p3 a0→p4 a0→P):P:=by
 obtain ⟨a0,h0,h1,h2,h3,h4⟩:=h
 exact k a0 h0 h1 h2 h3 h4
theorem zc2a.{u0,u1}{α0:Sort u0}{α1:Sort u1}{p0 : α0 → α1→Prop}{P:Prop}(h:∃ a0 a1,p0 a0 a1)(k:∀ a0 a1,p0 a0 a1→P):P:=by
 obtain ⟨a0,a1,h0⟩:=h
 exact k a0 a1 h0
theorem zc2b.{u0,u1}{α0:Sort u0}{α1:Sort u1}{p0 p1 : α0 → α1→Prop}{P:Prop}(h:∃ a0 a1,p0 a0 a1∧p1 a0 a1)(k:∀ a0 a1,p0 a0 a1→p1 a0 a1→P):P:=by
 obtain ⟨a0,a1,h0,h1⟩:=h
 exact k a0 a1 h0 h1
theorem zc2c.{u0,u1}{α0:Sort u0}{α1:Sort u1}{p0 p1 p2 : α0 → α1→Prop}{P:Prop}(h:∃ a0 a1,p0 a0 a1∧p1 a0 a1∧p2 a0 a1)(k:∀ a0 a1,p0 a0 a1→p1 a0 a1→p2 a0 a1→P):P:=by
 obtain ⟨a0,a1,h0,h1,h2⟩:=h
 exact k a0 a1 h0 h1 h2
theorem zc2d.{u0,u1}{α0:Sort u0}{α1:Sort u1}{p0 p1 p2 p3 : α0 → α1→Prop}{P:Prop}(h:∃ a0 a1,p0 a0 a1∧p1 a0 a1∧p2 a0 a1∧p3 a0 a1)(k:∀ a0 a1,p0 a0 a1→p1 a0 a1→p2 a0 a1→p3 a0 a1→P):P:=by
 obtain ⟨a0,a1,h0,h1,h2,h3⟩:=h
 exact k a0 a1 h0 h1 h2 h3
theorem zc3a.{u0,u1,u2}{α0:Sort u0}{α1:Sort u1}{α2:Sort u2}{p0 : α0 → α1 → α2→Prop}{P:Prop}(h:∃ a0 a1 a2,p0 a0 a1 a2)(k:∀ a0 a1 a2,p0 a0 a1 a2→P):P:=by
 obtain ⟨a0,a1,a2,h0⟩:=h
 exact k a0 a1 a2 h0
theorem zc3b.{u0,u1,u2}{α0:Sort u0}{α1:Sort u1}{α2:Sort u2}{p0 p1 : α0 → α1 → α2→Prop}{P:Prop}(h:∃ a0 a1 a2,p0 a0 a1 a2∧p1 a0 a1 a2)(k:∀ a0 a1 a2,p0 a0 a1 a2→p1 a0 a1 a2→P):P:=by
 obtain ⟨a0,a1,a2,h0,h1⟩:=h
 exact k a0 a1 a2 h0 h1
theorem zc3c.{u0,u1,u2}{α0:Sort u0}{α1:Sort u1}{α2:Sort u2}{p0 p1 p2 : α0 → α1 → α2→Prop}{P:Prop}(h:∃ a0 a1 a2,p0 a0 a1 a2∧p1 a0 a1 a2∧p2 a0 a1 a2)(k:∀ a0 a1 a2,p0 a0 a1 a2→p1 a0 a1 a2→p2 a0 a1 a2→P):P:=by
 obtain ⟨a0,a1,a2,h0,h1,h2⟩:=h
 exact k a0 a1 a2 h0 h1 h2
theorem zc4a.{u0,u1,u2,u3}{α0:Sort u0}{α1:Sort u1}{α2:Sort u2}{α3:Sort u3}{p0 : α0 → α1 → α2 → α3→Prop}{P:Prop}(h:∃ a0 a1 a2 a3,p0 a0 a1 a2 a3)(k:∀ a0 a1 a2 a3,p0 a0 a1 a2 a3→P):P:=by
 obtain ⟨a0,a1,a2,a3,h0⟩:=h
 exact k a0 a1 a2 a3 h0
namespace L2
open PySem PySem.Spec PyProof.Rows
abbrev Key:=Sum Int Str
noncomputable def zgm:Key→Value→Bool
 | .inl k,v=>Value.isInt k v
 | .inr x,v=>Value.isStrOf x v
noncomputable def keyH (w:World):Key→Int
 | .inl k=>hashInt k
 | .inr x=>hashStr w x
theorem za2:∀ {k:Key} {v:Value},zgm k v=true→(∃ i t,k=Sum.inl i∧v=Value.int i t)∨(∃ x t,k=Sum.inr x∧v=Value.str x t)
 | .inl i,v,h=>by
  obtain ⟨t,e⟩:=Value.isInt_shape (k:=i) (v:=v) h
  exact .inl ⟨i,t,rfl,e⟩
 | .inr x,v,h=>by
  obtain ⟨t,e⟩:=Value.isStrOf_shape (x:=x) (v:=v) h
  exact .inr ⟨x,t,rfl,e⟩
theorem zgj (i:Int)(t:Tok):zgm (.inl i) (.int i t)=true:=by simp [zgm,Value.isInt]
theorem zje (x:Str)(t:Tok):zgm (.inr x) (.str x t)=true:=by simp [zgm,Value.isStrOf]
theorem zpA (a b:Int):decide ((Sum.inl a:Key)=Sum.inl b)=(a == b):=by
 by_cases e:a=b
 ·subst e;simp -iota
 ·have h:¬ (Sum.inl a:Key)=Sum.inl b:=fun q=>e (Sum.inl.inj q)
  rw [decide_eq_false h]
  exact (beq_eq_false_iff_ne.mpr e).symm
theorem zp8 (a b:Str):decide ((Sum.inr a:Key)=Sum.inr b)=decide (a=b):=by
 by_cases e:a=b
 ·subst e;simp -iota
 ·have h:¬ (Sum.inr a:Key)=Sum.inr b:=fun q=>e (Sum.inr.inj q)
  rw [decide_eq_false h,decide_eq_false e]
theorem zp7 (a:Int)(b:Str):decide ((Sum.inl a:Key)=Sum.inr b)=false:=decide_eq_false (fun q=>nomatch q)
theorem zqj (a:Str)(b:Int):decide ((Sum.inr a:Key)=Sum.inl b)=false:=decide_eq_false (fun q=>nomatch q)
def zaJ (prog:Program)(w:World):PySem.KeyKind prog w Key where
 is:=zgm
 hash:=keyH w
 inj:=fun v a b ha hb=>by
  rcases za2 ha with ⟨i,t,rfl,rfl⟩|⟨x,t,rfl,rfl⟩
  ·rcases za2 hb with ⟨j,u,rfl,e⟩|⟨y,u,rfl,e⟩
   ·injection e with e1 _;rw [e1]
   ·exact nomatch e
  ·rcases za2 hb with ⟨j,u,rfl,e⟩|⟨y,u,rfl,e⟩
   ·exact nomatch e
   ·injection e with e1 _;rw [e1]
 byValue:=fun k v h=>by
  rcases za2 h with ⟨i,t,rfl,rfl⟩|⟨x,t,rfl,rfl⟩<;>rfl
 pyHash:=fun hv h=>by
  rcases za2 hv with ⟨i,t,rfl,rfl⟩|⟨x,t,rfl,rfl⟩
  ·exact wpAny_pyHash_int h
  ·exact wpAny_pyHash_str h
 eqBool:=fun hu hv h=>by
  rcases za2 hu with ⟨i,t,rfl,rfl⟩|⟨x,t,rfl,rfl⟩
  ·rcases za2 hv with ⟨j,u,rfl,rfl⟩|⟨y,u,rfl,rfl⟩
   ·rw [zpA] at h;exact wpAny_eqBool_int h
   ·rw [zp7] at h;exact SeqAt.EqAt.int_str i t y u _ _ _ _ h
  ·rcases za2 hv with ⟨j,u,rfl,rfl⟩|⟨y,u,rfl,rfl⟩
   ·rw [zqj] at h;exact SeqAt.EqAt.str_int x t j u _ _ _ _ h
   ·rw [zp8] at h;exact wpAny_eqBool_str h
 «strs»:=fun k x t v h=>by
  rcases za2 h with ⟨i,u,rfl,e⟩|⟨y,u,rfl,e⟩
  ·exact nomatch e
  ·injection e with e1 _
   subst e1
   cases v<;>rfl
theorem zgT (prog:Program)(w:World)(i:Int)(t:Tok):(zaJ prog w).is (.inl i) (.int i t)=true:=zgj i t
theorem zhe (prog:Program)(w:World)(x:Str)(t:Tok):(zaJ prog w).is (.inr x) (.str x t)=true:=zje x t
end L2
namespace L2
open PySem PySem.Spec PyProof.Rows
inductive V where
 | non|bl (b:Bool)|int (i:Int)|str (x:Str)|byt (b:Array UInt8)|flt (b:UInt64)|ref (a:Addr)|ty (n:String)
 deriving DecidableEq
noncomputable def RelV:V→Value→Prop
 | .non,u=>u=Value.none
 | .bl b,u=>u=Value.bool b
 | .int i,u => ∃ t,u=Value.int i t
 | .str x,u => ∃ t,u=Value.str x t
 | .byt b,u => ∃ t,u=Value.bytes b t
 | .flt b,u => ∃ t,u=Value.float b t
 | .ref a,u=>u=Value.ref a
 | .ty n,u=>u=Value.type n
abbrev Vals:List V→List Value→Prop:=Paired RelV
theorem Vals.length {xs:List V}{us:List Value}(r:Vals xs us):xs.length=us.length:=Paired.length r
theorem Vals.get:∀ {xs:List V} {us:List Value} {i:Nat} {x:V},Vals xs us→xs[i]? = some x→∃ u,us[i]? = some u∧RelV x u
 | _,_,_,_,.nil,e=>by simp -iota at e
 | _,_,0,_,.cons r _,e=>by simp -iota at e;subst e;exact ⟨_,rfl,r⟩
 | _,_,i+1,x,.cons _ t,e=>by
  refine zc1b (Vals.get (i:=i) (x:=x) t (by simpa -iota using e)) fun u h1 h2 => ?_
  exact ⟨u,by simpa -iota using h1,h2⟩
theorem Vals.append:∀ {xs ys:List V} {us ws:List Value},Vals xs us→Vals ys ws→Vals (xs++ys) (us++ws):=fun h s=>by
 induction h with
 | nil=>exact s
 | cons r _ ih=>exact .cons r ih
def RelO:Option V→Option Value→Prop
 | some v,some u=>RelV v u
 | none,none=>True
 | _,_=>False
def KV {κ : Type}:List (κ × V)→List (κ × Value)→Prop:=Paired fun (p : κ × V) (q : κ × Value)=>p.1=q.1∧RelV p.2 q.2
noncomputable def kV:Key→V
 | .inl i=>.int i
 | .inr x=>.str x
inductive HO where
 | lst (xs:List V)
 | tup (xs:List V)
 | dK (kvs:List (Key×V))|dT (kvs:List (List Key×V))
 | set (S:Int→Bool) (n:Nat)
 | ins (C dx:Addr) (fs:List (Str×V))
 | own (x:Addr)
 | xd (fs:List (Str×V))
 | met (f x:Addr)
 | rng (lo hi:Int)
 | frz (o:Obj) (u:HO)
 | tbl (ps:Array Value)
 | ext (φ : Heap→Prop)
abbrev Hp:=Addr→Option HO
noncomputable def upd (H:Hp)(a:Addr)(o:HO):Hp:=fun b=>if b=a then some o else H b
theorem zai {H:Hp}{a:Addr}{o:HO}:upd H a o a=some o:=by unfold upd;rw [if_pos rfl]
theorem zah {H:Hp}{a b:Addr}{o:HO}(h:b≠a):upd H a o b=H b:=by unfold upd;rw [if_neg h]
theorem ne_of {H:Hp}{a b:Addr}{o u:HO}(h:H a=some o)(h':H b=some u)(d:o≠u):a≠b:=by
 intro e;subst e;rw [h] at h';exact d (Option.some.inj h')
theorem zbc {H:Hp}{a b:Addr}{o:HO}(h:H a=some o)(h':H b=none):a≠b:=by
 intro e;subst e;rw [h] at h';cases h'
section
variable (P:Program)(w:World)
def zaL (H:Hp)(h:Heap)(a:Addr):HO→Prop
 | .lst xs=>xs.length≤sizeLine∧∃ (its:List Value) (n:Nat),Vals xs its∧h.get? a=some { cls:=.type "list",data:=.seq its.toArray n }
 | .tup xs=>(xs.length≤sizeLine∧∃ o,h.get? a=some o∧o.dict=none)∧∃ its:List Value,Vals xs its∧IsTup h a its.toArray
 | .dK kvs=>kvs.length≤sizeLine∧(a == sysModules)=false∧∃ vs,KV kvs vs∧h.DictOf (zaJ P w) a vs
 | .dT kvs=>kvs.length≤sizeLine∧(a == sysModules)=false∧∃ xs:List (List Key×Addr×Value),
  Paired (fun (p:List Key×V) (q:List Key×Addr×Value)=>p.1=q.1∧H q.2.1=some (.tup (p.1.map kV))∧RelV p.2 q.2.2) kvs xs ∧
  ∃ o es ep,h.get? a=some o∧o.ExactDict∧o.data=.dict es ep∧es.toList=xs.map (entryOfKey (tupleKind (zaJ P w)))∧(xs.map (·.1)).Nodup
 | .set S n=>h.SetOf (intKind P w) a S n
 | .ins C dx fs=>H dx=some (.own a)∧fs.length≤1000∧dx≠a∧h.get? a=some (PySem.W.instObj C dx) ∧
  ∃ mA,h.Ns1 dx mA∧(∀ f,RelO (fs.lookup f) (mA f))∧PySem.Within mA (fs.map (·.1))
 | .own _ => ∃ o,h.get? a=some o
 | .xd fs => ∃ mA,h.Ns1 a mA∧∀ f,RelO (fs.lookup f) (mA f)
 | .rng lo hi => ∃ t u v,h.get? a=some { cls:=.type "range",data:=.fields #[.int lo t,.int hi u,.int 1 v] }
 | .frz o u=>h.get? a=some o∧zaL H h a u
 | .tbl ps=>h.get? a=some { cls:=.none,data:=.fields ps }
 | .met f x=>h.get? a=some (PySem.W.methodObj (.ref f) (.ref x))
 | .ext φ => φ h∧(∃ o,h.get? a=some o)∧∀ h1 h2:Heap,φ h1→(∀ o,h1.get? a=some o→h2.get? a=some o) → φ h2
def HOk (H:Hp)(h:Heap):Prop:=∀ a o,H a=some o→zaL P w H h a o
end
section
variable {P:Program}{w:World}{H H':Hp}{h h':Heap}{a:Addr}{o:HO}
theorem zaL.lt (x:zaL P w H h a o):a<h.objs.size:=by
 cases o with
 | lst xs=>obtain ⟨_,_,_,_,e⟩:=x;exact Heap.lt_size e
 | tup xs=>obtain ⟨_,_,_,p⟩:=x;exact p.lt
 | dK kvs=>obtain ⟨_,_,_,_,o,_,_,e,_⟩:=x;exact Heap.lt_size e
 | dT kvs=>obtain ⟨_,_,_,_,o,_,_,e,_⟩:=x;exact Heap.lt_size e
 | set S n=>obtain ⟨o,_,_,_,e,_⟩:=x;exact Heap.lt_size e
 | ins C dx fs=>obtain ⟨_,_,_,e,_⟩:=x;exact Heap.lt_size e
 | own y=>obtain ⟨_,e⟩:=x;exact Heap.lt_size e
 | xd fs=>obtain ⟨_,⟨_,_,_,e,_⟩,_⟩:=x;exact Heap.lt_size e
 | rng lo hi=>obtain ⟨_,_,_,e⟩:=x;exact Heap.lt_size e
 | frz ob u=>obtain ⟨e,_⟩:=x;exact Heap.lt_size e
 | tbl ps=>exact Heap.lt_size (show h.get? a=some _ from x)
 | met f y=>exact Heap.lt_size (show h.get? a=some _ from x)
 | ext φ => obtain ⟨_,⟨_,e⟩,_⟩:=x;exact Heap.lt_size e
theorem Paired.mapP {α β : Type}{F G : α → β → Prop}:∀ {l₁:List α} {l₂:List β},Paired F l₁ l₂→(∀ a b,F a b→G a b)→Paired G l₁ l₂:=fun h f=>by
 induction h with
 | nil=>exact .nil
 | cons r _ ih=>exact .cons (f _ _ r) ih
theorem zaL.stay (x:zaL P w H h a o)(k:∀ b u,(b=a∨H b=some (.own a))→h.get? b=some u→h'.get? b=some u)
 (ho:∀ b,H b=some (.own a)→H' b=some (.own a)) (ht:∀ b xs,H b=some (.tup xs)→H' b=some (.tup xs)):zaL P w H' h' a o:=by
 induction o with
 | lst xs=>obtain ⟨z,its,n,r,e⟩:=x;exact ⟨z,its,n,r,k _ _ (.inl rfl) e⟩
 | tup xs=>obtain ⟨⟨z,od,ed,dd⟩,its,r,ob,e,c⟩:=x;exact ⟨⟨z,od,k _ _ (.inl rfl) ed,dd⟩,its,r,ob,k _ _ (.inl rfl) e,c⟩
 | dK kvs=>obtain ⟨z,y,vs,r,ob,es,ep,e,c⟩:=x;exact ⟨z,y,vs,r,ob,es,ep,k _ _ (.inl rfl) e,c⟩
 | dT kvs =>
  refine zc0c x fun z y zz=>zc1b zz fun xs r zz=>zc3b zz fun ob es ep e c => ?_
  exact ⟨z,y,xs,Paired.mapP r fun p q z=>⟨z.1,ht _ _ z.2.1,z.2.2⟩,ob,es,ep,k _ _ (.inl rfl) e,c⟩
 | set S n=>obtain ⟨ob,es,ep,t,e,c⟩:=x;exact ⟨ob,es,ep,t,k _ _ (.inl rfl) e,c⟩
 | ins C dx fs =>
  refine zc0e x fun d z ne e zz=>zc1b zz fun mA zr5 r => ?_
  obtain ⟨od,es,ep,e2,c⟩:=zr5
  exact ⟨ho _ d,z,ne,k _ _ (.inl rfl) e,mA,⟨od,es,ep,k _ _ (.inr d) e2,c⟩,r⟩
 | own y=>obtain ⟨ob,e⟩:=x;exact ⟨ob,k _ _ (.inl rfl) e⟩
 | xd fs=>obtain ⟨mA,⟨od,es,ep,e,c⟩,r⟩:=x;exact ⟨mA,⟨od,es,ep,k _ _ (.inl rfl) e,c⟩,r⟩
 | rng lo hi=>obtain ⟨t,u,v,e⟩:=x;exact ⟨t,u,v,k _ _ (.inl rfl) e⟩
 | frz ob u ih=>obtain ⟨e,q⟩:=x;exact ⟨k _ _ (.inl rfl) e,ih q⟩
 | tbl ps =>
  have e:h.get? a=some { cls:=.none,data:=.fields ps }:=x
  show h'.get? a=some { cls:=.none,data:=.fields ps }
  exact k a _ (.inl rfl) e
 | met f y =>
  have e:h.get? a=some (PySem.W.methodObj (.ref f) (.ref y)):=x
  show h'.get? a=some (PySem.W.methodObj (.ref f) (.ref y))
  exact k a _ (.inl rfl) e
 | ext φ => obtain ⟨p,⟨o,e⟩,st⟩:=x;exact ⟨st _ _ p fun o q=>k _ _ (.inl rfl) q,⟨o,k _ _ (.inl rfl) e⟩,st⟩
theorem HOk.lt (x:HOk P w H h)(e:H a=some o):a<h.objs.size:=(x a o e).lt
theorem HOk.fresh (x:HOk P w H h)(e:h.objs.size≤a):H a=none:=by
 cases q:H a with
 | none=>rfl
 | some u=>exact absurd (Nat.lt_of_lt_of_le (x.lt q) e) (Nat.lt_irrefl _)
theorem HOk.kept (x:HOk P w H h)(k:∀ b u,h.get? b=some u→h'.get? b=some u):HOk P w H h':=fun a o e =>
 (x a o e).stay (fun b u _ q=>k b u q) (fun _ q=>q) fun _ _ q=>q
theorem HOk.laid (x:HOk P w H h)(k:∀ b u,h.get? b=some u→h'.get? b=some u)(hp:h.objs.size≤a)(new:zaL P w (upd H a o) h' a o):HOk P w (upd H a o) h':=fun b u e=>by
 have hn:=x.fresh hp
 by_cases hb:b=a
 ·subst hb;rw [zai] at e;cases e;exact new
 ·rw [zah hb] at e
  exact (x b u e).stay (fun c v _ q=>k c v q) (fun c q=>by rw [zah (zbc q hn)];exact q) fun c xs q=>by rw [zah (zbc q hn)];exact q
end
noncomputable def Rd (H:Hp)(a:Addr)(u:HO):Prop:=H a=some u∨∃ o,H a=some (.frz o u)
theorem Rd.ok {P:Program}{w:World}{H:Hp}{h:Heap}{a:Addr}{u:HO}(r:Rd H a u)(x:HOk P w H h):zaL P w H h a u:=by
 rcases r with r|⟨o,r⟩
 ·exact x a u r
 ·obtain ⟨_,q⟩:=x a _ r
  exact q
noncomputable def Mut:Option HO→Prop
 | some (.lst _)=>True
 | some (.dK _)=>True
 | some (.dT _)=>True
 | some (.set _ _)=>True
 | some (.ins _ _ _)=>True
 | some (.ext _)=>True
 | _=>False
section
variable {P:Program}{w:World}{H:Hp}{h h':Heap}{x e:Addr}{o':HO}
theorem HOk.write (ok:HOk P w H h)(mu:Mut (H x))(he:e=x∨H e=some (.own x))(k:∀ b u,b≠e→h.get? b=some u→h'.get? b=some u)(heo:∃ u,h'.get? e=some u)
 (new:zaL P w (upd H x o') h' x o'):HOk P w (upd H x o') h':=fun b u q=>by
 have nown:∀ c y,H c=some (.own y)→c≠x:=fun c y r z=>by subst z;rw [r] at mu;exact mu
 have ntup:∀ c xs,H c=some (.tup xs)→c≠x:=fun c xs r z=>by subst z;rw [r] at mu;exact mu
 by_cases hb:b=x
 ·subst hb;rw [zai] at q;cases q;exact new
 ·rw [zah hb] at q
  by_cases hbe:b=e
  ·have q':H b=some (.own x):=by
    rcases he with z|z
    ·exact absurd (hbe.trans z) hb
    ·rw [hbe];exact z
   rw [q] at q';cases q'
   obtain ⟨v,hv⟩:=heo
   exact ⟨v,by rw [hbe];exact hv⟩
  ·refine (ok b u q).stay (fun c v hc r=>k c v ?_ r) (fun c r=>by rw [zah (nown c b r)];exact r) fun c xs r=>by rw [zah (ntup c xs r)];exact r
   rcases hc with rfl|hc
   ·exact hbe
   ·rintro rfl
    rcases he with z|z
    ·exact nown c b hc z
    ·rw [hc] at z;cases z;exact hb rfl
end
structure Un (fs ex:List Addr)(H H':Hp)(h h':Heap):Prop where
 keep:∀ b o,h.get? b=some o→H b=none→b∉fs→b∉ex→h'.get? b=some o
 slot:∀ b o,h.get? b=some o→H b=none→b∈fs→b∉ex→∃ sl,h'.get? b=some { o with slots:=sl }
 free:∀ b o,h.get? b=some o→H b=none→b∉ex→H' b=none
 there:∀ b o,h.get? b=some o→b∉ex→∃ o',h'.get? b=some o'
 tups:∀ b xs,H b=some (.tup xs)→H' b=some (.tup xs)
 frzs:∀ b o u,H b=some (.frz o u)→H' b=some (.frz o u)
 tbls:∀ b ps,H b=some (.tbl ps)→∃ more,H' b=some (.tbl (ps++more))
section
variable {fs fs' ex ex':List Addr}{H H1 H2:Hp}{h h1 h2 h':Heap}{a x e:Addr}{o:HO}
theorem Un.any (u:Un fs ex H H1 h h1){b:Addr}{ob:Obj}(q:h.get? b=some ob)(n:H b=none)(hx:b∉ex):∃ sl,h1.get? b=some { ob with slots:=sl }:=by
 by_cases hb:b∈fs
 ·exact u.slot b ob q n hb hx
 ·exact ⟨ob.slots,u.keep b ob q n hb hx⟩
theorem Un.kept (k:∀ b u,h.get? b=some u→h'.get? b=some u):Un fs ex H H h h' :=
 ⟨fun b ob q _ _ _=>k b ob q,fun b ob q _ _ _=>⟨ob.slots,k b ob q⟩,fun _ _ _ n _=>n,fun b ob q _=>⟨ob,k b ob q⟩,fun _ _ q=>q,fun _ _ _ q=>q,fun _ ps q=>⟨#[],by rw [q];simp -iota⟩⟩
theorem Un.refl:Un fs ex H H h h:=Un.kept fun _ _ q=>q
theorem Un.laid (k:∀ b u,h.get? b=some u→h'.get? b=some u)(hp:h.objs.size≤a)(hn:H a=none):Un fs ex H (upd H a o) h h' where
 keep:=fun b u q _ _ _=>k b u q
 slot:=fun b u q _ _ _=>⟨u.slots,k b u q⟩
 free:=fun b u q n _=>by rw [zah (Nat.ne_of_lt (Nat.lt_of_lt_of_le (Heap.lt_size q) hp))];exact n
 there:=fun b u q _=>⟨u,k b u q⟩
 tups:=fun b xs q=>by rw [zah (zbc q hn)];exact q
 frzs:=fun b u xs q=>by rw [zah (zbc q hn)];exact q
 tbls:=fun b ps q=>⟨#[],by rw [zah (zbc q hn),q];simp -iota⟩
theorem Un.write (mu:Mut (H x))(he:e=x∨H e=some (.own x))(k:∀ b u,b≠e→h.get? b=some u→h'.get? b=some u)(heo:∃ u,h'.get? e=some u):Un fs ex H (upd H x o) h h':=by
 have hx:∀ b,H b=none→b≠x:=fun b n z=>by subst z;rw [n] at mu;exact mu
 have hb:∀ b,H b=none→b≠e:=fun b n z=>by
  subst z
  rcases he with r|r
  ·exact hx b n r
  ·rw [n] at r;cases r
 have hm:∀ b u,H b=some u→¬ Mut (some u)→b≠x:=fun b u q nm z=>by subst z;rw [q] at mu;exact nm mu
 refine ⟨fun b u q n _ _=>k b u (hb b n) q,fun b u q n _ _=>⟨u.slots,k b u (hb b n) q⟩,fun b u q n _=>by rw [zah (hx b n)];exact n,fun b u q _ => ?_,
  fun b xs q=>by rw [zah (hm b _ q fun z=>z)];exact q,fun b u xs q=>by rw [zah (hm b _ q fun z=>z)];exact q,fun b ps q=>⟨#[],by rw [zah (hm b _ q fun z=>z),q];simp -iota⟩⟩
 by_cases hbe:b=e
 ·subst hbe;exact heo
 ·exact ⟨u,k b u hbe q⟩
end
noncomputable def trk (h:Heap)(H:Hp):List Addr:=(List.range h.objs.size).filter fun a=>(H a).isSome
def hidT (h:Heap)(H:Hp):Heap:=PySem.W.hideAll h (trk h H)
theorem zkq (h:Heap)(H:Hp):(hidT h H).objs.size=h.objs.size:=PySem.W.hideAll_size _ _
theorem zmi {h:Heap}{H:Hp}{b:Addr}{o:Obj}(e:h.get? b=some o)(n:H b=none):(hidT h H).get? b=some o :=
 PySem.W.hideAll_get _ e fun hm=>by
  have q:(H b).isSome=true:=(List.mem_filter.mp hm).2
  rw [n] at q;simp -iota at q
theorem zoi {h:Heap}{H:Hp}{b:Addr}{o:Obj}(e:(hidT h H).get? b=some o):h.get? b=some o∧H b=none:=by
 have e':h.get? b=some o:=PySem.W.of_hideAll (trk h H) e
 refine ⟨e',?_⟩
 cases q:H b with
 | none=>rfl
 | some x =>
  have hm:b∈trk h H:=List.mem_filter.mpr ⟨List.mem_range.mpr (Heap.lt_size e'),by simp -iota [q]⟩
  have z:(hidT h H).get? b=none:=PySem.W.hideAll_none (trk h H) hm
  rw [z] at e;cases e
end L2
namespace L2
open PySem PySem.Spec PyProof.Rows
structure Mod (K:PySem.W.Frag)(mg:Str→Option Value)(base:Heap):Prop where
 kin:K.In base
 glob:base.Ns mainGlobals mg
 blt:∃ mb,base.Ns builtinsNs mb∧∀ x:Str,x ≠ "__name__" → mb x=bootBuiltins x
 nolimit:base.NoLimit
structure Cx where
 prog:Program
 w:World
 K:PySem.W.Frag
 mg:Str→Option Value
 base:Heap
 A:Around
 N:List Str
 s₀:Shared
 H₀:Hp
 env:Env
 outer:List Env
 stack:List Env
 ex:List Addr
 fn:Str→Bool
 calm:Bool
 pn:List (Addr×Obj)
 xe:Value→Shared→Prop
noncomputable def frs (l:List Env):List Addr:=l.filterMap (·.frame)
abbrev Cx.fs (X:Cx):List Addr:=frs X.outer
noncomputable def Vis (sc:Scope)(x:Str):Prop:=sc.names.lookup x=some .local∨sc.names.lookup x=some .cell∨sc.names.lookup x=some .free
noncomputable def Loc (sc:Scope)(x:Str):Prop:=sc.names.lookup x=some .local∨sc.names.lookup x=some .cell
noncomputable def Look (env:Env)(h:Heap)(m:Str→Option Value)(x:Str)(u:Value):Prop :=
 (env.kindOf x=some .local∧m x=some u)∨((env.kindOf x=some .cell∨env.kindOf x=some .free)∧∃ c,env.cells.lookup x=some c∧h.IsCell c (some u))
structure Cx.Ok (X:Cx):Prop where
 mod:Mod X.K X.mg X.base
 kind:X.env.scope.kind=.function
 glob:X.env.globals=mainGlobals
 blt:X.env.builtins=builtinsNs
 above:X.s₀.heap.objs.size≤X.env.locals
 inj:∀ x y c,X.env.cells.lookup x=some c→X.env.cells.lookup y=some c→x=y
 has:∀ x,(X.env.kindOf x=some .cell∨X.env.kindOf x=some .free)→∃ c,X.env.cells.lookup x=some c
 cab:∀ x c,X.fn x=true→X.env.cells.lookup x=some c→X.s₀.heap.objs.size≤c
 hd:X.calm=true→X.A.handled=none
 frames:X.A.frames=some X.stack
 stk:X.stack=X.outer∨(X.stack=X.env::X.outer∧X.env.frame=some X.env.locals)
 exf:∀ b∈X.ex,b≠X.env.locals∧∀ x c,X.env.cells.lookup x=some c→c≠b
 bs:∀ b o,X.base.get? b=some o→X.s₀.heap.get? b=some o∧X.H₀ b=none
 bsz:X.base.objs.size≤X.s₀.heap.objs.size
 noex:∀ b o,X.base.get? b=some o→b∉X.ex
 exfs:∀ b∈X.ex,b∉X.fs
 funs:X.s₀.heap.FunFrames X.base X.outer
 frf:∀ b∈X.fs,X.H₀ b=none
structure Inv (X:Cx)(pins:List (Addr×Obj))(σ : List (Option V))(H:Hp)(s:Shared):Prop where
 ok:X.Ok
 os:s.os=X.s₀.os
 bare:AllBare s.gens
 base:Un X.fs X.ex X.H₀ H X.s₀.heap s.heap
 loc:∃ m,s.heap.Ns X.env.locals m∧∀ (i:Nat) (x:Str) (v:V),X.N[i]? = some x → σ[i]? = some (some v)→Vis X.env.scope x→∃ u,RelV v u∧Look X.env s.heap m x u
 cell:∀ x c,X.env.cells.lookup x=some c→∃ v,s.heap.IsCell c v
 free:H X.env.locals=none
 freeC:∀ x c,X.env.cells.lookup x=some c→H c=none
 pin:∀ p∈X.pn++pins,s.heap.get? p.1=some p.2∧H p.1=none∧p.1≠X.env.locals∧p.1∉X.fs∧∀ v,p.2.data ≠ .cell v
 hok:HOk X.prog X.w H s.heap
 len : σ.length=X.N.length
section
variable {X:Cx}{pins:List (Addr×Obj)}{σ : List (Option V)}{H H':Hp}{s:Shared}{h':Heap}
theorem Cx.Ok.nofr (ok:X.Ok){b:Addr}{o:Obj}(e:X.base.get? b=some o):b∉X.fs:=fun hb=>by
 have:=(ok.funs.mem hb).1
 rw [e] at this;cases this
theorem Inv.bs (I:Inv X pins σ H s):∀ b o,X.base.get? b=some o→s.heap.get? b=some o∧H b=none:=fun b o e =>
 ⟨I.base.keep b o (I.ok.bs b o e).1 (I.ok.bs b o e).2 (I.ok.nofr e) (I.ok.noex b o e),I.base.free b o (I.ok.bs b o e).1 (I.ok.bs b o e).2 (I.ok.noex b o e)⟩
theorem Inv.bk (I:Inv X pins σ H s):∀ b o,X.base.get? b=some o→s.heap.get? b=some o:=fun b o e=>(I.bs b o e).1
theorem Inv.mod (I:Inv X pins σ H s):Mod X.K X.mg X.base:=I.ok.mod
theorem Inv.kIn (I:Inv X pins σ H s):X.K.In s.heap:=I.ok.mod.kin.keeps I.bk
theorem Inv.lt (I:Inv X pins σ H s):X.env.locals<s.heap.objs.size:=let ⟨_,hn,_⟩:=I.loc;hn.lt
theorem Inv.sz (I:Inv X pins σ H s):X.s₀.heap.objs.size≤s.heap.objs.size:=Nat.le_trans I.ok.above (Nat.le_of_lt I.lt)
theorem Inv.nofs (I:Inv X pins σ H s){a:Addr}(h:s.heap.objs.size≤a):a∉X.fs:=fun hb=>by
 refine zc0b (I.ok.funs.mem hb) fun _ zz=>zc1b zz fun o ho _ => ?_
 exact absurd (Nat.lt_of_lt_of_le (Heap.lt_size ho) (Nat.le_trans I.sz h)) (Nat.lt_irrefl _)
theorem Inv.cne (I:Inv X pins σ H s):∀ x c,X.env.cells.lookup x=some c→c≠X.env.locals:=fun x c e z=>by
 refine zc2b (I.cell x c e) fun v o ho hd => ?_
 refine zc1b I.loc fun m zr1 _ => ?_
 obtain ⟨o',es,ep,ho',hd',_⟩:=zr1
 rw [z,ho'] at ho;cases ho;rw [hd'] at hd;cases hd
theorem Inv.funs (I:Inv X pins σ H s):s.heap.FunFrames X.base X.outer:=by
 have all:∀ (l:List Env),(∀ b∈frs l,b∈X.fs)→X.s₀.heap.FunFrames X.base l→s.heap.FunFrames X.base l:=by
  intro l
  induction l with
  | nil=>intro _ _;trivial
  | cons env r ih =>
   intro hs hl
   refine zc0c hl fun hk zr1 hr => ?_
   obtain ⟨L,o,hf,hn,ho,hd⟩:=zr1
   have hL:L∈X.fs:=hs L (by unfold frs;rw [List.filterMap_cons,hf];exact List.mem_cons_self)
   obtain ⟨sl,e⟩:=I.base.slot L o ho (I.ok.frf L hL) hL fun z=>I.ok.exfs L z hL
   exact ⟨hk,⟨L,_,hf,hn,e,hd⟩,ih (fun b hb=>hs b (by unfold frs;rw [List.filterMap_cons,hf];exact List.mem_cons_of_mem _ hb)) hr⟩
 exact all X.outer (fun _ hb=>hb) I.ok.funs
theorem Inv.stack (I:Inv X pins σ H s):s.heap.FunFrames X.base X.stack:=by
 rcases I.ok.stk with e|⟨e,hf⟩
 ·rw [e];exact I.funs
 ·rw [e]
  refine zc1b I.loc fun m hn _ => ?_
  refine .cons (by rw [I.ok.kind];decide) hf hn ?_ I.funs
  exact Heap.get?_none_of_le (Nat.le_trans I.ok.bsz I.ok.above)
theorem Inv.stkSub (I:Inv X pins σ H s):∀ b∈frs X.stack,b∈X.env.locals::X.fs:=fun b hb=>by
 rcases I.ok.stk with e|⟨e,hf⟩
 ·rw [e] at hb;exact List.mem_cons_of_mem _ hb
 ·rw [e] at hb
  unfold frs at hb
  rw [List.filterMap_cons,hf] at hb
  exact hb
theorem Inv.stkFree (I:Inv X pins σ H s):∀ b∈frs X.stack,H b=none:=fun b hb=>by
 rcases List.mem_cons.mp (I.stkSub b hb) with e|hb
 ·rw [e];exact I.free
 ·refine zc0b (I.ok.funs.mem hb) fun _ zz=>zc1b zz fun o ho _ => ?_
  exact I.base.free b o ho (I.ok.frf b hb) fun z=>I.ok.exfs b z hb
theorem Inv.step {g':Array GenState}{t':Nat}{d':Drawn}{ch:List Addr}(I:Inv X pins σ H s)
 (hch:∀ b∈ch,(b∈X.ex∨X.s₀.heap.objs.size≤b)∧b≠X.env.locals∧(∀ x c,X.env.cells.lookup x=some c→c≠b)∧∀ p∈X.pn++pins,p.1≠b)
 (keep:∀ b o,b≠X.env.locals→b∉X.fs→b∉ch→s.heap.get? b=some o→H b=none→h'.get? b=some o)
 (slot:∀ b o,b≠X.env.locals→b∈X.fs→b∉ch→s.heap.get? b=some o→H b=none→∃ sl,h'.get? b=some { o with slots:=sl }) (free:∀ b o,b∉ch→s.heap.get? b=some o→H b=none→H' b=none)
 (there:∀ b o,b∉ch→s.heap.get? b=some o→∃ o',h'.get? b=some o')
 (tups:∀ b xs,H b=some (.tup xs)→H' b=some (.tup xs)) (frzs:∀ b o u,H b=some (.frz o u)→H' b=some (.frz o u)) (tbls:∀ b ps,H b=some (.tbl ps)→∃ more,H' b=some (.tbl (ps++more)))
 (ns:∀ m,s.heap.Ns X.env.locals m→h'.Ns X.env.locals m) (hok:HOk X.prog X.w H' h') (hg:AllBare g') :
 Inv X pins σ H' { s with heap:=h',gens:=g',drawn:=d',toks:=t' }:=by
 have neL:∀ b o,X.s₀.heap.get? b=some o→b≠X.env.locals:=fun b o e=>Nat.ne_of_lt (Nat.lt_of_lt_of_le (Heap.lt_size e) I.ok.above)
 have neC:∀ b o,X.s₀.heap.get? b=some o→b∉X.ex→b∉ch:=fun b o e hx hb=>by
  rcases (hch b hb).1 with z|z
  ·exact hx z
  ·exact absurd (Nat.lt_of_lt_of_le (Heap.lt_size e) z) (Nat.lt_irrefl _)
 have cellK:∀ x c,X.env.cells.lookup x=some c→∀ v,s.heap.IsCell c v→h'.IsCell c v:=fun x c e v zh=>by
  refine zc1b zh fun o ho hd => ?_
  have nch:c∉ch:=fun z=>(hch c z).2.2.1 x c e rfl
  by_cases hc:c∈X.fs
  ·obtain ⟨sl,q⟩:=slot c o (I.cne x c e) hc nch ho (I.freeC x c e)
   exact ⟨_,q,hd⟩
  ·exact ⟨o,keep c o (I.cne x c e) hc nch ho (I.freeC x c e),hd⟩
 refine ⟨I.ok,I.os,hg,⟨fun b o e n hb hx => ?_,fun b o e n hb hx => ?_,fun b o e n hx => ?_,fun b o e hx => ?_,fun b xs e=>tups b xs (I.base.tups b xs e),fun b o xs e=>frzs b o xs (I.base.frzs b o xs e),fun b ps e => ?_⟩,?_,fun x c e => ?_,?_,fun x c e => ?_,fun p hp => ?_,hok,I.len⟩
 ·exact keep b o (neL b o e) hb (neC b o e hx) (I.base.keep b o e n hb hx) (I.base.free b o e n hx)
 ·obtain ⟨sl,e1⟩:=I.base.slot b o e n hb hx
  obtain ⟨sl',e2⟩:=slot b _ (neL b o e) hb (neC b o e hx) e1 (I.base.free b o e n hx)
  exact ⟨sl',e2⟩
 ·obtain ⟨o',e1⟩:=I.base.there b o e hx
  exact free b o' (neC b o e hx) e1 (I.base.free b o e n hx)
 ·obtain ⟨o',e1⟩:=I.base.there b o e hx
  exact there b o' (neC b o e hx) e1
 ·obtain ⟨m1,e1⟩:=I.base.tbls b ps e
  obtain ⟨m2,e2⟩:=tbls b _ e1
  exact ⟨m1++m2,by rw [e2,Array.append_assoc]⟩
 ·refine zc1b I.loc fun m hn hl => ?_
  refine ⟨m,ns m hn,fun i x v e1 e2 e3 => ?_⟩
  refine zc1b (hl i x v e1 e2 e3) fun u r l => ?_
  refine ⟨u,r,?_⟩
  rcases l with l|⟨k,c,e,z⟩
  ·exact .inl l
  ·exact .inr ⟨k,c,e,cellK x c e _ z⟩
 ·obtain ⟨v,z⟩:=I.cell x c e
  exact ⟨v,cellK x c e v z⟩
 ·refine zc1b I.loc fun m zr1 _ => ?_
  obtain ⟨o,_,_,ho,_⟩:=zr1
  exact free _ o (fun z=>(hch _ z).2.1 rfl) ho I.free
 ·refine zc2b (I.cell x c e) fun v o ho hd => ?_
  exact free c o (fun z=>(hch c z).2.2.1 x c e rfl) ho (I.freeC x c e)
 ·refine zc0e (I.pin p hp) fun e n ne nf d => ?_
  have nch:p.1∉ch:=fun z=>(hch p.1 z).2.2.2 p hp rfl
  exact ⟨keep p.1 p.2 ne nf nch e n,free p.1 p.2 nch e n,ne,nf,d⟩
theorem Inv.un {t':Nat}(I:Inv X pins σ H s)(u:Un X.fs [] H H' s.heap h')(hok:HOk X.prog X.w H' h'):Inv X pins σ H' { s with heap:=h',toks:=t' }:=by
 refine zc1b (id I.loc) fun m zr1 _ => ?_
 obtain ⟨o,es,ep,ho,r⟩:=zr1
 obtain ⟨sl,hL⟩:=u.any ho I.free (by simp -iota)
 exact I.step (g':=s.gens) (d':=s.drawn) (ch:=[]) (fun _ z=>nomatch z) (fun b o _ hb _ e n=>u.keep b o e n hb (by simp -iota)) (fun b o _ hb _ e n=>u.slot b o e n hb (by simp -iota)) (fun b o _ e n=>u.free b o e n (by simp -iota)) (fun b o _ e=>u.there b o e (by simp -iota)) u.tups u.frzs u.tbls (fun m' hm=>by
  refine zc3b hm fun o' es' ep' ho' r' => ?_
  rw [ho] at ho';cases ho'
  exact ⟨_,es',ep',hL,r'⟩) hok I.bare
theorem Inv.call {g':Array GenState}{t':Nat}{d':Drawn}{ch:List Addr}(I:Inv X pins σ H s)(u:Un (frs X.stack) ch H H' s.heap h')(hok:HOk X.prog X.w H' h')(hg:AllBare g')
 (hch:∀ b∈ch,(b∈X.ex∨X.s₀.heap.objs.size≤b)∧b≠X.env.locals∧(∀ x c,X.env.cells.lookup x=some c→c≠b)∧∀ p∈X.pn++pins,p.1≠b) :
 Inv X pins σ H' { s with heap:=h',gens:=g',drawn:=d',toks:=t' }:=by
 refine zc1b (id I.loc) fun m zr1 _ => ?_
 obtain ⟨o,es,ep,ho,r⟩:=zr1
 obtain ⟨sl,hL⟩:=u.any ho I.free fun z=>(hch _ z).2.1 rfl
 exact I.step (ch:=ch) hch (fun b o hL hb hc e n=>u.keep b o e n (fun z=>(List.mem_cons.mp (I.stkSub b z)).elim hL hb) hc) (fun b o _ _ hc e n=>u.any e n hc) (fun b o hc e n=>u.free b o e n hc) (fun b o hc e=>u.there b o e hc) u.tups u.frzs u.tbls (fun m' hm=>by
  refine zc3b hm fun o' es' ep' ho' r' => ?_
  rw [ho] at ho';cases ho'
  exact ⟨_,es',ep',hL,r'⟩) hok hg
theorem Inv.turned {t':Nat}{it:Addr}(I:Inv X pins σ H s)(k:∀ b o,b≠it→s.heap.get? b=some o→h'.get? b=some o)(hn:H it=none)(hL:it≠X.env.locals)
 (h1:it∈X.ex∨X.s₀.heap.objs.size≤it) (h2:∀ x c,X.env.cells.lookup x=some c→c≠it) (h3:∀ p∈X.pn++pins,p.1≠it):Inv X pins σ H { s with heap:=h',toks:=t' }:=by
 have nit:∀ b u,H b=some u→b≠it:=fun b u e z=>by rw [z,hn] at e;cases e
 refine I.step (g':=s.gens) (d':=s.drawn) (ch:=[it]) (fun b hb => ?_) (fun b o _ _ hc e _=>k b o (fun z=>hc (by simp -iota [z])) e) (fun b o _ _ hc e _=>⟨o.slots,k b o (fun z=>hc (by simp -iota [z])) e⟩) (fun _ _ _ _ n=>n)
  (fun b o hc e=>⟨o,k b o (fun z=>hc (by simp -iota [z])) e⟩) (fun _ _ e=>e) (fun _ _ _ e=>e) (fun b ps e=>⟨#[],by rw [e];simp -iota⟩) (fun m hm => ?_) (fun b u e => ?_) I.bare
 ·have e:b=it:=by simpa -iota using hb
  subst e
  exact ⟨h1,hL,h2,h3⟩
 ·refine zc3b hm fun o es ep ho r => ?_
  exact ⟨o,es,ep,k _ o (Ne.symm hL) ho,r⟩
 ·refine (I.hok b u e).stay (fun c v hc q=>k c v ?_ q) (fun _ q=>q) fun _ _ q=>q
  rcases hc with z|z
  ·rw [z];exact nit b u e
  ·exact nit c _ z
theorem Inv.tok (I:Inv X pins σ H s)(t:Nat):Inv X pins σ H { s with toks:=t }:=I.un (h':=s.heap) (t':=t) Un.refl I.hok
theorem Inv.kept {t':Nat}(I:Inv X pins σ H s)(k:∀ b u,s.heap.get? b=some u→h'.get? b=some u):Inv X pins σ H { s with heap:=h',toks:=t' }:=I.un (Un.kept k) (I.hok.kept k)
theorem Inv.laid {a:Addr}{o:HO}{t':Nat}(I:Inv X pins σ H s)(k:∀ b u,s.heap.get? b=some u→h'.get? b=some u)(hp:s.heap.objs.size≤a)(new:zaL X.prog X.w (upd H a o) h' a o) :
 Inv X pins σ (upd H a o) { s with heap:=h',toks:=t' }:=I.un (Un.laid k hp (I.hok.fresh hp)) (I.hok.laid k hp new)
theorem Inv.write {x e:Addr}{o:HO}{t':Nat}(I:Inv X pins σ H s)(mu:Mut (H x))(he:e=x∨H e=some (.own x))(k:∀ b u,b≠e→s.heap.get? b=some u→h'.get? b=some u)(heo:∃ u,h'.get? e=some u)
 (new:zaL X.prog X.w (upd H x o) h' x o):Inv X pins σ (upd H x o) { s with heap:=h',toks:=t' }:=I.un (Un.write mu he k heo) (I.hok.write mu he k heo new)
theorem Inv.pins_of {pins':List (Addr×Obj)}(I:Inv X pins σ H s)(h:∀ p∈pins',s.heap.get? p.1=some p.2∧H p.1=none∧p.1≠X.env.locals∧p.1∉X.fs∧∀ v,p.2.data ≠ .cell v):Inv X pins' σ H s :=
 ⟨I.ok,I.os,I.bare,I.base,I.loc,I.cell,I.free,I.freeC,fun p hp=>(List.mem_append.mp hp).elim (fun z=>I.pin p (List.mem_append_left _ z)) (h p),I.hok,I.len⟩
theorem zhE {N:List Str}(hN:N.Nodup){i j:Nat}{x:Str}(a:N[i]? = some x)(b:N[j]? = some x):i=j:=by
 obtain ⟨h1,e1⟩:=List.getElem?_eq_some_iff.mp a
 obtain ⟨h2,e2⟩:=List.getElem?_eq_some_iff.mp b
 exact (List.getElem_inj hN).mp (e1.trans e2.symm)
theorem zla {M:Model}{A:Around}{E:Value→Shared→Prop}{i:Nat}{x:Str}{v:V}{u:Value}{Q:Unit→Shared→Prop}(I:Inv X pins σ H s)(hN:X.N.Nodup)(hi:X.N[i]? = some x)(hx:Loc X.env.scope x)(r:RelV v u)
 (h:∀ s',Inv X pins (σ.set i (some v)) H s'→(∃ a,Heap.SameBut a s.heap s'.heap∧(a=X.env.locals∨X.env.cells.lookup x=some a))→Q () s') (hf:X.fn x=true∨X.env.scope.names.lookup x=some .local:=by first|exact .inl rfl|exact .inr rfl|assumption):wpAny M A (storeName X.env x u) Q E s:=by
 refine zc1b (id I.loc) fun m hn hl => ?_
 have hcls:(X.env.scope.kind == .class||(X.env.scope.kind == .module&&X.env.locals != X.env.globals))=false:=by rw [I.ok.kind];rfl
 have hiσ : i < σ.length:=by rw [I.len];exact (List.getElem?_eq_some_iff.mp hi).1
 have cne:=I.cne
 have tracked:∀ {a:Addr} {h':Heap},(∃ o,s.heap.get? a=some o∧H a=none)→Heap.SameBut a s.heap h'→HOk X.prog X.w H h':=fun {a h'} ha hs b ob e=>by
  refine zc1b ha fun _ _ hfree => ?_
  refine (I.hok b ob e).stay (fun c w' hc q=>(hs.2 c ?_).trans q) (fun _ q=>q) fun _ _ q=>q
  rintro rfl
  rcases hc with rfl|hc
  ·rw [hfree] at e;cases e
  ·rw [hfree] at hc;cases hc
 rcases hx with hk|hk
 ·refine wpAny_storeName_local hk hn (fun h' hn' hs => ?_) hcls
  refine zc3b (id hn) fun oL _ _ hoL _ => ?_
  refine h _ ⟨I.ok,I.os,I.bare,⟨fun b o e n hb hx => ?_,fun b o e n hb hx => ?_,I.base.free,fun b o e hx => ?_,I.base.tups,I.base.frzs,I.base.tbls⟩,⟨_,hn',fun j y v' e1 e2 e3 => ?_⟩,fun y c e => ?_,I.free,I.freeC,fun p hp => ?_,tracked ⟨oL,hoL,I.free⟩ hs,by simpa -iota using I.len⟩ ⟨_,hs,.inl rfl⟩
  ·exact (hs.2 b (Nat.ne_of_lt (Nat.lt_of_lt_of_le (Heap.lt_size e) I.ok.above))).trans (I.base.keep b o e n hb hx)
  ·obtain ⟨sl,e1⟩:=I.base.slot b o e n hb hx
   exact ⟨sl,(hs.2 b (Nat.ne_of_lt (Nat.lt_of_lt_of_le (Heap.lt_size e) I.ok.above))).trans e1⟩
  ·obtain ⟨o',e1⟩:=I.base.there b o e hx
   exact ⟨o',(hs.2 b (Nat.ne_of_lt (Nat.lt_of_lt_of_le (Heap.lt_size e) I.ok.above))).trans e1⟩
  ·by_cases hj:j=i
   ·subst hj
    rw [hi] at e1;cases e1
    rw [List.getElem?_set_self hiσ] at e2
    cases e2
    exact ⟨u,r,.inl ⟨hk,by simp -iota⟩⟩
   ·rw [List.getElem?_set_ne (Ne.symm hj)] at e2
    refine zc1b (hl j y v' e1 e2 e3) fun u' r' q => ?_
    refine ⟨u',r',?_⟩
    rcases q with ⟨k,e⟩|⟨k,c,e,z⟩
    ·refine .inl ⟨k,?_⟩
     have:y≠x:=fun e=>hj (zhE hN e1 (e ▸ hi))
     simp -iota [this,e]
    ·exact .inr ⟨k,c,e,z.sameBut hs (cne y c e)⟩
  ·obtain ⟨w',z⟩:=I.cell y c e
   exact ⟨w',z.sameBut hs (cne y c e)⟩
  ·refine zc0e (I.pin p hp) fun e n ne nf d => ?_
   exact ⟨(hs.2 p.1 ne).trans e,n,ne,nf,d⟩
 ·have hfn:X.fn x=true:=by
   rcases hf with z|z
   ·exact z
   ·rw [z] at hk;cases hk
  obtain ⟨c,hc⟩:=I.ok.has x (.inl hk)
  obtain ⟨w',z⟩:=I.cell x c hc
  refine wpAny_storeName_cell I.ok.kind hk hc z (fun h' hc' hs => ?_)
  refine zc1b (id z) fun oc hoc hocd => ?_
  refine h { s with heap:=h' } ⟨I.ok,I.os,I.bare,⟨fun b o e n hb hx => ?_,fun b o e n hb hx => ?_,I.base.free,fun b o e hx => ?_,I.base.tups,I.base.frzs,I.base.tbls⟩,⟨m,hn.sameBut hs (Ne.symm (cne x c hc)),fun j y v' e1 e2 e3 => ?_⟩,fun y c' e => ?_,I.free,I.freeC,fun p hp => ?_,tracked ⟨oc,hoc,I.freeC x c hc⟩ hs,by simpa -iota using I.len⟩ ⟨c,hs,.inr hc⟩
  ·exact (hs.2 b (Nat.ne_of_lt (Nat.lt_of_lt_of_le (Heap.lt_size e) (I.ok.cab x c hfn hc)))).trans (I.base.keep b o e n hb hx)
  ·obtain ⟨sl,e1⟩:=I.base.slot b o e n hb hx
   exact ⟨sl,(hs.2 b (Nat.ne_of_lt (Nat.lt_of_lt_of_le (Heap.lt_size e) (I.ok.cab x c hfn hc)))).trans e1⟩
  ·obtain ⟨o',e1⟩:=I.base.there b o e hx
   exact ⟨o',(hs.2 b (Nat.ne_of_lt (Nat.lt_of_lt_of_le (Heap.lt_size e) (I.ok.cab x c hfn hc)))).trans e1⟩
  ·by_cases hj:j=i
   ·subst hj
    rw [hi] at e1;cases e1
    rw [List.getElem?_set_self hiσ] at e2
    cases e2
    exact ⟨u,r,.inr ⟨.inl hk,c,hc,hc'⟩⟩
   ·rw [List.getElem?_set_ne (Ne.symm hj)] at e2
    refine zc1b (hl j y v' e1 e2 e3) fun u' r' q => ?_
    refine ⟨u',r',?_⟩
    rcases q with q|⟨k,c',e,z'⟩
    ·exact .inl q
    ·refine .inr ⟨k,c',e,z'.sameBut hs ?_⟩
     rintro rfl
     exact hj (zhE hN e1 (I.ok.inj _ _ _ e hc ▸ hi))
  ·by_cases hcc:c'=c
   ·subst hcc;exact ⟨_,hc'⟩
   ·obtain ⟨w2,z2⟩:=I.cell y c' e
    exact ⟨w2,z2.sameBut hs hcc⟩
  ·refine zc0e (I.pin p hp) fun e n ne nf d => ?_
   refine ⟨(hs.2 p.1 ?_).trans e,n,ne,nf,d⟩
   intro q
   rw [q,hoc] at e
   have q':oc=p.2:=Option.some.inj e
   exact d w' (by rw [← q'];exact hocd)
theorem zeL {M:Model}{A:Around}{E:Value→Shared→Prop}{i:Nat}{x:Str}{v:V}{u:Value}{Q:Unit→Shared→Prop}(I:Inv X pins σ H s)(hN:X.N.Nodup)(hi:X.N[i]? = some x)(hx:Loc X.env.scope x)(r:RelV v u)
 (h:∀ s',Inv X pins (σ.set i (some v)) H s'→Q () s') (hf:X.fn x=true∨X.env.scope.names.lookup x=some .local:=by first|exact .inl rfl|exact .inr rfl|assumption):wpAny M A (storeName X.env x u) Q E s :=
 zla I hN hi hx r (fun s' I' _=>h s' I') hf
theorem Inv.call' {s':Shared}{ch:List Addr}(I:Inv X pins σ H s)(ho:s'.os=s.os)(u:Un (frs X.stack) ch H H' s.heap s'.heap)(hok:HOk X.prog X.w H' s'.heap)(hg:AllBare s'.gens)
 (hch:∀ b∈ch,(b∈X.ex∨X.s₀.heap.objs.size≤b)∧b≠X.env.locals∧(∀ x c,X.env.cells.lookup x=some c→c≠b)∧∀ p∈X.pn++pins,p.1≠b):Inv X pins σ H' s':=by
 obtain ⟨h',g',d',t',o'⟩:=s'
 have e:o'=s.os:=ho
 subst e
 exact I.call (g':=g') (t':=t') (d':=d') u hok hg hch
end
abbrev XK:=Value→Option Addr→Hp→Prop
abbrev St:=List (Option V)
abbrev VK:=V→Hp→Prop
abbrev TE:=St→Hp→VK→Prop
abbrev TT:=St→Hp→(Bool→Hp→Prop)→Prop
abbrev TA:=St→Hp→(List V→Hp→Prop)→Prop
structure Ends where
 nx:St→Hp→Prop
 rt:VK
 bk:St→Hp→Prop:=fun _ _=>False
 ct:St→Hp→Prop:=fun _ _=>False
abbrev TS:=Ends→St→Hp→Prop
def EP (X:Cx)(pins:List (Addr×Obj))(σ : St)(Q:VK)(u:Value)(s':Shared):Prop:=∃ v H',Inv X pins σ H' s'∧RelV v u∧Q v H'
noncomputable def TP (X:Cx)(pins:List (Addr×Obj))(σ : St)(Q:Bool→Hp→Prop)(b:Bool)(s':Shared):Prop:=∃ H',Inv X pins σ H' s'∧Q b H'
noncomputable def AP (X:Cx)(pins:List (Addr×Obj))(σ : St)(Q:List V→Hp→Prop)(us:List Value)(s':Shared):Prop:=∃ vs H',Inv X pins σ H' s'∧Vals vs us∧Q vs H'
def SP (X:Cx)(pins:List (Addr×Obj))(D:Ends)(f:Flow)(s':Shared):Prop :=
 match f with
 | .next => ∃ σ' H',Inv X pins σ' H' s'∧D.nx σ' H'
 | .brk => ∃ σ' H',Inv X pins σ' H' s'∧D.bk σ' H'
 | .cont => ∃ σ' H',Inv X pins σ' H' s'∧D.ct σ' H'
 | .ret u => ∃ v σ' H',Inv X pins σ' H' s'∧RelV v u∧D.rt v H'
noncomputable def PE (X:Cx)(e:Expr)(t:TE):Prop :=
 ∀ (pins:List (Addr×Obj)) (s:Shared) (σ : St) (H:Hp) (Q:VK),Inv X pins σ H s→t σ H Q→wpAny (model X.prog X.w) X.A (eval e X.env) (EP X pins σ Q) X.xe s
noncomputable def PT (X:Cx)(e:Expr)(t:TT):Prop :=
 ∀ (pins:List (Addr×Obj)) (s:Shared) (σ : St) (H:Hp) (Q:Bool→Hp→Prop),Inv X pins σ H s→t σ H Q→wpAny (model X.prog X.w) X.A (isTrue e X.env (eval e X.env)) (TP X pins σ Q) X.xe s
noncomputable def PW (X:Cx)(e:Expr)(t:TT):Prop :=
 ∀ (whole:Sem Value) (pins:List (Addr×Obj)) (s:Shared) (σ : St) (H:Hp) (Q:Bool→Hp→Prop),Inv X pins σ H s→t σ H Q→wpAny (model X.prog X.w) X.A (isTrue e X.env whole) (TP X pins σ Q) X.xe s
theorem PW.pt {X:Cx}{e:Expr}{t:TT}(h:PW X e t):PT X e t:=h _
noncomputable def PA (X:Cx)(es:List Expr)(t:TA):Prop :=
 ∀ (pos:Pos) (pins:List (Addr×Obj)) (s:Shared) (σ : St) (H:Hp) (Q:List V→Hp→Prop),Inv X pins σ H s→t σ H Q→wpAny (model X.prog X.w) X.A (spliced (backTo pos (starEach es X.env))) (AP X pins σ Q) X.xe s
noncomputable def PS (X:Cx)(st:Stmt)(t:TS):Prop :=
 ∀ (pins:List (Addr×Obj)) (s:Shared) (σ : St) (H:Hp) (D:Ends),Inv X pins σ H s→t D σ H→wpAny (model X.prog X.w) X.A (exec st X.env) (SP X pins D) X.xe s
noncomputable def PSs (X:Cx)(st:List Stmt)(t:TS):Prop :=
 ∀ (pins:List (Addr×Obj)) (s:Shared) (σ : St) (H:Hp) (D:Ends),Inv X pins σ H s→t D σ H→wpAny (model X.prog X.w) X.A (execs st X.env) (SP X pins D) X.xe s
theorem thn {α : Type}{t:Sem α}{Q Q' : α → Shared→Prop}{M:Model}{A:Around}{E:Value→Shared→Prop}{s:Shared}(h:wpAny M A t Q E s)(hQ:∀ a s,Q a s→Q' a s):wpAny M A t Q' E s:=wpAny_mono h hQ fun _ _ x=>x
end L2
namespace L2
open PySem PySem.Spec PyProof.Rows
section
variable {X:Cx}
noncomputable def tVar (i:Nat):TE:=fun σ H Q => ∃ v,σ[i]? = some (some v)∧Q v H
noncomputable def tC (v:V):TE:=fun _ H Q=>Q v H
theorem zpr {i:Nat}{x:Str}{pos:Pos}(hN:X.N[i]? = some x)(hv:Vis X.env.scope x)(hd:autoParam ((x == ("__debug__" : Str))=false) zav._auto_1)(hcd:autoParam ((x == ("__classdict__" : Str))=false) zav._auto_1):PE X (.Name x pos) (tVar i):=by
 intro pins s σ H Q I h
 refine zc1b h fun v e h => ?_
 refine zc1b I.loc fun m hn hl => ?_
 refine zc1b (hl i x v hN e hv) fun u r l => ?_
 have fin:EP X pins σ Q u s:=⟨v,H,I,r,h⟩
 rcases l with ⟨hk,hm⟩|⟨hk,c,hc,hcell⟩
 ·exact wpAny_Name (wpAny_loadName_local I.ok.kind hk hn hm fin) hd
 ·rcases hk with hk|hk
  ·exact wpAny_Name (wpAny_loadName_cell I.ok.kind hk hc hcell fin) hd
  ·exact wpAny_Name (wpAny_loadName_free I.ok.kind hk hc hcell fin hcd) hd
theorem zqh {i j pos}:PE X (.Constant (.int i) j pos) (tC (.int i)):=fun _ _ _ H _ I h=>wpAny_Constant_int ⟨.int i,H,I.tok _,⟨_,rfl⟩,h⟩
theorem pe_bl {b j pos}:PE X (.Constant (.bool b) j pos) (tC (.bl b)):=fun _ _ _ H _ I h=>Constant_bool ⟨.bl b,H,I,rfl,h⟩
theorem zpX {j pos}:PE X (.Constant .none j pos) (tC .non):=fun _ _ _ H _ I h=>Constant_none ⟨.non,H,I,rfl,h⟩
noncomputable def Gl (X:Cx)(x:Str):Prop:=X.env.kindOf x=some .globalImplicit
theorem zop {E:Value→Shared→Prop}{pins:List (Addr×Obj)}{s:Shared}{σ : St}{H:Hp}{x:Str}{u:Value}{pos:Pos}{Q:Value→Shared→Prop}(I:Inv X pins σ H s)(hg:Gl X x)(hm:X.mg x=some u)(h:Q u s)
 (hd:autoParam ((x == ("__debug__" : Str))=false) zav._auto_1):wpAny (model X.prog X.w) X.A (eval (.Name x pos) X.env) Q E s :=
 Calls.Name_function_global I.ok.kind hg (Calls.loadGlobal_global (by rw [I.ok.glob];exact I.mod.glob.keeps I.bk) hm h) hd
theorem zeB {E:Value→Shared→Prop}{pins:List (Addr×Obj)}{s:Shared}{σ : St}{H:Hp}{x:Str}{u:Value}{pos:Pos}{Q:Value→Shared→Prop}(I:Inv X pins σ H s)(hg:Gl X x)(hm:X.mg x=none)(hv:bootBuiltins x=some u)(h:Q u s)
 (hn:autoParam (x ≠ "__name__") zav._auto_1) (hd:autoParam ((x == ("__debug__" : Str))=false) zav._auto_1):wpAny (model X.prog X.w) X.A (eval (.Name x pos) X.env) Q E s:=by
 refine zc1b I.mod.blt fun mb h1 h2 => ?_
 exact Calls.Name_function_global I.ok.kind hg (Calls.loadGlobal_builtin (by rw [I.ok.glob];exact I.mod.glob.keeps I.bk) hm (by rw [I.ok.blt];exact h1.keeps I.bk) ((h2 x hn).trans hv) h) hd
theorem zoo {x:Str}{v:V}{u:Value}{pos:Pos}(hg:Gl X x)(hm:X.mg x=none)(hv:bootBuiltins x=some u)(r:RelV v u)(hn:autoParam (x ≠ "__name__") zav._auto_1)(hd:autoParam ((x == ("__debug__" : Str))=false) zav._auto_1):PE X (.Name x pos) (tC v) :=
 fun _ _ _ H _ I h=>zeB I hg hm hv ⟨v,H,I,r,h⟩ hn hd
variable {a b:Expr}{ta tb:TE}{pos:Pos}
noncomputable def PC (X:Cx)(op:CmpOp)(a b:Expr)(t:TE):Prop :=
 ∀ (pins:List (Addr×Obj)) (s:Shared) (σ : St) (H:Hp) (Q:VK),Inv X pins σ H s→t σ H Q →
  wpAny (model X.prog X.w) X.A (eval a X.env) (fun v s₁=>wpAny (model X.prog X.w) X.A (eval b X.env) (fun u s₂=>wpAny (model X.prog X.w) X.A (compareOp op v u) (EP X pins σ Q) X.xe s₂) X.xe s₁) X.xe s
theorem zhW (b:Expr){op:CmpOp}(h:op ≠ .In)(h2:op ≠ .NotIn):behindInMarks op b=false:=by
 have e1:(op == CmpOp.In)=false:=by cases op<;>first|rfl|exact absurd rfl h
 have e2:(op == CmpOp.NotIn)=false:=by cases op<;>first|rfl|exact absurd rfl h2
 cases b<;>first|rfl|(show (_&&(_||_)&&_)=false;rw [e1,e2,Bool.or_self,Bool.and_false,Bool.false_and])
noncomputable def tIsN (ta:TE):TE:=fun σ H Q=>ta σ H fun x H1=>Q (.bl (decide (x=.non))) H1
noncomputable def zpY (ta:TE):TE:=fun σ H Q=>ta σ H fun x H1=>Q (.bl (!decide (x=.non))) H1
theorem RelV.none_iff {x:V}{v:Value}(r:RelV x v):(v == Value.none)=decide (x=.non):=by
 cases x with
 | non=>cases r;rfl
 | bl _=>cases r;rfl
 | int _=>obtain ⟨t,rfl⟩:=r;rfl
 | str _=>obtain ⟨t,rfl⟩:=r;rfl
 | byt _=>obtain ⟨t,rfl⟩:=r;rfl
 | flt _=>obtain ⟨t,rfl⟩:=r;rfl
 | ref _=>cases r;rfl
 | ty _=>cases r;rfl
theorem zmV {j pos'}(ha:PE X a ta):PC X .Is a (.Constant .none j pos') (tIsN ta):=by
 intro pins s σ H Q I h
 refine thn (ha pins s σ H _ I h) fun v s1 zh => ?_
 refine zc2c zh fun x H1 I1 r1 q1 => ?_
 exact Constant_none (is_none_gen ⟨.bl _,H1,I1,by rw [r1.none_iff];rfl,q1⟩)
theorem znm {j pos'}(ha:PE X a ta):PC X .IsNot a (.Constant .none j pos') (zpY ta):=by
 intro pins s σ H Q I h
 refine thn (ha pins s σ H _ I h) fun v s1 zh => ?_
 obtain ⟨x,H1,I1,r1,q1⟩:=zh
 exact Constant_none (isnot_none_gen ⟨.bl _,H1,I1,by rw [r1.none_iff];rfl,q1⟩)
noncomputable def tB (t:TE):TT:=fun σ H Q=>t σ H fun x H1 => ∃ c,x=.bl c∧Q c H1
theorem zmT {op:CmpOp}{t:TE}(h:PC X op a b t)(h1:behindInMarks op b=false:=by first|exact zhW _ (by decide) (by decide)|rfl):PE X (.Compare a [op] [b] pos) t:=fun pins s σ H Q I hw=>wpAny_Compare1 (h pins s σ H Q I hw) h1
theorem zhP {op:CmpOp}{t:TE}(h:PC X op a b t)(h1:behindInMarks op b=false:=by first|exact zhW _ (by decide) (by decide)|rfl):PT X (.Compare a [op] [b] pos) (tB t):=by
 intro pins s σ H Q I hw
 refine wpAny_isTrue_Compare1 (thn (h pins s σ H _ I hw) fun v s1 h1=>thn h1 fun u s2 h2=>thn h2 fun c s3 ⟨x,H1,I1,r1,q1⟩ => ?_) h1
 refine zc1b q1 fun d zr1 q => ?_
 obtain rfl:=zr1
 cases r1
 exact wpAny_truthy_bool ⟨H1,I1,q⟩
theorem zoN {e:Expr}{t:TE}(h:PE X e t)(he:autoParam (∀ whole,isTrue e X.env whole=(do let v ← whole;standAt e.pos;holding [v] (truthy v))) zaw._auto_1):PT X e (tB t):=by
 intro pins s σ H Q I hw
 refine isTrue_plain (thn (h pins s σ H _ I hw) fun v s1 ⟨x,H1,I1,r1,q1⟩ => ?_) (he _)
 refine zc1b q1 fun d zr1 q => ?_
 obtain rfl:=zr1
 cases r1
 exact wpAny_truthy_bool ⟨H1,I1,q⟩
variable {tA tB':TT}{rest:List Expr}
noncomputable def tAnd (t u:TT):TT:=fun σ H Q=>t σ H fun c H1=>if c=true then u σ H1 Q else Q false H1
noncomputable def tOr (t u:TT):TT:=fun σ H Q=>t σ H fun c H1=>if c=true then Q true H1 else u σ H1 Q
noncomputable def tNot (t:TT):TT:=fun σ H Q=>t σ H fun c H1=>Q (!c) H1
theorem zny (ha:PT X a tA):PW X (.BoolOp .And [a] pos) tA:=by
 intro wh pins s σ H Q I h
 refine isTrue_and (thn (ha pins s σ H Q I h) fun c s1 e => ?_)
 cases c with
 | true=>exact isTrue_and_nil e
 | false=>exact e
theorem zoX (ha:PT X a tA):PW X (.BoolOp .Or [a] pos) tA:=by
 intro wh pins s σ H Q I h
 refine isTrue_or (thn (ha pins s σ H Q I h) fun c s1 e => ?_)
 cases c with
 | false=>exact isTrue_or_nil e
 | true=>exact e
theorem zpC (ha:PT X a tA)(hb:PW X (.BoolOp .And (b::rest) pos) tB'):PW X (.BoolOp .And (a::b::rest) pos) (tAnd tA tB'):=by
 intro wh pins s σ H Q I h
 refine isTrue_and (thn (ha pins s σ H _ I h) fun c s1 zh => ?_)
 refine zc1b zh fun H1 I1 q1 => ?_
 cases c with
 | true=>exact hb wh pins s1 σ H1 Q I1 q1
 | false=>exact ⟨H1,I1,q1⟩
theorem pw_or (ha:PT X a tA)(hb:PW X (.BoolOp .Or (b::rest) pos) tB'):PW X (.BoolOp .Or (a::b::rest) pos) (tOr tA tB'):=by
 intro wh pins s σ H Q I h
 refine isTrue_or (thn (ha pins s σ H _ I h) fun c s1 zh => ?_)
 refine zc1b zh fun H1 I1 q1 => ?_
 cases c with
 | true=>exact ⟨H1,I1,q1⟩
 | false=>exact hb wh pins s1 σ H1 Q I1 q1
theorem zpc (ha:PT X a tA):PT X (.UnaryOp .Not a pos) (tNot tA):=by
 intro pins s σ H Q I h
 exact isTrue_not (ha pins s σ H (fun c H1=>Q (!c) H1) I h)
noncomputable def tAndV (ta tb:TE):TE:=fun σ H Q=>ta σ H fun x H1 => ∃ c,x=.bl c∧if c=true then tb σ H1 Q else Q (.bl false) H1
noncomputable def tNotV (ta:TE):TE:=fun σ H Q=>ta σ H fun x H1 => ∃ c,x=.bl c∧Q (.bl (!c)) H1
theorem zoU {op}{t:TE}(h:PE X a t):PE X (.BoolOp op [a] pos) t:=fun pins s σ H Q I hw=>BoolOp_one (h pins s σ H Q I hw)
theorem zpn (ha:PE X a ta)(hb:PE X (.BoolOp .And (b::rest) pos) tb):PE X (.BoolOp .And (a::b::rest) pos) (tAndV ta tb):=by
 intro pins s σ H Q I h
 refine BoolOp_and (thn (ha pins s σ H _ I h) fun v s1 zh => ?_)
 obtain ⟨x,H1,I1,r1,q1⟩:=zh
 obtain ⟨c,rfl,q1⟩:=q1
 cases r1
 refine wpAny_truthy_bool ?_
 cases c with
 | true=>exact hb pins s1 σ H1 Q I1 q1
 | false=>exact ⟨.bl false,H1,I1,rfl,q1⟩
theorem zps (ha:PE X a ta):PE X (.UnaryOp .Not a pos) (tNotV ta):=by
 intro pins s σ H Q I h
 refine UnaryOp_ (thn (ha pins s σ H _ I h) fun v s1 zh => ?_)
 obtain ⟨x,H1,I1,r1,q1⟩:=zh
 obtain ⟨c,rfl,q1⟩:=q1
 cases r1
 exact not_of (wpAny_truthy_bool ⟨.bl (!c),H1,I1,rfl,q1⟩)
end
end L2
namespace L2
open PySem PySem.Spec PyProof.Rows
noncomputable def SqL (K:PySem.W.Frag)(H:Hp)(a:Addr)(xs:List V):Prop :=
 Rd H a (.lst xs) ∨
  ∃ (o:Obj) (its:Array Value) (n:Nat),K.lookup a=some o∧o.cls=.type "list" ∧ o.dict=none∧o.data=.seq its n∧its.size≤sizeLine∧Vals xs its.toList
noncomputable def SqT (K:PySem.W.Frag)(H:Hp)(a:Addr)(xs:List V):Prop :=
 Rd H a (.tup xs) ∨
  ∃ (o:Obj) (its:Array Value) (n:Nat),K.lookup a=some o∧o.cls=.type "tuple" ∧ o.data=.seq its n∧its.size≤sizeLine∧Vals xs its.toList
noncomputable def absV:Value→Option V
 | .none=>some .non
 | .bool b=>some (.bl b)
 | .int i _=>some (.int i)
 | .str x _=>some (.str x)
 | .bytes b _=>some (.byt b)
 | .float b _=>some (.flt b)
 | .ref a=>some (.ref a)
 | .type n=>some (.ty n)
 | _=>none
theorem RelV.abs {x:V}{u:Value}(r:RelV x u):absV u=some x:=by
 cases x with
 | non=>cases r;rfl
 | bl _=>cases r;rfl
 | int _=>obtain ⟨t,rfl⟩:=r;rfl
 | str _=>obtain ⟨t,rfl⟩:=r;rfl
 | byt _=>obtain ⟨t,rfl⟩:=r;rfl
 | flt _=>obtain ⟨t,rfl⟩:=r;rfl
 | ref _=>cases r;rfl
 | ty _=>cases r;rfl
theorem RelV.inj {x y:V}{u:Value}(r:RelV x u)(q:RelV y u):x=y:=Option.some.inj (r.abs.symm.trans q.abs)
theorem Vals.inj:∀ {xs ys:List V} {us:List Value},Vals xs us→Vals ys us→xs=ys:=fun {xs ys us} g h=>by
 induction g generalizing ys with
 | nil=>cases h;rfl
 | cons r _ ih =>
  cases h with
  | cons r' t'=>rw [r.inj r',ih t']
section
variable {X:Cx}{pins:List (Addr×Obj)}{σ : St}{H:Hp}{s:Shared}{a:Addr}{xs ys:List V}
theorem SqL.of {K:PySem.W.Frag}(h:H a=some (.lst xs)):SqL K H a xs:=.inl (.inl h)
theorem SqT.of {K:PySem.W.Frag}(h:H a=some (.tup xs)):SqT K H a xs:=.inl (.inl h)
theorem Inv.list (I:Inv X pins σ H s)(h:SqL X.K H a xs):∃ its:List Value,Vals xs its∧PlainL s.heap a its.toArray∧xs.length≤sizeLine:=by
 rcases h with h|⟨o,its,n,hk,hc,hd,hs,hz,r⟩
 ·refine zc0b (h.ok I.hok) fun z zz=>zc2b zz fun its n r e => ?_
  exact ⟨its,r,⟨_,n,e,rfl,rfl,rfl⟩,z⟩
 ·refine ⟨its.toList,r,⟨o,n,I.kIn a o hk,hc,hd,by simpa -iota using hs⟩,?_⟩
  have e:=r.length
  simp -iota only [Array.length_toList] at e
  omega
theorem Inv.tuple (I:Inv X pins σ H s)(h:SqT X.K H a xs):∃ its:List Value,Vals xs its∧IsTup s.heap a its.toArray∧xs.length≤sizeLine:=by
 rcases h with h|⟨o,its,n,hk,hc,hs,hz,r⟩
 ·obtain ⟨z,its,r,p⟩:=h.ok I.hok
  exact ⟨its,r,p,z.1⟩
 ·refine ⟨its.toList,r,⟨o,I.kIn a o hk,hc,n,by simpa -iota using hs⟩,?_⟩
  have e:=r.length
  simp -iota only [Array.length_toList] at e
  omega
theorem Inv.list_inj (I:Inv X pins σ H s)(h:SqL X.K H a xs)(h':SqL X.K H a ys):xs=ys:=by
 refine zc1c (I.list h) fun its r zr2 _ => ?_
 obtain ⟨o,n,e,_,_,d⟩:=zr2
 refine zc1c (I.list h') fun its' r' zr2 _ => ?_
 obtain ⟨o',n',e',_,_,d'⟩:=zr2
 rw [e] at e';cases e'
 rw [d] at d'
 injection d' with d1 _
 have:its=its':=by simpa -iota using congrArg Array.toList d1
 subst this
 exact r.inj r'
theorem Inv.tuple_inj (I:Inv X pins σ H s)(h:SqT X.K H a xs)(h':SqT X.K H a ys):xs=ys:=by
 refine zc1c (I.tuple h) fun its r zr2 _ => ?_
 obtain ⟨o,e,_,n,d⟩:=zr2
 refine zc1c (I.tuple h') fun its' r' zr2 _ => ?_
 obtain ⟨o',e',_,n',d'⟩:=zr2
 rw [e] at e';cases e'
 rw [d] at d'
 injection d' with d1 _
 have:its=its':=by simpa -iota using congrArg Array.toList d1
 subst this
 exact r.inj r'
end
abbrev Cx.wish (X:Cx)(E:Value→Shared→Prop):Cx:={ X with xe:=E }
abbrev Cx.nox (X:Cx):Cx:=X.wish fun _ _=>False
theorem Cx.Ok.wish {X:Cx}(ok:X.Ok)(E:Value→Shared→Prop):(X.wish E).Ok :=
 ⟨ok.mod,ok.kind,ok.glob,ok.blt,ok.above,ok.inj,ok.has,ok.cab,ok.hd,ok.frames,ok.stk,ok.exf,ok.bs,ok.bsz,ok.noex,ok.exfs,ok.funs,ok.frf⟩
theorem Cx.Ok.unwish {X:Cx}{E:Value→Shared→Prop}(ok:(X.wish E).Ok):X.Ok :=
 ⟨ok.mod,ok.kind,ok.glob,ok.blt,ok.above,ok.inj,ok.has,ok.cab,ok.hd,ok.frames,ok.stk,ok.exf,ok.bs,ok.bsz,ok.noex,ok.exfs,ok.funs,ok.frf⟩
section
variable {X:Cx}{pins:List (Addr×Obj)}{σ : St}{H:Hp}{s:Shared}{E:Value→Shared→Prop}
theorem Inv.wish (I:Inv X pins σ H s)(E:Value→Shared→Prop):Inv (X.wish E) pins σ H s:=⟨I.ok.wish E,I.os,I.bare,I.base,I.loc,I.cell,I.free,I.freeC,I.pin,I.hok,I.len⟩
theorem Inv.unwish (I:Inv (X.wish E) pins σ H s):Inv X pins σ H s:=⟨I.ok.unwish,I.os,I.bare,I.base,I.loc,I.cell,I.free,I.freeC,I.pin,I.hok,I.len⟩
theorem SP.unwish {D:Ends}{f:Flow}{s':Shared}(h:SP (X.wish E) pins D f s'):SP X pins D f s':=by
 cases f with
 | next=>obtain ⟨σ',H',I,q⟩:=h;exact ⟨σ',H',I.unwish,q⟩
 | brk=>obtain ⟨σ',H',I,q⟩:=h;exact ⟨σ',H',I.unwish,q⟩
 | cont=>obtain ⟨σ',H',I,q⟩:=h;exact ⟨σ',H',I.unwish,q⟩
 | ret u=>obtain ⟨v,σ',H',I,r,q⟩:=h;exact ⟨v,σ',H',I.unwish,r,q⟩
theorem PSs.nox {st:List Stmt}{t:TS}(h:PSs X.nox st t):PSs X st t:=fun pins s σ H D I hw =>
 wpAny_mono (h pins s σ H D (I.wish _) hw) (fun _ _ q=>q.unwish) fun _ _ z=>False.elim z
end
section
variable {X:Cx}{st:Stmt}{rest:List Stmt}{t u:TS}{e:Expr}{te:TE}{pos:Pos}
noncomputable def tNext:TS:=fun D σ H=>D.nx σ H
noncomputable def tSeq (t u:TS):TS:=fun D σ H=>t { D with nx:=u D } σ H
theorem zkG:PSs X [] tNext:=fun _ _ σ H _ I h=>wpAny_execs_nil ⟨σ,H,I,h⟩
theorem zbY (h1:PS X st t)(h2:PSs X rest u):PSs X (st::rest) (tSeq t u):=by
 intro pins s σ H D I h
 refine wpAny_execs_cons (thn (h1 pins s σ H { D with nx:=u D } I h) fun f s1 q => ?_)
 cases f with
 | next =>
  refine zc2b q fun σ' H' I' q => ?_
  exact h2 pins s1 σ' H' D I' q
 | ret v=>exact q
 | brk=>exact q
 | cont=>exact q
theorem zgO (h1:PS X st t):PSs X [st] t:=by
 intro pins s σ H D I h
 refine wpAny_execs_cons (thn (h1 pins s σ H D I h) fun f s1 q => ?_)
 cases f with
 | next=>exact wpAny_execs_nil q
 | ret v=>exact q
 | brk=>exact q
 | cont=>exact q
theorem Inv.quiet {pins:List (Addr×Obj)}{σ : St}{H:Hp}{s:Shared}(I:Inv X pins σ H s):interactive X.env=false:=by simp -iota [interactive,I.ok.kind]
noncomputable def tDrop (te:TE):TS:=fun D σ H=>te σ H fun _ H1=>D.nx σ H1
theorem znJ (he:PE X e te)(hs:autoParam (swapsWith e none pos.line X.env=pure false) zau._auto_1):PS X (.Expr e pos) (tDrop te):=by
 intro pins s σ H D I h
 exact wpAny_Expr_any (thn (he pins s σ H _ I h) (by rintro v s1 ⟨x,H1,I1,r1,q1⟩;exact ⟨σ,H1,I1,q1⟩)) I.quiet hs
noncomputable def tRet (te:TE):TS:=fun D σ H=>te σ H D.rt
theorem zeE (he:PE X e te):PS X (.Return (some e) pos) (tRet te):=by
 intro pins s σ H D I h
 exact wpAny_Return_some (thn (he pins s σ H _ I h) (by rintro v s1 ⟨x,H1,I1,r1,q1⟩;exact ⟨x,σ,H1,I1,r1,q1⟩))
noncomputable def tIfS (c:TT)(t u:TS):TS:=fun D σ H=>c σ H fun b H1=>if b=true then t D σ H1 else u D σ H1
theorem zpx {c:Expr}{a b:List Stmt}{tc:TT}(hc:PT X c tc)(ha:PSs X a t)(hb:PSs X b u):PS X (.If c a b pos) (tIfS tc t u):=by
 intro pins s σ H D I h
 refine wpAny_If (thn (hc pins s σ H _ I h) fun d s1 zh => ?_)
 refine zc1b zh fun H1 I1 q1 => ?_
 cases d with
 | true=>exact ha pins s1 σ H1 D I1 q1
 | false=>exact hb pins s1 σ H1 D I1 q1
end
abbrev TG:=V→St→Hp→(St→Hp→Prop)→Prop
abbrev TGs:=List V→St→Hp→(St→Hp→Prop)→Prop
def PG (X:Cx)(target:Expr)(t:TG):Prop :=
 ∀ (pins:List (Addr×Obj)) (s:Shared) (σ : St) (H:Hp) (v:V) (u:Value) (Q:St→Hp→Prop),Inv X pins σ H s→RelV v u→t v σ H Q →
  wpAny (model X.prog X.w) X.A (assign target X.env u) (fun _ s' => ∃ σ' H',Inv X pins σ' H' s'∧Q σ' H') X.xe s
noncomputable def PGs (X:Cx)(ts:List Expr)(t:TGs):Prop :=
 ∀ (pins:List (Addr×Obj)) (s:Shared) (σ : St) (H:Hp) (vs:List V) (us:List Value) (Q:St→Hp→Prop),Inv X pins σ H s→Vals vs us→t vs σ H Q →
  wpAny (model X.prog X.w) X.A (assignInOrder ((assignEach ts X.env).map (·.2)) us) (fun _ s' => ∃ σ' H',Inv X pins σ' H' s'∧Q σ' H') X.xe s
section
variable {X:Cx}{pos:Pos}
noncomputable def zfP (i:Nat):TG:=fun v σ H Q=>Q (σ.set i (some v)) H
theorem zaR {i:Nat}{x:Str}(hN:X.N.Nodup)(hi:X.N[i]? = some x)(hx:Loc X.env.scope x)(hf:X.fn x=true∨X.env.scope.names.lookup x=some .local:=by first|exact .inl rfl|exact .inr rfl|assumption):PG X (.Name x pos) (zfP i):=by
 intro pins s σ H v u Q I r h
 exact wpAny_assign_Name (zeL I hN hi hx r (fun s' I'=>⟨_,H,I',h⟩) hf)
noncomputable def gNil:TGs:=fun vs σ H Q=>vs=[]∧Q σ H
noncomputable def zpU (t:TG)(u:TGs):TGs:=fun vs σ H Q => ∃ v r,vs=v::r∧t v σ H fun σ' H'=>u r σ' H' Q
theorem zbN:PGs X [] gNil:=by
 intro pins s σ H vs us Q I r h
 obtain ⟨e,h⟩:=h
 subst e
 cases r
 exact assignInOrder_nil ⟨σ,H,I,h⟩
theorem za8 {e:Expr}{es:List Expr}{t:TG}{u:TGs}(h1:PG X e t)(h2:PGs X es u)
 (hs:autoParam ((assignEach (e::es) X.env).map (·.2)=assign e X.env::(assignEach es X.env).map (·.2)) zau._auto_1):PGs X (e::es) (zpU t u):=by
 intro pins s σ H vs us Q I r h
 obtain ⟨v,vr,e1,h⟩:=h
 subst e1
 cases r with
 | cons r rr =>
  rw [hs]
  refine assignInOrder_cons (thn (h1 pins s σ H _ _ _ I r h) fun _ s1 zh => ?_)
  obtain ⟨σ1,H1,I1,q1⟩:=zh
  exact h2 pins s1 σ1 H1 _ _ Q I1 rr q1
def gTup (K:PySem.W.Frag)(n:Nat)(t:TGs):TG:=fun v σ H Q => ∃ a xs,v=.ref a∧SqT K H a xs∧xs.length=n∧t xs σ H Q
theorem zcZ {es:List Expr}{k:Nat}{t:TGs}{n:Nat}(hc:X.calm=true)(h:PGs X es t)
 (hn:autoParam ((assignEach es X.env).length=n) zau._auto_1) (hst:autoParam ((assignEach es X.env).findIdx? (·.1)=none) zau._auto_1):PG X (.Tuple es k pos) (gTup X.K n t):=by
 intro pins s σ H v u Q I r hw
 obtain ⟨a,xs,e1,hq,hl,hw⟩:=hw
 subst e1
 cases r
 obtain ⟨its,rv,ht,hz⟩:=I.tuple hq
 refine assign_Tuple_tuple (I.ok.hd hc) ht (by simp -iota [hn,← hl,rv.length]) hst fun h' hx => ?_
 have I1:Inv X pins σ H { s with heap:=h' }:=I.kept (t':=s.toks) fun b o e=>hx b o (Nat.ne_of_lt (Heap.lt_size e)) e
 exact h pins _ σ H xs _ Q I1 (by simpa -iota using rv) hw
noncomputable def tAsg (te:TE)(g:TG):TS:=fun D σ H=>te σ H fun x H1=>g x σ H1 D.nx
theorem zf1 {i:Nat}{x:Str}{e:Expr}{te:TE}{pos':Pos}(hN:X.N.Nodup)(hi:X.N[i]? = some x)(hx:Loc X.env.scope x)(he:PE X e te)(hs:autoParam (swapsWith e (some (.Name x pos')) pos.line X.env=pure false) zau._auto_1)(hf:X.fn x=true∨X.env.scope.names.lookup x=some .local:=by first|exact .inl rfl|exact .inr rfl|assumption) :
 PS X (.Assign [.Name x pos'] e pos) (tAsg te (zfP i)):=by
 intro pins s σ H D I h
 refine wpAny_Assign_Name (thn (he pins s σ H _ I h) fun v s1 ⟨y,H1,I1,r1,q1⟩ => ?_) hs
 exact zeL I1 hN hi hx r1 (fun s2 I2=>⟨_,H1,I2,q1⟩) hf
end
structure It where
 go:Nat→Hp→Prop
 yld:Nat→Hp→V→Hp→Prop
 stop:Nat→Hp→Prop
noncomputable def FpOk (X:Cx)(pins:List (Addr×Obj))(H:Hp)(b:Addr):Prop :=
 H b=none∧b≠X.env.locals∧b∉X.fs∧(b∈X.ex∨X.s₀.heap.objs.size≤b)∧(∀ x c,X.env.cells.lookup x=some c→c≠b)∧∀ p∈X.pn++pins,p.1≠b
theorem Inv.fpOk {X:Cx}{pins:List (Addr×Obj)}{σ : St}{H H':Hp}{s:Shared}{b:Addr}(I:Inv X pins σ H s)(hb:s.heap.objs.size≤b)(hn:H' b=none):FpOk X pins H' b:=by
 refine ⟨hn,Nat.ne_of_gt (Nat.lt_of_lt_of_le I.lt hb),I.nofs hb,.inr (Nat.le_trans I.sz hb),fun x c e z => ?_,fun p hp z => ?_⟩
 ·obtain ⟨v,q⟩:=I.cell x c e
  exact absurd (Nat.lt_of_lt_of_le q.lt (by rw [z];exact hb)) (Nat.lt_irrefl _)
 ·exact absurd (Nat.lt_of_lt_of_le (Heap.lt_size (I.pin p hp).1) (by rw [z];exact hb)) (Nat.lt_irrefl _)
structure Turn (P:Program)(w:World)(K:PySem.W.Frag)(tg:Expr)(J:It)(fp:List Addr)(it:Addr)(tn:Nat→Heap→Prop):Prop where
 mem:it∈fp
 obj:∀ i h,tn i h→∀ b∈fp,∃ o,h.get? b=some o∧∀ v,o.data ≠ .cell v
 keep:∀ i h h',tn i h→(∀ b∈fp,∀ o,h.get? b=some o→h'.get? b=some o)→tn i h'
 item:∀ (X:Cx),X.prog=P→X.w=w→X.K=K→X.calm=true→∀ (i:Nat) (pins:List (Addr×Obj)) (s:Shared) (σ : St) (H:Hp) (E:Value→Shared→Prop),Inv X pins σ H s→(∀ b∈fp,FpOk X pins H b)→tn i s.heap→J.go i H →
  wpAny (model P w) X.A (pyNext (.ref it)) (fun r s1 => ∃ u,r=some u ∧
   wpAny (model P w) X.A (letOwnedTupleGo tg (.ref it) u) (fun _ s2 => ∃ x H',Inv X pins σ H' s2∧RelV x u∧J.yld i H x H'∧tn (i+1) s2.heap∧∀ b∈fp,H' b=none) E s1) E s
 done:∀ (X:Cx),X.prog=P→X.w=w→X.K=K→X.calm=true→∀ (i:Nat) (pins:List (Addr×Obj)) (s:Shared) (σ : St) (H:Hp) (E:Value→Shared→Prop),Inv X pins σ H s→(∀ b∈fp,FpOk X pins H b)→tn i s.heap→J.stop i H →
  wpAny (model P w) X.A (pyNext (.ref it)) (fun r s1=>r=none∧Inv X pins σ H s1) E s
 self:∀ (A:Around) (i:Nat) (s:Shared) (Q:Value→Shared→Prop) (E:Value→Shared→Prop),tn i s.heap→Q (.ref it) s→wpAny (model P w) A (pyIter (.ref it)) Q E s
abbrev TI:=St→Hp→(It→Hp→Prop)→Prop
def PIE (X:Cx)(pins:List (Addr×Obj))(σ : St)(tg:Expr)(R:It→Hp→Prop)(itv:Value)(s2:Shared):Prop :=
 ∃ (it:Addr) (fp:List Addr) (tn:Nat→Heap→Prop) (J:It) (H':Hp),itv=.ref it∧Inv X pins σ H' s2∧Turn X.prog X.w X.K tg J fp it tn∧tn 0 s2.heap∧(∀ b∈fp,FpOk X pins H' b)∧R J H'
def PI (X:Cx)(tg iter:Expr)(wi:TI):Prop :=
 ∀ (pins:List (Addr×Obj)) (s:Shared) (σ : St) (H:Hp) (R:It→Hp→Prop),Inv X pins σ H s→wi σ H R →
  wpAny (model X.prog X.w) X.A (eval iter X.env) (fun v s1=>wpAny (model X.prog X.w) X.A (pyIter v) (PIE X pins σ tg R) X.xe s1) X.xe s
theorem zl4 {M:Model}{A:Around}{E:Value→Shared→Prop}{s:Shared}{tg:Expr}{it:Addr}{u:Value}{o:Obj}{n:String}{vs:Array Value}{Q:Unit→Shared→Prop}(ho:s.heap.get? it=some o)(hc:o.cls=.type n)(hd:o.data=.fields vs)
 (hn : ["enumerate", "zip", "dict_itemiterator", "dict_reverseitemiterator", "odict_iterator", "itertools.zip_longest", "itertools.pairwise"].contains n=false) (hQ:Q () s):wpAny M A (letOwnedTupleGo tg (.ref it) u) Q E s:=by
 unfold letOwnedTupleGo
 cases tg<;>first
  | exact wpAny_pure hQ
  | (cases u<;>first
   | exact wpAny_pure hQ
   | (
    refine wpAny_bind (wpAny_load ho ?_)
    rw [hc,hd]
    show wpAny M A (if (["enumerate", "zip", "dict_itemiterator", "dict_reverseitemiterator", "odict_iterator", "itertools.zip_longest", "itertools.pairwise"].contains n&&vs[0]? == some (rawInt _))=true then _ else _) Q E s
    rw [if_neg (by intro h;rw [hn,Bool.false_and] at h;cases h)]
    exact wpAny_pure hQ))
def Itl (K:PySem.W.Frag)(a:Addr):It :=
 ⟨fun i H => ∃ xs x,SqL K H a xs∧xs[i]? = some x,fun i H x H'=>H'=H∧∀ xs,SqL K H a xs→xs[i]? = some x,fun i H => ∃ xs,SqL K H a xs∧xs.length≤i⟩
def Itt (K:PySem.W.Frag)(a:Addr):It :=
 ⟨fun i H => ∃ xs x,SqT K H a xs∧xs[i]? = some x,fun i H x H'=>H'=H∧∀ xs,SqT K H a xs→xs[i]? = some x,fun i H => ∃ xs,SqT K H a xs∧xs.length≤i⟩
noncomputable def Itr (lo:Int)(n:Nat):It:=⟨fun i _=>i<n,fun i H x H'=>H'=H∧x=.int (lo+i),fun i _=>n≤i⟩
theorem zk0 {P:Program}{w:World}{K:PySem.W.Frag}{tg:Expr}(a it:Addr):Turn P w K tg (Itl K a) [it] it (fun i h=>h.IsListIter it a i) where
 mem:=by simp -iota
 obj:=fun i h st b hb=>by
  have e:b=it:=by simpa -iota using hb
  subst e
  refine zc1c st fun o e c d => ?_
  exact ⟨o,e,fun v z=>by rw [d] at z;cases z⟩
 keep:=fun i h h' st k=>st.at fun o e=>k it (by simp -iota) o e
 item:=by
  intro X hP hw hK hc i pins s σ H E I hf st hg
  subst hP hw hK
  refine zc2b hg fun xs x hq hx => ?_
  refine zc1c (I.list hq) fun its rv p hz => ?_
  refine zc1b (rv.get hx) fun u hu ru => ?_
  refine zc0e (hf it (by simp -iota)) fun f0 f1 f2 f3 zz=>zc0b zz fun f4 f5 => ?_
  refine wpAny_pyNext_list_item st p.isList (x:=u) (by simpa -iota using hu) fun h' st' sb => ?_
  have I1:Inv X pins σ H { s with heap:=h' }:=I.turned (t':=s.toks) (fun b o hb e=>(sb.2 b hb).trans e) f0 f1 f3 f4 f5
  refine zc1c (id st') fun o e c d => ?_
  exact ⟨u,rfl,zl4 (s:={ s with heap:=h' }) e c d (by decide) ⟨x,H,I1,ru,⟨rfl,fun ys hy=>by rw [I.list_inj hy hq];exact hx⟩,st',fun b hb=>(hf b hb).1⟩⟩
 done:=by
  intro X hP hw hK hc i pins s σ H E I hf st hg
  subst hP hw hK
  refine zc1b hg fun xs hq hx => ?_
  refine zc1c (I.list hq) fun its rv p hz => ?_
  refine zc0e (hf it (by simp -iota)) fun f0 f1 f2 f3 zz=>zc0b zz fun f4 f5 => ?_
  have hl:=rv.length
  exact wpAny_pyNext_list_end (I.ok.hd hc) st p.isList (by simp -iota;omega) fun h' eb=>⟨rfl,I.turned (t':=s.toks) (fun b o hb e=>eb b o hb e) f0 f1 f3 f4 f5⟩
 self:=fun _ _ _ _ _ st h=>wpAny_pyIter_listiter st h
theorem zix {P:Program}{w:World}{K:PySem.W.Frag}{tg:Expr}(a it:Addr):Turn P w K tg (Itt K a) [it] it (fun i h=>h.IsTupleIter it a i) where
 mem:=by simp -iota
 obj:=fun i h st b hb=>by
  have e:b=it:=by simpa -iota using hb
  subst e
  refine zc1c st fun o e c d => ?_
  exact ⟨o,e,fun v z=>by rw [d] at z;cases z⟩
 keep:=fun i h h' st k=>st.at fun o e=>k it (by simp -iota) o e
 item:=by
  intro X hP hw hK hc i pins s σ H E I hf st hg
  subst hP hw hK
  refine zc2b hg fun xs x hq hx => ?_
  refine zc1c (I.tuple hq) fun its rv p hz => ?_
  refine zc1b (rv.get hx) fun u hu ru => ?_
  refine zc0e (hf it (by simp -iota)) fun f0 f1 f2 f3 zz=>zc0b zz fun f4 f5 => ?_
  refine wpAny_pyNext_tuple_item st (show s.heap.IsTuple a its.toArray from p) (x:=u) (by simpa -iota using hu) fun h' st' sb => ?_
  have I1:Inv X pins σ H { s with heap:=h' }:=I.turned (t':=s.toks) (fun b o hb e=>(sb.2 b hb).trans e) f0 f1 f3 f4 f5
  refine zc1c (id st') fun o e c d => ?_
  exact ⟨u,rfl,zl4 (s:={ s with heap:=h' }) e c d (by decide) ⟨x,H,I1,ru,⟨rfl,fun ys hy=>by rw [I.tuple_inj hy hq];exact hx⟩,st',fun b hb=>(hf b hb).1⟩⟩
 done:=by
  intro X hP hw hK hc i pins s σ H E I hf st hg
  subst hP hw hK
  refine zc1b hg fun xs hq hx => ?_
  refine zc1c (I.tuple hq) fun its rv p hz => ?_
  refine zc0e (hf it (by simp -iota)) fun f0 f1 f2 f3 zz=>zc0b zz fun f4 f5 => ?_
  have hl:=rv.length
  exact wpAny_pyNext_tuple_end (I.ok.hd hc) st (show s.heap.IsTuple a its.toArray from p) (by simp -iota;omega) fun h' eb=>⟨rfl,I.turned (t':=s.toks) (fun b o hb e=>eb b o hb e) f0 f1 f3 f4 f5⟩
 self:=fun _ _ _ _ _ st h=>wpAny_pyIter_tupleiter st h
theorem zic {P:Program}{w:World}{K:PySem.W.Frag}{tg:Expr}(it:Addr)(lo:Int)(n:Nat):Turn P w K tg (Itr lo n) [it] it (fun i h=>IsRangeIter h it (lo+(i:Nat)*1) ((n:Int)-(i:Nat)) 1) where
 mem:=by simp -iota
 obj:=fun i h st b hb=>by
  have e:b=it:=by simpa -iota using hb
  subst e
  exact ⟨_,st,fun v z=>by
   have z':Data.fields _=Data.cell v:=z
   cases z'⟩
 keep:=fun i h h' st k=>k it (by simp -iota) _ st
 item:=by
  intro X hP hw hK hc i pins s σ H E I hf st hg
  subst hP hw hK
  refine zc0e (hf it (by simp -iota)) fun f0 f1 f2 f3 zz=>zc0b zz fun f4 f5 => ?_
  have W:=Walks.range (prog:=X.prog) (w:=X.w) (I.ok.hd hc) it lo 1 n
  refine W.item i s _ _ hg st fun v h' tk hv st' kk => ?_
  obtain ⟨t,rfl⟩:=hv
  have I1:Inv X pins σ H { s with heap:=h',toks:=tk }:=I.turned (fun b o hb e=>kk b o (by simpa -iota using hb) e) f0 f1 f3 f4 f5
  refine ⟨_,rfl,zl4 (s:={ s with heap:=h',toks:=tk }) (n := "range_iterator") st' rfl rfl (by decide) ⟨.int (lo+i),H,I1,⟨t,?_⟩,⟨rfl,rfl⟩,st',fun b hb=>(hf b hb).1⟩⟩
  rw [Int.mul_one]
 done:=by
  intro X hP hw hK hc i pins s σ H E I hf st hg
  subst hP hw hK
  refine zc0e (hf it (by simp -iota)) fun f0 f1 f2 f3 zz=>zc0b zz fun f4 f5 => ?_
  exact wpAny_pyNext_range_end (I.ok.hd hc) st (by have:n≤i:=hg;omega) fun h' eb=>⟨rfl,I.turned (t':=s.toks) (fun b o hb e=>eb b o hb e) f0 f1 f3 f4 f5⟩
 self:=fun _ _ _ _ _ st h=>wpAny_pyIter_rangeiter st h
end L2
namespace L2
open PySem PySem.Spec PyProof.Rows
section
variable {X:Cx}{tg:Expr}
def iList (K:PySem.W.Frag)(tl:TE):TI:=fun σ H R=>tl σ H fun x H1 => ∃ a,x=.ref a∧(∃ xs,SqL K H1 a xs)∧R (Itl K a) H1
def iTup (K:PySem.W.Frag)(tl:TE):TI:=fun σ H R=>tl σ H fun x H1 => ∃ a,x=.ref a∧(∃ xs,SqT K H1 a xs)∧R (Itt K a) H1
theorem znO {l:Expr}{tl:TE}(hl:PE X l tl):PI X tg l (iList X.K tl):=by
 intro pins s σ H R I h
 refine thn (hl pins s σ H _ I h) fun v s1 zh => ?_
 refine zc2c zh fun x H1 I1 r1 q1 => ?_
 refine zc1c q1 fun a e zr2 q => ?_
 obtain ⟨xs,hq⟩:=zr2
 subst e
 cases r1
 refine zc1c (I1.list hq) fun its rv p hz => ?_
 refine wpAny_pyIter_list p.isList ?_
 refine ⟨s1.heap.objs.size,[s1.heap.objs.size],_,_,H1,rfl,I1.kept (t':=s1.toks) fun b o e=>Heap.get?_push_of_some _ e,zk0 a _,⟨_,Heap.get?_push_size _ rfl,rfl,rfl⟩,fun b hb => ?_,q⟩
 have e:b=s1.heap.objs.size:=by simpa -iota using hb
 subst e
 exact I1.fpOk (Nat.le_refl _) (I1.hok.fresh (Nat.le_refl _))
theorem zpw {l:Expr}{tl:TE}(hl:PE X l tl):PI X tg l (iTup X.K tl):=by
 intro pins s σ H R I h
 refine thn (hl pins s σ H _ I h) fun v s1 zh => ?_
 refine zc2c zh fun x H1 I1 r1 q1 => ?_
 refine zc1c q1 fun a e zr2 q => ?_
 obtain ⟨xs,hq⟩:=zr2
 subst e
 cases r1
 refine zc1c (I1.tuple hq) fun its rv p hz => ?_
 refine wpAny_pyIter_tuple (show s1.heap.IsTuple a its.toArray from p) ?_
 refine ⟨s1.heap.objs.size,[s1.heap.objs.size],_,_,H1,rfl,I1.kept (t':=s1.toks) fun b o e=>Heap.get?_push_of_some _ e,zix a _,⟨_,Heap.get?_push_size _ rfl,rfl,rfl⟩,fun b hb => ?_,q⟩
 have e:b=s1.heap.objs.size:=by simpa -iota using hb
 subst e
 exact I1.fpOk (Nat.le_refl _) (I1.hok.fresh (Nat.le_refl _))
theorem zhr {pins:List (Addr×Obj)}{σ : St}{H:Hp}{s:Shared}{R:It→Hp→Prop}{E:Value→Shared→Prop}{lo hi:Int}{t u v:Tok}{tk:Nat}(I:Inv X pins σ H s)(h1 : -(2 ^ 62)≤lo)(h2:lo<2 ^ 62)(h3 : -(2 ^ 62)≤hi)(h4:hi<2 ^ 62)
 (q:R (Itr lo (hi-lo).toNat) H):wpAny (model X.prog X.w) X.A (pyIter (.ref s.heap.objs.size)) (PIE X pins σ tg R) E { s with heap:=s.heap.push { cls:=.type "range",data:=.fields #[.int lo t,.int hi u,.int 1 v] },toks:=tk }:=by
 refine wpAny_pyIter_range (IsRange.new ..) (small_one h1 h2 h3 h4) ?_
 have I1:Inv X pins σ H { s with heap:=s.heap.push { cls:=.type "range",data:=.fields #[.int lo t,.int hi u,.int 1 v] },toks:=tk }:=I.kept fun b o e=>Heap.get?_push_of_some _ e
 refine ⟨(s.heap.push { cls:=.type "range",data:=.fields #[.int lo t,.int hi u,.int 1 v] }).objs.size,[(s.heap.push { cls:=.type "range",data:=.fields #[.int lo t,.int hi u,.int 1 v] }).objs.size],_,_,H,rfl,
  I1.kept (t':=tk) fun b o e=>Heap.get?_push_of_some _ e,zic _ lo (hi-lo).toNat,?_,fun b hb => ?_,q⟩
 ·have e1:lo+((0:Nat):Int)*1=lo:=by simp -iota
  have e2:(((hi-lo).toNat:Nat):Int)-((0:Nat):Int)=Builtin.Range.rangeSize lo hi 1:=by rw [rangeSize_one];split<;>omega
  show IsRangeIter _ _ (lo+((0:Nat):Int)*1) ((((hi-lo).toNat:Nat):Int)-((0:Nat):Int)) 1
  rw [e1,e2]
  exact Heap.get?_push_size _ rfl
 ·have e:b=(s.heap.push { cls:=.type "range",data:=.fields #[.int lo t,.int hi u,.int 1 v] }).objs.size:=by simpa -iota using hb
  subst e
  exact I1.fpOk (Nat.le_refl _) (I1.hok.fresh (Nat.le_refl _))
def iRng1 (ta:TA):TI:=fun σ H R=>ta σ H fun vs H1 => ∃ j:Int,vs=[.int j] ∧ -(2 ^ 62)≤j∧j<2 ^ 62∧R (Itr 0 j.toNat) H1
def iRng2 (ta:TA):TI:=fun σ H R=>ta σ H fun vs H1 => ∃ i j:Int,vs=[.int i,.int j]∧(-(2 ^ 62)≤i∧i<2 ^ 62 ∧ -(2 ^ 62)≤j∧j<2 ^ 62)∧R (Itr i (j-i).toNat) H1
theorem zjS {a:Expr}{ta:TA}{p pos:Pos}(hg:Gl X "range")(hm:X.mg "range" = none)(ha:PA X [a] ta)(hs:autoParam (starEach [a] X.env=[(false,eval a X.env)]) zau._auto_1):PI X tg (.Call (.Name "range" p) [a] [] pos) (iRng1 ta):=by
 intro pins s σ H R I h
 refine Call_ (zeB I hg hm boot_range (PyProof.Rows.callWith_type1 (thn (ha pos pins s σ H _ I h) fun us s1 ⟨vs,H1,I1,r1,q1⟩ => ?_) hs rfl))
 obtain ⟨j,e,q1,q2,q⟩:=q1
 subst e
 cases r1 with
 | cons r rr =>
  cases rr
  obtain ⟨t,rfl⟩:=r
  exact call_range_1 (zhr I1 (by omega) (by omega) q1 q2 (by simpa -iota using q))
theorem zkI {a b:Expr}{ta:TA}{p pos:Pos}(hg:Gl X "range")(hm:X.mg "range" = none)(ha:PA X [a,b] ta)(hs:autoParam (starEach [a,b] X.env=[(false,eval a X.env),(false,eval b X.env)]) zau._auto_1)(hs2:autoParam (starEach [b] X.env=[(false,eval b X.env)]) zau._auto_1) :
 PI X tg (.Call (.Name "range" p) [a,b] [] pos) (iRng2 ta):=by
 intro pins s σ H R I h
 refine Call_ (zeB I hg hm boot_range (PyProof.Rows.callWith_type1 (thn (ha pos pins s σ H _ I h) fun us s1 ⟨vs,H1,I1,r1,q1⟩ => ?_) (by rw [hs,hs2]) (by rw [hs2];rfl)))
 obtain ⟨i,j,e,⟨q1,q2,q3,q4⟩,q⟩:=q1
 subst e
 cases r1 with
 | cons r rr =>
  cases rr with
  | cons r' rr =>
   cases rr
   obtain ⟨t,rfl⟩:=r
   obtain ⟨t',rfl⟩:=r'
   exact call_range_2 (zhr I1 q1 q2 q3 q4 q)
noncomputable def tFor (wi:TI)(g:TG)(tb:TS):TS:=fun D σ H=>wi σ H fun J H1 => ∃ W:Nat→Nat→St→Hp→Prop,(∃ m,W 0 m σ H1)∧∀ i m σ H,W i m σ H →
 (J.stop i H∧D.nx σ H)∨(J.go i H∧∃ N:St→Hp→Prop,(∀ σ' H',N σ' H'→∃ m',m'<m∧W (i+1) m' σ' H')∧∀ x H',J.yld i H x H'→g x σ H' fun σ2 H2=>tb { D with nx:=N,ct:=N,bk:=D.nx } σ2 H2)
noncomputable def zgx (fp:List Addr)(h:Heap):List (Addr×Obj):=fp.filterMap fun b=>(h.get? b).map fun o=>(b,o)
theorem zbZ {fp:List Addr}{h:Heap}{b:Addr}{o:Obj}(hb:b∈fp)(e:h.get? b=some o):(b,o)∈zgx fp h:=List.mem_filterMap.mpr ⟨b,hb,by rw [e];rfl⟩
theorem ziZ {fp:List Addr}{h:Heap}{p:Addr×Obj}(hp:p∈zgx fp h):p.1∈fp∧h.get? p.1=some p.2:=by
 refine zc1b (List.mem_filterMap.mp hp) fun b hb e => ?_
 cases q:h.get? b with
 | none=>rw [q] at e;cases e
 | some o =>
  rw [q] at e
  have e':(b,o)=p:=Option.some.inj e
  subst e'
  exact ⟨hb,q⟩
theorem Inv.pinned {pins:List (Addr×Obj)}{σ : St}{H:Hp}{s:Shared}{fp:List Addr}(I:Inv X pins σ H s)(hf:∀ b∈fp,FpOk X pins H b)(ho:∀ b∈fp,∃ o,s.heap.get? b=some o∧∀ v,o.data ≠ .cell v):Inv X (pins++zgx fp s.heap) σ H s :=
 I.pins_of fun p hp=>(List.mem_append.mp hp).elim (fun z=>I.pin p (List.mem_append_right _ z)) fun z=>by
  obtain ⟨hb,e⟩:=ziZ z
  refine zc0d (hf p.1 hb) fun f0 f1 f2 _ => ?_
  refine zc1b (ho p.1 hb) fun o e' d => ?_
  rw [e] at e';cases e'
  exact ⟨e,f0,f1,f2,d⟩
theorem Inv.unpinned {pins pl:List (Addr×Obj)}{σ : St}{H:Hp}{s:Shared}(I:Inv X (pins++pl) σ H s):Inv X pins σ H s:=I.pins_of fun p hp=>I.pin p (List.mem_append_right _ (List.mem_append_left _ hp))
theorem zjX {iter:Expr}{body:List Stmt}{wi:TI}{g:TG}{tb:TS}{pos:Pos}(hp:PassesOwn (model X.prog X.w) X.A X.env X.xe)(hc:X.calm=true)(hi:PI X tg iter wi)(hg:PG X tg g)(hb:PSs X body tb)
 (hs:autoParam (∀ x,foldedSetIterable iter X.env x=pure x) zaw._auto_1):PS X (.For tg iter body [] pos) (tFor wi g tb):=by
 intro pins s σ H D I h
 refine wpAny_For (thn (hi pins s σ H _ I h) fun v s1 h1=>thn h1 fun itv s2 h2 => ?_) hs
 refine zc4a h2 fun it fp tn J zz=>zc1a zz fun H2 zz=>zc0e zz fun e I2 T st2 zz=>zc0b zz fun f2 zz=>zc1b zz fun W zr11 turn => ?_
 obtain ⟨m0,w0⟩:=zr11
 subst e
 have stat:∀ {H':Hp},(∀ b∈fp,H' b=none)→∀ b∈fp,FpOk X pins H' b:=fun hn b hb=>⟨hn b hb,(f2 b hb).2⟩
 refine codeAny_forLoop_any (fun n s' => ∃ i σ' H',Inv X pins σ' H' s'∧tn i s'.heap∧(∀ b∈fp,H' b=none)∧W i n σ' H') ?_ m0 ⟨0,σ,H2,I2,st2,fun b hb=>(f2 b hb).1,w0⟩
 rintro n s3 ⟨i,σ3,H3,I3,st3,fr3,w3⟩
 rcases turn i n σ3 H3 w3 with ⟨stop,qn⟩|⟨go,N,hN,step⟩
 ·refine wpAny_passesOwn hp (thn (T.done X rfl rfl rfl hc i pins s3 σ3 H3 X.xe I3 (stat fr3) st3 stop) fun r s4 zh => ?_)
  obtain ⟨hr,I4⟩:=zh
  subst hr
  exact wpAny_execs_nil ⟨σ3,H3,I4,qn⟩
 ·refine wpAny_passesOwn hp (thn (T.item X rfl rfl rfl hc i pins s3 σ3 H3 X.xe I3 (stat fr3) st3 go) fun r s4 zh => ?_)
  refine zc1b zh fun u hr h4 => ?_
  subst hr
  refine wpAny_passesOwn hp (thn h4 fun _ s5 zh => ?_)
  refine zc2a zh fun x H5 zz=>zc0e zz fun I5 r5 y5 st5 fr5 => ?_
  have I5':=I5.pinned (stat fr5) (T.obj _ _ st5)
  refine wpAny_passesOwn hp (thn (hg _ s5 σ3 H5 x u _ I5' r5 (step x H5 y5)) fun _ s6 zh => ?_)
  refine zc2b zh fun σ6 H6 I6 q6 => ?_
  refine wpAny_passesOwn hp (thn (hb _ s6 σ6 H6 _ I6 q6) fun f s7 q7 => ?_)
  have again:∀ {σ7:St} {H7:Hp},Inv X (pins++zgx fp s5.heap) σ7 H7 s7→N σ7 H7→∃ m,m<n∧∃ i σ' H',Inv X pins σ' H' s7∧tn i s7.heap∧(∀ b∈fp,H' b=none)∧W i m σ' H':=fun {σ7 H7} I7 n7=>by
   refine zc1b (hN σ7 H7 n7) fun m' hm w7 => ?_
   refine ⟨m',hm,i+1,σ7,H7,I7.unpinned,T.keep _ _ _ st5 fun b hb o e=>(I7.pin (b,o) (List.mem_append_right _ (List.mem_append_right _ (zbZ hb e)))).1,fun b hb => ?_,w7⟩
   refine zc1b (T.obj _ _ st5 b hb) fun o e d => ?_
   exact (I7.pin (b,o) (List.mem_append_right _ (List.mem_append_right _ (zbZ hb e)))).2.1
  cases f with
  | next=>obtain ⟨σ7,H7,I7,n7⟩:=q7;exact again I7 n7
  | cont=>obtain ⟨σ7,H7,I7,n7⟩:=q7;exact again I7 n7
  | brk=>obtain ⟨σ7,H7,I7,q7⟩:=q7;exact ⟨σ7,H7,I7.unpinned,q7⟩
  | ret v=>obtain ⟨x7,σ7,H7,I7,r7,q7⟩:=q7;exact ⟨x7,σ7,H7,I7.unpinned,r7,q7⟩
end
end L2
namespace L2
open PySem PySem.Spec PyProof.Rows
abbrev R2:=V→V→Hp→VK→Prop
def OpR (X:Cx)(f:Value→Value→Sem Value)(r:R2):Prop :=
 ∀ (pins:List (Addr×Obj)) (s:Shared) (σ : St) (H:Hp) (x y:V) (v u:Value) (Q:VK),Inv X pins σ H s→RelV x v→RelV y u→r x y H Q →
  wpAny (model X.prog X.w) X.A (f v u) (EP X pins σ Q) X.xe s
noncomputable def za1 (X:Cx)(f:Value)(r:List V→Hp→VK→Prop):Prop :=
 ∀ (pins:List (Addr×Obj)) (s:Shared) (σ : St) (H:Hp) (xs:List V) (us:List Value) (Q:VK),Inv X pins σ H s→Vals xs us→r xs H Q →
  wpAny (model X.prog X.w) X.A (call f us) (EP X pins σ Q) X.xe s
noncomputable def tOp (r:R2)(ta tb:TE):TE:=fun σ H Q=>ta σ H fun x H1=>tb σ H1 fun y H2=>r x y H2 Q
noncomputable def rI (C:Int→Int→Prop)(g:Int→Int→V):R2:=fun x y H Q => ∃ i j,x=.int i∧y=.int j∧C i j∧Q (g i j) H
noncomputable def rI0 (g:Int→Int→V):R2:=fun x y H Q => ∃ i j,x=.int i∧y=.int j∧Q (g i j) H
section
variable {X:Cx}{a b c:Expr}{ta tb tc:TE}{pos:Pos}
theorem binT (ha:PE X a ta)(hb:PE X b tb){pins:List (Addr×Obj)}{s:Shared}{σ : St}{H:Hp}{R:V→V→Hp→Prop}(I:Inv X pins σ H s)
 (h:ta σ H fun x H1=>tb σ H1 fun y H2=>R x y H2) {Q:Value→Shared→Prop} {f:Value→Value→Sem Value}
 (hf:∀ v u s2 x y H2,Inv X pins σ H2 s2→RelV x v→RelV y u→R x y H2→wpAny (model X.prog X.w) X.A (f v u) Q X.xe s2) :
 wpAny (model X.prog X.w) X.A (eval a X.env) (fun v s₁=>wpAny (model X.prog X.w) X.A (eval b X.env) (fun u s₂=>wpAny (model X.prog X.w) X.A (f v u) Q X.xe s₂) X.xe s₁) X.xe s:=by
 refine thn (ha pins s σ H _ I h) fun v s1 zh => ?_
 refine zc2c zh fun x H1 I1 r1 q1 => ?_
 refine thn (hb pins s1 σ H1 _ I1 q1) fun u s2 zh => ?_
 refine zc2c zh fun y H2 I2 r2 q2 => ?_
 exact hf v u s2 x y H2 I2 r1 r2 q2
theorem pe_op {op:Operator}{r:R2}(ho:OpR X (binaryOp op) r)(ha:PE X a ta)(hb:PE X b tb):PE X (.BinOp a op b pos) (tOp r ta tb):=by
 intro pins s σ H Q I h
 exact wpAny_BinOp (binT ha hb I h fun v u s2 x y H2 I2 rx ry q=>ho pins s2 σ H2 x y v u Q I2 rx ry q)
theorem opI {f:Value→Value→Sem Value}{C:Int→Int→Prop}{g:Int→Int→Int}
 (rule:∀ (i j:Int) (t u:Tok) (s:Shared) (Q:Value→Shared→Prop) (E:Value→Shared→Prop),C i j→Q (.int (g i j) s.toks) { s with toks:=s.toks+1 }→wpAny (model X.prog X.w) X.A (f (.int i t) (.int j u)) Q E s) :
 OpR X f (rI C fun i j=>.int (g i j)):=by
 intro pins s σ H x y v u Q I rx ry h
 refine zc2d h fun i j zr2 zr3 hc q => ?_
 obtain rfl:=zr2
 obtain rfl:=zr3
 obtain ⟨t,rfl⟩:=rx
 obtain ⟨t',rfl⟩:=ry
 exact rule i j t t' s _ _ hc ⟨.int (g i j),H,I.tok _,⟨_,rfl⟩,q⟩
theorem opI0 {f:Value→Value→Sem Value}{g:Int→Int→Int}
 (rule:∀ (i j:Int) (t u:Tok) (s:Shared) (Q:Value→Shared→Prop) (E:Value→Shared→Prop),Q (.int (g i j) s.toks) { s with toks:=s.toks+1 }→wpAny (model X.prog X.w) X.A (f (.int i t) (.int j u)) Q E s) :
 OpR X f (rI0 fun i j=>.int (g i j)):=by
 intro pins s σ H x y v u Q I rx ry h
 refine zc2c h fun i j zr2 zr3 q => ?_
 obtain rfl:=zr2
 obtain rfl:=zr3
 obtain ⟨t,rfl⟩:=rx
 obtain ⟨t',rfl⟩:=ry
 exact rule i j t t' s _ _ ⟨.int (g i j),H,I.tok _,⟨_,rfl⟩,q⟩
theorem opB0 {f:Value→Value→Sem Value}{g:Int→Int→Bool}
 (rule:∀ (i j:Int) (t u:Tok) (s:Shared) (Q:Value→Shared→Prop) (E:Value→Shared→Prop),Q (.bool (g i j)) s→wpAny (model X.prog X.w) X.A (f (.int i t) (.int j u)) Q E s) :
 OpR X f (rI0 fun i j=>.bl (g i j)):=by
 intro pins s σ H x y v u Q I rx ry h
 refine zc2c h fun i j zr2 zr3 q => ?_
 obtain rfl:=zr2
 obtain rfl:=zr3
 obtain ⟨t,rfl⟩:=rx
 obtain ⟨t',rfl⟩:=ry
 exact rule i j t t' s _ _ ⟨.bl (g i j),H,I,rfl,q⟩
noncomputable def CDiv (i j:Int):Prop:=0<j∧j<1073741824
noncomputable def CPow (i j:Int):Prop:=0≤j∧j≤1000000∧i.natAbs<2 ^ 64
theorem zoV:OpR X (binaryOp .Add) (rI0 fun i j=>.int (i+j)):=opI0 fun _ _ _ _ _ _ _ q=>add_int q
theorem zpJ:OpR X (binaryOp .Sub) (rI0 fun i j=>.int (i-j)):=opI0 fun _ _ _ _ _ _ _ q=>sub_int q
theorem zo2:OpR X (binaryOp .FloorDiv) (rI CDiv fun i j=>.int (i / j)):=opI fun i j _ _ _ _ _ hc q=>by
 have h1:(0:Int)<j:=hc.1
 have h2:j<1073741824:=hc.2
 exact floordiv_int (by omega) (by rw [Int.fdiv_eq_ediv_of_nonneg i (by omega)];exact q) (.inl (PyProof.noPylong_small (by omega)))
theorem zpQ:OpR X (binaryOp .Mod) (rI (fun _ j=>0<j) fun i j=>.int (i % j)):=opI fun i j _ _ _ _ _ hc q=>by
 have h1:(0:Int)<j:=hc
 exact mod_int' (by omega) (by rw [Int.fmod_eq_emod_of_nonneg i (by omega)];exact q)
theorem zpV:OpR X (binaryOp .Pow) (rI CPow fun i j=>.int (i ^ j.toNat)):=opI fun _ _ _ _ _ _ _ hc q=>pow_int_small hc.1 hc.2.1 hc.2.2 q
end
noncomputable def scal:V→V→Bool
 | .non,.non=>true | .non,.int _=>true | .int _,.non=>true | .non,.bl _=>true | .bl _,.non=>true | .non,.str _=>true | .str _,.non=>true
 | .int _,.int _=>true | .bl _,.bl _=>true | .str _,.str _=>true | .byt _,.byt _=>true
 | .int _,.str _=>true | .str _,.int _=>true | .bl _,.str _=>true | .str _,.bl _=>true
 | _,_=>false
def rEq:R2:=fun x y H Q=>scal x y=true∧Q (.bl (decide (x=y))) H
def rNe:R2:=fun x y H Q=>scal x y=true∧Q (.bl (!decide (x=y))) H
theorem zjY {i j:Int}:decide (V.int i=V.int j)=(i == j):=by
 rw [Bool.eq_iff_iff]
 simp -iota
theorem zmG {i j:Bool}:decide (V.bl i=V.bl j)=(i == j):=by
 rw [Bool.eq_iff_iff]
 simp -iota
theorem zkx {i j:Str}:decide (V.str i=V.str j)=(i == j):=by
 rw [Bool.eq_iff_iff]
 simp -iota
theorem zjw {i j:Array UInt8}:decide (V.byt i=V.byt j)=(i.toList == j.toList):=by
 rw [Bool.eq_iff_iff]
 cases i
 cases j
 simp -iota
section
variable {X:Cx}{a b c:Expr}{ta tb tc:TE}{pos:Pos}
theorem za3 {pins:List (Addr×Obj)}{σ : St}{H:Hp}{s:Shared}{Q:VK}{k k':Bool}(I:Inv X pins σ H s)(q:Q (.bl k) H)(e:k=k'):EP X pins σ Q (.bool k') s:=by
 subst e
 exact ⟨.bl k,H,I,rfl,q⟩
theorem op_eq:OpR X (compareOp .Eq) rEq:=by
 intro pins s σ H x y v u Q I rx ry h
 obtain ⟨hs,q⟩:=h
 cases x with
 | non =>
  cases rx
  cases y with
  | non=>cases ry;exact PySem.EqNone.eq_none_none (za3 I q (by simp -iota))
  | bl j=>cases ry;exact PySem.EqNone.eq_none_bool (za3 I q (by simp -iota))
  | int j=>obtain ⟨t',rfl⟩:=ry;exact PySem.EqNone.eq_none_int (za3 I q (by simp -iota))
  | str j=>obtain ⟨t',rfl⟩:=ry;exact PySem.EqNone.eq_none_str (za3 I q (by simp -iota))
  | _=>exact absurd (show false=true from hs) Bool.false_ne_true
 | bl i =>
  cases rx
  cases y with
  | non=>cases ry;exact PySem.EqNone.eq_bool_none (za3 I q (by simp -iota))
  | bl j=>cases ry;exact eq_bool (za3 I q zmG)
  | str j=>obtain ⟨t',rfl⟩:=ry;exact PySem.EqMixed.eq_bool_str (za3 I q (by simp -iota))
  | _=>exact absurd (show false=true from hs) Bool.false_ne_true
 | int i =>
  obtain ⟨t,rfl⟩:=rx
  cases y with
  | non=>cases ry;exact PySem.EqNone.eq_int_none (za3 I q (by simp -iota))
  | int j=>obtain ⟨t',rfl⟩:=ry;exact eq_int (za3 I q zjY)
  | str j=>obtain ⟨t',rfl⟩:=ry;exact PySem.EqMixed.eq_int_str (za3 I q (by simp -iota))
  | _=>exact absurd (show false=true from hs) Bool.false_ne_true
 | str i =>
  obtain ⟨t,rfl⟩:=rx
  cases y with
  | non=>cases ry;exact PySem.EqNone.eq_str_none (za3 I q (by simp -iota))
  | bl j=>cases ry;exact PySem.EqMixed.eq_str_bool (za3 I q (by simp -iota))
  | int j=>obtain ⟨t',rfl⟩:=ry;exact PySem.EqMixed.eq_str_int (za3 I q (by simp -iota))
  | str j=>obtain ⟨t',rfl⟩:=ry;exact eq_str (za3 I q zkx)
  | _=>exact absurd (show false=true from hs) Bool.false_ne_true
 | byt i =>
  obtain ⟨t,rfl⟩:=rx
  cases y with
  | byt j=>obtain ⟨t',rfl⟩:=ry;exact PySem.W.eq_bytes (za3 I q zjw)
  | _=>exact absurd (show false=true from hs) Bool.false_ne_true
 | _=>cases y<;>exact absurd (show false=true from hs) Bool.false_ne_true
theorem op_ne:OpR X (compareOp .NotEq) rNe:=by
 intro pins s σ H x y v u Q I rx ry h
 obtain ⟨hs,q⟩:=h
 cases x with
 | non =>
  cases rx
  cases y with
  | non=>cases ry;exact PySem.EqNone.ne_none_none (za3 I q (by simp -iota))
  | bl j=>cases ry;exact PySem.EqNone.ne_none_bool (za3 I q (by simp -iota))
  | int j=>obtain ⟨t',rfl⟩:=ry;exact PySem.EqNone.ne_none_int (za3 I q (by simp -iota))
  | str j=>obtain ⟨t',rfl⟩:=ry;exact PySem.EqNone.ne_none_str (za3 I q (by simp -iota))
  | _=>exact absurd (show false=true from hs) Bool.false_ne_true
 | bl i =>
  cases rx
  cases y with
  | non=>cases ry;exact PySem.EqNone.ne_bool_none (za3 I q (by simp -iota))
  | bl j=>cases ry;exact ne_bool (za3 I q (congrArg not zmG))
  | str j=>obtain ⟨t',rfl⟩:=ry;exact PySem.EqMixed.ne_bool_str (za3 I q (by simp -iota))
  | _=>exact absurd (show false=true from hs) Bool.false_ne_true
 | int i =>
  obtain ⟨t,rfl⟩:=rx
  cases y with
  | non=>cases ry;exact PySem.EqNone.ne_int_none (za3 I q (by simp -iota))
  | int j=>obtain ⟨t',rfl⟩:=ry;exact ne_int (za3 I q (congrArg not zjY))
  | str j=>obtain ⟨t',rfl⟩:=ry;exact PySem.EqMixed.ne_int_str (za3 I q (by simp -iota))
  | _=>exact absurd (show false=true from hs) Bool.false_ne_true
 | str i =>
  obtain ⟨t,rfl⟩:=rx
  cases y with
  | non=>cases ry;exact PySem.EqNone.ne_str_none (za3 I q (by simp -iota))
  | bl j=>cases ry;exact PySem.EqMixed.ne_str_bool (za3 I q (by simp -iota))
  | int j=>obtain ⟨t',rfl⟩:=ry;exact PySem.EqMixed.ne_str_int (za3 I q (by simp -iota))
  | str j=>obtain ⟨t',rfl⟩:=ry;exact ne_str (za3 I q (congrArg not zkx))
  | _=>exact absurd (show false=true from hs) Bool.false_ne_true
 | byt i =>
  obtain ⟨t,rfl⟩:=rx
  cases y with
  | byt j=>obtain ⟨t',rfl⟩:=ry;exact PySem.W.ne_bytes (za3 I q (congrArg not zjw))
  | _=>exact absurd (show false=true from hs) Bool.false_ne_true
 | _=>cases y<;>exact absurd (show false=true from hs) Bool.false_ne_true
theorem op_lt:OpR X (compareOp .Lt) (rI0 fun i j=>.bl (decide (i<j))):=opB0 fun _ _ _ _ _ _ _ q=>lt_int q
theorem op_gt:OpR X (compareOp .Gt) (rI0 fun i j=>.bl (decide (j<i))):=opB0 fun _ _ _ _ _ _ _ q=>gt_int q
theorem op_ge:OpR X (compareOp .GtE) (rI0 fun i j=>.bl (decide (j≤i))):=opB0 fun _ _ _ _ _ _ _ q=>ge_int q
theorem zbj (b:Expr){op:CmpOp}(h:autoParam (op ≠ .In) zav._auto_1)(h2:autoParam (op ≠ .NotIn) zav._auto_1):behindInMarks op b=false:=by
 have e1:(op == CmpOp.In)=false:=by cases op<;>first|rfl|exact absurd rfl h
 have e2:(op == CmpOp.NotIn)=false:=by cases op<;>first|rfl|exact absurd rfl h2
 cases b<;>first|rfl|(show (_&&(_||_)&&_)=false;rw [e1,e2,Bool.or_self,Bool.and_false,Bool.false_and])
theorem zkX {op:CmpOp}{r:R2}(ho:OpR X (compareOp op) r)(ha:PE X a ta)(hb:PE X b tb)(hm:behindInMarks op b=false):PE X (.Compare a [op] [b] pos) (tOp r ta tb):=by
 intro pins s σ H Q I h
 exact wpAny_Compare1 (binT ha hb I h fun v u s2 x y H2 I2 rx ry q=>ho pins s2 σ H2 x y v u Q I2 rx ry q) hm
noncomputable def tTest (t:TE):TT:=fun σ H Q=>t σ H fun x H' => ∃ k,x=.bl k∧Q k H'
theorem zgP {op:CmpOp}{r:R2}(ho:OpR X (compareOp op) r)(ha:PE X a ta)(hb:PE X b tb)(hm:behindInMarks op b=false):PT X (.Compare a [op] [b] pos) (tTest (tOp r ta tb)):=by
 intro pins s σ H Q I h
 refine wpAny_isTrue_Compare1 (thn (ha pins s σ H _ I h) fun v s1 ⟨x,H1,I1,r1,q1⟩=>thn (hb pins s1 σ H1 _ I1 q1) fun u s2 ⟨y,H2,I2,r2,q2⟩ =>
  thn (ho pins s2 σ H2 x y v u _ I2 r1 r2 q2) fun c s3 ⟨z,H3,I3,r3,k,e,q3⟩ => ?_) hm
 subst e
 cases r3
 exact wpAny_truthy_bool ⟨H3,I3,q3⟩
theorem zfZ:(sizeLine:Nat)<2 ^ 63:=by rw [sizeLine_eq];decide
theorem ziA:OpR X (binaryOp .Add) (fun x y H Q => ∃ i j,x=.str i∧y=.str j∧i.length+j.length≤sizeLine∧Q (.str (i++j)) H):=by
 intro pins s σ H x y v u Q I rx ry h
 refine zc2d h fun i j zr2 zr3 hz q => ?_
 obtain rfl:=zr2
 obtain rfl:=zr3
 obtain ⟨t,rfl⟩:=rx
 obtain ⟨t',rfl⟩:=ry
 exact add_str (fun t' tk=>⟨.str (i++j),H,I.tok _,⟨_,rfl⟩,q⟩) hz
theorem zdm {x:V}{us:List Value}(r:Vals [x] us):∃ u,us=[u]∧RelV x u:=by
 cases r with
 | cons r1 r2=>cases r2;exact ⟨_,rfl,r1⟩
theorem zmg {x y:V}{us:List Value}(r:Vals [x,y] us):∃ u w',us=[u,w']∧RelV x u∧RelV y w':=by
 cases r with
 | cons r1 r2 =>
  cases r2 with
  | cons r3 r4=>cases r4;exact ⟨_,_,rfl,r1,r3⟩
theorem zjs (hc:X.calm=true):za1 X (.builtin "min") (fun xs H Q => ∃ i j,xs=[.int i,.int j]∧Q (.int (if j<i then j else i)) H):=by
 intro pins s σ H xs us Q I r h
 refine zc2b h fun i j zr2 q => ?_
 obtain rfl:=zr2
 refine zc2c (zmg r) fun u w' zr2 zr3 zr4 => ?_
 obtain rfl:=zr2
 obtain ⟨t,rfl⟩:=zr3
 obtain ⟨t',rfl⟩:=zr4
 refine min_two_ints (I.ok.hd hc) fun h' tk k=>⟨_,H,I.kept k,?_,q⟩
 by_cases hj:j<i
 ·rw [if_pos hj,if_pos hj];exact ⟨_,rfl⟩
 ·rw [if_neg hj,if_neg hj];exact ⟨_,rfl⟩
end
end L2
namespace L2
open PySem PySem.Spec PyProof.Rows
structure ObjM (h:Heap)(x dx C:Addr)(mA:Str→Option Value):Prop where
 obj:h.get? x=some (PySem.W.instObj C dx)
 ns:h.Ns1 dx mA
 ne:dx≠x
theorem zku {h:Heap}{dx:Addr}{mA:Str→Option Value}(n:h.Ns1 dx mA):∃ od,h.get? dx=some od∧∀ name,PySem.W.lookIn name od=some (mA name):=by
 refine zc3a n fun o es ep zz=>zc0e zz fun ho hd hk _ hm => ?_
 refine ⟨o,ho,fun name => ?_⟩
 have e:=hm name
 unfold nsFind findBy at e
 rw [← Array.find?_toList] at e
 unfold PySem.W.lookIn
 rw [hd]
 dsimp only
 split
 ·rename_i y q
  rw [q] at e
  exact congrArg some e
 ·rename_i q
  rw [q] at e
  have a:es.toList.any (·.refKey)=false:=by
   rw [List.any_eq_false]
   intro y hy
   refine zc2a (hk y (Array.mem_toList_iff.mp hy)) fun z t hkey => ?_
   simp -iota [DictEntry.refKey,hkey]
  have a':¬ es.toList.any (·.refKey)=true:=by rw [a];exact Bool.false_ne_true
  rw [if_neg a']
  exact congrArg some e
theorem ObjM.look {h:Heap}{x dx C:Addr}{mA:Str→Option Value}(I:ObjM h x dx C mA):∃ od,PySem.W.InstAt h x (PySem.W.instObj C dx) C (some od)∧∀ name,PySem.W.lookIn name od=some (mA name) :=
 let ⟨od,ho,hl⟩:=zku I.ns
 ⟨od,⟨I.obj,rfl,rfl,ho⟩,hl⟩
theorem RelO.some_of {v:V}{o:Option Value}(r:RelO (some v) o):∃ u,o=some u∧RelV v u:=by
 cases o with
 | none=>exact (show False from r).elim
 | some u=>exact ⟨u,rfl,r⟩
section
variable {P:Program}{w:World}{H H':Hp}{h h':Heap}{a C dx:Addr}{fs fs':List (Str×V)}
theorem znv (hok:HOk P w H h)(e:H a=some (.ins C dx fs)):∃ mA,ObjM h a dx C mA∧(∀ f,RelO (fs.lookup f) (mA f))∧PySem.Within mA (fs.map (·.1))∧fs.length≤1000∧H dx=some (.own a):=by
 refine zc0e ((show zaL P w H h a (.ins C dx fs) from hok a _ e)) fun d z ne ob zz=>zc1c zz fun mA n r q => ?_
 exact ⟨mA,⟨ob,n,ne⟩,r,q,z,d⟩
end
structure Cls (K:PySem.W.Frag)(C:Addr):Prop where
 pg:PySem.W.plainGet K C Str.empty=true
 hd:PySem.W.hasDictIn K C=true
 po:PySem.W.plainOver K C=true
 sa:PySem.W.findIn K (.ref C) "__setattr__" = some (some (.builtin "object.__setattr__"))
theorem Cls.get {K:PySem.W.Frag}{C:Addr}(c:Cls K C)(f:Str):PySem.W.plainGet K C f=true:=c.pg
section
variable {X:Cx}{pins:List (Addr×Obj)}{σ : St}{H:Hp}{s:Shared}{A:Around}{E:Value→Shared→Prop}{Q:Value→Shared→Prop}{c:Value}{b:Bool}
inductive TyOf (K:PySem.W.Frag)(H:Hp):V→Value→Prop where
 | non:TyOf K H .non (.type "NoneType")
 | bl (x:Bool):TyOf K H (.bl x) (.type "bool")
 | int (i:Int):TyOf K H (.int i) (.type "int")
 | str (x:Str):TyOf K H (.str x) (.type "str")
 | flt (x:UInt64):TyOf K H (.flt x) (.type "float")
 | lst {a:Addr} {xs:List V} (e:H a=some (.lst xs)):TyOf K H (.ref a) (.type "list")
 | frz {a:Addr} {o:Obj} {xs:List V} (e:H a=some (.frz o (.lst xs))):TyOf K H (.ref a) (.type "list")
 | tup {a:Addr} {xs:List V} (e:H a=some (.tup xs)):TyOf K H (.ref a) (.type "tuple")
 | dK {a:Addr} {kvs:List (Key×V)} (e:H a=some (.dK kvs)):TyOf K H (.ref a) (.type "dict")
 | dT {a:Addr} {kvs:List (List Key×V)} (e:H a=some (.dT kvs)):TyOf K H (.ref a) (.type "dict")
 | ins {a C dx:Addr} {fs:List (Str×V)} (e:H a=some (.ins C dx fs)) (cl:Cls K C) (ha:PySem.W.findIn K (.ref C) "__class__" = some (some (.builtin "object.__class__")))
  (hn:PySem.W.specialIn K (.builtin "object.__class__") "__get__" = some (some (.builtin "getset_descriptor.__get__"))) (htk:PySem.W.takesIn K (.builtin "object.__class__")=some true)
  (hm:PySem.W.mroIn K C (.type "object")=some true):TyOf K H (.ref a) (.ref C)
theorem zjo {x:V}{u t:Value}(I:Inv X pins σ H s)(rx:RelV x u)(ty:TyOf X.K H x t)(e:PySem.W.kitOne X.K t c=some b)(h:∀ tk,Q (.bool b) { s with toks:=tk }) :
 wpAny (model X.prog X.w) A (call (.builtin "isinstance") [u,c]) Q E s:=by
 cases ty with
 | non=>cases (show u=Value.none from rx);exact PySem.W.kia_one PySem.W.kitx_none I.kIn True.intro e (fun z=>nomatch z) h
 | bl y=>cases (show u=Value.bool y from rx);exact PySem.W.kia_one PySem.W.kitx_bool I.kIn True.intro e (fun z=>nomatch z) h
 | int i=>obtain ⟨t,q⟩:=(show ∃ t,u=Value.int i t from rx);cases q;exact PySem.W.kia_one PySem.W.kitx_int I.kIn True.intro e (fun z=>nomatch z) h
 | str y=>obtain ⟨t,q⟩:=(show ∃ t,u=Value.str y t from rx);cases q;exact PySem.W.kia_one PySem.W.kitx_str I.kIn True.intro e (fun z=>nomatch z) h
 | flt y=>obtain ⟨t,q⟩:=(show ∃ t,u=Value.float y t from rx);cases q;exact PySem.W.kia_one PySem.W.kitx_float I.kIn True.intro e (fun z=>nomatch z) h
 | @lst a xs ea =>
  cases (show u=Value.ref a from rx)
  refine zc0b ((show zaL X.prog X.w H s.heap a (.lst xs) from I.hok a _ ea)) fun _ zz=>zc2b zz fun _ n _ h1 => ?_
  exact PySem.W.kia_one PySem.W.kitx_list I.kIn ⟨_,h1,rfl⟩ e (fun z=>nomatch z) h
 | @frz a ob xs ea =>
  cases (show u=Value.ref a from rx)
  refine zc0c ((show zaL X.prog X.w H s.heap a (.frz ob (.lst xs)) from I.hok a _ ea)) fun _ _ zz=>zc2b zz fun _ n _ h1 => ?_
  exact PySem.W.kia_one PySem.W.kitx_list I.kIn ⟨_,h1,rfl⟩ e (fun z=>nomatch z) h
 | @tup a xs ea =>
  cases (show u=Value.ref a from rx)
  refine zc0b ((show zaL X.prog X.w H s.heap a (.tup xs) from I.hok a _ ea)) fun _ zz=>zc1b zz fun _ _ p => ?_
  refine zc1c p fun o h1 h2 _ => ?_
  exact PySem.W.kia_one PySem.W.kitx_tuple I.kIn ⟨o,h1,h2⟩ e (fun z=>nomatch z) h
 | @dK a kvs ea =>
  cases (show u=Value.ref a from rx)
  refine zc0c ((show zaL X.prog X.w H s.heap a (.dK kvs) from I.hok a _ ea)) fun _ _ zz=>zc1b zz fun vs _ p => ?_
  refine zc3c p fun o es ep h1 h2 _ => ?_
  exact PySem.W.kia_one PySem.W.kitx_dict I.kIn ⟨o,h1,h2.1⟩ e (fun z=>nomatch z) h
 | @dT a kvs ea =>
  cases (show u=Value.ref a from rx)
  refine zc0c ((show zaL X.prog X.w H s.heap a (.dT kvs) from I.hok a _ ea)) fun _ _ zz=>zc1b zz fun xs _ zz=>zc3c zz fun o es ep h1 h2 _ => ?_
  exact PySem.W.kia_one PySem.W.kitx_dict I.kIn ⟨o,h1,h2.1⟩ e (fun z=>nomatch z) h
 | @ins a C dx fs ea cl ha hn htk hm =>
  cases (show u=Value.ref a from rx)
  refine zc1b (znv I.hok ea) fun mA O _ => ?_
  refine zc1b O.look fun od J _ => ?_
  exact PySem.W.kia_one (PySem.W.kitx_own (cl.get _) cl.hd ha hn htk hm) I.kIn J e (fun z=>nomatch z) h
end
end L2
namespace L2
open PySem PySem.Spec PyProof.Rows
structure Room (k:Nat)(A:Around):Prop where
 hd:A.handled=none
 dp:A.depth+3*k+5<recursionLimit
 un:A.units+16*k+200<cLine
theorem Room.mono {j k:Nat}{A:Around}(r:Room k A)(h:j≤k):Room j A:=⟨r.hd,by have:=r.dp;omega,by have:=r.un;omega⟩
theorem Room.deeper {k:Nat}{A:Around}(r:Room (k+1) A)(env:Env):Room k (A.deeper env) :=
 ⟨r.hd,by have:=r.dp;show A.depth+1+3*k+5<_;omega,by have:=r.un;show A.units+3+16*k+200<_;omega⟩
theorem Room.depth {k:Nat}{A:Around}(r:Room k A):A.depth<recursionLimit:=by have:=r.dp;omega
theorem Room.units {k:Nat}{A:Around}(r:Room k A):A.units+64<cLine:=by have:=r.un;omega
noncomputable def tNil:TA:=fun _ H Q=>Q [] H
noncomputable def zpg (ta:TE)(tr:TA):TA:=fun σ H Q=>ta σ H fun x H1=>tr σ H1 fun xs H2=>Q (x::xs) H2
section
variable {X:Cx}{e:Expr}{es:List Expr}{te:TE}{t:TA}{pos:Pos}
theorem zjC:PA X [] tNil:=fun _ _ _ _ H Q I h=>Calls.spliced_nil ⟨[],H,I,.nil,h⟩
theorem zgY (ha:PE X e te)(hr:PA X es t)(hs:autoParam (starEach (e::es) X.env=(false,eval e X.env)::starEach es X.env) zau._auto_1):PA X (e::es) (zpg te t):=by
 intro pos pins s σ H Q I h
 rw [hs]
 show wpAny _ _ (spliced ((false,eval e X.env)::backTo pos (starEach es X.env))) _ _ s
 refine Calls.spliced_cons (thn (ha pins s σ H _ I h) fun u s1 zh => ?_)
 refine zc2c zh fun x H1 I1 r1 q1 => ?_
 exact thn (hr pos pins s1 σ H1 _ I1 q1) (by rintro us s2 ⟨xs,H2,I2,r2,q2⟩;exact ⟨x::xs,H2,I2,.cons r1 r2,q2⟩)
def tTup (t:TA):TE:=fun σ H Q=>t σ H fun xs H1=>xs.length≤sizeLine∧∀ p,H1 p=none→Q (.ref p) (upd H1 p (.tup xs))
def tLst (t:TA):TE:=fun σ H Q=>t σ H fun xs H1=>xs.length≤sizeLine∧∀ p,H1 p=none→Q (.ref p) (upd H1 p (.lst xs))
theorem zpd {x1}(h:PA X es t):PE X (.Tuple es x1 pos) (tTup t):=by
 intro pins s σ H Q I hq
 refine wpAny_Tuple_spliced (thn (h pos pins s σ H _ I hq) fun us s1 ⟨xs,H1,I1,r,z,q⟩=>⟨by rw [← r.length];exact z,?_⟩)
 have hf:H1 s1.heap.objs.size=none:=I1.hok.fresh (Nat.le_refl _)
 refine ⟨.ref s1.heap.objs.size,upd H1 s1.heap.objs.size (.tup xs),I1.laid (t':=s1.toks) (fun b u e=>Heap.get?_push_of_some _ e) (Nat.le_refl _) ?_,rfl,q _ hf⟩
 exact ⟨⟨z,⟨_,Heap.get?_push_size _ rfl,rfl⟩⟩,us,r,⟨_,Heap.get?_push_size _ rfl,rfl,_,rfl⟩⟩
theorem zmO (h:PA X es t):PE X (.List es pos) (tLst t):=by
 intro pins s σ H Q I hq
 refine wpAny_List_spliced (thn (h pos pins s σ H _ I hq) fun us s1 ⟨xs,H1,I1,r,z,q⟩=>⟨by rw [← r.length];exact z,?_⟩)
 have hf:H1 s1.heap.objs.size=none:=I1.hok.fresh (Nat.le_refl _)
 refine ⟨.ref s1.heap.objs.size,upd H1 s1.heap.objs.size (.lst xs),I1.laid (t':=s1.toks) (fun b u e=>Heap.get?_push_of_some _ e) (Nat.le_refl _) ?_,rfl,q _ hf⟩
 exact ⟨z,us,0,r,Heap.get?_push_size _ rfl⟩
end
abbrev Sp:=List V→Hp→VK→XK→Prop
abbrev CXT:=List Env→Hp→Shared→XK→Value→Shared→Prop
structure Env0 (P:Program)(w:World)(K:PySem.W.Frag)(mg:Str→Option Value)(base:Heap)(A:Around)(outer:List Env)(s:Shared)(H:Hp):Prop where
 frames:A.frames=some outer
 mod:Mod K mg base
 bs:∀ b o,base.get? b=some o→s.heap.get? b=some o∧H b=none
 bsz:base.objs.size≤s.heap.objs.size
 funs:s.heap.FunFrames base outer
 frf:∀ b∈frs outer,H b=none
 hok:HOk P w H s.heap
 bare:AllBare s.gens
def CE (outer:List Env)(P:Program)(w:World)(H:Hp)(s:Shared)(Q:VK)(u:Value)(s':Shared):Prop :=
 ∃ v H',s'.os=s.os∧AllBare s'.gens∧Un (frs outer) [] H H' s.heap s'.heap∧HOk P w H' s'.heap∧RelV v u∧Q v H'
noncomputable def CR (CX:CXT)(outer:List Env)(P:Program)(w:World)(H:Hp)(s:Shared)(Q:VK)(E:XK)(r:Result)(s':Shared):Prop :=
 match r with
 | .ok (.ret u)=>CE outer P w H s Q u s'
 | .ok _=>False
 | .error e=>CX outer H s E e s'
structure FnOk (P:Program)(w:World)(K:PySem.W.Frag)(mg:Str→Option Value)(base:Heap)(CX:CXT)(k:Nat)(f:Addr)(fd:FuncData)(ps:List Str)(sp:Sp):Prop where
 len:∀ vs H Q E,sp vs H Q E→vs.length=ps.length
 run:∀ (A:Around) (outer:List Env) (s:Shared) (H:Hp) (args:Args) (us:List Value) (vs:List V) (Q:VK) (E:XK),Room k A→Env0 P w K mg base A outer s H→BindsTo s fd args (ps.zip us)→Vals vs us→sp vs H Q E →
  codeAny (model P w) A (.call (.ref f) args) (CR CX outer P w H s Q E) s
theorem FnOk.mono {P:Program}{w:World}{K:PySem.W.Frag}{mg:Str→Option Value}{base:Heap}{CX:CXT}{j k:Nat}{f:Addr}{fd:FuncData}{ps:List Str}{sp:Sp}(F:FnOk P w K mg base CX j f fd ps sp)(h:j≤k) :
 FnOk P w K mg base CX k f fd ps sp:=⟨F.len,fun A outer s H args us vs Q E hr=>F.run A outer s H args us vs Q E (hr.mono h)⟩
theorem FnOk.imp {P:Program}{w:World}{K:PySem.W.Frag}{mg:Str→Option Value}{base:Heap}{CX:CXT}{k:Nat}{f:Addr}{fd:FuncData}{ps:List Str}{sp sp':Sp}(F:FnOk P w K mg base CX k f fd ps sp)
 (h:∀ vs H Q E,sp' vs H Q E→sp vs H Q E):FnOk P w K mg base CX k f fd ps sp' :=
 ⟨fun vs H Q E q=>F.len vs H Q E (h _ _ _ _ q),fun A outer s H args us vs Q E hr he hb hv hs=>F.run A outer s H args us vs Q E hr he hb hv (h _ _ _ _ hs)⟩
section
variable {X:Cx}{pins:List (Addr×Obj)}{σ : St}{H:Hp}{s s':Shared}
theorem Inv.env0 (I:Inv X pins σ H s):Env0 X.prog X.w X.K X.mg X.base X.A X.stack s H :=
 ⟨I.ok.frames,I.ok.mod,I.bs,Nat.le_trans I.ok.bsz I.sz,I.stack,I.stkFree,I.hok,I.bare⟩
theorem Inv.after {Q:VK}{u:Value}(I:Inv X pins σ H s)(h:CE X.stack X.prog X.w H s Q u s'):EP X pins σ Q u s':=by
 refine zc2a h fun v H' zz=>zc0e zz fun os bare un hok zz=>zc0b zz fun r q => ?_
 obtain ⟨hh,g,d,t,os'⟩:=s'
 obtain rfl:os'=s.os:=os
 exact ⟨v,H',I.call (h':=hh) (g':=g) (d':=d) (t':=t) (ch:=[]) un hok bare (fun b z=>absurd z (by simp -iota)),r,q⟩
end
noncomputable def zpf (sp:Sp)(dvs:List V)(E:XK)(t:TA):TE:=fun σ H Q=>t σ H fun vs H1=>sp (vs++dvs) H1 Q E
noncomputable def ziI (K:PySem.W.Frag)(fd:FuncData)(ps:List Str)(ds:List Value):Prop :=
 ∀ (s:Shared) (us:List Value),K.In s.heap→(us++ds).length=ps.length→BindsTo s fd ⟨us,[]⟩ (ps.zip (us++ds))
theorem ziI.all {K:PySem.W.Frag}{fd:FuncData}{ps:List Str}(h:∀ us:List Value,us.length=ps.length→bindArgs fd ⟨us,[]⟩=pure (ps.zip us)):ziI K fd ps []:=fun s us _ hl=>by
 rw [List.append_nil] at hl ⊢
 exact .of_eq (h us hl)
noncomputable def zld (CX:CXT)(X:Cx)(E:XK):Prop:=∀ (pins:List (Addr×Obj)) (σ : St) (H:Hp) (s:Shared) (e:Value) (s':Shared),Inv X pins σ H s→CX X.stack H s E e s'→X.xe e s'
section
variable {X:Cx}{CX:CXT}{k:Nat}{f C:Addr}{fd:FuncData}{ps:List Str}{sp:Sp}{dvs:List V}{ds:List Value}{E:XK}{x m:Str}{p pos apos:Pos}{e o:Expr}{es:List Expr}{ta:TE}{t:TA}
theorem zpt {pins:List (Addr×Obj)}{σ : St}{H:Hp}{s:Shared}{Q:VK}{us:List Value}{vs:List V}(F:FnOk X.prog X.w X.K X.mg X.base CX k f fd ps sp)(hr:Room k X.A)(hb:ziI X.K fd ps ds)(hd:Vals dvs ds)(hx:zld CX X E)
 (I:Inv X pins σ H s) (r:Vals vs us) (h:sp (vs++dvs) H Q E):wpAny (model X.prog X.w) X.A (call (.ref f) us) (EP X pins σ Q) X.xe s:=by
 have r2:Vals (vs++dvs) (us++ds):=r.append hd
 have hl:(us++ds).length=ps.length:=by rw [← r2.length];exact F.len _ _ _ _ h
 refine wpAny_call (codeAny_mono (F.run X.A X.stack s H ⟨us,[]⟩ (us++ds) (vs++dvs) Q E hr I.env0 (hb s us I.kIn hl) r2 h) fun r s' hq => ?_)
 cases r with
 | error e=>exact hx pins σ H s e s' I hq
 | ok fl =>
  cases fl with
  | ret u=>exact I.after hq
  | next=>exact False.elim hq
  | brk=>exact False.elim hq
  | cont=>exact False.elim hq
theorem znd (F:FnOk X.prog X.w X.K X.mg X.base CX k f fd ps sp)(hr:Room k X.A)(hg:Gl X x)(hm:X.mg x=some (.ref f))(hk:PySem.W.keepIn X.K (.ref f)=true)(hb:ziI X.K fd ps ds)(hd:Vals dvs ds)(hx:zld CX X E)
 (ha:PA X (e::es) t) (hdb:autoParam ((x == ("__debug__" : Str))=false) zav._auto_1) (he:starEach (e::es) X.env=(false,eval e X.env)::starEach es X.env:=by rfl) (hpl:(backTo pos (starEach es X.env)).any (·.1)=false:=by rfl) :
 PE X (.Call (.Name x p) (e::es) [] pos) (zpf sp dvs E t):=by
 intro pins s σ H Q I h
 refine wpAny_Call_Name_kw (zop I hg hm ?_ hdb)
 refine PySem.W.callWith_K (h₀:=X.base) I.ok.mod.kin hk (thn (ha pos pins s σ H _ I h) fun us s1 ⟨vs,H1,I1,r,q⟩=>⟨I1.kIn,?_⟩) he hpl
 exact zpt F hr hb hd hx I1 r q
end
structure FnScope (N P:List Str)(sc:Scope):Prop where
 kind:sc.kind=.function
 co:sc.isCoroutine=false
 gen:sc.isGenerator=false
 nd:N.Nodup
 pre:N.take P.length=P
 par:∀ x∈P,sc.names.lookup x=some .local∨sc.names.lookup x=some .cell
 nofree:∀ y∈sc.names,y.2 ≠ .free
theorem zf4 {kindOf:Str→Option NameKind}{x:Str}:∀ {binds:List (Str×Value)} {m:Str→Option Value},(∀ v,(x,v)∉binds)→bindL kindOf binds m x=m x
 | [],_,_=>rfl
 | (n,v)::r,m,h=>by
  unfold bindL
  rw [zf4 fun w hw=>h w (List.mem_cons_of_mem _ hw)]
  split
  ·have:x≠n:=by rintro rfl;exact h v List.mem_cons_self
   simp -iota [this]
  ·rfl
theorem zg9 {kindOf:Str→Option NameKind}{x:Str}:∀ {binds:List (Str×Value)} {m:Str→Option Value},(∀ v,(x,v)∉binds)→bindC kindOf binds m x=m x
 | [],_,_=>rfl
 | (n,v)::r,m,h=>by
  unfold bindC
  rw [zg9 fun w hw=>h w (List.mem_cons_of_mem _ hw)]
  split
  ·rfl
  ·have:x≠n:=by rintro rfl;exact h v List.mem_cons_self
   simp -iota [this]
theorem zfA {kindOf:Str→Option NameKind}{x:Str}{v:Value}:∀ {P:List Str} {vs:List Value} {i:Nat} {m:Str→Option Value},P.Nodup→P[i]? = some x→vs[i]? = some v→kindOf x=some .local →
 bindL kindOf (P.zip vs) m x=some v
 | [],_,_,_,_,h,_,_=>by simp -iota at h
 | _::_,[],_,_,_,_,h,_=>by simp -iota at h
 | p::P,w::vs,0,m,nd,h1,h2,hk=>by
  simp -iota at h1 h2;subst h1;subst h2
  show bindL kindOf ((p,w)::P.zip vs) m p=_
  unfold bindL
  rw [zf4 fun v hv=>(List.nodup_cons.mp nd).1 (List.of_mem_zip hv).1,if_pos hk]
  simp -iota
 | p::P,w::vs,i+1,m,nd,h1,h2,hk=>by
  show bindL kindOf ((p,w)::P.zip vs) m x=_
  unfold bindL
  exact zfA (i:=i) (List.nodup_cons.mp nd).2 (by simpa -iota using h1) (by simpa -iota using h2) hk
theorem zfR {kindOf:Str→Option NameKind}{x:Str}{v:Value}:∀ {P:List Str} {vs:List Value} {i:Nat} {m:Str→Option Value},P.Nodup→P[i]? = some x→vs[i]? = some v→kindOf x≠some .local →
 bindC kindOf (P.zip vs) m x=some v
 | [],_,_,_,_,h,_,_=>by simp -iota at h
 | _::_,[],_,_,_,_,h,_=>by simp -iota at h
 | p::P,w::vs,0,m,nd,h1,h2,hk=>by
  simp -iota at h1 h2;subst h1;subst h2
  show bindC kindOf ((p,w)::P.zip vs) m p=_
  unfold bindC
  rw [zg9 fun v hv=>(List.nodup_cons.mp nd).1 (List.of_mem_zip hv).1,if_neg hk]
  simp -iota
 | p::P,w::vs,i+1,m,nd,h1,h2,hk=>by
  show bindC kindOf ((p,w)::P.zip vs) m x=_
  unfold bindC
  exact zfR (i:=i) (List.nodup_cons.mp nd).2 (by simpa -iota using h1) (by simpa -iota using h2) hk
noncomputable def start (N:List Str)(vs:List V):St:=vs.map some++List.replicate (N.length-vs.length) none
noncomputable def cxOf (CX:CXT)(P:Program)(w:World)(K:PySem.W.Frag)(mg:Str→Option Value)(base:Heap)(N:List Str)(qual:Str)(scope:Scope)(f:Addr)(cd:Value)(A:Around)(outer:List Env)(s:Shared)(H:Hp)(E:XK):Cx where
 prog:=P
 w:=w
 K:=K
 mg:=mg
 base:=base
 A:=A.deeper (envOfC qual scope s.heap.objs.size f cd)
 N:=N
 s₀:=s
 H₀:=H
 env:=envOfC qual scope s.heap.objs.size f cd
 outer:=outer
 stack:=envOfC qual scope s.heap.objs.size f cd::outer
 ex:=[]
 calm:=true
 fn:=fun _=>true
 pn:=[]
 xe:=fun e s'=>wpAny (model P w) (A.deeper (envOfC qual scope s.heap.objs.size f cd)) (leaving (envOfC qual scope s.heap.objs.size f cd) e) (fun _ s''=>CX outer H s E e s'') (fun e' s''=>CX outer H s E e' s'') s'
theorem zhJ {sc:Scope}{n:Nat}{x:Str}(h:sc.names.lookup x=some .cell):∃ c,(cellsFrom n sc.names []).lookup x=some c:=by
 have q:=PySem.W.cellsFrom_some sc.names n [] (.inl h)
 exact Option.isSome_iff_exists.mp q
theorem zjU {CX:CXT}{P:Program}{w:World}{K:PySem.W.Frag}{mg:Str→Option Value}{base:Heap}{N ps:List Str}{qual:Str}{scope:Scope}{f:Addr}{cd:Value}{A:Around}{outer:List Env}{s s1:Shared}{H:Hp}{E:XK}{us:List Value}{vs:List V}
 (S:FnScope N ps scope) (hd:A.handled=none) (e0:Env0 P w K mg base A outer s H) (hl:vs.length=ps.length) (r:Vals vs us)
 (x:InCallC s s.heap.objs.size (bindL (envOfC qual scope s.heap.objs.size f cd).kindOf (ps.zip us) fun _=>none) (cellsFrom (s.heap.objs.size+1) scope.names []) (bindC (envOfC qual scope s.heap.objs.size f cd).kindOf (ps.zip us) fun _=>none) s1) :
 Inv (cxOf CX P w K mg base N qual scope f cd A outer s H E) [] (start N vs) H s1:=by
 have hpl:ps.length≤N.length:=by have:=congrArg List.length S.pre;rw [List.length_take] at this;omega
 refine zc2b x.done fun h1 tk zr2 hk => ?_
 obtain rfl:=zr2
 have noA:∀ b:Addr,b∉(cxOf CX P w K mg base N qual scope f cd A outer s H E).ex:=fun b z=>absurd (show b∈([]:List Addr) from z) (by simp -iota)
 refine ⟨⟨e0.mod,S.kind,rfl,rfl,Nat.le_refl _,fun y z c h1 h2 => ?_,fun y hy => ?_,fun y c _ h => ?_,fun _=>hd,Around.frames_deeper e0.frames,.inr ⟨rfl,rfl⟩,fun b z=>absurd z (noA b),e0.bs,e0.bsz,fun b _ _=>noA b,fun b z=>absurd z (noA b),e0.funs,e0.frf⟩,
  rfl,e0.bare,Un.kept hk,⟨_,x.toInCall.ns,fun i y v h1 h2 h3 => ?_⟩,fun y c h=>⟨_,x.cell y c h⟩,e0.hok.fresh (Nat.le_refl _),fun y c h => ?_,fun p hp=>absurd (show p∈([]:List (Addr×Obj)) from hp) (by simp -iota),e0.hok.kept hk,?_⟩
 ·exact name_of_addr x.apart (PySem.mem_of_lookup h1) (PySem.mem_of_lookup h2)
 ·have hy:scope.names.lookup y=some .cell∨scope.names.lookup y=some .free:=hy
  rcases hy with hy|hy
  ·exact zhJ hy
  ·exact absurd rfl (S.nofree _ (PySem.mem_of_lookup hy))
 ·exact Nat.le_of_lt (x.above y c (PySem.mem_of_lookup h))
 ·have hi:i<vs.length:=by
   unfold start at h2
   by_cases hi:i<vs.length
   ·exact hi
   ·rw [List.getElem?_append_right (by simpa -iota using hi)] at h2
    rw [List.getElem?_replicate] at h2
    split at h2<;>cases h2
  have ha:vs[i]? = some v:=by
   unfold start at h2
   rw [List.getElem?_append_left (by simpa -iota using hi),List.getElem?_map] at h2
   cases e:vs[i]? with
   | none=>rw [e] at h2;cases h2
   | some a=>rw [e] at h2;cases h2;rfl
  refine zc1b (r.get ha) fun u hu rv => ?_
  have hp:ps[i]? = some y:=by
   rw [← S.pre,List.getElem?_take_of_lt (by omega)];exact h1
  have ndP:ps.Nodup:=by rw [← S.pre];exact S.nd.sublist (List.take_sublist _ _)
  refine ⟨u,rv,?_⟩
  rcases S.par y (List.mem_of_getElem? hp) with k|k
  ·exact .inl ⟨k,zfA ndP hp hu k⟩
  ·obtain ⟨c,e⟩:=zhJ (n:=s.heap.objs.size+1) k
   refine .inr ⟨.inl k,c,e,?_⟩
   have q:=x.cell y c e
   rw [zfR ndP hp hu (by show scope.names.lookup y≠_;rw [k];decide)] at q
   exact q
 ·exact e0.hok.fresh (Nat.le_of_lt (x.above y c (PySem.mem_of_lookup h)))
 ·unfold start
  show _=N.length
  rw [List.length_append,List.length_map,List.length_replicate]
  omega
theorem fn_of {CX:CXT}{P:Program}{w:World}{K:PySem.W.Frag}{mg:Str→Option Value}{base:Heap}{k:Nat}{f:Addr}{name qual:Str}{params:Arguments}{body:List Stmt}{scope:Scope}{dV kV doc pm cdv ct oc:Value}{an od:Option Addr}
 {osl:Array (Option Value)} {N ps:List Str} {sp:Sp} (lk:K.lookup f=some ⟨oc,od,.func (PySem.W.fnOf name qual params body scope dV kV doc pm an cdv ct),osl⟩) (hcd:PySem.W.codeIn K cdv qual=true) (S:FnScope N ps scope)
 (len:∀ vs H Q E,sp vs H Q E→vs.length=ps.length)
 (hbody:∀ (A:Around) (outer:List Env) (s:Shared) (H:Hp) (vs:List V) (Q:VK) (E:XK),Room k (A.deeper (envOfC qual scope s.heap.objs.size f cdv))→sp vs H Q E →
  ∃ t,PSs (cxOf CX P w K mg base N qual scope f cdv A outer s H E) body t∧t { nx:=fun _ H'=>Q .non H',rt:=Q } (start N vs) H) :
 FnOk P w K mg base CX (k+1) f (PySem.W.fnOf name qual params body scope dV kV doc pm an cdv ct) ps sp:=by
 refine ⟨len,fun A outer s H args us vs Q E hr e0 hb r hsp => ?_⟩
 have hl:=len _ _ _ _ hsp
 have KX:K.In s.heap:=e0.mod.kin.keeps fun b o e=>(e0.bs b o e).1
 have lim:s.heap.NoLimit:=e0.mod.nolimit.keeps fun b o e=>(e0.bs b o e).1
 have hkind:∀ y∈ps.zip us,scope.names.lookup y.1=some .local∨(scope.names.lookup y.1=some .cell∧((cellsFrom (s.heap.objs.size+1) scope.names []).lookup y.1).isSome=true):=fun ⟨n,v⟩ hy=>by
  rcases S.par n (List.of_mem_zip hy).1 with q|q
  ·exact .inl q
  ·exact .inr ⟨q,PySem.W.cellsFrom_some _ _ _ (.inl q)⟩
 refine codeAny_call_function hr.depth (KX _ _ lk) rfl S.co S.gen rfl (PySem.W.codeRec_of KX hcd) (hb _ _ _ _ ?_)
 refine wpAny_newFunctionEnv_cells S.kind hkind fun env he s1 x => ?_
 subst he
 refine ⟨lim.keeps x.toInCall.keep,codeAny_func ?_⟩
 refine zc1b (hbody A outer s H vs Q E (hr.deeper _) hsp) fun t ht hq => ?_
 have I:Inv (cxOf CX P w K mg base N qual scope f cdv A outer s H E) [] (start N vs) H s1:=zjU S hr.hd e0 hl r x
 refine wpAny_mono (ht [] s1 (start N vs) H _ I hq) (fun fl s' hs => ?_) fun e s' hs=>hs
 have fin:∀ {σ':St} {H':Hp} {v:V} {u:Value},Inv (cxOf CX P w K mg base N qual scope f cdv A outer s H E) [] σ' H' s'→RelV v u→Q v H'→CE outer P w H s Q u s' :=
  fun {σ' H' v u} J rv q=>⟨v,H',J.os,J.bare,J.base,J.hok,rv,q⟩
 cases fl with
 | ret u =>
  refine zc3c hs fun v σ' H' J rv q => ?_
  exact fin J rv q
 | next =>
  refine zc2b hs fun σ' H' J q => ?_
  exact fin (v:=V.non) (u:=Value.none) J rfl q
 | brk =>
  refine zc2b hs fun _ _ _ q => ?_
  exact False.elim q
 | cont =>
  refine zc2b hs fun _ _ _ q => ?_
  exact False.elim q
end L2
namespace L2
open PySem PySem.Spec PyProof.Rows
section
variable {X:Cx}{x:Str}{p pos:Pos}{e:Expr}{es:List Expr}{t:TA}{id T:String}{r:List V→Hp→VK→Prop}
noncomputable def tCB (r:List V→Hp→VK→Prop)(t:TA):TE:=fun σ H Q=>t σ H fun vs H1=>r vs H1 Q
theorem zfx (hc:za1 X (.builtin id) r)(hg:Gl X x)(hm:X.mg x=none)(hv:bootBuiltins x=some (.builtin id))(ha:PA X (e::es) t)(hn:autoParam (x ≠ "__name__") zav._auto_1)(hdb:autoParam ((x == ("__debug__" : Str))=false) zav._auto_1)
 (he:autoParam (starEach (e::es) X.env=(false,eval e X.env)::starEach es X.env) zau._auto_1) (hpl:autoParam ((backTo pos (starEach es X.env)).any (·.1)=false) zau._auto_1):PE X (.Call (.Name x p) (e::es) [] pos) (tCB r t):=by
 intro pins s σ H Q I h
 refine wpAny_Call_Name_kw (zeB I hg hm hv ?_ hn hdb)
 exact PyProof.Rows.callWith_builtin1 (thn (ha pos pins s σ H _ I h) (by rintro us s1 ⟨vs,H1,I1,r1,q1⟩;exact hc pins s1 σ H1 vs us Q I1 r1 q1)) he hpl
theorem zdL (hc:za1 X (.type T) r)(hg:Gl X x)(hm:X.mg x=none)(hv:bootBuiltins x=some (.type T))(ha:PA X (e::es) t)(hn:autoParam (x ≠ "__name__") zav._auto_1)(hdb:autoParam ((x == ("__debug__" : Str))=false) zav._auto_1)
 (he:autoParam (starEach (e::es) X.env=(false,eval e X.env)::starEach es X.env) zau._auto_1) (hpl:autoParam ((backTo pos (starEach es X.env)).any (·.1)=false) zau._auto_1):PE X (.Call (.Name x p) (e::es) [] pos) (tCB r t):=by
 intro pins s σ H Q I h
 refine wpAny_Call_Name_kw (zeB I hg hm hv ?_ hn hdb)
 exact PyProof.Rows.callWith_type1 (thn (ha pos pins s σ H _ I h) (by rintro us s1 ⟨vs,H1,I1,r1,q1⟩;exact hc pins s1 σ H1 vs us Q I1 r1 q1)) he hpl
end
end L2
namespace HT
open PySem PyProof.Rows
noncomputable def lexLt:List Int→List Int→Bool
 | [],[]=>false
 | [],_::_=>true
 | _::_,[]=>false
 | x::xs,y::ys=>if x=y then lexLt xs ys else decide (x<y)
theorem lexLt_cons (x y:Int)(xs ys:List Int):lexLt (x::xs) (y::ys)=if x=y then lexLt xs ys else decide (x<y):=rfl
theorem lexLt_nil_nil:lexLt [] []=false:=rfl
theorem zek (y:Int)(ys:List Int):lexLt [] (y::ys)=true:=rfl
theorem zeg (x:Int)(xs:List Int):lexLt (x::xs) []=false:=rfl
theorem zmy (A:Around)(s:Shared)(a:Int)(t:Tok)(c:Int)(u:Tok):∃ e,SeqAt.EqAt A s (.int a t) (.int c u) e∧(e=true↔a=c) :=
 ⟨(a == c),SeqAt.EqAt.int_int a t c u,by simp -iota⟩
theorem zlr (A:Around)(s:Shared)(a:Int)(t:Tok)(c:Int)(u:Tok)(prog:Program)(w:World)(E:Value→Shared→Prop)(Q:Value→Shared→Prop)(h:Q (.bool (decide (a<c))) s) :
 wpAny (model prog w) A (richCompare .Lt (.int a t) (.int c u)) Q E s :=
 (PyProof.Rows.lt_int h:wpAny (model prog w) A (compareOp .Lt (.int a t) (.int c u)) Q E s)
section
open PySem.SeqAt
open PySem.AutoSeq1 (wpAny_loadPart')
open PySem.MeetsSeq PySem.MeetsSeq2 PySem.MeetsSeq3
theorem zeO (l b:Addr)(items items2:Array Value)(n n2:Nat)(dd dd2:Option Addr)(sl sl2:Array (Option Value))(ns ms:List Int)(hi:IntsAre items.toList ns)(hj:IntsAre items2.toList ms) :
 Meets (Builtin.«tuple.__lt__» ⟨[.ref l,.ref b],[]⟩)
  (fun _ R s=>s.heap.get? l=some { cls:=.type "tuple",dict:=dd,data:=.seq items n,slots:=sl }∧s.heap.get? b=some { cls:=.type "tuple",dict:=dd2,data:=.seq items2 n2,slots:=sl2 } ∧
   R (.ok (.ret (.bool (lexLt ns ms)))) s) :=
 .of_wp fun prog w A R s h=>by
  obtain ⟨hp,g,d,tk,os⟩:=s;obtain ⟨hl,hb,h⟩:=h
  have f2:=AutoSeq1.sub_tuple_tuple
  have z1:items.size=ns.length:=by rw [← hi.length];simp -iota
  have z2:items2.size=ms.length:=by rw [← hj.length];simp -iota
  wp_walk using wpAny_loadPart' hl,wpAny_loadPart' hb,wpAny_forIn_list _ (fun rest b s'=>b.1=none∧s'=⟨hp,g,d,tk,os⟩∧∃ (vs ws:List Value) (ns' ms':List Int),rest=vs.zip ws ∧
   IntsAre vs ns'∧IntsAre ws ms'∧ns'.length+items2.size=ms'.length+items.size∧R (.ok (.ret (.bool (lexLt ns' ms')))) ⟨hp,g,d,tk,os⟩) _
  case turn =>
   rintro ⟨y,x⟩ rest b s' ⟨hb',rfl,vs,ws,ns',ms',hz,hvi,hwi,hlen,hR⟩
   cases hvi with
   | nil=>rw [List.zip_nil_left] at hz;cases hz
   | cons a t hvi' =>
    cases hwi with
    | nil=>rw [List.zip_nil_right] at hz;cases hz
    | cons c u hwi' =>
     rw [List.zip_cons_cons] at hz
     injection hz with hyx hrest
     injection hyx with hy hx
     subst hy hx
     rw [lexLt_cons] at hR
     simp -iota only [List.length_cons] at hlen
     refine zc1b (zmy A.in1 ⟨hp,g,d,tk,os⟩ a t c u) fun e he hiff => ?_
     refine wpAny_bind (he prog w _ _ ?_)
     cases e with
     | true =>
      rw [if_pos (hiff.mp rfl)] at hR
      wp_walk
      exact ⟨rfl,rfl,_,_,_,_,hrest,hvi',hwi',by omega,hR⟩
     | false =>
      rw [if_neg (fun q=>absurd (hiff.mpr q) Bool.false_ne_true)] at hR
      have hri:=zlr A.in1 ⟨hp,g,d,tk,os⟩ a t c u prog w
      wp_walk using hri
      exact ⟨_,rfl,by simpa -iota using hR⟩
  case fin =>
   rintro ⟨b1,b2⟩ s' ⟨hb',rfl,vs,ws,ns',ms',hz,hvi,hwi,hlen,hR⟩
   simp -iota only at hb'
   subst hb'
   have hv:lexLt ns' ms'=decide (items.size<items2.size):=by
    cases hvi with
    | nil =>
     cases hwi with
     | nil =>
      simp -iota only [List.length_nil] at hlen
      rw [lexLt_nil_nil]
      exact (decide_eq_false (by omega)).symm
     | cons c u hw =>
      simp -iota only [List.length_nil,List.length_cons] at hlen
      rw [zek]
      exact (decide_eq_true (by omega)).symm
    | cons a t hv =>
     cases hwi with
     | nil =>
      simp -iota only [List.length_nil,List.length_cons] at hlen
      rw [zeg]
      exact (decide_eq_false (by omega)).symm
     | cons c u hw =>
      rw [List.zip_cons_cons] at hz
      cases hz
   rw [hv] at hR
   wp_walk
   exact ⟨_,rfl,by simpa -iota [Builtin.Tuple.tupleCompareSizes] using hR⟩
  case h =>
   exact ⟨rfl,rfl,items.toList,items2.toList,ns,ms,rfl,hi,hj,by omega,h⟩
end
section
variable {prog:Program}{w:World}{A:Around}{E:Value→Shared→Prop}{s:Shared}
theorem lt_tupInts {l b:Addr}{items items2:Array Value}{ns ms:List Int}{Q:Value→Shared→Prop}(hl:IsTup s.heap l items)(hb:IsTup s.heap b items2)(hi:IntsAre items.toList ns)(hj:IntsAre items2.toList ms)
 (hu:A.units<cLine) (h:Q (.bool (lexLt ns ms)) s):wpAny (model prog w) A (compareOp .Lt (.ref l) (.ref b)) Q E s:=by
 refine zc1c (id hl) fun zr0 ho hc zz=>zc1a zz fun n hd => ?_
 obtain ⟨cls,dd,data,sl⟩:=zr0
 refine zc1c (id hb) fun zr0 ho2 hc2 zz=>zc1a zz fun n2 hd2 => ?_
 obtain ⟨cls2,dd2,data2,sl2⟩:=zr0
 simp -iota only at hc hd hc2 hd2
 subst hc hd hc2 hd2
 exact richCompare_meets_room (op:=.Lt) ⟨_,ho,rfl⟩ ⟨_,ho2,rfl⟩ PySem.F.slot_tuple_lt PySem.F.entry_tuple_lt (PySem.F.args_tuple_lt_2 _ _) (zeO l b items items2 n n2 dd dd2 sl sl2 ns ms hi hj)
  ⟨ho,ho2,show Value.bool (lexLt ns ms)≠Value.notImplemented∧Q (.bool (lexLt ns ms)) s from ⟨(fun x=>nomatch x),h⟩⟩ hu
theorem cat_tup {t b:Addr}{vs ws:List Value}{Q:Value→Shared→Prop}(ht:IsTup s.heap t vs.toArray)(hb:IsTup s.heap b ws.toArray)(hv:vs ≠ [])
 (h1:ws=[]→Q (.ref t) s) (h2:ws ≠ []→Q (.ref s.heap.objs.size) { s with heap:=s.heap.push { cls:=.type "tuple",data:=.seq (vs++ws).toArray } })
 (hsz:vs.length+ws.length≤sizeLine):wpAny (model prog w) A (binaryOp .Add (.ref t) (.ref b)) Q E s:=by
 refine zc1c (id ht) fun zr0 ho hc zz=>zc1a zz fun n hd => ?_
 obtain ⟨cls,dd,data,sl⟩:=zr0
 refine zc1c (id hb) fun zr0 ho2 hc2 zz=>zc1a zz fun n2 hd2 => ?_
 obtain ⟨cls2,dd2,data2,sl2⟩:=zr0
 simp -iota only at hc hd hc2 hd2
 subst hc hd hc2 hd2
 have e:vs.toArray++ws.toArray=(vs++ws).toArray:=by simp -iota
 by_cases hw:ws=[]
 ·exact concat_meets ⟨_,ho,rfl⟩ ⟨_,ho2,rfl⟩ noFill_tuple_add seq_tuple_add PySem.F.slot_tuple_add PySem.F.entry_tuple_add (PySem.F.args_tuple_add_2 _ _)
   (tuple_addW1 t b vs.toArray ws.toArray n n2 dd dd2 sl sl2 (by simpa -iota using hv) (by simp -iota [hw])) ⟨ho,ho2,h1 hw⟩
 ·refine concat_meets ⟨_,ho,rfl⟩ ⟨_,ho2,rfl⟩ noFill_tuple_add seq_tuple_add PySem.F.slot_tuple_add PySem.F.entry_tuple_add (PySem.F.args_tuple_add_2 _ _)
   (tuple_addW2 t b vs.toArray ws.toArray n n2 dd dd2 sl sl2 (by simpa -iota using hv) (by simpa -iota using hw) (by rw [List.size_toArray,List.size_toArray];exact hsz)) ⟨ho,ho2,?_⟩
  rw [e]
  exact h2 hw
end
end HT
namespace L2
open PySem PySem.Spec PyProof.Rows
theorem zid {ns:List Int}:∀ {us:List Value},Vals (ns.map V.int) us→IntsAre us ns:=by
 induction ns with
 | nil=>intro us r;rw [List.map_nil] at r;cases r;exact .nil
 | cons n ns ih =>
  intro us r
  rw [List.map_cons] at r
  cases r with
  | cons r1 r2 =>
   obtain ⟨t,e⟩:=r1
   subst e
   exact .cons n t (ih r2)
section
variable {X:Cx}{e:Expr}{te:TE}{lo hi:Option Expr}{tl th:TO}{pos p2:Pos}
def rCatT (K:PySem.W.Frag):R2:=fun x y H Q => ∃ a b xs ys,x=.ref a∧y=.ref b∧SqT K H a xs∧SqT K H b ys∧xs ≠ []∧xs.length+ys.length≤sizeLine ∧
 (ys=[]→Q (.ref a) H)∧(ys ≠ []→∀ p,H p=none→Q (.ref p) (upd H p (.tup (xs++ys))))
theorem Vals.nil_iff {xs:List V}{us:List Value}(r:Vals xs us):us=[]↔xs=[]:=by
 cases r with
 | nil=>simp -iota
 | cons _ _=>simp -iota
theorem zn5:OpR X (binaryOp .Add) (rCatT X.K):=by
 intro pins s σ H x y v u Q I rx ry h
 refine zc4a h fun a b xs ys zz=>zc0e zz fun zr4 zr5 ha hb zz=>zc0d zz fun hx hz q1 q2 => ?_
 obtain rfl:=zr4
 obtain rfl:=zr5
 cases rx
 cases ry
 refine zc1c (I.tuple ha) fun its r1 p1 _ => ?_
 refine zc1c (I.tuple hb) fun its2 r2 p2 _ => ?_
 refine HT.cat_tup p1 p2 (fun z=>hx (r1.nil_iff.mp z)) (fun z=>⟨.ref a,H,I,rfl,q1 (r2.nil_iff.mp z)⟩) (fun z => ?_) (by rw [← r1.length,← r2.length];exact hz)
 refine ⟨.ref s.heap.objs.size,_,I.laid (t':=s.toks) (o:=.tup (xs++ys)) (fun b ob q=>Heap.get?_push_of_some _ q) (Nat.le_refl _) ?_,rfl,q2 (fun w=>z (r2.nil_iff.mpr w)) _ (I.hok.fresh (Nat.le_refl _))⟩
 exact ⟨⟨by rw [List.length_append];exact hz,⟨_,Heap.get?_push_size _ rfl,rfl⟩⟩,_,r1.append r2,IsTup.new _ _⟩
end
end L2
namespace L2
open PySem PySem.Spec PyProof.Rows
noncomputable def ixN (n:Nat)(i:Int):Option Nat:=if 0≤i then (if i<n then some i.toNat else none) else if -(n:Int)≤i then some (i+n).toNat else none
def atI {α : Type}(xs:List α)(i:Int):Option α := (ixN xs.length i).bind fun j=>xs[j]?
theorem znq {n:Nat}{i:Int}{j:Nat}(h:ixN n i=some j):seqIndex? i n=some j∧j<n ∧ -(n:Int)≤i∧i<n:=by
 unfold ixN at h
 by_cases h0:0≤i
 ·rw [if_pos h0] at h
  by_cases h1:i<n
  ·rw [if_pos h1] at h
   have e:i.toNat=j:=Option.some.inj h
   exact ⟨by rw [seqIndex_of h0 h1,e],by omega,by omega,h1⟩
  ·rw [if_neg h1] at h;cases h
 ·rw [if_neg h0] at h
  by_cases h1 : -(n:Int)≤i
  ·rw [if_pos h1] at h
   have e:(i+n).toNat=j:=Option.some.inj h
   exact ⟨by rw [seqIndex_neg (by omega) h1,e],by omega,h1,by omega⟩
  ·rw [if_neg h1] at h;cases h
theorem zgZ {α : Type}{xs:List α}{i:Int}{v : α}(h:atI xs i=some v):∃ j,seqIndex? i xs.length=some j∧xs[j]? = some v∧j<xs.length ∧ -(xs.length:Int)≤i∧i<xs.length:=by
 unfold atI at h
 cases e:ixN xs.length i with
 | none=>rw [e] at h;cases h
 | some j =>
  rw [e] at h
  refine zc0d (znq e) fun h1 h2 h3 h4 => ?_
  exact ⟨j,h1,h,h2,h3,h4⟩
noncomputable def zkR (b:Expr):Prop:=∀ o i,subscripted b false o i=operate [o,i] (getItem o i)
def IxR (X:Cx)(r:R2):Prop :=
 ∀ (value slice:Expr) (pins:List (Addr×Obj)) (s:Shared) (σ : St) (H:Hp) (x y:V) (v u:Value) (Q:VK),Inv X pins σ H s→RelV x v→RelV y u→r x y H Q →
  subscripted slice false v u=operate [v,u] (getItem v u)→wpAny (model X.prog X.w) X.A (subscriptTail value slice v u) (EP X pins σ Q) X.xe s
def MtR (X:Cx)(id:String)(r:V→List V→Hp→VK→Prop):Prop :=
 ∀ (pins:List (Addr×Obj)) (s:Shared) (σ : St) (H:Hp) (x:V) (xs:List V) (v:Value) (us:List Value) (Q:VK),Inv X pins σ H s→RelV x v→Vals xs us→r x xs H Q →
  wpAny (model X.prog X.w) X.A (call (.builtin id) (v::us)) (EP X pins σ Q) X.xe s
section
variable {X:Cx}{a b:Expr}{ta tb:TE}{pos:Pos}
theorem IxR.or {r r':R2}(h:IxR X r)(h':IxR X r'):IxR X (fun x y H Q=>r x y H Q∨r' x y H Q):=by
 intro value slice pins s σ H x y v u Q I rx ry q hs
 rcases q with q|q
 ·exact h value slice pins s σ H x y v u Q I rx ry q hs
 ·exact h' value slice pins s σ H x y v u Q I rx ry q hs
theorem pe_ix {r:R2}(hr:IxR X r)(ha:PE X a ta)(hb:PE X b tb)(hs:zkR b):PE X (.Subscript a b pos) (tOp r ta tb):=by
 intro pins s σ H Q I h
 exact Subscript_ (binT ha hb I h fun v u s2 x y H2 I2 rx ry q=>hr a b pins s2 σ H2 x y v u Q I2 rx ry q (hs _ _))
def rIxL (K:PySem.W.Frag):R2:=fun x y H Q => ∃ p xs i v,x=.ref p∧y=.int i∧SqL K H p xs∧atI xs i=some v∧Q v H
def rIxT (K:PySem.W.Frag):R2:=fun x y H Q => ∃ p xs i v,x=.ref p∧y=.int i∧SqT K H p xs∧atI xs i=some v∧Q v H
def rIxS:R2:=fun x y H Q => ∃ z i c,x=.str z∧y=.int i∧z.length≤sizeLine∧atI z.cps.toList i=some c∧Q (.str ⟨#[c]⟩) H
theorem zn4:IxR X (rIxL X.K):=by
 intro value slice pins s σ H x y v u Q I rx ry h hs
 refine zc4a h fun p xs i z zz=>zc0e zz fun zr4 zr5 hq he q => ?_
 obtain rfl:=zr4
 obtain rfl:=zr5
 cases rx
 obtain ⟨t,rfl⟩:=ry
 refine zc1c (I.list hq) fun its r pl hz => ?_
 refine zc1e (zgZ he) fun j h1 h2 h3 h4 h5 => ?_
 refine zc1b (r.get h2) fun w ew rw' => ?_
 have hl:=r.length
 have hn:=zfZ
 have fin:EP X pins σ Q w s:=⟨z,H,I,rw',q⟩
 by_cases h0:0≤i
 ·have hj:i.toNat=j:=by
   rw [seqIndex_of h0 h5] at h1
   exact Option.some.inj h1
  exact item_listR pl.isList h0 (by omega) (by rw [hj];simpa -iota using ew) fin hs
 ·have hj:(i+(its.toArray.size:Int)).toNat=j:=by
   rw [seqIndex_neg (by omega) h4] at h1
   rw [List.size_toArray,← hl]
   exact Option.some.inj h1
  exact subscriptTail_builtinR (x:=w) pl.isList.typeIs slot_list_getitem.lookup
   (wpAny_getItem_list_neg (Q:=fun r s'=>r=w∧EP X pins σ Q r s') pl.isList (by omega) (by rw [List.size_toArray]<;>omega) (by omega) (by rw [hj];simpa -iota using ew) ⟨rfl,fin⟩) hs
theorem zqk:IxR X (rIxT X.K):=by
 intro value slice pins s σ H x y v u Q I rx ry h hs
 refine zc4a h fun p xs i z zz=>zc0e zz fun zr4 zr5 hq he q => ?_
 obtain rfl:=zr4
 obtain rfl:=zr5
 cases rx
 obtain ⟨t,rfl⟩:=ry
 refine zc1c (I.tuple hq) fun its r pl hz => ?_
 refine zc1e (zgZ he) fun j h1 h2 h3 h4 h5 => ?_
 refine zc1b (r.get h2) fun w ew rw' => ?_
 have hl:=r.length
 have hn:=zfZ
 have fin:EP X pins σ Q w s:=⟨z,H,I,rw',q⟩
 exact subscriptTail_builtinR (x:=w) pl.typeIs slot_tuple_getitem.lookup
  (getItem_tuple (j:=j) (Q:=fun r s'=>r=w∧EP X pins σ Q r s') pl (by omega) (by omega) (by rw [List.size_toArray,← hl];exact h1) (by simpa -iota using ew) ⟨rfl,fin⟩) hs
theorem zqs:IxR X rIxS:=by
 intro value slice pins s σ H x y v u Q I rx ry h hs
 refine zc3a h fun z i c zz=>zc0e zz fun zr3 zr4 hz he q => ?_
 obtain rfl:=zr3
 obtain rfl:=zr4
 obtain ⟨t,rfl⟩:=rx
 obtain ⟨t',rfl⟩:=ry
 refine zc1e (zgZ he) fun j h1 h2 h3 h4 h5 => ?_
 have hl:z.cps.toList.length=z.length:=by simp -iota [Str.length]
 rw [hl] at h1 h4 h5
 have hn:=zfZ
 exact tail_any (typeIs_str s z t) slot_str_getitem.lookup (getItem_str (c:=c) (by
  have e1:decide (i < -(2 ^ 63:Int))=false:=decide_eq_false (by omega)
  have e2:decide (i ≥ 2 ^ 63)=false:=decide_eq_false (by omega)
  rw [e1,e2,Bool.or_false]) (by rw [h1];simpa -iota using h2) ⟨.str ⟨#[c]⟩,H,I.tok _,⟨_,rfl⟩,q⟩) hs
def rIx (K:PySem.W.Frag):R2:=fun x y H Q=>rIxL K x y H Q∨rIxT K x y H Q∨rIxS x y H Q
theorem zqp:IxR X (rIx X.K):=zn4.or (zqk.or zqs)
theorem zgD:za1 X (.builtin "len") (fun xs H Q => ∃ p ys,xs=[.ref p]∧(SqL X.K H p ys∨SqT X.K H p ys)∧Q (.int ys.length) H):=by
 intro pins s σ H xs us Q I r h
 refine zc2c h fun p ys zr2 hq q => ?_
 obtain rfl:=zr2
 refine zc1b (zdm r) fun u zr1 rx => ?_
 obtain rfl:=zr1
 cases rx
 have hn:=zfZ
 rcases hq with hq|hq
 ·refine zc1c (I.list hq) fun its r' pl hz => ?_
  have hlen:=r'.length
  exact Calls.call_len_list pl.isList (by simp -iota only [List.size_toArray]<;>omega) ⟨.int ys.length,H,I.tok _,⟨s.toks+1,by rw [List.size_toArray,hlen]⟩,q⟩
 ·refine zc1c (I.tuple hq) fun its r' pl hz => ?_
  have hlen:=r'.length
  exact len_tuple pl (by simp -iota only [List.size_toArray]<;>omega) ⟨.int ys.length,H,I.tok _,⟨s.toks+1,by rw [List.size_toArray,hlen]⟩,q⟩
theorem zf6:za1 X (.builtin "len") (fun xs H Q => ∃ z,xs=[.str z]∧z.length≤sizeLine∧Q (.int z.length) H):=by
 intro pins s σ H xs us Q I r h
 obtain ⟨z,rfl,hz,q⟩:=h
 obtain ⟨u,rfl,t,rfl⟩:=zdm r
 have hn:=zfZ
 exact len_str (by omega) ⟨.int z.length,H,I.tok _,⟨_,rfl⟩,q⟩
theorem za1.or {f:Value}{r r':List V→Hp→VK→Prop}(h:za1 X f r)(h':za1 X f r'):za1 X f (fun xs H Q=>r xs H Q∨r' xs H Q):=by
 intro pins s σ H xs us Q I rs q
 rcases q with q|q
 ·exact h pins s σ H xs us Q I rs q
 ·exact h' pins s σ H xs us Q I rs q
theorem zfT:za1 X (.type "list") (fun xs H Q => ∃ p ys,xs=[.ref p]∧(SqL X.K H p ys∨SqT X.K H p ys)∧∀ l,H l=none→Q (.ref l) (upd H l (.lst ys))):=by
 intro pins s σ H xs us Q I r h
 refine zc2c h fun p ys zr2 hq q => ?_
 obtain rfl:=zr2
 refine zc1b (zdm r) fun u zr1 rx => ?_
 obtain rfl:=zr1
 cases rx
 have fin:∀ (its:List Value),Vals ys its→ys.length≤sizeLine→∀ (h':Heap) (c':Nat),(∀ b o',s.heap.get? b=some o'→h'.get? b=some o') →
  h'.get? s.heap.objs.size=some { cls:=.type "list",dict:=none,data:=.seq its.toArray c',slots:=#[] }→EP X pins σ Q (.ref s.heap.objs.size) { s with heap:=h' }:=fun its r' hz h' c' kp e =>
  ⟨.ref s.heap.objs.size,_,I.laid (t':=s.toks) kp (Nat.le_refl _) (show zaL X.prog X.w _ h' _ (.lst ys) from ⟨hz,its,c',r',e⟩),rfl,q _ (I.hok.fresh (Nat.le_refl _))⟩
 rcases hq with hq|hq
 ·refine zc1c (I.list hq) fun its r' pl hz => ?_
  have hlen:=r'.length
  refine zc1c pl.isList fun o ho hc zz=>zc1a zz fun n hd => ?_
  exact call_list_seq p (.inl rfl) ho hc hd (fun h' c' kp e=>fin its r' hz h' c' kp e) (by simp -iota only [List.size_toArray]<;>omega)
 ·refine zc1c (I.tuple hq) fun its r' pl hz => ?_
  have hlen:=r'.length
  refine zc1c pl fun o ho hc zz=>zc1a zz fun n hd => ?_
  exact call_list_seq p (.inr rfl) ho hc hd (fun h' c' kp e=>fin its r' hz h' c' kp e) (by simp -iota only [List.size_toArray]<;>omega)
theorem zfv:za1 X (.type "tuple") (fun xs H Q => ∃ p ys,xs=[.ref p]∧((SqL X.K H p ys∧∀ l,H l=none→Q (.ref l) (upd H l (.tup ys)))∨(SqT X.K H p ys∧Q (.ref p) H))):=by
 intro pins s σ H xs us Q I r h
 obtain ⟨p,ys,rfl,h⟩:=h
 obtain ⟨u,rfl,rx⟩:=zdm r
 cases rx
 rcases h with ⟨hq,q⟩|⟨hq,q⟩
 ·obtain ⟨its,r',pl,hz⟩:=I.list hq
  have hlen:=r'.length
  refine call_tuple_list pl.isList (fun h' kp => ?_) (by simp -iota only [List.size_toArray]<;>omega)
  have I1:Inv X pins σ H { s with heap:=h' }:=I.kept (t':=s.toks) kp
  have I2:Inv X pins σ (upd H h'.objs.size (.tup ys)) { s with heap:=h'.push { cls:=.type "tuple",data:=.seq its.toArray } } :=
   I1.laid (t':=s.toks) (fun b o e=>Heap.get?_push_of_some _ e) (Nat.le_refl _) (show zaL X.prog X.w _ _ _ (.tup ys) from ⟨⟨hz,⟨_,Heap.get?_push_size _ rfl,rfl⟩⟩,its,r',IsTup.new _ _⟩)
  exact ⟨.ref h'.objs.size,_,I2,rfl,q _ (I1.hok.fresh (Nat.le_refl _))⟩
 ·obtain ⟨its,r',pl,hz⟩:=I.tuple hq
  exact call_tuple_same pl ⟨.ref p,H,I,rfl,q⟩
def tyV (K:PySem.W.Frag)(T:String)(x:V)(H:Hp):Prop:=match x with
 | .str _=>T = "str"
 | .int _=>T = "int"
 | .ref p=>(T = "list" ∧ ∃ xs,SqL K H p xs)∨(T = "tuple" ∧ ∃ o,K.lookup p=some o∧o.cls=.type "tuple" ∧ o.dict=none) ∨
  (T = "dict" ∧ ((∃ kvs,H p=some (.dK kvs))∨∃ kvs,H p=some (.dT kvs)))∨(T = "set" ∧ ∃ S n,H p=some (.set S n))
 | _=>False
theorem zpW {pins:List (Addr×Obj)}{σ : St}{H:Hp}{s:Shared}{T:String}{x:V}{v:Value}(I:Inv X pins σ H s)(r:RelV x v)(ty:tyV X.K T x H) :
 s.TypeIs v T∧∀ a,v=.ref a→∃ ob,s.heap.get? a=some ob∧ob.dict=none:=by
 cases x with
 | str z =>
  obtain ⟨t,rfl⟩:=r
  cases (show T = "str" from ty)
  exact ⟨typeIs_str s z t,fun _ e=>nomatch e⟩
 | int i =>
  obtain ⟨t,rfl⟩:=r
  cases (show T = "int" from ty)
  exact ⟨typeIs_int s i t,fun _ e=>nomatch e⟩
 | ref p =>
  cases r
  rcases ty with ⟨rfl,xs,hq⟩|⟨rfl,o,hk,hc,hd⟩|⟨rfl,hk⟩|⟨rfl,S,n,hk⟩
  ·refine zc1c (I.list hq) fun its _ pl _ => ?_
   refine ⟨pl.isList.typeIs,fun a e => ?_⟩
   cases e
   refine zc2d pl fun o n e c hd _ => ?_
   exact ⟨o,e,hd⟩
  ·refine ⟨⟨o,I.kIn p o hk,hc⟩,fun a e => ?_⟩
   cases e
   exact ⟨o,I.kIn _ o hk,hd⟩
  ·have z:∃ o,s.heap.get? p=some o∧o.ExactDict:=by
    rcases hk with ⟨kvs,hk⟩|⟨kvs,hk⟩
    ·refine zc0c (I.hok p _ hk) fun _ _ zz=>zc1b zz fun _ _ zz=>zc3c zz fun o _ _ e ex _ => ?_
     exact ⟨o,e,ex⟩
    ·refine zc0c (I.hok p _ hk) fun _ _ zz=>zc1b zz fun _ _ zz=>zc3c zz fun o _ _ e ex _ => ?_
     exact ⟨o,e,ex⟩
   refine zc1b z fun o e ex => ?_
   refine ⟨⟨o,e,ex.1⟩,fun a e2 => ?_⟩
   cases e2
   exact ⟨o,e,ex.2.1⟩
  ·refine zc4a (I.hok p _ hk) fun o _ _ _ zz=>zc0c zz fun e ex _ => ?_
   refine ⟨⟨o,e,ex.1⟩,fun a e2 => ?_⟩
   cases e2
   exact ⟨o,e,ex.2.1⟩
 | _=>exact False.elim ty
def tBM (K:PySem.W.Frag)(T:String)(r:V→List V→Hp→VK→Prop)(to:TE)(t:TA):TE:=fun σ H Q=>to σ H fun x H1=>tyV K T x H1∧t σ H1 fun xs H2=>r x xs H2 Q
variable {o e:Expr}{es:List Expr}{to:TE}{t:TA}{name:Str}{apos cpos:Pos}{T id:String}{r:V→List V→Hp→VK→Prop}
theorem zpP (pa:PlainAttrs T)(slot:Slot T name id)(hty:typeOf (.builtin id)=pure (.type "method_descriptor"))(hm:MtR X id r)(ho:PE X o to)(ha:PA X (e::es) t)
 (hbase:autoParam (attributeBase o name X.env (eval o X.env)=eval o X.env) zau._auto_1)
 (hfew:((backTo cpos (starEach (e::es) X.env)).all (fun x => !x.1)&&(backToKw cpos (keywordEach [] X.env)).all (fun x=>x.1.isSome)
  && decide ((e::es).length+([]:List Keyword).length+(if ([]:List Keyword).isEmpty then 0 else 1)<30))=true:=by rfl)
 (hline:autoParam ((apos.endLine == cpos.line)=true) zau._auto_1) (hs:autoParam (starEach (e::es) X.env=(false,eval e X.env)::starEach es X.env) zau._auto_1) (hplain:autoParam ((backTo cpos (starEach es X.env)).any (·.1)=false) zau._auto_1) :
 PE X (.Call (.Attribute o name apos) (e::es) [] cpos) (tBM X.K T r to t):=by
 intro pins s σ H Q I h
 refine wpAny_Call_method_late hbase hfew hline rfl (thn (ho pins s σ H _ I h) fun v s1 zh => ?_)
 refine zc2d zh fun x H1 I1 r1 ty q1 => ?_
 obtain ⟨h1,h2⟩:=zpW I1 r1 ty
 refine ⟨T,id,pa,slot,hty,h1,h2,?_⟩
 have hA:=ha cpos pins s1 σ H1 _ I1 q1
 rw [hs] at hA ⊢
 refine Calls.callWith_builtin (by show (false||(backTo cpos (starEach es X.env)).any (·.1))=false;rw [hplain]<;>rfl) (Calls.evalArgs_plain ?_)
 exact thn hA (by rintro us s2 ⟨vs,H2,I2,r2,q2⟩;exact hm pins s2 σ H2 x vs v us Q I2 r1 r2 q2)
end
end L2
namespace L2
open PySem PySem.Spec PyProof.Rows
def MtM (X:Cx)(id:String)(r:V→List V→Hp→VK→Prop):Prop :=
 ∀ (pins:List (Addr×Obj)) (s:Shared) (σ : St) (H:Hp) (x:V) (xs:List V) (v:Value) (us:List Value) (Q:VK),Inv X pins σ H s→RelV x v→Vals xs us→r x xs H Q →
  wpAny (model X.prog X.w) X.A (call (.builtin id) (v::us)) (EP X pins σ Q) X.xe s
theorem Vals.one:∀ {x:V} {us:List Value},Vals [x] us→∃ u,us=[u]∧RelV x u:=fun h=>by
 cases h with
 | cons r t=>cases t;exact ⟨_,rfl,r⟩
section
variable {X:Cx}{pins:List (Addr×Obj)}{σ : St}{H:Hp}{s:Shared}{l b:Addr}{xs ys zs:List V}
theorem Inv.lset {its its':List Value}{n:Nat}{f:Array Value→Array Value}{t':Nat}(I:Inv X pins σ H s)(hH:H l=some (.lst xs))
 (e:s.heap.get? l=some { cls:=.type "list",data:=.seq its.toArray n }) (hf:f its.toArray=its'.toArray) (hv:Vals ys its') (hz:ys.length≤sizeLine) :
 Inv X pins σ (upd H l (.lst ys)) { s with heap:=s.heap.update l (Obj.mapSeq f),toks:=t' }:=by
 have q:=PySem.IsL.update e f
 rw [hf] at q
 refine I.write (x:=l) (e:=l) (by rw [hH];exact trivial) (.inl rfl) (fun b' u hb hu=>(Heap.get?_update_other s.heap (Obj.mapSeq f) (Ne.symm hb)).trans hu) ⟨_,q⟩ ?_
 exact ⟨hz,its',_,hv,q⟩
theorem Inv.lnew {its:List Value}{t':Nat}(I:Inv X pins σ H s)(hv:Vals ys its)(hz:ys.length≤sizeLine) :
 Inv X pins σ (upd H s.heap.objs.size (.lst ys)) { s with heap:=s.heap.push { cls:=.type "list",data:=.seq its.toArray },toks:=t' } :=
 I.laid (fun _ _ q=>Heap.get?_push_of_some _ q) (Nat.le_refl _) ⟨hz,its,0,hv,Heap.get?_push_size _ rfl⟩
theorem Inv.fresh (I:Inv X pins σ H s):H s.heap.objs.size=none:=I.hok.fresh (Nat.le_refl _)
theorem Inv.lstM (I:Inv X pins σ H s)(hH:H l=some (.lst xs)):xs.length≤sizeLine∧∃ (its:List Value) (n:Nat),Vals xs its∧xs.length=its.length∧s.heap.get? l=some { cls:=.type "list",data:=.seq its.toArray n }:=by
 refine zc0b (I.hok l _ hH) fun z zz=>zc2b zz fun its n r e => ?_
 exact ⟨z,its,n,r,r.length,e⟩
end
section
variable {X:Cx}
def zjd:V→List V→Hp→VK→Prop:=fun x vs H Q => ∃ l xs y,x=.ref l∧vs=[y]∧H l=some (.lst xs)∧xs.length<sizeLine∧Q .non (upd H l (.lst (xs++[y])))
theorem zfN:MtM X "list.append" zjd:=by
 intro pins s σ H x vs v us Q I rx rv h
 obtain ⟨l,xs,y,rfl,rfl,hH,hz,q⟩:=h
 cases rx
 obtain ⟨u,rfl,ru⟩:=rv.one
 obtain ⟨z,its,n,r,hl,e⟩:=I.lstM hH
 refine call_meets F.slot_list_append ⟨_,e,rfl⟩ F.entry_list_append (F.args_list_append_2 _ _) (PySem.list_append l its.toArray n u (by rw [List.size_toArray];omega)) ⟨e,?_⟩
 refine ⟨.non,_,I.lset (its':=its++[u]) hH e (by simp -iota) (r.append (.cons ru .nil)) ?_,rfl,q⟩
 rw [List.length_append,List.length_singleton]
 omega
end
section
variable {prog:Program}{w:World}{A:Around}{E:Value→Shared→Prop}{s:Shared}
set_option maxRecDepth 100000 in
end
end L2
namespace L2
open PySem PySem.Spec PyProof.Rows
section
variable {κ : Type}[DecidableEq κ]
noncomputable def valV (kvs:List (κ × V))(k : κ):Option V:=(kvs.find? fun kv=>decide (kv.1=k)).map (·.2)
noncomputable def putK (kvs:List (κ × V))(k : κ)(v:V):List (κ × V) :=
 if (kvs.any fun kv=>decide (kv.1=k))=true then kvs.map (fun kv=>if kv.1=k then (kv.1,v) else kv) else kvs++[(k,v)]
theorem zff {p : κ × V}{r:List (κ × V)}{k : κ}(e:p.1=k):valV (p::r) k=some p.2:=by simp -iota [valV,List.find?_cons,e]
theorem zfk {p : κ × V}{r:List (κ × V)}{k : κ}(e:¬ p.1=k):valV (p::r) k=valV r k:=by simp -iota [valV,List.find?_cons,e]
theorem zho (k : κ):∀ kvs:List (κ × V),(kvs.any fun kv=>decide (kv.1=k))=(valV kvs k).isSome
 | []=>rfl
 | p::r=>by
  rw [List.any_cons]
  by_cases e:p.1=k
  ·simp -iota only [zff e,decide_eq_true e,Bool.true_or,Option.isSome_some]
  ·rw [zfk e,decide_eq_false e,Bool.false_or];exact zho k r
theorem zct (kvs:List (κ × V))(k : κ)(v:V):(putK kvs k v).length≤kvs.length+1:=by
 unfold putK
 split
 ·rw [List.length_map];omega
 ·rw [List.length_append,List.length_cons,List.length_nil];omega
theorem RelO.isSome_eq {o:Option V}{u:Option Value}(r:RelO o u):o.isSome=u.isSome:=by
 cases o with
 | none=>cases u with
  | none=>rfl
  | some _=>exact (show False from r).elim
 | some _=>cases u with
  | none=>exact (show False from r).elim
  | some _=>rfl
theorem KV.val {kvs:List (κ × V)}{vs:List (κ × Value)}(r:KV kvs vs)(k : κ):RelO (valV kvs k) (valueAt vs k):=by
 unfold KV at r
 induction r with
 | nil=>exact True.intro
 | @cons p q ps qs h t ih =>
  obtain ⟨h1,h2⟩:=h
  by_cases e:p.1=k
  ·have e':q.1=k:=h1.symm.trans e
   have b:valueAt (q::qs) k=some q.2:=by simp -iota [valueAt,List.find?_cons,e']
   rw [zff e,b];exact h2
  ·have e':¬ q.1=k:=fun z=>e (h1.trans z)
   have b:valueAt (q::qs) k=valueAt qs k:=by simp -iota [valueAt,List.find?_cons,e']
   rw [zfk e,b];exact ih
theorem KV.any {kvs:List (κ × V)}{vs:List (κ × Value)}(r:KV kvs vs)(k : κ):(kvs.any fun kv=>decide (kv.1=k))=vs.any fun kv=>decide (kv.1=k):=by
 unfold KV at r
 induction r with
 | nil=>rfl
 | cons h t ih=>rw [List.any_cons,List.any_cons,ih,h.1]
theorem KV.repl {kvs:List (κ × V)}{vs:List (κ × Value)}(r:KV kvs vs)(k : κ){y:V}{u:Value}(ry:RelV y u) :
 KV (kvs.map fun kv=>if kv.1=k then (kv.1,y) else kv) (vs.map fun kv=>if kv.1=k then (kv.1,u) else kv):=by
 unfold KV at r ⊢
 induction r with
 | nil=>exact .nil
 | @cons p q ps qs h t ih =>
  rw [List.map_cons,List.map_cons]
  refine .cons ?_ ih
  obtain ⟨h1,h2⟩:=h
  by_cases e:p.1=k
  ·rw [if_pos e,if_pos (h1.symm.trans e)];exact ⟨h1,ry⟩
  ·rw [if_neg e,if_neg (fun z=>e (h1.trans z))];exact ⟨h1,h2⟩
theorem KV.put {kvs:List (κ × V)}{vs:List (κ × Value)}(r:KV kvs vs)(k : κ){y:V}{u:Value}(ry:RelV y u):KV (putK kvs k y) (stored vs k u):=by
 unfold putK stored
 rw [r.any k]
 by_cases e:(vs.any fun kv=>decide (kv.1=k))=true
 ·rw [if_pos e,if_pos e];exact r.repl k ry
 ·rw [if_neg e,if_neg e];exact Paired.snoc r ⟨rfl,ry⟩
theorem KV.length {kvs:List (κ × V)}{vs:List (κ × Value)}(r:KV kvs vs):kvs.length=vs.length:=Paired.length r
end
theorem zkz {P:Program}{w:World}{k:Key}{u:Value}(r:RelV (kV k) u):(zaJ P w).is k u=true:=by
 cases k with
 | inl i=>obtain ⟨t,e⟩:=(show ∃ t,u=Value.int i t from r);subst e;exact zgT P w i t
 | inr x=>obtain ⟨t,e⟩:=(show ∃ t,u=Value.str x t from r);subst e;exact zhe P w x t
theorem zgi {P:Program}{w:World}:∀ {ks:List Key} {us:List Value},Vals (ks.map kV) us→ItemsAre (zaJ P w) ks us
 | [],_,r=>by rw [List.map_nil] at r;cases r;exact .nil
 | k::ks,_,r=>by
  rw [List.map_cons] at r
  cases r with
  | cons h t=>exact .cons (zkz h) (zgi t)
abbrev KT (H:Hp):List (List Key×V)→List (List Key×Addr×Value)→Prop:=Paired fun p q=>p.1=q.1∧H q.2.1=some (.tup (p.1.map kV))∧RelV p.2 q.2.2
theorem KT.val {H:Hp}{kvs:List (List Key×V)}{xs:List (List Key×Addr×Value)}(r:KT H kvs xs)(k:List Key):RelO (valV kvs k) ((atKey xs k).map (·.2)):=by
 induction r with
 | nil=>exact True.intro
 | @cons p q ps qs h t ih =>
  refine zc0c h fun h1 _ h2 => ?_
  by_cases e:p.1=k
  ·have e':q.1=k:=h1.symm.trans e
   have b:atKey (q::qs) k=some q.2:=by simp -iota [atKey,List.find?_cons,e']
   rw [zff e,b];exact h2
  ·have e':¬ q.1=k:=fun z=>e (h1.trans z)
   have b:atKey (q::qs) k=atKey qs k:=by simp -iota [atKey,List.find?_cons,e']
   rw [zfk e,b];exact ih
theorem KT.repl {H:Hp}{kvs:List (List Key×V)}{xs:List (List Key×Addr×Value)}(r:KT H kvs xs)(k:List Key){y:V}{u:Value}(ry:RelV y u) :
 KT H (kvs.map fun kv=>if kv.1=k then (kv.1,y) else kv) (xs.map (putAt k u)):=by
 induction r with
 | nil=>exact .nil
 | @cons p q ps qs h t ih =>
  rw [List.map_cons,List.map_cons]
  refine .cons ?_ ih
  refine zc0c h fun h1 h2 h3 => ?_
  unfold putAt
  by_cases e:p.1=k
  ·rw [if_pos e,if_pos (h1.symm.trans e)];exact ⟨h1,h2,ry⟩
  ·rw [if_neg e,if_neg (fun z=>e (h1.trans z))];exact ⟨h1,h2,h3⟩
theorem KT.put {H:Hp}{kvs:List (List Key×V)}{xs:List (List Key×Addr×Value)}(r:KT H kvs xs)(k:List Key){b:Addr}{y:V}{u:Value}(hb:H b=some (.tup (k.map kV)))(ry:RelV y u) :
 KT H (putK kvs k y) (storedH xs k b u):=by
 have e:(kvs.any fun kv=>decide (kv.1=k))=(atKey xs k).isSome:=by
  rw [zho,(r.val k).isSome_eq,Option.isSome_map]
 unfold putK storedH
 rw [e]
 by_cases q:(atKey xs k).isSome=true
 ·rw [if_pos q,if_pos q];exact r.repl k ry
 ·rw [if_neg q,if_neg q];exact Paired.snoc r ⟨rfl,hb,ry⟩
theorem KT.keeps {H H':Hp}{kvs:List (List Key×V)}{xs:List (List Key×Addr×Value)}(r:KT H kvs xs)(ht:∀ b ys,H b=some (.tup ys)→H' b=some (.tup ys)):KT H' kvs xs :=
 Paired.mapP r fun _ _ z=>⟨z.1,ht _ _ z.2.1,z.2.2⟩
section
variable {P:Program}{w:World}{H:Hp}{h:Heap}{a:Addr}
theorem zpo {u:HO}(ok:HOk P w H h)(e:Rd H a u):zaL P w H h a u:=e.ok ok
theorem zhd {kvs:List (Key×V)}(ok:HOk P w H h)(e:Rd H a (.dK kvs)):kvs.length≤sizeLine∧(a == sysModules)=false∧∃ vs,KV kvs vs∧h.DictOf (zaJ P w) a vs :=
 show zaL P w H h a (.dK kvs) from zpo ok e
theorem zp4 {kvs:List (Key×V)}(ok:HOk P w H h)(e:H a=some (.dK kvs)):kvs.length≤sizeLine∧(a == sysModules)=false∧∃ vs,KV kvs vs∧h.DictOf (zaJ P w) a vs:=zhd ok (.inl e)
theorem zgg {ks:List Key}(ok:HOk P w H h)(e:H a=some (.tup (ks.map kV))):(tupleKind (zaJ P w)).is h ks a:=by
 refine zc0b ((show zaL P w H h a (.tup (ks.map kV)) from ok a _ e)) fun _ zz=>zc1b zz fun its r zz=>zc1c zz fun o h1 h2 zz=>zc1a zz fun n h3 => ?_
 exact ⟨o,its.toArray,n,h1,h2,h3,by simpa -iota using zgi r⟩
theorem zko {kvs:List (List Key×V)}(ok:HOk P w H h)(e:Rd H a (.dT kvs)):kvs.length≤sizeLine∧(a == sysModules)=false ∧
 ∃ xs,KT H kvs xs∧h.DictOfH (tupleKind (zaJ P w)) a xs:=by
 refine zc0c ((show zaL P w H h a (.dT kvs) from zpo ok e)) fun z y zz=>zc1b zz fun xs r zz=>zc3a zz fun o es ep zz=>zc0e zz fun h1 h2 h3 h4 h5 => ?_
 refine ⟨z,y,xs,r,o,es,ep,h1,h2,h3,h4,fun x hx => ?_,h5⟩
 have all:∀ {l:List (List Key×V)} {m:List (List Key×Addr×Value)},KT H l m→∀ x∈m,(tupleKind (zaJ P w)).is h x.1 x.2.1:=by
  intro l m q
  induction q with
  | nil=>intro x hx;exact nomatch hx
  | @cons p q ps qs hq t ih =>
   intro x hx
   rcases List.mem_cons.mp hx with e|hx
   ·subst e
    exact zgg ok (by rw [← hq.1];exact hq.2.1)
   ·exact ih x hx
 exact all r x hx
theorem dt_of {kvs:List (List Key×V)}(ok:HOk P w H h)(e:H a=some (.dT kvs)):kvs.length≤sizeLine∧(a == sysModules)=false ∧
 ∃ xs,KT H kvs xs∧h.DictOfH (tupleKind (zaJ P w)) a xs:=zko ok (.inl e)
end
def DGet (H:Hp)(a:Addr)(y:V)(r:Option V):Prop :=
 (∃ kvs k,Rd H a (.dK kvs)∧y=kV k∧r=valV kvs k)∨∃ kvs k b,Rd H a (.dT kvs)∧y=.ref b∧H b=some (.tup (k.map kV))∧r=valV kvs k
def DPut (H:Hp)(a:Addr)(y v:V)(H':Hp):Prop :=
 (∃ kvs k,H a=some (.dK kvs)∧y=kV k∧kvs.length<sizeLine∧H'=upd H a (.dK (putK kvs k v))) ∨
 ∃ kvs k b,H a=some (.dT kvs)∧y=.ref b∧H b=some (.tup (k.map kV))∧kvs.length<sizeLine∧H'=upd H a (.dT (putK kvs k v))
theorem DPut.k {H:Hp}{a:Addr}{kvs:List (Key×V)}{k:Key}{v:V}(e:H a=some (.dK kvs))(hl:kvs.length<sizeLine):DPut H a (kV k) v (upd H a (.dK (putK kvs k v))):=.inl ⟨kvs,k,e,rfl,hl,rfl⟩
section
variable {X:Cx}{pins:List (Addr×Obj)}{σ : St}{H:Hp}{s:Shared}{a:Addr}{y v:V}{u r:Value}{o:Option V}{A:Around}{E:Value→Shared→Prop}
theorem Inv.big (I:Inv X pins σ H s):sysModules<s.heap.objs.size:=by
 have h:mainGlobals<s.heap.objs.size:=(I.mod.glob.keeps I.bk).lt
 exact Nat.lt_trans (by decide) h
theorem zjb {Q:Value→Shared→Prop}(hu:A.units+1<cLine)(I:Inv X pins σ H s)(g:DGet H a y (some v))(ry:RelV y u)(h:∀ w' s',Inv X pins σ H s'→RelV v w'→Q w' s') :
 wpAny (model X.prog X.w) A (getItem (.ref a) u) Q E s:=by
 rcases g with ⟨kvs,k,e,ey,l⟩|⟨kvs,k,b,e,ey,eb,l⟩
 ·subst ey
  refine zc0c (zhd I.hok e) fun z hd zz=>zc1b zz fun vs rel dd => ?_
  refine zc1b (RelO.some_of (v:=v) (o:=valueAt vs k) (by rw [l];exact rel.val k)) fun w' hw rw' => ?_
  exact wpAny_getItem_of (zkz ry) dd.mapOf hw (h w' _ (I.tok _) rw')
 ·subst ey
  cases (show u=Value.ref b from ry)
  refine zc0c (zko I.hok e) fun z hd zz=>zc1b zz fun xs rel dd => ?_
  refine zc1b (RelO.some_of (v:=v) (o:=(atKey xs k).map (·.2)) (by rw [l];exact rel.val k)) fun w' hw rw' => ?_
  refine zc1b (Option.map_eq_some_iff.mp hw) fun p hp hp2 => ?_
  refine wpAny_getItem_heap (tupleKind_room_in1 hu) (zgg I.hok eb) dd hp ?_
  rw [hp2]
  exact h w' _ (I.tok _) rw'
theorem d_in {Q:Value→Shared→Prop}(hu:A.units+1<cLine)(I:Inv X pins σ H s)(g:DGet H a y o)(ry:RelV y u)(h:∀ s',Inv X pins σ H s'→Q (.bool o.isSome) s') :
 wpAny (model X.prog X.w) A (compareOp .In u (.ref a)) Q E s:=by
 rcases g with ⟨kvs,k,e,ey,l⟩|⟨kvs,k,b,e,ey,eb,l⟩
 ·subst ey
  refine zc0c (zhd I.hok e) fun z hd zz=>zc1b zz fun vs rel dd => ?_
  refine wpAny_in_of (zkz ry) hd dd.mapOf ?_
  rw [← (rel.val k).isSome_eq,← l]
  exact h _ (I.tok _)
 ·subst ey
  cases (show u=Value.ref b from ry)
  refine zc0c (zko I.hok e) fun z hd zz=>zc1b zz fun xs rel dd => ?_
  refine wpAny_in_heap (tupleKind_room_in1 hu) (zgg I.hok eb) hd dd ?_
  have q:=(rel.val k).isSome_eq
  rw [Option.isSome_map] at q
  rw [← q,← l]
  exact h _ (I.tok _)
theorem zod {Q:Value→Shared→Prop}(hu:A.units+1<cLine)(I:Inv X pins σ H s)(g:DGet H a y o)(ry:RelV y u)(h:∀ s',Inv X pins σ H s'→Q (.bool (!o.isSome)) s') :
 wpAny (model X.prog X.w) A (compareOp .NotIn u (.ref a)) Q E s:=by
 rcases g with ⟨kvs,k,e,ey,l⟩|⟨kvs,k,b,e,ey,eb,l⟩
 ·subst ey
  refine zc0c (zhd I.hok e) fun z hd zz=>zc1b zz fun vs rel dd => ?_
  refine wpAny_notIn_of (zkz ry) hd dd.mapOf ?_
  rw [← (rel.val k).isSome_eq,← l]
  exact h _ (I.tok _)
 ·subst ey
  cases (show u=Value.ref b from ry)
  refine zc0c (zko I.hok e) fun z hd zz=>zc1b zz fun xs rel dd => ?_
  refine wpAny_notIn_heap (tupleKind_room_in1 hu) (zgg I.hok eb) hd dd ?_
  have q:=(rel.val k).isSome_eq
  rw [Option.isSome_map] at q
  rw [← q,← l]
  exact h _ (I.tok _)
theorem zjK {h':Heap}{t':Nat}{ob:HO}(I:Inv X pins σ H s)(mu:Mut (H a))(hs:Heap.SameBut a s.heap h')(he:∃ q,h'.get? a=some q)(new:zaL X.prog X.w (upd H a ob) h' a ob) :
 Inv X pins σ (upd H a ob) { s with heap:=h',toks:=t' } :=
 I.write (x:=a) (e:=a) mu (.inl rfl) (fun b q hb z=>(hs.2 b hb).trans z) he new
theorem zmN {P:Program}{w:World}{H':Hp}{h':Heap}{kvs:List (Key×V)}{vs:List (Key×Value)}(z:kvs.length≤sizeLine)(hd:(a == sysModules)=false)(rel:KV kvs vs)(dd:h'.DictOf (zaJ P w) a vs) :
 zaL P w H' h' a (.dK kvs):=⟨z,hd,vs,rel,dd⟩
theorem zkQ {H':Hp}{Q:Unit→Shared→Prop}(hu:A.units+1<cLine)(I:Inv X pins σ H s)(g:DPut H a y v H')(ry:RelV y u)(rv:RelV v r)(h:∀ s',Inv X pins σ H' s'→Q () s') :
 wpAny (model X.prog X.w) A (setItem (.ref a) u r) Q E s:=by
 rcases g with ⟨kvs,k,e,ey,l,eH⟩|⟨kvs,k,b,e,ey,eb,l,eH⟩
 ·subst ey eH
  refine zc0c (zp4 I.hok e) fun z hd zz=>zc1b zz fun vs rel dd => ?_
  have hz:vs.length≤sizeLine:=by rw [← rel.length];exact z
  have hl:(putK kvs k v).length≤sizeLine:=by have:=zct kvs k v;omega
  refine wpAny_setItem_pairs (hsz:=hz) (zkz ry) dd fun h' dd' hs=>h _ ?_
  have he:∃ q,h'.get? a=some q:=let ⟨q,_,_,hq,_⟩:=dd';⟨q,hq⟩
  exact zjK I (by rw [e];exact True.intro) hs he (zmN hl hd (rel.put k rv) dd')
 ·subst ey eH
  cases (show u=Value.ref b from ry)
  refine zc0c (dt_of I.hok e) fun z hd zz=>zc1b zz fun xs rel dd => ?_
  have hz:xs.length≤sizeLine:=by rw [← Paired.length rel];exact z
  have hl:(putK kvs k v).length≤sizeLine:=by have:=zct kvs k v;omega
  refine wpAny_setItem_heap (hsz:=hz) (tupleKind_room_in1 hu) (zgg I.hok eb) dd fun h' dd' hs=>h _ ?_
  refine zc3a dd' fun q es ep zz=>zc0e zz fun hq h2 h3 h4 zz=>zc0b zz fun _ h5 => ?_
  refine zjK I (by rw [e];exact True.intro) hs ⟨q,hq⟩ ⟨hl,hd,_,(rel.put k eb rv).keeps fun c ys ec => ?_,q,es,ep,hq,h2,h3,h4,h5⟩
  rw [zah (ne_of ec e (fun z=>nomatch z))]
  exact ec
end
section
variable {X:Cx}{pins:List (Addr×Obj)}{σ : St}{H:Hp}{s:Shared}{a:Addr}{kvs:List (Key×V)}{k:Key}{u:Value}{A:Around}{E:Value→Shared→Prop}
theorem d_len {Q:Value→Shared→Prop}(I:Inv X pins σ H s)(e:Rd H a (.dK kvs))(h:∀ t s',Inv X pins σ H s'→Q (.int kvs.length t) s'):wpAny (model X.prog X.w) A (call (.builtin "len") [.ref a]) Q E s:=by
 obtain ⟨z,hd,vs,rel,dd⟩:=zhd I.hok e
 refine call_len_dict hd dd (by rw [← rel.length];rw [sizeLine_eq] at z;omega) ?_
 rw [← rel.length]
 exact h _ _ (I.tok _)
end
noncomputable def NoSl (i:Expr):Prop:=∀ ov iv,subscripted i false ov iv=operate [ov,iv] (getItem ov iv)
theorem znW {prog:Program}{w:World}{A:Around}{E:Value→Shared→Prop}{s:Shared}{env:Env}{value slice:Expr}{pos:Pos}{T id:String}{Q:Value→Shared→Prop}
 (hl:typeLookup (.type T) "__getitem__" = pure (some (.builtin id))) (hs:NoSl slice)
 (h:wpAny (model prog w) A (eval value env) (fun o s₁=>wpAny (model prog w) A (eval slice env) (fun i s₂=>s₂.TypeIs o T∧wpAny (model prog w) A (getItem o i) Q E s₂) E s₁) E s) :
 wpAny (model prog w) A (eval (.Subscript value slice pos) env) Q E s:=by
 refine Subscript_ (wpAny_mono h (fun o s₁ h₁=>wpAny_mono h₁ (fun i s₂ h₂ => ?_) fun _ _ x=>x) fun _ _ x=>x)
 obtain ⟨hT,h₂⟩:=h₂
 unfold subscriptTail
 refine wpAny_bind ?_
 rw [getitemInPython_of_ne hT.not_modules]
 refine wpAny_bind (wpAny_specialOf hT hl ?_)
 have fin:wpAny (model prog w) A (subscripted slice false o i) (fun r s₃=>wpAny (model prog w) A (letTemporaryGo value o r >>= fun _=>pure r) Q E s₃) E s₂:=by
  rw [hs o i]
  exact wpAny_operating (wpAny_mono h₂ (fun r s₃ h₃=>wpAny_bind (wpAny_letTemporaryGo (wpAny_pure h₃))) fun _ _ x=>x)
 first
  | exact wpAny_pure (wpAny_bind fin)
  | exact wpAny_bind (wpAny_pure (wpAny_bind fin))
  | exact wpAny_bind fin
theorem zgF {X:Cx}{pins:List (Addr×Obj)}{σ : St}{H:Hp}{s:Shared}{a:Addr}{y:V}{o:Option V}(I:Inv X pins σ H s)(g:DGet H a y o):s.TypeIs (.ref a) "dict" := by
 rcases g with ⟨kvs,k,e,_,_⟩|⟨kvs,k,b,e,_,_,_⟩
 ·refine zc0c (zhd I.hok e) fun _ _ zz=>zc1b zz fun vs _ dd => ?_
  exact dd.typeIs
 ·refine zc0c (zko I.hok e) fun _ _ zz=>zc1b zz fun xs _ dd => ?_
  exact dd.typeIs
def tDGet (td ty:TE):TE:=fun σ H Q=>td σ H fun x H1=>ty σ H1 fun y H2 => ∃ a v,x=.ref a∧DGet H2 a y (some v)∧Q v H2
def tDIn (ty td:TE):TE:=fun σ H Q=>ty σ H fun y H1=>td σ H1 fun x H2 => ∃ a o,x=.ref a∧DGet H2 a y o∧Q (.bl o.isSome) H2
def znw (ty td:TE):TE:=fun σ H Q=>ty σ H fun y H1=>td σ H1 fun x H2 => ∃ a o,x=.ref a∧DGet H2 a y o∧Q (.bl (!o.isSome)) H2
def sDPut (td ty tv:TE):TS:=fun D σ H=>tv σ H fun v H1=>td σ H1 fun x H2=>ty σ H2 fun y H3 => ∃ a H4,x=.ref a∧DPut H3 a y v H4∧D.nx σ H4
section
variable {X:Cx}{o i e value:Expr}{pos pos' tpos:Pos}{td ty tv:TE}
theorem zog (hu:X.A.units+1<cLine)(ho:PE X o td)(hi:PE X i ty)(hs:NoSl i):PE X (.Subscript o i pos) (tDGet td ty):=by
 intro pins s σ H Q I h
 refine znW PySem.F.slot_dict_getitem.lookup hs (thn (ho pins s σ H _ I h) fun u s1 ⟨x,H1,I1,rx,q1⟩=>thn (hi pins s1 σ H1 _ I1 q1) fun iv s2 zh => ?_)
 refine zc2c zh fun y H2 I2 ry zz=>zc2c zz fun a v ex g q2 => ?_
 subst ex
 obtain rfl:u=Value.ref a:=rx
 exact ⟨zgF I2 g,zjb hu I2 g ry fun w' s3 I3 rw'=>⟨v,H2,I3,rw',q2⟩⟩
theorem zmD (hu:X.A.units+1<cLine)(hi:PE X i ty)(ho:PE X o td):PC X .In i o (tDIn ty td):=by
 intro pins s σ H Q I h
 refine thn (hi pins s σ H _ I h) fun iv s1 ⟨y,H1,I1,ry,q1⟩=>thn (ho pins s1 σ H1 _ I1 q1) fun u s2 zh => ?_
 refine zc2c zh fun x H2 I2 rx zz=>zc2c zz fun a ov ex g q2 => ?_
 subst ex
 obtain rfl:u=Value.ref a:=rx
 exact d_in hu I2 g ry fun s3 I3=>⟨.bl ov.isSome,H2,I3,rfl,q2⟩
theorem zjl (hu:X.A.units+1<cLine)(hi:PE X i ty)(ho:PE X o td):PC X .NotIn i o (znw ty td):=by
 intro pins s σ H Q I h
 refine thn (hi pins s σ H _ I h) fun iv s1 ⟨y,H1,I1,ry,q1⟩=>thn (ho pins s1 σ H1 _ I1 q1) fun u s2 zh => ?_
 refine zc2c zh fun x H2 I2 rx zz=>zc2c zz fun a ov ex g q2 => ?_
 subst ex
 obtain rfl:u=Value.ref a:=rx
 exact zod hu I2 g ry fun s3 I3=>⟨.bl (!ov.isSome),H2,I3,rfl,q2⟩
theorem znR (hu:X.A.units+1<cLine)(ho:PE X o td)(hi:PE X i ty)(hv:PE X value tv)(hs:swapsWith value (some (.Subscript o i pos')) pos.line X.env=pure false) :
 PS X (.Assign [.Subscript o i pos'] value pos) (sDPut td ty tv):=by
 intro pins s σ H D I h
 refine wpAny_Assign_Subscript (thn (hv pins s σ H _ I h) fun r s1 ⟨v,H1,I1,rv,q1⟩=>thn (ho pins s1 σ H1 _ I1 q1) fun u s2 ⟨x,H2,I2,rx,q2⟩=>thn (hi pins s2 σ H2 _ I2 q2) fun iv s3 ⟨y,H3,I3,ry,a,H4,ex,g,q3⟩ => ?_) hs
 subst ex
 obtain rfl:u=Value.ref a:=rx
 exact zkQ hu I3 g ry rv fun s4 I4=>⟨σ,H4,I4,q3⟩
end
theorem zma {P:Program}{w:World}{H:Hp}(h:Heap)(hb:sysModules<h.objs.size):zaL P w H (h.push { cls:=.type "dict",data:=.dict #[] }) h.objs.size (.dK []) :=
 ⟨Nat.zero_le _,beq_eq_false_iff_ne.mpr (Ne.symm (Nat.ne_of_lt hb)),[],.nil,Heap.DictOf.new h⟩
def zpO:TE:=fun _ H Q => ∀ p,H p=none→Q (.ref p) (upd H p (.dK []))
section
variable {X:Cx}{pos:Pos}
theorem zmv:PE X (.Dict [] [] pos) zpO:=fun pins s σ H Q I h =>
 wpAny_Dict_empty ⟨.ref s.heap.objs.size,_,I.laid (a:=s.heap.objs.size) (o:=.dK []) (t':=s.toks) (fun _ _ q=>Heap.get?_push_of_some _ q) (Nat.le_refl _) (zma s.heap I.big),rfl,h _ (I.hok.fresh (Nat.le_refl _))⟩
end
def zdF (kvs more:List (Key×V)):List (Key×V):=more.foldl (fun acc kv=>putK acc kv.1 kv.2) kvs
theorem KV.merge:∀ {more:List (Key×V)} {rs:List (Key×Value)} {kvs:List (Key×V)} {vs:List (Key×Value)},KV more rs→KV kvs vs→KV (zdF kvs more) (merged vs rs):=by
 intro more rs kvs vs r
 unfold KV at r
 induction r generalizing kvs vs with
 | nil=>intro q;exact q
 | @cons p q ps qs h t ih =>
  intro r0
  have e:KV (putK kvs p.1 p.2) (stored vs q.1 q.2):=by
   have:=r0.put p.1 h.2
   rw [← h.1];exact this
  exact ih e
theorem zcM:∀ (more kvs:List (Key×V)),(zdF kvs more).length≤kvs.length+more.length
 | [],kvs=>by show kvs.length≤kvs.length+0;omega
 | p::r,kvs=>by
  have h1:=zcM r (putK kvs p.1 p.2)
  have h2:=zct kvs p.1 p.2
  show (zdF (putK kvs p.1 p.2) r).length≤_
  rw [List.length_cons];omega
end L2
namespace Att
open PySem PySem.W PySem.Calls PyProof.Rows
theorem zdY {P:Params}{h:Heap}:∀ (ns:List Int) (vs:List Value),WellAll P h vs (ns.map WData.int)→IntsAre vs ns:=by
 intro ns
 induction ns with
 | nil =>
  intro vs w
  rw [List.map_nil] at w
  cases w
  exact .nil
 | cons n ns ih =>
  intro vs w
  rw [List.map_cons] at w
  cases w with
  | cons a b =>
   cases a
   exact .cons _ _ (ih _ b)
theorem zjj {l:OpenLaw}{n:Nat}(hn:l.most=some n){P:Params}{h:Heap}{args:List WData}{vals:List Value}
 (hpre:l.row.toRowW.claim.pre args=true) (hwl:WellAll P h vals args) :
 ∃ a vs ns,vals=[Value.ref a]∧args=[WData.list (ns.map WData.int)]∧h.get? a=some { cls:=.type "list",data:=.seq vs.toArray }∧IntsAre vs ns∧ns.length≤n:=by
 have hsh:WShape.hasAll [] args [.list .int]=true:=(pre_splitW hpre).1
 have hc:l.pre.holds [] { args:=args }=true:=(pre_splitW hpre).2
 refine zc2c (hasAllW_cons hsh) fun d r zr2 h1 h2 => ?_
 obtain rfl:=zr2
 obtain rfl:=hasAllW_nil h2
 refine zc1b (hasW_list h1) fun xs zr1 h3 => ?_
 obtain rfl:=zr1
 obtain ⟨ns,rfl⟩:=items_int h3
 have hlen:ns.length≤n:=by
  unfold OpenLaw.pre at hc
  have h4:(WTm.not (.lt (.lit (.int (n:Int))) (.len (.arg 0)))).holds [] { args:=[.list (ns.map .int)] }=true:=by
   have h4:=(holds_andW hc).1
   rw [hn] at h4
   exact h4
  have h5:=condW_of h4 (w_not (w_lt w_lit (w_len_list (w_arg rfl))))
  rw [List.length_map] at h5
  refine Nat.le_of_not_lt fun q => ?_
  have q':(n:Int)<((ns.length:Nat):Int):=by omega
  first
   | (rw [decide_eq_true q'] at h5;exact absurd h5 (by decide))
   | (simp -iota at h5;omega)
 cases hwl with
 | cons w1 w2 =>
  cases w2
  cases w1 with
  | list ho hall=>exact ⟨_,_,ns,rfl,rfl,ho,zdY ns _ hall,hlen⟩
theorem zj5 (l:OpenLaw)(args:List WData):l.row.toRowW.claim.post args (.bool true) args=true :=
 postW_of (r:=l.row.toRowW) (X:=(true == true))
  (show WShape.has [] (.bool true) .bool=true by first|rfl|decide|simp -iota [WShape.has,WShape.arms,WShape.armsAll])
  (show (WTm.eq .res (.lit (.bool true))).value [] { args:=args,res:=some (.bool true),after:=args }=some (.bool (true == true)) from w_eq_bool (w_res rfl) w_lit) rfl
theorem attach_call {l:OpenLaw}{n:Nat}{q:Program}{loose:List Str}{XP:(Str→Option Value)→Heap→Prop}{YP:World→Heap→Prop}{d:DefRec}
 (hn:l.most=some n) (hdf:d.params.defaults=[])
 (call:∀ (w:World) (s₀ s₁:Shared) (mg mb:Str→Option Value) (fa:Addr) (o:Obj) (pm cd doc:Value) (a:Addr) (vs:List Value) (ns:List Int),
  Ground q loose [] XP w s₀ mg mb s₁.heap→YP w s₁.heap →
  s₁.heap.get? fa=some o→o.data=.func (docDef d.name d.params d.body d.scope pm cd doc)→s₁.heap.CodeRec cd d.name→mg d.name=some (.ref fa) →
  s₁.heap.get? a=some { cls:=.type "list",data:=.seq vs.toArray }→IntsAre vs ns→ns.length≤n→s₁.gens = #[] →
  codeAny (model l.prog w) callerA (.call (.ref fa) ⟨[.ref a],[]⟩) (fun r s'=>r=.ok (.ret (.bool true))∧OldK s₁.heap s'.heap∧s'.os=s₁.os∧AllBare s'.gens) s₁) :
 WalkO q loose XP YP l.row.toRowW d [] (fun f vs=>PySem.call f vs):=by
 intro w s₀ s₁ mg mb G Y fa o pm cd doc dV kV ho hd hcd hD hmg hg args vals as hpre hlay hrd hwl hlo
 obtain rfl:dV=.none:=Dflts.none hD hdf
 obtain rfl:kV=.none:=Dflts.noKw hD
 refine zc3a (zjj hn hpre hwl) fun a vs ns zz=>zc0e zz fun zr3 zr4 hobj hints hlen => ?_
 obtain rfl:=zr3
 obtain rfl:=zr4
 refine enter_call (codeAny_mono (call w s₀ s₁ mg mb fa o pm cd doc a vs ns G Y ho (fd_plain hd) hcd hmg hobj hints hlen hg) fun r s' hq => ?_)
 refine zc0d hq fun zr0 h2 h3 h4 => ?_
 obtain rfl:=zr0
 exact ⟨.inl ⟨.bool true,.bool true,[],rfl,fun _=>rfl,.bool true,zj5 l _,fun _=>⟨List.Pairwise.nil,fun _ hm=>(nomatch hm)⟩⟩,h2,h3,h4⟩
end Att
namespace L2
open PySem PySem.Spec PyProof.Rows
theorem zjV:∀ {vs:List Value} {ns:List Int},IntsAre vs ns→Vals (ns.map V.int) vs:=fun h=>by
 induction h with
 | nil=>exact .nil
 | cons n t _ ih=>exact .cons ⟨t,rfl⟩ ih
noncomputable def Only (H:Hp):Prop:=∀ b,H b=none∨∃ o xs,H b=some (.frz o (.lst xs))
theorem zlU {P:Program}{w:World}{K:PySem.W.Frag}{mg mb:Str→Option Value}{CX:CXT}{k:Nat}{fa a:Addr}{fd:FuncData}{x:Str}{sp:Sp}{s₁:Shared}{vs:List Value}{ns:List Int}
 (KX:K.In s₁.heap) (hns:s₁.heap.Ns mainGlobals mg) (hb:s₁.heap.Ns builtinsNs mb) (hbb:∀ x:Str,x ≠ "__name__" → mb x=bootBuiltins x) (hlim:s₁.heap.NoLimit) (hg:s₁.gens = #[])
 (ha:s₁.heap.get? a=some { cls:=.type "list",data:=.seq vs.toArray }) (hi:IntsAre vs ns) (hl:ns.length≤sizeLine) (hr:Room k callerA)
 (F:∀ base:Heap,K.In base→base.Ns mainGlobals mg→FnOk P w K mg base CX k fa fd [x] sp) (hbind:∀ (s:Shared) (u:Value),BindsTo s fd ⟨[u],[]⟩ [(x,u)])
 (hsp:∀ H:Hp,Only H→SqL K H a (ns.map V.int)→sp [.ref a] H (fun v _=>v=.bl true) fun _ _ _=>False)
 (hCX:∀ H e s',CX [] H s₁ (fun _ _ _=>False) e s'→False) :
 codeAny (model P w) callerA (.call (.ref fa) ⟨[.ref a],[]⟩) (fun r s'=>r=.ok (.ret (.bool true))∧OldK s₁.heap s'.heap∧s'.os=s₁.os∧AllBare s'.gens) s₁:=by
 have rv:=zjV hi
 have lenV:=hi.length
 have core:∀ H:Hp,Only H→SqL K H a (ns.map V.int)→HOk P w H s₁.heap→(∀ b,H b≠none→b=a)→(H a≠none→K.lookup a=none) →
  codeAny (model P w) callerA (.call (.ref fa) ⟨[.ref a],[]⟩) (fun r s'=>r=.ok (.ret (.bool true))∧OldK s₁.heap s'.heap∧s'.os=s₁.os∧AllBare s'.gens) s₁:=by
  intro H hO hS hok hA hK
  have base_of:∀ {b:Addr} {o:Obj},s₁.heap.get? b=some o→H b=none→(hidT s₁.heap H).get? b=some o:=fun e n=>zmi e n
  have noA:∀ {b:Addr} {o:Obj} {es:Array DictEntry} {ep:Nat},s₁.heap.get? b=some o→o.data=.dict es ep→H b=none:=fun {b o es ep} e d=>by
   cases q:H b with
   | none=>rfl
   | some u =>
    have e':b=a:=hA b (by rw [q];simp -iota)
    subst e'
    rw [ha] at e;cases e
    have d':Data.seq vs.toArray _=Data.dict es ep:=d
    cases d'
  have nsK:∀ {b:Addr} {m:Str→Option Value},s₁.heap.Ns b m→(hidT s₁.heap H).Ns b m:=fun {b m} ⟨o,es,ep,e,d,r⟩=>⟨o,es,ep,base_of e (noA e d),d,r⟩
  have hKb:K.In (hidT s₁.heap H):=fun b o e=>base_of (KX b o e) (by
   cases q:H b with
   | none=>rfl
   | some u =>
    have e':b=a:=hA b (by rw [q];simp -iota)
    subst e'
    rw [hK (by rw [q];simp -iota)] at e;cases e)
  have hM:Mod K mg (hidT s₁.heap H):=⟨hKb,nsK hns,⟨mb,nsK hb,hbb⟩,let ⟨mc,h1,h2⟩:=hlim;⟨mc,nsK h1,h2⟩⟩
  have e0:Env0 P w K mg (hidT s₁.heap H) callerA [] s₁ H:=⟨rfl,hM,fun b o e=>zoi e,Nat.le_of_eq (zkq _ _),trivial,fun b hb=>absurd (show b∈([]:List Addr) from hb) (by simp -iota),hok,.of_eq hg⟩
  refine codeAny_mono ((F _ hKb (nsK hns)).run callerA [] s₁ H ⟨[.ref a],[]⟩ [.ref a] [.ref a] _ _ hr e0 (hbind s₁ (.ref a)) (.cons rfl .nil) (hsp H hO hS)) fun r s' h => ?_
  cases r with
  | error e=>exact (hCX H e s' h).elim
  | ok fl =>
   cases fl with
   | next=>exact False.elim h
   | brk=>exact False.elim h
   | cont=>exact False.elim h
   | ret u =>
    refine zc2a h fun v H' zz=>zc0e zz fun os bare un hok' zz=>zc0b zz fun r' q => ?_
    have q':v=.bl true:=q
    subst q'
    obtain rfl:u=Value.bool true:=r'
    refine ⟨rfl,OldK.of_keep fun b o e => ?_,os,bare⟩
    cases q:H b with
    | none=>exact un.keep b o e q (by intro z;exact absurd (show b∈([]:List Addr) from z) (by simp -iota)) (by simp -iota)
    | some u =>
     rcases hO b with z|⟨ob,xs,z⟩
     ·rw [q] at z;cases z
     ·have z2:=un.frzs b ob _ z
      obtain ⟨e1,_⟩:=hok b _ z
      obtain ⟨e2,_⟩:=hok' b _ z2
      rw [e] at e1;cases e1
      exact e2
 cases hk:K.lookup a with
 | some o =>
  have e:=KX a o hk
  rw [ha] at e
  cases e
  refine core (fun _=>none) (fun _=>.inl rfl) (.inr ⟨_,vs.toArray,_,hk,rfl,rfl,rfl,by rw [List.size_toArray,lenV];exact hl,by simpa -iota using rv⟩) (fun b u z=>by have z':(none:Option HO)=some u:=z;cases z') (fun b z=>absurd rfl z) fun z=>absurd rfl z
 | none =>
  refine core (fun b=>if b=a then some (.frz { cls:=.type "list",data:=.seq vs.toArray } (.lst (ns.map V.int))) else none) (fun b => ?_) (.inl (.inr ⟨{ cls:=.type "list",data:=.seq vs.toArray },if_pos rfl⟩)) (fun b u z => ?_) (fun b z => ?_) fun _=>hk
  ·by_cases hb:b=a
   ·exact .inr ⟨_,_,if_pos hb⟩
   ·exact .inl (if_neg hb)
  ·by_cases hb:b=a
   ·have z':=(if_pos hb).symm.trans z
    cases z'
    subst hb
    exact ⟨ha,by rw [List.length_map];exact hl,vs,_,rv,ha⟩
   ·have z':=(if_neg hb).symm.trans z
    cases z'
  ·by_cases hb:b=a
   ·exact hb
   ·exact absurd (if_neg hb) z
end L2
namespace L2
open PySem PySem.Spec PyProof.Rows
theorem walk_of {l:PySem.W.OpenLaw}{n k:Nat}{q:Program}{loose:List Str}{XP:(Str→Option Value)→Heap→Prop}{YP:World→Heap→Prop}{d:DefRec}{K:Params→PySem.W.Frag}{CX:World→CXT}{sp:World→Sp}{x:Str}
 (hn:l.most=some n) (hn2:n≤sizeLine) (hdf:d.params.defaults=[]) (hr:Room k callerA)
 (hY:∀ (w:World) (h:Heap),YP w h→(K w.params).In h)
 (F:∀ (w:World) (mg:Str→Option Value) (fa:Addr) (h:Heap),(K w.params).In h→h.Ns mainGlobals mg→mg d.name=some (.ref fa) →
  ∃ fd:FuncData,(∀ (s:Shared) (u:Value),BindsTo s fd ⟨[u],[]⟩ [(x,u)]) ∧
   ∀ base:Heap,(K w.params).In base→base.Ns mainGlobals mg→FnOk l.prog w (K w.params) mg base (CX w) k fa fd [x] (sp w))
 (hsp:∀ (w:World) (H:Hp) (a:Addr) (ns:List Int),ns.length≤n→Only H→SqL (K w.params) H a (ns.map V.int)→sp w [.ref a] H (fun v _=>v=.bl true) fun _ _ _=>False)
 (hCX:∀ (w:World) (H:Hp) (s:Shared) (e:Value) (s':Shared),CX w [] H s (fun _ _ _=>False) e s'→False) :
 PySem.W.WalkO q loose XP YP l.row.toRowW d [] (fun f vs=>PySem.call f vs):=by
 refine Att.attach_call hn hdf fun w s₀ s₁ mg mb fa o pm cd doc a vs ns G Y ho hd hcd hmg hobj hints hlen hg => ?_
 have KX:=hY w _ Y
 refine zc1b (F w mg fa _ KX G.T.g hmg) fun fd hb hF => ?_
 exact zlU KX G.T.g G.T.b G.T.builtins G.T.nolimit hg hobj hints (Nat.le_trans hlen hn2) hr hF hb (fun H hO hS=>hsp w H a ns hlen hO hS) fun H e s'=>hCX w H s₁ e s'
end L2
namespace L2
open PySem PySem.Spec PyProof.Rows
noncomputable def zdB (s:Stmt):Arguments:=match s with
 | .FunctionDef _ a _ _ _ _ _ _ _ _=>a
 | _=>{ posonlyargs:=[],args:=[],vararg:=none,kwonlyargs:=[],kw_defaults:=[],kwarg:=none,defaults:=[] }
noncomputable def zbz (s:Stmt):List Stmt:=match s with
 | .FunctionDef _ _ b _ _ _ _ _ _ _=>b
 | _ => []
noncomputable def zae (s:Stmt):Scope:=match s with
 | .FunctionDef _ _ _ _ _ _ sc _ _ _=>sc
 | _=>{ kind:=.function,names:=[],isGenerator:=false,isCoroutine:=false }
abbrev CX0:CXT:=fun _ _ _ _ _ _=>False
abbrev E0:XK:=fun _ _ _=>False
theorem pass0 {X:Cx}:zld CX0 X E0:=fun _ _ _ _ _ _ _ h=>h.elim
structure Fun (K:PySem.W.Frag)(x qual:Str)(st:Stmt)(f:Addr)(fd:FuncData):Prop where
 ex:∃ (oc:Value) (od:Option Addr) (kV doc pm:Value) (an:Option Addr) (cdv ct:Value) (osl:Array (Option Value)),
  fd=PySem.W.fnOf x qual (zdB st) (zbz st) (zae st) .none kV doc pm an cdv ct∧K.lookup f=some ⟨oc,od,.func fd,osl⟩∧PySem.W.codeIn K cdv qual=true
 kp:PySem.W.keepIn K (.ref f)=true
section
variable {P:Program}{w:World}{K:PySem.W.Frag}{mg:Str→Option Value}{base:Heap}
theorem Fun.ok {x qual:Str}{st:Stmt}{f:Addr}{fd:FuncData}{N ps:List Str}{k:Nat}{sp:Sp}(F:Fun K x qual st f fd)(S:FnScope N ps (zae st))(len:∀ vs H Q E,sp vs H Q E→vs.length=ps.length)
 (hbody:∀ (cdv:Value) (A:Around) (outer:List Env) (s:Shared) (H:Hp) (vs:List V) (Q:VK) (E:XK),Room k (A.deeper (envOfC qual (zae st) s.heap.objs.size f cdv))→sp vs H Q E →
  ∃ t,PSs (cxOf CX0 P w K mg base N qual (zae st) f cdv A outer s H E).nox (zbz st) t∧t { nx:=fun _ H'=>Q .non H',rt:=Q } (start N vs) H):FnOk P w K mg base CX0 (k+1) f fd ps sp:=by
 refine zc4a F.ex fun oc od kV doc zz=>zc4a zz fun pm an cdv ct zz=>zc1c zz fun osl zr9 lk hcd => ?_
 obtain rfl:=zr9
 refine fn_of lk hcd S len fun A outer s H vs Q E hr hsp => ?_
 refine zc1b (hbody cdv A outer s H vs Q E hr hsp) fun t h q => ?_
 exact ⟨t,h.nox,q⟩
theorem Fun.binds {x qual:Str}{st:Stmt}{f:Addr}{fd:FuncData}{ps:List Str}(F:Fun K x qual st f fd)
 (h:∀ (kV doc pm:Value) (an:Option Addr) (cdv ct:Value) (us:List Value),us.length=ps.length→bindArgs (PySem.W.fnOf x qual (zdB st) (zbz st) (zae st) .none kV doc pm an cdv ct) ⟨us,[]⟩=pure (ps.zip us)):ziI K fd ps []:=by
 refine zc4a F.ex fun oc od kV doc zz=>zc4a zz fun pm an cdv ct zz=>zc1c zz fun osl zr9 lk hcd => ?_
 obtain rfl:=zr9
 exact .all (h kV doc pm an cdv ct)
theorem fun_mk {x qual:Str}{st:Stmt}{f:Addr}{oc:Value}{od an:Option Addr}{osl:Array (Option Value)}{kV doc pm cdv ct:Value}(l:K.lookup f=some ⟨oc,od,.func (PySem.W.fnOf x qual (zdB st) (zbz st) (zae st) .none kV doc pm an cdv ct),osl⟩)
 (c:PySem.W.codeIn K cdv qual=true) (k:PySem.W.keepIn K (.ref f)=true):Fun K x qual st f (PySem.W.fnOf x qual (zdB st) (zbz st) (zae st) .none kV doc pm an cdv ct):=⟨⟨oc,od,kV,doc,pm,an,cdv,ct,osl,rfl,l,c⟩,k⟩
end
theorem zaK {A:Around}{k:Nat}(hr:Room k A):A.units+1<cLine:=Nat.lt_of_le_of_lt (Nat.add_le_add_left (by decide:1≤64) _) hr.units
theorem zg8 {n:Nat}(h:n≤1000):n<sizeLine:=Nat.lt_of_le_of_lt h (by decide)
section
variable {X:Cx}
theorem pv (i:Nat){x:Str}{pos:Pos}(hN:autoParam (X.N[i]? = some x) zau._auto_1)(hv:Vis X.env.scope x:=by first|exact Or.inl rfl|exact Or.inr (Or.inl rfl)|exact Or.inr (Or.inr rfl))(hd:(x == ("__debug__" : Str))=false:=by decide)
 (hcd:autoParam ((x == ("__classdict__" : Str))=false) zav._auto_1):PE X (.Name x pos) (tVar i):=zpr hN hv hd hcd
end
noncomputable def Same (H H':Hp):Prop:=∀ b o,H b=some o→H' b=some o
theorem Same.refl (H:Hp):Same H H:=fun _ _ h=>h
theorem Same.trans {H H1 H2:Hp}(a:Same H H1)(b:Same H1 H2):Same H H2:=fun c o h=>b c o (a c o h)
theorem Same.free {H H':Hp}(e:Same H H'){l:Addr}(h:H' l=Option.none):H l=Option.none:=by
 cases q:H l with
 | none=>rfl
 | some o =>
  rw [e l o q] at h
  cases h
theorem Same.seq {K:PySem.W.Frag}{H H':Hp}{a:Addr}{xs:List V}(e:Same H H')(h:SqL K H a xs):SqL K H' a xs:=by
 rcases h with (h|⟨o,h⟩)|h
 ·exact .inl (.inl (e _ _ h))
 ·exact .inl (.inr ⟨o,e _ _ h⟩)
 ·exact .inr h
end L2
namespace L2
open PySem PySem.Spec PyProof.Rows
section
variable {X:Cx}
theorem zkj:za1 X (.builtin "len") (fun xs H Q => ∃ a kvs,xs=[V.ref a]∧H a=some (.dK kvs)∧Q (.int kvs.length) H):=by
 intro pins s σ H xs us Q I r h
 refine zc2c h fun a kvs zr2 ha q => ?_
 obtain rfl:=zr2
 refine zc1b (zdm r) fun u zr1 ru => ?_
 obtain rfl:=zr1
 cases ru
 exact d_len I (.inl ha) fun t s' I'=>⟨.int kvs.length,H,I',⟨t,rfl⟩,q⟩
end
end L2
theorem zqn {P:Prop}{α : Type}{z : α}(h:none=some z):P:=by cases  h
theorem zqb {P:Prop}(h:false=true):P:=by cases  h
namespace L2
open PySem PySem.Spec PyProof.Rows
theorem zef (env:Env):∀ (names:List (Str×NameKind)) (acc:List (Str×Addr)),(∀ y∈names,y.2=.free→∃ c,env.cells.lookup y.1=some c) →
 ∃ cl,(forIn names acc fun (x:Str×NameKind) (r:List (Str×Addr))=>(match x with
  | (name,kind)=>if (kind == NameKind.free)=true then do let a ← cellOf env name;pure (ForInStep.yield ((name,a)::r)) else pure (ForInStep.yield r):Sem (ForInStep (List (Str×Addr)))))=(pure cl:Sem (List (Str×Addr))) ∧
  (∀ x c,cl.lookup x=some c→env.cells.lookup x=some c∨acc.lookup x=some c)∧(∀ x c,acc.lookup x=some c→∃ c',cl.lookup x=some c')∧∀ y∈names,y.2=.free→∃ c,cl.lookup y.1=some c
 | [],acc,_=>⟨acc,rfl,fun _ _ h=>.inr h,fun x c h=>⟨c,h⟩,fun _ h=>nomatch h⟩
 | (n,k)::r,acc,h=>by
  rw [List.forIn_cons]
  cases hk:(k == NameKind.free) with
  | true =>
   have hk':k=.free:=by cases k<;>first|rfl|(exact absurd hk (by decide))
   obtain ⟨c,hc⟩:=h (n,k) List.mem_cons_self hk'
   refine zc1d (zef env r ((n,c)::acc) fun y hy=>h y (List.mem_cons_of_mem _ hy)) fun cl e h1 h2 h3 => ?_
   refine ⟨cl,?_,fun x c' hx => ?_,fun x c' hx => ?_,fun y hy hf => ?_⟩
   ·simp only [hk,if_true,cellOf,hc]
    exact e
   ·rcases h1 x c' hx with q|q
    ·exact .inl q
    ·rw [List.lookup_cons] at q
     cases hb:x == n with
     | true =>
      rw [hb] at q;cases q;have:x=n:=by simpa using hb
      subst this;exact .inl hc
     | false=>rw [hb] at q;exact .inr q
   ·cases hb:x == n with
    | true=>exact h2 x c (by rw [List.lookup_cons,hb])
    | false=>exact h2 x c' (by rw [List.lookup_cons,hb];exact hx)
   ·rcases List.mem_cons.mp hy with rfl|hy
    ·exact h2 n c (by rw [List.lookup_cons,beq_self_eq_true])
    ·exact h3 y hy hf
  | false =>
   refine zc1d (zef env r acc fun y hy=>h y (List.mem_cons_of_mem _ hy)) fun cl e h1 h2 h3 => ?_
   refine ⟨cl,?_,h1,h2,fun y hy hf => ?_⟩
   ·simp only [hk,Bool.false_eq_true,if_false]
    exact e
   ·rcases List.mem_cons.mp hy with rfl|hy
    ·rw [show k=.free from hf] at hk;exact absurd hk (by decide)
    ·exact h3 y hy hf
theorem zoj (env:Env)(scope:Scope)(h:∀ y∈scope.names,y.2=.free→∃ c,env.cells.lookup y.1=some c) :
 ∃ cl,closureFor scope env=pure cl∧(∀ x c,cl.lookup x=some c→env.cells.lookup x=some c)∧∀ y∈scope.names,y.2=.free→∃ c,cl.lookup y.1=some c:=by
 refine zc1d (zef env scope.names [] h) fun cl e h1 _ h3 => ?_
 refine ⟨cl,?_,fun x c hx=>(h1 x c hx).elim id (fun q=>by simp at q),h3⟩
 simp only [closureFor]
 first
 | (rw [e];rfl)
 | exact (congrArg (· >>= fun cs=>pure cs) e)
theorem zbu {env:Env}{x:Str}:∀ {names:List (Str×NameKind)},
 (names.lookup x=some .free→(names.map fun (n,k)=>if (k == NameKind.free&&env.scope.kind == .function&&env.kindOf n == some .cell) then (n,NameKind.cell) else (n,k)).lookup x=some .cell∨(names.map fun (n,k)=>if (k == NameKind.free&&env.scope.kind == .function&&env.kindOf n == some .cell) then (n,NameKind.cell) else (n,k)).lookup x=some .free) ∧
 (∀ k',(names.map fun (n,k)=>if (k == NameKind.free&&env.scope.kind == .function&&env.kindOf n == some .cell) then (n,NameKind.cell) else (n,k)).lookup x=some k'→(k'=.cell∨k'=.free)→names.lookup x=some .free∨names.lookup x=some .cell)
 | []=>⟨fun h=>by simp at h,fun _ h=>by simp at h⟩
 | (n,k)::r=>by
  obtain ⟨ih1,ih2⟩:=@zbu env x r
  simp only [List.map_cons]
  cases hx:x == n with
  | true =>
   refine ⟨fun h => ?_,fun k' h hk' => ?_⟩
   ·simp only [List.lookup_cons,hx] at h
    obtain rfl:=Option.some.inj h
    by_cases hc:(NameKind.free == NameKind.free&&env.scope.kind == .function&&env.kindOf n == some .cell)=true
    ·rw [if_pos hc];simp [List.lookup_cons,hx]
    ·rw [if_neg hc];simp [List.lookup_cons,hx]
   ·rw [List.lookup_cons,hx]
    by_cases hq:(k == NameKind.free&&env.scope.kind == .function&&env.kindOf n == some .cell)=true
    ·have:k=.free:=by
      cases k<;>first|rfl|(simp at hq)
     rw [this];exact .inl rfl
    ·rw [if_neg hq] at h
     simp only [List.lookup_cons,hx] at h
     have h:k=k':=by simpa using h
     subst h
     rcases hk' with z|z
     ·rw [z];exact .inr rfl
     ·rw [z];exact .inl rfl
  | false =>
   refine ⟨fun h => ?_,fun k' h hk' => ?_⟩
   ·simp only [List.lookup_cons,hx] at h
    split<;>simp only [List.lookup_cons,hx]<;>exact ih1 h
   ·rw [List.lookup_cons,hx]
    refine ih2 k' ?_ hk'
    split at h<;>simp only [List.lookup_cons,hx] at h<;>exact h
theorem zaY:∀ (names:List (Str×NameKind)) (n:Nat) (acc:List (Str×Addr)),cellsFrom n names acc=cellsFrom n names []++acc
 | [],_,_=>rfl
 | (name,kind)::r,n,acc=>by
  unfold cellsFrom
  split
  ·rw [zaY r (n+1) ((name,n)::acc),zaY r (n+1) [(name,n)],List.append_assoc];rfl
  ·exact zaY r n acc
theorem zbF {x:Str}{c:Addr}:∀ (names:List (Str×NameKind)) (n:Nat) (acc:List (Str×Addr)),(x,c)∈cellsFrom n names acc→(x,c)∈acc∨(x,NameKind.cell)∈names
 | [],_,_,h=>.inl h
 | (name,kind)::r,n,acc,h=>by
  unfold cellsFrom at h
  split at h
  ·rename_i hk
   rcases zbF r (n+1) ((name,n)::acc) h with z|z
   ·rcases List.mem_cons.mp z with z|z
    ·cases z
     have:kind=.cell:=by cases kind<;>first|rfl|(exact absurd hk (by decide))
     subst this
     exact .inr List.mem_cons_self
    ·exact .inl z
   ·exact .inr (List.mem_cons_of_mem _ z)
  ·rcases zbF r n acc h with z|z
   ·exact .inl z
   ·exact .inr (List.mem_cons_of_mem _ z)
noncomputable def zjy:Option NameKind→Bool
 | some .cell=>true
 | _=>false
theorem zha {o:Option NameKind}(h:zjy o=true):o=some .cell:=by
 cases o with
 | none=>exact zqb h
 | some k=>cases k<;>first|rfl|exact zqb h
structure CellsAt (scope:Scope)(env:Env)(cl:List (Str×Addr))(C:Addr)(h1:Heap):Prop where
 from_:∀ x c,cl.lookup x=some c→(env.cells.lookup x=some c∧scope.names.lookup x≠some .cell)∨(C<c∧h1.IsCell c none)
 free:∀ x,scope.names.lookup x=some .free→∃ c,cl.lookup x=some c∧env.cells.lookup x=some c
 own:∀ x,scope.names.lookup x=some .cell→∃ c,cl.lookup x=some c
 inj:∀ x y c,cl.lookup x=some c→cl.lookup y=some c→x=y
theorem ziK {scope:Scope}{env:Env}{cl:List (Str×Addr)}{h0:Heap}{C:Addr}(he:∀ x c,cl.lookup x=some c→env.cells.lookup x=some c)(hf:∀ y∈scope.names,y.2=.free→∃ c,cl.lookup y.1=some c)
 (inj:∀ x y c,env.cells.lookup x=some c→env.cells.lookup y=some c→x=y) (low:∀ x c,env.cells.lookup x=some c→c≤C) (hC:h0.objs.size=C+1) (hc:∀ y∈scope.names,y.2=.cell→scope.names.lookup y.1=some .cell) :
 CellsAt scope env (cellsFrom (C+1) scope.names cl) C (pushCells h0 scope.names):=by
 have ok:=cellsFrom_ok scope.names h0 (C+1) [] ⟨fun _ _ hm=>(nomatch hm),List.Pairwise.nil⟩ (Nat.le_of_eq hC.symm)
 rw [hC] at ok
 have look:∀ x c,(cellsFrom (C+1) scope.names cl).lookup x=some c→((x,c)∈cellsFrom (C+1) scope.names [] )∨(cl.lookup x=some c∧scope.names.lookup x≠some .cell):=fun x c e=>by
  rw [zaY,List.lookup_append] at e
  cases q:(cellsFrom (C+1) scope.names []).lookup x with
  | some d =>
   rw [q] at e
   have e:some d=some c:=e
   obtain rfl:=Option.some.inj e
   exact .inl (PySem.mem_of_lookup q)
  | none =>
   rw [q] at e
   refine .inr ⟨e,fun z => ?_⟩
   have:=PySem.W.cellsFrom_some scope.names (C+1) [] (.inl z)
   rw [q] at this;exact zqb this
 refine ⟨fun x c e => ?_,fun x e => ?_,fun x e => ?_,fun x y c e1 e2 => ?_⟩
 ·rcases look x c e with z|⟨z1,z2⟩
  ·exact .inr ⟨(ok.empty x c z).2,(ok.empty x c z).1⟩
  ·exact .inl ⟨he x c z1,z2⟩
 ·obtain ⟨c,hc'⟩:=hf (x,.free) (PySem.mem_of_lookup e) rfl
  refine ⟨c,?_,he x c hc'⟩
  rw [zaY,List.lookup_append]
  cases q:(cellsFrom (C+1) scope.names []).lookup x with
  | some d =>
   rcases zbF _ _ _ (PySem.mem_of_lookup q) with z|z
   ·cases z
   ·have:=hc (x,.cell) z rfl
    rw [e] at this;cases this
  | none=>exact hc'
 ·exact Option.isSome_iff_exists.mp (PySem.W.cellsFrom_some scope.names (C+1) cl (.inl e))
 ·rcases look x c e1 with z|⟨z1,_⟩<;>rcases look y c e2 with w|⟨w1,_⟩
  ·exact PySem.name_of_addr ok.apart z w
  ·exact absurd (low y c (he y c w1)) (Nat.not_le_of_lt (ok.empty x c z).2)
  ·exact absurd (low x c (he x c z1)) (Nat.not_le_of_lt (ok.empty y c w).2)
  ·exact inj x y c (he x c z1) (he y c w1)
theorem zdj {M:Model}{A:Around}{E:Value→Shared→Prop}{s:Shared}{scope:Scope}{globals:Addr}{cl:List (Str×Addr)}{qual:Str}{env:Env}{Q:Env→Shared→Prop}
 (hQ:Q (newEnv scope s.heap.objs.size globals (cellsFrom (s.heap.objs.size+1) scope.names cl) qual none .none (some env) builtinsNs) { s with heap:=pushCells (s.heap.push { cls:=.type "dict",data:=.dict #[] }) scope.names }) :
 wpAny M A (newFunctionEnv scope globals cl [] qual none .none (some env)) Q E s:=by
 simp only [newFunctionEnv,Option.isSome_some,if_true]
 refine wpAny_bind (wpAny_alloc ?_)
 refine wpAny_bind (wpAny_layCells _ (fun name kind cells=>by cases hkc:kind == NameKind.cell<;>simp [hkc]) _ _ _ _ ?_)
 rw [show ({ s with heap:=s.heap.push { cls:=.type "dict",data:=.dict #[] } }:Shared).heap.objs.size=s.heap.objs.size+1 from Heap.size_push ..]
 rw [List.forIn_nil]
 exact wpAny_bind (wpAny_pure (wpAny_pure hQ))
noncomputable def zgW (X:Cx)(C:Addr):Value→Shared→Prop:=fun x s' => ∃ m,s'.heap.Ns C m∧∀ h',Heap.SameBut C s'.heap h'→∀ cenv:Env,cenv.locals=C→wpAny (model X.prog X.w) X.A (passOn "comprehension.variables-let-go" x cenv:Sem Value) (fun _ _=>False) X.xe { s' with heap:=h' }
def zap (X:Cx)(scope:Scope)(N:List Str)(cl:List (Str×Addr))(C:Addr)(s:Shared)(H:Hp)(ex:List Addr):Cx where
 prog:=X.prog
 w:=X.w
 K:=X.K
 mg:=X.mg
 base:=X.base
 A:=X.A
 N:=N
 s₀:=s
 H₀:=H
 env:=compEnvC scope cl C X.env
 outer:=X.stack
 stack:=X.stack
 ex:=ex
 fn:=fun x=>zjy (scope.names.lookup x)
 calm:=X.calm
 pn:=[]
 xe:=notedBy (model X.prog X.w) X.A (compEnvC scope cl C X.env) (zgW X C)
def zgn (X:Cx)(C:Addr)(s:Shared)(H:Hp)(ex:List Addr):Prop:=∃ pins σ,Inv X pins σ H s∧(∀ b∈ex,FpOk X pins H b)∧s.heap.objs.size≤C
noncomputable def zgN (cap:List (Option Nat))(σ : St):St:=cap.map fun o=>o.bind fun j=>(σ[j]?).join
structure CompOk (X:Cx)(scope:Scope)(N:List Str)(cap:List (Option Nat)):Prop where
 kind:scope.kind=.function
 loc:∀ y∈scope.names,y.2=.local→scope.names.lookup y.1=some .local
 cell:∀ y∈scope.names,y.2=.cell→scope.names.lookup y.1=some .cell
 free:∀ y∈scope.names,y.2=.free→X.env.kindOf y.1=some .cell∨X.env.kindOf y.1=some .free
 len:cap.length=N.length
 cap:∀ (i j:Nat) (x:Str),cap[i]? = some (some j)→N[i]? = some x→X.N[j]? = some x∧scope.names.lookup x=some .free
noncomputable def zbd (scope:Scope)(env:Env)(N' N:List Str)(cap:List (Option Nat)):Bool :=
 decide (scope.kind=.function)&&scope.names.all (fun y => !decide (y.2=.local)||decide (scope.names.lookup y.1=some .local))&&scope.names.all (fun y => !decide (y.2=.cell)||decide (scope.names.lookup y.1=some .cell)) &&
 scope.names.all (fun y => !decide (y.2=.free)||(decide (env.kindOf y.1=some .cell)||decide (env.kindOf y.1=some .free)))&&decide (cap.length=N'.length) &&
 (N'.zip cap).all (fun p=>match p.2 with|none=>true|some j=>decide (N[j]? = some p.1)&&decide (scope.names.lookup p.1=some .free))
theorem CompOk.of {X:Cx}{scope:Scope}{N:List Str}{cap:List (Option Nat)}(h:zbd scope X.env N X.N cap=true):CompOk X scope N cap:=by
 unfold zbd at h
 simp only [Bool.and_eq_true,List.all_eq_true,decide_eq_true_eq,Bool.or_eq_true,Bool.not_eq_true',decide_eq_false_iff_not] at h
 obtain ⟨⟨⟨⟨⟨h1,h2⟩,h3⟩,h4⟩,h5⟩,h6⟩:=h
 refine ⟨h1,fun y hy hl => ?_,fun y hy hl => ?_,fun y hy hf => ?_,h5,fun i j x e1 e2 => ?_⟩
 ·rcases h2 y hy with z|z
  ·exact absurd hl z
  ·exact z
 ·rcases h3 y hy with z|z
  ·exact absurd hl z
  ·exact z
 ·rcases h4 y hy with z|z
  ·exact absurd hf z
  ·exact z
 ·have hm:(x,some j)∈N.zip cap:=by
   refine List.mem_of_getElem? (i:=i) ?_
   rw [List.getElem?_zip_eq_some]
   exact ⟨e2,e1⟩
  have q:=h6 (x,some j) hm
  simpa using q
section
variable {X:Cx}{scope:Scope}{N:List Str}{cap:List (Option Nat)}{pins:List (Addr×Obj)}{σ : St}{H:Hp}{s:Shared}{cl:List (Str×Addr)}{C D:Addr}{fp:List Addr}
theorem zlv {h1:Heap}{tk:Nat}{m:Str→Option Value}(ok:CompOk X scope N cap)(I:Inv X pins σ H s)(hf:∀ b∈fp,FpOk X pins H b)(hlt:∀ b∈fp,b<s.heap.objs.size)
 (hcl:CellsAt scope X.env cl C h1)
 (hC:s.heap.objs.size≤C) (old:∀ b o,s.heap.get? b=some o→h1.get? b=some o) (hns:h1.Ns C m) :
 Inv (zap X scope N cl C s H fp) [] (zgN cap σ) H { s with heap:=h1,toks:=tk }:=by
 have kf:∀ x,(zap X scope N cl C s H fp).env.kindOf x=some .cell∨(zap X scope N cl C s H fp).env.kindOf x=some .free→scope.names.lookup x=some .free∨scope.names.lookup x=some .cell:=fun x h=>by
  rcases h with h|h
  ·exact (zbu (env:=X.env) (x:=x) (names:=scope.names)).2 _ h (.inl rfl)
  ·exact (zbu (env:=X.env) (x:=x) (names:=scope.names)).2 _ h (.inr rfl)
 refine ⟨⟨I.ok.mod,ok.kind,I.ok.glob,I.ok.blt,hC,hcl.inj,fun x h => ?_,fun x c z e => ?_,I.ok.hd,I.ok.frames,.inl rfl,fun b hb=>⟨?_,fun x c e => ?_⟩,I.bs,Nat.le_trans I.ok.bsz I.sz,
  fun b o e hb => ?_,fun b hb z => ?_,I.stack,I.stkFree⟩,rfl,I.bare,Un.kept old,⟨m,hns,fun i x v e1 e2 e3 => ?_⟩,fun x c e => ?_,I.hok.fresh hC,fun x c e => ?_,fun p hp=>absurd hp (by show ¬ p∈([]:List (Addr×Obj))++[];simp),I.hok.kept old,?_⟩
 ·rcases kf x h with q|q
  ·refine zc1b (hcl.free x q) fun c e _ => ?_
   exact ⟨c,e⟩
  ·exact hcl.own x q
 ·rcases hcl.from_ x c e with ⟨_,q⟩|⟨q,_⟩
  ·exact absurd (zha z) q
  ·exact Nat.le_trans hC (Nat.le_of_lt q)
 ·exact Nat.ne_of_lt (Nat.lt_of_lt_of_le (hlt b hb) hC)
 ·rcases hcl.from_ x c e with ⟨q,_⟩|⟨q,_⟩
  ·exact (hf b hb).2.2.2.2.1 x c q
  ·exact Nat.ne_of_gt (Nat.lt_trans (Nat.lt_of_lt_of_le (hlt b hb) hC) q)
 ·rcases (hf b hb).2.2.2.1 with z|z
  ·exact I.ok.noex b o e z
  ·exact absurd (Nat.lt_of_lt_of_le (Heap.lt_size e) (Nat.le_trans I.ok.bsz z)) (Nat.lt_irrefl _)
 ·rcases List.mem_cons.mp (I.stkSub b z) with q|q
  ·exact (hf b hb).2.1 q
  ·exact (hf b hb).2.2.1 q
 ·have e1:N[i]? = some x:=e1
  have hc:∃ j,cap[i]? = some (some j) ∧ σ[j]? = some (some v):=by
   have e2:(cap.map fun o=>o.bind fun j=>(σ[j]?).join)[i]? = some (some v):=e2
   rw [List.getElem?_map] at e2
   cases q:cap[i]? with
   | none=>rw [q] at e2;exact zqn e2
   | some o =>
    rw [q] at e2
    cases o with
    | none=>cases e2
    | some j =>
     have e2:some ((σ[j]?).join)=some (some v):=e2
     cases q2 : σ[j]? with
     | none=>rw [q2] at e2;cases e2
     | some w=>rw [q2] at e2;exact ⟨j,rfl,by cases e2;exact q2⟩
  obtain ⟨j,c1,c2⟩:=hc
  obtain ⟨n1,n2⟩:=ok.cap i j x c1 e1
  refine zc1b I.loc fun m0 _ hl => ?_
  have fr:=ok.free (x,.free) (PySem.mem_of_lookup n2) rfl
  obtain ⟨u,r,l⟩:=hl j x v n1 c2 (fr.elim (fun z=>.inr (.inl z)) fun z=>.inr (.inr z))
  refine ⟨u,r,.inr ⟨(zbu (env:=X.env) (x:=x) (names:=scope.names)).1 n2,?_⟩⟩
  rcases l with ⟨k,_⟩|⟨_,c,ec,z⟩
  ·have k:X.env.kindOf x=some .local:=k
   rcases fr with f|f<;>· rw [k] at f;cases f
  ·obtain ⟨c',e',e''⟩:=hcl.free x n2
   rw [ec] at e'';obtain rfl:=Option.some.inj e''
   exact ⟨c,e',z.keeps old⟩
 ·rcases hcl.from_ x c e with ⟨q,_⟩|⟨_,q⟩
  ·obtain ⟨v,z⟩:=I.cell x c q
   exact ⟨v,z.keeps old⟩
  ·exact ⟨none,q⟩
 ·rcases hcl.from_ x c e with ⟨q,_⟩|⟨q,_⟩
  ·exact I.freeC x c q
  ·exact I.hok.fresh (Nat.le_trans hC (Nat.le_of_lt q))
 ·show (cap.map _).length=N.length
  rw [List.length_map];exact ok.len
theorem zlR {σ':St}{H':Hp}{s':Shared}{ys:List V}{its:List Value}{k:Nat}{h':Heap}{Q:VK}(I:Inv X pins σ H s)(hf:∀ b∈fp,FpOk X pins H b)(hC:s.heap.objs.size≤C)(hD:s.heap.objs.size≤D)(hDC:D≠C)
 (J:Inv (zap X scope N cl C s H fp) [] σ' H' s') (hd:s'.heap.get? D=some { cls:=.type "list",data:=.seq its.toArray k }) (hn:H' D=none) (rv:Vals ys its) (hz:ys.length≤sizeLine) (hs:Heap.SameBut C s'.heap h')
 (q:Q (.ref D) (upd H' D (.lst ys))):EP X pins σ Q (.ref D) { s' with heap:=h' }:=by
 have nC:∀ b o,s.heap.get? b=some o→b≠C:=fun b o e=>Nat.ne_of_lt (Nat.lt_of_lt_of_le (Heap.lt_size e) hC)
 have nD:∀ b o,s.heap.get? b=some o→b≠D:=fun b o e=>Nat.ne_of_lt (Nat.lt_of_lt_of_le (Heap.lt_size e) hD)
 have tD:∀ b u,H' b=some u→b≠D:=fun b u e z=>by rw [z,hn] at e;exact zqn e
 have tC:∀ b u,H' b=some u→b≠C:=fun b u e z=>by
  have:=J.free
  rw [z] at e
  rw [show H' C=none from this] at e;exact zqn e
 have B:Un (frs X.stack) fp H H' s.heap s'.heap:=J.base
 refine ⟨.ref D,upd H' D (.lst ys),I.call' (s':={ s' with heap:=h' }) (ch:=fp) J.os ?_ ?_ J.bare (fun b hb=>⟨(hf b hb).2.2.2.1,(hf b hb).2.1,(hf b hb).2.2.2.2.1,(hf b hb).2.2.2.2.2⟩),rfl,q⟩
 ·refine ⟨fun b o e n hb hx=>(hs.2 b (nC b o e)).trans (B.keep b o e n hb hx),fun b o e n hb hx => ?_,fun b o e n hx => ?_,fun b o e hx => ?_,fun b xs e => ?_,fun b o u e => ?_,fun b ps e => ?_⟩
  ·obtain ⟨sl,z⟩:=B.slot b o e n hb hx
   exact ⟨sl,(hs.2 b (nC b o e)).trans z⟩
  ·rw [zah (nD b o e)];exact B.free b o e n hx
  ·obtain ⟨o',z⟩:=B.there b o e hx
   exact ⟨o',(hs.2 b (nC b o e)).trans z⟩
  ·have z:=B.tups b xs e
   rw [zah (tD b _ z)];exact z
  ·have z:=B.frzs b o u e
   rw [zah (tD b _ z)];exact z
  ·obtain ⟨more,z⟩:=B.tbls b ps e
   exact ⟨more,by rw [zah (tD b _ z)];exact z⟩
 ·intro b u e
  by_cases hb:b=D
  ·subst hb
   rw [zai] at e;obtain rfl:=Option.some.inj e
   exact ⟨hz,its,k,rv,(hs.2 b hDC).trans hd⟩
  ·rw [zah hb] at e
   refine (J.hok b u e).stay (fun c v hc z=>(hs.2 c ?_).trans z) (fun c z=>by rw [zah (tD c _ z)];exact z) (fun c xs z=>by rw [zah (tD c _ z)];exact z)
   rcases hc with hc|hc
   ·rw [hc];exact tC b u e
   ·exact tC c _ hc
end
def compR (cap:List (Option Nat))(g:TG)(te:TE)(σ : St)(Q:VK):It→Hp→Prop:=fun J H1 => ∃ W:Nat→Nat→List V→St→Hp→Prop,(∃ m,W 0 m [] (zgN cap σ) H1)∧∀ i m ys σ' H',W i m ys σ' H'→ys.length<sizeLine ∧
 (
  (J.stop i H'∧∀ D,H' D=none→Q (.ref D) (upd H' D (.lst ys))) ∨
  (J.go i H'∧∀ x H2,J.yld i H' x H2→g x σ' H2 fun σ2 H3=>te σ2 H3 fun y H4 => ∃ m',m'<m∧W (i+1) m' (ys++[y]) σ2 H4))
def zkA (cap:List (Option Nat))(wi:TI)(g:TG)(te:TE):TE:=fun σ H Q=>wi σ H (compR cap g te σ Q)
def znz (cap:List (Option Nat))(g:TG)(tt:TT)(te:TE)(σ : St)(Q:VK):It→Hp→Prop:=fun J H1 => ∃ W:Nat→Nat→List V→St→Hp→Prop,(∃ m,W 0 m [] (zgN cap σ) H1)∧∀ i m ys σ' H',W i m ys σ' H'→ys.length<sizeLine ∧
 (
  (J.stop i H'∧∀ D,H' D=none→Q (.ref D) (upd H' D (.lst ys))) ∨
  (J.go i H'∧∀ x H2,J.yld i H' x H2→g x σ' H2 fun σ2 H3=>tt σ2 H3 fun b H4=>if b=true then te σ2 H4 (fun y H5 => ∃ m',m'<m∧W (i+1) m' (ys++[y]) σ2 H5) else ∃ m',m'<m∧W (i+1) m' ys σ2 H4))
def zee (cap:List (Option Nat))(wi:TI)(g:TG)(tt:TT)(te:TE):TE:=fun σ H Q=>wi σ H (znz cap g tt te σ Q)
section
variable {X:Cx}{tg iter elt c:Expr}{scope:Scope}{pos:Pos}{wi:TI}{g:TG}{te:TE}{tt:TT}
noncomputable def zd9 (X:Cx)(pins:List (Addr×Obj))(σ : St)(Q:VK)(use:Option (Value→Sem Unit))(R:Value→Shared→Prop):Prop :=
 ∀ (C D:Addr) (m:Str→Option Value) (s5:Shared) (r:Flow),s5.heap.Ns C m→¬ C=X.env.locals→C∉X.fs→X.s₀.heap.objs.size≤C→(∀ x c,X.env.cells.lookup x=some c→c≠C)→(∀ p∈X.pn++pins,p.1≠C) →
  (∀ h',Heap.SameBut C s5.heap h'→EP X pins σ (fun v H'=>H' C=none∧Q v H') (.ref D) { s5 with heap:=h' })→compPost (model X.prog X.w) X.A X.xe use R (.ref D) C (.ok r) s5
theorem zhU {pins:List (Addr×Obj)}{σ : St}{Q:VK}:zd9 X pins σ Q none (EP X pins σ Q):=fun C D m s5 r hm _ _ _ _ _ k=>⟨m,hm,fun h' hs'=>by
 refine zc2d (k h' hs') fun v H' I' rv _ q => ?_
 exact ⟨v,H',I',rv,q⟩⟩
noncomputable def TurnI (X:Cx)(tg elt:Expr)(it acc:Value)(env:Env)(R:Result→Shared→Prop)(I:Nat→Shared→Prop)(test:(Bool→Shared→Prop)→Shared→Prop)(n:Nat)(s:Shared):Prop :=
 let E:Value→Shared→Prop:=notedBy (model X.prog X.w) X.A env fun e s'=>R (.error e) s'
 wpAny (model X.prog X.w) X.A (pyNext it) (fun r s1=>match r with
  | none=>R (.ok .next) s1
  | some v=>wpAny (model X.prog X.w) X.A (letOwnedTupleGo tg it v) (fun _ s2=>wpAny (model X.prog X.w) X.A (assign tg env v) (fun _ s3=>test (fun ok s4=>if ok=true then wpAny (model X.prog X.w) X.A (eval elt env) (fun x s5=>wpAny (model X.prog X.w) X.A (call (.builtin "list.append") [acc,x]) (fun _ s6 => ∃ m,m<n∧I m s6) E s5) E s4 else ∃ m,m<n∧I m s4) s3) E s2) E s1) E s
theorem zhV {ifs:List Expr}(N:List Str){test:Env→(Result→Shared→Prop)→(Bool→Shared→Prop)→Shared→Prop}
 (lp:∀ {it acc:Value} {env:Env} {R:Result→Shared→Prop} {s:Shared} (I:Nat→Shared→Prop),(∀ n s,I n s→TurnI X tg elt it acc env R I (test env R) n s)→∀ n,I n s→codeAny (model X.prog X.w) X.A (.compLoop (.ListComp elt [⟨tg,iter,ifs,0⟩] scope pos) 0 it acc env) R s)
 (ht:∀ cl C s H ex {pins:List (Addr×Obj)} {s7:Shared} {σ7:St} {H7:Hp} {R:Result→Shared→Prop} {q:Bool→Hp→Prop} {Q:Bool→Shared→Prop},zgn X C s H ex→(∀ e s',zgW X C e s'→R (.error e) s')→Inv (zap X scope N cl C s H ex) pins σ7 H7 s7→tt σ7 H7 q→(∀ b s8 H8,Inv (zap X scope N cl C s H ex) pins σ7 H8 s8→q b H8→Q b s8)→test (compEnvC scope cl C X.env) R Q s7)
 (cap:List (Option Nat)) (hc:X.calm=true) (okB:zbd scope X.env N X.N cap=true) (hi:PI X tg iter wi) (hg:∀ cl C s H ex,PG (zap X scope N cl C s H ex) tg g) (he:∀ cl C s H ex,zgn X C s H ex→PE (zap X scope N cl C s H ex) elt te)
 (hs:∀ x,foldedSetIterable iter X.env x=pure x) {use:Option (Value→Sem Unit)} {R:Value→Shared→Prop} {fpos:Pos} {pins:List (Addr×Obj)} {s:Shared} {σ : St} {H:Hp} {Q:VK} (I:Inv X pins σ H s) (h:zee cap wi g tt te σ H Q) (fin:zd9 X pins σ Q use R) :
 wpAny (model X.prog X.w) X.A (comprehension (.ListComp elt [⟨tg,iter,ifs,0⟩] scope pos) scope X.env fpos (newList []) false (eval iter X.env) use) R X.xe s:=by
 have ok:=CompOk.of okB
 obtain ⟨cl0,hcl,hcl1,hcl2⟩:=zoj X.env scope fun y hy hf=>I.ok.has y.1 (ok.free y hy hf)
 refine wpAny_comprehension_free (use:=use) rfl hs hcl ok.kind ok.loc (thn (hi pins s σ H _ I h) fun xv s1 h1=>thn h1 fun itv s2 h2 => ?_)
 obtain ⟨it,fp,tn,J,H2,e,I2,T,st2,f2,W,⟨m0,w0⟩,turn⟩:=h2
 subst e
 have hlt:∀ b∈fp,b<s2.heap.objs.size:=fun b hb=>let ⟨_,e,_⟩:=T.obj _ _ st2 b hb;Heap.lt_size e
 refine wpAny_newObj_type (zdj ?_)
 dsimp only
 generalize hP:s2.heap.push { cls:=.type "list",dict:=none,data:=.seq ([]:List Value).toArray }=P2
 have hC:P2.objs.size=s2.heap.objs.size+1:=by rw [← hP,Heap.size_push]
 have hDC:s2.heap.objs.size≠P2.objs.size:=by rw [hC];exact Nat.ne_of_lt (Nat.lt_succ_self _)
 have hCle:s2.heap.objs.size≤P2.objs.size:=by rw [hC];exact Nat.le_succ _
 have below:∀ b,b<s2.heap.objs.size→b≠P2.objs.size∧b≠s2.heap.objs.size:=fun b hb=>⟨by rw [hC];exact Nat.ne_of_lt (Nat.lt_succ_of_lt hb),Nat.ne_of_lt hb⟩
 have hcc:CellsAt scope X.env (cellsFrom (P2.objs.size+1) scope.names cl0) P2.objs.size (pushCells (P2.push { cls:=.type "dict",data:=.dict #[] }) scope.names) :=
  ziK hcl1 hcl2 I2.ok.inj (fun x c e=>Nat.le_trans (Nat.le_of_lt (let ⟨_,_,ho,_⟩:=I2.cell x c e;Heap.lt_size ho)) hCle) (Heap.size_push ..) ok.cell
 have hns1:(pushCells (P2.push { cls:=.type "dict",data:=.dict #[] }) scope.names).Ns P2.objs.size (fun _=>none):=(Heap.Ns.new P2 (.type "dict")).keeps (pushCells_keeps _ _)
 generalize cellsFrom (P2.objs.size+1) scope.names cl0=cl at hcc ⊢
 have old:∀ b o,s2.heap.get? b=some o→(pushCells (P2.push { cls:=.type "dict",data:=.dict #[] }) scope.names).get? b=some o:=fun b o e=>pushCells_keeps _ _ b o (Heap.get?_push_of_some _ (hP ▸ Heap.get?_push_of_some _ e))
 have hacc:(pushCells (P2.push { cls:=.type "dict",data:=.dict #[] }) scope.names).get? s2.heap.objs.size=some { cls:=.type "list",data:=.seq ([]:List Value).toArray 0 }:=pushCells_keeps _ _ _ _ (Heap.get?_push_of_some _ (hP ▸ Heap.get?_push_size _ rfl))
 generalize pushCells (P2.push { cls:=.type "dict",data:=.dict #[] }) scope.names=g1 at hcc hns1 old hacc ⊢
 have stat:∀ {H':Hp} {pl:List (Addr×Obj)},(∀ b∈fp,H' b=none)→(∀ p∈pl,p.1∉fp)→∀ b∈fp,FpOk (zap X scope N cl P2.objs.size s2 H2 fp) pl H' b:=fun {H' pl} hn hp b hb=>by
  refine ⟨hn b hb,(below b (hlt b hb)).1,fun z => ?_,.inl hb,fun x c e => ?_,fun p hq z => ?_⟩
  ·rcases List.mem_cons.mp (I2.stkSub b z) with q|q
   ·exact (f2 b hb).2.1 q
   ·exact (f2 b hb).2.2.1 q
  ·rcases hcc.from_ x c e with ⟨q,_⟩|⟨q,_⟩
   ·exact (f2 b hb).2.2.2.2.1 x c q
   ·exact Nat.ne_of_gt (Nat.lt_trans (Nat.lt_of_lt_of_le (hlt b hb) hCle) q)
  ·have hq:p∈([]:List (Addr×Obj))++pl:=hq
   rw [List.nil_append] at hq
   exact hp p hq (by rw [z];exact hb)
 have nD:s2.heap.objs.size∉fp:=fun z=>absurd (hlt _ z) (Nat.lt_irrefl _)
 have loop:∀ s3:Shared,s3={ s2 with heap:=g1 } →
  codeAny (model X.prog X.w) X.A (.compLoop (.ListComp elt [⟨tg,iter,ifs,0⟩] scope pos) 0 (.ref it) (.ref s2.heap.objs.size) (compEnvC scope cl P2.objs.size X.env))
   (compPost (model X.prog X.w) X.A X.xe use R (.ref s2.heap.objs.size) P2.objs.size) s3:=by
  rintro s3 rfl
  have I0:=zlv (tk:=s2.toks) ok I2 f2 hlt hcc hCle old hns1
  refine lp (fun n s' => ∃ i ys its k σ' H',Inv (zap X scope N cl P2.objs.size s2 H2 fp) [] σ' H' s'∧tn i s'.heap∧(∀ b∈fp,H' b=none)∧s'.heap.get? s2.heap.objs.size=some { cls:=.type "list",data:=.seq (List.toArray its) k } ∧
   H' s2.heap.objs.size=none∧Vals ys its∧W i n ys σ' H') ?_ m0
   ⟨0,[],[],0,zgN cap σ,H2,I0,T.keep _ _ _ st2 (fun b _ o e=>old b o e),fun b hb=>(f2 b hb).1,hacc,I2.hok.fresh (Nat.le_refl _),.nil,w0⟩
  have cat:zgn X P2.objs.size s2 H2 fp:=⟨_,_,I2,f2,hCle⟩
  have ce:∀ e s',zgW X P2.objs.size e s'→compPost (model X.prog X.w) X.A X.xe use R (.ref s2.heap.objs.size) P2.objs.size (.error e) s':=fun e s' h=>by cases use<;>exact h
  have xe:∀ e s',(zap X scope N cl P2.objs.size s2 H2 fp).xe e s'→notedBy (model X.prog X.w) X.A (compEnvC scope cl P2.objs.size X.env) (fun e s'=>compPost (model X.prog X.w) X.A X.xe use R (.ref s2.heap.objs.size) P2.objs.size (.error e) s') e s':=fun e s' h=>wpAny_mono h (fun _ s2 q=>ce e s2 q) fun e s2 q=>ce e s2 q
  rintro n s4 ⟨i,ys,its,k,σ4,H4,I4,st4,fr4,hd4,hn4,rv4,w4⟩
  obtain ⟨hz,tn4⟩:=turn i n ys σ4 H4 w4
  have J4:Inv (zap X scope N cl P2.objs.size s2 H2 fp) [(s2.heap.objs.size,{ cls:=.type "list",data:=.seq its.toArray k })] σ4 H4 s4:=I4.pins_of fun p hp=>by
   have e:=List.mem_singleton.mp hp
   subst e
   refine ⟨hd4,hn4,hDC,?_,fun v z=>by cases z⟩
   exact fun z=>absurd (Nat.lt_of_lt_of_le (by
    rcases List.mem_cons.mp (I2.stkSub _ z) with q|q
    ·exact Nat.lt_of_le_of_lt (Nat.le_of_eq q) I2.lt
    ·obtain ⟨_,o,ho,_⟩:=I2.ok.funs.mem q
     exact Nat.lt_of_lt_of_le (Heap.lt_size ho) I2.sz) (Nat.le_refl s2.heap.objs.size)) (Nat.lt_irrefl _)
  have np:∀ p ∈ [(s2.heap.objs.size,({ cls:=.type "list",data:=.seq its.toArray k }:Obj))],p.1∉fp:=fun p hp=>by
   have e:=List.mem_singleton.mp hp
   subst e;exact nD
  rcases tn4 with ⟨stop,qn⟩|⟨go,step⟩
  ·refine wpAny_mono (T.done (zap X scope N cl P2.objs.size s2 H2 fp) rfl rfl rfl hc i _ s4 σ4 H4 (fun _ _=>False) J4 (stat fr4 np) st4 stop) (fun r s5 h5 => ?_) fun _ _ f=>f.elim
   obtain ⟨rfl,I5⟩:=h5
   obtain ⟨m,hm,_⟩:=id I5.loc
   have p5:=I5.pin (s2.heap.objs.size,_) (List.mem_append_right _ List.mem_cons_self)
   refine fin _ _ m _ _ hm (Nat.ne_of_gt (Nat.lt_of_lt_of_le I2.lt hCle)) (I2.nofs hCle) (Nat.le_trans I2.sz hCle) (fun x c e z => ?_) (fun p hp z => ?_) fun h' hs'=>zlR I2 f2 hCle (Nat.le_refl _) hDC (I5.pins_of fun p hp=>nomatch hp) p5.1 p5.2.1 rv4 (Nat.le_of_lt hz) hs' ⟨by rw [zah (Ne.symm hDC)];exact I5.free,qn _ p5.2.1⟩
   ·obtain ⟨v,o,ho,hd⟩:=I2.cell x c e
    have:=Heap.lt_size ho
    rw [z] at this
    exact absurd (Nat.lt_of_lt_of_le this hCle) (Nat.lt_irrefl _)
   ·have:=Heap.lt_size (I2.pin p hp).1
    rw [z] at this
    exact absurd (Nat.lt_of_lt_of_le this hCle) (Nat.lt_irrefl _)
  ·refine wpAny_mono (T.item (zap X scope N cl P2.objs.size s2 H2 fp) rfl rfl rfl hc i _ s4 σ4 H4 (fun _ _=>False) J4 (stat fr4 np) st4 go) (fun r s5 h5 => ?_) fun _ _ f=>f.elim
   obtain ⟨u,rfl,h5⟩:=h5
   refine wpAny_mono h5 (fun _ s6 h6 => ?_) fun _ _ f=>f.elim
   obtain ⟨x,H6,I6,r6,y6,st6,fr6⟩:=h6
   have I6':=I6.pinned (stat fr6 np) (T.obj _ _ st6)
   refine wpAny_mono (hg cl P2.objs.size s2 H2 fp _ s6 σ4 H6 x u _ I6' r6 (step x H6 y6)) (fun _ s7 h7 => ?_) xe
   obtain ⟨σ7,H7,I7,q7⟩:=h7
   refine ht cl P2.objs.size s2 H2 fp cat ce I7 q7 fun bv s8 H8 I8 q8 => ?_
   have keepT:∀ (H9:Hp) (s9:Shared) (σ9:St),Inv (zap X scope N cl P2.objs.size s2 H2 fp) ([(s2.heap.objs.size,{ cls:=.type "list",data:=.seq its.toArray k })]++zgx fp s6.heap) σ9 H9 s9→(∀ b∈fp,∀ o,s6.heap.get? b=some o→s9.heap.get? b=some o)∧∀ b∈fp,H9 b=none:=fun H9 s9 σ9 I9=>by
    refine ⟨fun b hb o e=>(I9.pin (b,o) (List.mem_append_right _ (List.mem_append_right _ (zbZ hb e)))).1,fun b hb => ?_⟩
    obtain ⟨o,e,d⟩:=T.obj _ _ st6 b hb
    exact (I9.pin (b,o) (List.mem_append_right _ (List.mem_append_right _ (zbZ hb e)))).2.1
   have p8:=I8.pin (s2.heap.objs.size,_) (List.mem_append_right _ (List.mem_append_left _ List.mem_cons_self))
   cases bv with
   | false =>
    rw [if_neg (by simp)] at q8 ⊢
    obtain ⟨m',hm',w8⟩:=q8
    obtain ⟨z1,z2⟩:=keepT _ _ _ I8
    exact ⟨m',hm',i+1,ys,its,k,σ7,H8,I8.pins_of (fun p hp=>nomatch hp),T.keep _ _ _ st6 z1,z2,p8.1,p8.2.1,rv4,w8⟩
   | true =>
    rw [if_pos rfl] at q8 ⊢
    refine wpAny_mono (he cl P2.objs.size s2 H2 fp cat _ s8 σ7 H8 _ I8 q8) (fun yv s9 h9 => ?_) xe
    obtain ⟨y,H9,I9,ry,m',hm',w9⟩:=h9
    have p9:=I9.pin (s2.heap.objs.size,_) (List.mem_append_right _ (List.mem_append_left _ List.mem_cons_self))
    have hl:=rv4.length
    refine append_at (hsz:=by show its.toArray.size≤sizeLine;rw [List.size_toArray,← hl];exact Nat.le_of_lt hz) p9.1 fun h10 hs10 hd10 => ?_
    have I10:Inv (zap X scope N cl P2.objs.size s2 H2 fp) [] σ7 H9 { s9 with heap:=h10 }:=(I9.pins_of (pins':=[]) fun p hp=>nomatch hp).turned (t':=s9.toks) (it:=s2.heap.objs.size) (fun b o hb e=>(hs10.2 b hb).trans e) p9.2.1 hDC (.inr (Nat.le_refl _))
     (fun x c e z=>by
      obtain ⟨v,o,ho,hd⟩:=I9.cell x c e
      rw [z,p9.1] at ho;cases ho;cases hd) (fun p hp=>absurd hp (by show ¬ p∈([]:List (Addr×Obj))++[];simp))
    obtain ⟨z1,z2⟩:=keepT _ _ _ I9
    refine ⟨m',hm',i+1,ys++[y],its++[yv],k+1,σ7,H9,I10,T.keep _ _ _ st6 (fun b hb o e => ?_),z2,?_,p9.2.1,Vals.append rv4 (.cons ry .nil),w9⟩
    ·have hb':b≠s2.heap.objs.size:=fun z=>nD (by rw [← z];exact hb)
     exact (hs10.2 b hb').trans (z1 b hb o e)
    ·refine hd10.trans ?_
     simp
 exact codeAny_compStart_list (loop _ rfl) (T.self _ 0 _ _ _ (T.keep _ _ _ st2 (fun b _ o e=>old b o e)) (loop _ rfl))
theorem zok (N:List Str)(cap:List (Option Nat))(hc:X.calm=true)(okB:zbd scope X.env N X.N cap=true)(hi:PI X tg iter wi)(hg:∀ cl C s H ex,PG (zap X scope N cl C s H ex) tg g)(he:∀ cl C s H ex,zgn X C s H ex→PE (zap X scope N cl C s H ex) elt te)
 (hs:∀ x,foldedSetIterable iter X.env x=pure x) {use:Option (Value→Sem Unit)} {R:Value→Shared→Prop} {fpos:Pos} {pins:List (Addr×Obj)} {s:Shared} {σ : St} {H:Hp} {Q:VK} (I:Inv X pins σ H s) (h:zkA cap wi g te σ H Q) (fin:zd9 X pins σ Q use R) :
 wpAny (model X.prog X.w) X.A (comprehension (.ListComp elt [⟨tg,iter,[],0⟩] scope pos) scope X.env fpos (newList []) false (eval iter X.env) use) R X.xe s :=
 zhV (tt:=fun _ H q=>q true H) (test:=fun _ _ Q s=>Q true s) N (fun I turn n h=>PySem.W.kcp_loop I turn n h) (fun _ _ _ _ _ _ _ _ _ _ _ _ _ _ I q k=>k true _ _ I q) cap hc okB hi hg he hs I h fin
theorem zl1 (N:List Str)(cap:List (Option Nat))(hc:X.calm=true)(okB:zbd scope X.env N X.N cap=true)(hi:PI X tg iter wi)(hg:∀ cl C s H ex,PG (zap X scope N cl C s H ex) tg g)(he:∀ cl C s H ex,zgn X C s H ex→PE (zap X scope N cl C s H ex) elt te)
 (hs:autoParam (∀ x,foldedSetIterable iter X.env x=pure x) zaw._auto_1):PE X (.ListComp elt [⟨tg,iter,[],0⟩] scope pos) (zkA cap wi g te):=by
 intro pins s σ H Q I h
 rw [eval_ListComp]
 exact zok N cap hc okB hi hg he hs I h zhU
theorem zjr (N:List Str)(cap:List (Option Nat))(hc:X.calm=true)(okB:zbd scope X.env N X.N cap=true)(hi:PI X tg iter wi)(hg:∀ cl C s H ex,PG (zap X scope N cl C s H ex) tg g)(he:∀ cl C s H ex,PE (zap X scope N cl C s H ex) elt te)
 (hs:autoParam (∀ x,foldedSetIterable iter X.env x=pure x) zaw._auto_1):PE X (.ListComp elt [⟨tg,iter,[],0⟩] scope pos) (zkA cap wi g te):=zl1 N cap hc okB hi hg (fun cl C s H ex _=>he cl C s H ex) hs
end
end L2
namespace L2
open PySem PySem.Spec PyProof.Rows
mutual
noncomputable def Is (H:Hp):PyData→V→Prop
 | .none,v=>v=.non
 | .bool b,v=>v=.bl b
 | .int i,v=>v=.int i
 | .str x,v=>v=.str x
 | .list ds,v => ∃ a xs,v=.ref a∧H a=some (.lst xs)∧zao H ds xs
 | .tuple ds,v => ∃ a xs,v=.ref a∧H a=some (.tup xs)∧zao H ds xs
 | .dict _,_=>False
noncomputable def zao (H:Hp):List PyData→List V→Prop
 | [],xs=>xs=[]
 | d::ds,xs => ∃ x r,xs=x::r∧Is H d x∧zao H ds r
end
mutual
theorem Is.same {H H':Hp}(e:Same H H'):∀ (d:PyData) (v:V),Is H d v→Is H' d v
 | .none,_,h=>by unfold Is at h ⊢;exact h
 | .bool _,_,h=>by unfold Is at h ⊢;exact h
 | .int _,_,h=>by unfold Is at h ⊢;exact h
 | .str _,_,h=>by unfold Is at h ⊢;exact h
 | .list ds,v,h=>by
  unfold Is at h ⊢
  refine zc2c h fun a xs h1 h2 h3 => ?_
  exact ⟨a,xs,h1,e _ _ h2,zao.same e ds xs h3⟩
 | .tuple ds,v,h=>by
  unfold Is at h ⊢
  refine zc2c h fun a xs h1 h2 h3 => ?_
  exact ⟨a,xs,h1,e _ _ h2,zao.same e ds xs h3⟩
 | .dict _,_,h=>by unfold Is at h;exact h.elim
theorem zao.same {H H':Hp}(e:Same H H'):∀ (ds:List PyData) (xs:List V),zao H ds xs→zao H' ds xs
 | [],_,h=>by unfold zao at h ⊢;exact h
 | d::ds,xs,h=>by
  unfold zao at h ⊢
  refine zc2c h fun x r h1 h2 h3 => ?_
  exact ⟨x,r,h1,Is.same e d x h2,zao.same e ds r h3⟩
end
theorem zao.length {H:Hp}:∀ {ds:List PyData} {xs:List V},zao H ds xs→xs.length=ds.length
 | [],_,h=>by unfold zao at h;subst h;rfl
 | d::ds,xs,h=>by
  unfold zao at h
  refine zc2c h fun x r zr2 _ h3 => ?_
  obtain rfl:=zr2
  rw [List.length_cons,List.length_cons,zao.length h3]
theorem zao.get {H:Hp}:∀ {ds:List PyData} {xs:List V} {i:Nat} {d:PyData},zao H ds xs→ds[i]? = some d→∃ x,xs[i]? = some x∧Is H d x
 | [],_,_,_,_,e=>by simp at e
 | d::ds,xs,0,d',h,e=>by
  unfold zao at h
  refine zc2c h fun x r zr2 h2 _ => ?_
  obtain rfl:=zr2
  simp at e;subst e
  exact ⟨x,rfl,h2⟩
 | d::ds,xs,i+1,d',h,e=>by
  unfold zao at h
  refine zc2c h fun x r zr2 _ h3 => ?_
  obtain rfl:=zr2
  refine zc1b (zao.get (i:=i) h3 (by simpa using e)) fun y h4 h5 => ?_
  exact ⟨y,by simpa using h4,h5⟩
theorem zex {H:Hp}:∀ (ns:List Int),zao H (ns.map PyData.int) (ns.map V.int)
 | []=>by show zao H [] [];unfold zao;rfl
 | n::ns=>by
  show zao H (PyData.int n::ns.map PyData.int) (V.int n::ns.map V.int)
  unfold zao
  exact ⟨_,_,rfl,by unfold Is;rfl,zex ns⟩
theorem zck {H:Hp}:∀ {ns:List Int} {xs:List V},zao H (ns.map PyData.int) xs→xs=ns.map V.int
 | [],_,h=>by
  have h:zao H [] _:=h
  unfold zao at h;exact h
 | n::ns,xs,h=>by
  have h:zao H (PyData.int n::ns.map PyData.int) xs:=h
  unfold zao at h
  obtain ⟨x,r,rfl,h2,h3⟩:=h
  unfold Is at h2
  rw [h2,zck h3]
  rfl
theorem Is.tuple_iff {H:Hp}{ds:List PyData}{v:V}:Is H (.tuple ds) v↔∃ a xs,v=.ref a∧H a=some (.tup xs)∧zao H ds xs:=by unfold Is;exact Iff.rfl
mutual
noncomputable def zaB:PyData→Bool
 | .int _=>true
 | .list xs=>zaP xs
 | .tuple xs=>zaP xs
 | .none=>false
 | .bool _=>false
 | .str _=>false
 | .dict _=>false
noncomputable def zaP:List PyData→Bool
 | []=>true
 | x::xs=>zaB x&&zaP xs
end
mutual
theorem zdy:∀ d:PyData,zaB d=true→d.canLay0=true
 | .int _,_=>by unfold PyData.canLay0;rfl
 | .list xs,h=>by unfold zaB at h;unfold PyData.canLay0;exact zbK xs h
 | .tuple xs,h=>by unfold zaB at h;unfold PyData.canLay0;exact zbK xs h
 | .none,h=>by unfold zaB at h;exact zqb h
 | .bool _,h=>by unfold zaB at h;exact zqb h
 | .str _,h=>by unfold zaB at h;exact zqb h
 | .dict _,h=>by unfold zaB at h;exact zqb h
theorem zbK:∀ xs:List PyData,zaP xs=true→PyData.canLayAll0 xs=true
 | [],_=>by unfold PyData.canLayAll0;rfl
 | x::xs,h=>by
  unfold zaP at h
  obtain ⟨h1,h2⟩:=Bool.and_eq_true_iff.mp h
  unfold PyData.canLayAll0
  rw [zdy x h1,zbK xs h2];rfl
end
mutual
theorem zgU:∀ d e:PyData,zaB d=true→zaB e=true→(PyData.eqv d e=true↔d=e)
 | .int i,.int j,_,_=>by unfold PyData.eqv;simp
 | .int i,.list ys,_,_=>by unfold PyData.eqv;simp
 | .int i,.tuple ys,_,_=>by unfold PyData.eqv;simp
 | .list xs,.int j,_,_=>by unfold PyData.eqv;simp
 | .list xs,.list ys,h1,h2=>by
  unfold zaB at h1 h2
  have q:=zcS xs ys h1 h2
  unfold PyData.eqv
  rw [q];simp
 | .list xs,.tuple ys,_,_=>by unfold PyData.eqv;simp
 | .tuple xs,.int j,_,_=>by unfold PyData.eqv;simp
 | .tuple xs,.list ys,_,_=>by unfold PyData.eqv;simp
 | .tuple xs,.tuple ys,h1,h2=>by
  unfold zaB at h1 h2
  have q:=zcS xs ys h1 h2
  unfold PyData.eqv
  rw [q];simp
 | .none,_,h,_=>by unfold zaB at h;exact zqb h
 | .bool _,_,h,_=>by unfold zaB at h;exact zqb h
 | .str _,_,h,_=>by unfold zaB at h;exact zqb h
 | .dict _,_,h,_=>by unfold zaB at h;exact zqb h
 | _,.none,_,h=>by unfold zaB at h;exact zqb h
 | _,.bool _,_,h=>by unfold zaB at h;exact zqb h
 | _,.str _,_,h=>by unfold zaB at h;exact zqb h
 | _,.dict _,_,h=>by unfold zaB at h;exact zqb h
theorem zcS:∀ xs ys:List PyData,zaP xs=true→zaP ys=true→(PyData.eqvAll xs ys=true↔xs=ys)
 | [],[],_,_=>by unfold PyData.eqvAll;simp
 | [],y::ys,_,_=>by unfold PyData.eqvAll;simp
 | x::xs,[],_,_=>by unfold PyData.eqvAll;simp
 | x::xs,y::ys,h1,h2=>by
  unfold zaP at h1 h2
  obtain ⟨a1,a2⟩:=Bool.and_eq_true_iff.mp h1
  obtain ⟨b1,b2⟩:=Bool.and_eq_true_iff.mp h2
  unfold PyData.eqvAll
  rw [Bool.and_eq_true_iff,zgU x y a1 b1,zcS xs ys a2 b2]
  simp
end
theorem zpI {d e:PyData}(h1:zaB d=true)(h2:zaB e=true)(h:d≠e):PyData.eqv d e=false:=by
 cases q:PyData.eqv d e with
 | false=>rfl
 | true=>exact absurd ((zgU d e h1 h2).mp q) h
theorem zln {d:PyData}(h1:zaB d=true):PyData.eqv d d=true:=(zgU d d h1 h1).mpr rfl
section
variable {X:Cx}
noncomputable def maxI:List Int→Int
 | []=>0
 | x::r=>r.foldl max x
theorem zdi:∀ (r:List Int) (x:Int),x≤r.foldl max x∧(∀ y∈r,y≤r.foldl max x)∧(r.foldl max x=x∨r.foldl max x∈r)
 | [],x=>⟨Int.le_refl _,(fun _ h=>nomatch h),.inl rfl⟩
 | y::r,x=>by
  refine zc0c (zdi r (max x y)) fun h1 h2 h3 => ?_
  show x≤r.foldl max (max x y)∧(∀ z∈y::r,z≤r.foldl max (max x y))∧(r.foldl max (max x y)=x∨r.foldl max (max x y)∈y::r)
  refine ⟨by omega,fun z hz => ?_,?_⟩
  ·rcases List.mem_cons.mp hz with rfl|hz
   ·omega
   ·exact h2 z hz
  ·rcases h3 with h3|h3
   ·by_cases hxy:x≤y
    ·right;rw [h3,Int.max_eq_right hxy];exact List.mem_cons_self
    ·left;rw [h3,Int.max_eq_left (by omega)]
   ·right;exact List.mem_cons_of_mem _ h3
theorem zbS {l:List Int}(h:l ≠ []):maxI l∈l∧∀ y∈l,y≤maxI l:=by
 cases l with
 | nil=>exact absurd rfl h
 | cons x r =>
  refine zc0c (zdi r x) fun h1 h2 h3 => ?_
  refine ⟨?_,fun y hy => ?_⟩
  ·rcases h3 with h3|h3
   ·show r.foldl max x∈x::r
    rw [h3];exact List.mem_cons_self
   ·exact List.mem_cons_of_mem _ h3
  ·rcases List.mem_cons.mp hy with rfl|hy
   ·exact h1
   ·exact h2 y hy
theorem znN {l:List Int}{M:Int}(h1:M∈l)(h2:∀ y∈l,y≤M):M=maxI l:=by
 obtain ⟨q1,q2⟩:=zbS (l:=l) (by intro e;rw [e] at h1;cases h1)
 have a:=q2 M h1
 have b:=h2 _ q1
 omega
theorem zja (hc:X.calm=true):za1 X (.builtin "max") (fun xs H Q => ∃ a ns,xs=[.ref a]∧SqL X.K H a (ns.map V.int)∧ns ≠ []∧Q (.int (maxI ns)) H):=by
 intro pins s σ H xs us Q I r h
 refine zc2d h fun a ns zr2 hl hne q => ?_
 obtain rfl:=zr2
 refine zc1b (zdm r) fun u zr1 ru => ?_
 obtain rfl:=zr1
 obtain rfl:u=Value.ref a:=ru
 refine zc1c (I.list hl) fun its rv p hz => ?_
 have hi:IntsAre its ns:=zid rv
 obtain ⟨ys,e⟩:=hi.allInts.items
 have hns:ns=ys.toList.map (·.1):=by
  rw [← hi.numsOf,← nums_intItems,← e]
 have hsz:0<ys.size:=by
  have h3:0<ns.length:=List.length_pos_iff.mpr hne
  rw [hns,List.length_map,Array.length_toList] at h3;exact h3
 have hl':=p.isList
 rw [e] at hl'
 refine max_intList (I.ok.hd hc) hl' hsz fun v h' tk hv hk => ?_
 obtain ⟨t,rfl⟩:=intItems_at hv
 obtain ⟨h1,h2⟩:=argBest_gt (numAt ys) (ys.size-1)
 refine ⟨.int (maxI ns),H,I.kept hk,⟨t,?_⟩,q⟩
 congr 1
 refine znN ?_ fun b hb => ?_
 ·rw [hns,numAt_eq];exact PySem.getD_mem (by rw [List.length_map,Array.length_toList];omega)
 ·rw [hns] at hb
  refine zc1b (PySem.mem_getD hb) fun j hj zr2 => ?_
  obtain rfl:=zr2
  rw [List.length_map,Array.length_toList] at hj
  rw [← numAt_eq];exact h2 j (by omega)
theorem zlJ:za1 X (.builtin "isinstance") (fun xs H Q => ∃ x n t b,xs=[x,.ty n]∧TyOf X.K H x t∧PySem.W.kitOne X.K t (.type n)=some b∧Q (.bl b) H):=by
 intro pins s σ H xs us Q I r h
 refine zc4a h fun x n t b zz=>zc0d zz fun zr4 ty e q => ?_
 obtain rfl:=zr4
 refine zc2c (zmg r) fun u w' zr2 rx rn => ?_
 obtain rfl:=zr2
 obtain rfl:w'=Value.type n:=rn
 exact zjo I rx ty e fun tk=>⟨.bl b,H,I.tok tk,rfl,q⟩
def za6 (P:Program)(w:World)(K:PySem.W.Frag)(mg:Str→Option Value)(base:Heap)(name:Str)(k:Nat)(ps:List Str)(sp:Sp):Prop :=
 ∃ f fd,FnOk P w K mg base CX0 k f fd ps sp∧ziI K fd ps []∧PySem.W.keepIn K (.ref f)=true∧mg name=some (.ref f)
theorem za6.mono {P:Program}{w:World}{K:PySem.W.Frag}{mg:Str→Option Value}{base:Heap}{name:Str}{j k:Nat}{ps:List Str}{sp:Sp}(c:za6 P w K mg base name j ps sp)(h:j≤k):za6 P w K mg base name k ps sp:=by
 refine zc2b c fun f fd F r => ?_
 exact ⟨f,fd,F.mono h,r⟩
theorem zlH {name:Str}{k:Nat}{ps:List Str}{sp:Sp}{p pos:Pos}{e:Expr}{es:List Expr}{t:TA}(c:za6 X.prog X.w X.K X.mg X.base name k ps sp)(hr:Room k X.A)(hg:Gl X name)(ha:PA X (e::es) t)
 (hdb:autoParam ((name == ("__debug__" : Str))=false) zav._auto_1) (he:starEach (e::es) X.env=(false,eval e X.env)::starEach es X.env:=by rfl) (hpl:(backTo pos (starEach es X.env)).any (·.1)=false:=by rfl) :
 PE X (.Call (.Name name p) (e::es) [] pos) (zpf sp [] E0 t):=by
 refine zc2d c fun f fd F b hk hm => ?_
 exact znd F hr hg hm hk b .nil pass0 ha hdb he hpl
end
theorem zaX {H:Hp}{p:Addr}(h:H p=none)(o:HO):Same H (upd H p o):=fun b u q=>by rw [zah (zbc q h)];exact q
theorem zgt {n:Nat}(h:n≤1000):n≤sizeLine:=Nat.le_of_lt (zg8 h)
noncomputable def pD (p:Int×Int):PyData:=.tuple [.int p.1,.int p.2]
noncomputable def rD (r:List (Int×Int)):PyData:=.tuple (r.map pD)
theorem zgV {H:Hp}{p:Int×Int}{v:V}:Is H (pD p) v↔∃ a,v=.ref a∧H a=some (.tup [.int p.1,.int p.2]):=by
 unfold pD
 rw [Is.tuple_iff]
 constructor
 ·rintro ⟨a,xs,h1,h2,h3⟩
  have e:xs=[.int p.1,.int p.2]:=zck (ns:=[p.1,p.2]) h3
  subst e
  exact ⟨a,h1,h2⟩
 ·rintro ⟨a,h1,h2⟩
  exact ⟨a,_,h1,h2,zex [p.1,p.2]⟩
theorem zf0 {H H':Hp}{l:Addr}(o:HO)(s:Same H H')(h:H l=none):Same H (upd H' l o):=fun b u e=>by
 rw [zah (zbc e h)];exact s b u e
theorem ze2:∀ ns:List Int,zaP (ns.map PyData.int)=true
 | []=>by show zaP []=true;unfold zaP;rfl
 | n::ns=>by
  show zaP (PyData.int n::ns.map PyData.int)=true
  unfold zaP
  rw [ze2 ns]
  unfold zaB
  rfl
theorem zcI (p:Int×Int):zaB (pD p)=true:=by unfold pD zaB;exact ze2 [p.1,p.2]
theorem ze8:∀ ns:List Int,PyData.depthAll (ns.map PyData.int)=0
 | []=>by show PyData.depthAll []=0;unfold PyData.depthAll;rfl
 | n::ns=>by
  show PyData.depthAll (PyData.int n::ns.map PyData.int)=0
  unfold PyData.depthAll
  rw [ze8 ns]
  unfold PyData.depth
  rfl
theorem zcn:bootBuiltins "len" = some (.builtin "len"):=boot_len
theorem zmQ:bootBuiltins "max" = some (.builtin "max"):=boot_max
theorem zpB:bootBuiltins "min" = some (.builtin "min"):=boot_min
theorem zbC:bootBuiltins "isinstance" = some (.builtin "isinstance"):=boot_isinstance
theorem zgs:bootBuiltins "sorted" = some (.builtin "sorted"):=boot_sorted
theorem zph:bootBuiltins "int" = some (.type "int"):=boot_int
theorem znI:bootBuiltins "bool" = some (.type "bool"):=boot_bool
theorem zhk:bootBuiltins "list" = some (.type "list"):=boot_list
theorem zmm:bootBuiltins "tuple" = some (.type "tuple"):=boot_tuple
theorem zfr:bootBuiltins "dict" = some (.type "dict"):=boot_dict
theorem bt_set:bootBuiltins "set" = some (.type "set"):=boot_set
end L2
namespace L2
open PySem PySem.Spec PyProof.Rows
theorem zdG:entryFor table "dict.update.loop" = some Builtin.«dict.update.loop»:=entryFor_of_tree (by kernel_rfl)
theorem zbB:plainId "dict.update.loop" = true:=by decide +kernel
section
variable {prog:Program}{w:World}{K:Type}[DecidableEq K]{knd:KeyKind prog w K}
theorem dloop (knd:KeyKind prog w K)(it t d:Addr)(items:Array Value)(ps:List (K×Value))(h0:Heap)(hlen:items.size=ps.length)
 (hit:∀ (j:Nat) k v,ps[j]? = some (k,v)→∃ ta key,items[j]? = some (.ref ta)∧h0.IsTuple ta #[key,v]∧knd.is k key=true∧ta≠it∧ta≠d)
 (ht0:h0.IsTuple t items) (n1:t≠it) (n2:t≠d) (n3:d≠it) (m:Nat) :
 ∀ i:Nat,ps.length-i=m→∀ (A:Around) (R:Result→Shared→Prop) (s:Shared) (kvs:List (K×Value)),A.handled=none→s.heap.IsTupleIter it t i→(∀ b o,b≠it→b≠d→h0.get? b=some o→s.heap.get? b=some o) →
  s.heap.DictOf knd d kvs→kvs.length+(ps.length-i)≤sizeLine →
  (∀ h' tk,h'.DictOf knd d (merged kvs (ps.drop i))→(∀ b o,b≠it→b≠d→h0.get? b=some o→h'.get? b=some o)→R (.ok (.ret .none)) { s with heap:=h',toks:=tk }) →
  wpAny (model prog w) A.in1 (Builtin.«dict.update.loop» ⟨[.ref d,.ref it,rawInt i,.none],[]⟩) (fun fin s'=>match fin with | .done f=>R (.ok f) s' | .again c'=>c'.quiet=true∧codeAny (model prog w) A c' R s') (fun e s'=>R (.error e) s') s:=by
 induction m with
 | zero =>
  intro i hm A R s kvs hh st keep hD hz hR
  have hx:items[i]? = none:=by rw [Array.getElem?_eq_none_iff];omega
  have ht:s.heap.IsTuple t items:=by
   refine zc1b ht0 fun o ho r => ?_
   exact ⟨o,keep t o n1 n2 ho,r⟩
  unfold Builtin.«dict.update.loop»
  refine wpAny_bind (wpAny_pyNext_tuple_end hh st ht hx fun h' eb => ?_)
  have hd0:ps.drop i=[]:=List.drop_eq_nil_of_le (by omega)
  rw [hd0] at hR
  have hD':h'.DictOf knd d kvs:=by
   refine zc3b hD fun o es ep ho r => ?_
   exact ⟨o,es,ep,eb d o n3 ho,r⟩
  have fin:=hR h' s.toks hD' (fun b o h1 h2 e=>eb b o h1 (keep b o h1 h2 e))
  unfold Builtin.Dict.addKeywords
  exact wpAny_bind (wpAny_pure (wpAny_pure fin))
 | succ m ih =>
  intro i hm A R s kvs hh st keep hD hz hR
  have hlt:i<ps.length:=by omega
  obtain ⟨kv,hkv⟩:∃ kv,ps[i]? = some kv:=⟨_,List.getElem?_eq_getElem hlt⟩
  refine zc2a (hit i kv.1 kv.2 hkv) fun ta key zz=>zc0e zz fun hx hta hkey a1 a2 => ?_
  have ht:s.heap.IsTuple t items:=by
   refine zc1b ht0 fun o ho r => ?_
   exact ⟨o,keep t o n1 n2 ho,r⟩
  unfold Builtin.«dict.update.loop»
  refine wpAny_bind (wpAny_pyNext_tuple_item st ht hx fun h1 st1 sb1 => ?_)
  refine zc1c hta fun ot hot hoc zz=>zc1a zz fun nn hod => ?_
  have hot1:h1.get? ta=some ot:=(sb1.2 ta a1).trans (keep ta ot a1 a2 hot)
  have hD1:h1.DictOf knd d kvs:=by
   refine zc3b hD fun o es ep ho r => ?_
   exact ⟨o,es,ep,(sb1.2 d n3).trans ho,r⟩
  dsimp only
  refine wpAny_bind (wpAny_holding (wpAny_bind (wpAny_tryCatch ?_)))
  unfold Builtin.Dict.pairItems
  refine wpAny_bind (wpAny_typeOf (T := "tuple") ⟨ot,hot1,hoc⟩ ?_)
  rw [if_pos (by decide)]
  refine wpAny_bind (wpAny_seqItems hot1 hod (wpAny_pure ?_))
  show wpAny _ _ (holding [key,kv.2] (dictSet d key kv.2)) _ _ _
  refine wpAny_holding (wpAny_dictSet_pairs hkey hD1 (fun h2 hD2 sb2 => ?_) (by omega))
  have hc:((i:Int)+1)=((i+1:Nat):Int):=by push_cast;rfl
  refine wpAny_pure ?_
  rw [hc]
  have st2:h2.IsTupleIter it t (i+1):=by
   refine zc1b st1 fun o ho r => ?_
   exact ⟨o,(sb2.2 it (Ne.symm n3)).trans ho,r⟩
  have k2:∀ b o,b≠it→b≠d→h0.get? b=some o→h2.get? b=some o:=fun b o b1 b2 e=>(sb2.2 b b2).trans ((sb1.2 b b1).trans (keep b o b1 b2 e))
  have z2:(stored kvs kv.1 kv.2).length+(ps.length-(i+1))≤sizeLine:=by
   have:(stored kvs kv.1 kv.2).length≤kvs.length+1:=by
    unfold stored
    split
    ·rw [List.length_map];omega
    ·rw [List.length_append,List.length_singleton];omega
   omega
  have e:merged kvs (ps.drop i)=merged (stored kvs kv.1 kv.2) (ps.drop (i+1)):=by
   rw [List.drop_eq_getElem_cons hlt]
   have:ps[i]=kv:=by
    have:=List.getElem?_eq_getElem hlt
    rw [this] at hkv;exact Option.some.inj hkv
   rw [this]
   rfl
  exact ⟨plainId_quiet zbB _,codeAny_builtin zdG (by
   rw [Around.under_plainId zbB _]
   exact ih (i+1) (by omega) A R { s with heap:=h2,toks:=s.toks+1 } (stored kvs kv.1 kv.2) hh st2 k2 hD2 z2 fun h' tk hD' kk=>hR h' tk (by rw [e];exact hD') kk)⟩
end
theorem zeh:typeLookup (.type "tuple") "keys" = pure none:=by rw [typeLookup_type,builtinLookup_eq_fast];kernel_rfl
theorem zcr {prog:Program}{w:World}{A:Around}{E:Value→Shared→Prop}{s:Shared}{a:Addr}{o:Obj}{xs:Array Value}{k:Nat}{name:Str}{Q:Option Value→Shared→Prop}
 (hx:s.heap.get? a=some o) (hc:o.cls=.type "tuple") (hdat:o.data=.seq xs k) (hd:o.dict=none) (hmiss:typeLookup (.type "tuple") name=pure none) (hname:(["__module__", "__name__", "__qualname__", "__doc__", "__annotations__"]:List Str).contains name=false) (hA:A.handled=none)
 (h:∀ h' tk,(∀ b o,s.heap.get? b=some o→h'.get? b=some o)→Q none { s with heap:=h',toks:=tk }) (hsz:name.length+100≤sizeLine:=by size_fits) :
 wpAny (model prog w) A (getAttr? (.ref a) name) Q E s:=by
 obtain ⟨c,dct,dat,sl⟩:=o
 simp only at hc hdat hd
 subst hc hdat hd
 obtain ⟨hp,g,d,tk,os⟩:=s
 have hT:∀ tk',(⟨hp,g,d,tk',os⟩:Shared).TypeIs (.ref a) "tuple" := fun _=>⟨_,hx,rfl⟩
 have f1:=sub_AttributeError
 have f3:=F.slot_tuple_getattribute.lookup
 have f4:=F.slot_tuple_getattribute.bind (.ref a)
 have f5:=am_tuple_getattr_none
 unfold getAttr? getAttrBy? getAttrBy
 repeat (any_goals (first|assumption|exact hT _|((with_reducible show wpAny _ _ (call (Value.builtin "tuple.__getattribute__") _ _) _ _ _);refine call_meets F.slot_tuple_getattribute (hT _) am_entry_tuple_getattribute (F.args_tuple_getattribute_2 _ _) (meets_getattribute_miss_tuple a xs k sl name _ hmiss hname hsz) ⟨hx,hA,fun h' tk' e hx' => ?_⟩)|wp_step))
 refine zc2a hx'.there fun t' u' he => ?_
 show wpAny _ _ (getattributeRaised _ _ _ _ _ _ _) _ _ _
 unfold getattributeRaised
 repeat (any_goals (first|assumption|wp_step))
 exact h _ _ hx'.of.keeps
section
variable {prog:Program}{w:World}{K:Type}[DecidableEq K]{A:Around}{E:Value→Shared→Prop}{s:Shared}
theorem zeZ (knd:KeyKind prog w K){t:Addr}{o:Obj}{items:Array Value}{n:Nat}{ps:List (K×Value)}{Q:Value→Shared→Prop}(hA:A.handled=none)(ho:s.heap.get? t=some o)(hc:o.cls=.type "tuple")(hdat:o.data=.seq items n)(hd:o.dict=none)
 (hlen:items.size=ps.length) (hit:∀ (j:Nat) k v,ps[j]? = some (k,v)→∃ ta key,items[j]? = some (.ref ta)∧s.heap.IsTuple ta #[key,v]∧knd.is k key=true) (hz:ps.length≤sizeLine)
 (h:∀ h' tk,h'.DictOf knd s.heap.objs.size (merged [] ps)→(∀ b u,s.heap.get? b=some u→h'.get? b=some u)→Q (.ref s.heap.objs.size) { s with heap:=h',toks:=tk }) :
 wpAny (model prog w) A (call (.type "dict") [.ref t]) Q E s:=by
 refine callType_codes (Q₁:=fun obj s₁=>obj=.ref s.heap.objs.size∧s₁={ s with heap:=s.heap.push { cls:=.type "dict",data:=.dict #[] } }) F.kt_called_dict (F.kt_typeCall_dict_1 _) F.entry_dict_init (kt_code_dict_new _ ⟨rfl,rfl⟩) ?_
 rintro obj s₁ ⟨rfl,rfl⟩
 have hnew:(s.heap.push { cls:=.type "dict",data:=.dict #[] }).DictOf knd s.heap.objs.size []:=Heap.DictOf.new s.heap
 refine ⟨hnew.typeIs,F.args_dict_init_2 _ _,?_⟩
 have ho1:(s.heap.push { cls:=.type "dict",data:=.dict #[] }).get? t=some o:=Heap.get?_push_of_some _ ho
 unfold Builtin.«dict.__init__»
 refine wpAny_bind ?_
 unfold Builtin.Dict.selfAndRest
 refine wpAny_bind (wpAny_notOrdered_dict hnew.typeIs ?_)
 show wpAny _ _ (pure (s.heap.objs.size,[Value.ref t])) _ _ _
 refine wpAny_pure ?_
 show wpAny _ _ (Builtin.Dict.updateFrom "dict.__init__" s.heap.objs.size (.ref t) [] .none) _ _ _
 unfold Builtin.Dict.updateFrom
 refine wpAny_bind (wpAny_typeOf (T := "tuple") ⟨o,ho1,hc⟩ ?_)
 rw [if_pos (by decide)]
 refine wpAny_bind (zcr ho1 hc hdat hd zeh (by decide +kernel) hA (fun h2 tk2 k2 => ?_) (by decide))
 rw [if_pos (by rfl)]
 have ht2:h2.IsTuple t items:=⟨o,k2 _ _ ho1,hc,n,hdat⟩
 have lt:s.heap.objs.size<h2.objs.size:=by
  refine zc3b hnew fun od _ _ e _ => ?_
  exact Heap.lt_size (k2 _ _ e)
 have D2:h2.DictOf knd s.heap.objs.size []:=by
  refine zc3b hnew fun od es ep e r => ?_
  exact ⟨od,es,ep,k2 _ _ e,r⟩
 refine wpAny_bind (wpAny_rule ?_)
 refine wpAny_bind (wpAny_pyIter_tuple ht2 ?_)
 have lt0:∀ b u,s.heap.get? b=some u→b≠s.heap.objs.size∧b≠h2.objs.size:=fun b u e=>by
  have z:=Heap.lt_size e
  exact ⟨Nat.ne_of_lt z,Nat.ne_of_lt (Nat.lt_trans z lt)⟩
 have up:∀ b u,s.heap.get? b=some u→h2.get? b=some u:=fun b u e=>k2 b u (Heap.get?_push_of_some _ e)
 have hit2:∀ (j:Nat) k v,ps[j]? = some (k,v)→∃ ta key,items[j]? = some (.ref ta)∧h2.IsTuple ta #[key,v]∧knd.is k key=true∧ta≠h2.objs.size∧ta≠s.heap.objs.size:=fun j k v e=>by
  refine zc2c (hit j k v e) fun ta key a1 zr3 a4 => ?_
  obtain ⟨oa,a2,a3⟩:=zr3
  exact ⟨ta,key,a1,⟨oa,up _ _ a2,a3⟩,a4,(lt0 ta oa a2).2,(lt0 ta oa a2).1⟩
 refine wpAny_pure ⟨plainId_quiet zbB _,codeAny_builtin zdG ?_⟩
 rw [Around.under_plainId zbB _]
 refine dloop knd h2.objs.size t s.heap.objs.size items ps h2 hlen hit2 ht2 (lt0 t o ho).2 (lt0 t o ho).1 (Nat.ne_of_lt lt) ps.length 0 (by simp) A.in1 _ _ [] hA ⟨_,Heap.get?_push_size _ rfl,rfl,rfl⟩ (fun b u _ _ e=>Heap.get?_push_of_some _ e) ?_ (by simpa using hz) ?_
 ·refine zc3b D2 fun od es ep e r => ?_
  exact ⟨od,es,ep,Heap.get?_push_of_some _ e,r⟩
 ·intro h' tk hD' kk
  exact ⟨rfl,h h' tk hD' fun b u e=>kk b u (lt0 b u e).2 (lt0 b u e).1 (up b u e)⟩
end
noncomputable def kvR (r:List (Int×Int)):List (Key×V):=r.map fun p=>(Sum.inl p.1,V.int p.2)
def zjc (r:List (Int×Int)):List (Key×V):=zdF [] (kvR r)
theorem zcj {H:Hp}{P:Program}{w:World}{h:Heap}(ok:HOk P w H h):∀ {r:List (Int×Int)} {xs:List V} {us:List Value},zao H (r.map pD) xs→Vals xs us →
 ∃ ps:List (Key×Value),KV (kvR r) ps∧us.length=ps.length∧∀ (j:Nat) k v,ps[j]? = some (k,v)→∃ ta key,us[j]? = some (.ref ta)∧h.IsTuple ta #[key,v]∧(zaJ P w).is k key=true
 | [],xs,us,ha,r=>by
  have ha:zao H [] xs:=ha
  unfold zao at ha
  subst ha
  cases r
  exact ⟨[],.nil,rfl,fun j k v e=>by simp at e⟩
 | p::r,xs,us,ha,rv=>by
  have ha:zao H (pD p::r.map pD) xs:=ha
  unfold zao at ha
  refine zc2c ha fun x ys zr2 h1 h2 => ?_
  obtain rfl:=zr2
  cases rv with
  | @cons _ u _ us' r1 r2 =>
   refine zc1c (zcj ok h2 r2) fun ps k1 k2 k3 => ?_
   refine zc1b (zgV.mp h1) fun a zr1 ht => ?_
   obtain rfl:=zr1
   obtain rfl:u=Value.ref a:=r1
   refine zc0b ((show zaL P w H h a (.tup [.int p.1,.int p.2]) from ok a _ ht)) fun _ zz=>zc1b zz fun its ri zz=>zc1c zz fun o e1 e2 zz=>zc1a zz fun n e3 => ?_
   refine zc2c (zmg ri) fun u1 u2 zr2 q1 q2 => ?_
   obtain rfl:=zr2
   obtain ⟨t1,rfl⟩:=(show ∃ t,u1=Value.int p.1 t from q1)
   refine ⟨(Sum.inl p.1,u2)::ps,.cons ⟨rfl,q2⟩ k1,by rw [List.length_cons,List.length_cons,k2],fun j k v e => ?_⟩
   cases j with
   | zero =>
    have e:some ((Sum.inl p.1:Key),u2)=some (k,v):=e
    cases e
    exact ⟨a,.int p.1 t1,rfl,⟨o,e1,e2,n,e3⟩,zgj p.1 t1⟩
   | succ j =>
    exact k3 j k v (by simpa using e)
section
variable {X:Cx}
theorem zig (hc:X.calm=true):za1 X (.type "dict") (fun xs H Q => ∃ a r,xs=[.ref a]∧Is H (rD r) (.ref a)∧r.length≤100∧∀ p,H p=none→Q (.ref p) (upd H p (.dK (zjc r)))):=by
 intro pins s σ H xs us Q I rv h
 refine zc2d h fun a r zr2 hr hz q => ?_
 obtain rfl:=zr2
 refine zc1b (zdm rv) fun u zr1 ru => ?_
 obtain rfl:=zr1
 obtain rfl:u=Value.ref a:=ru
 unfold rD at hr
 rw [Is.tuple_iff] at hr
 refine zc2c hr fun a' xs ea ht hA => ?_
 cases ea
 refine zc0b ((show zaL X.prog X.w H s.heap a (.tup xs) from I.hok a _ ht)) fun zr0 zz=>zc1b zz fun its ri zz=>zc1c zz fun o e1 e2 zz=>zc1a zz fun n e3 => ?_
 obtain ⟨hl,od,e0,d0⟩:=zr0
 rw [e0] at e1
 obtain rfl:=Option.some.inj e1
 refine zc1c (zcj I.hok hA ri) fun ps k1 k2 k3 => ?_
 have lk:=k1.length
 have lr:(kvR r).length=r.length:=List.length_map _
 refine zeZ (zaJ X.prog X.w) (I.ok.hd hc) e0 e2 e3 d0 (by rw [List.size_toArray];exact k2) (fun j k v e => ?_) (by rw [← lk,lr];exact zgt (by omega)) fun h' tk hD hk => ?_
 ·refine zc2c (k3 j k v e) fun ta key b1 b2 b3 => ?_
  exact ⟨ta,key,by simpa using b1,b2,b3⟩
 ·refine ⟨.ref s.heap.objs.size,upd H s.heap.objs.size (.dK (zjc r)),I.laid (a:=s.heap.objs.size) (o:=.dK (zjc r)) (t':=tk) hk (Nat.le_refl _) ?_,rfl,q _ (I.hok.fresh (Nat.le_refl _))⟩
  refine zmN ?_ (beq_eq_false_iff_ne.mpr (Ne.symm (Nat.ne_of_lt I.big))) (KV.merge k1 .nil) hD
  have z:=zcM (kvR r) []
  rw [List.length_nil,lr] at z
  exact zgt (by unfold zjc;omega)
end
noncomputable def zam:List (Int×Int)→Int→Option Int
 | [],_=>none
 | p::r,t=>match zam r t with
  | some w=>some w
  | none=>if p.1=t then some p.2 else none
theorem zcB {r:List (Int×Int)}{t w:Int}(h:zam r t=some w):(t,w)∈r:=by
 induction r with
 | nil=>simp [zam] at h
 | cons p r ih =>
  rw [zam] at h
  cases q:zam r t with
  | some v =>
   rw [q] at h
   obtain rfl:=Option.some.inj h
   exact List.mem_cons_of_mem _ (ih q)
  | none =>
   rw [q] at h
   by_cases e:p.1=t
   ·rw [if_pos e] at h
    obtain rfl:=Option.some.inj h
    subst e
    exact List.mem_cons_self
   ·rw [if_neg e] at h
    exact zqn h
theorem ziQ {r:List (Int×Int)}{t:Int}(h:zam r t=none):∀ w,(t,w)∉r:=by
 induction r with
 | nil=>intro w hw;cases hw
 | cons p r ih =>
  intro w hw
  rw [zam] at h
  cases q:zam r t with
  | some v=>rw [q] at h;cases h
  | none =>
   rw [q] at h
   rcases List.mem_cons.mp hw with e|e
   ·rw [if_pos (by rw [← e])] at h
    cases h
   ·exact ih q w e
noncomputable def Once (r:List (Int×Int)):Prop:=(r.map (·.1)).Nodup
theorem Once.eq {r:List (Int×Int)}(h:Once r){t v w:Int}(h1:(t,v)∈r)(h2:(t,w)∈r):v=w:=by
 induction r with
 | nil=>cases h1
 | cons p r ih =>
  obtain ⟨n1,n2⟩:=List.nodup_cons.mp (show (p.1::r.map (·.1)).Nodup from h)
  rcases List.mem_cons.mp h1 with e1|e1<;>rcases List.mem_cons.mp h2 with e2|e2
  ·rw [← e1] at e2;cases e2;rfl
  ·exact absurd (List.mem_map.mpr ⟨(t,w),e2,by rw [← e1]⟩) n1
  ·exact absurd (List.mem_map.mpr ⟨(t,v),e1,by rw [← e2]⟩) n1
  ·exact ih n2 e1 e2
theorem Once.look {r:List (Int×Int)}(h:Once r){t w:Int}(hm:(t,w)∈r):zam r t=some w:=by
 cases q:zam r t with
 | none=>exact absurd hm (ziQ q w)
 | some v=>rw [h.eq (zcB q) hm]
def okAt (o:List (Int×Int))(p:Int×Int):Bool:=match zam o p.1 with
 | some w=>decide (p.2≤w)
 | none=>false
def za0 (r o:List (Int×Int)):Bool:=r.all (okAt o)
theorem zdC {r o:List (Int×Int)}{i:Nat}{p:Int×Int}(hp:r[i]? = some p)(h:okAt o p=false):za0 r o=false:=by
 unfold za0
 rw [List.all_eq_false]
 exact ⟨p,List.mem_of_getElem? hp,by rw [h];simp⟩
theorem zbn {α : Type}{r:List α}{i:Nat}{p : α}(hp:r[i]? = some p):r.take (i+1)=r.take i++[p]:=by
 rw [List.take_succ,hp]
 rfl
theorem ziq {r o:List (Int×Int)}{i:Nat}{p:Int×Int}(hp:r[i]? = some p)(h:za0 (r.take i) o=true)(h1:okAt o p=true):za0 (r.take (i+1)) o=true:=by
 rw [zbn hp]
 unfold za0 at h ⊢
 rw [List.all_append,h,List.all_cons,h1]
 rfl
end L2
namespace L2
open PySem PyProof.Rows
theorem zmP {l r k x:Nat}(h:l<r)(gap:r-l≤k-x):∃ m,(l+r) / 2=m∧l≤m∧m<r∧m-l≤k-(x+1)∧r-(m+1)≤k-(x+1):=by
 have a:l≤(l+r) / 2:=by omega
 have b:(l+r) / 2<r:=by omega
 generalize (l+r) / 2=m at a b ⊢
 exact ⟨m,rfl,a,b,Nat.le_pred_of_lt (Nat.lt_of_lt_of_le (Nat.sub_lt_sub_right a b) gap),Nat.pred_le_pred (Nat.le_trans (Nat.sub_le_sub_left a r) gap)⟩
structure Wk (lt:Nat→Nat→Bool):Prop where
 asy:∀ i j,lt i j=true→lt j i=false
 neg:∀ i j k,lt i k=true→lt i j=true∨lt j k=true
noncomputable def Bef (lt:Nat→Nat→Bool)(i j:Nat):Prop:=lt i j=true∨(lt j i=false∧i<j)
section
variable {lt:Nat→Nat→Bool}(W:Wk lt)
include W
theorem Bef.no {i j:Nat}(h:Bef lt i j):lt j i=false:=by
 rcases h with h|h
 ·exact W.asy _ _ h
 ·exact h.1
theorem Bef.trans {i j k:Nat}(h1:Bef lt i j)(h2:Bef lt j k):Bef lt i k:=by
 have n1:=Bef.no W h1
 have n2:=Bef.no W h2
 have n3:lt k i=false:=by
  cases q:lt k i with
  | false=>rfl
  | true =>
   rcases W.neg k j i q with z|z
   ·rw [n2] at z;exact zqb z
   ·rw [n1] at z;exact zqb z
 rcases h1 with a|a
 ·rcases W.neg i k j a with z|z
  ·exact .inl z
  ·rw [n2] at z;exact zqb z
 ·rcases h2 with b|b
  ·rcases W.neg j i k b with z|z
   ·rw [a.1] at z;exact zqb z
   ·exact .inl z
  ·exact .inr ⟨n3,by omega⟩
end
theorem zfY:∀ {n:Nat},2≤n→n<64→minRun' n n 0=n
 | 0,h,_=>by omega
 | f+1,_,h=>by
  rw [minRun'_succ,if_pos h]
noncomputable def gx (ix:Array Nat)(k:Nat):Nat:=(ix[k]?).getD 0
theorem zm8 {ix:Array Nat}{k:Nat}(h:k<ix.size):ix[k]? = some (gx ix k):=by
 unfold gx
 rw [Array.getElem?_eq_getElem h]
 rfl
theorem zc9 {ix:Array Nat}{src d:Nat}(hs:src<ix.size)(hd:d≤src)(k:Nat):gx (bubble ix src d) k=if k=src-d then gx ix src else if src-d<k∧k≤src then gx ix (k-1) else gx ix k:=by
 unfold gx
 rw [getElem?_bubble hs d hd k]
 repeat' split
 all_goals rfl
theorem zaF {ix:Array Nat}{i j:Nat}(hj:j≤ix.size)(k:Nat):gx (mirror ix i j ((j-i) / 2)) k=if i≤k∧k<j then gx ix (i+j-1-k) else gx ix k:=by
 unfold gx
 rw [getElem?_mirror_all hj k]
 split
 all_goals rfl
theorem zlB {α β : Type}(f : α → β)(xs:Array α)(i j:Nat):(xs.map f).swapIfInBounds i j=(xs.swapIfInBounds i j).map f:=by
 apply Array.ext_getElem?
 intro k
 by_cases hi:i<xs.size
 ·by_cases hj:j<xs.size
  ·rw [getElem?_swapIB (by simpa -iota using hi) (by simpa -iota using hj),Array.getElem?_map,Array.getElem?_map,Array.getElem?_map,Array.getElem?_map,getElem?_swapIB hi hj]
   repeat' split
   all_goals rfl
  ·rw [Array.swapIfInBounds_def,Array.swapIfInBounds_def,dif_pos (by simpa -iota using hi),dif_neg (by simpa -iota using hj),dif_pos hi,dif_neg hj]
 ·rw [Array.swapIfInBounds_def,Array.swapIfInBounds_def,dif_neg (by simpa -iota using hi),dif_neg hi]
theorem zd5 {α β γ : Type}(f : α → β)(p q : γ → Nat):∀ (l:List γ) (xs:Array α),l.foldl (fun a k=>a.swapIfInBounds (p k) (q k)) (xs.map f)=(l.foldl (fun a k=>a.swapIfInBounds (p k) (q k)) xs).map f
 | [],xs=>rfl
 | k::l,xs=>by
  rw [List.foldl_cons,List.foldl_cons,zlB,zd5 f p q l]
theorem zi6 {α β : Type}(f : α → β)(xs:Array α)(src d:Nat):bubble (xs.map f) src d=(bubble xs src d).map f:=zd5 f _ _ _ xs
theorem zbV {α β : Type}(f : α → β)(xs:Array α)(i j d:Nat):mirror (xs.map f) i j d=(mirror xs i j d).map f:=zd5 f _ _ _ xs
structure Pl (n:Nat)(ix:Array Nat)(k:Nat):Prop where
 size:ix.size=n
 perm:ix.Perm (Array.range n)
 pre:∀ a,a<k→gx ix a<k
 suf:∀ a,k≤a→a<n→gx ix a=a
theorem Pl.lt {n k a:Nat}{ix:Array Nat}(h:Pl n ix k)(hk:k≤n)(ha:a<n):gx ix a<n:=by
 by_cases c:a<k
 ·exact Nat.lt_of_lt_of_le (h.pre a c) hk
 ·rw [h.suf a (by omega) ha];exact ha
theorem Pl.succ {n k:Nat}{ix:Array Nat}(h:Pl n ix k)(hk:k<n):Pl n ix (k+1):=by
 refine ⟨h.size,h.perm,fun a ha => ?_,fun a h1 h2=>h.suf a (by omega) h2⟩
 by_cases c:a<k
 ·have:=h.pre a c
  omega
 ·have:a=k:=by omega
  subst this
  rw [h.suf a (Nat.le_refl _) hk];omega
theorem Pl.rev {n k i:Nat}{ix:Array Nat}(h:Pl n ix k)(hk:k≤n)(hi:i≤k):Pl n (mirror ix i k ((k-i) / 2)) k:=by
 have hz:k≤ix.size:=by rw [h.size];exact hk
 refine ⟨by rw [mirror_size];exact h.size,(mirror_perm _ _ _ _).trans h.perm,fun a ha => ?_,fun a h1 h2 => ?_⟩
 ·rw [zaF hz]
  split
  ·exact h.pre _ (by omega (config:={}))
  ·exact h.pre a ha
 ·rw [zaF hz,if_neg (by omega (config:={}))]
  exact h.suf a h1 h2
def Up (lt:Nat→Nat→Bool)(ix:Array Nat)(k:Nat):Prop:=∀ a b,a<b→b<k→Bef lt (gx ix a) (gx ix b)
def Dn (lt:Nat→Nat→Bool)(ix:Array Nat)(k:Nat):Prop:=∀ a b,a<b→b<k→Bef lt (gx ix b) (gx ix a)
structure SB (it:Nat→Keyed)(kind:SortKind)(ix:Array Nat)(st:SortSt):Prop where
 arr:arrOf st=ix.map it
 kd:kindOf st=kind
 fl:failedOf st=none
 pd:pendingOf st = #[]
noncomputable def Orc (prog:Program)(w:World)(A:Around)(s:Shared)(kind:SortKind)(it:Nat→Keyed)(lt:Nat→Nat→Bool)(n:Nat):Prop :=
 ∀ i j,i<n→j<n→∀ (E:Value→Shared→Prop) (Q:Bool→Shared→Prop),Q (lt i j) s→wpAny (model prog w) A (keyLt' kind (it i).1 (it j).1) Q E s
section
variable {prog:Program}{w:World}{A:Around}{E:Value→Shared→Prop}{s:Shared}{kind:SortKind}{it:Nat→Keyed}{lt:Nat→Nat→Bool}{n:Nat}{ix:Array Nat}{st:SortSt}
theorem zkN {a b k:Nat}{Q:Option Bool→SortSt→Prop}(O:Orc prog w A s kind it lt n)(B:SB it kind ix st)(L:Pl n ix k)(hk:k≤n)(ha:a<n)(hb:b<n)(h:Q (some (lt (gx ix a) (gx ix b))) st) :
 wpS (model prog w) A E s (ltAt' a b) Q st:=by
 have e1:(arrOf st)[a]? = some (it (gx ix a)):=by rw [B.arr,Array.getElem?_map,zm8 (by rw [L.size];exact ha)];rfl
 have e2:(arrOf st)[b]? = some (it (gx ix b)):=by rw [B.arr,Array.getElem?_map,zm8 (by rw [L.size];exact hb)];rfl
 rw [ltAt'_eq]
 have go:wpS (model prog w) A E s (lt' (it (gx ix a)) (it (gx ix b))) Q st:=by
  rw [lt'_eq]
  refine wpS_bind (wpS_get ?_)
  rw [B.kd]
  exact wpS_bind (wpS_lift (wpAny_attempt (O _ _ (L.lt hk ha) (L.lt hk hb) _ _ ⟨rfl,wpS_pure h⟩)))
 refine wpS_bind (wpS_get ?_)
 show wpS _ _ _ _ (elem' (arrOf st) a >>= fun x=>elem' (arrOf st) b >>= fun y=>lt' x y) Q st
 rw [elem'_eq,elem'_eq,e1,e2]
 exact wpS_bind (wpS_pure (wpS_bind (wpS_pure go)))
theorem SB.set {jx:Array Nat}(B:SB it kind ix st){xs:Array Keyed}(e:xs=jx.map it):SB it kind jx (setArr st xs):=⟨e,B.kd,B.fl,B.pd⟩
variable (W:Wk lt)(O:Orc prog w A s kind it lt n)
include W O
theorem zpD {ok:Nat}{Q:Bool→SortSt→Prop}(hok:ok≤n)(h1:1≤ok)(B:SB it kind ix st)(L:Pl n ix ok)(U:Up lt ix ok)
 (h:∀ jx st',SB it kind jx st'→Pl n jx n→Up lt jx n→Q true st'):wpS (model prog w) A E s (binarySort' 0 n ok) Q st:=by
 rw [binarySort'_eq]
 simp only [Nat.zero_add]
 have hm:max ok 1=ok:=by omega
 rw [hm]
 refine wpS_bind (wpS_mono (wpS_forRange (I:=fun k c st'=>c=(none,())∧∃ jx,SB it kind jx st'∧Pl n jx k∧Up lt jx k) (Q:=fun c st'=>c=(none,())∧∃ jx,SB it kind jx st'∧Pl n jx n∧Up lt jx n) ?_ ?_ ⟨rfl,ix,B,L,U⟩) ?_)
 ·rintro k c sk hk1 hk2 ⟨rfl,jx,Bk,Lk,Uk⟩
  have ek:gx jx k=k:=Lk.suf k (Nat.le_refl _) hk2
  refine wpS_bind (wpS_mono (wpS_forRange (I:=fun x c sx=>sx=sk∧∃ l r,c=(none,l,r)∧l≤r∧r≤k∧r-l≤k-x∧(∀ i,i<l→lt k (gx jx i)=false)∧(∀ i,r≤i→i<k→lt k (gx jx i)=true))
   (Q:=fun c sx=>sx=sk∧∃ l r,c=(none,l,r)∧l≤k∧(∀ i,i<l→lt k (gx jx i)=false)∧(∀ i,l≤i→i<k→lt k (gx jx i)=true)) ?_ ?_ ⟨rfl,0,k,rfl,by omega,by omega,by omega,fun i hi=>by omega,fun i a b=>by omega⟩) ?_)
  ·rintro x c sx _ hx ⟨rfl,l,r,rfl,lr,rk,gap,lo,hi⟩
   dsimp only
   by_cases ge:l ≥ r
   ·rw [if_pos ge]
    have e:l=r:=by omega
    subst e
    exact wpS_pure ⟨rfl,l,l,rfl,rk,lo,hi⟩
   ·rw [if_neg ge]
    refine zc1e (zmP (Nat.lt_of_not_le ge) gap) fun m hm m1 m2 m3 m4 => ?_
    rw [hm]
    have mk:=Nat.lt_of_lt_of_le m2 rk
    refine wpS_bind (zkN O Bk Lk (Nat.le_of_lt hk2) hk2 (Nat.lt_trans mk hk2) ?_)
    rw [ek]
    cases q:lt k (gx jx m) with
    | true =>
     simp only [if_true]
     refine wpS_pure ⟨rfl,l,m,rfl,m1,Nat.le_of_lt mk,m3,lo,fun i a b => ?_⟩
     by_cases im:i=m
     ·rw [im];exact q
     ·rcases W.neg k (gx jx i) _ q with z|z
      ·exact z
      ·rw [Bef.no W (Uk m i (Nat.lt_of_le_of_ne a (Ne.symm im)) b)] at z;exact zqb z
    | false =>
     simp only [Bool.false_eq_true,if_false]
     refine wpS_pure ⟨rfl,m+1,r,rfl,m2,rk,m4,fun i a => ?_,hi⟩
     by_cases im:i=m
     ·rw [im];exact q
     ·cases z:lt k (gx jx i) with
      | false=>rfl
      | true =>
       rcases W.neg k (gx jx m) _ z with y|y
       ·rw [q] at y;exact zqb y
       ·rw [Bef.no W (Uk i m (Nat.lt_of_le_of_ne (Nat.le_of_lt_succ a) im) mk)] at y;exact zqb y
  ·rintro c sx ⟨rfl,l,r,rfl,lr,rk,gap,lo,hi⟩
   have e:l=r:=by omega
   subst e
   exact ⟨rfl,l,l,rfl,rk,lo,hi⟩
  ·rintro c sx ⟨rfl,l,r,rfl,lk,lo,hi⟩
   show wpS _ _ _ _ (moveDown' k l >>= fun _=>pure (ForInStep.yield (none,()))) _ _
   rw [moveDown'_eq]
   have hs:k<jx.size:=by rw [Lk.size];exact hk2
   refine wpS_bind (wpS_modify (wpS_pure ⟨rfl,bubble jx k (k-l),Bk.set (by rw [Bk.arr,zi6]),⟨by rw [bubble_size];exact Lk.size,(bubble_perm _ _ _).trans Lk.perm,fun a ha => ?_,fun a a1 a2 => ?_⟩,fun a b ab bk => ?_⟩))
   ·rw [zc9 hs (by omega)]
    repeat' split
    ·rw [ek];omega
    ·have:=Lk.pre (a-1) (by omega)
     omega
    ·by_cases c:a<k
     ·have:=Lk.pre a c
      omega
     ·have:a=k:=by omega
      subst this
      rw [ek];omega
   ·rw [zc9 hs (by omega),if_neg (by omega),if_neg (by omega)]
    exact Lk.suf a (by omega) a2
   ·rw [zc9 hs (by omega),zc9 hs (by omega),show k-(k-l)=l by omega,ek]
    repeat' split
    all_goals first
     | (exfalso;omega)
     | exact Uk _ _ (by omega) (by omega)
     | exact .inl (hi _ (by omega) (by omega))
     | exact .inr ⟨lo _ (by omega),Lk.pre _ (by omega)⟩
 ·rintro c sk ⟨rfl,jx,b1,b2,b3⟩
  have e:max ok n=n:=by omega
  rw [e] at b2 b3
  exact ⟨rfl,jx,b1,b2,b3⟩
 ·rintro c sk ⟨rfl,jx,b1,b2,b3⟩
  exact wpS_pure (h jx sk b1 b2 b3)
theorem zmJ {a:Nat}{Q:AscSt→SortSt→Prop}(ha:1≤a)(han:a≤n)(B:SB it kind ix st)(L:Pl n ix a)(U:Up lt ix a)
 (h:∀ m,a≤m→m≤n→Pl n ix m→Up lt ix m→(m=n∨lt m (gx ix (m-1))=true)→Q (none,m) st):wpS (model prog w) A E s (ascLoop a n) Q st:=by
 unfold ascLoop
 refine wpS_forRange (I:=fun x c sx=>sx=st∧c=(none,x)∧Pl n ix x∧Up lt ix x) ?_ ?_ ⟨rfl,rfl,L,U⟩
 ·rintro x c sx ax xn ⟨rfl,rfl,Lx,Ux⟩
  dsimp only
  refine wpS_bind (zkN O B Lx (by omega) xn (by omega) ?_)
  have ex:gx ix x=x:=Lx.suf x (Nat.le_refl _) xn
  rw [ex]
  cases q:lt x (gx ix (x-1)) with
  | true =>
   simp only [if_true]
   exact wpS_pure (h x ax (by omega) Lx Ux (.inr q))
  | false =>
   simp only [Bool.false_eq_true,if_false]
   refine wpS_pure ⟨rfl,rfl,Lx.succ xn,fun i j ij jx => ?_⟩
   have last:Bef lt (gx ix (x-1)) x:=.inr ⟨q,Lx.pre _ (by omega)⟩
   by_cases c:j<x
   ·exact Ux i j ij c
   ·have e:j=x:=by omega
    subst e
    rw [ex]
    by_cases d:i=j-1
    ·rw [d];exact last
    ·exact Bef.trans W (Ux i (j-1) (by omega) (by omega)) last
 ·rintro c sx ⟨rfl,rfl,Lx,Ux⟩
  have e:max a n=n:=by omega
  rw [e] at Lx Ux ⊢
  exact h n han (Nat.le_refl _) Lx Ux (.inl rfl)
theorem zjg {m:Nat}{Q:Option Nat→SortSt→Prop}(h1:1≤m)(hm:m≤n)(B:SB it kind ix st)(L:Pl n ix m)(D:Dn lt ix m)
 (h:∀ k jx st',SB it kind jx st'→1≤k→k≤n→Pl n jx k→Up lt jx k→Q (some k) st'):wpS (model prog w) A E s (tail3 m n) Q st:=by
 unfold tail3
 have hz:m≤ix.size:=by rw [L.size];exact hm
 refine wpS_bind (wpS_reverse ?_)
 have B':SB it kind (mirror ix 0 m ((m-0) / 2)) (setArr st (mirror (arrOf st) 0 m ((m-0) / 2))):=B.set (by rw [B.arr,zbV])
 refine wpS_bind (zmJ W O h1 hm B' (L.rev hm (Nat.zero_le _)) (fun a b ab bm => ?_) fun k k1 k2 Lk Uk _=>wpS_pure (h k _ _ B' (by omega) k2 Lk Uk))
 rw [zaF hz,zaF hz,if_pos (by omega),if_pos (by omega)]
 exact D _ _ (by omega) (by omega)
structure Eqs (lt:Nat→Nat→Bool)(ix:Array Nat)(x q:Nat):Prop where
 le:q+1≤x
 out:∀ a b,a<b→b<x→a<x-(q+1)→lt (gx ix b) (gx ix a)=true∨(b<x-(q+1)∧Bef lt (gx ix b) (gx ix a))
 same:∀ a b,x-(q+1)≤a→a<x→x-(q+1)≤b→b<x→lt (gx ix a) (gx ix b)=false
 rise:∀ a b,x-(q+1)≤a→a<b→b<x→gx ix a<gx ix b
omit O in
theorem Eqs.down {x q:Nat}(h:Eqs lt ix x q)(hz:x≤ix.size):Dn lt (mirror ix (x-(q+1)) x ((x-(x-(q+1))) / 2)) x:=by
 intro a b ab bx
 have le:=h.le
 rw [zaF hz,zaF hz]
 by_cases ca:x-(q+1)≤a
 ·rw [if_pos (by omega (config:={})),if_pos (by omega (config:={}))]
  exact .inr ⟨h.same _ _ (by omega (config:={})) (by omega (config:={})) (by omega (config:={})) (by omega (config:={})),h.rise _ _ (by omega (config:={})) (by omega (config:={})) (by omega (config:={}))⟩
 ·rw [if_neg (show ¬ (x-(q+1)≤a∧a<x) by omega (config:={}))]
  split
  ·rcases h.out a (x-(q+1)+x-1-b) (by omega (config:={})) (by omega (config:={})) (by omega (config:={})) with z|z
   ·exact .inl z
   ·exact z.2
  ·rcases h.out a b ab bx (by omega (config:={})) with z|z
   ·exact .inl z
   ·exact z.2
omit O in
theorem Eqs.down0 {x:Nat}(h:Eqs lt ix x 0):Dn lt ix x:=by
 intro a b ab bx
 have le:=h.le
 rcases h.out a b ab bx (by omega) with z|z
 ·exact .inl z
 ·exact z.2
omit O in
theorem Eqs.of_down {x:Nat}(hx:1≤x)(D:Dn lt ix x)(top:∀ a,a<x-1→lt (gx ix (x-1)) (gx ix a)=true):Eqs lt ix x 0:=by
 refine ⟨by omega,fun a b ab bx ax => ?_,fun a b a1 a2 b1 b2 => ?_,fun a b a1 ab bx=>by omega⟩
 ·by_cases c:b=x-1
  ·rw [c];exact .inl (top a (by omega))
  ·exact .inr ⟨by omega,D a b ab bx⟩
 ·have e1:a=x-1:=by omega
  have e2:b=x-1:=by omega
  rw [e1,e2]
  cases z:lt (gx ix (x-1)) (gx ix (x-1)) with
  | false=>rfl
  | true=>have:=W.asy _ _ z;rw [z] at this;cases this
omit O in
theorem Eqs.less {x:Nat}(hx:1≤x)(D:Dn lt ix x)(hl:lt (gx ix x) (gx ix (x-1))=true):Eqs lt ix (x+1) 0:=by
 have top:∀ a,a<x→lt (gx ix x) (gx ix a)=true:=fun a ax=>by
  by_cases c:a=x-1
  ·rw [c];exact hl
  ·rcases W.neg _ (gx ix a) _ hl with z|z
   ·exact z
   ·rw [Bef.no W (D a (x-1) (by omega) (by omega))] at z;exact zqb z
 refine Eqs.of_down W (by omega) (fun a b ab bx => ?_) fun a ax=>by
  rw [show x+1-1=x by omega];exact top a (by omega)
 by_cases c:b<x
 ·exact D a b ab c
 ·have e:b=x:=by omega
  rw [e];exact .inl (top a (by omega))
omit O in
theorem Eqs.more {x q:Nat}(h:Eqs lt ix x q)(hx:gx ix x=x)(pre:∀ a,a<x→gx ix a<x)(n1:lt (gx ix x) (gx ix (x-1))=false)(n2:lt (gx ix (x-1)) (gx ix x)=false):Eqs lt ix (x+1) (q+1):=by
 have le:=h.le
 have up:∀ k,lt (gx ix (x-1)) k=true→lt (gx ix x) k=true:=fun k z=>by
  rcases W.neg _ (gx ix x) _ z with y|y
  ·rw [n2] at y;exact zqb y
  ·exact y
 have dn:∀ k,lt k (gx ix x)=true→lt k (gx ix (x-1))=true:=fun k z=>by
  rcases W.neg _ (gx ix (x-1)) _ z with y|y
  ·exact y
  ·rw [n2] at y;exact zqb y
 have up':∀ k,lt (gx ix x) k=true→lt (gx ix (x-1)) k=true:=fun k z=>by
  rcases W.neg _ (gx ix (x-1)) _ z with y|y
  ·rw [n1] at y;exact zqb y
  ·exact y
 refine ⟨by omega,fun a b ab bx ax => ?_,fun a b a1 a2 b1 b2 => ?_,fun a b a1 ab bx => ?_⟩
 ·by_cases c:b=x
  ·rw [c]
   rcases h.out a (x-1) (by omega) (by omega) (by omega) with z|z
   ·exact .inl (up _ z)
   ·omega
  ·rcases h.out a b ab (by omega) (by omega) with z|z
   ·exact .inl z
   ·exact .inr ⟨by omega,z.2⟩
 ·by_cases ca:a=x
  ·by_cases cb:b=x
   ·rw [ca,cb]
    cases z:lt (gx ix x) (gx ix x) with
    | false=>rfl
    | true=>have:=W.asy _ _ z;rw [z] at this;cases this
   ·rw [ca]
    cases z:lt (gx ix x) (gx ix b) with
    | false=>rfl
    | true =>
     have y:=up' _ z
     rw [h.same (x-1) b (by omega) (by omega) (by omega) (by omega)] at y;exact zqb y
  ·by_cases cb:b=x
   ·rw [cb]
    cases z:lt (gx ix a) (gx ix x) with
    | false=>rfl
    | true =>
     have y:=dn _ z
     rw [h.same a (x-1) (by omega) (by omega) (by omega) (by omega)] at y;exact zqb y
   ·exact h.same a b (by omega) (by omega) (by omega) (by omega)
 ·by_cases cb:b=x
  ·rw [cb,hx];exact pre a (by omega)
  ·exact h.rise a b (by omega) ab (by omega)
theorem znQ {m:Nat}{Q:DescSt→SortSt→Prop}(h1:1≤m)(hm:m≤n)(B:SB it kind ix st)(L:Pl n ix m)(X:Eqs lt ix m 0)
 (h:∀ k q jx st',SB it kind jx st'→m≤k→k≤n→Pl n jx k→Eqs lt jx k q→Q (none,k,q) st'):wpS (model prog w) A E s (descLoop m n) Q st:=by
 unfold descLoop
 refine wpS_forRange (I:=fun x c sx => ∃ q jx,c=(none,x,q)∧SB it kind jx sx∧Pl n jx x∧Eqs lt jx x q) ?_ ?_ ⟨0,ix,rfl,B,L,X⟩
 ·rintro x c sx mx xn ⟨q,jx,rfl,Bx,Lx,Ex⟩
  dsimp only
  have hz:x≤jx.size:=by rw [Lx.size];omega
  have ex:gx jx x=x:=Lx.suf x (Nat.le_refl _) xn
  refine wpS_bind (zkN O Bx Lx (by omega) xn (by omega) ?_)
  cases z:lt (gx jx x) (gx jx (x-1)) with
  | true =>
   simp only [if_true]
   by_cases hq:q > 0
   ·rw [if_pos hq]
    refine wpS_bind (wpS_reverse (wpS_pure ⟨0,mirror jx (x-(q+1)) x ((x-(x-(q+1))) / 2),rfl,Bx.set (by rw [Bx.arr,zbV]),(Lx.rev (by omega) (by omega)).succ xn,Eqs.less W (by omega) (Ex.down W hz) ?_⟩))
    rw [zaF hz,zaF hz,if_neg (show ¬ (x-(q+1)≤x∧x<x) by omega)]
    have le:=Ex.le
    rw [if_pos (by omega)]
    rcases W.neg _ (gx jx (x-(q+1)+x-1-(x-1))) _ z with y|y
    ·exact y
    ·rw [Ex.same _ _ (by omega) (by omega) (by omega) (by omega)] at y;exact zqb y
   ·rw [if_neg hq]
    have q0:q=0:=by omega
    subst q0
    exact wpS_pure ⟨0,jx,rfl,Bx,Lx.succ xn,Eqs.less W (by omega) (Ex.down0 W) z⟩
  | false =>
   simp only [Bool.false_eq_true,if_false]
   refine wpS_bind (zkN O Bx Lx (by omega) (by omega) xn ?_)
   cases y:lt (gx jx (x-1)) (gx jx x) with
   | true =>
    simp only [if_true]
    exact wpS_pure (h x q jx sx Bx mx (by omega) Lx Ex)
   | false =>
    simp only [Bool.false_eq_true,if_false]
    exact wpS_pure ⟨q+1,jx,rfl,Bx,Lx.succ xn,Ex.more W ex Lx.pre z y⟩
 ·rintro c sx ⟨q,jx,rfl,Bx,Lx,Ex⟩
  have e:max m n=n:=by omega
  rw [e] at Lx Ex ⊢
  exact h n q jx sx Bx hm (Nat.le_refl _) Lx Ex
theorem zhB {m:Nat}{Q:Option Nat→SortSt→Prop}(hm:m+1≤n)(B:SB it kind ix st)(L:Pl n ix (m+1))(X:Eqs lt ix (m+1) 0)
 (h:∀ k jx st',SB it kind jx st'→1≤k→k≤n→Pl n jx k→Up lt jx k→Q (some k) st'):wpS (model prog w) A E s (descPart m n) Q st:=by
 unfold descPart
 refine wpS_bind (wpS_lift (wpAny_rule ⟨rfl,?_⟩))
 refine wpS_bind (znQ W O (by omega) hm B L X fun k q jx sx Bx k1 k2 Lx Ex => ?_)
 dsimp only
 have hz:k≤jx.size:=by rw [Lx.size];exact k2
 by_cases hq:q > 0
 ·rw [if_pos hq]
  have le:=Ex.le
  exact wpS_bind (wpS_reverse (zjg W O (by omega) k2 (Bx.set (by rw [Bx.arr,zbV])) (Lx.rev k2 (by omega)) (Ex.down W hz) h))
 ·rw [if_neg hq]
  have q0:q=0:=by omega
  subst q0
  exact zjg W O (by omega) k2 Bx Lx (Ex.down0 W) h
theorem zlG {Q:Option Nat→SortSt→Prop}(h1:1≤n)(B:SB it kind ix st)(L:Pl n ix 1)
 (h:∀ k jx st',SB it kind jx st'→1≤k→k≤n→Pl n jx k→Up lt jx k→Q (some k) st'):wpS (model prog w) A E s (countRun' 0 n) Q st:=by
 rw [countRun0_eq]
 refine wpS_bind (zmJ W O (Nat.le_refl 1) h1 B L (fun a b ab b1=>by omega) fun m m1 m2 Lm Um why => ?_)
 dsimp only
 by_cases mn:m=n
 ·rw [if_pos (by simpa using mn)]
  exact wpS_pure (h m ix st B m1 m2 Lm Um)
 ·rw [if_neg (by simpa using mn)]
  have hl:lt m (gx ix (m-1))=true:=why.resolve_left mn
  have em:gx ix m=m:=Lm.suf m (Nat.le_refl _) (by omega)
  have hz:m≤ix.size:=by rw [Lm.size];exact m2
  by_cases gt:m > 1
  ·rw [if_pos gt]
   refine wpS_bind (zkN O B Lm m2 (by omega) (by omega) ?_)
   cases rose:lt (gx ix 0) (gx ix (m-1)) with
   | true =>
    simp only [if_true]
    exact wpS_pure (h m ix st B m1 m2 Lm Um)
   | false =>
    simp only [Bool.false_eq_true,if_false]
    have flat:∀ a b,a<m→b<m→lt (gx ix a) (gx ix b)=false:=fun a b am bm=>by
     cases z:lt (gx ix a) (gx ix b) with
     | false=>rfl
     | true =>
      rcases W.neg _ (gx ix 0) _ z with y|y
      ·by_cases a0:a=0
       ·rw [a0] at y;have:=W.asy _ _ y;rw [y] at this;cases this
       ·rw [Bef.no W (Um 0 a (by omega) am)] at y;exact zqb y
      ·rcases W.neg _ (gx ix (m-1)) _ y with u|u
       ·rw [rose] at u;exact zqb u
       ·by_cases bm':b=m-1
        ·rw [bm'] at u;have:=W.asy _ _ u;rw [u] at this;cases this
        ·rw [Bef.no W (Um b (m-1) (by omega) (by omega))] at u;exact zqb u
    have rise:∀ a b,a<b→b<m→gx ix a<gx ix b:=fun a b ab bm=>by
     rcases Um a b ab bm with z|z
     ·rw [flat a b (by omega) bm] at z;exact zqb z
     ·exact z.2
    have D:Dn lt (mirror ix 0 m ((m-0) / 2)) m:=fun a b ab bm=>by
     rw [zaF hz,zaF hz,if_pos (by omega),if_pos (by omega)]
     exact .inr ⟨flat _ _ (by omega) (by omega),rise _ _ (by omega) (by omega)⟩
    refine wpS_bind (wpS_reverse (zhB W O (by omega) (B.set (by rw [B.arr,zbV])) ((Lm.rev m2 (Nat.zero_le _)).succ (by omega)) (Eqs.less W m1 D ?_) h))
    rw [zaF hz,zaF hz,if_neg (show ¬ (0≤m∧m<m) by omega),if_pos (by omega),em]
    rcases W.neg _ (gx ix (0+m-1-(m-1))) _ hl with z|z
    ·exact z
    ·rw [flat _ _ (by omega) (by omega)] at z;exact zqb z
  ·rw [if_neg gt]
   have e1:m=1:=by omega
   subst e1
   refine zhB W O (by omega) B (Lm.succ (by omega)) (Eqs.less W (Nat.le_refl 1) (fun a b ab b1=>by omega) ?_) h
   rw [em];exact hl
theorem znt {Q:Unit→SortSt→Prop}(B:SB it kind ix st)(L:Pl n ix 1)(h2:2≤n)(h64:n<64)
 (h:∀ jx st',arrOf st'=jx.map it→failedOf st'=none→Pl n jx n→Up lt jx n→Q () st'):wpS (model prog w) A E s sortRuns' Q st:=by
 have Fin:∀ st',∀ jx,SB it kind jx st'→Pl n jx n→Up lt jx n→∃ jx,arrOf (setPending st' ((pendingOf st').push (0,n,0)))=jx.map it∧failedOf (setPending st' ((pendingOf st').push (0,n,0)))=none∧pendingOf (setPending st' ((pendingOf st').push (0,n,0))) = #[(0,n,0)]∧Pl n jx n∧Up lt jx n :=
  fun st' jx b p u=>⟨jx,b.arr,b.fl,by show (pendingOf st').push _=_;rw [b.pd];rfl,p,u⟩
 rw [sortRuns'_eq]
 refine wpS_bind (wpS_get ?_)
 dsimp only
 have sz:(arrOf st).size=n:=by rw [B.arr,Array.size_map];exact L.size
 have mr:=zfY h2 h64
 simp -iota only [sz,mr]
 refine wpS_bind (wpS_mono (wpS_forRange (I:=fun x c sx=>(x=0∧c=(none,0)∧SB it kind ix sx)∨(1≤x∧c=(none,n)∧∃ jx,arrOf sx=jx.map it∧failedOf sx=none∧pendingOf sx = #[(0,n,0)]∧Pl n jx n∧Up lt jx n))
  (Q:=fun c sx=>c=(none,n)∧∃ jx,arrOf sx=jx.map it∧failedOf sx=none∧pendingOf sx = #[(0,n,0)]∧Pl n jx n∧Up lt jx n) ?_ ?_ (.inl ⟨rfl,rfl,B⟩)) ?_)
 ·rintro x c sx _ xn (⟨rfl,rfl,Bx⟩|⟨x1,rfl,D⟩)
  ·dsimp only
   rw [if_neg (by omega)]
   simp -iota only [Nat.sub_zero,Nat.min_self,Nat.zero_add]
   refine wpS_bind (zlG W O (by omega) Bx L fun m jx s2 B2 m1 m2 L2 U2 => ?_)
   dsimp only
   by_cases mn:m<n
   ·rw [if_pos mn]
    refine wpS_bind (wpS_lift (wpAny_rule ⟨rfl,?_⟩))
    refine wpS_bind (zpD W O m2 m1 B2 L2 U2 fun kx s3 B3 L3 U3 => ?_)
    simp -iota only [Bool.not_true,Bool.false_eq_true,if_false]
    refine wpS_bind (wpS_get ?_)
    rw [show (pendingOf s3).back? = none by rw [B3.pd];rfl]
    dsimp only
    exact wpS_bind (wpS_modify (wpS_pure (.inr ⟨by omega,rfl,Fin s3 kx B3 L3 U3⟩)))
   ·rw [if_neg mn]
    have e:m=n:=by omega
    subst e
    refine wpS_bind (wpS_get ?_)
    rw [show (pendingOf s2).back? = none by rw [B2.pd];rfl]
    dsimp only
    exact wpS_bind (wpS_modify (wpS_pure (.inr ⟨by omega,rfl,Fin s2 jx B2 L2 U2⟩)))
  ·dsimp only
   rw [if_pos (Nat.le_refl _)]
   exact wpS_pure ⟨rfl,D⟩
 ·rintro c sx (⟨x0,_,_⟩|⟨_,rfl,D⟩)
  ·omega
  ·exact ⟨rfl,D⟩
 ·rintro c sx ⟨rfl,jx,d1,d2,d3,d4,d5⟩
  dsimp only
  refine wpS_bind (wpS_mono (wpS_forRange (I:=fun _ c sy=>sy=sx∧c=(none,())) (Q:=fun c sy=>sy=sx∧c=(none,())) ?_ (fun _ _ z=>z) ⟨rfl,rfl⟩) ?_)
  ·rintro x c sy _ _ ⟨rfl,rfl⟩
   refine wpS_bind (wpS_get ?_)
   rw [if_pos (by rw [d3];exact Nat.le_refl 1)]
   exact wpS_pure ⟨rfl,rfl⟩
  ·rintro c sy ⟨rfl,rfl⟩
   exact wpS_pure (h jx _ d1 d2 d4 d5)
end
end L2
namespace L2
open PySem PySem.Spec PyProof.Rows
noncomputable def nthV (vs:List Value)(i:Nat):Value:=vs.getD i .none
theorem zd7 (vs:List Value):vs.toArray.zip vs.toArray=(Array.range vs.length).map fun i=>(nthV vs i,nthV vs i):=by
 apply Array.ext_getElem?
 intro k
 rw [Array.getElem?_map]
 by_cases h:k<vs.length
 ·rw [Array.getElem?_range,if_pos h]
  have e:nthV vs k=vs[k]:=by unfold nthV;rw [List.getD_eq_getElem?_getD,List.getElem?_eq_getElem h];rfl
  simp [Array.getElem?_zip_eq_some,h,e]
 ·rw [Array.getElem?_range,if_neg h,Array.getElem?_eq_none (by simp;omega)]
  rfl
theorem zhp {n k:Nat}(h:k<n):gx (Array.range n) k=k:=by
 unfold gx
 rw [Array.getElem?_range,if_pos h]
 rfl
theorem zhT (n k:Nat)(hk:k≤n):Pl n (Array.range n) k:=by
 refine ⟨Array.size_range,Array.Perm.refl _,fun a ha => ?_,fun a _ h=>zhp h⟩
 rw [zhp (by omega)];exact ha
section
variable {prog:Program}{w:World}{A:Around}{E:Value→Shared→Prop}{s:Shared}{lt:Nat→Nat→Bool}
def Keys (prog:Program)(w:World)(A:Around)(s:Shared)(vs:List Value)(lt:Nat→Nat→Bool):Prop :=
 ∃ kind,(∀ (E:Value→Shared→Prop) (Q:SortKind→Shared→Prop),Q kind s→wpAny (model prog w) A (keyKind' vs.toArray) Q E s)∧Orc prog w A s kind (fun i=>(nthV vs i,nthV vs i)) lt vs.length
theorem ze9 {a:Addr}{vs:List Value}{n:Nat}{P:Fin→Shared→Prop}(W:Wk lt)(ho:s.heap.get? a=some (seqObj "list" vs.toArray n))(h64:vs.length<64)
 (hk:∀ h',(∀ b o,b≠a→s.heap.get? b=some o→h'.get? b=some o)→2≤vs.length→Keys prog w A { s with heap:=h' } vs lt)
 (h:∀ jx,Pl vs.length jx vs.length→Up lt jx vs.length→P (.done (.ret .none)) { s with heap:=sortedHeap s.heap a vs (jx.map (nthV vs)) }) :
 wpAny (model prog w) A (Builtin.«list.sort» ⟨[.ref a],[]⟩) P E s:=by
 rw [list_sort_plain]
 have la:a<s.heap.objs.size:=Heap.lt_size ho
 obtain ⟨c1,g1⟩:∃ c1,(s.heap.update a (Obj.mapSeq fun _ => #[])).get? a=some (seqObj "list" #[] c1):=⟨_,get?_update_seq ho (fun _ => #[])⟩
 refine wpAny_bind (listItems_at ho rfl (wpAny_bind (listUpdate_at ho rfl (wpAny_bind (seqEpoch_at g1 rfl (wpAny_bind (wpAny_newTuple (wpAny_bind (wpAny_newList (wpAny_holding ?_))))))))))
 have ne1:∀ b,b<s.heap.objs.size→b≠(s.heap.update a (Obj.mapSeq fun _ => #[])).objs.size:=fun b hb=>by
  rw [Heap.size_update];exact Nat.ne_of_lt hb
 have ne2:∀ b,b<s.heap.objs.size→b≠((s.heap.update a (Obj.mapSeq fun _ => #[])).push (seqObj "tuple" vs.toArray 0)).objs.size:=fun b hb=>by
  rw [size_push',Heap.size_update];exact Nat.ne_of_lt (Nat.lt_succ_of_lt hb)
 have g6:(((s.heap.update a (Obj.mapSeq fun _ => #[])).push (seqObj "tuple" vs.toArray 0)).push (seqObj "list" #[] 0)).get? a=some (seqObj "list" #[] c1):=by
  rw [Heap.get?_push_ne _ _ _ (ne2 a la),Heap.get?_push_ne _ _ _ (ne1 a la)]
  exact g1
 have kp:∀ b o,b≠a→s.heap.get? b=some o→(((s.heap.update a (Obj.mapSeq fun _ => #[])).push (seqObj "tuple" vs.toArray 0)).push (seqObj "list" #[] 0)).get? b=some o:=fun b o hb e=>by
  rw [Heap.get?_push_ne _ _ _ (ne2 b (Heap.lt_size e)),Heap.get?_push_ne _ _ _ (ne1 b (Heap.lt_size e)),Heap.get?_update_ne _ _ _ _ hb]
  exact e
 have ms:∀ (jx:Array Nat),(jx.map fun i=>(nthV vs i,nthV vs i)).map (·.2)=jx.map (nthV vs):=fun jx=>by
  rw [Array.map_map];rfl
 show wpAny (model prog w) A _ P E { s with heap:=((s.heap.update a (Obj.mapSeq fun _ => #[])).push (seqObj "tuple" vs.toArray 0)).push (seqObj "list" #[] 0) }
 dsimp only
 have sz:vs.toArray.size=vs.length:=by simp
 by_cases few:vs.toArray.size<2
 ·rw [if_pos few,if_pos few]
  refine wpAny_bind (wpAny_pure ?_)
  rw [StateT.run_pure]
  refine wpAny_bind (wpAny_pure ?_)
  dsimp only
  refine wpAny_bind (seqEpoch_at g6 rfl (wpAny_bind (listUpdate_at g6 rfl ?_ (hsz2:=by rw [Array.size_map,zd7,Array.size_map,Array.size_range,sizeLine_eq];omega))))
  simp only [bne_self_eq_false,Bool.false_eq_true,if_false]
  have fin:=h (Array.range vs.length) (zhT _ _ (Nat.le_refl _)) fun i j ij jn=>by omega
  rw [← ms,← zd7] at fin
  exact wpAny_pure fin
 ·rw [if_neg few,if_neg few]
  refine zc1b (hk _ kp (by omega)) fun kind k1 k2 => ?_
  refine wpAny_bind (k1 _ _ ?_)
  refine wpAny_bind (wpAny_mono (znt W k2 (ix:=Array.range vs.length) (st:=SortSt.mk' kind (vs.toArray.zip vs.toArray) #[] 7 none) (Q:=fun _ st' => ∃ jx,arrOf st'=jx.map (fun i=>(nthV vs i,nthV vs i))∧failedOf st'=none∧Pl vs.length jx vs.length∧Up lt jx vs.length)
   ⟨zd7 vs,rfl,rfl,rfl⟩ (zhT _ _ (by omega)) (by omega) h64 fun jx st' a1 a2 a3 a4=>⟨jx,a1,a2,a3,a4⟩) ?_ fun _ _ e=>e)
  rintro ⟨⟨⟩,st'⟩ s' ⟨rfl,jx,q1,q2,q3,q4⟩
  dsimp only
  refine wpAny_bind (seqEpoch_at g6 rfl (wpAny_bind (listUpdate_at g6 rfl ?_ (hsz2:=by
   rw [Array.size_map,q1,Array.size_map,q3.size,sizeLine_eq];omega))))
  rw [q2]
  simp only [bne_self_eq_false,Bool.false_eq_true,if_false]
  have fin:=h jx q3 q4
  rw [← ms,← q1] at fin
  exact wpAny_pure fin
theorem zkr {x:Value}{Q:Value→Shared→Prop}(W:Wk lt)
 (hc:wpAny (model prog w) A.in1 (collect x) (fun vs s1=>vs.length<64∧(∀ h',(∀ b o,s1.heap.get? b=some o→h'.get? b=some o)→2≤vs.length→Keys prog w A.in1.in1 { s1 with heap:=h' } vs lt) ∧
  ∀ jx h' l,Pl vs.length jx vs.length→Up lt jx vs.length→(∀ b o,s1.heap.get? b=some o→h'.get? b=some o)→s1.heap.objs.size≤l→(∃ e,h'.get? l=some (seqObj "list" (jx.map (nthV vs)) e))→Q (.ref l) { s1 with heap:=h' }) E s) :
 wpAny (model prog w) A (call (.builtin "sorted") [x]) Q E s:=by
 refine Calls.call_function_entry kind_sorted plain_sorted entry_sorted (args_sorted1 _) ?_
 unfold Builtin.«sorted»
 refine wpAny_bind (m:=checkCount "sorted" 1 1 _) (wpAny_pure (wpAny_bind (wpAny_mono hc (fun vs s1 z => ?_) fun _ _ e=>e)))
 obtain ⟨h64,hk,hq⟩:=z
 have gl:(s1.heap.push (seqObj "list" vs.toArray 0)).get? s1.heap.objs.size=some (seqObj "list" vs.toArray 0):=Heap.get?_push_size _ rfl
 have nl:∀ b o,s1.heap.get? b=some o→b≠s1.heap.objs.size:=fun b o e=>Nat.ne_of_lt (Heap.lt_size e)
 refine wpAny_bind (wpAny_newList (wpAny_bind (wpAny_holding (wpAny_call_entry slot_list_sort ⟨_,gl,rfl⟩ entry_list_sort (ze9 (s:={ s1 with heap:=s1.heap.push (seqObj "list" vs.toArray 0) }) W gl h64 (fun h' kp=>hk h' fun b o e=>kp b o (nl b o e) (Heap.get?_push_of_some _ e)) fun jx p u=>⟨_,rfl,wpAny_pure ⟨_,rfl,?_⟩⟩) (args_list_sort _)))))
 refine hq jx _ _ p u (fun b o e => ?_) (Nat.le_refl _) (sortedHeap_at gl)
 rw [sortedHeap_old (nl b o e) (by rw [size_push'];exact Nat.lt_succ_of_lt (Heap.lt_size e))]
 exact Heap.get?_push_of_some _ e
end
end L2
namespace L2
open PySem PySem.Spec PyProof.Rows
structure Tot {α : Type}(ltb : α → α → Bool):Prop where
 asy:∀ a b,ltb a b=true→ltb b a=false
 neg:∀ a b c,ltb a c=true→ltb a b=true∨ltb b c=true
 tot:∀ a b,ltb a b=false→ltb b a=false→a=b
theorem Tot.irr {α : Type}{ltb : α → α → Bool}(T:Tot ltb)(a : α):ltb a a=false:=by
 cases q:ltb a a with
 | false=>rfl
 | true=>have:=T.asy _ _ q;rw [q] at this;cases this
theorem Tot.wk {α : Type}{ltb : α → α → Bool}(T:Tot ltb)(f:Nat → α):Wk fun i j=>ltb (f i) (f j):=⟨fun i j=>T.asy _ _,fun i j k=>T.neg _ _ _⟩
noncomputable def pltB (p q:Int×Int):Bool:=decide (p.1<q.1)||(decide (p.1=q.1)&&decide (p.2<q.2))
theorem zcA {p q:Int×Int}:pltB p q=true↔p.1<q.1∨(p.1=q.1∧p.2<q.2):=by
 unfold pltB
 simp
theorem zkH {p q:Int×Int}:pltB p q=false↔¬ (p.1<q.1∨(p.1=q.1∧p.2<q.2)):=by
 rw [← zcA]
 simp
theorem zdZ:Tot pltB:=by
 refine ⟨fun a b h => ?_,fun a b c h => ?_,fun a b h1 h2 => ?_⟩
 ·rw [zcA] at h
  rw [zkH]
  omega
 ·rw [zcA] at h
  rw [zcA,zcA]
  omega
 ·rw [zkH] at h1 h2
  exact Prod.ext (by omega) (by omega)
def rltB:List (Int×Int)→List (Int×Int)→Bool
 | [],[]=>false
 | [],_::_=>true
 | _::_,[]=>false
 | p::r,q::s=>if p=q then rltB r s else pltB p q
theorem zb0 (p q:Int×Int)(r s:List (Int×Int)):rltB (p::r) (q::s)=if p=q then rltB r s else pltB p q:=rfl
theorem zjk:∀ a b:List (Int×Int),rltB a b=true→rltB b a=false
 | [],[],h=>by exact zqb h
 | [],_::_,_=>rfl
 | _::_,[],h=>by exact zqb h
 | p::r,q::s,h=>by
  rw [zb0] at h ⊢
  by_cases e:p=q
  ·rw [if_pos e] at h
   rw [if_pos e.symm]
   exact zjk r s h
  ·rw [if_neg e] at h
   rw [if_neg (fun z=>e z.symm)]
   exact zdZ.asy _ _ h
theorem zjQ:∀ a b c:List (Int×Int),rltB a c=true→rltB a b=true∨rltB b c=true
 | [],[],c,h=>.inr h
 | [],_::_,_,_=>.inl rfl
 | _::_,_,[],h=>by exact zqb h
 | p::r,[],q::s,_=>.inr rfl
 | p::r,x::t,q::s,h=>by
  rw [zb0] at h
  rw [zb0,zb0]
  by_cases e:p=q
  ·rw [if_pos e] at h
   by_cases e1:p=x
   ·rw [if_pos e1,if_pos (e1.symm.trans e)]
    exact zjQ r t s h
   ·rw [if_neg e1,if_neg (fun z=>e1 (e.trans z.symm))]
    cases z:pltB p x with
    | true=>exact .inl rfl
    | false =>
     right
     rw [← e]
     cases y:pltB x p with
     | true=>rfl
     | false=>exact absurd (zdZ.tot _ _ z y) e1
  ·rw [if_neg e] at h
   by_cases e1:p=x
   ·rw [if_pos e1,if_neg (fun z=>e (e1.trans z))]
    right
    rw [← e1]
    exact h
   ·rw [if_neg e1]
    by_cases e2:x=q
    ·left
     rw [e2]
     exact h
    ·rw [if_neg e2]
     exact zdZ.neg _ _ _ h
theorem zjx:∀ a b:List (Int×Int),rltB a b=false→rltB b a=false→a=b
 | [],[],_,_=>rfl
 | [],_::_,h,_=>by cases h
 | _::_,[],_,h=>by cases h
 | p::r,q::s,h1,h2=>by
  rw [zb0] at h1 h2
  by_cases e:p=q
  ·rw [if_pos e] at h1
   rw [if_pos e.symm] at h2
   rw [e,zjx r s h1 h2]
  ·rw [if_neg e] at h1
   rw [if_neg (fun z=>e z.symm)] at h2
   exact absurd (zdZ.tot _ _ h1 h2) e
theorem zbi:Tot rltB:=⟨zjk,zjQ,zjx⟩
section
variable {α : Type}(ltb : α → α → Bool)
noncomputable def insB (x : α):List α → List α
 | [] => [x]
 | y::r=>if ltb x y=true then x::y::r else y::insB x r
def zaU:List α → List α
 | [] => []
 | x::r=>insB ltb x (zaU r)
noncomputable def Sd (l:List α):Prop:=l.Pairwise fun a b=>ltb b a=false
variable {ltb}
theorem zdM (x : α):∀ l:List α,(insB ltb x l).Perm (x::l)
 | []=>List.Perm.refl _
 | y::r=>by
  unfold insB
  split
  ·exact List.Perm.refl _
  ·exact ((zdM x r).cons y).trans (List.Perm.swap x y r)
theorem zay:∀ l:List α,(zaU ltb l).Perm l
 | []=>List.Perm.refl _
 | x::r=>(zdM x _).trans ((zay r).cons x)
theorem zj6 (T:Tot ltb)(x : α):∀ l:List α,Sd ltb l→Sd ltb (insB ltb x l)
 | [],_=>List.pairwise_singleton _ _
 | y::r,h=>by
  obtain ⟨h1,h2⟩:=List.pairwise_cons.mp h
  unfold insB
  split
  ·rename_i c
   refine List.pairwise_cons.mpr ⟨fun z hz => ?_,h⟩
   rcases List.mem_cons.mp hz with e|e
   ·rw [e];exact T.asy _ _ c
   ·cases q:ltb z x with
    | false=>rfl
    | true =>
     have n1:=h1 z e
     rcases T.neg x z y c with u|u
     ·rw [T.asy _ _ u] at q;exact zqb q
     ·rw [n1] at u;exact zqb u
  ·rename_i c
   refine List.pairwise_cons.mpr ⟨fun z hz => ?_,zj6 T x r h2⟩
   rcases List.mem_cons.mp ((zdM x r).mem_iff.mp hz) with e|e
   ·rw [e]
    cases q:ltb x y with
    | false=>rfl
    | true=>exact absurd q c
   ·exact h1 z e
theorem zbX (T:Tot ltb):∀ l:List α,Sd ltb (zaU ltb l)
 | []=>List.Pairwise.nil
 | x::r=>zj6 T x _ (zbX T r)
theorem zkw (T:Tot ltb):∀ {a b:List α},a.Perm b→Sd ltb a→Sd ltb b→a=b
 | [],b,p,_,_=>p.nil_eq
 | x::r,b,p,ha,hb=>by
  cases b with
  | nil=>exact absurd p.length_eq (by simp)
  | cons y t =>
   obtain ⟨a1,a2⟩:=List.pairwise_cons.mp ha
   obtain ⟨b1,b2⟩:=List.pairwise_cons.mp hb
   have e:x=y:=by
    rcases List.mem_cons.mp (p.mem_iff.mp List.mem_cons_self) with z|z
    ·exact z
    ·rcases List.mem_cons.mp (p.mem_iff.mpr List.mem_cons_self) with u|u
     ·exact u.symm
     ·exact T.tot _ _ (b1 x z) (a1 y u)
   subst e
   rw [zkw T p.cons_inv a2 b2]
theorem zc0 (T:Tot ltb){l:List α}{d : α}{jx:Array Nat}(p:Pl l.length jx l.length)(u:Up (fun i j=>ltb (l.getD i d) (l.getD j d)) jx l.length):jx.toList.map (fun i=>l.getD i d)=zaU ltb l:=by
 refine zkw T ?_ ?_ (zbX T l)
 ·refine List.Perm.trans ?_ (zay l).symm
  have q:jx.toList.Perm (List.range l.length):=by
   have:=Array.perm_iff_toList_perm.mp p.perm
   simpa using this
  refine (q.map _).trans (List.Perm.of_eq ?_)
  apply List.ext_getElem
  ·simp
  ·intro i h1 h2
   simp [h2]
 ·refine List.pairwise_iff_getElem.mpr fun a b ha hb ab => ?_
  rw [List.getElem_map,List.getElem_map]
  have sz:jx.toList.length=l.length:=by rw [Array.length_toList,p.size]
  rw [List.length_map] at ha hb
  have ea:jx.toList[a]=gx jx a:=by
   unfold gx
   rw [Array.getElem?_eq_getElem (by rw [p.size];omega)]
   simp
  have eb:jx.toList[b]=gx jx b:=by
   unfold gx
   rw [Array.getElem?_eq_getElem (by rw [p.size];omega)]
   simp
  rw [ea,eb]
  exact Bef.no (T.wk fun i=>l.getD i d) (u a b ab (by omega))
end
theorem zbb {α : Type}{l:List α}{i:Nat}{d x : α}(h:l[i]? = some x):l.getD i d=x:=by
 rw [List.getD_eq_getElem?_getD,h];rfl
noncomputable def zfj (h:Heap)(vs:List Value)(ps:List (Int×Int)):Prop:=vs.length=ps.length∧∀ (i:Nat) p,ps[i]? = some p→∃ a o n t u,vs[i]? = some (.ref a)∧h.get? a=some o∧o.cls=.type "tuple" ∧ o.data=.seq #[.int p.1 t,.int p.2 u] n
section
variable {prog:Program}{w:World}{A:Around}{s:Shared}
structure RowAt (h:Heap)(v:Value)(r:List (Int×Int))(a:Addr)(o:Obj)(us:List Value)(n:Nat):Prop where
 isv:v=.ref a
 get:h.get? a=some o
 cls:o.cls=.type "tuple"
 dat:o.data=.seq us.toArray n
 prs:zfj h us r
theorem zm2 {P:Program}{H:Hp}{h:Heap}{r:List (Int×Int)}{x:V}{v:Value}(ok:HOk P w H h)(hr:Is H (rD r) x)(rv:RelV x v):∃ a o us n,RowAt h v r a o us n:=by
 unfold rD at hr
 rw [Is.tuple_iff] at hr
 refine zc2c hr fun a xs zr2 ht ha => ?_
 obtain rfl:=zr2
 obtain rfl:v=Value.ref a:=rv
 refine zc0b ((show zaL P w H h a (.tup xs) from ok a _ ht)) fun _ zz=>zc1b zz fun its ri zz=>zc1c zz fun o e1 e2 zz=>zc1a zz fun n e3 => ?_
 refine ⟨a,o,its,n,rfl,e1,e2,e3,?_,fun i p hp => ?_⟩
 ·have l1:=ha.length
  have l2:=ri.length
  rw [List.length_map] at l1
  omega
 ·refine zc1b (ha.get (i:=i) (d:=pD p) (by rw [List.getElem?_map,hp];rfl)) fun x hx hi => ?_
  refine zc1b (ri.get hx) fun u hu ru => ?_
  refine zc1b (zgV.mp hi) fun b zr1 hb => ?_
  obtain rfl:=zr1
  obtain rfl:u=Value.ref b:=ru
  refine zc0b ((show zaL P w H h b (.tup [.int p.1,.int p.2]) from ok b _ hb)) fun _ zz=>zc1b zz fun its2 r2 zz=>zc1c zz fun o2 g1 g2 zz=>zc1a zz fun n2 g3 => ?_
  refine zc2c (zmg r2) fun u1 u2 zr2 q1 q2 => ?_
  obtain rfl:=zr2
  obtain ⟨t1,rfl⟩:=(show ∃ t,u1=Value.int p.1 t from q1)
  obtain ⟨t2,rfl⟩:=(show ∃ t,u2=Value.int p.2 t from q2)
  exact ⟨b,o2,n2,t1,t2,hu,g1,g2,g3⟩
theorem zfX (hu:A.units+4<cLine){fin:Bool}{E:Value→Shared→Prop}{Q:Bool→Shared→Prop}:∀ {r r':List (Int×Int)} {us us':List Value} (i:Nat),zfj s.heap us r→zfj s.heap us' r' →
 fin=decide (r.length<r'.length)→Q (rltB r r') s→PySem.W.KatLex prog w A false fin Q (us.zip us') i s
 | [],[],us,us',i,q,q',hf,h=>by
  obtain rfl:us=[]:=List.length_eq_zero_iff.mp q.1
  refine PySem.W.kat_nil ?_
  rw [hf]
  exact h
 | [],p::r',us,us',i,q,q',hf,h=>by
  obtain rfl:us=[]:=List.length_eq_zero_iff.mp q.1
  refine PySem.W.kat_nil ?_
  rw [hf,decide_eq_true (by simp)]
  exact h
 | p::r,[],us,us',i,q,q',hf,h=>by
  obtain rfl:us'=[]:=List.length_eq_zero_iff.mp q'.1
  rw [List.zip_nil_right]
  refine PySem.W.kat_nil ?_
  rw [hf,decide_eq_false (by simp)]
  exact h
 | p::r,p'::r',us,us',i,q,q',hf,h=>by
  refine zc4a (q.2 0 p rfl) fun a o n t zz=>zc1d zz fun u e1 e2 e3 e4 => ?_
  refine zc4a (q'.2 0 p' rfl) fun a' o' n' t' zz=>zc1d zz fun u' f1 f2 f3 f4 => ?_
  cases us with
  | nil=>exact zqn e1
  | cons v us =>
   cases us' with
   | nil=>exact zqn f1
   | cons v' us' =>
    have e1:some v=some (Value.ref a):=e1
    have f1:some v'=some (Value.ref a'):=f1
    obtain rfl:=Option.some.inj e1
    obtain rfl:=Option.some.inj f1
    have R1:Reads s.heap (.ref a) (pD p) _:=.tuple e2 e3 e4 (.cons (.int p.1 t) (.cons (.int p.2 u) .nil))
    have R2:Reads s.heap (.ref a') (pD p') _:=.tuple f2 f3 f4 (.cons (.int p'.1 t') (.cons (.int p'.2 u') .nil))
    have dp:∀ z:Int×Int,(pD z).depth=1:=fun z=>by
     unfold pD PyData.depth
     show PyData.depthAll ([z.1,z.2].map PyData.int)+1=1
     rw [ze8]
    rw [List.zip_cons_cons]
    refine PySem.W.kat_cons (PySem.SeqAt.eqAt_reads _ _ A s _ _ _ _ R1 R2 (zdy _ (zcI p)) (zdy _ (zcI p')) (by rw [dp,dp];omega) prog w _ _ ?_)
    rw [zb0] at h
    by_cases c:p=p'
    ·subst c
     rw [zln (zcI p)]
     rw [if_pos rfl] at h
     refine PySem.W.kat_yes (zfX hu (E:=E) (i+1) ⟨by have:=q.1;simpa using this,fun i z hz=>q.2 (i+1) z hz⟩ ⟨by have:=q'.1;simpa using this,fun i z hz=>q'.2 (i+1) z hz⟩ (by rw [hf];simp) h)
    ·rw [if_neg c] at h
     have ne:pD p≠pD p':=fun z=>c (by
      unfold pD at z
      injection z with z
      injection z with z1 z
      injection z with z2 z
      injection z1 with z1
      injection z2 with z2
      exact Prod.ext z1 z2)
     rw [zpI (zcI p) (zcI p') ne]
     refine PySem.W.kat_no ?_
     rw [Bool.false_and]
     have I1:IntsAre (#[Value.int p.1 t,Value.int p.2 u]:Array Value).toList [p.1,p.2]:=.cons _ _ (.cons _ _ .nil)
     have I2:IntsAre (#[Value.int p'.1 t',Value.int p'.2 u']:Array Value).toList [p'.1,p'.2]:=.cons _ _ (.cons _ _ .nil)
     refine PySem.W.kat_one _ _ (HT.lt_tupInts ⟨o,e2,e3,n,e4⟩ ⟨o',f2,f3,n',f4⟩ I1 I2 (by omega) ?_)
     have z:HT.lexLt [p.1,p.2] [p'.1,p'.2]=pltB p p':=by
      rw [HT.lexLt_cons,HT.lexLt_cons,HT.lexLt_nil_nil]
      unfold pltB
      by_cases g:p.1=p'.1
      ·have g2:¬ p.2=p'.2:=fun z=>c (Prod.ext g z)
       simp [g,g2]
      ·simp [g]
     rw [z]
     exact h
theorem zk3 {P:Program}{H:Hp}{rs:List (List (Int×Int))}{xs:List V}{vs:List Value}(hu:A.units+4<cLine)(ok:HOk P w H s.heap)(ha:zao H (rs.map rD) xs)(rv:Vals xs vs)(hne:∀ r∈rs,r ≠ [])(h2:2≤vs.length) :
 Keys prog w A s vs fun i j=>rltB (rs.getD i []) (rs.getD j []):=by
 have l1:=ha.length
 have l2:=rv.length
 rw [List.length_map] at l1
 have at_:∀ (i:Nat) r,rs[i]? = some r→∃ v a o us n,vs[i]? = some v∧RowAt s.heap v r a o us n:=fun i r hr=>by
  refine zc1b (ha.get (i:=i) (d:=rD r) (by rw [List.getElem?_map,hr];rfl)) fun x hx hi => ?_
  refine zc1b (rv.get hx) fun v hv ru => ?_
  refine zc4a (zm2 ok hi ru) fun a o us n R => ?_
  exact ⟨v,a,o,us,n,hv,R⟩
 have firsts:∀ (vs:List Value) (rs:List (List (Int×Int))),vs.length=rs.length→(∀ r∈rs,r ≠ [])→(∀ (i:Nat) r,rs[i]? = some r→∃ v a o us n,vs[i]? = some v∧RowAt s.heap v r a o us n)→∃ fs,PySem.W.KatTups s.heap vs fs∧fs.length=vs.length∧∀ v∈fs,∃ b ob,v=Value.ref b∧s.heap.get? b=some ob∧ob.cls=.type "tuple" := by
  intro vs
  induction vs with
  | nil=>exact fun _ _ _ _=>⟨[],.nil,rfl,fun v hv=>nomatch hv⟩
  | cons v vs ih =>
   intro rs hl hne hat
   cases rs with
   | nil=>simp at hl
   | cons r rs =>
    refine zc4a (hat 0 r rfl) fun v' a o us zz=>zc1b zz fun n e1 R => ?_
    have e1:some v=some v':=e1
    obtain rfl:=Option.some.inj e1
    refine zc1c (ih rs (by simpa using hl) (fun r hr=>hne r (List.mem_cons_of_mem _ hr)) fun i r hr=>hat (i+1) r hr) fun fs k1 k2 k3 => ?_
    cases r with
    | nil=>exact absurd rfl (hne [] List.mem_cons_self)
    | cons p r =>
     refine zc4a (R.prs.2 0 p rfl) fun b ob nb t zz=>zc1d zz fun u g1 g2 g3 g4 => ?_
     obtain rfl:v=Value.ref a:=R.isv
     refine ⟨.ref b::fs,.cons R.get R.cls R.dat (by simpa using g1) k1,by simp [k2],fun z hz => ?_⟩
     rcases List.mem_cons.mp hz with y|y
     ·exact ⟨b,ob,y,g2,g3⟩
     ·exact k3 z y
 refine zc1c (firsts vs rs (by omega) hne at_) fun fs k1 k2 k3 => ?_
 refine ⟨tuples' (Value.type "tuple" != Value.type "tuple"),fun E Q h=>PySem.W.kat_kind (T:=Value.type "tuple") k1 (by omega) (fun v hv => ?_) rfl h,fun i j hi hj E Q h => ?_⟩
 ·refine zc2c (k3 v hv) fun b ob zr2 g1 g2 => ?_
  obtain rfl:=zr2
  rw [← g2]
  exact (PySem.W.Looks.ld g1).andThen .now
 ·obtain ⟨r,hr⟩:∃ r,rs[i]? = some r:=⟨_,List.getElem?_eq_getElem (by omega)⟩
  obtain ⟨r',hr'⟩:∃ r,rs[j]? = some r:=⟨_,List.getElem?_eq_getElem (by omega)⟩
  refine zc4a (at_ i r hr) fun v a o us zz=>zc1b zz fun n e1 R => ?_
  refine zc4a (at_ j r' hr') fun v' a' o' us' zz=>zc1b zz fun n' f1 R' => ?_
  dsimp only at h
  rw [zbb hr,zbb hr'] at h
  show wpAny (model prog w) A (keyLt' _ (nthV vs i) (nthV vs j)) Q E s
  unfold nthV
  rw [zbb e1,zbb f1,R.isv,R'.isv]
  refine PySem.W.kat_lt R.get R.dat R'.get R'.dat ?_
  exact zfX hu (E:=E) 0 R.prs R'.prs (by rw [List.size_toArray,List.size_toArray,R.prs.1,R'.prs.1]) h
end
end L2
namespace L2
open PySem PySem.Spec PyProof.Rows
section
variable {X:Cx}{tg iter elt c:Expr}{scope:Scope}{pos:Pos}{wi:TI}{g:TG}{te:TE}{tt:TT}
theorem zga (N:List Str)(cap:List (Option Nat))(hc:X.calm=true)(okB:zbd scope X.env N X.N cap=true)(hi:PI X tg iter wi)(hg:∀ cl C s H ex,PG (zap X scope N cl C s H ex) tg g)(ht:∀ cl C s H ex,PT (zap X scope N cl C s H ex) c tt)(he:∀ cl C s H ex,PE (zap X scope N cl C s H ex) elt te)
 (hs:∀ x,foldedSetIterable iter X.env x=pure x) {use:Option (Value→Sem Unit)} {R:Value→Shared→Prop} {fpos:Pos} {pins:List (Addr×Obj)} {s:Shared} {σ : St} {H:Hp} {Q:VK} (I:Inv X pins σ H s) (h:zee cap wi g tt te σ H Q) (fin:zd9 X pins σ Q use R) :
 wpAny (model X.prog X.w) X.A (comprehension (.ListComp elt [⟨tg,iter,[c],0⟩] scope pos) scope X.env fpos (newList []) false (eval iter X.env) use) R X.xe s :=
 zhV (test:=fun env R Q s=>wpAny (model X.prog X.w) X.A (isTrue c env (eval c env)) Q (notedBy (model X.prog X.w) X.A env fun e s'=>R (.error e) s') s) N (fun I turn n h=>PySem.W.kct_loop I turn n h)
  (fun cl C s H ex _ _ _ _ _ _ _ _ hR I q k=>wpAny_mono (ht cl C s H ex _ _ _ _ _ I q) (fun b s8 z=>by obtain ⟨H8,I8,q8⟩:=z;exact k b s8 H8 I8 q8) fun e s' hx=>wpAny_mono hx (fun _ s'' z=>hR _ _ z) fun _ _ z=>hR _ _ z) cap hc okB hi hg (fun cl C s H ex _=>he cl C s H ex) hs I h fin
theorem zlg (N:List Str)(cap:List (Option Nat))(hc:X.calm=true)(okB:zbd scope X.env N X.N cap=true)(hi:PI X tg iter wi)(hg:∀ cl C s H ex,PG (zap X scope N cl C s H ex) tg g)(ht:∀ cl C s H ex,PT (zap X scope N cl C s H ex) c tt)(he:∀ cl C s H ex,PE (zap X scope N cl C s H ex) elt te)
 (hs:autoParam (∀ x,foldedSetIterable iter X.env x=pure x) zaw._auto_1):PE X (.ListComp elt [⟨tg,iter,[c],0⟩] scope pos) (zee cap wi g tt te):=by
 intro pins s σ H Q I h
 rw [eval_ListComp]
 exact zga N cap hc okB hi hg ht he hs I h zhU
end
theorem zdq {g:Nat→V}{u:Nat→Value}:∀ {L:List Nat},(∀ i∈L,RelV (g i) (u i))→Vals (L.map g) (L.map u)
 | [],_=>.nil
 | i::L,h=>.cons (h i List.mem_cons_self) (zdq fun j hj=>h j (List.mem_cons_of_mem _ hj))
theorem Pl.mem {n:Nat}{jx:Array Nat}(p:Pl n jx n){i:Nat}(h:i∈jx.toList):i<n:=by
 have q:=(Array.perm_iff_toList_perm.mp p.perm).mem_iff.mp h
 simpa using q
theorem Pl.len {n k:Nat}{jx:Array Nat}(p:Pl n jx k):jx.toList.length=n:=by rw [Array.length_toList,p.size]
end L2
namespace L2
open PySem PySem.Spec PyProof.Rows
noncomputable def putR (r:List (Int×Int))(t w:Int):List (Int×Int):=if (r.any fun p=>decide (p.1=t))=true then r.map (fun p=>if p.1=t then (p.1,w) else p) else r++[(t,w)]
theorem zjF {a b:Int}:decide ((Sum.inl a:Key)=Sum.inl b)=decide (a=b):=by
 by_cases h:a=b
 ·rw [h,decide_eq_true rfl,decide_eq_true rfl]
 ·rw [decide_eq_false h,decide_eq_false (fun z=>h (by injection z))]
theorem zms (r:List (Int×Int))(t w:Int):putK (kvR r) (Sum.inl t) (V.int w)=kvR (putR r t w):=by
 have e:((kvR r).any fun kv=>decide (kv.1=Sum.inl t))=r.any fun p=>decide (p.1=t):=by
  unfold kvR
  rw [List.any_map]
  congr 1
  funext p
  exact zjF
 unfold putK putR
 rw [e]
 split
 ·unfold kvR
  rw [List.map_map,List.map_map]
  apply List.map_congr_left
  intro p _
  by_cases c:p.1=t
  ·simp [c]
  ·have c':¬ (Sum.inl p.1:Key)=Sum.inl t:=fun z=>c (by injection z)
   simp [c]
 ·unfold kvR
  rw [List.map_append]
  rfl
theorem zi8 (p:Int×Int)(r:List (Int×Int))(t:Int):zam (p::r) t=match zam r t with|some w=>some w|none=>if p.1=t then some p.2 else none:=rfl
theorem zfn (r:List (Int×Int))(t w:Int):(putR r t w).map (·.1)=if (r.any fun p=>decide (p.1=t))=true then r.map (·.1) else r.map (·.1)++[t]:=by
 unfold putR
 split
 ·rw [List.map_map]
  apply List.map_congr_left
  intro p _
  by_cases c:p.1=t
  ·simp [c]
  ·simp [c]
 ·rw [List.map_append]
  rfl
theorem zjT {r:List (Int×Int)}{t w:Int}(h:Once r):Once (putR r t w):=by
 unfold Once
 rw [zfn]
 split
 ·exact h
 ·rename_i c
  unfold Once at h
  rw [List.nodup_append]
  refine ⟨h,by simp,fun a ha b hb => ?_⟩
  simp at hb
  subst hb
  rintro rfl
  refine zc1b (List.mem_map.mp ha) fun p hp e => ?_
  exact c (List.any_eq_true.mpr ⟨p,hp,by simp [e]⟩)
theorem zgA:∀ (r acc:List (Int×Int)),zdF (kvR acc) (kvR r)=kvR (r.foldl (fun a p=>putR a p.1 p.2) acc)
 | [],acc=>rfl
 | p::r,acc=>by
  have e:zdF (kvR acc) (kvR (p::r))=zdF (putK (kvR acc) (Sum.inl p.1) (V.int p.2)) (kvR r):=rfl
  rw [e,zms,zgA r]
  rfl
theorem zfG:∀ (r acc:List (Int×Int)),Once (acc++r)→r.foldl (fun a p=>putR a p.1 p.2) acc=acc++r
 | [],acc,_=>by simp
 | p::r,acc,h=>by
  have hn:(acc.any fun q=>decide (q.1=p.1))=false:=by
   rw [List.any_eq_false]
   intro q hq
   simp
   intro e
   unfold Once at h
   rw [List.map_append,List.nodup_append] at h
   exact h.2.2 q.1 (List.mem_map.mpr ⟨q,hq,rfl⟩) p.1 (by simp) e
  have e:putR acc p.1 p.2=acc++[p]:=by
   unfold putR
   rw [hn]
   simp
  rw [List.foldl_cons,e,zfG r (acc++[p]) (by rw [List.append_assoc];exact h),List.append_assoc]
  rfl
theorem zcU {α : Type}{ltb : α → α → Bool}(T:Tot ltb):∀ {a b:List α},a.Pairwise (fun x y=>ltb x y=true)→b.Pairwise (fun x y=>ltb x y=true)→(∀ x,x∈a↔x∈b)→a=b
 | [],[],_,_,_=>rfl
 | [],y::b,_,_,h=>by
  have z:y∈([]:List α):=(h y).mpr List.mem_cons_self
  cases z
 | x::a,[],_,_,h=>by
  have z:x∈([]:List α):=(h x).mp List.mem_cons_self
  cases z
 | x::a,y::b,ha,hb,h=>by
  obtain ⟨a1,a2⟩:=List.pairwise_cons.mp ha
  obtain ⟨b1,b2⟩:=List.pairwise_cons.mp hb
  have e:x=y:=by
   rcases List.mem_cons.mp ((h x).mp List.mem_cons_self) with z|z
   ·exact z
   ·rcases List.mem_cons.mp ((h y).mpr List.mem_cons_self) with u|u
    ·exact u.symm
    ·have:=T.asy _ _ (b1 x z)
     rw [a1 y u] at this
     cases this
  subst e
  congr 1
  refine zcU T a2 b2 fun z=>⟨fun hz => ?_,fun hz => ?_⟩
  ·rcases List.mem_cons.mp ((h z).mp (List.mem_cons_of_mem _ hz)) with u|u
   ·rw [u] at hz
    have:=a1 x hz
    rw [T.irr] at this
    exact zqb this
   ·exact u
  ·rcases List.mem_cons.mp ((h z).mpr (List.mem_cons_of_mem _ hz)) with u|u
   ·rw [u] at hz
    have:=b1 x hz
    rw [T.irr] at this
    exact zqb this
   ·exact u
end L2
namespace L2.DL
open PySem PySem.Spec PyProof.Rows
theorem zfi {c:Prop}{_:Decidable c}{α : Type}{a z : α}(h:(if c then some a else none)=some z):c∧a=z:=by
 by_cases q:c
 ·rw [if_pos q] at h;exact ⟨q,Option.some.inj h⟩
 ·rw [if_neg q] at h;exact zqn h
inductive D where
 | non|bl (b:Bool)|int (i:Int)|str (x:Str)|ty (n:String)|scr (ns:List Int)
 | tup (ds:List D)|lst (ds:List D)|dct (ks:List Key) (ds:List D)|ins (c:Str) (fs:List Str) (ds:List D)
 | exc (c:Str)|ucl (c:Str)
 | adr (a:Addr)|dcf (ks:List Key) (ds:List D)
inductive Res (α : Type) where
 | ok (a : α)|ex (c:Str) (fs:List D)|no
noncomputable def Res.bind {α β : Type}(r:Res α)(g : α → Res β):Res β := match r with
 | .ok a=>g a
 | .ex c fs=>.ex c fs
 | .no=>.no
noncomputable def Res.need {α : Type}(r:Res α)(p : α → Prop)(q:Str→List D→Prop):Prop:=match r with
 | .ok a=>p a
 | .ex c fs=>q c fs
 | .no=>False
@[simp] theorem Res.bind_ok {α β : Type}(a : α)(g : α → Res β):(Res.ok a).bind g=g a:=rfl
@[simp] theorem Res.bind_no {α β : Type}(g : α → Res β):(Res.no:Res α).bind g=.no:=rfl
theorem Res.need_bind {α β : Type}{r:Res α}{g : α → Res β}{p : β → Prop}{q:Str→List D→Prop}(h:(r.bind g).need p q):r.need (fun a=>(g a).need p q) q:=by
 cases r<;>exact h
theorem Res.need.mono {α : Type}{r:Res α}{p p' : α → Prop}{q q':Str→List D→Prop}(h:r.need p q)(hp:∀ a,p a→p' a)(hq:∀ c fs,q c fs→q' c fs):r.need p' q':=by
 cases r with
 | ok a=>exact hp a h
 | ex c fs=>exact hq c fs h
 | no=>exact h
theorem Res.need.monoE {α : Type}{r:Res α}{p p' : α → Prop}{q q':Str→List D→Prop}(h:r.need p q)(hp:∀ a,r=.ok a→p a→p' a)(hq:∀ c fs,q c fs→q' c fs):r.need p' q':=by
 cases r with
 | ok a=>exact hp a rfl h
 | ex c fs=>exact hq c fs h
 | no=>exact h
noncomputable def ExcO (C x:Addr):HO:=.ext fun h => ∃ o,h.get? x=some o∧o.cls=.ref C
noncomputable def TupD (_:PySem.W.Frag)(H:Hp)(a:Addr)(xs:List V):Prop:=H a=some (.tup xs)
theorem TupD.same {K:PySem.W.Frag}{H H':Hp}{a:Addr}{xs:List V}(e:Same H H')(h:TupD K H a xs):TupD K H' a xs:=e _ _ h
theorem TupD.of {K:PySem.W.Frag}{H:Hp}{a:Addr}{xs:List V}(h:H a=some (.tup xs)):TupD K H a xs:=h
theorem TupD.sq {K:PySem.W.Frag}{H:Hp}{a:Addr}{xs:List V}(h:TupD K H a xs):SqT K H a xs:=SqT.of h
noncomputable def LstD (_:PySem.W.Frag)(H:Hp)(a:Addr)(xs:List V):Prop:=Rd H a (.lst xs)
theorem LstD.same {K:PySem.W.Frag}{H H':Hp}{a:Addr}{xs:List V}(e:Same H H')(h:LstD K H a xs):LstD K H' a xs:=h.imp (fun q=>e _ _ q) (by rintro ⟨o,q⟩;exact ⟨o,e _ _ q⟩)
theorem LstD.of {K:PySem.W.Frag}{H:Hp}{a:Addr}{xs:List V}(h:H a=some (.lst xs)):LstD K H a xs:=.inl h
theorem LstD.sq {K:PySem.W.Frag}{H:Hp}{a:Addr}{xs:List V}(h:LstD K H a xs):SqL K H a xs:=.inl h
section
variable (K:PySem.W.Frag)
mutual
noncomputable def IsD (H:Hp):D→V→Prop
 | .non,v=>v=.non
 | .bl b,v=>v=.bl b
 | .int i,v=>v=.int i
 | .str x,v=>v=.str x
 | .ty n,v=>v=.ty n
 | .scr ns,v => ∃ a,v=.ref a∧SqL K H a (ns.map V.int)
 | .tup ds,v => ∃ a xs,v=.ref a∧TupD K H a xs∧IsDs H ds xs
 | .lst ds,v => ∃ a xs,v=.ref a∧LstD K H a xs∧IsDs H ds xs
 | .dct ks ds,v => ∃ a xs,v=.ref a∧H a=some (.dK (ks.zip xs))∧ks.length=xs.length∧IsDs H ds xs
 | .ins c fs ds,v => ∃ a C dx xs,v=.ref a∧PySem.W.nsIn K mainGlobals c=some (some (.ref C))∧H a=some (.ins C dx (fs.zip xs))∧fs.length=xs.length∧IsDs H ds xs
 | .exc c,v => ∃ a C,v=.ref a∧PySem.W.nsIn K mainGlobals c=some (some (.ref C))∧H a=some (ExcO C a)
 | .ucl c,v => ∃ C,v=.ref C∧PySem.W.nsIn K mainGlobals c=some (some (.ref C))
 | .adr a,v=>v=.ref a
 | .dcf ks ds,v => ∃ a o xs,v=.ref a∧H a=some (.frz o (.dK (ks.zip xs)))∧ks.length=xs.length∧IsDs H ds xs
noncomputable def IsDs (H:Hp):List D→List V→Prop
 | [],xs=>xs=[]
 | d::ds,xs => ∃ x r,xs=x::r∧IsD H d x∧IsDs H ds r
end
end
section
variable {K:PySem.W.Frag}{H H':Hp}
theorem IsD.non_iff {v:V}:IsD K H .non v↔v=.non:=.rfl
theorem IsD.bl_iff {b:Bool}{v:V}:IsD K H (.bl b) v↔v=.bl b:=.rfl
theorem IsD.int_iff {i:Int}{v:V}:IsD K H (.int i) v↔v=.int i:=.rfl
theorem IsD.str_iff {x:Str}{v:V}:IsD K H (.str x) v↔v=.str x:=.rfl
theorem IsD.ty_iff {n:String}{v:V}:IsD K H (.ty n) v↔v=.ty n:=.rfl
theorem IsD.scr_iff {ns:List Int}{v:V}:IsD K H (.scr ns) v↔∃ a,v=.ref a∧SqL K H a (ns.map V.int):=.rfl
theorem IsD.tup_iff {ds:List D}{v:V}:IsD K H (.tup ds) v↔∃ a xs,v=.ref a∧TupD K H a xs∧IsDs K H ds xs:=.rfl
theorem IsD.lst_iff {ds:List D}{v:V}:IsD K H (.lst ds) v↔∃ a xs,v=.ref a∧LstD K H a xs∧IsDs K H ds xs:=.rfl
theorem IsD.dct_iff {ks:List Key}{ds:List D}{v:V}:IsD K H (.dct ks ds) v↔∃ a xs,v=.ref a∧H a=some (.dK (ks.zip xs))∧ks.length=xs.length∧IsDs K H ds xs:=.rfl
theorem IsD.ins_iff {c:Str}{fs:List Str}{ds:List D}{v:V}:IsD K H (.ins c fs ds) v↔∃ a C dx xs,v=.ref a∧PySem.W.nsIn K mainGlobals c=some (some (.ref C))∧H a=some (.ins C dx (fs.zip xs))∧fs.length=xs.length∧IsDs K H ds xs:=.rfl
theorem IsD.exc_iff {c:Str}{v:V}:IsD K H (.exc c) v↔∃ a C,v=.ref a∧PySem.W.nsIn K mainGlobals c=some (some (.ref C))∧H a=some (ExcO C a):=.rfl
theorem IsD.ucl_iff {c:Str}{v:V}:IsD K H (.ucl c) v↔∃ C,v=.ref C∧PySem.W.nsIn K mainGlobals c=some (some (.ref C)):=.rfl
theorem IsD.adr_iff {a:Addr}{v:V}:IsD K H (.adr a) v↔v=.ref a:=.rfl
theorem IsD.dcf_iff {ks:List Key}{ds:List D}{v:V}:IsD K H (.dcf ks ds) v↔∃ a o xs,v=.ref a∧H a=some (.frz o (.dK (ks.zip xs)))∧ks.length=xs.length∧IsDs K H ds xs:=.rfl
theorem IsDs.nil_iff {xs:List V}:IsDs K H [] xs↔xs=[]:=.rfl
theorem IsDs.cons_iff {d:D}{ds:List D}{xs:List V}:IsDs K H (d::ds) xs↔∃ x r,xs=x::r∧IsD K H d x∧IsDs K H ds r:=.rfl
mutual
theorem IsD.same (e:Same H H'):∀ (d:D) (v:V),IsD K H d v→IsD K H' d v
 | .non,_,h=>h
 | .bl _,_,h=>h
 | .int _,_,h=>h
 | .str _,_,h=>h
 | .ty _,_,h=>h
 | .scr _,_,h=>by
  refine zc1b (IsD.scr_iff.mp h) fun a h1 h2 => ?_
  exact IsD.scr_iff.mpr ⟨a,h1,Same.seq e h2⟩
 | .tup ds,_,h=>by
  refine zc2c (IsD.tup_iff.mp h) fun a xs h1 h2 h3 => ?_
  exact IsD.tup_iff.mpr ⟨a,xs,h1,h2.same e,IsDs.same e ds xs h3⟩
 | .lst ds,_,h=>by
  refine zc2c (IsD.lst_iff.mp h) fun a xs h1 h2 h3 => ?_
  exact IsD.lst_iff.mpr ⟨a,xs,h1,h2.same e,IsDs.same e ds xs h3⟩
 | .dct ks ds,_,h=>by
  refine zc2d (IsD.dct_iff.mp h) fun a xs h1 h2 h4 h3 => ?_
  exact IsD.dct_iff.mpr ⟨a,xs,h1,e _ _ h2,h4,IsDs.same e ds xs h3⟩
 | .ins c fs ds,_,h=>by
  refine zc4a (IsD.ins_iff.mp h) fun a C dx xs zz=>zc0e zz fun h1 h5 h2 h4 h3 => ?_
  exact IsD.ins_iff.mpr ⟨a,C,dx,xs,h1,h5,e _ _ h2,h4,IsDs.same e ds xs h3⟩
 | .exc _,_,h=>by
  refine zc2c (IsD.exc_iff.mp h) fun a C h1 h2 h3 => ?_
  exact IsD.exc_iff.mpr ⟨a,C,h1,h2,e _ _ h3⟩
 | .ucl _,_,h=>h
 | .adr _,_,h=>h
 | .dcf ks ds,_,h=>by
  obtain ⟨a,o,xs,h1,h2,h4,h3⟩:=IsD.dcf_iff.mp h
  exact IsD.dcf_iff.mpr ⟨a,o,xs,h1,e _ _ h2,h4,IsDs.same e ds xs h3⟩
theorem IsDs.same (e:Same H H'):∀ (ds:List D) (xs:List V),IsDs K H ds xs→IsDs K H' ds xs
 | [],_,h=>h
 | d::ds,_,h=>by
  refine zc2c (IsDs.cons_iff.mp h) fun x r h1 h2 h3 => ?_
  exact IsDs.cons_iff.mpr ⟨x,r,h1,IsD.same e d x h2,IsDs.same e ds r h3⟩
end
theorem IsDs.mk {d:D}{ds:List D}{x:V}{xs:List V}(h:IsD K H d x)(r:IsDs K H ds xs):IsDs K H (d::ds) (x::xs):=IsDs.cons_iff.mpr ⟨x,xs,rfl,h,r⟩
theorem IsDs.nil:IsDs K H [] []:=IsDs.nil_iff.mpr rfl
theorem IsDs.length:∀ {ds:List D} {xs:List V},IsDs K H ds xs→xs.length=ds.length
 | [],xs,h=>by rw [IsDs.nil_iff] at h;subst h;rfl
 | d::ds,xs,h=>by
  rw [IsDs.cons_iff] at h
  obtain ⟨x,r,rfl,_,h3⟩:=h
  rw [List.length_cons,List.length_cons,IsDs.length h3]
theorem IsDs.get:∀ {ds:List D} {xs:List V} {i:Nat} {d:D},IsDs K H ds xs→ds[i]? = some d→∃ x,xs[i]? = some x∧IsD K H d x
 | [],_,_,_,_,e=>by exact zqn e
 | d::ds,xs,i,e,h,q=>by
  rw [IsDs.cons_iff] at h
  refine zc2c h fun x r zr2 h2 h3 => ?_
  obtain rfl:=zr2
  cases i with
  | zero=>cases q;exact ⟨x,rfl,h2⟩
  | succ i=>exact IsDs.get (i:=i) h3 q
theorem IsDs.getV {ds:List D}{xs:List V}{i:Nat}{x:V}(h:IsDs K H ds xs)(q:xs[i]? = some x):∃ d,ds[i]? = some d∧IsD K H d x:=by
 have hl:=h.length
 have hi:i<ds.length:=by rw [← hl];exact (List.getElem?_eq_some_iff.mp q).1
 refine zc1b (h.get (List.getElem?_eq_getElem hi)) fun y h1 h2 => ?_
 rw [q] at h1
 obtain rfl:=Option.some.inj h1
 exact ⟨_,List.getElem?_eq_getElem hi,h2⟩
theorem IsDs.append:∀ {ds es:List D} {xs ys:List V},IsDs K H ds xs→IsDs K H es ys→IsDs K H (ds++es) (xs++ys)
 | [],_,xs,_,h,h'=>by rw [IsDs.nil_iff] at h;subst h;exact h'
 | d::ds,_,xs,_,h,h'=>by
  rw [IsDs.cons_iff] at h
  refine zc2c h fun x r zr2 h2 h3 => ?_
  obtain rfl:=zr2
  exact IsDs.mk h2 (IsDs.append h3 h')
theorem IsDs.snoc {ds:List D}{xs:List V}{d:D}{x:V}(h:IsDs K H ds xs)(h':IsD K H d x):IsDs K H (ds++[d]) (xs++[x]):=h.append (.mk h' .nil)
theorem IsDs.ints:∀ (ns:List Int),IsDs K H (ns.map D.int) (ns.map V.int)
 | []=>.nil
 | n::ns=>.mk (IsD.int_iff.mpr rfl) (IsDs.ints ns)
theorem IsDs.ints_iff:∀ {ns:List Int} {xs:List V},IsDs K H (ns.map D.int) xs→xs=ns.map V.int
 | [],_,h=>IsDs.nil_iff.mp h
 | n::ns,xs,h=>by
  rw [List.map_cons,IsDs.cons_iff] at h
  obtain ⟨x,r,rfl,h2,h3⟩:=h
  rw [IsD.int_iff] at h2
  rw [h2,IsDs.ints_iff h3]
  rfl
end
structure Ext (F H F' H':Hp):Prop where
 ff:Same F F'
 fh:Same F' H'
 hh:Same H H'
 new:∀ a,F a=none→H a≠none→F' a=none
theorem Ext.refl {F H:Hp}(h:Same F H):Ext F H F H:=⟨.refl _,h,.refl _,fun _ e _=>e⟩
theorem Ext.trans {F H F1 H1 F2 H2:Hp}(a:Ext F H F1 H1)(b:Ext F1 H1 F2 H2):Ext F H F2 H2 :=
 ⟨a.ff.trans b.ff,b.fh,a.hh.trans b.hh,fun x e n=>b.new x (a.new x e n) (by
  cases q:H x with
  | none=>exact absurd q n
  | some o=>rw [a.hh _ _ q];simp)⟩
theorem zak {F H:Hp}{p:Addr}(h:Same F H)(hp:H p=none):F p=none:=h.free hp
theorem Ext.alloc {F H:Hp}{p:Addr}(h:Same F H)(hp:H p=none)(o:HO):Ext F H (upd F p o) (upd H p o) :=
 ⟨zaX (h.free hp) o,fun b u e=>by
  by_cases q:b=p
  ·subst q;rw [zai] at e ⊢;exact e
  ·rw [zah q] at e ⊢;exact h _ _ e,zaX hp o,fun a e n=>by
  have q:a≠p:=fun z=>n (by rw [z];exact hp)
  rw [zah q];exact e⟩
theorem Ext.keep {F H:Hp}{p:Addr}(h:Same F H)(hp:H p=none)(o:HO):Ext F H F (upd H p o) :=
 ⟨.refl _,h.trans (zaX hp o),zaX hp o,fun _ e _=>e⟩
theorem Ext.grow {F H H':Hp}(h:Same F H)(hh:Same H H'):Ext F H F H':=⟨.refl _,h.trans hh,hh,fun _ e _=>e⟩
inductive SV where
 | val (d:D)|own (p:Bool) (d:D)
structure Bs where
 F0:Hp
 H0:Hp
 pa:Nat→Option (Addr×List V)
abbrev SD:=List (Option SV)
def zbI (K:PySem.W.Frag)(F H:Hp)(l:Addr):D→Prop
 | .lst ds => ∃ xs,H l=some (.lst xs)∧IsDs K F ds xs
 | .dct ks ds => ∃ xs,H l=some (.dK (ks.zip xs))∧ks.length=xs.length∧IsDs K F ds xs
 | .ins c fs ds => ∃ C dx xs,PySem.W.nsIn K mainGlobals c=some (some (.ref C))∧H l=some (.ins C dx (fs.zip xs))∧fs.length=xs.length∧IsDs K F ds xs
 | _=>False
theorem zbI.has {K:PySem.W.Frag}{F H:Hp}{l:Addr}{d:D}(h:zbI K F H l d):∃ o,H l=some o:=by
 cases d with
 | lst ds=>obtain ⟨xs,e,_⟩:=h;exact ⟨_,e⟩
 | dct ks ds=>obtain ⟨xs,e,_⟩:=h;exact ⟨_,e⟩
 | ins c fs ds=>obtain ⟨C,dx,xs,_,e,_⟩:=h;exact ⟨_,e⟩
 | _=>exact False.elim h
theorem zbI.ext {K:PySem.W.Frag}{F H F' H':Hp}{l:Addr}{d:D}(h:zbI K F H l d)(ff:Same F F')(hh:∀ o,H l=some o→H' l=some o):zbI K F' H' l d:=by
 cases d with
 | lst ds=>obtain ⟨xs,e,q⟩:=h;exact ⟨xs,hh _ e,IsDs.same ff _ _ q⟩
 | dct ks ds=>obtain ⟨xs,e,z,q⟩:=h;exact ⟨xs,hh _ e,z,IsDs.same ff _ _ q⟩
 | ins c fs ds=>obtain ⟨C,dx,xs,k,e,z,q⟩:=h;exact ⟨C,dx,xs,k,hh _ e,z,IsDs.same ff _ _ q⟩
 | _=>exact False.elim h
theorem zbI.frz {K:PySem.W.Frag}{F H:Hp}{l:Addr}{d:D}{o:HO}(h:zbI K F H l d)(e:H l=Option.some o)(n:F l=none):IsD K (upd F l o) d (.ref l):=by
 cases d with
 | lst ds =>
  refine zc1b h fun xs e' q => ?_
  rw [e] at e';obtain rfl:=Option.some.inj e'
  exact IsD.lst_iff.mpr ⟨l,xs,rfl,.of zai,IsDs.same (zaX n _) _ _ q⟩
 | dct ks ds =>
  refine zc1c h fun xs e' z q => ?_
  rw [e] at e';obtain rfl:=Option.some.inj e'
  exact IsD.dct_iff.mpr ⟨l,xs,rfl,zai,z,IsDs.same (zaX n _) _ _ q⟩
 | ins c fs ds =>
  refine zc3a h fun C dx xs zz=>zc0d zz fun k e' z q => ?_
  rw [e] at e';obtain rfl:=Option.some.inj e'
  exact IsD.ins_iff.mpr ⟨l,C,dx,xs,rfl,k,zai,z,IsDs.same (zaX n _) _ _ q⟩
 | _=>exact False.elim h
noncomputable def zls (H:Hp)(l:Addr)(o:Option (Addr×List V)):Prop:=∃ xs,o=some (l,xs)∧H l=some (.lst xs)
structure RS (K:PySem.W.Frag)(B:Bs)(F H:Hp)(sd:SD)(σ : St):Prop where
 ext:Ext B.F0 B.H0 F H
 len : σ.length=sd.length
 val:∀ {i:Nat} {d:D},sd[i]? = some (some (.val d))→∃ v,σ[i]? = some (some v)∧IsD K F d v
 own:∀ {i:Nat} {p:Bool} {d:D},sd[i]? = some (some (.own p d))→∃ l,σ[i]? = some (some (.ref l))∧B.H0 l=none∧F l=none∧zbI K F H l d∧(p=true→zls H l (B.pa i))
 apart:∀ {i j:Nat} {p q:Bool} {d e:D} {l:Addr},i≠j→sd[i]? = some (some (.own p d))→sd[j]? = some (some (.own q e)) → σ[i]? = some (some (.ref l)) → σ[j]? ≠ some (some (.ref l))
section
variable {K:PySem.W.Frag}{B:Bs}{F H F' H':Hp}{sd:SD}{σ : St}
theorem zls.mono {l:Addr}{o:Option (Addr×List V)}(h:zls H l o)(k:∀ u,H l=some u→H' l=some u):zls H' l o:=let ⟨xs,h1,h2⟩:=h;⟨xs,h1,k _ h2⟩
theorem RS.step (r:RS K B F H sd σ)(e:Ext F H F' H'):RS K B F' H' sd σ where
 ext:=r.ext.trans e
 len:=r.len
 val:=fun h=>let ⟨v,h1,h2⟩:=r.val h;⟨v,h1,IsD.same e.ff _ _ h2⟩
 own:=fun h=>by
  refine zc1e (r.own h) fun l h1 h2 h3 h4 h5 => ?_
  obtain ⟨o,ho⟩:=h4.has
  exact ⟨l,h1,h2,e.new l h3 (by rw [ho];simp),h4.ext e.ff fun o q=>e.hh _ _ q,fun p=>(h5 p).mono fun u q=>e.hh _ _ q⟩
 apart:=r.apart
theorem zaq {α : Type}{l:List α}{i j:Nat}{a : α}(h:i≠j):(l.set i a)[j]? = l[j]? := List.getElem?_set_ne h
theorem zaz {α : Type}{l:List α}{i:Nat}{a b : α}(h:(l.set i a)[i]? = some b):b=a∧i<l.length:=by
 have hi:i<l.length:=by
  have:=(List.getElem?_eq_some_iff.mp h).1
  rwa [List.length_set] at this
 rw [List.getElem?_set_self hi] at h
 exact ⟨(Option.some.inj h).symm,hi⟩
theorem RS.setVal {i:Nat}{d:D}{v:V}(r:RS K B F H sd σ)(h:IsD K F d v):RS K B F H (sd.set i (some (.val d))) (σ.set i (some v)) where
 ext:=r.ext
 len:=by rw [List.length_set,List.length_set,r.len]
 val:=fun {j e} q=>by
  by_cases z:i=j
  ·subst z
   obtain ⟨e1,hi⟩:=zaz q
   cases e1
   exact ⟨v,List.getElem?_set_self (by rw [r.len];exact hi),h⟩
  ·rw [zaq z] at q ⊢
   exact r.val q
 own:=fun {j p e} q=>by
  by_cases z:i=j
  ·subst z
   obtain ⟨e1,_⟩:=zaz q
   cases e1
  ·rw [zaq z] at q ⊢
   exact r.own q
 apart:=fun {j k p1 p2 d1 d2 l} n q1 q2 q3=>by
  have z1:i≠j:=fun z=>by subst z;obtain ⟨e1,_⟩:=zaz q1;cases e1
  have z2:i≠k:=fun z=>by subst z;obtain ⟨e1,_⟩:=zaz q2;cases e1
  rw [zaq z1] at q1 q3
  rw [zaq z2] at q2 ⊢
  exact r.apart n q1 q2 q3
theorem RS.setOwn {i:Nat}{d:D}{l:Addr}(r:RS K B F H sd σ)(h0:B.H0 l=none)(hf:F l=none)(h:zbI K F H l d)(fr:∀ (j:Nat) (p:Bool) (e:D),sd[j]? = some (some (SV.own p e)) → σ[j]? ≠ some (some (.ref l))) :
 RS K B F H (sd.set i (some (.own false d))) (σ.set i (some (.ref l))) where
 ext:=r.ext
 len:=by rw [List.length_set,List.length_set,r.len]
 val:=fun {j e} q=>by
  by_cases z:i=j
  ·subst z
   obtain ⟨e1,_⟩:=zaz q
   cases e1
  ·rw [zaq z] at q ⊢
   exact r.val q
 own:=fun {j p e} q=>by
  by_cases z:i=j
  ·subst z
   obtain ⟨e1,hi⟩:=zaz q
   cases e1
   exact ⟨l,List.getElem?_set_self (by rw [r.len];exact hi),h0,hf,h,fun z=>by cases z⟩
  ·rw [zaq z] at q ⊢
   exact r.own q
 apart:=fun {j k p1 p2 d1 d2 m} n q1 q2 q3=>by
  by_cases z1:i=j
  ·subst z1
   obtain ⟨_,hi⟩:=zaz q1
   rw [zaq n] at q2 ⊢
   rw [List.getElem?_set_self (by rw [r.len];exact hi)] at q3
   cases q3
   exact fr k p2 d2 q2
  ·rw [zaq z1] at q1 q3
   by_cases z2:i=k
   ·subst z2
    obtain ⟨_,hi⟩:=zaz q2
    rw [List.getElem?_set_self (by rw [r.len];exact hi)]
    intro e
    cases e
    exact fr j p1 d1 q1 q3
   ·rw [zaq z2] at q2 ⊢
    exact r.apart n q1 q2 q3
theorem RS.chg {i:Nat}{p:Bool}{d d':D}{l:Addr}{o:HO}(r:RS K B F H sd σ)(hi:sd[i]? = some (some (.own p d)))(hl : σ[i]? = some (some (.ref l)))(h:zbI K F (upd H l o) l d') :
 RS K B F (upd H l o) (sd.set i (some (.own false d'))) σ := by
 refine zc1e (r.own hi) fun l' e1 h0 hf _ _ => ?_
 rw [hl] at e1
 cases e1
 have hil:i<sd.length:=(List.getElem?_eq_some_iff.mp hi).1
 refine ⟨⟨r.ext.ff,zf0 o r.ext.fh hf,zf0 o r.ext.hh h0,r.ext.new⟩,by rw [List.length_set,r.len],fun {j e} q => ?_,fun {j p e} q => ?_,fun {j k p1 p2 d1 d2 m} n q1 q2 q3 => ?_⟩
 ·by_cases z:i=j
  ·subst z
   obtain ⟨e1,_⟩:=zaz q
   cases e1
  ·rw [zaq z] at q
   exact r.val q
 ·by_cases z:i=j
  ·subst z
   obtain ⟨e1,_⟩:=zaz q
   cases e1
   exact ⟨l,hl,h0,hf,h,fun z=>by cases z⟩
  ·rw [zaq z] at q
   refine zc1e (r.own q) fun m m1 m2 m3 m4 m5 => ?_
   have ne:m≠l:=fun e=>r.apart z hi q hl (by rw [← e];exact m1)
   exact ⟨m,m1,m2,m3,m4.ext (.refl _) fun u q'=>by rw [zah ne];exact q',fun p=>(m5 p).mono fun u q'=>by rw [zah ne];exact q'⟩
 ·have g:∀ {j:Nat} {p:Bool} {e:D},(sd.set i (some (.own false d')))[j]? = some (some (.own p e))→∃ p' e',sd[j]? = some (some (.own p' e')):=fun {j p e} q=>by
   by_cases z:i=j
   ·subst z;exact ⟨_,d,hi⟩
   ·rw [zaq z] at q;exact ⟨p,e,q⟩
  refine zc2a (g q1) fun _ _ p1 => ?_
  refine zc2a (g q2) fun _ _ p2 => ?_
  exact r.apart n p1 p2 q3
theorem RS.frz1 {i:Nat}{p:Bool}{d:D}(r:RS K B F H sd σ)(hi:sd[i]? = some (some (.own p d))):∃ F',Same F F'∧RS K B F' H (sd.set i (some (.val d))) σ := by
 refine zc1e (r.own hi) fun l hl h0 hf ho _ => ?_
 obtain ⟨o,e⟩:=ho.has
 have hil:i<sd.length:=(List.getElem?_eq_some_iff.mp hi).1
 have sF:Same F (upd F l o):=zaX hf o
 refine ⟨upd F l o,sF,⟨r.ext.ff.trans sF,fun b u q => ?_,r.ext.hh,fun a q1 q2 => ?_⟩,by rw [List.length_set,r.len],fun {j x} q => ?_,fun {j p x} q => ?_,fun {j k p1 p2 d1 d2 m} n q1 q2 q3 => ?_⟩
 ·by_cases z:b=l
  ·subst z;rw [zai] at q;cases q;exact e
  ·rw [zah z] at q;exact r.ext.fh _ _ q
 ·have z:a≠l:=fun z=>q2 (by rw [z];exact h0)
  rw [zah z]
  exact r.ext.new a q1 q2
 ·by_cases z:i=j
  ·subst z
   obtain ⟨e1,_⟩:=zaz q
   cases e1
   exact ⟨_,hl,ho.frz e hf⟩
  ·rw [zaq z] at q
   refine zc1b (r.val q) fun v v1 v2 => ?_
   exact ⟨v,v1,IsD.same sF _ _ v2⟩
 ·by_cases z:i=j
  ·subst z
   obtain ⟨e1,_⟩:=zaz q
   cases e1
  ·rw [zaq z] at q
   refine zc1e (r.own q) fun m m1 m2 m3 m4 m5 => ?_
   have ne:m≠l:=fun e=>r.apart z hi q hl (by rw [← e];exact m1)
   exact ⟨m,m1,m2,by rw [zah ne];exact m3,m4.ext sF fun u q'=>q',m5⟩
 ·have z1:i≠j:=fun z=>by subst z;obtain ⟨e1,_⟩:=zaz q1;cases e1
  have z2:i≠k:=fun z=>by subst z;obtain ⟨e1,_⟩:=zaz q2;cases e1
  rw [zaq z1] at q1
  rw [zaq z2] at q2
  exact r.apart n q1 q2 q3
noncomputable def frzD:List Nat→SD→SD
 | [],sd=>sd
 | i::is,sd=>frzD is (match sd[i]? with
  | some (some (.own _ d))=>sd.set i (some (.val d))
  | _=>sd)
theorem RS.frz:∀ (is:List Nat) {F:Hp} {sd:SD},RS K B F H sd σ → ∃ F',Same F F'∧RS K B F' H (frzD is sd) σ
 | [],F,sd,r=>⟨F,.refl _,r⟩
 | i::is,F,sd,r=>by
  unfold frzD
  split
  ·rename_i p d h
   refine zc1b (r.frz1 h) fun F1 s1 r1 => ?_
   refine zc1b (RS.frz is r1) fun F2 s2 r2 => ?_
   exact ⟨F2,s1.trans s2,r2⟩
  ·exact RS.frz is r
end
end L2.DL
namespace L2.DL
open PySem PySem.Spec PyProof.Rows
def ExcIs (K:PySem.W.Frag)(F H:Hp)(c:Str)(fs:List D)(cv:Value)(a:Option Addr):Prop :=
 ∃ C,cv=.ref C∧PySem.W.nsIn K mainGlobals c=some (some (.ref C))∧(fs=[]∨∃ p n d x,fs=[d]∧a=some p∧H p=some (.xd [(n,x)])∧IsD K F d x)
def XW (K:PySem.W.Frag)(E:XK)(F H:Hp)(c:Str)(fs:List D):Prop:=∀ cv a F' H',Ext F H F' H'→ExcIs K F' H' c fs cv a→E cv a H'
theorem XW.ext {K:PySem.W.Frag}{E:XK}{F H F' H':Hp}{c:Str}{fs:List D}(h:XW K E F H c fs)(e:Ext F H F' H'):XW K E F' H' c fs:=fun cv a F2 H2 e2 q=>h cv a F2 H2 (e.trans e2) q
abbrev FE:=SD→Res D
abbrev FT:=SD→Res Bool
abbrev FA:=SD→Res (List D)
def OkD (K:PySem.W.Frag)(F H:Hp)(Q:VK)(d:D):Prop:=∀ v F' H',Ext F H F' H'→IsD K F' d v→Q v H'
noncomputable def OkB (F H:Hp)(Q:Bool→Hp→Prop)(b:Bool):Prop:=∀ F' H',Ext F H F' H'→Q b H'
def OkA (K:PySem.W.Frag)(F H:Hp)(Q:List V→Hp→Prop)(ds:List D):Prop:=∀ vs F' H',Ext F H F' H'→IsDs K F' ds vs→Q vs H'
def OkN (K:PySem.W.Frag)(F H:Hp)(Q:VK)(d:D):Prop:=∀ l F' H',Ext F H F' H'→H l=none→F' l=none→zbI K F' H' l d→Q (.ref l) H'
def tD (K:PySem.W.Frag)(E:XK)(f:FE):TE:=fun σ H Q => ∃ B F sd,RS K B F H sd σ ∧ (f sd).need (OkD K F H Q) (XW K E F H)
def tDT (K:PySem.W.Frag)(E:XK)(f:FT):TT:=fun σ H Q => ∃ B F sd,RS K B F H sd σ ∧ (f sd).need (OkB F H Q) (XW K E F H)
def tDA (K:PySem.W.Frag)(E:XK)(f:FA):TA:=fun σ H Q => ∃ B F sd,RS K B F H sd σ ∧ (f sd).need (OkA K F H Q) (XW K E F H)
def tDN (K:PySem.W.Frag)(E:XK)(f:FE):TE:=fun σ H Q => ∃ B F sd,RS K B F H sd σ ∧ (f sd).need (OkN K F H Q) (XW K E F H)
abbrev QE (X:Cx)(E:XK)(e:Expr)(f:FE):Prop:=PE X e (tD X.K E f)
abbrev QT (X:Cx)(E:XK)(e:Expr)(f:FT):Prop:=PT X e (tDT X.K E f)
abbrev QW (X:Cx)(E:XK)(e:Expr)(f:FT):Prop:=PW X e (tDT X.K E f)
abbrev QA (X:Cx)(E:XK)(es:List Expr)(f:FA):Prop:=PA X es (tDA X.K E f)
abbrev QN (X:Cx)(E:XK)(e:Expr)(f:FE):Prop:=PE X e (tDN X.K E f)
theorem PE.weak {X:Cx}{e:Expr}{t t':TE}(h:PE X e t)(w:∀ σ H Q,t' σ H Q→t σ H Q):PE X e t':=fun pins s σ H Q I q=>h pins s σ H Q I (w _ _ _ q)
theorem PT.weak {X:Cx}{e:Expr}{t t':TT}(h:PT X e t)(w:∀ σ H Q,t' σ H Q→t σ H Q):PT X e t':=fun pins s σ H Q I q=>h pins s σ H Q I (w _ _ _ q)
theorem PW.weak {X:Cx}{e:Expr}{t t':TT}(h:PW X e t)(w:∀ σ H Q,t' σ H Q→t σ H Q):PW X e t':=fun whole pins s σ H Q I q=>h whole pins s σ H Q I (w _ _ _ q)
theorem PA.weak {X:Cx}{e:List Expr}{t t':TA}(h:PA X e t)(w:∀ σ H Q,t' σ H Q→t σ H Q):PA X e t':=fun pos pins s σ H Q I q=>h pos pins s σ H Q I (w _ _ _ q)
theorem PS.weak {X:Cx}{e:Stmt}{t t':TS}(h:PS X e t)(w:∀ D σ H,t' D σ H→t D σ H):PS X e t':=fun pins s σ H D I q=>h pins s σ H D I (w _ _ _ q)
theorem PSs.weak {X:Cx}{e:List Stmt}{t t':TS}(h:PSs X e t)(w:∀ D σ H,t' D σ H→t D σ H):PSs X e t':=fun pins s σ H D I q=>h pins s σ H D I (w _ _ _ q)
theorem PI.weak {X:Cx}{tg e:Expr}{t t':TI}(h:PI X tg e t)(w:∀ σ H R,t' σ H R→t σ H R):PI X tg e t':=fun pins s σ H R I q=>h pins s σ H R I (w _ _ _ q)
section
variable {K:PySem.W.Frag}{E:XK}{F H F' H':Hp}
theorem OkD.ext {Q:VK}{d:D}(h:OkD K F H Q d)(e:Ext F H F' H'):OkD K F' H' Q d:=fun v F2 H2 e2 q=>h v F2 H2 (e.trans e2) q
theorem OkB.ext {Q:Bool→Hp→Prop}{b:Bool}(h:OkB F H Q b)(e:Ext F H F' H'):OkB F' H' Q b:=fun F2 H2 e2=>h F2 H2 (e.trans e2)
theorem OkN.ext {Q:VK}{d:D}(h:OkN K F H Q d)(e:Ext F H F' H'):OkN K F' H' Q d:=fun l F2 H2 e2 q=>h l F2 H2 (e.trans e2) (zak e.hh q)
theorem zpL {Q:VK}{r:Res D}(h:r.need (OkD K F H Q) (XW K E F H))(e:Ext F H F' H'):r.need (OkD K F' H' Q) (XW K E F' H'):=h.mono (fun _ q=>q.ext e) fun _ _ q=>q.ext e
theorem zoT {Q:Bool→Hp→Prop}{r:Res Bool}(h:r.need (OkB F H Q) (XW K E F H))(e:Ext F H F' H'):r.need (OkB F' H' Q) (XW K E F' H'):=h.mono (fun _ q=>q.ext e) fun _ _ q=>q.ext e
theorem needN {Q:VK}{r:Res D}(h:r.need (OkN K F H Q) (XW K E F H))(e:Ext F H F' H'):r.need (OkN K F' H' Q) (XW K E F' H'):=h.mono (fun _ q=>q.ext e) fun _ _ q=>q.ext e
theorem OkD.new {Q:VK}{d:D}(h:OkD K F H Q d):OkN K F H Q d:=fun l F' H' e n n' o=>by
 obtain ⟨u,hu⟩:=o.has
 refine h (.ref l) (upd F' l u) H' ⟨e.ff.trans (zaX n' u),fun b v q => ?_,e.hh,fun a q1 q2 => ?_⟩ (o.frz hu n')
 ·by_cases z:b=l
  ·subst z;rw [zai] at q;cases q;exact hu
  ·rw [zah z] at q;exact e.fh _ _ q
 ·have z:a≠l:=fun z=>q2 (by rw [z];exact n)
  rw [zah z];exact e.new a q1 q2
end
section
variable {X:Cx}{E:XK}
theorem QN.qe {e:Expr}{f:FE}(h:QN X E e f):QE X E e f:=PE.weak h (by rintro σ H Q ⟨B,F,sd,r,n⟩;exact ⟨B,F,sd,r,n.mono (fun _ q=>q.new) fun _ _ q=>q⟩)
noncomputable def dVar (i:Nat):FE:=fun sd=>match sd[i]? with
 | some (some (.val d))=>.ok d
 | _=>.no
noncomputable def dC (d:D):FE:=fun _=>.ok d
theorem zab {i:Nat}{e:Expr}(h:PE X e (tVar i)):QE X E e (dVar i):=PE.weak h fun σ H Q zh=>by
 refine zc3b zh fun B F sd r n => ?_
 unfold dVar at n
 split at n
 ·rename_i d q
  refine zc1b (r.val q) fun v h1 h2 => ?_
  exact ⟨v,h1,n v F H (.refl r.ext.fh) h2⟩
 ·exact n.elim
theorem zeQ {e:Expr}{v:V}{d:D}(h:PE X e (tC v))(i:∀ F,IsD X.K F d v):QE X E e (dC d):=PE.weak h (by rintro σ H Q ⟨B,F,sd,r,n⟩;exact n v F H (.refl r.ext.fh) (i F))
theorem zaf {i j pos}:QE X E (.Constant (.int i) j pos) (dC (.int i)):=zeQ zqh fun _=>IsD.int_iff.mpr rfl
theorem zen {b j pos}:QE X E (.Constant (.bool b) j pos) (dC (.bl b)):=zeQ pe_bl fun _=>IsD.bl_iff.mpr rfl
theorem zeH {j pos}:QE X E (.Constant .none j pos) (dC .non):=zeQ zpX fun _=>IsD.non_iff.mpr rfl
noncomputable def Res.ofO {α : Type}:Option α → Res α
 | some a=>.ok a
 | none=>.no
@[simp] theorem Res.ofO_some {α : Type}(a : α):Res.ofO (some a)=.ok a:=rfl
@[simp] theorem Res.ofO_none {α : Type}:Res.ofO (none:Option α)=.no:=rfl
theorem Res.need_ofO {α : Type}{o:Option α}{p : α → Prop}{q:Str→List D→Prop}(h:(Res.ofO o).need p q):∃ a,o=some a∧p a:=by
 cases o with
 | none=>exact h.elim
 | some a=>exact ⟨a,rfl,h⟩
def dOp (g:D→D→Option D)(fa fb:FE):FE:=fun sd=>(fa sd).bind fun x=>(fb sd).bind fun y=>.ofO (g x y)
def dUn (g:D→Option D)(fa:FE):FE:=fun sd=>(fa sd).bind fun x=>.ofO (g x)
def rD2 (K:PySem.W.Frag)(g:D→D→Option D):R2:=fun v w H Q => ∃ F d e z,Same F H∧IsD K F d v∧IsD K F e w∧g d e=some z∧OkD K F H Q z
def rDA (K:PySem.W.Frag)(g:List D→Option D):List V→Hp→VK→Prop:=fun vs H Q => ∃ F ds z,Same F H∧IsDs K F ds vs∧g ds=some z∧OkD K F H Q z
def rDAN (K:PySem.W.Frag)(g:List D→Option D):List V→Hp→VK→Prop:=fun vs H Q => ∃ F ds z,Same F H∧IsDs K F ds vs∧g ds=some z∧OkN K F H Q z
theorem zkS {K:PySem.W.Frag}{g:D→D→Option D}{fa fb:FE}{σ : St}{H:Hp}{Q:VK}(h:tD K E (dOp g fa fb) σ H Q):tOp (rD2 K g) (tD K E fa) (tD K E fb) σ H Q:=by
 refine zc3b h fun B F sd r n => ?_
 refine ⟨B,F,sd,r,(Res.need_bind n).mono (fun x n1 v F1 H1 e1 i1 => ?_) fun _ _ q=>q⟩
 refine ⟨B,F1,sd,r.step e1,(Res.need_bind n1).mono (fun y n2 w F2 H2 e2 i2 => ?_) fun _ _ q=>q.ext e1⟩
 refine zc1b (Res.need_ofO n2) fun z hz q => ?_
 exact ⟨F2,x,y,z,e2.fh,IsD.same e2.ff _ _ i1,i2,hz,q.ext (e1.trans e2)⟩
abbrev OpD (X:Cx)(f:Value→Value→Sem Value)(g:D→D→Option D):Prop:=OpR X f (rD2 X.K g)
theorem OpR.weak {f:Value→Value→Sem Value}{r r':R2}(h:OpR X f r)(w:∀ x y H Q,r' x y H Q→r x y H Q):OpR X f r':=fun pins s σ H x y v u Q I rx ry q=>h pins s σ H x y v u Q I rx ry (w _ _ _ _ q)
theorem za1.weak {f:Value}{r r':List V→Hp→VK→Prop}(h:za1 X f r)(w:∀ x H Q,r' x H Q→r x H Q):za1 X f r':=fun pins s σ H x v Q I rx q=>h pins s σ H x v Q I rx (w _ _ _ q)
theorem IxR.weak {r r':R2}(h:IxR X r)(w:∀ x y H Q,r' x y H Q→r x y H Q):IxR X r':=fun value slice pins s σ H x y v u Q I rx ry q e=>h value slice pins s σ H x y v u Q I rx ry (w _ _ _ _ q) e
variable {a b:Expr}{fa fb:FE}{pos:Pos}
theorem q_op {op:Operator}{g:D→D→Option D}(ho:OpD X (binaryOp op) g)(ha:QE X E a fa)(hb:QE X E b fb):QE X E (.BinOp a op b pos) (dOp g fa fb):=PE.weak (pe_op ho ha hb) fun _ _ _ h=>zkS h
theorem zot {op:CmpOp}{g:D→D→Option D}(ho:OpD X (compareOp op) g)(ha:QE X E a fa)(hb:QE X E b fb)(hm:behindInMarks op b=false):QE X E (.Compare a [op] [b] pos) (dOp g fa fb):=PE.weak (zkX ho ha hb hm) fun _ _ _ h=>zkS h
def zar (fa:FE):FT:=fun sd=>(fa sd).bind fun x=>match x with
 | .bl b=>.ok b
 | _=>.no
theorem zbq {K:PySem.W.Frag}{σ : St}{H:Hp}{Q:Bool→Hp→Prop}(h:tDT K E (zar fa) σ H Q):tD K E fa σ H (fun x H' => ∃ k,x=.bl k∧Q k H'):=by
 refine zc3b h fun B F sd r n => ?_
 refine ⟨B,F,sd,r,(Res.need_bind n).mono (fun x n1 v F1 H1 e1 i1 => ?_) fun _ _ q=>q⟩
 cases x with
 | bl k=>exact ⟨k,IsD.bl_iff.mp i1,n1 F1 H1 e1⟩
 | _=>exact n1.elim
theorem zb6 {op:CmpOp}{g:D→D→Option D}(ho:OpD X (compareOp op) g)(ha:QE X E a fa)(hb:QE X E b fb)(hm:behindInMarks op b=false):QT X E (.Compare a [op] [b] pos) (zar (dOp g fa fb)) :=
 PT.weak (zgP ho ha hb hm) fun σ H Q h=>by
  have h:=zbq h
  exact zkS h
theorem zdd (ha:QE X E a fa)(he:autoParam (∀ whole,isTrue a X.env whole=(do let v ← whole;standAt a.pos;holding [v] (truthy v))) zaw._auto_1):QT X E a (zar fa):=PT.weak (zoN ha he) fun σ H Q q=>zbq q
def zce (f:FT):FT:=fun sd=>(f sd).bind fun b=>.ok (!b)
def zof (f g:FT):FT:=fun sd=>(f sd).bind fun b=>if b then g sd else .ok false
def dOrT (f g:FT):FT:=fun sd=>(f sd).bind fun b=>if b then .ok true else g sd
variable {f g:FT}{rest:List Expr}
theorem zda (ha:QT X E a f):QT X E (.UnaryOp .Not a pos) (zce f):=PT.weak (zpc ha) fun σ H Q ⟨B,F,sd,r,n⟩ =>
 ⟨B,F,sd,r,(Res.need_bind n).mono (fun _ q=>q) fun _ _ q=>q⟩
theorem zoF (ha:QT X E a f):QW X E (.BoolOp .And [a] pos) f:=zny ha
theorem ze7 (ha:QT X E a f):QW X E (.BoolOp .Or [a] pos) f:=zoX ha
theorem zpH (ha:QT X E a f)(hb:QW X E (.BoolOp .And (b::rest) pos) g):QW X E (.BoolOp .And (a::b::rest) pos) (zof f g):=PW.weak (zpC ha hb) fun σ H Q zh=>by
 refine zc3b zh fun B F sd r n => ?_
 refine ⟨B,F,sd,r,(Res.need_bind n).mono (fun k n1 F1 H1 e1 => ?_) fun _ _ q=>q⟩
 cases k with
 | true=>exact ⟨B,F1,sd,r.step e1,zoT n1 e1⟩
 | false=>exact n1 F1 H1 e1
theorem zgQ (ha:QT X E a f)(hb:QW X E (.BoolOp .Or (b::rest) pos) g):QW X E (.BoolOp .Or (a::b::rest) pos) (dOrT f g):=PW.weak (pw_or ha hb) fun σ H Q zh=>by
 refine zc3b zh fun B F sd r n => ?_
 refine ⟨B,F,sd,r,(Res.need_bind n).mono (fun k n1 F1 H1 e1 => ?_) fun _ _ q=>q⟩
 cases k with
 | true=>exact n1 F1 H1 e1
 | false=>exact ⟨B,F1,sd,r.step e1,zoT n1 e1⟩
theorem QW.qt {e:Expr}(h:QW X E e f):QT X E e f:=PW.pt h
def ziF (fa fb:FE):FE:=fun sd=>(zar fa sd).bind fun b=>if b then fb sd else .ok (.bl false)
def znp (fa:FE):FE:=fun sd=>(zar fa sd).bind fun b=>.ok (.bl !b)
theorem znY {op}(h:QE X E a fa):QE X E (.BoolOp op [a] pos) fa:=zoU h
theorem zlk (ha:QE X E a fa)(hb:QE X E (.BoolOp .And (b::rest) pos) fb):QE X E (.BoolOp .And (a::b::rest) pos) (ziF fa fb):=PE.weak (zpn ha hb) fun σ H Q zh=>by
 obtain ⟨B,F,sd,r,n⟩:=zh
 refine zbq (K:=X.K) (E:=E) (Q:=fun c H1=>if c=true then tD X.K E fb σ H1 Q else Q (.bl false) H1) ⟨B,F,sd,r,(Res.need_bind n).mono (fun k n1 F1 H1 e1 => ?_) fun _ _ q=>q⟩
 cases k with
 | true=>exact ⟨B,F1,sd,r.step e1,zpL n1 e1⟩
 | false=>exact n1 _ F1 H1 e1 (IsD.bl_iff.mpr rfl)
theorem q_not (ha:QE X E a fa):QE X E (.UnaryOp .Not a pos) (znp fa):=PE.weak (zps ha) fun σ H Q zh=>by
 refine zc3b zh fun B F sd r n => ?_
 refine zbq (K:=X.K) (E:=E) (Q:=fun c H1=>Q (.bl (!c)) H1) ⟨B,F,sd,r,(Res.need_bind n).mono (fun k n1 F1 H1 e1 => ?_) fun _ _ q=>q⟩
 exact n1 _ F1 H1 e1 (IsD.bl_iff.mpr rfl)
noncomputable def dNil:FA:=fun _=>.ok []
def zac (fa:FE)(fr:FA):FA:=fun sd=>(fa sd).bind fun x=>(fr sd).bind fun xs=>.ok (x::xs)
theorem zad:QA X E [] dNil:=PA.weak zjC (by rintro σ H Q ⟨B,F,sd,r,n⟩;exact n [] F H (.refl r.ext.fh) .nil)
theorem zaa {e:Expr}{es:List Expr}{fe:FE}{fr:FA}(ha:QE X E e fe)(hr:QA X E es fr)(hs:autoParam (starEach (e::es) X.env=(false,eval e X.env)::starEach es X.env) zau._auto_1):QA X E (e::es) (zac fe fr) :=
 PA.weak (zgY ha hr hs) fun σ H Q zh=>by
  refine zc3b zh fun B F sd r n => ?_
  refine ⟨B,F,sd,r,(Res.need_bind n).mono (fun x n1 v F1 H1 e1 i1 => ?_) fun _ _ q=>q⟩
  refine ⟨B,F1,sd,r.step e1,(Res.need_bind n1).mono (fun xs n2 vs F2 H2 e2 i2 => ?_) fun _ _ q=>q.ext e1⟩
  exact n2 _ F2 H2 (e1.trans e2) (.mk (IsD.same e2.ff _ _ i1) i2)
def dLst (fr:FA):FE:=fun sd=>(fr sd).bind fun xs=>if xs.length≤1000 then .ok (.lst xs) else .no
def dTup (fr:FA):FE:=fun sd=>(fr sd).bind fun xs=>if xs.length≤1000 then .ok (.tup xs) else .no
theorem zks {es:List Expr}{fr:FA}(h:QA X E es fr):QN X E (.List es pos) (dLst fr):=PE.weak (zmO h) fun σ H Q zh=>by
 refine zc3b zh fun B F sd r n => ?_
 refine ⟨B,F,sd,r,(Res.need_bind n).mono (fun xs n1 vs F1 H1 e1 i1 => ?_) fun _ _ q=>q⟩
 split at n1
 ·rename_i hl
  have hz:=i1.length
  refine ⟨zgt (by omega),fun p hp => ?_⟩
  exact n1 p F1 (upd H1 p (.lst vs)) (e1.trans (.keep e1.fh hp _)) (zak e1.hh hp) (zak e1.fh hp) ⟨vs,zai,i1⟩
 ·exact n1.elim
theorem zoO {es:List Expr}{x1}{fr:FA}(h:QA X E es fr):QE X E (.Tuple es x1 pos) (dTup fr):=PE.weak (zpd h) fun σ H Q zh=>by
 refine zc3b zh fun B F sd r n => ?_
 refine ⟨B,F,sd,r,(Res.need_bind n).mono (fun xs n1 vs F1 H1 e1 i1 => ?_) fun _ _ q=>q⟩
 split at n1
 ·rename_i hl
  have hz:=i1.length
  refine ⟨zgt (by omega),fun p hp => ?_⟩
  have ea:=Ext.alloc e1.fh hp (.tup vs)
  exact n1 _ _ _ (e1.trans ea) (IsD.tup_iff.mpr ⟨p,vs,rfl,.of zai,IsDs.same ea.ff _ _ i1⟩)
 ·exact n1.elim
def SpD (K:PySem.W.Frag)(Fn:List D→Res D):Sp:=fun vs H Q _ => ∃ F ds,Same F H∧IsDs K F ds vs∧(Fn ds).need (OkD K F H Q) (XW K E0 F H)
def SpN (K:PySem.W.Frag)(Fn:List D→Res D):Sp:=fun vs H Q _ => ∃ F ds,Same F H∧IsDs K F ds vs∧(Fn ds).need (OkN K F H Q) (XW K E0 F H)
def zax (Fn:List D→Res D)(fr:FA):FE:=fun sd=>(fr sd).bind Fn
theorem q_fn {name:Str}{k:Nat}{ps:List Str}{Fn:List D→Res D}{p:Pos}{e:Expr}{es:List Expr}{fr:FA}(c:za6 X.prog X.w X.K X.mg X.base name k ps (SpD X.K Fn))(hr:Room k X.A)(hg:Gl X name)(ha:QA X E0 (e::es) fr)
 (hdb:autoParam ((name == ("__debug__" : Str))=false) zav._auto_1) (he:starEach (e::es) X.env=(false,eval e X.env)::starEach es X.env:=by rfl) (hpl:(backTo pos (starEach es X.env)).any (·.1)=false:=by rfl) :
 QE X E0 (.Call (.Name name p) (e::es) [] pos) (zax Fn fr):=PE.weak (zlH c hr hg ha hdb he hpl) fun σ H Q zh=>by
 refine zc3b zh fun B F sd r n => ?_
 refine ⟨B,F,sd,r,(Res.need_bind n).mono (fun xs n1 vs F1 H1 e1 i1 => ?_) fun _ _ q=>q⟩
 show SpD X.K Fn (vs++[]) H1 Q E0
 rw [List.append_nil]
 exact ⟨F1,xs,e1.fh,i1,zpL n1 e1⟩
theorem zlq {name:Str}{k:Nat}{ps:List Str}{Fn:List D→Res D}{p:Pos}{e:Expr}{es:List Expr}{fr:FA}(c:za6 X.prog X.w X.K X.mg X.base name k ps (SpN X.K Fn))(hr:Room k X.A)(hg:Gl X name)(ha:QA X E0 (e::es) fr)
 (hdb:autoParam ((name == ("__debug__" : Str))=false) zav._auto_1) (he:starEach (e::es) X.env=(false,eval e X.env)::starEach es X.env:=by rfl) (hpl:(backTo pos (starEach es X.env)).any (·.1)=false:=by rfl) :
 QN X E0 (.Call (.Name name p) (e::es) [] pos) (zax Fn fr):=PE.weak (zlH c hr hg ha hdb he hpl) fun σ H Q zh=>by
 refine zc3b zh fun B F sd r n => ?_
 refine ⟨B,F,sd,r,(Res.need_bind n).mono (fun xs n1 vs F1 H1 e1 i1 => ?_) fun _ _ q=>q⟩
 show SpN X.K Fn (vs++[]) H1 Q E0
 rw [List.append_nil]
 exact ⟨F1,xs,e1.fh,i1,needN n1 e1⟩
def dBlt (g:List D→Option D)(fr:FA):FE:=fun sd=>(fr sd).bind fun xs=>.ofO (g xs)
theorem za9 {id:String}{x:Str}{p:Pos}{e:Expr}{es:List Expr}{g:List D→Option D}{fr:FA}(hc:za1 X (.builtin id) (rDA X.K g))(hg:Gl X x)(hm:X.mg x=none)(hv:bootBuiltins x=some (.builtin id))(ha:QA X E (e::es) fr)(hn:autoParam (x ≠ "__name__") zav._auto_1)(hdb:autoParam ((x == ("__debug__" : Str))=false) zav._auto_1)
 (he:autoParam (starEach (e::es) X.env=(false,eval e X.env)::starEach es X.env) zau._auto_1) (hpl:autoParam ((backTo pos (starEach es X.env)).any (·.1)=false) zau._auto_1):QE X E (.Call (.Name x p) (e::es) [] pos) (dBlt g fr) :=
 PE.weak (zfx hc hg hm hv ha hn hdb he hpl) fun σ H Q zh=>by
  refine zc3b zh fun B F sd r n => ?_
  refine ⟨B,F,sd,r,(Res.need_bind n).mono (fun xs n1 vs F1 H1 e1 i1 => ?_) fun _ _ q=>q⟩
  refine zc1b (Res.need_ofO n1) fun z hz q => ?_
  exact ⟨F1,xs,z,e1.fh,i1,hz,q.ext e1⟩
theorem zlQ {id:String}{x:Str}{p:Pos}{e:Expr}{es:List Expr}{g:List D→Option D}{fr:FA}(hc:za1 X (.builtin id) (rDAN X.K g))(hg:Gl X x)(hm:X.mg x=none)(hv:bootBuiltins x=some (.builtin id))(ha:QA X E (e::es) fr)(hn:autoParam (x ≠ "__name__") zav._auto_1)(hdb:autoParam ((x == ("__debug__" : Str))=false) zav._auto_1)
 (he:autoParam (starEach (e::es) X.env=(false,eval e X.env)::starEach es X.env) zau._auto_1) (hpl:autoParam ((backTo pos (starEach es X.env)).any (·.1)=false) zau._auto_1):QN X E (.Call (.Name x p) (e::es) [] pos) (dBlt g fr) :=
 PE.weak (zfx hc hg hm hv ha hn hdb he hpl) fun σ H Q zh=>by
  refine zc3b zh fun B F sd r n => ?_
  refine ⟨B,F,sd,r,(Res.need_bind n).mono (fun xs n1 vs F1 H1 e1 i1 => ?_) fun _ _ q=>q⟩
  refine zc1b (Res.need_ofO n1) fun z hz q => ?_
  exact ⟨F1,xs,z,e1.fh,i1,hz,q.ext e1⟩
theorem zlZ {T:String}{x:Str}{p:Pos}{e:Expr}{es:List Expr}{g:List D→Option D}{fr:FA}(hc:za1 X (.type T) (rDA X.K g))(hg:Gl X x)(hm:X.mg x=none)(hv:bootBuiltins x=some (.type T))(ha:QA X E (e::es) fr)(hn:autoParam (x ≠ "__name__") zav._auto_1)(hdb:autoParam ((x == ("__debug__" : Str))=false) zav._auto_1)
 (he:autoParam (starEach (e::es) X.env=(false,eval e X.env)::starEach es X.env) zau._auto_1) (hpl:autoParam ((backTo pos (starEach es X.env)).any (·.1)=false) zau._auto_1):QE X E (.Call (.Name x p) (e::es) [] pos) (dBlt g fr) :=
 PE.weak (zdL hc hg hm hv ha hn hdb he hpl) fun σ H Q zh=>by
  refine zc3b zh fun B F sd r n => ?_
  refine ⟨B,F,sd,r,(Res.need_bind n).mono (fun xs n1 vs F1 H1 e1 i1 => ?_) fun _ _ q=>q⟩
  refine zc1b (Res.need_ofO n1) fun z hz q => ?_
  exact ⟨F1,xs,z,e1.fh,i1,hz,q.ext e1⟩
theorem zb1 {T:String}{x:Str}{p:Pos}{e:Expr}{es:List Expr}{g:List D→Option D}{fr:FA}(hc:za1 X (.type T) (rDAN X.K g))(hg:Gl X x)(hm:X.mg x=none)(hv:bootBuiltins x=some (.type T))(ha:QA X E (e::es) fr)(hn:autoParam (x ≠ "__name__") zav._auto_1)(hdb:autoParam ((x == ("__debug__" : Str))=false) zav._auto_1)
 (he:autoParam (starEach (e::es) X.env=(false,eval e X.env)::starEach es X.env) zau._auto_1) (hpl:autoParam ((backTo pos (starEach es X.env)).any (·.1)=false) zau._auto_1):QN X E (.Call (.Name x p) (e::es) [] pos) (dBlt g fr) :=
 PE.weak (zdL hc hg hm hv ha hn hdb he hpl) fun σ H Q zh=>by
  refine zc3b zh fun B F sd r n => ?_
  refine ⟨B,F,sd,r,(Res.need_bind n).mono (fun xs n1 vs F1 H1 e1 i1 => ?_) fun _ _ q=>q⟩
  refine zc1b (Res.need_ofO n1) fun z hz q => ?_
  exact ⟨F1,xs,z,e1.fh,i1,hz,q.ext e1⟩
noncomputable def zb4:D→Bool
 | .tup _=>false
 | .lst _=>false
 | .dct _ _=>false
 | .ins _ _ _=>false
 | .exc _=>false
 | .dcf _ _=>false
 | .scr _=>false
 | _=>true
theorem IsD.scal {K:PySem.W.Frag}{F F':Hp}{d:D}{v:V}(s:zb4 d=true)(h:IsD K F d v):IsD K F' d v:=by
 cases d with
 | tup _=>exact zqb s
 | lst _=>exact zqb s
 | dct _ _=>exact zqb s
 | ins _ _ _=>exact zqb s
 | exc _=>exact zqb s
 | dcf _ _=>exact zqb s
 | scr _=>exact zqb s
 | _=>exact h
noncomputable def Res.bare {α : Type}(r:Res α):Res α := match r with
 | .ok a=>.ok a
 | .ex c []=>.ex c []
 | _=>.no
theorem Res.need_bare {α : Type}{K:PySem.W.Frag}{F H F1:Hp}{r:Res α}{p : α → Prop}(sF:Same F H)(h:r.bare.need p (XW K E0 F H)):r.need p (XW K E0 F1 H):=by
 cases r with
 | ok a=>exact h
 | no=>exact h
 | ex c fs =>
  cases fs with
  | nil=>exact fun cv a F2 H2 e2 ⟨C,h1,h2,_⟩=>h cv none F H2 (.grow sF e2.hh) ⟨C,h1,h2,.inl rfl⟩
  | cons d r=>exact h.elim
def dTmp (is:List Nat)(f:FE):FE:=fun sd=>(f (frzD is sd)).bare.bind fun d=>if zb4 d then .ok d else .no
theorem zqq {e:Expr}{fe:FE}(is:List Nat)(h:QE X E0 e fe):QE X E0 e (dTmp is fe):=PE.weak h fun σ H Q zh=>by
 refine zc3b zh fun B F sd r n => ?_
 refine zc1b (r.frz is) fun F1 s1 r1 => ?_
 refine ⟨B,F1,_,r1,(Res.need_bare r.ext.fh (Res.need_bind n)).mono (fun d n1 v F2 H2 e2 i2 => ?_) fun c fs q=>q⟩
 split at n1
 ·rename_i hs
  exact n1 v F H2 (.grow r.ext.fh e2.hh) (i2.scal hs)
 ·exact n1.elim
end
end L2.DL
namespace L2.DL
open PySem PySem.Spec PyProof.Rows
inductive Out where
 | next (sd:SD)|ret (d:D)|brk (sd:SD)|cont (sd:SD)
def OkM (K:PySem.W.Frag)(F H:Hp)(Q:VK)(d:D):Prop:=if zb4 d=true then OkD K F H Q d else OkN K F H Q d
def zmo (K:PySem.W.Frag)(m:Option Bool)(B:Bs)(Q:VK)(d:D):Prop:=match m with
 | some true=>OkN K B.F0 B.H0 Q d
 | some false=>OkD K B.F0 B.H0 Q d
 | none=>OkM K B.F0 B.H0 Q d
def zeR (K:PySem.W.Frag)(m:Option Bool)(B:Bs)(F:Hp)(T:Ends):Out→Prop
 | .next sd => ∀ σ F' H',Same F F'→RS K B F' H' sd σ → T.nx σ H'
 | .brk sd => ∀ σ F' H',Same F F'→RS K B F' H' sd σ → T.bk σ H'
 | .cont sd => ∀ σ F' H',Same F F'→RS K B F' H' sd σ → T.ct σ H'
 | .ret d=>zmo K m B T.rt d
abbrev FS:=SD→Res Out
def tDS (K:PySem.W.Frag)(E:XK)(m:Option Bool)(g:FS):TS:=fun T σ H => ∃ B F sd,RS K B F H sd σ ∧ (g sd).need (zeR K m B F T) (XW K E B.F0 B.H0)
abbrev QS (X:Cx)(E:XK)(m:Option Bool)(st:Stmt)(g:FS):Prop:=PS X st (tDS X.K E m g)
abbrev QSs (X:Cx)(E:XK)(m:Option Bool)(st:List Stmt)(g:FS):Prop:=PSs X st (tDS X.K E m g)
section
variable {K:PySem.W.Frag}{E:XK}{m:Option Bool}{B:Bs}{F F' H:Hp}{T:Ends}
theorem zeR.mono {o:Out}(h:zeR K m B F T o)(e:Same F F'):zeR K m B F' T o:=by
 cases o with
 | next sd=>exact fun σ F2 H2 s r=>h σ F2 H2 (e.trans s) r
 | brk sd=>exact fun σ F2 H2 s r=>h σ F2 H2 (e.trans s) r
 | cont sd=>exact fun σ F2 H2 s r=>h σ F2 H2 (e.trans s) r
 | ret d=>exact h
end
section
variable {X:Cx}{E:XK}{m:Option Bool}{st:Stmt}{sts:List Stmt}{g g1 g2:FS}{pos:Pos}
noncomputable def zby:FS:=fun sd=>.ok (.next sd)
def sSeq (g1 g2:FS):FS:=fun sd=>(g1 sd).bind fun o=>match o with
 | .next sd'=>g2 sd'
 | o=>.ok o
theorem zaS:QSs X E m [] zby:=PSs.weak zkG (by rintro T σ H ⟨B,F,sd,r,n⟩;exact n σ F H (.refl _) r)
theorem zaj (h:QS X E m st g):QSs X E m [st] g:=zgO h
theorem zag (h1:QS X E m st g1)(h2:QSs X E m sts g2):QSs X E m (st::sts) (sSeq g1 g2):=PSs.weak (zbY h1 h2) fun T σ H zh=>by
 refine zc3b zh fun B F sd r n => ?_
 refine ⟨B,F,sd,r,(Res.need_bind n).mono (fun o n1 => ?_) fun _ _ q=>q⟩
 cases o with
 | next sd'=>exact fun σ' F' H' s r'=>⟨B,F',sd',r',n1.mono (fun o q=>q.mono s) fun _ _ q=>q⟩
 | ret d=>exact n1
 | brk sd'=>exact n1
 | cont sd'=>exact n1
variable {e:Expr}{fe:FE}
def sSet (i:Nat)(f:FE):FS:=fun sd=>(f sd).bind fun d=>.ok (.next (sd.set i (some (.val d))))
def sOwn (i:Nat)(f:FE):FS:=fun sd=>(f sd).bind fun d=>.ok (.next (sd.set i (some (.own false d))))
theorem zaT {i:Nat}{x:Str}{pos':Pos}(hN:X.N.Nodup)(hi:X.N[i]? = some x)(hx:Loc X.env.scope x)(he:QE X E e fe)(hs:autoParam (swapsWith e (some (.Name x pos')) pos.line X.env=pure false) zau._auto_1)
 (hf:X.fn x=true∨X.env.scope.names.lookup x=some .local:=by first|exact .inl rfl|exact .inr rfl):QS X E m (.Assign [.Name x pos'] e pos) (sSet i fe):=PS.weak (zf1 hN hi hx he hs hf) fun T σ H zh=>by
 refine zc3b zh fun B F sd r n => ?_
 refine ⟨B,F,sd,r,(Res.need_bind n).mono (fun d n1 v F1 H1 e1 i1 => ?_) fun _ _ q=>q.ext r.ext⟩
 exact n1 _ F1 H1 e1.ff ((r.step e1).setVal i1)
theorem zqe {i:Nat}{x:Str}{pos':Pos}(hN:X.N.Nodup)(hi:X.N[i]? = some x)(hx:Loc X.env.scope x)(he:QN X E e fe)(hs:autoParam (swapsWith e (some (.Name x pos')) pos.line X.env=pure false) zau._auto_1)
 (hf:X.fn x=true∨X.env.scope.names.lookup x=some .local:=by first|exact .inl rfl|exact .inr rfl):QS X E m (.Assign [.Name x pos'] e pos) (sOwn i fe):=PS.weak (zf1 hN hi hx he hs hf) fun T σ H zh=>by
 refine zc3b zh fun B F sd r n => ?_
 refine ⟨B,F,sd,r,(Res.need_bind n).mono (fun d n1 l F1 H1 e1 h1 h2 h3 => ?_) fun _ _ q=>q.ext r.ext⟩
 refine n1 _ F1 H1 e1.ff ((r.step e1).setOwn (zak r.ext.hh h1) h2 h3 fun j p d' q1 q2 => ?_)
 refine zc1e (r.own q1) fun l' p1 _ _ p4 _ => ?_
 rw [p1] at q2
 cases q2
 obtain ⟨o,ho⟩:=p4.has
 rw [h1] at ho
 exact zqn ho
def sRet (f:FE):FS:=fun sd=>(f sd).bind fun d=>.ok (.ret d)
theorem zaH (he:QE X E e fe):QS X E false (.Return (some e) pos) (sRet fe):=PS.weak (zeE he) fun T σ H zh=>by
 refine zc3b zh fun B F sd r n => ?_
 refine ⟨B,F,sd,r,(Res.need_bind n).mono (fun d n1 v F1 H1 e1 i1 => ?_) fun _ _ q=>q.ext r.ext⟩
 exact n1 v F1 H1 (r.ext.trans e1) i1
theorem zkP (he:QN X E e fe):QS X E true (.Return (some e) pos) (sRet fe):=PS.weak (zeE he) fun T σ H zh=>by
 refine zc3b zh fun B F sd r n => ?_
 refine ⟨B,F,sd,r,(Res.need_bind n).mono (fun d n1 l F1 H1 e1 h1 h2 h3 => ?_) fun _ _ q=>q.ext r.ext⟩
 exact n1 l F1 H1 (r.ext.trans e1) (zak r.ext.hh h1) h2 h3
noncomputable def zd0 (i:Nat):FS:=fun sd=>match sd[i]? with
 | some (some (.own _ d))=>.ok (.ret d)
 | _=>.no
theorem zlc {i:Nat}(he:PE X e (tVar i)):QS X E true (.Return (some e) pos) (zd0 i):=PS.weak (zeE he) fun T σ H zh=>by
 refine zc3b zh fun B F sd r n => ?_
 unfold zd0 at n
 split at n
 ·rename_i d q
  refine zc1e (r.own q) fun l h1 h2 h3 h4 _ => ?_
  exact ⟨.ref l,h1,n l F H r.ext h2 h3 h4⟩
 ·exact n.elim
def sIf (c:FT)(g1 g2:FS):FS:=fun sd=>(c sd).bind fun b=>if b then g1 sd else g2 sd
theorem zcg {c:Expr}{a b:List Stmt}{fc:FT}(hc:QT X E c fc)(ha:QSs X E m a g1)(hb:QSs X E m b g2):QS X E m (.If c a b pos) (sIf fc g1 g2):=PS.weak (zpx hc ha hb) fun T σ H zh=>by
 refine zc3b zh fun B F sd r n => ?_
 refine ⟨B,F,sd,r,(Res.need_bind n).mono (fun b n1 F1 H1 e1 => ?_) fun _ _ q=>q.ext r.ext⟩
 cases b with
 | true=>exact ⟨B,F1,sd,r.step e1,n1.mono (fun _ q=>q.mono e1.ff) fun _ _ q=>q⟩
 | false=>exact ⟨B,F1,sd,r.step e1,n1.mono (fun _ q=>q.mono e1.ff) fun _ _ q=>q⟩
def zcs (i:Nat)(f:FE):FS:=fun sd=>match sd[i]? with
 | some (some (.own false (.lst ds)))=>(f sd).bind fun d=>if ds.length<sizeLine then .ok (.next (sd.set i (some (.own false (.lst (ds++[d])))))) else .no
 | _=>.no
theorem zgu {i:Nat}{o:Expr}{apos cpos:Pos}(ho:PE X o (tVar i))(he:QE X E e fe)
 (hp:∀ {to:TE} {t:TA},PE X o to→PA X [e] t→PE X (.Call (.Attribute o "append" apos) [e] [] cpos) (tBM X.K "list" zjd to t))
 (hs:autoParam (swapsWith (.Call (.Attribute o "append" apos) [e] [] cpos) none pos.line X.env=pure false) zau._auto_1)
 (hst:autoParam (starEach [e] X.env=(false,eval e X.env)::starEach [] X.env) zau._auto_1):QS X E m (.Expr (.Call (.Attribute o "append" apos) [e] [] cpos) pos) (zcs i fe) :=
 PS.weak (znJ (hp ho (zaa he zad hst)) hs) fun T σ H zh=>by
  obtain ⟨B,F,sd,r,n⟩:=zh
  unfold zcs at n
  split at n
  ·rename_i ds hi
   obtain ⟨l,h1,h2,h3,⟨xs,h4,h5⟩,_⟩:=r.own hi
   refine ⟨.ref l,h1,.inl ⟨rfl,xs,SqL.of h4⟩,B,F,sd,r,?_⟩
   unfold zac dNil
   show ((fe sd).bind fun x=>.ok [x]).need _ _
   have n2:=Res.need_bind n
   cases q:fe sd with
   | no=>rw [q] at n2;exact n2
   | ex c fs=>rw [q] at n2;exact n2.ext r.ext
   | ok d =>
    rw [q] at n2
    intro vs F1 H1 e1 i1
    rw [IsDs.cons_iff] at i1
    obtain ⟨v,w,rfl,i2,i3⟩:=i1
    rw [IsDs.nil_iff] at i3
    subst i3
    have n3:(if ds.length<sizeLine then Res.ok (Out.next (sd.set i (some (.own false (.lst (ds++[d])))))) else .no).need (zeR X.K m B F T) (XW X.K E B.F0 B.H0):=n2
    split at n3
    ·rename_i hz
     have hl:=h5.length
     refine ⟨l,xs,v,rfl,rfl,e1.hh _ _ h4,by omega,?_⟩
     have r1:=r.step e1
     exact n3 σ F1 _ e1.ff (r1.chg hi h1 ⟨xs++[v],zai,(IsDs.same e1.ff _ _ h5).snoc i2⟩)
    ·exact n3.elim
  ·exact n.elim
inductive Tg where
 | one (i:Nat)|tup (is:List Nat)
noncomputable def setAll:List Nat→List D→SD→SD
 | i::is,d::ds,sd=>setAll is ds (sd.set i (some (.val d)))
 | _,_,sd=>sd
def zaQ:Tg→D→SD→Res SD
 | .one i,d,sd=>.ok (sd.set i (some (.val d)))
 | .tup is,.tup ds,sd=>if ds.length=is.length then .ok (setAll is ds sd) else .no
 | _,_,_=>.no
noncomputable def zeN:List Nat→List V→St→St
 | i::is,v::vs,σ => zeN is vs (σ.set i (some v))
 | _,_,σ => σ
theorem RS.setAll {K:PySem.W.Frag}{B:Bs}{F H:Hp}:∀ {is:List Nat} {ds:List D} {vs:List V} {sd:SD} {σ : St},RS K B F H sd σ → IsDs K F ds vs→RS K B F H (setAll is ds sd) (zeN is vs σ)
 | [],ds,vs,sd,σ,r,_=>r
 | i::is,[],vs,sd,σ,r,h=>by
  rw [IsDs.nil_iff] at h
  subst h
  exact r
 | i::is,d::ds,vs,sd,σ,r,h=>by
  rw [IsDs.cons_iff] at h
  refine zc2c h fun v w zr2 h1 h2 => ?_
  obtain rfl:=zr2
  exact RS.setAll (is:=is) (ds:=ds) (vs:=w) (r.setVal (i:=i) h1) h2
theorem RS.forget {K:PySem.W.Frag}{B:Bs}{F H:Hp}{sd sd':SD}{σ : St}(r:RS K B F H sd σ)(hl:sd'.length=sd.length)(h:∀ (i:Nat) (x:SV),sd'[i]? = some (some x)→sd[i]? = some (some x)):RS K B F H sd' σ :=
 ⟨r.ext,by rw [r.len,hl],fun q=>r.val (h _ _ q),fun q=>r.own (h _ _ q),fun n q1 q2 q3=>r.apart n (h _ _ q1) (h _ _ q2) q3⟩
def gT:Tg→PySem.W.Frag→TG
 | .one i,_=>zfP i
 | .tup is,K=>fun v σ H Q => ∃ a xs,v=.ref a∧SqT K H a xs∧xs.length=is.length∧Q (zeN is xs σ) H
theorem zji {K:PySem.W.Frag}{tg:Tg}{B:Bs}{F H:Hp}{sd:SD}{σ : St}{d:D}{v:V}{p:SD→Prop}{q:Str→List D→Prop}{Q:St→Hp→Prop}(r:RS K B F H sd σ)(hi:IsD K F d v)(n:(zaQ tg d sd).need p q)
 (h:∀ sd' σ',p sd'→zaQ tg d sd=.ok sd'→RS K B F H sd' σ'→Q σ' H):gT tg K v σ H Q:=by
 cases tg with
 | one i=>exact h _ _ n rfl (r.setVal hi)
 | tup is =>
  cases d with
  | tup ds =>
   rw [IsD.tup_iff] at hi
   refine zc2c hi fun a xs zr2 h1 h2 => ?_
   obtain rfl:=zr2
   have eb:zaQ (.tup is) (.tup ds) sd=if ds.length=is.length then .ok (setAll is ds sd) else .no:=rfl
   by_cases hl:ds.length=is.length
   ·rw [if_pos hl] at eb
    rw [eb] at n
    exact ⟨a,xs,rfl,(h1.same r.ext.fh).sq,by rw [h2.length,hl],h _ _ n eb (r.setAll h2)⟩
   ·rw [if_neg hl] at eb
    rw [eb] at n
    exact n.elim
  | _=>exact n.elim
abbrev QG (X:Cx)(e:Expr)(tg:Tg):Prop:=PG X e (gT tg X.K)
def Walk (K:PySem.W.Frag)(F1:Hp)(J:It)(ds:List D):Prop:=∀ (i:Nat) (F2 H2:Hp),Same F1 F2→Same F2 H2 →
 (i<ds.length→J.go i H2∧∀ x H3,J.yld i H2 x H3→∃ d F3,ds[i]? = some d∧Ext F2 H2 F3 H3∧IsD K F3 d x)∧(ds.length≤i→J.stop i H2)
def tDI (K:PySem.W.Frag)(E:XK)(f:FA):TI:=fun σ H R => ∃ B F sd,RS K B F H sd σ ∧ (f sd).need (fun ds => ∀ J F' H',Ext F H F' H'→Walk K F' J ds→R J H') (XW K E F H)
abbrev QI (X:Cx)(E:XK)(tg iter:Expr)(f:FA):Prop:=PI X tg iter (tDI X.K E f)
def forD (b:D→FS):List D→FS
 | [],sd=>.ok (.next sd)
 | x::xs,sd=>(b x sd).bind fun o=>match o with
  | .next sd'=>forD b xs sd'
  | .cont sd'=>forD b xs sd'
  | .brk sd'=>.ok (.next sd')
  | .ret d=>.ok (.ret d)
def sFor (it:FA)(tg:Tg)(b:FS):FS:=fun sd=>(it sd).bind fun ds=>forD (fun x sd=>(zaQ tg x sd).bind b) ds sd
theorem zeu {tg iter:Expr}{body:List Stmt}{fi:FA}{t:Tg}(hp:PassesOwn (model X.prog X.w) X.A X.env X.xe)(hc:X.calm=true)(hi:QI X E tg iter fi)(hg:QG X tg t)(hb:QSs X E m body g)
 (hss:autoParam (∀ x,foldedSetIterable iter X.env x=pure x) zaw._auto_1):QS X E m (.For tg iter body [] pos) (sFor fi t g):=PS.weak (zjX hp hc hi hg hb hss) fun T σ H zh=>by
 refine zc3b zh fun B F sd r n => ?_
 refine ⟨B,F,sd,r,(Res.need_bind n).mono (fun ds n1 J F1 H1 e1 wk => ?_) fun _ _ q=>q.ext r.ext⟩
 refine ⟨fun i k σ H=>k=ds.length-i∧i≤ds.length∧∃ F2 sd,Same F1 F2∧RS X.K B F2 H sd σ ∧ (forD (fun x sd=>(zaQ t x sd).bind g) (ds.drop i) sd).need (zeR X.K m B F2 T) (XW X.K E B.F0 B.H0),
  ⟨ds.length,rfl,Nat.zero_le _,F1,sd,.refl _,r.step e1,n1.mono (fun _ q=>q.mono e1.ff) fun _ _ q=>q⟩,?_⟩
 rintro i k σ2 H2 ⟨rfl,hi,F2,sd2,s2,r2,n2⟩
 obtain ⟨w1,w2⟩:=wk i F2 H2 s2 r2.ext.fh
 by_cases hlt:i<ds.length
 ·obtain ⟨go,yl⟩:=w1 hlt
  refine .inr ⟨go,fun σ' H' => ∃ F3 sd3,Same F1 F3∧RS X.K B F3 H' sd3 σ'∧(forD (fun x sd=>(zaQ t x sd).bind g) (ds.drop (i+1)) sd3).need (zeR X.K m B F3 T) (XW X.K E B.F0 B.H0),
   fun σ' H' ⟨F3,sd3,q1,q2,q3⟩=>⟨ds.length-(i+1),by omega,rfl,hlt,F3,sd3,q1,q2,q3⟩,fun x H3 y => ?_⟩
  refine zc2c (yl x H3 y) fun d F3 hd e3 i3 => ?_
  rw [List.drop_eq_getElem_cons hlt] at n2
  have hd':ds[i]=d:=by rw [List.getElem?_eq_getElem hlt] at hd;exact Option.some.inj hd
  rw [hd'] at n2
  have r3:=r2.step e3
  unfold forD at n2
  have n3:=Res.need_bind (Res.need_bind n2)
  refine zji r3 i3 n3 fun sd' σ' n4 _ r4 => ?_
  refine ⟨B,F3,sd',r4,n4.mono (fun o n5 => ?_) fun _ _ q=>q⟩
  cases o with
  | next sd5=>exact fun σ5 F5 H5 s5 r5=>⟨F5,sd5,(s2.trans e3.ff).trans s5,r5,n5.mono (fun _ q=>q.mono (e3.ff.trans s5)) fun _ _ q=>q⟩
  | cont sd5=>exact fun σ5 F5 H5 s5 r5=>⟨F5,sd5,(s2.trans e3.ff).trans s5,r5,n5.mono (fun _ q=>q.mono (e3.ff.trans s5)) fun _ _ q=>q⟩
  | brk sd5=>exact fun σ5 F5 H5 s5 r5=>n5 σ5 F5 H5 (e3.ff.trans s5) r5
  | ret d=>exact n5
 ·have he:i=ds.length:=by omega
  refine .inl ⟨w2 (by omega),?_⟩
  subst he
  rw [List.drop_length] at n2
  exact n2 σ2 F2 H2 (.refl _) r2
def mapD {α β : Type}(f : α → Res β):List α → Res (List β)
 | []=>.ok []
 | x::xs=>(f x).bind fun y=>(mapD f xs).bind fun ys=>.ok (y::ys)
def capD (cap:List (Option Nat))(sd:SD):SD:=cap.map fun o=>o.bind fun j=>match sd[j]? with
 | some (some (.val d))=>some (.val d)
 | _=>none
noncomputable def zcG (sd:SD)(i:Nat):Bool:=match sd[i]? with
 | some none=>true
 | _=>false
def zcy (sd:SD):Tg→Bool
 | .one i=>zcG sd i
 | .tup is=>is.all (zcG sd)
def zbk (cap:List (Option Nat))(it:FA)(tg:Tg)(f:FE):FE:=fun sd=>(it sd).bind fun ds=>if zcy (capD cap sd) tg=true∧ds.length<sizeLine then
 (mapD (fun x=>(zaQ tg x (capD cap sd)).bind f) ds).bind fun ys=>.ok (.lst ys) else .no
theorem RS.cap {K:PySem.W.Frag}{B:Bs}{F H:Hp}{sd:SD}{σ : St}(cap:List (Option Nat))(r:RS K B F H sd σ):RS K B F H (capD cap sd) (zgN cap σ):=by
 have key:∀ {i:Nat} {x:SV},(capD cap sd)[i]? = some (some x)→∃ j d,cap[i]? = some (some j)∧sd[j]? = some (some (.val d))∧x=.val d:=fun {i x} q=>by
  unfold capD at q
  rw [List.getElem?_map] at q
  cases hc:cap[i]? with
  | none=>rw [hc] at q;exact zqn q
  | some o =>
   rw [hc] at q
   cases o with
   | none=>cases q
   | some j =>
    have q:(match sd[j]? with
     | some (some (.val d))=>some (SV.val d)
     | _=>none)=some x:=Option.some.inj q
    split at q
    ·rename_i d hd
     exact ⟨j,d,rfl,hd,(Option.some.inj q).symm⟩
    ·exact zqn q
 refine ⟨r.ext,by unfold capD zgN;rw [List.length_map,List.length_map],fun {i d} q => ?_,fun {i p d} q => ?_,fun {i j p p' d e l} _ q => ?_⟩
 ·refine zc2c (key q) fun j d' h1 h2 h3 => ?_
  cases h3
  refine zc1b (r.val h2) fun v v1 v2 => ?_
  refine ⟨v,?_,v2⟩
  unfold zgN
  rw [List.getElem?_map,h1]
  show some (Option.bind (some j) fun j=>(σ[j]?).join)=_
  rw [Option.bind_some,v1]
  rfl
 ·refine zc2c (key q) fun j d' h1 h2 h3 => ?_
  cases h3
 ·refine zc2c (key q) fun j d' h1 h2 h3 => ?_
  cases h3
theorem zcw:∀ (is:List Nat) (ds:List D) (sd0 sd:SD),is.all (zcG sd0)=true→sd.length=sd0.length→(∀ (i:Nat) (x:SV),sd0[i]? = some (some x)→sd[i]? = some (some x)) →
 (setAll is ds sd).length=sd0.length∧∀ (i:Nat) (x:SV),sd0[i]? = some (some x)→(setAll is ds sd)[i]? = some (some x)
 | [],ds,sd0,sd,_,hl,h=>⟨hl,h⟩
 | i::is,[],sd0,sd,_,hl,h=>⟨hl,h⟩
 | i::is,d::ds,sd0,sd,hn,hl,h=>by
  rw [List.all_cons,Bool.and_eq_true] at hn
  refine zcw is ds sd0 (sd.set i (some (.val d))) hn.2 (by rw [List.length_set,hl]) fun j x q => ?_
  have ne:i≠j:=fun z=>by
   subst z
   have:=hn.1
   unfold zcG at this
   rw [q] at this
   exact zqb this
  rw [zaq ne]
  exact h j x q
theorem zcT {tg:Tg}{sd0 sd:SD}{d:D}(hn:zcy sd0 tg=true)(h:zaQ tg d sd0=.ok sd):sd0.length=sd.length∧∀ (i:Nat) (x:SV),sd0[i]? = some (some x)→sd[i]? = some (some x):=by
 cases tg with
 | one i =>
  cases h
  have:=zcw [i] [d] sd0 sd0 (by rw [List.all_cons,List.all_nil,Bool.and_true];exact hn) rfl fun _ _ q=>q
  exact ⟨this.1.symm,this.2⟩
 | tup is =>
  cases d with
  | tup ds =>
   have eb:zaQ (.tup is) (.tup ds) sd0=if ds.length=is.length then .ok (setAll is ds sd0) else .no:=rfl
   rw [eb] at h
   split at h
   ·cases h
    have:=zcw is ds sd0 sd0 hn rfl fun _ _ q=>q
    exact ⟨this.1.symm,this.2⟩
   ·cases h
  | _=>cases h
theorem zgk {α β : Type}{f : α → Res β}{xs:List α}{i:Nat}{x : α}{p:List β → Prop}{q:Str→List D→Prop}(hx:xs[i]? = some x)(h:(mapD f (xs.drop i)).need p q):(f x).need (fun y=>(mapD f (xs.drop (i+1))).need (fun ys=>p (y::ys)) q) q:=by
 have hlt:i<xs.length:=(List.getElem?_eq_some_iff.mp hx).1
 rw [List.drop_eq_getElem_cons hlt] at h
 have e:xs[i]=x:=by rw [List.getElem?_eq_getElem hlt] at hx;exact Option.some.inj hx
 rw [e] at h
 unfold mapD at h
 refine (Res.need_bind h).mono (fun y h1 => ?_) fun _ _ z=>z
 exact (Res.need_bind h1).mono (fun ys h2=>h2) fun _ _ z=>z
theorem zlo {K:PySem.W.Frag}{t:Tg}{fi:FA}{f:FE}{cap:List (Option Nat)}{σ : St}{H:Hp}{Q:VK}(hh:tDN K E (zbk cap fi t f) σ H Q):zkA cap (tDI K E fi) (gT t K) (tD K E f) σ H Q:=by
 refine zc3b hh fun B F sd r n => ?_
 refine ⟨B,F,sd,r,(Res.need_bind n).mono (fun ds n1 J F1 H1 e1 wk => ?_) fun _ _ q=>q⟩
 split at n1
 ·rename_i hh
  obtain ⟨hn,hz⟩:=hh
  refine ⟨fun i k ys σ H2=>k=ds.length-i∧i≤ds.length∧∃ F2 es,Ext F1 H1 F2 H2∧RS K B F2 H2 (capD cap sd) σ ∧ IsDs K F2 es ys∧es.length=i ∧
   (mapD (fun x=>(zaQ t x (capD cap sd)).bind f) (ds.drop i)).need (fun rs=>OkN K F2 H2 Q (.lst (es++rs))) (XW K E F2 H2),⟨ds.length,rfl,Nat.zero_le _,F1,[],.refl e1.fh,(r.step e1).cap cap,.nil,rfl,?_⟩,?_⟩
  ·exact (Res.need_bind n1).mono (fun rs q=>(show OkN K F H Q (.lst rs) from q).ext e1) fun _ _ q=>q.ext e1
  rintro i k ys σ2 H2 ⟨rfl,hi,F2,es,e2,r2,i2,hl,n2⟩
  have ly:=i2.length
  refine ⟨by omega,?_⟩
  obtain ⟨w1,w2⟩:=wk i F2 H2 e2.ff e2.fh
  by_cases hlt:i<ds.length
  ·obtain ⟨go,yl⟩:=w1 hlt
   refine .inr ⟨go,fun x H3 y => ?_⟩
   refine zc2c (yl x H3 y) fun d F3 hd e3 i3 => ?_
   have n3:=zgk hd n2
   have r3:=r2.step e3
   refine zji (K:=K) r3 i3 (Res.need_bind n3) fun sd' σ' n4 hb r4 => ?_
   obtain ⟨b1,b2⟩:=zcT hn hb
   refine ⟨B,F3,sd',r4,n4.mono (fun y n5 v F4 H4 e4 i4 => ?_) fun _ _ q=>q.ext e3⟩
   refine ⟨ds.length-(i+1),by omega,rfl,hlt,F4,es++[y],(e2.trans e3).trans e4,(r4.step e4).forget b1 b2,(IsDs.same (e3.ff.trans e4.ff) _ _ i2).snoc i4,by rw [List.length_append,hl];rfl,?_⟩
   refine n5.mono (fun rs q => ?_) fun _ _ q=>q.ext (e3.trans e4)
   rw [List.append_assoc]
   exact q.ext (e3.trans e4)
  ·have he:i=ds.length:=by omega
   subst he
   refine .inl ⟨w2 (Nat.le_refl _),fun D hD => ?_⟩
   rw [List.drop_length] at n2
   have q:OkN K F2 H2 Q (.lst (es++[])):=n2
   rw [List.append_nil] at q
   exact q D F2 _ (.keep r2.ext.fh hD _) hD (zak r2.ext.fh hD) ⟨ys,zai,i2⟩
 ·exact n1.elim
theorem zcm {tg iter elt:Expr}{scope:Scope}{t:Tg}{fi:FA}{f:FE}(N:List Str)(cap:List (Option Nat))(hc:X.calm=true)(okB:zbd scope X.env N X.N cap=true)(hi:QI X E tg iter fi)
 (hg:∀ cl C s H ex,QG (zap X scope N cl C s H ex) tg t) (he:∀ cl C s H ex,QE (zap X scope N cl C s H ex) E elt f) (hs:autoParam (∀ x,foldedSetIterable iter X.env x=pure x) zaw._auto_1) :
 QN X E (.ListComp elt [⟨tg,iter,[],0⟩] scope pos) (zbk cap fi t f):=PE.weak (zjr (g:=gT t X.K) (te:=tD X.K E f) N cap hc okB hi hg he hs) fun _ _ _ h=>zlo h
noncomputable def zbO (n:Nat)(ds:List D):SD:=ds.map (fun d=>some (.val d))++List.replicate (n-ds.length) none
def runD (n ar:Nat)(g:FS)(ds:List D):Res D:=if ds.length=ar then (g (zbO n ds)).bind fun o=>match o with
 | .ret d=>.ok d
 | .next _=>.ok .non
 | _=>.no else .no
def runN (n ar:Nat)(g:FS)(ds:List D):Res D:=if ds.length=ar then (g (zbO n ds)).bind fun o=>match o with
 | .ret d=>.ok d
 | _=>.no else .no
theorem RS.start {K:PySem.W.Frag}{F H:Hp}{N:List Str}{ds:List D}{vs:List V}(s:Same F H)(h:IsDs K F ds vs):RS K ⟨F,H,fun _=>none⟩ F H (zbO N.length ds) (start N vs):=by
 have key:∀ {i:Nat} {x:SV},(zbO N.length ds)[i]? = some (some x)→∃ d,ds[i]? = some d∧x=.val d:=fun {i x} q=>by
  unfold zbO at q
  by_cases hi:i<ds.length
  ·rw [List.getElem?_append_left (by rw [List.length_map];exact hi),List.getElem?_map,List.getElem?_eq_getElem hi] at q
   exact ⟨ds[i],List.getElem?_eq_getElem hi,(Option.some.inj (Option.some.inj q)).symm⟩
  ·rw [List.getElem?_append_right (by rw [List.length_map];omega),List.getElem?_replicate] at q
   split at q<;>(first|exact zqn q|cases q)
 refine ⟨.refl s,by unfold zbO L2.start;simp [h.length],fun {i d} q => ?_,fun {i p d} q => ?_,fun {i j p p' d e l} _ q => ?_⟩
 ·refine zc1b (key q) fun d' h1 h2 => ?_
  cases h2
  refine zc1b (h.get h1) fun v v1 v2 => ?_
  refine ⟨v,?_,v2⟩
  unfold L2.start
  rw [List.getElem?_append_left (by rw [List.length_map];exact (List.getElem?_eq_some_iff.mp v1).1),List.getElem?_map,v1]
  rfl
 ·refine zc1b (key q) fun _ _ h2 => ?_
  cases h2
 ·refine zc1b (key q) fun _ _ h2 => ?_
  cases h2
section
variable {P:Program}{w:World}{K:PySem.W.Frag}{mg:Str→Option Value}{base:Heap}{x qual:Str}{f:Addr}{fd:FuncData}{N ps:List Str}{k:Nat}
theorem fn_d {g:FS}(F:Fun K x qual st f fd)(S:FnScope N ps (zae st))
 (hb:∀ (cdv:Value) (A:Around) (outer:List Env) (s:Shared) (H:Hp) (E:XK),Room k (A.deeper (envOfC qual (zae st) s.heap.objs.size f cdv))→QSs (cxOf CX0 P w K mg base N qual (zae st) f cdv A outer s H E).nox E0 false (zbz st) g) :
 FnOk P w K mg base CX0 (k+1) f fd ps (SpD K (runD N.length ps.length g)):=by
 refine F.ok S (fun vs H Q E ⟨F,ds,_,h,n⟩ => ?_) fun cdv A outer s H vs Q E hr ⟨F,ds,hs,h,n⟩=>⟨_,hb cdv A outer s H E hr,?_⟩
 ·unfold runD at n
  split at n
  ·rw [h.length];assumption
  ·exact n.elim
 ·unfold runD at n
  split at n
  ·refine ⟨⟨F,H,fun _=>none⟩,F,_,RS.start hs h,(Res.need_bind n).mono (fun o n1 => ?_) fun _ _ q=>q⟩
   cases o with
   | next sd=>exact fun σ F' H' _ r=>n1 .non F' H' r.ext (IsD.non_iff.mpr rfl)
   | ret d=>exact n1
   | brk sd=>exact n1.elim
   | cont sd=>exact n1.elim
  ·exact n.elim
theorem fn_n {g:FS}(F:Fun K x qual st f fd)(S:FnScope N ps (zae st))
 (hb:∀ (cdv:Value) (A:Around) (outer:List Env) (s:Shared) (H:Hp) (E:XK),Room k (A.deeper (envOfC qual (zae st) s.heap.objs.size f cdv))→QSs (cxOf CX0 P w K mg base N qual (zae st) f cdv A outer s H E).nox E0 true (zbz st) g) :
 FnOk P w K mg base CX0 (k+1) f fd ps (SpN K (runN N.length ps.length g)):=by
 refine F.ok S (fun vs H Q E ⟨F,ds,_,h,n⟩ => ?_) fun cdv A outer s H vs Q E hr ⟨F,ds,hs,h,n⟩=>⟨_,hb cdv A outer s H E hr,?_⟩
 ·unfold runN at n
  split at n
  ·rw [h.length];assumption
  ·exact n.elim
 ·unfold runN at n
  split at n
  ·refine ⟨⟨F,H,fun _=>none⟩,F,_,RS.start hs h,(Res.need_bind n).mono (fun o n1 => ?_) fun _ _ q=>q⟩
   cases o with
   | next sd=>exact n1.elim
   | ret d=>exact n1
   | brk sd=>exact n1.elim
   | cont sd=>exact n1.elim
  ·exact n.elim
end
end
end L2.DL
namespace L2.DL
open PySem PySem.Spec PyProof.Rows
noncomputable def prD (p:Int×Int):D:=.tup [.int p.1,.int p.2]
def rwD (r:List (Int×Int)):D:=.tup (r.map prD)
noncomputable def zf8:D→Option (Int×Int)
 | .tup [.int i,.int j]=>some (i,j)
 | _=>none
def zb8 {α : Type}(f:D→Option α):List D→Option (List α)
 | []=>some []
 | d::ds=>(f d).bind fun x=>(zb8 f ds).map fun xs=>x::xs
def zer:D→Option (List (Int×Int))
 | .tup ds=>zb8 zf8 ds
 | _=>none
noncomputable def zi9:D→Option Int
 | .int i=>some i
 | _=>none
theorem zbM {α β : Type}{f:D→Option α}{g : β → D}{k : β → α}(h:∀ x,f (g x)=some (k x)):∀ l:List β,zb8 f (l.map g)=some (l.map k)
 | []=>rfl
 | x::r=>by rw [List.map_cons];unfold zb8;rw [h,zbM h r];rfl
theorem zbL {α : Type}{f:D→Option α}{g : α → D}(h:∀ d x,f d=some x→d=g x):∀ {ds:List D} {l:List α},zb8 f ds=some l→ds=l.map g
 | [],l,e=>by cases e;rfl
 | d::ds,l,e=>by
  unfold zb8 at e
  cases h1:f d with
  | none=>rw [h1] at e;exact zqn e
  | some x =>
   cases h2:zb8 f ds with
   | none=>rw [h1,h2] at e;exact zqn e
   | some xs =>
    rw [h1,h2] at e
    obtain rfl:=Option.some.inj e
    rw [List.map_cons,← h d x h1,← zbL h h2]
theorem zkJ (p:Int×Int):zf8 (prD p)=some p:=rfl
theorem ziy {d:D}{p:Int×Int}(h:zf8 d=some p):d=prD p:=by
 cases d with
 | tup ds =>
  cases ds with
  | nil=>exact zqn h
  | cons x ds =>
   cases x with
   | int i =>
    cases ds with
    | nil=>exact zqn h
    | cons y ds =>
     cases y with
     | int j =>
      cases ds with
      | nil=>obtain rfl:=Option.some.inj h;rfl
      | cons _ _=>exact zqn h
     | _=>exact zqn h
   | _=>exact zqn h
 | _=>exact zqn h
theorem zdr (r:List (Int×Int)):zer (rwD r)=some r:=by
 show zb8 zf8 (r.map prD)=some r
 rw [zbM (k:=id) zkJ,List.map_id]
theorem zfV {d:D}{r:List (Int×Int)}(h:zer d=some r):d=rwD r:=by
 cases d with
 | tup ds=>unfold rwD;rw [← zbL (fun _ _=>ziy) (show zb8 zf8 ds=some r from h)]
 | _=>exact zqn h
theorem zkc {d:D}{i:Int}(h:zi9 d=some i):d=.int i:=by
 cases d with
 | int j=>cases h;rfl
 | _=>exact zqn h
theorem zit {ds:List D}{l:List Int}(h:zb8 zi9 ds=some l):ds=l.map D.int:=zbL (fun _ _=>zkc) h
theorem zi3 (l:List Int):zb8 zi9 (l.map D.int)=some l:=by
 have h:=zbM (f:=zi9) (g:=D.int) (k:=fun i:Int=>i) (fun _=>rfl) l
 rw [h,List.map_id']
theorem zcP (l:List (List (Int×Int))):zb8 zer (l.map rwD)=some l:=by rw [zbM (k:=id) zdr,List.map_id]
theorem ziM {ds:List D}{l:List (List (Int×Int))}(h:zb8 zer ds=some l):ds=l.map rwD:=zbL (fun _ _=>zfV) h
section
variable {K:PySem.W.Frag}{H:Hp}
theorem zmA {p:Int×Int}{v:V}:IsD K H (prD p) v↔Is H (pD p) v:=by
 rw [zgV]
 unfold prD
 rw [IsD.tup_iff]
 constructor
 ·rintro ⟨a,xs,rfl,h1,h2⟩
  have:xs=[p.1,p.2].map V.int:=IsDs.ints_iff (ns:=[p.1,p.2]) h2
  subst this
  exact ⟨a,rfl,h1⟩
 ·rintro ⟨a,rfl,h1⟩
  exact ⟨a,_,rfl,h1,IsDs.ints [p.1,p.2]⟩
theorem zeY:∀ {r:List (Int×Int)} {xs:List V},IsDs K H (r.map prD) xs↔zao H (r.map pD) xs
 | [],xs=>by rw [List.map_nil,List.map_nil,IsDs.nil_iff];unfold zao;exact Iff.rfl
 | p::r,xs=>by
  rw [List.map_cons,List.map_cons,IsDs.cons_iff]
  constructor
  ·rintro ⟨x,w,rfl,h1,h2⟩
   unfold zao
   exact ⟨x,w,rfl,zmA.mp h1,zeY.mp h2⟩
  ·intro h
   unfold zao at h
   refine zc2c h fun x w e h1 h2 => ?_
   exact ⟨x,w,e,zmA.mpr h1,zeY.mpr h2⟩
theorem zoB {r:List (Int×Int)}{v:V}:IsD K H (rwD r) v↔Is H (rD r) v:=by
 unfold rwD rD
 rw [IsD.tup_iff,Is.tuple_iff]
 constructor
 ·rintro ⟨a,xs,e,h1,h2⟩
  exact ⟨a,xs,e,h1,zeY.mp h2⟩
 ·rintro ⟨a,xs,e,h1,h2⟩
  exact ⟨a,xs,e,h1,zeY.mpr h2⟩
theorem zey:∀ {r:List (List (Int×Int))} {xs:List V},IsDs K H (r.map rwD) xs↔zao H (r.map rD) xs
 | [],xs=>by rw [List.map_nil,List.map_nil,IsDs.nil_iff];unfold zao;exact Iff.rfl
 | p::r,xs=>by
  rw [List.map_cons,List.map_cons,IsDs.cons_iff]
  constructor
  ·rintro ⟨x,w,rfl,h1,h2⟩
   unfold zao
   exact ⟨x,w,rfl,zoB.mp h1,zey.mp h2⟩
  ·intro h
   unfold zao at h
   refine zc2c h fun x w e h1 h2 => ?_
   exact ⟨x,w,e,zoB.mpr h1,zey.mpr h2⟩
end
section
variable {X:Cx}{E:XK}
noncomputable def gI (f:Int→Int→D):D→D→Option D
 | .int i,.int j=>some (f i j)
 | _,_=>none
noncomputable def gIc (c:Int→Int→Bool)(f:Int→Int→D):D→D→Option D
 | .int i,.int j=>if c i j then some (f i j) else none
 | _,_=>none
theorem zmh {h:Value→Value→Sem Value}{f:Int→Int→D}{g:Int→Int→V}(o:OpR X h (rI0 g))(hg:∀ i j F,IsD X.K F (f i j) (g i j)):OpD X h (gI f):=OpR.weak o fun x y H Q zh=>by
 obtain ⟨F,d,e,z,sF,id,ie,hz,q⟩:=zh
 cases d with
 | int i =>
  cases e with
  | int j=>cases hz;exact ⟨i,j,IsD.int_iff.mp id,IsD.int_iff.mp ie,q _ F H (.refl sF) (hg i j F)⟩
  | _=>exact zqn hz
 | _=>exact zqn hz
theorem zhu {h:Value→Value→Sem Value}{C:Int→Int→Prop}{c:Int→Int→Bool}{f:Int→Int→D}{g:Int→Int→V}(o:OpR X h (rI C g))(hc:∀ i j,c i j=true→C i j)(hg:∀ i j F,IsD X.K F (f i j) (g i j)):OpD X h (gIc c f):=OpR.weak o fun x y H Q zh=>by
 obtain ⟨F,d,e,z,sF,id,ie,hz,q⟩:=zh
 cases d with
 | int i =>
  cases e with
  | int j =>
   have hz:(if c i j then some (f i j) else none)=some z:=hz
   split at hz
   ·rename_i hcc
    cases hz;exact ⟨i,j,IsD.int_iff.mp id,IsD.int_iff.mp ie,hc i j hcc,q _ F H (.refl sF) (hg i j F)⟩
   ·exact zqn hz
  | _=>exact zqn hz
 | _=>exact zqn hz
theorem isI (i:Int)(F:Hp):IsD X.K F (.int i) (.int i):=IsD.int_iff.mpr rfl
theorem isB (b:Bool)(F:Hp):IsD X.K F (.bl b) (.bl b):=IsD.bl_iff.mpr rfl
noncomputable def gSub:=gI fun i j=>.int (i-j)
noncomputable def bigB:Nat:=10715086071862673209484250490600018105614048117055336074437503883703510511249361224931983788156958581275946729175531468251871452856923140435984577574698574803934567774824230985421074605062371141877954182153046474983581941267398767559165543946077062914571196477686542167660429831652624386837205668069376
def zeo (i j:Int):Bool:=(Nat.blt i.natAbs 18446744073709551616||Nat.blt j.natAbs 18446744073709551616)||(Nat.blt i.natAbs bigB&&Nat.blt j.natAbs bigB)
theorem zh8 {k:Int}(h:k.natAbs<bigB):Builtin.Int.intBits k≤2 ^ 20:=by
 have e:bigB≤2 ^ 1000:=Nat.le_of_ble_eq_true rfl
 have hn:k.natAbs<2 ^ 1000:=Nat.lt_of_lt_of_le h e
 unfold Builtin.Int.intBits
 split
 ·exact Nat.zero_le _
 ·have l:k.natAbs.log2<1000:=by
   rcases Nat.eq_zero_or_pos k.natAbs with h0|hp
   ·rw [h0];decide
   ·exact (Nat.log2_lt (Nat.ne_of_gt hp)).mpr hn
  have e:(2:Nat) ^ 20=1048576:=by decide
  omega
theorem zlF {i j:Int}(h:zeo i j=true):IntMulOk i j:=by
 unfold zeo at h
 rw [Bool.or_eq_true,Bool.or_eq_true,Bool.and_eq_true,Nat.blt_eq,Nat.blt_eq,Nat.blt_eq,Nat.blt_eq] at h
 rcases h with (h|h)|⟨h1,h2⟩
 ·exact .of_left (intBits_le_64 (by omega) (by omega))
 ·exact .of_right (intBits_le_64 (by omega) (by omega))
 ·exact .of_bits (zh8 h1) (zh8 h2)
theorem zoD:OpR X (binaryOp .Mult) (rI (fun i j=>zeo i j=true) fun i j=>.int (i*j)):=opI fun _ _ _ _ _ _ _ hc q=>mul_int q (zlF hc)
def gMul:=gIc zeo fun i j=>.int (i*j)
def zaA:=gIc (fun _ j=>Nat.blt 0 j.toNat&&Nat.blt j.toNat 1073741824) fun i j=>.int (i / j)
def gMod:=gIc (fun _ j=>Nat.blt 0 j.toNat) fun i j=>.int (i % j)
def gPow:=gIc (fun i j=>Nat.ble (-j).toNat 0&&(Nat.ble j.toNat 1000000&&Nat.blt i.natAbs 18446744073709551616)) fun i j=>.int (i ^ j.toNat)
noncomputable def gLt:=gI fun i j=>.bl (decide (i<j))
noncomputable def gGt:=gI fun i j=>.bl (decide (j<i))
noncomputable def gGe:=gI fun i j=>.bl (decide (j≤i))
theorem zi4:OpD X (binaryOp .Sub) gSub:=zmh zpJ fun _ _ F=>isI _ F
theorem zo6:OpD X (binaryOp .Mult) gMul:=zhu zoD (fun i j h=>h) fun _ _ F=>isI _ F
theorem zco:OpD X (binaryOp .FloorDiv) zaA:=zhu zo2 (fun i j h=>by rw [Bool.and_eq_true,Nat.blt_eq,Nat.blt_eq] at h;unfold CDiv;omega) fun _ _ F=>isI _ F
theorem zch:OpD X (binaryOp .Mod) gMod:=zhu zpQ (fun i j h=>by rw [Nat.blt_eq] at h;omega) fun _ _ F=>isI _ F
theorem zpi:OpD X (binaryOp .Pow) gPow:=zhu zpV (fun i j h=>by rw [Bool.and_eq_true,Bool.and_eq_true,Nat.ble_eq,Nat.ble_eq,Nat.blt_eq] at h;unfold CPow;omega) fun _ _ F=>isI _ F
theorem o_lt:OpD X (compareOp .Lt) gLt:=zmh op_lt fun _ _ F=>isB _ F
theorem o_gt:OpD X (compareOp .Gt) gGt:=zmh op_gt fun _ _ F=>isB _ F
theorem o_ge:OpD X (compareOp .GtE) gGe:=zmh op_ge fun _ _ F=>isB _ F
noncomputable def gAdd:D→D→Option D
 | .int i,.int j=>some (.int (i+j))
 | .str x,.str y=>if x.length+y.length≤sizeLine then some (.str (x++y)) else none
 | .tup a,.tup b=>if a ≠ []∧b ≠ []∧a.length+b.length≤sizeLine then some (.tup (a++b)) else none
 | .lst a,.lst b=>if a.length+b.length≤sizeLine then some (.lst (a++b)) else none
 | _,_=>none
def rCat' (K:PySem.W.Frag):R2:=fun x y H Q => ∃ l b xs zs,x=.ref l∧y=.ref b∧LstD K H l xs∧LstD K H b zs∧xs.length+zs.length≤sizeLine∧∀ p,H p=none→Q (.ref p) (upd H p (.lst (xs++zs)))
theorem znj:OpR X (binaryOp .Add) (rCat' X.K):=by
 intro pins s σ H x y v u Q I rx ry h
 refine zc4a h fun l b xs zs zz=>zc0e zz fun zr4 zr5 hl hb zz=>zc0b zz fun hz q => ?_
 obtain rfl:=zr4
 obtain rfl:=zr5
 obtain rfl:v=Value.ref l:=rx
 obtain rfl:u=Value.ref b:=ry
 refine zc0b (hl.ok I.hok) fun _ zz=>zc2b zz fun its n r1 e1 => ?_
 refine zc0b (hb.ok I.hok) fun _ zz=>zc2b zz fun its2 n2 r2 e2 => ?_
 have hl1:=r1.length
 have hl2:=r2.length
 refine PySem.P.add_list e1 e2 ?_ (by rw [List.size_toArray,List.size_toArray];omega)
 have ea:its.toArray++its2.toArray=(its++its2).toArray:=by simp
 rw [ea]
 exact ⟨.ref _,_,I.lnew (t':=s.toks) (r1.append r2) (by rw [List.length_append];omega),rfl,q _ I.fresh⟩
theorem zfQ:OpD X (binaryOp .Add) gAdd:=by
 rintro pins s σ H x y v u Q I rx ry ⟨F,d,e,z,sF,id,ie,hz,q⟩
 cases d with
 | int i =>
  cases e with
  | int j=>cases hz;exact zoV pins s σ H x y v u Q I rx ry ⟨i,j,IsD.int_iff.mp id,IsD.int_iff.mp ie,q _ F H (.refl sF) (isI _ F)⟩
  | _=>exact zqn hz
 | str a =>
  cases e with
  | str b =>
   have hz:(if a.length+b.length≤sizeLine then some (D.str (a++b)) else none)=some z:=hz
   split at hz
   ·rename_i hl
    cases hz;exact ziA pins s σ H x y v u Q I rx ry ⟨a,b,IsD.str_iff.mp id,IsD.str_iff.mp ie,hl,q _ F H (.refl sF) (IsD.str_iff.mpr rfl)⟩
   ·exact zqn hz
  | _=>exact zqn hz
 | tup a =>
  cases e with
  | tup b =>
   have hz:(if a ≠ []∧b ≠ []∧a.length+b.length≤sizeLine then some (D.tup (a++b)) else none)=some z:=hz
   split at hz
   ·rename_i hl
    obtain rfl:=Option.some.inj hz
    rw [IsD.tup_iff] at id ie
    obtain ⟨la,xs,rfl,h1,h2⟩:=id
    obtain ⟨lb,ys,rfl,h3,h4⟩:=ie
    have l1:=h2.length
    have l2:=h4.length
    have x0:xs ≠ []:=fun z=>hl.1 (List.length_eq_zero_iff.mp (by rw [← l1,z];rfl))
    have y0:ys ≠ []:=fun z=>hl.2.1 (List.length_eq_zero_iff.mp (by rw [← l2,z];rfl))
    refine zn5 pins s σ H _ _ v u Q I rx ry ⟨la,lb,xs,ys,rfl,rfl,(h1.same sF).sq,(h3.same sF).sq,x0,by have:=hl.2.2;omega,fun z=>absurd z y0,fun _ p hp => ?_⟩
    have ea:=Ext.alloc sF hp (.tup (xs++ys))
    exact q _ _ _ ea (IsD.tup_iff.mpr ⟨p,_,rfl,.of zai,IsDs.same ea.ff _ _ (h2.append h4)⟩)
   ·exact zqn hz
  | _=>exact zqn hz
 | lst a =>
  cases e with
  | lst b =>
   have hz:(if a.length+b.length≤sizeLine then some (D.lst (a++b)) else none)=some z:=hz
   split at hz
   ·rename_i hl
    obtain rfl:=Option.some.inj hz
    rw [IsD.lst_iff] at id ie
    obtain ⟨la,xs,rfl,h1,h2⟩:=id
    obtain ⟨lb,ys,rfl,h3,h4⟩:=ie
    have l1:=h2.length
    have l2:=h4.length
    refine znj pins s σ H _ _ v u Q I rx ry ⟨la,lb,xs,ys,rfl,rfl,h1.same sF,h3.same sF,by omega,fun p hp => ?_⟩
    have ea:=Ext.alloc sF hp (.lst (xs++ys))
    exact q _ _ _ ea (IsD.lst_iff.mpr ⟨p,_,rfl,.of zai,IsDs.same ea.ff _ _ (h2.append h4)⟩)
   ·exact zqn hz
  | _=>exact zqn hz
 | _=>exact zqn hz
mutual
noncomputable def toPy:D→PyData
 | .non=>.none
 | .bl b=>.bool b
 | .int i=>.int i
 | .str x=>.str x
 | .tup ds=>.tuple (zem ds)
 | .lst ds=>.list (zem ds)
 | .ty _=>.none
 | .scr _=>.none
 | .dct _ _=>.none
 | .ins _ _ _=>.none
 | .exc _=>.none
 | .ucl _=>.none
 | .adr _=>.none
 | .dcf _ _=>.none
noncomputable def zem:List D→List PyData
 | [] => []
 | d::ds=>toPy d::zem ds
end
noncomputable def plN:Nat→D→Bool
 | 0,_=>false
 | _+1,.int _=>true
 | _+1,.str x=>PyData.strOk x
 | _+1,.non=>true
 | n+1,.tup ds=>ds.all (plN n)
 | n+1,.lst ds=>ds.all (plN n)
 | _+1,_=>false
theorem zeF:∀ (n:Nat) (d:D),plN n d=true→(toPy d).canLay0=true∧(toPy d).depth≤n:=fun n=>by
 induction n with
 | zero=>intro _ h;exact zqb h
 | succ n ihn =>
  intro d h
  have all:∀ ds:List D,ds.all (plN n)=true→PyData.canLayAll0 (zem ds)=true∧PyData.depthAll (zem ds)≤n:=by
   intro ds
   induction ds with
   | nil=>intro _;exact ⟨rfl,Nat.zero_le _⟩
   | cons d ds ih =>
    intro h
    rw [List.all_cons,Bool.and_eq_true] at h
    obtain ⟨h1,h2⟩:=ihn d h.1
    obtain ⟨h3,h4⟩:=ih h.2
    exact ⟨Bool.and_eq_true_iff.mpr ⟨h1,h3⟩,Nat.max_le.mpr ⟨h2,h4⟩⟩
  cases d with
  | int i=>exact ⟨rfl,Nat.zero_le _⟩
  | str i=>exact ⟨h,Nat.zero_le _⟩
  | non=>exact ⟨rfl,Nat.zero_le _⟩
  | tup ds=>exact ⟨(all ds h).1,Nat.succ_le_succ (all ds h).2⟩
  | lst ds=>exact ⟨(all ds h).1,Nat.succ_le_succ (all ds h).2⟩
  | _=>exact zqb h
theorem D.ne {d e:D}(h:(d.ctorIdx == e.ctorIdx)=false):¬ d=e:=fun q=>by
 rw [q,beq_self_eq_true] at h
 cases  h
theorem zka:∀ (n:Nat) (d e:D),plN n d=true→plN n e=true→(PyData.eqv (toPy d) (toPy e)=true↔d=e):=fun n=>by
 induction n with
 | zero=>intro _ _ h;exact zqb h
 | succ n ihn =>
  intro d e h h'
  have all:∀ ds es:List D,ds.all (plN n)=true→es.all (plN n)=true→(PyData.eqvAll (zem ds) (zem es)=true↔ds=es):=by
   intro ds
   induction ds with
   | nil =>
    intro es _ _
    cases es with
    | nil=>exact iff_of_true rfl rfl
    | cons e es=>exact iff_of_false Bool.false_ne_true (fun q=>List.cons_ne_nil _ _ q.symm)
   | cons d ds ih =>
    intro es h1 h2
    cases es with
    | nil=>exact iff_of_false Bool.false_ne_true (List.cons_ne_nil _ _)
    | cons e es =>
     rw [List.all_cons,Bool.and_eq_true] at h1 h2
     show (PyData.eqv (toPy d) (toPy e)&&PyData.eqvAll (zem ds) (zem es))=true↔_
     rw [Bool.and_eq_true_iff,ihn d e h1.1 h2.1,ih es h1.2 h2.2,List.cons.injEq]
  cases d with
  | int i =>
   cases e with
   | int j=>exact ⟨fun q=>congrArg D.int (beq_iff_eq.mp q),fun q=>beq_iff_eq.mpr (D.int.inj q)⟩
   | str _=>exact iff_of_false Bool.false_ne_true (D.ne rfl)
   | non=>exact iff_of_false Bool.false_ne_true (D.ne rfl)
   | tup _=>exact iff_of_false Bool.false_ne_true (D.ne rfl)
   | lst _=>exact iff_of_false Bool.false_ne_true (D.ne rfl)
   | _=>exact zqb h'
  | str i =>
   cases e with
   | str j=>exact ⟨fun q=>congrArg D.str (of_decide_eq_true q),fun q=>decide_eq_true (D.str.inj q)⟩
   | int _=>exact iff_of_false Bool.false_ne_true (D.ne rfl)
   | non=>exact iff_of_false Bool.false_ne_true (D.ne rfl)
   | tup _=>exact iff_of_false Bool.false_ne_true (D.ne rfl)
   | lst _=>exact iff_of_false Bool.false_ne_true (D.ne rfl)
   | _=>exact zqb h'
  | non =>
   cases e with
   | non=>exact iff_of_true rfl rfl
   | int _=>exact iff_of_false Bool.false_ne_true (D.ne rfl)
   | str _=>exact iff_of_false Bool.false_ne_true (D.ne rfl)
   | tup _=>exact iff_of_false Bool.false_ne_true (D.ne rfl)
   | lst _=>exact iff_of_false Bool.false_ne_true (D.ne rfl)
   | _=>exact zqb h'
  | tup ds =>
   cases e with
   | tup es=>exact (all ds es h h').trans ⟨fun q=>congrArg D.tup q,fun q=>D.tup.inj q⟩
   | int _=>exact iff_of_false Bool.false_ne_true (D.ne rfl)
   | str _=>exact iff_of_false Bool.false_ne_true (D.ne rfl)
   | non=>exact iff_of_false Bool.false_ne_true (D.ne rfl)
   | lst _=>exact iff_of_false Bool.false_ne_true (D.ne rfl)
   | _=>exact zqb h'
  | lst ds =>
   cases e with
   | lst es=>exact (all ds es h h').trans ⟨fun q=>congrArg D.lst q,fun q=>D.lst.inj q⟩
   | int _=>exact iff_of_false Bool.false_ne_true (D.ne rfl)
   | str _=>exact iff_of_false Bool.false_ne_true (D.ne rfl)
   | non=>exact iff_of_false Bool.false_ne_true (D.ne rfl)
   | tup _=>exact iff_of_false Bool.false_ne_true (D.ne rfl)
   | _=>exact zqb h'
  | _=>exact zqb h
theorem zbD {P:Program}{w:World}{K:PySem.W.Frag}{H:Hp}{h:Heap}(ok:HOk P w H h):∀ (n:Nat) (d:D) (v:V) (u:Value),plN n d=true→IsD K H d v→RelV v u→∃ as,Reads h u (toPy d) as
 | 0,_,_,_,p,_,_=>by exact zqb p
 | n+1,d,v,u,p,q,r=>by
  have all:∀ (ds:List D) (xs:List V) (us:List Value),ds.all (plN n)=true→IsDs K H ds xs→Vals xs us→∃ as,ReadsAll h us (zem ds) as:=by
   intro ds
   induction ds with
   | nil =>
    intro xs us _ h1 h2
    rw [IsDs.nil_iff] at h1
    subst h1
    cases h2
    exact ⟨_,.nil⟩
   | cons d ds ih =>
    intro xs us hp h1 h2
    rw [List.all_cons,Bool.and_eq_true] at hp
    rw [IsDs.cons_iff] at h1
    refine zc2c h1 fun x rs zr2 h3 h4 => ?_
    obtain rfl:=zr2
    cases h2 with
    | cons r1 r2 =>
     obtain ⟨as,ra⟩:=zbD ok n d x _ hp.1 h3 r1
     obtain ⟨bs,rb⟩:=ih rs _ hp.2 h4 r2
     exact ⟨_,.cons ra rb⟩
  cases d with
  | int i =>
   rw [IsD.int_iff] at q;subst q
   obtain ⟨t,rfl⟩:=(show ∃ t,u=Value.int i t from r)
   exact ⟨_,.int i t⟩
  | str x =>
   rw [IsD.str_iff] at q;subst q
   obtain ⟨t,rfl⟩:=(show ∃ t,u=Value.str x t from r)
   exact ⟨_,.str x t⟩
  | non =>
   rw [IsD.non_iff] at q;subst q
   obtain rfl:u=Value.none:=r
   exact ⟨_,.none⟩
  | tup ds =>
   rw [IsD.tup_iff] at q
   refine zc2c q fun a xs zr2 h2 h3 => ?_
   obtain rfl:=zr2
   obtain rfl:u=Value.ref a:=r
   refine zc0b ((show zaL P w H h a (.tup xs) from ok a _ h2)) fun _ zz=>zc1b zz fun its rv zz=>zc1c zz fun o e c zz=>zc1a zz fun n' dt => ?_
   obtain ⟨as,ra⟩:=all ds xs its p h3 rv
   exact ⟨_,.tuple e c dt (by simpa using ra)⟩
  | lst ds =>
   rw [IsD.lst_iff] at q
   refine zc2c q fun a xs zr2 h2 h3 => ?_
   obtain rfl:=zr2
   obtain rfl:u=Value.ref a:=r
   refine zc0b (h2.ok ok) fun _ zz=>zc2b zz fun its n' rv e => ?_
   obtain ⟨as,ra⟩:=all ds xs its p h3 rv
   exact ⟨_,.list e rfl rfl (by simpa using ra)⟩
  | _=>exact zqb p
noncomputable section
open Classical
noncomputable def zbe (d e:D):Bool:=decide (d=e)
theorem zbm (d:D):zbe d d=true:=decide_eq_true rfl
theorem zdU {d e:D}:zbe d e=true↔d=e:=decide_eq_true_iff
theorem zcE {d e:D}:zbe d e=false↔d≠e:=decide_eq_false_iff_not
def gEq:D→D→Option D
 | .bl a,.bl b=>some (.bl (a == b))
 | d,e=>if plN 12 d&&plN 12 e then some (.bl (zbe d e)) else none
def gNe:D→D→Option D
 | .bl a,.bl b=>some (.bl (a != b))
 | d,e=>if plN 12 d&&plN 12 e then some (.bl (!zbe d e)) else none
end
theorem zkn {d e:D}(h1:plN 12 d=true)(h2:plN 12 e=true):gEq d e=some (.bl (zbe d e)):=by
 unfold gEq
 split
 ·exact zqb h1
 ·rw [h1,h2];rfl
theorem zkg {d e:D}(h1:plN 12 d=true)(h2:plN 12 e=true):gNe d e=some (.bl (!zbe d e)):=by
 unfold gNe
 split
 ·exact zqb h1
 ·rw [h1,h2];rfl
theorem zoC (i j:Int):gEq (.int i) (.int j)=some (.bl (decide (i=j))):=by
 rw [zkn rfl rfl]
 congr 2
 by_cases h:i=j
 ·rw [decide_eq_true h,h,zbm]
 ·rw [decide_eq_false h,zcE.mpr fun z=>h (by injection z)]
theorem zor (i j:Int):gNe (.int i) (.int j)=some (.bl (!decide (i=j))):=by
 rw [zkg rfl rfl]
 congr 3
 by_cases h:i=j
 ·rw [decide_eq_true h,h,zbm]
 ·rw [decide_eq_false h,zcE.mpr fun z=>h (by injection z)]
theorem o_eq (hu:X.A.units+64<cLine):OpD X (compareOp .Eq) gEq:=by
 rintro pins s σ H x y v u Q I rx ry ⟨F,d,e,z,sF,id,ie,hz,q⟩
 unfold gEq at hz
 split at hz
 ·rename_i a b
  obtain rfl:=Option.some.inj hz
  refine op_eq pins s σ H x y v u Q I rx ry ⟨?_,?_⟩
  ·rw [IsD.bl_iff.mp id,IsD.bl_iff.mp ie];rfl
  ·rw [IsD.bl_iff.mp id,IsD.bl_iff.mp ie]
   refine q _ F H (.refl sF) ?_
   rw [IsD.bl_iff]
   cases a<;>cases b<;>rfl
 ·split at hz
  ·rename_i hp
   rw [Bool.and_eq_true] at hp
   obtain rfl:=Option.some.inj hz
   obtain ⟨as,ra⟩:=zbD I.hok 12 d x v hp.1 (IsD.same sF _ _ id) rx
   obtain ⟨bs,rb⟩:=zbD I.hok 12 e y u hp.2 (IsD.same sF _ _ ie) ry
   obtain ⟨l1,z1⟩:=zeF 12 d hp.1
   obtain ⟨l2,z2⟩:=zeF 12 e hp.2
   refine PySem.SeqAt.compareEq_reads ra rb l1 l2 (by omega) ?_
   have hb:PyData.eqv (toPy d) (toPy e)=zbe d e:=Bool.eq_iff_iff.mpr ((zka 12 d e hp.1 hp.2).trans zdU.symm)
   rw [hb]
   exact ⟨.bl _,H,I,rfl,q _ F H (.refl sF) (isB _ F)⟩
  ·exact zqn hz
theorem o_ne (hu:X.A.units+64<cLine):OpD X (compareOp .NotEq) gNe:=by
 rintro pins s σ H x y v u Q I rx ry ⟨F,d,e,z,sF,id,ie,hz,q⟩
 unfold gNe at hz
 split at hz
 ·rename_i a b
  obtain rfl:=Option.some.inj hz
  refine op_ne pins s σ H x y v u Q I rx ry ⟨?_,?_⟩
  ·rw [IsD.bl_iff.mp id,IsD.bl_iff.mp ie];rfl
  ·rw [IsD.bl_iff.mp id,IsD.bl_iff.mp ie]
   refine q _ F H (.refl sF) ?_
   rw [IsD.bl_iff]
   cases a<;>cases b<;>rfl
 ·split at hz
  ·rename_i hp
   rw [Bool.and_eq_true] at hp
   obtain rfl:=Option.some.inj hz
   obtain ⟨as,ra⟩:=zbD I.hok 12 d x v hp.1 (IsD.same sF _ _ id) rx
   obtain ⟨bs,rb⟩:=zbD I.hok 12 e y u hp.2 (IsD.same sF _ _ ie) ry
   obtain ⟨l1,z1⟩:=zeF 12 d hp.1
   obtain ⟨l2,z2⟩:=zeF 12 e hp.2
   refine PySem.SeqAt.compareNe_reads ra rb l1 l2 (by omega) ?_
   have hb:PyData.eqv (toPy d) (toPy e)=zbe d e:=Bool.eq_iff_iff.mpr ((zka 12 d e hp.1 hp.2).trans zdU.symm)
   rw [hb]
   exact ⟨.bl _,H,I,rfl,q _ F H (.refl sF) (isB _ F)⟩
  ·exact zqn hz
end
end L2.DL
namespace L2.DL
open PySem PySem.Spec PyProof.Rows
theorem PE.or {X:Cx}{e:Expr}{t t':TE}(h:PE X e t)(h':PE X e t'):PE X e (fun σ H Q=>t σ H Q∨t' σ H Q):=fun pins s σ H Q I q=>q.elim (h pins s σ H Q I) (h' pins s σ H Q I)
theorem PT.or {X:Cx}{e:Expr}{t t':TT}(h:PT X e t)(h':PT X e t'):PT X e (fun σ H Q=>t σ H Q∨t' σ H Q):=fun pins s σ H Q I q=>q.elim (h pins s σ H Q I) (h' pins s σ H Q I)
noncomputable def zdo:D→Option Key
 | .int i=>some (.inl i)
 | .str x=>some (.inr x)
 | _=>none
theorem zeK {K:PySem.W.Frag}{H:Hp}{d:D}{k:Key}{v:V}(h:zdo d=some k)(i:IsD K H d v):v=kV k:=by
 cases d with
 | int j=>cases h;exact IsD.int_iff.mp i
 | str x=>cases h;exact IsD.str_iff.mp i
 | _=>exact zqn h
noncomputable def valD:List Key→List D→Key→Option D
 | k::ks,d::ds,q=>if k=q then some d else valD ks ds q
 | _,_,_=>none
theorem zj2 (k q:Key)(v:V)(r:List (Key×V)):valV ((k,v)::r) q=if k=q then some v else valV r q:=by
 unfold valV
 rw [List.find?_cons]
 by_cases h:k=q
 ·rw [if_pos h,decide_eq_true h];rfl
 ·rw [if_neg h,decide_eq_false h]
theorem zf5 {k q:Key}{ks:List Key}{d:D}{ds:List D}:valD (k::ks) (d::ds) q=if k=q then some d else valD ks ds q:=rfl
theorem zhc {K:PySem.W.Frag}{H:Hp}(q:Key):∀ {ks:List Key} {ds:List D} {xs:List V},ks.length=xs.length→IsDs K H ds xs →
 (∀ d,valD ks ds q=some d→∃ x,valV (ks.zip xs) q=some x∧IsD K H d x)∧(valD ks ds q=none→valV (ks.zip xs) q=none)
 | [],ds,xs,hl,h=>by
  have:xs=[]:=List.length_eq_zero_iff.mp hl.symm
  subst this
  refine ⟨fun d e => ?_,fun _=>rfl⟩
  cases ds<;>exact zqn e
 | k::ks,[],xs,hl,h=>by
  rw [IsDs.nil_iff] at h
  subst h
  cases hl
 | k::ks,d::ds,xs,hl,h=>by
  rw [IsDs.cons_iff] at h
  refine zc2c h fun x r zr2 h1 h2 => ?_
  obtain rfl:=zr2
  have ih:=zhc q (ks:=ks) (Nat.succ.inj hl) h2
  rw [List.zip_cons_cons,zj2]
  rw [zf5]
  by_cases hk:k=q
  ·rw [if_pos hk,if_pos hk]
   exact ⟨fun d' e=>by cases e;exact ⟨x,rfl,h1⟩,fun e=>by cases e⟩
  ·rw [if_neg hk,if_neg hk]
   exact ih
noncomputable def chgD:List Key→List D→Key→D→List D
 | k::ks,d::ds,q,v=>(if k=q then v else d)::chgD ks ds q v
 | _,_,_,_ => []
noncomputable def chgV:List Key→List V→Key→V→List V
 | k::ks,d::ds,q,v=>(if k=q then v else d)::chgV ks ds q v
 | _,_,_,_ => []
theorem zgy {k q:Key}{ks:List Key}{d v:D}{ds:List D}:chgD (k::ks) (d::ds) q v=(if k=q then v else d)::chgD ks ds q v:=rfl
theorem zkW {k q:Key}{ks:List Key}{d v:V}{ds:List V}:chgV (k::ks) (d::ds) q v=(if k=q then v else d)::chgV ks ds q v:=rfl
theorem zmK {K:PySem.W.Frag}{H:Hp}{q:Key}{d:D}{v:V}(hv:IsD K H d v):∀ {ks:List Key} {ds:List D} {xs:List V},ks.length=xs.length→IsDs K H ds xs→IsDs K H (chgD ks ds q d) (chgV ks xs q v)∧(chgV ks xs q v).length=ks.length ∧
 (ks.zip xs).map (fun kv=>if kv.1=q then (kv.1,v) else kv)=ks.zip (chgV ks xs q v)
 | [],ds,xs,hl,h=>by
  have:xs=[]:=List.length_eq_zero_iff.mp hl.symm
  subst this
  refine ⟨?_,rfl,rfl⟩
  cases ds<;>exact .nil
 | k::ks,[],xs,hl,h=>by
  rw [IsDs.nil_iff] at h
  subst h
  cases hl
 | k::ks,d'::ds,xs,hl,h=>by
  rw [IsDs.cons_iff] at h
  refine zc2c h fun x r zr2 h1 h2 => ?_
  obtain rfl:=zr2
  refine zc0c (zmK (q:=q) hv (ks:=ks) (Nat.succ.inj hl) h2) fun i1 i2 i3 => ?_
  rw [zgy,zkW]
  refine ⟨IsDs.mk ?_ i1,by rw [List.length_cons,i2];rfl,?_⟩
  ·by_cases hk:k=q
   ·rw [if_pos hk,if_pos hk];exact hv
   ·rw [if_neg hk,if_neg hk];exact h1
  ·rw [List.zip_cons_cons,List.map_cons,i3,List.zip_cons_cons]
   by_cases hk:k=q
   ·rw [if_pos hk,if_pos hk]
   ·rw [if_neg hk,if_neg hk]
noncomputable def hasK (q:Key)(ks:List Key):Bool:=ks.any fun k=>decide (k=q)
theorem ziX (q:Key):∀ {ks:List Key} {xs:List V},ks.length=xs.length→((ks.zip xs).any fun kv=>decide (kv.1=q))=hasK q ks
 | [],xs,_=>rfl
 | k::ks,[],h=>by cases h
 | k::ks,x::xs,h=>by
  rw [List.zip_cons_cons,List.any_cons,ziX q (Nat.succ.inj h)]
  rfl
def zhh (ks:List Key)(q:Key):List Key:=if hasK q ks=true then ks else ks++[q]
def zir (ks:List Key)(ds:List D)(q:Key)(v:D):List D:=if hasK q ks=true then chgD ks ds q v else ds++[v]
theorem zo5 {K:PySem.W.Frag}{H:Hp}{q:Key}{d:D}{v:V}{ks:List Key}{ds:List D}{xs:List V}(hl:ks.length=xs.length)(h:IsDs K H ds xs)(hv:IsD K H d v) :
 ∃ ys,putK (ks.zip xs) q v=(zhh ks q).zip ys∧(zhh ks q).length=ys.length∧IsDs K H (zir ks ds q d) ys:=by
 unfold putK zhh zir
 rw [ziX q hl]
 by_cases hm:hasK q ks=true
 ·rw [if_pos hm,if_pos hm,if_pos hm]
  refine zc0c (zmK (q:=q) hv hl h) fun h1 h2 h3 => ?_
  exact ⟨_,h3,h2.symm,h1⟩
 ·rw [if_neg hm,if_neg hm,if_neg hm]
  exact ⟨xs++[v],by rw [List.zip_append hl];rfl,by simp [hl],h.snoc hv⟩
section
variable {X:Cx}{E:XK}{m:Option Bool}{a b o i e:Expr}{fa fb fo fi fv:FE}{pos pos' apos cpos:Pos}
theorem zmR {K:PySem.W.Frag}{H:Hp}{ds:List D}{xs:List V}{k:Int}{d:D}(h:IsDs K H ds xs)(e:atI ds k=some d):∃ x,atI xs k=some x∧IsD K H d x:=by
 unfold atI at e ⊢
 rw [h.length]
 cases hj:ixN ds.length k with
 | none=>rw [hj] at e;exact zqn e
 | some j =>
  rw [hj] at e
  exact h.get e
def gIx:D→D→Option D
 | .lst ds,.int k=>atI ds k
 | .tup ds,.int k=>atI ds k
 | .scr ns,.int k=>(atI ns k).map .int
 | .str x,.int k=>if x.length≤sizeLine then (atI x.cps.toList k).map fun c=>.str ⟨#[c]⟩ else none
 | .dct ks ds,k=>(zdo k).bind fun q=>valD ks ds q
 | .dcf ks ds,k=>(zdo k).bind fun q=>valD ks ds q
 | _,_=>none
theorem zjf {K:PySem.W.Frag}{H:Hp}{d:D}{ks:List Key}{ds:List D}{v:V}(hd:d=.dct ks ds∨d=.dcf ks ds)(h:IsD K H d v):∃ a xs,v=.ref a∧Rd H a (.dK (ks.zip xs))∧ks.length=xs.length∧IsDs K H ds xs:=by
 rcases hd with rfl|rfl
 ·obtain ⟨a,xs,h1,h2,h3⟩:=IsD.dct_iff.mp h
  exact ⟨a,xs,h1,.inl h2,h3⟩
 ·obtain ⟨a,o,xs,h1,h2,h3⟩:=IsD.dcf_iff.mp h
  exact ⟨a,xs,h1,.inr ⟨o,h2⟩,h3⟩
theorem zeU {H H':Hp}{a:Addr}{u:HO}(e:Same H H')(h:Rd H a u):Rd H' a u:=h.imp (fun q=>e _ _ q) (by rintro ⟨o,q⟩;exact ⟨o,e _ _ q⟩)
theorem zjH {H:Hp}{a:Addr}{kvs:List (Key×V)}{k:Key}(e:Rd H a (.dK kvs)):DGet H a (kV k) (valV kvs k):=.inl ⟨kvs,k,e,rfl,rfl⟩
theorem zo8:IxR X (rD2 X.K fun d e=>match d with
 | .dct _ _=>none
 | .dcf _ _=>none
 | d=>gIx d e):=IxR.weak zqp fun x y H Q ⟨F,d,e,z,sF,id,ie,hz,q⟩=>by
 cases d with
 | lst ds =>
  cases e with
  | int k =>
   rw [IsD.lst_iff] at id
   refine zc2c id fun p xs zr2 h1 h2 => ?_
   obtain rfl:=zr2
   refine zc1b (zmR h2 (show atI ds k=some z from hz)) fun x hx i2 => ?_
   exact .inl ⟨p,xs,k,x,rfl,IsD.int_iff.mp ie,(h1.same sF).sq,hx,q _ F H (.refl sF) i2⟩
  | _=>exact zqn hz
 | tup ds =>
  cases e with
  | int k =>
   rw [IsD.tup_iff] at id
   refine zc2c id fun p xs zr2 h1 h2 => ?_
   obtain rfl:=zr2
   refine zc1b (zmR h2 (show atI ds k=some z from hz)) fun x hx i2 => ?_
   exact .inr (.inl ⟨p,xs,k,x,rfl,IsD.int_iff.mp ie,(h1.same sF).sq,hx,q _ F H (.refl sF) i2⟩)
  | _=>exact zqn hz
 | scr ns =>
  cases e with
  | int k =>
   rw [IsD.scr_iff] at id
   refine zc1b id fun p zr1 h1 => ?_
   obtain rfl:=zr1
   refine zc1b (Option.map_eq_some_iff.mp (show (atI ns k).map D.int=some z from hz)) fun j hj hz => ?_
   subst hz
   refine .inl ⟨p,_,k,.int j,rfl,IsD.int_iff.mp ie,Same.seq sF h1,?_,q _ F H (.refl sF) (isI _ F)⟩
   unfold atI at hj ⊢
   rw [List.length_map]
   cases hx:ixN ns.length k with
   | none=>rw [hx] at hj;exact zqn hj
   | some i=>rw [hx] at hj;show (ns.map V.int)[i]? = _;rw [List.getElem?_map,show ns[i]? = some j from hj];rfl
  | _=>exact zqn hz
 | str t =>
  cases e with
  | int k =>
   have hz:(if t.length≤sizeLine then (atI t.cps.toList k).map fun c=>D.str ⟨#[c]⟩ else none)=some z:=hz
   split at hz
   ·rename_i hl
    cases hc:atI t.cps.toList k with
    | none=>rw [hc] at hz;exact zqn hz
    | some c =>
     rw [hc] at hz
     obtain rfl:=Option.some.inj hz
     exact .inr (.inr ⟨t,k,c,IsD.str_iff.mp id,IsD.int_iff.mp ie,hl,hc,q _ F H (.refl sF) (IsD.str_iff.mpr rfl)⟩)
   ·exact zqn hz
  | _=>exact zqn hz
 | _=>exact zqn hz
theorem zaO (hu:X.A.units+1<cLine)(ha:QE X E a fa)(hb:QE X E b fb)(hs:zkR b)(hs2:NoSl b):QE X E (.Subscript a b pos) (dOp gIx fa fb) :=
 PE.weak (PE.or (zog hu ha hb hs2) (pe_ix (zo8) ha hb hs)) fun σ H Q h=>by
  refine zc3b h fun B F sd r n => ?_
  by_cases hd:∃ d ks ds,fa sd=.ok d∧(d=.dct ks ds∨d=.dcf ks ds)
  ·obtain ⟨d,ks,ds,hd,hc⟩:=hd
   refine .inl ⟨B,F,sd,r,(Res.need_bind n).monoE (fun x hx n1 v F1 H1 e1 i1 => ?_) fun _ _ q=>q⟩
   rw [hd] at hx
   cases hx
   refine ⟨B,F1,sd,r.step e1,(Res.need_bind n1).mono (fun y n2 w F2 H2 e2 i2 => ?_) fun _ _ q=>q.ext e1⟩
   refine zc1b (Res.need_ofO n2) fun z hz q => ?_
   obtain ⟨k,hk,hz⟩:=Option.bind_eq_some_iff.mp (show (zdo y).bind (fun q=>valD ks ds q)=some z by rcases hc with rfl|rfl<;>exact hz)
   refine zc2d (zjf hc i1) fun p xs zr2 h1 h2 h3 => ?_
   obtain rfl:=zr2
   refine zc1b ((zhc k h2 h3).1 z hz) fun x hx ix => ?_
   refine ⟨p,x,rfl,?_,q x F2 H2 (e1.trans e2) (IsD.same e2.ff _ _ ix)⟩
   rw [zeK hk i2,← hx]
   exact zjH (zeU e2.hh (zeU e1.fh h1))
  ·refine .inr (zkS ⟨B,F,sd,r,?_⟩)
   unfold dOp at n ⊢
   cases hx:fa sd with
   | ok d =>
    rw [hx] at n
    cases d with
    | dct ks ds=>exact absurd ⟨_,ks,ds,hx,.inl rfl⟩ hd
    | dcf ks ds=>exact absurd ⟨_,ks,ds,hx,.inr rfl⟩ hd
    | _=>exact n
   | no=>rw [hx] at n;exact n
   | ex c fs=>rw [hx] at n;exact n
def gIn (neg:Bool):D→D→Option D
 | k,.dct ks ds=>(zdo k).map fun q=>.bl (if neg then !(valD ks ds q).isSome else (valD ks ds q).isSome)
 | k,.dcf ks ds=>(zdo k).map fun q=>.bl (if neg then !(valD ks ds q).isSome else (valD ks ds q).isSome)
 | d,.lst ds=>if plN 12 d&&ds.all (plN 12) then some (.bl (if neg then !ds.any (fun e=>zbe e d) else ds.any fun e=>zbe e d)) else none
 | d,.tup ds=>if plN 12 d&&ds.all (plN 12) then some (.bl (if neg then !ds.any (fun e=>zbe e d) else ds.any fun e=>zbe e d)) else none
 | _,_=>none
theorem zm3 {K:PySem.W.Frag}{H:Hp}:∀ (n:Nat) (d e:D) (v:V),plN n d=true→plN n e=true→IsD K H d v→IsD K H e v→d=e
 | 0,_,_,_,h,_,_,_=>by exact zqb h
 | n+1,d,e,v,hd,he,h1,h2=>by
  have all:∀ (ds es:List D) (xs:List V),ds.all (plN n)=true→es.all (plN n)=true→IsDs K H ds xs→IsDs K H es xs→ds=es:=by
   intro ds
   induction ds with
   | nil =>
    intro es xs _ _ h1 h2
    rw [IsDs.nil_iff] at h1
    subst h1
    have:=h2.length
    exact (List.length_eq_zero_iff.mp this.symm).symm
   | cons d ds ih =>
    intro es xs p1 p2 h1 h2
    rw [List.all_cons,Bool.and_eq_true] at p1
    rw [IsDs.cons_iff] at h1
    refine zc2c h1 fun x r zr2 h3 h4 => ?_
    obtain rfl:=zr2
    cases es with
    | nil=>rw [IsDs.nil_iff] at h2;cases h2
    | cons e es =>
     rw [List.all_cons,Bool.and_eq_true] at p2
     rw [IsDs.cons_iff] at h2
     refine zc2c h2 fun x' r' e' h5 h6 => ?_
     cases e'
     rw [zm3 n d e x p1.1 p2.1 h3 h5,ih es r p1.2 p2.2 h4 h6]
  have ne:∀ {a:Addr} {xs ys:List V},TupD K H a xs→LstD K H a ys→False:=fun {a xs ys} q1 q2=>by
   rcases q2 with q2|⟨o,q2⟩
   ·rw [q1] at q2;cases q2
   ·rw [q1] at q2;cases q2
  cases d with
  | int i =>
   rw [IsD.int_iff] at h1;subst h1
   cases e with
   | int j=>rw [IsD.int_iff] at h2;cases h2;rfl
   | str j=>rw [IsD.str_iff] at h2;cases h2
   | non=>rw [IsD.non_iff] at h2;cases h2
   | tup es=>rw [IsD.tup_iff] at h2;obtain ⟨_,_,z,_⟩:=h2;cases z
   | lst es=>rw [IsD.lst_iff] at h2;obtain ⟨_,_,z,_⟩:=h2;cases z
   | _=>exact zqb he
  | str i =>
   rw [IsD.str_iff] at h1;subst h1
   cases e with
   | int j=>rw [IsD.int_iff] at h2;cases h2
   | str j=>rw [IsD.str_iff] at h2;cases h2;rfl
   | non=>rw [IsD.non_iff] at h2;cases h2
   | tup es=>rw [IsD.tup_iff] at h2;obtain ⟨_,_,z,_⟩:=h2;cases z
   | lst es=>rw [IsD.lst_iff] at h2;obtain ⟨_,_,z,_⟩:=h2;cases z
   | _=>exact zqb he
  | non =>
   rw [IsD.non_iff] at h1;subst h1
   cases e with
   | int j=>rw [IsD.int_iff] at h2;cases h2
   | str j=>rw [IsD.str_iff] at h2;cases h2
   | non=>rfl
   | tup es=>rw [IsD.tup_iff] at h2;obtain ⟨_,_,z,_⟩:=h2;cases z
   | lst es=>rw [IsD.lst_iff] at h2;obtain ⟨_,_,z,_⟩:=h2;cases z
   | _=>exact zqb he
  | tup ds =>
   rw [IsD.tup_iff] at h1
   refine zc2c h1 fun a xs zr2 q1 q2 => ?_
   obtain rfl:=zr2
   cases e with
   | int j=>rw [IsD.int_iff] at h2;cases h2
   | str j=>rw [IsD.str_iff] at h2;cases h2
   | non=>rw [IsD.non_iff] at h2;cases h2
   | tup es =>
    rw [IsD.tup_iff] at h2
    refine zc2c h2 fun a' xs' e' q3 q4 => ?_
    cases e'
    have q1':H a=some (.tup xs):=q1
    rw [show H a=some (.tup xs') from q3] at q1'
    cases q1'
    rw [all ds es _ hd he q2 q4]
   | lst es =>
    rw [IsD.lst_iff] at h2
    refine zc2c h2 fun a' xs' e' q3 q4 => ?_
    cases e'
    exact (ne q1 q3).elim
   | _=>exact zqb he
  | lst ds =>
   rw [IsD.lst_iff] at h1
   refine zc2c h1 fun a xs zr2 q1 q2 => ?_
   obtain rfl:=zr2
   cases e with
   | int j=>rw [IsD.int_iff] at h2;cases h2
   | str j=>rw [IsD.str_iff] at h2;cases h2
   | non=>rw [IsD.non_iff] at h2;cases h2
   | tup es =>
    rw [IsD.tup_iff] at h2
    refine zc2c h2 fun a' xs' e' q3 q4 => ?_
    cases e'
    exact (ne q3 q1).elim
   | lst es =>
    rw [IsD.lst_iff] at h2
    refine zc2c h2 fun a' xs' e' q3 q4 => ?_
    cases e'
    have:xs=xs':=by
     rcases q1 with q1|⟨_,q1⟩<;>rcases q3 with q3|⟨_,q3⟩<;>rw [q1] at q3<;>cases q3<;>rfl
    subst this
    rw [all ds es _ hd he q2 q4]
   | _=>exact zqb he
  | _=>exact zqb hd
def ValIs (K:PySem.W.Frag)(H:Hp)(d:D)(u:Value):Prop:=∃ v,RelV v u∧IsD K H d v
def eqTo (K:PySem.W.Frag)(H:Hp)(d:D)(u:Value):Bool:=@decide (ValIs K H d u) (Classical.propDecidable _)
theorem zkV {K:PySem.W.Frag}{H:Hp}{d e:D}{v:V}{u:Value}(hd:plN 12 d=true)(he:plN 12 e=true)(h:IsD K H e v)(r:RelV v u):eqTo K H d u=zbe e d:=by
 unfold eqTo
 by_cases q:e=d
 ·rw [q,zbm]
  exact @decide_eq_true _ (Classical.propDecidable _) ⟨v,r,q ▸ h⟩
 ·rw [zcE.mpr q]
  refine @decide_eq_false _ (Classical.propDecidable _) fun ⟨v',r',h'⟩=>q ?_
  rw [r'.inj r] at h'
  exact zm3 12 e d v he hd h h'
theorem zm9 {P:Program}{w:World}{K:PySem.W.Frag}{A:Around}{s:Shared}{H:Hp}(hu:A.units+60<cLine)(ok:HOk P w H s.heap){d:D}{x:V}{v:Value}(hp:plN 12 d=true)(hx:IsD K H d x)(rx:RelV x v) :
 ∀ {ds:List D} {xs:List V} {us:List Value},ds.all (plN 12)=true→IsDs K H ds xs→Vals xs us→us.map (eqTo K H d)=ds.map (fun e=>zbe e d)∧∀ u∈us,SeqAt.EqAt A s u v (eqTo K H d u):=by
 intro ds
 induction ds with
 | nil =>
  intro xs us _ h1 h2
  rw [IsDs.nil_iff] at h1
  subst h1
  cases h2
  exact ⟨rfl,fun u hu=>nomatch hu⟩
 | cons e ds ih =>
  intro xs us hq h1 h2
  rw [List.all_cons,Bool.and_eq_true] at hq
  rw [IsDs.cons_iff] at h1
  refine zc2c h1 fun y rs zr2 h3 h4 => ?_
  obtain rfl:=zr2
  cases h2 with
  | cons r1 r2 =>
   obtain ⟨i1,i2⟩:=ih hq.2 h4 r2
   obtain ⟨as,ra⟩:=zbD ok 12 e y _ hq.1 h3 r1
   obtain ⟨cs,rb⟩:=zbD ok 12 d x v hp hx rx
   obtain ⟨l1,z1⟩:=zeF 12 e hq.1
   obtain ⟨l2,z2⟩:=zeF 12 d hp
   have es:=zkV hp hq.1 h3 r1
   refine ⟨by rw [List.map_cons,List.map_cons,i1,es],fun u hm => ?_⟩
   rcases List.mem_cons.mp hm with hm|hm
   ·subst hm
    rw [es,← (Bool.eq_iff_iff.mpr ((zka 12 e d hq.1 hp).trans zdU.symm):PyData.eqv (toPy e) (toPy d)=zbe e d)]
    exact SeqAt.eqAt_reads (toPy e) (toPy d) A s _ v as cs ra rb l1 l2 (by omega)
   ·exact i2 u hm
theorem zdu {α : Type}{f : α → Bool}{l:List α}:l.any f=(l.map f).any id:=by rw [List.any_map];rfl
theorem zk1 (hu:X.A.units+64<cLine)(neg:Bool):OpR X (compareOp (if neg then .NotIn else .In)) (rD2 X.K fun d e=>match e with
 | .dct _ _=>none
 | .dcf _ _=>none
 | e=>gIn neg d e):=by
 rintro pins s σ H x y v u Q I rx ry ⟨F,d,e,z,sF,id,ie,hz,q⟩
 have id':=IsD.same sF _ _ id
 cases e with
 | lst ds =>
  have hz:(if plN 12 d&&ds.all (plN 12) then some (D.bl (if neg then !ds.any (fun e=>zbe e d) else ds.any fun e=>zbe e d)) else none)=some z:=hz
  split at hz
  ·rename_i hp
   rw [Bool.and_eq_true] at hp
   obtain rfl:=Option.some.inj hz
   rw [IsD.lst_iff] at ie
   refine zc2c ie fun p xs zr2 h1 h2 => ?_
   obtain rfl:=zr2
   obtain rfl:u=Value.ref p:=ry
   refine zc1c (I.list (h1.same sF).sq) fun its ri pl hl => ?_
   obtain ⟨k1,k2⟩:=zm9 (A:=X.A.in1) (by show X.A.units+1+60<cLine;omega) I.hok hp.1 id' rx hp.2 (IsDs.same sF _ _ h2) ri
   have ea:its.toArray.any (eqTo X.K H d)=ds.any (fun e=>zbe e d):=by
    rw [show its.toArray.any (eqTo X.K H d)=its.any (eqTo X.K H d) by simp,zdu,k1,← zdu]
   cases neg with
   | true =>
    refine SeqAt.notIn_listAt (eqTo X.K H d) pl.isList (fun w hw=>k2 w (by simpa using hw)) ⟨.bl _,H,I,rfl,?_⟩
    rw [ea]
    exact q _ F H (.refl sF) (isB _ F)
   | false =>
    refine SeqAt.in_listAt (eqTo X.K H d) pl.isList (fun w hw=>k2 w (by simpa using hw)) ⟨.bl _,H,I,rfl,?_⟩
    rw [ea]
    exact q _ F H (.refl sF) (isB _ F)
  ·exact zqn hz
 | tup ds =>
  have hz:(if plN 12 d&&ds.all (plN 12) then some (D.bl (if neg then !ds.any (fun e=>zbe e d) else ds.any fun e=>zbe e d)) else none)=some z:=hz
  split at hz
  ·rename_i hp
   rw [Bool.and_eq_true] at hp
   obtain rfl:=Option.some.inj hz
   rw [IsD.tup_iff] at ie
   refine zc2c ie fun p xs zr2 h1 h2 => ?_
   obtain rfl:=zr2
   obtain rfl:u=Value.ref p:=ry
   refine zc1c (I.tuple (h1.same sF).sq) fun its ri pl hl => ?_
   obtain ⟨k1,k2⟩:=zm9 (A:=X.A.in1) (by show X.A.units+1+60<cLine;omega) I.hok hp.1 id' rx hp.2 (IsDs.same sF _ _ h2) ri
   have ea:its.toArray.any (eqTo X.K H d)=ds.any (fun e=>zbe e d):=by
    rw [show its.toArray.any (eqTo X.K H d)=its.any (eqTo X.K H d) by simp,zdu,k1,← zdu]
   cases neg with
   | true =>
    refine SeqAt.notIn_tupleAt (eqTo X.K H d) pl (fun w hw=>k2 w (by simpa using hw)) ⟨.bl _,H,I,rfl,?_⟩
    rw [ea]
    exact q _ F H (.refl sF) (isB _ F)
   | false =>
    refine SeqAt.in_tupleAt (eqTo X.K H d) pl (fun w hw=>k2 w (by simpa using hw)) ⟨.bl _,H,I,rfl,?_⟩
    rw [ea]
    exact q _ F H (.refl sF) (isB _ F)
  ·exact zqn hz
 | _=>exact zqn hz
theorem zni {K:PySem.W.Frag}{neg:Bool}{σ : St}{H:Hp}{Q:VK}(h:tD K E (dOp (gIn neg) fa fb) σ H Q) :
 (fun σ H Q=>tD K E fa σ H fun y H1=>tD K E fb σ H1 fun x H2 => ∃ a o,x=.ref a∧DGet H2 a y o∧Q (.bl (if neg then !o.isSome else o.isSome)) H2) σ H Q∨tOp (rD2 K fun d e=>match e with
 | .dct _ _=>none
 | .dcf _ _=>none
 | e=>gIn neg d e) (tD K E fa) (tD K E fb) σ H Q:=by
 refine zc3b h fun B F sd r n => ?_
 by_cases hd:∃ d ks ds,fb sd=.ok d∧(d=.dct ks ds∨d=.dcf ks ds)
 ·obtain ⟨d,ks,ds,hd,hc⟩:=hd
  refine .inl ⟨B,F,sd,r,(Res.need_bind n).mono (fun x n1 v F1 H1 e1 i1 => ?_) fun _ _ q=>q⟩
  refine ⟨B,F1,sd,r.step e1,(Res.need_bind n1).monoE (fun y hy n2 w F2 H2 e2 i2 => ?_) fun _ _ q=>q.ext e1⟩
  rw [hd] at hy
  cases hy
  refine zc1b (Res.need_ofO n2) fun z hz q => ?_
  obtain ⟨k,hk,hz⟩:=Option.map_eq_some_iff.mp (show (zdo x).map (fun q=>D.bl (if neg then !(valD ks ds q).isSome else (valD ks ds q).isSome))=some z by rcases hc with rfl|rfl<;>exact hz)
  subst hz
  refine zc2d (zjf hc i2) fun p xs zr2 h1 h2 h3 => ?_
  obtain rfl:=zr2
  obtain ⟨g1,g2⟩:=zhc k h2 h3
  refine ⟨p,valV (ks.zip xs) k,rfl,?_,?_⟩
  ·rw [zeK hk i1]
   exact zjH (zeU e2.fh h1)
  ·have es:(valV (ks.zip xs) k).isSome=(valD ks ds k).isSome:=by
    cases hv:valD ks ds k with
    | none=>rw [g2 hv];rfl
    | some d=>obtain ⟨x,hx,_⟩:=g1 d hv;rw [hx];rfl
   rw [es]
   exact q _ F2 H2 (e1.trans e2) (IsD.bl_iff.mpr rfl)
 ·refine .inr (zkS ⟨B,F,sd,r,?_⟩)
  unfold dOp at n ⊢
  cases hx:fa sd with
  | ok d =>
   rw [hx] at n
   cases hy:fb sd with
   | ok e =>
    rw [hy] at n
    cases e with
    | dct ks ds=>exact absurd ⟨_,ks,ds,hy,.inl rfl⟩ hd
    | dcf ks ds=>exact absurd ⟨_,ks,ds,hy,.inr rfl⟩ hd
    | _=>exact n
   | no=>rw [hy] at n;exact n
   | ex c fs=>rw [hy] at n;exact n
  | no=>rw [hx] at n;exact n
  | ex c fs=>rw [hx] at n;exact n
theorem q_in (hu:X.A.units+64<cLine)(ha:QE X E a fa)(hb:QE X E b fb)(hm:autoParam (behindInMarks .In b=false) zau._auto_1):QE X E (.Compare a [.In] [b] pos) (dOp (gIn false) fa fb) :=
 PE.weak (PE.or (zmT (zmD (by omega) ha hb) hm) (zkX (zk1 hu false) ha hb hm)) fun σ H Q h=>zni h
theorem zpy (hu:X.A.units+64<cLine)(ha:QE X E a fa)(hb:QE X E b fb)(hm:autoParam (behindInMarks .In b=false) zau._auto_1):QT X E (.Compare a [.In] [b] pos) (zar (dOp (gIn false) fa fb)) :=
 PT.weak (PT.or (zhP (zmD (by omega) ha hb) hm) (zgP (zk1 hu false) ha hb hm)) fun σ H Q h=>zni (zbq h)
theorem zdw (hu:X.A.units+64<cLine)(ha:QE X E a fa)(hb:QE X E b fb)(hm:autoParam (behindInMarks .NotIn b=false) zau._auto_1):QT X E (.Compare a [.NotIn] [b] pos) (zar (dOp (gIn true) fa fb)) :=
 PT.weak (PT.or (zhP (zjl (by omega) ha hb) hm) (zgP (zk1 hu true) ha hb hm)) fun σ H Q h=>zni (zbq h)
end
end L2.DL
namespace L2.DL
open PySem PySem.Spec PyProof.Rows
section
variable {X:Cx}{E:XK}{m:Option Bool}{a b o i e f tg:Expr}{fa fb fo fi fv:FE}{fr:FA}{pos pos' apos cpos p:Pos}
theorem zb7 {K:PySem.W.Frag}{H:Hp}{d:D}{vs:List V}(h:IsDs K H [d] vs):∃ v,vs=[v]∧IsD K H d v:=by
 rw [IsDs.cons_iff] at h
 refine zc2c h fun v r zr2 h1 h2 => ?_
 obtain rfl:=zr2
 rw [IsDs.nil_iff] at h2
 subst h2
 exact ⟨v,rfl,h1⟩
theorem zoy {K:PySem.W.Frag}{H:Hp}{d e:D}{vs:List V}(h:IsDs K H [d,e] vs):∃ v w,vs=[v,w]∧IsD K H d v∧IsD K H e w:=by
 rw [IsDs.cons_iff] at h
 refine zc2c h fun v r zr2 h1 h2 => ?_
 obtain rfl:=zr2
 refine zc1b (zb7 h2) fun w zr1 h3 => ?_
 obtain rfl:=zr1
 exact ⟨v,w,rfl,h1,h3⟩
noncomputable def gLen:List D→Option D
 | [.lst ds]=>some (.int ds.length)
 | [.tup ds]=>some (.int ds.length)
 | [.dct ks _]=>some (.int ks.length)
 | [.scr ns]=>some (.int ns.length)
 | [.str x]=>if x.length≤sizeLine then some (.int x.length) else none
 | _=>none
noncomputable def LenP (ds:List D)(z:D):Prop:=(∃ es,ds=[.lst es]∧z=.int es.length)∨(∃ es,ds=[.tup es]∧z=.int es.length)∨(∃ ks es,ds=[.dct ks es]∧z=.int ks.length)∨(∃ ns,ds=[.scr ns]∧z=.int ns.length)∨∃ x,x.length≤sizeLine∧ds=[.str x]∧z=.int x.length
theorem zlw {ds:List D}{z:D}(hz:gLen ds=some z):LenP ds z:=by
 cases ds with
 | nil=>exact zqn hz
 | cons d ds =>
  cases ds with
  | nil =>
   cases d with
   | lst ds=>exact .inl ⟨_,rfl,(Option.some.inj hz).symm⟩
   | tup ds=>exact .inr (.inl ⟨_,rfl,(Option.some.inj hz).symm⟩)
   | dct ks ds=>exact .inr (.inr (.inl ⟨_,_,rfl,(Option.some.inj hz).symm⟩))
   | scr ns=>exact .inr (.inr (.inr (.inl ⟨_,rfl,(Option.some.inj hz).symm⟩)))
   | str x=>exact let q:=zfi hz;.inr (.inr (.inr (.inr ⟨_,q.1,rfl,q.2.symm⟩)))
   | _=>exact zqn hz
  | cons e ds=>cases d<;>exact zqn hz
theorem zep:za1 X (.builtin "len") (rDA X.K gLen):=za1.weak (za1.or zgD (za1.or zkj zf6)) fun xs H Q zh=>by
 obtain ⟨F,ds,z,sF,id,hz,q⟩:=zh
 rcases zlw hz with ⟨es,rfl,rfl⟩|⟨es,rfl,rfl⟩|⟨ks,es,rfl,rfl⟩|⟨ns,rfl,rfl⟩|⟨x,hl,rfl,rfl⟩
 ·obtain ⟨v,rfl,h⟩:=zb7 id
  rw [IsD.lst_iff] at h
  obtain ⟨a,ys,rfl,h1,h2⟩:=h
  rw [← h2.length] at q
  exact .inl ⟨a,ys,rfl,.inl (h1.same sF).sq,q _ F H (.refl sF) (isI _ F)⟩
 ·obtain ⟨v,rfl,h⟩:=zb7 id
  rw [IsD.tup_iff] at h
  obtain ⟨a,ys,rfl,h1,h2⟩:=h
  rw [← h2.length] at q
  exact .inl ⟨a,ys,rfl,.inr (h1.same sF).sq,q _ F H (.refl sF) (isI _ F)⟩
 ·obtain ⟨v,rfl,h⟩:=zb7 id
  rw [IsD.dct_iff] at h
  obtain ⟨a,ys,rfl,h1,h2,h3⟩:=h
  refine .inr (.inl ⟨a,_,rfl,sF _ _ h1,?_⟩)
  rw [List.length_zip,← h2,Nat.min_self]
  exact q _ F H (.refl sF) (isI _ F)
 ·obtain ⟨v,rfl,h⟩:=zb7 id
  rw [IsD.scr_iff] at h
  obtain ⟨a,rfl,h1⟩:=h
  refine .inl ⟨a,_,rfl,.inl (Same.seq sF h1),?_⟩
  rw [List.length_map]
  exact q _ F H (.refl sF) (isI _ F)
 ·obtain ⟨v,rfl,h⟩:=zb7 id
  rw [IsD.str_iff] at h
  subst h
  exact .inr (.inr ⟨_,rfl,hl,q _ F H (.refl sF) (isI _ F)⟩)
noncomputable def zii:List D→Option D
 | [.int i,.int j]=>some (.int (if j<i then j else i))
 | _=>none
noncomputable def IntsP (ds:List D):Prop:=∃ i j,ds=[.int i,.int j]
theorem znU {ds:List D}{z:D}(hz:zii ds=some z):IntsP ds:=by
 cases ds with
 | nil=>exact zqn hz
 | cons d ds =>
  cases ds with
  | nil=>cases d<;>exact zqn hz
  | cons e ds =>
   cases d with
   | int i =>
    cases e with
    | int j =>
     cases ds with
     | nil=>exact ⟨_,_,rfl⟩
     | cons _ _=>exact zqn hz
    | _=>exact zqn hz
   | _=>exact zqn hz
theorem zpz (hc:X.calm=true):za1 X (.builtin "min") (rDA X.K zii):=za1.weak (zjs hc) fun xs H Q zh=>by
 refine zc3a zh fun F ds z zz=>zc0d zz fun sF id hz q => ?_
 refine zc2a (znU hz) fun i j zr2 => ?_
 obtain rfl:=zr2
 obtain rfl:=Option.some.inj hz
 refine zc2c (zoy id) fun v w zr2 h1 h2 => ?_
 obtain rfl:=zr2
 exact ⟨_,_,by rw [IsD.int_iff.mp h1,IsD.int_iff.mp h2],q _ F H (.refl sF) (isI _ F)⟩
def zhN:D→Option (List Int)
 | .lst ds=>zb8 zi9 ds
 | _=>none
theorem zkZ {K:PySem.W.Frag}{H:Hp}{d:D}{ns:List Int}{v:V}(h:zhN d=some ns)(i:IsD K H d v):∃ a,v=.ref a∧LstD K H a (ns.map V.int):=by
 cases d with
 | lst ds =>
  rw [IsD.lst_iff] at i
  refine zc2c i fun a xs zr2 h1 h2 => ?_
  obtain rfl:=zr2
  rw [zit (show zb8 zi9 ds=some ns from h)] at h2
  rw [IsDs.ints_iff h2] at h1
  exact ⟨a,rfl,h1⟩
 | _=>exact zqn h
theorem zi2 (ns:List Int):zhN (.lst (ns.map D.int))=some ns:=zi3 ns
def zgK:List D→Option D
 | [d]=>(zhN d).bind fun ns=>if ns=[] then none else some (.int (maxI ns))
 | _=>none
theorem zmU (hc:X.calm=true):za1 X (.builtin "max") (rDA X.K zgK):=za1.weak (zja hc) fun xs H Q zh=>by
 refine zc3a zh fun F ds z zz=>zc0d zz fun sF id hz q => ?_
 unfold zgK at hz
 split at hz
 ·refine zc1b (Option.bind_eq_some_iff.mp hz) fun ns h1 hz => ?_
  split at hz
  ·exact zqn hz
  ·rename_i hn
   obtain rfl:=Option.some.inj hz
   refine zc1b (zb7 id) fun v zr1 h => ?_
   obtain rfl:=zr1
   refine zc1b (zkZ h1 h) fun a zr1 h2 => ?_
   obtain rfl:=zr1
   exact ⟨a,ns,rfl,(h2.same sF).sq,hn,q _ F H (.refl sF) (isI _ F)⟩
 ·exact zqn hz
noncomputable def tyN:D→Option String
 | .non=>some "NoneType"
 | .bl _=>some "bool"
 | .int _=>some "int"
 | .str _=>some "str"
 | .lst _=>some "list"
 | .tup _=>some "tuple"
 | .dct _ _=>some "dict"
 | _=>none
noncomputable def tyIn (t n:String):Bool:=(t == n)||(t == "bool" && n == "int")
noncomputable def zd3 (t n:String):Bool:=["NoneType", "bool", "int", "str", "list", "tuple", "dict"].contains t&&["bool", "int", "str", "list", "tuple", "dict"].contains n
theorem zng (K:PySem.W.Frag)(t n:String)(h:zd3 t n=true):PySem.W.kitOne K (.type t) (.type n)=some (tyIn t n):=by
 unfold zd3 at h
 rw [Bool.and_eq_true,List.contains_iff_mem,List.contains_iff_mem] at h
 obtain ⟨h1,h2⟩:=h
 simp only [List.mem_cons,List.not_mem_nil,or_false] at h1 h2
 rcases h1 with rfl|rfl|rfl|rfl|rfl|rfl|rfl<;>rcases h2 with rfl|rfl|rfl|rfl|rfl|rfl<;>first|rfl|kernel_rfl
def gIsi:List D→Option D
 | [d,.ty n]=>(tyN d).bind fun t=>if zd3 t n then some (.bl (tyIn t n)) else none
 | _=>none
theorem zpE {K:PySem.W.Frag}{H:Hp}{d:D}{v:V}{t:String}(h:tyN d=some t)(i:IsD K H d v):TyOf K H v (.type t):=by
 cases d with
 | non=>cases h;rw [IsD.non_iff.mp i];exact .non
 | bl b=>cases h;rw [IsD.bl_iff.mp i];exact .bl b
 | int j=>cases h;rw [IsD.int_iff.mp i];exact .int j
 | str x=>cases h;rw [IsD.str_iff.mp i];exact .str x
 | lst ds =>
  obtain rfl:=Option.some.inj h
  rw [IsD.lst_iff] at i
  refine zc2c i fun a xs zr2 h1 _ => ?_
  obtain rfl:=zr2
  rcases h1 with h1|⟨o,h1⟩
  ·exact .lst h1
  ·exact .frz h1
 | tup ds =>
  obtain rfl:=Option.some.inj h
  rw [IsD.tup_iff] at i
  refine zc2c i fun a xs zr2 h1 _ => ?_
  obtain rfl:=zr2
  exact .tup h1
 | dct ks ds =>
  obtain rfl:=Option.some.inj h
  rw [IsD.dct_iff] at i
  refine zc2c i fun a xs zr2 h1 _ => ?_
  obtain rfl:=zr2
  exact .dK h1
 | ty n=>exact zqn h
 | scr n=>exact zqn h
 | ins C fs ds=>exact zqn h
 | exc c=>exact zqn h
 | ucl c=>exact zqn h
 | adr c=>exact zqn h
 | dcf c ds=>exact zqn h
def IsiP (ds:List D)(z:D):Prop:=∃ d n t,ds=[d,.ty n]∧tyN d=some t∧zd3 t n=true∧z=.bl (tyIn t n)
theorem zmj {ds:List D}{z:D}(hz:gIsi ds=some z):IsiP ds z:=by
 cases ds with
 | nil=>exact zqn hz
 | cons d ds =>
  cases ds with
  | nil=>exact zqn hz
  | cons e ds =>
   cases ds with
   | nil =>
    cases e with
    | ty n =>
     refine zc1b (Option.bind_eq_some_iff.mp (show (tyN d).bind (fun t=>if zd3 t n then some (D.bl (tyIn t n)) else none)=some z from hz)) fun t h1 hz => ?_
     exact ⟨d,n,t,rfl,h1,(zfi hz).1,(zfi hz).2.symm⟩
    | _=>exact zqn hz
   | cons _ _=>cases e<;>exact zqn hz
theorem zoc:za1 X (.builtin "isinstance") (rDA X.K gIsi):=za1.weak zlJ fun xs H Q zh=>by
 refine zc3a zh fun F ds z zz=>zc0d zz fun sF id hz q => ?_
 refine zc3a (zmj hz) fun d n t zz=>zc0d zz fun zr3 h1 hk zr6 => ?_
 obtain rfl:=zr3
 obtain rfl:=zr6
 refine zc2c (zoy id) fun v w zr2 h2 h3 => ?_
 obtain rfl:=zr2
 exact ⟨v,_,_,_,by rw [IsD.ty_iff.mp h3],zpE h1 (IsD.same sF _ _ h2),zng _ _ _ hk,q _ F H (.refl sF) (isB _ F)⟩
theorem znc {n:String}{x:Str}{u:Value}(hg:Gl X x)(hm:X.mg x=none)(hv:bootBuiltins x=some u)(r:RelV (.ty n) u)(hn:autoParam (x ≠ "__name__") zav._auto_1)(hd:autoParam ((x == ("__debug__" : Str))=false) zav._auto_1):QE X E (.Name x pos) (dC (.ty n)) :=
 zeQ (zoo (v:=.ty n) hg hm hv r hn hd) fun _=>IsD.ty_iff.mpr rfl
noncomputable def ziD:List D→Option D
 | [.lst ds]=>some (.lst ds)
 | [.tup ds]=>some (.lst ds)
 | [.scr ns]=>some (.lst (ns.map .int))
 | _=>none
noncomputable def ListP (ds:List D)(z:D):Prop:=(∃ es,ds=[.lst es]∧z=.lst es)∨(∃ es,ds=[.tup es]∧z=.lst es)∨∃ ns,ds=[.scr ns]∧z=.lst (ns.map .int)
theorem zki {ds:List D}{z:D}(hz:ziD ds=some z):ListP ds z:=by
 cases ds with
 | nil=>exact zqn hz
 | cons d ds =>
  cases ds with
  | nil =>
   cases d with
   | lst ds=>exact .inl ⟨_,rfl,(Option.some.inj hz).symm⟩
   | tup ds=>exact .inr (.inl ⟨_,rfl,(Option.some.inj hz).symm⟩)
   | scr ns=>exact .inr (.inr ⟨_,rfl,(Option.some.inj hz).symm⟩)
   | _=>exact zqn hz
  | cons e ds=>cases d<;>exact zqn hz
theorem zmM:za1 X (.type "list") (rDAN X.K ziD):=za1.weak zfT fun xs H Q zh=>by
 obtain ⟨F,ds,z,sF,id,hz,q⟩:=zh
 have fin:∀ {es:List D} {ys:List V},IsDs X.K F es ys→OkN X.K F H Q (.lst es)→∀ l,H l=none→Q (.ref l) (upd H l (.lst ys)):=fun {es ys} h q l hl =>
  q l F _ (.keep sF hl _) hl (zak sF hl) ⟨ys,zai,h⟩
 rcases zki hz with ⟨es,rfl,rfl⟩|⟨es,rfl,rfl⟩|⟨ns,rfl,rfl⟩
 ·obtain ⟨v,rfl,h⟩:=zb7 id
  rw [IsD.lst_iff] at h
  obtain ⟨a,ys,rfl,h1,h2⟩:=h
  exact ⟨a,ys,rfl,.inl (h1.same sF).sq,fin h2 q⟩
 ·obtain ⟨v,rfl,h⟩:=zb7 id
  rw [IsD.tup_iff] at h
  obtain ⟨a,ys,rfl,h1,h2⟩:=h
  exact ⟨a,ys,rfl,.inr (h1.same sF).sq,fin h2 q⟩
 ·obtain ⟨v,rfl,h⟩:=zb7 id
  rw [IsD.scr_iff] at h
  obtain ⟨a,rfl,h1⟩:=h
  exact ⟨a,_,rfl,.inl (Same.seq sF h1),fin (IsDs.ints _) q⟩
noncomputable def zhQ:List D→Option D
 | [.lst ds]=>some (.tup ds)
 | [.tup ds]=>some (.tup ds)
 | _=>none
noncomputable def TupP (ds:List D)(z:D):Prop:=(∃ es,ds=[.lst es]∧z=.tup es)∨∃ es,ds=[.tup es]∧z=.tup es
theorem ziB {ds:List D}{z:D}(hz:zhQ ds=some z):TupP ds z:=by
 cases ds with
 | nil=>exact zqn hz
 | cons d ds =>
  cases ds with
  | nil =>
   cases d with
   | lst ds=>exact .inl ⟨_,rfl,(Option.some.inj hz).symm⟩
   | tup ds=>exact .inr ⟨_,rfl,(Option.some.inj hz).symm⟩
   | _=>exact zqn hz
  | cons e ds=>cases d<;>exact zqn hz
theorem zmZ:za1 X (.type "tuple") (rDA X.K zhQ):=za1.weak zfv fun xs H Q zh=>by
 refine zc3a zh fun F ds z zz=>zc0d zz fun sF id hz q => ?_
 rcases ziB hz with ⟨es,rfl,rfl⟩|⟨es,rfl,rfl⟩
 ·refine zc1b (zb7 id) fun v zr1 h => ?_
  obtain rfl:=zr1
  rw [IsD.lst_iff] at h
  refine zc2c h fun a ys zr2 h1 h2 => ?_
  obtain rfl:=zr2
  refine ⟨a,ys,rfl,.inl ⟨(h1.same sF).sq,fun l hl => ?_⟩⟩
  have ea:=Ext.alloc sF hl (.tup ys)
  exact q _ _ _ ea (IsD.tup_iff.mpr ⟨l,ys,rfl,.of zai,IsDs.same ea.ff _ _ h2⟩)
 ·refine zc1b (zb7 id) fun v zr1 h => ?_
  obtain rfl:=zr1
  have h':=h
  rw [IsD.tup_iff] at h
  refine zc2c h fun a ys zr2 h1 h2 => ?_
  obtain rfl:=zr2
  exact ⟨a,ys,rfl,.inr ⟨(h1.same sF).sq,q _ F H (.refl sF) h'⟩⟩
noncomputable def dcR (r:List (Int×Int)):D:=.dct (r.map fun p=>.inl p.1) (r.map fun p=>.int p.2)
def zih (r:List (Int×Int)):List (Int×Int):=r.foldl (fun a p=>putR a p.1 p.2) []
theorem zne (r:List (Int×Int)):zjc r=kvR (zih r):=zgA r []
theorem ziE {r:List (Int×Int)}(h:Once r):zih r=r:=by
 have:=zfG r [] (by simpa using h)
 unfold zih
 simpa using this
theorem zn8 (r:List (Int×Int)):kvR r=(r.map fun p=>(Sum.inl p.1:Key)).zip (r.map fun p=>V.int p.2):=by
 unfold kvR
 induction r with
 | nil=>rfl
 | cons p r ih=>rw [List.map_cons,ih];rfl
theorem zmn (K:PySem.W.Frag)(F:Hp)(r:List (Int×Int)):IsDs K F (r.map fun p=>D.int p.2) (r.map fun p=>V.int p.2):=by
 have:=IsDs.ints (K:=K) (H:=F) (r.map (·.2))
 rw [List.map_map,List.map_map] at this
 exact this
def zf2:List D→Option D
 | [d]=>(zer d).bind fun r=>if r.length≤100 then some (dcR (zih r)) else none
 | _=>none
theorem zh4 (hc:X.calm=true):za1 X (.type "dict") (rDAN X.K zf2):=za1.weak (zig hc) fun xs H Q zh=>by
 refine zc3a zh fun F ds z zz=>zc0d zz fun sF id hz q => ?_
 unfold zf2 at hz
 split at hz
 ·refine zc1b (Option.bind_eq_some_iff.mp hz) fun r h1 hz => ?_
  split at hz
  ·rename_i hl
   obtain rfl:=Option.some.inj hz
   refine zc1b (zb7 id) fun v zr1 h => ?_
   obtain rfl:=zr1
   rw [zfV h1,zoB] at h
   have h':=Is.same sF _ _ h
   refine zc2b ((show ∃ a xs,v=.ref a∧_ by unfold rD at h;rw [Is.tuple_iff] at h;exact h)) fun a ys e _ => ?_
   subst e
   refine ⟨a,r,rfl,h',hl,fun p hp => ?_⟩
   refine q p F _ (.keep sF hp _) hp (zak sF hp) ⟨(zih r).map fun p=>V.int p.2,?_,by simp,zmn _ _ _⟩
   rw [zai,zne,zn8]
  ·exact zqn hz
 ·exact zqn hz
noncomputable def zi5:FE:=fun _=>.ok (.dct [] [])
theorem zmF:QN X E (.Dict [] [] pos) zi5:=PE.weak zmv (by rintro σ H Q ⟨B,F,sd,r,n⟩;exact fun p hp=>n p F _ (.keep r.ext.fh hp _) hp (zak r.ext.fh hp) ⟨[],zai,rfl,.nil⟩)
noncomputable def zn9:D→Option (List D)
 | .lst ds=>some ds
 | .scr ns=>some (ns.map .int)
 | _=>none
noncomputable def walkT:D→Option (List D)
 | .tup ds=>some ds
 | _=>none
def iL (f:FE):FA:=fun sd=>(f sd).bind fun d=>.ofO (zn9 d)
def iT (f:FE):FA:=fun sd=>(f sd).bind fun d=>.ofO (walkT d)
theorem zcY {K:PySem.W.Frag}{F1:Hp}{J:It}{ds:List D}{xs:List V}{S:Hp→Prop}(h:IsDs K F1 ds xs)(sm:∀ F H,Same F1 F→Same F H→S H)(g:∀ i H x,S H→xs[i]? = some x→J.go i H)(st:∀ i H,S H→xs.length≤i→J.stop i H)
 (yl:∀ i H x H',S H→J.yld i H x H'→H'=H∧xs[i]? = some x):Walk K F1 J ds:=fun i F2 H2 s1 s2=>by
 have hS:=sm F2 H2 s1 s2
 refine ⟨fun hi => ?_,fun hi=>st i H2 hS (by rw [h.length];exact hi)⟩
 refine zc1b (h.get (List.getElem?_eq_getElem hi)) fun x hx _ => ?_
 refine ⟨g i H2 x hS hx,fun y H3 hy => ?_⟩
 obtain ⟨rfl,hy'⟩:=yl i H2 y H3 hS hy
 refine zc1b (h.getV hy') fun d hd id => ?_
 exact ⟨d,F2,hd,.refl s2,IsD.same s1 _ _ id⟩
theorem znC (h:QE X E e fa):QI X E tg e (iL fa):=PI.weak (znO h) fun σ H R zh=>by
 refine zc3b zh fun B F sd r n => ?_
 refine ⟨B,F,sd,r,(Res.need_bind n).mono (fun d n1 v F1 H1 e1 i1 => ?_) fun _ _ q=>q⟩
 refine zc1b (Res.need_ofO n1) fun ds hz q => ?_
 cases d with
 | lst es =>
  obtain rfl:=Option.some.inj hz
  rw [IsD.lst_iff] at i1
  refine zc2c i1 fun a xs zr2 h1 h2 => ?_
  obtain rfl:=zr2
  refine ⟨a,rfl,⟨xs,(h1.same e1.fh).sq⟩,q _ F1 H1 e1 (zcY (S:=fun H=>SqL X.K H a xs) h2 (fun F H s1 s2=>((h1.same s1).same s2).sq) (fun i H x hS hx=>⟨xs,x,hS,hx⟩) (fun i H hS hi=>⟨xs,hS,hi⟩) fun i H x H' hS hy=>⟨hy.1,hy.2 xs hS⟩)⟩
 | scr ns =>
  obtain rfl:=Option.some.inj hz
  rw [IsD.scr_iff] at i1
  refine zc1b i1 fun a zr1 h1 => ?_
  obtain rfl:=zr1
  refine ⟨a,rfl,⟨_,Same.seq e1.fh h1⟩,q _ F1 H1 e1 (zcY (S:=fun H=>SqL X.K H a (ns.map V.int)) (IsDs.ints ns) (fun F H s1 s2=>Same.seq s2 (Same.seq s1 h1)) (fun i H x hS hx=>⟨_,x,hS,hx⟩) (fun i H hS hi=>⟨_,hS,hi⟩) fun i H x H' hS hy=>⟨hy.1,hy.2 _ hS⟩)⟩
 | _=>exact zqn hz
theorem zp0 (h:QE X E e fa):QI X E tg e (iT fa):=PI.weak (zpw h) fun σ H R zh=>by
 refine zc3b zh fun B F sd r n => ?_
 refine ⟨B,F,sd,r,(Res.need_bind n).mono (fun d n1 v F1 H1 e1 i1 => ?_) fun _ _ q=>q⟩
 refine zc1b (Res.need_ofO n1) fun ds hz q => ?_
 cases d with
 | tup es =>
  obtain rfl:=Option.some.inj hz
  rw [IsD.tup_iff] at i1
  refine zc2c i1 fun a xs zr2 h1 h2 => ?_
  obtain rfl:=zr2
  refine ⟨a,rfl,⟨xs,(h1.same e1.fh).sq⟩,q _ F1 H1 e1 (zcY (S:=fun H=>SqT X.K H a xs) h2 (fun F H s1 s2=>((h1.same s1).same s2).sq) (fun i H x hS hx=>⟨xs,x,hS,hx⟩) (fun i H hS hi=>⟨xs,hS,hi⟩) fun i H x H' hS hy=>⟨hy.1,hy.2 xs hS⟩)⟩
 | _=>exact zqn hz
noncomputable def PIor {X:Cx}{tg e:Expr}{t t':TI}(h:PI X tg e t)(h':PI X tg e t'):PI X tg e (fun σ H R=>t σ H R∨t' σ H R):=fun pins s σ H R I q=>q.elim (h pins s σ H R I) (h' pins s σ H R I)
noncomputable def zei:D→Option (List D)
 | .lst ds=>some ds
 | .scr ns=>some (ns.map .int)
 | .tup ds=>some ds
 | _=>none
def iS (f:FE):FA:=fun sd=>(f sd).bind fun d=>.ofO (zei d)
theorem zaZ (h:QE X E e fa):QI X E tg e (iS fa):=PI.weak (PIor (znC (E:=E) h) (zp0 (E:=E) h)) fun σ H R zh=>by
 refine zc3b zh fun B F sd r n => ?_
 by_cases hd:∃ ds,fa sd=.ok (.tup ds)
 ·obtain ⟨ds,hd⟩:=hd
  refine .inr ⟨B,F,sd,r,?_⟩
  unfold iS at n
  unfold iT
  rw [hd] at n ⊢
  exact n
 ·refine .inl ⟨B,F,sd,r,?_⟩
  unfold iS at n
  unfold iL
  cases hx:fa sd with
  | ok d =>
   rw [hx] at n
   cases d with
   | tup ds=>exact absurd ⟨ds,hx⟩ hd
   | _=>exact n
  | no=>rw [hx] at n;exact n
  | ex c fs=>rw [hx] at n;exact n
noncomputable def za7 (lo:Int)(n:Nat):List D:=(List.range n).map fun k:Nat=>.int (lo+k)
noncomputable def zej (j:Int):Bool:=Nat.ble j.toNat 1000000000&&Nat.ble (-j).toNat 1000000000
theorem zbW {j:Int}(h:zej j=true) : -(2 ^ 62)≤j∧j<2 ^ 62:=by
 unfold zej at h
 rw [Bool.and_eq_true,Nat.ble_eq,Nat.ble_eq] at h
 omega
theorem zfo {j:Int}(h1 : -1000000000≤j)(h2:j≤1000000000):zej j=true:=by
 unfold zej
 rw [Bool.and_eq_true,Nat.ble_eq,Nat.ble_eq]
 omega
def iR1 (fr:FA):FA:=fun sd=>(fr sd).bind fun ds=>match ds with
 | [.int j]=>if zej j then .ok (za7 0 j.toNat) else .no
 | _=>.no
def iR2 (fr:FA):FA:=fun sd=>(fr sd).bind fun ds=>match ds with
 | [.int i,.int j]=>if zej i&&zej j then .ok (za7 i (j-i).toNat) else .no
 | _=>.no
theorem ze4 {K:PySem.W.Frag}{F1:Hp}(lo:Int)(n:Nat):Walk K F1 (Itr lo n) (za7 lo n):=fun i F2 H2 s1 s2=>by
 have hl:(za7 lo n).length=n:=by unfold za7;rw [List.length_map,List.length_range]
 rw [hl]
 refine ⟨fun hi=>⟨hi,fun x H3 hy => ?_⟩,fun hi=>hi⟩
 obtain ⟨rfl,rfl⟩:=hy
 refine ⟨.int (lo+i),F2,?_,.refl s2,IsD.int_iff.mpr rfl⟩
 unfold za7
 rw [List.getElem?_map,List.getElem?_range hi]
 rfl
theorem zcD {a:Expr}(hg:Gl X "range")(hm:X.mg "range" = none)(ha:QA X E [a] fr)(hs:autoParam (starEach [a] X.env=[(false,eval a X.env)]) zau._auto_1):QI X E tg (.Call (.Name "range" p) [a] [] pos) (iR1 fr):=PI.weak (zjS hg hm ha hs) fun σ H R zh=>by
 refine zc3b zh fun B F sd r n => ?_
 refine ⟨B,F,sd,r,(Res.need_bind n).mono (fun ds n1 vs F1 H1 e1 i1 => ?_) fun _ _ q=>q⟩
 split at n1
 ·split at n1
  ·rename_i j hj
   refine zc1b (zb7 i1) fun v zr1 h => ?_
   obtain rfl:=zr1
   rw [IsD.int_iff.mp h]
   exact ⟨j,rfl,(zbW hj).1,(zbW hj).2,n1 _ F1 H1 e1 (ze4 0 _)⟩
  ·exact n1.elim
 ·exact n1.elim
theorem zkp {a b:Expr}(hg:Gl X "range")(hm:X.mg "range" = none)(ha:QA X E [a,b] fr)(hs:autoParam (starEach [a,b] X.env=[(false,eval a X.env),(false,eval b X.env)]) zau._auto_1)(hs2:autoParam (starEach [b] X.env=[(false,eval b X.env)]) zau._auto_1):QI X E tg (.Call (.Name "range" p) [a,b] [] pos) (iR2 fr):=PI.weak (zkI hg hm ha hs hs2) fun σ H R zh=>by
 obtain ⟨B,F,sd,r,n⟩:=zh
 refine ⟨B,F,sd,r,(Res.need_bind n).mono (fun ds n1 vs F1 H1 e1 i1 => ?_) fun _ _ q=>q⟩
 split at n1
 ·split at n1
  ·rename_i i j hj
   obtain ⟨v,w,rfl,h,h'⟩:=zoy i1
   rw [IsD.int_iff.mp h,IsD.int_iff.mp h']
   rw [Bool.and_eq_true] at hj
   exact ⟨i,j,rfl,⟨(zbW hj.1).1,(zbW hj.1).2,(zbW hj.2).1,(zbW hj.2).2⟩,n1 _ F1 H1 e1 (ze4 i _)⟩
  ·exact n1.elim
 ·exact n1.elim
end
end L2.DL
namespace L2.DL
open PySem PySem.Spec PyProof.Rows
section
variable {X:Cx}{E:XK}{m:Option Bool}{a b o i e f tg:Expr}{fa fb fo fi fv:FE}{fr:FA}{pos pos' apos cpos p:Pos}
theorem PG.weak {e:Expr}{t t':TG}(h:PG X e t)(w:∀ v σ H Q,t' v σ H Q→t v σ H Q):PG X e t':=fun pins s σ H v u Q I r q=>h pins s σ H v u Q I r (w _ _ _ _ q)
def zkM:List Nat→TGs
 | []=>gNil
 | i::is=>zpU (zfP i) (zkM is)
theorem zfL:∀ {is:List Nat} {xs:List V} {σ : St} {H:Hp} {Q:St→Hp→Prop},xs.length=is.length→Q (zeN is xs σ) H→zkM is xs σ H Q
 | [],xs,σ,H,Q,hl,q=>⟨List.length_eq_zero_iff.mp hl,q⟩
 | i::is,[],σ,H,Q,hl,q=>by cases hl
 | i::is,x::xs,σ,H,Q,hl,q=>⟨x,xs,rfl,zfL (is:=is) (xs:=xs) (Nat.succ.inj hl) q⟩
theorem zba {i:Nat}{e:Expr}(h:PG X e (zfP i)):QG X e (.one i):=h
theorem zde (is:List Nat){e:Expr}(h:PG X e (gTup X.K is.length (zkM is))):QG X e (.tup is):=PG.weak h (by rintro v σ H Q ⟨a,xs,e,h1,h2,q⟩;exact ⟨a,xs,e,h1,h2,zfL h2 q⟩)
def zdl (tg:Tg)(c:FT)(f:FE)(sd:SD):List D→Res (List D)
 | []=>.ok []
 | x::xs=>(zaQ tg x sd).bind fun s=>(c s).bind fun b=>if b then (f s).bind fun y=>(zdl tg c f sd xs).bind fun ys=>.ok (y::ys) else zdl tg c f sd xs
def zbT (cap:List (Option Nat))(it:FA)(tg:Tg)(c:FT)(f:FE):FE:=fun sd=>(it sd).bind fun ds=>if zcy (capD cap sd) tg=true∧ds.length<sizeLine then
 (zdl tg c f (capD cap sd) ds).bind fun ys=>.ok (.lst ys) else .no
theorem zeG {K:PySem.W.Frag}{t:Tg}{fi:FA}{fc:FT}{f:FE}{cap:List (Option Nat)}{σ : St}{H:Hp}{Q:VK}(hh:tDN K E (zbT cap fi t fc f) σ H Q):zee cap (tDI K E fi) (gT t K) (tDT K E fc) (tD K E f) σ H Q:=by
 refine zc3b hh fun B F sd r n => ?_
 refine ⟨B,F,sd,r,(Res.need_bind n).mono (fun ds n1 J F1 H1 e1 wk => ?_) fun _ _ q=>q⟩
 split at n1
 ·rename_i hh
  obtain ⟨hn,hz⟩:=hh
  refine ⟨fun i k ys σ H2=>k=ds.length-i∧i≤ds.length∧∃ F2 es,Ext F1 H1 F2 H2∧RS K B F2 H2 (capD cap sd) σ ∧ IsDs K F2 es ys∧es.length≤i ∧
   (zdl t fc f (capD cap sd) (ds.drop i)).need (fun rs=>OkN K F2 H2 Q (.lst (es++rs))) (XW K E F2 H2),⟨ds.length,rfl,Nat.zero_le _,F1,[],.refl e1.fh,(r.step e1).cap cap,.nil,Nat.le_refl _,?_⟩,?_⟩
  ·exact (Res.need_bind n1).mono (fun rs q=>(show OkN K F H Q (.lst rs) from q).ext e1) fun _ _ q=>q.ext e1
  rintro i k ys σ2 H2 ⟨rfl,hi,F2,es,e2,r2,i2,hl,n2⟩
  have ly:=i2.length
  refine ⟨by omega,?_⟩
  obtain ⟨w1,w2⟩:=wk i F2 H2 e2.ff e2.fh
  by_cases hlt:i<ds.length
  ·obtain ⟨go,yl⟩:=w1 hlt
   refine .inr ⟨go,fun x H3 y => ?_⟩
   refine zc2c (yl x H3 y) fun d F3 hd e3 i3 => ?_
   rw [List.drop_eq_getElem_cons hlt] at n2
   have hd':ds[i]=d:=by rw [List.getElem?_eq_getElem hlt] at hd;exact Option.some.inj hd
   rw [hd'] at n2
   unfold zdl at n2
   have r3:=r2.step e3
   refine zji (K:=K) r3 i3 (Res.need_bind n2) fun sd' σ' n4 hb r4 => ?_
   obtain ⟨b1,b2⟩:=zcT hn hb
   refine ⟨B,F3,sd',r4,(Res.need_bind n4).mono (fun b n5 F4 H4 e4 => ?_) fun _ _ q=>q.ext e3⟩
   cases b with
   | true =>
    refine ⟨B,F4,sd',r4.step e4,(Res.need_bind n5).mono (fun y n6 v F5 H5 e5 i5 => ?_) fun _ _ q=>q.ext (e3.trans e4)⟩
    refine ⟨ds.length-(i+1),by omega,rfl,hlt,F5,es++[y],((e2.trans e3).trans e4).trans e5,((r4.step e4).step e5).forget b1 b2,(IsDs.same ((e3.ff.trans e4.ff).trans e5.ff) _ _ i2).snoc i5,by rw [List.length_append];exact Nat.succ_le_succ hl,?_⟩
    refine (Res.need_bind n6).mono (fun rs q => ?_) fun _ _ q=>q.ext ((e3.trans e4).trans e5)
    rw [List.append_assoc]
    exact (show OkN K F2 H2 Q (.lst (es++y::rs)) from q).ext ((e3.trans e4).trans e5)
   | false =>
    refine ⟨ds.length-(i+1),by omega,rfl,hlt,F4,es,(e2.trans e3).trans e4,(r4.step e4).forget b1 b2,IsDs.same (e3.ff.trans e4.ff) _ _ i2,Nat.le_succ_of_le hl,?_⟩
    exact (show (zdl t fc f (capD cap sd) (ds.drop (i+1))).need _ _ from n5).mono (fun rs q=>q.ext (e3.trans e4)) fun _ _ q=>q.ext (e3.trans e4)
  ·have he:i=ds.length:=by omega
   subst he
   refine .inl ⟨w2 (Nat.le_refl _),fun D hD => ?_⟩
   rw [List.drop_length] at n2
   have q:OkN K F2 H2 Q (.lst (es++[])):=n2
   rw [List.append_nil] at q
   exact q D F2 _ (.keep r2.ext.fh hD _) hD (zak r2.ext.fh hD) ⟨ys,zai,i2⟩
 ·exact n1.elim
theorem zlY {tg iter elt c:Expr}{scope:Scope}{t:Tg}{fi:FA}{fc:FT}{f:FE}(N:List Str)(cap:List (Option Nat))(hc:X.calm=true)(okB:zbd scope X.env N X.N cap=true)(hi:QI X E tg iter fi)
 (hg:∀ cl C s H ex,QG (zap X scope N cl C s H ex) tg t) (ht:∀ cl C s H ex,QT (zap X scope N cl C s H ex) E c fc) (he:∀ cl C s H ex,QE (zap X scope N cl C s H ex) E elt f) (hs:autoParam (∀ x,foldedSetIterable iter X.env x=pure x) zaw._auto_1) :
 QN X E (.ListComp elt [⟨tg,iter,[c],0⟩] scope pos) (zbT cap fi t fc f):=PE.weak (zlg (g:=gT t X.K) (tt:=tDT X.K E fc) (te:=tD X.K E f) N cap hc okB hi hg ht he hs) fun _ _ _ h=>zeG h
noncomputable def zlb:List Key→List D→Option (List (Int×Int))
 | .inl k::ks,.int v::ds=>(zlb ks ds).map fun r=>(k,v)::r
 | [],[]=>some []
 | _,_=>none
theorem zdS (r:List (Int×Int)):zlb (r.map fun p=>.inl p.1) (r.map fun p=>.int p.2)=some r:=by
 induction r with
 | nil=>rfl
 | cons p r ih=>exact congrArg (Option.map fun r=>(p.1,p.2)::r) ih
end
end L2.DL
namespace L2.DL
open PySem PySem.Spec PyProof.Rows
section
variable {X:Cx}{E:XK}{m:Option Bool}{a b o i e f tg:Expr}{fa fb fo fi fv:FE}{fr:FA}{pos pos' apos cpos p:Pos}
noncomputable def gIsN (neg:Bool):D→Option D
 | .non=>some (.bl (!neg))
 | _=>some (.bl neg)
noncomputable def zqz:D→Bool
 | .non=>true
 | _=>false
theorem zhS {K:PySem.W.Frag}{H:Hp}{d:D}{v:V}(h:IsD K H d v):decide (v=.non)=zqz d:=by
 cases d with
 | non=>rw [IsD.non_iff.mp h];rfl
 | bl b=>rw [IsD.bl_iff.mp h];rfl
 | int b=>rw [IsD.int_iff.mp h];rfl
 | str b=>rw [IsD.str_iff.mp h];rfl
 | ty b=>rw [IsD.ty_iff.mp h];rfl
 | scr b=>obtain ⟨a,rfl,_⟩:=IsD.scr_iff.mp h;rfl
 | tup b=>obtain ⟨a,_,rfl,_⟩:=IsD.tup_iff.mp h;rfl
 | lst b=>obtain ⟨a,_,rfl,_⟩:=IsD.lst_iff.mp h;rfl
 | dct b c=>obtain ⟨a,_,rfl,_⟩:=IsD.dct_iff.mp h;rfl
 | ins b c d=>obtain ⟨a,_,_,_,rfl,_⟩:=IsD.ins_iff.mp h;rfl
 | exc b=>obtain ⟨a,_,rfl,_⟩:=IsD.exc_iff.mp h;rfl
 | ucl b=>obtain ⟨a,rfl,_⟩:=IsD.ucl_iff.mp h;rfl
 | adr b=>rw [IsD.adr_iff.mp h];rfl
 | dcf b c=>obtain ⟨a,_,_,rfl,_⟩:=IsD.dcf_iff.mp h;rfl
theorem zm6 {K:PySem.W.Frag}{σ : St}{H:Hp}{Q:VK}(h:tD K E (dUn (gIsN false) fa) σ H Q):tIsN (tD K E fa) σ H Q:=by
 obtain ⟨B,F,sd,r,n⟩:=h
 refine ⟨B,F,sd,r,(Res.need_bind n).mono (fun x n1 v F1 H1 e1 i1 => ?_) fun _ _ q=>q⟩
 show Q (V.bl (decide (v=V.non))) H1
 rw [zhS i1]
 cases x<;>exact n1 _ F1 H1 e1 (IsD.bl_iff.mpr rfl)
theorem zjI {K:PySem.W.Frag}{σ : St}{H:Hp}{Q:VK}(h:tD K E (dUn (gIsN true) fa) σ H Q):zpY (tD K E fa) σ H Q:=by
 obtain ⟨B,F,sd,r,n⟩:=h
 refine ⟨B,F,sd,r,(Res.need_bind n).mono (fun x n1 v F1 H1 e1 i1 => ?_) fun _ _ q=>q⟩
 show Q (V.bl !decide (v=V.non)) H1
 rw [zhS i1]
 cases x<;>exact n1 _ F1 H1 e1 (IsD.bl_iff.mpr rfl)
theorem q_isN {j pos'}(ha:QE X E a fa):QE X E (.Compare a [.Is] [.Constant .none j pos'] pos) (dUn (gIsN false) fa):=PE.weak (zmT (zmV ha)) fun _ _ _ h=>zm6 h
theorem zm7 {j pos'}(ha:QE X E a fa):QT X E (.Compare a [.Is] [.Constant .none j pos'] pos) (zar (dUn (gIsN false) fa)):=PT.weak (zhP (zmV ha)) fun _ _ _ h=>zm6 (zbq h)
theorem zjB {j pos'}(ha:QE X E a fa):QT X E (.Compare a [.IsNot] [.Constant .none j pos'] pos) (zar (dUn (gIsN true) fa)):=PT.weak (zhP (znm ha)) fun _ _ _ h=>zjI (zbq h)
end
end L2.DL
namespace L2
open PySem PySem.Spec PyProof.Rows
section
variable {X:Cx}{tg iter elt c:Expr}{scope:Scope}{pos:Pos}{wi:TI}{g:TG}{te:TE}{tt:TT}
theorem zox {y:Str}{py:Pos}{iy:Nat}{pins:List (Addr×Obj)}{σ : St}{DD:Ends}(hNN:X.N.Nodup)(hiy:X.N[iy]? = some y)(hyy:Loc X.env.scope y)(hyf:X.fn y=true∨X.env.scope.names.lookup y=some .local) :
 zd9 X pins σ (fun v H'=>DD.nx (σ.set iy (some v)) H') (some (assign (.Name y py) X.env)) (fun _ s'=>SP X pins DD .next s'):=fun C D m s5 r hm nC nF sz cC pC k=>by
 refine zc2d (k s5.heap ⟨rfl,fun _ _=>rfl⟩) fun v5 H5 K5 rv5 fC q5 => ?_
 refine zc3c (id hm) fun oC esC epC hoC hdC hrC => ?_
 have KP:Inv X (pins++[(C,oC)]) σ H5 { s5 with heap:=s5.heap }:=K5.pins_of fun p hp=>by
  rcases List.mem_append.mp hp with hp|hp
  ·exact K5.pin p (List.mem_append_right _ hp)
  ·have e:=List.mem_singleton.mp hp
   subst e
   exact ⟨hoC,fC,nC,nF,fun v z=>by rw [show oC.data=_ from z] at hdC;cases hdC⟩
 refine wpAny_assign_Name (zeL KP hNN hiy hyy rv5 (fun s6 I6 => ?_) hyf)
 have p6:=I6.pin (C,oC) (List.mem_append_right _ (List.mem_append_right _ List.mem_cons_self))
 refine ⟨m,⟨oC,esC,epC,p6.1,hdC,hrC⟩,fun h' hs'=>⟨_,H5,?_,q5⟩⟩
 exact (I6.pins_of (pins':=pins) fun p hp=>I6.pin p (List.mem_append_right _ (List.mem_append_left _ hp))).turned (t':=s6.toks) (it:=C) (fun b o hb e=>(hs'.2 b hb).trans e) fC nC (.inr sz) cC pC
theorem zfB {y:Str}{py spos:Pos}{iy:Nat}(hsw:swapsWith (.ListComp elt [⟨tg,iter,[c],0⟩] scope pos) (some (.Name y py)) spos.line X.env=pure true)(hNN:X.N.Nodup)(hiy:X.N[iy]? = some y)(hyy:Loc X.env.scope y)(hyf:X.fn y=true∨X.env.scope.names.lookup y=some .local)(N:List Str)(cap:List (Option Nat))(hc:X.calm=true)(okB:zbd scope X.env N X.N cap=true)(hi:PI X tg iter wi)(hg:∀ cl C s H ex,PG (zap X scope N cl C s H ex) tg g)(ht:∀ cl C s H ex,PT (zap X scope N cl C s H ex) c tt)(he:∀ cl C s H ex,PE (zap X scope N cl C s H ex) elt te)
 (hs:autoParam (∀ x,foldedSetIterable iter X.env x=pure x) zaw._auto_1):PS X (.Assign [.Name y py] (.ListComp elt [⟨tg,iter,[c],0⟩] scope pos) spos) (tAsg (zee cap wi g tt te) (zfP iy)):=by
 intro pins s σ H DD I h
 rw [exec_Assign_Name_used _ _ _ _ hsw]
 refine wpAny_bind (wpAny_standAt (wpAny_bind ?_))
 refine wpAny_bind (wpAny_mono (zga (use:=some (assign (.Name y py) X.env)) (R:=fun _ s'=>SP X pins DD .next s') N cap hc okB hi hg ht he hs I h (zox hNN hiy hyy hyf)) (fun _ s' hq=>wpAny_pure (wpAny_pure hq)) fun _ _ e=>e)
end
end L2
namespace L2.DL
open PySem PySem.Spec PyProof.Rows
section
variable {X:Cx}{E:XK}{m:Option Bool}{tg iter elt c:Expr}{scope:Scope}{pos spos py:Pos}{y:Str}{iy:Nat}{t:Tg}{fi:FA}{fc:FT}{f:FE}
theorem zn3 {K:PySem.W.Frag}{te:TE}{i:Nat}{fe:FE}(w:∀ σ H Q,tDN K E fe σ H Q→te σ H Q){T:Ends}{σ : St}{H:Hp}(h:tDS K E m (sSet i fe) T σ H):tAsg te (zfP i) T σ H:=w _ _ _ (by
 obtain ⟨B,F,sd,r,n⟩:=h
 refine ⟨B,F,sd,r,(Res.need_bind n).mono (fun d n1=>OkD.new fun v F1 H1 e1 i1 => ?_) fun _ _ q=>q.ext r.ext⟩
 exact n1 _ F1 H1 e1.ff ((r.step e1).setVal i1))
theorem zdh (N:List Str)(cap:List (Option Nat))(hNN:X.N.Nodup)(hiy:X.N[iy]? = some y)(hyy:Loc X.env.scope y)(hc:X.calm=true)(okB:zbd scope X.env N X.N cap=true)(hi:QI X E tg iter fi)
 (hg:∀ cl C s H ex,QG (zap X scope N cl C s H ex) tg t) (ht:∀ cl C s H ex,QT (zap X scope N cl C s H ex) E c fc) (he:∀ cl C s H ex,QE (zap X scope N cl C s H ex) E elt f) (hsw:autoParam (swapsWith (.ListComp elt [⟨tg,iter,[c],0⟩] scope pos) (some (.Name y py)) spos.line X.env=pure true) zau._auto_1)
 (hyf:X.fn y=true∨X.env.scope.names.lookup y=some .local:=by first|exact .inl rfl|exact .inr rfl) (hs:∀ x,foldedSetIterable iter X.env x=pure x:=by intro _;rfl) :
 QS X E m (.Assign [.Name y py] (.ListComp elt [⟨tg,iter,[c],0⟩] scope pos) spos) (sSet iy (zbT cap fi t fc f)):=by
 have hh:=zfB (g:=gT t X.K) (tt:=tDT X.K E fc) (te:=tD X.K E f) hsw hNN hiy hyy hyf N cap hc okB hi hg ht he hs
 exact PS.weak hh fun T σ H h=>zn3 (fun _ _ _ q=>zeG q) h
end
end L2.DL
namespace L2.DL
open PySem PySem.Spec PyProof.Rows
noncomputable def zoS:Option (Option SV)→Res D
 | some (some (.val d))=>.ok d
 | _=>.no
@[simp] theorem zpG (d:D):zoS (some (some (.val d)))=.ok d:=rfl
@[simp] theorem zoY (i:Nat)(sd:SD):dVar i sd=zoS sd[i]? := rfl
@[simp] theorem ev_C (d:D)(sd:SD):dC d sd=.ok d:=rfl
@[simp] theorem ev_op (g:D→D→Option D)(fa fb:FE)(sd:SD):dOp g fa fb sd=(fa sd).bind fun x=>(fb sd).bind fun y=>.ofO (g x y):=rfl
@[simp] theorem ev_un (g:D→Option D)(fa:FE)(sd:SD):dUn g fa sd=(fa sd).bind fun x=>.ofO (g x):=rfl
noncomputable def bOf:D→Res Bool
 | .bl b=>.ok b
 | _=>.no
@[simp] theorem bOf_bl (b:Bool):bOf (.bl b)=.ok b:=rfl
@[simp] theorem ev_bool (fa:FE)(sd:SD):zar fa sd=(fa sd).bind bOf:=by
 unfold zar
 cases fa sd with
 | ok d=>cases d<;>rfl
 | ex c fs=>rfl
 | no=>rfl
@[simp] theorem ev_notT (f:FT)(sd:SD):zce f sd=(f sd).bind fun b=>.ok (!b):=rfl
@[simp] theorem ev_andT (f g:FT)(sd:SD):zof f g sd=(f sd).bind fun b=>if b then g sd else .ok false:=rfl
@[simp] theorem ev_orT (f g:FT)(sd:SD):dOrT f g sd=(f sd).bind fun b=>if b then .ok true else g sd:=rfl
@[simp] theorem ev_andV (fa fb:FE)(sd:SD):ziF fa fb sd=(zar fa sd).bind fun b=>if b then fb sd else .ok (.bl false):=rfl
@[simp] theorem ev_notV (fa:FE)(sd:SD):znp fa sd=(zar fa sd).bind fun b=>.ok (.bl !b):=rfl
@[simp] theorem zqf (sd:SD):dNil sd=.ok []:=rfl
@[simp] theorem zoe (fa:FE)(fr:FA)(sd:SD):zac fa fr sd=(fa sd).bind fun x=>(fr sd).bind fun xs=>.ok (x::xs):=rfl
@[simp] theorem ev_lst (fr:FA)(sd:SD):dLst fr sd=(fr sd).bind fun xs=>if xs.length≤1000 then .ok (.lst xs) else .no:=rfl
@[simp] theorem ev_tup (fr:FA)(sd:SD):dTup fr sd=(fr sd).bind fun xs=>if xs.length≤1000 then .ok (.tup xs) else .no:=rfl
@[simp] theorem ev_call (Fn:List D→Res D)(fr:FA)(sd:SD):zax Fn fr sd=(fr sd).bind Fn:=rfl
@[simp] theorem zqd (g:List D→Option D)(fr:FA)(sd:SD):dBlt g fr sd=(fr sd).bind fun xs=>.ofO (g xs):=rfl
@[simp] theorem bare_ok {α : Type}(a : α):(Res.ok a).bare=.ok a:=rfl
@[simp] theorem ev_tmp (is:List Nat)(f:FE)(sd:SD):dTmp is f sd=(f (frzD is sd)).bare.bind fun d=>if zb4 d then .ok d else .no:=rfl
@[simp] theorem scal_bl (i:Bool):zb4 (.bl i)=true:=rfl
@[simp] theorem scal_non:zb4 .non=true:=rfl
@[simp] theorem frzD_nil (sd:SD):frzD [] sd=sd:=rfl
noncomputable def frz1 (i:Nat)(sd:SD):Option (Option SV)→SD
 | some (some (.own _ d))=>sd.set i (some (.val d))
 | _=>sd
@[simp] theorem frz1_own (i:Nat)(sd:SD)(p:Bool)(d:D):frz1 i sd (some (some (.own p d)))=sd.set i (some (.val d)):=rfl
@[simp] theorem frz1_val (i:Nat)(sd:SD)(d:D):frz1 i sd (some (some (.val d)))=sd:=rfl
@[simp] theorem zpv (i:Nat)(is:List Nat)(sd:SD):frzD (i::is) sd=frzD is (frz1 i sd sd[i]?):=by
 show frzD is _=frzD is _
 congr 1
noncomputable def seqK (g:FS):Out→Res Out
 | .next sd=>g sd
 | o=>.ok o
@[simp] theorem zkT (g:FS)(sd:SD):seqK g (.next sd)=g sd:=rfl
@[simp] theorem seqK_ret (g:FS)(d:D):seqK g (.ret d)=.ok (.ret d):=rfl
@[simp] theorem zpe (g1 g2:FS)(sd:SD):sSeq g1 g2 sd=(g1 sd).bind (seqK g2):=by
 unfold sSeq
 cases g1 sd with
 | ok o=>cases o<;>rfl
 | ex c fs=>rfl
 | no=>rfl
@[simp] theorem ev_next (sd:SD):zby sd=.ok (.next sd):=rfl
@[simp] theorem zpF (i:Nat)(f:FE)(sd:SD):sSet i f sd=(f sd).bind fun d=>.ok (.next (sd.set i (some (.val d)))):=rfl
@[simp] theorem ev_own (i:Nat)(f:FE)(sd:SD):sOwn i f sd=(f sd).bind fun d=>.ok (.next (sd.set i (some (.own false d)))):=rfl
@[simp] theorem zpM (f:FE)(sd:SD):sRet f sd=(f sd).bind fun d=>.ok (.ret d):=rfl
noncomputable def ownV:Option (Option SV)→Res D
 | some (some (.own _ d))=>.ok d
 | _=>.no
@[simp] theorem ownV_own (p:Bool)(d:D):ownV (some (some (.own p d)))=.ok d:=rfl
@[simp] theorem zp9 (i:Nat)(sd:SD):zd0 i sd=(ownV sd[i]?).bind fun d=>.ok (.ret d):=by
 unfold zd0
 cases sd[i]? with
 | none=>rfl
 | some o =>
  cases o with
  | none=>rfl
  | some v=>cases v<;>rfl
@[simp] theorem ev_ifS (c:FT)(g1 g2:FS)(sd:SD):sIf c g1 g2 sd=(c sd).bind fun b=>if b then g1 sd else g2 sd:=rfl
noncomputable def ownL:Option (Option SV)→Res (List D)
 | some (some (.own false (.lst ds)))=>.ok ds
 | _=>.no
@[simp] theorem ownL_own (ds:List D):ownL (some (some (.own false (.lst ds))))=.ok ds:=rfl
@[simp] theorem zqc (i:Nat)(f:FE)(sd:SD):zcs i f sd=(ownL sd[i]?).bind fun ds=>(f sd).bind fun d=>if ds.length<sizeLine then .ok (.next (sd.set i (some (.own false (.lst (ds++[d])))))) else .no:=by
 unfold zcs
 cases sd[i]? with
 | none=>rfl
 | some o =>
  cases o with
  | none=>rfl
  | some v =>
   cases v with
   | val d=>rfl
   | own p d=>cases p<;>cases d<;>rfl
noncomputable def outV:Out→Res D
 | .ret d=>.ok d
 | .next _=>.ok .non
 | _=>.no
@[simp] theorem outV_ret (d:D):outV (.ret d)=.ok d:=rfl
theorem zme (n ar:Nat)(g:FS)(ds:List D)(h:ds.length=ar):runD n ar g ds=(g (zbO n ds)).bind outV:=by
 unfold runD
 rw [if_pos h]
 cases g (zbO n ds) with
 | ok o=>cases o<;>rfl
 | ex c fs=>rfl
 | no=>rfl
noncomputable def outN:Out→Res D
 | .ret d=>.ok d
 | _=>.no
@[simp] theorem outN_ret (d:D):outN (.ret d)=.ok d:=rfl
theorem zqo (n ar:Nat)(g:FS)(ds:List D)(h:ds.length=ar):runN n ar g ds=(g (zbO n ds)).bind outN:=by
 unfold runN
 rw [if_pos h]
 cases g (zbO n ds) with
 | ok o=>cases o<;>rfl
 | ex c fs=>rfl
 | no=>rfl
@[simp] theorem run_d1 (n:Nat)(g:FS)(a:D):runD n 1 g [a]=(g (some (.val a)::List.replicate (n-1) none)).bind outV:=zme n 1 g [a] rfl
@[simp] theorem run_d2 (n:Nat)(g:FS)(a b:D):runD n 2 g [a,b]=(g (some (.val a)::some (.val b)::List.replicate (n-2) none)).bind outV:=zme n 2 g [a,b] rfl
@[simp] theorem run_d3 (n:Nat)(g:FS)(a b c:D):runD n 3 g [a,b,c]=(g (some (.val a)::some (.val b)::some (.val c)::List.replicate (n-3) none)).bind outV:=zme n 3 g [a,b,c] rfl
@[simp] theorem run_d4 (n:Nat)(g:FS)(a b c d:D):runD n 4 g [a,b,c,d]=(g (some (.val a)::some (.val b)::some (.val c)::some (.val d)::List.replicate (n-4) none)).bind outV:=zme n 4 g [a,b,c,d] rfl
@[simp] theorem zpj (n:Nat)(g:FS)(a:D):runN n 1 g [a]=(g (some (.val a)::List.replicate (n-1) none)).bind outN:=zqo n 1 g [a] rfl
@[simp] theorem run_n2 (n:Nat)(g:FS)(a b:D):runN n 2 g [a,b]=(g (some (.val a)::some (.val b)::List.replicate (n-2) none)).bind outN:=zqo n 2 g [a,b] rfl
@[simp] theorem gAdd_int (i j:Int):gAdd (.int i) (.int j)=some (.int (i+j)):=rfl
@[simp] theorem gSub_int (i j:Int):gSub (.int i) (.int j)=some (.int (i-j)):=rfl
@[simp] theorem gLt_int (i j:Int):gLt (.int i) (.int j)=some (.bl (decide (i<j))):=rfl
@[simp] theorem gGt_int (i j:Int):gGt (.int i) (.int j)=some (.bl (decide (j<i))):=rfl
@[simp] theorem gGe_int (i j:Int):gGe (.int i) (.int j)=some (.bl (decide (j≤i))):=rfl
@[simp] theorem gEq_int' (i j:Int):gEq (.int i) (.int j)=some (.bl (decide (i=j))):=zoC i j
@[simp] theorem gNe_int' (i j:Int):gNe (.int i) (.int j)=some (.bl (!decide (i=j))):=zor i j
theorem zgX {i j:Int}(h:zeo i j=true):gMul (.int i) (.int j)=some (.int (i*j)):=by
 show (if zeo i j then _ else _)=_
 rw [if_pos h]
theorem zkt {i j:Int}(h1 : -18446744073709551616<j)(h2:j<18446744073709551616):zeo i j=true:=by
 unfold zeo
 rw [Bool.or_eq_true,Bool.or_eq_true,Nat.blt_eq,Nat.blt_eq]
 exact .inl (by omega)
theorem zoH {i j:Int}(h1 : -18446744073709551616<i)(h2:i<18446744073709551616):zeo i j=true:=by
 unfold zeo
 rw [Bool.or_eq_true,Bool.or_eq_true,Nat.blt_eq,Nat.blt_eq]
 exact .inl (by omega)
@[simp] theorem zgM {i j:Int}(h:0<j):gMod (.int i) (.int j)=some (.int (i % j)):=by
 show (if Nat.blt 0 j.toNat then _ else _)=_
 rw [if_pos (by rw [Nat.blt_eq];omega)]
@[simp] theorem gFdiv_ok {i j:Int}(h:0<j)(h2:j<1073741824):zaA (.int i) (.int j)=some (.int (i / j)):=by
 show (if Nat.blt 0 j.toNat&&Nat.blt j.toNat 1073741824 then _ else _)=_
 rw [if_pos (by rw [Bool.and_eq_true,Nat.blt_eq,Nat.blt_eq];omega)]
@[simp] theorem gLen_lst (ds:List D):gLen [.lst ds]=some (.int ds.length):=rfl
@[simp] theorem gLen_scr (ns:List Int):gLen [.scr ns]=some (.int ns.length):=rfl
@[simp] theorem zoZ (i j:Int):zii [.int i,.int j]=some (.int (if j<i then j else i)):=rfl
@[simp] theorem zoI (ds:List D):zhQ [.lst ds]=some (.tup ds):=rfl
@[simp] theorem gIx_lst (ds:List D)(k:Int):gIx (.lst ds) (.int k)=atI ds k:=rfl
@[simp] theorem gIx_tup (ds:List D)(k:Int):gIx (.tup ds) (.int k)=atI ds k:=rfl
@[simp] theorem gIx_scr (ns:List Int)(k:Int):gIx (.scr ns) (.int k)=(atI ns k).map .int:=rfl
@[simp] theorem gIx_dct (ks:List Key)(ds:List D)(k:Int):gIx (.dct ks ds) (.int k)=valD ks ds (.inl k):=rfl
@[simp] theorem zn1 (neg:Bool)(ks:List Key)(ds:List D)(k:Int):gIn neg (.int k) (.dct ks ds)=some (.bl (if neg then !(valD ks ds (.inl k)).isSome else (valD ks ds (.inl k)).isSome)):=rfl
@[simp] theorem zcz {r:List (Int×Int)}(h:r.length≤100)(o:Once r):zf2 [rwD r]=some (dcR r):=by
 unfold zf2
 show (zer (rwD r)).bind _=_
 rw [zdr]
 show (if r.length≤100 then some (dcR (zih r)) else none)=_
 rw [if_pos h,ziE o]
theorem zev {ns:List Int}(h:ns ≠ []):zgK [.lst (ns.map .int)]=some (.int (maxI ns)):=by
 unfold zgK
 show (zhN _).bind _=_
 rw [zi2]
 show (if ns=[] then none else some (D.int (maxI ns)))=_
 rw [if_neg h]
theorem zbt:∀ {r:List (Int×Int)},Once r→∀ t:Int,valD (r.map fun p=>.inl p.1) (r.map fun p=>.int p.2) (.inl t)=(zam r t).map .int
 | [],_,t=>rfl
 | p::r,o,t=>by
  have o':Once r:=by unfold Once at o ⊢;rw [List.map_cons,List.nodup_cons] at o;exact o.2
  have n:p.1∉r.map (·.1):=by unfold Once at o;rw [List.map_cons,List.nodup_cons] at o;exact o.1
  rw [List.map_cons,List.map_cons]
  rw [zf5]
  rw [zi8]
  by_cases h:p.1=t
  ·rw [if_pos (by rw [h])]
   cases q:zam r t with
   | none=>rw [if_pos h];rfl
   | some w=>exact absurd (List.mem_map.mpr ⟨(t,w),zcB q,h.symm⟩) n
  ·rw [if_neg (fun z=>h (by injection z)),zbt o' t]
   cases zam r t with
   | none=>rw [if_neg h]
   | some w=>rfl
theorem zlV (r:List (Int×Int))(t:Int):hasK (.inl t) (r.map fun p=>.inl p.1)=r.any fun p=>decide (p.1=t):=by
 unfold hasK
 rw [List.any_map]
 congr 1
 funext p
 exact zjF
theorem znB (r:List (Int×Int))(t w:Int):D.dct (zhh (r.map fun p=>.inl p.1) (.inl t)) (zir (r.map fun p=>.inl p.1) (r.map fun p=>.int p.2) (.inl t) (.int w))=dcR (putR r t w):=by
 unfold zhh zir dcR putR
 rw [zlV]
 have ch:∀ r:List (Int×Int),chgD (r.map fun p=>.inl p.1) (r.map fun p=>.int p.2) (.inl t) (.int w)=(r.map fun p=>if p.1=t then (p.1,w) else p).map fun p=>D.int p.2:=by
  intro r
  induction r with
  | nil=>rfl
  | cons p r ih =>
   rw [List.map_cons,List.map_cons,List.map_cons,List.map_cons]
   rw [zgy]
   rw [ih]
   by_cases h:p.1=t
   ·rw [if_pos (by rw [h]),if_pos h]
   ·rw [if_neg (fun z=>h (by injection z)),if_neg h]
 have ck:∀ r:List (Int×Int),(r.map fun p=>if p.1=t then (p.1,w) else p).map (fun p=>(Sum.inl p.1:Key))=r.map fun p=>.inl p.1:=by
  intro r
  rw [List.map_map]
  congr 1
  funext p
  show (Sum.inl (if p.1=t then (p.1,w) else p).1:Key)=_
  by_cases h:p.1=t
  ·rw [if_pos h]
  ·rw [if_neg h]
 by_cases q:(r.any fun p=>decide (p.1=t))=true
 ·rw [if_pos q,if_pos q,if_pos q,ch,ck]
 ·rw [if_neg q,if_neg q,if_neg q,List.map_append,List.map_append]
  rfl
@[simp] theorem ev_iS (f:FE)(sd:SD):iS f sd=(f sd).bind fun d=>.ofO (zei d):=rfl
@[simp] theorem zp2 (ds:List D):zei (.lst ds)=some ds:=rfl
@[simp] theorem zqw (ds:List D):zei (.tup ds)=some ds:=rfl
def zdc:List D→Res (List D)
 | [.int j]=>if zej j then .ok (za7 0 j.toNat) else .no
 | _=>.no
@[simp] theorem ev_iR1 (fr:FA)(sd:SD):iR1 fr sd=(fr sd).bind zdc:=by
 unfold iR1
 cases fr sd with
 | ok ds=>show (match ds with|[.int j]=>_|_=>_)=zdc ds;unfold zdc;rfl
 | ex c fs=>rfl
 | no=>rfl
theorem zca {j:Int}(h1 : -1000000000≤j)(h2:j≤1000000000):zdc [.int j]=.ok (za7 0 j.toNat):=if_pos (zfo h1 h2)
def zfI:List D→Res (List D)
 | [.int i,.int j]=>if zej i&&zej j then .ok (za7 i (j-i).toNat) else .no
 | _=>.no
@[simp] theorem ev_iR2 (fr:FA)(sd:SD):iR2 fr sd=(fr sd).bind zfI:=by
 unfold iR2
 cases fr sd with
 | ok ds=>show (match ds with|[.int i,.int j]=>_|_=>_)=zfI ds;unfold zfI;rfl
 | ex c fs=>rfl
 | no=>rfl
theorem zio {i j:Int}(h1 : -1000000000≤i)(h2:i≤1000000000)(h3 : -1000000000≤j)(h4:j≤1000000000):zfI [.int i,.int j]=.ok (za7 i (j-i).toNat):=if_pos (by rw [zfo h1 h2,zfo h3 h4];rfl)
theorem zfp {lo:Int}{n i:Nat}{x:D}(h:(za7 lo n)[i]? = some x):x=.int (lo+i)∧i<n:=by
 unfold za7 at h
 rw [List.getElem?_map] at h
 by_cases hi:i<n
 ·rw [List.getElem?_range hi] at h
  exact ⟨(Option.some.inj h).symm,hi⟩
 ·rw [List.getElem?_eq_none (by rw [List.length_range];omega)] at h
  exact zqn h
theorem zdV (lo:Int)(n:Nat):(za7 lo n).length=n:=by unfold za7;rw [List.length_map,List.length_range]
def forT (tg:Tg)(b:FS)(ds:List D)(sd:SD):Res Out:=forD (fun x sd=>(zaQ tg x sd).bind b) ds sd
@[simp] theorem ev_for (it:FA)(tg:Tg)(b:FS)(sd:SD):sFor it tg b sd=(it sd).bind fun ds=>forT tg b ds sd:=rfl
@[simp] theorem zoM (i:Nat)(d:D)(sd:SD):zaQ (.one i) d sd=.ok (sd.set i (some (.val d))):=rfl
@[simp] theorem zp1 (i j:Nat)(a b:D)(sd:SD):zaQ (.tup [i,j]) (.tup [a,b]) sd=.ok ((sd.set i (some (.val a))).set j (some (.val b))):=rfl
@[simp] theorem zoJ (i j:Nat)(p:Int×Int)(sd:SD):zaQ (.tup [i,j]) (prD p) sd=.ok ((sd.set i (some (.val (.int p.1)))).set j (some (.val (.int p.2)))):=rfl
theorem zhj {tg:Tg}{b:FS}{ds:List D}{sd:SD}(P:Nat→SD→Prop)(h0:P 0 sd)(hs:∀ (i:Nat) (x:D) (sd:SD),ds[i]? = some x→P i sd→∃ sd',(zaQ tg x sd).bind b=.ok (.next sd')∧P (i+1) sd'):∃ sd',forT tg b ds sd=.ok (.next sd')∧P ds.length sd':=by
 have key:∀ (k i:Nat) (sd:SD),ds.length-i=k→i≤ds.length→P i sd→∃ sd',forT tg b (ds.drop i) sd=.ok (.next sd')∧P ds.length sd':=by
  intro k
  induction k with
  | zero =>
   intro i sd e hi p
   have:i=ds.length:=by omega
   subst this
   rw [List.drop_length]
   exact ⟨sd,rfl,p⟩
  | succ k ih =>
   intro i sd e hi p
   have hlt:i<ds.length:=by omega
   rw [List.drop_eq_getElem_cons hlt]
   refine zc1b (hs i ds[i] sd (List.getElem?_eq_getElem hlt) p) fun sd' h1 h2 => ?_
   refine zc1b (ih (i+1) sd' (by omega) hlt h2) fun sd2 h3 h4 => ?_
   refine ⟨sd2,?_,h4⟩
   unfold forT forD
   rw [h1]
   exact h3
 have:=key ds.length 0 sd (by omega) (Nat.zero_le _) h0
 rwa [List.drop_zero] at this
theorem zeP {tg:Tg}{b:FS}{ds:List D}{sd:SD}(R:Res Out→Prop)(P:Nat→SD→Prop)(h0:P 0 sd)(he:∀ sd,P ds.length sd→R (.ok (.next sd)))
 (hs:∀ (i:Nat) (x:D) (sd:SD),ds[i]? = some x→P i sd→(∃ sd',((zaQ tg x sd).bind b=.ok (.next sd')∨(zaQ tg x sd).bind b=.ok (.cont sd'))∧P (i+1) sd')∨(∃ sd',(zaQ tg x sd).bind b=.ok (.brk sd')∧R (.ok (.next sd')))∨∃ d,(zaQ tg x sd).bind b=.ok (.ret d)∧R (.ok (.ret d))):R (forT tg b ds sd):=by
 have key:∀ (k i:Nat) (sd:SD),ds.length-i=k→i≤ds.length→P i sd→R (forT tg b (ds.drop i) sd):=by
  intro k
  induction k with
  | zero =>
   intro i sd e hi p
   have:i=ds.length:=by omega
   subst this
   rw [List.drop_length]
   exact he sd p
  | succ k ih =>
   intro i sd e hi p
   have hlt:i<ds.length:=by omega
   rw [List.drop_eq_getElem_cons hlt]
   unfold forT forD
   rcases hs i ds[i] sd (List.getElem?_eq_getElem hlt) p with ⟨sd',h1|h1,h2⟩|⟨sd',h1,h2⟩|⟨d,h1,h2⟩
   ·rw [h1];exact ih (i+1) sd' (by omega) hlt h2
   ·rw [h1];exact ih (i+1) sd' (by omega) hlt h2
   ·rw [h1];exact h2
   ·rw [h1];exact h2
 have:=key ds.length 0 sd (by omega) (Nat.zero_le _) h0
 rwa [List.drop_zero] at this
theorem zhH {α β γ : Type}{f : α → Res β}{k : γ → α}{g : γ → β}{xs:List γ}(h:∀ x∈xs,f (k x)=.ok (g x)):mapD f (xs.map k)=.ok (xs.map g):=by
 induction xs with
 | nil=>rfl
 | cons x xs ih =>
  rw [List.map_cons]
  unfold mapD
  rw [h x List.mem_cons_self,ih fun y hy=>h y (List.mem_cons_of_mem _ hy)]
  rfl
def mapE (tg:Tg)(f:FE)(c:SD)(ds:List D):Res (List D):=mapD (fun x=>(zaQ tg x c).bind f) ds
@[simp] theorem znn (cap:List (Option Nat))(it:FA)(tg:Tg)(f:FE)(sd:SD):zbk cap it tg f sd=(it sd).bind fun ds=>if zcy (capD cap sd) tg=true∧ds.length<sizeLine then (mapE tg f (capD cap sd) ds).bind fun ys=>.ok (.lst ys) else .no:=rfl
noncomputable def capV:Option (Option SV)→Option SV
 | some (some (.val d))=>some (.val d)
 | _=>none
@[simp] theorem capV_val (d:D):capV (some (some (.val d)))=some (.val d):=rfl
@[simp] theorem capD_nil (sd:SD):capD [] sd=[]:=rfl
@[simp] theorem capD_n (cap:List (Option Nat))(sd:SD):capD (none::cap) sd=none::capD cap sd:=rfl
@[simp] theorem capD_s (j:Nat)(cap:List (Option Nat))(sd:SD):capD (some j::cap) sd=capV sd[j]? :: capD cap sd:=rfl
@[simp] theorem zoL (sd:SD)(i:Nat):zcy sd (.one i)=zcG sd i:=rfl
@[simp] theorem zoK (sd:SD)(is:List Nat):zcy sd (.tup is)=is.all (zcG sd):=rfl
@[simp] theorem noneAt_0 (sd:SD):zcG (none::sd) 0=true:=rfl
@[simp] theorem noneAt_s (o:Option SV)(sd:SD)(i:Nat):zcG (o::sd) (i+1)=zcG sd i:=rfl
theorem zbw {α : Type}{tg:Tg}{f:FE}{c:SD}{k : α → D}{g : α → D}{xs:List α}(h:∀ x∈xs,(zaQ tg (k x) c).bind f=.ok (g x)):mapE tg f c (xs.map k)=.ok (xs.map g):=zhH h
theorem ziP {tg:Tg}{f:FE}{c:SD}{lo:Int}{n:Nat}{g:Nat→D}(h:∀ i,i<n→(zaQ tg (.int (lo+i)) c).bind f=.ok (g i)):mapE tg f c (za7 lo n)=.ok ((List.range n).map g):=zhH fun i hi=>h i (List.mem_range.mp hi)
@[simp] theorem zp3 (cap:List (Option Nat))(it:FA)(tg:Tg)(c:FT)(f:FE)(sd:SD):zbT cap it tg c f sd=(it sd).bind fun ds=>if zcy (capD cap sd) tg=true∧ds.length<sizeLine then (zdl tg c f (capD cap sd) ds).bind fun ys=>.ok (.lst ys) else .no:=rfl
theorem zfz {α : Type}{tg:Tg}{c:FT}{f:FE}{sd:SD}{k : α → D}{s : α → SD}{p : α → Bool}{g : α → D}{xs:List α}(h1:∀ x∈xs,zaQ tg (k x) sd=.ok (s x))(h2:∀ x∈xs,c (s x)=.ok (p x))(h3:∀ x∈xs,p x=true→f (s x)=.ok (g x)) :
 zdl tg c f sd (xs.map k)=.ok ((xs.filter p).map g):=by
 induction xs with
 | nil=>rfl
 | cons x xs ih =>
  have ih:=ih (fun y hy=>h1 y (List.mem_cons_of_mem _ hy)) (fun y hy=>h2 y (List.mem_cons_of_mem _ hy)) (fun y hy=>h3 y (List.mem_cons_of_mem _ hy))
  rw [List.map_cons,List.filter_cons]
  unfold zdl
  rw [h1 x List.mem_cons_self,Res.bind_ok,h2 x List.mem_cons_self,Res.bind_ok]
  cases q:p x with
  | true =>
   rw [if_pos rfl,if_pos rfl,h3 x List.mem_cons_self q,Res.bind_ok,ih]
   rfl
  | false =>
   rw [if_neg (by simp),if_neg (by simp),ih]
theorem za4 {n:Nat}(h:n≤1000):n<sizeLine:=zg8 h
@[simp] theorem zmI (i:Int):gIsi [.int i,.ty "bool"]=some (.bl false):=rfl
@[simp] theorem zom (i:Int):gIsi [.int i,.ty "int"]=some (.bl true):=rfl
end L2.DL
namespace L2.DL
open PySem PySem.Spec PyProof.Rows
section
variable {X:Cx}{E:XK}{m:Option Bool}{a b o i e f tg:Expr}{fa fb fo fi fv fe:FE}{fr:FA}{pos pos' apos cpos p p2:Pos}{lo hi st:Option Expr}
@[simp] theorem gIsN_non (neg:Bool):gIsN neg .non=some (.bl (!neg)):=rfl
@[simp] theorem gIsN_int (neg:Bool)(i:Int):gIsN neg (.int i)=some (.bl neg):=rfl
@[simp] theorem gIsN_tup (neg:Bool)(i:List D):gIsN neg (.tup i)=some (.bl neg):=rfl
end
end L2.DL
namespace L2
open PySem PySem.Spec PyProof.Rows
section
variable {X:Cx}
theorem zhZ {bs:List Bool}{its:List Value}(r:Vals (bs.map V.bl) its)(i:Nat)(v:Value)(h:its.toArray[i]? = some v):v=.bool (bs.getD i false):=by
 have h':its[i]? = some v:=by simpa using h
 have hi:i<its.length:=(List.getElem?_eq_some_iff.mp h').1
 have hl:=r.length
 rw [List.length_map] at hl
 have hb:bs[i]? = some bs[i]:=List.getElem?_eq_getElem (by omega)
 refine zc1b (r.get (i:=i) (x:=.bl bs[i]) (by rw [List.getElem?_map,hb];rfl)) fun u hu ru => ?_
 rw [h'] at hu
 obtain rfl:=Option.some.inj hu
 rw [show v=Value.bool bs[i] from ru,List.getD_eq_getElem?_getD,hb]
 rfl
theorem zk2 (bs:List Bool):(List.range bs.length).all (fun i=>bs.getD i false)=bs.all id:=by
 apply Bool.eq_iff_iff.mpr
 rw [List.all_eq_true,List.all_eq_true]
 constructor
 ·intro h b hb
  obtain ⟨i,hi,rfl⟩:=List.getElem_of_mem hb
  have:=h i (List.mem_range.mpr hi)
  rw [List.getD_eq_getElem?_getD,List.getElem?_eq_getElem hi] at this
  exact this
 ·intro h i hi
  have hi:=List.mem_range.mp hi
  rw [List.getD_eq_getElem?_getD,List.getElem?_eq_getElem hi]
  exact h _ (List.getElem_mem hi)
theorem zjG (bs:List Bool):(List.range bs.length).any (fun i=>bs.getD i false)=bs.any id:=by
 apply Bool.eq_iff_iff.mpr
 rw [List.any_eq_true,List.any_eq_true]
 constructor
 ·rintro ⟨i,hi,h⟩
  have hi:=List.mem_range.mp hi
  rw [List.getD_eq_getElem?_getD,List.getElem?_eq_getElem hi] at h
  exact ⟨_,List.getElem_mem hi,h⟩
 ·rintro ⟨b,hb,h⟩
  obtain ⟨i,hi,rfl⟩:=List.getElem_of_mem hb
  refine ⟨i,List.mem_range.mpr hi,?_⟩
  rw [List.getD_eq_getElem?_getD,List.getElem?_eq_getElem hi]
  exact h
theorem zle (hc:X.calm=true):za1 X (.builtin "all") (fun xs H Q => ∃ (a:Addr) (bs:List Bool),xs=[.ref a]∧SqL X.K H a (bs.map V.bl)∧Q (.bl (bs.all id)) H):=by
 intro pins s σ H xs us Q I r h
 refine zc2c h fun a bs zr2 hl q => ?_
 obtain rfl:=zr2
 refine zc1b (zdm r) fun u zr1 ru => ?_
 obtain rfl:=zr1
 obtain rfl:u=Value.ref a:=ru
 refine zc1c (I.list hl) fun its rv p hz => ?_
 have hlt:a<s.heap.objs.size:=by obtain ⟨_,e,_⟩:=p.isList;exact Heap.lt_size e
 have hlen:=rv.length
 rw [List.length_map] at hlen
 refine call_all_walk (wpAny_pyIter_list p.isList ⟨_,_,_,_,_,_,fun i=>bs.getD i false,rfl,Walks.list (A:=X.A.in1) (I.ok.hd hc) s.heap.objs.size a (Nat.ne_of_lt hlt) its.toArray,⟨⟨_,Heap.get?_push_size _ rfl,rfl,rfl⟩,p.isList.push _⟩,?_,fun h' tk hk => ?_⟩)
 ·intro i v s' Q' E' hP hQ
  have hv:=zhZ rv i v hP
  subst hv
  exact wpAny_of_eq rfl hQ
 ·rw [List.size_toArray,← hlen,zk2]
  refine ⟨.bl _,H,I.kept (t':=tk) fun b o e=>hk b o ?_ (Heap.get?_push_of_some _ e),rfl,q⟩
  intro hm
  have e':=List.mem_singleton.mp hm
  rw [e'] at e
  exact Nat.lt_irrefl _ (Heap.lt_size e)
theorem zj1 (hc:X.calm=true):za1 X (.builtin "any") (fun xs H Q => ∃ (a:Addr) (bs:List Bool),xs=[.ref a]∧SqL X.K H a (bs.map V.bl)∧Q (.bl (bs.any id)) H):=by
 intro pins s σ H xs us Q I r h
 refine zc2c h fun a bs zr2 hl q => ?_
 obtain rfl:=zr2
 refine zc1b (zdm r) fun u zr1 ru => ?_
 obtain rfl:=zr1
 obtain rfl:u=Value.ref a:=ru
 refine zc1c (I.list hl) fun its rv p hz => ?_
 have hlt:a<s.heap.objs.size:=by obtain ⟨_,e,_⟩:=p.isList;exact Heap.lt_size e
 have hlen:=rv.length
 rw [List.length_map] at hlen
 refine call_any_walk (wpAny_pyIter_list p.isList ⟨_,_,_,_,_,_,fun i=>bs.getD i false,rfl,Walks.list (A:=X.A.in1) (I.ok.hd hc) s.heap.objs.size a (Nat.ne_of_lt hlt) its.toArray,⟨⟨_,Heap.get?_push_size _ rfl,rfl,rfl⟩,p.isList.push _⟩,?_,fun h' tk hk => ?_⟩)
 ·intro i v s' Q' E' hP hQ
  have hv:=zhZ rv i v hP
  subst hv
  exact wpAny_of_eq rfl hQ
 ·rw [List.size_toArray,← hlen,zjG]
  refine ⟨.bl _,H,I.kept (t':=tk) fun b o e=>hk b o ?_ (Heap.get?_push_of_some _ e),rfl,q⟩
  intro hm
  have e':=List.mem_singleton.mp hm
  rw [e'] at e
  exact Nat.lt_irrefl _ (Heap.lt_size e)
end
end L2
namespace L2.DL
open PySem PySem.Spec PyProof.Rows
noncomputable def blOf:D→Option Bool
 | .bl i=>some i
 | _=>none
theorem zlj {d:D}{i:Bool}(h:blOf d=some i):d=.bl i:=by
 cases d with
 | bl j=>cases h;rfl
 | _=>exact zqn h
theorem IsDs.bls_iff {K:PySem.W.Frag}{H:Hp}:∀ {bs:List Bool} {xs:List V},IsDs K H (bs.map D.bl) xs→xs=bs.map V.bl
 | [],_,h=>IsDs.nil_iff.mp h
 | b::bs,_,h=>by
  rw [List.map_cons,IsDs.cons_iff] at h
  obtain ⟨x,r,rfl,h1,h2⟩:=h
  rw [IsD.bl_iff.mp h1,IsDs.bls_iff h2]
  rfl
def zij:D→Option (List Bool)
 | .lst ds=>zb8 blOf ds
 | _=>none
theorem zhI {K:PySem.W.Frag}{H:Hp}{d:D}{ns:List Bool}{v:V}(h:zij d=some ns)(i:IsD K H d v):∃ a,v=.ref a∧LstD K H a (ns.map V.bl):=by
 cases d with
 | lst ds =>
  rw [IsD.lst_iff] at i
  refine zc2c i fun a xs zr2 h1 h2 => ?_
  obtain rfl:=zr2
  rw [zbL (fun _ _=>zlj) (show zb8 blOf ds=some ns from h)] at h2
  rw [IsDs.bls_iff h2] at h1
  exact ⟨a,rfl,h1⟩
 | _=>exact zqn h
theorem zgc (ns:List Bool):zij (.lst (ns.map D.bl))=some ns:=by
 have h:=zbM (f:=blOf) (g:=D.bl) (k:=fun i:Bool=>i) (fun _=>rfl) ns
 rw [List.map_id'] at h
 exact h
def gAll:List D→Option D
 | [d]=>(zij d).bind fun ns=>some (.bl (ns.all id))
 | _=>none
def gAny:List D→Option D
 | [d]=>(zij d).bind fun ns=>some (.bl (ns.any id))
 | _=>none
section
variable {X:Cx}{E:XK}{m:Option Bool}{a b o i e f tg:Expr}{fa fb fo fi fv fe:FE}{fr:FA}{pos pos' apos cpos p p2:Pos}{lo hi st:Option Expr}
theorem b_all (hc:X.calm=true):za1 X (.builtin "all") (rDA X.K gAll):=za1.weak (zle hc) fun xs H Q zh=>by
 refine zc3a zh fun F ds z zz=>zc0d zz fun sF id hz q => ?_
 unfold gAll at hz
 split at hz
 ·refine zc1b (Option.bind_eq_some_iff.mp hz) fun ns h1 hz => ?_
  obtain rfl:=Option.some.inj hz
  refine zc1b (zb7 id) fun v zr1 h => ?_
  obtain rfl:=zr1
  refine zc1b (zhI h1 h) fun a zr1 h2 => ?_
  obtain rfl:=zr1
  exact ⟨a,ns,rfl,(h2.same sF).sq,q _ F H (.refl sF) (isB _ F)⟩
 ·exact zqn hz
theorem znP (hc:X.calm=true):za1 X (.builtin "any") (rDA X.K gAny):=za1.weak (zj1 hc) fun xs H Q zh=>by
 refine zc3a zh fun F ds z zz=>zc0d zz fun sF id hz q => ?_
 unfold gAny at hz
 split at hz
 ·refine zc1b (Option.bind_eq_some_iff.mp hz) fun ns h1 hz => ?_
  obtain rfl:=Option.some.inj hz
  refine zc1b (zb7 id) fun v zr1 h => ?_
  obtain rfl:=zr1
  refine zc1b (zhI h1 h) fun a zr1 h2 => ?_
  obtain rfl:=zr1
  exact ⟨a,ns,rfl,(h2.same sF).sq,q _ F H (.refl sF) (isB _ F)⟩
 ·exact zqn hz
end
theorem zl9 (ns:List Bool):gAll [.lst (ns.map .bl)]=some (.bl (ns.all id)):=by
 show (zij _).bind _=_
 rw [zgc]
 rfl
theorem zfh (ns:List Bool):gAny [.lst (ns.map .bl)]=some (.bl (ns.any id)):=by
 show (zij _).bind _=_
 rw [zgc]
 rfl
end L2.DL
namespace L2
open PySem PySem.Spec PyProof.Rows
theorem zqi:bootBuiltins "all" = some (.builtin "all"):=boot_all
theorem zjP:bootBuiltins "any" = some (.builtin "any"):=boot_any
end L2
namespace L2.DL
open PySem PySem.Spec PyProof.Rows
end L2.DL
namespace L2
open PySem PySem.Spec PyProof.Rows
section
variable {X:Cx}{pins:List (Addr×Obj)}{σ : St}{H:Hp}{s:Shared}{h':Heap}
theorem Inv.turnedL {t':Nat}{ch:List Addr}(I:Inv X pins σ H s)(k:∀ b o,b∉ch→s.heap.get? b=some o→h'.get? b=some o)(hf:∀ b∈ch,FpOk X pins H b):Inv X pins σ H { s with heap:=h',toks:=t' }:=by
 have nit:∀ b u,H b=some u→b∉ch:=fun b u e z=>by rw [(hf b z).1] at e;exact zqn e
 refine I.step (g':=s.gens) (d':=s.drawn) (ch:=ch) (fun b hb => ?_) (fun b o _ _ hc e _=>k b o hc e) (fun b o _ _ hc e _=>⟨o.slots,k b o hc e⟩) (fun _ _ _ _ n=>n)
  (fun b o hc e=>⟨o,k b o hc e⟩) (fun _ _ e=>e) (fun _ _ _ e=>e) (fun b ps e=>⟨#[],by rw [e];simp⟩) (fun m hm => ?_) (fun b u e => ?_) I.bare
 ·obtain ⟨_,f1,_,f3,f4,f5⟩:=hf b hb
  exact ⟨f3,f1,f4,f5⟩
 ·obtain ⟨o,es,ep,ho,r⟩:=hm
  exact ⟨o,es,ep,k _ o (fun z=>(hf _ z).2.1 rfl) ho,r⟩
 ·refine (I.hok b u e).stay (fun c v hc q=>k c v ?_ q) (fun _ q=>q) fun _ _ q=>q
  rcases hc with z|z
  ·rw [z];exact nit b u e
  ·exact nit c _ z
theorem FpOk.upd {b T:Addr}{o:HO}(h:FpOk X pins H b)(n:b≠T):FpOk X pins (upd H T o) b:=⟨(zah n).trans h.1,h.2⟩
theorem Inv.paired {t':Nat}{ch:List Addr}{x y:V}{u v:Value}(I:Inv X pins σ H s)(rx:RelV x u)(ry:RelV y v)(hf:∀ b∈ch,FpOk X pins H b)(hc:∀ b∈ch,b≠s.heap.objs.size)
 (hT:h'.get? s.heap.objs.size=some { cls:=.type "tuple",data:=.seq #[u,v] }) (k:∀ b o,b∉ch→s.heap.get? b=some o→h'.get? b=some o) :
 Inv X pins σ (upd H s.heap.objs.size (.tup [x,y])) { s with heap:=h',toks:=t' }:=by
 have I1:Inv X pins σ (upd H s.heap.objs.size (.tup [x,y])) { s with heap:=s.heap.push { cls:=.type "tuple",data:=.seq #[u,v] },toks:=s.toks } :=
  I.laid (t':=s.toks) (fun b o e=>Heap.get?_push_of_some _ e) (Nat.le_refl _) ⟨⟨by simp only [sizeLine_eq,List.length_cons,List.length_nil];omega,_,Heap.get?_push_size _ rfl,rfl⟩,[u,v],.cons rx (.cons ry .nil),_,Heap.get?_push_size _ rfl,rfl,_,rfl⟩
 refine Inv.turnedL (s:={ s with heap:=s.heap.push { cls:=.type "tuple",data:=.seq #[u,v] },toks:=s.toks }) (h':=h') (t':=t') (ch:=ch) I1 (fun b o hb e => ?_) fun b hb=>(hf b hb).upd (hc b hb)
 have e:(s.heap.push { cls:=.type "tuple",data:=.seq #[u,v] }).get? b=some o:=e
 rcases Heap.get?_push_cases e with ⟨rfl,rfl⟩|e
 ·exact hT
 ·exact k b o hb e
end
def Ite (K:PySem.W.Frag)(a:Addr):It :=
 ⟨fun i H => ∃ xs x,SqL K H a xs∧xs[i]? = some x,
  fun i H v H' => ∃ T x,v=.ref T∧H T=none∧H'=upd H T (.tup [.int i,x])∧∀ xs,SqL K H a xs→xs[i]? = some x,
  fun i H => ∃ xs,SqL K H a xs∧xs.length≤i⟩
noncomputable def zpR (e it a:Addr)(i:Nat)(h:Heap):Prop:=(∃ old,IsEnum h e it i old)∧h.IsListIter it a i
theorem zjq {P:Program}{w:World}{K:PySem.W.Frag}{elts:List Expr}{kx}{pos:Pos}(a e it:Addr)(hne:e≠it):Turn P w K (.Tuple elts kx pos) (Ite K a) [e,it] e (zpR e it a) where
 mem:=by simp
 obj:=fun i h st c hc=>by
  obtain ⟨⟨old,he⟩,⟨o1,e1,c1,d1⟩⟩:=st
  simp only [List.mem_cons,List.not_mem_nil,or_false] at hc
  rcases hc with rfl|rfl
  ·exact ⟨_,he,fun v q=>by cases q⟩
  ·exact ⟨_,e1,fun v q=>by rw [d1] at q;cases q⟩
 keep:=fun i h h' st kk=>⟨(let ⟨old,he⟩:=st.1;⟨old,kk e (by simp) _ he⟩),st.2.at fun o q=>kk it (by simp) o q⟩
 item:=by
  intro X hP hw hK hc i pins s σ H E I hf st hg
  subst hP hw hK
  obtain ⟨xs,x,ha,hx⟩:=hg
  obtain ⟨its,rv,p,hz⟩:=I.list ha
  obtain ⟨u,hu,ru⟩:=rv.get hx
  obtain ⟨⟨old,he⟩,hit⟩:=id st
  obtain ⟨o1,e1,_⟩:=id hit
  refine wpAny_pyNext_enum_item he hit p.isList (x:=u) (by simpa using hu) hne fun h' a1 a2 a3 a4 kk => ?_
  refine ⟨_,rfl,wpAny_letOwnedTupleGo_enum (s:={ s with heap:=h',toks:=s.toks+1 }) a1 fun h2 b1 sb => ?_⟩
  have sb:Heap.SameBut e h' h2:=sb
  have lt:∀ {c o},s.heap.get? c=some o→c≠s.heap.objs.size:=fun q=>Nat.ne_of_lt (Heap.lt_size q)
  have lts:∀ c ∈ [e,it],c≠s.heap.objs.size:=fun c hc=>by
   simp only [List.mem_cons,List.not_mem_nil,or_false] at hc
   rcases hc with rfl|rfl
   ·exact lt he
   ·exact lt e1
  have hTe:s.heap.objs.size≠e:=fun q=>lt he q.symm
  have I2:=I.paired (t':=s.toks+1) (h':=h2) (ch:=[e,it]) (x:=.int i) (u:=.int i s.toks) ⟨_,rfl⟩ ru hf lts (sb.extBut _ _ hTe a3) (fun c o hc q=>by
   simp only [List.mem_cons,List.not_mem_nil,or_false,not_or] at hc
   exact sb.extBut c o hc.1 (kk c o hc.1 hc.2 q))
  refine ⟨.ref s.heap.objs.size,_,I2,rfl,⟨_,x,rfl,I.hok.fresh (Nat.le_refl _),rfl,fun zs hq=>by rw [I.list_inj hq ha];exact hx⟩,⟨⟨u,?_⟩,a2.extBut sb.extBut (Ne.symm hne)⟩,fun c hc=>(zah (lts c hc)).trans (hf c hc).1⟩
  have q:(((i+1:Nat)):Int)=(i:Int)+1:=by omega
  rw [q]
  exact b1
 done:=by
  intro X hP hw hK hc i pins s σ H E I hf st hg
  subst hP hw hK
  obtain ⟨xs,ha,hx⟩:=hg
  obtain ⟨its,rv,p,hz⟩:=I.list ha
  have l1:=rv.length
  obtain ⟨⟨old,he⟩,hit⟩:=id st
  refine wpAny_pyNext_enum_end (I.ok.hd hc) he hit p.isList (by simp;omega) fun h' eb=>⟨rfl,I.turnedL (t':=s.toks) (ch:=[it]) (fun c o hc q => ?_) fun c hc=>hf c ?_⟩
  ·exact eb c o (fun z=>hc (by simp [z])) q
  ·have:c=it:=by simpa using hc
   subst this
   simp
 self:=fun _ _ _ _ _ st h=>wpAny_pyIter_enum st.1.choose_spec h
section
variable {X:Cx}
def iEnum (K:PySem.W.Frag)(ta:TA):TI:=fun σ H R=>ta σ H fun vs H1 => ∃ a,vs=[.ref a]∧(∃ xs,SqL K H1 a xs)∧R (Ite K a) H1
theorem zoz {a:Expr}{ta:TA}{p pos:Pos}{elts:List Expr}{kx}{tp:Pos}(hg:Gl X "enumerate")(hm:X.mg "enumerate" = none)(ha:PA X [a] ta)(hs:autoParam (starEach [a] X.env=[(false,eval a X.env)]) zau._auto_1) :
 PI X (.Tuple elts kx tp) (.Call (.Name "enumerate" p) [a] [] pos) (iEnum X.K ta):=by
 intro pins s σ H R I h
 refine Call_ (zeB I hg hm (show bootBuiltins "enumerate" = some (.type "enumerate") by kernel_rfl) (PyProof.Rows.callWith_type1 (thn (ha pos pins s σ H _ I h) fun us s1 ⟨vs,H1,I1,r1,q1⟩ => ?_) hs rfl))
 obtain ⟨a,e,⟨xs,h1⟩,q⟩:=q1
 subst e
 cases r1 with
 | cons r rr =>
  cases rr
  cases r
  obtain ⟨its,rv,p,hz⟩:=I1.list h1
  refine call_enumerate_list p.isList fun h' z1 z2 z3 kk=>wpAny_pyIter_enum z1 ?_
  refine ⟨s1.heap.objs.size+1,[s1.heap.objs.size+1,s1.heap.objs.size],_,_,H1,rfl,I1.kept (t':=s1.toks) kk,zjq a (s1.heap.objs.size+1) s1.heap.objs.size (Nat.succ_ne_self _),⟨⟨_,z1⟩,z2⟩,fun c hc => ?_,q⟩
  have hc':s1.heap.objs.size≤c:=by
   simp only [List.mem_cons,List.not_mem_nil,or_false] at hc
   rcases hc with rfl|rfl<;>first|exact Nat.le_refl _|exact Nat.le_add_right _ _
  exact I1.fpOk hc' (I1.hok.fresh hc')
end
end L2
namespace L2.DL
open PySem PySem.Spec PyProof.Rows
theorem zlm {K:PySem.W.Frag}{F:Hp}{d:D}{ds:List D}{v:V}(h:zn9 d=some ds)(i:IsD K F d v):∃ a xs,v=.ref a∧SqL K F a xs∧IsDs K F ds xs:=by
 cases d with
 | lst es =>
  obtain rfl:=Option.some.inj h
  rw [IsD.lst_iff] at i
  obtain ⟨a,xs,rfl,h1,h2⟩:=i
  exact ⟨a,xs,rfl,h1.sq,h2⟩
 | scr ns =>
  obtain rfl:=Option.some.inj h
  rw [IsD.scr_iff] at i
  obtain ⟨a,rfl,h1⟩:=i
  exact ⟨a,_,rfl,h1,IsDs.ints ns⟩
 | _=>exact zqn h
noncomputable def zfD (xs:List D):List D:=List.zipWith (fun (k:Nat) x=>D.tup [.int k,x]) (List.range xs.length) xs
def zlM:List D→Res (List D)
 | [d]=>(Res.ofO (zn9 d)).bind fun xs=>.ok (zfD xs)
 | _=>.no
def iEn (fr:FA):FA:=fun sd=>(fr sd).bind zlM
@[simp] theorem ev_iEn (fr:FA)(sd:SD):iEn fr sd=(fr sd).bind zlM:=rfl
@[simp] theorem zp5 (xs:List D):zlM [.lst xs]=.ok (zfD xs):=rfl
theorem zhy (ds:List D)(i:Nat):(zfD ds)[i]? = ds[i]?.map fun x=>D.tup [.int i,x]:=by
 unfold zfD
 rw [List.getElem?_zipWith]
 by_cases h:i<ds.length
 ·rw [List.getElem?_range h,List.getElem?_eq_getElem h];rfl
 ·rw [List.getElem?_eq_none (show ds.length≤i by omega)]
  cases (List.range ds.length)[i]?<;>rfl
theorem zg3 (ds:List D):(zfD ds).length=ds.length:=by unfold zfD;rw [List.length_zipWith,List.length_range,Nat.min_self]
theorem zkk {K:PySem.W.Frag}{F1:Hp}{a:Addr}{ds:List D}{xs:List V}(q1:SqL K F1 a xs)(i1:IsDs K F1 ds xs):Walk K F1 (Ite K a) (zfD ds):=fun i F2 H2 s1 s2=>by
 have p1:=Same.seq s2 (Same.seq s1 q1)
 have l1:=i1.length
 rw [zg3]
 refine ⟨fun hi => ?_,fun hi=>⟨xs,p1,by omega⟩⟩
 obtain ⟨x,hx,ix⟩:=i1.get (List.getElem?_eq_getElem hi)
 refine ⟨⟨xs,x,p1,hx⟩,fun v H3 yl => ?_⟩
 obtain ⟨T,x',rfl,hT,rfl,f1⟩:=yl
 have ex:=f1 xs p1
 rw [hx] at ex
 obtain rfl:=Option.some.inj ex
 have ea:=Ext.alloc s2 hT (.tup [.int i,x])
 refine ⟨.tup [.int i,ds[i]],_,?_,ea,IsD.tup_iff.mpr ⟨T,_,rfl,.of zai,.mk (IsD.int_iff.mpr rfl) (.mk (IsD.same (s1.trans ea.ff) _ _ ix) .nil)⟩⟩
 rw [zhy,List.getElem?_eq_getElem hi]
 rfl
section
variable {X:Cx}{E:XK}{fr:FA}{p pos tp:Pos}{elts:List Expr}
theorem zns {a:Expr}{kx}(hg:Gl X "enumerate")(hm:X.mg "enumerate" = none)(ha:QA X E [a] fr)(hs:autoParam (starEach [a] X.env=[(false,eval a X.env)]) zau._auto_1):QI X E (.Tuple elts kx tp) (.Call (.Name "enumerate" p) [a] [] pos) (iEn fr):=PI.weak (zoz hg hm ha hs) fun σ H R zh=>by
 obtain ⟨B,F,sd,r,n⟩:=zh
 refine ⟨B,F,sd,r,(Res.need_bind n).mono (fun ds n1 vs F1 H1 e1 i1 => ?_) fun _ _ q=>q⟩
 unfold zlM at n1
 split at n1
 ·obtain ⟨xs,hx,n2⟩:=Res.need_ofO (Res.need_bind n1)
  obtain ⟨v,rfl,h⟩:=zb7 i1
  obtain ⟨la,us,rfl,g1,g2⟩:=zlm hx h
  exact ⟨la,rfl,⟨_,Same.seq e1.fh g1⟩,n2 _ F1 H1 e1 (zkk g1 g2)⟩
 ·exact n1.elim
end
end L2.DL
namespace L2.ST
open PySem
noncomputable def itF:Nat→Nat→Nat
 | 0,z=>z
 | n+1,z=>itF n (5*z+1)
theorem ziT (a b z:Nat):itF (a+b) z=itF b (itF a z):=by
 induction a generalizing z with
 | zero=>rw [Nat.zero_add];rfl
 | succ a ih=>rw [Nat.succ_add];exact ih _
theorem zjO (n z d:Nat):itF n (z+d)=itF n z+5 ^ n*d:=by
 induction n generalizing z d with
 | zero=>simp [itF]
 | succ n ih =>
  show itF n (5*(z+d)+1)=itF n (5*z+1)+5 ^ (n+1)*d
  have e:5*(z+d)+1=(5*z+1)+5*d:=by omega
  rw [e,ih,Nat.pow_succ,Nat.mul_assoc]
theorem pow5 (n:Nat):5 ^ n % 4=1:=by
 induction n with
 | zero=>rfl
 | succ n ih=>rw [Nat.pow_succ];omega
theorem zj8 (k z:Nat):∃ u,itF (2 ^ k) z=z+2 ^ k*(2*u+1):=by
 induction k generalizing z with
 | zero=>exact ⟨2*z,by show 5*z+1=z+1*(2*(2*z)+1);omega⟩
 | succ k ih =>
  obtain ⟨u,hu⟩:=ih z
  have e:2 ^ (k+1)=2 ^ k+2 ^ k:=by rw [Nat.pow_succ];omega
  rw [e,ziT,hu,zjO,hu]
  have h5:=pow5 (2 ^ k)
  obtain ⟨v,hv⟩:∃ v,5 ^ (2 ^ k)=4*v+1:=⟨5 ^ (2 ^ k) / 4,by omega⟩
  rw [hv]
  generalize 2 ^ k=m
  refine ⟨2*u*(2*v+1) / 2+v,?_⟩
  have:2*u*(2*v+1) / 2=u*(2*v+1):=by rw [Nat.mul_assoc,Nat.mul_div_cancel_left _ (by omega)]
  rw [this]
  grind
theorem zn2 (m n z:Nat):itF n z % m=itF n (z % m) % m:=by
 have h:=zjO n (z % m) (m*(z / m))
 rw [Nat.mod_add_div] at h
 rw [h,← Nat.mul_assoc,Nat.mul_comm _ m,Nat.mul_assoc,Nat.add_mul_mod_self_left]
theorem zd4:∀ (k x y:Nat),y<2 ^ k→∃ q,q<2 ^ k∧itF q x % 2 ^ k=y
 | 0,x,y,h=>⟨0,by decide,by rw [Nat.pow_zero] at *;omega⟩
 | k+1,x,y,h=>by
  have e:2 ^ (k+1)=2*2 ^ k:=by rw [Nat.pow_succ];omega
  have hp:0<2 ^ k:=Nat.two_pow_pos k
  refine zc1b (zd4 k x (y % 2 ^ k) (Nat.mod_lt _ hp)) fun q hq hm => ?_
  rw [e] at h ⊢
  by_cases c:itF q x % (2*2 ^ k)=y
  ·exact ⟨q,by omega,c⟩
  ·refine ⟨q+2 ^ k,by omega,?_⟩
   rw [ziT]
   obtain ⟨u,hu⟩:=zj8 k (itF q x)
   rw [hu]
   generalize itF q x=w at *
   generalize 2 ^ k=m at *
   have e2:w+m*(2*u+1)=(w+m)+(2*m)*u:=by grind
   rw [e2,Nat.add_mul_mod_self_left]
   have d1:=Nat.div_add_mod w m
   have d2:=Nat.div_add_mod y m
   have d3:=Nat.div_add_mod w (2*m)
   have l3:=Nat.mod_lt w (show 0<2*m by omega)
   rw [hm] at d1
   have r3:w % (2*m) % m=y % m:=by rw [Nat.mod_mul_left_mod];exact hm
   have a1:w % (2*m)<m∨m≤w % (2*m):=by omega
   have a2:y<m∨m≤y:=by omega
   have s1:∀ t,t<2*m→m≤t→t % m=t-m:=fun t h1 h2=>by
    rw [Nat.mod_eq_sub_mod h2,Nat.mod_eq_of_lt (by omega)]
   rw [Nat.add_mod,Nat.mod_eq_of_lt (show m<2*m by omega)]
   generalize w % (2*m)=t at *
   rcases a1 with a1|a1<;>rcases a2 with a2|a2
   ·rw [Nat.mod_eq_of_lt a1,Nat.mod_eq_of_lt a2] at r3;exact absurd r3 c
   ·rw [Nat.mod_eq_of_lt a1,s1 y h a2] at r3;rw [Nat.mod_eq_of_lt (by omega)];omega
   ·rw [Nat.mod_eq_of_lt a2,s1 t l3 a1] at r3
    rw [Nat.mod_eq_sub_mod (by omega),Nat.mod_eq_of_lt (by omega)];omega
   ·rw [s1 t l3 a1,s1 y h a2] at r3;exact absurd (by omega) c
noncomputable def zas (t:SetTable):Nat→SetTable.Probe→SetTable.Probe
 | 0,p=>p
 | n+1,p=>zas t n (t.advance p)
theorem zbP (t:SetTable)(a b:Nat)(p:SetTable.Probe):zas t (a+b) p=zas t b (zas t a p):=by
 induction a generalizing p with
 | zero=>rw [Nat.zero_add];rfl
 | succ a ih=>rw [Nat.succ_add];exact ih _
theorem zi7 (t:SetTable)(n:Nat)(p:SetTable.Probe):zas t (n+1) p=t.advance (zas t n p):=zbP t n 1 p
noncomputable def zcQ (mask i pert:Nat):SetTable.Probe:={ j:=i,more:=SetTable.runEnd mask i-i,i:=i,perturb:=pert,dummy:=none }
noncomputable def runs (mask:Nat):Nat→Nat×Nat→Nat×Nat
 | 0,s=>s
 | n+1,s=>runs mask n (SetTable.leap mask s.1 s.2)
theorem znx (mask i:Nat):SetTable.runEnd mask i-i≤9:=by
 unfold SetTable.runEnd
 split<;>omega
theorem zkO (t:SetTable)(m:Nat):∀ (p:SetTable.Probe),p.more=m→p.dummy=none→zas t (m+1) p=zcQ t.mask (SetTable.leap t.mask p.i p.perturb).1 (SetTable.leap t.mask p.i p.perturb).2:=by
 induction m with
 | zero =>
  intro p hm hd
  show t.advance p=_
  unfold SetTable.advance
  rw [if_neg (by omega)]
  unfold zcQ
  rw [hd]
 | succ m ih =>
  intro p hm hd
  have h:=ih { p with j:=p.j+1,more:=p.more-1 } (by show p.more-1=m;omega) hd
  show zas t (m+1) (t.advance p)=_
  have ha:t.advance p={ p with j:=p.j+1,more:=p.more-1 }:=by
   unfold SetTable.advance
   rw [if_pos (by omega)]
  rw [ha,h]
theorem zmC (t:SetTable):∀ (r i pert:Nat),∃ n,n≤10*r∧zas t n (zcQ t.mask i pert)=zcQ t.mask (runs t.mask r (i,pert)).1 (runs t.mask r (i,pert)).2
 | 0,i,pert=>⟨0,Nat.le_refl _,rfl⟩
 | r+1,i,pert=>by
  have h1:=zkO t (SetTable.runEnd t.mask i-i) (zcQ t.mask i pert) rfl rfl
  refine zc1b (zmC t r (SetTable.leap t.mask i pert).1 (SetTable.leap t.mask i pert).2) fun n hn h2 => ?_
  have hl:=znx t.mask i
  refine ⟨(SetTable.runEnd t.mask i-i+1)+n,by omega,?_⟩
  rw [zbP,h1]
  exact h2
theorem zhM (mask a b:Nat)(s:Nat×Nat):runs mask (a+b) s=runs mask b (runs mask a s):=by
 induction a generalizing s with
 | zero=>rw [Nat.zero_add];rfl
 | succ a ih=>rw [Nat.succ_add];exact ih _
theorem zdR (mask:Nat):∀ (r:Nat) (s:Nat×Nat),(runs mask r s).2=s.2 / 32 ^ r
 | 0,s=>by show s.2=_;rw [Nat.pow_zero,Nat.div_one]
 | r+1,s=>by
  show (runs mask r (SetTable.leap mask s.1 s.2)).2=_
  rw [zdR mask r]
  show s.2 / 32 / 32 ^ r=_
  rw [Nat.div_div_eq_div_mul,Nat.pow_succ,Nat.mul_comm 32]
theorem zdO (mask:Nat):∀ (r i:Nat),i<mask+1→runs mask r (i,0)=(itF r i % (mask+1),0)
 | 0,i,h=>by
  show (i,0)=(i % (mask+1),0)
  rw [Nat.mod_eq_of_lt h]
 | r+1,i,h=>by
  show runs mask r ((i*5+1+0 / 32) % (mask+1),0 / 32)=(itF r (5*i+1) % (mask+1),0)
  rw [Nat.zero_div,Nat.add_zero,zdO mask r _ (Nat.mod_lt _ (by omega)),← zn2,Nat.mul_comm i 5]
theorem zlf (mask r:Nat)(s:Nat×Nat)(h:s.1<mask+1):(runs mask r s).1<mask+1:=by
 induction r generalizing s with
 | zero=>exact h
 | succ r ih=>exact ih _ (Nat.mod_lt _ (by omega))
theorem cover {t:SetTable}{k:Nat}(hk:t.mask+1=2 ^ k)(h:Int){y:Nat}(hy:y≤t.mask):∃ n,n<10*SetTable.turns t.mask∧(zas t n (t.probeStart h)).j=y:=by
 have hs:t.probeStart h=zcQ t.mask (SetTable.bits h % (t.mask+1)) (SetTable.bits h):=rfl
 have hb:SetTable.bits h<2 ^ 64:=by
  unfold SetTable.bits
  have:=Int.emod_lt_of_pos h (show (0:Int)<2 ^ 64 by decide)
  have:=Int.emod_nonneg h (show (2 ^ 64:Int)≠0 by decide)
  omega
 have hl:=zlf t.mask 13 (SetTable.bits h % (t.mask+1),SetTable.bits h) (Nat.mod_lt _ (by omega))
 have hp:(runs t.mask 13 (SetTable.bits h % (t.mask+1),SetTable.bits h)).2=0:=by
  rw [zdR]
  exact Nat.div_eq_of_lt (Nat.lt_of_lt_of_le hb (by decide))
 refine zc1b (zd4 k (runs t.mask 13 (SetTable.bits h % (t.mask+1),SetTable.bits h)).1 y (by omega)) fun q hq e => ?_
 have hr:runs t.mask (13+q) (SetTable.bits h % (t.mask+1),SetTable.bits h)=(y,0):=by
  rw [zhM]
  generalize hR:runs t.mask 13 (SetTable.bits h % (t.mask+1),SetTable.bits h)=s at *
  obtain ⟨s1,s2⟩:=s
  simp only at hp hl e
  rw [hp,zdO t.mask q s1 hl,hk,e]
 refine zc1b (zmC t (13+q) (SetTable.bits h % (t.mask+1)) (SetTable.bits h)) fun n hn e2 => ?_
 refine ⟨n,by unfold SetTable.turns;omega,?_⟩
 rw [hs,e2,hr]
 rfl
theorem zgl {t:SetTable}{p:SetTable.Probe}(h:p.dummy=none):(t.advance p).dummy=none:=by
 unfold SetTable.advance
 split
 ·exact h
 ·exact h
theorem ziL {t:SetTable}{p:SetTable.Probe}(h:p.dummy=none)(n:Nat):(zas t n p).dummy=none:=by
 induction n generalizing p with
 | zero=>exact h
 | succ n ih=>exact ih (zgl h)
theorem zhx {t:SetTable}{hashAt:Nat→Int}{h:Int}:∀ (k fuel:Nat) (p:SetTable.Probe),k<fuel→p.dummy=none→(∀ m,m<k→∃ i,t.slot (zas t m p).j=.live i)→t.slot (zas t k p).j=.empty →
 (∃ m i,m<k∧t.slot (zas t m p).j=.live i∧hashAt i=h∧SetTable.probe.go t hashAt h fuel p=some (.candidate (zas t m p).j i (zas t (m+1) p))∧∀ m' i',m'<m→t.slot (zas t m' p).j=.live i'→hashAt i'≠h) ∨
 (SetTable.probe.go t hashAt h fuel p=some (.empty (zas t k p).j none)∧∀ m' i',m'<k→t.slot (zas t m' p).j=.live i'→hashAt i'≠h)
 | 0,0,p,hf,_,_,_=>absurd hf (Nat.lt_irrefl _)
 | 0,fuel+1,p,_,hd,_,he=>by
  have he:t.slot p.j=.empty:=he
  refine .inr ⟨?_,fun m' i' hm=>absurd hm (Nat.not_lt_zero _)⟩
  unfold SetTable.probe.go
  rw [he]
  show some (SetTable.Met.empty p.j p.dummy)=_
  rw [hd]
  rfl
 | k+1,0,p,hf,_,_,_=>absurd hf (Nat.not_lt_zero _)
 | k+1,fuel+1,p,hf,hd,hl,he=>by
  obtain ⟨i,hi⟩:=hl 0 (Nat.succ_pos _)
  have hi:t.slot p.j=.live i:=hi
  by_cases c:hashAt i=h
  ·refine .inl ⟨0,i,Nat.succ_pos _,hi,c,?_,fun m' i' hm=>absurd hm (Nat.not_lt_zero _)⟩
   unfold SetTable.probe.go
   rw [hi]
   show (if (hashAt i == h)=true then _ else _)=_
   rw [if_pos (by rw [c];exact beq_self_eq_true h)]
   rfl
  ·have hg:SetTable.probe.go t hashAt h (fuel+1) p=SetTable.probe.go t hashAt h fuel (t.advance p):=by
    rw [SetTable.probe.go]
    rw [hi]
    show (if (hashAt i == h)=true then _ else _)=_
    rw [if_neg (by simpa using c)]
   rcases zhx (hashAt:=hashAt) (h:=h) k fuel (t.advance p) (by omega) (zgl hd) (fun m hm=>hl (m+1) (by omega)) he with ⟨m,i2,h1,h2,h3,h4,h5⟩|⟨h1,h2⟩
   ·refine .inl ⟨m+1,i2,by omega,h2,h3,by rw [hg];exact h4,fun m' i' hm hs => ?_⟩
    cases m' with
    | zero =>
     have hs:t.slot p.j=.live i':=hs
     rw [hi] at hs
     cases hs
     exact c
    | succ m'=>exact h5 m' i' (by omega) hs
   ·refine .inr ⟨by rw [hg];exact h1,fun m' i' hm hs => ?_⟩
    cases m' with
    | zero =>
     have hs:t.slot p.j=.live i':=hs
     rw [hi] at hs
     cases hs
     exact c
    | succ m'=>exact h2 m' i' (by omega) hs
end L2.ST
namespace L2.ST
open PySem
noncomputable def UpA (xs:Array Nat):Prop:=∀ i j,i<j→j<xs.size→xs.getD i 0<xs.getD j 0
theorem zaD {α : Type}{xs:Array α}{i:Nat}(h:i<xs.size)(d : α):xs.getD i d=xs[i]:=by
 unfold Array.getD
 rw [dif_pos h]
 rfl
theorem zfy {xs:Array Nat}{j:Nat}(u:UpA xs):∀ (fuel lo hi:Nat),hi-lo≤fuel→lo≤hi→hi≤xs.size→(∀ i,i<lo→xs.getD i 0<j)→(∀ i,hi≤i→i<xs.size→j≤xs.getD i 0) →
 SetTable.below.go xs j fuel lo hi≤xs.size∧(∀ i,i<SetTable.below.go xs j fuel lo hi→xs.getD i 0<j)∧∀ i,SetTable.below.go xs j fuel lo hi≤i→i<xs.size→j≤xs.getD i 0
 | 0,lo,hi,hf,hl,hs,h1,h2=>by
  have e:lo=hi:=by omega
  subst e
  unfold SetTable.below.go
  exact ⟨hs,h1,h2⟩
 | fuel+1,lo,hi,hf,hl,hs,h1,h2=>by
  unfold SetTable.below.go
  by_cases c:lo<hi
  ·rw [if_pos c]
   refine zc1e (zmP (k:=fuel+1) (x:=0) c hf) fun m e m1 m2 m3 m4 => ?_
   have hm:m<xs.size:=Nat.lt_of_lt_of_le m2 hs
   have em:xs.getD m j=xs.getD m 0:=by rw [zaD hm,zaD hm]
   show (if xs.getD ((lo+hi) / 2) j<j then _ else _)≤xs.size∧(∀ i,i<(if xs.getD ((lo+hi) / 2) j<j then _ else _)→_)∧∀ i,(if xs.getD ((lo+hi) / 2) j<j then _ else _)≤i→_
   rw [e]
   by_cases d:xs.getD m j<j
   ·rw [if_pos d]
    rw [em] at d
    refine zfy u fuel (m+1) hi m4 m2 hs (fun i hi' => ?_) h2
    by_cases q:i=m
    ·rw [q];exact d
    ·exact Nat.lt_trans (u i m (Nat.lt_of_le_of_ne (Nat.le_of_lt_succ hi') q) hm) d
   ·rw [if_neg d]
    rw [em] at d
    refine zfy u fuel lo m m3 m1 (Nat.le_of_lt hm) h1 fun i hi' hs' => ?_
    by_cases q:i=m
    ·rw [q];exact Nat.le_of_not_lt d
    ·exact Nat.le_of_lt (Nat.lt_of_le_of_lt (Nat.le_of_not_lt d) (u m i (Nat.lt_of_le_of_ne hi' (Ne.symm q)) hs'))
  ·rw [if_neg c]
   have e:lo=hi:=by omega
   subst e
   exact ⟨hs,h1,h2⟩
theorem zdv {xs:Array Nat}(u:UpA xs)(j:Nat):SetTable.below xs j≤xs.size∧(∀ i,i<SetTable.below xs j→xs.getD i 0<j)∧∀ i,SetTable.below xs j≤i→i<xs.size→j≤xs.getD i 0 :=
 zfy u xs.size 0 xs.size (by omega) (by omega) (Nat.le_refl _) (fun i h=>absurd h (Nat.not_lt_zero _)) fun i h1 h2=>by omega
theorem zlK {xs:Array Nat}(u:UpA xs){i:Nat}(hi:i<xs.size):SetTable.below xs (xs.getD i 0)=i:=by
 refine zc0c (zdv u (xs.getD i 0)) fun h1 h2 h3 => ?_
 generalize SetTable.below xs (xs.getD i 0)=p at *
 rcases Nat.lt_trichotomy p i with q|q|q
 ·have a:=u p i q hi
  have b:=h3 p (Nat.le_refl _) (by omega)
  omega
 ·exact q
 ·have:=h2 i q
  omega
noncomputable def occ (t:SetTable)(j:Nat):Prop:=∃ i,i<t.place.size∧t.place.getD i 0=j
theorem zhv (j:Nat):SetTable.has #[] j=false:=rfl
theorem zgv {t:SetTable}(u:UpA t.place){i j:Nat}(hi:i<t.place.size)(e:t.place.getD i 0=j):t.slot j=.live i:=by
 unfold SetTable.slot
 have hb:SetTable.below t.place j=i:=by rw [← e];exact zlK u hi
 show (if (t.place[SetTable.below t.place j]? == some j)=true then SetTable.Slot.live (SetTable.below t.place j) else _)=_
 rw [hb]
 have hg:t.place[i]? = some j:=by
  rw [Array.getElem?_eq_getElem hi,← e,zaD hi]
 rw [hg,if_pos (beq_self_eq_true _)]
theorem zil {t:SetTable}(hd:t.dummies = #[]){j:Nat}(h:¬ occ t j):t.slot j=.empty:=by
 unfold SetTable.slot
 show (if (t.place[SetTable.below t.place j]? == some j)=true then _ else _)=_
 have hn:¬ (t.place[SetTable.below t.place j]? == some j)=true:=by
  intro z
  have z:t.place[SetTable.below t.place j]? = some j:=by simpa using z
  obtain ⟨h1,h2⟩:=Array.getElem?_eq_some_iff.mp z
  exact h ⟨_,h1,by rw [zaD h1];exact h2⟩
 rw [if_neg hn,hd,zhv]
 rfl
theorem zmz {t:SetTable}(u:UpA t.place){j:Nat}(h:occ t j):∃ i,t.slot j=.live i∧i<t.place.size∧t.place.getD i 0=j:=by
 refine zc1b h fun i hi e => ?_
 exact ⟨i,zgv u hi e,hi,e⟩
theorem zkB {t t':SetTable}(h:t.mask=t'.mask)(p:SetTable.Probe):t.advance p=t'.advance p:=by
 unfold SetTable.advance
 rw [h]
theorem ze5 {t t':SetTable}(h:t.mask=t'.mask)(n:Nat)(p:SetTable.Probe):zas t n p=zas t' n p:=by
 induction n generalizing p with
 | zero=>rfl
 | succ n ih=>show zas t n (t.advance p)=zas t' n (t'.advance p);rw [zkB h,ih]
theorem zdE {t t':SetTable}(h:t.mask=t'.mask)(x:Int):t.probeStart x=t'.probeStart x:=by
 unfold SetTable.probeStart
 rw [h]
def Way (t:SetTable)(o:Nat→Prop)(x:Int)(y:Nat):Prop:=∃ n,(zas t n (t.probeStart x)).j=y∧∀ m,m<n→o (zas t m (t.probeStart x)).j
theorem Way.mono {t t':SetTable}{o o':Nat→Prop}{x:Int}{y:Nat}(h:Way t o x y)(hm:t.mask=t'.mask)(ho:∀ j,o j→o' j):Way t' o' x y:=by
 refine zc1b h fun n h1 h2 => ?_
 refine ⟨n,?_,fun m hm' => ?_⟩
 ·rw [← ze5 hm,← zdE hm];exact h1
 ·rw [← ze5 hm,← zdE hm];exact ho _ (h2 m hm')
structure TabOk (t:SetTable)(hs:Array Int):Prop where
 size:t.place.size=hs.size
 up:UpA t.place
 le:∀ i,i<t.place.size→t.place.getD i 0≤t.mask
 nod:t.dummies = #[]
 pow:∃ k,t.mask+1=2 ^ k
 room:t.place.size≤t.mask
 ways:∀ i,i<t.place.size→Way t (occ t) (hs.getD i 0) (t.place.getD i 0)
theorem zo0 {xs:Array Nat}(u:UpA xs){m:Nat}(hs:xs.size≤m):∃ y,y≤m∧∀ i,i<xs.size→xs.getD i 0≠y:=by
 by_cases h:∀ i,i<xs.size→xs.getD i 0=i
 ·exact ⟨m,Nat.le_refl _,fun i hi e=>by have:=h i hi;omega⟩
 ·obtain ⟨i,hi,hne,hmin⟩:∃ i,i<xs.size∧xs.getD i 0≠i∧∀ k,k<i→xs.getD k 0=k:=by
   have key:∀ n,n≤xs.size→(∀ k,k<n→xs.getD k 0=k)∨∃ i,i<xs.size∧xs.getD i 0≠i∧∀ k,k<i→xs.getD k 0=k:=by
    intro n
    induction n with
    | zero=>intro _;exact .inl fun k hk=>absurd hk (Nat.not_lt_zero _)
    | succ n ih =>
     intro hn
     rcases ih (by omega) with q|q
     ·by_cases c:xs.getD n 0=n
      ·refine .inl fun k hk => ?_
       by_cases e:k=n
       ·rw [e];exact c
       ·exact q k (by omega)
      ·exact .inr ⟨n,by omega,c,q⟩
     ·exact .inr q
   rcases key xs.size (Nat.le_refl _) with q|q
   ·exact absurd q h
   ·exact q
  refine ⟨i,by omega,fun k hk e => ?_⟩
  rcases Nat.lt_trichotomy k i with q|q|q
  ·have:=hmin k q;omega
  ·subst q;exact hne e
  ·have a:=u i k q hk
   have b:i≤xs.getD i 0:=by
    cases i with
    | zero=>exact Nat.zero_le _
    | succ i =>
     have:=u i (i+1) (by omega) hi
     have:=hmin i (by omega)
     omega
   omega
theorem zin {t:SetTable}{hs:Array Int}(T:TabOk t hs)(x:Int):∃ n,n<10*SetTable.turns t.mask∧(∀ m,m<n→occ t (zas t m (t.probeStart x)).j)∧¬ occ t (zas t n (t.probeStart x)).j:=by
 obtain ⟨k,hk⟩:=T.pow
 refine zc1b (zo0 T.up T.room) fun y hy hf => ?_
 refine zc1b (cover hk x hy) fun n hn e => ?_
 have hno:¬ occ t (zas t n (t.probeStart x)).j:=by
  rw [e]
  rintro ⟨i,hi,q⟩
  exact hf i hi q
 have key:∀ d n,n≤d→n<10*SetTable.turns t.mask→¬ occ t (zas t n (t.probeStart x)).j→∃ n,n<10*SetTable.turns t.mask∧(∀ m,m<n→occ t (zas t m (t.probeStart x)).j)∧¬ occ t (zas t n (t.probeStart x)).j:=by
  intro d
  induction d with
  | zero =>
   intro n hd hn hno
   have:n=0:=by omega
   subst this
   exact ⟨0,hn,fun m hm=>absurd hm (Nat.not_lt_zero _),hno⟩
  | succ d ih =>
   intro n hd hn hno
   by_cases c:∀ m,m<n→occ t (zas t m (t.probeStart x)).j
   ·exact ⟨n,hn,c,hno⟩
   ·obtain ⟨m,hm⟩:=Classical.not_forall.mp c
    obtain ⟨h1,h2⟩:=Classical.not_imp.mp hm
    exact ih m (by omega) (by omega) h2
 exact key n n (Nat.le_refl _) hn hno
theorem zb9 {α : Type}(xs:Array α){p:Nat}(hp:p≤xs.size)(x : α):(SetTable.insertAt xs p x).size=xs.size+1:=by
 unfold SetTable.insertAt
 simp
 omega
theorem zdg {α : Type}(xs:Array α){p:Nat}(hp:p≤xs.size)(x d : α)(i:Nat):(SetTable.insertAt xs p x).getD i d=if i<p then xs.getD i d else if i=p then x else xs.getD (i-1) d:=by
 unfold SetTable.insertAt
 simp only [Array.getD_eq_getD_getElem?]
 rw [Array.getElem?_append,Array.getElem?_push,Array.getElem?_extract,Array.getElem?_extract]
 simp only [Array.size_push,Array.size_extract]
 have e:min p xs.size-0=p:=by omega
 rw [e]
 rcases Nat.lt_trichotomy i p with c|c|c
 ·have a:i<p+1:=by omega
  have b:¬ i=p:=by omega
  simp only [a,b,c,if_true,if_false]
  simp
 ·subst c
  have a:¬ i<i:=Nat.lt_irrefl _
  simp only [Nat.lt_succ_self,a,if_true,if_false]
  rfl
 ·have a:¬ i<p+1:=by omega
  have b:¬ i<p:=by omega
  have b2:¬ i=p:=by omega
  simp only [a,b,b2,if_false]
  have ei:p+(i-(p+1))=i-1:=by omega
  rw [ei]
  by_cases c3:i-1<xs.size
  ·rw [if_pos (by simp only [Nat.min_self];omega)]
  ·rw [if_neg (by simp only [Nat.min_self];omega),Array.getElem?_eq_none (by omega)]
theorem zpK {t:SetTable}{hs:Array Int}(T:TabOk t hs){x:Int}{y:Nat}(hy:y≤t.mask)(hf:¬ occ t y)(hw:Way t (occ t) x y)(hr:t.place.size+1≤t.mask):TabOk (t.put y).1 (SetTable.insertAt hs (t.put y).2 x)∧(t.put y).2≤hs.size∧(t.put y).1.mask=t.mask:=by
 refine zc0c (zdv T.up y) fun b1 b2 b3 => ?_
 have hp:(t.put y).2=SetTable.below t.place y:=rfl
 have hpl:(t.put y).1.place=SetTable.insertAt t.place (SetTable.below t.place y) y:=rfl
 have hmk:(t.put y).1.mask=t.mask:=rfl
 have hdm:(t.put y).1.dummies = #[]:=by
  show (if SetTable.has t.dummies y then SetTable.eraseAt t.dummies (SetTable.below t.dummies y) else t.dummies)=_
  rw [T.nod,zhv]
  rfl
 rw [hp]
 have b4:∀ i,SetTable.below t.place y≤i→i<t.place.size→y<t.place.getD i 0:=fun i h1 h2=>by
  have:=b3 i h1 h2
  have:t.place.getD i 0≠y:=fun z=>hf ⟨i,h2,z⟩
  omega
 generalize SetTable.below t.place y=p at *
 have sz:(SetTable.insertAt t.place p y).size=t.place.size+1:=zb9 _ b1 _
 have gp:=zdg t.place b1 y 0
 have oc:∀ j,occ t j→occ (t.put y).1 j:=by
  rintro j ⟨i,hi,e⟩
  by_cases c:i<p
  ·exact ⟨i,by rw [hpl,sz];omega,by rw [hpl,gp,if_pos c];exact e⟩
  ·exact ⟨i+1,by rw [hpl,sz];omega,by rw [hpl,gp,if_neg (by omega),if_neg (by omega),Nat.add_sub_cancel];exact e⟩
 have hsz:=T.size
 refine ⟨⟨?_,?_,?_,hdm,by rw [hmk];exact T.pow,by rw [hpl,sz,hmk];exact hr,?_⟩,by omega,hmk⟩
 ·rw [hpl,sz,zb9 _ (by omega)]
  omega
 ·intro i j hij hj
  rw [hpl] at hj ⊢
  rw [sz] at hj
  rw [gp,gp]
  by_cases c1:j<p
  ·rw [if_pos c1,if_pos (by omega)]
   exact T.up i j hij (by omega)
  ·rw [if_neg c1]
   by_cases c2:j=p
   ·rw [if_pos c2,if_pos (by omega)]
    exact b2 i (by omega)
   ·rw [if_neg c2]
    by_cases c3:i<p
    ·rw [if_pos c3]
     exact T.up i (j-1) (by omega) (by omega)
    ·rw [if_neg c3]
     by_cases c4:i=p
     ·rw [if_pos c4]
      exact b4 (j-1) (by omega) (by omega)
     ·rw [if_neg c4]
      exact T.up (i-1) (j-1) (by omega) (by omega)
 ·intro i hi
  rw [hpl] at hi ⊢
  rw [sz] at hi
  rw [gp,hmk]
  split
  ·exact T.le i (by omega)
  ·split
   ·exact hy
   ·exact T.le (i-1) (by omega)
 ·intro i hi
  rw [hpl] at hi ⊢
  rw [sz] at hi
  rw [gp,zdg hs (by omega) x 0]
  by_cases c1:i<p
  ·rw [if_pos c1,if_pos c1]
   exact (T.ways i (by omega)).mono hmk.symm oc
  ·rw [if_neg c1,if_neg c1]
   by_cases c2:i=p
   ·rw [if_pos c2,if_pos c2]
    exact hw.mono hmk.symm oc
   ·rw [if_neg c2,if_neg c2]
    exact (T.ways (i-1) (by omega)).mono hmk.symm oc
end L2.ST
namespace L2.ST
open PySem
theorem zh5 (t:SetTable)(i pert:Nat):∀ k,k≤SetTable.runEnd t.mask i-i→zas t k (zcQ t.mask i pert)={ j:=i+k,more:=SetTable.runEnd t.mask i-i-k,i:=i,perturb:=pert,dummy:=none }
 | 0,_=>rfl
 | k+1,h=>by
  rw [zi7,zh5 t i pert k (by omega)]
  unfold SetTable.advance
  rw [if_pos (by show SetTable.runEnd t.mask i-i-k > 0;omega)]
  show SetTable.Probe.mk (i+k+1) (SetTable.runEnd t.mask i-i-k-1) i pert none=_
  congr 1
theorem zdD {mask i:Nat}(h:i≤mask):i≤SetTable.runEnd mask i∧SetTable.runEnd mask i≤mask:=by
 unfold SetTable.runEnd
 split<;>omega
noncomputable def occO (owner:Array (Option Nat))(j:Nat):Prop:=∃ i,owner.getD j none=some i
theorem zgh {t:SetTable}{owner:Array (Option Nat)}(hs:owner.size=t.mask+1):∀ (fuel i pert y:Nat),i≤t.mask→SetTable.layClean.free t.mask owner fuel i pert=some y →
 y≤t.mask∧owner.getD y none=none∧∃ n,(zas t n (zcQ t.mask i pert)).j=y∧∀ m,m<n→occO owner (zas t m (zcQ t.mask i pert)).j
 | 0,i,pert,y,_,h=>by unfold SetTable.layClean.free at h;exact zqn h
 | fuel+1,i,pert,y,hi,h=>by
  have hr:=zdD hi
  unfold SetTable.layClean.free at h
  have inb:∀ k,k<SetTable.runEnd t.mask i+1-i→owner.getD (i+k) (some 0)=owner.getD (i+k) none:=fun k hk=>by
   rw [zaD (by omega),zaD (by omega)]
  have bz:∀ k,k<SetTable.runEnd t.mask i+1-i→(!(owner.getD (i+k) (some 0)).isNone)=true→occO owner (i+k):=fun k hk hb=>by
   rw [inb k hk] at hb
   unfold occO
   cases q:owner.getD (i+k) none with
   | none=>rw [q] at hb;exact zqb hb
   | some v=>exact ⟨v,rfl⟩
  split at h
  ·rename_i k hk
   obtain ⟨h1,h2,h3⟩:=List.find?_range_eq_some.mp hk
   have h2:=List.mem_range.mp h2
   obtain rfl:=Option.some.inj h
   refine ⟨by omega,?_,k,?_,fun m hm => ?_⟩
   ·rw [inb k h2] at h1
    cases q:owner.getD (i+k) none with
    | none=>rfl
    | some v=>rw [q] at h1;exact zqb h1
   ·rw [zh5 t i pert k (by omega)]
   ·rw [zh5 t i pert m (by omega)]
    exact bz m (by omega) (h3 m hm)
  ·rename_i hk
   have h3:=List.find?_range_eq_none.mp hk
   have hl:(SetTable.leap t.mask i pert).1≤t.mask:=Nat.lt_succ_iff.mp (Nat.mod_lt _ (Nat.succ_pos _))
   obtain ⟨g1,g2,n,g3,g4⟩:=zgh hs fuel _ _ y hl h
   have he:=zkO t (SetTable.runEnd t.mask i-i) (zcQ t.mask i pert) rfl rfl
   have he:zas t (SetTable.runEnd t.mask i-i+1) (zcQ t.mask i pert)=zcQ t.mask (SetTable.leap t.mask i pert).1 (SetTable.leap t.mask i pert).2:=he
   refine ⟨g1,g2,SetTable.runEnd t.mask i-i+1+n,by rw [zbP,he];exact g3,fun m hm => ?_⟩
   by_cases c:m≤SetTable.runEnd t.mask i-i
   ·rw [zh5 t i pert m c]
    exact bz m (by omega) (h3 m (by omega))
   ·obtain ⟨m',rfl⟩:∃ m',m=SetTable.runEnd t.mask i-i+1+m':=⟨m-(SetTable.runEnd t.mask i-i+1),by omega⟩
    rw [zbP,he]
    exact g4 m' (by omega)
theorem zfK {mask:Nat}{owner:Array (Option Nat)}(hs:owner.size=mask+1):∀ (fuel i pert:Nat),i≤mask→SetTable.layClean.free mask owner fuel i pert=none→∀ r,r<fuel→occO owner (runs mask r (i,pert)).1
 | 0,i,pert,_,_,r,hr=>absurd hr (Nat.not_lt_zero _)
 | fuel+1,i,pert,hi,h,r,hr=>by
  have hre:=zdD hi
  unfold SetTable.layClean.free at h
  split at h
  ·cases h
  ·rename_i hk
   have h3:=List.find?_range_eq_none.mp hk
   have hl:(SetTable.leap mask i pert).1≤mask:=Nat.lt_succ_iff.mp (Nat.mod_lt _ (Nat.succ_pos _))
   cases r with
   | zero =>
    have h0:=h3 0 (by omega)
    have e:owner.getD (i+0) (some 0)=owner.getD i none:=by rw [Nat.add_zero,zaD (by omega),zaD (by omega)]
    rw [e] at h0
    show occO owner i
    unfold occO
    cases q:owner.getD i none with
    | none=>rw [q] at h0;exact zqb h0
    | some v=>exact ⟨v,rfl⟩
   | succ r=>exact zfK hs fuel _ _ hl h r (by omega)
theorem zkh {mask k:Nat}(hk:mask+1=2 ^ k)(h:Int){y:Nat}(hy:y≤mask):∃ r,r<SetTable.turns mask∧(runs mask r (SetTable.bits h % (mask+1),SetTable.bits h)).1=y:=by
 have hb:SetTable.bits h<2 ^ 64:=by
  unfold SetTable.bits
  have:=Int.emod_lt_of_pos h (show (0:Int)<2 ^ 64 by decide)
  have:=Int.emod_nonneg h (show (2 ^ 64:Int)≠0 by decide)
  omega
 have hl:=zlf mask 13 (SetTable.bits h % (mask+1),SetTable.bits h) (Nat.mod_lt _ (by omega))
 have hp:(runs mask 13 (SetTable.bits h % (mask+1),SetTable.bits h)).2=0:=by
  rw [zdR]
  exact Nat.div_eq_of_lt (Nat.lt_of_lt_of_le hb (by decide))
 refine zc1b (zd4 k (runs mask 13 (SetTable.bits h % (mask+1),SetTable.bits h)).1 y (by omega)) fun q hq e => ?_
 refine ⟨13+q,by unfold SetTable.turns;omega,?_⟩
 rw [zhM]
 generalize hR:runs mask 13 (SetTable.bits h % (mask+1),SetTable.bits h)=s at *
 obtain ⟨s1,s2⟩:=s
 simp only at hp hl e
 rw [hp,zdO mask q s1 hl,hk,e]
structure LayOk (t:SetTable)(owner:Array (Option Nat))(hs:List Int):Prop where
 size:owner.size=t.mask+1
 lt:∀ j i,owner.getD j none=some i→i<hs.length
 one:∀ j j' i,owner.getD j none=some i→owner.getD j' none=some i→j=j'
 all:∀ i,i<hs.length→∃ j,j≤t.mask∧owner.getD j none=some i∧Way t (occO owner) (hs.getD i 0) j
theorem zdJ {f:Nat→Nat}{n:Nat}(h:∀ a b,a<n→b<n→f a=f b→a=b):((List.range n).map f).Nodup:=by
 unfold List.Nodup
 rw [List.pairwise_map]
 refine List.Pairwise.imp_of_mem (R:=fun a b=>a≠b) (fun {a b} ha hb hn e=>hn (h a b (List.mem_range.mp ha) (List.mem_range.mp hb) e)) ?_
 exact List.nodup_range
theorem zmx {t:SetTable}{owner:Array (Option Nat)}{hs:List Int}(L:LayOk t owner hs)(hl:hs.length≤t.mask):∃ y,y≤t.mask∧owner.getD y none=none:=by
 apply Classical.byContradiction
 intro hno
 have al:∀ y,y<t.mask+1→∃ i,owner.getD y none=some i:=fun y hy=>by
  cases q:owner.getD y none with
  | none=>exact absurd ⟨y,by omega,q⟩ hno
  | some i=>exact ⟨i,rfl⟩
 have nd:((List.range (t.mask+1)).map fun y=>(owner.getD y none).getD 0).Nodup:=zdJ fun a b ha hb e=>by
  obtain ⟨i,hi⟩:=al a ha
  obtain ⟨i',hi'⟩:=al b hb
  rw [hi,hi'] at e
  have e:i=i':=e
  subst e
  exact L.one a b i hi hi'
 have sub:((List.range (t.mask+1)).map fun y=>(owner.getD y none).getD 0) ⊆ List.range hs.length:=fun z hz=>by
  refine zc1b (List.mem_map.mp hz) fun y hy zr2 => ?_
  obtain rfl:=zr2
  obtain ⟨i,hi⟩:=al y (List.mem_range.mp hy)
  rw [hi]
  exact List.mem_range.mpr (L.lt y i hi)
 have:=List.Nodup.length_le_of_subset nd sub
 rw [List.length_map,List.length_range,List.length_range] at this
 omega
theorem zmr {owner:Array (Option Nat)}{y:Nat}(hy:y<owner.size)(v:Option Nat)(j:Nat):(owner.setIfInBounds y v).getD j none=if j=y then v else owner.getD j none:=by
 simp only [Array.getD_eq_getD_getElem?]
 rw [Array.getElem?_setIfInBounds]
 by_cases c:y=j
 ·subst c
  rw [if_pos rfl,if_pos rfl,if_pos hy]
  rfl
 ·rw [if_neg c,if_neg fun z=>c z.symm]
theorem zl8 {t:SetTable}{owner:Array (Option Nat)}{hs:List Int}(L:LayOk t owner hs)(hl:hs.length≤t.mask)(hp:∃ k,t.mask+1=2 ^ k)(h:Int) :
 ∃ y,SetTable.layClean.free t.mask owner (SetTable.turns t.mask) (SetTable.bits h % (t.mask+1)) (SetTable.bits h)=some y∧LayOk t (owner.setIfInBounds y (some hs.length)) (hs++[h]):=by
 have hi:SetTable.bits h % (t.mask+1)≤t.mask:=Nat.lt_succ_iff.mp (Nat.mod_lt _ (Nat.succ_pos _))
 cases q:SetTable.layClean.free t.mask owner (SetTable.turns t.mask) (SetTable.bits h % (t.mask+1)) (SetTable.bits h) with
 | none =>
  obtain ⟨k,hk⟩:=hp
  refine zc1b (zmx L hl) fun y hy hf => ?_
  refine zc1b (zkh hk h hy) fun r hr e => ?_
  obtain ⟨i,hz⟩:=zfK L.size _ _ _ hi q r hr
  rw [e,hf] at hz
  exact zqn hz
 | some y =>
  refine zc0c (zgh L.size _ _ _ y hi q) fun h1 h2 zz=>zc1b zz fun n h3 h4 => ?_
  have sg:=zmr (owner:=owner) (y:=y) (by rw [L.size];omega) (some hs.length)
  have oc:∀ j,occO owner j→occO (owner.setIfInBounds y (some hs.length)) j:=by
   rintro j ⟨i,hj⟩
   refine ⟨i,?_⟩
   rw [sg,if_neg fun z=>by rw [z,h2] at hj;cases hj]
   exact hj
  refine ⟨y,rfl,⟨by rw [Array.size_setIfInBounds];exact L.size,fun j i hj => ?_,fun j j' i hj hj' => ?_,fun i hi' => ?_⟩⟩
  ·rw [List.length_append,List.length_singleton]
   rw [sg] at hj
   split at hj
   ·cases hj;omega
   ·have:=L.lt j i hj;omega
  ·rw [sg] at hj hj'
   split at hj
   ·rename_i a
    obtain rfl:=Option.some.inj hj
    split at hj'
    ·rename_i b;rw [a,b]
    ·have:=L.lt j' _ hj';omega
   ·split at hj'
    ·obtain rfl:=Option.some.inj hj'
     have:=L.lt j _ hj;omega
    ·exact L.one j j' i hj hj'
  ·rw [List.length_append,List.length_singleton] at hi'
   by_cases c:i<hs.length
   ·refine zc1c (L.all i c) fun j g1 g2 g3 => ?_
    refine ⟨j,g1,?_,?_⟩
    ·rw [sg,if_neg fun z=>by rw [z,h2] at g2;cases g2]
     exact g2
    ·have e:(hs++[h]).getD i 0=hs.getD i 0:=by
      rw [List.getD_eq_getElem?_getD,List.getD_eq_getElem?_getD,List.getElem?_append_left c]
     rw [e]
     exact g3.mono rfl oc
   ·have e:i=hs.length:=by omega
    subst e
    refine ⟨y,h1,by rw [sg,if_pos rfl],?_⟩
    have e:(hs++[h]).getD hs.length 0=h:=by
     rw [List.getD_eq_getElem?_getD,List.getElem?_append_right (Nat.le_refl _),Nat.sub_self]
     rfl
    rw [e]
    exact ⟨n,h3,fun m hm=>oc _ (h4 m hm)⟩
theorem zhF {t:SetTable}(hp:∃ k,t.mask+1=2 ^ k):∀ (rest:List Int) (hs:List Int) (owner:Array (Option Nat)),LayOk t owner hs→hs.length+rest.length≤t.mask+1 →
 ∃ owner',rest.foldl (init:=some (owner,hs.length)) (fun acc h=>do
  let (owner,k) ← acc
  let j ← SetTable.layClean.free t.mask owner (SetTable.turns t.mask) (SetTable.bits h % (t.mask+1)) (SetTable.bits h)
  pure (owner.setIfInBounds j (some k),k+1))=some (owner',hs.length+rest.length)∧LayOk t owner' (hs++rest)
 | [],hs,owner,L,_=>⟨owner,rfl,by rw [List.append_nil];exact L⟩
 | h::rest,hs,owner,L,hl=>by
  rw [List.length_cons] at hl
  refine zc1b (zl8 L (by omega) hp h) fun y e L' => ?_
  refine zc1b (zhF hp rest (hs++[h]) _ L' (by rw [List.length_append,List.length_singleton];omega)) fun o' e2 L2 => ?_
  refine ⟨o',?_,by rw [List.append_assoc] at L2;exact L2⟩
  rw [List.length_append,List.length_singleton] at e2
  rw [List.foldl_cons]
  simp only [Option.bind_eq_bind,Option.bind_some,e]
  rw [List.length_cons,show hs.length+(rest.length+1)=hs.length+1+rest.length by omega]
  exact e2
theorem zli {t:SetTable}(hp:∃ k,t.mask+1=2 ^ k)(hs:Array Int)(hl:hs.size≤t.mask+1):∃ owner,SetTable.layClean t.mask hs=some owner∧LayOk t owner hs.toList:=by
 have L0:LayOk t (Array.replicate (t.mask+1) none) []:=by
  have z:∀ j i,(Array.replicate (t.mask+1) (none:Option Nat)).getD j none≠some i:=fun j i h=>by
   simp only [Array.getD_eq_getD_getElem?,Array.getElem?_replicate] at h
   split at h<;>exact zqn h
  exact ⟨by simp,fun j i h=>absurd h (z j i),fun j j' i h=>absurd h (z j i),fun i h=>absurd h (Nat.not_lt_zero _)⟩
 refine zc1b (zhF hp hs.toList [] _ L0 (by simpa using hl)) fun o e L => ?_
 refine ⟨o,?_,by simpa using L⟩
 unfold SetTable.layClean
 rw [← Array.foldl_toList]
 have e:hs.toList.foldl _ (some (Array.replicate (t.mask+1) none,0))=some (o,[].length+hs.toList.length):=e
 rw [e]
 rfl
end L2.ST
namespace L2.ST
open PySem
theorem zlL {owner:Array (Option Nat)}{j i:Nat}(h:owner.getD j none=some i):j<owner.size:=by
 apply Classical.byContradiction
 intro z
 rw [Array.getD_eq_getD_getElem?,Array.getElem?_eq_none (by omega)] at h
 exact zqn h
noncomputable def zeb (mask:Nat)(owner:Array (Option Nat)):List (Nat×Nat):=(List.range (mask+1)).filterMap fun j=>(owner.getD j none).map (j,·)
theorem zlE {mask:Nat}{owner:Array (Option Nat)}{p:Nat×Nat}:p∈zeb mask owner↔p.1≤mask∧owner.getD p.1 none=some p.2:=by
 unfold zeb
 rw [List.mem_filterMap]
 constructor
 ·rintro ⟨j,hj,e⟩
  refine zc1b (Option.map_eq_some_iff.mp e) fun i hi e => ?_
  subst e
  exact ⟨Nat.lt_succ_iff.mp (List.mem_range.mp hj),hi⟩
 ·rintro ⟨h1,h2⟩
  exact ⟨p.1,List.mem_range.mpr (by omega),by rw [h2];rfl⟩
theorem zob (mask:Nat)(owner:Array (Option Nat)):(zeb mask owner).Pairwise fun a b=>a.1<b.1:=by
 unfold zeb
 rw [List.pairwise_filterMap]
 refine List.pairwise_lt_range.imp fun {a b} hab x hx y hy => ?_
 refine zc1b (Option.map_eq_some_iff.mp hx) fun i _ zr2 => ?_
 obtain rfl:=zr2
 refine zc1b (Option.map_eq_some_iff.mp hy) fun i' _ zr2 => ?_
 obtain rfl:=zr2
 exact hab
theorem zdW {α : Type}(l:List α)(i:Nat)(d : α):l.toArray.getD i d=l.getD i d:=by
 rw [Array.getD_eq_getD_getElem?,List.getElem?_toArray,List.getD_eq_getElem?_getD]
theorem zfl {α β : Type}(l:List α)(f : α → β)(i:Nat)(hi:i<l.length)(d : β):(l.map f).getD i d=f l[i]:=by
 rw [List.getD_eq_getElem?_getD,List.getElem?_map,List.getElem?_eq_getElem hi]
 rfl
theorem znE {mask:Nat}(hp:∃ k,mask+1=2 ^ k)(hs:Array Int)(hl:hs.size≤mask)(finger moves:Nat)(led plain:Bool) :
 ∃ t' order,SetTable.laid mask finger moves led plain hs=some (t',order)∧t'.mask=mask∧t'.moves=moves∧t'.led=led∧t'.plain=plain∧t'.finger=finger∧order.size=hs.size∧(∀ k,k<order.size→order.getD k 0<hs.size)∧(∀ k k',k<order.size→k'<order.size→order.getD k 0=order.getD k' 0→k=k')∧(∀ i,i<hs.size→∃ k,k<order.size∧order.getD k 0=i)∧TabOk t' (order.map fun i=>hs.getD i 0):=by
 let t0:SetTable:={ mask:=mask,place:=#[],dummies:=#[],finger:=0,led:=false,moves:=0,plain:=true }
 refine zc1b (zli (t:=t0) hp hs (by show hs.size≤mask+1;omega)) fun owner e L => ?_
 have e:SetTable.layClean mask hs=some owner:=e
 have hsz:owner.size=mask+1:=L.size
 have mem:=fun p=>zlE (mask:=mask) (owner:=owner) (p:=p)
 have up:=zob mask owner
 have nd2:((zeb mask owner).map (·.2)).Nodup:=by
  unfold List.Nodup
  rw [List.pairwise_map]
  refine List.Pairwise.imp_of_mem (fun {a b} ha hb hab e2 => ?_) up
  have h1:=((mem a).mp ha).2
  have h2:=((mem b).mp hb).2
  rw [e2] at h1
  have:=L.one _ _ _ h1 h2
  omega
 have sub1:((zeb mask owner).map (·.2)) ⊆ List.range hs.size:=fun z hz=>by
  refine zc1b (List.mem_map.mp hz) fun p hp zr2 => ?_
  obtain rfl:=zr2
  have:=L.lt _ _ ((mem p).mp hp).2
  exact List.mem_range.mpr (by simpa using this)
 have sub2:List.range hs.size ⊆ ((zeb mask owner).map (·.2)):=fun i hi=>by
  refine zc1c (L.all i (by simpa using List.mem_range.mp hi)) fun j h1 h2 _ => ?_
  exact List.mem_map.mpr ⟨(j,i),(mem (j,i)).mpr ⟨h1,h2⟩,rfl⟩
 have len:(zeb mask owner).length=hs.size:=by
  have a:=List.Nodup.length_le_of_subset nd2 sub1
  have b:=List.Nodup.length_le_of_subset List.nodup_range sub2
  rw [List.length_map,List.length_range] at a b
  omega
 have el:SetTable.laid mask finger moves led plain hs=some ({ mask:=mask,place:=((zeb mask owner).map (·.1)).toArray,dummies:=#[],finger:=finger,led:=led,moves:=moves,plain:=plain },((zeb mask owner).map (·.2)).toArray):=by
  unfold SetTable.laid
  rw [e]
  rfl
 generalize hlv:zeb mask owner=lv at *
 have gp:∀ i (hi:i<lv.length),((lv.map (·.1)).toArray).getD i 0=lv[i].1:=fun i hi=>by rw [zdW,zfl _ _ _ hi]
 have go:∀ i (hi:i<lv.length),((lv.map (·.2)).toArray).getD i 0=lv[i].2:=fun i hi=>by rw [zdW,zfl _ _ _ hi]
 have upi:=List.pairwise_iff_getElem.mp up
 refine ⟨_,_,el,rfl,rfl,rfl,rfl,rfl,by simpa using len,fun k hk => ?_,fun k k' hk hk' e2 => ?_,fun i hi => ?_,?_⟩
 ·have hk:k<lv.length:=by simpa using hk
  rw [go k hk]
  have:=L.lt _ _ ((mem lv[k]).mp (List.getElem_mem hk)).2
  simpa using this
 ·have hk:k<lv.length:=by simpa using hk
  have hk':k'<lv.length:=by simpa using hk'
  rw [go k hk,go k' hk'] at e2
  have h1:=((mem lv[k]).mp (List.getElem_mem hk)).2
  have h2:=((mem lv[k']).mp (List.getElem_mem hk')).2
  rw [e2] at h1
  have e3:=L.one _ _ _ h1 h2
  rcases Nat.lt_trichotomy k k' with q|q|q
  ·have:=upi k k' hk hk' q;omega
  ·exact q
  ·have:=upi k' k hk' hk q;omega
 ·refine zc1b (List.mem_map.mp (sub2 (List.mem_range.mpr hi))) fun p hp e2 => ?_
  obtain ⟨k,hk,rfl⟩:=List.getElem_of_mem hp
  exact ⟨k,by simpa using hk,by rw [go k hk];exact e2⟩
 ·have oc:∀ j,occO owner j→occ { mask:=mask,place:=(lv.map (·.1)).toArray,dummies:=#[],finger:=finger,led:=led,moves:=moves,plain:=plain } j:=by
   rintro j ⟨i,hj⟩
   have hin:=zlL hj
   have hm:(j,i)∈lv:=(mem (j,i)).mpr ⟨by show j≤mask;omega,hj⟩
   obtain ⟨k,hk,e2⟩:=List.getElem_of_mem hm
   exact ⟨k,by simpa using hk,by show ((lv.map (·.1)).toArray).getD k 0=j;rw [gp k hk,e2]⟩
  refine ⟨by simp,fun i j hij hj => ?_,fun i hi => ?_,rfl,hp,by show ((lv.map (·.1)).toArray).size≤mask;simp;omega,fun k hk => ?_⟩
  ·have hj:j<lv.length:=by simpa using hj
   show ((lv.map (·.1)).toArray).getD i 0<((lv.map (·.1)).toArray).getD j 0
   rw [gp i (by omega),gp j hj]
   exact upi i j (by omega) hj hij
  ·have hi:i<lv.length:=by simpa using hi
   show ((lv.map (·.1)).toArray).getD i 0≤mask
   rw [gp i hi]
   exact ((mem lv[i]).mp (List.getElem_mem hi)).1
  ·have hk:k<lv.length:=by simpa using hk
   have h1:=((mem lv[k]).mp (List.getElem_mem hk)).2
   have hlt:=L.lt _ _ h1
   refine zc1c (L.all lv[k].2 hlt) fun j g1 g2 g3 => ?_
   have ej:=L.one _ _ _ g2 h1
   subst ej
   have eh:(((lv.map (·.2)).toArray).map fun i=>hs.getD i 0).getD k 0=hs.toList.getD lv[k].2 0:=by
    have e4:((lv.map (·.2)).toArray).map (fun i=>hs.getD i 0)=((lv.map (·.2)).map fun i=>hs.getD i 0).toArray:=by simp
    rw [e4,zdW,List.map_map,zfl _ _ _ hk]
    show hs.getD lv[k].2 0=_
    rw [Array.getD_eq_getD_getElem?,List.getD_eq_getElem?_getD,Array.getElem?_toList]
   rw [eh]
   show Way _ _ _ (((lv.map (·.1)).toArray).getD k 0)
   rw [gp k hk]
   exact g3.mono rfl oc
theorem zj3:∀ (fuel size n:Nat),(∃ k,size=2 ^ k)→n<size*2 ^ fuel→(∃ k,SetTable.sizeAbove.go n fuel size=2 ^ k)∧n<SetTable.sizeAbove.go n fuel size
 | 0,size,n,hp,h=>by
  unfold SetTable.sizeAbove.go
  exact ⟨hp,by simpa using h⟩
 | fuel+1,size,n,⟨k,hk⟩,h=>by
  unfold SetTable.sizeAbove.go
  split
  ·exact zj3 fuel (size*2) n ⟨k+1,by rw [Nat.pow_succ,hk]⟩ (by rw [Nat.mul_assoc,← Nat.pow_succ'];exact h)
  ·exact ⟨⟨k,hk⟩,by omega⟩
theorem ze6 {n:Nat}(h:n<1000000000):(∃ k,SetTable.sizeAbove n=2 ^ k)∧n<SetTable.sizeAbove n :=
 zj3 64 8 n ⟨3,rfl⟩ (Nat.lt_of_lt_of_le h (by decide))
theorem zeD:∀ (fuel size n:Nat),size≤2*n+8→SetTable.sizeAbove.go n fuel size≤2*n+8
 | 0,size,n,h=>by unfold SetTable.sizeAbove.go;exact h
 | fuel+1,size,n,h=>by
  unfold SetTable.sizeAbove.go
  split
  ·exact zeD fuel (size*2) n (by omega)
  ·exact h
theorem zfc (n:Nat):SetTable.sizeAbove n≤2*n+8:=zeD 64 8 n (by omega)
theorem zkK {t:SetTable}{hs:Array Int}{wanted:Nat}(h1:hs.size≤wanted)(h2:wanted<1000000000) :
 ∃ t' order,t.relaid hs wanted=some (t',order)∧t'.led=t.led∧t'.plain=t.plain∧t'.mask+1=SetTable.sizeAbove wanted∧order.size=hs.size∧(∀ k,k<order.size→order.getD k 0<hs.size)∧(∀ k k',k<order.size→k'<order.size→order.getD k 0=order.getD k' 0→k=k')∧(∀ i,i<hs.size→∃ k,k<order.size∧order.getD k 0=i)∧TabOk t' (order.map fun i=>hs.getD i 0):=by
 obtain ⟨⟨k,hk⟩,hlt⟩:=ze6 h2
 have hm:SetTable.sizeAbove wanted-1+1=SetTable.sizeAbove wanted:=by omega
 refine zc2a (znE (mask:=SetTable.sizeAbove wanted-1) ⟨k,by rw [hm];exact hk⟩ hs (by omega) t.finger (t.movedTo (SetTable.sizeAbove wanted-1)) t.led t.plain) fun t' order zz=>zc0e zz fun e e1 _ e3 zz=>zc0e zz fun e4 _ e6 e7 zz=>zc0c zz fun e8 e9 e10 => ?_
 exact ⟨t',order,e,e3,e4,by rw [e1];exact hm,e6,e7,e8,e9,e10⟩
end L2.ST
namespace L2.ST
open PySem
variable {prog:Program}{w:World}{A:Around}{E:Value→Shared→Prop}{s:Shared}
theorem TabOk.fits {t:SetTable}{es:Array (Int×Value)}(T:TabOk t (es.map (·.1))):t.fits es.size=true:=by
 have h1:=T.size
 rw [Array.size_map] at h1
 unfold SetTable.fits SetTable.fill
 rw [T.nod]
 simp -iota [h1,show es.size≤t.mask by have:=T.room;omega]
theorem zh3 {es:Array (Int×Value)}{i:Nat}(hi:i<es.size):(es.map (·.1)).getD i 0=es[i].1:=by
 rw [zaD (by rw [Array.size_map];exact hi)]
 simp -iota
theorem zhn {es:Array (Int×Value)}{i:Nat}(hi:i<es.size):(es[i]?.map (·.1)).getD 0=es[i].1:=by
 rw [Array.getElem?_eq_getElem hi]
 rfl
noncomputable def zfu (t:SetTable)(p:SetTable.Probe):Prop:=p.j+p.more≤t.mask
theorem zfM (t:SetTable){i pert:Nat}(h:i≤t.mask):zfu t (zcQ t.mask i pert):=by
 have:=zdD h
 show i+(SetTable.runEnd t.mask i-i)≤t.mask
 omega
theorem zk8 {t:SetTable}{p:SetTable.Probe}(h:zfu t p):zfu t (t.advance p):=by
 unfold zfu at h
 unfold SetTable.advance
 split
 ·show p.j+1+(p.more-1)≤t.mask
  omega
 ·have hl:(SetTable.leap t.mask p.i p.perturb).1≤t.mask:=Nat.lt_succ_iff.mp (Nat.mod_lt _ (Nat.succ_pos _))
  exact zfM t (pert:=(SetTable.leap t.mask p.i p.perturb).2) hl
theorem ziu {t:SetTable}{p:SetTable.Probe}(h:zfu t p)(n:Nat):zfu t (zas t n p):=by
 induction n generalizing p with
 | zero=>exact h
 | succ n ih=>exact ih (zk8 h)
theorem zlx (t:SetTable)(h:Int):zfu t (t.probeStart h):=zfM t (pert:=SetTable.bits h) (Nat.lt_succ_iff.mp (Nat.mod_lt _ (Nat.succ_pos _)))
theorem znH {t:SetTable}{p:SetTable.Probe}(h:zfu t p)(n:Nat):(zas t n p).j≤t.mask:=by
 have:=ziu h n
 unfold zfu at this
 omega
theorem zd8 {a:Addr}{o:Obj}{es:Array (Int×Value)}{ep:Nat}{t:SetTable}{x:Value}{h:Int}{same:Value→Bool}{Q:SetFound→Shared→Prop}{e:Nat}
 (ho:s.heap.get? a=some o) (hd:o.data=.set es ep t) (T:TabOk t (es.map (·.1))) (hodd:t.mask % 2=1)
 (hq:∀ i (hi:i<es.size),es[i].1=h→∀ Q:Bool→Shared→Prop,Q (same es[i].2) s→wpAny (model prog w) A (eqBool es[i].2 x) Q E s)
 (hr:∀ i (hi:i<es.size),∃ b,es[i].2=.ref b)
 (hsn:t.led=true∨∀ Q:Bool→Shared→Prop,Q false s→wpAny (model prog w) A (searchCouldBeSeen x ((es.filter (·.1 == h)).toList.map (·.2))) Q E s)
 (he:e<10*SetTable.turns t.mask) (hoc:∀ m,m<e→occ t (zas t m (t.probeStart h)).j) (hfr:¬ occ t (zas t e (t.probeStart h)).j)
 (hit:∀ i (hi:i<es.size),es[i].1=h→same es[i].2=true→Q (.there none) s)
 (miss:(∀ i (hi:i<es.size),es[i].1=h→same es[i].2=false)→Q (.free (zas t e (t.probeStart h)).j false) s) :
 ∀ (fuel c:Nat) (st:Option SetTable.Probe),c≤e→e-c<fuel→st.getD (t.probeStart h)=zas t c (t.probeStart h) →
  (∀ m i (hi:i<es.size),m<c→t.slot (zas t m (t.probeStart h)).j=.live i→es[i].1=h→same es[i].2=false) →
  wpAny (model prog w) A (setSearchFrom a x h true fuel st) Q E s
 | 0,c,st,hc,hf,_,_=>absurd hf (Nat.not_lt_zero _)
 | fuel+1,c,st,hc,hf,hst,hno=>by
  have hsz:t.place.size=es.size:=by have:=T.size;rwa [Array.size_map] at this
  show wpAny _ _ (_ >>= _) _ _ _
  refine wpAny_bind (wpAny_setState_of ho hd T.fits ?_)
  dsimp only
  have hg:t.gaveWay=false:=by unfold SetTable.gaveWay;rw [hodd];rfl
  rw [hg]
  simp -iota only [Bool.false_eq_true,if_false]
  have live:∀ m,m<e→∃ i,t.slot (zas t m (t.probeStart h)).j=.live i∧i<es.size∧t.place.getD i 0=(zas t m (t.probeStart h)).j:=fun m hm=>by
   refine zc1c (zmz T.up (hoc m hm)) fun i h1 h2 h3 => ?_
   exact ⟨i,h1,by omega,h3⟩
  have step:∀ m,zas t m (zas t c (t.probeStart h))=zas t (c+m) (t.probeStart h):=fun m=>(zbP t c m _).symm
  have meets:∀ g:Nat→Int,(∀ i,g i=(es[i]?.map (·.1)).getD 0)→(∃ m i,c≤m∧m<e∧t.slot (zas t m (t.probeStart h)).j=.live i∧g i=h∧t.probe g h (st.getD (t.probeStart h))=some (.candidate (zas t m (t.probeStart h)).j i (zas t (m+1) (t.probeStart h)))∧∀ m' i',c≤m'→m'<m→t.slot (zas t m' (t.probeStart h)).j=.live i'→g i'≠h) ∨
   (t.probe g h (st.getD (t.probeStart h))=some (.empty (zas t e (t.probeStart h)).j none)∧∀ m' i',c≤m'→m'<e→t.slot (zas t m' (t.probeStart h)).j=.live i'→g i'≠h):=fun g _=>by
   rw [hst]
   have sd:(zas t c (t.probeStart h)).dummy=none:=ziL rfl c
   have ek:c+(e-c)=e:=by omega
   rcases zhx (t:=t) (hashAt:=g) (h:=h) (e-c) (10*SetTable.turns t.mask) (zas t c (t.probeStart h)) (by omega) sd (fun m hm=>by
    rw [step];obtain ⟨i,h1,_⟩:=live (c+m) (by omega);exact ⟨i,h1⟩) (by rw [step,ek];exact zil T.nod hfr) with ⟨m,i,g1,g2,g3,g4,g5⟩|⟨g1,g2⟩
   ·rw [step] at g2 g4
    rw [step] at g4
    refine .inl ⟨c+m,i,by omega,by omega,g2,g3,g4,fun m' i' a1 a2 a3=>g5 (m'-c) i' (by omega) (by rw [step,show c+(m'-c)=m' by omega];exact a3)⟩
   ·rw [step,ek] at g1
    exact .inr ⟨g1,fun m' i' a1 a2 a3=>g2 (m'-c) i' (by omega) (by rw [step,show c+(m'-c)=m' by omega];exact a3)⟩
  generalize hmet:t.probe _ h (st.getD (t.probeStart h))=met
  have here:∀ i (hi:i<es.size),es[i].1=h→∃ m,m<e∧t.slot (zas t m (t.probeStart h)).j=.live i:=fun i hi hh=>by
   refine zc1b (T.ways i (by omega)) fun n n1 n2 => ?_
   rw [zh3 hi,hh] at n1 n2
   refine ⟨n,?_,by rw [n1];exact zgv T.up (by omega) rfl⟩
   rcases Nat.lt_trichotomy n e with q|q|q
   ·exact q
   ·subst q
    exact absurd ⟨i,by omega,n1.symm⟩ hfr
   ·exact absurd (n2 e q) hfr
  rcases meets _ (fun i=>rfl) with ⟨m,i,c1,c2,c3,c4,c5,c6⟩|⟨c1,c2⟩
  ·have em:=hmet.symm.trans c5
   subst em
   refine zc1c (live m c2) fun i2 k1 k2 k3 => ?_
   rw [c3] at k1
   cases k1
   have hh:es[i].1=h:=by rw [← zhn k2];exact c4
   dsimp only
   have rest:wpAny (model prog w) A (do
    let some (_,y):=es[i]? | unsupported "internal:set-entry"
    let equal ← holding [y] (eqBool y x)
    let (es',_,t') ← setState a
    if true&&equal then return SetFound.there none
    let some same:=t'.sameMemory t.moves t.mask|unsupported "set.changed-during-lookup:is-the-new-block-at-the-old-address"
    let still ← match (if same then t'.slot (zas t m (t.probeStart h)).j else .empty) with
     | .live i'=>match es'[i']? with
      | some (_,y')=>do pure (if ← isSame y' y then some i' else none)
      | none=>pure none
     | _=>pure none
    match still with
    | none=>rule "set.search.anew";setSearchFrom a x h true fuel none
    | some i'=>if equal then return .there (some i') else setSearchFrom a x h true fuel (some (zas t (m+1) (t.probeStart h)))) Q E s:=by
    rw [Array.getElem?_eq_getElem k2]
    dsimp only
    refine wpAny_bind (wpAny_holding (hq i k2 hh _ ?_))
    refine wpAny_bind (wpAny_setState_of ho hd T.fits ?_)
    dsimp only
    cases hs:same es[i].2 with
    | true =>
     simp -iota only [Bool.and_self,if_true]
     exact wpAny_pure (hit i k2 hh hs)
    | false =>
     simp -iota only [Bool.and_false,Bool.false_eq_true,if_false]
     have hsm:t.sameMemory t.moves t.mask=some true:=by unfold SetTable.sameMemory;rw [if_pos (beq_self_eq_true _)]
     rw [hsm]
     dsimp only
     simp -iota only [if_true]
     rw [c3]
     dsimp only
     rw [Array.getElem?_eq_getElem k2]
     dsimp only
     obtain ⟨b,hb⟩:=hr i k2
     have his:∀ {Q':Bool→Shared→Prop},Q' true s→wpAny (model prog w) A (isSame es[i].2 es[i].2) Q' E s:=fun {Q'} hq'=>by
      rw [hb]
      unfold isSame
      dsimp only
      rw [if_pos (beq_self_eq_true _)]
      exact wpAny_pure hq'
     refine wpAny_bind (his ?_)
     simp -iota only [if_true]
     refine wpAny_bind (wpAny_pure ?_)
     dsimp only
     refine zd8 ho hd T hodd hq hr hsn he hoc hfr hit miss fuel (m+1) _ (by omega) (by omega) rfl fun m' i' hi' hm' hl hh' => ?_
     by_cases d1:m'<c
     ·exact hno m' i' hi' d1 hl hh'
     ·by_cases d2:m'=m
      ·subst d2
       rw [c3] at hl
       cases hl
       exact hs
      ·exact absurd (by rw [zhn hi'];exact hh') (c6 m' i' (by omega) (by omega) hl)
   cases hld:t.led with
   | true =>
    rw [if_neg (by simp -iota)]
    exact rest
   | false =>
    rw [if_pos (by simp -iota)]
    rcases hsn with z|hsn
    ·rw [z] at hld;cases hld
    ·refine wpAny_bind (hsn _ ?_)
     rw [if_neg (by simp -iota)]
     exact rest
  ·have em:=hmet.symm.trans c1
   subst em
   dsimp only
   refine wpAny_pure (miss fun i hi hh => ?_)
   refine zc1b (here i hi hh) fun m m1 m2 => ?_
   by_cases d1:m<c
   ·exact hno m i hi d1 m2 hh
   ·exact absurd (by rw [zhn hi];exact hh) (c2 m i (by omega) m1 m2)
theorem zjJ {a:Addr}{o:Obj}{es:Array (Int×Value)}{ep:Nat}{t:SetTable}{x:Value}{h:Int}{same:Value→Bool}{Q:SetFound→Shared→Prop}
 (ho:s.heap.get? a=some o) (hd:o.data=.set es ep t) (T:TabOk t (es.map (·.1))) (hodd:t.mask % 2=1) (hm:t.mask≤9000)
 (hq:∀ i (hi:i<es.size),es[i].1=h→∀ Q:Bool→Shared→Prop,Q (same es[i].2) s→wpAny (model prog w) A (eqBool es[i].2 x) Q E s)
 (hr:∀ i (hi:i<es.size),∃ b,es[i].2=.ref b)
 (hsn:t.led=true∨∀ Q:Bool→Shared→Prop,Q false s→wpAny (model prog w) A (searchCouldBeSeen x ((es.filter (·.1 == h)).toList.map (·.2))) Q E s)
 (hit:∀ i (hi:i<es.size),es[i].1=h→same es[i].2=true→Q (.there none) s)
 (miss:(∀ i (hi:i<es.size),es[i].1=h→same es[i].2=false)→∀ y,y≤t.mask→¬ occ t y→Way t (occ t) h y→Q (.free y false) s) :
 wpAny (model prog w) A (setSearch a x h true) Q E s:=by
 refine zc1c (zin T h) fun e he hoc hfr => ?_
 have hj:(zas t e (t.probeStart h)).j≤t.mask:=znH (zlx t h) e
 unfold setSearch
 exact zd8 ho hd T hodd hq hr hsn he hoc hfr hit (fun z=>miss z _ hj hfr ⟨e,rfl,hoc⟩) 100000 0 none (Nat.zero_le _) (by unfold SetTable.turns at he;omega) rfl fun m i hi hm'=>absurd hm' (Nat.not_lt_zero _)
end L2.ST
namespace L2.ST
open PySem
theorem zeA:∀ (fuel size n:Nat),size≤SetTable.sizeAbove.go n fuel size
 | 0,size,n=>by unfold SetTable.sizeAbove.go;exact Nat.le_refl _
 | fuel+1,size,n=>by
  unfold SetTable.sizeAbove.go
  split
  ·exact Nat.le_trans (by omega) (zeA fuel (size*2) n)
  ·exact Nat.le_refl _
theorem zeW (n:Nat):8≤SetTable.sizeAbove n:=zeA 64 8 n
theorem zoQ {m k:Nat}(h:m+1=2 ^ k)(h7:7≤m):m % 2=1:=by
 cases k with
 | zero=>rw [Nat.pow_zero] at h;omega
 | succ k=>rw [Nat.pow_succ] at h;omega
theorem ziv {order:Array Nat}{n:Nat}(h1:∀ k,k<order.size→order.getD k 0<n)(h2:∀ k k',k<order.size→k'<order.size→order.getD k 0=order.getD k' 0→k=k')(h3:∀ i,i<n→∃ k,k<order.size∧order.getD k 0=i):order.toList.Perm (List.range n):=by
 have nd:order.toList.Nodup:=by
  unfold List.Nodup
  rw [List.pairwise_iff_getElem]
  intro i j hi hj hij e
  have hi':i<order.size:=by simpa -iota using hi
  have hj':j<order.size:=by simpa -iota using hj
  have:=h2 i j hi' hj' (by rw [zaD hi',zaD hj'];simpa -iota using e)
  omega
 refine List.perm_iff_count.mpr fun a => ?_
 rw [nd.count,List.nodup_range.count]
 have:a∈order.toList↔a∈List.range n:=by
  rw [List.mem_range]
  constructor
  ·intro h
   obtain ⟨k,hk,e⟩:=List.getElem_of_mem h
   have hk':k<order.size:=by simpa -iota using hk
   have:=h1 k hk'
   rw [zaD hk'] at this
   have e:order[k]=a:=by simpa -iota using e
   omega
  ·intro h
   obtain ⟨k,hk,e⟩:=h3 a h
   rw [zaD hk] at e
   rw [← e,Array.mem_toList_iff]
   exact Array.getElem_mem hk
 simp -iota only [this]
theorem zl5 {α : Type}{es:Array α}{order:Array Nat}(d : α)(h1:∀ k,k<order.size→order.getD k 0<es.size):(order.filterMap (es[·]?))=order.map fun i=>es.getD i d:=by
 apply Array.toList_inj.mp
 rw [Array.toList_filterMap,Array.toList_map]
 have:∀ l:List Nat,(∀ i∈l,i<es.size)→l.filterMap (es[·]?)=l.map fun i=>es.getD i d:=by
  intro l
  induction l with
  | nil=>intro _;rfl
  | cons i l ih =>
   intro h
   rw [List.filterMap_cons,List.map_cons,Array.getElem?_eq_getElem (h i List.mem_cons_self)]
   dsimp only
   rw [ih fun j hj=>h j (List.mem_cons_of_mem _ hj),zaD (h i List.mem_cons_self)]
 refine this _ fun i hi => ?_
 obtain ⟨k,hk,e⟩:=List.getElem_of_mem hi
 have hk':k<order.size:=by simpa -iota using hk
 have:=h1 k hk'
 rw [zaD hk'] at this
 have e:order[k]=i:=by simpa -iota using e
 omega
structure SetIs (hp:Heap)(a:Addr)(es:Array (Int×Value))(t:SetTable):Prop where
 at_:∃ ep,hp.get? a=some { cls:=.type "set",dict:=none,data:=.set es ep t,slots:=#[] }
 tab:TabOk t (es.map (·.1))
 seven:7≤t.mask
 most:t.mask≤8*es.size+7
 room:es.size*5<t.mask*3
 refs:∀ i (hi:i<es.size),∃ b,es[i].2=.ref b
theorem SetIs.odd {hp:Heap}{a:Addr}{es:Array (Int×Value)}{t:SetTable}(S:SetIs hp a es t):t.mask % 2=1:=by
 obtain ⟨k,hk⟩:=S.tab.pow
 exact zoQ hk S.seven
variable {prog:Program}{w:World}{A:Around}{E:Value→Shared→Prop}{s:Shared}
theorem zf7 {hp:Heap}{a:Addr}{es es':Array (Int×Value)}{ep:Nat}{t t':SetTable}(ho:hp.get? a=some { cls:=.type "set",dict:=none,data:=.set es ep t,slots:=#[] }) :
 (hp.update a (Obj.putSet es' t')).get? a=some { cls:=.type "set",dict:=none,data:=.set es' (ep+1) t',slots:=#[] }:=by
 have e:=putSet_of (o:={ cls:=.type "set",dict:=none,data:=.set es ep t,slots:=#[] }) es' t' rfl
 have:=Heap.get?_update_self (Obj.putSet es' t') ho (by rw [e];rfl)
 rw [e] at this
 exact this
theorem zgw {α β : Type}(f : α → β)(xs:Array α)(p:Nat)(x : α):(SetTable.insertAt xs p x).map f=SetTable.insertAt (xs.map f) p (f x):=by
 unfold SetTable.insertAt
 simp -iota
theorem zlz {a:Addr}{es:Array (Int×Value)}{ep:Nat}{t:SetTable}{Q:Unit→Shared→Prop}
 (ho:s.heap.get? a=some { cls:=.type "set",dict:=none,data:=.set es ep t,slots:=#[] }) (T:TabOk t (es.map (·.1))) (hn:1≤es.size) (hl:es.size≤1000) (hr:∀ i (hi:i<es.size),∃ b,es[i].2=.ref b)
 (h:∀ es' t',es'.toList.Perm es.toList→t'.led=t.led→t'.plain=t.plain→SetIs (s.heap.update a (Obj.putSet es' t')) a es' t'→Q () { s with heap:=s.heap.update a (Obj.putSet es' t') }) :
 wpAny (model prog w) A (setRelay a (SetTable.grown es.size)) Q E s:=by
 have hg:SetTable.grown es.size=es.size*4:=by unfold SetTable.grown;rw [if_neg (by omega)]
 have hle:=zfc (es.size*4)
 obtain ⟨_,hgt⟩:=ze6 (n:=es.size*4) (by omega)
 have hge:=zeW (es.size*4)
 refine zc2a (zkK (t:=t) (hs:=es.map (·.1)) (wanted:=es.size*4) (by rw [Array.size_map];omega) (by omega)) fun t' order zz=>zc0e zz fun e e1 e2 e3 zz=>zc0e zz fun e4 e5 e6 e7 e8 => ?_
 rw [Array.size_map] at e4 e5 e7
 rw [hg]
 unfold setRelay
 refine wpAny_bind (wpAny_setState_of ho rfl T.fits ?_)
 dsimp only
 rw [if_neg (by rw [sizeLine_eq];omega)]
 rw [e]
 have pk:=zl5 (es:=es) (0,Value.none) e5
 have psz:(order.filterMap (es[·]?)).size=es.size:=by rw [pk,Array.size_map];exact e4
 have pm:(order.filterMap (es[·]?)).toList.Perm es.toList:=by
  rw [Array.toList_filterMap]
  exact ((ziv e5 e6 e7).filterMap _).trans (by rw [filterMap_getElem?_range])
 have ph:(order.filterMap (es[·]?)).map (·.1)=order.map fun i=>(es.map (·.1)).getD i 0:=by
  rw [pk,Array.map_map]
  apply Array.map_congr_left
  intro i hi
  obtain ⟨k,hk,ek⟩:=Array.getElem_of_mem hi
  have:=e5 k hk
  rw [zaD hk,ek] at this
  show (es.getD i (0,Value.none)).1=_
  rw [zaD this,zh3 this]
 have T':TabOk t' ((order.filterMap (es[·]?)).map (·.1)):=by rw [ph];exact e8
 have rf:∀ i (hi:i<(order.filterMap (es[·]?)).size),∃ b,(order.filterMap (es[·]?))[i].2=.ref b:=fun i hi=>by
  have hm:(order.filterMap (es[·]?))[i]∈es.toList:=pm.mem_iff.mp (by rw [Array.mem_toList_iff];exact Array.getElem_mem hi)
  obtain ⟨j,hj,ej⟩:=List.getElem_of_mem hm
  have hj':j<es.size:=by simpa -iota using hj
  obtain ⟨b,hb⟩:=hr j hj'
  refine ⟨b,?_⟩
  rw [← ej]
  simpa -iota using hb
 have hne:¬ ((order.filterMap (es[·]?)).size != es.size)=true:=by rw [psz];simp -iota
 refine wpAny_bind (wpAny_of_eq (a:=(order.filterMap (es[·]?),t')) ?_ ?_)
 ·show (if ((order.filterMap (es[·]?)).size != es.size)=true then _ else _)=_
  rw [if_neg hne]
 ·dsimp only
  generalize order.filterMap (es[·]?)=es' at psz pm T' rf ph
  refine wpAny_storeSet_of ho rfl ?_ (by rw [sizeLine_eq];omega)
  refine h es' t' pm e1 e2 ⟨⟨ep+1,?_⟩,T',by omega,by omega,by omega,rf⟩
  exact zf7 ho
theorem zjz {es es':Array (Int×Value)}(hr:∀ i (hi:i<es.size),∃ b,es[i].2=.ref b){x:Value}{h:Int}{b:Addr}(hx:x=.ref b)(pm:es'.toList.Perm (es.toList++[(h,x)])):∀ i (hi:i<es'.size),∃ b,es'[i].2=.ref b:=fun i hi=>by
 have hm:es'[i]∈es.toList++[(h,x)]:=pm.mem_iff.mp (by rw [Array.mem_toList_iff];exact Array.getElem_mem hi)
 rcases List.mem_append.mp hm with z|z
 ·obtain ⟨j,hj,ej⟩:=List.getElem_of_mem z
  have hj':j<es.size:=by simpa -iota using hj
  obtain ⟨b,hb⟩:=hr j hj'
  refine ⟨b,?_⟩
  rw [← ej]
  simpa -iota using hb
 ·rw [List.mem_singleton.mp z]
  exact ⟨b,hx⟩
theorem zoW {a:Addr}{es:Array (Int×Value)}{t:SetTable}{x:Value}{b:Addr}{h:Int}{same:Value→Bool}{Q:Bool→Shared→Prop}
 (S:SetIs s.heap a es t) (hx:x=.ref b) (hl:es.size+1≤1000)
 (hq:∀ i (hi:i<es.size),es[i].1=h→∀ Q:Bool→Shared→Prop,Q (same es[i].2) s→wpAny (model prog w) A (eqBool es[i].2 x) Q E s)
 (hsn:t.led=true∨∀ Q:Bool→Shared→Prop,Q false s→wpAny (model prog w) A (searchCouldBeSeen x ((es.filter (·.1 == h)).toList.map (·.2))) Q E s)
 (hbv:∀ Q:Bool→Shared→Prop,Q true s→wpAny (model prog w) A (hashByValue 8 x) Q E s)
 (hit:∀ i (hi:i<es.size),es[i].1=h→same es[i].2=true→Q false s)
 (miss:(∀ i (hi:i<es.size),es[i].1=h→same es[i].2=false)→∀ h' es' t',Heap.SameBut a s.heap h'→SetIs h' a es' t'→es'.toList.Perm (es.toList++[(h,x)])→t'.led=t.led→t'.plain=t.plain→Q true { s with heap:=h' }) :
 wpAny (model prog w) A (setAddHashed a x h) Q E s:=by
 obtain ⟨ep,ho⟩:=S.at_
 have hm9:t.mask≤9000:=by have:=S.most;omega
 unfold setAddHashed setAddHashedIn
 refine wpAny_holding (wpAny_bind (wpAny_setState_of ho rfl S.tab.fits ?_))
 dsimp only
 have hb:byScan x es=false:=by subst hx;rfl
 rw [hb]
 simp -iota only [Bool.false_eq_true,if_false]
 refine wpAny_bind (zjJ ho rfl S.tab S.odd hm9 hq S.refs hsn (fun i hi h1 h2=>wpAny_pure (hit i hi h1 h2)) fun hno y hy hf hw => ?_)
 dsimp only
 refine wpAny_bind (wpAny_setState_of ho rfl S.tab.fits ?_)
 dsimp only
 have hsz:t.place.size=es.size:=by have:=S.tab.size;rwa [Array.size_map] at this
 have hroom:=S.room
 have hseven:=S.seven
 refine zc0c (zpK S.tab hy hf hw (by omega)) fun T1 hp1 hm1 => ?_
 rw [Array.size_map] at hp1
 have ld1:(t.put y).1.led=t.led:=rfl
 have pl1:(t.put y).1.plain=t.plain:=rfl
 generalize hput:t.put y=tp at T1 hp1 hm1 ld1 pl1
 obtain ⟨t1,p⟩:=tp
 dsimp only at T1 hp1 hm1 ld1 pl1 ⊢
 have em:(SetTable.insertAt es p (h,x)).map (·.1)=SetTable.insertAt (es.map (·.1)) p h:=zgw _ _ _ _
 rw [← em] at T1
 have pm:(SetTable.insertAt es p (h,x)).toList.Perm (es.toList++[(h,x)]):=by
  have:=SetTable.insertAt_perm es p (h,x)
  rwa [Array.toList_push] at this
 have sz1:(SetTable.insertAt es p (h,x)).size=es.size+1:=zb9 es hp1 _
 have rf1:=zjz S.refs hx pm
 generalize SetTable.insertAt es p (h,x)=es1 at T1 pm sz1 rf1
 have tail:wpAny (model prog w) A (do
  storeSet a es1 t1
  if !false&&t1.tooFull then setRelay a (SetTable.grown (es.size+1))
  return true) Q E s:=by
  refine wpAny_bind (wpAny_storeSet_of ho rfl ?_ (by rw [sizeLine_eq];omega))
  have ho1:=zf7 (es':=es1) (t':=t1) ho
  have sb1:=Heap.SameBut.update s.heap a (Obj.putSet es1 t1)
  by_cases c:t1.tooFull=true
  ·rw [if_pos (by rw [c];rfl)]
   rw [← sz1]
   refine wpAny_bind (zlz ho1 T1 (by omega) (by omega) rf1 fun es2 t2 pm2 l2 p2 S2 => ?_)
   refine wpAny_pure (miss hno _ es2 t2 (sb1.trans (Heap.SameBut.update _ a _)) S2 (pm2.trans pm) (l2.trans ld1) (p2.trans pl1))
  ·rw [if_neg (by simpa -iota using c)]
   have hfull:¬ (t1.fill*5 ≥ t1.mask*3):=by
    intro z
    exact c (by unfold SetTable.tooFull;exact decide_eq_true z)
   have hfl:t1.fill=es1.size:=by
    unfold SetTable.fill
    have:=T1.size
    rw [Array.size_map] at this
    rw [this,T1.nod]
    rfl
   have S1:SetIs (s.heap.update a (Obj.putSet es1 t1)) a es1 t1:=⟨⟨ep+1,ho1⟩,T1,by omega,by have:=S.most;omega,by omega,rf1⟩
   exact wpAny_pure (miss hno _ es1 t1 sb1 S1 pm ld1 pl1)
 split
 ·refine wpAny_bind (hbv _ ?_)
  simp -iota only [if_true]
  exact tail
 ·refine wpAny_bind (wpAny_pure ?_)
  simp -iota only [if_true]
  exact tail
end L2.ST
namespace L2.ST
open PySem
variable {prog:Program}{w:World}{A:Around}{E:Value→Shared→Prop}{s:Shared}
inductive HashAll (prog:Program)(w:World)(A:Around)(E:Value→Shared→Prop)(s:Shared):List Value→List Int→Prop
 | nil:HashAll prog w A E s [] []
 | cons {v:Value} {vs:List Value} {h:Int} {hs:List Int}:(∀ (tk:Nat) (Q:Int→Shared→Prop),(∀ tk',tk≤tk'→Q h { s with toks:=tk' })→wpAny (model prog w) A (pyHash v) Q E { s with toks:=tk })→HashAll prog w A E s vs hs→HashAll prog w A E s (v::vs) (h::hs)
noncomputable def zhi (hs:List Int):Int:=reduceHash (Builtin.Tuple.tupleHashOf hs)
theorem zhR {a:Addr}{o:Obj}{items:Array Value}{n:Nat}{hs:List Int}{tk0:Nat}{Q:Int→Shared→Prop}(ho:s.heap.get? a=some o)(hc:o.cls=.type "tuple")(hd:o.data=.seq items n)(hu:A.units<cLine)
 (H:HashAll prog w A.in1 E s items.toList hs) (h:∀ tk,tk0≤tk→Q (zhi hs) { s with toks:=tk }):wpAny (model prog w) A (pyHash (.ref a)) Q E { s with toks:=tk0 }:=by
 have hT:Shared.TypeIs { s with toks:=tk0 } (.ref a) "tuple" := ⟨o,ho,hc⟩
 unfold pyHash
 refine PySem.W.pyHash_slot (T := "tuple") hT F.slot_tuple_hash F.entry_tuple_hash (F.args_tuple_hash_1 _) (beq_builtin_none _) (.inr hu) ?_
 show wpAny _ _ (Builtin.Tuple.tupleItemsOf (.ref a) >>= _) _ _ _
 refine wpAny_bind (wpAny_tupleItemsOf ho hd ?_)
 refine wpAny_bind ?_
 rw [← Array.forIn_toList]
 refine wpAny_forIn_list _ (fun rest (b:Array Int) s' => ∃ left tk,HashAll prog w A.in1 E s rest left∧b.toList++left=hs∧s'={ s with toks:=tk }∧tk0≤tk) _ ?_ ?_ _ _ ⟨hs,tk0,H,rfl,rfl,Nat.le_refl _⟩
 ·rintro x rest b s' ⟨left,tk,hl,hb,rfl,hle⟩
  cases hl with
  | cons h1 hl' =>
   refine wpAny_bind (h1 tk _ fun tk' hle' => ?_)
   exact wpAny_pure ⟨_,tk',hl',by simp -iota [← hb],rfl,Nat.le_trans hle hle'⟩
 ·rintro b s' ⟨left,tk,hl,hb,rfl,hle⟩
  cases hl
  rw [List.append_nil] at hb
  show wpAny _ _ (retInt (Builtin.Tuple.tupleHashOf b.toList)) _ _ _
  rw [hb]
  exact wpAny_bind (wpAny_mkInt (wpAny_pure ⟨_,_,rfl,h _ (Nat.le_succ_of_le hle)⟩))
theorem zg2 {A:Around}:∀ {vs:List Value} {ns:List Int},PyProof.Rows.IntsAre vs ns→HashAll prog w A E s vs (ns.map hashInt)
 | _,_,.nil=>.nil
 | _,_,.cons n t r=>.cons (fun tk Q h=>wpAny_pyHash_int (h _ (Nat.le_succ tk))) (zg2 r)
inductive PlainV (hp:Heap):Nat→Value→Prop
 | int (n:Nat) (i:Int) (t:Tok):PlainV hp n (.int i t)
 | tup {n:Nat} {a:Addr} {o:Obj} {items:Array Value} {k:Nat}:hp.get? a=some o→o.cls=.type "tuple" → o.data=.seq items k→(∀ v∈items.toList,PlainV hp n v)→PlainV hp (n+1) (.ref a)
theorem zfw {n:Nat}{v:Value}(p:PlainV s.heap n v):∀ (d:Nat) (Q:Bool→Shared→Prop),n≤d→Q true s→wpAny (model prog w) A (hashByValue d v) Q E s:=by
 induction p with
 | int n i t =>
  intro d Q _ h
  cases d<;>exact wpAny_pure h
 | tup ho hc hd _ ih =>
  intro d Q hn h
  cases d with
  | zero=>omega
  | succ d =>
   have hT:Shared.TypeIs s (.ref _) "tuple" := ⟨_,ho,hc⟩
   unfold hashByValue
   refine wpAny_bind (wpAny_specialOf hT F.slot_tuple_hash.lookup ?_)
   dsimp only
   refine wpAny_bind (wpAny_seqItems ho hd ?_)
   refine wpAny_bind ?_
   show wpAny _ _ (forIn _ _ _) _ _ _
   rw [Option.getD_some,← Array.forIn_toList]
   refine wpAny_forIn_list _ (fun rest r s'=>r.1=none∧s'=s∧∀ v∈rest,v∈_) _ ?_ ?_ _ _ ⟨rfl,rfl,fun v hv=>hv⟩
   ·rintro x rest r s' ⟨hr,rfl,hm⟩
    refine wpAny_bind (ih x (hm x List.mem_cons_self) d _ (by omega) ?_)
    simp -iota only [Bool.not_true,Bool.false_eq_true,if_false]
    exact wpAny_pure ⟨rfl,rfl,fun v hv=>hm v (List.mem_cons_of_mem _ hv)⟩
   ·rintro ⟨r1,r2⟩ s' ⟨hr,rfl,_⟩
    simp -iota only at hr
    subst hr
    exact wpAny_pure h
theorem zdT {n:Nat}{v:Value}(p:PlainV s.heap n v):∀ (d:Nat) (Q:Bool→Shared→Prop),n≤d→Q true s→wpAny (model prog w) A (eqIsQuiet d v) Q E s:=by
 induction p with
 | int n i t =>
  intro d Q _ h
  exact wpAny_of_eq (eqIsQuiet_byValue d rfl) h
 | tup ho hc hd _ ih =>
  intro d Q hn h
  cases d with
  | zero=>omega
  | succ d =>
   have hT:Shared.TypeIs s (.ref _) "tuple" := ⟨_,ho,hc⟩
   unfold eqIsQuiet
   refine wpAny_bind (wpAny_specialOf hT F.slot_tuple_eq.lookup ?_)
   dsimp only
   refine wpAny_bind (wpAny_isInstance hT isSubtype_tuple_tuple ?_)
   simp -iota only [Bool.not_true,Bool.false_eq_true,if_false]
   refine wpAny_bind (wpAny_seqItems ho hd ?_)
   refine wpAny_bind ?_
   show wpAny _ _ (forIn _ _ _) _ _ _
   rw [Option.getD_some,← Array.forIn_toList]
   refine wpAny_forIn_list _ (fun rest r s'=>r.1=none∧s'=s∧∀ v∈rest,v∈_) _ ?_ ?_ _ _ ⟨rfl,rfl,fun v hv=>hv⟩
   ·rintro x rest r s' ⟨hr,rfl,hm⟩
    refine wpAny_bind (ih x (hm x List.mem_cons_self) d _ (by omega) ?_)
    simp -iota only [Bool.not_true,Bool.false_eq_true,if_false]
    exact wpAny_pure ⟨rfl,rfl,fun v hv=>hm v (List.mem_cons_of_mem _ hv)⟩
   ·rintro ⟨r1,r2⟩ s' ⟨hr,rfl,_⟩
    simp -iota only at hr
    subst hr
    exact wpAny_pure h
theorem zdA {n:Nat}{v:Value}(p:PlainV s.heap n v):∀ (d:Nat) (Q:Bool→Shared→Prop),n≤d→Q false s→wpAny (model prog w) A (ofAClassStatement d v) Q E s:=by
 induction p with
 | int n i t =>
  intro d Q _ h
  cases d<;>exact wpAny_pure h
 | tup ho hc hd _ ih =>
  intro d Q hn h
  cases d with
  | zero=>omega
  | succ d =>
   have hT:Shared.TypeIs s (.ref _) "tuple" := ⟨_,ho,hc⟩
   unfold ofAClassStatement
   refine wpAny_bind (wpAny_typeOf hT ?_)
   dsimp only
   rw [if_pos (by decide)]
   refine wpAny_bind (wpAny_pure ?_)
   simp -iota only [Bool.not_true,Bool.false_eq_true,if_false]
   refine wpAny_bind (wpAny_seqItems ho hd ?_)
   dsimp only
   refine wpAny_bind ?_
   show wpAny _ _ (forIn _ _ _) _ _ _
   rw [← Array.forIn_toList]
   refine wpAny_forIn_list _ (fun rest r s'=>r.1=none∧s'=s∧∀ v∈rest,v∈_) _ ?_ ?_ _ _ ⟨rfl,rfl,fun v hv=>hv⟩
   ·rintro x rest r s' ⟨hr,rfl,hm⟩
    refine wpAny_bind (ih x (hm x List.mem_cons_self) d _ (by omega) ?_)
    simp -iota only [Bool.false_eq_true,if_false]
    exact wpAny_pure ⟨rfl,rfl,fun v hv=>hm v (List.mem_cons_of_mem _ hv)⟩
   ·rintro ⟨r1,r2⟩ s' ⟨hr,rfl,_⟩
    simp -iota only at hr
    subst hr
    exact wpAny_pure h
theorem zfS {n:Nat}{x:Value}{ys:List Value}{Q:Bool→Shared→Prop}(hn:n≤8)(px:PlainV s.heap n x)(py:∀ y∈ys,PlainV s.heap n y)(h:Q false s):wpAny (model prog w) A (searchCouldBeSeen x ys) Q E s:=by
 unfold searchCouldBeSeen
 refine wpAny_bind ?_
 refine wpAny_forIn_list _ (fun rest r s'=>r.1=none∧s'=s∧∀ v∈rest,v∈ys) _ ?_ ?_ _ _ ⟨rfl,rfl,fun v hv=>hv⟩
 ·rintro y rest r s' ⟨hr,rfl,hm⟩
  have hy:=py y (hm y List.mem_cons_self)
  have nx:∀ v∈rest,v∈ys:=fun v hv=>hm v (List.mem_cons_of_mem _ hv)
  dsimp only
  split
  all_goals
   split
   ·exact wpAny_pure ⟨rfl,rfl,nx⟩
   ·refine wpAny_bind (zdT px 8 _ hn ?_)
    simp -iota only [Bool.not_true,Bool.false_eq_true,if_false]
    refine wpAny_bind (zdT hy 8 _ hn ?_)
    simp -iota only [Bool.not_true,Bool.false_eq_true,if_false]
    refine wpAny_bind (zdA px 8 _ hn ?_)
    simp -iota only [Bool.false_eq_true,if_false]
    refine wpAny_bind (zdA hy 8 _ hn ?_)
    simp -iota only [Bool.false_eq_true,if_false]
    exact wpAny_pure ⟨rfl,rfl,nx⟩
 ·rintro ⟨r1,r2⟩ s' ⟨hr,rfl,_⟩
  simp -iota only at hr
  subst hr
  exact wpAny_pure h
end L2.ST
namespace L2.ST
open PySem PySem.Spec PyProof.Rows
structure KeyFam (prog:Program)(w:World)(hp:Heap)(PV:Value→Prop)(hsh:Value→Int)(same:Value→Value→Bool):Prop where
 ref:∀ v,PV v→∃ b,v=.ref b
 plain:∀ v,PV v→PlainV hp 8 v
 hash:∀ v,PV v→∀ (A:Around) (E:Value→Shared→Prop) (s:Shared) (Q:Int→Shared→Prop),(∀ b o,hp.get? b=some o→s.heap.get? b=some o)→A.units+8<cLine→(∀ tk,s.toks≤tk→Q (hsh v) { s with toks:=tk })→wpAny (model prog w) A (pyHash v) Q E s
 eq:∀ v u,PV v→PV u→∀ (A:Around) (E:Value→Shared→Prop) (s:Shared) (Q:Bool→Shared→Prop),(∀ b o,hp.get? b=some o→s.heap.get? b=some o)→A.units+8<cLine→Q (same v u) s→wpAny (model prog w) A (eqBool v u) Q E s
 coh:∀ v u,PV v→PV u→same v u=true→hsh v=hsh u
theorem PlainV.keep {hp hp':Heap}(k:∀ b o,hp.get? b=some o→hp'.get? b=some o){n:Nat}{v:Value}(p:PlainV hp n v):PlainV hp' n v:=by
 induction p with
 | int n i t=>exact .int n i t
 | tup ho hc hd _ ih=>exact .tup (k _ _ ho) hc hd ih
noncomputable def zgd (same:Value→Value→Bool)(D:List Value)(v:Value):List Value:=if D.any (same · v) then D else D++[v]
def dedV (same:Value→Value→Bool)(val:Nat→Value)(i:Nat):List Value:=((List.range i).map val).foldl (zgd same) []
theorem zcK (same:Value→Value→Bool)(val:Nat→Value)(i:Nat):dedV same val (i+1)=zgd same (dedV same val i) (val i):=by
 unfold dedV
 rw [List.range_succ,List.map_append,List.foldl_append]
 rfl
theorem zh1 (same:Value→Value→Bool)(val:Nat→Value):∀ i,(dedV same val i).length≤i
 | 0=>Nat.le_refl _
 | i+1=>by
  have:=zh1 same val i
  rw [zcK]
  unfold zgd
  split
  ·omega
  ·rw [List.length_append,List.length_singleton];omega
theorem zft (same:Value→Value→Bool)(val:Nat→Value):∀ i v,v∈dedV same val i→∃ j,j<i∧v=val j
 | 0,v,h=>by cases h
 | i+1,v,h=>by
  rw [zcK] at h
  unfold zgd at h
  split at h
  ·refine zc1b (zft same val i v h) fun j hj e => ?_
   exact ⟨j,by omega,e⟩
  ·rcases List.mem_append.mp h with z|z
   ·refine zc1b (zft same val i v z) fun j hj e => ?_
    exact ⟨j,by omega,e⟩
   ·exact ⟨i,by omega,List.mem_singleton.mp z⟩
noncomputable def Holds (hsh:Value→Int)(hp:Heap)(S:Addr)(ld:Bool)(D:List Value):Prop:=∃ es t,SetIs hp S es t∧es.toList.Perm (D.map fun v=>(hsh v,v))∧t.led=ld∧t.plain=true
section
variable {prog:Program}{w:World}{A:Around}{E:Value→Shared→Prop}{s:Shared}
theorem zk4 {hp:Heap}{PV:Value→Prop}{hsh:Value→Int}{same:Value→Value→Bool}(K:KeyFam prog w hp PV hsh same){S:Addr}{ld:Bool}{D:List Value}{x:Value}{Q:Bool→Shared→Prop}
 (hk:∀ b o,hp.get? b=some o→s.heap.get? b=some o) (hu:A.units+8<cLine) (H:Holds hsh s.heap S ld D) (hD:∀ v∈D,PV v) (hx:PV x) (hl:D.length≤999)
 (h:∀ h' b,Heap.SameBut S s.heap h'→Holds hsh h' S ld (zgd same D x)→Q b { s with heap:=h' }):wpAny (model prog w) A (setAddHashed S x (hsh x)) Q E s:=by
 refine zc2d H fun es t SI pm hld hpl => ?_
 obtain ⟨b,hb⟩:=K.ref x hx
 have hlen:es.size=D.length:=by
  have:=pm.length_eq
  rw [List.length_map,Array.length_toList] at this
  exact this
 have ent:∀ i (hi:i<es.size),es[i].2∈D∧es[i].1=hsh es[i].2:=fun i hi=>by
  have hm:es[i]∈D.map fun v=>(hsh v,v):=pm.mem_iff.mp (by rw [Array.mem_toList_iff];exact Array.getElem_mem hi)
  refine zc1b (List.mem_map.mp hm) fun v hv e => ?_
  rw [← e]
  exact ⟨hv,rfl⟩
 have back:∀ v∈D,∃ i,∃ hi:i<es.size,es[i]=(hsh v,v):=fun v hv=>by
  have hm:(hsh v,v)∈es.toList:=pm.mem_iff.mpr (List.mem_map.mpr ⟨v,hv,rfl⟩)
  obtain ⟨i,hi,e⟩:=List.getElem_of_mem hm
  exact ⟨i,by simpa using hi,by simpa using e⟩
 have px:=(K.plain x hx).keep hk
 refine zoW (same:=fun y=>same y x) SI hb (by omega) (fun i hi _ Q' hq=>K.eq _ _ (hD _ (ent i hi).1) hx A E s Q' hk hu hq) (.inr fun Q' hq => ?_) (fun Q' hq=>zfw px 8 Q' (Nat.le_refl _) hq) (fun i hi h1 h2 => ?_) fun hno h' es' t' sb S' pm' l' p' => ?_
 ·refine zfS (Nat.le_refl 8) px (fun y hy => ?_) hq
  refine zc1b (List.mem_map.mp hy) fun e he zr2 => ?_
  obtain rfl:=zr2
  have he:e∈es:=by
   have:=Array.mem_toList_iff.mp he
   exact (Array.mem_filter.mp this).1
  obtain ⟨i,hi,rfl⟩:=Array.getElem_of_mem he
  exact (K.plain _ (hD _ (ent i hi).1)).keep hk
 ·have e:zgd same D x=D:=if_pos (List.any_eq_true.mpr ⟨_,(ent i hi).1,h2⟩)
  have:=h s.heap false (Heap.SameBut.refl S s.heap) ⟨es,t,SI,by rw [e];exact pm,hld,hpl⟩
  exact this
 ·have e:zgd same D x=D++[x]:=if_neg fun z=>by
   refine zc1b (List.any_eq_true.mp z) fun v hv hs => ?_
   obtain ⟨i,hi,ei⟩:=back v hv
   have:=hno i hi (by rw [ei];exact K.coh v x (hD v hv) hx hs)
   rw [ei] at this
   rw [hs] at this
   cases this
  refine h h' true sb ⟨es',t',S',?_,l'.trans hld,p'.trans hpl⟩
  rw [e,List.map_append]
  exact pm'.trans (pm.append_right _)
end
end L2.ST
namespace L2.ST
open PySem PySem.Spec PyProof.Rows
section
variable {prog:Program}{w:World}{A:Around}{R:Result→Shared→Prop}{I:Addr}{fp wr:List Addr}{G:Array GenState→Array GenState→Prop}{n:Nat}{P:Nat→Value→Prop}{St:Nat→Shared→Prop}
theorem Holds.keep {hsh:Value→Int}{hp hp':Heap}{S:Addr}{ld:Bool}{D:List Value}(H:Holds hsh hp S ld D)(k:∀ o,hp.get? S=some o→hp'.get? S=some o):Holds hsh hp' S ld D:=by
 refine zc2b H fun es t SI r => ?_
 obtain ⟨ep,ho⟩:=SI.at_
 exact ⟨es,t,⟨⟨ep,k _ ho⟩,SI.tab,SI.seven,SI.most,SI.room,SI.refs⟩,r⟩
theorem zll (W:WalksS prog w A.in1 I fp wr G n P St)(S:Addr)(hSf:S∉fp){hp:Heap}(hpw:∀ b o,hp.get? b=some o→b∉wr∧b≠S)
 {PV:Value→Prop} {hsh:Value→Int} {same:Value→Value→Bool} (K:KeyFam prog w hp PV hsh same) (val:Nat→Value) (hval:∀ i v,P i v→v=val i) (hPV:∀ i,i<n→PV (val i)) (hn:n≤999) (hu:A.in1.units+8<cLine) (ld:Bool) :
 ∀ (k i:Nat) (s:Shared),n-i=k→i≤n→St i s→(∀ b o,hp.get? b=some o→s.heap.get? b=some o)→Holds hsh s.heap S ld (dedV same val i) →
  (∀ s',Moved (S::wr) G s s'→Holds hsh s'.heap S ld (dedV same val n)→R (.ok (.ret .none)) s') →
  codeAny (model prog w) A (.builtin "set.update.loop" ⟨[.ref S,.ref I],[]⟩) R s:=by
 have hSw:S∉wr:=fun h=>hSf (W.sub _ h)
 have hsub:∀ b∈wr,b∈S::wr:=fun b hb=>List.mem_cons_of_mem _ hb
 intro k
 induction k with
 | zero =>
  intro i s hk hi hst hkp H hR
  have hin:i=n:=by omega
  subst hin
  refine codeAny_builtin F.entry_set_update_loop ?_
  rw [Around.under_plainId F.plain_set_update_loop _]
  show wpAny _ A.in1 (pyNext (.ref I) >>= _) _ _ s
  refine wpAny_bind (W.done s _ _ hst fun s' hm => ?_)
  show wpAny _ A.in1 (ret Value.none) _ _ s'
  exact wpAny_pure (hR s' (hm.mono hsub) (H.keep fun o e=>hm.heap S _ hSw e))
 | succ k ih =>
  intro i s hk hi hst hkp H hR
  have hlt:i<n:=by omega
  refine codeAny_builtin F.entry_set_update_loop ?_
  rw [Around.under_plainId F.plain_set_update_loop _]
  show wpAny _ A.in1 (pyNext (.ref I) >>= _) _ _ s
  refine wpAny_bind (W.item i s _ _ hlt hst fun v s' hP hst' hm => ?_)
  have ev:=hval i v hP
  have H':=H.keep (hp':=s'.heap) fun o e=>hm.heap S _ hSw e
  have hkp':∀ b o,hp.get? b=some o→s'.heap.get? b=some o:=fun b o e=>hm.heap b o (hpw b o e).1 (hkp b o e)
  have hv:PV v:=by rw [ev];exact hPV i hlt
  show wpAny _ A.in1 (holding [v] (setAdd S v) >>= _) _ _ s'
  refine wpAny_bind (wpAny_holding ?_)
  unfold setAdd
  refine wpAny_holding ?_
  refine wpAny_bind (K.hash v hv _ _ _ _ hkp' hu fun tk htk => ?_)
  have hl:=zh1 same val i
  refine zk4 K (s:={ s' with toks:=tk }) hkp' hu H' (fun u hu' => ?_) hv (by omega) fun h' b hsb H2 => ?_
  ·refine zc1b (zft same val i u hu') fun j hj e => ?_
   rw [e]
   exact hPV j (by omega)
  ·rw [ev,← zcK] at H2
   refine wpAny_pure ⟨plainId_quiet F.plain_set_update_loop _,ih (i+1) _ (by omega) hlt (W.frame _ s' _ _ hst' ?_ fun b hb o e => ?_) (fun b o e => ?_) H2 fun s'' hm'' H'' => ?_⟩
   ·exact htk
   ·rw [hsb.2 b (fun h:b=S=>hSf (by rw [← h];exact hb))];exact e
   ·rw [hsb.2 b (hpw b o e).2];exact hkp' b o e
   ·refine hR s'' (Moved.trans W.gtrans ((hm.mono hsub).then_heap ?_ fun b o hb e => ?_) hm'') H''
    ·exact htk
    ·rw [hsb.2 b (fun h:b=S=>hb (by rw [h];exact List.mem_cons_self))];exact e
end
end L2.ST
namespace L2.ST
open PySem PySem.Spec PyProof.Rows
theorem ziS (led:Bool):TabOk (SetTable.fresh 0 0 led) ((#[]:Array (Int×Value)).map (·.1)):=by
 refine ⟨by rw [Array.size_map];rfl,fun i j _ h=>absurd h (Nat.not_lt_zero _),fun i h=>absurd h (Nat.not_lt_zero _),rfl,⟨3,rfl⟩,Nat.zero_le _,fun i h=>absurd h (Nat.not_lt_zero _)⟩
theorem zhg {hsh:Value→Int}{hp:Heap}{S:Addr}{led:Bool}(ho:hp.get? S=some { cls:=.type "set",dict:=none,data:=.set #[] 0 (.fresh 0 0 led) }):Holds hsh hp S led [] :=
 ⟨#[],.fresh 0 0 led,⟨⟨0,ho⟩,ziS led,Nat.le_refl _,Nat.le_refl _,(show 0*5<7*3 by decide),fun i h=>absurd h (Nat.not_lt_zero _)⟩,List.Perm.refl _,rfl,rfl⟩
section
variable {prog:Program}{w:World}{A:Around}{E:Value→Shared→Prop}{s:Shared}
noncomputable def ledW (w:World):Bool:=!w.params.followText "set-order"
theorem zfW (a:Value){Q₁:Value→Shared→Prop}
 (h:Q₁ (.ref s.heap.objs.size) { s with heap:=s.heap.push { cls:=.type "set",dict:=none,data:=.set #[] 0 (.fresh 0 0 (ledW w)) } }) :
 codeAny (model prog w) A (.call (.builtin "set.__new__") ⟨[.type "set",a],[]⟩) (wants Q₁ E) s:=by
 refine codeAny_of_tree ?_
 show wpAny _ A.in1 (do checkBuiltinCall "set.__new__" ⟨[.type "set",a],[]⟩;again (.builtin "set.__new__" ⟨[.type "set",a],[]⟩)) _ _ s
 refine wpAny_bind (wpAny_of_eq (F.newCall_set_1 a) (wpAny_pure ⟨plainId_quiet F.plain_set_new _,codeAny_builtin F.entry_set_new ?_⟩))
 rw [Around.under_plainId F.plain_set_new _]
 unfold Builtin.«set.__new__» Builtin.Frozenset.newClass
 have hsub:=sub_set_self
 obtain ⟨hp,g,d,tk,os⟩:=s
 dsimp only
 wp_walk
 refine wpAny_askSetting (wpAny_pure ?_)
 dsimp only
 simp only [newObj]
 refine wpAny_bind (wpAny_alloc (wpAny_pure ?_))
 exact wpAny_pure h
set_option maxRecDepth 100000 in
set_option maxHeartbeats 3200000 in
theorem zg6 {l:Addr}{items:Array Value}{PV:Value→Prop}{hsh:Value→Int}{same:Value→Value→Bool}{Q:Value→Shared→Prop}(hh:A.handled=none)(hl:s.heap.IsList l items)(K:KeyFam prog w s.heap PV hsh same)
 (hPV:∀ (i:Nat) (v:Value),items[i]? = some v→PV v) (hn:items.size≤999) (hu:A.in1.in1.in1.units+8<cLine)
 (h:∀ (h':Heap) (tk:Nat),Holds hsh h' s.heap.objs.size (ledW w) (dedV same (fun i=>items.getD i .none) items.size)→(∀ b o,b<s.heap.objs.size→s.heap.get? b=some o→h'.get? b=some o)→Q (.ref s.heap.objs.size) { s with heap:=h',toks:=tk }) :
 wpAny (model prog w) A (call (.type "set") [.ref l]) Q E s:=by
 have cn:=fun A:Around=>zfW (prog:=prog) (w:=w) (A:=A) (E:=E) (s:=s) (.ref l) (Q₁:=fun obj s₁=>obj=.ref s.heap.objs.size∧s₁={ s with heap:=s.heap.push { cls:=.type "set",dict:=none,data:=.set #[] 0 (.fresh 0 0 (ledW w)) } }) ⟨rfl,rfl⟩
 generalize ledW w=led at h cn
 refine zc2a F.called_set.mro fun c tl hmro => ?_
 have hmade:=F.called_set.made
 have hsub:=F.called_set.sub
 refine wpAny_call (codeAny_of_tree ?_)
 show wpAny _ _ (callAny (.type "set") _) _ _ _
 refine wpAny_pure ⟨Code.quiet_builtin _ (by decide +kernel),codeAny_builtin F.entry_type_call ?_⟩
 rw [Around.under_plain (weight_type_call_type "set" [.ref l] []) rfl]
 have h1:=F.called_set.notType
 have h2:=F.called_set.canCreate
 have hct:=F.typeCall_set_1 (.ref l)
 repeat (any_goals (first|assumption|wp_step))
 refine codeAny_mono (cn _) fun r s₁ hr => ?_
 cases r with
 | error e=>exact hr
 | ok fl =>
  cases fl with
  | ret obj =>
   obtain ⟨rfl,rfl⟩:=hr
   generalize hno:({ cls:=.type "set",dict:=none,data:=.set #[] 0 (.fresh 0 0 led) }:Obj)=no at *
   have hS:(s.heap.push no).get? s.heap.objs.size=some no:=Heap.get?_push_size _ (by rw [← hno];rfl)
   have hT:Shared.TypeIs { s with heap:=s.heap.push no } (.ref s.heap.objs.size) "set" := ⟨_,hS,by rw [← hno]⟩
   have hli:=F.called_set.init.lookup
   have hbi:=F.called_set.init.bind (.ref s.heap.objs.size)
   repeat (any_goals (first|assumption|wp_step))
   refine codeAny_mono (codeAny_call_builtin (R:=wants (fun r s₂=>r=.none∧∃ h' tk,s₂={ s with heap:=h',toks:=tk }∧Holds hsh h' s.heap.objs.size led (dedV same (fun i=>items.getD i .none) items.size) ∧
    (∀ b o,b<s.heap.objs.size→s.heap.get? b=some o→h'.get? b=some o)) E) F.called_set.init.plain F.entry_set_init (check_set_init_1 hT ?_)) fun r₂ s₂ hr₂ => ?_
   ·refine zc1c hl fun ol hol hcl zz=>zc1a zz fun nl hdl => ?_
    obtain ⟨ocls,odict,odata,oslots⟩:=ol
    simp only at hcl hdl
    subst hcl;subst hdl
    have hol':(s.heap.push no).get? l=some { cls:=.type "list",dict:=odict,data:=.seq items nl,slots:=oslots }:=Heap.get?_push_of_some _ hol
    have hsls:=F.sub_list_set
    have hslf:=F.sub_list_frozenset
    have hne:(Value.type "list" == Value.type "dict")=false:=by decide
    have hl1:(s.heap.push no).IsList l items:=⟨_,hol',rfl,nl,rfl⟩
    subst hno
    unfold Builtin.«set.__init__» noKeywords Builtin.Frozenset.updateFrom
    generalize hPI:pyIter=PI
    wp_walk
    subst hPI
    refine wpAny_pyIter_list hl1 ?_
    refine wpAny_bind (wpAny_runValue ?_)
    have hlS:l<s.heap.objs.size:=Heap.lt_size hol
    have hh3:A.in1.in1.in1.handled=none:=by simp [hh]
    generalize hno:({ cls:=.type "set",dict:=none,data:=.set #[] 0 (.fresh 0 0 led) }:Obj)=no at *
    have szp:(s.heap.push no).objs.size=s.heap.objs.size+1:=Heap.size_push ..
    have hneI:l≠(s.heap.push no).objs.size:=by rw [szp];exact Nat.ne_of_lt (Nat.lt_succ_of_lt hlS)
    have hSf:s.heap.objs.size ∉ [(s.heap.push no).objs.size,l]:=by
     simp only [List.mem_cons,List.not_mem_nil,or_false,not_or]
     exact ⟨by rw [szp];exact Nat.ne_of_lt (Nat.lt_succ_self _),Nat.ne_of_gt hlS⟩
    have hw:∀ (i:Nat) (v:Value),items[i]? = some v→v=(fun i=>items.getD i .none) i:=fun i v hv=>by
     show v=items.getD i .none
     rw [Array.getD_eq_getD_getElem?,hv]
     rfl
    refine zll ((Walks.list hh3 _ l hneI items).toS) s.heap.objs.size hSf (hp:=s.heap) (fun b o e => ?_) K (fun i=>items.getD i .none) hw (fun i hi => ?_) hn (by exact hu) led (items.size-0) 0 _ (by omega) (Nat.zero_le _)
     ⟨⟨_,Heap.get?_push_size _ rfl,rfl,rfl⟩,(hl1.push _)⟩ (fun b o e=>Heap.get?_push_of_some _ (Heap.get?_push_of_some _ e)) (zhg (by rw [hno];exact Heap.get?_push_of_some _ hS)) fun s' hm H' => ?_
    ·have hb:=Heap.lt_size e
     refine ⟨?_,Nat.ne_of_lt hb⟩
     simp only [List.mem_cons,List.not_mem_nil,or_false]
     rw [szp]
     exact Nat.ne_of_lt (Nat.lt_succ_of_lt hb)
    ·exact hPV i _ (by show items[i]? = some (items.getD i .none);rw [zaD hi,Array.getElem?_eq_getElem hi])
    ·obtain ⟨h',g',d',tk',os'⟩:=s'
     have eg:g'=s.gens:=hm.gens
     have ed:d'=s.drawn:=hm.drawn
     have eo:os'=s.os:=hm.os
     subst eg;subst ed;subst eo
     show wpAny _ _ _ _ _ _
     refine wpAny_pure ?_
     show wpAny _ _ (ret Value.none) _ _ _
     refine wpAny_pure ⟨rfl,h',tk',rfl,H',fun b o hb e => ?_⟩
     exact hm.heap b o (by simp only [List.mem_cons,List.not_mem_nil,or_false,not_or];exact ⟨Nat.ne_of_lt hb,by rw [szp];exact Nat.ne_of_lt (Nat.lt_succ_of_lt hb)⟩) (Heap.get?_push_of_some _ (Heap.get?_push_of_some _ e))
   ·cases r₂ with
    | error e=>exact hr₂
    | ok fl₂ =>
     cases fl₂ with
     | ret r =>
      refine zc0b hr₂ fun zr0 zz=>zc2c zz fun h' tk zr3 hS' hk' => ?_
      obtain rfl:=zr0
      obtain rfl:=zr3
      repeat (any_goals (first|assumption|wp_step))
      exact h _ _ hS' hk'
     | _=>exact hr₂.elim
  | _=>exact hr.elim
end
end L2.ST
namespace L2.ST
open PySem PySem.Spec PyProof.Rows
noncomputable def zea (p:Int×Int):PyData:=.tuple [.int p.1,.int p.2]
def rowP (r:List (Int×Int)):PyData:=.tuple (r.map zea)
def zh7 (p:Int×Int):Int:=zhi ([p.1,p.2].map hashInt)
def zj0 (r:List (Int×Int)):Int:=zhi (r.map zh7)
noncomputable def zc4 (hp:Heap)(v:Value)(p:Int×Int):Prop:=∃ a o vs n t u,v=.ref a∧hp.get? a=some o∧o.cls=.type "tuple" ∧ o.data=.seq vs n∧vs.toList=[.int p.1 t,.int p.2 u]
inductive IsPairs (hp:Heap):List Value→List (Int×Int)→Prop
 | nil:IsPairs hp [] []
 | cons {v vs p r}:zc4 hp v p→IsPairs hp vs r→IsPairs hp (v::vs) (p::r)
noncomputable def zcq (hp:Heap)(v:Value)(r:List (Int×Int)):Prop:=∃ a o vs n,v=.ref a∧hp.get? a=some o∧o.cls=.type "tuple" ∧ o.data=.seq vs n∧IsPairs hp vs.toList r
theorem zi0 {hp:Heap}{v:Value}{p:Int×Int}(h:zc4 hp v p):Reads hp v (zea p) []:=by
 refine zc4a h fun a o vs n zz=>zc2a zz fun t u zz=>zc0e zz fun zr6 h1 h2 h3 h4 => ?_
 obtain rfl:=zr6
 refine .tuple h1 h2 h3 ?_
 rw [h4]
 exact .cons (as:=[]) (bs:=[]) (.int _ _) (.cons (as:=[]) (bs:=[]) (.int _ _) .nil)
theorem zgG {hp:Heap}:∀ {vs:List Value} {r:List (Int×Int)},IsPairs hp vs r→ReadsAll hp vs (r.map zea) []:=fun h=>by
 induction h with
 | nil=>exact .nil
 | cons h1 _ ih=>exact .cons (as:=[]) (bs:=[]) (zi0 h1) ih
theorem zfH {hp:Heap}{v:Value}{r:List (Int×Int)}(h:zcq hp v r):Reads hp v (rowP r) []:=by
 refine zc4a h fun a o vs n zz=>zc0e zz fun zr4 h1 h2 h3 h4 => ?_
 obtain rfl:=zr4
 exact .tuple h1 h2 h3 (zgG h4)
theorem zc4.keep {hp hp':Heap}(k:∀ b o,hp.get? b=some o→hp'.get? b=some o){v:Value}{p:Int×Int}(h:zc4 hp v p):zc4 hp' v p:=by
 refine zc4a h fun a o vs n zz=>zc2c zz fun t u e h1 r => ?_
 exact ⟨a,o,vs,n,t,u,e,k _ _ h1,r⟩
theorem IsPairs.keep {hp hp':Heap}(k:∀ b o,hp.get? b=some o→hp'.get? b=some o){vs:List Value}{r:List (Int×Int)}(h:IsPairs hp vs r):IsPairs hp' vs r:=by
 induction h with
 | nil=>exact .nil
 | cons h1 _ ih=>exact .cons (h1.keep k) ih
theorem zcq.keep {hp hp':Heap}(k:∀ b o,hp.get? b=some o→hp'.get? b=some o){v:Value}{r:List (Int×Int)}(h:zcq hp v r):zcq hp' v r:=by
 refine zc4a h fun a o vs n zz=>zc0e zz fun e h1 h2 h3 h4 => ?_
 exact ⟨a,o,vs,n,e,k _ _ h1,h2,h3,h4.keep k⟩
theorem zis {hp:Heap}{v:Value}{p:Int×Int}(h:zc4 hp v p)(n:Nat):PlainV hp (n+1) v:=by
 refine zc4a h fun a o vs k zz=>zc2a zz fun t u zz=>zc0e zz fun zr6 h1 h2 h3 h4 => ?_
 obtain rfl:=zr6
 refine .tup h1 h2 h3 fun x hx => ?_
 rw [h4] at hx
 rcases List.mem_cons.mp hx with e|e
 ·rw [e];exact .int _ _ _
 ·rw [List.mem_singleton.mp e];exact .int _ _ _
theorem zjn {hp:Heap}{v:Value}{r:List (Int×Int)}(h:zcq hp v r)(n:Nat):PlainV hp (n+2) v:=by
 obtain ⟨a,o,vs,k,rfl,h1,h2,h3,h4⟩:=h
 refine .tup h1 h2 h3 ?_
 generalize vs.toList=l at h4
 induction h4 with
 | nil=>intro x hx;cases hx
 | cons g1 _ ih =>
  intro x hx
  rcases List.mem_cons.mp hx with e|e
  ·rw [e];exact zis g1 n
  ·exact ih x e
section
variable {prog:Program}{w:World}{A:Around}{E:Value→Shared→Prop}{s:Shared}
theorem ziz (hu:A.units<cLine):∀ {vs:List Value} {r:List (Int×Int)},IsPairs s.heap vs r→HashAll prog w A E s vs (r.map zh7):=fun h=>by
 induction h with
 | nil=>exact .nil
 | cons h1 _ ih =>
  refine .cons (fun tk Q h => ?_) ih
  refine zc4a h1 fun a o vs n zz=>zc2a zz fun t u zz=>zc0e zz fun zr6 g1 g2 g3 g4 => ?_
  obtain rfl:=zr6
  refine zhR g1 g2 g3 hu ?_ h
  rw [g4]
  exact zg2 (.cons _ _ (.cons _ _ .nil))
theorem zlS {v:Value}{r:List (Int×Int)}{Q:Int→Shared→Prop}(hr:zcq s.heap v r)(hu:A.units<cLine)(hu1:A.in1.units<cLine)(h:∀ tk,s.toks≤tk→Q (zj0 r) { s with toks:=tk }):wpAny (model prog w) A (pyHash v) Q E s:=by
 refine zc4a hr fun a o vs n zz=>zc0e zz fun zr4 g1 g2 g3 g4 => ?_
 obtain rfl:=zr4
 have e:s={ s with toks:=s.toks }:=by cases s;rfl
 rw [e]
 exact zhR (tk0:=s.toks) g1 g2 g3 hu (ziz hu1 g4) h
end
end L2.ST
namespace L2.ST
open PySem PySem.Spec PyProof.Rows
theorem zml (p q:Int×Int):PyData.eqv (zea p) (zea q)=decide (p=q):=by
 unfold zea PyData.eqv PyData.eqvAll PyData.eqvAll PyData.eqvAll PyData.eqv
 obtain ⟨a,b⟩:=p
 obtain ⟨c,d⟩:=q
 rw [Bool.eq_iff_iff]
 simp
theorem zfU:∀ r q:List (Int×Int),PyData.eqvAll (r.map zea) (q.map zea)=decide (r=q)
 | [],[]=>by unfold List.map PyData.eqvAll;simp
 | [],_::_=>by rw [List.map_cons,List.map_nil];unfold PyData.eqvAll;simp
 | _::_,[]=>by rw [List.map_cons,List.map_nil];unfold PyData.eqvAll;simp
 | p::r,q::s=>by
  rw [List.map_cons,List.map_cons]
  unfold PyData.eqvAll
  rw [zml,zfU r s,Bool.eq_iff_iff]
  simp
theorem zo9 (r q:List (Int×Int)):PyData.eqv (rowP r) (rowP q)=decide (r=q):=by
 unfold rowP PyData.eqv
 exact zfU r q
theorem zgC:∀ r:List (Int×Int),PyData.canLayAll0 (r.map zea)=true
 | []=>rfl
 | p::r=>by
  rw [List.map_cons]
  unfold PyData.canLayAll0
  rw [zgC r]
  rfl
theorem zjL (r:List (Int×Int)):(rowP r).canLay0=true:=zgC r
theorem zd1:∀ r:List (Int×Int),PyData.depthAll (r.map zea)≤1
 | []=>Nat.zero_le _
 | p::r=>by
  rw [List.map_cons]
  unfold PyData.depthAll
  have h1:(zea p).depth=1:=rfl
  have h2:=zd1 r
  rw [h1]
  omega
theorem ziY (r:List (Int×Int)):(rowP r).depth≤2:=Nat.succ_le_succ (zd1 r)
theorem zc4.inj {hp:Heap}{v:Value}{p q:Int×Int}(h:zc4 hp v p)(h':zc4 hp v q):p=q:=by
 refine zc4a h fun a o vs n zz=>zc2a zz fun t u zz=>zc0e zz fun zr6 h1 h2 h3 h4 => ?_
 obtain rfl:=zr6
 refine zc4a h' fun a' o' vs' n' zz=>zc2a zz fun t' u' zz=>zc0e zz fun e k1 k2 k3 k4 => ?_
 cases e
 rw [h1] at k1
 obtain rfl:=Option.some.inj k1
 rw [h3] at k3
 cases k3
 rw [h4] at k4
 simp only [List.cons.injEq,Value.int.injEq,and_true] at k4
 exact Prod.ext k4.1.1 k4.2.1
theorem IsPairs.inj {hp:Heap}:∀ {vs:List Value} {r q:List (Int×Int)},IsPairs hp vs r→IsPairs hp vs q→r=q:=fun {vs r q} g h=>by
 induction g generalizing q with
 | nil=>cases h;rfl
 | cons h1 _ ih =>
  cases h with
  | cons k1 k2=>rw [h1.inj k1,ih k2]
theorem zcq.inj {hp:Heap}{v:Value}{r q:List (Int×Int)}(h:zcq hp v r)(h':zcq hp v q):r=q:=by
 refine zc4a h fun a o vs n zz=>zc0e zz fun zr4 h1 h2 h3 h4 => ?_
 obtain rfl:=zr4
 refine zc4a h' fun a' o' vs' n' zz=>zc0e zz fun e k1 k2 k3 k4 => ?_
 cases e
 rw [h1] at k1
 obtain rfl:=Option.some.inj k1
 rw [h3] at k3
 cases k3
 exact h4.inj k4
open Classical in
def rowV (hp:Heap)(v:Value):List (Int×Int):=if h:∃ r,zcq hp v r then h.choose else []
theorem zdI {hp:Heap}{v:Value}{r:List (Int×Int)}(h:zcq hp v r):rowV hp v=r:=by
 unfold rowV
 have e:∃ r,zcq hp v r:=⟨r,h⟩
 rw [dif_pos e]
 exact e.choose_spec.inj h
theorem zmw (prog:Program)(w:World)(hp:Heap):KeyFam prog w hp (fun v => ∃ r,zcq hp v r) (fun v=>zj0 (rowV hp v)) (fun v u=>decide (rowV hp v=rowV hp u)) where
 ref:=by
  rintro v ⟨r,a,o,vs,n,e,_⟩
  exact ⟨a,e⟩
 plain:=by
  rintro v ⟨r,h⟩
  exact zjn h 6
 hash:=by
  rintro v ⟨r,h⟩ A E s Q hk hu hq
  rw [zdI h] at hq
  exact zlS (h.keep hk) (by omega) (show A.units+1<cLine by omega) hq
 eq:=by
  rintro v u ⟨r,h⟩ ⟨q,h'⟩ A E s Q hk hu hq
  rw [zdI h,zdI h',← zo9] at hq
  have d1:=ziY r
  exact SeqAt.eqBoolOverData prog w A E s v u (rowP r) (rowP q) [] [] Q (zfH (h.keep hk)) (zfH (h'.keep hk)) (zjL r) (zjL q) (by omega) hq
 coh:=by
  intro v u _ _ h
  rw [of_decide_eq_true h]
end L2.ST
namespace L2.ST
open PySem PySem.Spec PyProof.Rows
theorem zaN:Slot "set_iterator" "__next__" "set_iterator.__next__" :=
 .of (owner := "set_iterator") (n := "__next__") (by rw [typeLookup_type,builtinLookup_eq_fast];kernel_rfl) (by decide +kernel) (by decide +kernel) (by decide +kernel)
  (by first|exact .inl (by decide +kernel)|exact .inr (by decide +kernel)) (by rw [isSubtype_type];kernel_rfl)
theorem zci:entryFor table "set_iterator.__next__" = some Builtin.«set_iterator.__next__»:=entryFor_of_tree (by kernel_rfl)
theorem zgr:Manifest.owners.lookup (String.ofList ['r','o','t','a','r','e','t','i','_','t','e','s'].reverse)=some Manifest.sig_set_iterator:=by kernel_rfl
theorem zcF (a:Value):argsOk "set_iterator.__next__" ⟨[a],[]⟩:=by
 unfold argsOk;rw [signature?_of (id := "set_iterator.__next__") (n:=['_','_','t','x','e','n','_','_']) (o:=['r','o','t','a','r','e','t','i','_','t','e','s']) (by kernel_rfl) zgr];kernel_rfl
theorem zes:entryFor table "set.__iter__" = some Builtin.«frozenset.__iter__»:=entryFor_alias (id' := "frozenset.__iter__") (by kernel_rfl) rfl (by decide +kernel) (by kernel_rfl)
theorem zcJ:Slot "set_iterator" "__iter__" "set_iterator.__iter__" :=
 .of (owner := "set_iterator") (n := "__iter__") (by rw [typeLookup_type,builtinLookup_eq_fast];kernel_rfl) (by decide +kernel) (by decide +kernel) (by decide +kernel)
  (by first|exact .inl (by decide +kernel)|exact .inr (by decide +kernel)) (by rw [isSubtype_type];kernel_rfl)
theorem zeq:entryFor table "set_iterator.__iter__" = some Builtin.«dict_keyiterator.__iter__» :=
 entryFor_alias (id' := "dict_keyiterator.__iter__") (by kernel_rfl) (by first|rfl|decide +kernel|(unfold String.splitOn;simp -iota +decide [String.splitOnAux])) (by decide +kernel) (by kernel_rfl)
theorem zfd (a:Value):argsOk "set_iterator.__iter__" ⟨[a],[]⟩:=by
 unfold argsOk;rw [signature?_of (id := "set_iterator.__iter__") (n:=['_','_','r','e','t','i','_','_']) (o:=['r','o','t','a','r','e','t','i','_','t','e','s']) (by kernel_rfl) zgr];kernel_rfl
abbrev zoq (h:Heap)(it S:Addr)(slot i n ep:Nat):Prop:=h.get? it=some { cls:=.type "set_iterator",dict:=none,data:=.fields #[.int slot 0,.int i 0,.ref S,.int n 0,.int ep 0],slots:=#[] }
abbrev zdH (es:Array (Int×Value))(ep:Nat)(t:SetTable):Obj:={ cls:=.type "set",dict:=none,data:=.set es ep t,slots:=#[] }
noncomputable def zc8 (w:World)(S ep:Nat)(es:Array (Int×Value)):Array (Int×Value):=if w.params.followText "set-order" then pickOrder (w.params.setOrder S ep) es else es
theorem zjM {α : Type}(next:Nat→Nat):∀ (fuel k:Nat) (left:List α) (out:Array α),left.length≤fuel→(pickOrder.go next fuel k left out).toList.Perm (out.toList++left)
 | 0,k,left,out,h=>by
  have:left=[]:=List.length_eq_zero_iff.mp (by omega)
  subst this
  unfold pickOrder.go
  rw [List.append_nil]
 | fuel+1,k,left,out,h=>by
  unfold pickOrder.go
  cases q:left[next k % left.length]? with
  | none =>
   have hl:left.length=0:=by
    rcases Nat.eq_zero_or_pos left.length with z|z
    ·exact z
    ·have:=Nat.mod_lt (next k) z
     rw [List.getElem?_eq_getElem this] at q
     cases q
   have:left=[]:=List.length_eq_zero_iff.mp hl
   subst this
   rw [List.append_nil]
  | some x =>
   have hi:=(List.getElem?_eq_some_iff.mp q).1
   have ex:=(List.getElem?_eq_some_iff.mp q).2
   have hl:=List.length_eraseIdx_of_lt hi
   refine (zjM next fuel (k+1) _ _ (by omega)).trans ?_
   rw [Array.toList_push,List.append_assoc]
   refine List.Perm.append_left _ ?_
   have e1:left=left.take (next k % left.length)++x::left.drop (next k % left.length+1):=by
    have:=List.drop_eq_getElem_cons hi
    rw [ex] at this
    rw [← this,List.take_append_drop]
   rw [List.eraseIdx_eq_take_drop_succ]
   refine List.Perm.trans ?_ (List.Perm.of_eq e1.symm)
   exact (List.perm_middle (l₁:=left.take (next k % left.length))).symm
theorem zju {α : Type}(next:Nat→Nat)(es:Array α):(pickOrder next es).toList.Perm es.toList:=by
 unfold pickOrder
 have:=zjM next es.size 0 es.toList #[] (by simp -iota)
 simpa -iota using this
theorem zg1 (w:World)(S ep:Nat)(es:Array (Int×Value)):(zc8 w S ep es).toList.Perm es.toList:=by
 unfold zc8
 split
 ·exact zju _ _
 ·exact List.Perm.refl _
theorem zec (w:World)(S ep:Nat)(es:Array (Int×Value)):(zc8 w S ep es).size=es.size:=by
 have:=(zg1 w S ep es).length_eq
 simpa -iota using this
theorem ziJ {xs:Array Nat}(u:UpA xs){i:Nat}(hi:i<xs.size):SetTable.below xs (xs[i]+1)=i+1:=by
 refine zc0c (zdv u (xs[i]+1)) fun h1 h2 h3 => ?_
 have e:xs.getD i 0=xs[i]:=zaD hi 0
 rcases Nat.lt_trichotomy (SetTable.below xs (xs[i]+1)) (i+1) with q|q|q
 ·have:=h3 i (by omega) hi
  omega
 ·exact q
 ·have a:=h2 (i+1) q
  have b:=u i (i+1) (by omega) (by omega)
  omega
theorem zia (xs:Array Nat)(u:UpA xs):SetTable.below xs 0=0:=by
 refine zc0c (zdv u 0) fun h1 h2 h3 => ?_
 rcases Nat.eq_zero_or_pos (SetTable.below xs 0) with q|q
 ·exact q
 ·have:=h2 0 q
  omega
section
variable {prog:Program}{w:World}{A:Around}{E:Value→Shared→Prop}{s:Shared}
theorem zl0 {S ep:Nat}{es:Array (Int×Value)}{t:SetTable}{Q:Value→Shared→Prop}(ho:s.heap.get? S=some (zdH es ep t))(hf:t.fits es.size=true)(hp:t.plain=true)
 (hQ:Q (.ref s.heap.objs.size) { s with heap:=s.heap.push { cls:=.type "set_iterator",data:=.fields #[.int 0 0,.int 0 0,.ref S,.int es.size 0,.int ep 0] } }):wpAny (model prog w) A (pyIter (.ref S)) Q E s:=by
 have hT:s.TypeIs (.ref S) "set" := ⟨_,ho,rfl⟩
 refine wpAny_pyIter_slot hT F.slot_set_iter (wpAny_call_entry F.slot_set_iter hT zes ?_ (F.args_set_iter_1 _))
 unfold Builtin.«frozenset.__iter__» Builtin.Frozenset.slot0 slotArgs
 simp only [List.isEmpty_nil,Bool.not_true,Bool.false_eq_true,↓reduceIte,bind_assoc,List.length_nil,bne_self_eq_false]
 unfold Builtin.Frozenset.addrOf Builtin.Frozenset.sizeOf
 refine wpAny_bind (wpAny_pure ?_)
 try dsimp only
 refine wpAny_bind (wpAny_pure ?_)
 refine wpAny_bind (wpAny_bind (wpAny_setEntries_of ho rfl hf (wpAny_pure ?_)))
 have hd:wpAny (model prog w) A.in1 (setDrawn S) (fun b s'=>b=false∧s'=s) E s:=by
  unfold setDrawn
  refine wpAny_bind (wpAny_setState_of ho rfl hf ?_)
  unfold setsByText
  refine wpAny_bind (wpAny_bind (wpAny_askSetting (wpAny_pure ?_)))
  refine wpAny_pure ⟨?_,rfl⟩
  obtain ⟨mask,place,dummies,finger,led,moves,plain⟩:=t
  cases hp
  exact Bool.and_false _
 refine wpAny_bind (wpAny_mono hd (fun b s' z => ?_) fun _ _ e=>e)
 obtain ⟨rfl,rfl⟩:=z
 simp only [Bool.false_eq_true,↓reduceIte]
 refine wpAny_bind (wpAny_pure ?_)
 unfold setEpoch
 refine wpAny_bind (wpAny_bind (wpAny_setState_of ho rfl hf (wpAny_pure ?_)))
 unfold newFields
 refine wpAny_bind (wpAny_newObj_type (wpAny_pure ⟨_,rfl, "set_iterator",_,⟨_,Heap.get?_push_size _ rfl,rfl⟩,zaN.lookup,hQ⟩) (by simp only [sizeOk,sizeLine_eq,List.size_toArray,List.length_cons,List.length_nil];omega))
theorem zkE {S:Addr}{slot i ep:Nat}{es:Array (Int×Value)}{t:SetTable}{Q:Option (Value×Nat)→Shared→Prop}(ho:s.heap.get? S=some (zdH es ep t))(hf:t.fits es.size=true)(hp:t.plain=true)(hl:t.led=ledW w)(hu:UpA t.place)(hz:t.place.size=es.size)
 (hb:w.params.followText "set-order" = false→SetTable.below t.place slot=i)
 (hQ:∀ slot',(w.params.followText "set-order" = false→i<es.size→SetTable.below t.place slot'=i+1)→Q (((zc8 w S ep es)[i]?).map fun e=>(e.2,slot')) s):wpAny (model prog w) A (setNext S slot i ep) Q E s:=by
 unfold setNext
 refine wpAny_bind (wpAny_setState_of ho rfl hf ?_)
 unfold setsByText
 refine wpAny_bind (wpAny_bind (wpAny_askSetting (wpAny_pure ?_)))
 cases q:w.params.followText "set-order" with
 | true =>
  have e:({ program:=(model prog w).prog,params:=(model prog w).w.params }:Setting).params.followText "set-order" = true:=q
  rw [if_pos e]
  dsimp only
  rw [if_neg (by simp -iota)]
  unfold setWalk
  refine wpAny_bind (wpAny_bind (wpAny_setState_of ho rfl hf ?_))
  unfold setsByText
  refine wpAny_bind (wpAny_bind (wpAny_askSetting (wpAny_pure ?_)))
  rw [if_pos e]
  refine wpAny_bind (wpAny_askSetting (wpAny_pure (wpAny_pure ?_)))
  have:=hQ slot fun z=>by rw [q] at z;cases z
  unfold zc8 at this
  rw [if_pos q] at this
  exact this
 | false =>
  have e:¬ ({ program:=(model prog w).prog,params:=(model prog w).w.params }:Setting).params.followText "set-order" = true:=by
   show ¬ w.params.followText "set-order" = true
   rw [q];simp -iota
  rw [if_neg e]
  dsimp only
  have hw:zc8 w S ep es=es:=by unfold zc8;rw [q];rfl
  rw [hw] at hQ
  have hb:=hb q
  rw [hb]
  have hl:t.led=true:=by rw [hl];unfold ledW;rw [q];rfl
  obtain ⟨mask,place,dummies,finger,led,moves,plain⟩:=t
  cases hp
  cases hl
  split
  ·rename_i z
   exact absurd z Bool.false_ne_true
  ·refine wpAny_bind ?_
   refine wpAny_pure (a:=()) ?_
   refine wpAny_pure ?_
   by_cases hi:i<es.size
   ·have hj:i<place.size:=by rw [show place.size=es.size from hz];exact hi
    have:=hQ (place[i]+1) fun _ _=>ziJ hu hj
    rw [Array.getElem?_eq_getElem hi] at this
    rw [Array.getElem?_eq_getElem hi,Array.getElem?_eq_getElem hj]
    exact this
   ·have:=hQ 0 fun _ z=>absurd z hi
    rw [Array.getElem?_eq_none (by omega)] at this
    rw [Array.getElem?_eq_none (show es.size≤i by omega)]
    exact this
abbrev zk7 (w:World)(it S:Addr)(es:Array (Int×Value))(ep:Nat)(t:SetTable)(i:Nat)(h:Heap):Prop:=(∃ slot,zoq h it S slot i es.size ep∧(w.params.followText "set-order" = false→i≤es.size→SetTable.below t.place slot=i))∧h.get? S=some (zdH es ep t)
structure SetGood (w:World)(es:Array (Int×Value))(t:SetTable):Prop where
 fits:t.fits es.size=true
 plain:t.plain=true
 led:t.led=ledW w
 up:UpA t.place
 size:t.place.size=es.size
theorem zlp {it S:Addr}{i ep:Nat}{es:Array (Int×Value)}{t:SetTable}{Q:Option Value→Shared→Prop}(G:SetGood w es t)(st:zk7 w it S es ep t i s.heap)(hi:i<es.size)
 (hQ:∀ h' x,(∃ k,(zc8 w S ep es)[i]? = some (k,x))→zk7 w it S es ep t (i+1) h'→Heap.SameBut it s.heap h'→Q (some x) { s with heap:=h' }):wpAny (model prog w) A (pyNext (.ref it)) Q E s:=by
 obtain ⟨⟨slot,hit,hb⟩,ho⟩:=st
 have hT:s.TypeIs (.ref it) "set_iterator" := ⟨_,hit,rfl⟩
 have hne:S≠it:=fun z=>by
  subst z
  unfold zoq at hit
  rw [ho] at hit
  have:=congrArg Obj.data (Option.some.inj hit)
  cases this
 unfold pyNext
 refine wpAny_bind (wpAny_attempt (wpAny_callSpecial?_slot (name:=Str.ofString "__next__") hT zaN
  (wpAny_call_entry zaN hT zci ?_ (zcF _))))
 unfold Builtin.«set_iterator.__next__» slotArgs
 simp -iota only [List.isEmpty_nil,Bool.not_true,Bool.false_eq_true,↓reduceIte,bind_assoc,List.length_nil,bne_self_eq_false]
 refine wpAny_bind (wpAny_pure ?_)
 try dsimp only
 refine wpAny_bind (wpAny_fieldsOf hit rfl ?_)
 dsimp only
 refine wpAny_bind (wpAny_setEntries_of ho rfl G.fits ?_)
 rw [if_neg (by simp -iota)]
 simp -iota only [Int.toNat_natCast]
 refine wpAny_bind (zkE ho G.fits G.plain G.led G.up G.size (fun z=>hb z (by omega)) fun slot' hs => ?_)
 have hw:i<(zc8 w S ep es).size:=by rw [zec];exact hi
 rw [Array.getElem?_eq_getElem hw]
 dsimp only [Option.map_some]
 refine wpAny_bind (wpAny_setField_rec hit (by simp -iota) fun h₁ he₁ hs₁ => ?_)
 refine wpAny_bind (wpAny_setField_rec (s:={ s with heap:=h₁ }) he₁ (by simp -iota) fun h₂ he₂ hs₂ => ?_)
 have hs₂:Heap.SameBut it h₁ h₂:=hs₂
 have hs₁:Heap.SameBut it s.heap h₁:=hs₁
 refine wpAny_pure ⟨_,rfl,wpAny_pure (hQ h₂ _ ⟨_,by rw [Array.getElem?_eq_getElem hw]⟩ ⟨⟨slot',?_,fun z _=>hs z hi⟩,hs₂.extBut _ _ hne (hs₁.extBut _ _ hne ho)⟩ ⟨hs₂.1.trans hs₁.1,fun b hb=>(hs₂.2 b hb).trans (hs₁.2 b hb)⟩)⟩
 have e:((i+1:Nat):Int)=(i:Int)+1:=by omega
 unfold zoq
 rw [e]
 simpa -iota [rawInt] using he₂
theorem znu {it S:Addr}{i ep:Nat}{es:Array (Int×Value)}{t:SetTable}{Q:Option Value→Shared→Prop}(hh:A.handled=none)(G:SetGood w es t)(st:zk7 w it S es ep t i s.heap)(hi:i=es.size)
 (hQ:∀ h',Heap.ExtBut it s.heap h'→Q none { s with heap:=h' }):wpAny (model prog w) A (pyNext (.ref it)) Q E s:=by
 obtain ⟨⟨slot,hit,hb⟩,ho⟩:=st
 have hT:s.TypeIs (.ref it) "set_iterator" := ⟨_,hit,rfl⟩
 unfold pyNext
 refine wpAny_bind (wpAny_attempt (wpAny_callSpecial?_slot (name:=Str.ofString "__next__") hT zaN
  (wpAny_call_entry zaN hT zci ?_ (zcF _))))
 unfold Builtin.«set_iterator.__next__» slotArgs
 simp -iota only [List.isEmpty_nil,Bool.not_true,Bool.false_eq_true,↓reduceIte,bind_assoc,List.length_nil,bne_self_eq_false]
 refine wpAny_bind (wpAny_pure ?_)
 try dsimp only
 refine wpAny_bind (wpAny_fieldsOf hit rfl ?_)
 dsimp only
 refine wpAny_bind (wpAny_setEntries_of ho rfl G.fits ?_)
 rw [if_neg (by simp -iota)]
 simp -iota only [Int.toNat_natCast]
 refine wpAny_bind (zkE ho G.fits G.plain G.led G.up G.size (fun z=>hb z (by omega)) fun slot' hs => ?_)
 rw [Array.getElem?_eq_none (by rw [zec];omega)]
 dsimp only [Option.map_none]
 refine wpAny_bind (wpAny_setField hit rfl (by simp -iota) ?_)
 show wpAny _ _ (newExc (.type "StopIteration") [] >>= _) _ _ _
 refine wpAny_bind ?_
 simp -iota only [newExc,newTuple]
 refine wpAny_bind (wpAny_newObj_type ?_ (by size_fits))
 refine wpAny_bind (m:=firstArgMember _ _) (wpAny_of_eq (a:=Value.none) (by first|rfl|(simp -iota only [firstArgMember];rfl)) ?_)
 refine wpAny_newObj_type ?_ (by size_fits)
 simp -iota only [raiseNew]
 refine wpAny_bind (wpAny_handled ?_)
 rw [show A.in1.handled=none from hh]
 refine wpAny_bind (wpAny_pure (wpAny_throw ?_))
 refine wpAny_bind (wpAny_isInstance (T := "StopIteration") (b:=true) ⟨_,Heap.get?_push_size _ rfl,rfl⟩ isSubtype_stop ?_)
 exact wpAny_pure (hQ _ (((Heap.SameBut.update ..).extBut.push _).push _))
end
theorem zkf {prog:Program}{w:World}{A:Around}(hh:A.handled=none){it S ep:Nat}{es:Array (Int×Value)}{t:SetTable}(G:SetGood w es t):WalksS prog w A it [it,S] [it] (fun g g'=>g'=g) es.size (fun i v => ∃ k,(zc8 w S ep es)[i]? = some (k,v)) (fun i s=>zk7 w it S es ep t i s.heap) :=
 (show Walks prog w A it [it,S] [it] es.size (fun i v => ∃ k,(zc8 w S ep es)[i]? = some (k,v)) (fun i h=>zk7 w it S es ep t i h) from {
  sub:=fun b hb=>by simp -iota at hb;simp -iota [hb]
  frame:=fun i h h' st hk=>⟨(let ⟨slot,a,b⟩:=st.1;⟨slot,hk it (by simp -iota) _ a,b⟩),hk S (by simp -iota) _ st.2⟩
  item:=fun i s Q E hi st hQ=>zlp G st hi fun h' x hx st' sb=>hQ x h' s.toks hx st' fun b o hb e=>sb.extBut b o (fun h=>hb (by simp -iota [h])) e
  done:=fun s Q E st hQ=>znu hh G st rfl fun h' eb=>hQ h' s.toks fun b o hb e=>eb b o (fun h=>hb (by simp -iota [h])) e
  self:=fun i s Q E st hQ=>by
   obtain ⟨⟨slot,hit,hb⟩,ho⟩:=st
   have hT:s.TypeIs (.ref it) "set_iterator" := ⟨_,hit,rfl⟩
   refine wpAny_pyIter_slot hT zcJ (wpAny_call_entry zcJ hT zeq ?_ (zfd _))
   show wpAny _ _ (ret (.ref it)) _ _ s
   exact wpAny_pure ⟨_,rfl, "set_iterator",_,hT,zaN.lookup,hQ⟩ }).toS
theorem znl:typeLookup (.type "set") "__len__" = pure (some (.builtin "set.__len__")):=by rw [typeLookup_type,builtinLookup_eq_fast];kernel_rfl
section
variable {prog:Program}{w:World}{A:Around}{E:Value→Shared→Prop}{s:Shared}
theorem zlt {r:Addr}(hT:s.TypeIs (.ref r) "set"){Q:Bool→Shared→Prop}(h:Q false s):wpAny (model prog w) A (Builtin.List.listLengthHint (.ref r)) Q E s:=by
 unfold Builtin.List.listLengthHint
 refine wpAny_bind (wpAny_specialOf hT znl ?_)
 generalize hid:("set.__len__" : String)=id0
 wp_delta
 rw [show splitId id0=some ("set", "__len__") from by subst hid;decide +kernel]
 subst hid
 refine wpAny_bind (wpAny_isInstance (T := "set") (b:=true) hT (by rw [isSubtype_type];kernel_rfl) ?_)
 refine wpAny_ite_split (fun hab=>absurd hab (by decide)) (fun _ => ?_)
 refine wpAny_ite_split (fun _ => ?_) (fun hab=>absurd (by decide +kernel) hab)
 refine wpAny_bind (wpAny_typeOf hT ?_)
 exact wpAny_pure h
theorem zhl {S ep:Nat}{es:Array (Int×Value)}{t:SetTable}{R:List Value→Shared→Prop}(hh:A.handled=none)(ho:s.heap.get? S=some (zdH es ep t))(G:SetGood w es t)(hn:es.size≤1000)
 (h:∀ (h':Heap) (tk:Nat) (vs:List Value),(∀ b o,s.heap.get? b=some o→h'.get? b=some o)→vs.Perm (es.toList.map (·.2))→s.heap.objs.size<h'.objs.size→R vs { s with heap:=h',toks:=tk }):wpAny (model prog w) A (collect (.ref S)) R E s:=by
 have hS:S<s.heap.objs.size:=Heap.lt_size ho
 have hT:s.TypeIs (.ref S) "set" := ⟨_,ho,rfl⟩
 unfold collect
 refine wpAny_bind (wpAny_runValue (codeAny_builtin F.entry_proto_collect ?_))
 rw [Around.under_plainId F.plain_proto_collect _]
 show wpAny _ A.in1 (newList [] >>= fun l=>again (.builtin "list.__iadd__" ⟨[l,.ref S],[]⟩)) _ _ s
 refine wpAny_bind (wpAny_newObj_type ?_)
 refine wpAny_pure ⟨plainId_quiet F.plain_list_iadd _,codeAny_builtin F.entry_list_iadd ?_⟩
 rw [Around.under_plainId F.plain_list_iadd _]
 generalize hno:({ cls:=.type "list",data:=.seq ([]:List Value).toArray }:Obj)=no
 have hL₁:(s.heap.push no).get? s.heap.objs.size=some no:=Heap.get?_push_size _ (by rw [← hno];rfl)
 have ho₁:(s.heap.push no).get? S=some (zdH es ep t):=Heap.get?_push_of_some _ ho
 have hT₁:Shared.TypeIs { s with heap:=s.heap.push no } (.ref S) "set" := ⟨_,ho₁,rfl⟩
 have hSL:S≠s.heap.objs.size:=Nat.ne_of_lt hS
 show wpAny _ A.in1 (Builtin.List.listExtendWith (.ref s.heap.objs.size) (.ref S) (.ref s.heap.objs.size)) _ _ _
 unfold Builtin.List.listExtendWith
 refine wpAny_bind (wpAny_typeOf hT₁ ?_)
 have h1:Builtin.List.listSameRef (.ref s.heap.objs.size) (.ref S)=false:=by simp [Builtin.List.listSameRef,Ne.symm hSL]
 have h2:(Value.type "set" == Value.type "list")=false:=by decide
 have h3:(Value.type "set" == Value.type "tuple")=false:=by decide
 simp only [h1,h2,h3,Bool.or_false,Bool.false_eq_true,if_false]
 refine wpAny_bind (zl0 (s:={ s with heap:=s.heap.push no }) ho₁ G.fits G.plain ?_)
 have szp:(s.heap.push no).objs.size=s.heap.objs.size+1:=Heap.size_push ..
 generalize hI:(s.heap.push no).objs.size=I at *
 generalize hni:({ cls:=.type "set_iterator",data:=.fields #[.int 0 0,.int 0 0,.ref S,.int es.size 0,.int ep 0] }:Obj)=ni
 have hS₂:=Heap.get?_push_of_some ni ho₁
 have hL₂:=Heap.get?_push_of_some ni hL₁
 have hI₂:((s.heap.push no).push ni).get? I=some ni:=by rw [← hI];exact Heap.get?_push_size _ (by rw [← hni];rfl)
 refine wpAny_bind (wpAny_holding (zlt ⟨_,hS₂,rfl⟩ ?_))
 have hIL:I≠s.heap.objs.size:=by omega
 have key:∀ (R':Result→Shared→Prop),(∀ (h':Heap) (tk c:Nat) (acc:Array Value),(∀ b o,s.heap.get? b=some o→h'.get? b=some o)→h'.get? s.heap.objs.size=some { cls:=.type "list",dict:=none,data:=.seq acc c,slots:=#[] }→acc.toList.Perm (es.toList.map (·.2))→R' (.ok (.ret (.ref s.heap.objs.size))) { s with heap:=h',toks:=tk }) →
  ∀ (h:Heap) (c₁ tk:Nat),(∀ b o,b≠s.heap.objs.size→((s.heap.push no).push ni).get? b=some o→h.get? b=some o)→h.get? s.heap.objs.size=some { cls:=.type "list",dict:=none,data:=.seq #[] c₁,slots:=#[] } →
  codeAny (model prog w) A (.builtin "list.extend.loop" ⟨[.ref s.heap.objs.size,.ref I,.ref s.heap.objs.size],[]⟩) R' { s with heap:=h,toks:=tk }:=by
  intro R' hR h₀ c₁ tk hk hL
  have hSf:s.heap.objs.size ∉ [I,S]:=by
   simp only [List.mem_cons,List.not_mem_nil,or_false,not_or]
   exact ⟨Ne.symm hIL,Ne.symm hSL⟩
  have hIt:h₀.get? I=some ni:=hk I _ hIL hI₂
  rw [← hni] at hIt
  refine codeAny_extend_loopS (zkf (prog:=prog) (w:=w) (A:=A.in1) (it:=I) (S:=S) (ep:=ep) hh G) (Nat.le_trans hn (by rw [sizeLine_eq];omega)) s.heap.objs.size hSf _ es.size 0 { s with heap:=h₀,toks:=tk } #[] c₁ rfl (Nat.zero_le _)
   ⟨⟨0,hIt,fun _ _=>zia _ G.up⟩,hk S _ hSL hS₂⟩ hL (ItemsOf.nil _) fun s' acc c hm hL' hacc => ?_
  obtain ⟨h',g',d',tk',os'⟩:=s'
  have eg:g'=s.gens:=hm.gens
  have ed:d'=s.drawn:=hm.drawn
  have eo:os'=s.os:=hm.os
  subst eg;subst ed;subst eo
  refine hR h' tk' c acc (fun b o e => ?_) hL' ?_
  ·have hb:=Heap.lt_size e
   have hbL:b≠s.heap.objs.size:=Nat.ne_of_lt hb
   have hbI:b≠I:=Nat.ne_of_lt (Nat.lt_of_lt_of_le hb (by rw [szp];exact Nat.le_succ _))
   exact hm.heap b o (by simp only [List.mem_cons,List.not_mem_nil,or_false,not_or];exact ⟨hbL,hbI⟩) (hk b o hbL (Heap.get?_push_of_some _ (Heap.get?_push_of_some _ e)))
  ·have el:acc.toList=(zc8 w S ep es).toList.map (·.2):=by
    apply List.ext_getElem?
    intro j
    rw [List.getElem?_map]
    by_cases hj:j<acc.size
    ·obtain ⟨k,hk⟩:=hacc.2 j acc[j] (Array.getElem?_eq_getElem hj)
     have:(zc8 w S ep es).toList[j]? = some (k,acc[j]):=by simpa using hk
     rw [this]
     simp [hj]
    ·have hw:(zc8 w S ep es).toList[j]? = none:=List.getElem?_eq_none (by rw [Array.length_toList,zec,← hacc.1];omega)
     rw [hw]
     exact List.getElem?_eq_none (by rw [Array.length_toList];omega)
   rw [el]
   exact (zg1 w S ep es).map _
 have fin:∀ (h':Heap) (tk c:Nat) (acc:Array Value),(∀ b o,s.heap.get? b=some o→h'.get? b=some o)→h'.get? s.heap.objs.size=some { cls:=.type "list",dict:=none,data:=.seq acc c,slots:=#[] }→acc.toList.Perm (es.toList.map (·.2)) →
  wpAny (model prog w) A (do
   let o ← load s.heap.objs.size
   match o.data with
    | .seq xs _=>pure xs.toList
    | _=>unsupported "internal:collect") R E { s with heap:=h',toks:=tk }:=fun h' tk c acc kk hl hp=>by
  refine wpAny_bind (wpAny_load hl ?_)
  exact wpAny_pure (h h' tk acc.toList kk hp (Heap.lt_size hl))
 have hL₂':((s.heap.push no).push ni).get? s.heap.objs.size=some { cls:=.type "list",dict:=none,data:=.seq #[] 0,slots:=#[] }:=by rw [hL₂,← hno]
 refine wpAny_ite_split (fun _ => ?_) (fun _=>wpAny_pure ⟨plainId_quiet F.plain_extend_loop _,key _ (fun h' tk c acc kk hl hp=>fin h' tk c acc kk hl hp) _ 0 _ (fun b o _ e=>e) hL₂'⟩)
 refine wpAny_bind (wpAny_rule ?_)
 refine wpAny_bind ?_
 show wpAny _ _ (updateSeq s.heap.objs.size (·.push .none) >>= fun _=>updateSeq s.heap.objs.size (·.pop)) _ _ _
 refine wpAny_bind (wpAny_updateSeq hL₂' rfl ?_)
 have hL₃:=Heap.get?_update_self (Obj.mapSeq (·.push Value.none)) hL₂' rfl
 refine wpAny_updateSeq (hz:=by seq_fits) hL₃ rfl ?_
 have hL₄:=Heap.get?_update_self (Obj.mapSeq (·.pop)) hL₃ rfl
 refine wpAny_pure ⟨plainId_quiet F.plain_extend_loop _,key _ (fun h' tk c acc kk hl hp=>fin h' tk c acc kk hl hp) _ _ _ (fun b o hb e => ?_) hL₄⟩
 exact (Heap.get?_update_other _ _ (Ne.symm hb)).trans ((Heap.get?_update_other _ _ (Ne.symm hb)).trans e)
end
end L2.ST
namespace L2.ST
open PySem PySem.Spec PyProof.Rows
theorem zd6 {h:Heap}:∀ {us:List Value} {r:List (Int×Int)},zfj h us r→IsPairs h us r
 | [],[],_=>.nil
 | [],_::_,p=>by have:=p.1;simp at this
 | _::_,[],p=>by have:=p.1;simp at this
 | u::us,q::r,p=>by
  refine zc4a (p.2 0 q rfl) fun b ob nb t zz=>zc1d zz fun v g1 g2 g3 g4 => ?_
  have g1:some u=some (Value.ref b):=g1
  obtain rfl:=Option.some.inj g1
  refine .cons ⟨b,ob,_,nb,t,v,rfl,g2,g3,g4,rfl⟩ (zd6 ⟨by have:=p.1;simpa using this,fun i x hx=>p.2 (i+1) x hx⟩)
theorem zkD {h:Heap}{v:Value}{r:List (Int×Int)}{a:Addr}{o:Obj}{us:List Value}{n:Nat}(R:RowAt h v r a o us n):zcq h v r :=
 ⟨a,o,us.toArray,n,R.isv,R.get,R.cls,R.dat,zd6 R.prs⟩
noncomputable def dedI (rs:List (List (Int×Int))):Nat→List Nat
 | 0 => []
 | n+1=>if (dedI rs n).any (fun i=>decide (rs.getD i []=rs.getD n [])) then dedI rs n else dedI rs n++[n]
theorem zkU (rs:List (List (Int×Int)))(n:Nat):dedI rs (n+1)=if (dedI rs n).any (fun i=>decide (rs.getD i []=rs.getD n [])) then dedI rs n else dedI rs n++[n]:=rfl
def dedR (rs:List (List (Int×Int))):List (List (Int×Int)):=(dedI rs rs.length).map fun i=>rs.getD i []
theorem zcu (rs:List (List (Int×Int))):∀ n i,i∈dedI rs n→i<n
 | 0,i,h=>by cases h
 | n+1,i,h=>by
  unfold dedI at h
  split at h
  ·have:=zcu rs n i h;omega
  ·rcases List.mem_append.mp h with q|q
   ·have:=zcu rs n i q;omega
   ·rw [List.mem_singleton.mp q];omega
theorem zfb (rs:List (List (Int×Int))):∀ n,(dedI rs n).length≤n
 | 0=>Nat.le_refl _
 | n+1=>by
  have:=zfb rs n
  unfold dedI
  split
  ·omega
  ·rw [List.length_append,List.length_singleton];omega
theorem ze0 (rs:List (List (Int×Int))):∀ n,((dedI rs n).map fun i=>rs.getD i []).Nodup
 | 0=>List.nodup_nil
 | n+1=>by
  have ih:=ze0 rs n
  unfold dedI
  split
  ·exact ih
  ·rename_i h
   rw [List.map_append,List.nodup_append]
   refine ⟨ih,by simp,fun x hx y hy => ?_⟩
   rw [List.map_cons,List.map_nil,List.mem_singleton] at hy
   subst hy
   intro z
   subst z
   refine zc1b (List.mem_map.mp hx) fun i hi e => ?_
   exact h (List.any_eq_true.mpr ⟨i,hi,decide_eq_true e⟩)
theorem zh9 (rs:List (List (Int×Int))):∀ n (r:List (Int×Int)),r∈((dedI rs n).map fun i=>rs.getD i [])↔∃ i,i<n∧rs.getD i []=r
 | 0,r=>by
  constructor
  ·intro h;cases h
  ·rintro ⟨i,hi,_⟩;omega
 | n+1,r=>by
  have ih:=zh9 rs n
  unfold dedI
  split
  ·rename_i h
   refine zc1b (List.any_eq_true.mp h) fun j hj e => ?_
   have e:=of_decide_eq_true e
   rw [ih]
   constructor
   ·rintro ⟨i,hi,z⟩;exact ⟨i,by omega,z⟩
   ·rintro ⟨i,hi,z⟩
    by_cases q:i=n
    ·subst q;exact ⟨j,zcu rs i j hj,by rw [e,z]⟩
    ·exact ⟨i,by omega,z⟩
  ·rw [List.map_append,List.mem_append,ih]
   constructor
   ·rintro (⟨i,hi,z⟩|z)
    ·exact ⟨i,by omega,z⟩
    ·rw [List.map_cons,List.map_nil,List.mem_singleton] at z
     exact ⟨n,by omega,z.symm⟩
   ·rintro ⟨i,hi,z⟩
    by_cases q:i=n
    ·subst q;exact .inr (by rw [List.map_cons,List.map_nil,List.mem_singleton];exact z.symm)
    ·exact .inl ⟨i,by omega,z⟩
theorem dedR_nodup (rs:List (List (Int×Int))):(dedR rs).Nodup:=ze0 rs _
theorem dedR_len (rs:List (List (Int×Int))):(dedR rs).length≤rs.length:=by unfold dedR;rw [List.length_map];exact zfb rs _
theorem dedR_mem {rs:List (List (Int×Int))}{r:List (Int×Int)}:r∈dedR rs↔r∈rs:=by
 unfold dedR
 rw [zh9]
 constructor
 ·rintro ⟨i,hi,z⟩
  rw [List.getD_eq_getElem?_getD,List.getElem?_eq_getElem hi] at z
  rw [← z]
  exact List.getElem_mem hi
 ·intro h
  obtain ⟨i,hi,z⟩:=List.getElem_of_mem h
  exact ⟨i,hi,by rw [List.getD_eq_getElem?_getD,List.getElem?_eq_getElem hi,← z];rfl⟩
theorem zmB {same:Value→Value→Bool}{val:Nat→Value}{rs:List (List (Int×Int))}{n:Nat}(h:∀ i j,i<n→j<n→same (val i) (val j)=decide (rs.getD i []=rs.getD j [])):∀ k,k≤n→dedV same val k=(dedI rs k).map val
 | 0,_=>rfl
 | k+1,hk=>by
  rw [zcK,zmB h k (by omega),zkU]
  unfold zgd
  have e:((dedI rs k).map val).any (same · (val k))=(dedI rs k).any (fun i=>decide (rs.getD i []=rs.getD k [])):=by
   rw [List.any_map,Bool.eq_iff_iff,List.any_eq_true,List.any_eq_true]
   constructor
   ·rintro ⟨i,hi,z⟩
    exact ⟨i,hi,by rw [← h i k (by have:=zcu rs k i hi;omega) (by omega)];exact z⟩
   ·rintro ⟨i,hi,z⟩
    exact ⟨i,hi,by show same (val i) (val k)=true;rw [h i k (by have:=zcu rs k i hi;omega) (by omega)];exact z⟩
  rw [e]
  split
  ·rfl
  ·rw [List.map_append];rfl
theorem zcV {G:Hp}{rs:List (List (Int×Int))}{ys:List V}(h:zao G (rs.map rD) ys):∀ ix:List Nat,(∀ i∈ix,i<rs.length)→zao G ((ix.map fun i=>rs.getD i []).map rD) (ix.map fun i=>ys.getD i .non)
 | [],_=>by unfold zao;rfl
 | i::ix,hi=>by
  have hl:=hi i List.mem_cons_self
  refine zc1b (h.get (i:=i) (d:=rD (rs.getD i [])) (by rw [List.getElem?_map,List.getElem?_eq_getElem hl,zbb (List.getElem?_eq_getElem hl)];rfl)) fun x hx hI => ?_
  rw [List.map_cons,List.map_cons,List.map_cons]
  unfold zao
  refine ⟨x,_,?_,hI,zcV h ix fun j hj=>hi j (List.mem_cons_of_mem _ hj)⟩
  rw [zbb hx]
noncomputable def SetO (w:World)(S:Addr)(ys:List V):HO:=.ext fun h => ∃ es ep t us,h.get? S=some (zdH es ep t)∧SetGood w es t∧es.size≤1000∧(es.toList.map (·.2)).Perm us∧Vals ys us
def zh0 (w:World):List V→Hp→VK→Prop:=fun xs H Q => ∃ a ys rs,xs=[.ref a]∧Rd H a (.lst ys)∧zao H (rs.map rD) ys∧rs.length≤999∧∀ S,H S=none→Q (.ref S) (upd H S (SetO w S ((dedI rs rs.length).map fun i=>ys.getD i .non)))
def zh6 (w:World):List V→Hp→VK→Prop:=fun xs H Q => ∃ S ys rs,xs=[.ref S]∧H S=some (SetO w S ys)∧zao H (rs.map rD) ys∧(∀ r∈rs,r ≠ [])∧rs.length<64 ∧
 ∀ l zs,H l=none→(∀ G,zao G (rs.map rD) ys→zao G ((zaU rltB rs).map rD) zs)→Q (.ref l) (upd H l (.lst zs))
theorem zkl {us vs:List Value}(p:us.Perm vs):∀ {zs:List V} {rs:List (List (Int×Int))},Vals zs us→zs.length=rs.length→∃ (zs2:List V) (rs2:List (List (Int×Int))),Vals zs2 vs∧rs2.Perm rs∧zs2.length=rs2.length∧∀ G,zao G (rs.map rD) zs→zao G (rs2.map rD) zs2:=by
 induction p with
 | nil=>exact fun {zs rs} h hl=>⟨zs,rs,h,.refl _,hl,fun _ h=>h⟩
 | cons x _ ih =>
  intro zs rs h hl
  cases h with
  | cons r h =>
   cases rs with
   | nil=>simp at hl
   | cons q rs =>
    refine zc2d (ih h (by simpa using hl)) fun zs2 rs2 h2 p2 l2 g2 => ?_
    refine ⟨_::zs2,q::rs2,.cons r h2,p2.cons q,by simp [l2],fun G hG => ?_⟩
    rw [List.map_cons] at hG ⊢
    unfold zao at hG ⊢
    refine zc2c hG fun y w e h3 h4 => ?_
    cases e
    exact ⟨_,_,rfl,h3,g2 G h4⟩
 | swap x y l =>
  intro zs rs h hl
  cases h with
  | cons r h =>
   cases h with
   | cons r' h =>
    cases rs with
    | nil=>simp at hl
    | cons q rs =>
     cases rs with
     | nil=>simp at hl
     | cons q' rs =>
      refine ⟨_,q'::q::rs,.cons r' (.cons r h),.swap _ _ _,by simpa using hl,fun G hG => ?_⟩
      rw [List.map_cons,List.map_cons] at hG ⊢
      unfold zao at hG ⊢
      refine zc2c hG fun y w e h3 h4 => ?_
      cases e
      unfold zao at h4
      refine zc2c h4 fun y w e h5 h6 => ?_
      cases e
      refine ⟨_,_,rfl,h5,?_⟩
      unfold zao
      exact ⟨_,_,rfl,h3,h6⟩
 | trans _ _ ih1 ih2 =>
  intro zs rs h hl
  refine zc2d (ih1 h hl) fun zs2 rs2 h2 p2 l2 g2 => ?_
  refine zc2d (ih2 h2 l2) fun zs3 rs3 h3 p3 l3 g3 => ?_
  exact ⟨zs3,rs3,h3,p3.trans p2,l3,fun G hG=>g3 G (g2 G hG)⟩
section
variable {X:Cx}
theorem call_setRows (hc:X.calm=true)(hu:X.A.units+64<cLine):za1 X (.type "set") (zh0 X.w):=by
 intro pins s σ H xs us Q I rv h
 refine zc3a h fun a ys rs zz=>zc0e zz fun zr3 ha hA hl q => ?_
 obtain rfl:=zr3
 refine zc1b (zdm rv) fun u zr1 ru => ?_
 obtain rfl:=zr1
 obtain rfl:u=Value.ref a:=ru
 refine zc1c (I.list (.inl ha)) fun its ri pl hz => ?_
 have l1:=hA.length
 have l2:=ri.length
 rw [List.length_map] at l1
 have sz:its.toArray.size=its.length:=List.size_toArray
 have gd:∀ i,its.toArray.getD i .none=its.getD i .none:=fun i=>by
  rw [Array.getD_eq_getD_getElem?,List.getD_eq_getElem?_getD]
  simp
 have isr:∀ i,i<its.length→zcq s.heap (its.getD i .none) (rs.getD i []):=fun i hi=>by
  have hr:i<rs.length:=by omega
  refine zc1b (hA.get (i:=i) (d:=rD (rs.getD i [])) (by rw [List.getElem?_map,List.getElem?_eq_getElem hr,zbb (List.getElem?_eq_getElem hr)];rfl)) fun x hx hI => ?_
  refine zc1b (ri.get hx) fun v hv rr => ?_
  refine zc4a (zm2 I.hok hI rr) fun b o ws n R => ?_
  rw [zbb hv]
  exact zkD R
 refine zg6 (I.ok.hd hc) pl.isList (zmw X.prog X.w s.heap) (fun i v hv => ?_) (by rw [sz];omega) (by show X.A.units+1+1+1+8<cLine;omega) fun h' tk H' kk => ?_
 ·have hi:i<its.length:=by
   have:=(Array.getElem?_eq_some_iff.mp hv).1
   omega
  have e:v=its.getD i .none:=by
   rw [← gd,Array.getD_eq_getD_getElem?,hv]
   rfl
  rw [e]
  exact ⟨_,isr i hi⟩
 ·have same:∀ i j,i<its.toArray.size→j<its.toArray.size→(fun v u=>decide (rowV s.heap v=rowV s.heap u)) ((fun i=>its.toArray.getD i .none) i) ((fun i=>its.toArray.getD i .none) j)=decide (rs.getD i []=rs.getD j []):=fun i j hi hj=>by
   show decide (rowV s.heap (its.toArray.getD i .none)=rowV s.heap (its.toArray.getD j .none))=_
   rw [gd,gd,zdI (isr i (by omega)),zdI (isr j (by omega))]
  refine zc2d H' fun es t SI pm led plain => ?_
  rw [zmB same _ (Nat.le_refl _)] at pm
  obtain ⟨ep,ho⟩:=SI.at_
  have en:its.toArray.size=rs.length:=by omega
  rw [en] at pm
  have pm2:(es.toList.map (·.2)).Perm ((dedI rs rs.length).map fun i=>its.getD i .none):=by
   have:=pm.map (·.2)
   rw [List.map_map,List.map_map] at this
   refine this.trans (List.Perm.of_eq (List.map_congr_left fun i _ => ?_))
   exact gd i
  have vl:Vals ((dedI rs rs.length).map fun i=>ys.getD i .non) ((dedI rs rs.length).map fun i=>its.getD i .none):=zdq fun i hi=>by
   have hi:=zcu rs _ i hi
   obtain ⟨x,hx⟩:∃ x,ys[i]? = some x:=⟨ys[i]'(by omega),List.getElem?_eq_getElem (by omega)⟩
   refine zc1b (ri.get hx) fun v hv rr => ?_
   rw [zbb hx,zbb hv]
   exact rr
  have szs:es.size≤1000:=by
   have:=pm2.length_eq
   rw [List.length_map,List.length_map,Array.length_toList] at this
   have:=zfb rs rs.length
   omega
  have szp:t.place.size=es.size:=by
   have:=SI.tab.size
   rw [Array.size_map] at this
   exact this
  refine ⟨.ref s.heap.objs.size,upd H s.heap.objs.size (SetO X.w s.heap.objs.size ((dedI rs rs.length).map fun i=>ys.getD i .non)),I.laid (t':=tk) (fun b o e=>kk b o (Heap.lt_size e) e) (Nat.le_refl _) ?_,rfl,q _ (I.hok.fresh (Nat.le_refl _))⟩
  refine ⟨⟨es,ep,t,_,ho,⟨SI.tab.fits,plain,led,SI.tab.up,szp⟩,szs,pm2,vl⟩,⟨_,ho⟩,fun h1 h2 z kp => ?_⟩
  refine zc4a z fun es ep t us zz=>zc0b zz fun e r => ?_
  exact ⟨es,ep,t,us,kp _ e,r⟩
theorem znT {pins:List (Addr×Obj)}{σ : St}{H:Hp}{s:Shared}(I:Inv X pins σ H s){S:Addr}{ys:List V}(h:H S=some (SetO X.w S ys)):∃ es ep t us,s.heap.get? S=some (zdH es ep t)∧SetGood X.w es t∧es.size≤1000∧(es.toList.map (·.2)).Perm us∧Vals ys us:=(show zaL X.prog X.w H s.heap S (SetO X.w S ys) from I.hok S _ h).1
theorem ziR {prog:Program}{w:World}{A:Around}{E:Value→Shared→Prop}{s:Shared}{x:Value}{Q:Value→Shared→Prop}
 (hc:wpAny (model prog w) A.in1 (collect x) (fun vs s1 => ∃ lt,Wk lt∧vs.length<64∧(∀ h',(∀ b o,s1.heap.get? b=some o→h'.get? b=some o)→2≤vs.length→Keys prog w A.in1.in1 { s1 with heap:=h' } vs lt) ∧
  ∀ jx h' l,Pl vs.length jx vs.length→Up lt jx vs.length→(∀ b o,s1.heap.get? b=some o→h'.get? b=some o)→s1.heap.objs.size≤l→(∃ e,h'.get? l=some (seqObj "list" (jx.map (nthV vs)) e))→Q (.ref l) { s1 with heap:=h' }) E s) :
 wpAny (model prog w) A (call (.builtin "sorted") [x]) Q E s:=by
 refine Calls.call_function_entry kind_sorted plain_sorted entry_sorted (args_sorted1 _) ?_
 unfold Builtin.«sorted»
 refine wpAny_bind (m:=checkCount "sorted" 1 1 _) (wpAny_pure (wpAny_bind (wpAny_mono hc (fun vs s1 z => ?_) fun _ _ e=>e)))
 refine zc1d z fun lt W h64 hk hq => ?_
 have gl:(s1.heap.push (seqObj "list" vs.toArray 0)).get? s1.heap.objs.size=some (seqObj "list" vs.toArray 0):=Heap.get?_push_size _ rfl
 have nl:∀ b o,s1.heap.get? b=some o→b≠s1.heap.objs.size:=fun b o e=>Nat.ne_of_lt (Heap.lt_size e)
 refine wpAny_bind (wpAny_newList (wpAny_bind (wpAny_holding (wpAny_call_entry slot_list_sort ⟨_,gl,rfl⟩ entry_list_sort (ze9 (s:={ s1 with heap:=s1.heap.push (seqObj "list" vs.toArray 0) }) W gl h64 (fun h' kp=>hk h' fun b o e=>kp b o (nl b o e) (Heap.get?_push_of_some _ e)) fun jx p u=>⟨_,rfl,wpAny_pure ⟨_,rfl,?_⟩⟩) (args_list_sort _)))))
 refine hq jx _ _ p u (fun b o e => ?_) (Nat.le_refl _) (sortedHeap_at gl)
 rw [sortedHeap_old (nl b o e) (by rw [size_push'];exact Nat.lt_succ_of_lt (Heap.lt_size e))]
 exact Heap.get?_push_of_some _ e
theorem call_sortedSet (hc:X.calm=true)(hu:X.A.units+64<cLine):za1 X (.builtin "sorted") (zh6 X.w):=by
 intro pins s σ H xs us Q I rv h
 refine zc3a h fun S ys rs zz=>zc0e zz fun zr3 hS hA hne zz=>zc0b zz fun h64 q => ?_
 obtain rfl:=zr3
 refine zc1b (zdm rv) fun u zr1 ru => ?_
 obtain rfl:=zr1
 obtain rfl:u=Value.ref S:=ru
 refine zc4a (znT I hS) fun es ep t ws zz=>zc0e zz fun ho G hsz pm vl => ?_
 have l1:=hA.length
 rw [List.length_map] at l1
 have hlt:∀ vs:List Value,vs.Perm (es.toList.map (·.2))→vs.length=rs.length:=fun vs hv=>by
  have a:=hv.length_eq
  have b:=pm.length_eq
  have c:=vl.length
  omega
 refine ziR (zhl (A:=X.A.in1) (E:=X.xe) (I.ok.hd hc) ho G hsz fun h1 tk vs kk hv hsz1 => ?_)
 refine zc2d (zkl (pm.symm.trans hv.symm) vl (by omega)) fun ys2 rs2 vl2 p2 l2 g2 => ?_
 have lv:=hlt vs hv
 have lr:=p2.length_eq
 have A2:=g2 H hA
 have ne2:∀ r∈rs2,r ≠ []:=fun r hr=>hne r (p2.mem_iff.mp hr)
 refine ⟨fun i j=>rltB (rs2.getD i []) (rs2.getD j []),zbi.wk fun i=>rs2.getD i [],by omega,fun h' kp h2=>zk3 (by show X.A.units+1+1+4<cLine;omega) (I.hok.kept fun b o e=>kp b o (kk b o e)) A2 vl2 ne2 h2,fun jx h' l p u kp hl gl => ?_⟩
 obtain ⟨e,gl⟩:=gl
 have lv2:vs.length=rs2.length:=by omega
 rw [lv2] at p u
 have szl:s.heap.objs.size≤l:=by
  have hl:h1.objs.size≤l:=hl
  omega
 have at_:∀ i∈jx.toList,∃ x v,ys2[i]? = some x∧vs[i]? = some v∧RelV x v:=fun i hi=>by
  have hn:=p.mem hi
  obtain ⟨x,hx⟩:∃ x,ys2[i]? = some x:=⟨ys2[i]'(by omega),List.getElem?_eq_getElem (by omega)⟩
  refine zc1b (vl2.get hx) fun v hv rr => ?_
  exact ⟨x,v,hx,hv,rr⟩
 have sp:=zc0 zbi p u
 have se:zaU rltB rs2=zaU rltB rs:=zkw zbi (((zay (ltb:=rltB) rs2).trans p2).trans (zay (ltb:=rltB) rs).symm) (zbX zbi rs2) (zbX zbi rs)
 have fin:=q l (jx.toList.map fun i=>ys2.getD i .non) (I.hok.fresh szl) fun G hG=>by
  have:=zcV (g2 G hG) jx.toList fun i hi=>p.mem hi
  rw [sp,se] at this
  exact this
 refine ⟨.ref l,upd H l (.lst (jx.toList.map fun i=>ys2.getD i .non)),I.laid (a:=l) (o:=.lst (jx.toList.map fun i=>ys2.getD i .non)) (t':=tk) (fun b o e=>kp b o (kk b o e)) szl ⟨?_,jx.toList.map (nthV vs),e,?_,?_⟩,rfl,fin⟩
 ·rw [List.length_map,p.len];exact zgt (by omega)
 ·refine zdq fun i hi => ?_
  refine zc2c (at_ i hi) fun x v hx hv rr => ?_
  unfold nthV
  rw [zbb hx,zbb hv]
  exact rr
 ·rw [gl]
  congr 3
  apply Array.ext'
  simp
end
end L2.ST
namespace L2.DL
open PySem PySem.Spec PyProof.Rows L2.ST
def zdx:List D→Option D
 | [.lst ds]=>(zb8 zer ds).bind fun rs=>if (∀ r∈rs,r ≠ [])∧(dedR rs).length<64∧rs.length≤999 then some (.lst ((zaU rltB (dedR rs)).map rwD)) else none
 | _=>none
section
variable {X:Cx}{E:XK}{fr:FA}{es:List Expr}{e:Expr}
theorem ziV (h:∀ {ta:TA},PA X es ta→PE X e (tCB (zh6 X.w) (zpg (tCB (zh0 X.w) ta) tNil)))(ha:QA X E es fr):QN X E e (dBlt zdx fr):=PE.weak (h ha) fun σ H Q zh=>by
 refine zc3b zh fun B F sd r n => ?_
 refine ⟨B,F,sd,r,(Res.need_bind n).mono (fun ds n1 vs F1 H1 e1 i1 => ?_) fun _ _ q=>q⟩
 refine zc1b (Res.need_ofO n1) fun z hz q => ?_
 unfold zdx at hz
 split at hz
 ·refine zc1b (Option.bind_eq_some_iff.mp hz) fun rs h1 hz => ?_
  split at hz
  ·rename_i hc
   obtain rfl:=Option.some.inj hz
   refine zc1b (zb7 i1) fun v zr1 h => ?_
   obtain rfl:=zr1
   rw [ziM h1,IsD.lst_iff] at h
   refine zc2c h fun a ys zr2 g1 g2 => ?_
   obtain rfl:=zr2
   refine ⟨a,ys,rs,rfl,g1.same e1.fh,zey.mp (IsDs.same e1.fh _ _ g2),hc.2.2,fun S hS => ?_⟩
   have sn:=zaX hS (SetO X.w S ((dedI rs rs.length).map fun i=>ys.getD i .non))
   have pk:∀ G,zao G (rs.map rD) ys→zao G ((dedR rs).map rD) ((dedI rs rs.length).map fun i=>ys.getD i .non):=fun G hG=>zcV hG _ fun i hi=>zcu rs _ i hi
   refine ⟨S,_,dedR rs,rfl,zai,pk _ (zao.same sn _ _ (zey.mp (IsDs.same e1.fh _ _ g2))),fun r hr=>hc.1 r (dedR_mem.mp hr),hc.2.1,fun l zs hl hG => ?_⟩
   have hlS:l≠S:=fun z=>by rw [z,zai] at hl;cases hl
   have hl1:H1 l=none:=by rw [zah hlS] at hl;exact hl
   have ek:Ext F1 H1 F1 (upd H1 S (SetO X.w S ((dedI rs rs.length).map fun i=>ys.getD i .non))):=.keep e1.fh hS _
   exact (q.ext e1) l F1 _ (ek.trans (.keep ek.fh hl _)) hl1 (zak e1.fh hl1) ⟨zs,zai,zey.mpr (hG F1 (pk F1 (zey.mp g2)))⟩
  ·exact zqn hz
 ·exact zqn hz
end
theorem bt_set:bootBuiltins "set" = some (.type "set"):=by kernel_rfl
theorem zfm {rs:List (List (Int×Int))}(h:∀ r∈rs,r ≠ [])(h2:(dedR rs).length<64)(h3:rs.length≤999):zdx [.lst (rs.map rwD)]=some (.lst ((zaU rltB (dedR rs)).map rwD)):=by
 show (zb8 zer (rs.map rwD)).bind _=_
 rw [zcP]
 exact if_pos ⟨h,h2,h3⟩
end L2.DL
namespace L2.ST
open PySem PySem.Spec PyProof.Rows
section
variable {prog:Program}{w:World}{A:Around}{E:Value→Shared→Prop}{s:Shared}
theorem keyed_orc {vs keys:List Value}{kz:List Int}(hk:IntsAre keys kz)(hl:kz.length=vs.length):Orc prog w A s oneType' (fun i=>(nthV keys i,nthV vs i)) (fun i j=>decide (kz.getD i 0<kz.getD j 0)) vs.length:=by
 have at_:∀ {keys:List Value} {kz:List Int},IntsAre keys kz→∀ i,i<kz.length→∃ t,nthV keys i=.int (kz.getD i 0) t:=by
  intro keys kz h
  induction h with
  | nil=>intro i hi;exact absurd hi (Nat.not_lt_zero _)
  | cons n t _ ih =>
   intro i hi
   cases i with
   | zero=>exact ⟨t,rfl⟩
   | succ i=>exact ih i (by simpa -iota using hi)
 intro i j hi hj E Q hq
 obtain ⟨t,e1⟩:=at_ hk i (by omega)
 obtain ⟨u,e2⟩:=at_ hk j (by omega)
 show wpAny (model prog w) A (keyLt' oneType' (nthV keys i) (nthV keys j)) Q E s
 rw [e1,e2]
 exact PySem.W.kat_lt_int hq
end
end L2.ST
namespace L2.DL
open PySem PySem.Spec PyProof.Rows L2.ST
end L2.DL
namespace L2
open PySem PySem.Spec PyProof.Rows
noncomputable def zbH (K:PySem.W.Frag)(x:Str)(st:Stmt):Prop:=∃ f fd,PySem.W.nsIn K mainGlobals x=some (some (.ref f))∧Fun K x x st f fd
theorem zbH.callee {P:Program}{w:World}{K:PySem.W.Frag}{h base:Heap}{mg:Str→Option Value}{x:Str}{st:Stmt}{k:Nat}{ps:List Str}{sp:Sp}(X:K.In h)(G:h.Ns mainGlobals mg)(d:zbH K x st)
 (ok:∀ {f:Addr} {fd:FuncData},Fun K x x st f fd→FnOk P w K mg base CX0 k f fd ps sp)
 (hb:∀ (kV doc pm:Value) (an:Option Addr) (cdv ct:Value) (us:List Value),us.length=ps.length→bindArgs (PySem.W.fnOf x x (zdB st) (zbz st) (zae st) .none kV doc pm an cdv ct) ⟨us,[]⟩=pure (ps.zip us)):za6 P w K mg base x k ps sp:=by
 refine zc2b d fun f fd a F => ?_
 exact ⟨f,fd,ok F,F.binds hb,F.kp,PySem.W.mg_of X G a⟩
end L2
namespace L2
open PySem
theorem zbQ {N P:List Str}{sc:Scope}(a:autoParam (sc.kind=.function) zau._auto_1)(b:autoParam (sc.isCoroutine=false) zau._auto_1)(c:autoParam (sc.isGenerator=false) zau._auto_1)(d:N.Nodup:=by decide +kernel)(e:N.take P.length=P:=by rfl)
 (f:∀ x∈P,sc.names.lookup x=some .local∨sc.names.lookup x=some .cell:=by decide +kernel) (g:∀ y∈sc.names,y.2 ≠ .free:=by decide +kernel):FnScope N P sc:=⟨a,b,c,d,e,f,g⟩
theorem zbG (N:List Str)(h:N.Nodup:=by decide +kernel):N.Nodup:=h
theorem pgn {X:Cx}{x:Str}{pos:Pos}(i:Nat)(hN:X.N.Nodup)(hi:autoParam (X.N[i]? = some x) zau._auto_1)(hx:Loc X.env.scope x:=by first|exact .inl rfl|exact .inr rfl)(hf:X.fn x=true∨X.env.scope.names.lookup x=some .local:=by first|exact .inl rfl|exact .inr rfl|assumption):PG X (.Name x pos) (zfP i):=zaR hN hi hx hf
section
variable {p:List Value→Prop}
theorem us1 (h:∀ a,p [a]):∀ us:List Value,us.length=1→p us:=fun us e=>by
 obtain ⟨a,rfl⟩:=List.length_eq_one_iff.mp e
 exact h a
theorem us2 (h:∀ a b,p [a,b]):∀ us:List Value,us.length=2→p us:=fun us e=>by
 cases us with
 | nil=>exact absurd e (by decide)
 | cons a us=>exact us1 (p:=fun us=>p (a::us)) (fun b=>h a b) us (Nat.succ.inj e)
theorem us3 (h:∀ a b c,p [a,b,c]):∀ us:List Value,us.length=3→p us:=fun us e=>by
 cases us with
 | nil=>exact absurd e (by decide)
 | cons a us=>exact us2 (p:=fun us=>p (a::us)) (fun b c=>h a b c) us (Nat.succ.inj e)
theorem us4 (h:∀ a b c d,p [a,b,c,d]):∀ us:List Value,us.length=4→p us
 | [a,b,c,d],_=>h a b c d
end
end L2
namespace L2.DL
open PySem PySem.Spec PyProof.Rows
end L2.DL
namespace L2.ST
open PySem PySem.Spec PyProof.Rows
end L2.ST
namespace L2.DL
open PySem PySem.Spec PyProof.Rows L2.ST
end L2.DL
namespace L2
open PySem PySem.Spec PyProof.Rows
section
variable {X:Cx}{pins:List (Addr×Obj)}{σ : St}{H:Hp}{s:Shared}
theorem Inv.freeze {d:Addr}{o:Obj}{kvs:List (Key×V)}(I:Inv X pins σ H s)(h:H d=some (.dK kvs))(ho:s.heap.get? d=some o):Inv X pins σ (upd H d (.frz o (.dK kvs))) s:=by
 refine I.step (h':=s.heap) (g':=s.gens) (d':=s.drawn) (t':=s.toks) (ch:=[]) (fun b hb=>nomatch hb) (fun b o _ _ _ e _=>e) (fun b o _ _ _ e _=>⟨o.slots,e⟩) (fun b o _ _ n => ?_) (fun b o _ e=>⟨o,e⟩) (fun b xs e => ?_) (fun b o u e => ?_) (fun b ps e=>⟨#[],?_⟩) (fun m hm=>hm) (fun b u e => ?_) I.bare
 ·rw [zah fun z=>by rw [z,h] at n;cases n];exact n
 ·rw [zah fun z=>by rw [z,h] at e;cases e];exact e
 ·rw [zah fun z=>by rw [z,h] at e;cases e];exact e
 ·rw [zah (fun z=>by rw [z,h] at e;cases e),e];simp
 ·by_cases nb:b=d
  ·subst nb
   rw [zai] at e
   obtain rfl:=Option.some.inj e
   exact ⟨ho,(I.hok b _ h).stay (fun _ _ _ q=>q) (fun c q=>by rw [zah fun z=>by rw [z,h] at q;cases q];exact q) fun c xs q=>by rw [zah fun z=>by rw [z,h] at q;cases q];exact q⟩
  ·rw [zah nb] at e
   exact (I.hok b u e).stay (fun _ _ _ q=>q) (fun c q=>by rw [zah fun z=>by rw [z,h] at q;cases q];exact q) fun c xs q=>by rw [zah fun z=>by rw [z,h] at q;cases q];exact q
end
theorem KV.at {κ : Type}:∀ {l1:List (κ × V)} {l2:List (κ × Value)} {i:Nat} {a : κ × V},KV l1 l2→l1[i]? = some a→∃ v,l2[i]? = some (a.1,v)∧RelV a.2 v:=by
 intro l1 l2 i a hkv
 unfold KV at hkv
 induction hkv generalizing i with
 | nil=>intro e;simp at e
 | @cons p q _ _ hh tt ih =>
  cases i with
  | zero =>
   intro e1
   simp at e1
   subst e1
   exact ⟨q.2,by rw [hh.1];rfl,hh.2⟩
  | succ i =>
   intro e1
   obtain ⟨v,h1,h2⟩:=ih (by simpa using e1)
   exact ⟨v,by simpa using h1,h2⟩
theorem kV_of {k:Key}{v:Value}(h:zgm k v=true):RelV (kV k) v:=by
 rcases za2 h with ⟨i,t,rfl,rfl⟩|⟨x,t,rfl,rfl⟩
 ·exact ⟨t,rfl⟩
 ·exact ⟨t,rfl⟩
theorem zm1 {X:Cx}{pins:List (Addr×Obj)}{σ : St}{H:Hp}{s:Shared}{d:Addr}{o:Obj}{kvs:List (Key×V)}{ep:Nat}(hep:∀ es ep',o.data=.dict es ep'→ep'=ep)(I:Inv X pins σ H s)(h:H d=some (.frz o (.dK kvs))) :
 ∃ vs,KV kvs vs∧s.heap.DictAt (zaJ X.prog X.w) d vs ep:=by
 obtain ⟨ho,_,_,vs,rel,o',es,ep',e1,e2,e3,r⟩:=(show zaL X.prog X.w H s.heap d (.frz o (.dK kvs)) from I.hok d _ h)
 rw [ho] at e1
 obtain rfl:=Option.some.inj e1
 have:=hep es ep' e3
 subst this
 exact ⟨vs,rel,o,es,ho,e2,e3,r⟩
end L2
namespace L2.DL
open PySem PySem.Spec PyProof.Rows
noncomputable def keyD:Key→D
 | .inl i=>.int i
 | .inr x=>.str x
theorem zou (K:PySem.W.Frag)(F:Hp)(k:Key):IsD K F (keyD k) (kV k):=by
 cases k with
 | inl i=>exact IsD.int_iff.mpr rfl
 | inr x=>exact IsD.str_iff.mpr rfl
end L2.DL
namespace L2.DL
open PySem PySem.Spec PyProof.Rows
end L2.DL
namespace L2.DL
open PySem PySem.Spec PyProof.Rows
end L2.DL
namespace L2.DL
open PySem PySem.Spec PyProof.Rows
section
variable {X:Cx}{E:XK}{m:Option Bool}{pos:Pos}{e:Expr}{fe:FE}
def tDM (K:PySem.W.Frag)(E:XK)(f:FE):TE:=fun σ H Q => ∃ B F sd,RS K B F H sd σ ∧ (f sd).need (OkM K F H Q) (XW K E F H)
abbrev QM (X:Cx)(E:XK)(e:Expr)(f:FE):Prop:=PE X e (tDM X.K E f)
def SpM (K:PySem.W.Frag)(Fn:List D→Res D):Sp:=fun vs H Q _ => ∃ F ds,Same F H∧IsDs K F ds vs∧(Fn ds).need (OkM K F H Q) (XW K E0 F H)
theorem OkM.ext {K:PySem.W.Frag}{F H F1 H1:Hp}{Q:VK}{d:D}(h:OkM K F H Q d)(e:Ext F H F1 H1):OkM K F1 H1 Q d:=by
 unfold OkM at h ⊢
 by_cases c:zb4 d=true
 ·rw [if_pos c] at h ⊢;exact h.ext e
 ·rw [if_neg c] at h ⊢;exact h.ext e
theorem needM {K:PySem.W.Frag}{E:XK}{F H F1 H1:Hp}{Q:VK}{r:Res D}(n:r.need (OkM K F H Q) (XW K E F H))(e:Ext F H F1 H1):r.need (OkM K F1 H1 Q) (XW K E F1 H1):=n.mono (fun _ q=>q.ext e) fun _ _ q=>q.ext e
theorem zql {name:Str}{k:Nat}{ps:List Str}{Fn:List D→Res D}{p:Pos}{e:Expr}{es:List Expr}{fr:FA}(c:za6 X.prog X.w X.K X.mg X.base name k ps (SpM X.K Fn))(hr:Room k X.A)(hg:Gl X name)(ha:QA X E0 (e::es) fr)
 (hdb:autoParam ((name == ("__debug__" : Str))=false) zav._auto_1) (he:starEach (e::es) X.env=(false,eval e X.env)::starEach es X.env:=by rfl) (hpl:(backTo pos (starEach es X.env)).any (·.1)=false:=by rfl) :
 QM X E0 (.Call (.Name name p) (e::es) [] pos) (zax Fn fr):=PE.weak (zlH c hr hg ha hdb he hpl) fun σ H Q zh=>by
 obtain ⟨B,F,sd,r,n⟩:=zh
 refine ⟨B,F,sd,r,(Res.need_bind n).mono (fun xs n1 vs F1 H1 e1 i1 => ?_) fun _ _ q=>q⟩
 show SpM X.K Fn (vs++[]) H1 Q E0
 rw [List.append_nil]
 exact ⟨F1,xs,e1.fh,i1,needM n1 e1⟩
def zno (i:Nat)(f:FE):FS:=fun sd=>(f sd).bind fun d=>.ok (.next (sd.set i (some (if zb4 d then .val d else .own false d))))
theorem zoh {i:Nat}{x:Str}{pos':Pos}(hN:X.N.Nodup)(hi:X.N[i]? = some x)(hx:Loc X.env.scope x)(he:QM X E e fe)(hs:autoParam (swapsWith e (some (.Name x pos')) pos.line X.env=pure false) zau._auto_1)
 (hf:X.fn x=true∨X.env.scope.names.lookup x=some .local:=by first|exact .inl rfl|exact .inr rfl):QS X E m (.Assign [.Name x pos'] e pos) (zno i fe):=PS.weak (zf1 hN hi hx he hs hf) fun T σ H zh=>by
 obtain ⟨B,F,sd,r,n⟩:=zh
 refine ⟨B,F,sd,r,(Res.need_bind n).mono (fun d n1 => ?_) fun _ _ q=>q.ext r.ext⟩
 unfold OkM
 by_cases c:zb4 d=true
 ·rw [if_pos c] at n1 ⊢
  exact fun v F1 H1 e1 i1=>n1 _ F1 H1 e1.ff ((r.step e1).setVal i1)
 ·rw [if_neg c] at n1 ⊢
  intro l F1 H1 e1 h1 h2 h3
  refine n1 _ F1 H1 e1.ff ((r.step e1).setOwn (zak r.ext.hh h1) h2 h3 fun j p d' q1 q2 => ?_)
  obtain ⟨l',p1,_,_,p4,_⟩:=r.own q1
  rw [p1] at q2
  cases q2
  obtain ⟨o,ho⟩:=p4.has
  rw [h1] at ho
  exact zqn ho
def zoG (f:FE):FS:=fun sd=>(f sd).bind fun d=>if zb4 d then .ok (.ret d) else .no
theorem znX (he:QE X E e fe):QS X E none (.Return (some e) pos) (zoG fe):=PS.weak (zeE he) fun T σ H zh=>by
 obtain ⟨B,F,sd,r,n⟩:=zh
 refine ⟨B,F,sd,r,(Res.need_bind n).mono (fun d n1 v F1 H1 e1 i1 => ?_) fun _ _ q=>q.ext r.ext⟩
 by_cases c:zb4 d=true
 ·rw [if_pos c] at n1
  have n2:OkM X.K B.F0 B.H0 T.rt d:=n1
  unfold OkM at n2
  rw [if_pos c] at n2
  exact n2 v F1 H1 (r.ext.trans e1) i1
 ·rw [if_neg c] at n1
  exact n1.elim
def zk6 (f:FE):FS:=fun sd=>(f sd).bind fun d=>if zb4 d then .no else .ok (.ret d)
theorem zlu (he:QN X E e fe):QS X E none (.Return (some e) pos) (zk6 fe):=PS.weak (zeE he) fun T σ H zh=>by
 obtain ⟨B,F,sd,r,n⟩:=zh
 refine ⟨B,F,sd,r,(Res.need_bind n).mono (fun d n1 l F1 H1 e1 h1 h2 h3 => ?_) fun _ _ q=>q.ext r.ext⟩
 by_cases c:zb4 d=true
 ·rw [if_pos c] at n1
  exact n1.elim
 ·rw [if_neg c] at n1
  have n2:OkM X.K B.F0 B.H0 T.rt d:=n1
  unfold OkM at n2
  rw [if_neg c] at n2
  exact n2 l F1 H1 (r.ext.trans e1) (zak r.ext.hh h1) h2 h3
end
section
variable {P:Program}{w:World}{K:PySem.W.Frag}{mg:Str→Option Value}{base:Heap}{x qual:Str}{f:Addr}{fd:FuncData}{N ps:List Str}{k:Nat}{st:Stmt}
theorem fn_m {g:FS}(F:Fun K x qual st f fd)(S:FnScope N ps (zae st))
 (hb:∀ (cdv:Value) (A:Around) (outer:List Env) (s:Shared) (H:Hp) (E:XK),Room k (A.deeper (envOfC qual (zae st) s.heap.objs.size f cdv))→QSs (cxOf CX0 P w K mg base N qual (zae st) f cdv A outer s H E).nox E0 none (zbz st) g) :
 FnOk P w K mg base CX0 (k+1) f fd ps (SpM K (runD N.length ps.length g)):=by
 refine F.ok S (fun vs H Q E ⟨F,ds,_,h,n⟩ => ?_) fun cdv A outer s H vs Q E hr ⟨F,ds,hs,h,n⟩=>⟨_,hb cdv A outer s H E hr,?_⟩
 ·unfold runD at n
  split at n
  ·rw [h.length];assumption
  ·exact n.elim
 ·unfold runD at n
  split at n
  ·refine ⟨⟨F,H,fun _=>none⟩,F,_,RS.start hs h,(Res.need_bind n).mono (fun o n1 => ?_) fun _ _ q=>q⟩
   cases o with
   | next sd =>
    have n2:OkM K F H Q .non:=n1
    unfold OkM at n2
    rw [if_pos (show zb4 D.non=true from rfl)] at n2
    exact fun σ F' H' _ r=>n2 .non F' H' r.ext (IsD.non_iff.mpr rfl)
   | ret d=>exact n1
   | brk sd=>exact n1.elim
   | cont sd=>exact n1.elim
  ·exact n.elim
end
end L2.DL
namespace L2.DL
open PySem PySem.Spec PyProof.Rows
abbrev HP:=List (Addr×D)
noncomputable def hpAt:HP→Addr→Option D
 | [],_=>none
 | p::r,a=>if a=p.1 then some p.2 else hpAt r a
noncomputable def zaM:HP→Addr→D→HP
 | [],_,_ => []
 | p::r,a,d=>if a=p.1 then (p.1,d)::r else p::zaM r a d
noncomputable def zel:HP→Addr→HP
 | [],_ => []
 | p::r,a=>if a=p.1 then zel r a else p::zel r a
theorem zhG (a:Addr):hpAt [] a=none:=rfl
theorem zan (p:Addr×D)(r:HP)(a:Addr):hpAt (p::r) a=if a=p.1 then some p.2 else hpAt r a:=rfl
theorem zbv:∀ {hp:HP} {a:Addr} {d:D} (b:Addr),hpAt hp a≠none→hpAt (zaM hp a d) b=if b=a then some d else hpAt hp b
 | [],a,d,b,h=>absurd rfl h
 | p::r,a,d,b,h=>by
  unfold zaM
  by_cases z:a=p.1
  ·rw [if_pos z,zan,zan]
   show (if b=p.1 then some d else _)=_
   rw [← z]
   by_cases y:b=a
   ·rw [if_pos y,if_pos y]
   ·rw [if_neg y,if_neg y,if_neg y]
  ·rw [if_neg z,zan,zan]
   rw [zan,if_neg z] at h
   rw [zbv b h]
   by_cases y:b=p.1
   ·rw [if_pos y,if_pos y,if_neg fun x=>z (by rw [← x,y])]
   ·rw [if_neg y,if_neg y]
theorem zbE:∀ {hp:HP} {a:Addr} (b:Addr),hpAt (zel hp a) b=if b=a then none else hpAt hp b
 | [],a,b=>by
  show none=_
  split<;>rfl
 | p::r,a,b=>by
  unfold zel
  by_cases z:a=p.1
  ·rw [if_pos z,zbE b,zan]
   by_cases y:b=a
   ·rw [if_pos y,if_pos y]
   ·rw [if_neg y,if_neg y,if_neg fun x=>y (by rw [x,z])]
  ·rw [if_neg z,zan,zan,zbE b]
   by_cases y:b=p.1
   ·rw [if_pos y,if_pos y,if_neg fun x=>z (by rw [← x,y])]
   ·rw [if_neg y,if_neg y]
structure RT (K:PySem.W.Frag)(B B':Bs)(F H:Hp)(sd:SD)(hp:HP)(σ : St):Prop where
 rs:RS K B' F H sd σ
 f0:B'.F0=B.F0
 pa:B'.pa=B.pa
 out:∀ a,hpAt hp a=none→B'.H0 a=B.H0 a
 obj:∀ a d,hpAt hp a=some d→B.F0 a=none∧B.H0 a=none∧zbI K F B'.H0 a d
section
variable {K:PySem.W.Frag}{B B':Bs}{F F' H H':Hp}{sd sd':SD}{hp:HP}{σ σ':St}{a:Addr}{d:D}
theorem RT.sub (t:RT K B B' F H sd hp σ):Same B.H0 B'.H0:=fun a o e=>by
 cases q:hpAt hp a with
 | none=>rw [t.out a q];exact e
 | some d=>rw [(t.obj a d q).2.1] at e;exact zqn e
theorem RT.ext0 (t:RT K B B' F H sd hp σ){F2 H2:Hp}(e:Ext B'.F0 B'.H0 F2 H2):Ext B.F0 B.H0 F2 H2 :=
 ⟨by rw [← t.f0];exact e.ff,e.fh,t.sub.trans e.hh,fun a h0 h1=>e.new a (by rw [t.f0];exact h0) fun z=>h1 (zak t.sub z)⟩
theorem RT.go (t:RT K B B' F H sd hp σ)(s:Same F F')(r:RS K B' F' H' sd' σ'):RT K B B' F' H' sd' hp σ' :=
 ⟨r,t.f0,t.pa,t.out,fun a d h=>let ⟨h1,h2,h3⟩:=t.obj a d h;⟨h1,h2,h3.ext s fun _ q=>q⟩⟩
theorem RT.free (t:RT K B B' F H sd hp σ)(h:hpAt hp a=some d):F a=none:=by
 obtain ⟨h1,h2,h3⟩:=t.obj a d h
 obtain ⟨o,ho⟩:=h3.has
 exact t.rs.ext.new a (by rw [t.f0];exact h1) (by rw [ho];simp)
theorem RT.lies (t:RT K B B' F H sd hp σ)(h:hpAt hp a=some d):zbI K F H a d:=(t.obj a d h).2.2.ext (.refl _) fun o q=>t.rs.ext.hh _ _ q
theorem RT.no_own (t:RT K B B' F H sd hp σ)(h:hpAt hp a=some d){l:Addr}(hl:B'.H0 l=none):l≠a:=fun z=>by
 obtain ⟨o,ho⟩:=(t.obj a d h).2.2.has
 rw [← z,hl] at ho
 exact zqn ho
theorem RT.start (r:RS K B F H sd σ):RT K B B F H sd [] σ := ⟨r,rfl,rfl,fun _ _=>rfl,fun a d h=>by cases h⟩
theorem RT.ret {m:Option Bool}{Q:VK}(t:RT K B B' F H sd hp σ)(h:zmo K m B Q d):zmo K m B' Q d:=by
 have a1:OkD K B.F0 B.H0 Q d→OkD K B'.F0 B'.H0 Q d:=fun h v F2 H2 e i=>h v F2 H2 (t.ext0 e) i
 have a2:OkN K B.F0 B.H0 Q d→OkN K B'.F0 B'.H0 Q d:=fun h l F2 H2 e n n2 o=>h l F2 H2 (t.ext0 e) (zak t.sub n) n2 o
 cases m with
 | none =>
  have h:OkM K B.F0 B.H0 Q d:=h
  show OkM K B'.F0 B'.H0 Q d
  unfold OkM at h ⊢
  by_cases q:zb4 d=true
  ·rw [if_pos q] at h ⊢;exact a1 h
  ·rw [if_neg q] at h ⊢;exact a2 h
 | some b =>
  cases b with
  | true=>exact a2 h
  | false=>exact a1 h
theorem RT.xw {E:XK}{c:Str}{fs:List D}(t:RT K B B' F H sd hp σ)(h:XW K E B.F0 B.H0 c fs):XW K E B'.F0 B'.H0 c fs:=fun cv a F2 H2 e q=>h cv a F2 H2 (t.ext0 e) q
theorem RT.chg (t:RT K B B' F H sd hp σ){d':D}{o:HO}(ha:hpAt hp a=some d)(h:zbI K F (upd H a o) a d'):RT K B ⟨B'.F0,upd B'.H0 a o,B'.pa⟩ F (upd H a o) sd (zaM hp a d') σ := by
 have hf:=t.free ha
 obtain ⟨b1,b2,b3⟩:=t.obj a d ha
 have hn:hpAt hp a≠none:=by rw [ha];simp
 refine ⟨⟨⟨t.rs.ext.ff,zf0 o t.rs.ext.fh hf,fun b u e => ?_,fun b h0 h1 => ?_⟩,t.rs.len,t.rs.val,fun {i p e} q => ?_,t.rs.apart⟩,t.f0,t.pa,fun b hb => ?_,fun b e hb => ?_⟩
 ·have e:upd B'.H0 a o b=some u:=e
  by_cases z:b=a
  ·subst z;rw [zai] at e ⊢;exact e
  ·rw [zah z] at e ⊢;exact t.rs.ext.hh _ _ e
 ·by_cases z:b=a
  ·rw [z];exact hf
  ·exact t.rs.ext.new b h0 fun y=>h1 (by show upd B'.H0 a o b=none;rw [zah z];exact y)
 ·obtain ⟨l,l1,l2,l3,l4,l5⟩:=t.rs.own q
  have ne:=t.no_own ha l2
  exact ⟨l,l1,(zah ne).trans l2,l3,l4.ext (.refl _) (fun u q'=>by rw [zah ne];exact q'),fun z=>(l5 z).mono fun u q'=>by rw [zah ne];exact q'⟩
 ·rw [zbv b hn] at hb
  by_cases z:b=a
  ·rw [if_pos z] at hb;exact zqn hb.symm
  ·rw [if_neg z] at hb
   show upd B'.H0 a o b=B.H0 b
   rw [zah z]
   exact t.out b hb
 ·rw [zbv b hn] at hb
  by_cases z:b=a
  ·rw [if_pos z] at hb
   obtain rfl:=Option.some.inj hb
   subst z
   exact ⟨b1,b2,h.ext (.refl _) fun u q=>by show upd B'.H0 b o b=some u;rw [zai] at q ⊢;exact q⟩
  ·rw [if_neg z] at hb
   obtain ⟨c1,c2,c3⟩:=t.obj b e hb
   exact ⟨c1,c2,c3.ext (.refl _) fun u q=>by show upd B'.H0 a o b=some u;rw [zah z];exact q⟩
def addF (F H0:Hp)(hp:HP):Hp:=fun a=>match hpAt hp a with
 | some _=>H0 a
 | none=>F a
theorem RT.frz (t:RT K B B' F H sd hp σ):∃ F1,Same F F1∧RS K B F1 H sd σ ∧ ∀ a d,hpAt hp a=some d→IsD K F1 d (.ref a):=by
 have s0:∀ b d,hpAt hp b=some d→addF F B'.H0 hp b=B'.H0 b:=fun b d e=>by unfold addF;rw [e]
 have s1:∀ b,hpAt hp b=none→addF F B'.H0 hp b=F b:=fun b e=>by unfold addF;rw [e]
 have sF:Same F (addF F B'.H0 hp):=fun b u e=>by
  cases q:hpAt hp b with
  | none=>rw [s1 b q];exact e
  | some d=>rw [t.free q] at e;exact zqn e
 refine ⟨addF F B'.H0 hp,sF,⟨⟨?_,fun b u e => ?_,t.sub.trans t.rs.ext.hh,fun b h0 h1 => ?_⟩,t.rs.len,fun q=>let ⟨v,h1,h2⟩:=t.rs.val q;⟨v,h1,IsD.same sF _ _ h2⟩,fun {i p e} q => ?_,t.rs.apart⟩,fun b e hb => ?_⟩
 ·rw [← t.f0];exact t.rs.ext.ff.trans sF
 ·cases q:hpAt hp b with
  | none=>rw [s1 b q] at e;exact t.rs.ext.fh _ _ e
  | some d=>rw [s0 b d q] at e;exact t.rs.ext.hh _ _ e
 ·cases q:hpAt hp b with
  | none=>rw [s1 b q];exact t.rs.ext.new b (by rw [t.f0];exact h0) (by rw [t.out b q];exact h1)
  | some d=>exact absurd (t.obj b d q).2.1 h1
 ·obtain ⟨l,l1,l2,l3,l4,l5⟩:=t.rs.own q
  have hl:hpAt hp l=none:=by
   cases z:hpAt hp l with
   | none=>rfl
   | some d'=>exact absurd rfl (t.no_own z l2)
  exact ⟨l,l1,zak t.sub l2,by rw [s1 l hl];exact l3,l4.ext sF fun _ q=>q,fun z=>by rw [← t.pa];exact l5 z⟩
 ·obtain ⟨c1,c2,c3⟩:=t.obj b e hb
  obtain ⟨o,ho⟩:=c3.has
  refine IsD.same (fun c u q => ?_) _ _ (c3.frz ho (t.free hb))
  by_cases z:c=b
  ·subst z;rw [zai] at q;rw [s0 c e hb,ho];exact q
  ·rw [zah z] at q;exact sF _ _ q
end
mutual
noncomputable def der (hp:HP):D→D
 | .adr a=>match hpAt hp a with
  | some d=>d
  | none=>.adr a
 | .lst ds=>.lst (ders hp ds)
 | .non=>.non
 | .bl b=>.bl b
 | .int i=>.int i
 | .str x=>.str x
 | .ty n=>.ty n
 | .scr ns=>.scr ns
 | .tup ds=>.tup ds
 | .dct ks ds=>.dct ks ds
 | .ins c fs ds=>.ins c fs ds
 | .exc c=>.exc c
 | .ucl c=>.ucl c
 | .dcf ks ds=>.dcf ks ds
noncomputable def ders (hp:HP):List D→List D
 | [] => []
 | d::ds=>der hp d::ders hp ds
end
theorem zgR (hp:HP)(a:Addr):der hp (.adr a)=match hpAt hp a with
 | some d=>d
 | none=>.adr a:=by rw [der]
theorem zbx (hp:HP)(ds:List D):der hp (.lst ds)=.lst (ders hp ds):=by rw [der]
theorem zc2 (hp:HP):ders hp []=[]:=by rw [ders]
theorem zbf (hp:HP)(d:D)(ds:List D):ders hp (d::ds)=der hp d::ders hp ds:=by rw [ders]
theorem zcd (hp:HP):∀ ds:List D,ders hp ds=ds.map (der hp)
 | []=>zc2 hp
 | d::ds=>by rw [zbf,zcd hp ds];rfl
section
variable {K:PySem.W.Frag}{B:Bs}{F H:Hp}{sd:SD}{hp:HP}{σ : St}
mutual
theorem IsD.der (ho:∀ a d,hpAt hp a=some d→IsD K F d (.ref a)):∀ (d:D) (v:V),IsD K F d v→IsD K F (der hp d) v
 | .adr a,v,h=>by
  obtain rfl:=IsD.adr_iff.mp h
  rw [zgR]
  split
  ·rename_i d q;exact ho a d q
  ·exact IsD.adr_iff.mpr rfl
 | .lst ds,v,h=>by
  obtain ⟨a,xs,h1,h2,h3⟩:=IsD.lst_iff.mp h
  rw [zbx]
  exact IsD.lst_iff.mpr ⟨a,xs,h1,h2,IsDs.der ho ds xs h3⟩
 | .non,v,h=>by rw [L2.DL.der];exact h
 | .bl b,v,h=>by rw [L2.DL.der];exact h
 | .int b,v,h=>by rw [L2.DL.der];exact h
 | .str b,v,h=>by rw [L2.DL.der];exact h
 | .ty b,v,h=>by rw [L2.DL.der];exact h
 | .scr b,v,h=>by rw [L2.DL.der];exact h
 | .tup b,v,h=>by rw [L2.DL.der];exact h
 | .dct b c,v,h=>by rw [L2.DL.der];exact h
 | .ins b c d,v,h=>by rw [L2.DL.der];exact h
 | .exc b,v,h=>by rw [L2.DL.der];exact h
 | .ucl b,v,h=>by rw [L2.DL.der];exact h
 | .dcf b c,v,h=>by rw [L2.DL.der];exact h
theorem IsDs.der (ho:∀ a d,hpAt hp a=some d→IsD K F d (.ref a)):∀ (ds:List D) (xs:List V),IsDs K F ds xs→IsDs K F (ders hp ds) xs
 | [],xs,h=>by rw [zc2];exact h
 | d::ds,xs,h=>by
  obtain ⟨x,r,h1,h2,h3⟩:=IsDs.cons_iff.mp h
  rw [zbf]
  exact IsDs.cons_iff.mpr ⟨x,r,h1,IsD.der ho d x h2,IsDs.der ho ds r h3⟩
end
def derI (hp:HP):List Nat→SD→SD
 | [],sd=>sd
 | i::is,sd=>derI hp is (match sd[i]? with
  | some (some (.val d))=>sd.set i (some (.val (der hp d)))
  | _=>sd)
theorem zly {α : Type}{l:List α}{i:Nat}{a : α}(h:l[i]? = some a):l.set i a=l:=by
 apply List.ext_getElem?
 intro j
 by_cases z:i=j
 ·subst z
  rw [List.getElem?_set_self (List.getElem?_eq_some_iff.mp h).1,h]
 ·rw [List.getElem?_set_ne z]
theorem RS.reval {i:Nat}{d d':D}(r:RS K B F H sd σ)(hi:sd[i]? = some (some (.val d)))(h:∀ v,IsD K F d v→IsD K F d' v):RS K B F H (sd.set i (some (.val d'))) σ := by
 obtain ⟨v,h1,h2⟩:=r.val hi
 have:=r.setVal (i:=i) (h v h2)
 rw [zly h1] at this
 exact this
theorem RS.derI (ho:∀ a d,hpAt hp a=some d→IsD K F d (.ref a)):∀ (is:List Nat) {sd:SD},RS K B F H sd σ → RS K B F H (derI hp is sd) σ
 | [],sd,r=>r
 | i::is,sd,r=>by
  unfold L2.DL.derI
  split
  ·rename_i d h
   exact RS.derI ho is (r.reval h fun v q=>IsD.der ho d v q)
  ·exact RS.derI ho is r
end
inductive Out2 where
 | next (sd:SD) (hp:HP)|ret (d:D)|brk (sd:SD) (hp:HP)|cont (sd:SD) (hp:HP)
def zbR (K:PySem.W.Frag)(m:Option Bool)(B:Bs)(F:Hp)(T:Ends):Out2→Prop
 | .next sd hp => ∀ σ B' F' H',Same F F'→RT K B B' F' H' sd hp σ → T.nx σ H'
 | .brk sd hp => ∀ σ B' F' H',Same F F'→RT K B B' F' H' sd hp σ → T.bk σ H'
 | .cont sd hp => ∀ σ B' F' H',Same F F'→RT K B B' F' H' sd hp σ → T.ct σ H'
 | .ret d=>zmo K m B T.rt d
abbrev FS2:=SD→HP→Res Out2
def tDS2 (K:PySem.W.Frag)(E:XK)(m:Option Bool)(g:FS2):TS:=fun T σ H => ∃ B B' F sd hp,RT K B B' F H sd hp σ ∧ (g sd hp).need (zbR K m B F T) (XW K E B.F0 B.H0)
abbrev Q2S (X:Cx)(E:XK)(m:Option Bool)(st:Stmt)(g:FS2):Prop:=PS X st (tDS2 X.K E m g)
abbrev Q2Ss (X:Cx)(E:XK)(m:Option Bool)(st:List Stmt)(g:FS2):Prop:=PSs X st (tDS2 X.K E m g)
noncomputable def up2 (hp:HP):Out→Out2
 | .next sd=>.next sd hp
 | .ret d=>.ret d
 | .brk sd=>.brk sd hp
 | .cont sd=>.cont sd hp
section
variable {K:PySem.W.Frag}{E:XK}{m:Option Bool}{B B':Bs}{F F' H:Hp}{T:Ends}{sd:SD}{hp:HP}{σ : St}
theorem zbR.mono {o:Out2}(h:zbR K m B F T o)(e:Same F F'):zbR K m B F' T o:=by
 cases o with
 | next sd hp=>exact fun σ B2 F2 H2 s r=>h σ B2 F2 H2 (e.trans s) r
 | brk sd hp=>exact fun σ B2 F2 H2 s r=>h σ B2 F2 H2 (e.trans s) r
 | cont sd hp=>exact fun σ B2 F2 H2 s r=>h σ B2 F2 H2 (e.trans s) r
 | ret d=>exact h
theorem RT.lift (t:RT K B B' F H sd hp σ){o:Out}(h:zbR K m B F T (up2 hp o)):zeR K m B' F T o:=by
 cases o with
 | next sd'=>exact fun σ' F' H' s r=>h σ' B' F' H' s (t.go s r)
 | brk sd'=>exact fun σ' F' H' s r=>h σ' B' F' H' s (t.go s r)
 | cont sd'=>exact fun σ' F' H' s r=>h σ' B' F' H' s (t.go s r)
 | ret d=>exact t.ret h
theorem lift0 {o:Out}(h:zbR K m B F T (up2 [] o)):zeR K m B F T o:=by
 cases o with
 | next sd'=>exact fun σ' F' H' s r=>h σ' B F' H' s (.start r)
 | brk sd'=>exact fun σ' F' H' s r=>h σ' B F' H' s (.start r)
 | cont sd'=>exact fun σ' F' H' s r=>h σ' B F' H' s (.start r)
 | ret d=>exact h
end
section
variable {X:Cx}{E:XK}{m:Option Bool}{st:Stmt}{sts:List Stmt}{g:FS}{g1 g2:FS2}{pos pos':Pos}{o i e:Expr}{fo fi fv:FE}
def s2L (g:FS):FS2:=fun sd hp=>(g sd).bind fun o=>.ok (up2 hp o)
theorem zfq (h:QS X E m st g):Q2S X E m st (s2L g):=PS.weak h (by rintro T σ H ⟨B,B',F,sd,hp,t,n⟩;exact ⟨B',F,sd,t.rs,(Res.need_bind n).mono (fun o n1=>t.lift n1) fun _ _ q=>t.xw q⟩)
def s2F (is:List Nat)(g:FS):FS2:=fun sd hp=>(g (derI hp is sd)).bind fun o=>.ok (up2 [] o)
theorem zpu (is:List Nat)(h:QSs X E m sts g):Q2Ss X E m sts (s2F is g):=PSs.weak h fun T σ H zh=>by
 obtain ⟨B,B',F,sd,hp,t,n⟩:=zh
 obtain ⟨F1,s1,r1,ho⟩:=t.frz
 exact ⟨B,F1,_,r1.derI ho is,(Res.need_bind n).mono (fun o n1=>lift0 (zbR.mono (show zbR X.K m B F T (up2 [] o) from n1) s1)) fun _ _ q=>q⟩
noncomputable def zb3:FS2:=fun sd hp=>.ok (.next sd hp)
def zbh (g1 g2:FS2):FS2:=fun sd hp=>(g1 sd hp).bind fun o=>match o with
 | .next sd' hp'=>g2 sd' hp'
 | o=>.ok o
theorem zkb:Q2Ss X E m [] zb3:=PSs.weak zkG (by rintro T σ H ⟨B,B',F,sd,hp,t,n⟩;exact n σ B' F H (.refl _) t)
theorem zdb (h:Q2S X E m st g1):Q2Ss X E m [st] g1:=zgO h
theorem zcW (h1:Q2S X E m st g1)(h2:Q2Ss X E m sts g2):Q2Ss X E m (st::sts) (zbh g1 g2):=PSs.weak (zbY h1 h2) fun T σ H zh=>by
 obtain ⟨B,B',F,sd,hp,t,n⟩:=zh
 refine ⟨B,B',F,sd,hp,t,(Res.need_bind n).mono (fun o n1 => ?_) fun _ _ q=>q⟩
 cases o with
 | next sd' hp'=>exact fun σ' B2 F' H' s r'=>⟨B,B2,F',sd',hp',r',n1.mono (fun o q=>q.mono s) fun _ _ q=>q⟩
 | ret d=>exact n1
 | brk sd' hp'=>exact n1
 | cont sd' hp'=>exact n1
abbrev FT2:=SD→HP→Res Bool
def tDT2 (K:PySem.W.Frag)(E:XK)(f:FT2):TT:=fun σ H Q => ∃ B B' F sd hp,RT K B B' F H sd hp σ ∧ (f sd hp).need (OkB F H Q) (XW K E F H)
abbrev Q2T (X:Cx)(E:XK)(e:Expr)(f:FT2):Prop:=PT X e (tDT2 X.K E f)
noncomputable def t2L (f:FT):FT2:=fun sd _=>f sd
theorem zmq {f:FT}(h:QT X E e f):Q2T X E e (t2L f):=PT.weak h (by rintro σ H Q ⟨B,B',F,sd,hp,t,n⟩;exact ⟨B',F,sd,t.rs,n⟩)
def t2R (is:List Nat)(f:FT):FT2:=fun sd hp=>(f (derI hp is sd)).bare
theorem zh2 {f:FT}(is:List Nat)(h:QT X E0 e f):Q2T X E0 e (t2R is f):=PT.weak h fun σ H Q zh=>by
 obtain ⟨B,B',F,sd,hp,t,n⟩:=zh
 obtain ⟨F1,s1,r1,ho⟩:=t.frz
 refine ⟨B,F1,_,r1.derI ho is,(Res.need_bare t.rs.ext.fh (show (Res.bare (f (derI hp is sd))).need _ _ from n)).mono (fun d n1 F2 H2 e2 => ?_) fun c fs q=>q⟩
 exact n1 F H2 (.grow t.rs.ext.fh e2.hh)
def s2If (c:FT2)(g1 g2:FS2):FS2:=fun sd hp=>(c sd hp).bind fun b=>if b then g1 sd hp else g2 sd hp
theorem zn0 {c:Expr}{a b:List Stmt}{fc:FT2}(hc:Q2T X E c fc)(ha:Q2Ss X E m a g1)(hb:Q2Ss X E m b g2):Q2S X E m (.If c a b pos) (s2If fc g1 g2):=PS.weak (zpx hc ha hb) fun T σ H zh=>by
 obtain ⟨B,B',F,sd,hp,t,n⟩:=zh
 refine ⟨B,B',F,sd,hp,t,(Res.need_bind n).mono (fun b n1 F1 H1 e1 => ?_) fun _ _ q=>q.ext (t.ext0 t.rs.ext)⟩
 cases b with
 | true=>exact ⟨B,B',F1,sd,hp,t.go e1.ff (t.rs.step e1),n1.mono (fun _ q=>q.mono e1.ff) fun _ _ q=>q⟩
 | false=>exact ⟨B,B',F1,sd,hp,t.go e1.ff (t.rs.step e1),n1.mono (fun _ q=>q.mono e1.ff) fun _ _ q=>q⟩
def zdk (fo fk fv:FE):FS2:=fun sd hp=>(fv sd).bind fun v=>(fo sd).bind fun o=>match o with
 | .adr a=>match hpAt hp a with
  | some (.dct ks ds)=>(fk sd).bind fun k=>match zdo k with
   | some q=>if ks.length<sizeLine then .ok (.next sd (zaM hp a (.dct (zhh ks q) (zir ks ds q v)))) else .no
   | none=>.no
  | _=>.no
 | _=>.no
theorem zj4 (hu:X.A.units+1<cLine)(ho:QE X E o fo)(hi:QE X E i fi)(hv:QE X E e fv)(hs:autoParam (swapsWith e (some (.Subscript o i pos')) pos.line X.env=pure false) zau._auto_1) :
 Q2S X E m (.Assign [.Subscript o i pos'] e pos) (zdk fo fi fv):=PS.weak (znR hu ho hi hv hs) fun T σ H zh=>by
 obtain ⟨B,B',F,sd,hp,t,n⟩:=zh
 refine ⟨B',F,sd,t.rs,(Res.need_bind n).mono (fun d n1 v F1 H1 e1 i1 => ?_) fun _ _ q=>q.ext (t.ext0 t.rs.ext)⟩
 refine ⟨B',F1,sd,t.rs.step e1,(Res.need_bind n1).mono (fun d2 n2 v2 F2 H2 e2 i2 => ?_) fun _ _ q=>q.ext (t.ext0 (t.rs.step e1).ext)⟩
 split at n2
 ·rename_i a
  obtain rfl:=IsD.adr_iff.mp i2
  split at n2
  ·rename_i ks ds ha
   refine ⟨B',F2,sd,(t.rs.step e1).step e2,(Res.need_bind n2).mono (fun k n3 w F3 H3 e3 i3 => ?_) fun _ _ q=>q.ext (t.ext0 ((t.rs.step e1).step e2).ext)⟩
   split at n3
   ·rename_i q hk
    split at n3
    ·rename_i hz
     have sf:=(e1.ff.trans e2.ff).trans e3.ff
     have t3:=t.go sf (((t.rs.step e1).step e2).step e3)
     obtain ⟨xs,h4,h5,h6⟩:=t3.lies ha
     obtain ⟨ys,y1,y2,y3⟩:=zo5 (K:=X.K) (q:=q) h5 h6 (IsD.same (e2.ff.trans e3.ff) _ _ i1)
     refine ⟨a,_,rfl,(by rw [zeK hk i3];exact DPut.k h4 (by rw [List.length_zip];omega)),?_⟩
     exact n3 σ _ F3 _ sf (t3.chg ha ⟨ys,by rw [zai,y1],y2,y3⟩)
    ·exact n3.elim
   ·exact n3.elim
  ·exact n2.elim
 ·exact n2.elim
def for2 (b:D→FS2):List D→FS2
 | [],sd,hp=>.ok (.next sd hp)
 | x::xs,sd,hp=>(b x sd hp).bind fun o=>match o with
  | .next sd' hp'=>for2 b xs sd' hp'
  | .cont sd' hp'=>for2 b xs sd' hp'
  | .brk sd' hp'=>.ok (.next sd' hp')
  | .ret d=>.ok (.ret d)
def zb5 (tg:Tg)(b:FS2)(x:D):FS2:=fun sd hp=>(zaQ tg x sd).bind fun s=>b s hp
def zcf (it:FA)(tg:Tg)(b:FS2):FS2:=fun sd hp=>(it sd).bind fun ds=>for2 (zb5 tg b) ds sd hp
theorem zgL {T:Ends}{B B1:Bs}{F1 H1:Hp}{sd:SD}{hp:HP}{σ : St}{t:Tg}{J:It}{ds:List D}(wk:Walk X.K F1 J ds)(r:RT X.K B B1 F1 H1 sd hp σ)(n1:(for2 (zb5 t g1) ds sd hp).need (zbR X.K m B F1 T) (XW X.K E B.F0 B.H0)) :
 ∃ W:Nat→Nat→St→Hp→Prop,(∃ m,W 0 m σ H1)∧∀ i m' σ H,W i m' σ H→(J.stop i H∧T.nx σ H)∨(J.go i H∧∃ N:St→Hp→Prop,(∀ σ' H',N σ' H'→∃ m2,m2<m'∧W (i+1) m2 σ' H')∧∀ x H',J.yld i H x H'→gT t X.K x σ H' fun σ2 H2=>tDS2 X.K E m g1 { T with nx:=N,ct:=N,bk:=T.nx } σ2 H2):=by
 refine ⟨fun i k σ H=>k=ds.length-i∧i≤ds.length∧∃ B2 F2 sd hp,Same F1 F2∧RT X.K B B2 F2 H sd hp σ ∧ (for2 (zb5 t g1) (ds.drop i) sd hp).need (zbR X.K m B F2 T) (XW X.K E B.F0 B.H0),
  ⟨ds.length,rfl,Nat.zero_le _,B1,F1,sd,hp,.refl _,r,n1⟩,?_⟩
 rintro i k σ2 H2 ⟨rfl,hi,B2,F2,sd2,hp2,s2,r2,n2⟩
 obtain ⟨w1,w2⟩:=wk i F2 H2 s2 r2.rs.ext.fh
 by_cases hlt:i<ds.length
 ·obtain ⟨go,yl⟩:=w1 hlt
  refine .inr ⟨go,fun σ' H' => ∃ B3 F3 sd3 hp3,Same F1 F3∧RT X.K B B3 F3 H' sd3 hp3 σ'∧(for2 (zb5 t g1) (ds.drop (i+1)) sd3 hp3).need (zbR X.K m B F3 T) (XW X.K E B.F0 B.H0),
   fun σ' H' ⟨B3,F3,sd3,hp3,q1,q2,q3⟩=>⟨ds.length-(i+1),by omega,rfl,hlt,B3,F3,sd3,hp3,q1,q2,q3⟩,fun x H3 y => ?_⟩
  obtain ⟨d,F3,hd,e3,i3⟩:=yl x H3 y
  rw [List.drop_eq_getElem_cons hlt] at n2
  have hd':ds[i]=d:=by rw [List.getElem?_eq_getElem hlt] at hd;exact Option.some.inj hd
  rw [hd'] at n2
  have r3:=r2.go e3.ff (r2.rs.step e3)
  unfold for2 at n2
  have n3:=Res.need_bind (Res.need_bind n2)
  refine zji r3.rs i3 n3 fun sd' σ' n4 _ r4 => ?_
  refine ⟨B,B2,F3,sd',hp2,r3.go (.refl _) r4,n4.mono (fun o n5 => ?_) fun _ _ q=>q⟩
  cases o with
  | next sd5 hp5=>exact fun σ5 B5 F5 H5 s5 r5=>⟨B5,F5,sd5,hp5,(s2.trans e3.ff).trans s5,r5,n5.mono (fun _ q=>q.mono (e3.ff.trans s5)) fun _ _ q=>q⟩
  | cont sd5 hp5=>exact fun σ5 B5 F5 H5 s5 r5=>⟨B5,F5,sd5,hp5,(s2.trans e3.ff).trans s5,r5,n5.mono (fun _ q=>q.mono (e3.ff.trans s5)) fun _ _ q=>q⟩
  | brk sd5 hp5=>exact fun σ5 B5 F5 H5 s5 r5=>n5 σ5 B5 F5 H5 (e3.ff.trans s5) r5
  | ret d=>exact n5
 ·have he:i=ds.length:=by omega
  refine .inl ⟨w2 (by omega),?_⟩
  subst he
  rw [List.drop_length] at n2
  exact n2 σ2 B2 F2 H2 (.refl _) r2
theorem zhA {tg iter:Expr}{body:List Stmt}{it:FA}{t:Tg}(hp:PassesOwn (model X.prog X.w) X.A X.env X.xe)(hc:X.calm=true)(hi:QI X E tg iter it)(hg:QG X tg t)(hb:Q2Ss X E m body g1)
 (hss:autoParam (∀ x,foldedSetIterable iter X.env x=pure x) zaw._auto_1):Q2S X E m (.For tg iter body [] pos) (zcf it t g1):=PS.weak (zjX hp hc hi hg hb hss) fun T σ H zh=>by
 obtain ⟨B,B',F,sd,hp,r,n⟩:=zh
 refine ⟨B',F,sd,r.rs,(Res.need_bind n).mono (fun ds n1 J F1 H1 e1 wk => ?_) fun _ _ q=>q.ext (r.ext0 r.rs.ext)⟩
 exact zgL wk (r.go e1.ff (r.rs.step e1)) (n1.mono (fun _ q=>q.mono e1.ff) fun _ _ q=>q)
end
open Classical in
noncomputable def allA (n:Nat)(g:List Addr→Res Out):Res Out:=if h:∃ o,∀ as:List Addr,as.length=n→as.Nodup→g as=.ok o then .ok (Classical.choose h) else .no
theorem zov {n:Nat}{g:List Addr→Res Out}{o:Out}(h:∀ as:List Addr,as.length=n→as.Nodup→g as=.ok o):allA n g=.ok o:=by
 have hx:∃ o,∀ as:List Addr,as.length=n→as.Nodup→g as=.ok o:=⟨o,h⟩
 unfold allA
 rw [dif_pos hx]
 have h1:=Classical.choose_spec hx (List.range n) List.length_range List.nodup_range
 rw [h (List.range n) List.length_range List.nodup_range] at h1
 exact h1.symm
theorem zkF {n:Nat}{g:List Addr→Res Out}{p:Out→Prop}{q:Str→List D→Prop}(h:(allA n g).need p q)(as:List Addr)(hl:as.length=n)(hn:as.Nodup):(g as).need p q:=by
 unfold allA at h
 split at h
 ·rename_i hx
  rw [Classical.choose_spec hx as hl hn]
  exact h
 ·exact h.elim
def zaG (K:PySem.W.Frag)(F H:Hp):List Addr→List D→Prop
 | [],ds=>ds=[]
 | a::as,ds => ∃ d r,ds=d::r∧zbI K F H a d∧zaG K F H as r
theorem zaG.ext {K:PySem.W.Frag}{F H F' H':Hp}:∀ {as:List Addr} {ds:List D},zaG K F H as ds→Same F F'→(∀ a o,a∈as→H a=some o→H' a=some o)→zaG K F' H' as ds
 | [],ds,h,_,_=>h
 | a::as,ds,⟨d,r,h1,h2,h3⟩,s,k=>⟨d,r,h1,h2.ext s fun o q=>k a o List.mem_cons_self q,zaG.ext h3 s fun b o hb q=>k b o (List.mem_cons_of_mem _ hb) q⟩
theorem zaG.len {K:PySem.W.Frag}{F H:Hp}:∀ {as:List Addr} {ds:List D},zaG K F H as ds→as.length=ds.length
 | [],ds,h=>by rw [show ds=[] from h];rfl
 | a::as,ds,⟨d,r,h1,h2,h3⟩=>by rw [h1,List.length_cons,List.length_cons,h3.len]
theorem zaG.at {K:PySem.W.Frag}{F H:Hp}:∀ {as:List Addr} {ds:List D},zaG K F H as ds→∀ {a:Addr} {d:D},hpAt (as.zip ds) a=some d→a∈as∧zbI K F H a d
 | [],ds,h,a,d,q=>by cases q
 | b::as,ds,⟨e,r,h1,h2,h3⟩,a,d,q=>by
  subst h1
  rw [List.zip_cons_cons,zan] at q
  by_cases z:a=b
  ·rw [if_pos z] at q
   cases q
   rw [z]
   exact ⟨List.mem_cons_self,h2⟩
  ·rw [if_neg z] at q
   obtain ⟨m1,m2⟩:=h3.at q
   exact ⟨List.mem_cons_of_mem _ m1,m2⟩
theorem zc6:∀ {as:List Addr} {ds:List D} {a:Addr},as.length=ds.length→hpAt (as.zip ds) a=none→a∉as
 | [],ds,a,_,_=>by simp
 | b::as,[],a,h,_=>by cases h
 | b::as,d::ds,a,h,q=>by
  rw [List.zip_cons_cons,zan] at q
  by_cases z:a=b
  ·rw [if_pos z] at q;exact zqn q.symm
  ·rw [if_neg z] at q
   intro m
   rcases List.mem_cons.mp m with y|y
   ·exact z y
   ·exact zc6 (by simpa using h) q y
section
variable {X:Cx}{E:XK}{m:Option Bool}{pos pos':Pos}
noncomputable def ret2:Out2→Res Out
 | .ret d=>.ok (.ret d)
 | _=>.no
theorem zmS {K:PySem.W.Frag}{F:Hp}:∀ as:List Addr,IsDs K F (as.map D.adr) (as.map V.ref)
 | []=>.nil
 | a::as=>.mk (IsD.adr_iff.mpr rfl) (zmS as)
theorem zm5 {K:PySem.W.Frag}{B:Bs}{F H F1 H1:Hp}{sd:SD}{σ : St}{as:List Addr}{ds:List D}(r:RS K B F H sd σ)(e1:Ext F H F1 H1)(fr:∀ a∈as,H a=none∧F1 a=none)(ow:zaG K F1 H1 as ds) :
 RT K B ⟨B.F0,fun a=>if a∈as then H1 a else B.H0 a,B.pa⟩ F1 H1 sd (as.zip ds) σ := by
 have r1:=r.step e1
 have hl:=ow.len
 have new:∀ a∈as,B.H0 a=none:=fun a ha=>zak r.ext.hh (fr a ha).1
 refine ⟨⟨⟨r1.ext.ff,r1.ext.fh,fun b u e => ?_,fun b h0 h1 => ?_⟩,r1.len,r1.val,fun {i p d} q => ?_,r1.apart⟩,rfl,rfl,fun a ha => ?_,fun a d ha => ?_⟩
 ·have e:(if b∈as then H1 b else B.H0 b)=some u:=e
  split at e
  ·exact e
  ·exact r1.ext.hh _ _ e
 ·by_cases z:b∈as
  ·exact (fr b z).2
  ·have h1:(if b∈as then H1 b else B.H0 b)≠none:=h1
   rw [if_neg z] at h1
   exact r1.ext.new b h0 h1
 ·obtain ⟨l,l1,l2,l3,l4,l5⟩:=r.own q
  obtain ⟨l',l1',l2',l3',l4',l5'⟩:=r1.own q
  rw [l1] at l1'
  cases l1'
  have hn:l∉as:=fun z=>by
   obtain ⟨o,ho⟩:=l4.has
   rw [(fr l z).1] at ho
   exact zqn ho
  exact ⟨l,l1,by show (if l∈as then H1 l else B.H0 l)=none;rw [if_neg hn];exact l2,l3',l4',l5'⟩
 ·exact if_neg (zc6 hl ha)
 ·obtain ⟨m1,m2⟩:=ow.at ha
  exact ⟨zak r1.ext.ff (fr a m1).2,new a m1,m2.ext (.refl _) fun o q=>by show (if a∈as then H1 a else B.H0 a)=some o;rw [if_pos m1];exact q⟩
end
end L2.DL
namespace L2
open PySem PySem.Spec PyProof.Rows
noncomputable def ltI (a b:Int):Bool:=decide (a<b)
theorem zhb:Tot ltI:=by
 refine ⟨fun a b h => ?_,fun a b c h => ?_,fun a b h1 h2 => ?_⟩
 ·unfold ltI at *;simp at *;omega
 ·unfold ltI at *;simp at *;omega
 ·unfold ltI at *;simp at *;omega
section
variable {prog:Program}{w:World}{A:Around}{s:Shared}
theorem zhC:∀ {vs:List Value} {ks:List Int},IntsAre vs ks→∀ v∈vs,∃ k t,v=Value.int k t
 | _,_,.nil,v,hv=>by cases hv
 | _,_,.cons n t r,v,hv=>by
  rcases List.mem_cons.mp hv with z|z
  ·exact ⟨n,t,z⟩
  ·exact zhC r v z
theorem zl3 {vs:List Value}{ks:List Int}(hk:IntsAre vs ks)(h2:2≤vs.length):Keys prog w A s vs fun i j=>ltI (ks.getD i 0) (ks.getD j 0) :=
 ⟨oneType',fun E Q h=>PySem.W.kas_kind (T:=Value.type "int") h2 (fun v hv=>by
  obtain ⟨k,t,rfl⟩:=zhC hk v hv
  exact PySem.W.Looks.of_pure rfl) rfl rfl h,ST.keyed_orc hk hk.length.symm⟩
theorem zkL:∀ {vs:List Value} {ks:List Int},vs.length=ks.length→(∀ (i:Nat) (k:Int),ks[i]? = some k→∃ t,vs[i]? = some (Value.int k t))→IntsAre vs ks
 | [],[],_,_=>.nil
 | [],_::_,h,_=>by cases h
 | _::_,[],h,_=>by cases h
 | v::vs,k::ks,h,at_=>by
  obtain ⟨t,ht⟩:=at_ 0 k rfl
  obtain rfl:v=Value.int k t:=Option.some.inj ht
  exact .cons k t (zkL (by simpa using h) fun i k hk=>at_ (i+1) k hk)
theorem zg0 {T:String}{r d:Addr}{n:Nat}{P:Nat→Value→Prop}{OK:Heap→Prop}{E:Value→Shared→Prop}{R:List Value→Shared→Prop}(src:PySem.W.KdlSrc prog w T r d n P OK)(calm:A.handled=none)(ok:OK s.heap)(few:n≤sizeLine)
 (k:∀ (g:Heap) (tk:Nat) (acc:Array Value),(∀ b o,s.heap.get? b=some o→g.get? b=some o)→s.heap.objs.size≤g.objs.size→ItemsOf P acc n→R acc.toList { s with heap:=g,toks:=tk }):wpAny (model prog w) A (collect (.ref r)) R E s:=by
 obtain ⟨lr,ld⟩:=src.there _ ok
 let L:Addr:=s.heap.objs.size
 let o0:Obj:={ cls:=.type "list",data:=.seq ([]:List Value).toArray }
 let s0:Shared:={ s with heap:=s.heap.push o0 }
 have at0:s0.heap.get? L=some { cls:=.type "list",data:=.seq #[] }:=Heap.get?_push_size _ rfl
 have ext:=PySem.W.kdl_extend (A:=A) (s:=s0) (R:=fun (q:Result) (z:Shared) => ∃ (g:Heap) (tk:Nat) (acc:Array Value) (c:Nat),q=.ok (.ret (.ref L))∧z={ s with heap:=g,toks:=tk }∧(∀ b o,s.heap.get? b=some o→g.get? b=some o) ∧
  g.get? L=some { cls:=.type "list",dict:=none,data:=.seq acc c,slots:=#[] }∧ItemsOf P acc n)
  src calm (src.keep _ _ ok fun b _ o e=>Heap.get?_push_of_some _ e) L (Nat.ne_of_gt lr) (Nat.ne_of_gt ld) (.ref L) 0 at0
  (fun g tk acc c kk gL its=>⟨g,tk,acc,c,rfl,rfl,fun b o e=>kk b o (Nat.ne_of_lt (Heap.lt_size e)) (Heap.get?_push_of_some _ e),gL,its⟩) few
 have fin:∀ {g:Heap} {tk:Nat} {acc:Array Value} {c:Nat},(∀ b o,s.heap.get? b=some o→g.get? b=some o)→g.get? L=some { cls:=.type "list",dict:=none,data:=.seq acc c,slots:=#[] }→ItemsOf P acc n→R acc.toList { s with heap:=g,toks:=tk } :=
  fun {g tk acc c} kk gL its=>k g tk acc kk (Nat.le_of_lt (Heap.lt_size gL)) its
 unfold collect
 refine wpAny_bind (wpAny_runValue (codeAny_builtin (entry_proto_collect') ?_))
 rw [Around.under_plainId (PySem.F.plain_proto_collect) _]
 show wpAny _ A.in1 (newList [] >>= fun z=>again (.builtin "list.__iadd__" ⟨[z,.ref r],[]⟩)) _ _ s
 refine wpAny_bind (wpAny_newObj_type (wpAny_pure ⟨plainId_quiet (PySem.F.plain_list_iadd) _,codeAny_builtin (entry_list_iadd') ?_⟩))
 rw [Around.under_plainId (PySem.F.plain_list_iadd) _]
 refine wpAny_mono ext (fun f z x => ?_) fun e z x => ?_
 ·cases f with
  | done f =>
   obtain ⟨g,tk,acc,c,e,rfl,kk,gL,its⟩:=x
   cases e
   exact wpAny_bind (wpAny_load gL (wpAny_pure (fin kk gL its)))
  | again c₁ =>
   refine ⟨x.1,codeAny_mono x.2 fun q z y => ?_⟩
   obtain ⟨g,tk,acc,c,rfl,rfl,kk,gL,its⟩:=y
   exact wpAny_bind (wpAny_load gL (wpAny_pure (fin kk gL its)))
 ·obtain ⟨_,_,_,_,e',_⟩:=x
  cases e'
end
def zgp:List V→Hp→VK→Prop:=fun xs H Q => ∃ d kvs ks,xs=[.ref d]∧Rd H d (.dK kvs)∧kvs.map (·.1)=ks.map Sum.inl∧ks.length<64∧∀ l,H l=none→Q (.ref l) (upd H l (.lst ((zaU ltI ks).map V.int)))
theorem zdQ {X:Cx}(hc:X.calm=true):za1 X (.builtin "sorted") zgp:=by
 intro pins s σ H xs us Q I rv h
 obtain ⟨d,kvs,ks,rfl,hd,hk,h64,q⟩:=h
 obtain ⟨u,rfl,ru⟩:=zdm rv
 obtain rfl:u=Value.ref d:=ru
 obtain ⟨z,lo,ws,rel,od,es,ep,d1,d2,d3,d4,d5,d6⟩:=zhd I.hok hd
 have lk:kvs.length=ws.length:=rel.length
 have lks:kvs.length=ks.length:=by have:=congrArg List.length hk;simpa using this
 have hat:s.heap.DictAt (zaJ X.prog X.w) d ws ep:=⟨od,es,d1,d2,d3,d4,d5,d6⟩
 refine zkr (zhb.wk fun i=>ks.getD i 0) (zg0 (PySem.W.kdl_dict lo) (I.ok.hd hc) hat (by rw [← lk,lks];exact zgt (by omega)) fun h1 tk acc kp1 sz1 hacc => ?_)
 have la:acc.toList.length=ks.length:=by rw [Array.length_toList,hacc.1];omega
 have inz:IntsAre acc.toList ks:=zkL la fun i k hi=>by
  have hlt:i<ks.length:=(List.getElem?_eq_some_iff.mp hi).1
  have hv:kvs[i]? = some kvs[i]:=List.getElem?_eq_getElem (by omega)
  have e1:(kvs.map (·.1))[i]? = (ks.map Sum.inl)[i]? := by rw [hk]
  rw [List.getElem?_map,List.getElem?_map,hv,hi] at e1
  have e1:kvs[i].1=(Sum.inl k:Key):=Option.some.inj e1
  obtain ⟨v,hv2,_⟩:=KV.at rel hv
  have ha:acc.toList[i]? = some acc.toList[i]:=List.getElem?_eq_getElem (by omega)
  obtain ⟨k',x',g1,g2⟩:=hacc.2 i acc.toList[i] (by rw [← Array.getElem?_toList];exact ha)
  rw [hv2] at g1
  have g1:(kvs[i].1,v)=(k',x'):=Option.some.inj g1
  cases g1
  rw [e1] at g2
  rcases za2 (show zgm (Sum.inl k) acc.toList[i]=true from g2) with ⟨i0,t,f1,f2⟩|⟨x0,t,f1,f2⟩
  ·cases f1
   exact ⟨t,by rw [ha,f2]⟩
  ·cases f1
 refine ⟨by omega,fun h' kp h2=>zl3 inz h2,fun jx h' l p u kp hl gl => ?_⟩
 obtain ⟨e,gl⟩:=gl
 rw [la] at p u
 have kk:∀ b o,s.heap.get? b=some o→h'.get? b=some o:=fun b o e=>kp b o (kp1 b o e)
 have szl:s.heap.objs.size≤l:=Nat.le_trans sz1 hl
 have sp:=zc0 zhb p u
 refine ⟨.ref l,upd H l (.lst ((zaU ltI ks).map V.int)),I.laid (a:=l) (o:=.lst ((zaU ltI ks).map V.int)) (t':=tk) kk szl ⟨?_,jx.toList.map (nthV acc.toList),e,?_,?_⟩,rfl,q l (I.hok.fresh szl)⟩
 ·rw [← sp,List.length_map,List.length_map,p.len];exact zgt (by omega)
 ·rw [← sp,List.map_map]
  refine zdq fun i hi => ?_
  have hn:=p.mem hi
  have at2:∀ {vs:List Value} {ks:List Int},IntsAre vs ks→∀ {i:Nat},i<ks.length→∃ t,vs[i]? = some (Value.int (ks.getD i 0) t):=by
   intro vs ks h
   induction h with
   | nil=>intro i hi;exact absurd hi (Nat.not_lt_zero _)
   | cons n t r ih =>
    intro i hi
    cases i with
    | zero=>exact ⟨t,rfl⟩
    | succ i=>exact ih (Nat.lt_of_succ_lt_succ hi)
  obtain ⟨t,ht⟩:=at2 inz hn
  unfold nthV
  rw [zbb ht]
  exact ⟨t,rfl⟩
 ·rw [gl]
  congr 3
  apply Array.ext'
  simp
noncomputable def Itk (d:Addr)(o:Obj)(kvs:List (Key×V)):It :=
 ⟨fun i H=>H d=some (.frz o (.dK kvs))∧i<kvs.length,fun i H v H'=>H'=H∧∃ k x,v=kV k∧kvs[i]? = some (k,x),fun i H=>H d=some (.frz o (.dK kvs))∧kvs.length≤i⟩
theorem ziU {P:Program}{w:World}{K:PySem.W.Frag}{tg:Expr}(d it:Addr)(o:Obj)(kvs:List (Key×V))(ep:Nat)(hep:∀ es ep',o.data=.dict es ep'→ep'=ep):Turn P w K tg (Itk d o kvs) [it] it (fun i h=>h.IsKeyIter it d i kvs.length ep) where
 mem:=by simp
 obj:=fun i h st c hc=>by
  obtain ⟨o,h1,h2,h3⟩:=st
  rw [List.mem_singleton.mp hc]
  exact ⟨o,h1,fun v q=>by rw [h3] at q;cases q⟩
 keep:=fun i h h' st kk=>st.at fun o e=>kk it (by simp) o e
 item:=by
  intro X hP hw hK hc i pins s σ H E I hf st hg
  subst hP hw hK
  obtain ⟨hd,hi⟩:=hg
  obtain ⟨vs,rel,hat⟩:=zm1 hep I hd
  have hl:kvs.length=vs.length:=rel.length
  obtain ⟨f0,f1,f2,f3,f4,f5⟩:=hf it (by simp)
  obtain ⟨v,hv,rv⟩:=KV.at rel (List.getElem?_eq_getElem hi)
  have st':s.heap.IsKeyIter it d i vs.length ep:=by rw [← hl];exact st
  refine wpAny_pyNext_dict_item st' hat hv fun key h' hkey hit sb => ?_
  have I1:Inv X pins σ H { s with heap:=h',toks:=s.toks }:=I.turned (fun b o hb e=>sb.extBut b o hb e) f0 f1 f3 f4 f5
  obtain ⟨oi,g1,g2,g3⟩:=id hit
  refine ⟨_,rfl,zl4 (s:={ s with heap:=h' }) (n := "dict_keyiterator") g1 g2 g3 (by decide) ⟨kV kvs[i].1,H,I1,kV_of hkey,⟨rfl,_,_,rfl,List.getElem?_eq_getElem hi⟩,by rw [hl];exact hit,fun b hb=>(hf b hb).1⟩⟩
 done:=by
  intro X hP hw hK hc i pins s σ H E I hf st hg
  subst hP hw hK
  obtain ⟨hd,hi⟩:=hg
  obtain ⟨vs,rel,hat⟩:=zm1 hep I hd
  have hl:kvs.length=vs.length:=rel.length
  obtain ⟨f0,f1,f2,f3,f4,f5⟩:=hf it (by simp)
  have st':s.heap.IsKeyIter it d i vs.length ep:=by rw [← hl];exact st
  exact wpAny_pyNext_dict_end (I.ok.hd hc) st' hat (List.getElem?_eq_none (by omega)) fun h' eb=>⟨rfl,I.turned (t':=s.toks) (fun b o hb e=>eb b o hb e) f0 f1 f3 f4 f5⟩
 self:=fun A i s Q E st h=>wpAny_pyIter_keyiter st h
section
variable {X:Cx}{tg:Expr}
def iKeys (te:TE):TI:=fun σ H R=>te σ H fun x H1 => ∃ d kvs,x=.ref d∧((H1 d=some (.dK kvs)∧∀ o,R (Itk d o kvs) (upd H1 d (.frz o (.dK kvs))))∨∃ o,H1 d=some (.frz o (.dK kvs))∧R (Itk d o kvs) H1)
theorem zoa {e:Expr}{te:TE}(he:PE X e te):PI X tg e (iKeys te):=by
 intro pins s σ H R I h
 refine thn (he pins s σ H _ I h) fun u s1 zh => ?_
 obtain ⟨x,H2,I1,r1,d,kvs,ex,hcase⟩:=zh
 subst ex
 obtain rfl:u=Value.ref d:=r1
 have go:∀ {o:Obj} {H3:Hp} {es:Array DictEntry} {ep:Nat} {vs:List (Key×Value)},Inv X pins σ H3 s1→(d == sysModules)=false→kvs.length=vs.length→o.data=.dict es ep→s1.heap.DictAt (zaJ X.prog X.w) d vs ep→R (Itk d o kvs) H3 →
  wpAny (model X.prog X.w) X.A (pyIter (.ref d)) (PIE X pins σ tg R) X.xe s1:=fun {o H3 es ep vs} I2 lo hl d3 hat q=>by
  refine wpAny_pyIter_dict lo hat ?_
  refine ⟨s1.heap.objs.size,[s1.heap.objs.size],_,_,_,rfl,I2.kept (t':=s1.toks) (fun b o e=>Heap.get?_push_of_some _ e),ziU d s1.heap.objs.size o kvs ep (fun es' ep' z=>by rw [d3] at z;cases z;rfl),?_,fun c hc => ?_,q⟩
  ·rw [hl]
   exact ⟨_,Heap.get?_push_size _ rfl,rfl,rfl⟩
  ·rw [List.mem_singleton.mp hc]
   exact I2.fpOk (Nat.le_refl _) (I2.hok.fresh (Nat.le_refl _))
 rcases hcase with ⟨hd2,q⟩|⟨o,hd2,q⟩
 ·obtain ⟨_,lo,vs,rel,o,es,ep,d1,d2,d3,dr⟩:=zp4 I1.hok hd2
  exact go (I1.freeze hd2 d1) lo rel.length d3 ⟨o,es,d1,d2,d3,dr⟩ (q o)
 ·obtain ⟨ho,_,lo,vs,rel,o',es,ep,d1,d2,d3,dr⟩:=(show zaL X.prog X.w H2 s1.heap d (.frz o (.dK kvs)) from I1.hok d _ hd2)
  rw [ho] at d1
  obtain rfl:=Option.some.inj d1
  exact go I1 lo rel.length d3 ⟨o,es,ho,d2,d3,dr⟩ q
end
end L2
namespace L2.DL
open PySem PySem.Spec PyProof.Rows
noncomputable def zgI:List Key→Option (List Int)
 | []=>some []
 | .inl k::ks=>(zgI ks).map (k :: ·)
 | _=>none
theorem zf3:∀ {ks:List Key} {l:List Int},zgI ks=some l→ks=l.map Sum.inl
 | [],l,h=>by cases h;rfl
 | .inl k::ks,l,h=>by
  obtain ⟨r,h1,h2⟩:=Option.map_eq_some_iff.mp (show (zgI ks).map (k :: ·)=some l from h)
  subst h2
  rw [zf3 h1]
  rfl
 | .inr _::ks,l,h=>by cases h
theorem zg7:∀ l:List Int,zgI (l.map Sum.inl)=some l
 | []=>rfl
 | k::l=>by
  show (zgI (l.map Sum.inl)).map (k :: ·)=_
  rw [zg7 l]
  rfl
def zgS (ks:List Key):Option D:=(zgI ks).bind fun l=>if l.length<64 then some (.lst ((zaU ltI l).map .int)) else none
def zcN:List D→Option D
 | [.dct ks _]=>zgS ks
 | [.dcf ks _]=>zgS ks
 | _=>none
theorem ze3 {l:List Int}(h:l.length<64):zgS (l.map Sum.inl)=some (.lst ((zaU ltI l).map .int)):=by
 unfold zgS
 rw [zg7]
 exact if_pos h
section
variable {X:Cx}{E:XK}{m:Option Bool}
theorem zib (hc:X.calm=true):za1 X (.builtin "sorted") (rDAN X.K zcN):=za1.weak (zdQ hc) fun xs H Q zh=>by
 obtain ⟨F,ds,z,sF,id,hz,q⟩:=zh
 have key:∀ {d:D} {ks:List Key} {es:List D} {v:V},(d=.dct ks es∨d=.dcf ks es)→IsD X.K F d v→zgS ks=some z→zgp [v] H Q:=fun {d ks es v} hd i hs=>by
  obtain ⟨l,h1,h2⟩:=Option.bind_eq_some_iff.mp (show (zgI ks).bind (fun l=>if l.length<64 then some (D.lst ((zaU ltI l).map .int)) else none)=some z from hs)
  split at h2
  ·rename_i hl
   obtain rfl:=Option.some.inj h2
   obtain ⟨a,ys,rfl,g1,g2,g3⟩:=zjf hd i
   have hk:=zf3 h1
   refine ⟨a,_,l,rfl,zeU sF g1,?_,hl,fun p hp=>q p F _ (.keep sF hp _) hp (zak sF hp) ⟨_,zai,IsDs.ints _⟩⟩
   rw [List.map_fst_zip (by omega),hk]
  ·exact zqn h2
 unfold zcN at hz
 split at hz
 ·obtain ⟨v,rfl,h⟩:=zb7 id
  exact key (.inl rfl) h hz
 ·obtain ⟨v,rfl,h⟩:=zb7 id
  exact key (.inr rfl) h hz
 ·exact zqn hz
def zeV (ks:List Key):List D:=ks.map keyD
def zdf (is:List Nat)(fo:FE)(tg:Tg)(b:FS2):FS2:=fun sd hp=>(fo sd).bind fun o=>match o with
 | .adr a=>match hpAt hp a with
  | some (.dct ks ds)=>for2 (zb5 tg b) (zeV ks) (derI [(a,.dcf ks ds)] is sd) (zel hp a)
  | _=>.no
 | .dcf ks _=>for2 (zb5 tg b) (zeV ks) sd hp
 | _=>.no
theorem RT.walk {K:PySem.W.Frag}{B B':Bs}{F H:Hp}{sd:SD}{hp:HP}{σ : St}{a:Addr}{d:D}{u:HO}(t:RT K B B' F H sd hp σ)(ha:hpAt hp a=some d) :
 Same F (upd F a u)∧RT K B ⟨B'.F0,fun b=>if b=a then none else B'.H0 b,B'.pa⟩ (upd F a u) (upd H a u) sd (zel hp a) σ := by
 have hf:=t.free ha
 obtain ⟨b1,b2,b3⟩:=t.obj a d ha
 have sF:Same F (upd F a u):=zaX hf u
 refine ⟨sF,⟨⟨t.rs.ext.ff.trans sF,fun b v e => ?_,fun b v e => ?_,fun b h0 h1 => ?_⟩,t.rs.len,fun q=>let ⟨v,h1,h2⟩:=t.rs.val q;⟨v,h1,IsD.same sF _ _ h2⟩,fun {i p e} q => ?_,t.rs.apart⟩,t.f0,t.pa,fun b hb => ?_,fun b e hb => ?_⟩
 ·by_cases z:b=a
  ·subst z;rw [zai] at e ⊢;exact e
  ·rw [zah z] at e ⊢;exact t.rs.ext.fh _ _ e
 ·have e:(if b=a then none else B'.H0 b)=some v:=e
  split at e
  ·exact zqn e
  ·rename_i z
   rw [zah z]
   exact t.rs.ext.hh _ _ e
 ·have h1:(if b=a then none else B'.H0 b)≠none:=h1
  split at h1
  ·exact absurd rfl h1
  ·rename_i z
   rw [zah z]
   exact t.rs.ext.new b h0 h1
 ·obtain ⟨l,l1,l2,l3,l4,l5⟩:=t.rs.own q
  have ne:=t.no_own ha l2
  exact ⟨l,l1,by show (if l=a then none else B'.H0 l)=none;rw [if_neg ne];exact l2,by rw [zah ne];exact l3,l4.ext sF (fun v q'=>by rw [zah ne];exact q'),fun z=>(l5 z).mono fun v q'=>by rw [zah ne];exact q'⟩
 ·rw [zbE] at hb
  show (if b=a then none else B'.H0 b)=B.H0 b
  by_cases z:b=a
  ·rw [if_pos z,z,b2]
  ·rw [if_neg z] at hb ⊢
   exact t.out b hb
 ·rw [zbE] at hb
  by_cases z:b=a
  ·rw [if_pos z] at hb;exact zqn hb
  ·rw [if_neg z] at hb
   obtain ⟨c1,c2,c3⟩:=t.obj b e hb
   exact ⟨c1,c2,c3.ext sF fun v q=>by show (if b=a then none else B'.H0 b)=some v;rw [if_neg z];exact q⟩
theorem zgf {K:PySem.W.Frag}{F1:Hp}{d:Addr}{o:Obj}{ks:List Key}{xs:List V}(h:F1 d=some (.frz o (.dK (ks.zip xs))))(hl:ks.length=xs.length):Walk K F1 (Itk d o (ks.zip xs)) (zeV ks):=fun i F2 H2 s1 s2=>by
 have p1:=s2 _ _ (s1 _ _ h)
 have lz:(ks.zip xs).length=ks.length:=by rw [List.length_zip];omega
 have li:(zeV ks).length=ks.length:=List.length_map _
 rw [li]
 refine ⟨fun hi=>⟨⟨p1,by omega⟩,fun v H3 yl => ?_⟩,fun hi=>⟨p1,by omega⟩⟩
 obtain ⟨rfl,k,x,rfl,hk⟩:=yl
 rw [List.getElem?_zip_eq_some] at hk
 refine ⟨keyD k,F2,?_,.refl s2,zou K F2 k⟩
 unfold zeV
 rw [List.getElem?_map,show ks[i]? = some k from hk.1]
 rfl
theorem znS {tg iter:Expr}{body:List Stmt}{fo:FE}{t:Tg}{g1:FS2}{pos:Pos}(is:List Nat)(hp:PassesOwn (model X.prog X.w) X.A X.env X.xe)(hc:X.calm=true)(hi:QE X E iter fo)(hg:QG X tg t)(hb:Q2Ss X E m body g1)
 (hss:autoParam (∀ x,foldedSetIterable iter X.env x=pure x) zaw._auto_1):Q2S X E m (.For tg iter body [] pos) (zdf is fo t g1):=PS.weak (zjX hp hc (zoa hi) hg hb hss) fun T σ H zh=>by
 obtain ⟨B,B',F,sd,hp,r,n⟩:=zh
 refine ⟨B',F,sd,r.rs,(Res.need_bind n).mono (fun d n1 v F1 H1 e1 i1 => ?_) fun _ _ q=>q.ext (r.ext0 r.rs.ext)⟩
 split at n1
 ·rename_i a
  obtain rfl:=IsD.adr_iff.mp i1
  split at n1
  ·rename_i ks ds ha
   have r1:=r.go e1.ff (r.rs.step e1)
   obtain ⟨xs,h4,h5,h6⟩:=r1.lies ha
   refine ⟨a,ks.zip xs,rfl,.inl ⟨h4,fun o => ?_⟩⟩
   obtain ⟨sF,r2⟩:=r1.walk (u:=.frz o (.dK (ks.zip xs))) ha
   have r3:=r2.go (.refl _) (RS.derI (hp:=[(a,.dcf ks ds)]) (fun b e hb=>by
    rw [zan] at hb
    split at hb
    ·rename_i z
     obtain rfl:=Option.some.inj hb
     have z:b=a:=z
     subst z
     exact IsD.dcf_iff.mpr ⟨b,o,xs,rfl,zai,h5,IsDs.same sF _ _ h6⟩
    ·exact zqn hb) is r2.rs)
   exact zgL (zgf zai h5) r3 (n1.mono (fun _ q=>q.mono (e1.ff.trans sF)) fun _ _ q=>q)
  ·exact n1.elim
 ·rename_i ks ds
  obtain ⟨a,o,xs,rfl,h4,h5,h6⟩:=IsD.dcf_iff.mp i1
  have r1:=r.go e1.ff (r.rs.step e1)
  exact ⟨a,ks.zip xs,rfl,.inr ⟨o,e1.fh _ _ h4,zgL (zgf h4 h5) r1 (n1.mono (fun _ q=>q.mono e1.ff) fun _ _ q=>q)⟩⟩
 ·exact n1.elim
end
end L2.DL
namespace L2.DL
open PySem PySem.Spec PyProof.Rows
@[simp] theorem zcC (hp:HP)(sd:SD):up2 hp (.next sd)=.next sd hp:=rfl
@[simp] theorem zg4 (g:FS)(sd:SD)(hp:HP):s2L g sd hp=(g sd).bind fun o=>.ok (up2 hp o):=rfl
noncomputable def seq2 (g:FS2):Out2→Res Out2
 | .next sd hp=>g sd hp
 | o=>.ok o
@[simp] theorem zaW (g:FS2)(sd:SD)(hp:HP):seq2 g (.next sd hp)=g sd hp:=rfl
@[simp] theorem zbr (g1 g2:FS2)(sd:SD)(hp:HP):zbh g1 g2 sd hp=(g1 sd hp).bind (seq2 g2):=by
 unfold zbh
 cases g1 sd hp with
 | ok o=>cases o<;>rfl
 | ex c fs=>rfl
 | no=>rfl
@[simp] theorem zjZ (sd:SD)(hp:HP):zb3 sd hp=.ok (.next sd hp):=rfl
@[simp] theorem zcX (c:FT2)(g1 g2:FS2)(sd:SD)(hp:HP):s2If c g1 g2 sd hp=(c sd hp).bind fun b=>if b then g1 sd hp else g2 sd hp:=rfl
@[simp] theorem zmW (f:FT)(sd:SD)(hp:HP):t2L f sd hp=f sd:=rfl
@[simp] theorem zhz (is:List Nat)(f:FT)(sd:SD)(hp:HP):t2R is f sd hp=(f (derI hp is sd)).bare:=rfl
@[simp] theorem zpS (is:List Nat)(g:FS)(sd:SD)(hp:HP):s2F is g sd hp=(g (derI hp is sd)).bind fun o=>.ok (up2 [] o):=rfl
@[simp] theorem zcL (it:FA)(tg:Tg)(b:FS2)(sd:SD)(hp:HP):zcf it tg b sd hp=(it sd).bind fun ds=>for2 (zb5 tg b) ds sd hp:=rfl
noncomputable def zqr:D→Res Addr
 | .adr a=>.ok a
 | _=>.no
@[simp] theorem zjA (a:Addr):zqr (.adr a)=.ok a:=rfl
noncomputable def zon:Option D→Res (List Key×List D)
 | some (.dct ks ds)=>.ok (ks,ds)
 | _=>.no
theorem zl6 (fo fk fv:FE)(sd:SD)(hp:HP):zdk fo fk fv sd hp=(fv sd).bind fun v=>(fo sd).bind fun o=>(zqr o).bind fun a=>(zon (hpAt hp a)).bind fun o=>(fk sd).bind fun k=>(Res.ofO (zdo k)).bind fun q =>
 if o.1.length<sizeLine then .ok (.next sd (zaM hp a (.dct (zhh o.1 q) (zir o.1 o.2 q v)))) else .no:=by
 unfold zdk
 congr 1
 funext v
 congr 1
 funext o
 cases o with
 | adr a =>
  show (match hpAt hp a with|some (.dct ks ds)=>_|_=>_)=(zon (hpAt hp a)).bind _
  cases hpAt hp a with
  | none=>rfl
  | some d =>
   cases d with
   | dct ks ds =>
    show (fk sd).bind _=(fk sd).bind _
    congr 1
    funext k
    show (match zdo k with|some q=>_|none=>_)=_
    cases zdo k<;>rfl
   | _=>rfl
 | _=>rfl
@[simp] theorem zhw (hp:HP)(sd:SD):derI hp [] sd=sd:=rfl
def der1 (hp:HP)(i:Nat)(sd:SD):Option (Option SV)→SD
 | some (some (.val d))=>sd.set i (some (.val (der hp d)))
 | _=>sd
@[simp] theorem zeS (hp:HP)(i:Nat)(sd:SD)(d:D):der1 hp i sd (some (some (.val d)))=sd.set i (some (.val (der hp d))):=rfl
@[simp] theorem zdz (hp:HP)(i:Nat)(is:List Nat)(sd:SD):derI hp (i::is) sd=derI hp is (der1 hp i sd sd[i]?):=by
 show derI hp is _=derI hp is _
 congr 1
@[simp] theorem zlT (b:D→FS2)(sd:SD)(hp:HP):for2 b [] sd hp=.ok (.next sd hp):=rfl
def zqt (b:D→FS2)(xs:List D):Out2→Res Out2
 | .next sd hp=>for2 b xs sd hp
 | .cont sd hp=>for2 b xs sd hp
 | .brk sd hp=>.ok (.next sd hp)
 | .ret d=>.ok (.ret d)
@[simp] theorem zcb (b:D→FS2)(xs:List D)(sd:SD)(hp:HP):zqt b xs (.next sd hp)=for2 b xs sd hp:=rfl
theorem zc3 (b:D→FS2)(x:D)(xs:List D)(sd:SD)(hp:HP):for2 b (x::xs) sd hp=(b x sd hp).bind (zqt b xs):=by
 show (b x sd hp).bind _=_
 cases b x sd hp with
 | ok o=>cases o<;>rfl
 | ex c fs=>rfl
 | no=>rfl
@[simp] theorem zbl (tg:Tg)(b:FS2)(x:D)(sd:SD)(hp:HP):zb5 tg b x sd hp=(zaQ tg x sd).bind fun s=>b s hp:=rfl
theorem zdp {b:D→FS2}:∀ {ds:List D} {sd:SD} {hp:HP} (P:Nat→SD→HP→Prop),P 0 sd hp→(∀ (i:Nat) (x:D) (sd:SD) (hp:HP),ds[i]? = some x→P i sd hp→∃ sd' hp',b x sd hp=.ok (.next sd' hp')∧P (i+1) sd' hp') →
 ∃ sd' hp',for2 b ds sd hp=.ok (.next sd' hp')∧P ds.length sd' hp'
 | [],sd,hp,P,h0,_=>⟨sd,hp,rfl,h0⟩
 | x::xs,sd,hp,P,h0,hs=>by
  obtain ⟨sd1,hp1,e1,p1⟩:=hs 0 x sd hp rfl h0
  obtain ⟨sd2,hp2,e2,p2⟩:=zdp (ds:=xs) (fun i=>P (i+1)) p1 fun i y sd hp hy p=>hs (i+1) y sd hp hy p
  refine ⟨sd2,hp2,?_,p2⟩
  rw [zc3,e1,Res.bind_ok,zcb,e2]
@[simp] theorem gIx_dcf (ks:List Key)(ds:List D)(k:Int):gIx (.dcf ks ds) (.int k)=valD ks ds (.inl k):=rfl
noncomputable def dcfR (r:List (Int×Int)):D:=.dcf (r.map fun p=>.inl p.1) (r.map fun p=>.int p.2)
theorem zeM {r:List (Int×Int)}{d:D}(hd:d=dcR r∨d=dcfR r)(hl:r.length<64):zcN [d]=some (.lst ((zaU ltI (r.map (·.1))).map .int)):=by
 have e:(r.map fun p=>(.inl p.1:Key))=(r.map (·.1)).map Sum.inl:=by rw [List.map_map];rfl
 have h2:(r.map (·.1)).length<64:=by rw [List.length_map];exact hl
 rcases hd with rfl|rfl
 ·show zgS (r.map fun p=>(.inl p.1:Key))=_
  rw [e,ze3 h2]
 ·show zgS (r.map fun p=>(.inl p.1:Key))=_
  rw [e,ze3 h2]
theorem zgB (r:List (Int×Int)):zeV (r.map fun p=>(.inl p.1:Key))=(r.map (·.1)).map .int:=by
 unfold zeV
 rw [List.map_map,List.map_map]
 rfl
end L2.DL
namespace L2.DL
open PySem PySem.Spec PyProof.Rows
theorem zfg {fo fk fv:FE}{sd:SD}{hp:HP}{a:Addr}{r:List (Int×Int)}{t w:Int}(h1:fv sd=.ok (.int w))(h2:fo sd=.ok (.adr a))(h3:hpAt hp a=some (dcR r))(h4:fk sd=.ok (.int t))(hl:r.length≤1000) :
 zdk fo fk fv sd hp=.ok (.next sd (zaM hp a (dcR (putR r t w)))):=by
 rw [zl6,h1,Res.bind_ok,h2,Res.bind_ok,zjA,Res.bind_ok,h3,show zon (some (dcR r))=.ok ((r.map fun p=>.inl p.1),(r.map fun p=>.int p.2)) from rfl,Res.bind_ok,h4,Res.bind_ok,show zdo (.int t)=some (.inl t) from rfl,Res.ofO_some,Res.bind_ok]
 rw [if_pos (by show (r.map fun p=>(.inl p.1:Key)).length<sizeLine;rw [List.length_map];exact za4 hl),znB]
theorem ziW {is:List Nat}{fo:FE}{tg:Tg}{b:FS2}{sd:SD}{hp:HP}{a:Addr}{r:List (Int×Int)}(h2:fo sd=.ok (.adr a))(h3:hpAt hp a=some (dcR r)) :
 zdf is fo tg b sd hp=for2 (zb5 tg b) ((r.map (·.1)).map .int) (derI [(a,dcfR r)] is sd) (zel hp a):=by
 unfold zdf
 rw [h2,Res.bind_ok]
 show (match hpAt hp a with|some (.dct ks ds)=>_|_=>_)=_
 rw [h3]
 show for2 _ (zeV (r.map fun p=>(.inl p.1:Key))) _ _=_
 rw [zgB]
 rfl
theorem zik {is:List Nat}{fo:FE}{tg:Tg}{b:FS2}{sd:SD}{hp:HP}{r:List (Int×Int)}(h2:fo sd=.ok (dcfR r)):zdf is fo tg b sd hp=for2 (zb5 tg b) ((r.map (·.1)).map .int) sd hp:=by
 unfold zdf
 rw [h2,Res.bind_ok]
 show for2 _ (zeV (r.map fun p=>(.inl p.1:Key))) _ _=_
 rw [zgB]
end L2.DL
namespace L2.DL
open PySem PySem.Spec PyProof.Rows
theorem zcR:∀ {hp:HP} {a:Addr} {d:D},hpAt hp a=some d→zaM hp a d=hp
 | [],a,d,h=>by cases h
 | p::r,a,d,h=>by
  rw [zan] at h
  unfold zaM
  by_cases z:a=p.1
  ·rw [if_pos z] at h ⊢
   cases h
   rfl
  ·rw [if_neg z] at h ⊢
   rw [zcR h]
theorem ze1 {hp:HP}{a:Addr}{d:D}(h:hpAt hp a=some d):der hp (.adr a)=d:=by rw [zgR,h]
theorem zmL {hp:HP}{a:Addr}(h:hpAt hp a=none):der hp (.adr a)=.adr a:=by rw [zgR,h]
theorem zhY (hp:HP)(r:List (Int×Int)):der hp (dcfR r)=dcfR r:=by unfold dcfR;rw [der]
theorem zl2 (r:List (Int×Int)):gLen [dcR r]=some (.int r.length):=by
 show some (D.int ((r.map fun p=>(.inl p.1:Key)).length:Nat))=_
 rw [List.length_map]
theorem zkv {r:List (Int×Int)}(o:Once r)(neg:Bool)(t:Int):gIn neg (.int t) (dcR r)=some (.bl (if neg then !(zam r t).isSome else (zam r t).isSome)):=by
 unfold dcR
 rw [zn1,zbt o t]
 cases zam r t<;>rfl
end L2.DL
namespace L2.DL
open PySem PySem.Spec PyProof.Rows
abbrev NewD:=(List Addr→D)×List D
def OkH (K:PySem.W.Frag)(F H:Hp)(Q:VK)(x:NewD):Prop:=∀ as F' H' v,Ext F H F' H'→as.Nodup→(∀ a∈as,H a=none∧F' a=none)→zaG K F' H' as x.2→IsD K F' (x.1 as) v→Q v H'
abbrev FH:=SD→Res NewD
def tDH (K:PySem.W.Frag)(E:XK)(f:FH):TE:=fun σ H Q => ∃ B F sd,RS K B F H sd σ ∧ (f sd).need (OkH K F H Q) (XW K E F H)
abbrev QH (X:Cx)(E:XK)(e:Expr)(f:FH):Prop:=PE X e (tDH X.K E f)
theorem OkH.ext {K:PySem.W.Frag}{F H F' H':Hp}{Q:VK}{x:NewD}(h:OkH K F H Q x)(e:Ext F H F' H'):OkH K F' H' Q x:=fun as F2 H2 v e2 nd fr ow i=>h as F2 H2 v (e.trans e2) nd (fun a ha=>⟨zak e.hh (fr a ha).1,(fr a ha).2⟩) ow i
theorem zaG.snoc {K:PySem.W.Frag}{F H:Hp}{a:Addr}{d:D}:∀ {as:List Addr} {ds:List D},zaG K F H as ds→zbI K F H a d→zaG K F H (as++[a]) (ds++[d])
 | [],ds,h,o=>by rw [show ds=[] from h];exact ⟨d,[],rfl,o,rfl⟩
 | b::as,ds,⟨e,r,h1,h2,h3⟩,o=>by subst h1;exact ⟨e,r++[d],rfl,h2,zaG.snoc h3 o⟩
theorem zaG.app {K:PySem.W.Frag}{F H:Hp}{bs:List Addr}{es:List D}:∀ {as:List Addr} {ds:List D},zaG K F H as ds→zaG K F H bs es→zaG K F H (as++bs) (ds++es)
 | [],ds,h,o=>by rw [show ds=[] from h];exact o
 | b::as,ds,⟨e,r,h1,h2,h3⟩,o=>by subst h1;exact ⟨e,r++es,rfl,h2,zaG.app h3 o⟩
theorem zaG.has {K:PySem.W.Frag}{F H:Hp}:∀ {as:List Addr} {ds:List D},zaG K F H as ds→∀ a∈as,H a≠none
 | [],ds,h,a,ha=>by cases ha
 | b::as,ds,⟨e,r,h1,h2,h3⟩,a,ha=>by
  rcases List.mem_cons.mp ha with z|z
  ·obtain ⟨o,ho⟩:=h2.has
   rw [z,ho]
   simp
  ·exact h3.has a z
def zed (cap:List (Option Nat))(it:FA)(tg:Tg)(f:FE):FH:=fun sd=>(it sd).bind fun ds=>if zcy (capD cap sd) tg=true∧ds.length<sizeLine then
 (mapE tg f (capD cap sd) ds).bind fun ys=>.ok (fun as=>.lst (as.map .adr),ys) else .no
section
variable {X:Cx}{E:XK}{m:Option Bool}{pos pos':Pos}
theorem zmu {K:PySem.W.Frag}{t:Tg}{fi:FA}{f:FE}{cap:List (Option Nat)}{σ : St}{H:Hp}{Q:VK}(hh:tDH K E (zed cap fi t f) σ H Q):zkA cap (tDI K E fi) (gT t K) (tDN K E f) σ H Q:=by
 obtain ⟨B,F,sd,r,n⟩:=hh
 refine ⟨B,F,sd,r,(Res.need_bind n).mono (fun ds n1 J F1 H1 e1 wk => ?_) fun _ _ q=>q⟩
 split at n1
 ·rename_i hh
  obtain ⟨hn,hz⟩:=hh
  refine ⟨fun i k ys σ H2=>k=ds.length-i∧i≤ds.length∧∃ F2 es as,Ext F1 H1 F2 H2∧RS K B F2 H2 (capD cap sd) σ ∧ ys=as.map V.ref∧as.Nodup∧(∀ a∈as,H1 a=none∧F2 a=none)∧zaG K F2 H2 as es∧es.length=i ∧
   (mapD (fun x=>(zaQ t x (capD cap sd)).bind f) (ds.drop i)).need (fun rs=>OkH K F1 H1 Q (fun as=>.lst (as.map .adr),es++rs)) (XW K E F1 H1),⟨ds.length,rfl,Nat.zero_le _,F1,[],[],.refl e1.fh,(r.step e1).cap cap,rfl,List.nodup_nil,(fun a ha=>by cases ha),rfl,rfl,?_⟩,?_⟩
  ·exact (Res.need_bind n1).mono (fun rs q=>(show OkH K F H Q (fun as=>.lst (as.map .adr),rs) from q).ext e1) fun _ _ q=>q.ext e1
  rintro i k ys σ2 H2 ⟨rfl,hi,F2,es,as,e2,r2,rfl,nd,fr,ow,hl,n2⟩
  have ly:=ow.len
  refine ⟨by rw [List.length_map];omega,?_⟩
  obtain ⟨w1,w2⟩:=wk i F2 H2 e2.ff e2.fh
  by_cases hlt:i<ds.length
  ·obtain ⟨go,yl⟩:=w1 hlt
   refine .inr ⟨go,fun x H3 y => ?_⟩
   obtain ⟨d,F3,hd,e3,i3⟩:=yl x H3 y
   have n3:=zgk hd n2
   have r3:=r2.step e3
   refine zji (K:=K) r3 i3 (Res.need_bind n3) fun sd' σ' n4 hb r4 => ?_
   obtain ⟨b1,b2⟩:=zcT hn hb
   refine ⟨B,F3,sd',r4,n4.mono (fun y n5 l F4 H4 e4 h1 h2 h3 => ?_) fun _ _ q=>q.ext (e2.trans e3)⟩
   have hla:l∉as:=fun z=>by
    have:=ow.has l z
    exact this (zak e3.hh h1)
   refine ⟨ds.length-(i+1),by omega,rfl,hlt,F4,es++[y],as++[l],(e2.trans e3).trans e4,(r4.step e4).forget b1 b2,by rw [List.map_append];rfl,?_,fun a ha => ?_,(ow.ext (e3.ff.trans e4.ff) fun a o _ q=>e4.hh _ _ (e3.hh _ _ q)).snoc h3,by rw [List.length_append,hl];rfl,?_⟩
   ·exact List.nodup_append.mpr ⟨nd,List.nodup_cons.mpr ⟨by simp,List.nodup_nil⟩,fun a ha b hb=>by rw [List.mem_singleton.mp hb];exact fun z=>hla (by rw [← z];exact ha)⟩
   ·rcases List.mem_append.mp ha with z|z
    ·have q:=ow.has a z
     exact ⟨(fr a z).1,(e3.trans e4).new a (fr a z).2 q⟩
    ·rw [List.mem_singleton.mp z]
     exact ⟨zak e2.hh (zak e3.hh h1),h2⟩
   ·refine n5.mono (fun rs q => ?_) fun _ _ q=>q
    rw [List.append_assoc]
    exact q
  ·have he:i=ds.length:=by omega
   subst he
   refine .inl ⟨w2 (Nat.le_refl _),fun D hD => ?_⟩
   rw [List.drop_length] at n2
   have q:OkH K F1 H1 Q (fun as=>.lst (as.map .adr),es++[]):=n2
   rw [List.append_nil] at q
   have ea:=Ext.alloc r2.ext.fh hD (.lst (as.map V.ref))
   refine q as (upd F2 D _) _ _ (e2.trans ea) nd (fun a ha=>⟨(fr a ha).1,ea.new a (fr a ha).2 (ow.has a ha)⟩) (ow.ext ea.ff fun a o _ q=>ea.hh _ _ q) ?_
   exact IsD.lst_iff.mpr ⟨D,_,rfl,.of zai,zmS as⟩
 ·exact n1.elim
theorem zky {tg iter elt:Expr}{scope:Scope}{t:Tg}{fi:FA}{f:FE}(N:List Str)(cap:List (Option Nat))(hc:X.calm=true)(okB:zbd scope X.env N X.N cap=true)(hi:QI X E tg iter fi)
 (hg:∀ cl C s H ex,QG (zap X scope N cl C s H ex) tg t) (he:∀ cl C s H ex,QN (zap X scope N cl C s H ex) E elt f) (hs:autoParam (∀ x,foldedSetIterable iter X.env x=pure x) zaw._auto_1) :
 QH X E (.ListComp elt [⟨tg,iter,[],0⟩] scope pos) (zed cap fi t f):=PE.weak (zjr (g:=gT t X.K) (te:=tDN X.K E f) N cap hc okB hi hg he hs) fun _ _ _ h=>zmu h
noncomputable def mkL:List NewD→List Addr→List D
 | [],_ => []
 | x::xs,as=>x.1 (as.take x.2.length)::mkL xs (as.drop x.2.length)
noncomputable def osL:List NewD→List D
 | [] => []
 | x::xs=>x.2++osL xs
abbrev FHs:=SD→Res (List NewD)
def OkHs (K:PySem.W.Frag)(F H:Hp)(Q:List V→Hp→Prop)(xs:List NewD):Prop:=∀ as F' H' vs,Ext F H F' H'→as.Nodup→(∀ a∈as,H a=none∧F' a=none)→zaG K F' H' as (osL xs)→IsDs K F' (mkL xs as) vs→Q vs H'
def tDHs (K:PySem.W.Frag)(E:XK)(f:FHs):TA:=fun σ H Q => ∃ B F sd,RS K B F H sd σ ∧ (f sd).need (OkHs K F H Q) (XW K E F H)
abbrev QHs (X:Cx)(E:XK)(es:List Expr)(f:FHs):Prop:=PA X es (tDHs X.K E f)
noncomputable def hNil:FHs:=fun _=>.ok []
def ziC (f:FH)(fr:FHs):FHs:=fun sd=>(f sd).bind fun x=>(fr sd).bind fun xs=>.ok (x::xs)
theorem zo4:QHs X E [] hNil:=PA.weak zjC fun σ H Q ⟨B,F,sd,r,n⟩=>(show OkHs X.K F H Q [] from n) [] F H [] (.refl r.ext.fh) List.nodup_nil (fun a ha=>by cases ha) rfl .nil
theorem zhK {e:Expr}{es:List Expr}{fe:FH}{fr:FHs}(ha:QH X E e fe)(hr:QHs X E es fr)(hs:autoParam (starEach (e::es) X.env=(false,eval e X.env)::starEach es X.env) zau._auto_1):QHs X E (e::es) (ziC fe fr) :=
 PA.weak (zgY ha hr hs) fun σ H Q zh=>by
  obtain ⟨B,F,sd,r,n⟩:=zh
  refine ⟨B,F,sd,r,(Res.need_bind n).mono (fun x n1 as F1 H1 v e1 nd1 fr1 ow1 i1 => ?_) fun _ _ q=>q⟩
  refine ⟨B,F1,sd,r.step e1,(Res.need_bind n1).mono (fun xs n2 bs F2 H2 vs e2 nd2 fr2 ow2 i2 => ?_) fun _ _ q=>q.ext e1⟩
  have l1:=ow1.len
  refine (show OkHs X.K F H Q (x::xs) from n2) (as++bs) F2 H2 (v::vs) (e1.trans e2) ?_ (fun a ha => ?_) ((ow1.ext e2.ff fun a o _ q=>e2.hh _ _ q).app ow2) ?_
  ·exact List.nodup_append.mpr ⟨nd1,nd2,fun a ha b hb z=>by
    have h1:=(fr2 b hb).1
    rw [← z] at h1
    exact ow1.has a ha h1⟩
  ·rcases List.mem_append.mp ha with z|z
   ·exact ⟨(fr1 a z).1,e2.new a (fr1 a z).2 (ow1.has a z)⟩
   ·exact ⟨zak e1.hh (fr2 a z).1,(fr2 a z).2⟩
  ·unfold mkL
   rw [← l1,List.take_left,List.drop_left]
   exact .mk (IsD.same e2.ff _ _ i1) i2
def hLst (fr:FHs):FH:=fun sd=>(fr sd).bind fun xs=>if xs.length≤1000 then .ok (fun as=>.lst (mkL xs as),osL xs) else .no
theorem zjt:∀ (xs:List NewD) (as:List Addr),(mkL xs as).length=xs.length
 | [],_=>rfl
 | x::xs,as=>by unfold mkL;rw [List.length_cons,List.length_cons,zjt xs]
theorem zpq {es:List Expr}{fr:FHs}(h:QHs X E es fr):QH X E (.List es pos) (hLst fr):=PE.weak (zmO h) fun σ H Q zh=>by
 obtain ⟨B,F,sd,r,n⟩:=zh
 refine ⟨B,F,sd,r,(Res.need_bind n).mono (fun xs n1 as F1 H1 vs e1 nd fr ow i1 => ?_) fun _ _ q=>q⟩
 split at n1
 ·rename_i hl
  have hz:=i1.length
  rw [zjt] at hz
  refine ⟨zgt (by omega),fun p hp => ?_⟩
  have ea:=Ext.alloc e1.fh hp (.lst vs)
  exact (show OkH X.K F H Q (fun as=>.lst (mkL xs as),osL xs) from n1) as _ _ _ (e1.trans ea) nd (fun a ha=>⟨(fr a ha).1,ea.new a (fr a ha).2 (ow.has a ha)⟩) (ow.ext ea.ff fun a o _ q=>ea.hh _ _ q) (IsD.lst_iff.mpr ⟨p,vs,rfl,.of zai,IsDs.same ea.ff _ _ i1⟩)
 ·exact n1.elim
def SpH (K:PySem.W.Frag)(Fn:List D→Res NewD):Sp:=fun vs H Q _ => ∃ F ds,Same F H∧IsDs K F ds vs∧(Fn ds).need (OkH K F H Q) (XW K E0 F H)
def znf (Fn:List D→Res NewD)(fr:FA):FH:=fun sd=>(fr sd).bind Fn
theorem qh_fn {name:Str}{k:Nat}{ps:List Str}{Fn:List D→Res NewD}{p:Pos}{e:Expr}{es:List Expr}{fr:FA}(c:za6 X.prog X.w X.K X.mg X.base name k ps (SpH X.K Fn))(hr:Room k X.A)(hg:Gl X name)(ha:QA X E0 (e::es) fr)
 (hdb:autoParam ((name == ("__debug__" : Str))=false) zav._auto_1) (he:starEach (e::es) X.env=(false,eval e X.env)::starEach es X.env:=by rfl) (hpl:(backTo pos (starEach es X.env)).any (·.1)=false:=by rfl) :
 QH X E0 (.Call (.Name name p) (e::es) [] pos) (znf Fn fr):=PE.weak (zlH c hr hg ha hdb he hpl) fun σ H Q zh=>by
 obtain ⟨B,F,sd,r,n⟩:=zh
 refine ⟨B,F,sd,r,(Res.need_bind n).mono (fun xs n1 vs F1 H1 e1 i1 => ?_) fun _ _ q=>q⟩
 show SpH X.K Fn (vs++[]) H1 Q E0
 rw [List.append_nil]
 exact ⟨F1,xs,e1.fh,i1,n1.mono (fun _ q=>q.ext e1) fun _ _ q=>q.ext e1⟩
def znr (i:Nat)(f:FH)(g:FS2):FS:=fun sd=>(f sd).bind fun x=>allA x.2.length (fun as=>(g (sd.set i (some (.val (x.1 as)))) (as.zip x.2)).bind ret2)
theorem zpp {i:Nat}{x:Str}{p1:Pos}{e:Expr}{f:FH}{sts:List Stmt}{g:FS2}(hN:X.N.Nodup)(hi:X.N[i]? = some x)(hx:Loc X.env.scope x)(he:QH X E e f)(hb:Q2Ss X E m sts g)
 (hs:autoParam (swapsWith e (some (.Name x pos')) p1.line X.env=pure false) zau._auto_1) (hf:X.fn x=true∨X.env.scope.names.lookup x=some .local:=by first|exact .inl rfl|exact .inr rfl) :
 QSs X E m (.Assign [.Name x pos'] e p1::sts) (znr i f g):=PSs.weak (zbY (zf1 hN hi hx he hs hf) hb) fun T σ H zh=>by
 obtain ⟨B,F,sd,r,n⟩:=zh
 refine ⟨B,F,sd,r,(Res.need_bind n).mono (fun y n1 as F1 H1 v e1 nd fr ow iv => ?_) fun _ _ q=>q.ext r.ext⟩
 have n2:=Res.need_bind (zkF n1 as ow.len nd)
 have r1:=zm5 r e1 fr ow
 have r2:=r1.go (.refl _) (r1.rs.setVal (i:=i) iv)
 refine ⟨B,_,_,_,_,r2,n2.mono (fun o n3 => ?_) fun _ _ q=>q⟩
 cases o with
 | ret d=>exact n3
 | _=>exact n3.elim
def zjp (K:PySem.W.Frag)(B:Bs)(F:Hp)(Q:VK)(j:Nat):Out2→Prop
 | .next sd hp => ∃ d,sd[j]? = some (some (.val d))∧∀ B' F' H' σ v,Same F F'→RT K B B' F' H' sd hp σ → IsD K F' d v→Q v H'
 | _=>False
theorem zjp.mono {K:PySem.W.Frag}{B:Bs}{F F':Hp}{Q:VK}{j:Nat}{o:Out2}(h:zjp K B F Q j o)(s:Same F F'):zjp K B F' Q j o:=by
 cases o with
 | next sd hp =>
  obtain ⟨d,h1,h2⟩:=h
  exact ⟨d,h1,fun B' F2 H' σ v s2 t i=>h2 B' F2 H' σ v (s.trans s2) t i⟩
 | _=>exact h
def tDS2H (K:PySem.W.Frag)(E:XK)(j:Nat)(g:FS2):TS:=fun T σ H => ∃ B B' F sd hp,RT K B B' F H sd hp σ ∧ (g sd hp).need (zjp K B F T.rt j) (XW K E B.F0 B.H0)
abbrev Q2H (X:Cx)(E:XK)(j:Nat)(st:List Stmt)(g:FS2):Prop:=PSs X st (tDS2H X.K E j g)
theorem zol {j:Nat}{e:Expr}(he:PE X e (tVar j)):Q2H X E j [.Return (some e) pos] zb3:=PSs.weak (zgO (zeE he)) fun T σ H zh=>by
 obtain ⟨B,B',F,sd,hp,t,n⟩:=zh
 obtain ⟨d,hj,q⟩:=(show zjp X.K B F T.rt j (.next sd hp) from n)
 obtain ⟨v,hv,iv⟩:=t.rs.val hj
 exact ⟨v,hv,q B' F H σ v (.refl _) t iv⟩
theorem zlX {j:Nat}{st:Stmt}{sts:List Stmt}{g1 g2:FS2}(h1:Q2S X E m st g1)(h2:Q2H X E j sts g2):Q2H X E j (st::sts) (zbh g1 g2):=PSs.weak (zbY h1 h2) fun T σ H zh=>by
 obtain ⟨B,B',F,sd,hp,t,n⟩:=zh
 refine ⟨B,B',F,sd,hp,t,(Res.need_bind n).mono (fun o n1 => ?_) fun _ _ q=>q⟩
 cases o with
 | next sd' hp'=>exact fun σ' B2 F' H' s r'=>⟨B,B2,F',sd',hp',r',n1.mono (fun o q=>q.mono s) fun _ _ q=>q⟩
 | ret d=>exact n1.elim
 | brk sd' hp'=>exact n1.elim
 | cont sd' hp'=>exact n1.elim
open Classical in
noncomputable def allH (n j:Nat)(g:List Addr→Res Out2):Res NewD:=if h:∃ y:NewD,y.2.length=n∧∀ as:List Addr,as.length=n→as.Nodup→∃ sd,g as=.ok (.next sd (as.zip y.2))∧sd[j]? = some (some (.val (y.1 as))) then .ok (Classical.choose h) else .no
theorem zjv {n j:Nat}{g:List Addr→Res Out2}{p:NewD→Prop}{q:Str→List D→Prop}(h:(allH n j g).need p q):∃ y,p y∧y.2.length=n∧∀ as:List Addr,as.length=n→as.Nodup→∃ sd,g as=.ok (.next sd (as.zip y.2))∧sd[j]? = some (some (.val (y.1 as))):=by
 unfold allH at h
 split at h
 ·rename_i hx
  exact ⟨_,h,Classical.choose_spec hx⟩
 ·exact h.elim
theorem znM {n j:Nat}{g:List Addr→Res Out2}{y:NewD}(hl:y.2.length=n)(h:∀ as:List Addr,as.length=n→as.Nodup→∃ sd,g as=.ok (.next sd (as.zip y.2))∧sd[j]? = some (some (.val (y.1 as)))) :
 ∃ z:NewD,allH n j g=.ok z∧z.2=y.2∧∀ as:List Addr,as.length=n→as.Nodup→z.1 as=y.1 as:=by
 have hx:∃ y:NewD,y.2.length=n∧∀ as:List Addr,as.length=n→as.Nodup→∃ sd,g as=.ok (.next sd (as.zip y.2))∧sd[j]? = some (some (.val (y.1 as))):=⟨y,hl,h⟩
 obtain ⟨l1,s1⟩:=Classical.choose_spec hx
 refine ⟨Classical.choose hx,by unfold allH;rw [dif_pos hx],?_,fun as ha hn => ?_⟩
 ·obtain ⟨sd,e1,e2⟩:=s1 (List.range n) List.length_range List.nodup_range
  obtain ⟨sd',f1,f2⟩:=h (List.range n) List.length_range List.nodup_range
  rw [e1] at f1
  have:=Out2.next.inj (Res.ok.inj f1)
  have hz:=congrArg (List.map (·.2)) this.2
  rw [List.map_snd_zip (by rw [List.length_range];omega),List.map_snd_zip (by rw [List.length_range];omega)] at hz
  exact hz
 ·obtain ⟨sd,e1,e2⟩:=s1 as ha hn
  obtain ⟨sd',f1,f2⟩:=h as ha hn
  rw [e1] at f1
  have:=Out2.next.inj (Res.ok.inj f1)
  rw [this.1,f2] at e2
  exact (SV.val.inj (Option.some.inj (Option.some.inj e2))).symm
def tDSH (K:PySem.W.Frag)(E:XK)(g:FH):TS:=fun T σ H => ∃ B F sd,RS K B F H sd σ ∧ (g sd).need (OkH K B.F0 B.H0 T.rt) (XW K E B.F0 B.H0)
abbrev QSH (X:Cx)(E:XK)(st:List Stmt)(g:FH):Prop:=PSs X st (tDSH X.K E g)
noncomputable def zoA (g:FH):Out→Res NewD
 | .next sd=>g sd
 | _=>.no
def zoE (g1:FS)(g:FH):FH:=fun sd=>(g1 sd).bind (zoA g)
theorem zmb {st:Stmt}{sts:List Stmt}{g1:FS}{g:FH}(h1:QS X E m st g1)(h2:QSH X E sts g):QSH X E (st::sts) (zoE g1 g):=PSs.weak (zbY h1 h2) fun T σ H zh=>by
 obtain ⟨B,F,sd,r,n⟩:=zh
 refine ⟨B,F,sd,r,(Res.need_bind n).mono (fun o n1 => ?_) fun _ _ q=>q⟩
 cases o with
 | next sd'=>exact fun σ' F' H' s r'=>⟨B,F',sd',r',n1⟩
 | ret d=>exact n1.elim
 | brk sd'=>exact n1.elim
 | cont sd'=>exact n1.elim
theorem zcH:∀ {as:List Addr} {ds:List D} {a:Addr},as.length=ds.length→a∈as→∃ d,hpAt (as.zip ds) a=some d
 | [],ds,a,_,h=>by cases h
 | b::as,[],a,h,_=>by cases h
 | b::as,d::ds,a,h,m=>by
  rw [List.zip_cons_cons,zan]
  by_cases z:a=b
  ·exact ⟨d,if_pos z⟩
  ·rw [if_neg z]
   rcases List.mem_cons.mp m with y|y
   ·exact absurd y z
   ·exact zcH (by simpa using h) y
theorem zfF {K:PySem.W.Frag}{F H:Hp}:∀ {as:List Addr} {ds:List D},as.length=ds.length→as.Nodup→(∀ a d,hpAt (as.zip ds) a=some d→zbI K F H a d)→zaG K F H as ds
 | [],ds,hl,_,_=>by
  cases ds with
  | nil=>rfl
  | cons _ _=>cases hl
 | b::as,[],hl,_,_=>by cases hl
 | b::as,d::ds,hl,nd,h=>by
  obtain ⟨n1,n2⟩:=List.nodup_cons.mp nd
  refine ⟨d,ds,rfl,h b d (by rw [List.zip_cons_cons,zan];exact if_pos rfl),zfF (by simpa using hl) n2 fun a e he=>h a e ?_⟩
  rw [List.zip_cons_cons,zan]
  by_cases z:a=b
  ·subst z
   exact absurd he (by
    intro he
    have:∀ {as:List Addr} {ds:List D},a∉as→hpAt (as.zip ds) a=none:=by
     intro as
     induction as with
     | nil=>intro ds _;rfl
     | cons c as ih =>
      intro ds hm
      cases ds with
      | nil=>rfl
      | cons f ds =>
       rw [List.zip_cons_cons,zan,if_neg fun y=>hm (by rw [show a=c from y];exact List.mem_cons_self)]
       exact ih fun y=>hm (List.mem_cons_of_mem _ y)
    rw [this n1] at he
    exact zqn he)
  ·exact (if_neg z).trans he
def zjN (i:Nat)(f:FH)(j:Nat)(g:FS2):FH:=fun sd=>(f sd).bind fun x=>allH x.2.length j (fun as=>g (sd.set i (some (.val (x.1 as)))) (as.zip x.2))
theorem znA {i j:Nat}{x:Str}{p1:Pos}{e:Expr}{f:FH}{sts:List Stmt}{g:FS2}(hN:X.N.Nodup)(hi:X.N[i]? = some x)(hx:Loc X.env.scope x)(he:QH X E e f)(hb:Q2H X E j sts g)
 (hs:autoParam (swapsWith e (some (.Name x pos')) p1.line X.env=pure false) zau._auto_1) (hf:X.fn x=true∨X.env.scope.names.lookup x=some .local:=by first|exact .inl rfl|exact .inr rfl) :
 QSH X E (.Assign [.Name x pos'] e p1::sts) (zjN i f j g):=PSs.weak (zbY (zf1 hN hi hx he hs hf) hb) fun T σ H zh=>by
 obtain ⟨B,F,sd,r,n⟩:=zh
 refine ⟨B,F,sd,r,(Res.need_bind n).mono (fun y n1 as F1 H1 v e1 nd fr ow iv => ?_) fun _ _ q=>q.ext r.ext⟩
 obtain ⟨z,hz,lz,key⟩:=zjv n1
 obtain ⟨sd',e2,hj⟩:=key as ow.len nd
 have lw:=ow.len
 have r1:=zm5 r e1 fr ow
 have r2:=r1.go (.refl _) (r1.rs.setVal (i:=i) iv)
 refine ⟨B,_,_,_,_,r2,?_⟩
 rw [e2]
 refine ⟨z.1 as,hj,fun B' F' H' σ' v' s t i=>hz as F' H' v' (t.ext0 t.rs.ext) nd (fun a ha => ?_) (zfF (by omega) nd fun a d h=>t.lies h) i⟩
 obtain ⟨d,hd⟩:=zcH (ds:=z.2) (by omega) ha
 exact ⟨(t.obj a d hd).2.1,t.free hd⟩
end
def runH (n ar:Nat)(g:FH)(ds:List D):Res NewD:=if ds.length=ar then g (zbO n ds) else .no
section
variable {P:Program}{w:World}{K:PySem.W.Frag}{mg:Str→Option Value}{base:Heap}{x qual:Str}{f:Addr}{fd:FuncData}{N ps:List Str}{k:Nat}{st:Stmt}
theorem fn_h {g:FH}(F:Fun K x qual st f fd)(S:FnScope N ps (zae st))
 (hb:∀ (cdv:Value) (A:Around) (outer:List Env) (s:Shared) (H:Hp) (E:XK),Room k (A.deeper (envOfC qual (zae st) s.heap.objs.size f cdv))→QSH (cxOf CX0 P w K mg base N qual (zae st) f cdv A outer s H E).nox E0 (zbz st) g) :
 FnOk P w K mg base CX0 (k+1) f fd ps (SpH K (runH N.length ps.length g)):=by
 refine F.ok S (fun vs H Q E ⟨F,ds,_,h,n⟩ => ?_) fun cdv A outer s H vs Q E hr ⟨F,ds,hs,h,n⟩=>⟨_,hb cdv A outer s H E hr,?_⟩
 ·unfold runH at n
  split at n
  ·rw [h.length];assumption
  ·exact n.elim
 ·unfold runH at n
  split at n
  ·exact ⟨⟨F,H,fun _=>none⟩,F,_,RS.start hs h,n⟩
  ·exact n.elim
end
end L2.DL
namespace L2.DL
open PySem PySem.Spec PyProof.Rows
@[simp] theorem ev_hNil (sd:SD):hNil sd=.ok []:=rfl
@[simp] theorem ev_hCons (f:FH)(fr:FHs)(sd:SD):ziC f fr sd=(f sd).bind fun x=>(fr sd).bind fun xs=>.ok (x::xs):=rfl
@[simp] theorem ev_hLst (fr:FHs)(sd:SD):hLst fr sd=(fr sd).bind fun xs=>if xs.length≤1000 then .ok (fun as=>.lst (mkL xs as),osL xs) else .no:=rfl
@[simp] theorem ev_compN (cap:List (Option Nat))(it:FA)(tg:Tg)(f:FE)(sd:SD):zed cap it tg f sd=(it sd).bind fun ds=>if zcy (capD cap sd) tg=true∧ds.length<sizeLine then (mapE tg f (capD cap sd) ds).bind fun ys=>.ok (fun as=>.lst (as.map .adr),ys) else .no:=rfl
@[simp] theorem ziO (g:FH)(sd:SD):zoA g (.next sd)=g sd:=rfl
@[simp] theorem zn6 (g1:FS)(g:FH)(sd:SD):zoE g1 g sd=(g1 sd).bind (zoA g):=rfl
theorem zpN (n:Nat)(g:FH)(a b:D):runH n 2 g [a,b]=g (some (.val a)::some (.val b)::List.replicate (n-2) none):=by
 unfold runH
 rw [if_pos (show [a,b].length=2 from rfl)]
 rfl
end L2.DL
namespace L2.DL
open PySem PySem.Spec PyProof.Rows
theorem OkD.mix {K:PySem.W.Frag}{F H:Hp}{Q:VK}{d:D}(h:OkD K F H Q d):OkM K F H Q d:=by
 unfold OkM
 by_cases c:zb4 d=true
 ·rw [if_pos c];exact h
 ·rw [if_neg c];exact h.new
theorem QM.qe {X:Cx}{E:XK}{e:Expr}{f:FE}(h:QM X E e f):QE X E e f:=PE.weak h (by rintro σ H Q ⟨B,F,sd,r,n⟩;exact ⟨B,F,sd,r,n.mono (fun _ q=>q.mix) fun _ _ q=>q⟩)
@[simp] theorem ev_retS (f:FE)(sd:SD):zoG f sd=(f sd).bind fun d=>if zb4 d then .ok (.ret d) else .no:=rfl
@[simp] theorem ev_retNM (f:FE)(sd:SD):zk6 f sd=(f sd).bind fun d=>if zb4 d then .no else .ok (.ret d):=rfl
@[simp] theorem ev_ownM (i:Nat)(f:FE)(sd:SD):zno i f sd=(f sd).bind fun d=>.ok (.next (sd.set i (some (if zb4 d then .val d else .own false d)))):=rfl
@[simp] theorem scal_lst (ds:List D):zb4 (.lst ds)=false:=rfl
end L2.DL
set_option maxHeartbeats 4000000
namespace My
open PySem L2 L2.DL
noncomputable def zmY (ns:List Int)(k:Int):Int:=ns.getD k.toNat 0
theorem zm4 (r:List (Int×Int)):plN 12 (rwD r)=true:=by
 show (r.map prD).all (plN 11)=true
 rw [List.all_map,List.all_eq_true]
 exact fun p _=>rfl
theorem zna {r s:List (Int×Int)}(h:rwD r=rwD s):r=s:=by
 have:=congrArg zer h
 rw [zdr,zdr] at this
 exact Option.some.inj this
theorem zl7 (r s:List (Int×Int)):zbe (rwD r) (rwD s)=decide (r=s):=by
 by_cases h:r=s
 ·rw [h,zbm,decide_eq_true rfl]
 ·rw [decide_eq_false h];exact zcE.mpr fun z=>h (zna z)
theorem zbA {α : Type}{l:List α}{k:Nat}(h:k<l.length):atI l (k:Int)=l[k]? := by
 unfold atI ixN
 rw [if_pos (by omega),if_pos (by omega),Int.toNat_natCast]
 rfl
theorem zeC {α : Type}{f : α → D}{l:List α}{i:Nat}{x:D}(h:(l.map f)[i]? = some x):∃ p,l[i]? = some p∧x=f p:=by
 rw [List.getElem?_map] at h
 cases q:l[i]? with
 | none=>rw [q] at h;(first|exact zqn h|exact zqb h|(obtain rfl:=Option.some.inj h)|cases h)
 | some p=>rw [q] at h;exact ⟨p,rfl,(Option.some.inj h).symm⟩
structure RowOk (n:Int)(r:List (Int×Int)):Prop where
 ne:r ≠ []
 once:Once r
 mem:∀ p∈r,0≤p.1∧p.1<n
 len:r.length≤12
def frD (f:List (List (Int×Int))):D:=.lst (f.map rwD)
theorem zo7 {f g:List (List (Int×Int))}(h:frD f=frD g):f=g:=by
 unfold frD at h
 injection h with h
 have:=congrArg (zb8 zer) h
 rw [zcP,zcP] at this
 exact Option.some.inj this
theorem zgz (f g:List (List (Int×Int))):zbe (frD f) (frD g)=decide (f=g):=by
 by_cases h:f=g
 ·rw [h,zbm,decide_eq_true rfl]
 ·rw [decide_eq_false h];exact zcE.mpr fun z=>h (zo7 z)
def lowQ (all:List (List (Int×Int)))(row:List (Int×Int)):Bool:=(all.filter fun one => !decide (one=row)&&za0 one row).isEmpty
def zbU (all least:List (List (Int×Int)))(row:List (Int×Int)):List (List (Int×Int)):=if lowQ all row=true∧row∉least then least++[row] else least
def zcp (all rs:List (List (Int×Int))):List (List (Int×Int)):=rs.foldl (zbU all) []
def zbg (rs:List (List (Int×Int))):List (List (Int×Int)):=zaU rltB (zcp rs rs)
theorem zbJ (all:List (List (Int×Int))):∀ (rs least:List (List (Int×Int))),(rs.foldl (zbU all) least).length≤least.length+rs.length∧(∀ r,r∈rs.foldl (zbU all) least↔r∈least∨(r∈rs∧lowQ all r=true))∧(least.Nodup→(rs.foldl (zbU all) least).Nodup)
 | [],least=>⟨Nat.le_refl _,fun r=>by simp,id⟩
 | row::rs,least=>by
  rw [List.foldl_cons]
  refine zc0c (zbJ all rs (zbU all least row)) fun h1 h2 h3 => ?_
  unfold zbU at h1 h2 h3 ⊢
  by_cases c:lowQ all row=true∧row∉least
  ·rw [if_pos c] at h1 h2 h3 ⊢
   refine ⟨by rw [List.length_append] at h1;simp only [List.length_cons,List.length_nil] at h1 ⊢;omega,fun r => ?_,fun hn=>h3 ?_⟩
   ·rw [h2,List.mem_append,List.mem_singleton,List.mem_cons]
    constructor
    ·rintro ((h|h)|⟨h,hq⟩)
     ·exact .inl h
     ·exact .inr ⟨.inl h,h ▸ c.1⟩
     ·exact .inr ⟨.inr h,hq⟩
    ·rintro (h|⟨h|h,hq⟩)
     ·exact .inl (.inl h)
     ·exact .inl (.inr h)
     ·exact .inr ⟨h,hq⟩
   ·rw [List.nodup_append]
    exact ⟨hn,by simp,fun a ha b hb=>by rw [List.mem_singleton] at hb;subst hb;exact fun z=>c.2 (z ▸ ha)⟩
  ·rw [if_neg c] at h1 h2 h3 ⊢
   refine ⟨by rw [List.length_cons];omega,fun r => ?_,h3⟩
   rw [h2,List.mem_cons]
   constructor
   ·rintro (h|⟨h,hq⟩)
    ·exact .inl h
    ·exact .inr ⟨.inr h,hq⟩
   ·rintro (h|⟨h|h,hq⟩)
    ·exact .inl h
    ·by_cases hm:row∈least
     ·exact .inl (h ▸ hm)
     ·exact absurd ⟨h ▸ hq,hm⟩ c
    ·exact .inr ⟨h,hq⟩
theorem zaE {rs:List (List (Int×Int))}{r:List (Int×Int)}:r∈zbg rs↔r∈rs∧lowQ rs r=true:=by
 unfold zbg zcp
 rw [(zay (ltb:=rltB) _).mem_iff,(zbJ rs rs []).2.1]
 simp
theorem zfC (rs:List (List (Int×Int))):(zbg rs).length≤rs.length:=by
 unfold zbg zcp
 rw [(zay (ltb:=rltB) _).length_eq]
 have:=(zbJ rs rs []).1
 simpa using this
@[simp] theorem gList_fr (f:List (List (Int×Int))):ziD [frD f]=some (frD f):=rfl
@[simp] theorem walkS_fr (f:List (List (Int×Int))):zei (frD f)=some (f.map rwD):=rfl
@[simp] theorem walkS_rw (r:List (Int×Int)):zei (rwD r)=some (r.map prD):=rfl
@[simp] theorem gLen_fr (f:List (List (Int×Int))):gLen [frD f]=some (.int f.length):=by show some (D.int (f.map rwD).length)=_;rw [List.length_map]
@[simp] theorem zo3 (f:List (List (Int×Int))):gIsi [frD f,.ty "list"]=some (.bl true):=rfl
@[simp] theorem zmH (f:List (Int×Int)):gIsi [rwD f,.ty "tuple"]=some (.bl true):=rfl
@[simp] theorem zmE (p:Int×Int):gIsi [prD p,.ty "tuple"]=some (.bl true):=rfl
@[simp] theorem gLen_pr (p:Int×Int):gLen [prD p]=some (.int 2):=rfl
@[simp] theorem gIx_pr0 (p:Int×Int):gIx (prD p) (.int 0)=some (.int p.1):=rfl
@[simp] theorem gIx_pr1 (p:Int×Int):gIx (prD p) (.int 1)=some (.int p.2):=rfl
theorem pl_rw (n:Nat)(r:List (Int×Int)):plN (n+3) (rwD r)=true:=by
 show (r.map prD).all (plN (n+2))=true
 rw [List.all_map,List.all_eq_true]
 exact fun p _=>rfl
theorem zie (n:Nat)(f:List (List (Int×Int))):plN (n+4) (frD f)=true:=by
 show (f.map rwD).all (plN (n+3))=true
 rw [List.all_map,List.all_eq_true]
 exact fun r _=>pl_rw n r
theorem zpl (f g:List (List (Int×Int))):gEq (frD f) (frD g)=some (.bl (decide (f=g))):=by rw [zkn (zie 8 f) (zie 8 g),zgz]
theorem zqu (f g:List (List (Int×Int))):gNe (frD f) (frD g)=some (.bl (!decide (f=g))):=by rw [zkg (zie 8 f) (zie 8 g),zgz]
structure FormOk (n:Int)(f:List (List (Int×Int))):Prop where
 ne:f ≠ []
 rows:∀ r∈f,RowOk n r
 len:f.length≤100
noncomputable def Rise (r:List (Int×Int)):Prop:=(r.map (·.1)).Pairwise (· < ·)
theorem zhD {r:List (Int×Int)}(h:Rise r):r.Pairwise fun x y=>pltB x y=true:=by
 unfold Rise at h
 rw [List.pairwise_map] at h
 refine h.imp fun {a b} z => ?_
 unfold pltB
 simp
 omega
theorem zdP {r o:List (Int×Int)}:za0 r o=true↔∀ p∈r,∃ w,zam o p.1=some w∧p.2≤w:=by
 unfold za0
 rw [List.all_eq_true]
 refine forall_congr' fun p=>forall_congr' fun _ => ?_
 unfold okAt
 cases zam o p.1 with
 | none=>simp
 | some w=>simp
theorem zdK {a b c:List (Int×Int)}(h1:za0 a b=true)(h2:za0 b c=true):za0 a c=true:=by
 rw [zdP] at *
 intro p hp
 refine zc1b (h1 p hp) fun w h3 h4 => ?_
 refine zc1b (h2 _ (zcB h3)) fun v h5 h6 => ?_
 exact ⟨v,h5,Int.le_trans h4 h6⟩
theorem zf9 {a b:List (Int×Int)}(oa:Once a)(h1:za0 a b=true)(h2:za0 b a=true):∀ p∈a,p∈b:=by
 rw [zdP] at *
 intro p hp
 refine zc1b (h1 p hp) fun w h3 h4 => ?_
 have hb:=zcB h3
 refine zc1b (h2 _ hb) fun v h5 h6 => ?_
 have h5:zam a p.1=some v:=h5
 rw [oa.look (t:=p.1) (w:=p.2) hp] at h5
 first|exact zqn h5|exact zqb h5|(obtain rfl:=Option.some.inj h5)|cases h5
 have h6:w≤p.2:=h6
 have:w=p.2:=by omega
 rw [this] at hb
 exact hb
theorem zi1 {a b:List (Int×Int)}(oa:Once a)(ob:Once b)(ra:Rise a)(rb:Rise b)(h1:za0 a b=true)(h2:za0 b a=true):a=b :=
 zcU zdZ (zhD ra) (zhD rb) fun p=>⟨zf9 oa h1 h2 p,zf9 ob h2 h1 p⟩
theorem zjR:∀ {rs:List (List (Int×Int))},rs ≠ []→(∀ r∈rs,Once r∧Rise r)→∃ m∈rs,∀ o∈rs,za0 o m=true→o=m
 | [],h,_=>absurd rfl h
 | x::rs,_,ok=>by
  by_cases q:rs=[]
  ·subst q
   exact ⟨x,List.mem_cons_self,fun o ho _=>List.mem_singleton.mp ho⟩
  ·refine zc1b (zjR q fun r hr=>ok r (List.mem_cons_of_mem _ hr)) fun m hm hl => ?_
   have okm:=ok m (List.mem_cons_of_mem _ hm)
   have okx:=ok x List.mem_cons_self
   by_cases c:za0 x m=true
   ·refine ⟨x,List.mem_cons_self,fun o ho hu => ?_⟩
    rcases List.mem_cons.mp ho with e|e
    ·exact e
    ·have e2:=hl o e (zdK hu c)
     subst e2
     exact zi1 okm.1 okx.1 okm.2 okx.2 hu c
   ·refine ⟨m,List.mem_cons_of_mem _ hm,fun o ho hu => ?_⟩
    rcases List.mem_cons.mp ho with e|e
    ·exact absurd (e ▸ hu) c
    ·exact hl o e hu
theorem zfs {rs:List (List (Int×Int))}{m:List (Int×Int)}:lowQ rs m=true↔∀ o∈rs,za0 o m=true→o=m:=by
 unfold lowQ
 rw [List.isEmpty_iff,List.filter_eq_nil_iff]
 refine forall_congr' fun o=>forall_congr' fun _ => ?_
 by_cases h:o=m
 ·simp [h]
 ·simp [h]
structure Good (n:Int)(f:List (List (Int×Int))):Prop where
 ne:f ≠ []
 rows:∀ r∈f,RowOk n r
 rise:∀ r∈f,Rise r
 len:f.length≤40
 anti:∀ r∈f,∀ s∈f,za0 r s=true→r=s
 srt:f.Pairwise fun a b=>rltB a b=true
theorem zkY {n:Int}{rs:List (List (Int×Int))}(ok:∀ r∈rs,RowOk n r)(ri:∀ r∈rs,Rise r)(hl:rs.length≤40)(hn:rs ≠ []):Good n (zbg rs):=by
 refine ⟨fun z => ?_,fun r hr=>ok r (zaE.mp hr).1,fun r hr=>ri r (zaE.mp hr).1,Nat.le_trans (zfC rs) hl,fun r hr s hs hu => ?_,?_⟩
 ·refine zc1b (zjR hn fun r hr=>⟨(ok r hr).once,ri r hr⟩) fun m hm h => ?_
  have:m∈zbg rs:=zaE.mpr ⟨hm,zfs.mpr h⟩
  rw [z] at this
  first|exact zqn this|exact zqb this|(obtain rfl:=Option.some.inj this)|cases this
 ·exact zfs.mp (zaE.mp hs).2 r (zaE.mp hr).1 hu
 ·have hp:=zay (ltb:=rltB) (zcp rs rs)
  have nd:(zaU rltB (zcp rs rs)).Nodup:=hp.nodup_iff.mpr ((zbJ rs rs []).2.2 List.nodup_nil)
  have sd:=zbX zbi (zcp rs rs)
  have both:(zaU rltB (zcp rs rs)).Pairwise fun x y=>rltB y x=false∧x≠y:=List.Pairwise.and sd nd
  refine both.imp fun {x y} z => ?_
  cases q:rltB x y with
  | true=>rfl
  | false=>exact absurd (zbi.tot _ _ q z.1) z.2
structure ThingsOk (ts:List Int):Prop where
 ne:ts ≠ []
 len:ts.length≤4
 rng:∀ t∈ts,0≤t∧t<12
 up:ts.Pairwise (· < ·)
theorem zgb {r:List (Int×Int)}(h:Rise r):Once r:=by
 unfold Rise at h
 unfold Once List.Nodup
 exact h.imp fun h e=>by omega
structure Over (f:List (List (Int×Int)))(hs:List Int):Prop where
 ne:f ≠ []
 rne:∀ r∈f,r ≠ []
 once:∀ r∈f,Once r
 bnd:∀ r∈f,∀ p∈r,0≤p.1∧p.1<(hs.length:Int)
structure RoundOk (n:Int)(fs:List (List (List (Int×Int)))):Prop where
 len:(fs.length:Int)=n
 low:1≤n
 most:n≤12
 forms:∀ f∈fs,FormOk n f
theorem RoundOk.over {n:Int}{fs:List (List (List (Int×Int)))}(R:RoundOk n fs){hs:List Int}(h:hs.length=fs.length):∀ f∈fs,Over f hs:=fun f hf=>⟨(R.forms f hf).ne,fun r hr=>((R.forms f hf).rows r hr).ne,fun r hr=>((R.forms f hf).rows r hr).once,fun r hr p hp=>by
 have:=((R.forms f hf).rows r hr).mem p hp
 have:=R.len
 omega⟩
def rdD (fs:List (List (List (Int×Int)))):D:=.lst (fs.map frD)
@[simp] theorem walkS_rd (fs:List (List (List (Int×Int)))):zei (rdD fs)=some (fs.map frD):=rfl
open L2.ST
theorem zcx {α : Type}{ltb : α → α → Bool}(T:Tot ltb){l:List α}(hn:l.Nodup):(zaU ltb l).Pairwise fun a b=>ltb a b=true:=by
 have hn':(zaU ltb l).Nodup:=(zay (ltb:=ltb) l).nodup_iff.mpr hn
 have hs:=zbX T l
 generalize zaU ltb l=s at hn' hs
 unfold Sd at hs
 unfold List.Nodup at hn'
 refine List.Pairwise.imp ?_ (hs.and hn')
 rintro a b ⟨h1,h2⟩
 cases q:ltb a b with
 | true=>rfl
 | false=>exact absurd (T.tot _ _ q h1) h2
structure PairsOk (ts:List Int)(r:List (Int×Int)):Prop where
 ne:r ≠ []
 len:r.length≤4
 mem:∀ p∈r,p.1∈ts
 up:r.Pairwise fun p q=>p.1<q.1
theorem znL {r:List (Int×Int)}(h:r.Pairwise fun p q=>p.1<q.1):Once r:=by
 unfold Once List.Nodup
 rw [List.pairwise_map]
 exact h.imp fun h e=>by omega
theorem PairsOk.row {ts:List Int}{r:List (Int×Int)}(T:ThingsOk ts)(P:PairsOk ts r):RowOk 12 r:=⟨P.ne,znL P.up,fun p hp=>T.rng _ (P.mem p hp),Nat.le_trans P.len (by omega)⟩
theorem zke {rs:List (List (Int×Int))}(ok:∀ r∈rs,Once r∧Rise r){r:List (Int×Int)}(hr:r∈rs):∃ s∈zbg rs,za0 s r=true:=by
 have rr:za0 r r=true:=zdP.mpr fun p hp=>⟨p.2,(ok r hr).1.look (t:=p.1) (w:=p.2) hp,Int.le_refl _⟩
 have ne:rs.filter (fun o=>za0 o r) ≠ []:=fun z=>by
  have:r∈rs.filter fun o=>za0 o r:=List.mem_filter.mpr ⟨hr,rr⟩
  rw [z] at this
  first|exact zqn this|exact zqb this|(obtain rfl:=Option.some.inj this)|cases this
 refine zc1b (zjR ne fun o ho=>ok o (List.mem_filter.mp ho).1) fun m hm h => ?_
 obtain ⟨hm1,hm2⟩:=List.mem_filter.mp hm
 exact ⟨m,zaE.mpr ⟨hm1,zfs.mpr fun o ho hu=>h o (List.mem_filter.mpr ⟨ho,zdK hu hm2⟩) hu⟩,hm2⟩
theorem zcv (rs:List (List (Int×Int))):(zbg rs).Pairwise fun a b=>rltB a b=true:=zcx zbi ((zbJ rs rs []).2.2 List.nodup_nil)
theorem zim (rs:List (List (Int×Int))):(zbg rs).Nodup:=(zcv rs).imp fun {a b} h e=>by
 subst e
 have:=zbi.asy _ _ h
 rw [h] at this
 first|exact zqn this|exact zqb this|(obtain rfl:=Option.some.inj this)|cases this
structure JRow (r:List (Int×Int)):Prop where
 ne:r ≠ []
 rise:Rise r
 bnd:∀ p∈r,0≤p.1∧p.1<12
theorem JRow.once {r:List (Int×Int)}(h:JRow r):Once r:=zgb h.rise
theorem JRow.len {r:List (Int×Int)}(h:JRow r):r.length≤12:=by
 have up:(r.map (·.1)).Pairwise (· < ·):=h.rise
 have key:∀ (l:List Int) (a:Int),l.Pairwise (· < ·)→(∀ x∈l,a≤x∧x<12)→(l.length:Int)≤max 0 (12-a):=by
  intro l
  induction l with
  | nil=>intro a _ _;simp;omega
  | cons x l ih =>
   intro a hp hb
   rw [List.pairwise_cons] at hp
   have h1:=hb x List.mem_cons_self
   have:=ih (x+1) hp.2 fun y hy=>⟨by have:=hp.1 y hy;omega,(hb y (List.mem_cons_of_mem _ hy)).2⟩
   rw [List.length_cons]
   omega
 have:=key _ 0 up fun x hx=>by
  refine zc1b (List.mem_map.mp hx) fun p hp zr2 => ?_
  obtain rfl:=zr2
  exact h.bnd p hp
 rw [List.length_map] at this
 omega
theorem zc7 {α : Type}:∀ {l m:List α},l.Nodup→(∀ x∈l,x∈m)→l.length≤m.length
 | [],m,_,_=>Nat.zero_le _
 | x::l,m,h,s=>by
  refine zc2a (List.append_of_mem (s x List.mem_cons_self)) fun a b zr2 => ?_
  obtain rfl:=zr2
  obtain ⟨h1,h2⟩:=List.nodup_cons.mp h
  have ih:=zc7 (l:=l) (m:=a++b) h2 fun y hy=>by
   rcases List.mem_append.mp (s y (List.mem_cons_of_mem _ hy)) with z|z
   ·exact List.mem_append_left _ z
   ·rcases List.mem_cons.mp z with z|z
    ·rw [z] at hy;exact absurd hy h1
    ·exact List.mem_append_right _ z
  rw [List.length_append] at ih
  rw [List.length_append,List.length_cons,List.length_cons]
  omega
def stF (t g:List (List (Int×Int))):List (List (Int×Int)):=zbg (t++g)
structure Fm (n:Int)(U:List (List (Int×Int)))(f:List (List (Int×Int))):Prop where
 good:Good n f
 sub:∀ r∈f,r∈U
theorem ziH {n:Int}{f:List (List (Int×Int))}(G:Good n f):f.Nodup:=G.srt.imp fun {a b} h e=>by
 subst e
 have:=zbi.asy _ _ h
 rw [h] at this
 first|exact zqn this|exact zqb this|(obtain rfl:=Option.some.inj this)|cases this
theorem Fm.len {n:Int}{U f:List (List (Int×Int))}(F:Fm n U f)(h:U.length≤28):f.length≤28:=Nat.le_trans (zc7 (ziH F.good) F.sub) h
theorem Fm.step {n:Int}{U t g:List (List (Int×Int))}(T:Fm n U t)(G:Fm n U g)(h:U.length≤28):Fm n U (stF t g):=by
 have rows:∀ r∈t++g,RowOk n r∧Rise r∧r∈U:=fun r hr=>by
  rcases List.mem_append.mp hr with z|z
  ·exact ⟨T.good.rows r z,T.good.rise r z,T.sub r z⟩
  ·exact ⟨G.good.rows r z,G.good.rise r z,G.sub r z⟩
 have sub:∀ r∈stF t g,r∈U:=fun r hr=>(rows r (zaE.mp hr).1).2.2
 refine ⟨⟨fun z => ?_,fun r hr=>(rows r (zaE.mp hr).1).1,fun r hr=>(rows r (zaE.mp hr).1).2.1,?_,fun r hr s hs hu=>zfs.mp (zaE.mp hs).2 r (zaE.mp hr).1 hu,zcv _⟩,sub⟩
 ·obtain ⟨r,hr⟩:=List.exists_mem_of_ne_nil _ T.good.ne
  refine zc1b (zke (rs:=t++g) (fun r hr=>⟨(rows r hr).1.once,(rows r hr).2.1⟩) (List.mem_append_left _ hr)) fun s hs _ => ?_
  have hs:s∈stF t g:=hs
  rw [z] at hs
  first|exact zqn hs|exact zqb hs|(obtain rfl:=Option.some.inj hs)|cases hs
 ·have:=zc7 (zim (t++g)) sub
  show (zbg (t++g)).length≤40
  omega
def md:List (List (Int×Int))→List (List (List (Int×Int)))→List (List (List (Int×Int)))
 | t,[] => [t]
 | t,g::gs=>t::md (stF t g) gs
structure SdOk (r:List (Int×Int)):Prop where
 once:Once r
 mem:∀ t∈r.map (·.1),0≤t∧t<12
theorem SdOk.len {r:List (Int×Int)}(h:SdOk r):r.length≤12:=by
 have:(r.map (·.1)).length≤((List.range 12).map fun k:Nat=>(k:Int)).length:=zc7 h.once fun t ht=>by
  obtain ⟨h0,h1⟩:=h.mem t ht
  exact List.mem_map.mpr ⟨t.toNat,List.mem_range.mpr (by omega),by omega⟩
 rw [List.length_map,List.length_map,List.length_range] at this
 exact this
theorem SdOk.nil:SdOk []:=⟨List.nodup_nil,fun t ht=>by cases ht⟩
theorem SdOk.put {r:List (Int×Int)}{t w:Int}(h:SdOk r)(h0:0≤t)(h1:t<12):SdOk (putR r t w):=⟨zjT h.once,fun x hx=>by
 rw [zfn] at hx
 split at hx
 ·exact h.mem x hx
 ·rcases List.mem_append.mp hx with z|z
  ·exact h.mem x z
  ·rw [List.mem_singleton.mp z];exact ⟨h0,h1⟩⟩
theorem znD (r:List (Int×Int))(t w:Int):putR r t w ≠ []:=fun z=>by
 have h:=zfn r t w
 rw [z] at h
 split at h
 ·rename_i c
  have:r=[]:=List.map_eq_nil_iff.mp h.symm
  rw [this] at c
  exact Bool.false_ne_true c
 ·exact absurd (congrArg List.length h) (by simp)
noncomputable def zb2 (r:List (Int×Int)):List (Int×Int):=if r=[] then [(0,0)] else r
theorem zmp {r:List (Int×Int)}(h:SdOk r):SdOk (zb2 r)∧zb2 r ≠ []:=by
 unfold zb2
 split
 ·exact ⟨⟨by unfold Once;simp,fun t ht=>by simp at ht;omega⟩,by simp⟩
 ·rename_i z;exact ⟨h,z⟩
theorem zew (r:List (Int×Int)):zb2 (zb2 r)=zb2 r:=by
 unfold zb2
 by_cases c:r=[]
 ·rw [if_pos c,if_neg (by simp)]
 ·rw [if_neg c,if_neg c]
def addM (a:List (Int×Int))(c:Int)(b:List (Int×Int))(t:Int):List (Int×Int):=if (zam b t).isSome=true then b else putR b t ((zam a t).getD 0+c)
theorem znb {a:List (Int×Int)}{c:Int}{b:List (Int×Int)}{t:Int}(h:SdOk b)(hn:b ≠ [])(h0:0≤t)(h1:t<12):SdOk (addM a c b t)∧addM a c b t ≠ []:=by
 unfold addM
 split
 ·exact ⟨h,hn⟩
 ·exact ⟨h.put h0 h1,znD _ _ _⟩
theorem zeJ {a:List (Int×Int)}{c:Int}:∀ {ts:List Int} {b:List (Int×Int)},SdOk b→b ≠ []→(∀ t∈ts,0≤t∧t<12)→SdOk (ts.foldl (addM a c) b)∧ts.foldl (addM a c) b ≠ []
 | [],b,h,hn,_=>⟨h,hn⟩
 | t::ts,b,h,hn,hm=>by
  obtain ⟨m0,m1⟩:=hm t List.mem_cons_self
  obtain ⟨h1,h2⟩:=znb (a:=a) (c:=c) h hn m0 m1
  exact zeJ (ts:=ts) (b:=addM a c b t) h1 h2 fun x hx=>hm x (List.mem_cons_of_mem _ hx)
theorem zeX:∀ {as:List Addr} {ds:List D} {g:Nat} {a:Addr} {d:D},as.Nodup→as[g]? = some a→ds[g]? = some d→hpAt (as.zip ds) a=some d
 | [],ds,g,a,d,_,ha,_=>by first|exact zqn ha|exact zqb ha|(obtain rfl:=Option.some.inj ha)|cases ha
 | b::as,[],g,a,d,_,_,hd=>by first|exact zqn hd|exact zqb hd|(obtain rfl:=Option.some.inj hd)|cases hd
 | b::as,e::ds,g,a,d,nd,ha,hd=>by
  obtain ⟨n1,n2⟩:=List.nodup_cons.mp nd
  rw [List.zip_cons_cons,zan]
  cases g with
  | zero =>
   first|exact zqn ha|exact zqb ha|(obtain rfl:=Option.some.inj ha)|cases ha
   first|exact zqn hd|exact zqb hd|(obtain rfl:=Option.some.inj hd)|cases hd
   exact if_pos rfl
  | succ g =>
   have ha:as[g]? = some a:=ha
   have ne:a≠b:=fun z=>n1 (by rw [← z];exact List.mem_of_getElem? ha)
   exact (if_neg ne).trans (zeX (g:=g) n2 ha hd)
theorem zfE:∀ {as:List Addr} {ds:List D} {g:Nat} {a:Addr} {d:D},as.Nodup→as[g]? = some a→zaM (as.zip ds) a d=as.zip (ds.set g d)
 | [],ds,g,a,d,_,ha=>by first|exact zqn ha|exact zqb ha|(obtain rfl:=Option.some.inj ha)|cases ha
 | b::as,[],g,a,d,_,_=>rfl
 | b::as,e::ds,g,a,d,nd,ha=>by
  obtain ⟨n1,n2⟩:=List.nodup_cons.mp nd
  rw [List.zip_cons_cons]
  unfold zaM
  cases g with
  | zero =>
   first|exact zqn ha|exact zqb ha|(obtain rfl:=Option.some.inj ha)|cases ha
   rw [if_pos rfl]
   rfl
  | succ g =>
   have ha:as[g]? = some a:=ha
   have ne:a≠b:=fun z=>n1 (by rw [← z];exact List.mem_of_getElem? ha)
   rw [if_neg ne,zfE (g:=g) n2 ha]
   rfl
theorem zbs {as:List Addr}(nd:as.Nodup){i j:Nat}{a:Addr}(hi:as[i]? = some a)(hj:as[j]? = some a):i=j:=by
 obtain ⟨h1,e1⟩:=List.getElem?_eq_some_iff.mp hi
 obtain ⟨h2,e2⟩:=List.getElem?_eq_some_iff.mp hj
 exact (List.getElem_inj nd).mp (e1.trans e2.symm)
def zmt:FS:=(sSeq (sSet 2 (dBlt zf2 (zac (dVar 1) dNil))) (sRet (dBlt gAll (zac (zbk [none,none,some 2] (iS (dVar 0)) (.tup [0,1]) (dOp (gIn false) (dVar 0) (dVar 2))) dNil))))
def zgJ:List D→Res D:=runD 3 2 zmt
theorem f_z14 {r o:List (Int×Int)}(ob:Once o)(lo:o.length≤100)(lr:r.length≤1000):zgJ [rwD r,rwD o]=.ok (.bl (r.all fun p=>(zam o p.1).isSome)):=by
 have hd:=zcz lo ob
 have k1:mapE (.tup [0,1]) (dOp (gIn false) (dVar 0) (dVar 2)) [none,none,some (.val (dcR o))] (r.map prD)=.ok (r.map fun p=>.bl (zam o p.1).isSome):=zbw fun p hp=>by
  have hi:=zkv ob false p.1
  simp [hi]
 have e1:r.map (fun p=>D.bl (zam o p.1).isSome)=(r.map fun p=>(zam o p.1).isSome).map .bl:=by rw [List.map_map];rfl
 have ga:=zl9 (r.map fun p=>(zam o p.1).isSome)
 rw [← e1,List.all_map] at ga
 have ga:gAll [.lst (r.map fun p=>D.bl (zam o p.1).isSome)]=some (.bl (r.all fun p=>(zam o p.1).isSome)):=ga
 have hw:zei (rwD r)=some (r.map prD):=rfl
 generalize (r.map fun p=>D.bl (zam o p.1).isSome)=bl at k1 ga
 simp [zgJ,zmt,hd,hw,k1,za4 lr,ga]
def G_z6:FS:=(sRet (ziF (dBlt gIsi (zac (dVar 0) (zac (dC (.ty "int")) dNil))) (znp (dBlt gIsi (zac (dVar 0) (zac (dC (.ty "bool")) dNil))))))
def F_z6:List D→Res D:=runD 1 1 G_z6
@[simp] theorem zk5 (i:Int):F_z6 [.int i]=.ok (.bl true):=by
 simp [F_z6,G_z6]
def zmc:FS:=(sSeq (sSet 3 (dBlt zf2 (zac (dVar 1) dNil))) (sSeq (sFor (iS (dVar 0)) (.tup [4,5]) (sIf (dOrT (zar (dOp (gIn true) (dVar 4) (dVar 3))) (zar (dOp gGt (dOp gSub (dVar 5) (dOp gIx (dVar 3) (dVar 4))) (dVar 2)))) (sRet (dC (.bl false))) zby)) (sRet (dC (.bl true)))))
def zet:List D→Res D:=runD 6 3 zmc
def inAt (o:List (Int×Int))(m:Int)(p:Int×Int):Bool:=match zam o p.1 with
 | some w=>decide (p.2-w≤m)
 | none=>false
def za5 (r o:List (Int×Int))(m:Int):Bool:=r.all (inAt o m)
theorem zpT {r o:List (Int×Int)}{m:Int}(ho:Once o)(hl:o.length≤100):zet [rwD r,rwD o,.int m]=.ok (.bl (za5 r o m)):=by
 have hd:=zcz hl ho
 simp [zet,zmc,hd]
 refine zeP (R:=fun z=>(z.bind (seqK (sRet (dC (.bl true))))).bind outV=.ok (.bl (za5 r o m))) (P:=fun i sd=>(∃ u v,sd=[some (.val (rwD r)),some (.val (rwD o)),some (.val (.int m)),some (.val (dcR o)),u,v])∧(r.take i).all (inAt o m)=true) ⟨⟨none,none,rfl⟩,rfl⟩ ?_ ?_
 ·rintro sd ⟨⟨u,v,rfl⟩,hu⟩
  rw [List.length_map,List.take_length] at hu
  simp [za5,hu]
 ·rintro i x sd hx ⟨⟨u,v,rfl⟩,hu⟩
  obtain ⟨p,hp,rfl⟩:=zeC hx
  have hv:=zbt ho p.1
  have no:inAt o m p=false→za5 r o m=false:=fun z=>by
   unfold za5
   rw [Bool.eq_false_iff]
   intro h
   have:=List.all_eq_true.mp h p (List.mem_of_getElem? hp)
   rw [z] at this
   exact Bool.false_ne_true this
  cases q:zam o p.1 with
  | none =>
   rw [q] at hv
   have z:inAt o m p=false:=by unfold inAt;rw [q]
   rw [no z]
   exact .inr (.inr ⟨.bl false,by simp [dcR,hv],by simp⟩)
  | some w =>
   rw [q] at hv
   by_cases c:m<p.2-w
   ·have z:inAt o m p=false:=by unfold inAt;rw [q];exact decide_eq_false (by omega)
    rw [no z]
    exact .inr (.inr ⟨.bl false,by simp [dcR,hv,c],by simp⟩)
   ·have z:inAt o m p=true:=by unfold inAt;rw [q];exact decide_eq_true (by omega)
    exact .inl ⟨[some (.val (rwD r)),some (.val (rwD o)),some (.val (.int m)),some (.val (dcR o)),some (.val (.int p.1)),some (.val (.int p.2))],.inl (by simp [dcR,hv,c]),⟨_,_,rfl⟩,by rw [zbn hp,List.all_append,hu];simp [z]⟩
def zm0:FS:=(sSeq (sIf (dOrT (zce (zar (dBlt gIsi (zac (dVar 3) (zac (dC (.ty "list")) dNil))))) (zar (dOp gNe (dBlt gLen (zac (dVar 3) dNil)) (dBlt gLen (zac (dVar 1) dNil))))) (sRet (dC (.bl false))) zby) (sSeq (sFor (iR1 (zac (dBlt gLen (zac (dVar 1) dNil)) dNil)) (.one 4) (sSeq (sIf (dOrT (zce (zar (zax F_z6 (zac (dOp gIx (dVar 3) (dVar 4)) dNil)))) (dOrT (zar (dOp gLt (dOp gIx (dVar 3) (dVar 4)) (dC (.int 0)))) (zar (dOp gGe (dOp gIx (dVar 3) (dVar 4)) (dBlt gLen (zac (dVar 0) dNil)))))) (sRet (dC (.bl false))) zby) (sIf (zce (zar (zax zet (zac (dOp gIx (dVar 0) (dOp gIx (dVar 3) (dVar 4))) (zac (dOp gIx (dVar 1) (dVar 4)) (zac (dVar 2) dNil)))))) (sRet (dC (.bl false))) zby))) (sRet (dC (.bl true)))))
def ziN:List D→Res D:=runD 5 4 zm0
theorem f_z15 {f g:List (List (Int×Int))}{m:Int}{js:List Nat}(lj:js.length=g.length)(lg:g.length≤1000)(og:∀ o∈g,Once o∧o.length≤100)(h:∀ (k j:Nat) (o:List (Int×Int)),g[k]? = some o→js[k]? = some j→∃ r,f[j]? = some r∧za5 r o m=true) :
 ziN [frD f,frD g,.int m,.lst (js.map fun j:Nat=>.int (j:Int))]=.ok (.bl true):=by
 obtain ⟨js',hj'⟩:∃ js',js'=js.map fun j:Nat=>D.int (j:Int):=⟨_,rfl⟩
 rw [← hj']
 have gl:gLen [.lst js']=some (.int g.length):=by
  show some (D.int (js'.length:Nat))=_
  rw [hj',List.length_map,lj]
 have gl2:∀ f:List (List (Int×Int)),gLen [frD f]=some (.int f.length):=fun f=>by
  show some (D.int ((f.map rwD).length:Nat))=_
  rw [List.length_map]
 have gi:gIsi [.lst js',.ty "list"]=some (.bl true):=rfl
 have r1:zdc [.int (g.length:Int)]=.ok (za7 0 g.length):=by rw [zca (by omega) (by omega)];rfl
 obtain ⟨sd',e,v,hsd⟩:=zhj (tg:=.one 4) (b:=sSeq (sIf (dOrT (zce (zar (zax F_z6 (zac (dOp gIx (dVar 3) (dVar 4)) dNil)))) (dOrT (zar (dOp gLt (dOp gIx (dVar 3) (dVar 4)) (dC (.int 0)))) (zar (dOp gGe (dOp gIx (dVar 3) (dVar 4)) (dBlt gLen (zac (dVar 0) dNil)))))) (sRet (dC (.bl false))) zby) (sIf (zce (zar (zax zet (zac (dOp gIx (dVar 0) (dOp gIx (dVar 3) (dVar 4))) (zac (dOp gIx (dVar 1) (dVar 4)) (zac (dVar 2) dNil)))))) (sRet (dC (.bl false))) zby)) (ds:=za7 0 g.length)
  (sd:=[some (.val (frD f)),some (.val (frD g)),some (.val (.int m)),some (.val (.lst js')),none]) (P:=fun i sd => ∃ v,sd=[some (.val (frD f)),some (.val (frD g)),some (.val (.int m)),some (.val (.lst js')),v]) ⟨none,rfl⟩ (by
   rintro k x sd hx ⟨v,rfl⟩
   obtain ⟨rfl,hk⟩:=zfp hx
   rw [Int.zero_add]
   have ho:g[k]? = some g[k]:=List.getElem?_eq_getElem hk
   have hj:js[k]? = some js[k]:=List.getElem?_eq_getElem (by omega)
   obtain ⟨r,hr,hw⟩:=h k _ _ ho hj
   have hlt:=(List.getElem?_eq_some_iff.mp hr).1
   have a1:atI js' (k:Int)=some (.int (js[k]:Int)):=by rw [hj',zbA (by rw [List.length_map];omega),List.getElem?_map,hj];rfl
   have a2:gIx (frD g) (.int k)=some (rwD g[k]):=by
    show atI (g.map rwD) (k:Int)=_
    rw [zbA (by rw [List.length_map];exact hk),List.getElem?_map,ho];rfl
   have a3:gIx (frD f) (.int (js[k]:Int))=some (rwD r):=by
    show atI (f.map rwD) ((js[k]:Nat):Int)=_
    rw [zbA (by rw [List.length_map];exact hlt),List.getElem?_map,hr];rfl
   obtain ⟨o1,o2⟩:=og _ (List.getElem_mem hk)
   have fw:=zpT (r:=r) (m:=m) o1 o2
   rw [hw] at fw
   have c1:¬ ((js[k]:Int)<0):=by omega
   have c2:¬ ((f.length:Int)≤(js[k]:Int)):=by omega
   generalize (js[k]:Int)=jk at a1 a3 c1 c2
   refine ⟨[some (.val (frD f)),some (.val (frD g)),some (.val (.int m)),some (.val (.lst js')),some (.val (.int k))],?_,_,rfl⟩
   simp [a1,a2,a3,gl2,c1,c2,fw])
 subst hsd
 generalize hb:sSeq (sIf (dOrT (zce (zar (zax F_z6 _))) _) _ _) _=b at e
 simp [ziN,zm0,gi,gl,gl2,r1,hb,e]
def G_z5:FS:=(sSeq (sIf (zar (dOp gLt (dVar 1) (dBlt gLen (zac (dVar 0) dNil)))) (sRet (dOp gIx (dVar 0) (dVar 1))) zby) (sRet (dC (.int 0))))
def F_z5:List D→Res D:=runD 2 2 G_z5
theorem f_z5 (ns:List Int)(k:Nat):F_z5 [.scr ns,.int k]=.ok (.int (zmY ns k)):=by
 unfold zmY
 rw [Int.toNat_natCast]
 by_cases h:k<ns.length
 ·have e:atI ns (k:Int)=some ns[k]:=by rw [zbA h];exact List.getElem?_eq_getElem h
  have e2:ns.getD k 0=ns[k]:=by rw [List.getD_eq_getElem?_getD,List.getElem?_eq_getElem h];rfl
  rw [e2]
  simp [F_z5,G_z5,h,e]
 ·have e2:ns.getD k 0=0:=by rw [List.getD_eq_getElem?_getD,List.getElem?_eq_none (by omega)];rfl
  rw [e2]
  simp [F_z5,G_z5,h]
def G_z7:FS:=(sSeq (sSet 1 (dOp gMod (dOp zaA (dVar 0) (dC (.int 3))) (dOp gPow (dC (.int 10)) (dC (.int 60))))) (sSeq (sIf (zar (dOp gEq (dOp gMod (dVar 0) (dC (.int 3))) (dC (.int 0)))) (sRet (dOp gSub (dOp gMod (dVar 1) (dC (.int 9))) (dC (.int 4)))) zby) (sSeq (sIf (zar (dOp gEq (dOp gMod (dVar 0) (dC (.int 3))) (dC (.int 1)))) (sRet (dVar 1)) zby) (sRet (dOp gSub (dC (.int 0)) (dVar 1))))))
def F_z7:List D→Res D:=runD 2 1 G_z7
noncomputable def zgq (c:Int):Int:=if c % 3=0 then c / 3 % 10 ^ 60 % 9-4 else if c % 3=1 then c / 3 % 10 ^ 60 else 0-c / 3 % 10 ^ 60
theorem f_z7 (c:Int):F_z7 [.int c]=.ok (.int (zgq c)):=by
 have h4:gPow (.int 10) (.int 60)=some (.int (10 ^ 60)):=rfl
 unfold zgq
 by_cases c1:c % 3=0
 ·simp [F_z7,G_z7,c1,h4]
 ·by_cases c2:c % 3=1
  ·simp [F_z7,G_z7,c2,h4]
  ·simp [F_z7,G_z7,c1,c2,h4]
def zjm:FH:=(zoE (sSet 2 (dLst (zac (dOp gAdd (dC (.int 1)) (dOp gMod (dOp zaA (dVar 1) (dC (.int 7))) (dC (.int 6)))) (zac (dOp gAdd (dC (.int 1)) (dOp gMod (dOp zaA (dVar 1) (dC (.int 42))) (dC (.int 6)))) dNil)))) (zjN 3 (hLst (ziC (zed [none] (iR1 (zac (dOp gIx (dVar 2) (dC (.int 0))) dNil)) (.one 0) zi5) (ziC (zed [none] (iR1 (zac (dOp gIx (dVar 2) (dC (.int 1))) dNil)) (.one 0) zi5) hNil))) 3 (zbh (zcf (iR2 (zac (dC (.int 1)) (zac (dBlt zii (zac (dBlt gLen (zac (dVar 0) dNil)) (zac (dC (.int 63)) dNil))) dNil))) (.one 4) (zbh (s2L (sSet 5 (dOp gIx (dVar 0) (dVar 4)))) (zbh (s2L (sSet 6 (dOp gIx (dVar 3) (dOp gMod (dVar 5) (dC (.int 2)))))) (zbh (s2L (sSet 7 (dOp gAdd (dOp gMod (dOp zaA (dVar 1) (dC (.int 252))) (dC (.int 2))) (dOp gMul (dOp gMod (dOp zaA (dVar 5) (dC (.int 12))) (dOp gAdd (dC (.int 1)) (dOp gMod (dVar 1) (dC (.int 6))))) (dOp gAdd (dC (.int 1)) (dOp gMod (dOp zaA (dVar 1) (dC (.int 504))) (dC (.int 2)))))))) (zdk (dOp gIx (dVar 6) (dOp gMod (dOp zaA (dVar 5) (dC (.int 2))) (dBlt gLen (zac (dVar 6) dNil)))) (dVar 7) (zax F_z7 (zac (dOp gAdd (dOp zaA (dVar 5) (dC (.int 72))) (dOp gMul (dOp gMul (dC (.int 31)) (dVar 4)) (dVar 4))) dNil))))))) zb3)))
def zif:List D→Res NewD:=runH 8 2 zjm
noncomputable def zal (h:Int):Nat:=(1+h / 7 % 6).toNat
noncomputable def zaI (h:Int):Nat:=(1+h / 42 % 6).toNat
theorem zdt (h:Int):1≤zal h∧zal h≤6∧((zal h:Nat):Int)=1+h / 7 % 6:=by unfold zal;omega
theorem zds (h:Int):1≤zaI h∧zaI h≤6∧((zaI h:Nat):Int)=1+h / 42 % 6:=by unfold zaI;omega
noncomputable def zcl (h c:Int):Int:=h / 252 % 2+c / 12 % (1+h % 6)*(1+h / 504 % 2)
theorem zjE (h c:Int):0≤zcl h c∧zcl h c<12:=by
 unfold zcl
 have a1:0≤c / 12 % (1+h % 6):=Int.emod_nonneg _ (by omega)
 have a2:c / 12 % (1+h % 6)<1+h % 6:=Int.emod_lt_of_pos _ (by omega)
 have a3:h / 504 % 2=0∨h / 504 % 2=1:=by omega
 rcases a3 with z|z<;>rw [z]<;>omega
def zbo (h c:Int):Nat:=if c % 2=0 then (c / 2 % (zal h:Int)).toNat else zal h+(c / 2 % (zaI h:Int)).toNat
theorem zlI (h c:Int):zbo h c<zal h+zaI h:=by
 unfold zbo
 obtain ⟨p1,p2,p3⟩:=zdt h
 obtain ⟨q1,q2,q3⟩:=zds h
 have a1:=Int.emod_lt_of_pos (c / 2) (b:=(zal h:Int)) (by omega)
 have a2:=Int.emod_nonneg (c / 2) (b:=(zal h:Int)) (by omega)
 have b1:=Int.emod_lt_of_pos (c / 2) (b:=(zaI h:Int)) (by omega)
 have b2:=Int.emod_nonneg (c / 2) (b:=(zaI h:Int)) (by omega)
 split<;>omega
def filS (h c k:Int)(rs:List (List (Int×Int))):List (List (Int×Int)):=rs.set (zbo h c) (putR (rs.getD (zbo h c) []) (zcl h c) (zgq (c / 72+31*k*k)))
def filP (ns:List Int)(h:Int):Nat→List (List (Int×Int))
 | 0=>List.replicate (zal h+zaI h) []
 | i+1=>filS h (ns.getD (1+i) 0) (1+(i:Int)) (filP ns h i)
theorem zhf {rs:List (List (Int×Int))}(h:∀ r∈rs,SdOk r)(g:Nat):SdOk (rs.getD g []):=by
 rw [List.getD_eq_getElem?_getD]
 cases q:rs[g]? with
 | none=>exact .nil
 | some r=>exact h r (List.mem_of_getElem? q)
theorem zd2 (ns:List Int)(h:Int):∀ i,(filP ns h i).length=zal h+zaI h∧∀ r∈filP ns h i,SdOk r
 | 0=>⟨List.length_replicate,fun r hr=>by rw [List.eq_of_mem_replicate hr];exact .nil⟩
 | i+1=>by
  obtain ⟨h1,h2⟩:=zd2 ns h i
  refine ⟨by unfold filP filS;rw [List.length_set,h1],fun r hr => ?_⟩
  unfold filP filS at hr
  rcases List.mem_or_eq_of_mem_set hr with z|z
  ·exact h2 r z
  ·rw [z]
   obtain ⟨t0,t1⟩:=zjE h (ns.getD (1+i) 0)
   exact (zhf h2 _).put t0 t1
def zaV (h:Int)(as:List Addr):D:=.lst [.lst ((as.take (zal h)).map .adr),.lst ((as.drop (zal h)).map .adr)]
theorem zlA {ns:List Int}(hl:ns.length≤63){h:Int}(h0:0≤h){as:List Addr}(nd:as.Nodup)(la:as.length=zal h+zaI h){x2:Option SV}(n:Nat)(hn:n+1≤ns.length∨n=0):∃ u v w z,for2 (zb5 (.one 4) (zbh (s2L (sSet 5 (dOp gIx (dVar 0) (dVar 4)))) (zbh (s2L (sSet 6 (dOp gIx (dVar 3) (dOp gMod (dVar 5) (dC (.int 2)))))) (zbh (s2L (sSet 7 (dOp gAdd (dOp gMod (dOp zaA (dVar 1) (dC (.int 252))) (dC (.int 2))) (dOp gMul (dOp gMod (dOp zaA (dVar 5) (dC (.int 12))) (dOp gAdd (dC (.int 1)) (dOp gMod (dVar 1) (dC (.int 6))))) (dOp gAdd (dC (.int 1)) (dOp gMod (dOp zaA (dVar 1) (dC (.int 504))) (dC (.int 2)))))))) (zdk (dOp gIx (dVar 6) (dOp gMod (dOp zaA (dVar 5) (dC (.int 2))) (dBlt gLen (zac (dVar 6) dNil)))) (dVar 7) (zax F_z7 (zac (dOp gAdd (dOp zaA (dVar 5) (dC (.int 72))) (dOp gMul (dOp gMul (dC (.int 31)) (dVar 4)) (dVar 4))) dNil))))))) (za7 1 n)
 [some (.val (.scr ns)),some (.val (.int h)),x2,some (.val (zaV h as)),none,none,none,none] (as.zip ((filP ns h 0).map dcR))=.ok (.next [some (.val (.scr ns)),some (.val (.int h)),x2,some (.val (zaV h as)),u,v,w,z] (as.zip ((filP ns h n).map dcR))):=by
 obtain ⟨p1,p2,p3⟩:=zdt h
 obtain ⟨q1,q2,q3⟩:=zds h
 obtain ⟨sd',hp',e,u,v,w,z,rfl,rfl⟩:=zdp (b:=zb5 (.one 4) (zbh (s2L (sSet 5 (dOp gIx (dVar 0) (dVar 4)))) (zbh (s2L (sSet 6 (dOp gIx (dVar 3) (dOp gMod (dVar 5) (dC (.int 2)))))) (zbh (s2L (sSet 7 (dOp gAdd (dOp gMod (dOp zaA (dVar 1) (dC (.int 252))) (dC (.int 2))) (dOp gMul (dOp gMod (dOp zaA (dVar 5) (dC (.int 12))) (dOp gAdd (dC (.int 1)) (dOp gMod (dVar 1) (dC (.int 6))))) (dOp gAdd (dC (.int 1)) (dOp gMod (dOp zaA (dVar 1) (dC (.int 504))) (dC (.int 2)))))))) (zdk (dOp gIx (dVar 6) (dOp gMod (dOp zaA (dVar 5) (dC (.int 2))) (dBlt gLen (zac (dVar 6) dNil)))) (dVar 7) (zax F_z7 (zac (dOp gAdd (dOp zaA (dVar 5) (dC (.int 72))) (dOp gMul (dOp gMul (dC (.int 31)) (dVar 4)) (dVar 4))) dNil))))))) (ds:=za7 1 n)
  (sd:=[some (.val (.scr ns)),some (.val (.int h)),x2,some (.val (zaV h as)),none,none,none,none]) (hp:=as.zip ((filP ns h 0).map dcR))
  (fun i sd hp => ∃ u v w z,sd=[some (.val (.scr ns)),some (.val (.int h)),x2,some (.val (zaV h as)),u,v,w,z]∧hp=as.zip ((filP ns h i).map dcR)) ⟨none,none,none,none,rfl,rfl⟩ (by
   rintro i x sd hp hx ⟨u,v,w,z,rfl,rfl⟩
   obtain ⟨rfl,hi⟩:=zfp hx
   have hlt:1+i<ns.length:=by omega
   have hc:atI ns (1+(i:Int))=some (ns.getD (1+i) 0):=by
    rw [show (1:Int)+(i:Int)=((1+i:Nat):Int) by omega,zbA hlt,List.getElem?_eq_getElem hlt,List.getD_eq_getElem?_getD,List.getElem?_eq_getElem hlt]
    rfl
   have et:filP ns h (i+1)=filS h (ns.getD (1+i) 0) (1+(i:Int)) (filP ns h i):=rfl
   obtain ⟨lf,okf⟩:=zd2 ns h i
   generalize ns.getD (1+i) 0=c at hc et
   rw [et]
   generalize filP ns h i=rs at lf okf
   have m1:=zgX (zoH (i:=31) (j:=1+(i:Int)) (by omega) (by omega))
   have m2:=zgX (zkt (i:=31*(1+(i:Int))) (j:=1+(i:Int)) (by omega) (by omega))
   have m3:=zgX (zkt (i:=c / 12 % (1+h % 6)) (j:=1+h / 504 % 2) (by omega) (by omega))
   have hg:=zlI h c
   have hk:as[zbo h c]? = some as[zbo h c]:=List.getElem?_eq_getElem (by omega)
   have hr:rs[zbo h c]? = some rs[zbo h c]:=List.getElem?_eq_getElem (by omega)
   have hat:=zeX (ds:=rs.map dcR) nd hk (by rw [List.getElem?_map,hr];rfl)
   have lr:=(okf _ (List.getElem_mem (show zbo h c<rs.length by omega))).len
   have hset:∀ d,zaM (as.zip (rs.map dcR)) as[zbo h c] (dcR d)=as.zip ((rs.set (zbo h c) d).map dcR):=fun d=>by
    rw [zfE nd hk,List.map_set]
   have eg:rs.getD (zbo h c) []=rs[zbo h c]:=by rw [List.getD_eq_getElem?_getD,hr];rfl
   have ef:filS h c (1+(i:Int)) rs=rs.set (zbo h c) (putR rs[zbo h c] (zcl h c) (zgq (c / 72+31*(1+(i:Int))*(1+(i:Int))))):=by unfold filS;rw [eg]
   rw [ef,← hset]
   have nz:¬ (1+h % 6=0):=by omega
   have side:∃ (L0 L1:D) (bs:List Addr),zaV h as=.lst [L0,L1]∧atI [L0,L1] (c % 2)=some (.lst (bs.map .adr))∧1≤bs.length∧bs.length≤1000∧atI (bs.map D.adr) (c / 2 % (bs.length:Int))=some (.adr as[zbo h c]):=by
    have step:∀ {bs:List Addr} {m:Nat} {k:Int},bs.length=m→0≤k→k<(m:Int)→bs[k.toNat]? = some as[zbo h c]→atI (bs.map D.adr) k=some (.adr as[zbo h c]):=fun {bs m k} e k0 k1 hb=>by
     rw [show k=((k.toNat:Nat):Int) by omega,zbA (by rw [List.length_map];omega),List.getElem?_map,hb]
     rfl
    by_cases c0:c % 2=0
    ·have l1:(as.take (zal h)).length=zal h:=by rw [List.length_take];omega
     have k0:=Int.emod_nonneg (c / 2) (b:=(zal h:Int)) (by omega)
     have k1:=Int.emod_lt_of_pos (c / 2) (b:=(zal h:Int)) (by omega)
     refine ⟨_,_,as.take (zal h),rfl,by rw [c0];rfl,by omega,by omega,?_⟩
     rw [l1]
     refine step l1 k0 k1 ?_
     have es:zbo h c=(c / 2 % (zal h:Int)).toNat:=if_pos c0
     rw [List.getElem?_take_of_lt (by omega),← es]
     exact hk
    ·have c1:c % 2=1:=by omega
     have l1:(as.drop (zal h)).length=zaI h:=by rw [List.length_drop];omega
     have k0:=Int.emod_nonneg (c / 2) (b:=(zaI h:Int)) (by omega)
     have k1:=Int.emod_lt_of_pos (c / 2) (b:=(zaI h:Int)) (by omega)
     refine ⟨_,_,as.drop (zal h),rfl,by rw [c1];rfl,by omega,by omega,?_⟩
     rw [l1]
     refine step l1 k0 k1 ?_
     have es:zbo h c=zal h+(c / 2 % (zaI h:Int)).toNat:=if_neg c0
     rw [List.getElem?_drop,← es]
     exact hk
   obtain ⟨L0,L1,bs,hS,hb1,hb2,hb4,hb3⟩:=side
   have gm:=zgM (i:=c / 2) (j:=(bs.length:Int)) (by omega)
   have gn:=zgM (i:=c / 12) (j:=1+h % 6) (by omega)
   have nb:¬ ((bs.length:Int)=0):=by omega
   have pt:=zfg (fo:=dOp gIx (dVar 6) (dOp gMod (dOp zaA (dVar 5) (dC (.int 2))) (dBlt gLen (zac (dVar 6) dNil)))) (fk:=dVar 7) (fv:=zax F_z7 (zac (dOp gAdd (dOp zaA (dVar 5) (dC (.int 72))) (dOp gMul (dOp gMul (dC (.int 31)) (dVar 4)) (dVar 4))) dNil))
    (sd:=[some (.val (.scr ns)),some (.val (.int h)),x2,some (.val (zaV h as)),some (.val (.int (1+(i:Int)))),some (.val (.int c)),some (.val (.lst (bs.map .adr))),some (.val (.int (zcl h c)))]) (hp:=as.zip (rs.map dcR)) (a:=as[zbo h c]) (r:=rs[zbo h c]) (t:=zcl h c) (w:=zgq (c / 72+31*(1+(i:Int))*(1+(i:Int))))
    (by simp [m1,m2,f_z7]) (by simp [gm,hb3]) hat rfl (by omega)
   refine ⟨[some (.val (.scr ns)),some (.val (.int h)),x2,some (.val (zaV h as)),some (.val (.int (1+(i:Int)))),some (.val (.int c)),some (.val (.lst (bs.map .adr))),some (.val (.int (zcl h c)))],_,?_,_,_,_,_,rfl,rfl⟩
   have s3:sSet 7 (dOp gAdd (dOp gMod (dOp zaA (dVar 1) (dC (.int 252))) (dC (.int 2))) (dOp gMul (dOp gMod (dOp zaA (dVar 5) (dC (.int 12))) (dOp gAdd (dC (.int 1)) (dOp gMod (dVar 1) (dC (.int 6))))) (dOp gAdd (dC (.int 1)) (dOp gMod (dOp zaA (dVar 1) (dC (.int 504))) (dC (.int 2))))))
    [some (.val (.scr ns)),some (.val (.int h)),x2,some (.val (zaV h as)),some (.val (.int (1+(i:Int)))),some (.val (.int c)),some (.val (.lst (bs.map .adr))),z]=.ok (.next [some (.val (.scr ns)),some (.val (.int h)),x2,some (.val (zaV h as)),some (.val (.int (1+(i:Int)))),some (.val (.int c)),some (.val (.lst (bs.map .adr))),some (.val (.int (zcl h c)))]):=by
    simp [m3,gn,zcl]
   have s2:sSet 6 (dOp gIx (dVar 3) (dOp gMod (dVar 5) (dC (.int 2)))) [some (.val (.scr ns)),some (.val (.int h)),x2,some (.val (zaV h as)),some (.val (.int (1+(i:Int)))),some (.val (.int c)),w,z]=.ok (.next [some (.val (.scr ns)),some (.val (.int h)),x2,some (.val (zaV h as)),some (.val (.int (1+(i:Int)))),some (.val (.int c)),some (.val (.lst (bs.map .adr))),z]):=by
    simp [hS,hb1]
   have s1:sSet 5 (dOp gIx (dVar 0) (dVar 4)) [some (.val (.scr ns)),some (.val (.int h)),x2,some (.val (zaV h as)),some (.val (.int (1+(i:Int)))),v,w,z]=.ok (.next [some (.val (.scr ns)),some (.val (.int h)),x2,some (.val (zaV h as)),some (.val (.int (1+(i:Int)))),some (.val (.int c)),w,z]):=by
    simp [hc]
   rw [zbl,show zaQ (.one 4) (.int (1+(i:Int))) [some (.val (.scr ns)),some (.val (.int h)),x2,some (.val (zaV h as)),u,v,w,z]=.ok [some (.val (.scr ns)),some (.val (.int h)),x2,some (.val (zaV h as)),some (.val (.int (1+(i:Int)))),v,w,z] from rfl,Res.bind_ok]
   rw [zbr,zg4,s1,Res.bind_ok,zcC,Res.bind_ok,zaW,zbr,zg4,s2,Res.bind_ok,zcC,Res.bind_ok,zaW,zbr,zg4,s3,Res.bind_ok,zcC,Res.bind_ok,zaW,pt])
 rw [zdV] at e
 exact ⟨u,v,w,z,e⟩
theorem f_z11 {ns:List Int}(hl:ns.length≤63){h:Int}(h0:0≤h):∃ z:NewD,zif [.scr ns,.int h]=.ok z∧z.2=(filP ns h (ns.length-1)).map dcR∧∀ as:List Addr,as.length=zal h+zaI h→as.Nodup→z.1 as=zaV h as:=by
 obtain ⟨p1,p2,p3⟩:=zdt h
 obtain ⟨q1,q2,q3⟩:=zds h
 obtain ⟨lf,okf⟩:=zd2 ns h (ns.length-1)
 have r0:zfI [.int 1,.int (if 63<(ns.length:Int) then 63 else (ns.length:Int))]=.ok (za7 1 (ns.length-1)):=by
  rw [zio (by omega) (by omega) (by split<;>omega) (by split<;>omega)]
  congr 2
  split<;>omega
 have ra:zdc [.int (1+h / 7 % 6)]=.ok (za7 0 (zal h)):=by rw [zca (by omega) (by omega)];rfl
 have rb:zdc [.int (1+h / 42 % 6)]=.ok (za7 0 (zaI h)):=by rw [zca (by omega) (by omega)];rfl
 have ka:∀ m:Nat,mapE (.one 0) zi5 [none] (za7 0 m)=.ok ((List.replicate m []).map dcR):=fun m=>by
  rw [ziP (g:=fun _=>dcR []) fun i _=>rfl,List.map_const',List.length_range,List.map_replicate]
 have mk0:∀ as:List Addr,as.length=zal h+zaI h→mkL [(fun as=>.lst (as.map .adr),(List.replicate (zal h) []).map dcR),(fun as=>.lst (as.map .adr),(List.replicate (zaI h) []).map dcR)] as=[.lst ((as.take (zal h)).map .adr),.lst ((as.drop (zal h)).map .adr)]:=fun as la=>by
  unfold mkL mkL mkL
  simp only [List.length_map,List.length_replicate]
  rw [List.take_of_length_le (show (as.drop (zal h)).length≤zaI h by rw [List.length_drop];omega)]
 have os0:osL [((fun as:List Addr=>D.lst (as.map .adr)),(List.replicate (zal h) []).map dcR),(fun as=>.lst (as.map .adr),(List.replicate (zaI h) []).map dcR)]=(filP ns h 0).map dcR:=by
  unfold osL osL osL
  show _=(List.replicate (zal h+zaI h) []).map dcR
  rw [List.append_nil,← List.map_append,List.replicate_append_replicate]
 have za:atI [D.int (1+h / 7 % 6),D.int (1+h / 42 % 6)] 0=some (.int (1+h / 7 % 6)):=rfl
 have zb:atI [D.int (1+h / 7 % 6),D.int (1+h / 42 % 6)] 1=some (.int (1+h / 42 % 6)):=rfl
 have s0:sSet 2 (dLst (zac (dOp gAdd (dC (.int 1)) (dOp gMod (dOp zaA (dVar 1) (dC (.int 7))) (dC (.int 6)))) (zac (dOp gAdd (dC (.int 1)) (dOp gMod (dOp zaA (dVar 1) (dC (.int 42))) (dC (.int 6)))) dNil))) [some (.val (.scr ns)),some (.val (.int h)),none,none,none,none,none,none]=.ok (.next [some (.val (.scr ns)),some (.val (.int h)),some (.val (.lst [.int (1+h / 7 % 6),.int (1+h / 42 % 6)])),none,none,none,none,none]):=by simp
 have s1:hLst (ziC (zed [none] (iR1 (zac (dOp gIx (dVar 2) (dC (.int 0))) dNil)) (.one 0) zi5) (ziC (zed [none] (iR1 (zac (dOp gIx (dVar 2) (dC (.int 1))) dNil)) (.one 0) zi5) hNil)) [some (.val (.scr ns)),some (.val (.int h)),some (.val (.lst [.int (1+h / 7 % 6),.int (1+h / 42 % 6)])),none,none,none,none,none]
  = .ok (fun as=>.lst (mkL [(fun as=>.lst (as.map .adr),(List.replicate (zal h) []).map dcR),(fun as=>.lst (as.map .adr),(List.replicate (zaI h) []).map dcR)] as),(filP ns h 0).map dcR):=by
  rw [← os0]
  simp [za,zb,ra,rb,ka,zdV,za4 (show zal h≤1000 by omega),za4 (show zaI h≤1000 by omega)]
 have lf0:=(zd2 ns h 0).1
 rw [show zif=runH 8 2 zjm from rfl,zpN]
 unfold zjm
 rw [zn6,show (some (SV.val (D.scr ns))::some (SV.val (D.int h))::List.replicate (8-2) none:SD)=[some (.val (.scr ns)),some (.val (.int h)),none,none,none,none,none,none] from rfl,s0,Res.bind_ok,ziO]
 unfold zjN
 rw [s1,Res.bind_ok]
 obtain ⟨z,e1,e2,e3⟩:=znM (n:=zal h+zaI h) (j:=3) (y:=(zaV h,(filP ns h (ns.length-1)).map dcR)) (by rw [List.length_map,lf]) (g:=fun as=>(zbh (zcf (iR2 (zac (dC (.int 1)) (zac (dBlt zii (zac (dBlt gLen (zac (dVar 0) dNil)) (zac (dC (.int 63)) dNil))) dNil))) (.one 4) (zbh (s2L (sSet 5 (dOp gIx (dVar 0) (dVar 4)))) (zbh (s2L (sSet 6 (dOp gIx (dVar 3) (dOp gMod (dVar 5) (dC (.int 2)))))) (zbh (s2L (sSet 7 (dOp gAdd (dOp gMod (dOp zaA (dVar 1) (dC (.int 252))) (dC (.int 2))) (dOp gMul (dOp gMod (dOp zaA (dVar 5) (dC (.int 12))) (dOp gAdd (dC (.int 1)) (dOp gMod (dVar 1) (dC (.int 6))))) (dOp gAdd (dC (.int 1)) (dOp gMod (dOp zaA (dVar 1) (dC (.int 504))) (dC (.int 2)))))))) (zdk (dOp gIx (dVar 6) (dOp gMod (dOp zaA (dVar 5) (dC (.int 2))) (dBlt gLen (zac (dVar 6) dNil)))) (dVar 7) (zax F_z7 (zac (dOp gAdd (dOp zaA (dVar 5) (dC (.int 72))) (dOp gMul (dOp gMul (dC (.int 31)) (dVar 4)) (dVar 4))) dNil))))))) zb3)
  (List.set [some (.val (.scr ns)),some (.val (.int h)),some (.val (.lst [.int (1+h / 7 % 6),.int (1+h / 42 % 6)])),none,none,none,none,none] 3 (some (.val (.lst (mkL [(fun as=>.lst (as.map .adr),(List.replicate (zal h) []).map dcR),(fun as=>.lst (as.map .adr),(List.replicate (zaI h) []).map dcR)] as))))) (as.zip ((filP ns h 0).map dcR))) (fun as la nd=>by
  obtain ⟨u,v,w,z,el⟩:=zlA hl h0 nd la (x2:=some (.val (.lst [.int (1+h / 7 % 6),.int (1+h / 42 % 6)]))) (ns.length-1) (by omega)
  refine ⟨[some (.val (.scr ns)),some (.val (.int h)),some (.val (.lst [.int (1+h / 7 % 6),.int (1+h / 42 % 6)])),some (.val (zaV h as)),u,v,w,z],?_,rfl⟩
  show zbh _ _ [some (.val (.scr ns)),some (.val (.int h)),some (.val (.lst [.int (1+h / 7 % 6),.int (1+h / 42 % 6)])),some (.val (.lst (mkL [(fun as=>.lst (as.map .adr),(List.replicate (zal h) []).map dcR),(fun as=>.lst (as.map .adr),(List.replicate (zaI h) []).map dcR)] as))),none,none,none,none] _=_
  rw [mk0 as la,zbr,zcL,show iR2 (zac (dC (.int 1)) (zac (dBlt zii (zac (dBlt gLen (zac (dVar 0) dNil)) (zac (dC (.int 63)) dNil))) dNil)) [some (.val (.scr ns)),some (.val (.int h)),some (.val (.lst [.int (1+h / 7 % 6),.int (1+h / 42 % 6)])),some (.val (.lst [.lst ((as.take (zal h)).map .adr),.lst ((as.drop (zal h)).map .adr)])),none,none,none,none]=.ok (za7 1 (ns.length-1)) by rw [← r0];simp,Res.bind_ok]
  have el':=el
  unfold zaV at el'
  rw [el',Res.bind_ok,zaW,zjZ]
  rfl)
 refine ⟨z,?_,e2,e3⟩
 rw [← e1,List.length_map,lf0]
def G_z8:FS:=(sRet (dBlt zhQ (zac (zbk [none,some 0] (iS (dBlt zcN (zac (dVar 0) dNil))) (.one 0) (dTup (zac (dVar 0) (zac (dOp gIx (dVar 1) (dVar 0)) dNil)))) dNil)))
def F_z8:List D→Res D:=runD 1 1 G_z8
def rowK (r:List (Int×Int)):List (Int×Int):=(zaU ltI (r.map (·.1))).map fun t=>(t,(zam r t).getD 0)
theorem zht (r:List (Int×Int)):(rowK r).map (·.1)=zaU ltI (r.map (·.1)):=by
 unfold rowK
 rw [List.map_map]
 exact List.map_id _
theorem zjD {r:List (Int×Int)}(o:Once r):Rise (rowK r):=by
 unfold Rise
 rw [zht]
 exact (zcx zhb o).imp fun h=>by unfold ltI at h;simpa using h
theorem zhs (r:List (Int×Int)):(rowK r).length=r.length:=by
 unfold rowK
 rw [List.length_map,(zay (ltb:=ltI) _).length_eq,List.length_map]
theorem zj7 {r:List (Int×Int)}(h:r ≠ []):rowK r ≠ []:=fun z=>by
 have:=zhs r
 rw [z] at this
 exact h (List.length_eq_zero_iff.mp this.symm)
theorem f_z8 {r:List (Int×Int)}{d:D}(hd:d=dcR r∨d=dcfR r)(o:Once r)(hl:r.length<64):F_z8 [d]=.ok (rwD (rowK r)):=by
 have key:mapE (.one 0) (dTup (zac (dVar 0) (zac (dOp gIx (dVar 1) (dVar 0)) dNil))) [none,some (.val d)] ((zaU ltI (r.map (·.1))).map .int)=.ok ((zaU ltI (r.map (·.1))).map fun t=>prD (t,(zam r t).getD 0)):=zbw fun t ht=>by
  have hm:t∈r.map (·.1):=(zay (ltb:=ltI) _).mem_iff.mp ht
  obtain ⟨p,hp,rfl⟩:=List.mem_map.mp hm
  have hv:=zbt o p.1
  have hk:=o.look (t:=p.1) (w:=p.2) hp
  rw [hk] at hv
  rcases hd with rfl|rfl
  ·simp [dcR,hv,hk,prD]
  ·simp [dcfR,hv,hk,prD]
 have hs:=zeM hd hl
 have hz:((zaU ltI (r.map (·.1))).map D.int).length<sizeLine:=za4 (by rw [List.length_map,(zay (ltb:=ltI) _).length_eq,List.length_map];omega)
 have e:rwD (rowK r)=.tup ((zaU ltI (r.map (·.1))).map fun t=>prD (t,(zam r t).getD 0)):=by
  unfold rwD rowK
  rw [List.map_map]
  rfl
 rw [e]
 generalize (zaU ltI (r.map (·.1))).map D.int=ks at key hs hz
 simp [F_z8,G_z8,hs,key,hz]
def G_z9:FS:=(sSeq (sSet 2 (dBlt zf2 (zac (dVar 1) dNil))) (sSeq (sFor (iS (dVar 0)) (.tup [3,4]) (sIf (dOrT (zar (dOp (gIn true) (dVar 3) (dVar 2))) (zar (dOp gLt (dOp gIx (dVar 2) (dVar 3)) (dVar 4)))) (sRet (dC (.bl false))) zby)) (sRet (dC (.bl true)))))
def F_z9:List D→Res D:=runD 5 2 G_z9
theorem f_z9 {r o:List (Int×Int)}(ho:Once o)(hl:o.length≤100):F_z9 [rwD r,rwD o]=.ok (.bl (za0 r o)):=by
 have hd:=zcz hl ho
 simp [F_z9,G_z9,hd]
 refine zeP (R:=fun z=>(z.bind (seqK (sRet (dC (.bl true))))).bind outV=.ok (.bl (za0 r o))) (P:=fun i sd=>(∃ u v,sd=[some (.val (rwD r)),some (.val (rwD o)),some (.val (dcR o)),u,v])∧za0 (r.take i) o=true) ⟨⟨none,none,rfl⟩,rfl⟩ ?_ ?_
 ·rintro sd ⟨⟨u,v,rfl⟩,hu⟩
  rw [List.length_map,List.take_length] at hu
  simp [hu]
 ·rintro i x sd hx ⟨⟨u,v,rfl⟩,hu⟩
  obtain ⟨p,hp,rfl⟩:=zeC hx
  have hv:=zbt ho p.1
  cases q:zam o p.1 with
  | none =>
   rw [q] at hv
   have z:okAt o p=false:=by unfold okAt;rw [q]
   rw [zdC hp z]
   exact .inr (.inr ⟨.bl false,by simp [dcR,hv],by simp⟩)
  | some w =>
   rw [q] at hv
   by_cases c:w<p.2
   ·have z:okAt o p=false:=by unfold okAt;rw [q];exact decide_eq_false (by omega)
    rw [zdC hp z]
    exact .inr (.inr ⟨.bl false,by simp [dcR,hv,c],by simp⟩)
   ·have z:okAt o p=true:=by unfold okAt;rw [q];exact decide_eq_true (by omega)
    exact .inl ⟨[some (.val (rwD r)),some (.val (rwD o)),some (.val (dcR o)),some (.val (.int p.1)),some (.val (.int p.2))],.inl (by simp [dcR,hv,c]),⟨_,_,rfl⟩,ziq hp hu z⟩
def zlN:FS:=(sSeq (sOwn 1 (dLst dNil)) (sSeq (sFor (iS (dBlt zdx (zac (dVar 0) dNil))) (.one 2) (sIf (zce (zar (dBlt gAny (zac (zbT [none,some 2] (iS (dVar 0)) (.one 0) (zar (dOp gNe (dVar 0) (dVar 1))) (zax F_z9 (zac (dVar 0) (zac (dVar 1) dNil)))) dNil)))) (zcs 1 (dVar 2)) zby)) (zd0 1)))
def zcO:List D→Res D:=runN 3 1 zlN
theorem znh (rs:List (List (Int×Int)))(row:List (Int×Int)):((rs.filter fun o => !decide (o=row)).map fun o=>za0 o row).any id = !lowQ rs row:=by
 have e:lowQ rs row=((rs.filter fun o => !decide (o=row)).filter fun o=>za0 o row).isEmpty:=by
  unfold lowQ
  rw [List.filter_filter]
  congr 1
  apply List.filter_congr
  intro x _
  rw [Bool.and_comm]
 rw [e,List.any_map]
 generalize rs.filter (fun o => !decide (o=row))=l
 induction l with
 | nil=>rfl
 | cons x l ih =>
  rw [List.any_cons,List.filter_cons]
  cases q:za0 x row with
  | true=>simp [q]
  | false=>simp only [Function.comp_apply,id,q,Bool.false_or];exact ih
theorem zmk (rs:List (List (Int×Int))):(zaU rltB (ST.dedR rs)).filter (lowQ rs)=zbg rs :=
 zcU zbi ((zcx zbi (ST.dedR_nodup rs)).filter _) (zcv rs) fun r=>by
  rw [List.mem_filter,(zay (ltb:=rltB) _).mem_iff,ST.dedR_mem,zaE]
theorem f_z10 {rs:List (List (Int×Int))}(hne:∀ r∈rs,r ≠ [])(ho:∀ r∈rs,Once r)(hl:∀ r∈rs,r.length≤100)(hn:rs.length<64):zcO [frD rs]=.ok (frD (zbg rs)):=by
 have hd:(ST.dedR rs).length≤rs.length:=ST.dedR_len rs
 have hs:=zfm hne (by omega) (by omega)
 obtain ⟨ss,hss⟩:∃ ss,ss=zaU rltB (ST.dedR rs):=⟨_,rfl⟩
 have hm:∀ r∈ss,r∈rs:=fun r hr=>by
  rw [hss,(zay (ltb:=rltB) _).mem_iff,ST.dedR_mem] at hr
  exact hr
 have ls:ss.length≤rs.length:=by rw [hss,(zay (ltb:=rltB) _).length_eq];exact hd
 have lt:=zmk rs
 rw [← hss] at hs lt
 obtain ⟨sd',e,u,hsd⟩:=zhj (tg:=.one 2) (b:=sIf (zce (zar (dBlt gAny (zac (zbT [none,some 2] (iS (dVar 0)) (.one 0) (zar (dOp gNe (dVar 0) (dVar 1))) (zax F_z9 (zac (dVar 0) (zac (dVar 1) dNil)))) dNil)))) (zcs 1 (dVar 2)) zby) (ds:=ss.map rwD) (sd:=[some (.val (.lst (rs.map rwD))),some (.own false (.lst [])),none])
  (P:=fun i sd => ∃ u,sd=[some (.val (.lst (rs.map rwD))),some (.own false (.lst (((ss.take i).filter (lowQ rs)).map rwD))),u]) ⟨none,rfl⟩ (by
   rintro i x sd hx ⟨u,rfl⟩
   refine zc1b (zeC hx) fun row hr zr2 => ?_
   obtain rfl:=zr2
   have hrow:=hm row (List.mem_of_getElem? hr)
   rw [zbn hr,List.filter_append]
   have key:zdl (.one 0) (zar (dOp gNe (dVar 0) (dVar 1))) (zax F_z9 (zac (dVar 0) (zac (dVar 1) dNil))) [none,some (.val (rwD row))] (rs.map rwD)=.ok ((rs.filter fun o => !decide (o=row)).map fun o=>.bl (za0 o row)) :=
    zfz (s:=fun o => [some (.val (rwD o)),some (.val (rwD row))]) (fun o _=>rfl) (fun o _=>by
     have hq:=zkg (zm4 o) (zm4 row)
     rw [zl7] at hq
     simp [hq]) (fun o _ _=>by simp [f_z9 (r:=o) (ho row hrow) (hl row hrow)])
   have e1:(rs.filter fun o => !decide (o=row)).map (fun o=>D.bl (za0 o row))=((rs.filter fun o => !decide (o=row)).map fun o=>za0 o row).map .bl:=by rw [List.map_map];rfl
   have ga:=zfh ((rs.filter fun o => !decide (o=row)).map fun o=>za0 o row)
   rw [← e1,znh] at ga
   have lz:=za4 (show rs.length≤1000 by omega)
   have lk:((ss.take i).filter (lowQ rs)).length≤i:=Nat.le_trans (List.length_filter_le _ _) (by rw [List.length_take];omega)
   have hi:=(List.getElem?_eq_some_iff.mp hr).1
   have kz:=za4 (show ((ss.take i).filter (lowQ rs)).length≤1000 by omega)
   generalize (ss.take i).filter (lowQ rs)=ks at kz
   generalize (rs.filter fun o => !decide (o=row)).map (fun o=>D.bl (za0 o row))=bl at key ga
   cases q:lowQ rs row with
   | true =>
    rw [q] at ga
    refine ⟨[some (.val (.lst (rs.map rwD))),some (.own false (.lst ((ks++[row].filter (lowQ rs)).map rwD))),some (.val (rwD row))],?_,_,rfl⟩
    simp [key,lz,ga,q,kz]
   | false =>
    rw [q] at ga
    refine ⟨[some (.val (.lst (rs.map rwD))),some (.own false (.lst ((ks++[row].filter (lowQ rs)).map rwD))),some (.val (rwD row))],?_,_,rfl⟩
    simp [key,lz,ga,q])
 subst hsd
 rw [List.length_map,List.take_length,lt] at e
 simp [zcO,zlN,frD,hs,e]
def zk9:FS:=(sSeq (sSet 1 (dOp gMod (zax F_z5 (zac (dVar 0) (zac (dC (.int 0)) dNil))) (dOp gPow (dC (.int 10)) (dC (.int 9))))) (znr 2 (znf zif (zac (dVar 0) (zac (dVar 1) dNil))) (zbh (zcf (iS (dVar 2)) (.one 3) (zcf (iS (dVar 3)) (.one 4) (s2If (t2R [4] (zar (dOp gEq (dBlt gLen (zac (dVar 4) dNil)) (dC (.int 0))))) (zdk (dVar 4) (dC (.int 0)) (dC (.int 0))) zb3))) (zbh (s2If (t2L (zar (dOp gGt (dOp gMod (dOp zaA (dVar 1) (dC (.int 1008))) (dC (.int 3))) (dC (.int 0))))) (zcf (iR1 (zac (dBlt gLen (zac (dOp gIx (dVar 2) (dC (.int 1))) dNil)) dNil)) (.one 5) (zbh (s2L (sSet 6 (dOp gIx (dOp gIx (dVar 2) (dC (.int 0))) (dOp gMod (dVar 5) (dBlt gLen (zac (dOp gIx (dVar 2) (dC (.int 0))) dNil)))))) (zdf [2,6] (dVar 6) (.one 7) (s2If (t2R [2] (zar (dOp (gIn true) (dVar 7) (dOp gIx (dOp gIx (dVar 2) (dC (.int 1))) (dVar 5))))) (zdk (dOp gIx (dOp gIx (dVar 2) (dC (.int 1))) (dVar 5)) (dVar 7) (dOp gSub (dOp gAdd (dOp gIx (dVar 6) (dVar 7)) (dOp gMod (dOp gAdd (dOp zaA (dVar 1) (dC (.int 3024))) (dVar 5)) (dC (.int 3)))) (dC (.int 1)))) zb3)))) zb3) (s2F [2] (sRet (zbk [none] (iS (dVar 2)) (.one 0) (zax zcO (zac (zbk [none] (iS (dVar 0)) (.one 0) (zax F_z8 (zac (dVar 0) dNil))) dNil)))))))))
def zhm:List D→Res D:=runN 8 1 zk9
theorem znZ {r s:List (Int×Int)}(h:dcR r=dcR s):r=s:=by
 unfold dcR at h
 obtain ⟨h1,h2⟩:=D.dct.inj h
 have:=zdS r
 rw [h1,h2,zdS s] at this
 exact (Option.some.inj this).symm
def zgH:FS2:=s2If (t2R [4] (zar (dOp gEq (dBlt gLen (zac (dVar 4) dNil)) (dC (.int 0))))) (zdk (dVar 4) (dC (.int 0)) (dC (.int 0))) zb3
theorem zkC {x0 x1 x2 x3 w x5 x6 x7:Option SV}{hp:HP}{a:Addr}{r:List (Int×Int)}(h:hpAt hp a=some (dcR r))(hl:r.length≤1000) :
 zb5 (.one 4) zgH (.adr a) [x0,x1,x2,x3,w,x5,x6,x7] hp=.ok (.next [x0,x1,x2,x3,some (.val (.adr a)),x5,x6,x7] (zaM hp a (dcR (zb2 r)))):=by
 have hd:=ze1 h
 have hg:=zl2 r
 unfold zgH
 by_cases c:r=[]
 ·subst c
  have pt:=zfg (fo:=dVar 4) (fk:=dC (.int 0)) (fv:=dC (.int 0)) (sd:=[x0,x1,x2,x3,some (.val (.adr a)),x5,x6,x7]) (hp:=hp) (a:=a) (r:=[]) (t:=0) (w:=0) rfl rfl h rfl hl
  have ef:putR [] 0 0=zb2 []:=rfl
  rw [ef] at pt
  simp only [zbl,zcX,zhz]
  simp [hd,hg,pt]
 ·have ef:zb2 r=r:=if_neg c
  rw [ef,zcR h]
  simp only [zbl,zcX,zhz]
  simp [hd,hg,c]
theorem zhX (r:List (Int×Int))(h:r.length≤1000):(zb2 r).length≤1000:=by
 unfold zb2
 split
 ·simp
 ·exact h
theorem zdX {x0 x1 x2 x3 x5 x6 x7:Option SV}:∀ (bs:List Addr) (w:Option SV) (hp:HP),(∀ b∈bs,∃ r,hpAt hp b=some (dcR r)∧r.length≤1000)→∃ w' hp',for2 (zb5 (.one 4) zgH) (bs.map .adr) [x0,x1,x2,x3,w,x5,x6,x7] hp=.ok (.next [x0,x1,x2,x3,w',x5,x6,x7] hp') ∧
 ∀ a r,hpAt hp a=some (dcR r)→hpAt hp' a=some (dcR (if a∈bs then zb2 r else r))
 | [],w,hp,_=>⟨w,hp,rfl,fun a r h=>by rw [if_neg (by simp)];exact h⟩
 | b::bs,w,hp,hb=>by
  obtain ⟨rb,h1,h2⟩:=hb b List.mem_cons_self
  have hn:hpAt hp b≠none:=by rw [h1];simp
  have at1:∀ a,hpAt (zaM hp b (dcR (zb2 rb))) a=if a=b then some (dcR (zb2 rb)) else hpAt hp a:=fun a=>zbv a hn
  obtain ⟨w',hp',e,q⟩:=zdX (x0:=x0) (x1:=x1) (x2:=x2) (x3:=x3) (x5:=x5) (x6:=x6) (x7:=x7) bs (some (.val (.adr b))) (zaM hp b (dcR (zb2 rb))) fun c hc=>by
   rw [at1]
   by_cases z:c=b
   ·exact ⟨zb2 rb,if_pos z,zhX _ h2⟩
   ·rw [if_neg z]
    exact hb c (List.mem_cons_of_mem _ hc)
  refine ⟨w',hp',?_,fun a r ha => ?_⟩
  ·rw [List.map_cons,zc3,zkC h1 h2,Res.bind_ok,zcb,e]
  ·by_cases z:a=b
   ·subst z
    rw [h1] at ha
    obtain rfl:=znZ (Option.some.inj ha)
    have:=q a (zb2 rb) (by rw [at1,if_pos rfl])
    rw [this,if_pos List.mem_cons_self]
    by_cases y:a∈bs
    ·rw [if_pos y,zew]
    ·rw [if_neg y]
   ·have:=q a r (by rw [at1,if_neg z];exact ha)
    rw [this]
    by_cases y:a∈bs
    ·rw [if_pos y,if_pos (List.mem_cons_of_mem _ y)]
    ·rw [if_neg y,if_neg fun m=>by rcases List.mem_cons.mp m with t|t;exact z t;exact y t]
theorem zlD {x0 x1 x5 x6 x7:Option SV}{bs cs:List Addr}{hp:HP}(hb:∀ b∈bs,∃ r,hpAt hp b=some (dcR r)∧r.length≤1000)(hc:∀ b∈cs,∃ r,hpAt hp b=some (dcR r)∧r.length≤1000) :
 ∃ u w hp',zcf (iS (dVar 2)) (.one 3) (zcf (iS (dVar 3)) (.one 4) zgH) [x0,x1,some (.val (.lst [.lst (bs.map .adr),.lst (cs.map .adr)])),none,none,x5,x6,x7] hp=.ok (.next [x0,x1,some (.val (.lst [.lst (bs.map .adr),.lst (cs.map .adr)])),u,w,x5,x6,x7] hp') ∧
  ∀ a r,a∈bs∨a∈cs→hpAt hp a=some (dcR r)→hpAt hp' a=some (dcR (zb2 r)):=by
 obtain ⟨w1,hp1,e1,q1⟩:=zdX (x0:=x0) (x1:=x1) (x2:=some (.val (.lst [.lst (bs.map .adr),.lst (cs.map .adr)]))) (x3:=some (.val (.lst (bs.map .adr)))) (x5:=x5) (x6:=x6) (x7:=x7) bs none hp hb
 obtain ⟨w2,hp2,e2,q2⟩:=zdX (x0:=x0) (x1:=x1) (x2:=some (.val (.lst [.lst (bs.map .adr),.lst (cs.map .adr)]))) (x3:=some (.val (.lst (cs.map .adr)))) (x5:=x5) (x6:=x6) (x7:=x7) cs w1 hp1 fun b hbc=>by
  obtain ⟨r,h1,h2⟩:=hc b hbc
  refine ⟨_,q1 b r h1,?_⟩
  split
  ·exact zhX _ h2
  ·exact h2
 refine ⟨some (.val (.lst (cs.map .adr))),w2,hp2,?_,fun a r ha h => ?_⟩
 ·have b1:zb5 (.one 3) (zcf (iS (dVar 3)) (.one 4) zgH) (.lst (bs.map .adr)) [x0,x1,some (.val (.lst [.lst (bs.map .adr),.lst (cs.map .adr)])),none,none,x5,x6,x7] hp=.ok (.next [x0,x1,some (.val (.lst [.lst (bs.map .adr),.lst (cs.map .adr)])),some (.val (.lst (bs.map .adr))),w1,x5,x6,x7] hp1):=by
   rw [zbl,show zaQ (.one 3) (.lst (bs.map .adr)) [x0,x1,some (.val (.lst [.lst (bs.map .adr),.lst (cs.map .adr)])),none,none,x5,x6,x7]=.ok [x0,x1,some (.val (.lst [.lst (bs.map .adr),.lst (cs.map .adr)])),some (.val (.lst (bs.map .adr))),none,x5,x6,x7] from rfl,Res.bind_ok,zcL,
    show iS (dVar 3) [x0,x1,some (.val (.lst [.lst (bs.map .adr),.lst (cs.map .adr)])),some (.val (.lst (bs.map .adr))),none,x5,x6,x7]=.ok (bs.map .adr) from rfl,Res.bind_ok,e1]
  have b2:zb5 (.one 3) (zcf (iS (dVar 3)) (.one 4) zgH) (.lst (cs.map .adr)) [x0,x1,some (.val (.lst [.lst (bs.map .adr),.lst (cs.map .adr)])),some (.val (.lst (bs.map .adr))),w1,x5,x6,x7] hp1=.ok (.next [x0,x1,some (.val (.lst [.lst (bs.map .adr),.lst (cs.map .adr)])),some (.val (.lst (cs.map .adr))),w2,x5,x6,x7] hp2):=by
   rw [zbl,show zaQ (.one 3) (.lst (cs.map .adr)) [x0,x1,some (.val (.lst [.lst (bs.map .adr),.lst (cs.map .adr)])),some (.val (.lst (bs.map .adr))),w1,x5,x6,x7]=.ok [x0,x1,some (.val (.lst [.lst (bs.map .adr),.lst (cs.map .adr)])),some (.val (.lst (cs.map .adr))),w1,x5,x6,x7] from rfl,Res.bind_ok,zcL,
    show iS (dVar 3) [x0,x1,some (.val (.lst [.lst (bs.map .adr),.lst (cs.map .adr)])),some (.val (.lst (cs.map .adr))),w1,x5,x6,x7]=.ok (cs.map .adr) from rfl,Res.bind_ok,e2]
  rw [zcL,show iS (dVar 2) [x0,x1,some (.val (.lst [.lst (bs.map .adr),.lst (cs.map .adr)])),none,none,x5,x6,x7]=.ok [.lst (bs.map .adr),.lst (cs.map .adr)] from rfl,Res.bind_ok,zc3,b1,Res.bind_ok,zcb,zc3,b2,Res.bind_ok,zcb,zlT]
 ·have h1:=q1 a r h
  have h2:=q2 a _ h1
  rw [h2]
  by_cases y:a∈bs
  ·rw [if_pos y]
   split
   ·rw [zew]
   ·rfl
  ·rw [if_neg y]
   rcases ha with z|z
   ·exact absurd z y
   ·rw [if_pos z]
def ziG:FS2:=s2If (t2R [2] (zar (dOp (gIn true) (dVar 7) (dOp gIx (dOp gIx (dVar 2) (dC (.int 1))) (dVar 5))))) (zdk (dOp gIx (dOp gIx (dVar 2) (dC (.int 1))) (dVar 5)) (dVar 7) (dOp gSub (dOp gAdd (dOp gIx (dVar 6) (dVar 7)) (dOp gMod (dOp gAdd (dOp zaA (dVar 1) (dC (.int 3024))) (dVar 5)) (dC (.int 3)))) (dC (.int 1)))) zb3
theorem zcc (p:Addr×D)(r:HP)(a:Addr)(d:D):zaM (p::r) a d=if a=p.1 then (p.1,d)::r else p::zaM r a d:=rfl
theorem zkd {hp:HP}{a:Addr}{d e:D}:zaM (zaM hp a d) a e=zaM hp a e:=by
 induction hp with
 | nil=>rfl
 | cons p r ih =>
  rw [zcc,zcc]
  by_cases z:a=p.1
  ·rw [if_pos z,if_pos z,zcc,if_pos z]
  ·rw [if_neg z,if_neg z,zcc,if_neg z,ih]
theorem zfO {x0 x3 x4 u7:Option SV}{h:Int}{hp:HP}{bm:Addr}{A b:List (Int×Int)}{xs ys:List D}{k:Nat}(hy:ys[k]? = some (.adr bm))(hb:hpAt hp bm=some (dcR b))(oA:SdOk A)(ob:SdOk b)(nb:b ≠ []) :
 ∃ w,for2 (zb5 (.one 7) ziG) ((A.map (·.1)).map .int) [x0,some (.val (.int h)),some (.val (.lst [.lst xs,.lst ys])),x3,x4,some (.val (.int k)),some (.val (dcfR A)),u7] hp
  = .ok (.next [x0,some (.val (.int h)),some (.val (.lst [.lst xs,.lst ys])),x3,x4,some (.val (.int k)),some (.val (dcfR A)),w] (zaM hp bm (dcR ((A.map (·.1)).foldl (addM A ((h / 3024+k) % 3-1)) b)))):=by
 have hn:hpAt hp bm≠none:=by rw [hb];simp
 have ly:=(List.getElem?_eq_some_iff.mp hy).1
 have ay:atI ys (k:Int)=some (.adr bm):=by rw [zbA ly];exact hy
 have a1:atI [D.lst xs,D.lst ys] 1=some (.lst ys):=rfl
 obtain ⟨sd',hp',e,w,rfl,rfl⟩:=zdp (b:=zb5 (.one 7) ziG) (ds:=(A.map (·.1)).map .int) (sd:=[x0,some (.val (.int h)),some (.val (.lst [.lst xs,.lst ys])),x3,x4,some (.val (.int k)),some (.val (dcfR A)),u7]) (hp:=hp)
  (fun i sd hp' => ∃ w,sd=[x0,some (.val (.int h)),some (.val (.lst [.lst xs,.lst ys])),x3,x4,some (.val (.int k)),some (.val (dcfR A)),w]∧hp'=zaM hp bm (dcR (((A.map (·.1)).take i).foldl (addM A ((h / 3024+k) % 3-1)) b))) ⟨u7,rfl,(zcR hb).symm⟩ (by
   rintro i x sd hp' hx ⟨w,rfl,rfl⟩
   obtain ⟨t,ht,rfl⟩:=zeC hx
   rw [zbn ht,List.foldl_append]
   have hm:=oA.mem t (List.mem_of_getElem? ht)
   obtain ⟨oc,nc⟩:=zeJ (a:=A) (c:=(h / 3024+k) % 3-1) (ts:=(A.map (·.1)).take i) ob nb fun x hx=>oA.mem x (List.mem_of_mem_take hx)
   generalize ((A.map (·.1)).take i).foldl (addM A ((h / 3024+k) % 3-1)) b=c at oc nc
   show ∃ sd' hp',_∧∃ w,sd'=_∧hp'=zaM hp bm (dcR (addM A ((h / 3024+k) % 3-1) c t))
   have lc:=oc.len
   have hq:hpAt (zaM hp bm (dcR c)) bm=some (dcR c):=by rw [zbv bm hn,if_pos rfl]
   have hd:der (zaM hp bm (dcR c)) (.lst [.lst xs,.lst ys])=.lst [.lst (ders (zaM hp bm (dcR c)) xs),.lst (ders (zaM hp bm (dcR c)) ys)]:=by rw [zbx,zbf,zbf,zc2,zbx,zbx]
   have hk:atI (ders (zaM hp bm (dcR c)) ys) (k:Int)=some (dcR c):=by
    rw [zcd,zbA (by rw [List.length_map];exact ly),List.getElem?_map,hy]
    exact congrArg some (ze1 hq)
   have a2:∀ p q:D,atI [p,q] 1=some q:=fun p q=>rfl
   have hi:=zkv oc.once true t
   obtain ⟨p,hp1,hp2⟩:=List.mem_map.mp (List.mem_of_getElem? ht)
   have hw:zam A t=some p.2:=by rw [← hp2];exact oA.once.look (t:=p.1) (w:=p.2) hp1
   have hv:=zbt oA.once t
   rw [hw] at hv
   generalize ders (zaM hp bm (dcR c)) ys=ys' at hd hk
   generalize ders (zaM hp bm (dcR c)) xs=xs' at hd
   by_cases cc:(zam c t).isSome=true
   ·rw [cc] at hi
    have ea:addM A ((h / 3024+k) % 3-1) c t=c:=if_pos cc
    rw [ea]
    refine ⟨[x0,some (.val (.int h)),some (.val (.lst [.lst xs,.lst ys])),x3,x4,some (.val (.int k)),some (.val (dcfR A)),some (.val (.int t))],_,?_,_,rfl,rfl⟩
    unfold ziG
    simp only [zbl,zcX,zhz]
    simp [hd,a2,hk,hi]
   ·have c':(zam c t).isSome=false:=by cases q:(zam c t).isSome with
     | true=>exact absurd q cc
     | false=>rfl
    rw [c'] at hi
    have ea:addM A ((h / 3024+k) % 3-1) c t=putR c t (p.2+((h / 3024+k) % 3-1)):=by unfold addM;rw [if_neg cc,hw];rfl
    rw [ea]
    have pt:=zfg (fo:=dOp gIx (dOp gIx (dVar 2) (dC (.int 1))) (dVar 5)) (fk:=dVar 7) (fv:=dOp gSub (dOp gAdd (dOp gIx (dVar 6) (dVar 7)) (dOp gMod (dOp gAdd (dOp zaA (dVar 1) (dC (.int 3024))) (dVar 5)) (dC (.int 3)))) (dC (.int 1)))
     (sd:=[x0,some (.val (.int h)),some (.val (.lst [.lst xs,.lst ys])),x3,x4,some (.val (.int k)),some (.val (dcfR A)),some (.val (.int t))]) (hp:=zaM hp bm (dcR c)) (a:=bm) (r:=c) (t:=t) (w:=p.2+((h / 3024+k) % 3-1)) (by simp [dcfR,hv];omega) (by simp [a1,ay]) hq rfl (by omega)
    rw [zkd] at pt
    refine ⟨[x0,some (.val (.int h)),some (.val (.lst [.lst xs,.lst ys])),x3,x4,some (.val (.int k)),some (.val (dcfR A)),some (.val (.int t))],_,?_,_,rfl,rfl⟩
    unfold ziG
    simp only [zbl,zcX,zhz]
    simp [hd,a2,hk,hi,pt])
 refine ⟨w,?_⟩
 rw [List.length_map,List.take_length] at e
 exact e
def outB:FS2:=zbh (s2L (sSet 6 (dOp gIx (dOp gIx (dVar 2) (dC (.int 0))) (dOp gMod (dVar 5) (dBlt gLen (zac (dOp gIx (dVar 2) (dC (.int 0))) dNil)))))) (zdf [2,6] (dVar 6) (.one 7) ziG)
def zaC (R:Nat→List (Int×Int))(as:List Addr)(m t:Nat):List D:=(List.range m).map fun j=>if j<t then dcfR (R j) else .adr (as.getD j 0)
def newB (h:Int)(m:Nat)(R:Nat→List (Int×Int))(k:Nat):List (Int×Int):=((R (k % m)).map (·.1)).foldl (addM (R (k % m)) ((h / 3024+k) % 3-1)) (R (m+k))
theorem zg5 (R:Nat→List (Int×Int))(as:List Addr)(m t:Nat):(zaC R as m t).length=m:=by unfold zaC;rw [List.length_map,List.length_range]
theorem zlW (R:Nat→List (Int×Int))(as:List Addr){m j:Nat}(t:Nat)(hj:j<m):atI (zaC R as m t) (j:Int)=some (if j<t then dcfR (R j) else .adr (as.getD j 0)):=by
 rw [zbA (by rw [zg5];exact hj)]
 unfold zaC
 rw [List.getElem?_map,List.getElem?_range hj]
 rfl
theorem zdN {as:List Addr}{j:Nat}{a:Addr}(h:as[j]? = some a):as.getD j 0=a:=by rw [List.getD_eq_getElem?_getD,h];rfl
theorem zkm {R:Nat→List (Int×Int)}{as:List Addr}{m k:Nat}{a:Addr}(nd:as.Nodup)(hk:as[k]? = some a)(hm:m≤as.length)(hkm:k<m):(zaC R as m k).map (der [(a,dcfR (R k))])=zaC R as m (k+1):=by
 unfold zaC
 rw [List.map_map]
 refine List.map_congr_left fun j hj => ?_
 have hj:=List.mem_range.mp hj
 show der _ (if j<k then dcfR (R j) else .adr (as.getD j 0))=if j<k+1 then dcfR (R j) else .adr (as.getD j 0)
 by_cases c1:j<k
 ·rw [if_pos c1,if_pos (by omega),zhY]
 ·rw [if_neg c1]
  by_cases c2:j=k
  ·subst c2
   rw [if_pos (by omega),zdN hk]
   exact ze1 (by rw [zan];exact if_pos rfl)
  ·rw [if_neg (by omega)]
   have hja:as[j]? = some as[j]:=List.getElem?_eq_getElem (by omega)
   rw [zdN hja]
   refine zmL ?_
   rw [zan,if_neg fun z=>c2 (zbs nd (by rw [show as[j]=a from z] at hja;exact hja) hk),zhG]
theorem zmf {bs:List Addr}{a:Addr}{d:D}(h:a∉bs):(bs.map D.adr).map (der [(a,d)])=bs.map .adr:=by
 rw [List.map_map]
 refine List.map_congr_left fun b hb => ?_
 refine zmL ?_
 rw [zan,if_neg fun z=>h (by rw [← show b=a from z];exact hb),zhG]
theorem zez {R:Nat→List (Int×Int)}{as:List Addr}{m:Nat}(hm:m≤as.length):zaC R as m 0=(as.take m).map .adr:=by
 unfold zaC
 apply List.ext_getElem?
 intro j
 rw [List.getElem?_map,List.getElem?_map]
 by_cases c:j<m
 ·have hja:as[j]? = some as[j]:=List.getElem?_eq_getElem (by omega)
  rw [List.getElem?_range c,List.getElem?_take_of_lt c,hja]
  show some (if j<0 then _ else D.adr (as.getD j 0))=_
  rw [if_neg (Nat.not_lt_zero _),zdN hja]
  rfl
 ·rw [List.getElem?_eq_none (by rw [List.length_range];omega),List.getElem?_eq_none (by rw [List.length_take];omega)]
  rfl
theorem zlO {x0 x3 x4:Option SV}{h:Int}{as:List Addr}(nd:as.Nodup){m n:Nat}(la:as.length=m+n)(m1:1≤m)(m2:m≤6){R:Nat→List (Int×Int)}(ok:∀ j,SdOk (R j)∧R j ≠ []){hp:HP}(h0:∀ g a,as[g]? = some a→hpAt hp a=some (dcR (R g))) :
 ∃ u5 u6 u7 hp',for2 (zb5 (.one 5) outB) (za7 0 n) [x0,some (.val (.int h)),some (.val (.lst [.lst ((as.take m).map .adr),.lst ((as.drop m).map .adr)])),x3,x4,none,none,none] hp
  = .ok (.next [x0,some (.val (.int h)),some (.val (.lst [.lst (zaC R as m (min n m)),.lst ((as.drop m).map .adr)])),x3,x4,u5,u6,u7] hp') ∧
  (∀ j a,j<n→as[m+j]? = some a→hpAt hp' a=some (dcR (newB h m R j)))∧∀ j a,min n m≤j→j<m→as[j]? = some a→hpAt hp' a=some (dcR (R j)):=by
 have sz:zaC R as m 0=(as.take m).map .adr:=zez (by omega)
 rw [← sz]
 obtain ⟨sd',hp',e,u5,u6,u7,rfl,q1,q2⟩:=zdp (b:=zb5 (.one 5) outB) (ds:=za7 0 n) (sd:=[x0,some (.val (.int h)),some (.val (.lst [.lst (zaC R as m 0),.lst ((as.drop m).map .adr)])),x3,x4,none,none,none]) (hp:=hp)
  (fun k sd hp => ∃ u5 u6 u7,sd=[x0,some (.val (.int h)),some (.val (.lst [.lst (zaC R as m (min k m)),.lst ((as.drop m).map .adr)])),x3,x4,u5,u6,u7]∧(∀ j a,as[m+j]? = some a→hpAt hp a=some (dcR (if j<k then newB h m R j else R (m+j))))∧∀ j a,min k m≤j→j<m→as[j]? = some a→hpAt hp a=some (dcR (R j)))
  ⟨none,none,none,by rw [Nat.zero_min],fun j a ha=>by rw [if_neg (Nat.not_lt_zero _)];exact h0 _ a ha,fun j a _ _ ha=>h0 j a ha⟩ (by
   rintro k x sd hp hx ⟨u5,u6,u7,rfl,q1,q2⟩
   obtain ⟨rfl,hk⟩:=zfp hx
   rw [Int.zero_add]
   have kb:as[m+k]? = some as[m+k]:=List.getElem?_eq_getElem (by omega)
   have hb:=q1 k as[m+k] kb
   rw [if_neg (Nat.lt_irrefl _)] at hb
   have hy:((as.drop m).map D.adr)[k]? = some (.adr as[m+k]):=by rw [List.getElem?_map,List.getElem?_drop,kb];rfl
   have hj0:k % m<m:=Nat.mod_lt _ (by omega)
   have sl:=zg5 R as m (min k m)
   have sa:=zlW R as (min k m) hj0
   have gm:=zgM (i:=(k:Int)) (j:=(m:Int)) (by omega)
   have ea:(k:Int) % (m:Int)=((k % m:Nat):Int):=(Int.natCast_emod k m).symm
   have a0:∀ p q:D,atI [p,q] 0=some p:=fun p q=>rfl
   have gl:gLen [.lst (zaC R as m (min k m))]=some (.int m):=by
    show some (D.int ((zaC R as m (min k m)).length:Nat))=_
    rw [sl]
   obtain ⟨oB,nB⟩:=ok (m+k)
   by_cases c:k<m
   ·have mk:min k m=k:=Nat.min_eq_left (Nat.le_of_lt c)
    have mk1:min (k+1) m=k+1:=Nat.min_eq_left c
    have md:k % m=k:=Nat.mod_eq_of_lt c
    have ka:as[k]? = some as[k]:=List.getElem?_eq_getElem (by omega)
    have hA:=q2 k as[k] (by omega) c ka
    rw [mk] at sa gl ⊢
    rw [md] at sa ea
    rw [if_neg (Nat.lt_irrefl _),zdN ka] at sa
    obtain ⟨oA,nA⟩:=ok k
    have na:as[k]∉as.drop m:=fun z=>by
     obtain ⟨i,hi⟩:=List.mem_iff_getElem?.mp z
     rw [List.getElem?_drop] at hi
     have:=zbs nd ka hi
     omega
    have nb:as[m+k]≠as[k]:=fun z=>by
     have:=zbs nd ka (by rw [← z];exact kb)
     omega
    have hder:der [(as[k],dcfR (R k))] (.lst [.lst (zaC R as m k),.lst ((as.drop m).map .adr)])=.lst [.lst (zaC R as m (k+1)),.lst ((as.drop m).map .adr)]:=by
     rw [zbx,zbf,zbf,zc2,zbx,zbx,zcd,zcd,zkm nd ka (by omega) c,zmf na]
    have hder6:der [(as[k],dcfR (R k))] (.adr as[k])=dcfR (R k):=ze1 (by rw [zan];exact if_pos rfl)
    have hb':hpAt (zel hp as[k]) as[m+k]=some (dcR (R (m+k))):=by rw [zbE,if_neg nb];exact hb
    obtain ⟨w,ew⟩:=zfO (x0:=x0) (x3:=x3) (x4:=x4) (u7:=u7) (h:=h) (xs:=zaC R as m (k+1)) hy hb' oA oB nB
    have s6:sSet 6 (dOp gIx (dOp gIx (dVar 2) (dC (.int 0))) (dOp gMod (dVar 5) (dBlt gLen (zac (dOp gIx (dVar 2) (dC (.int 0))) dNil)))) [x0,some (.val (.int h)),some (.val (.lst [.lst (zaC R as m k),.lst ((as.drop m).map .adr)])),x3,x4,some (.val (.int k)),u6,u7]
     = .ok (.next [x0,some (.val (.int h)),some (.val (.lst [.lst (zaC R as m k),.lst ((as.drop m).map .adr)])),x3,x4,some (.val (.int k)),some (.val (.adr as[k])),u7]):=by
     generalize zaC R as m k=sA at sa gl
     generalize (as.drop m).map D.adr=sB
     simp [a0,gl,gm,ea,sa]
    have hfk:zdf [2,6] (dVar 6) (.one 7) ziG [x0,some (.val (.int h)),some (.val (.lst [.lst (zaC R as m k),.lst ((as.drop m).map .adr)])),x3,x4,some (.val (.int k)),some (.val (.adr as[k])),u7] hp=.ok (.next [x0,some (.val (.int h)),some (.val (.lst [.lst (zaC R as m (k+1)),.lst ((as.drop m).map .adr)])),x3,x4,some (.val (.int k)),some (.val (dcfR (R k))),w] (zaM (zel hp as[k]) as[m+k] (dcR (newB h m R k)))):=by
     rw [ziW (a:=as[k]) (r:=R k) rfl hA]
     have:derI [(as[k],dcfR (R k))] [2,6] [x0,some (.val (.int h)),some (.val (.lst [.lst (zaC R as m k),.lst ((as.drop m).map .adr)])),x3,x4,some (.val (.int k)),some (.val (.adr as[k])),u7]=[x0,some (.val (.int h)),some (.val (.lst [.lst (zaC R as m (k+1)),.lst ((as.drop m).map .adr)])),x3,x4,some (.val (.int k)),some (.val (dcfR (R k))),u7]:=by
      rw [zdz,zdz,zhw]
      show der1 _ 6 (der1 _ 2 _ (some (some (.val (.lst [.lst (zaC R as m k),.lst ((as.drop m).map .adr)]))))) _=_
      rw [zeS,hder]
      show der1 _ 6 _ (some (some (.val (.adr as[k]))))=_
      rw [zeS,hder6]
      rfl
     rw [this,ew]
     unfold newB
     rw [md]
    refine ⟨[x0,some (.val (.int h)),some (.val (.lst [.lst (zaC R as m (min (k+1) m)),.lst ((as.drop m).map .adr)])),x3,x4,some (.val (.int k)),some (.val (dcfR (R k))),w],zaM (zel hp as[k]) as[m+k] (dcR (newB h m R k)),?_,_,_,_,rfl,fun j a ha => ?_,fun j a h1 h2 ha => ?_⟩
    ·rw [mk1,zbl,show zaQ (.one 5) (.int (k:Int)) [x0,some (.val (.int h)),some (.val (.lst [.lst (zaC R as m k),.lst ((as.drop m).map .adr)])),x3,x4,u5,u6,u7]=.ok [x0,some (.val (.int h)),some (.val (.lst [.lst (zaC R as m k),.lst ((as.drop m).map .adr)])),x3,x4,some (.val (.int k)),u6,u7] from rfl,Res.bind_ok]
     unfold outB
     rw [zbr,zg4,s6,Res.bind_ok,zcC,Res.bind_ok,zaW,hfk]
    ·rw [zbv a (by rw [hb'];simp)]
     by_cases z:j=k
     ·subst z
      rw [kb] at ha
      rw [if_pos (Option.some.inj ha).symm,if_pos (by omega)]
     ·rw [if_neg fun y=>z (by rw [y] at ha;have:=zbs nd ha kb;omega),zbE,if_neg fun y=>by rw [y] at ha;have:=zbs nd ka ha;omega]
      rw [q1 j a ha]
      by_cases y:j<k
      ·rw [if_pos y,if_pos (by omega)]
      ·rw [if_neg y,if_neg (by omega)]
    ·rw [mk1] at h1
     rw [zbv a (by rw [hb'];simp),if_neg fun y=>by rw [y] at ha;have:=zbs nd ha kb;omega,zbE,if_neg fun y=>by rw [y] at ha;have:=zbs nd ka ha;omega]
     exact q2 j a (by rw [mk];omega) h2 ha
   ·have mk:min k m=m:=Nat.min_eq_right (by omega)
    have mk1:min (k+1) m=m:=Nat.min_eq_right (by omega)
    rw [mk] at sa gl ⊢
    rw [if_pos hj0] at sa
    obtain ⟨oA,nA⟩:=ok (k % m)
    obtain ⟨w,ew⟩:=zfO (x0:=x0) (x3:=x3) (x4:=x4) (u7:=u7) (h:=h) (xs:=zaC R as m m) hy hb oA oB nB
    have s6:sSet 6 (dOp gIx (dOp gIx (dVar 2) (dC (.int 0))) (dOp gMod (dVar 5) (dBlt gLen (zac (dOp gIx (dVar 2) (dC (.int 0))) dNil)))) [x0,some (.val (.int h)),some (.val (.lst [.lst (zaC R as m m),.lst ((as.drop m).map .adr)])),x3,x4,some (.val (.int k)),u6,u7]
     = .ok (.next [x0,some (.val (.int h)),some (.val (.lst [.lst (zaC R as m m),.lst ((as.drop m).map .adr)])),x3,x4,some (.val (.int k)),some (.val (dcfR (R (k % m)))),u7]):=by
     generalize zaC R as m m=sA at sa gl
     generalize (as.drop m).map D.adr=sB
     simp only [zpF,ev_op,zoY,ev_C,zqd,zoe,zqf]
     simp [a0,gl,gm,ea,-Int.natCast_emod]
     rw [← ea] at sa
     simp [sa]
    refine ⟨[x0,some (.val (.int h)),some (.val (.lst [.lst (zaC R as m (min (k+1) m)),.lst ((as.drop m).map .adr)])),x3,x4,some (.val (.int k)),some (.val (dcfR (R (k % m)))),w],zaM hp as[m+k] (dcR (newB h m R k)),?_,_,_,_,rfl,fun j a ha => ?_,fun j a h1 h2 ha => ?_⟩
    ·rw [mk1,zbl,show zaQ (.one 5) (.int (k:Int)) [x0,some (.val (.int h)),some (.val (.lst [.lst (zaC R as m m),.lst ((as.drop m).map .adr)])),x3,x4,u5,u6,u7]=.ok [x0,some (.val (.int h)),some (.val (.lst [.lst (zaC R as m m),.lst ((as.drop m).map .adr)])),x3,x4,some (.val (.int k)),u6,u7] from rfl,Res.bind_ok]
     unfold outB
     rw [zbr,zg4,s6,Res.bind_ok,zcC,Res.bind_ok,zaW,zik (r:=R (k % m)) rfl,ew]
     rfl
    ·rw [zbv a (by rw [hb];simp)]
     by_cases z:j=k
     ·subst z
      rw [kb] at ha
      rw [if_pos (Option.some.inj ha).symm,if_pos (by omega)]
     ·rw [if_neg fun y=>z (by rw [y] at ha;have:=zbs nd ha kb;omega),q1 j a ha]
      by_cases y:j<k
      ·rw [if_pos y,if_pos (by omega)]
      ·rw [if_neg y,if_neg (by omega)]
    ·omega)
 rw [zdV] at e q1 q2
 refine ⟨u5,u6,u7,hp',e,fun j a hj ha => ?_,q2⟩
 rw [q1 j a ha,if_pos hj]
theorem zeI {r:List (Int×Int)}(h:SdOk r)(n:r ≠ []):RowOk 12 (rowK r)∧Rise (rowK r):=by
 have ri:=zjD h.once
 have hl:=h.len
 refine ⟨⟨zj7 n,zgb ri,fun p hp => ?_,by rw [zhs];exact hl⟩,ri⟩
 have:p.1∈(rowK r).map (·.1):=List.mem_map.mpr ⟨p,hp,rfl⟩
 rw [zht,(zay (ltb:=ltI) _).mem_iff] at this
 exact h.mem _ this
theorem zfJ {R:Nat→List (Int×Int)}{as:List Addr}{m t:Nat}{hp:HP}(hm:m≤as.length)(h:∀ j a,t≤j→j<m→as[j]? = some a→hpAt hp a=some (dcR (R j))):ders hp (zaC R as m t)=(List.range m).map fun j=>if j<t then dcfR (R j) else dcR (R j):=by
 rw [zcd]
 unfold zaC
 rw [List.map_map]
 refine List.map_congr_left fun j hj => ?_
 have hj:=List.mem_range.mp hj
 show der hp (if j<t then dcfR (R j) else .adr (as.getD j 0))=_
 by_cases c:j<t
 ·rw [if_pos c,if_pos c,zhY]
 ·have hja:as[j]? = some as[j]:=List.getElem?_eq_getElem (by omega)
  rw [if_neg c,if_neg c,zdN hja]
  exact ze1 (h j _ (by omega) hj hja)
theorem zhO {B:Nat→List (Int×Int)}{as:List Addr}{m n:Nat}{hp:HP}(la:as.length=m+n)(h:∀ j a,j<n→as[m+j]? = some a→hpAt hp a=some (dcR (B j))):ders hp ((as.drop m).map .adr)=(List.range n).map fun j=>dcR (B j):=by
 rw [zcd,List.map_map]
 apply List.ext_getElem?
 intro j
 rw [List.getElem?_map,List.getElem?_map,List.getElem?_drop]
 by_cases c:j<n
 ·have hja:as[m+j]? = some as[m+j]:=List.getElem?_eq_getElem (by omega)
  rw [hja,List.getElem?_range c]
  exact congrArg some (ze1 (h j _ c hja))
 ·rw [List.getElem?_eq_none (by omega),List.getElem?_eq_none (by rw [List.length_range];omega)]
  rfl
theorem zge {x0 x1 x3 x4 x5 x6 x7:Option SV}{hp:HP}{xs ys:List D}{m n t:Nat}{R B:Nat→List (Int×Int)}(m1:1≤m)(m2:m≤6)(n1:1≤n)(n2:n≤6)(okR:∀ j,SdOk (R j)∧R j ≠ [])(okB:∀ j,SdOk (B j)∧B j ≠ [])
 (hx:ders hp xs=(List.range m).map fun j=>if j<t then dcfR (R j) else dcR (R j)) (hy:ders hp ys=(List.range n).map fun j=>dcR (B j)) :
 s2F [2] (sRet (zbk [none] (iS (dVar 2)) (.one 0) (zax zcO (zac (zbk [none] (iS (dVar 0)) (.one 0) (zax F_z8 (zac (dVar 0) dNil))) dNil)))) [x0,x1,some (.val (.lst [.lst xs,.lst ys])),x3,x4,x5,x6,x7] hp
  = .ok (.ret (.lst [frD (zbg ((List.range m).map fun j=>rowK (R j))),frD (zbg ((List.range n).map fun j=>rowK (B j)))])):=by
 have hd:der hp (.lst [.lst xs,.lst ys])=.lst [.lst (ders hp xs),.lst (ders hp ys)]:=by rw [zbx,zbf,zbf,zc2,zbx,zbx]
 have k1:mapE (.one 0) (zax F_z8 (zac (dVar 0) dNil)) [none] (ders hp xs)=.ok ((List.range m).map fun j=>rwD (rowK (R j))):=by
  rw [hx]
  refine zbw fun j _ => ?_
  obtain ⟨o,_⟩:=okR j
  have:=o.len
  have q:=f_z8 (r:=R j) (d:=if j<t then dcfR (R j) else dcR (R j)) (by split;exact .inr rfl;exact .inl rfl) o.once (by omega)
  generalize (if j<t then dcfR (R j) else dcR (R j))=d at q
  simp [q]
 have k2:mapE (.one 0) (zax F_z8 (zac (dVar 0) dNil)) [none] (ders hp ys)=.ok ((List.range n).map fun j=>rwD (rowK (B j))):=by
  rw [hy]
  refine zbw fun j _ => ?_
  obtain ⟨o,_⟩:=okB j
  have:=o.len
  have q:=f_z8 (r:=B j) (d:=dcR (B j)) (.inl rfl) o.once (by omega)
  generalize dcR (B j)=d at q
  simp [q]
 have lx:(ders hp xs).length=m:=by rw [hx,List.length_map,List.length_range]
 have ly:(ders hp ys).length=n:=by rw [hy,List.length_map,List.length_range]
 have th:∀ {m:Nat} {R:Nat→List (Int×Int)},m≤6→(∀ j,SdOk (R j)∧R j ≠ [])→zcO [.lst ((List.range m).map fun j=>rwD (rowK (R j)))]=.ok (frD (zbg ((List.range m).map fun j=>rowK (R j)))):=fun {m R} hm ok=>by
  have:=f_z10 (rs:=(List.range m).map fun j=>rowK (R j)) (fun r hr=>by obtain ⟨j,_,rfl⟩:=List.mem_map.mp hr;exact zj7 (ok j).2) (fun r hr=>by obtain ⟨j,_,rfl⟩:=List.mem_map.mp hr;exact (zeI (ok j).1 (ok j).2).1.once) (fun r hr=>by obtain ⟨j,_,rfl⟩:=List.mem_map.mp hr;have:=(zeI (ok j).1 (ok j).2).1.len;omega) (by rw [List.length_map,List.length_range];omega)
  unfold frD at this ⊢
  rw [List.map_map] at this
  exact this
 have t1:=th m2 okR
 have t2:=th n2 okB
 have z1:=za4 (show m≤1000 by omega)
 have z2:=za4 (show n≤1000 by omega)
 generalize (List.range m).map (fun j=>rwD (rowK (R j)))=r1 at k1 t1
 generalize (List.range n).map (fun j=>rwD (rowK (B j)))=r2 at k2 t2
 generalize ders hp xs=X at hd k1 lx
 generalize ders hp ys=Y at hd k2 ly
 subst lx ly
 have g1:zax zcO (zac (zbk [none] (iS (dVar 0)) (.one 0) (zax F_z8 (zac (dVar 0) dNil))) dNil) [some (.val (.lst X))]=.ok (frD (zbg ((List.range X.length).map fun j=>rowK (R j)))):=by simp [k1,z1,t1]
 have g2:zax zcO (zac (zbk [none] (iS (dVar 0)) (.one 0) (zax F_z8 (zac (dVar 0) dNil))) dNil) [some (.val (.lst Y))]=.ok (frD (zbg ((List.range Y.length).map fun j=>rowK (B j)))):=by simp [k2,z2,t2]
 have km:mapE (.one 0) (zax zcO (zac (zbk [none] (iS (dVar 0)) (.one 0) (zax F_z8 (zac (dVar 0) dNil))) dNil)) [none] [.lst X,.lst Y]=.ok [frD (zbg ((List.range X.length).map fun j=>rowK (R j))),frD (zbg ((List.range Y.length).map fun j=>rowK (B j)))]:=by
  show mapD _ _=_
  unfold mapD mapD mapD
  rw [show (zaQ (.one 0) (.lst X) [none]).bind (zax zcO (zac (zbk [none] (iS (dVar 0)) (.one 0) (zax F_z8 (zac (dVar 0) dNil))) dNil))=_ from g1,Res.bind_ok,show (zaQ (.one 0) (.lst Y) [none]).bind (zax zcO (zac (zbk [none] (iS (dVar 0)) (.one 0) (zax F_z8 (zac (dVar 0) dNil))) dNil))=_ from g2]
  rfl
 rw [zpS,zdz,zhw]
 show ((sRet _ (der1 hp 2 _ (some (some (.val (.lst [.lst xs,.lst ys])))))).bind _)=_
 rw [zeS,hd]
 show ((sRet _ [x0,x1,some (.val (.lst [.lst X,.lst Y])),x3,x4,x5,x6,x7]).bind _)=_
 rw [zpM,znn,show iS (dVar 2) [x0,x1,some (.val (.lst [.lst X,.lst Y])),x3,x4,x5,x6,x7]=.ok [.lst X,.lst Y] from rfl,Res.bind_ok,if_pos ⟨rfl,za4 (show 2≤1000 by decide)⟩]
 rw [show capD [none] [x0,x1,some (.val (.lst [.lst X,.lst Y])),x3,x4,x5,x6,x7]=[none] from rfl,km]
 rfl
theorem zdn {ns:List Int}(hl:ns.length≤63):∃ f0 f1,zhm [.scr ns]=.ok (.lst [frD f0,frD f1])∧(Good 12 f0∧f0.length≤6)∧Good 12 f1∧f1.length≤6:=by
 obtain ⟨h,hh⟩:∃ h,h=zmY ns 0 % 10 ^ 9:=⟨_,rfl⟩
 have h0:0≤h:=by rw [hh];exact Int.emod_nonneg _ (by decide)
 obtain ⟨p1,p2,p3⟩:=zdt h
 obtain ⟨q1,q2,q3⟩:=zds h
 obtain ⟨z,ez,ez2,ez1⟩:=f_z11 hl h0
 obtain ⟨lf,okf⟩:=zd2 ns h (ns.length-1)
 generalize filP ns h (ns.length-1)=rs at ez2 lf okf
 obtain ⟨R,hR⟩:∃ R:Nat→List (Int×Int),R=fun g=>zb2 (rs.getD g []):=⟨_,rfl⟩
 have okR:∀ j,SdOk (R j)∧R j ≠ []:=fun j=>by rw [hR];exact zmp (zhf okf j)
 obtain ⟨B,hB⟩:∃ B:Nat→List (Int×Int),B=fun j=>if 0<h / 1008 % 3 then newB h (zal h) R j else R (zal h+j):=⟨_,rfl⟩
 have okB:∀ j,SdOk (B j)∧B j ≠ []:=fun j=>by
  rw [hB]
  show SdOk (if 0<h / 1008 % 3 then _ else _)∧(if 0<h / 1008 % 3 then _ else _) ≠ []
  split
  ·exact zeJ (okR _).1 (okR _).2 (okR _).1.mem
  ·exact okR _
 have gd:∀ {m:Nat} {R:Nat→List (Int×Int)},1≤m→m≤6→(∀ j,SdOk (R j)∧R j ≠ [])→Good 12 (zbg ((List.range m).map fun j=>rowK (R j)))∧(zbg ((List.range m).map fun j=>rowK (R j))).length≤6:=fun {m R} h1 h2 ok=>by
  refine ⟨?_,Nat.le_trans (zfC _) (by rw [List.length_map,List.length_range];exact h2)⟩
  exact zkY (fun r hr=>by obtain ⟨j,_,rfl⟩:=List.mem_map.mp hr;exact (zeI (ok j).1 (ok j).2).1) (fun r hr=>by obtain ⟨j,_,rfl⟩:=List.mem_map.mp hr;exact (zeI (ok j).1 (ok j).2).2) (by rw [List.length_map,List.length_range];omega) (fun y=>by
   have:=congrArg List.length y
   rw [List.length_map,List.length_range] at this
   simp at this
   omega)
 refine ⟨zbg ((List.range (zal h)).map fun j=>rowK (R j)),zbg ((List.range (zaI h)).map fun j=>rowK (B j)),?_,gd p1 p2 okR,gd q1 q2 okB⟩
 have key:∀ as:List Addr,as.length=zal h+zaI h→as.Nodup→(zbh (zcf (iS (dVar 2)) (.one 3) (zcf (iS (dVar 3)) (.one 4) zgH)) (zbh (s2If (t2L (zar (dOp gGt (dOp gMod (dOp zaA (dVar 1) (dC (.int 1008))) (dC (.int 3))) (dC (.int 0))))) (zcf (iR1 (zac (dBlt gLen (zac (dOp gIx (dVar 2) (dC (.int 1))) dNil)) dNil)) (.one 5) outB) zb3) (s2F [2] (sRet (zbk [none] (iS (dVar 2)) (.one 0) (zax zcO (zac (zbk [none] (iS (dVar 0)) (.one 0) (zax F_z8 (zac (dVar 0) dNil))) dNil)))))) [some (.val (.scr ns)),some (.val (.int h)),some (.val (z.1 as)),none,none,none,none,none] (as.zip z.2)).bind ret2
  = .ok (.ret (.lst [frD (zbg ((List.range (zal h)).map fun j=>rowK (R j))),frD (zbg ((List.range (zaI h)).map fun j=>rowK (B j)))])):=by
  intro as la nd
  rw [ez1 as la nd,ez2]
  have at0:∀ g a,as[g]? = some a→hpAt (as.zip (rs.map dcR)) a=some (dcR (rs.getD g [])):=fun g a ha=>by
   have hg:=(List.getElem?_eq_some_iff.mp ha).1
   have hr:rs[g]? = some rs[g]:=List.getElem?_eq_getElem (by omega)
   refine zeX nd ha ?_
   rw [List.getElem?_map,hr,List.getD_eq_getElem?_getD,hr]
   rfl
  have mem:∀ a∈as,∃ r,hpAt (as.zip (rs.map dcR)) a=some (dcR r)∧r.length≤1000:=fun a ha=>by
   obtain ⟨g,hg⟩:=List.mem_iff_getElem?.mp ha
   have:=(zhf okf g).len
   exact ⟨_,at0 g a hg,by omega⟩
  obtain ⟨u,w,hp1,e1,qf⟩:=zlD (x0:=some (.val (.scr ns))) (x1:=some (.val (.int h))) (x5:=none) (x6:=none) (x7:=none) (bs:=as.take (zal h)) (cs:=as.drop (zal h)) (hp:=as.zip (rs.map dcR)) (fun b hb=>mem b (List.mem_of_mem_take hb)) fun b hb=>mem b (List.mem_of_mem_drop hb)
  have atR:∀ g a,as[g]? = some a→hpAt hp1 a=some (dcR (R g)):=fun g a ha=>by
   rw [hR]
   refine qf a _ ?_ (at0 g a ha)
   have:a∈as.take (zal h)++as.drop (zal h):=by rw [List.take_append_drop];exact List.mem_of_getElem? ha
   exact List.mem_append.mp this
  unfold zaV
  rw [zbr,e1,Res.bind_ok,zaW,zbr]
  by_cases c:0<h / 1008 % 3
  ·obtain ⟨u5,u6,u7,hp2,e2,b1,b2⟩:=zlO (x0:=some (.val (.scr ns))) (x3:=u) (x4:=w) (h:=h) nd la p1 p2 okR atR
   have tst:s2If (t2L (zar (dOp gGt (dOp gMod (dOp zaA (dVar 1) (dC (.int 1008))) (dC (.int 3))) (dC (.int 0))))) (zcf (iR1 (zac (dBlt gLen (zac (dOp gIx (dVar 2) (dC (.int 1))) dNil)) dNil)) (.one 5) outB) zb3 [some (.val (.scr ns)),some (.val (.int h)),some (.val (.lst [.lst ((as.take (zal h)).map .adr),.lst ((as.drop (zal h)).map .adr)])),u,w,none,none,none] hp1
    = .ok (.next [some (.val (.scr ns)),some (.val (.int h)),some (.val (.lst [.lst (zaC R as (zal h) (min (zaI h) (zal h))),.lst ((as.drop (zal h)).map .adr)])),u,w,u5,u6,u7] hp2):=by
    have t1:zar (dOp gGt (dOp gMod (dOp zaA (dVar 1) (dC (.int 1008))) (dC (.int 3))) (dC (.int 0))) [some (.val (.scr ns)),some (.val (.int h)),some (.val (.lst [.lst ((as.take (zal h)).map .adr),.lst ((as.drop (zal h)).map .adr)])),u,w,none,none,none]=.ok true:=by simp [c]
    have ld:((as.drop (zal h)).map D.adr).length=zaI h:=by rw [List.length_map,List.length_drop];omega
    have gl:gLen [.lst ((as.drop (zal h)).map D.adr)]=some (.int (zaI h)):=by
     show some (D.int (((as.drop (zal h)).map D.adr).length:Nat))=_
     rw [ld]
    have r1:zdc [.int (zaI h:Int)]=.ok (za7 0 (zaI h)):=by rw [zca (by omega) (by omega)];rfl
    have t2:iR1 (zac (dBlt gLen (zac (dOp gIx (dVar 2) (dC (.int 1))) dNil)) dNil) [some (.val (.scr ns)),some (.val (.int h)),some (.val (.lst [.lst ((as.take (zal h)).map .adr),.lst ((as.drop (zal h)).map .adr)])),u,w,none,none,none]=.ok (za7 0 (zaI h)):=by
     have a1:∀ p q:D,atI [p,q] 1=some q:=fun p q=>rfl
     generalize (as.drop (zal h)).map D.adr=Y at gl
     generalize (as.take (zal h)).map D.adr=X
     simp [a1,gl,r1]
    rw [zcX,zmW,t1,Res.bind_ok,if_pos rfl,zcL,t2,Res.bind_ok,e2]
   have hB':∀ j,B j=newB h (zal h) R j:=fun j=>by rw [hB];exact if_pos c
   rw [tst,Res.bind_ok,zaW,zge p1 p2 q1 q2 okR okB (t:=min (zaI h) (zal h)) (zfJ (by omega) b2) (zhO la fun j a hj ha=>by rw [hB'];exact b1 j a hj ha)]
   rfl
  ·have tst:s2If (t2L (zar (dOp gGt (dOp gMod (dOp zaA (dVar 1) (dC (.int 1008))) (dC (.int 3))) (dC (.int 0))))) (zcf (iR1 (zac (dBlt gLen (zac (dOp gIx (dVar 2) (dC (.int 1))) dNil)) dNil)) (.one 5) outB) zb3 [some (.val (.scr ns)),some (.val (.int h)),some (.val (.lst [.lst ((as.take (zal h)).map .adr),.lst ((as.drop (zal h)).map .adr)])),u,w,none,none,none] hp1
    = .ok (.next [some (.val (.scr ns)),some (.val (.int h)),some (.val (.lst [.lst ((as.take (zal h)).map .adr),.lst ((as.drop (zal h)).map .adr)])),u,w,none,none,none] hp1):=by
    have t1:zar (dOp gGt (dOp gMod (dOp zaA (dVar 1) (dC (.int 1008))) (dC (.int 3))) (dC (.int 0))) [some (.val (.scr ns)),some (.val (.int h)),some (.val (.lst [.lst ((as.take (zal h)).map .adr),.lst ((as.drop (zal h)).map .adr)])),u,w,none,none,none]=.ok false:=by simp [c]
    rw [zcX,zmW,t1,Res.bind_ok]
    rfl
   have hB':∀ j,B j=R (zal h+j):=fun j=>by rw [hB];exact if_neg c
   rw [tst,Res.bind_ok,zaW,← zez (R:=R) (show zal h≤as.length by omega),zge p1 p2 q1 q2 okR okB (t:=0) (zfJ (by omega) fun j a _ _ ha=>atR j a ha) (zhO la fun j a _ ha=>by rw [hB'];exact atR _ a ha)]
   rfl
 have lz:z.2.length=zal h+zaI h:=by rw [ez2,List.length_map,lf]
 have all:=zov key
 have hcell:=f_z5 ns 0
 rw [show ((0:Nat):Int)=0 from rfl] at hcell
 have hpw:gPow (.int 10) (.int 9)=some (.int (10 ^ 9)):=rfl
 have s1:sSet 1 (dOp gMod (zax F_z5 (zac (dVar 0) (zac (dC (.int 0)) dNil))) (dOp gPow (dC (.int 10)) (dC (.int 9)))) [some (.val (.scr ns)),none,none,none,none,none,none,none]=.ok (.next [some (.val (.scr ns)),some (.val (.int h)),none,none,none,none,none,none]):=by
  rw [hh]
  simp [hcell,hpw]
 rw [show zhm=runN 8 1 zk9 from rfl,zpj]
 unfold zk9
 rw [show (some (SV.val (D.scr ns))::List.replicate (8-1) none:SD)=[some (.val (.scr ns)),none,none,none,none,none,none,none] from rfl,zpe,s1,Res.bind_ok,zkT]
 unfold znr
 rw [show znf zif (zac (dVar 0) (zac (dVar 1) dNil)) [some (.val (.scr ns)),some (.val (.int h)),none,none,none,none,none,none]=.ok z from ez,Res.bind_ok,lz]
 exact (congrArg (fun z=>Res.bind z outN) all).trans rfl
theorem f_z12 {ns:List Int}(hl:ns.length≤63):∃ f0 f1,zhm [.scr ns]=.ok (.lst [frD f0,frD f1])∧Good 12 f0∧Good 12 f1:=by
 obtain ⟨f0,f1,h,a,b⟩:=zdn hl
 exact ⟨f0,f1,h,a.1,b.1⟩
def G_z4:FS:=(sSeq (sSet 2 (dBlt zf2 (zac (dVar 1) dNil))) (sSeq (sFor (iS (dVar 0)) (.tup [3,4]) (sIf (zar (dOp (gIn true) (dVar 3) (dVar 2))) (sRet (dC .non)) zby)) (sRet (dBlt zgK (zac (zbk [none,none,some 2] (iS (dVar 0)) (.tup [0,1]) (dOp gSub (dVar 1) (dOp gIx (dVar 2) (dVar 0)))) dNil)))))
def F_z4:List D→Res D:=runD 5 2 G_z4
def lagF (r o:List (Int×Int)):Option Int:=if r.all (fun p=>(zam o p.1).isSome) then some (maxI (r.map fun p=>p.2-(zam o p.1).getD 0)) else none
noncomputable def optI:Option Int→D
 | none=>.non
 | some i=>.int i
theorem zlP {r o:List (Int×Int)}{p:Int×Int}(hp:p∈r)(q:zam o p.1=none):r.all (fun p=>(zam o p.1).isSome)=false:=by
 rw [Bool.eq_false_iff]
 intro z
 have:=List.all_eq_true.mp z p hp
 rw [q] at this
 exact Bool.false_ne_true this
theorem f_z4 {r o:List (Int×Int)}(hr:r ≠ [])(hl:r.length≤1000)(hlo:o.length≤100)(ho:Once o):F_z4 [rwD r,rwD o]=.ok (optI (lagF r o)):=by
 simp [F_z4,G_z4,zcz hlo ho]
 generalize hK:sRet (dBlt zgK _)=K
 refine zeP (R:=fun z=>(z.bind (seqK K)).bind outV=.ok (optI (lagF r o))) (P:=fun i sd=>(∃ u v,sd=[some (.val (rwD r)),some (.val (rwD o)),some (.val (dcR o)),u,v])∧(r.take i).all (fun p=>(zam o p.1).isSome)=true) ⟨⟨none,none,rfl⟩,rfl⟩ ?_ ?_
 ·rintro sd ⟨⟨u,v,rfl⟩,hu⟩
  rw [List.length_map,List.take_length] at hu
  subst hK
  have key:mapE (.tup [0,1]) (dOp gSub (dVar 1) (dOp gIx (dVar 2) (dVar 0))) [none,none,some (.val (dcR o))] (r.map prD)=.ok (r.map fun p=>.int (p.2-(zam o p.1).getD 0)):=zbw fun p hp=>by
   have hv:=zbt ho p.1
   cases q:zam o p.1 with
   | none =>
    have:=List.all_eq_true.mp hu p hp
    rw [q] at this
    exact absurd this Bool.false_ne_true
   | some w =>
    rw [q] at hv
    simp [dcR,hv]
  have e:r.map (fun p=>D.int (p.2-(zam o p.1).getD 0))=(r.map fun p=>p.2-(zam o p.1).getD 0).map .int:=by rw [List.map_map];rfl
  have hm:=zev (ns:=r.map fun p=>p.2-(zam o p.1).getD 0) (fun z=>hr (List.map_eq_nil_iff.mp z))
  rw [← e] at hm
  simp [rwD,key,za4 hl,hm,lagF,hu,optI]
 ·rintro i x sd hx ⟨⟨u,v,rfl⟩,hu⟩
  obtain ⟨p,hp,rfl⟩:=zeC hx
  have hv:=zbt ho p.1
  cases q:zam o p.1 with
  | none =>
   rw [q] at hv
   have z:=zlP (List.mem_of_getElem? hp) q
   exact .inr (.inr ⟨.non,by simp [dcR,hv],by simp [lagF,z,optI]⟩)
  | some w =>
   rw [q] at hv
   refine .inl ⟨[some (.val (rwD r)),some (.val (rwD o)),some (.val (dcR o)),some (.val (.int p.1)),some (.val (.int p.2))],.inl (by simp [dcR,hv]),⟨_,_,rfl⟩,?_⟩
   rw [zbn hp,List.all_append,hu]
   simp [q]
def G_z3:FS:=(sSeq (sSet 2 (dC .non)) (sSeq (sFor (iEn (zac (dVar 0) dNil)) (.tup [3,4]) (sSeq (sSet 5 (zax F_z4 (zac (dVar 4) (zac (dVar 1) dNil)))) (sIf (zof (zar (dUn (gIsN true) (dVar 5))) (dOrT (zar (dUn (gIsN false) (dVar 2))) (zar (dOp gLt (dVar 5) (dOp gIx (dVar 2) (dC (.int 0))))))) (sSet 2 (dTup (zac (dVar 5) (zac (dVar 3) dNil)))) zby))) (sRet (dVar 2))))
def F_z3:List D→Res D:=runD 6 2 G_z3
noncomputable def zgE (told:Option (Int×Int))(m:Option Int)(i:Int):Option (Int×Int):=match m with
 | none=>told
 | some m=>match told with
  | none=>some (m,i)
  | some t=>if m<t.1 then some (m,i) else some t
def zbp (rs:List (List (Int×Int)))(o:List (Int×Int)):Nat→Option (Int×Int)
 | 0=>none
 | i+1=>zgE (zbp rs o i) ((rs[i]?).bind fun r=>lagF r o) i
def zat (rs:List (List (Int×Int)))(o:List (Int×Int)):Option (Int×Int):=zbp rs o rs.length
def optP:Option (Int×Int)→D
 | none=>.non
 | some p=>prD p
theorem f_z3 {rs:List (List (Int×Int))}{o:List (Int×Int)}(hr:∀ r∈rs,r ≠ []∧r.length≤1000)(hlo:o.length≤100)(ho:Once o):F_z3 [.lst (rs.map rwD),rwD o]=.ok (optP (zat rs o)):=by
 simp [F_z3,G_z3]
 generalize hB:sSeq _ _=b
 obtain ⟨sd',e,u,v,w,hsd⟩:=zhj (tg:=.tup [3,4]) (b:=b) (ds:=zfD (rs.map rwD)) (sd:=[some (.val (.lst (rs.map rwD))),some (.val (rwD o)),some (.val .non),none,none,none])
  (P:=fun i sd => ∃ u v w,sd=[some (.val (.lst (rs.map rwD))),some (.val (rwD o)),some (.val (optP (zbp rs o i))),u,v,w]) ⟨none,none,none,rfl⟩ (by
   rintro i x sd hx ⟨u,v,w,rfl⟩
   rw [zhy] at hx
   obtain ⟨y,hy,rfl⟩:=Option.map_eq_some_iff.mp hx
   obtain ⟨r,hp,rfl⟩:=zeC hy
   obtain ⟨h1,h2⟩:=hr r (List.mem_of_getElem? hp)
   have hf:=f_z4 h1 h2 hlo ho
   have en:zbp rs o (i+1)=zgE (zbp rs o i) (lagF r o) i:=by
    show zgE (zbp rs o i) ((rs[i]?).bind fun r=>lagF r o) i=_
    rw [hp]
    rfl
   subst hB
   cases q:lagF r o with
   | none =>
    rw [q] at hf en
    refine ⟨_,by simp [hf,optI];rfl,?_⟩
    exact ⟨_,_,_,by rw [en];rfl⟩
   | some m =>
    rw [q] at hf en
    cases t:zbp rs o i with
    | none =>
     rw [t] at en
     refine ⟨_,by simp [hf,optI,optP];rfl,?_⟩
     exact ⟨_,_,_,by rw [en];rfl⟩
    | some t' =>
     rw [t] at en
     have ha:atI [D.int t'.1,D.int t'.2] 0=some (D.int t'.1):=rfl
     by_cases c:m<t'.1
     ·have e2:zbp rs o (i+1)=some (m,(i:Int)):=by rw [en];show (if m<t'.1 then _ else _)=_;rw [if_pos c]
      refine ⟨_,by simp [hf,optI,optP,prD,ha,c];rfl,?_⟩
      exact ⟨_,_,_,by rw [e2];rfl⟩
     ·have e2:zbp rs o (i+1)=some t':=by rw [en];show (if m<t'.1 then _ else _)=_;rw [if_neg c]
      refine ⟨_,by simp [hf,optI,optP,prD,ha,c];rfl,?_⟩
      exact ⟨_,_,_,by rw [e2];rfl⟩)
 rw [e,hsd,zg3,List.length_map]
 simp [zat]
def zc1 (rs os:List (List (Int×Int))):Option Int:=if os.all (fun o=>(zat rs o).isSome) then some (maxI (os.map fun o=>((zat rs o).getD (0,0)).1)) else none
theorem znK {r o:List (Int×Int)}{m:Int}(h:lagF r o=some m):∀ p∈r,∃ w,zam o p.1=some w∧p.2-w≤m:=by
 unfold lagF at h
 split at h
 ·rename_i c
  first|exact zqn h|exact zqb h|(obtain rfl:=Option.some.inj h)|cases h
  intro p hp
  have hs:=List.all_eq_true.mp c p hp
  cases q:zam o p.1 with
  | none=>rw [q] at hs;exact absurd hs Bool.false_ne_true
  | some w =>
   refine ⟨w,rfl,?_⟩
   have:=(zbS (l:=r.map fun p=>p.2-(zam o p.1).getD 0) (fun z=>by rw [List.map_eq_nil_iff] at z;subst z;(first|exact zqn hp|exact zqb hp|(obtain rfl:=Option.some.inj hp)|cases hp))).2 _ (List.mem_map.mpr ⟨p,hp,rfl⟩)
   rw [q] at this
   exact this
 ·first|exact zqn h|exact zqb h|(obtain rfl:=Option.some.inj h)|cases h
theorem zc5 {rs:List (List (Int×Int))}{o:List (Int×Int)}:∀ {i:Nat},zbp rs o i=none→∀ r∈rs.take i,lagF r o=none
 | 0,_,r,hr=>by first|exact zqn hr|exact zqb hr|(obtain rfl:=Option.some.inj hr)|cases hr
 | i+1,h,r,hr=>by
  have h:zgE (zbp rs o i) ((rs[i]?).bind fun r=>lagF r o) i=none:=h
  cases q:(rs[i]?).bind fun r=>lagF r o with
  | some v =>
   rw [q] at h
   cases t:zbp rs o i with
   | none=>rw [t] at h;(first|exact zqn h|exact zqb h|(obtain rfl:=Option.some.inj h)|cases h)
   | some t' =>
    rw [t] at h
    have h:(if v<t'.1 then some (v,(i:Int)) else some t')=none:=h
    split at h<;>(first|exact zqn h|exact zqb h|(obtain rfl:=Option.some.inj h)|cases h)
  | none =>
   rw [q] at h
   have ih:=zc5 (i:=i) h
   cases z:rs[i]? with
   | none =>
    rw [List.take_of_length_le (by have:=List.getElem?_eq_none_iff.mp z;omega)] at hr
    rw [List.take_of_length_le (List.getElem?_eq_none_iff.mp z)] at ih
    exact ih r hr
   | some s =>
    rw [zbn z] at hr
    rcases List.mem_append.mp hr with y|y
    ·exact ih r y
    ·rw [List.mem_singleton.mp y]
     rw [z] at q
     exact q
theorem zeT {rs:List (List (Int×Int))}{o:List (Int×Int)}:∀ {i:Nat} {m:Int×Int},zbp rs o i=some m→∀ r∈rs.take i,∀ v,lagF r o=some v→m.1≤v
 | 0,m,h,r,hr,v,hv=>by first|exact zqn hr|exact zqb hr|(obtain rfl:=Option.some.inj hr)|cases hr
 | i+1,m,h,r,hr,v,hv=>by
  have h:zgE (zbp rs o i) ((rs[i]?).bind fun r=>lagF r o) i=some m:=h
  cases z:rs[i]? with
  | none =>
   rw [z] at h
   have h:zbp rs o i=some m:=h
   refine zeT (i:=i) h r ?_ v hv
   rw [List.take_of_length_le (by have:=List.getElem?_eq_none_iff.mp z;omega)] at hr
   rw [List.take_of_length_le (List.getElem?_eq_none_iff.mp z)]
   exact hr
  | some s =>
   rw [z] at h
   rw [zbn z] at hr
   have old:∀ {m':Int×Int},zbp rs o i=some m'→∀ r∈rs.take i,∀ v,lagF r o=some v→m'.1≤v:=fun e=>zeT (i:=i) e
   have h:zgE (zbp rs o i) (lagF s o) i=some m:=h
   cases q:lagF s o with
   | none =>
    rw [q] at h
    have h:zbp rs o i=some m:=h
    rcases List.mem_append.mp hr with y|y
    ·exact old h r y v hv
    ·rw [List.mem_singleton.mp y,q] at hv
     first|exact zqn hv|exact zqb hv|(obtain rfl:=Option.some.inj hv)|cases hv
   | some w =>
    rw [q] at h
    cases t:zbp rs o i with
    | none =>
     rw [t] at h
     first|exact zqn h|exact zqb h|(obtain rfl:=Option.some.inj h)|cases h
     rcases List.mem_append.mp hr with y|y
     ·rw [zc5 t r y] at hv
      first|exact zqn hv|exact zqb hv|(obtain rfl:=Option.some.inj hv)|cases hv
     ·rw [List.mem_singleton.mp y,q] at hv
      first|exact zqn hv|exact zqb hv|(obtain rfl:=Option.some.inj hv)|cases hv
      exact Int.le_refl _
    | some t' =>
     rw [t] at h
     have h:(if w<t'.1 then some (w,(i:Int)) else some t')=some m:=h
     split at h
     ·rename_i lt
      first|exact zqn h|exact zqb h|(obtain rfl:=Option.some.inj h)|cases h
      rcases List.mem_append.mp hr with y|y
      ·have:=old t r y v hv
       show w≤v
       omega
      ·rw [List.mem_singleton.mp y,q] at hv
       first|exact zqn hv|exact zqb hv|(obtain rfl:=Option.some.inj hv)|cases hv
       exact Int.le_refl _
     ·rename_i ge
      first|exact zqn h|exact zqb h|(obtain rfl:=Option.some.inj h)|cases h
      rcases List.mem_append.mp hr with y|y
      ·exact old t r y v hv
      ·rw [List.mem_singleton.mp y,q] at hv
       first|exact zqn hv|exact zqb hv|(obtain rfl:=Option.some.inj hv)|cases hv
       omega
theorem zn7 {f g:List (List (Int×Int))}{c:Int}(gn:g ≠ [])(h:∀ o∈g,∃ r∈f,∃ v,lagF r o=some v∧v≤c):∃ L,zc1 f g=some L∧L≤c:=by
 have near:∀ o∈g,∃ m,zat f o=some m∧m.1≤c:=fun o ho=>by
  obtain ⟨r,hr,v,h1,h2⟩:=h o ho
  cases q:zat f o with
  | none =>
   have:=zc5 q r (by rw [List.take_length];exact hr)
   rw [h1] at this
   first|exact zqn this|exact zqb this|(obtain rfl:=Option.some.inj this)|cases this
  | some m =>
   have:=zeT q r (by rw [List.take_length];exact hr) v h1
   exact ⟨m,rfl,by omega⟩
 have all:g.all (fun o=>(zat f o).isSome)=true:=List.all_eq_true.mpr fun o ho=>by
  obtain ⟨m,hm,_⟩:=near o ho
  rw [hm]
  rfl
 refine ⟨_,if_pos all,?_⟩
 obtain ⟨o,ho,e⟩:=List.mem_map.mp (zbS (l:=g.map fun o=>((zat f o).getD (0,0)).1) (fun z=>gn (List.map_eq_nil_iff.mp z))).1
 obtain ⟨m,hm,hc⟩:=near o ho
 rw [hm] at e
 rw [← e]
 exact hc
def G_z2:FS:=(sRet (zbk [none,some 0] (iS (dVar 1)) (.one 0) (zax F_z3 (zac (dVar 1) (zac (dVar 0) dNil)))))
def F_z2:List D→Res D:=runN 2 2 G_z2
theorem f_z2 {rs os:List (List (Int×Int))}(hr:∀ r∈rs,r ≠ []∧r.length≤1000)(ho:∀ o∈os,o.length≤100∧Once o)(hl:os.length≤1000):F_z2 [.lst (rs.map rwD),.lst (os.map rwD)]=.ok (.lst (os.map fun o=>optP (zat rs o))):=by
 have key:mapE (.one 0) (zax F_z3 (zac (dVar 1) (zac (dVar 0) dNil))) [none,some (.val (.lst (rs.map rwD)))] (os.map rwD)=.ok (os.map fun o=>optP (zat rs o)):=zbw fun o hm=>by
  simp [f_z3 hr (ho o hm).1 (ho o hm).2]
 simp [F_z2,G_z2,key,za4 hl]
def G_z0:FS:=(sSeq (sSet 2 (zax F_z2 (zac (dVar 0) (zac (dVar 1) dNil)))) (sSeq (sIf (zar (dOp (gIn false) (dC .non) (dVar 2))) (sRet (dC .non)) zby) (sRet (dBlt zgK (zac (zbk [none,none] (iS (dVar 2)) (.tup [0,1]) (dVar 0)) dNil)))))
def F_z0:List D→Res D:=runD 3 2 G_z0
theorem zhL (p:Option (Int×Int)):plN 12 (optP p)=true:=by cases p<;>rfl
theorem zgo (p:Option (Int×Int)):zbe (optP p) .non = !p.isSome:=by
 cases p with
 | none=>exact @decide_eq_true _ (Classical.propDecidable _) rfl
 | some p=>exact @decide_eq_false _ (Classical.propDecidable _) (by intro z;(first|exact zqn z|exact zqb z|(obtain rfl:=Option.some.inj z)|cases z))
theorem f_z0 {rs os:List (List (Int×Int))}(hr:∀ r∈rs,r ≠ []∧r.length≤1000)(ho:∀ o∈os,o.length≤100∧Once o)(hl:os.length≤1000)(hne:os ≠ []):F_z0 [.lst (rs.map rwD),.lst (os.map rwD)]=.ok (optI (zc1 rs os)):=by
 have hp:(os.map fun o=>optP (zat rs o)).all (plN 12)=true:=by
  rw [List.all_map]
  exact List.all_eq_true.mpr fun o _=>zhL _
 have hi:gIn false .non (.lst (os.map fun o=>optP (zat rs o)))=some (.bl (os.any fun o => !(zat rs o).isSome)):=by
  show (if plN 12 .non&&(os.map fun o=>optP (zat rs o)).all (plN 12) then some (D.bl ((os.map fun o=>optP (zat rs o)).any fun e=>zbe e .non)) else none)=_
  rw [hp,Bool.and_true,if_pos (show plN 12 .non=true from rfl),List.any_map]
  exact congrArg (fun f=>some (D.bl (os.any f))) (funext fun o=>zgo _)
 have hn:=f_z2 hr ho hl
 by_cases c:os.all (fun o=>(zat rs o).isSome)=true
 ·have hany:(os.any fun o => !(zat rs o).isSome)=false:=by
   rw [Bool.eq_false_iff]
   intro z
   obtain ⟨o,h1,h2⟩:=List.any_eq_true.mp z
   have:=List.all_eq_true.mp c o h1
   rw [this] at h2
   exact Bool.false_ne_true h2
  rw [hany] at hi
  obtain ⟨ps,e0,e1,e2⟩:∃ ps:List (Int×Int),os.map (fun o=>optP (zat rs o))=ps.map prD∧ps.map (·.1)=(os.map fun o=>((zat rs o).getD (0,0)).1)∧ps.length=os.length:=by
   refine ⟨os.map fun o=>(zat rs o).getD (0,0),?_,by rw [List.map_map];rfl,List.length_map _⟩
   rw [List.map_map]
   refine List.map_congr_left fun o ho => ?_
   have:=List.all_eq_true.mp c o ho
   show optP (zat rs o)=prD ((zat rs o).getD (0,0))
   cases q:zat rs o with
   | none=>rw [q] at this;exact absurd this Bool.false_ne_true
   | some p=>rfl
  rw [e0] at hi hn
  have key:mapE (.tup [0,1]) (dVar 0) [none,none] (ps.map prD)=.ok (ps.map fun p=>.int p.1):=zbw fun p _=>by simp
  have e:ps.map (fun p=>D.int p.1)=(ps.map (·.1)).map .int:=by rw [List.map_map];rfl
  have hps:ps ≠ []:=fun z=>by
   subst z
   exact hne (List.length_eq_zero_iff.mp e2.symm)
  have hm:=zev (ns:=ps.map (·.1)) (fun z=>hps (List.map_eq_nil_iff.mp z))
  rw [← e,e1] at hm
  have hl2:ps.length≤1000:=by rw [e2];exact hl
  simp [F_z0,G_z0,hn,hi,key,za4 hl2,hm,zc1,c,optI]
 ·have hany:(os.any fun o => !(zat rs o).isSome)=true:=by
   cases z:(os.any fun o => !(zat rs o).isSome) with
   | true=>rfl
   | false =>
    refine absurd (List.all_eq_true.mpr fun o ho => ?_) c
    have:=List.any_eq_false.mp z o ho
    cases q:(zat rs o).isSome with
    | true=>rfl
    | false=>rw [q] at this;exact absurd rfl this
  rw [hany] at hi
  simp [F_z0,G_z0,hn,hi,zc1,c,optI]
def G_z1:FS:=(sSeq (sSet 2 (zax F_z2 (zac (dVar 0) (zac (dVar 1) dNil)))) (sSeq (sIf (zar (dOp (gIn false) (dC .non) (dVar 2))) (zoG (dC .non)) zby) (zk6 (zbk [none,none] (iS (dVar 2)) (.tup [0,1]) (dVar 1)))))
def F_z1:List D→Res D:=runD 3 2 G_z1
theorem zfe {rs:List (List (Int×Int))}{o:List (Int×Int)}:∀ {i:Nat} {m:Int×Int},zbp rs o i=some m→∃ j:Nat,m.2=(j:Int)∧∃ r,rs[j]? = some r∧lagF r o=some m.1
 | 0,m,h=>by first|exact zqn h|exact zqb h|(obtain rfl:=Option.some.inj h)|cases h
 | i+1,m,h=>by
  have h:zgE (zbp rs o i) ((rs[i]?).bind fun r=>lagF r o) i=some m:=h
  cases q:(rs[i]?).bind fun r=>lagF r o with
  | none =>
   rw [q] at h
   exact zfe (i:=i) h
  | some v =>
   rw [q] at h
   obtain ⟨r,hr,hv⟩:=Option.bind_eq_some_iff.mp q
   have new:some (v,(i:Int))=some m→∃ j:Nat,m.2=(j:Int)∧∃ r,rs[j]? = some r∧lagF r o=some m.1:=fun e=>by
    first|exact zqn e|exact zqb e|(obtain rfl:=Option.some.inj e)|cases e
    exact ⟨i,rfl,r,hr,hv⟩
   cases t:zbp rs o i with
   | none=>rw [t] at h;exact new h
   | some t' =>
    rw [t] at h
    have h:(if v<t'.1 then some (v,(i:Int)) else some t')=some m:=h
    split at h
    ·exact new h
    ·rw [h] at t
     exact zfe (i:=i) t
def papF (f g:List (List (Int×Int))):List Nat:=g.map fun o=>((zat f o).getD (0,0)).2.toNat
theorem f_z1 {rs os:List (List (Int×Int))}(hr:∀ r∈rs,r ≠ []∧r.length≤1000)(ho:∀ o∈os,o.length≤100∧Once o)(hl:os.length≤1000) :
 F_z1 [frD rs,frD os]=.ok (match zc1 rs os with|none=>.non|some _=>.lst ((papF rs os).map fun j:Nat=>.int (j:Int))):=by
 have hp:(os.map fun o=>optP (zat rs o)).all (plN 12)=true:=by
  rw [List.all_map]
  exact List.all_eq_true.mpr fun o _=>zhL _
 have hi:gIn false .non (.lst (os.map fun o=>optP (zat rs o)))=some (.bl (os.any fun o => !(zat rs o).isSome)):=by
  show (if plN 12 .non&&(os.map fun o=>optP (zat rs o)).all (plN 12) then some (D.bl ((os.map fun o=>optP (zat rs o)).any fun e=>zbe e .non)) else none)=_
  rw [hp,Bool.and_true,if_pos (show plN 12 .non=true from rfl),List.any_map]
  exact congrArg (fun f=>some (D.bl (os.any f))) (funext fun o=>zgo _)
 have hn:F_z2 [frD rs,frD os]=.ok (.lst (os.map fun o=>optP (zat rs o))):=f_z2 hr ho hl
 by_cases c:os.all (fun o=>(zat rs o).isSome)=true
 ·have hany:(os.any fun o => !(zat rs o).isSome)=false:=by
   rw [Bool.eq_false_iff]
   intro z
   obtain ⟨o,h1,h2⟩:=List.any_eq_true.mp z
   have:=List.all_eq_true.mp c o h1
   rw [this] at h2
   exact Bool.false_ne_true h2
  rw [hany] at hi
  have e0:os.map (fun o=>optP (zat rs o))=(os.map fun o=>(zat rs o).getD (0,0)).map prD:=by
   rw [List.map_map]
   refine List.map_congr_left fun o ho => ?_
   have:=List.all_eq_true.mp c o ho
   show optP (zat rs o)=prD ((zat rs o).getD (0,0))
   cases q:zat rs o with
   | none=>rw [q] at this;exact absurd this Bool.false_ne_true
   | some p=>rfl
  have e1:(os.map fun o=>(zat rs o).getD (0,0)).map (fun p=>D.int p.2)=(papF rs os).map fun j:Nat=>.int (j:Int):=by
   unfold papF
   rw [List.map_map,List.map_map]
   refine List.map_congr_left fun o ho => ?_
   have:=List.all_eq_true.mp c o ho
   show D.int ((zat rs o).getD (0,0)).2=D.int ((((zat rs o).getD (0,0)).2.toNat:Nat):Int)
   cases q:zat rs o with
   | none=>rw [q] at this;exact absurd this Bool.false_ne_true
   | some p =>
    obtain ⟨j,hj,_⟩:=zfe q
    show D.int p.2=D.int ((p.2.toNat:Nat):Int)
    rw [hj]
    rfl
  rw [e0] at hi hn
  have key:mapE (.tup [0,1]) (dVar 1) [none,none] ((os.map fun o=>(zat rs o).getD (0,0)).map prD)=.ok ((os.map fun o=>(zat rs o).getD (0,0)).map fun p=>.int p.2):=zbw fun p _=>by simp
  have lz:((os.map fun o=>(zat rs o).getD (0,0)).map prD).length<sizeLine:=za4 (by rw [List.length_map,List.length_map];exact hl)
  rw [e1] at key
  have el:zc1 rs os=some (maxI (os.map fun o=>((zat rs o).getD (0,0)).1)):=if_pos c
  rw [el]
  generalize (papF rs os).map (fun j:Nat=>D.int (j:Int))=ps at key
  generalize (os.map fun o=>(zat rs o).getD (0,0)).map prD=ds at key lz hi hn
  simp [F_z1,G_z1,hn,hi,key,lz]
 ·have hany:(os.any fun o => !(zat rs o).isSome)=true:=by
   cases z:(os.any fun o => !(zat rs o).isSome) with
   | true=>rfl
   | false =>
    refine absurd (List.all_eq_true.mpr fun o ho => ?_) c
    have:=List.any_eq_false.mp z o ho
    cases q:(zat rs o).isSome with
    | true=>rfl
    | false=>rw [q] at this;exact absurd rfl this
  rw [hany] at hi
  have el:zc1 rs os=none:=if_neg c
  rw [el]
  generalize os.map (fun o=>optP (zat rs o))=ds at hi hn
  simp [F_z1,G_z1,hn,hi]
theorem zjW {r o:List (Int×Int)}{v L:Int}(h:lagF r o=some v)(hl:v≤L):za5 r o L=true:=List.all_eq_true.mpr fun p hp=>by
 obtain ⟨w,h1,h2⟩:=znK h p hp
 unfold inAt
 rw [h1]
 exact decide_eq_true (by omega)
theorem ziw {r o:List (Int×Int)}{L:Int}(rn:r ≠ [])(h:za5 r o L=true):∃ v,lagF r o=some v∧v≤L:=by
 have all:r.all (fun p=>(zam o p.1).isSome)=true:=List.all_eq_true.mpr fun p hp=>by
  have:=List.all_eq_true.mp h p hp
  unfold inAt at this
  cases q:zam o p.1 with
  | none=>rw [q] at this;exact absurd this Bool.false_ne_true
  | some w=>rfl
 refine ⟨_,if_pos all,?_⟩
 obtain ⟨p,hp,e⟩:=List.mem_map.mp (zbS (l:=r.map fun p=>p.2-(zam o p.1).getD 0) (fun z=>rn (List.map_eq_nil_iff.mp z))).1
 rw [← e]
 have:=List.all_eq_true.mp h p hp
 unfold inAt at this
 cases q:zam o p.1 with
 | none=>rw [q] at this;exact absurd this Bool.false_ne_true
 | some w =>
  rw [q] at this
  exact of_decide_eq_true this
def zjh:FS:=(sSeq (sSet 1 (zax zhm (zac (dVar 0) dNil))) (sSeq (sSet 2 (dOp gIx (dVar 1) (dC (.int 0)))) (sSeq (sSet 3 (dOp gIx (dVar 1) (dC (.int 1)))) (sSeq (sSet 4 (dLst (zac (dBlt ziD (zac (dVar 2) dNil)) (zac (dBlt ziD (zac (dVar 3) dNil)) dNil)))) (sSeq (sSet 5 (zax F_z0 (zac (dOp gIx (dVar 4) (dC (.int 0))) (zac (dOp gIx (dVar 4) (dC (.int 1))) dNil)))) (sSeq (zno 6 (zax F_z1 (zac (dOp gIx (dVar 4) (dC (.int 0))) (zac (dOp gIx (dVar 4) (dC (.int 1))) dNil)))) (sSeq (sIf (zar (dUn (gIsN false) (dVar 5))) (sSeq (sSet 7 (zbT [none,some 2] (iS (dVar 3)) (.one 0) (zce (zar (dBlt gAny (zac (zbk [none,some 0] (iS (dVar 1)) (.one 0) (zax zgJ (zac (dVar 0) (zac (dVar 1) dNil)))) dNil)))) (dVar 0))) (sRet (ziF (dTmp [6] (dUn (gIsN false) (dVar 6))) (ziF (dOp gNe (dVar 7) (dLst dNil)) (dOp gEq (dVar 4) (dVar 1)))))) zby) (sSeq (sIf (dOrT (zce (zar (zax F_z6 (zac (dVar 5) dNil)))) (zce (zar (dTmp [6] (zax ziN (zac (dVar 2) (zac (dVar 3) (zac (dVar 5) (zac (dVar 6) dNil))))))))) (sRet (dC (.bl false))) zby) (sSeq (sSet 8 (zbT [none,some 2,some 5] (iS (dVar 3)) (.one 0) (zce (zar (dBlt gAny (zac (zbk [none,some 0,some 2] (iS (dVar 1)) (.one 0) (zax zet (zac (dVar 0) (zac (dVar 1) (zac (dOp gSub (dVar 2) (dC (.int 1))) dNil))))) dNil)))) (dVar 0))) (sSeq (sIf (zar (dOp gEq (dVar 8) (dLst dNil))) (sRet (dC (.bl false))) zby) (sSeq (zcs 6 (dC (.int 0))) (sRet (ziF (zax ziN (zac (dVar 2) (zac (dVar 3) (zac (dVar 5) (zac (zax F_z1 (zac (dOp gIx (dVar 4) (dC (.int 0))) (zac (dOp gIx (dVar 4) (dC (.int 1))) dNil))) dNil))))) (dOp gEq (dVar 4) (dVar 1)))))))))))))))
def zfa:List D→Res D:=runD 9 1 zjh
theorem zlh {f g:List (List (Int×Int))}(h:zc1 f g=none):∃ o∈g,(f.any fun r=>r.all fun p=>(zam o p.1).isSome)=false:=by
 have c:¬ g.all (fun o=>(zat f o).isSome)=true:=fun c=>by
  unfold zc1 at h
  rw [if_pos c] at h
  first|exact zqn h|exact zqb h|(obtain rfl:=Option.some.inj h)|cases h
 have ⟨o,ho,hn⟩:∃ o∈g,zat f o=none:=Classical.byContradiction fun z=>c (List.all_eq_true.mpr fun o ho=>by
  cases q:zat f o with
  | none=>exact absurd ⟨o,ho,q⟩ z
  | some m=>rfl)
 refine ⟨o,ho,?_⟩
 rw [Bool.eq_false_iff]
 intro z
 obtain ⟨r,hr,hc⟩:=List.any_eq_true.mp z
 have:=zc5 hn r (by rw [List.take_length];exact hr)
 unfold lagF at this
 rw [if_pos hc] at this
 first|exact zqn this|exact zqb this|(obtain rfl:=Option.some.inj this)|cases this
theorem zlC {f g:List (List (Int×Int))}{L:Int}(gn:g ≠ [])(fn:∀ r∈f,r ≠ [])(h:zc1 f g=some L):∃ o∈g,(f.any fun r=>za5 r o (L-1))=false :=
 Classical.byContradiction fun z=>by
  obtain ⟨L',e,l⟩:=zn7 (f:=f) (g:=g) (c:=L-1) gn fun o ho=>by
   cases q:f.any fun r=>za5 r o (L-1) with
   | false=>exact absurd ⟨o,ho,q⟩ z
   | true =>
    obtain ⟨r,hr,hw⟩:=List.any_eq_true.mp q
    obtain ⟨v,h1,h2⟩:=ziw (fn r hr) hw
    exact ⟨r,hr,v,h1,h2⟩
  rw [h] at e
  first|exact zqn e|exact zqb e|(obtain rfl:=Option.some.inj e)|cases e
  omega
theorem zmd {f g:List (List (Int×Int))}{L:Int}(gn:g ≠ [])(h:zc1 f g=some L)(k j:Nat)(o:List (Int×Int))(ho:g[k]? = some o)(hj:(papF f g)[k]? = some j):∃ r,f[j]? = some r∧za5 r o L=true:=by
 unfold papF at hj
 rw [List.getElem?_map,ho] at hj
 have hj:((zat f o).getD (0,0)).2.toNat=j:=Option.some.inj hj
 have om:=List.mem_of_getElem? ho
 unfold zc1 at h
 split at h
 ·rename_i c
  first|exact zqn h|exact zqb h|(obtain rfl:=Option.some.inj h)|cases h
  have hn:=List.all_eq_true.mp c o om
  cases q:zat f o with
  | none=>rw [q] at hn;exact absurd hn Bool.false_ne_true
  | some m =>
   rw [q] at hj
   obtain ⟨j',e,r,hr,hl⟩:=zfe q
   have:j'=j:=by
    have hj:m.2.toNat=j:=hj
    rw [e] at hj
    omega
   subst this
   refine ⟨r,hr,zjW hl ?_⟩
   have:=(zbS (l:=g.map fun o=>((zat f o).getD (0,0)).1) (fun z=>gn (List.map_eq_nil_iff.mp z))).2 _ (List.mem_map.mpr ⟨o,om,rfl⟩)
   rw [q] at this
   exact this
 ·first|exact zqn h|exact zqb h|(obtain rfl:=Option.some.inj h)|cases h
theorem zj9 {ns:List Int}{f g:List (List (Int×Int))}(ht:zhm [.scr ns]=.ok (.lst [frD f,frD g]))(F:Good 12 f)(G:Good 12 g):zfa [.scr ns]=.ok (.bl true):=by
 have lf:=F.len
 have lg:=G.len
 have ok:∀ {f:List (List (Int×Int))},Good 12 f→(∀ r∈f,r ≠ []∧r.length≤1000)∧(∀ r∈f,r.length≤100∧Once r):=fun {f} F=>⟨fun r hr=>⟨(F.rows r hr).ne,by have:=(F.rows r hr).len;omega⟩,fun r hr=>⟨by have:=(F.rows r hr).len;omega,(F.rows r hr).once⟩⟩
 have hlag:F_z0 [frD f,frD g]=.ok (optI (zc1 f g)):=f_z0 (ok F).1 (ok G).2 (by omega) G.ne
 have hpap:=f_z1 (ok F).1 (ok G).2 (show g.length≤1000 by omega)
 have a0:∀ p q:D,atI [p,q] 0=some p:=fun _ _=>rfl
 have a1:∀ p q:D,atI [p,q] 1=some q:=fun _ _=>rfl
 have gl:∀ f:List (List (Int×Int)),ziD [frD f]=some (frD f):=fun _=>rfl
 have pl2:plN 12 (.lst [frD f,frD g])=true:=by
  show ([frD f,frD g].all (plN 11))=true
  simp only [List.all_cons,List.all_nil,Bool.and_true,Bool.and_eq_true]
  exact ⟨zie 7 f,zie 7 g⟩
 have heq:gEq (.lst [frD f,frD g]) (.lst [frD f,frD g])=some (.bl true):=by rw [zkn pl2 pl2,zbm]
 have wf:zei (frD f)=some (f.map rwD):=rfl
 have wg:zei (frD g)=some (g.map rwD):=rfl
 have zf:f.length<sizeLine:=za4 (by omega)
 have zg:g.length<sizeLine:=za4 (by omega)
 cases q:zc1 f g with
 | none =>
  rw [q] at hlag hpap
  obtain ⟨o,ho,hl⟩:=zlh q
  have key:zdl (.one 0) (zce (zar (dBlt gAny (zac (zbk [none,some 0] (iS (dVar 1)) (.one 0) (zax zgJ (zac (dVar 0) (zac (dVar 1) dNil)))) dNil)))) (dVar 0) [none,some (.val (frD f))] (g.map rwD)=.ok ((g.filter fun o => !(f.any fun r=>r.all fun p=>(zam o p.1).isSome)).map rwD) :=
   zfz (s:=fun o => [some (.val (rwD o)),some (.val (frD f))]) (fun o _=>rfl) (fun o ho=>by
    have k1:mapE (.one 0) (zax zgJ (zac (dVar 0) (zac (dVar 1) dNil))) [none,some (.val (rwD o))] (f.map rwD)=.ok (f.map fun r=>.bl (r.all fun p=>(zam o p.1).isSome)):=zbw fun r hr=>by
     have:=f_z14 (r:=r) ((ok G).2 o ho).2 ((ok G).2 o ho).1 ((ok F).1 r hr).2
     simp [this]
    have e1:f.map (fun r=>D.bl (r.all fun p=>(zam o p.1).isSome))=(f.map fun r=>r.all fun p=>(zam o p.1).isSome).map .bl:=by rw [List.map_map];rfl
    have ga:=zfh (f.map fun r=>r.all fun p=>(zam o p.1).isSome)
    rw [← e1,List.any_map] at ga
    have ga:gAny [.lst (f.map fun r=>D.bl (r.all fun p=>(zam o p.1).isSome))]=some (.bl (f.any fun r=>r.all fun p=>(zam o p.1).isSome)):=ga
    generalize (f.map fun r=>D.bl (r.all fun p=>(zam o p.1).isSome))=bl at k1 ga
    generalize (f.any fun r=>r.all fun p=>(zam o p.1).isSome)=bb at ga
    simp [wf,zf,k1,ga]) (fun o _ _=>rfl)
  obtain ⟨lo,hlo⟩:∃ lo,lo=g.filter fun o => !(f.any fun r=>r.all fun p=>(zam o p.1).isSome):=⟨_,rfl⟩
  rw [← hlo] at key
  have ne:lo ≠ []:=fun z=>by
   have hm:o∈lo:=by
    rw [hlo]
    exact List.mem_filter.mpr ⟨ho,by rw [hl];rfl⟩
   rw [z] at hm
   first|exact zqn hm|exact zqb hm|(obtain rfl:=Option.some.inj hm)|cases hm
  have hne:gNe (.lst (lo.map rwD)) (.lst [])=some (.bl true):=by
   have:=zqu lo []
   rw [decide_eq_false ne] at this
   exact this
  generalize lo.map rwD=lod at key hne
  have hlag:F_z0 [frD f,frD g]=.ok .non:=hlag
  have hpap:F_z1 [frD f,frD g]=.ok .non:=hpap
  simp [zfa,zjh,ht,a0,a1,gl,hlag,hpap,wg,zg,key,hne,heq]
 | some L =>
  rw [q] at hlag hpap
  have hlag:F_z0 [frD f,frD g]=.ok (.int L):=hlag
  have hpap:F_z1 [frD f,frD g]=.ok (.lst ((papF f g).map fun j:Nat=>.int (j:Int))):=hpap
  have hgood:=f_z15 (f:=f) (g:=g) (m:=L) (js:=papF f g) (by unfold papF;rw [List.length_map]) (by omega) (fun o ho=>⟨((ok G).2 o ho).2,((ok G).2 o ho).1⟩) (zmd G.ne q)
  obtain ⟨o,ho,hl⟩:=zlC G.ne (fun r hr=>(F.rows r hr).ne) q
  have key:zdl (.one 0) (zce (zar (dBlt gAny (zac (zbk [none,some 0,some 2] (iS (dVar 1)) (.one 0) (zax zet (zac (dVar 0) (zac (dVar 1) (zac (dOp gSub (dVar 2) (dC (.int 1))) dNil))))) dNil)))) (dVar 0) [none,some (.val (frD f)),some (.val (.int L))] (g.map rwD)=.ok ((g.filter fun o => !(f.any fun r=>za5 r o (L-1))).map rwD) :=
   zfz (s:=fun o => [some (.val (rwD o)),some (.val (frD f)),some (.val (.int L))]) (fun o _=>rfl) (fun o ho=>by
    have k1:mapE (.one 0) (zax zet (zac (dVar 0) (zac (dVar 1) (zac (dOp gSub (dVar 2) (dC (.int 1))) dNil)))) [none,some (.val (rwD o)),some (.val (.int L))] (f.map rwD)=.ok (f.map fun r=>.bl (za5 r o (L-1))):=zbw fun r hr=>by
     have:=zpT (r:=r) (m:=L-1) ((ok G).2 o ho).2 ((ok G).2 o ho).1
     simp [this]
    have e1:f.map (fun r=>D.bl (za5 r o (L-1)))=(f.map fun r=>za5 r o (L-1)).map .bl:=by rw [List.map_map];rfl
    have ga:=zfh (f.map fun r=>za5 r o (L-1))
    rw [← e1,List.any_map] at ga
    have ga:gAny [.lst (f.map fun r=>D.bl (za5 r o (L-1)))]=some (.bl (f.any fun r=>za5 r o (L-1))):=ga
    generalize (f.map fun r=>D.bl (za5 r o (L-1)))=bl at k1 ga
    generalize (f.any fun r=>za5 r o (L-1))=bb at ga
    simp [wf,zf,k1,ga]) (fun o _ _=>rfl)
  obtain ⟨lo,hlo⟩:∃ lo,lo=g.filter fun o => !(f.any fun r=>za5 r o (L-1)):=⟨_,rfl⟩
  rw [← hlo] at key
  have ne:lo ≠ []:=fun z=>by
   have hm:o∈lo:=by
    rw [hlo]
    exact List.mem_filter.mpr ⟨ho,by rw [hl];rfl⟩
   rw [z] at hm
   first|exact zqn hm|exact zqb hm|(obtain rfl:=Option.some.inj hm)|cases hm
  have hne:gEq (.lst (lo.map rwD)) (.lst [])=some (.bl false):=by
   have:=zpl lo []
   rw [decide_eq_false ne] at this
   exact this
  have lz:((papF f g).map fun j:Nat=>D.int (j:Int)).length<sizeLine:=za4 (by unfold papF;rw [List.length_map,List.length_map];omega)
  generalize lo.map rwD=lod at key hne
  generalize (papF f g).map (fun j:Nat=>D.int (j:Int))=js at hpap hgood lz
  simp [zfa,zjh,ht,a0,a1,gl,hlag,hpap,hgood,wg,zg,key,hne,heq,lz]
theorem law_true (ns:List Int)(h:ns.length≤63):zfa [.scr ns]=.ok (.bl true):=by
 obtain ⟨f,g,ht,F,G⟩:=f_z12 h
 exact zj9 ht F G
end My
set_option maxHeartbeats 4000000
namespace My
open PySem L2 L2.DL
noncomputable def top (i:Nat):Stmt:=PySem.Challenge.pw_allfirst_k15_papers_of_lags.main.body.getD i (.Pass ⟨0,0,0,0⟩)
structure Mg (mg:Str→Option Value):Prop where
 all_:mg "all" = none
 any_:mg "any" = none
 bool_:mg "bool" = none
 dict_:mg "dict" = none
 enumerate_:mg "enumerate" = none
 int_:mg "int" = none
 isinstance_:mg "isinstance" = none
 len_:mg "len" = none
 list_:mg "list" = none
 max_:mg "max" = none
 min_:mg "min" = none
 range_:mg "range" = none
 set_:mg "set" = none
 sorted_:mg "sorted" = none
 tuple_:mg "tuple" = none
section
variable {P:Program}{w:World}{K:PySem.W.Frag}{mg:Str→Option Value}{base:Heap}{f:Addr}{fd:FuncData}
abbrev znG:Stmt:=top 16
theorem zoR:FnScope ["row", "other", "waits"] ["row", "other"] (zae znG):=zbQ
theorem zqx {k:Nat}(F:Fun K "_law_among" "_law_among" znG f fd)(m:Mg mg)  : FnOk P w K mg base CX0 (k+1) f fd ["row", "other"] (SpD K zgJ):=by
 have sc:=zoR
 refine fn_d (N:=["row", "other", "waits"]) (ps:=["row", "other"]) (g:=zmt) F sc fun cdv A outer s H E hr => ?_
 unfold zmt
 exact (zag (zaT (i:=2) sc.nd rfl (.inr rfl) (QN.qe (zb1 (x := "dict") (zh4 rfl) rfl m.dict_ zfr (zaa (zab (pv 1)) zad)))) (zaj (zaH (za9 (x := "all") (b_all rfl) rfl m.all_ zqi (zaa (QN.qe (zcm ["thing", "wait", "waits"] [none,none,some 2] rfl rfl (zaZ (zab (pv 0))) (fun _ _ _ _ _=>(zde [0,1] (zcZ rfl (za8 (pgn 0 (zbG ["thing", "wait", "waits"])) (za8 (pgn 1 (zbG ["thing", "wait", "waits"])) zbN))))) (fun _ _ _ _ _=>(q_in hr.units (zab (pv 0)) (zab (pv 2)))))) zad)))))
abbrev s_z6:Stmt:=top 8
theorem sc_z6:FnScope ["found"] ["found"] (zae s_z6):=zbQ
theorem ok_z6 {k:Nat}(F:Fun K "_law_whole" "_law_whole" s_z6 f fd)(m:Mg mg)  : FnOk P w K mg base CX0 (k+1) f fd ["found"] (SpD K F_z6):=by
 have sc:=sc_z6
 refine fn_d (N:=["found"]) (ps:=["found"]) (g:=G_z6) F sc fun cdv A outer s H E hr => ?_
 unfold G_z6
 exact (zaj (zaH (zlk (za9 (x := "isinstance") zoc rfl m.isinstance_ zbC (zaa (zab (pv 0)) (zaa (znc (n := "int") (x := "int") rfl m.int_ zph rfl) zad))) (znY (q_not (za9 (x := "isinstance") zoc rfl m.isinstance_ zbC (zaa (zab (pv 0)) (zaa (znc (n := "bool") (x := "bool") rfl m.bool_ znI rfl) zad))))))))
abbrev zmX:Stmt:=top 15
theorem zpm:FnScope ["row", "other", "more", "waits", "thing", "wait"] ["row", "other", "more"] (zae zmX):=zbQ
theorem zqv {k:Nat}(F:Fun K "_law_within" "_law_within" zmX f fd)(m:Mg mg)  : FnOk P w K mg base CX0 (k+1) f fd ["row", "other", "more"] (SpD K zet):=by
 have sc:=zpm
 refine fn_d (N:=["row", "other", "more", "waits", "thing", "wait"]) (ps:=["row", "other", "more"]) (g:=zmc) F sc fun cdv A outer s H E hr => ?_
 unfold zmc
 exact (zag (zaT (i:=3) sc.nd rfl (.inl rfl) (QN.qe (zb1 (x := "dict") (zh4 rfl) rfl m.dict_ zfr (zaa (zab (pv 1)) zad)))) (zag (zeu PassesOwn.never rfl (zaZ (zab (pv 0))) (zde [4,5] (zcZ rfl (za8 (zaR (i:=4) sc.nd rfl (.inl rfl)) (za8 (zaR (i:=5) sc.nd rfl (.inl rfl)) zbN)))) (zaj (zcg (QW.qt (zgQ (zdw hr.units (zab (pv 4)) (zab (pv 3))) (ze7 (zb6 o_gt (q_op zi4 (zab (pv 5)) (zaO (zaK hr) (zab (pv 3)) (zab (pv 4)) (fun _ _=>rfl) (fun _ _=>rfl))) (zab (pv 2)) (zbj _))))) (zaj (zaH zen)) zaS))) (zaj (zaH zen))))
abbrev znF:Stmt:=top 17
theorem zqa:FnScope ["one", "other", "most", "paper", "k"] ["one", "other", "most", "paper"] (zae znF):=zbQ
theorem zp6 {k:Nat}(F:Fun K "_law_paper_good" "_law_paper_good" znF f fd)(m:Mg mg)(c_z6:za6 P w K mg base "_law_whole" k ["found"] (SpD K F_z6))(c_z13:za6 P w K mg base "_law_within" k ["row", "other", "more"] (SpD K zet)):FnOk P w K mg base CX0 (k+1) f fd ["one", "other", "most", "paper"] (SpD K ziN):=by
 have sc:=zqa
 refine fn_d (N:=["one", "other", "most", "paper", "k"]) (ps:=["one", "other", "most", "paper"]) (g:=zm0) F sc fun cdv A outer s H E hr => ?_
 unfold zm0
 exact (zag (zcg (QW.qt (zgQ (zda (zdd (za9 (x := "isinstance") zoc rfl m.isinstance_ zbC (zaa (zab (pv 3)) (zaa (znc (n := "list") (x := "list") rfl m.list_ zhk rfl) zad))))) (ze7 (zb6 (o_ne hr.units) (za9 (x := "len") zep rfl m.len_ zcn (zaa (zab (pv 3)) zad)) (za9 (x := "len") zep rfl m.len_ zcn (zaa (zab (pv 1)) zad)) (zbj _))))) (zaj (zaH zen)) zaS) (zag (zeu PassesOwn.never rfl (zcD rfl m.range_ (zaa (za9 (x := "len") zep rfl m.len_ zcn (zaa (zab (pv 1)) zad)) zad)) (zba (zaR (i:=4) sc.nd rfl (.inl rfl))) (zag (zcg (QW.qt (zgQ (zda (zdd (q_fn c_z6 hr rfl (zaa (zaO (zaK hr) (zab (pv 3)) (zab (pv 4)) (fun _ _=>rfl) (fun _ _=>rfl)) zad)))) (zgQ (zb6 o_lt (zaO (zaK hr) (zab (pv 3)) (zab (pv 4)) (fun _ _=>rfl) (fun _ _=>rfl)) zaf (zbj _)) (ze7 (zb6 o_ge (zaO (zaK hr) (zab (pv 3)) (zab (pv 4)) (fun _ _=>rfl) (fun _ _=>rfl)) (za9 (x := "len") zep rfl m.len_ zcn (zaa (zab (pv 0)) zad)) (zbj _)))))) (zaj (zaH zen)) zaS) (zaj (zcg (zda (zdd (q_fn c_z13 hr rfl (zaa (zaO (zaK hr) (zab (pv 0)) (zaO (zaK hr) (zab (pv 3)) (zab (pv 4)) (fun _ _=>rfl) (fun _ _=>rfl)) (fun _ _=>rfl) (fun _ _=>rfl)) (zaa (zaO (zaK hr) (zab (pv 1)) (zab (pv 4)) (fun _ _=>rfl) (fun _ _=>rfl)) (zaa (zab (pv 2)) zad)))))) (zaj (zaH zen)) zaS)))) (zaj (zaH zen))))
abbrev s_z5:Stmt:=top 7
theorem sc_z5:FnScope ["script", "k"] ["script", "k"] (zae s_z5):=zbQ
theorem ok_z5 {k:Nat}(F:Fun K "_law_cell_at" "_law_cell_at" s_z5 f fd)(m:Mg mg)  : FnOk P w K mg base CX0 (k+1) f fd ["script", "k"] (SpD K F_z5):=by
 have sc:=sc_z5
 refine fn_d (N:=["script", "k"]) (ps:=["script", "k"]) (g:=G_z5) F sc fun cdv A outer s H E hr => ?_
 unfold G_z5
 exact (zag (zcg (zb6 o_lt (zab (pv 1)) (za9 (x := "len") zep rfl m.len_ zcn (zaa (zab (pv 0)) zad)) (zbj _)) (zaj (zaH (zaO (zaK hr) (zab (pv 0)) (zab (pv 1)) (fun _ _=>rfl) (fun _ _=>rfl)))) zaS) (zaj (zaH zaf)))
abbrev s_z7:Stmt:=top 9
theorem sc_z7:FnScope ["cell", "size"] ["cell"] (zae s_z7):=zbQ
theorem ok_z7 {k:Nat}(F:Fun K "_law_wait" "_law_wait" s_z7 f fd)(m:Mg mg)  : FnOk P w K mg base CX0 (k+1) f fd ["cell"] (SpD K F_z7):=by
 have sc:=sc_z7
 refine fn_d (N:=["cell", "size"]) (ps:=["cell"]) (g:=G_z7) F sc fun cdv A outer s H E hr => ?_
 unfold G_z7
 exact (zag (zaT (i:=1) sc.nd rfl (.inl rfl) (q_op zch (q_op zco (zab (pv 0)) zaf) (q_op zpi zaf zaf))) (zag (zcg (zb6 (o_eq hr.units) (q_op zch (zab (pv 0)) zaf) zaf (zbj _)) (zaj (zaH (q_op zi4 (q_op zch (zab (pv 1)) zaf) zaf))) zaS) (zag (zcg (zb6 (o_eq hr.units) (q_op zch (zab (pv 0)) zaf) zaf (zbj _)) (zaj (zaH (zab (pv 1)))) zaS) (zaj (zaH (q_op zi4 zaf (zab (pv 1))))))))
abbrev znk:Stmt:=top 13
theorem zpk:FnScope ["script", "head", "many", "sides", "k", "cell", "rows", "thing"] ["script", "head"] (zae znk):=zbQ
theorem zpZ {k:Nat}(F:Fun K "_law_filled" "_law_filled" znk f fd)(m:Mg mg)(c_z7:za6 P w K mg base "_law_wait" k ["cell"] (SpD K F_z7)):FnOk P w K mg base CX0 (k+1) f fd ["script", "head"] (SpH K zif):=by
 have sc:=zpk
 refine fn_h (N:=["script", "head", "many", "sides", "k", "cell", "rows", "thing"]) (ps:=["script", "head"]) (g:=zjm) F sc fun cdv A outer s H E hr => ?_
 unfold zjm
 exact (zmb (m:=some false) (zaT (i:=2) sc.nd rfl (.inl rfl) (QN.qe (zks (zaa (q_op zfQ zaf (q_op zch (q_op zco (zab (pv 1)) zaf) zaf)) (zaa (q_op zfQ zaf (q_op zch (q_op zco (zab (pv 1)) zaf) zaf)) zad))))) (znA (i:=3) (j:=3) sc.nd rfl (.inl rfl) (zpq (zhK (zky ["k"] [none] rfl rfl (zcD rfl m.range_ (zaa (zaO (zaK hr) (zab (pv 2)) zaf (fun _ _=>rfl) (fun _ _=>rfl)) zad)) (fun _ _ _ _ _=>(zba (pgn 0 (zbG ["k"])))) (fun _ _ _ _ _=>zmF)) (zhK (zky ["k"] [none] rfl rfl (zcD rfl m.range_ (zaa (zaO (zaK hr) (zab (pv 2)) zaf (fun _ _=>rfl) (fun _ _=>rfl)) zad)) (fun _ _ _ _ _=>(zba (pgn 0 (zbG ["k"])))) (fun _ _ _ _ _=>zmF)) zo4))) (zlX (m:=some false) (zhA PassesOwn.never rfl (zkp rfl m.range_ (zaa zaf (zaa (za9 (x := "min") (zpz rfl) rfl m.min_ zpB (zaa (za9 (x := "len") zep rfl m.len_ zcn (zaa (zab (pv 0)) zad)) (zaa zaf zad))) zad))) (zba (zaR (i:=4) sc.nd rfl (.inl rfl))) (zcW (zfq (zaT (i:=5) sc.nd rfl (.inl rfl) (zaO (zaK hr) (zab (pv 0)) (zab (pv 4)) (fun _ _=>rfl) (fun _ _=>rfl)))) (zcW (zfq (zaT (i:=6) sc.nd rfl (.inl rfl) (zaO (zaK hr) (zab (pv 3)) (q_op zch (zab (pv 5)) zaf) (fun _ _=>rfl) (fun _ _=>rfl)))) (zcW (zfq (zaT (i:=7) sc.nd rfl (.inl rfl) (q_op zfQ (q_op zch (q_op zco (zab (pv 1)) zaf) zaf) (q_op zo6 (q_op zch (q_op zco (zab (pv 5)) zaf) (q_op zfQ zaf (q_op zch (zab (pv 1)) zaf))) (q_op zfQ zaf (q_op zch (q_op zco (zab (pv 1)) zaf) zaf)))))) (zdb (zj4 (zaK hr) (zaO (zaK hr) (zab (pv 6)) (q_op zch (q_op zco (zab (pv 5)) zaf) (za9 (x := "len") zep rfl m.len_ zcn (zaa (zab (pv 6)) zad))) (fun _ _=>rfl) (fun _ _=>rfl)) (zab (pv 7)) (q_fn c_z7 hr rfl (zaa (q_op zfQ (q_op zco (zab (pv 5)) zaf) (q_op zo6 (q_op zo6 zaf (zab (pv 4))) (zab (pv 4)))) zad)))))))) (zol (pv 3)))))
abbrev s_z8:Stmt:=top 10
theorem sc_z8:FnScope ["pairs"] ["pairs"] (zae s_z8):=zbQ
theorem ok_z8 {k:Nat}(F:Fun K "_law_row" "_law_row" s_z8 f fd)(m:Mg mg)  : FnOk P w K mg base CX0 (k+1) f fd ["pairs"] (SpD K F_z8):=by
 have sc:=sc_z8
 refine fn_d (N:=["pairs"]) (ps:=["pairs"]) (g:=G_z8) F sc fun cdv A outer s H E hr => ?_
 unfold G_z8
 exact (zaj (zaH (zlZ (x := "tuple") zmZ rfl m.tuple_ zmm (zaa (QN.qe (zcm ["thing", "pairs"] [none,some 0] rfl rfl (zaZ (QN.qe (zlQ (x := "sorted") (zib rfl) rfl m.sorted_ zgs (zaa (zab (pv 0)) zad)))) (fun _ _ _ _ _=>(zba (pgn 0 (zbG ["thing", "pairs"])))) (fun _ _ _ _ _=>(zoO (zaa (zab (pv 0)) (zaa (zaO (zaK hr) (zab (pv 1)) (zab (pv 0)) (fun _ _=>rfl) (fun _ _=>rfl)) zad)))))) zad))))
abbrev s_z9:Stmt:=top 11
theorem sc_z9:FnScope ["row", "other", "waits", "thing", "wait"] ["row", "other"] (zae s_z9):=zbQ
theorem ok_z9 {k:Nat}(F:Fun K "_law_under" "_law_under" s_z9 f fd)(m:Mg mg)  : FnOk P w K mg base CX0 (k+1) f fd ["row", "other"] (SpD K F_z9):=by
 have sc:=sc_z9
 refine fn_d (N:=["row", "other", "waits", "thing", "wait"]) (ps:=["row", "other"]) (g:=G_z9) F sc fun cdv A outer s H E hr => ?_
 unfold G_z9
 exact (zag (zaT (i:=2) sc.nd rfl (.inl rfl) (QN.qe (zb1 (x := "dict") (zh4 rfl) rfl m.dict_ zfr (zaa (zab (pv 1)) zad)))) (zag (zeu PassesOwn.never rfl (zaZ (zab (pv 0))) (zde [3,4] (zcZ rfl (za8 (zaR (i:=3) sc.nd rfl (.inl rfl)) (za8 (zaR (i:=4) sc.nd rfl (.inl rfl)) zbN)))) (zaj (zcg (QW.qt (zgQ (zdw hr.units (zab (pv 3)) (zab (pv 2))) (ze7 (zb6 o_lt (zaO (zaK hr) (zab (pv 2)) (zab (pv 3)) (fun _ _=>rfl) (fun _ _=>rfl)) (zab (pv 4)) (zbj _))))) (zaj (zaH zen)) zaS))) (zaj (zaH zen))))
abbrev znV:Stmt:=top 12
theorem zpa:FnScope ["rows", "found", "row"] ["rows"] (zae znV):=zbQ
theorem zqy {k:Nat}(F:Fun K "_law_thin" "_law_thin" znV f fd)(m:Mg mg)(c_z9:za6 P w K mg base "_law_under" k ["row", "other"] (SpD K F_z9)):FnOk P w K mg base CX0 (k+1) f fd ["rows"] (SpN K zcO):=by
 have sc:=zpa
 refine fn_n (N:=["rows", "found", "row"]) (ps:=["rows"]) (g:=zlN) F sc fun cdv A outer s H E hr => ?_
 unfold zlN
 exact (zag (zqe (i:=1) sc.nd rfl (.inl rfl) (zks zad)) (zag (zeu PassesOwn.never rfl (zaZ (QN.qe (ziV (fun h=>zfx (L2.ST.call_sortedSet rfl hr.units) rfl m.sorted_ zgs (zgY (zdL (L2.ST.call_setRows rfl hr.units) rfl m.set_ L2.bt_set h) zjC)) (zaa (zab (pv 0)) zad)))) (zba (zaR (i:=2) sc.nd rfl (.inr rfl))) (zaj (zcg (zda (zdd (za9 (x := "any") (znP rfl) rfl m.any_ zjP (zaa (QN.qe (zlY ["other", "row"] [none,some 2] rfl rfl (zaZ (zab (pv 0))) (fun _ _ _ _ _=>(zba (pgn 0 (zbG ["other", "row"])))) (fun _ _ _ _ _=>(zb6 (o_ne hr.units) (zab (pv 0)) (zab (pv 1)) (zbj _))) (fun _ _ _ _ _=>(q_fn c_z9 hr rfl (zaa (zab (pv 0)) (zaa (zab (pv 1)) zad)))))) zad)))) (zaj (zgu (pv 1) (zab (pv 2)) (fun h1 h2=>zpP PySem.F.plainAttrs_list PySem.F.slot_list_append PySem.F.type_list_append zfN h1 h2))) zaS))) (zaj (zlc (pv 1)))))
abbrev zo1:Stmt:=top 14
theorem zqm:FnScope ["script", "head", "sides", "rows", "row", "k", "mine", "thing"] ["script"] (zae zo1):=zbQ
theorem zqg {k:Nat}(F:Fun K "_law_two_forms" "_law_two_forms" zo1 f fd)(m:Mg mg)(c_z5:za6 P w K mg base "_law_cell_at" k ["script", "k"] (SpD K F_z5))(c_z11:za6 P w K mg base "_law_filled" k ["script", "head"] (SpH K zif))(c_z8:za6 P w K mg base "_law_row" k ["pairs"] (SpD K F_z8))(c_z10:za6 P w K mg base "_law_thin" k ["rows"] (SpN K zcO)):FnOk P w K mg base CX0 (k+1) f fd ["script"] (SpN K zhm):=by
 have sc:=zqm
 refine fn_n (N:=["script", "head", "sides", "rows", "row", "k", "mine", "thing"]) (ps:=["script"]) (g:=zk9) F sc fun cdv A outer s H E hr => ?_
 unfold zk9
 exact (zag (zaT (i:=1) sc.nd rfl (.inl rfl) (q_op zch (q_fn c_z5 hr rfl (zaa (zab (pv 0)) (zaa zaf zad))) (q_op zpi zaf zaf))) (zpp (i:=2) sc.nd rfl (.inl rfl) (qh_fn c_z11 hr rfl (zaa (zab (pv 0)) (zaa (zab (pv 1)) zad))) (zcW (zhA PassesOwn.never rfl (zaZ (zab (pv 2))) (zba (zaR (i:=3) sc.nd rfl (.inl rfl))) (zdb (zhA PassesOwn.never rfl (zaZ (zab (pv 3))) (zba (zaR (i:=4) sc.nd rfl (.inl rfl))) (zdb (zn0 (zh2 [4] (zb6 (o_eq hr.units) (za9 (x := "len") zep rfl m.len_ zcn (zaa (zab (pv 4)) zad)) zaf (zbj _))) (zdb (zj4 (zaK hr) (zab (pv 4)) zaf zaf)) zkb))))) (zcW (zn0 (zmq (zb6 o_gt (q_op zch (q_op zco (zab (pv 1)) zaf) zaf) zaf (zbj _))) (zdb (zhA PassesOwn.never rfl (zcD rfl m.range_ (zaa (za9 (x := "len") zep rfl m.len_ zcn (zaa (zaO (zaK hr) (zab (pv 2)) zaf (fun _ _=>rfl) (fun _ _=>rfl)) zad)) zad)) (zba (zaR (i:=5) sc.nd rfl (.inl rfl))) (zcW (zfq (zaT (i:=6) sc.nd rfl (.inl rfl) (zaO (zaK hr) (zaO (zaK hr) (zab (pv 2)) zaf (fun _ _=>rfl) (fun _ _=>rfl)) (q_op zch (zab (pv 5)) (za9 (x := "len") zep rfl m.len_ zcn (zaa (zaO (zaK hr) (zab (pv 2)) zaf (fun _ _=>rfl) (fun _ _=>rfl)) zad))) (fun _ _=>rfl) (fun _ _=>rfl)))) (zdb (znS [2,6] PassesOwn.never rfl (zab (pv 6)) (zba (zaR (i:=7) sc.nd rfl (.inl rfl))) (zdb (zn0 (zh2 [2] (zdw hr.units (zab (pv 7)) (zaO (zaK hr) (zaO (zaK hr) (zab (pv 2)) zaf (fun _ _=>rfl) (fun _ _=>rfl)) (zab (pv 5)) (fun _ _=>rfl) (fun _ _=>rfl)))) (zdb (zj4 (zaK hr) (zaO (zaK hr) (zaO (zaK hr) (zab (pv 2)) zaf (fun _ _=>rfl) (fun _ _=>rfl)) (zab (pv 5)) (fun _ _=>rfl) (fun _ _=>rfl)) (zab (pv 7)) (q_op zi4 (q_op zfQ (zaO (zaK hr) (zab (pv 6)) (zab (pv 7)) (fun _ _=>rfl) (fun _ _=>rfl)) (q_op zch (q_op zfQ (q_op zco (zab (pv 1)) zaf) (zab (pv 5))) zaf)) zaf))) zkb))))))) zkb) (zpu [2] (zaj (zkP (zcm ["rows"] [none] rfl rfl (zaZ (zab (pv 2))) (fun _ _ _ _ _=>(zba (pgn 0 (zbG ["rows"])))) (fun _ _ _ _ _=>(QN.qe (zlq c_z10 hr rfl (zaa (QN.qe (zcm ["row"] [none] rfl rfl (zaZ (zab (pv 0))) (fun _ _ _ _ _=>(zba (pgn 0 (zbG ["row"])))) (fun _ _ _ _ _=>(q_fn c_z8 hr rfl (zaa (zab (pv 0)) zad))))) zad))))))))))))
abbrev s_z4:Stmt:=top 5
theorem sc_z4:FnScope ["row", "other", "waits", "thing", "wait"] ["row", "other"] (zae s_z4):=zbQ
theorem ok_z4 {k:Nat}(F:Fun K "lag_of_row" "lag_of_row" s_z4 f fd)(m:Mg mg)  : FnOk P w K mg base CX0 (k+1) f fd ["row", "other"] (SpD K F_z4):=by
 have sc:=sc_z4
 refine fn_d (N:=["row", "other", "waits", "thing", "wait"]) (ps:=["row", "other"]) (g:=G_z4) F sc fun cdv A outer s H E hr => ?_
 unfold G_z4
 exact (zag (zaT (i:=2) sc.nd rfl (.inr rfl) (QN.qe (zb1 (x := "dict") (zh4 rfl) rfl m.dict_ zfr (zaa (zab (pv 1)) zad)))) (zag (zeu PassesOwn.never rfl (zaZ (zab (pv 0))) (zde [3,4] (zcZ rfl (za8 (zaR (i:=3) sc.nd rfl (.inl rfl)) (za8 (zaR (i:=4) sc.nd rfl (.inl rfl)) zbN)))) (zaj (zcg (zdw hr.units (zab (pv 3)) (zab (pv 2))) (zaj (zaH zeH)) zaS))) (zaj (zaH (za9 (x := "max") (zmU rfl) rfl m.max_ zmQ (zaa (QN.qe (zcm ["thing", "wait", "waits"] [none,none,some 2] rfl rfl (zaZ (zab (pv 0))) (fun _ _ _ _ _=>(zde [0,1] (zcZ rfl (za8 (pgn 0 (zbG ["thing", "wait", "waits"])) (za8 (pgn 1 (zbG ["thing", "wait", "waits"])) zbN))))) (fun _ _ _ _ _=>(q_op zi4 (zab (pv 1)) (zaO (zaK hr) (zab (pv 2)) (zab (pv 0)) (fun _ _=>rfl) (fun _ _=>rfl)))))) zad))))))
abbrev s_z3:Stmt:=top 4
theorem sc_z3:FnScope ["one", "row", "told", "number", "own", "more"] ["one", "row"] (zae s_z3):=zbQ
theorem ok_z3 {k:Nat}(F:Fun K "nearest_row" "nearest_row" s_z3 f fd)(m:Mg mg)(c_z4:za6 P w K mg base "lag_of_row" k ["row", "other"] (SpD K F_z4)):FnOk P w K mg base CX0 (k+1) f fd ["one", "row"] (SpD K F_z3):=by
 have sc:=sc_z3
 refine fn_d (N:=["one", "row", "told", "number", "own", "more"]) (ps:=["one", "row"]) (g:=G_z3) F sc fun cdv A outer s H E hr => ?_
 unfold G_z3
 exact (zag (zaT (i:=2) sc.nd rfl (.inl rfl) zeH) (zag (zeu PassesOwn.never rfl (zns rfl m.enumerate_ (zaa (zab (pv 0)) zad)) (zde [3,4] (zcZ rfl (za8 (zaR (i:=3) sc.nd rfl (.inl rfl)) (za8 (zaR (i:=4) sc.nd rfl (.inl rfl)) zbN)))) (zag (zaT (i:=5) sc.nd rfl (.inl rfl) (q_fn c_z4 hr rfl (zaa (zab (pv 4)) (zaa (zab (pv 1)) zad)))) (zaj (zcg (QW.qt (zpH (zjB (zab (pv 5))) (zoF (QW.qt (zgQ (zm7 (zab (pv 2))) (ze7 (zb6 o_lt (zab (pv 5)) (zaO (zaK hr) (zab (pv 2)) zaf (fun _ _=>rfl) (fun _ _=>rfl)) (zbj _)))))))) (zaj (zaT (i:=2) sc.nd rfl (.inl rfl) (zoO (zaa (zab (pv 5)) (zaa (zab (pv 3)) zad))))) zaS)))) (zaj (zaH (zab (pv 2))))))
abbrev s_z2:Stmt:=top 3
theorem sc_z2:FnScope ["one", "other"] ["one", "other"] (zae s_z2):=zbQ
theorem ok_z2 {k:Nat}(F:Fun K "nearest_rows" "nearest_rows" s_z2 f fd)(m:Mg mg)(c_z3:za6 P w K mg base "nearest_row" k ["one", "row"] (SpD K F_z3)):FnOk P w K mg base CX0 (k+1) f fd ["one", "other"] (SpN K F_z2):=by
 have sc:=sc_z2
 refine fn_n (N:=["one", "other"]) (ps:=["one", "other"]) (g:=G_z2) F sc fun cdv A outer s H E hr => ?_
 unfold G_z2
 exact (zaj (zkP (zcm ["row", "one"] [none,some 0] rfl rfl (zaZ (zab (pv 1))) (fun _ _ _ _ _=>(zba (pgn 0 (zbG ["row", "one"])))) (fun _ _ _ _ _=>(q_fn c_z3 hr rfl (zaa (zab (pv 1)) (zaa (zab (pv 0)) zad)))))))
abbrev s_z0:Stmt:=top 1
theorem sc_z0:FnScope ["one", "other", "nearest"] ["one", "other"] (zae s_z0):=zbQ
theorem ok_z0 {k:Nat}(F:Fun K "lag" "lag" s_z0 f fd)(m:Mg mg)(c_z2:za6 P w K mg base "nearest_rows" k ["one", "other"] (SpN K F_z2)):FnOk P w K mg base CX0 (k+1) f fd ["one", "other"] (SpD K F_z0):=by
 have sc:=sc_z0
 refine fn_d (N:=["one", "other", "nearest"]) (ps:=["one", "other"]) (g:=G_z0) F sc fun cdv A outer s H E hr => ?_
 unfold G_z0
 exact (zag (zaT (i:=2) sc.nd rfl (.inl rfl) (QN.qe (zlq c_z2 hr rfl (zaa (zab (pv 0)) (zaa (zab (pv 1)) zad))))) (zag (zcg (zpy hr.units zeH (zab (pv 2))) (zaj (zaH zeH)) zaS) (zaj (zaH (za9 (x := "max") (zmU rfl) rfl m.max_ zmQ (zaa (QN.qe (zcm ["more", "number"] [none,none] rfl rfl (zaZ (zab (pv 2))) (fun _ _ _ _ _=>(zde [0,1] (zcZ rfl (za8 (pgn 0 (zbG ["more", "number"])) (za8 (pgn 1 (zbG ["more", "number"])) zbN))))) (fun _ _ _ _ _=>(zab (pv 0))))) zad))))))
abbrev s_z1:Stmt:=top 2
theorem sc_z1:FnScope ["one", "other", "nearest"] ["one", "other"] (zae s_z1):=zbQ
theorem ok_z1 {k:Nat}(F:Fun K "lag_paper" "lag_paper" s_z1 f fd)(m:Mg mg)(c_z2:za6 P w K mg base "nearest_rows" k ["one", "other"] (SpN K F_z2)):FnOk P w K mg base CX0 (k+1) f fd ["one", "other"] (SpM K F_z1):=by
 have sc:=sc_z1
 refine fn_m (N:=["one", "other", "nearest"]) (ps:=["one", "other"]) (g:=G_z1) F sc fun cdv A outer s H E hr => ?_
 unfold G_z1
 exact (zag (zaT (i:=2) sc.nd rfl (.inl rfl) (QN.qe (zlq c_z2 hr rfl (zaa (zab (pv 0)) (zaa (zab (pv 1)) zad))))) (zag (zcg (zpy hr.units zeH (zab (pv 2))) (zaj (znX zeH)) zaS) (zaj (zlu (zcm ["more", "number"] [none,none] rfl rfl (zaZ (zab (pv 2))) (fun _ _ _ _ _=>(zde [0,1] (zcZ rfl (za8 (pgn 0 (zbG ["more", "number"])) (za8 (pgn 1 (zbG ["more", "number"])) zbN))))) (fun _ _ _ _ _=>(zab (pv 1))))))))
abbrev zos:Stmt:=top 18
theorem zoP:FnScope ["script", "forms", "one", "other", "handed", "most", "paper", "lonely", "tight"] ["script"] (zae zos):=zbQ
theorem zpb {k:Nat}(F:Fun K "law" "law" zos f fd)(m:Mg mg)(c_z14:za6 P w K mg base "_law_among" k ["row", "other"] (SpD K zgJ))(c_z15:za6 P w K mg base "_law_paper_good" k ["one", "other", "most", "paper"] (SpD K ziN))(c_z12:za6 P w K mg base "_law_two_forms" k ["script"] (SpN K zhm))(c_z6:za6 P w K mg base "_law_whole" k ["found"] (SpD K F_z6))(c_z13:za6 P w K mg base "_law_within" k ["row", "other", "more"] (SpD K zet))(c_z0:za6 P w K mg base "lag" k ["one", "other"] (SpD K F_z0))(c_z1:za6 P w K mg base "lag_paper" k ["one", "other"] (SpM K F_z1)):FnOk P w K mg base CX0 (k+1) f fd ["script"] (SpD K zfa):=by
 have sc:=zoP
 refine fn_d (N:=["script", "forms", "one", "other", "handed", "most", "paper", "lonely", "tight"]) (ps:=["script"]) (g:=zjh) F sc fun cdv A outer s H E hr => ?_
 unfold zjh
 exact (zag (zaT (i:=1) sc.nd rfl (.inl rfl) (QN.qe (zlq c_z12 hr rfl (zaa (zab (pv 0)) zad)))) (zag (zaT (i:=2) sc.nd rfl (.inr rfl) (zaO (zaK hr) (zab (pv 1)) zaf (fun _ _=>rfl) (fun _ _=>rfl))) (zag (zaT (i:=3) sc.nd rfl (.inl rfl) (zaO (zaK hr) (zab (pv 1)) zaf (fun _ _=>rfl) (fun _ _=>rfl))) (zag (zaT (i:=4) sc.nd rfl (.inl rfl) (QN.qe (zks (zaa (QN.qe (zb1 (x := "list") zmM rfl m.list_ zhk (zaa (zab (pv 2)) zad))) (zaa (QN.qe (zb1 (x := "list") zmM rfl m.list_ zhk (zaa (zab (pv 3)) zad))) zad))))) (zag (zaT (i:=5) sc.nd rfl (.inr rfl) (q_fn c_z0 hr rfl (zaa (zaO (zaK hr) (zab (pv 4)) zaf (fun _ _=>rfl) (fun _ _=>rfl)) (zaa (zaO (zaK hr) (zab (pv 4)) zaf (fun _ _=>rfl) (fun _ _=>rfl)) zad)))) (zag (zoh (i:=6) sc.nd rfl (.inl rfl) (zql c_z1 hr rfl (zaa (zaO (zaK hr) (zab (pv 4)) zaf (fun _ _=>rfl) (fun _ _=>rfl)) (zaa (zaO (zaK hr) (zab (pv 4)) zaf (fun _ _=>rfl) (fun _ _=>rfl)) zad)))) (zag (zcg (zm7 (zab (pv 5))) (zag (zdh ["goal", "one"] [none,some 2] sc.nd rfl (.inl rfl) rfl rfl (zaZ (zab (pv 3))) (fun _ _ _ _ _=>(zba (pgn 0 (zbG ["goal", "one"])))) (fun _ _ _ _ _=>(zda (zdd (za9 (x := "any") (znP rfl) rfl m.any_ zjP (zaa (QN.qe (zcm ["row", "goal"] [none,some 0] rfl rfl (zaZ (zab (pv 1))) (fun _ _ _ _ _=>(zba (pgn 0 (zbG ["row", "goal"])))) (fun _ _ _ _ _=>(q_fn c_z14 hr rfl (zaa (zab (pv 0)) (zaa (zab (pv 1)) zad)))))) zad))))) (fun _ _ _ _ _=>(zab (pv 0)))) (zaj (zaH (zlk (zqq [6] (q_isN (zab (pv 6)))) (zlk (zot (o_ne hr.units) (zab (pv 7)) (QN.qe (zks zad)) (zbj _)) (znY (zot (o_eq hr.units) (zab (pv 4)) (zab (pv 1)) (zbj _)))))))) zaS) (zag (zcg (QW.qt (zgQ (zda (zdd (q_fn c_z6 hr rfl (zaa (zab (pv 5)) zad)))) (ze7 (zda (zdd (zqq [6] (q_fn c_z15 hr rfl (zaa (zab (pv 2)) (zaa (zab (pv 3)) (zaa (zab (pv 5)) (zaa (zab (pv 6)) zad))))))))))) (zaj (zaH zen)) zaS) (zag (zdh ["goal", "one", "most"] [none,some 2,some 5] sc.nd rfl (.inl rfl) rfl rfl (zaZ (zab (pv 3))) (fun _ _ _ _ _=>(zba (pgn 0 (zbG ["goal", "one", "most"])))) (fun _ _ _ _ _=>(zda (zdd (za9 (x := "any") (znP rfl) rfl m.any_ zjP (zaa (QN.qe (zcm ["row", "goal", "most"] [none,some 0,some 2] rfl rfl (zaZ (zab (pv 1))) (fun _ _ _ _ _=>(zba (pgn 0 (zbG ["row", "goal", "most"])))) (fun _ _ _ _ _=>(q_fn c_z13 hr rfl (zaa (zab (pv 0)) (zaa (zab (pv 1)) (zaa (q_op zi4 (zab (pv 2)) zaf) zad))))))) zad))))) (fun _ _ _ _ _=>(zab (pv 0)))) (zag (zcg (zb6 (o_eq hr.units) (zab (pv 8)) (QN.qe (zks zad)) (zbj _)) (zaj (zaH zen)) zaS) (zag (zgu (pv 6) zaf (fun h1 h2=>zpP PySem.F.plainAttrs_list PySem.F.slot_list_append PySem.F.type_list_append zfN h1 h2)) (zaj (zaH (zlk (q_fn c_z15 hr rfl (zaa (zab (pv 2)) (zaa (zab (pv 3)) (zaa (zab (pv 5)) (zaa (QM.qe (zql c_z1 hr rfl (zaa (zaO (zaK hr) (zab (pv 4)) zaf (fun _ _=>rfl) (fun _ _=>rfl)) (zaa (zaO (zaK hr) (zab (pv 4)) zaf (fun _ _=>rfl) (fun _ _=>rfl)) zad)))) zad))))) (znY (zot (o_eq hr.units) (zab (pv 4)) (zab (pv 1)) (zbj _)))))))))))))))))
end
def zhq (K:PySem.W.Frag):Sp:=fun vs H Q _ => ∃ (a:Addr) (ns:List Int),vs=[.ref a]∧SqL K H a (ns.map V.int)∧ns.length≤63∧∀ H',Q (.bl true) H'
theorem zow (K:PySem.W.Frag)(vs:List V)(H:Hp)(Q:VK)(E:XK)(h:zhq K vs H Q E):SpD K zfa vs H Q E:=by
 refine zc2d h fun a ns zr2 hS hl q => ?_
 obtain rfl:=zr2
 refine ⟨H,[.scr ns],Same.refl _,IsDs.mk (IsD.scr_iff.mpr ⟨a,rfl,hS⟩) .nil,?_⟩
 rw [law_true ns hl]
 intro v F' H' e i
 rw [IsD.bl_iff.mp i]
 exact q H'
theorem all_mk {l:PySem.W.OpenLaw}{w:World}{K:PySem.W.Frag}{h:Heap}{mg:Str→Option Value}{fa:Addr}(X:K.In h)(G:h.Ns mainGlobals mg)(hfa:mg "law" = some (.ref fa))
 (d_z14:zbH K "_law_among" znG)
 (d_z6:zbH K "_law_whole" s_z6)
 (d_z13:zbH K "_law_within" zmX)
 (d_z15:zbH K "_law_paper_good" znF)
 (d_z5:zbH K "_law_cell_at" s_z5)
 (d_z7:zbH K "_law_wait" s_z7)
 (d_z11:zbH K "_law_filled" znk)
 (d_z8:zbH K "_law_row" s_z8)
 (d_z9:zbH K "_law_under" s_z9)
 (d_z10:zbH K "_law_thin" znV)
 (d_z12:zbH K "_law_two_forms" zo1)
 (d_z4:zbH K "lag_of_row" s_z4)
 (d_z3:zbH K "nearest_row" s_z3)
 (d_z2:zbH K "nearest_rows" s_z2)
 (d_z0:zbH K "lag" s_z0)
 (d_z1:zbH K "lag_paper" s_z1)
 (d_law:zbH K "law" zos)
 (z_all:PySem.W.nsIn K mainGlobals "all" = some none)
 (z_any:PySem.W.nsIn K mainGlobals "any" = some none)
 (z_bool:PySem.W.nsIn K mainGlobals "bool" = some none)
 (z_dict:PySem.W.nsIn K mainGlobals "dict" = some none)
 (z_enumerate:PySem.W.nsIn K mainGlobals "enumerate" = some none)
 (z_int:PySem.W.nsIn K mainGlobals "int" = some none)
 (z_isinstance:PySem.W.nsIn K mainGlobals "isinstance" = some none)
 (z_len:PySem.W.nsIn K mainGlobals "len" = some none)
 (z_list:PySem.W.nsIn K mainGlobals "list" = some none)
 (z_max:PySem.W.nsIn K mainGlobals "max" = some none)
 (z_min:PySem.W.nsIn K mainGlobals "min" = some none)
 (z_range:PySem.W.nsIn K mainGlobals "range" = some none)
 (z_set:PySem.W.nsIn K mainGlobals "set" = some none)
 (z_sorted:PySem.W.nsIn K mainGlobals "sorted" = some none)
 (z_tuple:PySem.W.nsIn K mainGlobals "tuple" = some none) :
 ∃ fd:FuncData,(∀ (s:Shared) (v:Value),BindsTo s fd ⟨[v],[]⟩ [("script",v)])∧∀ base:Heap,K.In base→base.Ns mainGlobals mg→FnOk l.prog w K mg base CX0 5 fa fd ["script"] (zhq K):=by
 refine zc2b d_law fun f_law fd_law a_law zfa => ?_
 have e:=hfa.symm.trans (PySem.W.mg_of X G a_law)
 first|exact zqn e|exact zqb e|(obtain rfl:=Option.some.inj e)|cases e
 have m:Mg mg:=⟨PySem.W.mg_none_of X G z_all,PySem.W.mg_none_of X G z_any,PySem.W.mg_none_of X G z_bool,PySem.W.mg_none_of X G z_dict,PySem.W.mg_none_of X G z_enumerate,PySem.W.mg_none_of X G z_int,PySem.W.mg_none_of X G z_isinstance,PySem.W.mg_none_of X G z_len,PySem.W.mg_none_of X G z_list,PySem.W.mg_none_of X G z_max,PySem.W.mg_none_of X G z_min,PySem.W.mg_none_of X G z_range,PySem.W.mg_none_of X G z_set,PySem.W.mg_none_of X G z_sorted,PySem.W.mg_none_of X G z_tuple⟩
 refine ⟨fd_law,(by obtain ⟨_,_,_,_,_,_,_,_,_,rfl,_,_⟩:=id zfa.ex;exact fun s v=>.of_eq rfl),fun base _ _ => ?_⟩
 have C_z14:=d_z14.callee (P:=l.prog) (w:=w) (base:=base) X G (fun F=>zqx (k:=0) F m ) fun _ _ _ _ _ _=>us2 fun _ _=>rfl
 have C_z6:=d_z6.callee (P:=l.prog) (w:=w) (base:=base) X G (fun F=>ok_z6 (k:=0) F m ) fun _ _ _ _ _ _=>us1 fun _=>rfl
 have C_z13:=d_z13.callee (P:=l.prog) (w:=w) (base:=base) X G (fun F=>zqv (k:=0) F m ) fun _ _ _ _ _ _=>us3 fun _ _ _=>rfl
 have C_z15:=d_z15.callee (P:=l.prog) (w:=w) (base:=base) X G (fun F=>zp6 (k:=1) F m (C_z6.mono (by decide)) (C_z13.mono (by decide))) fun _ _ _ _ _ _=>us4 fun _ _ _ _=>rfl
 have C_z5:=d_z5.callee (P:=l.prog) (w:=w) (base:=base) X G (fun F=>ok_z5 (k:=0) F m ) fun _ _ _ _ _ _=>us2 fun _ _=>rfl
 have C_z7:=d_z7.callee (P:=l.prog) (w:=w) (base:=base) X G (fun F=>ok_z7 (k:=0) F m ) fun _ _ _ _ _ _=>us1 fun _=>rfl
 have C_z11:=d_z11.callee (P:=l.prog) (w:=w) (base:=base) X G (fun F=>zpZ (k:=1) F m (C_z7.mono (by decide))) fun _ _ _ _ _ _=>us2 fun _ _=>rfl
 have C_z8:=d_z8.callee (P:=l.prog) (w:=w) (base:=base) X G (fun F=>ok_z8 (k:=0) F m ) fun _ _ _ _ _ _=>us1 fun _=>rfl
 have C_z9:=d_z9.callee (P:=l.prog) (w:=w) (base:=base) X G (fun F=>ok_z9 (k:=0) F m ) fun _ _ _ _ _ _=>us2 fun _ _=>rfl
 have C_z10:=d_z10.callee (P:=l.prog) (w:=w) (base:=base) X G (fun F=>zqy (k:=1) F m (C_z9.mono (by decide))) fun _ _ _ _ _ _=>us1 fun _=>rfl
 have C_z12:=d_z12.callee (P:=l.prog) (w:=w) (base:=base) X G (fun F=>zqg (k:=2) F m (C_z5.mono (by decide)) (C_z11.mono (by decide)) (C_z8.mono (by decide)) (C_z10.mono (by decide))) fun _ _ _ _ _ _=>us1 fun _=>rfl
 have C_z4:=d_z4.callee (P:=l.prog) (w:=w) (base:=base) X G (fun F=>ok_z4 (k:=0) F m ) fun _ _ _ _ _ _=>us2 fun _ _=>rfl
 have C_z3:=d_z3.callee (P:=l.prog) (w:=w) (base:=base) X G (fun F=>ok_z3 (k:=1) F m (C_z4.mono (by decide))) fun _ _ _ _ _ _=>us2 fun _ _=>rfl
 have C_z2:=d_z2.callee (P:=l.prog) (w:=w) (base:=base) X G (fun F=>ok_z2 (k:=2) F m (C_z3.mono (by decide))) fun _ _ _ _ _ _=>us2 fun _ _=>rfl
 have C_z0:=d_z0.callee (P:=l.prog) (w:=w) (base:=base) X G (fun F=>ok_z0 (k:=3) F m (C_z2.mono (by decide))) fun _ _ _ _ _ _=>us2 fun _ _=>rfl
 have C_z1:=d_z1.callee (P:=l.prog) (w:=w) (base:=base) X G (fun F=>ok_z1 (k:=3) F m (C_z2.mono (by decide))) fun _ _ _ _ _ _=>us2 fun _ _=>rfl
 exact ((zpb (k:=4) (P:=l.prog) (w:=w) (base:=base) zfa m (C_z14.mono (by decide)) (C_z15.mono (by decide)) (C_z12.mono (by decide)) (C_z6.mono (by decide)) (C_z13.mono (by decide)) (C_z0.mono (by decide)) (C_z1.mono (by decide))).mono (by decide)).imp (zow K)
theorem walk {l:PySem.W.OpenLaw}{q:Program}{loose:List Str}{XP:(Str→Option Value)→Heap→Prop}{YP:World→Heap→Prop}{d:DefRec}{K:Params→PySem.W.Frag}(hn:l.most=some 63)(hdf:d.params.defaults=[])
 (hY:∀ (w:World) (h:Heap),YP w h→(K w.params).In h)
 (F:∀ (w:World) (mg:Str→Option Value) (fa:Addr) (h:Heap),(K w.params).In h→h.Ns mainGlobals mg→mg d.name=some (.ref fa) →
  ∃ fd:FuncData,(∀ (s:Shared) (u:Value),BindsTo s fd ⟨[u],[]⟩ [("script",u)])∧∀ base:Heap,(K w.params).In base→base.Ns mainGlobals mg→FnOk l.prog w (K w.params) mg base CX0 5 fa fd ["script"] (zhq (K w.params))) :
 PySem.W.WalkO q loose XP YP l.row.toRowW d [] (fun f vs=>PySem.call f vs) :=
 L2.walk_of (n:=63) (k:=5) (x := "script") (CX:=fun _=>CX0) (sp:=fun w=>zhq (K w.params)) hn (by decide) hdf ⟨rfl,by decide,by decide⟩ hY F (fun _ _ a ns hl _ hS=>⟨a,ns,rfl,hS,hl,fun _=>rfl⟩) fun _ _ _ _ _ z=>z
end My
open PySem PySem.W PyProof.Rows
set_option maxRecDepth 100000 in
set_option maxHeartbeats 0 in
theorem PySem.Challenge.cw_allfirst_k15_papers_of_lags_holds : PySem.Challenge.rw_allfirst_k15_papers_of_lags.Holds := by
 w_on;o_law;k_head;(case hw=>w_witness2)
 k_fill
 refine My.walk (l:=PySem.Challenge.rw_allfirst_k15_papers_of_lags) rfl rfl (fun w h Y=>PySem.W.kIn_of Y) ?F
 case F =>
  intro w mg fa h KX G hmg
  refine' My.all_mk KX G hmg ?d_z14 ?d_z6 ?d_z13 ?d_z15 ?d_z5 ?d_z7 ?d_z11 ?d_z8 ?d_z9 ?d_z10 ?d_z12 ?d_z4 ?d_z3 ?d_z2 ?d_z0 ?d_z1 ?d_law ?z_all ?z_any ?z_bool ?z_dict ?z_enumerate ?z_int ?z_isinstance ?z_len ?z_list ?z_max ?z_min ?z_range ?z_set ?z_sorted ?z_tuple
  (case d_z14|d_z6|d_z13|d_z15|d_z5|d_z7|d_z11|d_z8|d_z9|d_z10|d_z12|d_z4|d_z3|d_z2|d_z0|d_z1|d_law=>refine' ⟨_,_,?a,L2.fun_mk ?l ?c ?k⟩;(case a=>k_is);(case l=>k_is);(case c=>k_is);(case k=>k_is))
  (case z_all|z_any|z_bool|z_dict|z_enumerate|z_int|z_isinstance|z_len|z_list|z_max|z_min|z_range|z_set|z_sorted|z_tuple=>k_is)
