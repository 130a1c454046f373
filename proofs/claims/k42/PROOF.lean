import PyProof.Rows.All
import Wide.All
import OpenK.AllK
import Wide.FinOn
import Lean
import PyProof.EqAt
import PyProof.EqKinds
import PyProof.TupleCall
import PyProof.P3Eq
import PyProof.NeData
import PySem.Challenge.RW_allfirst_k42_plans_and_books
set_option Elab.async false
set_option linter.all false
set_option maxRecDepth 100000
set_option bootstrap.genMatcherCode false
set_option compiler.extract_closed false
set_option genSizeOf false
noncomputable section
local macro_rules | `(tactic| omega) => `(tactic| lia)
theorem zau (_:True=True:=by rfl):True:=trivial
theorem zav (_:True:=by decide):True:=trivial
theorem zaw (_:Nat→True=True:=by intro _;rfl):True:=trivial
theorem zc0b {p0 p1:Prop}{P:Prop}(h:p0∧p1)(k:p0→p1→P):P:=by
 obtain ⟨h0,h1⟩:=h
 exact k h0 h1
theorem zc0c {p0 p1 p2:Prop}{P:Prop}(h:p0∧p1∧p2)(k:p0→p1→p2→P):P:=by
 obtain ⟨h0,h1,h2⟩:=h
 exact k h0 h1 h2
theorem zc0d {p0 p1 p2 p3:Prop}{P:Prop}(h:p0∧p1∧p2∧p3)(k:p0→p1→p2→p3→P):P:=by
 obtain ⟨h0,h1,h2,h3⟩:=h
 exact k h0 h1 h2 h3
theorem zc0e {p0 p1 p2 p3 p4:Prop}{P:Prop}(h:p0∧p1∧p2∧p3∧p4)(k:p0→p1→p2→p3→p4→P):P:=by
 obtain ⟨h0,h1,h2,h3,h4⟩:=h
 exact k h0 h1 h2 h3 h4
theorem zc1a.{u0}{α0:Sort u0}{p0 : α0→Prop}{P:Prop}(h:∃ a0,p0 a0)(k:∀ a0,p0 a0→P):P:=by
 obtain ⟨a0,h0⟩:=h
 exact k a0 h0
theorem zc1b.{u0}{α0:Sort u0}{p0 p1 : α0→Prop}{P:Prop}(h:∃ a0,p0 a0∧p1 a0)(k:∀ a0,p0 a0→p1 a0→P):P:=by
 obtain ⟨a0,h0,h1⟩:=h
 exact k a0 h0 h1
theorem zc1c.{u0}{α0:Sort u0}{p0 p1 p2 : α0→Prop}{P:Prop}(h:∃ a0,p0 a0∧p1 a0∧p2 a0)(k:∀ a0,p0 a0→p1 a0→p2 a0→P):P:=by
 obtain ⟨a0,h0,h1,h2⟩:=h
 exact k a0 h0 h1 h2
theorem zc1d.{u0}{α0:Sort u0}{p0 p1 p2 p3 : α0→Prop}{P:Prop}(h:∃ a0,p0 a0∧p1 a0∧p2 a0∧p3 a0)(k:∀ a0,p0 a0→p1 a0→p2 a0→p3 a0→P):P:=by
 obtain ⟨a0,h0,h1,h2,h3⟩:=h
 exact k a0 h0 h1 h2 h3
theorem zc1e.{u0}{α0:Sort u0}{p0 p1 p2 p3 p4 : α0→Prop}{P:Prop}(h:∃ a0,p0 a0∧p1 a0∧p2 a0∧p3 a0∧p4 a0)(k:∀ a0,p0 a0→p1 a0→p2 a0→p3 a0→p4 a0→P):P:=by
 obtain ⟨a0,h0,h1,h2,h3,h4⟩:=h
 exact k a0 h0 h1 h2 h3 h4
theorem zc2a.{u0,u1}{α0:Sort u0}{α1:Sort u1}{p0 : α0 → α1→Prop}{P:Prop}(h:∃ a0 a1,p0 a0 a1)(k:∀ a0 a1,p0 a0 a1→P):P:=by
 obtain ⟨a0,a1,h0⟩:=h
 exact k a0 a1 h0
theorem zc2b.{u0,u1}{α0:Sort u0}{α1:Sort u1}{p0 p1 : α0 → α1→Prop}{P:Prop}(h:∃ a0 a1,p0 a0 a1∧p1 a0 a1)(k:∀ a0 a1,p0 a0 a1→p1 a0 a1→P):P:=by
 obtain ⟨a0,a1,h0,h1⟩:=h
 exact k a0 a1 h0 h1
theorem zc2c.{u0,u1}{α0:Sort u0}{α1:Sort u1}{p0 p1 p2 : α0 → α1→Prop}{P:Prop}(h:∃ a0 a1,p0 a0 a1∧p1 a0 a1∧p2 a0 a1)(k:∀ a0 a1,p0 a0 a1→p1 a0 a1→p2 a0 a1→P):P:=by
 obtain ⟨a0,a1,h0,h1,h2⟩:=h
 exact k a0 a1 h0 h1 h2
theorem zc2d.{u0,u1}{α0:Sort u0}{α1:Sort u1}{p0 p1 p2 p3 : α0 → α1→Prop}{P:Prop}(h:∃ a0 a1,p0 a0 a1∧p1 a0 a1∧p2 a0 a1∧p3 a0 a1)(k:∀ a0 a1,p0 a0 a1→p1 a0 a1→p2 a0 a1→p3 a0 a1→P):P:=by
 obtain ⟨a0,a1,h0,h1,h2,h3⟩:=h
 exact k a0 a1 h0 h1 h2 h3
theorem zc3a.{u0,u1,u2}{α0:Sort u0}{α1:Sort u1}{α2:Sort u2}{p0 : α0 → α1 → α2→Prop}{P:Prop}(h:∃ a0 a1 a2,p0 a0 a1 a2)(k:∀ a0 a1 a2,p0 a0 a1 a2→P):P:=by
 obtain ⟨a0,a1,a2,h0⟩:=h
 exact k a0 a1 a2 h0
theorem zc3b.{u0,u1,u2}{α0:Sort u0}{α1:Sort u1}{α2:Sort u2}{p0 p1 : α0 → α1 → α2→Prop}{P:Prop}(h:∃ a0 a1 a2,p0 a0 a1 a2∧p1 a0 a1 a2)(k:∀ a0 a1 a2,p0 a0 a1 a2→p1 a0 a1 a2→P):P:=by
 obtain ⟨a0,a1,a2,h0,h1⟩:=h
 exact k a0 a1 a2 h0 h1
theorem zc3c.{u0,u1,u2}{α0:Sort u0}{α1:Sort u1}{α2:Sort u2}{p0 p1 p2 : α0 → α1 → α2→Prop}{P:Prop}(h:∃ a0 a1 a2,p0 a0 a1 a2∧p1 a0 a1 a2∧p2 a0 a1 a2)(k:∀ a0 a1 a2,p0 a0 a1 a2→p1 a0 a1 a2→p2 a0 a1 a2→P):P:=by
 obtain ⟨a0,a1,a2,h0,h1,h2⟩:=h
 exact k a0 a1 a2 h0 h1 h2
theorem zc4a.{u0,u1,u2,u3}{α0:Sort u0}{α1:Sort u1}{α2:Sort u2}{α3:Sort u3}{p0 : α0 → α1 → α2 → α3→Prop}{P:Prop}(h:∃ a0 a1 a2 a3,p0 a0 a1 a2 a3)(k:∀ a0 a1 a2 a3,p0 a0 a1 a2 a3→P):P:=by
 obtain ⟨a0,a1,a2,a3,h0⟩:=h
 exact k a0 a1 a2 a3 h0
namespace L2
open PySem PySem.Spec PyProof.Rows
abbrev Key:=Sum Int Str
noncomputable def zez:Key→Value→Bool
 | .inl k,v=>Value.isInt k v
 | .inr x,v=>Value.isStrOf x v
noncomputable def keyH (w:World):Key→Int
 | .inl k=>hashInt k
 | .inr x=>hashStr w x
theorem zay:∀ {k:Key} {v:Value},zez k v=true→(∃ i t,k=Sum.inl i∧v=Value.int i t)∨(∃ x t,k=Sum.inr x∧v=Value.str x t)
 | .inl i,v,h=>by
  obtain ⟨t,e⟩:=Value.isInt_shape (k:=i) (v:=v) h
  exact .inl ⟨i,t,rfl,e⟩
 | .inr x,v,h=>by
  obtain ⟨t,e⟩:=Value.isStrOf_shape (x:=x) (v:=v) h
  exact .inr ⟨x,t,rfl,e⟩
theorem zft (i:Int)(t:Tok):zez (.inl i) (.int i t)=true:=by simp [zez,Value.isInt]
theorem zeU (x:Str)(t:Tok):zez (.inr x) (.str x t)=true:=by simp [zez,Value.isStrOf]
theorem zkp (a b:Int):decide ((Sum.inl a:Key)=Sum.inl b)=(a == b):=by
 by_cases e:a=b
 ·subst e;simp -iota
 ·have h:¬ (Sum.inl a:Key)=Sum.inl b:=fun q=>e (Sum.inl.inj q)
  rw [decide_eq_false h]
  exact (beq_eq_false_iff_ne.mpr e).symm
theorem zjt (a b:Str):decide ((Sum.inr a:Key)=Sum.inr b)=decide (a=b):=by
 by_cases e:a=b
 ·subst e;simp -iota
 ·have h:¬ (Sum.inr a:Key)=Sum.inr b:=fun q=>e (Sum.inr.inj q)
  rw [decide_eq_false h,decide_eq_false e]
theorem ziL (a:Int)(b:Str):decide ((Sum.inl a:Key)=Sum.inr b)=false:=decide_eq_false (fun q=>nomatch q)
theorem zjo (a:Str)(b:Int):decide ((Sum.inr a:Key)=Sum.inl b)=false:=decide_eq_false (fun q=>nomatch q)
def zaW (prog:Program)(w:World):PySem.KeyKind prog w Key where
 is:=zez
 hash:=keyH w
 inj:=fun v a b ha hb=>by
  rcases zay ha with ⟨i,t,rfl,rfl⟩|⟨x,t,rfl,rfl⟩
  ·rcases zay hb with ⟨j,u,rfl,e⟩|⟨y,u,rfl,e⟩
   ·injection e with e1 _;rw [e1]
   ·exact nomatch e
  ·rcases zay hb with ⟨j,u,rfl,e⟩|⟨y,u,rfl,e⟩
   ·exact nomatch e
   ·injection e with e1 _;rw [e1]
 byValue:=fun k v h=>by
  rcases zay h with ⟨i,t,rfl,rfl⟩|⟨x,t,rfl,rfl⟩<;>rfl
 pyHash:=fun hv h=>by
  rcases zay hv with ⟨i,t,rfl,rfl⟩|⟨x,t,rfl,rfl⟩
  ·exact wpAny_pyHash_int h
  ·exact wpAny_pyHash_str h
 eqBool:=fun hu hv h=>by
  rcases zay hu with ⟨i,t,rfl,rfl⟩|⟨x,t,rfl,rfl⟩
  ·rcases zay hv with ⟨j,u,rfl,rfl⟩|⟨y,u,rfl,rfl⟩
   ·rw [zkp] at h;exact wpAny_eqBool_int h
   ·rw [ziL] at h;exact SeqAt.EqAt.int_str i t y u _ _ _ _ h
  ·rcases zay hv with ⟨j,u,rfl,rfl⟩|⟨y,u,rfl,rfl⟩
   ·rw [zjo] at h;exact SeqAt.EqAt.str_int x t j u _ _ _ _ h
   ·rw [zjt] at h;exact wpAny_eqBool_str h
 «strs»:=fun k x t v h=>by
  rcases zay h with ⟨i,u,rfl,e⟩|⟨y,u,rfl,e⟩
  ·exact nomatch e
  ·injection e with e1 _
   subst e1
   cases v<;>rfl
theorem zdt (prog:Program)(w:World)(i:Int)(t:Tok):(zaW prog w).is (.inl i) (.int i t)=true:=zft i t
theorem zd7 (prog:Program)(w:World)(x:Str)(t:Tok):(zaW prog w).is (.inr x) (.str x t)=true:=zeU x t
end L2
namespace L2
open PySem PySem.Spec PyProof.Rows
inductive V where
 | non|bl (b:Bool)|int (i:Int)|str (x:Str)|byt (b:Array UInt8)|flt (b:UInt64)|ref (a:Addr)|ty (n:String)
 deriving DecidableEq
noncomputable def RelV:V→Value→Prop
 | .non,u=>u=Value.none
 | .bl b,u=>u=Value.bool b
 | .int i,u => ∃ t,u=Value.int i t
 | .str x,u => ∃ t,u=Value.str x t
 | .byt b,u => ∃ t,u=Value.bytes b t
 | .flt b,u => ∃ t,u=Value.float b t
 | .ref a,u=>u=Value.ref a
 | .ty n,u=>u=Value.type n
abbrev Vals:List V→List Value→Prop:=Paired RelV
theorem Vals.length {xs:List V}{us:List Value}(r:Vals xs us):xs.length=us.length:=Paired.length r
theorem Vals.get:∀ {xs:List V} {us:List Value} {i:Nat} {x:V},Vals xs us→xs[i]? = some x→∃ u,us[i]? = some u∧RelV x u
 | _,_,_,_,.nil,e=>by simp -iota at e
 | _,_,0,_,.cons r _,e=>by simp -iota at e;subst e;exact ⟨_,rfl,r⟩
 | _,_,i+1,x,.cons _ t,e=>by
  refine zc1b (Vals.get (i:=i) (x:=x) t (by simpa -iota using e)) fun u h1 h2 => ?_
  exact ⟨u,by simpa -iota using h1,h2⟩
theorem Vals.append:∀ {xs ys:List V} {us ws:List Value},Vals xs us→Vals ys ws→Vals (xs++ys) (us++ws):=fun h s=>by
 induction h with
 | nil=>exact s
 | cons r _ ih=>exact .cons r ih
theorem Vals.none_of:∀ {xs:List V} {us:List Value} {i:Nat},Vals xs us→xs[i]? = none→us[i]? = none:=fun {xs us i} r e=>by
 have h1:=r.length
 have h2:xs.length≤i:=List.getElem?_eq_none_iff.mp e
 exact List.getElem?_eq_none_iff.mpr (by omega)
def RelO:Option V→Option Value→Prop
 | some v,some u=>RelV v u
 | none,none=>True
 | _,_=>False
def KV {κ : Type}:List (κ × V)→List (κ × Value)→Prop:=Paired fun (p : κ × V) (q : κ × Value)=>p.1=q.1∧RelV p.2 q.2
noncomputable def kV:Key→V
 | .inl i=>.int i
 | .inr x=>.str x
inductive HO where
 | lst (xs:List V)
 | tup (xs:List V)
 | dK (kvs:List (Key×V))|dT (kvs:List (List Key×V))
 | set (S:Int→Bool) (n:Nat)
 | ins (C dx:Addr) (fs:List (Str×V))
 | own (x:Addr)
 | xd (fs:List (Str×V))
 | met (f x:Addr)
 | rng (lo hi:Int)
 | frz (o:Obj) (u:HO)
 | tbl (ps:Array Value)
 | ext (φ : Heap→Prop)
abbrev Hp:=Addr→Option HO
noncomputable def upd (H:Hp)(a:Addr)(o:HO):Hp:=fun b=>if b=a then some o else H b
theorem zak {H:Hp}{a:Addr}{o:HO}:upd H a o a=some o:=by unfold upd;rw [if_pos rfl]
theorem zai {H:Hp}{a b:Addr}{o:HO}(h:b≠a):upd H a o b=H b:=by unfold upd;rw [if_neg h]
theorem zan {H:Hp}{a b:Addr}{o:HO}(h:H a=some o)(h':H b=none):a≠b:=by
 intro e;subst e;rw [h] at h';cases h'
section
variable (P:Program)(w:World)
def za4 (H:Hp)(h:Heap)(a:Addr):HO→Prop
 | .lst xs=>xs.length≤sizeLine∧∃ (its:List Value) (n:Nat),Vals xs its∧h.get? a=some { cls:=.type "list",data:=.seq its.toArray n }
 | .tup xs=>(xs.length≤sizeLine∧∃ o,h.get? a=some o∧o.dict=none)∧∃ its:List Value,Vals xs its∧IsTup h a its.toArray
 | .dK kvs=>kvs.length≤sizeLine∧(a == sysModules)=false∧∃ vs,KV kvs vs∧h.DictOf (zaW P w) a vs
 | .dT kvs=>kvs.length≤sizeLine∧(a == sysModules)=false∧∃ xs:List (List Key×Addr×Value),
  Paired (fun (p:List Key×V) (q:List Key×Addr×Value)=>p.1=q.1∧H q.2.1=some (.tup (p.1.map kV))∧RelV p.2 q.2.2) kvs xs ∧
  ∃ o es ep,h.get? a=some o∧o.ExactDict∧o.data=.dict es ep∧es.toList=xs.map (entryOfKey (tupleKind (zaW P w)))∧(xs.map (·.1)).Nodup
 | .set S n=>h.SetOf (intKind P w) a S n
 | .ins C dx fs=>H dx=some (.own a)∧fs.length≤1000∧dx≠a∧h.get? a=some (PySem.W.instObj C dx) ∧
  ∃ mA,h.Ns1 dx mA∧(∀ f,RelO (fs.lookup f) (mA f))∧PySem.Within mA (fs.map (·.1))
 | .own _ => ∃ o,h.get? a=some o
 | .xd fs => ∃ mA,h.Ns1 a mA∧∀ f,RelO (fs.lookup f) (mA f)
 | .rng lo hi => ∃ t u v,h.get? a=some { cls:=.type "range",data:=.fields #[.int lo t,.int hi u,.int 1 v] }
 | .frz o u=>h.get? a=some o∧za4 H h a u
 | .tbl ps=>h.get? a=some { cls:=.none,data:=.fields ps }
 | .met f x=>h.get? a=some (PySem.W.methodObj (.ref f) (.ref x))
 | .ext φ => φ h∧(∃ o,h.get? a=some o)∧∀ h1 h2:Heap,φ h1→(∀ o,h1.get? a=some o→h2.get? a=some o) → φ h2
def HOk (H:Hp)(h:Heap):Prop:=∀ a o,H a=some o→za4 P w H h a o
end
section
variable {P:Program}{w:World}{H H':Hp}{h h':Heap}{a:Addr}{o:HO}
theorem za4.lt (x:za4 P w H h a o):a<h.objs.size:=by
 cases o with
 | lst xs=>obtain ⟨_,_,_,_,e⟩:=x;exact Heap.lt_size e
 | tup xs=>obtain ⟨_,_,_,p⟩:=x;exact p.lt
 | dK kvs=>obtain ⟨_,_,_,_,o,_,_,e,_⟩:=x;exact Heap.lt_size e
 | dT kvs=>obtain ⟨_,_,_,_,o,_,_,e,_⟩:=x;exact Heap.lt_size e
 | set S n=>obtain ⟨o,_,_,_,e,_⟩:=x;exact Heap.lt_size e
 | ins C dx fs=>obtain ⟨_,_,_,e,_⟩:=x;exact Heap.lt_size e
 | own y=>obtain ⟨_,e⟩:=x;exact Heap.lt_size e
 | xd fs=>obtain ⟨_,⟨_,_,_,e,_⟩,_⟩:=x;exact Heap.lt_size e
 | rng lo hi=>obtain ⟨_,_,_,e⟩:=x;exact Heap.lt_size e
 | frz ob u=>obtain ⟨e,_⟩:=x;exact Heap.lt_size e
 | tbl ps=>exact Heap.lt_size (show h.get? a=some _ from x)
 | met f y=>exact Heap.lt_size (show h.get? a=some _ from x)
 | ext φ => obtain ⟨_,⟨_,e⟩,_⟩:=x;exact Heap.lt_size e
theorem Paired.mapP {α β : Type}{F G : α → β → Prop}:∀ {l₁:List α} {l₂:List β},Paired F l₁ l₂→(∀ a b,F a b→G a b)→Paired G l₁ l₂:=fun h f=>by
 induction h with
 | nil=>exact .nil
 | cons r _ ih=>exact .cons (f _ _ r) ih
theorem za4.stay (x:za4 P w H h a o)(k:∀ b u,(b=a∨H b=some (.own a))→h.get? b=some u→h'.get? b=some u)
 (ho:∀ b,H b=some (.own a)→H' b=some (.own a)) (ht:∀ b xs,H b=some (.tup xs)→H' b=some (.tup xs)):za4 P w H' h' a o:=by
 induction o with
 | lst xs=>obtain ⟨z,its,n,r,e⟩:=x;exact ⟨z,its,n,r,k _ _ (.inl rfl) e⟩
 | tup xs=>obtain ⟨⟨z,od,ed,dd⟩,its,r,ob,e,c⟩:=x;exact ⟨⟨z,od,k _ _ (.inl rfl) ed,dd⟩,its,r,ob,k _ _ (.inl rfl) e,c⟩
 | dK kvs=>obtain ⟨z,y,vs,r,ob,es,ep,e,c⟩:=x;exact ⟨z,y,vs,r,ob,es,ep,k _ _ (.inl rfl) e,c⟩
 | dT kvs =>
  refine zc0c x fun z y zz=>zc1b zz fun xs r zz=>zc3b zz fun ob es ep e c => ?_
  exact ⟨z,y,xs,Paired.mapP r fun p q z=>⟨z.1,ht _ _ z.2.1,z.2.2⟩,ob,es,ep,k _ _ (.inl rfl) e,c⟩
 | set S n=>obtain ⟨ob,es,ep,t,e,c⟩:=x;exact ⟨ob,es,ep,t,k _ _ (.inl rfl) e,c⟩
 | ins C dx fs =>
  refine zc0e x fun d z ne e zz=>zc1b zz fun mA zr5 r => ?_
  obtain ⟨od,es,ep,e2,c⟩:=zr5
  exact ⟨ho _ d,z,ne,k _ _ (.inl rfl) e,mA,⟨od,es,ep,k _ _ (.inr d) e2,c⟩,r⟩
 | own y=>obtain ⟨ob,e⟩:=x;exact ⟨ob,k _ _ (.inl rfl) e⟩
 | xd fs=>obtain ⟨mA,⟨od,es,ep,e,c⟩,r⟩:=x;exact ⟨mA,⟨od,es,ep,k _ _ (.inl rfl) e,c⟩,r⟩
 | rng lo hi=>obtain ⟨t,u,v,e⟩:=x;exact ⟨t,u,v,k _ _ (.inl rfl) e⟩
 | frz ob u ih=>obtain ⟨e,q⟩:=x;exact ⟨k _ _ (.inl rfl) e,ih q⟩
 | tbl ps =>
  have e:h.get? a=some { cls:=.none,data:=.fields ps }:=x
  show h'.get? a=some { cls:=.none,data:=.fields ps }
  exact k a _ (.inl rfl) e
 | met f y =>
  have e:h.get? a=some (PySem.W.methodObj (.ref f) (.ref y)):=x
  show h'.get? a=some (PySem.W.methodObj (.ref f) (.ref y))
  exact k a _ (.inl rfl) e
 | ext φ => obtain ⟨p,⟨o,e⟩,st⟩:=x;exact ⟨st _ _ p fun o q=>k _ _ (.inl rfl) q,⟨o,k _ _ (.inl rfl) e⟩,st⟩
theorem HOk.lt (x:HOk P w H h)(e:H a=some o):a<h.objs.size:=(x a o e).lt
theorem HOk.fresh (x:HOk P w H h)(e:h.objs.size≤a):H a=none:=by
 cases q:H a with
 | none=>rfl
 | some u=>exact absurd (Nat.lt_of_lt_of_le (x.lt q) e) (Nat.lt_irrefl _)
theorem HOk.kept (x:HOk P w H h)(k:∀ b u,h.get? b=some u→h'.get? b=some u):HOk P w H h':=fun a o e =>
 (x a o e).stay (fun b u _ q=>k b u q) (fun _ q=>q) fun _ _ q=>q
theorem HOk.laid (x:HOk P w H h)(k:∀ b u,h.get? b=some u→h'.get? b=some u)(hp:h.objs.size≤a)(new:za4 P w (upd H a o) h' a o):HOk P w (upd H a o) h':=fun b u e=>by
 have hn:=x.fresh hp
 by_cases hb:b=a
 ·subst hb;rw [zak] at e;cases e;exact new
 ·rw [zai hb] at e
  exact (x b u e).stay (fun c v _ q=>k c v q) (fun c q=>by rw [zai (zan q hn)];exact q) fun c xs q=>by rw [zai (zan q hn)];exact q
end
noncomputable def Rd (H:Hp)(a:Addr)(u:HO):Prop:=H a=some u∨∃ o,H a=some (.frz o u)
theorem Rd.ok {P:Program}{w:World}{H:Hp}{h:Heap}{a:Addr}{u:HO}(r:Rd H a u)(x:HOk P w H h):za4 P w H h a u:=by
 rcases r with r|⟨o,r⟩
 ·exact x a u r
 ·obtain ⟨_,q⟩:=x a _ r
  exact q
noncomputable def Mut:Option HO→Prop
 | some (.lst _)=>True
 | some (.dK _)=>True
 | some (.dT _)=>True
 | some (.set _ _)=>True
 | some (.ins _ _ _)=>True
 | some (.ext _)=>True
 | _=>False
section
variable {P:Program}{w:World}{H:Hp}{h h':Heap}{x e:Addr}{o':HO}
theorem HOk.write (ok:HOk P w H h)(mu:Mut (H x))(he:e=x∨H e=some (.own x))(k:∀ b u,b≠e→h.get? b=some u→h'.get? b=some u)(heo:∃ u,h'.get? e=some u)
 (new:za4 P w (upd H x o') h' x o'):HOk P w (upd H x o') h':=fun b u q=>by
 have nown:∀ c y,H c=some (.own y)→c≠x:=fun c y r z=>by subst z;rw [r] at mu;exact mu
 have ntup:∀ c xs,H c=some (.tup xs)→c≠x:=fun c xs r z=>by subst z;rw [r] at mu;exact mu
 by_cases hb:b=x
 ·subst hb;rw [zak] at q;cases q;exact new
 ·rw [zai hb] at q
  by_cases hbe:b=e
  ·have q':H b=some (.own x):=by
    rcases he with z|z
    ·exact absurd (hbe.trans z) hb
    ·rw [hbe];exact z
   rw [q] at q';cases q'
   obtain ⟨v,hv⟩:=heo
   exact ⟨v,by rw [hbe];exact hv⟩
  ·refine (ok b u q).stay (fun c v hc r=>k c v ?_ r) (fun c r=>by rw [zai (nown c b r)];exact r) fun c xs r=>by rw [zai (ntup c xs r)];exact r
   rcases hc with rfl|hc
   ·exact hbe
   ·rintro rfl
    rcases he with z|z
    ·exact nown c b hc z
    ·rw [hc] at z;cases z;exact hb rfl
end
structure Un (fs ex:List Addr)(H H':Hp)(h h':Heap):Prop where
 keep:∀ b o,h.get? b=some o→H b=none→b∉fs→b∉ex→h'.get? b=some o
 slot:∀ b o,h.get? b=some o→H b=none→b∈fs→b∉ex→∃ sl,h'.get? b=some { o with slots:=sl }
 free:∀ b o,h.get? b=some o→H b=none→b∉ex→H' b=none
 there:∀ b o,h.get? b=some o→b∉ex→∃ o',h'.get? b=some o'
 tups:∀ b xs,H b=some (.tup xs)→H' b=some (.tup xs)
 frzs:∀ b o u,H b=some (.frz o u)→H' b=some (.frz o u)
 tbls:∀ b ps,H b=some (.tbl ps)→∃ more,H' b=some (.tbl (ps++more))
section
variable {fs fs' ex ex':List Addr}{H H1 H2:Hp}{h h1 h2 h':Heap}{a x e:Addr}{o:HO}
theorem Un.any (u:Un fs ex H H1 h h1){b:Addr}{ob:Obj}(q:h.get? b=some ob)(n:H b=none)(hx:b∉ex):∃ sl,h1.get? b=some { ob with slots:=sl }:=by
 by_cases hb:b∈fs
 ·exact u.slot b ob q n hb hx
 ·exact ⟨ob.slots,u.keep b ob q n hb hx⟩
theorem Un.kept (k:∀ b u,h.get? b=some u→h'.get? b=some u):Un fs ex H H h h' :=
 ⟨fun b ob q _ _ _=>k b ob q,fun b ob q _ _ _=>⟨ob.slots,k b ob q⟩,fun _ _ _ n _=>n,fun b ob q _=>⟨ob,k b ob q⟩,fun _ _ q=>q,fun _ _ _ q=>q,fun _ ps q=>⟨#[],by rw [q];simp -iota⟩⟩
theorem Un.refl:Un fs ex H H h h:=Un.kept fun _ _ q=>q
theorem Un.laid (k:∀ b u,h.get? b=some u→h'.get? b=some u)(hp:h.objs.size≤a)(hn:H a=none):Un fs ex H (upd H a o) h h' where
 keep:=fun b u q _ _ _=>k b u q
 slot:=fun b u q _ _ _=>⟨u.slots,k b u q⟩
 free:=fun b u q n _=>by rw [zai (Nat.ne_of_lt (Nat.lt_of_lt_of_le (Heap.lt_size q) hp))];exact n
 there:=fun b u q _=>⟨u,k b u q⟩
 tups:=fun b xs q=>by rw [zai (zan q hn)];exact q
 frzs:=fun b u xs q=>by rw [zai (zan q hn)];exact q
 tbls:=fun b ps q=>⟨#[],by rw [zai (zan q hn),q];simp -iota⟩
theorem Un.write (mu:Mut (H x))(he:e=x∨H e=some (.own x))(k:∀ b u,b≠e→h.get? b=some u→h'.get? b=some u)(heo:∃ u,h'.get? e=some u):Un fs ex H (upd H x o) h h':=by
 have hx:∀ b,H b=none→b≠x:=fun b n z=>by subst z;rw [n] at mu;exact mu
 have hb:∀ b,H b=none→b≠e:=fun b n z=>by
  subst z
  rcases he with r|r
  ·exact hx b n r
  ·rw [n] at r;cases r
 have hm:∀ b u,H b=some u→¬ Mut (some u)→b≠x:=fun b u q nm z=>by subst z;rw [q] at mu;exact nm mu
 refine ⟨fun b u q n _ _=>k b u (hb b n) q,fun b u q n _ _=>⟨u.slots,k b u (hb b n) q⟩,fun b u q n _=>by rw [zai (hx b n)];exact n,fun b u q _ => ?_,
  fun b xs q=>by rw [zai (hm b _ q fun z=>z)];exact q,fun b u xs q=>by rw [zai (hm b _ q fun z=>z)];exact q,fun b ps q=>⟨#[],by rw [zai (hm b _ q fun z=>z),q];simp -iota⟩⟩
 by_cases hbe:b=e
 ·subst hbe;exact heo
 ·exact ⟨u,k b u hbe q⟩
end
noncomputable def trk (h:Heap)(H:Hp):List Addr:=(List.range h.objs.size).filter fun a=>(H a).isSome
def hidT (h:Heap)(H:Hp):Heap:=PySem.W.hideAll h (trk h H)
theorem zeX (h:Heap)(H:Hp):(hidT h H).objs.size=h.objs.size:=PySem.W.hideAll_size _ _
theorem zg3 {h:Heap}{H:Hp}{b:Addr}{o:Obj}(e:h.get? b=some o)(n:H b=none):(hidT h H).get? b=some o :=
 PySem.W.hideAll_get _ e fun hm=>by
  have q:(H b).isSome=true:=(List.mem_filter.mp hm).2
  rw [n] at q;simp -iota at q
theorem zh4 {h:Heap}{H:Hp}{b:Addr}{o:Obj}(e:(hidT h H).get? b=some o):h.get? b=some o∧H b=none:=by
 have e':h.get? b=some o:=PySem.W.of_hideAll (trk h H) e
 refine ⟨e',?_⟩
 cases q:H b with
 | none=>rfl
 | some x =>
  have hm:b∈trk h H:=List.mem_filter.mpr ⟨List.mem_range.mpr (Heap.lt_size e'),by simp -iota [q]⟩
  have z:(hidT h H).get? b=none:=PySem.W.hideAll_none (trk h H) hm
  rw [z] at e;cases e
end L2
namespace L2
open PySem PySem.Spec PyProof.Rows
structure Mod (K:PySem.W.Frag)(mg:Str→Option Value)(base:Heap):Prop where
 kin:K.In base
 glob:base.Ns mainGlobals mg
 blt:∃ mb,base.Ns builtinsNs mb∧∀ x:Str,x ≠ "__name__" → mb x=bootBuiltins x
 nolimit:base.NoLimit
structure Cx where
 prog:Program
 w:World
 K:PySem.W.Frag
 mg:Str→Option Value
 base:Heap
 A:Around
 N:List Str
 s₀:Shared
 H₀:Hp
 env:Env
 outer:List Env
 stack:List Env
 ex:List Addr
 fn:Str→Bool
 calm:Bool
 pn:List (Addr×Obj)
 xe:Value→Shared→Prop
noncomputable def frs (l:List Env):List Addr:=l.filterMap (·.frame)
abbrev Cx.fs (X:Cx):List Addr:=frs X.outer
noncomputable def Vis (sc:Scope)(x:Str):Prop:=sc.names.lookup x=some .local∨sc.names.lookup x=some .cell∨sc.names.lookup x=some .free
noncomputable def Loc (sc:Scope)(x:Str):Prop:=sc.names.lookup x=some .local∨sc.names.lookup x=some .cell
noncomputable def Look (env:Env)(h:Heap)(m:Str→Option Value)(x:Str)(u:Value):Prop :=
 (env.kindOf x=some .local∧m x=some u)∨((env.kindOf x=some .cell∨env.kindOf x=some .free)∧∃ c,env.cells.lookup x=some c∧h.IsCell c (some u))
structure Cx.Ok (X:Cx):Prop where
 mod:Mod X.K X.mg X.base
 kind:X.env.scope.kind=.function
 glob:X.env.globals=mainGlobals
 blt:X.env.builtins=builtinsNs
 above:X.s₀.heap.objs.size≤X.env.locals
 inj:∀ x y c,X.env.cells.lookup x=some c→X.env.cells.lookup y=some c→x=y
 has:∀ x,(X.env.kindOf x=some .cell∨X.env.kindOf x=some .free)→∃ c,X.env.cells.lookup x=some c
 cab:∀ x c,X.fn x=true→X.env.cells.lookup x=some c→X.s₀.heap.objs.size≤c
 hd:X.calm=true→X.A.handled=none
 frames:X.A.frames=some X.stack
 stk:X.stack=X.outer∨(X.stack=X.env::X.outer∧X.env.frame=some X.env.locals)
 exf:∀ b∈X.ex,b≠X.env.locals∧∀ x c,X.env.cells.lookup x=some c→c≠b
 bs:∀ b o,X.base.get? b=some o→X.s₀.heap.get? b=some o∧X.H₀ b=none
 bsz:X.base.objs.size≤X.s₀.heap.objs.size
 noex:∀ b o,X.base.get? b=some o→b∉X.ex
 exfs:∀ b∈X.ex,b∉X.fs
 funs:X.s₀.heap.FunFrames X.base X.outer
 frf:∀ b∈X.fs,X.H₀ b=none
structure Inv (X:Cx)(pins:List (Addr×Obj))(σ : List (Option V))(H:Hp)(s:Shared):Prop where
 ok:X.Ok
 os:s.os=X.s₀.os
 bare:AllBare s.gens
 base:Un X.fs X.ex X.H₀ H X.s₀.heap s.heap
 loc:∃ m,s.heap.Ns X.env.locals m∧∀ (i:Nat) (x:Str) (v:V),X.N[i]? = some x → σ[i]? = some (some v)→Vis X.env.scope x→∃ u,RelV v u∧Look X.env s.heap m x u
 cell:∀ x c,X.env.cells.lookup x=some c→∃ v,s.heap.IsCell c v
 free:H X.env.locals=none
 freeC:∀ x c,X.env.cells.lookup x=some c→H c=none
 pin:∀ p∈X.pn++pins,s.heap.get? p.1=some p.2∧H p.1=none∧p.1≠X.env.locals∧p.1∉X.fs∧∀ v,p.2.data ≠ .cell v
 hok:HOk X.prog X.w H s.heap
 len : σ.length=X.N.length
section
variable {X:Cx}{pins:List (Addr×Obj)}{σ : List (Option V)}{H H':Hp}{s:Shared}{h':Heap}
theorem Cx.Ok.nofr (ok:X.Ok){b:Addr}{o:Obj}(e:X.base.get? b=some o):b∉X.fs:=fun hb=>by
 have:=(ok.funs.mem hb).1
 rw [e] at this;cases this
theorem Inv.bs (I:Inv X pins σ H s):∀ b o,X.base.get? b=some o→s.heap.get? b=some o∧H b=none:=fun b o e =>
 ⟨I.base.keep b o (I.ok.bs b o e).1 (I.ok.bs b o e).2 (I.ok.nofr e) (I.ok.noex b o e),I.base.free b o (I.ok.bs b o e).1 (I.ok.bs b o e).2 (I.ok.noex b o e)⟩
theorem Inv.bk (I:Inv X pins σ H s):∀ b o,X.base.get? b=some o→s.heap.get? b=some o:=fun b o e=>(I.bs b o e).1
theorem Inv.mod (I:Inv X pins σ H s):Mod X.K X.mg X.base:=I.ok.mod
theorem Inv.kIn (I:Inv X pins σ H s):X.K.In s.heap:=I.ok.mod.kin.keeps I.bk
theorem Inv.lt (I:Inv X pins σ H s):X.env.locals<s.heap.objs.size:=let ⟨_,hn,_⟩:=I.loc;hn.lt
theorem Inv.sz (I:Inv X pins σ H s):X.s₀.heap.objs.size≤s.heap.objs.size:=Nat.le_trans I.ok.above (Nat.le_of_lt I.lt)
theorem Inv.nofs (I:Inv X pins σ H s){a:Addr}(h:s.heap.objs.size≤a):a∉X.fs:=fun hb=>by
 refine zc0b (I.ok.funs.mem hb) fun _ zz=>zc1b zz fun o ho _ => ?_
 exact absurd (Nat.lt_of_lt_of_le (Heap.lt_size ho) (Nat.le_trans I.sz h)) (Nat.lt_irrefl _)
theorem Inv.cne (I:Inv X pins σ H s):∀ x c,X.env.cells.lookup x=some c→c≠X.env.locals:=fun x c e z=>by
 refine zc2b (I.cell x c e) fun v o ho hd => ?_
 refine zc1b I.loc fun m zr1 _ => ?_
 obtain ⟨o',es,ep,ho',hd',_⟩:=zr1
 rw [z,ho'] at ho;cases ho;rw [hd'] at hd;cases hd
theorem Inv.funs (I:Inv X pins σ H s):s.heap.FunFrames X.base X.outer:=by
 have all:∀ (l:List Env),(∀ b∈frs l,b∈X.fs)→X.s₀.heap.FunFrames X.base l→s.heap.FunFrames X.base l:=by
  intro l
  induction l with
  | nil=>intro _ _;trivial
  | cons env r ih =>
   intro hs hl
   refine zc0c hl fun hk zr1 hr => ?_
   obtain ⟨L,o,hf,hn,ho,hd⟩:=zr1
   have hL:L∈X.fs:=hs L (by unfold frs;rw [List.filterMap_cons,hf];exact List.mem_cons_self)
   obtain ⟨sl,e⟩:=I.base.slot L o ho (I.ok.frf L hL) hL fun z=>I.ok.exfs L z hL
   exact ⟨hk,⟨L,_,hf,hn,e,hd⟩,ih (fun b hb=>hs b (by unfold frs;rw [List.filterMap_cons,hf];exact List.mem_cons_of_mem _ hb)) hr⟩
 exact all X.outer (fun _ hb=>hb) I.ok.funs
theorem Inv.stack (I:Inv X pins σ H s):s.heap.FunFrames X.base X.stack:=by
 rcases I.ok.stk with e|⟨e,hf⟩
 ·rw [e];exact I.funs
 ·rw [e]
  refine zc1b I.loc fun m hn _ => ?_
  refine .cons (by rw [I.ok.kind];decide) hf hn ?_ I.funs
  exact Heap.get?_none_of_le (Nat.le_trans I.ok.bsz I.ok.above)
theorem Inv.stkSub (I:Inv X pins σ H s):∀ b∈frs X.stack,b∈X.env.locals::X.fs:=fun b hb=>by
 rcases I.ok.stk with e|⟨e,hf⟩
 ·rw [e] at hb;exact List.mem_cons_of_mem _ hb
 ·rw [e] at hb
  unfold frs at hb
  rw [List.filterMap_cons,hf] at hb
  exact hb
theorem Inv.stkFree (I:Inv X pins σ H s):∀ b∈frs X.stack,H b=none:=fun b hb=>by
 rcases List.mem_cons.mp (I.stkSub b hb) with e|hb
 ·rw [e];exact I.free
 ·refine zc0b (I.ok.funs.mem hb) fun _ zz=>zc1b zz fun o ho _ => ?_
  exact I.base.free b o ho (I.ok.frf b hb) fun z=>I.ok.exfs b z hb
theorem Inv.step {g':Array GenState}{t':Nat}{d':Drawn}{ch:List Addr}(I:Inv X pins σ H s)
 (hch:∀ b∈ch,(b∈X.ex∨X.s₀.heap.objs.size≤b)∧b≠X.env.locals∧(∀ x c,X.env.cells.lookup x=some c→c≠b)∧∀ p∈X.pn++pins,p.1≠b)
 (keep:∀ b o,b≠X.env.locals→b∉X.fs→b∉ch→s.heap.get? b=some o→H b=none→h'.get? b=some o)
 (slot:∀ b o,b≠X.env.locals→b∈X.fs→b∉ch→s.heap.get? b=some o→H b=none→∃ sl,h'.get? b=some { o with slots:=sl }) (free:∀ b o,b∉ch→s.heap.get? b=some o→H b=none→H' b=none)
 (there:∀ b o,b∉ch→s.heap.get? b=some o→∃ o',h'.get? b=some o')
 (tups:∀ b xs,H b=some (.tup xs)→H' b=some (.tup xs)) (frzs:∀ b o u,H b=some (.frz o u)→H' b=some (.frz o u)) (tbls:∀ b ps,H b=some (.tbl ps)→∃ more,H' b=some (.tbl (ps++more)))
 (ns:∀ m,s.heap.Ns X.env.locals m→h'.Ns X.env.locals m) (hok:HOk X.prog X.w H' h') (hg:AllBare g') :
 Inv X pins σ H' { s with heap:=h',gens:=g',drawn:=d',toks:=t' }:=by
 have neL:∀ b o,X.s₀.heap.get? b=some o→b≠X.env.locals:=fun b o e=>Nat.ne_of_lt (Nat.lt_of_lt_of_le (Heap.lt_size e) I.ok.above)
 have neC:∀ b o,X.s₀.heap.get? b=some o→b∉X.ex→b∉ch:=fun b o e hx hb=>by
  rcases (hch b hb).1 with z|z
  ·exact hx z
  ·exact absurd (Nat.lt_of_lt_of_le (Heap.lt_size e) z) (Nat.lt_irrefl _)
 have cellK:∀ x c,X.env.cells.lookup x=some c→∀ v,s.heap.IsCell c v→h'.IsCell c v:=fun x c e v zh=>by
  refine zc1b zh fun o ho hd => ?_
  have nch:c∉ch:=fun z=>(hch c z).2.2.1 x c e rfl
  by_cases hc:c∈X.fs
  ·obtain ⟨sl,q⟩:=slot c o (I.cne x c e) hc nch ho (I.freeC x c e)
   exact ⟨_,q,hd⟩
  ·exact ⟨o,keep c o (I.cne x c e) hc nch ho (I.freeC x c e),hd⟩
 refine ⟨I.ok,I.os,hg,⟨fun b o e n hb hx => ?_,fun b o e n hb hx => ?_,fun b o e n hx => ?_,fun b o e hx => ?_,fun b xs e=>tups b xs (I.base.tups b xs e),fun b o xs e=>frzs b o xs (I.base.frzs b o xs e),fun b ps e => ?_⟩,?_,fun x c e => ?_,?_,fun x c e => ?_,fun p hp => ?_,hok,I.len⟩
 ·exact keep b o (neL b o e) hb (neC b o e hx) (I.base.keep b o e n hb hx) (I.base.free b o e n hx)
 ·obtain ⟨sl,e1⟩:=I.base.slot b o e n hb hx
  obtain ⟨sl',e2⟩:=slot b _ (neL b o e) hb (neC b o e hx) e1 (I.base.free b o e n hx)
  exact ⟨sl',e2⟩
 ·obtain ⟨o',e1⟩:=I.base.there b o e hx
  exact free b o' (neC b o e hx) e1 (I.base.free b o e n hx)
 ·obtain ⟨o',e1⟩:=I.base.there b o e hx
  exact there b o' (neC b o e hx) e1
 ·obtain ⟨m1,e1⟩:=I.base.tbls b ps e
  obtain ⟨m2,e2⟩:=tbls b _ e1
  exact ⟨m1++m2,by rw [e2,Array.append_assoc]⟩
 ·refine zc1b I.loc fun m hn hl => ?_
  refine ⟨m,ns m hn,fun i x v e1 e2 e3 => ?_⟩
  refine zc1b (hl i x v e1 e2 e3) fun u r l => ?_
  refine ⟨u,r,?_⟩
  rcases l with l|⟨k,c,e,z⟩
  ·exact .inl l
  ·exact .inr ⟨k,c,e,cellK x c e _ z⟩
 ·obtain ⟨v,z⟩:=I.cell x c e
  exact ⟨v,cellK x c e v z⟩
 ·refine zc1b I.loc fun m zr1 _ => ?_
  obtain ⟨o,_,_,ho,_⟩:=zr1
  exact free _ o (fun z=>(hch _ z).2.1 rfl) ho I.free
 ·refine zc2b (I.cell x c e) fun v o ho hd => ?_
  exact free c o (fun z=>(hch c z).2.2.1 x c e rfl) ho (I.freeC x c e)
 ·refine zc0e (I.pin p hp) fun e n ne nf d => ?_
  have nch:p.1∉ch:=fun z=>(hch p.1 z).2.2.2 p hp rfl
  exact ⟨keep p.1 p.2 ne nf nch e n,free p.1 p.2 nch e n,ne,nf,d⟩
theorem Inv.un {t':Nat}(I:Inv X pins σ H s)(u:Un X.fs [] H H' s.heap h')(hok:HOk X.prog X.w H' h'):Inv X pins σ H' { s with heap:=h',toks:=t' }:=by
 refine zc1b (id I.loc) fun m zr1 _ => ?_
 obtain ⟨o,es,ep,ho,r⟩:=zr1
 obtain ⟨sl,hL⟩:=u.any ho I.free (by simp -iota)
 exact I.step (g':=s.gens) (d':=s.drawn) (ch:=[]) (fun _ z=>nomatch z) (fun b o _ hb _ e n=>u.keep b o e n hb (by simp -iota)) (fun b o _ hb _ e n=>u.slot b o e n hb (by simp -iota)) (fun b o _ e n=>u.free b o e n (by simp -iota)) (fun b o _ e=>u.there b o e (by simp -iota)) u.tups u.frzs u.tbls (fun m' hm=>by
  refine zc3b hm fun o' es' ep' ho' r' => ?_
  rw [ho] at ho';cases ho'
  exact ⟨_,es',ep',hL,r'⟩) hok I.bare
theorem Inv.call {g':Array GenState}{t':Nat}{d':Drawn}{ch:List Addr}(I:Inv X pins σ H s)(u:Un (frs X.stack) ch H H' s.heap h')(hok:HOk X.prog X.w H' h')(hg:AllBare g')
 (hch:∀ b∈ch,(b∈X.ex∨X.s₀.heap.objs.size≤b)∧b≠X.env.locals∧(∀ x c,X.env.cells.lookup x=some c→c≠b)∧∀ p∈X.pn++pins,p.1≠b) :
 Inv X pins σ H' { s with heap:=h',gens:=g',drawn:=d',toks:=t' }:=by
 refine zc1b (id I.loc) fun m zr1 _ => ?_
 obtain ⟨o,es,ep,ho,r⟩:=zr1
 obtain ⟨sl,hL⟩:=u.any ho I.free fun z=>(hch _ z).2.1 rfl
 exact I.step (ch:=ch) hch (fun b o hL hb hc e n=>u.keep b o e n (fun z=>(List.mem_cons.mp (I.stkSub b z)).elim hL hb) hc) (fun b o _ _ hc e n=>u.any e n hc) (fun b o hc e n=>u.free b o e n hc) (fun b o hc e=>u.there b o e hc) u.tups u.frzs u.tbls (fun m' hm=>by
  refine zc3b hm fun o' es' ep' ho' r' => ?_
  rw [ho] at ho';cases ho'
  exact ⟨_,es',ep',hL,r'⟩) hok hg
theorem Inv.turned {t':Nat}{it:Addr}(I:Inv X pins σ H s)(k:∀ b o,b≠it→s.heap.get? b=some o→h'.get? b=some o)(hn:H it=none)(hL:it≠X.env.locals)
 (h1:it∈X.ex∨X.s₀.heap.objs.size≤it) (h2:∀ x c,X.env.cells.lookup x=some c→c≠it) (h3:∀ p∈X.pn++pins,p.1≠it):Inv X pins σ H { s with heap:=h',toks:=t' }:=by
 have nit:∀ b u,H b=some u→b≠it:=fun b u e z=>by rw [z,hn] at e;cases e
 refine I.step (g':=s.gens) (d':=s.drawn) (ch:=[it]) (fun b hb => ?_) (fun b o _ _ hc e _=>k b o (fun z=>hc (by simp -iota [z])) e) (fun b o _ _ hc e _=>⟨o.slots,k b o (fun z=>hc (by simp -iota [z])) e⟩) (fun _ _ _ _ n=>n)
  (fun b o hc e=>⟨o,k b o (fun z=>hc (by simp -iota [z])) e⟩) (fun _ _ e=>e) (fun _ _ _ e=>e) (fun b ps e=>⟨#[],by rw [e];simp -iota⟩) (fun m hm => ?_) (fun b u e => ?_) I.bare
 ·have e:b=it:=by simpa -iota using hb
  subst e
  exact ⟨h1,hL,h2,h3⟩
 ·refine zc3b hm fun o es ep ho r => ?_
  exact ⟨o,es,ep,k _ o (Ne.symm hL) ho,r⟩
 ·refine (I.hok b u e).stay (fun c v hc q=>k c v ?_ q) (fun _ q=>q) fun _ _ q=>q
  rcases hc with z|z
  ·rw [z];exact nit b u e
  ·exact nit c _ z
theorem Inv.tok (I:Inv X pins σ H s)(t:Nat):Inv X pins σ H { s with toks:=t }:=I.un (h':=s.heap) (t':=t) Un.refl I.hok
theorem Inv.kept {t':Nat}(I:Inv X pins σ H s)(k:∀ b u,s.heap.get? b=some u→h'.get? b=some u):Inv X pins σ H { s with heap:=h',toks:=t' }:=I.un (Un.kept k) (I.hok.kept k)
theorem Inv.laid {a:Addr}{o:HO}{t':Nat}(I:Inv X pins σ H s)(k:∀ b u,s.heap.get? b=some u→h'.get? b=some u)(hp:s.heap.objs.size≤a)(new:za4 X.prog X.w (upd H a o) h' a o) :
 Inv X pins σ (upd H a o) { s with heap:=h',toks:=t' }:=I.un (Un.laid k hp (I.hok.fresh hp)) (I.hok.laid k hp new)
theorem Inv.write {x e:Addr}{o:HO}{t':Nat}(I:Inv X pins σ H s)(mu:Mut (H x))(he:e=x∨H e=some (.own x))(k:∀ b u,b≠e→s.heap.get? b=some u→h'.get? b=some u)(heo:∃ u,h'.get? e=some u)
 (new:za4 X.prog X.w (upd H x o) h' x o):Inv X pins σ (upd H x o) { s with heap:=h',toks:=t' }:=I.un (Un.write mu he k heo) (I.hok.write mu he k heo new)
theorem Inv.pins_of {pins':List (Addr×Obj)}(I:Inv X pins σ H s)(h:∀ p∈pins',s.heap.get? p.1=some p.2∧H p.1=none∧p.1≠X.env.locals∧p.1∉X.fs∧∀ v,p.2.data ≠ .cell v):Inv X pins' σ H s :=
 ⟨I.ok,I.os,I.bare,I.base,I.loc,I.cell,I.free,I.freeC,fun p hp=>(List.mem_append.mp hp).elim (fun z=>I.pin p (List.mem_append_left _ z)) (h p),I.hok,I.len⟩
theorem zc9 {N:List Str}(hN:N.Nodup){i j:Nat}{x:Str}(a:N[i]? = some x)(b:N[j]? = some x):i=j:=by
 obtain ⟨h1,e1⟩:=List.getElem?_eq_some_iff.mp a
 obtain ⟨h2,e2⟩:=List.getElem?_eq_some_iff.mp b
 exact (List.getElem_inj hN).mp (e1.trans e2.symm)
theorem zfx {M:Model}{A:Around}{E:Value→Shared→Prop}{i:Nat}{x:Str}{v:V}{u:Value}{Q:Unit→Shared→Prop}(I:Inv X pins σ H s)(hN:X.N.Nodup)(hi:X.N[i]? = some x)(hx:Loc X.env.scope x)(r:RelV v u)
 (h:∀ s',Inv X pins (σ.set i (some v)) H s'→(∃ a,Heap.SameBut a s.heap s'.heap∧(a=X.env.locals∨X.env.cells.lookup x=some a))→Q () s') (hf:X.fn x=true∨X.env.scope.names.lookup x=some .local:=by first|exact .inl rfl|exact .inr rfl|assumption):wpAny M A (storeName X.env x u) Q E s:=by
 refine zc1b (id I.loc) fun m hn hl => ?_
 have hcls:(X.env.scope.kind == .class||(X.env.scope.kind == .module&&X.env.locals != X.env.globals))=false:=by rw [I.ok.kind];rfl
 have hiσ : i < σ.length:=by rw [I.len];exact (List.getElem?_eq_some_iff.mp hi).1
 have cne:=I.cne
 have tracked:∀ {a:Addr} {h':Heap},(∃ o,s.heap.get? a=some o∧H a=none)→Heap.SameBut a s.heap h'→HOk X.prog X.w H h':=fun {a h'} ha hs b ob e=>by
  refine zc1b ha fun _ _ hfree => ?_
  refine (I.hok b ob e).stay (fun c w' hc q=>(hs.2 c ?_).trans q) (fun _ q=>q) fun _ _ q=>q
  rintro rfl
  rcases hc with rfl|hc
  ·rw [hfree] at e;cases e
  ·rw [hfree] at hc;cases hc
 rcases hx with hk|hk
 ·refine wpAny_storeName_local hk hn (fun h' hn' hs => ?_) hcls
  refine zc3b (id hn) fun oL _ _ hoL _ => ?_
  refine h _ ⟨I.ok,I.os,I.bare,⟨fun b o e n hb hx => ?_,fun b o e n hb hx => ?_,I.base.free,fun b o e hx => ?_,I.base.tups,I.base.frzs,I.base.tbls⟩,⟨_,hn',fun j y v' e1 e2 e3 => ?_⟩,fun y c e => ?_,I.free,I.freeC,fun p hp => ?_,tracked ⟨oL,hoL,I.free⟩ hs,by simpa -iota using I.len⟩ ⟨_,hs,.inl rfl⟩
  ·exact (hs.2 b (Nat.ne_of_lt (Nat.lt_of_lt_of_le (Heap.lt_size e) I.ok.above))).trans (I.base.keep b o e n hb hx)
  ·obtain ⟨sl,e1⟩:=I.base.slot b o e n hb hx
   exact ⟨sl,(hs.2 b (Nat.ne_of_lt (Nat.lt_of_lt_of_le (Heap.lt_size e) I.ok.above))).trans e1⟩
  ·obtain ⟨o',e1⟩:=I.base.there b o e hx
   exact ⟨o',(hs.2 b (Nat.ne_of_lt (Nat.lt_of_lt_of_le (Heap.lt_size e) I.ok.above))).trans e1⟩
  ·by_cases hj:j=i
   ·subst hj
    rw [hi] at e1;cases e1
    rw [List.getElem?_set_self hiσ] at e2
    cases e2
    exact ⟨u,r,.inl ⟨hk,by simp -iota⟩⟩
   ·rw [List.getElem?_set_ne (Ne.symm hj)] at e2
    refine zc1b (hl j y v' e1 e2 e3) fun u' r' q => ?_
    refine ⟨u',r',?_⟩
    rcases q with ⟨k,e⟩|⟨k,c,e,z⟩
    ·refine .inl ⟨k,?_⟩
     have:y≠x:=fun e=>hj (zc9 hN e1 (e ▸ hi))
     simp -iota [this,e]
    ·exact .inr ⟨k,c,e,z.sameBut hs (cne y c e)⟩
  ·obtain ⟨w',z⟩:=I.cell y c e
   exact ⟨w',z.sameBut hs (cne y c e)⟩
  ·refine zc0e (I.pin p hp) fun e n ne nf d => ?_
   exact ⟨(hs.2 p.1 ne).trans e,n,ne,nf,d⟩
 ·have hfn:X.fn x=true:=by
   rcases hf with z|z
   ·exact z
   ·rw [z] at hk;cases hk
  obtain ⟨c,hc⟩:=I.ok.has x (.inl hk)
  obtain ⟨w',z⟩:=I.cell x c hc
  refine wpAny_storeName_cell I.ok.kind hk hc z (fun h' hc' hs => ?_)
  refine zc1b (id z) fun oc hoc hocd => ?_
  refine h { s with heap:=h' } ⟨I.ok,I.os,I.bare,⟨fun b o e n hb hx => ?_,fun b o e n hb hx => ?_,I.base.free,fun b o e hx => ?_,I.base.tups,I.base.frzs,I.base.tbls⟩,⟨m,hn.sameBut hs (Ne.symm (cne x c hc)),fun j y v' e1 e2 e3 => ?_⟩,fun y c' e => ?_,I.free,I.freeC,fun p hp => ?_,tracked ⟨oc,hoc,I.freeC x c hc⟩ hs,by simpa -iota using I.len⟩ ⟨c,hs,.inr hc⟩
  ·exact (hs.2 b (Nat.ne_of_lt (Nat.lt_of_lt_of_le (Heap.lt_size e) (I.ok.cab x c hfn hc)))).trans (I.base.keep b o e n hb hx)
  ·obtain ⟨sl,e1⟩:=I.base.slot b o e n hb hx
   exact ⟨sl,(hs.2 b (Nat.ne_of_lt (Nat.lt_of_lt_of_le (Heap.lt_size e) (I.ok.cab x c hfn hc)))).trans e1⟩
  ·obtain ⟨o',e1⟩:=I.base.there b o e hx
   exact ⟨o',(hs.2 b (Nat.ne_of_lt (Nat.lt_of_lt_of_le (Heap.lt_size e) (I.ok.cab x c hfn hc)))).trans e1⟩
  ·by_cases hj:j=i
   ·subst hj
    rw [hi] at e1;cases e1
    rw [List.getElem?_set_self hiσ] at e2
    cases e2
    exact ⟨u,r,.inr ⟨.inl hk,c,hc,hc'⟩⟩
   ·rw [List.getElem?_set_ne (Ne.symm hj)] at e2
    refine zc1b (hl j y v' e1 e2 e3) fun u' r' q => ?_
    refine ⟨u',r',?_⟩
    rcases q with q|⟨k,c',e,z'⟩
    ·exact .inl q
    ·refine .inr ⟨k,c',e,z'.sameBut hs ?_⟩
     rintro rfl
     exact hj (zc9 hN e1 (I.ok.inj _ _ _ e hc ▸ hi))
  ·by_cases hcc:c'=c
   ·subst hcc;exact ⟨_,hc'⟩
   ·obtain ⟨w2,z2⟩:=I.cell y c' e
    exact ⟨w2,z2.sameBut hs hcc⟩
  ·refine zc0e (I.pin p hp) fun e n ne nf d => ?_
   refine ⟨(hs.2 p.1 ?_).trans e,n,ne,nf,d⟩
   intro q
   rw [q,hoc] at e
   have q':oc=p.2:=Option.some.inj e
   exact d w' (by rw [← q'];exact hocd)
theorem zbL {M:Model}{A:Around}{E:Value→Shared→Prop}{i:Nat}{x:Str}{v:V}{u:Value}{Q:Unit→Shared→Prop}(I:Inv X pins σ H s)(hN:X.N.Nodup)(hi:X.N[i]? = some x)(hx:Loc X.env.scope x)(r:RelV v u)
 (h:∀ s',Inv X pins (σ.set i (some v)) H s'→Q () s') (hf:X.fn x=true∨X.env.scope.names.lookup x=some .local:=by first|exact .inl rfl|exact .inr rfl|assumption):wpAny M A (storeName X.env x u) Q E s :=
 zfx I hN hi hx r (fun s' I' _=>h s' I') hf
theorem Inv.call' {s':Shared}{ch:List Addr}(I:Inv X pins σ H s)(ho:s'.os=s.os)(u:Un (frs X.stack) ch H H' s.heap s'.heap)(hok:HOk X.prog X.w H' s'.heap)(hg:AllBare s'.gens)
 (hch:∀ b∈ch,(b∈X.ex∨X.s₀.heap.objs.size≤b)∧b≠X.env.locals∧(∀ x c,X.env.cells.lookup x=some c→c≠b)∧∀ p∈X.pn++pins,p.1≠b):Inv X pins σ H' s':=by
 obtain ⟨h',g',d',t',o'⟩:=s'
 have e:o'=s.os:=ho
 subst e
 exact I.call (g':=g') (t':=t') (d':=d') u hok hg hch
end
abbrev XK:=Value→Option Addr→Hp→Prop
abbrev St:=List (Option V)
abbrev VK:=V→Hp→Prop
abbrev TE:=St→Hp→VK→Prop
abbrev TT:=St→Hp→(Bool→Hp→Prop)→Prop
abbrev TA:=St→Hp→(List V→Hp→Prop)→Prop
structure Ends where
 nx:St→Hp→Prop
 rt:VK
 bk:St→Hp→Prop:=fun _ _=>False
 ct:St→Hp→Prop:=fun _ _=>False
abbrev TS:=Ends→St→Hp→Prop
def EP (X:Cx)(pins:List (Addr×Obj))(σ : St)(Q:VK)(u:Value)(s':Shared):Prop:=∃ v H',Inv X pins σ H' s'∧RelV v u∧Q v H'
noncomputable def TP (X:Cx)(pins:List (Addr×Obj))(σ : St)(Q:Bool→Hp→Prop)(b:Bool)(s':Shared):Prop:=∃ H',Inv X pins σ H' s'∧Q b H'
noncomputable def AP (X:Cx)(pins:List (Addr×Obj))(σ : St)(Q:List V→Hp→Prop)(us:List Value)(s':Shared):Prop:=∃ vs H',Inv X pins σ H' s'∧Vals vs us∧Q vs H'
def SP (X:Cx)(pins:List (Addr×Obj))(D:Ends)(f:Flow)(s':Shared):Prop :=
 match f with
 | .next => ∃ σ' H',Inv X pins σ' H' s'∧D.nx σ' H'
 | .brk => ∃ σ' H',Inv X pins σ' H' s'∧D.bk σ' H'
 | .cont => ∃ σ' H',Inv X pins σ' H' s'∧D.ct σ' H'
 | .ret u => ∃ v σ' H',Inv X pins σ' H' s'∧RelV v u∧D.rt v H'
noncomputable def PE (X:Cx)(e:Expr)(t:TE):Prop :=
 ∀ (pins:List (Addr×Obj)) (s:Shared) (σ : St) (H:Hp) (Q:VK),Inv X pins σ H s→t σ H Q→wpAny (model X.prog X.w) X.A (eval e X.env) (EP X pins σ Q) X.xe s
noncomputable def PT (X:Cx)(e:Expr)(t:TT):Prop :=
 ∀ (pins:List (Addr×Obj)) (s:Shared) (σ : St) (H:Hp) (Q:Bool→Hp→Prop),Inv X pins σ H s→t σ H Q→wpAny (model X.prog X.w) X.A (isTrue e X.env (eval e X.env)) (TP X pins σ Q) X.xe s
noncomputable def PW (X:Cx)(e:Expr)(t:TT):Prop :=
 ∀ (whole:Sem Value) (pins:List (Addr×Obj)) (s:Shared) (σ : St) (H:Hp) (Q:Bool→Hp→Prop),Inv X pins σ H s→t σ H Q→wpAny (model X.prog X.w) X.A (isTrue e X.env whole) (TP X pins σ Q) X.xe s
theorem PW.pt {X:Cx}{e:Expr}{t:TT}(h:PW X e t):PT X e t:=h _
noncomputable def PA (X:Cx)(es:List Expr)(t:TA):Prop :=
 ∀ (pos:Pos) (pins:List (Addr×Obj)) (s:Shared) (σ : St) (H:Hp) (Q:List V→Hp→Prop),Inv X pins σ H s→t σ H Q→wpAny (model X.prog X.w) X.A (spliced (backTo pos (starEach es X.env))) (AP X pins σ Q) X.xe s
noncomputable def PS (X:Cx)(st:Stmt)(t:TS):Prop :=
 ∀ (pins:List (Addr×Obj)) (s:Shared) (σ : St) (H:Hp) (D:Ends),Inv X pins σ H s→t D σ H→wpAny (model X.prog X.w) X.A (exec st X.env) (SP X pins D) X.xe s
noncomputable def PSs (X:Cx)(st:List Stmt)(t:TS):Prop :=
 ∀ (pins:List (Addr×Obj)) (s:Shared) (σ : St) (H:Hp) (D:Ends),Inv X pins σ H s→t D σ H→wpAny (model X.prog X.w) X.A (execs st X.env) (SP X pins D) X.xe s
theorem thn {α : Type}{t:Sem α}{Q Q' : α → Shared→Prop}{M:Model}{A:Around}{E:Value→Shared→Prop}{s:Shared}(h:wpAny M A t Q E s)(hQ:∀ a s,Q a s→Q' a s):wpAny M A t Q' E s:=wpAny_mono h hQ fun _ _ x=>x
end L2
namespace L2
open PySem PySem.Spec PyProof.Rows
section
variable {X:Cx}
noncomputable def tVar (i:Nat):TE:=fun σ H Q => ∃ v,σ[i]? = some (some v)∧Q v H
noncomputable def tC (v:V):TE:=fun _ H Q=>Q v H
theorem ziG {i:Nat}{x:Str}{pos:Pos}(hN:X.N[i]? = some x)(hv:Vis X.env.scope x)(hd:autoParam ((x == ("__debug__" : Str))=false) zav._auto_1)(hcd:autoParam ((x == ("__classdict__" : Str))=false) zav._auto_1):PE X (.Name x pos) (tVar i):=by
 intro pins s σ H Q I h
 refine zc1b h fun v e h => ?_
 refine zc1b I.loc fun m hn hl => ?_
 refine zc1b (hl i x v hN e hv) fun u r l => ?_
 have fin:EP X pins σ Q u s:=⟨v,H,I,r,h⟩
 rcases l with ⟨hk,hm⟩|⟨hk,c,hc,hcell⟩
 ·exact wpAny_Name (wpAny_loadName_local I.ok.kind hk hn hm fin) hd
 ·rcases hk with hk|hk
  ·exact wpAny_Name (wpAny_loadName_cell I.ok.kind hk hc hcell fin) hd
  ·exact wpAny_Name (wpAny_loadName_free I.ok.kind hk hc hcell fin hcd) hd
theorem zkc {i j pos}:PE X (.Constant (.int i) j pos) (tC (.int i)):=fun _ _ _ H _ I h=>wpAny_Constant_int ⟨.int i,H,I.tok _,⟨_,rfl⟩,h⟩
theorem pe_bl {b j pos}:PE X (.Constant (.bool b) j pos) (tC (.bl b)):=fun _ _ _ H _ I h=>Constant_bool ⟨.bl b,H,I,rfl,h⟩
theorem zjZ {j pos}:PE X (.Constant .none j pos) (tC .non):=fun _ _ _ H _ I h=>Constant_none ⟨.non,H,I,rfl,h⟩
theorem zhf {x j pos}:PE X (.Constant (.str x) j pos) (tC (.str x)):=fun _ _ _ H _ I h=>Calls.Constant_str ⟨.str x,H,I.tok _,⟨_,rfl⟩,h⟩
noncomputable def Gl (X:Cx)(x:Str):Prop:=X.env.kindOf x=some .globalImplicit
theorem zb7 {E:Value→Shared→Prop}{pins:List (Addr×Obj)}{s:Shared}{σ : St}{H:Hp}{x:Str}{u:Value}{pos:Pos}{Q:Value→Shared→Prop}(I:Inv X pins σ H s)(hg:Gl X x)(hm:X.mg x=some u)(h:Q u s)
 (hd:autoParam ((x == ("__debug__" : Str))=false) zav._auto_1):wpAny (model X.prog X.w) X.A (eval (.Name x pos) X.env) Q E s :=
 Calls.Name_function_global I.ok.kind hg (Calls.loadGlobal_global (by rw [I.ok.glob];exact I.mod.glob.keeps I.bk) hm h) hd
theorem zd8 {E:Value→Shared→Prop}{pins:List (Addr×Obj)}{s:Shared}{σ : St}{H:Hp}{x:Str}{u:Value}{pos:Pos}{Q:Value→Shared→Prop}(I:Inv X pins σ H s)(hg:Gl X x)(hm:X.mg x=none)(hv:bootBuiltins x=some u)(h:Q u s)
 (hn:autoParam (x ≠ "__name__") zav._auto_1) (hd:autoParam ((x == ("__debug__" : Str))=false) zav._auto_1):wpAny (model X.prog X.w) X.A (eval (.Name x pos) X.env) Q E s:=by
 refine zc1b I.mod.blt fun mb h1 h2 => ?_
 exact Calls.Name_function_global I.ok.kind hg (Calls.loadGlobal_builtin (by rw [I.ok.glob];exact I.mod.glob.keeps I.bk) hm (by rw [I.ok.blt];exact h1.keeps I.bk) ((h2 x hn).trans hv) h) hd
theorem zhr {x:Str}{v:V}{u:Value}{pos:Pos}(hg:Gl X x)(hm:X.mg x=none)(hv:bootBuiltins x=some u)(r:RelV v u)(hn:autoParam (x ≠ "__name__") zav._auto_1)(hd:autoParam ((x == ("__debug__" : Str))=false) zav._auto_1):PE X (.Name x pos) (tC v) :=
 fun _ _ _ H _ I h=>zd8 I hg hm hv ⟨v,H,I,r,h⟩ hn hd
variable {a b:Expr}{ta tb:TE}{pos:Pos}
noncomputable def PC (X:Cx)(op:CmpOp)(a b:Expr)(t:TE):Prop :=
 ∀ (pins:List (Addr×Obj)) (s:Shared) (σ : St) (H:Hp) (Q:VK),Inv X pins σ H s→t σ H Q →
  wpAny (model X.prog X.w) X.A (eval a X.env) (fun v s₁=>wpAny (model X.prog X.w) X.A (eval b X.env) (fun u s₂=>wpAny (model X.prog X.w) X.A (compareOp op v u) (EP X pins σ Q) X.xe s₂) X.xe s₁) X.xe s
noncomputable def tB (t:TE):TT:=fun σ H Q=>t σ H fun x H1 => ∃ c,x=.bl c∧Q c H1
theorem zki {op:CmpOp}{t:TE}(h:PC X op a b t)(h1:behindInMarks op b=false:=by first|exact nobehind _ (by decide) (by decide)|rfl):PT X (.Compare a [op] [b] pos) (tB t):=by
 intro pins s σ H Q I hw
 refine wpAny_isTrue_Compare1 (thn (h pins s σ H _ I hw) fun v s1 h1=>thn h1 fun u s2 h2=>thn h2 fun c s3 ⟨x,H1,I1,r1,q1⟩ => ?_) h1
 refine zc1b q1 fun d zr1 q => ?_
 obtain rfl:=zr1
 cases r1
 exact wpAny_truthy_bool ⟨H1,I1,q⟩
theorem zjh {e:Expr}{t:TE}(h:PE X e t)(he:autoParam (∀ whole,isTrue e X.env whole=(do let v ← whole;standAt e.pos;holding [v] (truthy v))) zaw._auto_1):PT X e (tB t):=by
 intro pins s σ H Q I hw
 refine isTrue_plain (thn (h pins s σ H _ I hw) fun v s1 ⟨x,H1,I1,r1,q1⟩ => ?_) (he _)
 refine zc1b q1 fun d zr1 q => ?_
 obtain rfl:=zr1
 cases r1
 exact wpAny_truthy_bool ⟨H1,I1,q⟩
variable {tA tB':TT}{rest:List Expr}
noncomputable def tAnd (t u:TT):TT:=fun σ H Q=>t σ H fun c H1=>if c=true then u σ H1 Q else Q false H1
noncomputable def tOr (t u:TT):TT:=fun σ H Q=>t σ H fun c H1=>if c=true then Q true H1 else u σ H1 Q
noncomputable def tNot (t:TT):TT:=fun σ H Q=>t σ H fun c H1=>Q (!c) H1
theorem zhV (ha:PT X a tA):PW X (.BoolOp .And [a] pos) tA:=by
 intro wh pins s σ H Q I h
 refine isTrue_and (thn (ha pins s σ H Q I h) fun c s1 e => ?_)
 cases c with
 | true=>exact isTrue_and_nil e
 | false=>exact e
theorem ziW (ha:PT X a tA):PW X (.BoolOp .Or [a] pos) tA:=by
 intro wh pins s σ H Q I h
 refine isTrue_or (thn (ha pins s σ H Q I h) fun c s1 e => ?_)
 cases c with
 | false=>exact isTrue_or_nil e
 | true=>exact e
theorem zju (ha:PT X a tA)(hb:PW X (.BoolOp .And (b::rest) pos) tB'):PW X (.BoolOp .And (a::b::rest) pos) (tAnd tA tB'):=by
 intro wh pins s σ H Q I h
 refine isTrue_and (thn (ha pins s σ H _ I h) fun c s1 zh => ?_)
 refine zc1b zh fun H1 I1 q1 => ?_
 cases c with
 | true=>exact hb wh pins s1 σ H1 Q I1 q1
 | false=>exact ⟨H1,I1,q1⟩
theorem pw_or (ha:PT X a tA)(hb:PW X (.BoolOp .Or (b::rest) pos) tB'):PW X (.BoolOp .Or (a::b::rest) pos) (tOr tA tB'):=by
 intro wh pins s σ H Q I h
 refine isTrue_or (thn (ha pins s σ H _ I h) fun c s1 zh => ?_)
 refine zc1b zh fun H1 I1 q1 => ?_
 cases c with
 | true=>exact ⟨H1,I1,q1⟩
 | false=>exact hb wh pins s1 σ H1 Q I1 q1
theorem zjG (ha:PT X a tA):PT X (.UnaryOp .Not a pos) (tNot tA):=by
 intro pins s σ H Q I h
 exact isTrue_not (ha pins s σ H (fun c H1=>Q (!c) H1) I h)
noncomputable def tNotV (ta:TE):TE:=fun σ H Q=>ta σ H fun x H1 => ∃ c,x=.bl c∧Q (.bl (!c)) H1
theorem zjK (ha:PE X a ta):PE X (.UnaryOp .Not a pos) (tNotV ta):=by
 intro pins s σ H Q I h
 refine UnaryOp_ (thn (ha pins s σ H _ I h) fun v s1 zh => ?_)
 obtain ⟨x,H1,I1,r1,q1⟩:=zh
 obtain ⟨c,rfl,q1⟩:=q1
 cases r1
 exact not_of (wpAny_truthy_bool ⟨.bl (!c),H1,I1,rfl,q1⟩)
end
end L2
namespace L2
open PySem PySem.Spec PyProof.Rows
noncomputable def SqL (K:PySem.W.Frag)(H:Hp)(a:Addr)(xs:List V):Prop :=
 Rd H a (.lst xs) ∨
  ∃ (o:Obj) (its:Array Value) (n:Nat),K.lookup a=some o∧o.cls=.type "list" ∧ o.dict=none∧o.data=.seq its n∧its.size≤sizeLine∧Vals xs its.toList
noncomputable def SqT (K:PySem.W.Frag)(H:Hp)(a:Addr)(xs:List V):Prop :=
 Rd H a (.tup xs) ∨
  ∃ (o:Obj) (its:Array Value) (n:Nat),K.lookup a=some o∧o.cls=.type "tuple" ∧ o.data=.seq its n∧its.size≤sizeLine∧Vals xs its.toList
noncomputable def absV:Value→Option V
 | .none=>some .non
 | .bool b=>some (.bl b)
 | .int i _=>some (.int i)
 | .str x _=>some (.str x)
 | .bytes b _=>some (.byt b)
 | .float b _=>some (.flt b)
 | .ref a=>some (.ref a)
 | .type n=>some (.ty n)
 | _=>none
theorem RelV.abs {x:V}{u:Value}(r:RelV x u):absV u=some x:=by
 cases x with
 | non=>cases r;rfl
 | bl _=>cases r;rfl
 | int _=>obtain ⟨t,rfl⟩:=r;rfl
 | str _=>obtain ⟨t,rfl⟩:=r;rfl
 | byt _=>obtain ⟨t,rfl⟩:=r;rfl
 | flt _=>obtain ⟨t,rfl⟩:=r;rfl
 | ref _=>cases r;rfl
 | ty _=>cases r;rfl
theorem RelV.inj {x y:V}{u:Value}(r:RelV x u)(q:RelV y u):x=y:=Option.some.inj (r.abs.symm.trans q.abs)
theorem Vals.inj:∀ {xs ys:List V} {us:List Value},Vals xs us→Vals ys us→xs=ys:=fun {xs ys us} g h=>by
 induction g generalizing ys with
 | nil=>cases h;rfl
 | cons r _ ih =>
  cases h with
  | cons r' t'=>rw [r.inj r',ih t']
section
variable {X:Cx}{pins:List (Addr×Obj)}{σ : St}{H:Hp}{s:Shared}{a:Addr}{xs ys:List V}
theorem SqL.of {K:PySem.W.Frag}(h:H a=some (.lst xs)):SqL K H a xs:=.inl (.inl h)
theorem SqT.of {K:PySem.W.Frag}(h:H a=some (.tup xs)):SqT K H a xs:=.inl (.inl h)
theorem Inv.list (I:Inv X pins σ H s)(h:SqL X.K H a xs):∃ its:List Value,Vals xs its∧PlainL s.heap a its.toArray∧xs.length≤sizeLine:=by
 rcases h with h|⟨o,its,n,hk,hc,hd,hs,hz,r⟩
 ·refine zc0b (h.ok I.hok) fun z zz=>zc2b zz fun its n r e => ?_
  exact ⟨its,r,⟨_,n,e,rfl,rfl,rfl⟩,z⟩
 ·refine ⟨its.toList,r,⟨o,n,I.kIn a o hk,hc,hd,by simpa -iota using hs⟩,?_⟩
  have e:=r.length
  simp -iota only [Array.length_toList] at e
  omega
theorem Inv.tuple (I:Inv X pins σ H s)(h:SqT X.K H a xs):∃ its:List Value,Vals xs its∧IsTup s.heap a its.toArray∧xs.length≤sizeLine:=by
 rcases h with h|⟨o,its,n,hk,hc,hs,hz,r⟩
 ·obtain ⟨z,its,r,p⟩:=h.ok I.hok
  exact ⟨its,r,p,z.1⟩
 ·refine ⟨its.toList,r,⟨o,I.kIn a o hk,hc,n,by simpa -iota using hs⟩,?_⟩
  have e:=r.length
  simp -iota only [Array.length_toList] at e
  omega
theorem Inv.list_inj (I:Inv X pins σ H s)(h:SqL X.K H a xs)(h':SqL X.K H a ys):xs=ys:=by
 refine zc1c (I.list h) fun its r zr2 _ => ?_
 obtain ⟨o,n,e,_,_,d⟩:=zr2
 refine zc1c (I.list h') fun its' r' zr2 _ => ?_
 obtain ⟨o',n',e',_,_,d'⟩:=zr2
 rw [e] at e';cases e'
 rw [d] at d'
 injection d' with d1 _
 have:its=its':=by simpa -iota using congrArg Array.toList d1
 subst this
 exact r.inj r'
theorem Inv.tuple_inj (I:Inv X pins σ H s)(h:SqT X.K H a xs)(h':SqT X.K H a ys):xs=ys:=by
 refine zc1c (I.tuple h) fun its r zr2 _ => ?_
 obtain ⟨o,e,_,n,d⟩:=zr2
 refine zc1c (I.tuple h') fun its' r' zr2 _ => ?_
 obtain ⟨o',e',_,n',d'⟩:=zr2
 rw [e] at e';cases e'
 rw [d] at d'
 injection d' with d1 _
 have:its=its':=by simpa -iota using congrArg Array.toList d1
 subst this
 exact r.inj r'
end
abbrev Cx.wish (X:Cx)(E:Value→Shared→Prop):Cx:={ X with xe:=E }
abbrev Cx.nox (X:Cx):Cx:=X.wish fun _ _=>False
theorem Cx.Ok.wish {X:Cx}(ok:X.Ok)(E:Value→Shared→Prop):(X.wish E).Ok :=
 ⟨ok.mod,ok.kind,ok.glob,ok.blt,ok.above,ok.inj,ok.has,ok.cab,ok.hd,ok.frames,ok.stk,ok.exf,ok.bs,ok.bsz,ok.noex,ok.exfs,ok.funs,ok.frf⟩
theorem Cx.Ok.unwish {X:Cx}{E:Value→Shared→Prop}(ok:(X.wish E).Ok):X.Ok :=
 ⟨ok.mod,ok.kind,ok.glob,ok.blt,ok.above,ok.inj,ok.has,ok.cab,ok.hd,ok.frames,ok.stk,ok.exf,ok.bs,ok.bsz,ok.noex,ok.exfs,ok.funs,ok.frf⟩
section
variable {X:Cx}{pins:List (Addr×Obj)}{σ : St}{H:Hp}{s:Shared}{E:Value→Shared→Prop}
theorem Inv.wish (I:Inv X pins σ H s)(E:Value→Shared→Prop):Inv (X.wish E) pins σ H s:=⟨I.ok.wish E,I.os,I.bare,I.base,I.loc,I.cell,I.free,I.freeC,I.pin,I.hok,I.len⟩
theorem Inv.unwish (I:Inv (X.wish E) pins σ H s):Inv X pins σ H s:=⟨I.ok.unwish,I.os,I.bare,I.base,I.loc,I.cell,I.free,I.freeC,I.pin,I.hok,I.len⟩
theorem SP.unwish {D:Ends}{f:Flow}{s':Shared}(h:SP (X.wish E) pins D f s'):SP X pins D f s':=by
 cases f with
 | next=>obtain ⟨σ',H',I,q⟩:=h;exact ⟨σ',H',I.unwish,q⟩
 | brk=>obtain ⟨σ',H',I,q⟩:=h;exact ⟨σ',H',I.unwish,q⟩
 | cont=>obtain ⟨σ',H',I,q⟩:=h;exact ⟨σ',H',I.unwish,q⟩
 | ret u=>obtain ⟨v,σ',H',I,r,q⟩:=h;exact ⟨v,σ',H',I.unwish,r,q⟩
theorem PSs.nox {st:List Stmt}{t:TS}(h:PSs X.nox st t):PSs X st t:=fun pins s σ H D I hw =>
 wpAny_mono (h pins s σ H D (I.wish _) hw) (fun _ _ q=>q.unwish) fun _ _ z=>False.elim z
end
section
variable {X:Cx}{st:Stmt}{rest:List Stmt}{t u:TS}{e:Expr}{te:TE}{pos:Pos}
noncomputable def tNext:TS:=fun D σ H=>D.nx σ H
noncomputable def tSeq (t u:TS):TS:=fun D σ H=>t { D with nx:=u D } σ H
theorem zf1:PSs X [] tNext:=fun _ _ σ H _ I h=>wpAny_execs_nil ⟨σ,H,I,h⟩
theorem zbP (h1:PS X st t)(h2:PSs X rest u):PSs X (st::rest) (tSeq t u):=by
 intro pins s σ H D I h
 refine wpAny_execs_cons (thn (h1 pins s σ H { D with nx:=u D } I h) fun f s1 q => ?_)
 cases f with
 | next =>
  refine zc2b q fun σ' H' I' q => ?_
  exact h2 pins s1 σ' H' D I' q
 | ret v=>exact q
 | brk=>exact q
 | cont=>exact q
theorem zeV (h1:PS X st t):PSs X [st] t:=by
 intro pins s σ H D I h
 refine wpAny_execs_cons (thn (h1 pins s σ H D I h) fun f s1 q => ?_)
 cases f with
 | next=>exact wpAny_execs_nil q
 | ret v=>exact q
 | brk=>exact q
 | cont=>exact q
theorem Inv.quiet {pins:List (Addr×Obj)}{σ : St}{H:Hp}{s:Shared}(I:Inv X pins σ H s):interactive X.env=false:=by simp -iota [interactive,I.ok.kind]
noncomputable def tDrop (te:TE):TS:=fun D σ H=>te σ H fun _ H1=>D.nx σ H1
theorem zdy (he:PE X e te)(hs:autoParam (swapsWith e none pos.line X.env=pure false) zau._auto_1):PS X (.Expr e pos) (tDrop te):=by
 intro pins s σ H D I h
 exact wpAny_Expr_any (thn (he pins s σ H _ I h) (by rintro v s1 ⟨x,H1,I1,r1,q1⟩;exact ⟨σ,H1,I1,q1⟩)) I.quiet hs
noncomputable def tRet (te:TE):TS:=fun D σ H=>te σ H D.rt
theorem zeK (he:PE X e te):PS X (.Return (some e) pos) (tRet te):=by
 intro pins s σ H D I h
 exact wpAny_Return_some (thn (he pins s σ H _ I h) (by rintro v s1 ⟨x,H1,I1,r1,q1⟩;exact ⟨x,σ,H1,I1,r1,q1⟩))
noncomputable def tIfS (c:TT)(t u:TS):TS:=fun D σ H=>c σ H fun b H1=>if b=true then t D σ H1 else u D σ H1
theorem ps_if {c:Expr}{a b:List Stmt}{tc:TT}(hc:PT X c tc)(ha:PSs X a t)(hb:PSs X b u):PS X (.If c a b pos) (tIfS tc t u):=by
 intro pins s σ H D I h
 refine wpAny_If (thn (hc pins s σ H _ I h) fun d s1 zh => ?_)
 refine zc1b zh fun H1 I1 q1 => ?_
 cases d with
 | true=>exact ha pins s1 σ H1 D I1 q1
 | false=>exact hb pins s1 σ H1 D I1 q1
end
abbrev TG:=V→St→Hp→(St→Hp→Prop)→Prop
def PG (X:Cx)(target:Expr)(t:TG):Prop :=
 ∀ (pins:List (Addr×Obj)) (s:Shared) (σ : St) (H:Hp) (v:V) (u:Value) (Q:St→Hp→Prop),Inv X pins σ H s→RelV v u→t v σ H Q →
  wpAny (model X.prog X.w) X.A (assign target X.env u) (fun _ s' => ∃ σ' H',Inv X pins σ' H' s'∧Q σ' H') X.xe s
section
variable {X:Cx}{pos:Pos}
noncomputable def zcT (i:Nat):TG:=fun v σ H Q=>Q (σ.set i (some v)) H
theorem zaY {i:Nat}{x:Str}(hN:X.N.Nodup)(hi:X.N[i]? = some x)(hx:Loc X.env.scope x)(hf:X.fn x=true∨X.env.scope.names.lookup x=some .local:=by first|exact .inl rfl|exact .inr rfl|assumption):PG X (.Name x pos) (zcT i):=by
 intro pins s σ H v u Q I r h
 exact wpAny_assign_Name (zbL I hN hi hx r (fun s' I'=>⟨_,H,I',h⟩) hf)
noncomputable def tAsg (te:TE)(g:TG):TS:=fun D σ H=>te σ H fun x H1=>g x σ H1 D.nx
theorem zfy {i:Nat}{x:Str}{e:Expr}{te:TE}{pos':Pos}(hN:X.N.Nodup)(hi:X.N[i]? = some x)(hx:Loc X.env.scope x)(he:PE X e te)(hs:autoParam (swapsWith e (some (.Name x pos')) pos.line X.env=pure false) zau._auto_1)(hf:X.fn x=true∨X.env.scope.names.lookup x=some .local:=by first|exact .inl rfl|exact .inr rfl|assumption) :
 PS X (.Assign [.Name x pos'] e pos) (tAsg te (zcT i)):=by
 intro pins s σ H D I h
 refine wpAny_Assign_Name (thn (he pins s σ H _ I h) fun v s1 ⟨y,H1,I1,r1,q1⟩ => ?_) hs
 exact zbL I1 hN hi hx r1 (fun s2 I2=>⟨_,H1,I2,q1⟩) hf
end
structure It where
 go:Nat→Hp→Prop
 yld:Nat→Hp→V→Hp→Prop
 stop:Nat→Hp→Prop
noncomputable def FpOk (X:Cx)(pins:List (Addr×Obj))(H:Hp)(b:Addr):Prop :=
 H b=none∧b≠X.env.locals∧b∉X.fs∧(b∈X.ex∨X.s₀.heap.objs.size≤b)∧(∀ x c,X.env.cells.lookup x=some c→c≠b)∧∀ p∈X.pn++pins,p.1≠b
theorem Inv.fpOk {X:Cx}{pins:List (Addr×Obj)}{σ : St}{H H':Hp}{s:Shared}{b:Addr}(I:Inv X pins σ H s)(hb:s.heap.objs.size≤b)(hn:H' b=none):FpOk X pins H' b:=by
 refine ⟨hn,Nat.ne_of_gt (Nat.lt_of_lt_of_le I.lt hb),I.nofs hb,.inr (Nat.le_trans I.sz hb),fun x c e z => ?_,fun p hp z => ?_⟩
 ·obtain ⟨v,q⟩:=I.cell x c e
  exact absurd (Nat.lt_of_lt_of_le q.lt (by rw [z];exact hb)) (Nat.lt_irrefl _)
 ·exact absurd (Nat.lt_of_lt_of_le (Heap.lt_size (I.pin p hp).1) (by rw [z];exact hb)) (Nat.lt_irrefl _)
structure Turn (P:Program)(w:World)(K:PySem.W.Frag)(tg:Expr)(J:It)(fp:List Addr)(it:Addr)(tn:Nat→Heap→Prop):Prop where
 mem:it∈fp
 obj:∀ i h,tn i h→∀ b∈fp,∃ o,h.get? b=some o∧∀ v,o.data ≠ .cell v
 keep:∀ i h h',tn i h→(∀ b∈fp,∀ o,h.get? b=some o→h'.get? b=some o)→tn i h'
 item:∀ (X:Cx),X.prog=P→X.w=w→X.K=K→X.calm=true→∀ (i:Nat) (pins:List (Addr×Obj)) (s:Shared) (σ : St) (H:Hp) (E:Value→Shared→Prop),Inv X pins σ H s→(∀ b∈fp,FpOk X pins H b)→tn i s.heap→J.go i H →
  wpAny (model P w) X.A (pyNext (.ref it)) (fun r s1 => ∃ u,r=some u ∧
   wpAny (model P w) X.A (letOwnedTupleGo tg (.ref it) u) (fun _ s2 => ∃ x H',Inv X pins σ H' s2∧RelV x u∧J.yld i H x H'∧tn (i+1) s2.heap∧∀ b∈fp,H' b=none) E s1) E s
 done:∀ (X:Cx),X.prog=P→X.w=w→X.K=K→X.calm=true→∀ (i:Nat) (pins:List (Addr×Obj)) (s:Shared) (σ : St) (H:Hp) (E:Value→Shared→Prop),Inv X pins σ H s→(∀ b∈fp,FpOk X pins H b)→tn i s.heap→J.stop i H →
  wpAny (model P w) X.A (pyNext (.ref it)) (fun r s1=>r=none∧Inv X pins σ H s1) E s
 self:∀ (A:Around) (i:Nat) (s:Shared) (Q:Value→Shared→Prop) (E:Value→Shared→Prop),tn i s.heap→Q (.ref it) s→wpAny (model P w) A (pyIter (.ref it)) Q E s
abbrev TI:=St→Hp→(It→Hp→Prop)→Prop
def PIE (X:Cx)(pins:List (Addr×Obj))(σ : St)(tg:Expr)(R:It→Hp→Prop)(itv:Value)(s2:Shared):Prop :=
 ∃ (it:Addr) (fp:List Addr) (tn:Nat→Heap→Prop) (J:It) (H':Hp),itv=.ref it∧Inv X pins σ H' s2∧Turn X.prog X.w X.K tg J fp it tn∧tn 0 s2.heap∧(∀ b∈fp,FpOk X pins H' b)∧R J H'
def PI (X:Cx)(tg iter:Expr)(wi:TI):Prop :=
 ∀ (pins:List (Addr×Obj)) (s:Shared) (σ : St) (H:Hp) (R:It→Hp→Prop),Inv X pins σ H s→wi σ H R →
  wpAny (model X.prog X.w) X.A (eval iter X.env) (fun v s1=>wpAny (model X.prog X.w) X.A (pyIter v) (PIE X pins σ tg R) X.xe s1) X.xe s
theorem zhD {M:Model}{A:Around}{E:Value→Shared→Prop}{s:Shared}{tg:Expr}{it:Addr}{u:Value}{o:Obj}{n:String}{vs:Array Value}{Q:Unit→Shared→Prop}(ho:s.heap.get? it=some o)(hc:o.cls=.type n)(hd:o.data=.fields vs)
 (hn : ["enumerate", "zip", "dict_itemiterator", "dict_reverseitemiterator", "odict_iterator", "itertools.zip_longest", "itertools.pairwise"].contains n=false) (hQ:Q () s):wpAny M A (letOwnedTupleGo tg (.ref it) u) Q E s:=by
 unfold letOwnedTupleGo
 cases tg<;>first
  | exact wpAny_pure hQ
  | (cases u<;>first
   | exact wpAny_pure hQ
   | (
    refine wpAny_bind (wpAny_load ho ?_)
    rw [hc,hd]
    show wpAny M A (if (["enumerate", "zip", "dict_itemiterator", "dict_reverseitemiterator", "odict_iterator", "itertools.zip_longest", "itertools.pairwise"].contains n&&vs[0]? == some (rawInt _))=true then _ else _) Q E s
    rw [if_neg (by intro h;rw [hn,Bool.false_and] at h;cases h)]
    exact wpAny_pure hQ))
def Itl (K:PySem.W.Frag)(a:Addr):It :=
 ⟨fun i H => ∃ xs x,SqL K H a xs∧xs[i]? = some x,fun i H x H'=>H'=H∧∀ xs,SqL K H a xs→xs[i]? = some x,fun i H => ∃ xs,SqL K H a xs∧xs.length≤i⟩
def Itt (K:PySem.W.Frag)(a:Addr):It :=
 ⟨fun i H => ∃ xs x,SqT K H a xs∧xs[i]? = some x,fun i H x H'=>H'=H∧∀ xs,SqT K H a xs→xs[i]? = some x,fun i H => ∃ xs,SqT K H a xs∧xs.length≤i⟩
noncomputable def Itr (lo:Int)(n:Nat):It:=⟨fun i _=>i<n,fun i H x H'=>H'=H∧x=.int (lo+i),fun i _=>n≤i⟩
theorem zfb {P:Program}{w:World}{K:PySem.W.Frag}{tg:Expr}(a it:Addr):Turn P w K tg (Itl K a) [it] it (fun i h=>h.IsListIter it a i) where
 mem:=by simp -iota
 obj:=fun i h st b hb=>by
  have e:b=it:=by simpa -iota using hb
  subst e
  refine zc1c st fun o e c d => ?_
  exact ⟨o,e,fun v z=>by rw [d] at z;cases z⟩
 keep:=fun i h h' st k=>st.at fun o e=>k it (by simp -iota) o e
 item:=by
  intro X hP hw hK hc i pins s σ H E I hf st hg
  subst hP hw hK
  refine zc2b hg fun xs x hq hx => ?_
  refine zc1c (I.list hq) fun its rv p hz => ?_
  refine zc1b (rv.get hx) fun u hu ru => ?_
  refine zc0e (hf it (by simp -iota)) fun f0 f1 f2 f3 zz=>zc0b zz fun f4 f5 => ?_
  refine wpAny_pyNext_list_item st p.isList (x:=u) (by simpa -iota using hu) fun h' st' sb => ?_
  have I1:Inv X pins σ H { s with heap:=h' }:=I.turned (t':=s.toks) (fun b o hb e=>(sb.2 b hb).trans e) f0 f1 f3 f4 f5
  refine zc1c (id st') fun o e c d => ?_
  exact ⟨u,rfl,zhD (s:={ s with heap:=h' }) e c d (by decide) ⟨x,H,I1,ru,⟨rfl,fun ys hy=>by rw [I.list_inj hy hq];exact hx⟩,st',fun b hb=>(hf b hb).1⟩⟩
 done:=by
  intro X hP hw hK hc i pins s σ H E I hf st hg
  subst hP hw hK
  refine zc1b hg fun xs hq hx => ?_
  refine zc1c (I.list hq) fun its rv p hz => ?_
  refine zc0e (hf it (by simp -iota)) fun f0 f1 f2 f3 zz=>zc0b zz fun f4 f5 => ?_
  have hl:=rv.length
  exact wpAny_pyNext_list_end (I.ok.hd hc) st p.isList (by simp -iota;omega) fun h' eb=>⟨rfl,I.turned (t':=s.toks) (fun b o hb e=>eb b o hb e) f0 f1 f3 f4 f5⟩
 self:=fun _ _ _ _ _ st h=>wpAny_pyIter_listiter st h
theorem ze2 {P:Program}{w:World}{K:PySem.W.Frag}{tg:Expr}(a it:Addr):Turn P w K tg (Itt K a) [it] it (fun i h=>h.IsTupleIter it a i) where
 mem:=by simp -iota
 obj:=fun i h st b hb=>by
  have e:b=it:=by simpa -iota using hb
  subst e
  refine zc1c st fun o e c d => ?_
  exact ⟨o,e,fun v z=>by rw [d] at z;cases z⟩
 keep:=fun i h h' st k=>st.at fun o e=>k it (by simp -iota) o e
 item:=by
  intro X hP hw hK hc i pins s σ H E I hf st hg
  subst hP hw hK
  refine zc2b hg fun xs x hq hx => ?_
  refine zc1c (I.tuple hq) fun its rv p hz => ?_
  refine zc1b (rv.get hx) fun u hu ru => ?_
  refine zc0e (hf it (by simp -iota)) fun f0 f1 f2 f3 zz=>zc0b zz fun f4 f5 => ?_
  refine wpAny_pyNext_tuple_item st (show s.heap.IsTuple a its.toArray from p) (x:=u) (by simpa -iota using hu) fun h' st' sb => ?_
  have I1:Inv X pins σ H { s with heap:=h' }:=I.turned (t':=s.toks) (fun b o hb e=>(sb.2 b hb).trans e) f0 f1 f3 f4 f5
  refine zc1c (id st') fun o e c d => ?_
  exact ⟨u,rfl,zhD (s:={ s with heap:=h' }) e c d (by decide) ⟨x,H,I1,ru,⟨rfl,fun ys hy=>by rw [I.tuple_inj hy hq];exact hx⟩,st',fun b hb=>(hf b hb).1⟩⟩
 done:=by
  intro X hP hw hK hc i pins s σ H E I hf st hg
  subst hP hw hK
  refine zc1b hg fun xs hq hx => ?_
  refine zc1c (I.tuple hq) fun its rv p hz => ?_
  refine zc0e (hf it (by simp -iota)) fun f0 f1 f2 f3 zz=>zc0b zz fun f4 f5 => ?_
  have hl:=rv.length
  exact wpAny_pyNext_tuple_end (I.ok.hd hc) st (show s.heap.IsTuple a its.toArray from p) (by simp -iota;omega) fun h' eb=>⟨rfl,I.turned (t':=s.toks) (fun b o hb e=>eb b o hb e) f0 f1 f3 f4 f5⟩
 self:=fun _ _ _ _ _ st h=>wpAny_pyIter_tupleiter st h
theorem zeo {P:Program}{w:World}{K:PySem.W.Frag}{tg:Expr}(it:Addr)(lo:Int)(n:Nat):Turn P w K tg (Itr lo n) [it] it (fun i h=>IsRangeIter h it (lo+(i:Nat)*1) ((n:Int)-(i:Nat)) 1) where
 mem:=by simp -iota
 obj:=fun i h st b hb=>by
  have e:b=it:=by simpa -iota using hb
  subst e
  exact ⟨_,st,fun v z=>by
   have z':Data.fields _=Data.cell v:=z
   cases z'⟩
 keep:=fun i h h' st k=>k it (by simp -iota) _ st
 item:=by
  intro X hP hw hK hc i pins s σ H E I hf st hg
  subst hP hw hK
  refine zc0e (hf it (by simp -iota)) fun f0 f1 f2 f3 zz=>zc0b zz fun f4 f5 => ?_
  have W:=Walks.range (prog:=X.prog) (w:=X.w) (I.ok.hd hc) it lo 1 n
  refine W.item i s _ _ hg st fun v h' tk hv st' kk => ?_
  obtain ⟨t,rfl⟩:=hv
  have I1:Inv X pins σ H { s with heap:=h',toks:=tk }:=I.turned (fun b o hb e=>kk b o (by simpa -iota using hb) e) f0 f1 f3 f4 f5
  refine ⟨_,rfl,zhD (s:={ s with heap:=h',toks:=tk }) (n := "range_iterator") st' rfl rfl (by decide) ⟨.int (lo+i),H,I1,⟨t,?_⟩,⟨rfl,rfl⟩,st',fun b hb=>(hf b hb).1⟩⟩
  rw [Int.mul_one]
 done:=by
  intro X hP hw hK hc i pins s σ H E I hf st hg
  subst hP hw hK
  refine zc0e (hf it (by simp -iota)) fun f0 f1 f2 f3 zz=>zc0b zz fun f4 f5 => ?_
  exact wpAny_pyNext_range_end (I.ok.hd hc) st (by have:n≤i:=hg;omega) fun h' eb=>⟨rfl,I.turned (t':=s.toks) (fun b o hb e=>eb b o hb e) f0 f1 f3 f4 f5⟩
 self:=fun _ _ _ _ _ st h=>wpAny_pyIter_rangeiter st h
end L2
namespace L2
open PySem PySem.Spec PyProof.Rows
section
variable {X:Cx}{tg:Expr}
def iList (K:PySem.W.Frag)(tl:TE):TI:=fun σ H R=>tl σ H fun x H1 => ∃ a,x=.ref a∧(∃ xs,SqL K H1 a xs)∧R (Itl K a) H1
def iTup (K:PySem.W.Frag)(tl:TE):TI:=fun σ H R=>tl σ H fun x H1 => ∃ a,x=.ref a∧(∃ xs,SqT K H1 a xs)∧R (Itt K a) H1
theorem zit {l:Expr}{tl:TE}(hl:PE X l tl):PI X tg l (iList X.K tl):=by
 intro pins s σ H R I h
 refine thn (hl pins s σ H _ I h) fun v s1 zh => ?_
 refine zc2c zh fun x H1 I1 r1 q1 => ?_
 refine zc1c q1 fun a e zr2 q => ?_
 obtain ⟨xs,hq⟩:=zr2
 subst e
 cases r1
 refine zc1c (I1.list hq) fun its rv p hz => ?_
 refine wpAny_pyIter_list p.isList ?_
 refine ⟨s1.heap.objs.size,[s1.heap.objs.size],_,_,H1,rfl,I1.kept (t':=s1.toks) fun b o e=>Heap.get?_push_of_some _ e,zfb a _,⟨_,Heap.get?_push_size _ rfl,rfl,rfl⟩,fun b hb => ?_,q⟩
 have e:b=s1.heap.objs.size:=by simpa -iota using hb
 subst e
 exact I1.fpOk (Nat.le_refl _) (I1.hok.fresh (Nat.le_refl _))
theorem zjF {l:Expr}{tl:TE}(hl:PE X l tl):PI X tg l (iTup X.K tl):=by
 intro pins s σ H R I h
 refine thn (hl pins s σ H _ I h) fun v s1 zh => ?_
 refine zc2c zh fun x H1 I1 r1 q1 => ?_
 refine zc1c q1 fun a e zr2 q => ?_
 obtain ⟨xs,hq⟩:=zr2
 subst e
 cases r1
 refine zc1c (I1.tuple hq) fun its rv p hz => ?_
 refine wpAny_pyIter_tuple (show s1.heap.IsTuple a its.toArray from p) ?_
 refine ⟨s1.heap.objs.size,[s1.heap.objs.size],_,_,H1,rfl,I1.kept (t':=s1.toks) fun b o e=>Heap.get?_push_of_some _ e,ze2 a _,⟨_,Heap.get?_push_size _ rfl,rfl,rfl⟩,fun b hb => ?_,q⟩
 have e:b=s1.heap.objs.size:=by simpa -iota using hb
 subst e
 exact I1.fpOk (Nat.le_refl _) (I1.hok.fresh (Nat.le_refl _))
theorem zg5 {pins:List (Addr×Obj)}{σ : St}{H:Hp}{s:Shared}{R:It→Hp→Prop}{E:Value→Shared→Prop}{lo hi:Int}{t u v:Tok}{tk:Nat}(I:Inv X pins σ H s)(h1 : -(2 ^ 62)≤lo)(h2:lo<2 ^ 62)(h3 : -(2 ^ 62)≤hi)(h4:hi<2 ^ 62)
 (q:R (Itr lo (hi-lo).toNat) H):wpAny (model X.prog X.w) X.A (pyIter (.ref s.heap.objs.size)) (PIE X pins σ tg R) E { s with heap:=s.heap.push { cls:=.type "range",data:=.fields #[.int lo t,.int hi u,.int 1 v] },toks:=tk }:=by
 refine wpAny_pyIter_range (IsRange.new ..) (small_one h1 h2 h3 h4) ?_
 have I1:Inv X pins σ H { s with heap:=s.heap.push { cls:=.type "range",data:=.fields #[.int lo t,.int hi u,.int 1 v] },toks:=tk }:=I.kept fun b o e=>Heap.get?_push_of_some _ e
 refine ⟨(s.heap.push { cls:=.type "range",data:=.fields #[.int lo t,.int hi u,.int 1 v] }).objs.size,[(s.heap.push { cls:=.type "range",data:=.fields #[.int lo t,.int hi u,.int 1 v] }).objs.size],_,_,H,rfl,
  I1.kept (t':=tk) fun b o e=>Heap.get?_push_of_some _ e,zeo _ lo (hi-lo).toNat,?_,fun b hb => ?_,q⟩
 ·have e1:lo+((0:Nat):Int)*1=lo:=by simp -iota
  have e2:(((hi-lo).toNat:Nat):Int)-((0:Nat):Int)=Builtin.Range.rangeSize lo hi 1:=by rw [rangeSize_one];split<;>omega
  show IsRangeIter _ _ (lo+((0:Nat):Int)*1) ((((hi-lo).toNat:Nat):Int)-((0:Nat):Int)) 1
  rw [e1,e2]
  exact Heap.get?_push_size _ rfl
 ·have e:b=(s.heap.push { cls:=.type "range",data:=.fields #[.int lo t,.int hi u,.int 1 v] }).objs.size:=by simpa -iota using hb
  subst e
  exact I1.fpOk (Nat.le_refl _) (I1.hok.fresh (Nat.le_refl _))
def iRng1 (ta:TA):TI:=fun σ H R=>ta σ H fun vs H1 => ∃ j:Int,vs=[.int j] ∧ -(2 ^ 62)≤j∧j<2 ^ 62∧R (Itr 0 j.toNat) H1
theorem zfo {a:Expr}{ta:TA}{p pos:Pos}(hg:Gl X "range")(hm:X.mg "range" = none)(ha:PA X [a] ta)(hs:autoParam (starEach [a] X.env=[(false,eval a X.env)]) zau._auto_1):PI X tg (.Call (.Name "range" p) [a] [] pos) (iRng1 ta):=by
 intro pins s σ H R I h
 refine Call_ (zd8 I hg hm boot_range (PyProof.Rows.callWith_type1 (thn (ha pos pins s σ H _ I h) fun us s1 ⟨vs,H1,I1,r1,q1⟩ => ?_) hs rfl))
 obtain ⟨j,e,q1,q2,q⟩:=q1
 subst e
 cases r1 with
 | cons r rr =>
  cases rr
  obtain ⟨t,rfl⟩:=r
  exact call_range_1 (zg5 I1 (by omega) (by omega) q1 q2 (by simpa -iota using q))
noncomputable def tFor (wi:TI)(g:TG)(tb:TS):TS:=fun D σ H=>wi σ H fun J H1 => ∃ W:Nat→Nat→St→Hp→Prop,(∃ m,W 0 m σ H1)∧∀ i m σ H,W i m σ H →
 (J.stop i H∧D.nx σ H)∨(J.go i H∧∃ N:St→Hp→Prop,(∀ σ' H',N σ' H'→∃ m',m'<m∧W (i+1) m' σ' H')∧∀ x H',J.yld i H x H'→g x σ H' fun σ2 H2=>tb { D with nx:=N,ct:=N,bk:=D.nx } σ2 H2)
noncomputable def zcI (fp:List Addr)(h:Heap):List (Addr×Obj):=fp.filterMap fun b=>(h.get? b).map fun o=>(b,o)
theorem zbs {fp:List Addr}{h:Heap}{b:Addr}{o:Obj}(hb:b∈fp)(e:h.get? b=some o):(b,o)∈zcI fp h:=List.mem_filterMap.mpr ⟨b,hb,by rw [e];rfl⟩
theorem zfn {fp:List Addr}{h:Heap}{p:Addr×Obj}(hp:p∈zcI fp h):p.1∈fp∧h.get? p.1=some p.2:=by
 refine zc1b (List.mem_filterMap.mp hp) fun b hb e => ?_
 cases q:h.get? b with
 | none=>rw [q] at e;cases e
 | some o =>
  rw [q] at e
  have e':(b,o)=p:=Option.some.inj e
  subst e'
  exact ⟨hb,q⟩
theorem Inv.pinned {pins:List (Addr×Obj)}{σ : St}{H:Hp}{s:Shared}{fp:List Addr}(I:Inv X pins σ H s)(hf:∀ b∈fp,FpOk X pins H b)(ho:∀ b∈fp,∃ o,s.heap.get? b=some o∧∀ v,o.data ≠ .cell v):Inv X (pins++zcI fp s.heap) σ H s :=
 I.pins_of fun p hp=>(List.mem_append.mp hp).elim (fun z=>I.pin p (List.mem_append_right _ z)) fun z=>by
  obtain ⟨hb,e⟩:=zfn z
  refine zc0d (hf p.1 hb) fun f0 f1 f2 _ => ?_
  refine zc1b (ho p.1 hb) fun o e' d => ?_
  rw [e] at e';cases e'
  exact ⟨e,f0,f1,f2,d⟩
theorem Inv.unpinned {pins pl:List (Addr×Obj)}{σ : St}{H:Hp}{s:Shared}(I:Inv X (pins++pl) σ H s):Inv X pins σ H s:=I.pins_of fun p hp=>I.pin p (List.mem_append_right _ (List.mem_append_left _ hp))
theorem zjb {iter:Expr}{body:List Stmt}{wi:TI}{g:TG}{tb:TS}{pos:Pos}(hp:PassesOwn (model X.prog X.w) X.A X.env X.xe)(hc:X.calm=true)(hi:PI X tg iter wi)(hg:PG X tg g)(hb:PSs X body tb)
 (hs:autoParam (∀ x,foldedSetIterable iter X.env x=pure x) zaw._auto_1):PS X (.For tg iter body [] pos) (tFor wi g tb):=by
 intro pins s σ H D I h
 refine wpAny_For (thn (hi pins s σ H _ I h) fun v s1 h1=>thn h1 fun itv s2 h2 => ?_) hs
 refine zc4a h2 fun it fp tn J zz=>zc1a zz fun H2 zz=>zc0e zz fun e I2 T st2 zz=>zc0b zz fun f2 zz=>zc1b zz fun W zr11 turn => ?_
 obtain ⟨m0,w0⟩:=zr11
 subst e
 have stat:∀ {H':Hp},(∀ b∈fp,H' b=none)→∀ b∈fp,FpOk X pins H' b:=fun hn b hb=>⟨hn b hb,(f2 b hb).2⟩
 refine codeAny_forLoop_any (fun n s' => ∃ i σ' H',Inv X pins σ' H' s'∧tn i s'.heap∧(∀ b∈fp,H' b=none)∧W i n σ' H') ?_ m0 ⟨0,σ,H2,I2,st2,fun b hb=>(f2 b hb).1,w0⟩
 rintro n s3 ⟨i,σ3,H3,I3,st3,fr3,w3⟩
 rcases turn i n σ3 H3 w3 with ⟨stop,qn⟩|⟨go,N,hN,step⟩
 ·refine wpAny_passesOwn hp (thn (T.done X rfl rfl rfl hc i pins s3 σ3 H3 X.xe I3 (stat fr3) st3 stop) fun r s4 zh => ?_)
  obtain ⟨hr,I4⟩:=zh
  subst hr
  exact wpAny_execs_nil ⟨σ3,H3,I4,qn⟩
 ·refine wpAny_passesOwn hp (thn (T.item X rfl rfl rfl hc i pins s3 σ3 H3 X.xe I3 (stat fr3) st3 go) fun r s4 zh => ?_)
  refine zc1b zh fun u hr h4 => ?_
  subst hr
  refine wpAny_passesOwn hp (thn h4 fun _ s5 zh => ?_)
  refine zc2a zh fun x H5 zz=>zc0e zz fun I5 r5 y5 st5 fr5 => ?_
  have I5':=I5.pinned (stat fr5) (T.obj _ _ st5)
  refine wpAny_passesOwn hp (thn (hg _ s5 σ3 H5 x u _ I5' r5 (step x H5 y5)) fun _ s6 zh => ?_)
  refine zc2b zh fun σ6 H6 I6 q6 => ?_
  refine wpAny_passesOwn hp (thn (hb _ s6 σ6 H6 _ I6 q6) fun f s7 q7 => ?_)
  have again:∀ {σ7:St} {H7:Hp},Inv X (pins++zcI fp s5.heap) σ7 H7 s7→N σ7 H7→∃ m,m<n∧∃ i σ' H',Inv X pins σ' H' s7∧tn i s7.heap∧(∀ b∈fp,H' b=none)∧W i m σ' H':=fun {σ7 H7} I7 n7=>by
   refine zc1b (hN σ7 H7 n7) fun m' hm w7 => ?_
   refine ⟨m',hm,i+1,σ7,H7,I7.unpinned,T.keep _ _ _ st5 fun b hb o e=>(I7.pin (b,o) (List.mem_append_right _ (List.mem_append_right _ (zbs hb e)))).1,fun b hb => ?_,w7⟩
   refine zc1b (T.obj _ _ st5 b hb) fun o e d => ?_
   exact (I7.pin (b,o) (List.mem_append_right _ (List.mem_append_right _ (zbs hb e)))).2.1
  cases f with
  | next=>obtain ⟨σ7,H7,I7,n7⟩:=q7;exact again I7 n7
  | cont=>obtain ⟨σ7,H7,I7,n7⟩:=q7;exact again I7 n7
  | brk=>obtain ⟨σ7,H7,I7,q7⟩:=q7;exact ⟨σ7,H7,I7.unpinned,q7⟩
  | ret v=>obtain ⟨x7,σ7,H7,I7,r7,q7⟩:=q7;exact ⟨x7,σ7,H7,I7.unpinned,r7,q7⟩
end
end L2
namespace L2
open PySem PySem.Spec PyProof.Rows
abbrev R2:=V→V→Hp→VK→Prop
def OpR (X:Cx)(f:Value→Value→Sem Value)(r:R2):Prop :=
 ∀ (pins:List (Addr×Obj)) (s:Shared) (σ : St) (H:Hp) (x y:V) (v u:Value) (Q:VK),Inv X pins σ H s→RelV x v→RelV y u→r x y H Q →
  wpAny (model X.prog X.w) X.A (f v u) (EP X pins σ Q) X.xe s
def UnR (X:Cx)(f:Value→Sem Value)(r:V→Hp→VK→Prop):Prop :=
 ∀ (pins:List (Addr×Obj)) (s:Shared) (σ : St) (H:Hp) (x:V) (v:Value) (Q:VK),Inv X pins σ H s→RelV x v→r x H Q →
  wpAny (model X.prog X.w) X.A (f v) (EP X pins σ Q) X.xe s
noncomputable def zat (X:Cx)(f:Value)(r:List V→Hp→VK→Prop):Prop :=
 ∀ (pins:List (Addr×Obj)) (s:Shared) (σ : St) (H:Hp) (xs:List V) (us:List Value) (Q:VK),Inv X pins σ H s→Vals xs us→r xs H Q →
  wpAny (model X.prog X.w) X.A (call f us) (EP X pins σ Q) X.xe s
noncomputable def tOp (r:R2)(ta tb:TE):TE:=fun σ H Q=>ta σ H fun x H1=>tb σ H1 fun y H2=>r x y H2 Q
noncomputable def tUn (r:V→Hp→VK→Prop)(ta:TE):TE:=fun σ H Q=>ta σ H fun x H1=>r x H1 Q
noncomputable def rI (C:Int→Int→Prop)(g:Int→Int→V):R2:=fun x y H Q => ∃ i j,x=.int i∧y=.int j∧C i j∧Q (g i j) H
noncomputable def rI0 (g:Int→Int→V):R2:=fun x y H Q => ∃ i j,x=.int i∧y=.int j∧Q (g i j) H
noncomputable def rU (g:Int→V):V→Hp→VK→Prop:=fun x H Q => ∃ i,x=.int i∧Q (g i) H
section
variable {X:Cx}{a b c:Expr}{ta tb tc:TE}{pos:Pos}
theorem binT (ha:PE X a ta)(hb:PE X b tb){pins:List (Addr×Obj)}{s:Shared}{σ : St}{H:Hp}{R:V→V→Hp→Prop}(I:Inv X pins σ H s)
 (h:ta σ H fun x H1=>tb σ H1 fun y H2=>R x y H2) {Q:Value→Shared→Prop} {f:Value→Value→Sem Value}
 (hf:∀ v u s2 x y H2,Inv X pins σ H2 s2→RelV x v→RelV y u→R x y H2→wpAny (model X.prog X.w) X.A (f v u) Q X.xe s2) :
 wpAny (model X.prog X.w) X.A (eval a X.env) (fun v s₁=>wpAny (model X.prog X.w) X.A (eval b X.env) (fun u s₂=>wpAny (model X.prog X.w) X.A (f v u) Q X.xe s₂) X.xe s₁) X.xe s:=by
 refine thn (ha pins s σ H _ I h) fun v s1 zh => ?_
 refine zc2c zh fun x H1 I1 r1 q1 => ?_
 refine thn (hb pins s1 σ H1 _ I1 q1) fun u s2 zh => ?_
 refine zc2c zh fun y H2 I2 r2 q2 => ?_
 exact hf v u s2 x y H2 I2 r1 r2 q2
theorem pe_op {op:Operator}{r:R2}(ho:OpR X (binaryOp op) r)(ha:PE X a ta)(hb:PE X b tb):PE X (.BinOp a op b pos) (tOp r ta tb):=by
 intro pins s σ H Q I h
 exact wpAny_BinOp (binT ha hb I h fun v u s2 x y H2 I2 rx ry q=>ho pins s2 σ H2 x y v u Q I2 rx ry q)
theorem pe_un {op:UnaryOp}{r:V→Hp→VK→Prop}(ho:UnR X (unaryOp op) r)(ha:PE X a ta):PE X (.UnaryOp op a pos) (tUn r ta):=by
 intro pins s σ H Q I h
 exact UnaryOp_ (thn (ha pins s σ H _ I h) (by rintro v s1 ⟨x,H1,I1,r1,q1⟩;exact ho pins s1 σ H1 x v Q I1 r1 q1))
theorem opI {f:Value→Value→Sem Value}{C:Int→Int→Prop}{g:Int→Int→Int}
 (rule:∀ (i j:Int) (t u:Tok) (s:Shared) (Q:Value→Shared→Prop) (E:Value→Shared→Prop),C i j→Q (.int (g i j) s.toks) { s with toks:=s.toks+1 }→wpAny (model X.prog X.w) X.A (f (.int i t) (.int j u)) Q E s) :
 OpR X f (rI C fun i j=>.int (g i j)):=by
 intro pins s σ H x y v u Q I rx ry h
 refine zc2d h fun i j zr2 zr3 hc q => ?_
 obtain rfl:=zr2
 obtain rfl:=zr3
 obtain ⟨t,rfl⟩:=rx
 obtain ⟨t',rfl⟩:=ry
 exact rule i j t t' s _ _ hc ⟨.int (g i j),H,I.tok _,⟨_,rfl⟩,q⟩
theorem opI0 {f:Value→Value→Sem Value}{g:Int→Int→Int}
 (rule:∀ (i j:Int) (t u:Tok) (s:Shared) (Q:Value→Shared→Prop) (E:Value→Shared→Prop),Q (.int (g i j) s.toks) { s with toks:=s.toks+1 }→wpAny (model X.prog X.w) X.A (f (.int i t) (.int j u)) Q E s) :
 OpR X f (rI0 fun i j=>.int (g i j)):=by
 intro pins s σ H x y v u Q I rx ry h
 refine zc2c h fun i j zr2 zr3 q => ?_
 obtain rfl:=zr2
 obtain rfl:=zr3
 obtain ⟨t,rfl⟩:=rx
 obtain ⟨t',rfl⟩:=ry
 exact rule i j t t' s _ _ ⟨.int (g i j),H,I.tok _,⟨_,rfl⟩,q⟩
theorem opB0 {f:Value→Value→Sem Value}{g:Int→Int→Bool}
 (rule:∀ (i j:Int) (t u:Tok) (s:Shared) (Q:Value→Shared→Prop) (E:Value→Shared→Prop),Q (.bool (g i j)) s→wpAny (model X.prog X.w) X.A (f (.int i t) (.int j u)) Q E s) :
 OpR X f (rI0 fun i j=>.bl (g i j)):=by
 intro pins s σ H x y v u Q I rx ry h
 refine zc2c h fun i j zr2 zr3 q => ?_
 obtain rfl:=zr2
 obtain rfl:=zr3
 obtain ⟨t,rfl⟩:=rx
 obtain ⟨t',rfl⟩:=ry
 exact rule i j t t' s _ _ ⟨.bl (g i j),H,I,rfl,q⟩
noncomputable def CDiv (i j:Int):Prop:=0<j∧j<1073741824
noncomputable def CPow (i j:Int):Prop:=0≤j∧j≤1000000∧i.natAbs<2 ^ 64
theorem ziR:OpR X (binaryOp .Add) (rI0 fun i j=>.int (i+j)):=opI0 fun _ _ _ _ _ _ _ q=>add_int q
theorem zjL:OpR X (binaryOp .Sub) (rI0 fun i j=>.int (i-j)):=opI0 fun _ _ _ _ _ _ _ q=>sub_int q
theorem zis:OpR X (binaryOp .FloorDiv) (rI CDiv fun i j=>.int (i / j)):=opI fun i j _ _ _ _ _ hc q=>by
 have h1:(0:Int)<j:=hc.1
 have h2:j<1073741824:=hc.2
 exact floordiv_int (by omega) (by rw [Int.fdiv_eq_ediv_of_nonneg i (by omega)];exact q) (.inl (PyProof.noPylong_small (by omega)))
theorem zj4:OpR X (binaryOp .Mod) (rI (fun _ j=>0<j) fun i j=>.int (i % j)):=opI fun i j _ _ _ _ _ hc q=>by
 have h1:(0:Int)<j:=hc
 exact mod_int' (by omega) (by rw [Int.fmod_eq_emod_of_nonneg i (by omega)];exact q)
theorem zjw:OpR X (binaryOp .Pow) (rI CPow fun i j=>.int (i ^ j.toNat)):=opI fun _ _ _ _ _ _ _ hc q=>pow_int_small hc.1 hc.2.1 hc.2.2 q
theorem unI {f:Value→Sem Value}{g:Int→Int}
 (rule:∀ (i:Int) (t:Tok) (s:Shared) (Q:Value→Shared→Prop) (E:Value→Shared→Prop),Q (.int (g i) s.toks) { s with toks:=s.toks+1 }→wpAny (model X.prog X.w) X.A (f (.int i t)) Q E s) :
 UnR X f (rU fun i=>.int (g i)):=by
 intro pins s σ H x v Q I rx h
 refine zc1b h fun i zr1 q => ?_
 obtain rfl:=zr1
 obtain ⟨t,rfl⟩:=rx
 exact rule i t s _ _ ⟨.int (g i),H,I.tok _,⟨_,rfl⟩,q⟩
theorem zjr:UnR X (unaryOp .USub) (rU fun i=>.int (-i)):=unI fun _ _ _ _ _ q=>neg_int q
end
noncomputable def scal:V→V→Bool
 | .non,.non=>true | .non,.int _=>true | .int _,.non=>true | .non,.bl _=>true | .bl _,.non=>true | .non,.str _=>true | .str _,.non=>true
 | .int _,.int _=>true | .bl _,.bl _=>true | .str _,.str _=>true | .byt _,.byt _=>true
 | .int _,.str _=>true | .str _,.int _=>true | .bl _,.str _=>true | .str _,.bl _=>true
 | _,_=>false
def rEq:R2:=fun x y H Q=>scal x y=true∧Q (.bl (decide (x=y))) H
def rNe:R2:=fun x y H Q=>scal x y=true∧Q (.bl (!decide (x=y))) H
theorem zgb {i j:Int}:decide (V.int i=V.int j)=(i == j):=by
 rw [Bool.eq_iff_iff]
 simp -iota
theorem zhi {i j:Bool}:decide (V.bl i=V.bl j)=(i == j):=by
 rw [Bool.eq_iff_iff]
 simp -iota
theorem zfD {i j:Str}:decide (V.str i=V.str j)=(i == j):=by
 rw [Bool.eq_iff_iff]
 simp -iota
theorem zfl {i j:Array UInt8}:decide (V.byt i=V.byt j)=(i.toList == j.toList):=by
 rw [Bool.eq_iff_iff]
 cases i
 cases j
 simp -iota
section
variable {X:Cx}{a b c:Expr}{ta tb tc:TE}{pos:Pos}
theorem zaq {pins:List (Addr×Obj)}{σ : St}{H:Hp}{s:Shared}{Q:VK}{k k':Bool}(I:Inv X pins σ H s)(q:Q (.bl k) H)(e:k=k'):EP X pins σ Q (.bool k') s:=by
 subst e
 exact ⟨.bl k,H,I,rfl,q⟩
theorem op_eq:OpR X (compareOp .Eq) rEq:=by
 intro pins s σ H x y v u Q I rx ry h
 obtain ⟨hs,q⟩:=h
 cases x with
 | non =>
  cases rx
  cases y with
  | non=>cases ry;exact PySem.EqNone.eq_none_none (zaq I q (by simp -iota))
  | bl j=>cases ry;exact PySem.EqNone.eq_none_bool (zaq I q (by simp -iota))
  | int j=>obtain ⟨t',rfl⟩:=ry;exact PySem.EqNone.eq_none_int (zaq I q (by simp -iota))
  | str j=>obtain ⟨t',rfl⟩:=ry;exact PySem.EqNone.eq_none_str (zaq I q (by simp -iota))
  | _=>exact absurd (show false=true from hs) Bool.false_ne_true
 | bl i =>
  cases rx
  cases y with
  | non=>cases ry;exact PySem.EqNone.eq_bool_none (zaq I q (by simp -iota))
  | bl j=>cases ry;exact eq_bool (zaq I q zhi)
  | str j=>obtain ⟨t',rfl⟩:=ry;exact PySem.EqMixed.eq_bool_str (zaq I q (by simp -iota))
  | _=>exact absurd (show false=true from hs) Bool.false_ne_true
 | int i =>
  obtain ⟨t,rfl⟩:=rx
  cases y with
  | non=>cases ry;exact PySem.EqNone.eq_int_none (zaq I q (by simp -iota))
  | int j=>obtain ⟨t',rfl⟩:=ry;exact eq_int (zaq I q zgb)
  | str j=>obtain ⟨t',rfl⟩:=ry;exact PySem.EqMixed.eq_int_str (zaq I q (by simp -iota))
  | _=>exact absurd (show false=true from hs) Bool.false_ne_true
 | str i =>
  obtain ⟨t,rfl⟩:=rx
  cases y with
  | non=>cases ry;exact PySem.EqNone.eq_str_none (zaq I q (by simp -iota))
  | bl j=>cases ry;exact PySem.EqMixed.eq_str_bool (zaq I q (by simp -iota))
  | int j=>obtain ⟨t',rfl⟩:=ry;exact PySem.EqMixed.eq_str_int (zaq I q (by simp -iota))
  | str j=>obtain ⟨t',rfl⟩:=ry;exact eq_str (zaq I q zfD)
  | _=>exact absurd (show false=true from hs) Bool.false_ne_true
 | byt i =>
  obtain ⟨t,rfl⟩:=rx
  cases y with
  | byt j=>obtain ⟨t',rfl⟩:=ry;exact PySem.W.eq_bytes (zaq I q zfl)
  | _=>exact absurd (show false=true from hs) Bool.false_ne_true
 | _=>cases y<;>exact absurd (show false=true from hs) Bool.false_ne_true
theorem op_ne:OpR X (compareOp .NotEq) rNe:=by
 intro pins s σ H x y v u Q I rx ry h
 obtain ⟨hs,q⟩:=h
 cases x with
 | non =>
  cases rx
  cases y with
  | non=>cases ry;exact PySem.EqNone.ne_none_none (zaq I q (by simp -iota))
  | bl j=>cases ry;exact PySem.EqNone.ne_none_bool (zaq I q (by simp -iota))
  | int j=>obtain ⟨t',rfl⟩:=ry;exact PySem.EqNone.ne_none_int (zaq I q (by simp -iota))
  | str j=>obtain ⟨t',rfl⟩:=ry;exact PySem.EqNone.ne_none_str (zaq I q (by simp -iota))
  | _=>exact absurd (show false=true from hs) Bool.false_ne_true
 | bl i =>
  cases rx
  cases y with
  | non=>cases ry;exact PySem.EqNone.ne_bool_none (zaq I q (by simp -iota))
  | bl j=>cases ry;exact ne_bool (zaq I q (congrArg not zhi))
  | str j=>obtain ⟨t',rfl⟩:=ry;exact PySem.EqMixed.ne_bool_str (zaq I q (by simp -iota))
  | _=>exact absurd (show false=true from hs) Bool.false_ne_true
 | int i =>
  obtain ⟨t,rfl⟩:=rx
  cases y with
  | non=>cases ry;exact PySem.EqNone.ne_int_none (zaq I q (by simp -iota))
  | int j=>obtain ⟨t',rfl⟩:=ry;exact ne_int (zaq I q (congrArg not zgb))
  | str j=>obtain ⟨t',rfl⟩:=ry;exact PySem.EqMixed.ne_int_str (zaq I q (by simp -iota))
  | _=>exact absurd (show false=true from hs) Bool.false_ne_true
 | str i =>
  obtain ⟨t,rfl⟩:=rx
  cases y with
  | non=>cases ry;exact PySem.EqNone.ne_str_none (zaq I q (by simp -iota))
  | bl j=>cases ry;exact PySem.EqMixed.ne_str_bool (zaq I q (by simp -iota))
  | int j=>obtain ⟨t',rfl⟩:=ry;exact PySem.EqMixed.ne_str_int (zaq I q (by simp -iota))
  | str j=>obtain ⟨t',rfl⟩:=ry;exact ne_str (zaq I q (congrArg not zfD))
  | _=>exact absurd (show false=true from hs) Bool.false_ne_true
 | byt i =>
  obtain ⟨t,rfl⟩:=rx
  cases y with
  | byt j=>obtain ⟨t',rfl⟩:=ry;exact PySem.W.ne_bytes (zaq I q (congrArg not zfl))
  | _=>exact absurd (show false=true from hs) Bool.false_ne_true
 | _=>cases y<;>exact absurd (show false=true from hs) Bool.false_ne_true
theorem op_lt:OpR X (compareOp .Lt) (rI0 fun i j=>.bl (decide (i<j))):=opB0 fun _ _ _ _ _ _ _ q=>lt_int q
theorem op_gt:OpR X (compareOp .Gt) (rI0 fun i j=>.bl (decide (j<i))):=opB0 fun _ _ _ _ _ _ _ q=>gt_int q
theorem zbd (b:Expr){op:CmpOp}(h:autoParam (op ≠ .In) zav._auto_1)(h2:autoParam (op ≠ .NotIn) zav._auto_1):behindInMarks op b=false:=by
 have e1:(op == CmpOp.In)=false:=by cases op<;>first|rfl|exact absurd rfl h
 have e2:(op == CmpOp.NotIn)=false:=by cases op<;>first|rfl|exact absurd rfl h2
 cases b<;>first|rfl|(show (_&&(_||_)&&_)=false;rw [e1,e2,Bool.or_self,Bool.and_false,Bool.false_and])
theorem zi0 {op:CmpOp}{r:R2}(ho:OpR X (compareOp op) r)(ha:PE X a ta)(hb:PE X b tb)(hm:behindInMarks op b=false):PE X (.Compare a [op] [b] pos) (tOp r ta tb):=by
 intro pins s σ H Q I h
 exact wpAny_Compare1 (binT ha hb I h fun v u s2 x y H2 I2 rx ry q=>ho pins s2 σ H2 x y v u Q I2 rx ry q) hm
noncomputable def tTest (t:TE):TT:=fun σ H Q=>t σ H fun x H' => ∃ k,x=.bl k∧Q k H'
theorem zfX {op:CmpOp}{r:R2}(ho:OpR X (compareOp op) r)(ha:PE X a ta)(hb:PE X b tb)(hm:behindInMarks op b=false):PT X (.Compare a [op] [b] pos) (tTest (tOp r ta tb)):=by
 intro pins s σ H Q I h
 refine wpAny_isTrue_Compare1 (thn (ha pins s σ H _ I h) fun v s1 ⟨x,H1,I1,r1,q1⟩=>thn (hb pins s1 σ H1 _ I1 q1) fun u s2 ⟨y,H2,I2,r2,q2⟩ =>
  thn (ho pins s2 σ H2 x y v u _ I2 r1 r2 q2) fun c s3 ⟨z,H3,I3,r3,k,e,q3⟩ => ?_) hm
 subst e
 cases r3
 exact wpAny_truthy_bool ⟨H3,I3,q3⟩
theorem zcZ:(sizeLine:Nat)<2 ^ 63:=by rw [sizeLine_eq];decide
theorem zee:OpR X (binaryOp .Add) (fun x y H Q => ∃ i j,x=.str i∧y=.str j∧i.length+j.length≤sizeLine∧Q (.str (i++j)) H):=by
 intro pins s σ H x y v u Q I rx ry h
 refine zc2d h fun i j zr2 zr3 hz q => ?_
 obtain rfl:=zr2
 obtain rfl:=zr3
 obtain ⟨t,rfl⟩:=rx
 obtain ⟨t',rfl⟩:=ry
 exact add_str (fun t' tk=>⟨.str (i++j),H,I.tok _,⟨_,rfl⟩,q⟩) hz
theorem zd1 {x:V}{us:List Value}(r:Vals [x] us):∃ u,us=[u]∧RelV x u:=by
 cases r with
 | cons r1 r2=>cases r2;exact ⟨_,rfl,r1⟩
theorem zi7 {x y:V}{us:List Value}(r:Vals [x,y] us):∃ u w',us=[u,w']∧RelV x u∧RelV y w':=by
 cases r with
 | cons r1 r2 =>
  cases r2 with
  | cons r3 r4=>cases r4;exact ⟨_,_,rfl,r1,r3⟩
theorem zff (hc:X.calm=true):zat X (.builtin "max") (fun xs H Q => ∃ i j,xs=[.int i,.int j]∧Q (.int (if j > i then j else i)) H):=by
 intro pins s σ H xs us Q I r h
 refine zc2b h fun i j zr2 q => ?_
 obtain rfl:=zr2
 refine zc2c (zi7 r) fun u w' zr2 zr3 zr4 => ?_
 obtain rfl:=zr2
 obtain ⟨t,rfl⟩:=zr3
 obtain ⟨t',rfl⟩:=zr4
 refine max_two_ints (I.ok.hd hc) fun h' tk k=>⟨_,H,I.kept k,?_,q⟩
 by_cases hj:j > i
 ·rw [if_pos hj,if_pos hj];exact ⟨_,rfl⟩
 ·rw [if_neg hj,if_neg hj];exact ⟨_,rfl⟩
theorem zf8 (hc:X.calm=true):zat X (.builtin "min") (fun xs H Q => ∃ i j,xs=[.int i,.int j]∧Q (.int (if j<i then j else i)) H):=by
 intro pins s σ H xs us Q I r h
 refine zc2b h fun i j zr2 q => ?_
 obtain rfl:=zr2
 refine zc2c (zi7 r) fun u w' zr2 zr3 zr4 => ?_
 obtain rfl:=zr2
 obtain ⟨t,rfl⟩:=zr3
 obtain ⟨t',rfl⟩:=zr4
 refine min_two_ints (I.ok.hd hc) fun h' tk k=>⟨_,H,I.kept k,?_,q⟩
 by_cases hj:j<i
 ·rw [if_pos hj,if_pos hj];exact ⟨_,rfl⟩
 ·rw [if_neg hj,if_neg hj];exact ⟨_,rfl⟩
theorem zda:zat X (.type "str") (fun xs H Q => ∃ i,xs=[.int i]∧i.natAbs.log2<1920∧Q (.str (toString i)) H):=by
 intro pins s σ H xs us Q I r h
 obtain ⟨i,rfl,hz,q⟩:=h
 obtain ⟨u,rfl,t,rfl⟩:=zd1 r
 exact PySem.P.str_of_int hz ⟨.str _,H,I.tok _,⟨_,rfl⟩,q⟩
end
end L2
namespace L2
open PySem PySem.Spec PyProof.Rows
structure ObjM (h:Heap)(x dx C:Addr)(mA:Str→Option Value):Prop where
 obj:h.get? x=some (PySem.W.instObj C dx)
 ns:h.Ns1 dx mA
 ne:dx≠x
theorem zfh {h:Heap}{dx:Addr}{mA:Str→Option Value}(n:h.Ns1 dx mA):∃ od,h.get? dx=some od∧∀ name,PySem.W.lookIn name od=some (mA name):=by
 refine zc3a n fun o es ep zz=>zc0e zz fun ho hd hk _ hm => ?_
 refine ⟨o,ho,fun name => ?_⟩
 have e:=hm name
 unfold nsFind findBy at e
 rw [← Array.find?_toList] at e
 unfold PySem.W.lookIn
 rw [hd]
 dsimp only
 split
 ·rename_i y q
  rw [q] at e
  exact congrArg some e
 ·rename_i q
  rw [q] at e
  have a:es.toList.any (·.refKey)=false:=by
   rw [List.any_eq_false]
   intro y hy
   refine zc2a (hk y (Array.mem_toList_iff.mp hy)) fun z t hkey => ?_
   simp -iota [DictEntry.refKey,hkey]
  have a':¬ es.toList.any (·.refKey)=true:=by rw [a];exact Bool.false_ne_true
  rw [if_neg a']
  exact congrArg some e
theorem ObjM.look {h:Heap}{x dx C:Addr}{mA:Str→Option Value}(I:ObjM h x dx C mA):∃ od,PySem.W.InstAt h x (PySem.W.instObj C dx) C (some od)∧∀ name,PySem.W.lookIn name od=some (mA name) :=
 let ⟨od,ho,hl⟩:=zfh I.ns
 ⟨od,⟨I.obj,rfl,rfl,ho⟩,hl⟩
section
variable {prog:Program}{w:World}{A:Around}{E:Value→Shared→Prop}{s:Shared}{K:PySem.W.Frag}{x dx C f:Addr}{mA:Str→Option Value}{name:Str}{v:Value}
theorem zhs {expr:Bool}{Q:Value→Shared→Prop}(X:K.In s.heap)(I:ObjM s.heap x dx C mA)(hg:PySem.W.plainGet K C name=true)(hh:PySem.W.hasDictIn K C=true)
 (ha:PySem.W.findIn K (.ref C) name=some none) (hv:mA name=some v) (hv':PySem.W.handedIn v=true) (h:Q v { s with toks:=s.toks+1 }) :
 wpAny (model prog w) A (getAttr (.ref x) name expr) Q E s:=by
 obtain ⟨od,J,hl⟩:=I.look
 exact PySem.W.get_value X J (PySem.W.plainGet_of hg).1 (PySem.W.findObj_own hh ha rfl (by rw [hl,hv])) hv' h
theorem zi4 {ns:List Str}{Q:Unit→Shared→Prop}(X:K.In s.heap)(I:ObjM s.heap x dx C mA)
 (hs:PySem.W.findIn K (.ref C) "__setattr__" = some (some (.builtin "object.__setattr__"))) (hp:PySem.W.plainOver K C=true) (ht:PySem.W.takerIn K C name=some none) (hh:PySem.W.hasDictIn K C=true)
 (hw:PySem.Within mA ns) (hsz:ns.length≤sizeLine)
 (h:∀ h',ObjM h' x dx C (fun y=>if y=name then some v else mA y)→Heap.SameBut dx s.heap h'→Q () { s with heap:=h',toks:=s.toks+2 }) :
 wpAny (model prog w) A (setAttr (.ref x) name v) Q E s:=by
 obtain ⟨od,J,hl⟩:=I.look
 refine PySem.W.set_plain X J hs (PySem.W.osa_open (s:={ s with toks:=s.toks+1 }) (r:=none) X J hp ht fun b => ?_)
 obtain ⟨cd,hc,hd'⟩:=PySem.W.any_some hh
 have hx:s.heap.get? x=some ⟨.ref C,some dx,.plain,#[]⟩:=I.obj
 refine wpAny_bind (wpAny_pure (wpAny_bind (wpAny_bind (wpAny_loadPart hx (wpAny_bind (PySem.W.Looks.here (s:={ s with toks:=s.toks+1 }) (PySem.W.looks_clsIn X hc) ?_))))))
 rw [hd']
 refine wpAny_pure (a:=some dx) (wpAny_bind (wpAny_pure (wpAny_bind ?_)))
 refine wpAny_nsSet1 (s:={ s with toks:=s.toks+1 }) I.ns fun h' hn2 hs2 => ?_
 obtain ⟨oD,esD,epD,hoD,hdD,hcD⟩:=hn2.count (PySem.Within.cons name v hw)
 refine wpAny_bind (wpAny_lookBehind hoD (by rw [hdD];exact pastItsLine_dict (Nat.le_trans hcD (by rw [List.length_cons];omega))) ?_)
 exact wpAny_pure (h _ ⟨(hs2.2 _ (Ne.symm I.ne)).trans I.obj,hn2,I.ne⟩ hs2)
theorem zgM {R:Result→Shared→Prop}{vs:List Value}{kw:List (Str×Value)}(X:K.In s.heap)(hm:PySem.W.makesIn K C=true)
 (hi:PySem.W.findIn K (.ref C) "__init__" = some (some (.ref f))) (hf:PySem.W.typeIn K (.ref f)=some (.type "function"))
 (h:codeAny (model prog w) (A.under (.builtin "type.__call__" ⟨.ref C::vs,kw⟩)) (.call (.ref f) ⟨.ref (s.heap.objs.size+1)::vs,kw⟩) (PySem.W.InitBack (s.heap.objs.size+1) R)
  { s with heap:=(s.heap.push PySem.W.emptyDict).push (PySem.W.instObj C s.heap.objs.size) }) :
 codeAny (model prog w) A (.call (.ref C) ⟨vs,kw⟩) R s:=by
 obtain ⟨hh,g,d,t,os⟩:=s
 exact PySem.W.make_core (PySem.W.makes_of X hm) (PySem.W.looks_findIn X hi) (fun self=>PySem.W.bind_fn X self hf) (.inl rfl) h
end
noncomputable def putF (f:Str)(v:V):List (Str×V)→List (Str×V)
 | [] => [(f,v)]
 | (g,x)::r=>if g=f then (g,v)::r else (g,x)::putF f v r
theorem zce (f g:Str)(v:V):∀ fs:List (Str×V),(putF f v fs).lookup g=if g=f then some v else fs.lookup g
 | []=>by
  show List.lookup g [(f,v)]=_
  by_cases h:g=f
  ·have hb:(g == f)=true:=beq_iff_eq.mpr h
   simp only [List.lookup,hb,if_pos h]
  ·have hb:(g == f)=false:=beq_eq_false_iff_ne.mpr h
   simp only [List.lookup,hb,if_neg h]
 | (k,x)::r=>by
  have ih:=zce f g v r
  rw [show putF f v ((k,x)::r)=(if k=f then (k,v)::r else (k,x)::putF f v r) from rfl]
  by_cases hk:k=f
  ·rw [if_pos hk]
   by_cases h:g=k
   ·have hb:(g == k)=true:=beq_iff_eq.mpr h
    simp only [List.lookup,hb,if_pos (h.trans hk)]
   ·have hb:(g == k)=false:=beq_eq_false_iff_ne.mpr h
    simp only [List.lookup,hb,if_neg (fun e:g=f=>h (e.trans hk.symm))]
  ·rw [if_neg hk]
   by_cases h:g=k
   ·have hb:(g == k)=true:=beq_iff_eq.mpr h
    simp only [List.lookup,hb,if_neg (fun e:g=f=>hk (h.symm.trans e))]
   ·have hb:(g == k)=false:=beq_eq_false_iff_ne.mpr h
    simp only [List.lookup,hb]
    exact ih
theorem zcf (f:Str)(v:V):∀ fs:List (Str×V),f∈(putF f v fs).map (·.1)∧∀ g,g∈fs.map (·.1)→g∈(putF f v fs).map (·.1)
 | []=>⟨by simp -iota [putF],fun g h=>by simp -iota at h⟩
 | (k,x)::r=>by
  obtain ⟨i1,i2⟩:=zcf f v r
  rw [show putF f v ((k,x)::r)=(if k=f then (k,v)::r else (k,x)::putF f v r) from rfl]
  by_cases hk:k=f
  ·rw [if_pos hk]
   subst hk
   exact ⟨by simp -iota,fun g h=>by simpa -iota using h⟩
  ·rw [if_neg hk]
   refine ⟨?_,fun g h => ?_⟩
   ·rw [List.map_cons]
    exact List.mem_cons_of_mem _ i1
   ·rw [List.map_cons] at h ⊢
    rcases List.mem_cons.mp h with e|e
    ·exact List.mem_cons.mpr (.inl e)
    ·exact List.mem_cons_of_mem _ (i2 g e)
theorem zch (f:Str)(v:V):∀ fs:List (Str×V),(putF f v fs).length≤fs.length+1
 | []=>by simp -iota [putF]
 | (k,x)::r=>by
  have ih:=zch f v r
  rw [show putF f v ((k,x)::r)=(if k=f then (k,v)::r else (k,x)::putF f v r) from rfl]
  by_cases hk:k=f
  ·rw [if_pos hk,List.length_cons,List.length_cons];omega
  ·rw [if_neg hk,List.length_cons,List.length_cons];omega
theorem RelO.some_of {v:V}{o:Option Value}(r:RelO (some v) o):∃ u,o=some u∧RelV v u:=by
 cases o with
 | none=>exact (show False from r).elim
 | some u=>exact ⟨u,rfl,r⟩
theorem zf4 {v:V}{u:Value}(r:RelV v u):PySem.W.handedIn u=true:=by
 cases v with
 | non=>cases (show u=Value.none from r);rfl
 | bl b=>cases (show u=Value.bool b from r);rfl
 | int i=>obtain ⟨t,e⟩:=(show ∃ t,u=Value.int i t from r);cases e;rfl
 | str x=>obtain ⟨t,e⟩:=(show ∃ t,u=Value.str x t from r);cases e;rfl
 | byt b=>obtain ⟨t,e⟩:=(show ∃ t,u=Value.bytes b t from r);cases e;rfl
 | flt b=>obtain ⟨t,e⟩:=(show ∃ t,u=Value.float b t from r);cases e;rfl
 | ref a=>cases (show u=Value.ref a from r);rfl
 | ty n=>cases (show u=Value.type n from r);rfl
section
variable {P:Program}{w:World}{H H':Hp}{h h':Heap}{a C dx:Addr}{fs fs':List (Str×V)}
theorem zdq (hok:HOk P w H h)(e:H a=some (.ins C dx fs)):∃ mA,ObjM h a dx C mA∧(∀ f,RelO (fs.lookup f) (mA f))∧PySem.Within mA (fs.map (·.1))∧fs.length≤1000∧H dx=some (.own a):=by
 refine zc0e ((show za4 P w H h a (.ins C dx fs) from hok a _ e)) fun d z ne ob zz=>zc1c zz fun mA n r q => ?_
 exact ⟨mA,⟨ob,n,ne⟩,r,q,z,d⟩
end
structure Cls (K:PySem.W.Frag)(C:Addr):Prop where
 pg:PySem.W.plainGet K C Str.empty=true
 hd:PySem.W.hasDictIn K C=true
 po:PySem.W.plainOver K C=true
 sa:PySem.W.findIn K (.ref C) "__setattr__" = some (some (.builtin "object.__setattr__"))
theorem Cls.get {K:PySem.W.Frag}{C:Addr}(c:Cls K C)(f:Str):PySem.W.plainGet K C f=true:=c.pg
noncomputable def zbH (K:PySem.W.Frag)(C:Addr)(f:Str):Prop:=PySem.W.findIn K (.ref C) f=some none
theorem zbH.taker {K:PySem.W.Frag}{C:Addr}{f:Str}(n:zbH K C f):PySem.W.takerIn K C f=some none:=by
 unfold PySem.W.takerIn
 rw [show PySem.W.findIn K (.ref C) f=some none from n]
 rfl
section
variable {X:Cx}{pins:List (Addr×Obj)}{σ : St}{H:Hp}{s:Shared}{a C dx:Addr}{fs:List (Str×V)}{f:Str}{v:V}{A:Around}{E:Value→Shared→Prop}
theorem zeg {b:Bool}{Q:Value→Shared→Prop}(I:Inv X pins σ H s)(e:H a=some (.ins C dx fs))(c:Cls X.K C)(n:zbH X.K C f)(l:fs.lookup f=some v)
 (h:∀ u s',Inv X pins σ H s'→RelV v u→Q u s'):wpAny (model X.prog X.w) A (getAttr (.ref a) f b) Q E s:=by
 obtain ⟨mA,O,r,_,_,_⟩:=zdq I.hok e
 obtain ⟨u,hu,ru⟩:=RelO.some_of (v:=v) (o:=mA f) (by rw [← l];exact r f)
 exact zhs I.kIn O (c.get f) c.hd n hu (zf4 ru) (h u _ (I.tok _) ru)
theorem zer {y:V}{u:Value}{Q:Unit→Shared→Prop}(I:Inv X pins σ H s)(e:H a=some (.ins C dx fs))(c:Cls X.K C)(n:zbH X.K C f)(hl:fs.length<1000)(ry:RelV y u)
 (h:∀ s',Inv X pins σ (upd H a (.ins C dx (putF f y fs))) s'→Q () s'):wpAny (model X.prog X.w) A (setAttr (.ref a) f u) Q E s:=by
 obtain ⟨mA,O,r,wi,_,ho⟩:=zdq I.hok e
 have hz:(fs.map (·.1)).length≤sizeLine:=by rw [List.length_map,sizeLine_eq];omega
 refine zi4 I.kIn O c.sa c.po n.taker c.hd wi hz fun h' O' sb=>h _ ?_
 have hd:∃ o,h'.get? dx=some o:=let ⟨o,_,_,e',_⟩:=O'.ns;⟨o,e'⟩
 refine I.write (x:=a) (e:=dx) (by rw [e];exact True.intro) (.inr ho) (fun b q hb z=>(sb.2 b hb).trans z) hd ?_
 refine ⟨by rw [zai O.ne];exact ho,?_,O.ne,O'.obj,_,O'.ns,fun g => ?_,fun g hg => ?_⟩
 ·have:=zch f y fs;omega
 ·show RelO ((putF f y fs).lookup g) (if g=f then some u else mA g)
  rw [zce]
  by_cases q:g=f
  ·rw [if_pos q,if_pos q];exact ry
  ·rw [if_neg q,if_neg q];exact r g
 ·by_cases q:g=f
  ·rw [q];exact (zcf f y fs).1
  ·refine (zcf f y fs).2 g (wi g fun z=>hg ?_)
   show (if g=f then some u else mA g)=none
   rw [if_neg q];exact z
theorem Inv.made (I:Inv X pins σ H s):Inv X pins σ (upd (upd H s.heap.objs.size (.own (s.heap.objs.size+1))) (s.heap.objs.size+1) (.ins C s.heap.objs.size []))
 { s with heap:=(s.heap.push PySem.W.emptyDict).push (PySem.W.instObj C s.heap.objs.size) }:=by
 have e1:(s.heap.push PySem.W.emptyDict).get? s.heap.objs.size=some PySem.W.emptyDict:=Heap.get?_push_size s.heap rfl
 have e2:((s.heap.push PySem.W.emptyDict).push (PySem.W.instObj C s.heap.objs.size)).get? (s.heap.objs.size+1)=some (PySem.W.instObj C s.heap.objs.size):=by
  have:=Heap.get?_push_size (s.heap.push PySem.W.emptyDict) (o:=PySem.W.instObj C s.heap.objs.size) rfl
  rwa [Heap.size_push] at this
 have e3:(s.heap.push PySem.W.emptyDict).Ns s.heap.objs.size (fun _=>none):=⟨PySem.W.emptyDict,#[],_,e1,rfl,(fun e he=>absurd he (by simp -iota)),fun _=>rfl⟩
 have I1:=I.laid (a:=s.heap.objs.size) (o:=.own (s.heap.objs.size+1)) (h':=s.heap.push PySem.W.emptyDict) (t':=s.toks) (fun b u q=>Heap.get?_push_of_some _ q) (Nat.le_refl _) ⟨_,e1⟩
 refine I1.laid (a:=s.heap.objs.size+1) (o:=.ins C s.heap.objs.size []) (t':=s.toks) (fun b u q=>Heap.get?_push_of_some _ q) (Nat.le_of_eq (Heap.size_push _ _)) ?_
 have ne:s.heap.objs.size≠s.heap.objs.size+1:=Nat.ne_of_lt (Nat.lt_succ_self _)
 refine ⟨by rw [zai ne,zak],Nat.zero_le _,ne,e2,fun _=>none,(Heap.Ns1.of_empty e3).at fun o q=>Heap.get?_push_of_some _ q,fun _=>True.intro,fun y hy=>absurd rfl hy⟩
theorem zh8 {prog:Program}{w:World}{env:Env}{e:Expr}{f:Str}{pos:Pos}{s:Shared}{Q:Value→Shared→Prop}(hb:attributeBase e f env (eval e env)=eval e env)
 (h:wpAny (model prog w) A (eval e env) (fun o s₁=>wpAny (model prog w) A (getAttr o f true) Q E s₁) E s):wpAny (model prog w) A (eval (.Attribute e f pos) env) Q E s :=
 Attribute_any_ h (by rw [arm_eval_Attribute,hb])
end
def tFld (K:PySem.W.Frag)(ta:TE)(f:Str):TE:=fun σ H Q=>ta σ H fun x H1 => ∃ a C dx fs v,x=.ref a∧H1 a=some (.ins C dx fs)∧Cls K C∧zbH K C f∧fs.lookup f=some v∧Q v H1
def sFld (K:PySem.W.Frag)(ta tv:TE)(f:Str):TS:=fun D σ H=>tv σ H fun y H1=>ta σ H1 fun x H2 => ∃ a C dx fs,x=.ref a∧H2 a=some (.ins C dx fs)∧Cls K C∧zbH K C f∧fs.length<1000 ∧
 D.nx σ (upd H2 a (.ins C dx (putF f y fs)))
section
variable {X:Cx}{o e value:Expr}{f:Str}{pos pos' tpos:Pos}{ta tv:TE}
theorem zkk (he:PE X e ta)(hb:attributeBase e f X.env (eval e X.env)=eval e X.env):PE X (.Attribute e f pos) (tFld X.K ta f):=by
 intro pins s σ H Q I h
 refine zh8 hb (thn (he pins s σ H _ I h) fun u s1 zh => ?_)
 obtain ⟨x,H1,I1,rx,a,C,dx,fs,v,ex,ea,c,n,l,q⟩:=zh
 subst ex
 obtain rfl:u=Value.ref a:=rx
 exact zeg I1 ea c n l fun u' s2 I2 ru=>⟨v,H1,I2,ru,q⟩
theorem zjA (ha:PE X o ta)(hv:PE X value tv)(hs:swapsWith value (some (.Attribute o f pos')) pos.line X.env=pure false):PS X (.Assign [.Attribute o f pos'] value pos) (sFld X.K ta tv f):=by
 intro pins s σ H D I h
 refine plainObj_wpAny_Assign_Attribute (thn (hv pins s σ H _ I h) fun u s1 ⟨y,H1,I1,ry,q⟩=>thn (ha pins s1 σ H1 _ I1 q) fun ov s2 ⟨x,H2,I2,rx,a,C,dx,fs,ex,ea,c,n,l,q2⟩ => ?_) hs
 subst ex
 obtain rfl:ov=Value.ref a:=rx
 exact zer I2 ea c n l ry fun s3 I3=>⟨σ,_,I3,q2⟩
end
section
variable {X:Cx}{pins:List (Addr×Obj)}{σ : St}{H:Hp}{s:Shared}{A:Around}{E:Value→Shared→Prop}{Q:Value→Shared→Prop}{c:Value}{b:Bool}
inductive TyOf (K:PySem.W.Frag)(H:Hp):V→Value→Prop where
 | non:TyOf K H .non (.type "NoneType")
 | bl (x:Bool):TyOf K H (.bl x) (.type "bool")
 | int (i:Int):TyOf K H (.int i) (.type "int")
 | str (x:Str):TyOf K H (.str x) (.type "str")
 | flt (x:UInt64):TyOf K H (.flt x) (.type "float")
 | lst {a:Addr} {xs:List V} (e:H a=some (.lst xs)):TyOf K H (.ref a) (.type "list")
 | frz {a:Addr} {o:Obj} {xs:List V} (e:H a=some (.frz o (.lst xs))):TyOf K H (.ref a) (.type "list")
 | tup {a:Addr} {xs:List V} (e:H a=some (.tup xs)):TyOf K H (.ref a) (.type "tuple")
 | dK {a:Addr} {kvs:List (Key×V)} (e:H a=some (.dK kvs)):TyOf K H (.ref a) (.type "dict")
 | dT {a:Addr} {kvs:List (List Key×V)} (e:H a=some (.dT kvs)):TyOf K H (.ref a) (.type "dict")
 | ins {a C dx:Addr} {fs:List (Str×V)} (e:H a=some (.ins C dx fs)) (cl:Cls K C) (ha:PySem.W.findIn K (.ref C) "__class__" = some (some (.builtin "object.__class__")))
  (hn:PySem.W.specialIn K (.builtin "object.__class__") "__get__" = some (some (.builtin "getset_descriptor.__get__"))) (htk:PySem.W.takesIn K (.builtin "object.__class__")=some true)
  (hm:PySem.W.mroIn K C (.type "object")=some true):TyOf K H (.ref a) (.ref C)
theorem zfd {x:V}{u t:Value}(I:Inv X pins σ H s)(rx:RelV x u)(ty:TyOf X.K H x t)(e:PySem.W.kitOne X.K t c=some b)(h:∀ tk,Q (.bool b) { s with toks:=tk }) :
 wpAny (model X.prog X.w) A (call (.builtin "isinstance") [u,c]) Q E s:=by
 cases ty with
 | non=>cases (show u=Value.none from rx);exact PySem.W.kia_one PySem.W.kitx_none I.kIn True.intro e (fun z=>nomatch z) h
 | bl y=>cases (show u=Value.bool y from rx);exact PySem.W.kia_one PySem.W.kitx_bool I.kIn True.intro e (fun z=>nomatch z) h
 | int i=>obtain ⟨t,q⟩:=(show ∃ t,u=Value.int i t from rx);cases q;exact PySem.W.kia_one PySem.W.kitx_int I.kIn True.intro e (fun z=>nomatch z) h
 | str y=>obtain ⟨t,q⟩:=(show ∃ t,u=Value.str y t from rx);cases q;exact PySem.W.kia_one PySem.W.kitx_str I.kIn True.intro e (fun z=>nomatch z) h
 | flt y=>obtain ⟨t,q⟩:=(show ∃ t,u=Value.float y t from rx);cases q;exact PySem.W.kia_one PySem.W.kitx_float I.kIn True.intro e (fun z=>nomatch z) h
 | @lst a xs ea =>
  cases (show u=Value.ref a from rx)
  refine zc0b ((show za4 X.prog X.w H s.heap a (.lst xs) from I.hok a _ ea)) fun _ zz=>zc2b zz fun _ n _ h1 => ?_
  exact PySem.W.kia_one PySem.W.kitx_list I.kIn ⟨_,h1,rfl⟩ e (fun z=>nomatch z) h
 | @frz a ob xs ea =>
  cases (show u=Value.ref a from rx)
  refine zc0c ((show za4 X.prog X.w H s.heap a (.frz ob (.lst xs)) from I.hok a _ ea)) fun _ _ zz=>zc2b zz fun _ n _ h1 => ?_
  exact PySem.W.kia_one PySem.W.kitx_list I.kIn ⟨_,h1,rfl⟩ e (fun z=>nomatch z) h
 | @tup a xs ea =>
  cases (show u=Value.ref a from rx)
  refine zc0b ((show za4 X.prog X.w H s.heap a (.tup xs) from I.hok a _ ea)) fun _ zz=>zc1b zz fun _ _ p => ?_
  refine zc1c p fun o h1 h2 _ => ?_
  exact PySem.W.kia_one PySem.W.kitx_tuple I.kIn ⟨o,h1,h2⟩ e (fun z=>nomatch z) h
 | @dK a kvs ea =>
  cases (show u=Value.ref a from rx)
  refine zc0c ((show za4 X.prog X.w H s.heap a (.dK kvs) from I.hok a _ ea)) fun _ _ zz=>zc1b zz fun vs _ p => ?_
  refine zc3c p fun o es ep h1 h2 _ => ?_
  exact PySem.W.kia_one PySem.W.kitx_dict I.kIn ⟨o,h1,h2.1⟩ e (fun z=>nomatch z) h
 | @dT a kvs ea =>
  cases (show u=Value.ref a from rx)
  refine zc0c ((show za4 X.prog X.w H s.heap a (.dT kvs) from I.hok a _ ea)) fun _ _ zz=>zc1b zz fun xs _ zz=>zc3c zz fun o es ep h1 h2 _ => ?_
  exact PySem.W.kia_one PySem.W.kitx_dict I.kIn ⟨o,h1,h2.1⟩ e (fun z=>nomatch z) h
 | @ins a C dx fs ea cl ha hn htk hm =>
  cases (show u=Value.ref a from rx)
  refine zc1b (zdq I.hok ea) fun mA O _ => ?_
  refine zc1b O.look fun od J _ => ?_
  exact PySem.W.kia_one (PySem.W.kitx_own (cl.get _) cl.hd ha hn htk hm) I.kIn J e (fun z=>nomatch z) h
end
end L2
namespace L2
open PySem PySem.Spec PyProof.Rows
structure Room (k:Nat)(A:Around):Prop where
 hd:A.handled=none
 dp:A.depth+3*k+5<recursionLimit
 un:A.units+16*k+200<cLine
theorem Room.mono {j k:Nat}{A:Around}(r:Room k A)(h:j≤k):Room j A:=⟨r.hd,by have:=r.dp;omega,by have:=r.un;omega⟩
theorem Room.deeper {k:Nat}{A:Around}(r:Room (k+1) A)(env:Env):Room k (A.deeper env) :=
 ⟨r.hd,by have:=r.dp;show A.depth+1+3*k+5<_;omega,by have:=r.un;show A.units+3+16*k+200<_;omega⟩
theorem zeB {A:Around}{C:Addr}{us:List Value}{kw:List (Str×Value)}:(A.under (.builtin "type.__call__" ⟨.ref C::us,kw⟩)).depth=A.depth+1:=by
 first|rfl|simp -iota [Around.under,Code.weight,Code.isCreation,Code.isGuard,Code.isCaller,Code.frames,Code.isFrame,guardIds]
theorem zek {A:Around}{C:Addr}{us:List Value}{kw:List (Str×Value)}:(A.under (.builtin "type.__call__" ⟨.ref C::us,kw⟩)).units=A.units+1:=by
 first|rfl|simp -iota [Around.under,Code.cUnits,Code.frames,Code.isFrame]
theorem Room.make {k:Nat}{A:Around}(r:Room (k+1) A)(C:Addr)(us:List Value)(kw:List (Str×Value)):Room k (A.under (.builtin "type.__call__" ⟨.ref C::us,kw⟩)) :=
 ⟨r.hd,by have:=r.dp;rw [zeB];omega,by have:=r.un;rw [zek];omega⟩
theorem Room.depth {k:Nat}{A:Around}(r:Room k A):A.depth<recursionLimit:=by have:=r.dp;omega
theorem Room.units {k:Nat}{A:Around}(r:Room k A):A.units+64<cLine:=by have:=r.un;omega
noncomputable def tNil:TA:=fun _ H Q=>Q [] H
noncomputable def tCons (ta:TE)(tr:TA):TA:=fun σ H Q=>ta σ H fun x H1=>tr σ H1 fun xs H2=>Q (x::xs) H2
section
variable {X:Cx}{e:Expr}{es:List Expr}{te:TE}{t:TA}{pos:Pos}
theorem zcP:PA X [] tNil:=fun _ _ _ _ H Q I h=>Calls.spliced_nil ⟨[],H,I,.nil,h⟩
theorem zbU (ha:PE X e te)(hr:PA X es t)(hs:autoParam (starEach (e::es) X.env=(false,eval e X.env)::starEach es X.env) zau._auto_1):PA X (e::es) (tCons te t):=by
 intro pos pins s σ H Q I h
 rw [hs]
 show wpAny _ _ (spliced ((false,eval e X.env)::backTo pos (starEach es X.env))) _ _ s
 refine Calls.spliced_cons (thn (ha pins s σ H _ I h) fun u s1 zh => ?_)
 refine zc2c zh fun x H1 I1 r1 q1 => ?_
 exact thn (hr pos pins s1 σ H1 _ I1 q1) (by rintro us s2 ⟨xs,H2,I2,r2,q2⟩;exact ⟨x::xs,H2,I2,.cons r1 r2,q2⟩)
def tTup (t:TA):TE:=fun σ H Q=>t σ H fun xs H1=>xs.length≤sizeLine∧∀ p,H1 p=none→Q (.ref p) (upd H1 p (.tup xs))
def tLst (t:TA):TE:=fun σ H Q=>t σ H fun xs H1=>xs.length≤sizeLine∧∀ p,H1 p=none→Q (.ref p) (upd H1 p (.lst xs))
theorem zjB {x1}(h:PA X es t):PE X (.Tuple es x1 pos) (tTup t):=by
 intro pins s σ H Q I hq
 refine wpAny_Tuple_spliced (thn (h pos pins s σ H _ I hq) fun us s1 ⟨xs,H1,I1,r,z,q⟩=>⟨by rw [← r.length];exact z,?_⟩)
 have hf:H1 s1.heap.objs.size=none:=I1.hok.fresh (Nat.le_refl _)
 refine ⟨.ref s1.heap.objs.size,upd H1 s1.heap.objs.size (.tup xs),I1.laid (t':=s1.toks) (fun b u e=>Heap.get?_push_of_some _ e) (Nat.le_refl _) ?_,rfl,q _ hf⟩
 exact ⟨⟨z,⟨_,Heap.get?_push_size _ rfl,rfl⟩⟩,us,r,⟨_,Heap.get?_push_size _ rfl,rfl,_,rfl⟩⟩
theorem zhg (h:PA X es t):PE X (.List es pos) (tLst t):=by
 intro pins s σ H Q I hq
 refine wpAny_List_spliced (thn (h pos pins s σ H _ I hq) fun us s1 ⟨xs,H1,I1,r,z,q⟩=>⟨by rw [← r.length];exact z,?_⟩)
 have hf:H1 s1.heap.objs.size=none:=I1.hok.fresh (Nat.le_refl _)
 refine ⟨.ref s1.heap.objs.size,upd H1 s1.heap.objs.size (.lst xs),I1.laid (t':=s1.toks) (fun b u e=>Heap.get?_push_of_some _ e) (Nat.le_refl _) ?_,rfl,q _ hf⟩
 exact ⟨z,us,0,r,Heap.get?_push_size _ rfl⟩
end
abbrev Sp:=List V→Hp→VK→XK→Prop
abbrev CXT:=List Env→Hp→Shared→XK→Value→Shared→Prop
structure Env0 (P:Program)(w:World)(K:PySem.W.Frag)(mg:Str→Option Value)(base:Heap)(A:Around)(outer:List Env)(s:Shared)(H:Hp):Prop where
 frames:A.frames=some outer
 mod:Mod K mg base
 bs:∀ b o,base.get? b=some o→s.heap.get? b=some o∧H b=none
 bsz:base.objs.size≤s.heap.objs.size
 funs:s.heap.FunFrames base outer
 frf:∀ b∈frs outer,H b=none
 hok:HOk P w H s.heap
 bare:AllBare s.gens
def CE (outer:List Env)(P:Program)(w:World)(H:Hp)(s:Shared)(Q:VK)(u:Value)(s':Shared):Prop :=
 ∃ v H',s'.os=s.os∧AllBare s'.gens∧Un (frs outer) [] H H' s.heap s'.heap∧HOk P w H' s'.heap∧RelV v u∧Q v H'
noncomputable def CR (CX:CXT)(outer:List Env)(P:Program)(w:World)(H:Hp)(s:Shared)(Q:VK)(E:XK)(r:Result)(s':Shared):Prop :=
 match r with
 | .ok (.ret u)=>CE outer P w H s Q u s'
 | .ok _=>False
 | .error e=>CX outer H s E e s'
structure FnOk (P:Program)(w:World)(K:PySem.W.Frag)(mg:Str→Option Value)(base:Heap)(CX:CXT)(k:Nat)(f:Addr)(fd:FuncData)(ps:List Str)(sp:Sp):Prop where
 len:∀ vs H Q E,sp vs H Q E→vs.length=ps.length
 run:∀ (A:Around) (outer:List Env) (s:Shared) (H:Hp) (args:Args) (us:List Value) (vs:List V) (Q:VK) (E:XK),Room k A→Env0 P w K mg base A outer s H→BindsTo s fd args (ps.zip us)→Vals vs us→sp vs H Q E →
  codeAny (model P w) A (.call (.ref f) args) (CR CX outer P w H s Q E) s
theorem FnOk.mono {P:Program}{w:World}{K:PySem.W.Frag}{mg:Str→Option Value}{base:Heap}{CX:CXT}{j k:Nat}{f:Addr}{fd:FuncData}{ps:List Str}{sp:Sp}(F:FnOk P w K mg base CX j f fd ps sp)(h:j≤k) :
 FnOk P w K mg base CX k f fd ps sp:=⟨F.len,fun A outer s H args us vs Q E hr=>F.run A outer s H args us vs Q E (hr.mono h)⟩
theorem FnOk.imp {P:Program}{w:World}{K:PySem.W.Frag}{mg:Str→Option Value}{base:Heap}{CX:CXT}{k:Nat}{f:Addr}{fd:FuncData}{ps:List Str}{sp sp':Sp}(F:FnOk P w K mg base CX k f fd ps sp)
 (h:∀ vs H Q E,sp' vs H Q E→sp vs H Q E):FnOk P w K mg base CX k f fd ps sp' :=
 ⟨fun vs H Q E q=>F.len vs H Q E (h _ _ _ _ q),fun A outer s H args us vs Q E hr he hb hv hs=>F.run A outer s H args us vs Q E hr he hb hv (h _ _ _ _ hs)⟩
theorem Env0.make {P:Program}{w:World}{K:PySem.W.Frag}{mg:Str→Option Value}{base:Heap}{A:Around}{outer:List Env}{s:Shared}{H:Hp}(e:Env0 P w K mg base A outer s H)(C:Addr)(us:List Value)(kw:List (Str×Value)) :
 Env0 P w K mg base (A.under (.builtin "type.__call__" ⟨.ref C::us,kw⟩)) outer s H:=⟨by first|exact e.frames|(simpa -iota [Around.under,Code.envs,Code.isFrame,pushEnvs] using e.frames),e.mod,e.bs,e.bsz,e.funs,e.frf,e.hok,e.bare⟩
section
variable {X:Cx}{pins:List (Addr×Obj)}{σ : St}{H:Hp}{s s':Shared}
theorem Inv.env0 (I:Inv X pins σ H s):Env0 X.prog X.w X.K X.mg X.base X.A X.stack s H :=
 ⟨I.ok.frames,I.ok.mod,I.bs,Nat.le_trans I.ok.bsz I.sz,I.stack,I.stkFree,I.hok,I.bare⟩
theorem Inv.after {Q:VK}{u:Value}(I:Inv X pins σ H s)(h:CE X.stack X.prog X.w H s Q u s'):EP X pins σ Q u s':=by
 refine zc2a h fun v H' zz=>zc0e zz fun os bare un hok zz=>zc0b zz fun r q => ?_
 obtain ⟨hh,g,d,t,os'⟩:=s'
 obtain rfl:os'=s.os:=os
 exact ⟨v,H',I.call (h':=hh) (g':=g) (d':=d) (t':=t) (ch:=[]) un hok bare (fun b z=>absurd z (by simp -iota)),r,q⟩
end
noncomputable def zhG (sp:Sp)(dvs:List V)(E:XK)(t:TA):TE:=fun σ H Q=>t σ H fun vs H1=>sp (vs++dvs) H1 Q E
def tMake (C:Addr)(sp:Sp)(dvs:List V)(E:XK)(t:TA):TE:=fun σ H Q=>t σ H fun vs H1 => ∀ x dx,H1 x=none→H1 dx=none→dx≠x →
 sp (.ref x::(vs++dvs)) (upd (upd H1 dx (.own x)) x (.ins C dx [])) (fun v H2=>v=.non∧Q (.ref x) H2) E
noncomputable def zbV (K:PySem.W.Frag)(fd:FuncData)(ps:List Str)(ds:List Value):Prop :=
 ∀ (s:Shared) (us:List Value),K.In s.heap→(us++ds).length=ps.length→BindsTo s fd ⟨us,[]⟩ (ps.zip (us++ds))
theorem zbV.all {K:PySem.W.Frag}{fd:FuncData}{ps:List Str}(h:∀ us:List Value,us.length=ps.length→bindArgs fd ⟨us,[]⟩=pure (ps.zip us)):zbV K fd ps []:=fun s us _ hl=>by
 rw [List.append_nil] at hl ⊢
 exact .of_eq (h us hl)
noncomputable def zct (CX:CXT)(X:Cx)(E:XK):Prop:=∀ (pins:List (Addr×Obj)) (σ : St) (H:Hp) (s:Shared) (e:Value) (s':Shared),Inv X pins σ H s→CX X.stack H s E e s'→X.xe e s'
section
variable {X:Cx}{CX:CXT}{k:Nat}{f C:Addr}{fd:FuncData}{ps:List Str}{sp:Sp}{dvs:List V}{ds:List Value}{E:XK}{x m:Str}{p pos apos:Pos}{e o:Expr}{es:List Expr}{ta:TE}{t:TA}
theorem zjD {pins:List (Addr×Obj)}{σ : St}{H:Hp}{s:Shared}{Q:VK}{us:List Value}{vs:List V}(F:FnOk X.prog X.w X.K X.mg X.base CX k f fd ps sp)(hr:Room k X.A)(hb:zbV X.K fd ps ds)(hd:Vals dvs ds)(hx:zct CX X E)
 (I:Inv X pins σ H s) (r:Vals vs us) (h:sp (vs++dvs) H Q E):wpAny (model X.prog X.w) X.A (call (.ref f) us) (EP X pins σ Q) X.xe s:=by
 have r2:Vals (vs++dvs) (us++ds):=r.append hd
 have hl:(us++ds).length=ps.length:=by rw [← r2.length];exact F.len _ _ _ _ h
 refine wpAny_call (codeAny_mono (F.run X.A X.stack s H ⟨us,[]⟩ (us++ds) (vs++dvs) Q E hr I.env0 (hb s us I.kIn hl) r2 h) fun r s' hq => ?_)
 cases r with
 | error e=>exact hx pins σ H s e s' I hq
 | ok fl =>
  cases fl with
  | ret u=>exact I.after hq
  | next=>exact False.elim hq
  | brk=>exact False.elim hq
  | cont=>exact False.elim hq
theorem zeT (F:FnOk X.prog X.w X.K X.mg X.base CX k f fd ps sp)(hr:Room k X.A)(hg:Gl X x)(hm:X.mg x=some (.ref f))(hk:PySem.W.keepIn X.K (.ref f)=true)(hb:zbV X.K fd ps ds)(hd:Vals dvs ds)(hx:zct CX X E)
 (ha:PA X (e::es) t) (hdb:autoParam ((x == ("__debug__" : Str))=false) zav._auto_1) (he:starEach (e::es) X.env=(false,eval e X.env)::starEach es X.env:=by rfl) (hpl:(backTo pos (starEach es X.env)).any (·.1)=false:=by rfl) :
 PE X (.Call (.Name x p) (e::es) [] pos) (zhG sp dvs E t):=by
 intro pins s σ H Q I h
 refine wpAny_Call_Name_kw (zb7 I hg hm ?_ hdb)
 refine PySem.W.callWith_K (h₀:=X.base) I.ok.mod.kin hk (thn (ha pos pins s σ H _ I h) fun us s1 ⟨vs,H1,I1,r,q⟩=>⟨I1.kIn,?_⟩) he hpl
 exact zjD F hr hb hd hx I1 r q
structure Mk (K:PySem.W.Frag)(C f:Addr):Prop where
 makes:PySem.W.makesIn K C=true
 init:PySem.W.findIn K (.ref C) "__init__" = some (some (.ref f))
 fn:PySem.W.isFn K (.ref f)=true
 kp:PySem.W.keepIn K (.ref C)=true
theorem zg6 {pins:List (Addr×Obj)}{σ : St}{H:Hp}{s:Shared}{Q:VK}{us:List Value}{vs:List V}(M:Mk X.K C f)(F:FnOk X.prog X.w X.K X.mg X.base CX k f fd ps sp)(hr:Room (k+1) X.A)(hb:zbV X.K fd ps ds)(hd:Vals dvs ds)
 (hx:zct CX X E) (I:Inv X pins σ H s) (r:Vals vs us)
 (h:∀ x dx,H x=none→H dx=none→dx≠x→sp (.ref x::(vs++dvs)) (upd (upd H dx (.own x)) x (.ins C dx [])) (fun v H2=>v=.non∧Q (.ref x) H2) E) :
 wpAny (model X.prog X.w) X.A (call (.ref C) us) (EP X pins σ Q) X.xe s:=by
 have hq:=h (s.heap.objs.size+1) s.heap.objs.size (I.hok.fresh (Nat.le_succ _)) (I.hok.fresh (Nat.le_refl _)) (Nat.ne_of_lt (Nat.lt_succ_self _))
 have I2:=Inv.made (C:=C) I
 have r2:Vals (V.ref (s.heap.objs.size+1)::(vs++dvs)) (Value.ref (s.heap.objs.size+1)::(us++ds)):=.cons rfl (r.append hd)
 have hl:(Value.ref (s.heap.objs.size+1)::us++ds).length=ps.length:=by
  have e:=r2.length
  rw [F.len _ _ _ _ hq] at e
  exact e.symm
 refine wpAny_call (zgM (f:=f) I.kIn M.makes M.init (beq_iff_eq.mp M.fn) (codeAny_mono (F.run _ X.stack _ _ ⟨Value.ref (s.heap.objs.size+1)::us,[]⟩ (Value.ref (s.heap.objs.size+1)::(us++ds)) _ _ E (hr.make C us [])
  (I2.env0.make C us []) (hb _ (Value.ref (s.heap.objs.size+1)::us) I2.kIn hl) r2 hq) fun r s' hq' => ?_))
 cases r with
 | error e=>exact hx pins σ _ _ e s' I2 hq'
 | ok fl =>
  cases fl with
  | ret u =>
   obtain ⟨v,H',I3,rv,ev,q3⟩:=I2.after hq'
   subst ev
   exact ⟨rv,⟨V.ref (s.heap.objs.size+1),H',I3,rfl,q3⟩⟩
  | next=>exact False.elim hq'
  | brk=>exact False.elim hq'
  | cont=>exact False.elim hq'
theorem zi3 (M:Mk X.K C f)(F:FnOk X.prog X.w X.K X.mg X.base CX k f fd ps sp)(hr:Room (k+1) X.A)(hg:Gl X x)(hm:X.mg x=some (.ref C))(hb:zbV X.K fd ps ds)(hd:Vals dvs ds)(hx:zct CX X E)
 (ha:PA X (e::es) t) (hdb:autoParam ((x == ("__debug__" : Str))=false) zav._auto_1) (he:starEach (e::es) X.env=(false,eval e X.env)::starEach es X.env:=by rfl) (hpl:(backTo pos (starEach es X.env)).any (·.1)=false:=by rfl) :
 PE X (.Call (.Name x p) (e::es) [] pos) (tMake C sp dvs E t):=by
 intro pins s σ H Q I h
 refine wpAny_Call_Name_kw (zb7 I hg hm ?_ hdb)
 refine PySem.W.callWith_K (h₀:=X.base) I.ok.mod.kin M.kp (thn (ha pos pins s σ H _ I h) fun us s1 ⟨vs,H1,I1,r,q⟩=>⟨I1.kIn,?_⟩) he hpl
 exact zg6 M F hr hb hd hx I1 r q
end
structure FnScope (N P:List Str)(sc:Scope):Prop where
 kind:sc.kind=.function
 co:sc.isCoroutine=false
 gen:sc.isGenerator=false
 nd:N.Nodup
 pre:N.take P.length=P
 par:∀ x∈P,sc.names.lookup x=some .local∨sc.names.lookup x=some .cell
 nofree:∀ y∈sc.names,y.2 ≠ .free
theorem zcH {kindOf:Str→Option NameKind}{x:Str}:∀ {binds:List (Str×Value)} {m:Str→Option Value},(∀ v,(x,v)∉binds)→bindL kindOf binds m x=m x
 | [],_,_=>rfl
 | (n,v)::r,m,h=>by
  unfold bindL
  rw [zcH fun w hw=>h w (List.mem_cons_of_mem _ hw)]
  split
  ·have:x≠n:=by rintro rfl;exact h v List.mem_cons_self
   simp -iota [this]
  ·rfl
theorem zcS {kindOf:Str→Option NameKind}{x:Str}:∀ {binds:List (Str×Value)} {m:Str→Option Value},(∀ v,(x,v)∉binds)→bindC kindOf binds m x=m x
 | [],_,_=>rfl
 | (n,v)::r,m,h=>by
  unfold bindC
  rw [zcS fun w hw=>h w (List.mem_cons_of_mem _ hw)]
  split
  ·rfl
  ·have:x≠n:=by rintro rfl;exact h v List.mem_cons_self
   simp -iota [this]
theorem zdb {kindOf:Str→Option NameKind}{x:Str}{v:Value}:∀ {P:List Str} {vs:List Value} {i:Nat} {m:Str→Option Value},P.Nodup→P[i]? = some x→vs[i]? = some v→kindOf x=some .local →
 bindL kindOf (P.zip vs) m x=some v
 | [],_,_,_,_,h,_,_=>by simp -iota at h
 | _::_,[],_,_,_,_,h,_=>by simp -iota at h
 | p::P,w::vs,0,m,nd,h1,h2,hk=>by
  simp -iota at h1 h2;subst h1;subst h2
  show bindL kindOf ((p,w)::P.zip vs) m p=_
  unfold bindL
  rw [zcH fun v hv=>(List.nodup_cons.mp nd).1 (List.of_mem_zip hv).1,if_pos hk]
  simp -iota
 | p::P,w::vs,i+1,m,nd,h1,h2,hk=>by
  show bindL kindOf ((p,w)::P.zip vs) m x=_
  unfold bindL
  exact zdb (i:=i) (List.nodup_cons.mp nd).2 (by simpa -iota using h1) (by simpa -iota using h2) hk
theorem zde {kindOf:Str→Option NameKind}{x:Str}{v:Value}:∀ {P:List Str} {vs:List Value} {i:Nat} {m:Str→Option Value},P.Nodup→P[i]? = some x→vs[i]? = some v→kindOf x≠some .local →
 bindC kindOf (P.zip vs) m x=some v
 | [],_,_,_,_,h,_,_=>by simp -iota at h
 | _::_,[],_,_,_,_,h,_=>by simp -iota at h
 | p::P,w::vs,0,m,nd,h1,h2,hk=>by
  simp -iota at h1 h2;subst h1;subst h2
  show bindC kindOf ((p,w)::P.zip vs) m p=_
  unfold bindC
  rw [zcS fun v hv=>(List.nodup_cons.mp nd).1 (List.of_mem_zip hv).1,if_neg hk]
  simp -iota
 | p::P,w::vs,i+1,m,nd,h1,h2,hk=>by
  show bindC kindOf ((p,w)::P.zip vs) m x=_
  unfold bindC
  exact zde (i:=i) (List.nodup_cons.mp nd).2 (by simpa -iota using h1) (by simpa -iota using h2) hk
noncomputable def start (N:List Str)(vs:List V):St:=vs.map some++List.replicate (N.length-vs.length) none
noncomputable def cxOf (CX:CXT)(P:Program)(w:World)(K:PySem.W.Frag)(mg:Str→Option Value)(base:Heap)(N:List Str)(qual:Str)(scope:Scope)(f:Addr)(cd:Value)(A:Around)(outer:List Env)(s:Shared)(H:Hp)(E:XK):Cx where
 prog:=P
 w:=w
 K:=K
 mg:=mg
 base:=base
 A:=A.deeper (envOfC qual scope s.heap.objs.size f cd)
 N:=N
 s₀:=s
 H₀:=H
 env:=envOfC qual scope s.heap.objs.size f cd
 outer:=outer
 stack:=envOfC qual scope s.heap.objs.size f cd::outer
 ex:=[]
 calm:=true
 fn:=fun _=>true
 pn:=[]
 xe:=fun e s'=>wpAny (model P w) (A.deeper (envOfC qual scope s.heap.objs.size f cd)) (leaving (envOfC qual scope s.heap.objs.size f cd) e) (fun _ s''=>CX outer H s E e s'') (fun e' s''=>CX outer H s E e' s'') s'
theorem zdT {sc:Scope}{n:Nat}{x:Str}(h:sc.names.lookup x=some .cell):∃ c,(cellsFrom n sc.names []).lookup x=some c:=by
 have q:=PySem.W.cellsFrom_some sc.names n [] (.inl h)
 exact Option.isSome_iff_exists.mp q
theorem zf0 {CX:CXT}{P:Program}{w:World}{K:PySem.W.Frag}{mg:Str→Option Value}{base:Heap}{N ps:List Str}{qual:Str}{scope:Scope}{f:Addr}{cd:Value}{A:Around}{outer:List Env}{s s1:Shared}{H:Hp}{E:XK}{us:List Value}{vs:List V}
 (S:FnScope N ps scope) (hd:A.handled=none) (e0:Env0 P w K mg base A outer s H) (hl:vs.length=ps.length) (r:Vals vs us)
 (x:InCallC s s.heap.objs.size (bindL (envOfC qual scope s.heap.objs.size f cd).kindOf (ps.zip us) fun _=>none) (cellsFrom (s.heap.objs.size+1) scope.names []) (bindC (envOfC qual scope s.heap.objs.size f cd).kindOf (ps.zip us) fun _=>none) s1) :
 Inv (cxOf CX P w K mg base N qual scope f cd A outer s H E) [] (start N vs) H s1:=by
 have hpl:ps.length≤N.length:=by have:=congrArg List.length S.pre;rw [List.length_take] at this;omega
 refine zc2b x.done fun h1 tk zr2 hk => ?_
 obtain rfl:=zr2
 have noA:∀ b:Addr,b∉(cxOf CX P w K mg base N qual scope f cd A outer s H E).ex:=fun b z=>absurd (show b∈([]:List Addr) from z) (by simp -iota)
 refine ⟨⟨e0.mod,S.kind,rfl,rfl,Nat.le_refl _,fun y z c h1 h2 => ?_,fun y hy => ?_,fun y c _ h => ?_,fun _=>hd,Around.frames_deeper e0.frames,.inr ⟨rfl,rfl⟩,fun b z=>absurd z (noA b),e0.bs,e0.bsz,fun b _ _=>noA b,fun b z=>absurd z (noA b),e0.funs,e0.frf⟩,
  rfl,e0.bare,Un.kept hk,⟨_,x.toInCall.ns,fun i y v h1 h2 h3 => ?_⟩,fun y c h=>⟨_,x.cell y c h⟩,e0.hok.fresh (Nat.le_refl _),fun y c h => ?_,fun p hp=>absurd (show p∈([]:List (Addr×Obj)) from hp) (by simp -iota),e0.hok.kept hk,?_⟩
 ·exact name_of_addr x.apart (PySem.mem_of_lookup h1) (PySem.mem_of_lookup h2)
 ·have hy:scope.names.lookup y=some .cell∨scope.names.lookup y=some .free:=hy
  rcases hy with hy|hy
  ·exact zdT hy
  ·exact absurd rfl (S.nofree _ (PySem.mem_of_lookup hy))
 ·exact Nat.le_of_lt (x.above y c (PySem.mem_of_lookup h))
 ·have hi:i<vs.length:=by
   unfold start at h2
   by_cases hi:i<vs.length
   ·exact hi
   ·rw [List.getElem?_append_right (by simpa -iota using hi)] at h2
    rw [List.getElem?_replicate] at h2
    split at h2<;>cases h2
  have ha:vs[i]? = some v:=by
   unfold start at h2
   rw [List.getElem?_append_left (by simpa -iota using hi),List.getElem?_map] at h2
   cases e:vs[i]? with
   | none=>rw [e] at h2;cases h2
   | some a=>rw [e] at h2;cases h2;rfl
  refine zc1b (r.get ha) fun u hu rv => ?_
  have hp:ps[i]? = some y:=by
   rw [← S.pre,List.getElem?_take_of_lt (by omega)];exact h1
  have ndP:ps.Nodup:=by rw [← S.pre];exact S.nd.sublist (List.take_sublist _ _)
  refine ⟨u,rv,?_⟩
  rcases S.par y (List.mem_of_getElem? hp) with k|k
  ·exact .inl ⟨k,zdb ndP hp hu k⟩
  ·obtain ⟨c,e⟩:=zdT (n:=s.heap.objs.size+1) k
   refine .inr ⟨.inl k,c,e,?_⟩
   have q:=x.cell y c e
   rw [zde ndP hp hu (by show scope.names.lookup y≠_;rw [k];decide)] at q
   exact q
 ·exact e0.hok.fresh (Nat.le_of_lt (x.above y c (PySem.mem_of_lookup h)))
 ·unfold start
  show _=N.length
  rw [List.length_append,List.length_map,List.length_replicate]
  omega
theorem zjY {CX:CXT}{P:Program}{w:World}{K:PySem.W.Frag}{mg:Str→Option Value}{base:Heap}{k:Nat}{f:Addr}{name qual:Str}{params:Arguments}{body:List Stmt}{scope:Scope}{dV kV doc pm cdv ct oc:Value}{an od:Option Addr}
 {osl:Array (Option Value)} {N ps:List Str} {sp:Sp} (lk:K.lookup f=some ⟨oc,od,.func (PySem.W.fnOf name qual params body scope dV kV doc pm an cdv ct),osl⟩) (hcd:PySem.W.codeIn K cdv qual=true) (S:FnScope N ps scope)
 (len:∀ vs H Q E,sp vs H Q E→vs.length=ps.length)
 (hbody:∀ (A:Around) (outer:List Env) (s:Shared) (H:Hp) (vs:List V) (Q:VK) (E:XK),Room k (A.deeper (envOfC qual scope s.heap.objs.size f cdv))→sp vs H Q E →
  ∃ t,PSs (cxOf CX P w K mg base N qual scope f cdv A outer s H E) body t∧t { nx:=fun _ H'=>Q .non H',rt:=Q } (start N vs) H) :
 FnOk P w K mg base CX (k+1) f (PySem.W.fnOf name qual params body scope dV kV doc pm an cdv ct) ps sp:=by
 refine ⟨len,fun A outer s H args us vs Q E hr e0 hb r hsp => ?_⟩
 have hl:=len _ _ _ _ hsp
 have KX:K.In s.heap:=e0.mod.kin.keeps fun b o e=>(e0.bs b o e).1
 have lim:s.heap.NoLimit:=e0.mod.nolimit.keeps fun b o e=>(e0.bs b o e).1
 have hkind:∀ y∈ps.zip us,scope.names.lookup y.1=some .local∨(scope.names.lookup y.1=some .cell∧((cellsFrom (s.heap.objs.size+1) scope.names []).lookup y.1).isSome=true):=fun ⟨n,v⟩ hy=>by
  rcases S.par n (List.of_mem_zip hy).1 with q|q
  ·exact .inl q
  ·exact .inr ⟨q,PySem.W.cellsFrom_some _ _ _ (.inl q)⟩
 refine codeAny_call_function hr.depth (KX _ _ lk) rfl S.co S.gen rfl (PySem.W.codeRec_of KX hcd) (hb _ _ _ _ ?_)
 refine wpAny_newFunctionEnv_cells S.kind hkind fun env he s1 x => ?_
 subst he
 refine ⟨lim.keeps x.toInCall.keep,codeAny_func ?_⟩
 refine zc1b (hbody A outer s H vs Q E (hr.deeper _) hsp) fun t ht hq => ?_
 have I:Inv (cxOf CX P w K mg base N qual scope f cdv A outer s H E) [] (start N vs) H s1:=zf0 S hr.hd e0 hl r x
 refine wpAny_mono (ht [] s1 (start N vs) H _ I hq) (fun fl s' hs => ?_) fun e s' hs=>hs
 have fin:∀ {σ':St} {H':Hp} {v:V} {u:Value},Inv (cxOf CX P w K mg base N qual scope f cdv A outer s H E) [] σ' H' s'→RelV v u→Q v H'→CE outer P w H s Q u s' :=
  fun {σ' H' v u} J rv q=>⟨v,H',J.os,J.bare,J.base,J.hok,rv,q⟩
 cases fl with
 | ret u =>
  refine zc3c hs fun v σ' H' J rv q => ?_
  exact fin J rv q
 | next =>
  refine zc2b hs fun σ' H' J q => ?_
  exact fin (v:=V.non) (u:=Value.none) J rfl q
 | brk =>
  refine zc2b hs fun _ _ _ q => ?_
  exact False.elim q
 | cont =>
  refine zc2b hs fun _ _ _ q => ?_
  exact False.elim q
end L2
namespace L2
open PySem PySem.Spec PyProof.Rows
section
variable {X:Cx}{x:Str}{p pos:Pos}{e:Expr}{es:List Expr}{t:TA}{id T:String}{r:List V→Hp→VK→Prop}
noncomputable def tCB (r:List V→Hp→VK→Prop)(t:TA):TE:=fun σ H Q=>t σ H fun vs H1=>r vs H1 Q
theorem zgz (hc:zat X (.builtin id) r)(hg:Gl X x)(hm:X.mg x=none)(hv:bootBuiltins x=some (.builtin id))(ha:PA X (e::es) t)(hn:autoParam (x ≠ "__name__") zav._auto_1)(hdb:autoParam ((x == ("__debug__" : Str))=false) zav._auto_1)
 (he:autoParam (starEach (e::es) X.env=(false,eval e X.env)::starEach es X.env) zau._auto_1) (hpl:autoParam ((backTo pos (starEach es X.env)).any (·.1)=false) zau._auto_1):PE X (.Call (.Name x p) (e::es) [] pos) (tCB r t):=by
 intro pins s σ H Q I h
 refine wpAny_Call_Name_kw (zd8 I hg hm hv ?_ hn hdb)
 exact PyProof.Rows.callWith_builtin1 (thn (ha pos pins s σ H _ I h) (by rintro us s1 ⟨vs,H1,I1,r1,q1⟩;exact hc pins s1 σ H1 vs us Q I1 r1 q1)) he hpl
theorem zbQ (hc:zat X (.type T) r)(hg:Gl X x)(hm:X.mg x=none)(hv:bootBuiltins x=some (.type T))(ha:PA X (e::es) t)(hn:autoParam (x ≠ "__name__") zav._auto_1)(hdb:autoParam ((x == ("__debug__" : Str))=false) zav._auto_1)
 (he:autoParam (starEach (e::es) X.env=(false,eval e X.env)::starEach es X.env) zau._auto_1) (hpl:autoParam ((backTo pos (starEach es X.env)).any (·.1)=false) zau._auto_1):PE X (.Call (.Name x p) (e::es) [] pos) (tCB r t):=by
 intro pins s σ H Q I h
 refine wpAny_Call_Name_kw (zd8 I hg hm hv ?_ hn hdb)
 exact PyProof.Rows.callWith_type1 (thn (ha pos pins s σ H _ I h) (by rintro us s1 ⟨vs,H1,I1,r1,q1⟩;exact hc pins s1 σ H1 vs us Q I1 r1 q1)) he hpl
end
end L2
namespace HT
open PySem PyProof.Rows
section
open PySem.SeqAt
open PySem.AutoSeq1 (wpAny_loadPart')
open PySem.MeetsSeq PySem.MeetsSeq2 PySem.MeetsSeq3
end
section
variable {prog:Program}{w:World}{A:Around}{E:Value→Shared→Prop}{s:Shared}
theorem cat_tup {t b:Addr}{vs ws:List Value}{Q:Value→Shared→Prop}(ht:IsTup s.heap t vs.toArray)(hb:IsTup s.heap b ws.toArray)(hv:vs ≠ [])
 (h1:ws=[]→Q (.ref t) s) (h2:ws ≠ []→Q (.ref s.heap.objs.size) { s with heap:=s.heap.push { cls:=.type "tuple",data:=.seq (vs++ws).toArray } })
 (hsz:vs.length+ws.length≤sizeLine):wpAny (model prog w) A (binaryOp .Add (.ref t) (.ref b)) Q E s:=by
 refine zc1c (id ht) fun zr0 ho hc zz=>zc1a zz fun n hd => ?_
 obtain ⟨cls,dd,data,sl⟩:=zr0
 refine zc1c (id hb) fun zr0 ho2 hc2 zz=>zc1a zz fun n2 hd2 => ?_
 obtain ⟨cls2,dd2,data2,sl2⟩:=zr0
 simp -iota only at hc hd hc2 hd2
 subst hc hd hc2 hd2
 have e:vs.toArray++ws.toArray=(vs++ws).toArray:=by simp -iota
 by_cases hw:ws=[]
 ·exact concat_meets ⟨_,ho,rfl⟩ ⟨_,ho2,rfl⟩ noFill_tuple_add seq_tuple_add PySem.F.slot_tuple_add PySem.F.entry_tuple_add (PySem.F.args_tuple_add_2 _ _)
   (tuple_addW1 t b vs.toArray ws.toArray n n2 dd dd2 sl sl2 (by simpa -iota using hv) (by simp -iota [hw])) ⟨ho,ho2,h1 hw⟩
 ·refine concat_meets ⟨_,ho,rfl⟩ ⟨_,ho2,rfl⟩ noFill_tuple_add seq_tuple_add PySem.F.slot_tuple_add PySem.F.entry_tuple_add (PySem.F.args_tuple_add_2 _ _)
   (tuple_addW2 t b vs.toArray ws.toArray n n2 dd dd2 sl sl2 (by simpa -iota using hv) (by simpa -iota using hw) (by rw [List.size_toArray,List.size_toArray];exact hsz)) ⟨ho,ho2,?_⟩
  rw [e]
  exact h2 hw
end
end HT
namespace L2
open PySem PySem.Spec PyProof.Rows
abbrev TO:=St→Hp→(Option Int→Hp→Prop)→Prop
noncomputable def PO (X:Cx)(e:Option Expr)(t:TO):Prop :=
 ∀ (pins:List (Addr×Obj)) (s:Shared) (σ : St) (H:Hp) (Q:Option Int→Hp→Prop),Inv X pins σ H s→t σ H Q →
  wpAny (model X.prog X.w) X.A (evalPart e X.env) (fun u s' => ∃ o H',Inv X pins σ H' s'∧IsPart u o∧Q o H') X.xe s
noncomputable def ziu:TO:=fun _ H Q=>Q none H
noncomputable def tPart (t:TE):TO:=fun σ H Q=>t σ H fun x H1 => ∃ i,x=.int i∧Q (some i) H1
theorem zeu {ns:List Int}:∀ {us:List Value},Vals (ns.map V.int) us→IntsAre us ns:=by
 induction ns with
 | nil=>intro us r;rw [List.map_nil] at r;cases r;exact .nil
 | cons n ns ih =>
  intro us r
  rw [List.map_cons] at r
  cases r with
  | cons r1 r2 =>
   obtain ⟨t,e⟩:=r1
   subst e
   exact .cons n t (ih r2)
section
variable {X:Cx}{e:Expr}{te:TE}{lo hi:Option Expr}{tl th:TO}{pos p2:Pos}
theorem zhN:PO X none ziu:=by
 intro pins s σ H Q I h
 rw [evalPart_none]
 exact wpAny_pure ⟨none,H,I,.none,h⟩
theorem zid (h:PE X e te):PO X (some e) (tPart te):=by
 intro pins s σ H Q I hw
 rw [evalPart_some]
 refine thn (h pins s σ H _ I hw) fun u s1 zh => ?_
 refine zc2c zh fun x H1 I1 r1 q1 => ?_
 refine zc1b q1 fun i zr1 q => ?_
 obtain rfl:=zr1
 obtain ⟨t,rfl⟩:=r1
 exact ⟨some i,H1,I1,.int i t,q⟩
def rCatT (K:PySem.W.Frag):R2:=fun x y H Q => ∃ a b xs ys,x=.ref a∧y=.ref b∧SqT K H a xs∧SqT K H b ys∧xs ≠ []∧xs.length+ys.length≤sizeLine ∧
 (ys=[]→Q (.ref a) H)∧(ys ≠ []→∀ p,H p=none→Q (.ref p) (upd H p (.tup (xs++ys))))
theorem Vals.nil_iff {xs:List V}{us:List Value}(r:Vals xs us):us=[]↔xs=[]:=by
 cases r with
 | nil=>simp -iota
 | cons _ _=>simp -iota
theorem zhq:OpR X (binaryOp .Add) (rCatT X.K):=by
 intro pins s σ H x y v u Q I rx ry h
 refine zc4a h fun a b xs ys zz=>zc0e zz fun zr4 zr5 ha hb zz=>zc0d zz fun hx hz q1 q2 => ?_
 obtain rfl:=zr4
 obtain rfl:=zr5
 cases rx
 cases ry
 refine zc1c (I.tuple ha) fun its r1 p1 _ => ?_
 refine zc1c (I.tuple hb) fun its2 r2 p2 _ => ?_
 refine HT.cat_tup p1 p2 (fun z=>hx (r1.nil_iff.mp z)) (fun z=>⟨.ref a,H,I,rfl,q1 (r2.nil_iff.mp z)⟩) (fun z => ?_) (by rw [← r1.length,← r2.length];exact hz)
 refine ⟨.ref s.heap.objs.size,_,I.laid (t':=s.toks) (o:=.tup (xs++ys)) (fun b ob q=>Heap.get?_push_of_some _ q) (Nat.le_refl _) ?_,rfl,q2 (fun w=>z (r2.nil_iff.mpr w)) _ (I.hok.fresh (Nat.le_refl _))⟩
 exact ⟨⟨by rw [List.length_append];exact hz,⟨_,Heap.get?_push_size _ rfl,rfl⟩⟩,_,r1.append r2,IsTup.new _ _⟩
end
end L2
namespace L2
open PySem PySem.Spec PyProof.Rows
noncomputable def ixN (n:Nat)(i:Int):Option Nat:=if 0≤i then (if i<n then some i.toNat else none) else if -(n:Int)≤i then some (i+n).toNat else none
def atI {α : Type}(xs:List α)(i:Int):Option α := (ixN xs.length i).bind fun j=>xs[j]?
theorem zik {n:Nat}{i:Int}{j:Nat}(h:ixN n i=some j):seqIndex? i n=some j∧j<n ∧ -(n:Int)≤i∧i<n:=by
 unfold ixN at h
 by_cases h0:0≤i
 ·rw [if_pos h0] at h
  by_cases h1:i<n
  ·rw [if_pos h1] at h
   have e:i.toNat=j:=Option.some.inj h
   exact ⟨by rw [seqIndex_of h0 h1,e],by omega,by omega,h1⟩
  ·rw [if_neg h1] at h;cases h
 ·rw [if_neg h0] at h
  by_cases h1 : -(n:Int)≤i
  ·rw [if_pos h1] at h
   have e:(i+n).toNat=j:=Option.some.inj h
   exact ⟨by rw [seqIndex_neg (by omega) h1,e],by omega,h1,by omega⟩
  ·rw [if_neg h1] at h;cases h
theorem zd3 {α : Type}{xs:List α}{i:Int}{v : α}(h:atI xs i=some v):∃ j,seqIndex? i xs.length=some j∧xs[j]? = some v∧j<xs.length ∧ -(xs.length:Int)≤i∧i<xs.length:=by
 unfold atI at h
 cases e:ixN xs.length i with
 | none=>rw [e] at h;cases h
 | some j =>
  rw [e] at h
  refine zc0d (zik e) fun h1 h2 h3 h4 => ?_
  exact ⟨j,h1,h,h2,h3,h4⟩
noncomputable def zdz (b:Expr):Prop:=∀ o i,subscripted b false o i=operate [o,i] (getItem o i)
def IxR (X:Cx)(r:R2):Prop :=
 ∀ (value slice:Expr) (pins:List (Addr×Obj)) (s:Shared) (σ : St) (H:Hp) (x y:V) (v u:Value) (Q:VK),Inv X pins σ H s→RelV x v→RelV y u→r x y H Q →
  subscripted slice false v u=operate [v,u] (getItem v u)→wpAny (model X.prog X.w) X.A (subscriptTail value slice v u) (EP X pins σ Q) X.xe s
def MtR (X:Cx)(id:String)(r:V→List V→Hp→VK→Prop):Prop :=
 ∀ (pins:List (Addr×Obj)) (s:Shared) (σ : St) (H:Hp) (x:V) (xs:List V) (v:Value) (us:List Value) (Q:VK),Inv X pins σ H s→RelV x v→Vals xs us→r x xs H Q →
  wpAny (model X.prog X.w) X.A (call (.builtin id) (v::us)) (EP X pins σ Q) X.xe s
section
variable {X:Cx}{a b:Expr}{ta tb:TE}{pos:Pos}
theorem IxR.or {r r':R2}(h:IxR X r)(h':IxR X r'):IxR X (fun x y H Q=>r x y H Q∨r' x y H Q):=by
 intro value slice pins s σ H x y v u Q I rx ry q hs
 rcases q with q|q
 ·exact h value slice pins s σ H x y v u Q I rx ry q hs
 ·exact h' value slice pins s σ H x y v u Q I rx ry q hs
theorem zjy {r:R2}(hr:IxR X r)(ha:PE X a ta)(hb:PE X b tb)(hs:zdz b):PE X (.Subscript a b pos) (tOp r ta tb):=by
 intro pins s σ H Q I h
 exact Subscript_ (binT ha hb I h fun v u s2 x y H2 I2 rx ry q=>hr a b pins s2 σ H2 x y v u Q I2 rx ry q (hs _ _))
def rIxL (K:PySem.W.Frag):R2:=fun x y H Q => ∃ p xs i v,x=.ref p∧y=.int i∧SqL K H p xs∧atI xs i=some v∧Q v H
def rIxT (K:PySem.W.Frag):R2:=fun x y H Q => ∃ p xs i v,x=.ref p∧y=.int i∧SqT K H p xs∧atI xs i=some v∧Q v H
def rIxS:R2:=fun x y H Q => ∃ z i c,x=.str z∧y=.int i∧z.length≤sizeLine∧atI z.cps.toList i=some c∧Q (.str ⟨#[c]⟩) H
theorem zeL:IxR X (rIxL X.K):=by
 intro value slice pins s σ H x y v u Q I rx ry h hs
 refine zc4a h fun p xs i z zz=>zc0e zz fun zr4 zr5 hq he q => ?_
 obtain rfl:=zr4
 obtain rfl:=zr5
 cases rx
 obtain ⟨t,rfl⟩:=ry
 refine zc1c (I.list hq) fun its r pl hz => ?_
 refine zc1e (zd3 he) fun j h1 h2 h3 h4 h5 => ?_
 refine zc1b (r.get h2) fun w ew rw' => ?_
 have hl:=r.length
 have hn:=zcZ
 have fin:EP X pins σ Q w s:=⟨z,H,I,rw',q⟩
 by_cases h0:0≤i
 ·have hj:i.toNat=j:=by
   rw [seqIndex_of h0 h5] at h1
   exact Option.some.inj h1
  exact item_listR pl.isList h0 (by omega) (by rw [hj];simpa -iota using ew) fin hs
 ·have hj:(i+(its.toArray.size:Int)).toNat=j:=by
   rw [seqIndex_neg (by omega) h4] at h1
   rw [List.size_toArray,← hl]
   exact Option.some.inj h1
  exact subscriptTail_builtinR (x:=w) pl.isList.typeIs slot_list_getitem.lookup
   (wpAny_getItem_list_neg (Q:=fun r s'=>r=w∧EP X pins σ Q r s') pl.isList (by omega) (by rw [List.size_toArray]<;>omega) (by omega) (by rw [hj];simpa -iota using ew) ⟨rfl,fin⟩) hs
theorem zjU:IxR X (rIxT X.K):=by
 intro value slice pins s σ H x y v u Q I rx ry h hs
 refine zc4a h fun p xs i z zz=>zc0e zz fun zr4 zr5 hq he q => ?_
 obtain rfl:=zr4
 obtain rfl:=zr5
 cases rx
 obtain ⟨t,rfl⟩:=ry
 refine zc1c (I.tuple hq) fun its r pl hz => ?_
 refine zc1e (zd3 he) fun j h1 h2 h3 h4 h5 => ?_
 refine zc1b (r.get h2) fun w ew rw' => ?_
 have hl:=r.length
 have hn:=zcZ
 have fin:EP X pins σ Q w s:=⟨z,H,I,rw',q⟩
 exact subscriptTail_builtinR (x:=w) pl.typeIs slot_tuple_getitem.lookup
  (getItem_tuple (j:=j) (Q:=fun r s'=>r=w∧EP X pins σ Q r s') pl (by omega) (by omega) (by rw [List.size_toArray,← hl];exact h1) (by simpa -iota using ew) ⟨rfl,fin⟩) hs
theorem zjH:IxR X rIxS:=by
 intro value slice pins s σ H x y v u Q I rx ry h hs
 refine zc3a h fun z i c zz=>zc0e zz fun zr3 zr4 hz he q => ?_
 obtain rfl:=zr3
 obtain rfl:=zr4
 obtain ⟨t,rfl⟩:=rx
 obtain ⟨t',rfl⟩:=ry
 refine zc1e (zd3 he) fun j h1 h2 h3 h4 h5 => ?_
 have hl:z.cps.toList.length=z.length:=by simp -iota [Str.length]
 rw [hl] at h1 h4 h5
 have hn:=zcZ
 exact tail_any (typeIs_str s z t) slot_str_getitem.lookup (getItem_str (c:=c) (by
  have e1:decide (i < -(2 ^ 63:Int))=false:=decide_eq_false (by omega)
  have e2:decide (i ≥ 2 ^ 63)=false:=decide_eq_false (by omega)
  rw [e1,e2,Bool.or_false]) (by rw [h1];simpa -iota using h2) ⟨.str ⟨#[c]⟩,H,I.tok _,⟨_,rfl⟩,q⟩) hs
def rIx (K:PySem.W.Frag):R2:=fun x y H Q=>rIxL K x y H Q∨rIxT K x y H Q∨rIxS x y H Q
theorem ziX:IxR X (rIx X.K):=zeL.or (zjU.or zjH)
theorem zcV:zat X (.builtin "len") (fun xs H Q => ∃ p ys,xs=[.ref p]∧(SqL X.K H p ys∨SqT X.K H p ys)∧Q (.int ys.length) H):=by
 intro pins s σ H xs us Q I r h
 refine zc2c h fun p ys zr2 hq q => ?_
 obtain rfl:=zr2
 refine zc1b (zd1 r) fun u zr1 rx => ?_
 obtain rfl:=zr1
 cases rx
 have hn:=zcZ
 rcases hq with hq|hq
 ·refine zc1c (I.list hq) fun its r' pl hz => ?_
  have hlen:=r'.length
  exact Calls.call_len_list pl.isList (by simp -iota only [List.size_toArray]<;>omega) ⟨.int ys.length,H,I.tok _,⟨s.toks+1,by rw [List.size_toArray,hlen]⟩,q⟩
 ·refine zc1c (I.tuple hq) fun its r' pl hz => ?_
  have hlen:=r'.length
  exact len_tuple pl (by simp -iota only [List.size_toArray]<;>omega) ⟨.int ys.length,H,I.tok _,⟨s.toks+1,by rw [List.size_toArray,hlen]⟩,q⟩
theorem zcJ:zat X (.builtin "len") (fun xs H Q => ∃ z,xs=[.str z]∧z.length≤sizeLine∧Q (.int z.length) H):=by
 intro pins s σ H xs us Q I r h
 obtain ⟨z,rfl,hz,q⟩:=h
 obtain ⟨u,rfl,t,rfl⟩:=zd1 r
 have hn:=zcZ
 exact len_str (by omega) ⟨.int z.length,H,I.tok _,⟨_,rfl⟩,q⟩
theorem zat.or {f:Value}{r r':List V→Hp→VK→Prop}(h:zat X f r)(h':zat X f r'):zat X f (fun xs H Q=>r xs H Q∨r' xs H Q):=by
 intro pins s σ H xs us Q I rs q
 rcases q with q|q
 ·exact h pins s σ H xs us Q I rs q
 ·exact h' pins s σ H xs us Q I rs q
theorem zbD:zat X (.type "list") (fun xs H Q => ∃ p ys,xs=[.ref p]∧(SqL X.K H p ys∨SqT X.K H p ys)∧∀ l,H l=none→Q (.ref l) (upd H l (.lst ys))):=by
 intro pins s σ H xs us Q I r h
 refine zc2c h fun p ys zr2 hq q => ?_
 obtain rfl:=zr2
 refine zc1b (zd1 r) fun u zr1 rx => ?_
 obtain rfl:=zr1
 cases rx
 have fin:∀ (its:List Value),Vals ys its→ys.length≤sizeLine→∀ (h':Heap) (c':Nat),(∀ b o',s.heap.get? b=some o'→h'.get? b=some o') →
  h'.get? s.heap.objs.size=some { cls:=.type "list",dict:=none,data:=.seq its.toArray c',slots:=#[] }→EP X pins σ Q (.ref s.heap.objs.size) { s with heap:=h' }:=fun its r' hz h' c' kp e =>
  ⟨.ref s.heap.objs.size,_,I.laid (t':=s.toks) kp (Nat.le_refl _) (show za4 X.prog X.w _ h' _ (.lst ys) from ⟨hz,its,c',r',e⟩),rfl,q _ (I.hok.fresh (Nat.le_refl _))⟩
 rcases hq with hq|hq
 ·refine zc1c (I.list hq) fun its r' pl hz => ?_
  have hlen:=r'.length
  refine zc1c pl.isList fun o ho hc zz=>zc1a zz fun n hd => ?_
  exact call_list_seq p (.inl rfl) ho hc hd (fun h' c' kp e=>fin its r' hz h' c' kp e) (by simp -iota only [List.size_toArray]<;>omega)
 ·refine zc1c (I.tuple hq) fun its r' pl hz => ?_
  have hlen:=r'.length
  refine zc1c pl fun o ho hc zz=>zc1a zz fun n hd => ?_
  exact call_list_seq p (.inr rfl) ho hc hd (fun h' c' kp e=>fin its r' hz h' c' kp e) (by simp -iota only [List.size_toArray]<;>omega)
theorem zcF:zat X (.type "tuple") (fun xs H Q => ∃ p ys,xs=[.ref p]∧((SqL X.K H p ys∧∀ l,H l=none→Q (.ref l) (upd H l (.tup ys)))∨(SqT X.K H p ys∧Q (.ref p) H))):=by
 intro pins s σ H xs us Q I r h
 obtain ⟨p,ys,rfl,h⟩:=h
 obtain ⟨u,rfl,rx⟩:=zd1 r
 cases rx
 rcases h with ⟨hq,q⟩|⟨hq,q⟩
 ·obtain ⟨its,r',pl,hz⟩:=I.list hq
  have hlen:=r'.length
  refine call_tuple_list pl.isList (fun h' kp => ?_) (by simp -iota only [List.size_toArray]<;>omega)
  have I1:Inv X pins σ H { s with heap:=h' }:=I.kept (t':=s.toks) kp
  have I2:Inv X pins σ (upd H h'.objs.size (.tup ys)) { s with heap:=h'.push { cls:=.type "tuple",data:=.seq its.toArray } } :=
   I1.laid (t':=s.toks) (fun b o e=>Heap.get?_push_of_some _ e) (Nat.le_refl _) (show za4 X.prog X.w _ _ _ (.tup ys) from ⟨⟨hz,⟨_,Heap.get?_push_size _ rfl,rfl⟩⟩,its,r',IsTup.new _ _⟩)
  exact ⟨.ref h'.objs.size,_,I2,rfl,q _ (I1.hok.fresh (Nat.le_refl _))⟩
 ·obtain ⟨its,r',pl,hz⟩:=I.tuple hq
  exact call_tuple_same pl ⟨.ref p,H,I,rfl,q⟩
def tyV (K:PySem.W.Frag)(T:String)(x:V)(H:Hp):Prop:=match x with
 | .str _=>T = "str"
 | .int _=>T = "int"
 | .ref p=>(T = "list" ∧ ∃ xs,SqL K H p xs)∨(T = "tuple" ∧ ∃ o,K.lookup p=some o∧o.cls=.type "tuple" ∧ o.dict=none) ∨
  (T = "dict" ∧ ((∃ kvs,H p=some (.dK kvs))∨∃ kvs,H p=some (.dT kvs)))∨(T = "set" ∧ ∃ S n,H p=some (.set S n))
 | _=>False
theorem zjl {pins:List (Addr×Obj)}{σ : St}{H:Hp}{s:Shared}{T:String}{x:V}{v:Value}(I:Inv X pins σ H s)(r:RelV x v)(ty:tyV X.K T x H) :
 s.TypeIs v T∧∀ a,v=.ref a→∃ ob,s.heap.get? a=some ob∧ob.dict=none:=by
 cases x with
 | str z =>
  obtain ⟨t,rfl⟩:=r
  cases (show T = "str" from ty)
  exact ⟨typeIs_str s z t,fun _ e=>nomatch e⟩
 | int i =>
  obtain ⟨t,rfl⟩:=r
  cases (show T = "int" from ty)
  exact ⟨typeIs_int s i t,fun _ e=>nomatch e⟩
 | ref p =>
  cases r
  rcases ty with ⟨rfl,xs,hq⟩|⟨rfl,o,hk,hc,hd⟩|⟨rfl,hk⟩|⟨rfl,S,n,hk⟩
  ·refine zc1c (I.list hq) fun its _ pl _ => ?_
   refine ⟨pl.isList.typeIs,fun a e => ?_⟩
   cases e
   refine zc2d pl fun o n e c hd _ => ?_
   exact ⟨o,e,hd⟩
  ·refine ⟨⟨o,I.kIn p o hk,hc⟩,fun a e => ?_⟩
   cases e
   exact ⟨o,I.kIn _ o hk,hd⟩
  ·have z:∃ o,s.heap.get? p=some o∧o.ExactDict:=by
    rcases hk with ⟨kvs,hk⟩|⟨kvs,hk⟩
    ·refine zc0c (I.hok p _ hk) fun _ _ zz=>zc1b zz fun _ _ zz=>zc3c zz fun o _ _ e ex _ => ?_
     exact ⟨o,e,ex⟩
    ·refine zc0c (I.hok p _ hk) fun _ _ zz=>zc1b zz fun _ _ zz=>zc3c zz fun o _ _ e ex _ => ?_
     exact ⟨o,e,ex⟩
   refine zc1b z fun o e ex => ?_
   refine ⟨⟨o,e,ex.1⟩,fun a e2 => ?_⟩
   cases e2
   exact ⟨o,e,ex.2.1⟩
  ·refine zc4a (I.hok p _ hk) fun o _ _ _ zz=>zc0c zz fun e ex _ => ?_
   refine ⟨⟨o,e,ex.1⟩,fun a e2 => ?_⟩
   cases e2
   exact ⟨o,e,ex.2.1⟩
 | _=>exact False.elim ty
def tBM (K:PySem.W.Frag)(T:String)(r:V→List V→Hp→VK→Prop)(to:TE)(t:TA):TE:=fun σ H Q=>to σ H fun x H1=>tyV K T x H1∧t σ H1 fun xs H2=>r x xs H2 Q
variable {o e:Expr}{es:List Expr}{to:TE}{t:TA}{name:Str}{apos cpos:Pos}{T id:String}{r:V→List V→Hp→VK→Prop}
theorem zcN (pa:PlainAttrs T)(slot:Slot T name id)(hty:typeOf (.builtin id)=pure (.type "method_descriptor"))(hm:MtR X id r)(ho:PE X o to)(ha:PA X (e::es) t)
 (hbase:autoParam (attributeBase o name X.env (eval o X.env)=eval o X.env) zau._auto_1)
 (hfew:((backTo cpos (starEach (e::es) X.env)).all (fun x => !x.1)&&(backToKw cpos (keywordEach [] X.env)).all (fun x=>x.1.isSome)
  && decide ((e::es).length+([]:List Keyword).length+(if ([]:List Keyword).isEmpty then 0 else 1)<30))=true:=by rfl)
 (hline:autoParam ((apos.endLine == cpos.line)=true) zau._auto_1) (hs:autoParam (starEach (e::es) X.env=(false,eval e X.env)::starEach es X.env) zau._auto_1) (hplain:autoParam ((backTo cpos (starEach es X.env)).any (·.1)=false) zau._auto_1) :
 PE X (.Call (.Attribute o name apos) (e::es) [] cpos) (tBM X.K T r to t):=by
 intro pins s σ H Q I h
 refine wpAny_Call_method_late hbase hfew hline rfl (thn (ho pins s σ H _ I h) fun v s1 zh => ?_)
 refine zc2d zh fun x H1 I1 r1 ty q1 => ?_
 obtain ⟨h1,h2⟩:=zjl I1 r1 ty
 refine ⟨T,id,pa,slot,hty,h1,h2,?_⟩
 have hA:=ha cpos pins s1 σ H1 _ I1 q1
 rw [hs] at hA ⊢
 refine Calls.callWith_builtin (by show (false||(backTo cpos (starEach es X.env)).any (·.1))=false;rw [hplain]<;>rfl) (Calls.evalArgs_plain ?_)
 exact thn hA (by rintro us s2 ⟨vs,H2,I2,r2,q2⟩;exact hm pins s2 σ H2 x vs v us Q I2 r1 r2 q2)
end
end L2
namespace L2
open PySem PySem.Spec PyProof.Rows
def MtM (X:Cx)(id:String)(r:V→List V→Hp→VK→Prop):Prop :=
 ∀ (pins:List (Addr×Obj)) (s:Shared) (σ : St) (H:Hp) (x:V) (xs:List V) (v:Value) (us:List Value) (Q:VK),Inv X pins σ H s→RelV x v→Vals xs us→r x xs H Q →
  wpAny (model X.prog X.w) X.A (call (.builtin id) (v::us)) (EP X pins σ Q) X.xe s
theorem Vals.one:∀ {x:V} {us:List Value},Vals [x] us→∃ u,us=[u]∧RelV x u:=fun h=>by
 cases h with
 | cons r t=>cases t;exact ⟨_,rfl,r⟩
theorem Vals.two:∀ {x y:V} {us:List Value},Vals [x,y] us→∃ u v,us=[u,v]∧RelV x u∧RelV y v:=fun h=>by
 cases h with
 | cons r t =>
  cases t with
  | cons r' t=>cases t;exact ⟨_,_,rfl,r,r'⟩
section
variable {X:Cx}{pins:List (Addr×Obj)}{σ : St}{H:Hp}{s:Shared}{l b:Addr}{xs ys zs:List V}
theorem Inv.lset {its its':List Value}{n:Nat}{f:Array Value→Array Value}{t':Nat}(I:Inv X pins σ H s)(hH:H l=some (.lst xs))
 (e:s.heap.get? l=some { cls:=.type "list",data:=.seq its.toArray n }) (hf:f its.toArray=its'.toArray) (hv:Vals ys its') (hz:ys.length≤sizeLine) :
 Inv X pins σ (upd H l (.lst ys)) { s with heap:=s.heap.update l (Obj.mapSeq f),toks:=t' }:=by
 have q:=PySem.IsL.update e f
 rw [hf] at q
 refine I.write (x:=l) (e:=l) (by rw [hH];exact trivial) (.inl rfl) (fun b' u hb hu=>(Heap.get?_update_other s.heap (Obj.mapSeq f) (Ne.symm hb)).trans hu) ⟨_,q⟩ ?_
 exact ⟨hz,its',_,hv,q⟩
theorem Inv.lnew {its:List Value}{t':Nat}(I:Inv X pins σ H s)(hv:Vals ys its)(hz:ys.length≤sizeLine) :
 Inv X pins σ (upd H s.heap.objs.size (.lst ys)) { s with heap:=s.heap.push { cls:=.type "list",data:=.seq its.toArray },toks:=t' } :=
 I.laid (fun _ _ q=>Heap.get?_push_of_some _ q) (Nat.le_refl _) ⟨hz,its,0,hv,Heap.get?_push_size _ rfl⟩
theorem Inv.fresh (I:Inv X pins σ H s):H s.heap.objs.size=none:=I.hok.fresh (Nat.le_refl _)
theorem Inv.lstM (I:Inv X pins σ H s)(hH:H l=some (.lst xs)):xs.length≤sizeLine∧∃ (its:List Value) (n:Nat),Vals xs its∧xs.length=its.length∧s.heap.get? l=some { cls:=.type "list",data:=.seq its.toArray n }:=by
 refine zc0b (I.hok l _ hH) fun z zz=>zc2b zz fun its n r e => ?_
 exact ⟨z,its,n,r,r.length,e⟩
end
section
variable {X:Cx}
def zcD:V→List V→Hp→VK→Prop:=fun x vs H Q => ∃ l xs y,x=.ref l∧vs=[y]∧H l=some (.lst xs)∧xs.length<sizeLine∧Q .non (upd H l (.lst (xs++[y])))
theorem zaI:MtM X "list.append" zcD:=by
 intro pins s σ H x vs v us Q I rx rv h
 obtain ⟨l,xs,y,rfl,rfl,hH,hz,q⟩:=h
 cases rx
 obtain ⟨u,rfl,ru⟩:=rv.one
 obtain ⟨z,its,n,r,hl,e⟩:=I.lstM hH
 refine call_meets F.slot_list_append ⟨_,e,rfl⟩ F.entry_list_append (F.args_list_append_2 _ _) (PySem.list_append l its.toArray n u (by rw [List.size_toArray];omega)) ⟨e,?_⟩
 refine ⟨.non,_,I.lset (its':=its++[u]) hH e (by simp -iota) (r.append (.cons ru .nil)) ?_,rfl,q⟩
 rw [List.length_append,List.length_singleton]
 omega
end
section
variable {prog:Program}{w:World}{A:Around}{E:Value→Shared→Prop}{s:Shared}
set_option maxRecDepth 100000 in
end
end L2
namespace L2
open PySem PySem.Spec PyProof.Rows
section
variable {κ : Type}[DecidableEq κ]
noncomputable def valV (kvs:List (κ × V))(k : κ):Option V:=(kvs.find? fun kv=>decide (kv.1=k)).map (·.2)
theorem zdE {p : κ × V}{r:List (κ × V)}{k : κ}(e:p.1=k):valV (p::r) k=some p.2:=by simp -iota [valV,List.find?_cons,e]
theorem zdH {p : κ × V}{r:List (κ × V)}{k : κ}(e:¬ p.1=k):valV (p::r) k=valV r k:=by simp -iota [valV,List.find?_cons,e]
theorem RelO.isSome_eq {o:Option V}{u:Option Value}(r:RelO o u):o.isSome=u.isSome:=by
 cases o with
 | none=>cases u with
  | none=>rfl
  | some _=>exact (show False from r).elim
 | some _=>cases u with
  | none=>exact (show False from r).elim
  | some _=>rfl
theorem KV.val {kvs:List (κ × V)}{vs:List (κ × Value)}(r:KV kvs vs)(k : κ):RelO (valV kvs k) (valueAt vs k):=by
 unfold KV at r
 induction r with
 | nil=>exact True.intro
 | @cons p q ps qs h t ih =>
  obtain ⟨h1,h2⟩:=h
  by_cases e:p.1=k
  ·have e':q.1=k:=h1.symm.trans e
   have b:valueAt (q::qs) k=some q.2:=by simp -iota [valueAt,List.find?_cons,e']
   rw [zdE e,b];exact h2
  ·have e':¬ q.1=k:=fun z=>e (h1.trans z)
   have b:valueAt (q::qs) k=valueAt qs k:=by simp -iota [valueAt,List.find?_cons,e']
   rw [zdH e,b];exact ih
theorem KV.length {kvs:List (κ × V)}{vs:List (κ × Value)}(r:KV kvs vs):kvs.length=vs.length:=Paired.length r
end
theorem zhR {P:Program}{w:World}{k:Key}{u:Value}(r:RelV (kV k) u):(zaW P w).is k u=true:=by
 cases k with
 | inl i=>obtain ⟨t,e⟩:=(show ∃ t,u=Value.int i t from r);subst e;exact zdt P w i t
 | inr x=>obtain ⟨t,e⟩:=(show ∃ t,u=Value.str x t from r);subst e;exact zd7 P w x t
theorem zcL {P:Program}{w:World}:∀ {ks:List Key} {us:List Value},Vals (ks.map kV) us→ItemsAre (zaW P w) ks us
 | [],_,r=>by rw [List.map_nil] at r;cases r;exact .nil
 | k::ks,_,r=>by
  rw [List.map_cons] at r
  cases r with
  | cons h t=>exact .cons (zhR h) (zcL t)
abbrev KT (H:Hp):List (List Key×V)→List (List Key×Addr×Value)→Prop:=Paired fun p q=>p.1=q.1∧H q.2.1=some (.tup (p.1.map kV))∧RelV p.2 q.2.2
theorem KT.val {H:Hp}{kvs:List (List Key×V)}{xs:List (List Key×Addr×Value)}(r:KT H kvs xs)(k:List Key):RelO (valV kvs k) ((atKey xs k).map (·.2)):=by
 induction r with
 | nil=>exact True.intro
 | @cons p q ps qs h t ih =>
  refine zc0c h fun h1 _ h2 => ?_
  by_cases e:p.1=k
  ·have e':q.1=k:=h1.symm.trans e
   have b:atKey (q::qs) k=some q.2:=by simp -iota [atKey,List.find?_cons,e']
   rw [zdE e,b];exact h2
  ·have e':¬ q.1=k:=fun z=>e (h1.trans z)
   have b:atKey (q::qs) k=atKey qs k:=by simp -iota [atKey,List.find?_cons,e']
   rw [zdH e,b];exact ih
section
variable {P:Program}{w:World}{H:Hp}{h:Heap}{a:Addr}
theorem zjS {u:HO}(ok:HOk P w H h)(e:Rd H a u):za4 P w H h a u:=e.ok ok
theorem zgw {kvs:List (Key×V)}(ok:HOk P w H h)(e:Rd H a (.dK kvs)):kvs.length≤sizeLine∧(a == sysModules)=false∧∃ vs,KV kvs vs∧h.DictOf (zaW P w) a vs :=
 show za4 P w H h a (.dK kvs) from zjS ok e
theorem zfp {ks:List Key}(ok:HOk P w H h)(e:H a=some (.tup (ks.map kV))):(tupleKind (zaW P w)).is h ks a:=by
 refine zc0b ((show za4 P w H h a (.tup (ks.map kV)) from ok a _ e)) fun _ zz=>zc1b zz fun its r zz=>zc1c zz fun o h1 h2 zz=>zc1a zz fun n h3 => ?_
 exact ⟨o,its.toArray,n,h1,h2,h3,by simpa -iota using zcL r⟩
theorem zix {kvs:List (List Key×V)}(ok:HOk P w H h)(e:Rd H a (.dT kvs)):kvs.length≤sizeLine∧(a == sysModules)=false ∧
 ∃ xs,KT H kvs xs∧h.DictOfH (tupleKind (zaW P w)) a xs:=by
 refine zc0c ((show za4 P w H h a (.dT kvs) from zjS ok e)) fun z y zz=>zc1b zz fun xs r zz=>zc3a zz fun o es ep zz=>zc0e zz fun h1 h2 h3 h4 h5 => ?_
 refine ⟨z,y,xs,r,o,es,ep,h1,h2,h3,h4,fun x hx => ?_,h5⟩
 have all:∀ {l:List (List Key×V)} {m:List (List Key×Addr×Value)},KT H l m→∀ x∈m,(tupleKind (zaW P w)).is h x.1 x.2.1:=by
  intro l m q
  induction q with
  | nil=>intro x hx;exact nomatch hx
  | @cons p q ps qs hq t ih =>
   intro x hx
   rcases List.mem_cons.mp hx with e|hx
   ·subst e
    exact zfp ok (by rw [← hq.1];exact hq.2.1)
   ·exact ih x hx
 exact all r x hx
end
def DGet (H:Hp)(a:Addr)(y:V)(r:Option V):Prop :=
 (∃ kvs k,Rd H a (.dK kvs)∧y=kV k∧r=valV kvs k)∨∃ kvs k b,Rd H a (.dT kvs)∧y=.ref b∧H b=some (.tup (k.map kV))∧r=valV kvs k
theorem DGet.k {H:Hp}{a:Addr}{kvs:List (Key×V)}{k:Key}(e:H a=some (.dK kvs)):DGet H a (kV k) (valV kvs k):=.inl ⟨kvs,k,.inl e,rfl,rfl⟩
section
variable {X:Cx}{pins:List (Addr×Obj)}{σ : St}{H:Hp}{s:Shared}{a:Addr}{y v:V}{u r:Value}{o:Option V}{A:Around}{E:Value→Shared→Prop}
theorem zeO {Q:Value→Shared→Prop}(hu:A.units+1<cLine)(I:Inv X pins σ H s)(g:DGet H a y (some v))(ry:RelV y u)(h:∀ w' s',Inv X pins σ H s'→RelV v w'→Q w' s') :
 wpAny (model X.prog X.w) A (getItem (.ref a) u) Q E s:=by
 rcases g with ⟨kvs,k,e,ey,l⟩|⟨kvs,k,b,e,ey,eb,l⟩
 ·subst ey
  refine zc0c (zgw I.hok e) fun z hd zz=>zc1b zz fun vs rel dd => ?_
  refine zc1b (RelO.some_of (v:=v) (o:=valueAt vs k) (by rw [l];exact rel.val k)) fun w' hw rw' => ?_
  exact wpAny_getItem_of (zhR ry) dd.mapOf hw (h w' _ (I.tok _) rw')
 ·subst ey
  cases (show u=Value.ref b from ry)
  refine zc0c (zix I.hok e) fun z hd zz=>zc1b zz fun xs rel dd => ?_
  refine zc1b (RelO.some_of (v:=v) (o:=(atKey xs k).map (·.2)) (by rw [l];exact rel.val k)) fun w' hw rw' => ?_
  refine zc1b (Option.map_eq_some_iff.mp hw) fun p hp hp2 => ?_
  refine wpAny_getItem_heap (tupleKind_room_in1 hu) (zfp I.hok eb) dd hp ?_
  rw [hp2]
  exact h w' _ (I.tok _) rw'
theorem zh6 {Q:Value→Shared→Prop}(hu:A.units+1<cLine)(I:Inv X pins σ H s)(g:DGet H a y o)(ry:RelV y u)(h:∀ s',Inv X pins σ H s'→Q (.bool (!o.isSome)) s') :
 wpAny (model X.prog X.w) A (compareOp .NotIn u (.ref a)) Q E s:=by
 rcases g with ⟨kvs,k,e,ey,l⟩|⟨kvs,k,b,e,ey,eb,l⟩
 ·subst ey
  refine zc0c (zgw I.hok e) fun z hd zz=>zc1b zz fun vs rel dd => ?_
  refine wpAny_notIn_of (zhR ry) hd dd.mapOf ?_
  rw [← (rel.val k).isSome_eq,← l]
  exact h _ (I.tok _)
 ·subst ey
  cases (show u=Value.ref b from ry)
  refine zc0c (zix I.hok e) fun z hd zz=>zc1b zz fun xs rel dd => ?_
  refine wpAny_notIn_heap (tupleKind_room_in1 hu) (zfp I.hok eb) hd dd ?_
  have q:=(rel.val k).isSome_eq
  rw [Option.isSome_map] at q
  rw [← q,← l]
  exact h _ (I.tok _)
end
section
variable {X:Cx}{pins:List (Addr×Obj)}{σ : St}{H:Hp}{s:Shared}{a:Addr}{kvs:List (Key×V)}{k:Key}{u:Value}{A:Around}{E:Value→Shared→Prop}
theorem d_len {Q:Value→Shared→Prop}(I:Inv X pins σ H s)(e:Rd H a (.dK kvs))(h:∀ t s',Inv X pins σ H s'→Q (.int kvs.length t) s'):wpAny (model X.prog X.w) A (call (.builtin "len") [.ref a]) Q E s:=by
 obtain ⟨z,hd,vs,rel,dd⟩:=zgw I.hok e
 refine call_len_dict hd dd (by rw [← rel.length];rw [sizeLine_eq] at z;omega) ?_
 rw [← rel.length]
 exact h _ _ (I.tok _)
end
noncomputable def NoSl (i:Expr):Prop:=∀ ov iv,subscripted i false ov iv=operate [ov,iv] (getItem ov iv)
theorem zim {prog:Program}{w:World}{A:Around}{E:Value→Shared→Prop}{s:Shared}{env:Env}{value slice:Expr}{pos:Pos}{T id:String}{Q:Value→Shared→Prop}
 (hl:typeLookup (.type T) "__getitem__" = pure (some (.builtin id))) (hs:NoSl slice)
 (h:wpAny (model prog w) A (eval value env) (fun o s₁=>wpAny (model prog w) A (eval slice env) (fun i s₂=>s₂.TypeIs o T∧wpAny (model prog w) A (getItem o i) Q E s₂) E s₁) E s) :
 wpAny (model prog w) A (eval (.Subscript value slice pos) env) Q E s:=by
 refine Subscript_ (wpAny_mono h (fun o s₁ h₁=>wpAny_mono h₁ (fun i s₂ h₂ => ?_) fun _ _ x=>x) fun _ _ x=>x)
 obtain ⟨hT,h₂⟩:=h₂
 unfold subscriptTail
 refine wpAny_bind ?_
 rw [getitemInPython_of_ne hT.not_modules]
 refine wpAny_bind (wpAny_specialOf hT hl ?_)
 have fin:wpAny (model prog w) A (subscripted slice false o i) (fun r s₃=>wpAny (model prog w) A (letTemporaryGo value o r >>= fun _=>pure r) Q E s₃) E s₂:=by
  rw [hs o i]
  exact wpAny_operating (wpAny_mono h₂ (fun r s₃ h₃=>wpAny_bind (wpAny_letTemporaryGo (wpAny_pure h₃))) fun _ _ x=>x)
 first
  | exact wpAny_pure (wpAny_bind fin)
  | exact wpAny_bind (wpAny_pure (wpAny_bind fin))
  | exact wpAny_bind fin
theorem zdl {X:Cx}{pins:List (Addr×Obj)}{σ : St}{H:Hp}{s:Shared}{a:Addr}{y:V}{o:Option V}(I:Inv X pins σ H s)(g:DGet H a y o):s.TypeIs (.ref a) "dict" := by
 rcases g with ⟨kvs,k,e,_,_⟩|⟨kvs,k,b,e,_,_,_⟩
 ·refine zc0c (zgw I.hok e) fun _ _ zz=>zc1b zz fun vs _ dd => ?_
  exact dd.typeIs
 ·refine zc0c (zix I.hok e) fun _ _ zz=>zc1b zz fun xs _ dd => ?_
  exact dd.typeIs
def tDGet (td ty:TE):TE:=fun σ H Q=>td σ H fun x H1=>ty σ H1 fun y H2 => ∃ a v,x=.ref a∧DGet H2 a y (some v)∧Q v H2
def zhL (ty td:TE):TE:=fun σ H Q=>ty σ H fun y H1=>td σ H1 fun x H2 => ∃ a o,x=.ref a∧DGet H2 a y o∧Q (.bl (!o.isSome)) H2
section
variable {X:Cx}{o i e value:Expr}{pos pos' tpos:Pos}{td ty tv:TE}
theorem zgg (hu:X.A.units+1<cLine)(ho:PE X o td)(hi:PE X i ty)(hs:NoSl i):PE X (.Subscript o i pos) (tDGet td ty):=by
 intro pins s σ H Q I h
 refine zim PySem.F.slot_dict_getitem.lookup hs (thn (ho pins s σ H _ I h) fun u s1 ⟨x,H1,I1,rx,q1⟩=>thn (hi pins s1 σ H1 _ I1 q1) fun iv s2 zh => ?_)
 refine zc2c zh fun y H2 I2 ry zz=>zc2c zz fun a v ex g q2 => ?_
 subst ex
 obtain rfl:u=Value.ref a:=rx
 exact ⟨zdl I2 g,zeO hu I2 g ry fun w' s3 I3 rw'=>⟨v,H2,I3,rw',q2⟩⟩
theorem zfk (hu:X.A.units+1<cLine)(hi:PE X i ty)(ho:PE X o td):PC X .NotIn i o (zhL ty td):=by
 intro pins s σ H Q I h
 refine thn (hi pins s σ H _ I h) fun iv s1 ⟨y,H1,I1,ry,q1⟩=>thn (ho pins s1 σ H1 _ I1 q1) fun u s2 zh => ?_
 refine zc2c zh fun x H2 I2 rx zz=>zc2c zz fun a ov ex g q2 => ?_
 subst ex
 obtain rfl:u=Value.ref a:=rx
 exact zh6 hu I2 g ry fun s3 I3=>⟨.bl (!ov.isSome),H2,I3,rfl,q2⟩
end
end L2
namespace Att
open PySem PySem.W PySem.Calls PyProof.Rows
theorem zcg {P:Params}{h:Heap}:∀ (ns:List Int) (vs:List Value),WellAll P h vs (ns.map WData.int)→IntsAre vs ns:=by
 intro ns
 induction ns with
 | nil =>
  intro vs w
  rw [List.map_nil] at w
  cases w
  exact .nil
 | cons n ns ih =>
  intro vs w
  rw [List.map_cons] at w
  cases w with
  | cons a b =>
   cases a
   exact .cons _ _ (ih _ b)
theorem zgc {l:OpenLaw}{n:Nat}(hn:l.most=some n){P:Params}{h:Heap}{args:List WData}{vals:List Value}
 (hpre:l.row.toRowW.claim.pre args=true) (hwl:WellAll P h vals args) :
 ∃ a vs ns,vals=[Value.ref a]∧args=[WData.list (ns.map WData.int)]∧h.get? a=some { cls:=.type "list",data:=.seq vs.toArray }∧IntsAre vs ns∧ns.length≤n:=by
 have hsh:WShape.hasAll [] args [.list .int]=true:=(pre_splitW hpre).1
 have hc:l.pre.holds [] { args:=args }=true:=(pre_splitW hpre).2
 refine zc2c (hasAllW_cons hsh) fun d r zr2 h1 h2 => ?_
 obtain rfl:=zr2
 obtain rfl:=hasAllW_nil h2
 refine zc1b (hasW_list h1) fun xs zr1 h3 => ?_
 obtain rfl:=zr1
 obtain ⟨ns,rfl⟩:=items_int h3
 have hlen:ns.length≤n:=by
  unfold OpenLaw.pre at hc
  have h4:(WTm.not (.lt (.lit (.int (n:Int))) (.len (.arg 0)))).holds [] { args:=[.list (ns.map .int)] }=true:=by
   have h4:=(holds_andW hc).1
   rw [hn] at h4
   exact h4
  have h5:=condW_of h4 (w_not (w_lt w_lit (w_len_list (w_arg rfl))))
  rw [List.length_map] at h5
  refine Nat.le_of_not_lt fun q => ?_
  have q':(n:Int)<((ns.length:Nat):Int):=by omega
  first
   | (rw [decide_eq_true q'] at h5;exact absurd h5 (by decide))
   | (simp -iota at h5;omega)
 cases hwl with
 | cons w1 w2 =>
  cases w2
  cases w1 with
  | list ho hall=>exact ⟨_,_,ns,rfl,rfl,ho,zcg ns _ hall,hlen⟩
theorem zfM (l:OpenLaw)(args:List WData):l.row.toRowW.claim.post args (.bool true) args=true :=
 postW_of (r:=l.row.toRowW) (X:=(true == true))
  (show WShape.has [] (.bool true) .bool=true by first|rfl|decide|simp -iota [WShape.has,WShape.arms,WShape.armsAll])
  (show (WTm.eq .res (.lit (.bool true))).value [] { args:=args,res:=some (.bool true),after:=args }=some (.bool (true == true)) from w_eq_bool (w_res rfl) w_lit) rfl
theorem attach_call {l:OpenLaw}{n:Nat}{q:Program}{loose:List Str}{XP:(Str→Option Value)→Heap→Prop}{YP:World→Heap→Prop}{d:DefRec}
 (hn:l.most=some n) (hdf:d.params.defaults=[])
 (call:∀ (w:World) (s₀ s₁:Shared) (mg mb:Str→Option Value) (fa:Addr) (o:Obj) (pm cd doc:Value) (a:Addr) (vs:List Value) (ns:List Int),
  Ground q loose [] XP w s₀ mg mb s₁.heap→YP w s₁.heap →
  s₁.heap.get? fa=some o→o.data=.func (docDef d.name d.params d.body d.scope pm cd doc)→s₁.heap.CodeRec cd d.name→mg d.name=some (.ref fa) →
  s₁.heap.get? a=some { cls:=.type "list",data:=.seq vs.toArray }→IntsAre vs ns→ns.length≤n→s₁.gens = #[] →
  codeAny (model l.prog w) callerA (.call (.ref fa) ⟨[.ref a],[]⟩) (fun r s'=>r=.ok (.ret (.bool true))∧OldK s₁.heap s'.heap∧s'.os=s₁.os∧AllBare s'.gens) s₁) :
 WalkO q loose XP YP l.row.toRowW d [] (fun f vs=>PySem.call f vs):=by
 intro w s₀ s₁ mg mb G Y fa o pm cd doc dV kV ho hd hcd hD hmg hg args vals as hpre hlay hrd hwl hlo
 obtain rfl:dV=.none:=Dflts.none hD hdf
 obtain rfl:kV=.none:=Dflts.noKw hD
 refine zc3a (zgc hn hpre hwl) fun a vs ns zz=>zc0e zz fun zr3 zr4 hobj hints hlen => ?_
 obtain rfl:=zr3
 obtain rfl:=zr4
 refine enter_call (codeAny_mono (call w s₀ s₁ mg mb fa o pm cd doc a vs ns G Y ho (fd_plain hd) hcd hmg hobj hints hlen hg) fun r s' hq => ?_)
 refine zc0d hq fun zr0 h2 h3 h4 => ?_
 obtain rfl:=zr0
 exact ⟨.inl ⟨.bool true,.bool true,[],rfl,fun _=>rfl,.bool true,zfM l _,fun _=>⟨List.Pairwise.nil,fun _ hm=>(nomatch hm)⟩⟩,h2,h3,h4⟩
end Att
namespace L2
open PySem PySem.Spec PyProof.Rows
theorem zfW:∀ {vs:List Value} {ns:List Int},IntsAre vs ns→Vals (ns.map V.int) vs:=fun h=>by
 induction h with
 | nil=>exact .nil
 | cons n t _ ih=>exact .cons ⟨t,rfl⟩ ih
noncomputable def Only (H:Hp):Prop:=∀ b,H b=none∨∃ o xs,H b=some (.frz o (.lst xs))
theorem zg7 {P:Program}{w:World}{K:PySem.W.Frag}{mg mb:Str→Option Value}{CX:CXT}{k:Nat}{fa a:Addr}{fd:FuncData}{x:Str}{sp:Sp}{s₁:Shared}{vs:List Value}{ns:List Int}
 (KX:K.In s₁.heap) (hns:s₁.heap.Ns mainGlobals mg) (hb:s₁.heap.Ns builtinsNs mb) (hbb:∀ x:Str,x ≠ "__name__" → mb x=bootBuiltins x) (hlim:s₁.heap.NoLimit) (hg:s₁.gens = #[])
 (ha:s₁.heap.get? a=some { cls:=.type "list",data:=.seq vs.toArray }) (hi:IntsAre vs ns) (hl:ns.length≤sizeLine) (hr:Room k callerA)
 (F:∀ base:Heap,K.In base→base.Ns mainGlobals mg→FnOk P w K mg base CX k fa fd [x] sp) (hbind:∀ (s:Shared) (u:Value),BindsTo s fd ⟨[u],[]⟩ [(x,u)])
 (hsp:∀ H:Hp,Only H→SqL K H a (ns.map V.int)→sp [.ref a] H (fun v _=>v=.bl true) fun _ _ _=>False)
 (hCX:∀ H e s',CX [] H s₁ (fun _ _ _=>False) e s'→False) :
 codeAny (model P w) callerA (.call (.ref fa) ⟨[.ref a],[]⟩) (fun r s'=>r=.ok (.ret (.bool true))∧OldK s₁.heap s'.heap∧s'.os=s₁.os∧AllBare s'.gens) s₁:=by
 have rv:=zfW hi
 have lenV:=hi.length
 have core:∀ H:Hp,Only H→SqL K H a (ns.map V.int)→HOk P w H s₁.heap→(∀ b,H b≠none→b=a)→(H a≠none→K.lookup a=none) →
  codeAny (model P w) callerA (.call (.ref fa) ⟨[.ref a],[]⟩) (fun r s'=>r=.ok (.ret (.bool true))∧OldK s₁.heap s'.heap∧s'.os=s₁.os∧AllBare s'.gens) s₁:=by
  intro H hO hS hok hA hK
  have base_of:∀ {b:Addr} {o:Obj},s₁.heap.get? b=some o→H b=none→(hidT s₁.heap H).get? b=some o:=fun e n=>zg3 e n
  have noA:∀ {b:Addr} {o:Obj} {es:Array DictEntry} {ep:Nat},s₁.heap.get? b=some o→o.data=.dict es ep→H b=none:=fun {b o es ep} e d=>by
   cases q:H b with
   | none=>rfl
   | some u =>
    have e':b=a:=hA b (by rw [q];simp -iota)
    subst e'
    rw [ha] at e;cases e
    have d':Data.seq vs.toArray _=Data.dict es ep:=d
    cases d'
  have nsK:∀ {b:Addr} {m:Str→Option Value},s₁.heap.Ns b m→(hidT s₁.heap H).Ns b m:=fun {b m} ⟨o,es,ep,e,d,r⟩=>⟨o,es,ep,base_of e (noA e d),d,r⟩
  have hKb:K.In (hidT s₁.heap H):=fun b o e=>base_of (KX b o e) (by
   cases q:H b with
   | none=>rfl
   | some u =>
    have e':b=a:=hA b (by rw [q];simp -iota)
    subst e'
    rw [hK (by rw [q];simp -iota)] at e;cases e)
  have hM:Mod K mg (hidT s₁.heap H):=⟨hKb,nsK hns,⟨mb,nsK hb,hbb⟩,let ⟨mc,h1,h2⟩:=hlim;⟨mc,nsK h1,h2⟩⟩
  have e0:Env0 P w K mg (hidT s₁.heap H) callerA [] s₁ H:=⟨rfl,hM,fun b o e=>zh4 e,Nat.le_of_eq (zeX _ _),trivial,fun b hb=>absurd (show b∈([]:List Addr) from hb) (by simp -iota),hok,.of_eq hg⟩
  refine codeAny_mono ((F _ hKb (nsK hns)).run callerA [] s₁ H ⟨[.ref a],[]⟩ [.ref a] [.ref a] _ _ hr e0 (hbind s₁ (.ref a)) (.cons rfl .nil) (hsp H hO hS)) fun r s' h => ?_
  cases r with
  | error e=>exact (hCX H e s' h).elim
  | ok fl =>
   cases fl with
   | next=>exact False.elim h
   | brk=>exact False.elim h
   | cont=>exact False.elim h
   | ret u =>
    refine zc2a h fun v H' zz=>zc0e zz fun os bare un hok' zz=>zc0b zz fun r' q => ?_
    have q':v=.bl true:=q
    subst q'
    obtain rfl:u=Value.bool true:=r'
    refine ⟨rfl,OldK.of_keep fun b o e => ?_,os,bare⟩
    cases q:H b with
    | none=>exact un.keep b o e q (by intro z;exact absurd (show b∈([]:List Addr) from z) (by simp -iota)) (by simp -iota)
    | some u =>
     rcases hO b with z|⟨ob,xs,z⟩
     ·rw [q] at z;cases z
     ·have z2:=un.frzs b ob _ z
      obtain ⟨e1,_⟩:=hok b _ z
      obtain ⟨e2,_⟩:=hok' b _ z2
      rw [e] at e1;cases e1
      exact e2
 cases hk:K.lookup a with
 | some o =>
  have e:=KX a o hk
  rw [ha] at e
  cases e
  refine core (fun _=>none) (fun _=>.inl rfl) (.inr ⟨_,vs.toArray,_,hk,rfl,rfl,rfl,by rw [List.size_toArray,lenV];exact hl,by simpa -iota using rv⟩) (fun b u z=>by have z':(none:Option HO)=some u:=z;cases z') (fun b z=>absurd rfl z) fun z=>absurd rfl z
 | none =>
  refine core (fun b=>if b=a then some (.frz { cls:=.type "list",data:=.seq vs.toArray } (.lst (ns.map V.int))) else none) (fun b => ?_) (.inl (.inr ⟨{ cls:=.type "list",data:=.seq vs.toArray },if_pos rfl⟩)) (fun b u z => ?_) (fun b z => ?_) fun _=>hk
  ·by_cases hb:b=a
   ·exact .inr ⟨_,_,if_pos hb⟩
   ·exact .inl (if_neg hb)
  ·by_cases hb:b=a
   ·have z':=(if_pos hb).symm.trans z
    cases z'
    subst hb
    exact ⟨ha,by rw [List.length_map];exact hl,vs,_,rv,ha⟩
   ·have z':=(if_neg hb).symm.trans z
    cases z'
  ·by_cases hb:b=a
   ·exact hb
   ·exact absurd (if_neg hb) z
end L2
namespace L2
open PySem PySem.Spec PyProof.Rows
theorem walk_of {l:PySem.W.OpenLaw}{n k:Nat}{q:Program}{loose:List Str}{XP:(Str→Option Value)→Heap→Prop}{YP:World→Heap→Prop}{d:DefRec}{K:Params→PySem.W.Frag}{CX:World→CXT}{sp:World→Sp}{x:Str}
 (hn:l.most=some n) (hn2:n≤sizeLine) (hdf:d.params.defaults=[]) (hr:Room k callerA)
 (hY:∀ (w:World) (h:Heap),YP w h→(K w.params).In h)
 (F:∀ (w:World) (mg:Str→Option Value) (fa:Addr) (h:Heap),(K w.params).In h→h.Ns mainGlobals mg→mg d.name=some (.ref fa) →
  ∃ fd:FuncData,(∀ (s:Shared) (u:Value),BindsTo s fd ⟨[u],[]⟩ [(x,u)]) ∧
   ∀ base:Heap,(K w.params).In base→base.Ns mainGlobals mg→FnOk l.prog w (K w.params) mg base (CX w) k fa fd [x] (sp w))
 (hsp:∀ (w:World) (H:Hp) (a:Addr) (ns:List Int),ns.length≤n→Only H→SqL (K w.params) H a (ns.map V.int)→sp w [.ref a] H (fun v _=>v=.bl true) fun _ _ _=>False)
 (hCX:∀ (w:World) (H:Hp) (s:Shared) (e:Value) (s':Shared),CX w [] H s (fun _ _ _=>False) e s'→False) :
 PySem.W.WalkO q loose XP YP l.row.toRowW d [] (fun f vs=>PySem.call f vs):=by
 refine Att.attach_call hn hdf fun w s₀ s₁ mg mb fa o pm cd doc a vs ns G Y ho hd hcd hmg hobj hints hlen hg => ?_
 have KX:=hY w _ Y
 refine zc1b (F w mg fa _ KX G.T.g hmg) fun fd hb hF => ?_
 exact zg7 KX G.T.g G.T.b G.T.builtins G.T.nolimit hg hobj hints (Nat.le_trans hlen hn2) hr hF hb (fun H hO hS=>hsp w H a ns hlen hO hS) fun H e s'=>hCX w H s₁ e s'
end L2
namespace L2
open PySem PySem.Spec PyProof.Rows
noncomputable def zfZ (s:Stmt)(j:Nat):Stmt:=match s with
 | .ClassDef _ _ _ body _ _ _ _ _ _ _=>body.getD j (.Pass ⟨0,0,0,0⟩)
 | _=>.Pass ⟨0,0,0,0⟩
noncomputable def zbA (s:Stmt):Arguments:=match s with
 | .FunctionDef _ a _ _ _ _ _ _ _ _=>a
 | _=>{ posonlyargs:=[],args:=[],vararg:=none,kwonlyargs:=[],kw_defaults:=[],kwarg:=none,defaults:=[] }
noncomputable def zaL (s:Stmt):List Stmt:=match s with
 | .FunctionDef _ _ b _ _ _ _ _ _ _=>b
 | _ => []
noncomputable def zah (s:Stmt):Scope:=match s with
 | .FunctionDef _ _ _ _ _ _ sc _ _ _=>sc
 | _=>{ kind:=.function,names:=[],isGenerator:=false,isCoroutine:=false }
abbrev CX0:CXT:=fun _ _ _ _ _ _=>False
abbrev E0:XK:=fun _ _ _=>False
theorem zkl {X:Cx}:zct CX0 X E0:=fun _ _ _ _ _ _ _ h=>h.elim
structure Fun (K:PySem.W.Frag)(x qual:Str)(st:Stmt)(f:Addr)(fd:FuncData):Prop where
 ex:∃ (oc:Value) (od:Option Addr) (kV doc pm:Value) (an:Option Addr) (cdv ct:Value) (osl:Array (Option Value)),
  fd=PySem.W.fnOf x qual (zbA st) (zaL st) (zah st) .none kV doc pm an cdv ct∧K.lookup f=some ⟨oc,od,.func fd,osl⟩∧PySem.W.codeIn K cdv qual=true
 kp:PySem.W.keepIn K (.ref f)=true
section
variable {P:Program}{w:World}{K:PySem.W.Frag}{mg:Str→Option Value}{base:Heap}
theorem Fun.ok {x qual:Str}{st:Stmt}{f:Addr}{fd:FuncData}{N ps:List Str}{k:Nat}{sp:Sp}(F:Fun K x qual st f fd)(S:FnScope N ps (zah st))(len:∀ vs H Q E,sp vs H Q E→vs.length=ps.length)
 (hbody:∀ (cdv:Value) (A:Around) (outer:List Env) (s:Shared) (H:Hp) (vs:List V) (Q:VK) (E:XK),Room k (A.deeper (envOfC qual (zah st) s.heap.objs.size f cdv))→sp vs H Q E →
  ∃ t,PSs (cxOf CX0 P w K mg base N qual (zah st) f cdv A outer s H E).nox (zaL st) t∧t { nx:=fun _ H'=>Q .non H',rt:=Q } (start N vs) H):FnOk P w K mg base CX0 (k+1) f fd ps sp:=by
 refine zc4a F.ex fun oc od kV doc zz=>zc4a zz fun pm an cdv ct zz=>zc1c zz fun osl zr9 lk hcd => ?_
 obtain rfl:=zr9
 refine zjY lk hcd S len fun A outer s H vs Q E hr hsp => ?_
 refine zc1b (hbody cdv A outer s H vs Q E hr hsp) fun t h q => ?_
 exact ⟨t,h.nox,q⟩
theorem Fun.binds {x qual:Str}{st:Stmt}{f:Addr}{fd:FuncData}{ps:List Str}(F:Fun K x qual st f fd)
 (h:∀ (kV doc pm:Value) (an:Option Addr) (cdv ct:Value) (us:List Value),us.length=ps.length→bindArgs (PySem.W.fnOf x qual (zbA st) (zaL st) (zah st) .none kV doc pm an cdv ct) ⟨us,[]⟩=pure (ps.zip us)):zbV K fd ps []:=by
 refine zc4a F.ex fun oc od kV doc zz=>zc4a zz fun pm an cdv ct zz=>zc1c zz fun osl zr9 lk hcd => ?_
 obtain rfl:=zr9
 exact .all (h kV doc pm an cdv ct)
theorem fun_mk {x qual:Str}{st:Stmt}{f:Addr}{oc:Value}{od an:Option Addr}{osl:Array (Option Value)}{kV doc pm cdv ct:Value}(l:K.lookup f=some ⟨oc,od,.func (PySem.W.fnOf x qual (zbA st) (zaL st) (zah st) .none kV doc pm an cdv ct),osl⟩)
 (c:PySem.W.codeIn K cdv qual=true) (k:PySem.W.keepIn K (.ref f)=true):Fun K x qual st f (PySem.W.fnOf x qual (zbA st) (zaL st) (zah st) .none kV doc pm an cdv ct):=⟨⟨oc,od,kV,doc,pm,an,cdv,ct,osl,rfl,l,c⟩,k⟩
end
theorem za3 {A:Around}{k:Nat}(hr:Room k A):A.units+1<cLine:=Nat.lt_of_le_of_lt (Nat.add_le_add_left (by decide:1≤64) _) hr.units
theorem zdc {n:Nat}(h:n≤1000):n<sizeLine:=Nat.lt_of_le_of_lt h (by decide)
section
variable {X:Cx}
theorem pv (i:Nat){x:Str}{pos:Pos}(hN:autoParam (X.N[i]? = some x) zau._auto_1)(hv:Vis X.env.scope x:=by first|exact Or.inl rfl|exact Or.inr (Or.inl rfl)|exact Or.inr (Or.inr rfl))(hd:(x == ("__debug__" : Str))=false:=by decide)
 (hcd:autoParam ((x == ("__classdict__" : Str))=false) zav._auto_1):PE X (.Name x pos) (tVar i):=ziG hN hv hd hcd
end
noncomputable def Same (H H':Hp):Prop:=∀ b o,H b=some o→H' b=some o
theorem Same.refl (H:Hp):Same H H:=fun _ _ h=>h
theorem Same.trans {H H1 H2:Hp}(a:Same H H1)(b:Same H1 H2):Same H H2:=fun c o h=>b c o (a c o h)
theorem Same.free {H H':Hp}(e:Same H H'){l:Addr}(h:H' l=Option.none):H l=Option.none:=by
 cases q:H l with
 | none=>rfl
 | some o =>
  rw [e l o q] at h
  cases h
theorem Same.seq {K:PySem.W.Frag}{H H':Hp}{a:Addr}{xs:List V}(e:Same H H')(h:SqL K H a xs):SqL K H' a xs:=by
 rcases h with (h|⟨o,h⟩)|h
 ·exact .inl (.inl (e _ _ h))
 ·exact .inl (.inr ⟨o,e _ _ h⟩)
 ·exact .inr h
end L2
namespace L2
open PySem PySem.Spec PyProof.Rows
section
variable {X:Cx}
theorem zf5:zat X (.builtin "len") (fun xs H Q => ∃ a kvs,xs=[V.ref a]∧H a=some (.dK kvs)∧Q (.int kvs.length) H):=by
 intro pins s σ H xs us Q I r h
 refine zc2c h fun a kvs zr2 ha q => ?_
 obtain rfl:=zr2
 refine zc1b (zd1 r) fun u zr1 ru => ?_
 obtain rfl:=zr1
 cases ru
 exact d_len I (.inl ha) fun t s' I'=>⟨.int kvs.length,H,I',⟨t,rfl⟩,q⟩
end
end L2
theorem zqn {P:Prop}{α : Type}{z : α}(h:none=some z):P:=by cases  h
theorem zqb {P:Prop}(h:false=true):P:=by cases  h
namespace L2
open PySem PySem.Spec PyProof.Rows
theorem zbX (env:Env):∀ (names:List (Str×NameKind)) (acc:List (Str×Addr)),(∀ y∈names,y.2=.free→∃ c,env.cells.lookup y.1=some c) →
 ∃ cl,(forIn names acc fun (x:Str×NameKind) (r:List (Str×Addr))=>(match x with
  | (name,kind)=>if (kind == NameKind.free)=true then do let a ← cellOf env name;pure (ForInStep.yield ((name,a)::r)) else pure (ForInStep.yield r):Sem (ForInStep (List (Str×Addr)))))=(pure cl:Sem (List (Str×Addr))) ∧
  (∀ x c,cl.lookup x=some c→env.cells.lookup x=some c∨acc.lookup x=some c)∧(∀ x c,acc.lookup x=some c→∃ c',cl.lookup x=some c')∧∀ y∈names,y.2=.free→∃ c,cl.lookup y.1=some c
 | [],acc,_=>⟨acc,rfl,fun _ _ h=>.inr h,fun x c h=>⟨c,h⟩,fun _ h=>nomatch h⟩
 | (n,k)::r,acc,h=>by
  rw [List.forIn_cons]
  cases hk:(k == NameKind.free) with
  | true =>
   have hk':k=.free:=by cases k<;>first|rfl|(exact absurd hk (by decide))
   obtain ⟨c,hc⟩:=h (n,k) List.mem_cons_self hk'
   refine zc1d (zbX env r ((n,c)::acc) fun y hy=>h y (List.mem_cons_of_mem _ hy)) fun cl e h1 h2 h3 => ?_
   refine ⟨cl,?_,fun x c' hx => ?_,fun x c' hx => ?_,fun y hy hf => ?_⟩
   ·simp only [hk,if_true,cellOf,hc]
    exact e
   ·rcases h1 x c' hx with q|q
    ·exact .inl q
    ·rw [List.lookup_cons] at q
     cases hb:x == n with
     | true =>
      rw [hb] at q;cases q;have:x=n:=by simpa using hb
      subst this;exact .inl hc
     | false=>rw [hb] at q;exact .inr q
   ·cases hb:x == n with
    | true=>exact h2 x c (by rw [List.lookup_cons,hb])
    | false=>exact h2 x c' (by rw [List.lookup_cons,hb];exact hx)
   ·rcases List.mem_cons.mp hy with rfl|hy
    ·exact h2 n c (by rw [List.lookup_cons,beq_self_eq_true])
    ·exact h3 y hy hf
  | false =>
   refine zc1d (zbX env r acc fun y hy=>h y (List.mem_cons_of_mem _ hy)) fun cl e h1 h2 h3 => ?_
   refine ⟨cl,?_,h1,h2,fun y hy hf => ?_⟩
   ·simp only [hk,Bool.false_eq_true,if_false]
    exact e
   ·rcases List.mem_cons.mp hy with rfl|hy
    ·rw [show k=.free from hf] at hk;exact absurd hk (by decide)
    ·exact h3 y hy hf
theorem zh1 (env:Env)(scope:Scope)(h:∀ y∈scope.names,y.2=.free→∃ c,env.cells.lookup y.1=some c) :
 ∃ cl,closureFor scope env=pure cl∧(∀ x c,cl.lookup x=some c→env.cells.lookup x=some c)∧∀ y∈scope.names,y.2=.free→∃ c,cl.lookup y.1=some c:=by
 refine zc1d (zbX env scope.names [] h) fun cl e h1 _ h3 => ?_
 refine ⟨cl,?_,fun x c hx=>(h1 x c hx).elim id (fun q=>by simp at q),h3⟩
 simp only [closureFor]
 first
 | (rw [e];rfl)
 | exact (congrArg (· >>= fun cs=>pure cs) e)
theorem zaU {env:Env}{x:Str}:∀ {names:List (Str×NameKind)},
 (names.lookup x=some .free→(names.map fun (n,k)=>if (k == NameKind.free&&env.scope.kind == .function&&env.kindOf n == some .cell) then (n,NameKind.cell) else (n,k)).lookup x=some .cell∨(names.map fun (n,k)=>if (k == NameKind.free&&env.scope.kind == .function&&env.kindOf n == some .cell) then (n,NameKind.cell) else (n,k)).lookup x=some .free) ∧
 (∀ k',(names.map fun (n,k)=>if (k == NameKind.free&&env.scope.kind == .function&&env.kindOf n == some .cell) then (n,NameKind.cell) else (n,k)).lookup x=some k'→(k'=.cell∨k'=.free)→names.lookup x=some .free∨names.lookup x=some .cell)
 | []=>⟨fun h=>by simp at h,fun _ h=>by simp at h⟩
 | (n,k)::r=>by
  obtain ⟨ih1,ih2⟩:=@zaU env x r
  simp only [List.map_cons]
  cases hx:x == n with
  | true =>
   refine ⟨fun h => ?_,fun k' h hk' => ?_⟩
   ·simp only [List.lookup_cons,hx] at h
    obtain rfl:=Option.some.inj h
    by_cases hc:(NameKind.free == NameKind.free&&env.scope.kind == .function&&env.kindOf n == some .cell)=true
    ·rw [if_pos hc];simp [List.lookup_cons,hx]
    ·rw [if_neg hc];simp [List.lookup_cons,hx]
   ·rw [List.lookup_cons,hx]
    by_cases hq:(k == NameKind.free&&env.scope.kind == .function&&env.kindOf n == some .cell)=true
    ·have:k=.free:=by
      cases k<;>first|rfl|(simp at hq)
     rw [this];exact .inl rfl
    ·rw [if_neg hq] at h
     simp only [List.lookup_cons,hx] at h
     have h:k=k':=by simpa using h
     subst h
     rcases hk' with z|z
     ·rw [z];exact .inr rfl
     ·rw [z];exact .inl rfl
  | false =>
   refine ⟨fun h => ?_,fun k' h hk' => ?_⟩
   ·simp only [List.lookup_cons,hx] at h
    split<;>simp only [List.lookup_cons,hx]<;>exact ih1 h
   ·rw [List.lookup_cons,hx]
    refine ih2 k' ?_ hk'
    split at h<;>simp only [List.lookup_cons,hx] at h<;>exact h
theorem za7:∀ (names:List (Str×NameKind)) (n:Nat) (acc:List (Str×Addr)),cellsFrom n names acc=cellsFrom n names []++acc
 | [],_,_=>rfl
 | (name,kind)::r,n,acc=>by
  unfold cellsFrom
  split
  ·rw [za7 r (n+1) ((name,n)::acc),za7 r (n+1) [(name,n)],List.append_assoc];rfl
  ·exact za7 r n acc
theorem zbg {x:Str}{c:Addr}:∀ (names:List (Str×NameKind)) (n:Nat) (acc:List (Str×Addr)),(x,c)∈cellsFrom n names acc→(x,c)∈acc∨(x,NameKind.cell)∈names
 | [],_,_,h=>.inl h
 | (name,kind)::r,n,acc,h=>by
  unfold cellsFrom at h
  split at h
  ·rename_i hk
   rcases zbg r (n+1) ((name,n)::acc) h with z|z
   ·rcases List.mem_cons.mp z with z|z
    ·cases z
     have:kind=.cell:=by cases kind<;>first|rfl|(exact absurd hk (by decide))
     subst this
     exact .inr List.mem_cons_self
    ·exact .inl z
   ·exact .inr (List.mem_cons_of_mem _ z)
  ·rcases zbg r n acc h with z|z
   ·exact .inl z
   ·exact .inr (List.mem_cons_of_mem _ z)
noncomputable def zeR:Option NameKind→Bool
 | some .cell=>true
 | _=>false
theorem zds {o:Option NameKind}(h:zeR o=true):o=some .cell:=by
 cases o with
 | none=>exact zqb h
 | some k=>cases k<;>first|rfl|exact zqb h
structure CellsAt (scope:Scope)(env:Env)(cl:List (Str×Addr))(C:Addr)(h1:Heap):Prop where
 from_:∀ x c,cl.lookup x=some c→(env.cells.lookup x=some c∧scope.names.lookup x≠some .cell)∨(C<c∧h1.IsCell c none)
 free:∀ x,scope.names.lookup x=some .free→∃ c,cl.lookup x=some c∧env.cells.lookup x=some c
 own:∀ x,scope.names.lookup x=some .cell→∃ c,cl.lookup x=some c
 inj:∀ x y c,cl.lookup x=some c→cl.lookup y=some c→x=y
theorem ze5 {scope:Scope}{env:Env}{cl:List (Str×Addr)}{h0:Heap}{C:Addr}(he:∀ x c,cl.lookup x=some c→env.cells.lookup x=some c)(hf:∀ y∈scope.names,y.2=.free→∃ c,cl.lookup y.1=some c)
 (inj:∀ x y c,env.cells.lookup x=some c→env.cells.lookup y=some c→x=y) (low:∀ x c,env.cells.lookup x=some c→c≤C) (hC:h0.objs.size=C+1) (hc:∀ y∈scope.names,y.2=.cell→scope.names.lookup y.1=some .cell) :
 CellsAt scope env (cellsFrom (C+1) scope.names cl) C (pushCells h0 scope.names):=by
 have ok:=cellsFrom_ok scope.names h0 (C+1) [] ⟨fun _ _ hm=>(nomatch hm),List.Pairwise.nil⟩ (Nat.le_of_eq hC.symm)
 rw [hC] at ok
 have look:∀ x c,(cellsFrom (C+1) scope.names cl).lookup x=some c→((x,c)∈cellsFrom (C+1) scope.names [] )∨(cl.lookup x=some c∧scope.names.lookup x≠some .cell):=fun x c e=>by
  rw [za7,List.lookup_append] at e
  cases q:(cellsFrom (C+1) scope.names []).lookup x with
  | some d =>
   rw [q] at e
   have e:some d=some c:=e
   obtain rfl:=Option.some.inj e
   exact .inl (PySem.mem_of_lookup q)
  | none =>
   rw [q] at e
   refine .inr ⟨e,fun z => ?_⟩
   have:=PySem.W.cellsFrom_some scope.names (C+1) [] (.inl z)
   rw [q] at this;exact zqb this
 refine ⟨fun x c e => ?_,fun x e => ?_,fun x e => ?_,fun x y c e1 e2 => ?_⟩
 ·rcases look x c e with z|⟨z1,z2⟩
  ·exact .inr ⟨(ok.empty x c z).2,(ok.empty x c z).1⟩
  ·exact .inl ⟨he x c z1,z2⟩
 ·obtain ⟨c,hc'⟩:=hf (x,.free) (PySem.mem_of_lookup e) rfl
  refine ⟨c,?_,he x c hc'⟩
  rw [za7,List.lookup_append]
  cases q:(cellsFrom (C+1) scope.names []).lookup x with
  | some d =>
   rcases zbg _ _ _ (PySem.mem_of_lookup q) with z|z
   ·cases z
   ·have:=hc (x,.cell) z rfl
    rw [e] at this;cases this
  | none=>exact hc'
 ·exact Option.isSome_iff_exists.mp (PySem.W.cellsFrom_some scope.names (C+1) cl (.inl e))
 ·rcases look x c e1 with z|⟨z1,_⟩<;>rcases look y c e2 with w|⟨w1,_⟩
  ·exact PySem.name_of_addr ok.apart z w
  ·exact absurd (low y c (he y c w1)) (Nat.not_le_of_lt (ok.empty x c z).2)
  ·exact absurd (low x c (he x c z1)) (Nat.not_le_of_lt (ok.empty y c w).2)
  ·exact inj x y c (he x c z1) (he y c w1)
theorem zbK {M:Model}{A:Around}{E:Value→Shared→Prop}{s:Shared}{scope:Scope}{globals:Addr}{cl:List (Str×Addr)}{qual:Str}{env:Env}{Q:Env→Shared→Prop}
 (hQ:Q (newEnv scope s.heap.objs.size globals (cellsFrom (s.heap.objs.size+1) scope.names cl) qual none .none (some env) builtinsNs) { s with heap:=pushCells (s.heap.push { cls:=.type "dict",data:=.dict #[] }) scope.names }) :
 wpAny M A (newFunctionEnv scope globals cl [] qual none .none (some env)) Q E s:=by
 simp only [newFunctionEnv,Option.isSome_some,if_true]
 refine wpAny_bind (wpAny_alloc ?_)
 refine wpAny_bind (wpAny_layCells _ (fun name kind cells=>by cases hkc:kind == NameKind.cell<;>simp [hkc]) _ _ _ _ ?_)
 rw [show ({ s with heap:=s.heap.push { cls:=.type "dict",data:=.dict #[] } }:Shared).heap.objs.size=s.heap.objs.size+1 from Heap.size_push ..]
 rw [List.forIn_nil]
 exact wpAny_bind (wpAny_pure (wpAny_pure hQ))
noncomputable def zd4 (X:Cx)(C:Addr):Value→Shared→Prop:=fun x s' => ∃ m,s'.heap.Ns C m∧∀ h',Heap.SameBut C s'.heap h'→∀ cenv:Env,cenv.locals=C→wpAny (model X.prog X.w) X.A (passOn "comprehension.variables-let-go" x cenv:Sem Value) (fun _ _=>False) X.xe { s' with heap:=h' }
def zap (X:Cx)(scope:Scope)(N:List Str)(cl:List (Str×Addr))(C:Addr)(s:Shared)(H:Hp)(ex:List Addr):Cx where
 prog:=X.prog
 w:=X.w
 K:=X.K
 mg:=X.mg
 base:=X.base
 A:=X.A
 N:=N
 s₀:=s
 H₀:=H
 env:=compEnvC scope cl C X.env
 outer:=X.stack
 stack:=X.stack
 ex:=ex
 fn:=fun x=>zeR (scope.names.lookup x)
 calm:=X.calm
 pn:=[]
 xe:=notedBy (model X.prog X.w) X.A (compEnvC scope cl C X.env) (zd4 X C)
def zcK (X:Cx)(C:Addr)(s:Shared)(H:Hp)(ex:List Addr):Prop:=∃ pins σ,Inv X pins σ H s∧(∀ b∈ex,FpOk X pins H b)∧s.heap.objs.size≤C
noncomputable def zdu (cap:List (Option Nat))(σ : St):St:=cap.map fun o=>o.bind fun j=>(σ[j]?).join
structure CompOk (X:Cx)(scope:Scope)(N:List Str)(cap:List (Option Nat)):Prop where
 kind:scope.kind=.function
 loc:∀ y∈scope.names,y.2=.local→scope.names.lookup y.1=some .local
 cell:∀ y∈scope.names,y.2=.cell→scope.names.lookup y.1=some .cell
 free:∀ y∈scope.names,y.2=.free→X.env.kindOf y.1=some .cell∨X.env.kindOf y.1=some .free
 len:cap.length=N.length
 cap:∀ (i j:Nat) (x:Str),cap[i]? = some (some j)→N[i]? = some x→X.N[j]? = some x∧scope.names.lookup x=some .free
noncomputable def zaX (scope:Scope)(env:Env)(N' N:List Str)(cap:List (Option Nat)):Bool :=
 decide (scope.kind=.function)&&scope.names.all (fun y => !decide (y.2=.local)||decide (scope.names.lookup y.1=some .local))&&scope.names.all (fun y => !decide (y.2=.cell)||decide (scope.names.lookup y.1=some .cell)) &&
 scope.names.all (fun y => !decide (y.2=.free)||(decide (env.kindOf y.1=some .cell)||decide (env.kindOf y.1=some .free)))&&decide (cap.length=N'.length) &&
 (N'.zip cap).all (fun p=>match p.2 with|none=>true|some j=>decide (N[j]? = some p.1)&&decide (scope.names.lookup p.1=some .free))
theorem CompOk.of {X:Cx}{scope:Scope}{N:List Str}{cap:List (Option Nat)}(h:zaX scope X.env N X.N cap=true):CompOk X scope N cap:=by
 unfold zaX at h
 simp only [Bool.and_eq_true,List.all_eq_true,decide_eq_true_eq,Bool.or_eq_true,Bool.not_eq_true',decide_eq_false_iff_not] at h
 obtain ⟨⟨⟨⟨⟨h1,h2⟩,h3⟩,h4⟩,h5⟩,h6⟩:=h
 refine ⟨h1,fun y hy hl => ?_,fun y hy hl => ?_,fun y hy hf => ?_,h5,fun i j x e1 e2 => ?_⟩
 ·rcases h2 y hy with z|z
  ·exact absurd hl z
  ·exact z
 ·rcases h3 y hy with z|z
  ·exact absurd hl z
  ·exact z
 ·rcases h4 y hy with z|z
  ·exact absurd hf z
  ·exact z
 ·have hm:(x,some j)∈N.zip cap:=by
   refine List.mem_of_getElem? (i:=i) ?_
   rw [List.getElem?_zip_eq_some]
   exact ⟨e2,e1⟩
  have q:=h6 (x,some j) hm
  simpa using q
section
variable {X:Cx}{scope:Scope}{N:List Str}{cap:List (Option Nat)}{pins:List (Addr×Obj)}{σ : St}{H:Hp}{s:Shared}{cl:List (Str×Addr)}{C D:Addr}{fp:List Addr}
theorem zgE {h1:Heap}{tk:Nat}{m:Str→Option Value}(ok:CompOk X scope N cap)(I:Inv X pins σ H s)(hf:∀ b∈fp,FpOk X pins H b)(hlt:∀ b∈fp,b<s.heap.objs.size)
 (hcl:CellsAt scope X.env cl C h1)
 (hC:s.heap.objs.size≤C) (old:∀ b o,s.heap.get? b=some o→h1.get? b=some o) (hns:h1.Ns C m) :
 Inv (zap X scope N cl C s H fp) [] (zdu cap σ) H { s with heap:=h1,toks:=tk }:=by
 have kf:∀ x,(zap X scope N cl C s H fp).env.kindOf x=some .cell∨(zap X scope N cl C s H fp).env.kindOf x=some .free→scope.names.lookup x=some .free∨scope.names.lookup x=some .cell:=fun x h=>by
  rcases h with h|h
  ·exact (zaU (env:=X.env) (x:=x) (names:=scope.names)).2 _ h (.inl rfl)
  ·exact (zaU (env:=X.env) (x:=x) (names:=scope.names)).2 _ h (.inr rfl)
 refine ⟨⟨I.ok.mod,ok.kind,I.ok.glob,I.ok.blt,hC,hcl.inj,fun x h => ?_,fun x c z e => ?_,I.ok.hd,I.ok.frames,.inl rfl,fun b hb=>⟨?_,fun x c e => ?_⟩,I.bs,Nat.le_trans I.ok.bsz I.sz,
  fun b o e hb => ?_,fun b hb z => ?_,I.stack,I.stkFree⟩,rfl,I.bare,Un.kept old,⟨m,hns,fun i x v e1 e2 e3 => ?_⟩,fun x c e => ?_,I.hok.fresh hC,fun x c e => ?_,fun p hp=>absurd hp (by show ¬ p∈([]:List (Addr×Obj))++[];simp),I.hok.kept old,?_⟩
 ·rcases kf x h with q|q
  ·refine zc1b (hcl.free x q) fun c e _ => ?_
   exact ⟨c,e⟩
  ·exact hcl.own x q
 ·rcases hcl.from_ x c e with ⟨_,q⟩|⟨q,_⟩
  ·exact absurd (zds z) q
  ·exact Nat.le_trans hC (Nat.le_of_lt q)
 ·exact Nat.ne_of_lt (Nat.lt_of_lt_of_le (hlt b hb) hC)
 ·rcases hcl.from_ x c e with ⟨q,_⟩|⟨q,_⟩
  ·exact (hf b hb).2.2.2.2.1 x c q
  ·exact Nat.ne_of_gt (Nat.lt_trans (Nat.lt_of_lt_of_le (hlt b hb) hC) q)
 ·rcases (hf b hb).2.2.2.1 with z|z
  ·exact I.ok.noex b o e z
  ·exact absurd (Nat.lt_of_lt_of_le (Heap.lt_size e) (Nat.le_trans I.ok.bsz z)) (Nat.lt_irrefl _)
 ·rcases List.mem_cons.mp (I.stkSub b z) with q|q
  ·exact (hf b hb).2.1 q
  ·exact (hf b hb).2.2.1 q
 ·have e1:N[i]? = some x:=e1
  have hc:∃ j,cap[i]? = some (some j) ∧ σ[j]? = some (some v):=by
   have e2:(cap.map fun o=>o.bind fun j=>(σ[j]?).join)[i]? = some (some v):=e2
   rw [List.getElem?_map] at e2
   cases q:cap[i]? with
   | none=>rw [q] at e2;exact zqn e2
   | some o =>
    rw [q] at e2
    cases o with
    | none=>cases e2
    | some j =>
     have e2:some ((σ[j]?).join)=some (some v):=e2
     cases q2 : σ[j]? with
     | none=>rw [q2] at e2;cases e2
     | some w=>rw [q2] at e2;exact ⟨j,rfl,by cases e2;exact q2⟩
  obtain ⟨j,c1,c2⟩:=hc
  obtain ⟨n1,n2⟩:=ok.cap i j x c1 e1
  refine zc1b I.loc fun m0 _ hl => ?_
  have fr:=ok.free (x,.free) (PySem.mem_of_lookup n2) rfl
  obtain ⟨u,r,l⟩:=hl j x v n1 c2 (fr.elim (fun z=>.inr (.inl z)) fun z=>.inr (.inr z))
  refine ⟨u,r,.inr ⟨(zaU (env:=X.env) (x:=x) (names:=scope.names)).1 n2,?_⟩⟩
  rcases l with ⟨k,_⟩|⟨_,c,ec,z⟩
  ·have k:X.env.kindOf x=some .local:=k
   rcases fr with f|f<;>· rw [k] at f;cases f
  ·obtain ⟨c',e',e''⟩:=hcl.free x n2
   rw [ec] at e'';obtain rfl:=Option.some.inj e''
   exact ⟨c,e',z.keeps old⟩
 ·rcases hcl.from_ x c e with ⟨q,_⟩|⟨_,q⟩
  ·obtain ⟨v,z⟩:=I.cell x c q
   exact ⟨v,z.keeps old⟩
  ·exact ⟨none,q⟩
 ·rcases hcl.from_ x c e with ⟨q,_⟩|⟨q,_⟩
  ·exact I.freeC x c q
  ·exact I.hok.fresh (Nat.le_trans hC (Nat.le_of_lt q))
 ·show (cap.map _).length=N.length
  rw [List.length_map];exact ok.len
theorem zgt {σ':St}{H':Hp}{s':Shared}{ys:List V}{its:List Value}{k:Nat}{h':Heap}{Q:VK}(I:Inv X pins σ H s)(hf:∀ b∈fp,FpOk X pins H b)(hC:s.heap.objs.size≤C)(hD:s.heap.objs.size≤D)(hDC:D≠C)
 (J:Inv (zap X scope N cl C s H fp) [] σ' H' s') (hd:s'.heap.get? D=some { cls:=.type "list",data:=.seq its.toArray k }) (hn:H' D=none) (rv:Vals ys its) (hz:ys.length≤sizeLine) (hs:Heap.SameBut C s'.heap h')
 (q:Q (.ref D) (upd H' D (.lst ys))):EP X pins σ Q (.ref D) { s' with heap:=h' }:=by
 have nC:∀ b o,s.heap.get? b=some o→b≠C:=fun b o e=>Nat.ne_of_lt (Nat.lt_of_lt_of_le (Heap.lt_size e) hC)
 have nD:∀ b o,s.heap.get? b=some o→b≠D:=fun b o e=>Nat.ne_of_lt (Nat.lt_of_lt_of_le (Heap.lt_size e) hD)
 have tD:∀ b u,H' b=some u→b≠D:=fun b u e z=>by rw [z,hn] at e;exact zqn e
 have tC:∀ b u,H' b=some u→b≠C:=fun b u e z=>by
  have:=J.free
  rw [z] at e
  rw [show H' C=none from this] at e;exact zqn e
 have B:Un (frs X.stack) fp H H' s.heap s'.heap:=J.base
 refine ⟨.ref D,upd H' D (.lst ys),I.call' (s':={ s' with heap:=h' }) (ch:=fp) J.os ?_ ?_ J.bare (fun b hb=>⟨(hf b hb).2.2.2.1,(hf b hb).2.1,(hf b hb).2.2.2.2.1,(hf b hb).2.2.2.2.2⟩),rfl,q⟩
 ·refine ⟨fun b o e n hb hx=>(hs.2 b (nC b o e)).trans (B.keep b o e n hb hx),fun b o e n hb hx => ?_,fun b o e n hx => ?_,fun b o e hx => ?_,fun b xs e => ?_,fun b o u e => ?_,fun b ps e => ?_⟩
  ·obtain ⟨sl,z⟩:=B.slot b o e n hb hx
   exact ⟨sl,(hs.2 b (nC b o e)).trans z⟩
  ·rw [zai (nD b o e)];exact B.free b o e n hx
  ·obtain ⟨o',z⟩:=B.there b o e hx
   exact ⟨o',(hs.2 b (nC b o e)).trans z⟩
  ·have z:=B.tups b xs e
   rw [zai (tD b _ z)];exact z
  ·have z:=B.frzs b o u e
   rw [zai (tD b _ z)];exact z
  ·obtain ⟨more,z⟩:=B.tbls b ps e
   exact ⟨more,by rw [zai (tD b _ z)];exact z⟩
 ·intro b u e
  by_cases hb:b=D
  ·subst hb
   rw [zak] at e;obtain rfl:=Option.some.inj e
   exact ⟨hz,its,k,rv,(hs.2 b hDC).trans hd⟩
  ·rw [zai hb] at e
   refine (J.hok b u e).stay (fun c v hc z=>(hs.2 c ?_).trans z) (fun c z=>by rw [zai (tD c _ z)];exact z) (fun c xs z=>by rw [zai (tD c _ z)];exact z)
   rcases hc with hc|hc
   ·rw [hc];exact tC b u e
   ·exact tC c _ hc
end
def compR (cap:List (Option Nat))(g:TG)(te:TE)(σ : St)(Q:VK):It→Hp→Prop:=fun J H1 => ∃ W:Nat→Nat→List V→St→Hp→Prop,(∃ m,W 0 m [] (zdu cap σ) H1)∧∀ i m ys σ' H',W i m ys σ' H'→ys.length<sizeLine ∧
 (
  (J.stop i H'∧∀ D,H' D=none→Q (.ref D) (upd H' D (.lst ys))) ∨
  (J.go i H'∧∀ x H2,J.yld i H' x H2→g x σ' H2 fun σ2 H3=>te σ2 H3 fun y H4 => ∃ m',m'<m∧W (i+1) m' (ys++[y]) σ2 H4))
def zfQ (cap:List (Option Nat))(wi:TI)(g:TG)(te:TE):TE:=fun σ H Q=>wi σ H (compR cap g te σ Q)
def zh9 (cap:List (Option Nat))(g:TG)(tt:TT)(te:TE)(σ : St)(Q:VK):It→Hp→Prop:=fun J H1 => ∃ W:Nat→Nat→List V→St→Hp→Prop,(∃ m,W 0 m [] (zdu cap σ) H1)∧∀ i m ys σ' H',W i m ys σ' H'→ys.length<sizeLine ∧
 (
  (J.stop i H'∧∀ D,H' D=none→Q (.ref D) (upd H' D (.lst ys))) ∨
  (J.go i H'∧∀ x H2,J.yld i H' x H2→g x σ' H2 fun σ2 H3=>tt σ2 H3 fun b H4=>if b=true then te σ2 H4 (fun y H5 => ∃ m',m'<m∧W (i+1) m' (ys++[y]) σ2 H5) else ∃ m',m'<m∧W (i+1) m' ys σ2 H4))
def zhz (cap:List (Option Nat))(wi:TI)(g:TG)(tt:TT)(te:TE):TE:=fun σ H Q=>wi σ H (zh9 cap g tt te σ Q)
section
variable {X:Cx}{tg iter elt c:Expr}{scope:Scope}{pos:Pos}{wi:TI}{g:TG}{te:TE}{tt:TT}
noncomputable def zc6 (X:Cx)(pins:List (Addr×Obj))(σ : St)(Q:VK)(use:Option (Value→Sem Unit))(R:Value→Shared→Prop):Prop :=
 ∀ (C D:Addr) (m:Str→Option Value) (s5:Shared) (r:Flow),s5.heap.Ns C m→¬ C=X.env.locals→C∉X.fs→X.s₀.heap.objs.size≤C→(∀ x c,X.env.cells.lookup x=some c→c≠C)→(∀ p∈X.pn++pins,p.1≠C) →
  (∀ h',Heap.SameBut C s5.heap h'→EP X pins σ (fun v H'=>H' C=none∧Q v H') (.ref D) { s5 with heap:=h' })→compPost (model X.prog X.w) X.A X.xe use R (.ref D) C (.ok r) s5
theorem zgl {pins:List (Addr×Obj)}{σ : St}{Q:VK}:zc6 X pins σ Q none (EP X pins σ Q):=fun C D m s5 r hm _ _ _ _ _ k=>⟨m,hm,fun h' hs'=>by
 refine zc2d (k h' hs') fun v H' I' rv _ q => ?_
 exact ⟨v,H',I',rv,q⟩⟩
noncomputable def TurnI (X:Cx)(tg elt:Expr)(it acc:Value)(env:Env)(R:Result→Shared→Prop)(I:Nat→Shared→Prop)(test:(Bool→Shared→Prop)→Shared→Prop)(n:Nat)(s:Shared):Prop :=
 let E:Value→Shared→Prop:=notedBy (model X.prog X.w) X.A env fun e s'=>R (.error e) s'
 wpAny (model X.prog X.w) X.A (pyNext it) (fun r s1=>match r with
  | none=>R (.ok .next) s1
  | some v=>wpAny (model X.prog X.w) X.A (letOwnedTupleGo tg it v) (fun _ s2=>wpAny (model X.prog X.w) X.A (assign tg env v) (fun _ s3=>test (fun ok s4=>if ok=true then wpAny (model X.prog X.w) X.A (eval elt env) (fun x s5=>wpAny (model X.prog X.w) X.A (call (.builtin "list.append") [acc,x]) (fun _ s6 => ∃ m,m<n∧I m s6) E s5) E s4 else ∃ m,m<n∧I m s4) s3) E s2) E s1) E s
theorem zgD {ifs:List Expr}(N:List Str){test:Env→(Result→Shared→Prop)→(Bool→Shared→Prop)→Shared→Prop}
 (lp:∀ {it acc:Value} {env:Env} {R:Result→Shared→Prop} {s:Shared} (I:Nat→Shared→Prop),(∀ n s,I n s→TurnI X tg elt it acc env R I (test env R) n s)→∀ n,I n s→codeAny (model X.prog X.w) X.A (.compLoop (.ListComp elt [⟨tg,iter,ifs,0⟩] scope pos) 0 it acc env) R s)
 (ht:∀ cl C s H ex {pins:List (Addr×Obj)} {s7:Shared} {σ7:St} {H7:Hp} {R:Result→Shared→Prop} {q:Bool→Hp→Prop} {Q:Bool→Shared→Prop},zcK X C s H ex→(∀ e s',zd4 X C e s'→R (.error e) s')→Inv (zap X scope N cl C s H ex) pins σ7 H7 s7→tt σ7 H7 q→(∀ b s8 H8,Inv (zap X scope N cl C s H ex) pins σ7 H8 s8→q b H8→Q b s8)→test (compEnvC scope cl C X.env) R Q s7)
 (cap:List (Option Nat)) (hc:X.calm=true) (okB:zaX scope X.env N X.N cap=true) (hi:PI X tg iter wi) (hg:∀ cl C s H ex,PG (zap X scope N cl C s H ex) tg g) (he:∀ cl C s H ex,zcK X C s H ex→PE (zap X scope N cl C s H ex) elt te)
 (hs:∀ x,foldedSetIterable iter X.env x=pure x) {use:Option (Value→Sem Unit)} {R:Value→Shared→Prop} {fpos:Pos} {pins:List (Addr×Obj)} {s:Shared} {σ : St} {H:Hp} {Q:VK} (I:Inv X pins σ H s) (h:zhz cap wi g tt te σ H Q) (fin:zc6 X pins σ Q use R) :
 wpAny (model X.prog X.w) X.A (comprehension (.ListComp elt [⟨tg,iter,ifs,0⟩] scope pos) scope X.env fpos (newList []) false (eval iter X.env) use) R X.xe s:=by
 have ok:=CompOk.of okB
 obtain ⟨cl0,hcl,hcl1,hcl2⟩:=zh1 X.env scope fun y hy hf=>I.ok.has y.1 (ok.free y hy hf)
 refine wpAny_comprehension_free (use:=use) rfl hs hcl ok.kind ok.loc (thn (hi pins s σ H _ I h) fun xv s1 h1=>thn h1 fun itv s2 h2 => ?_)
 obtain ⟨it,fp,tn,J,H2,e,I2,T,st2,f2,W,⟨m0,w0⟩,turn⟩:=h2
 subst e
 have hlt:∀ b∈fp,b<s2.heap.objs.size:=fun b hb=>let ⟨_,e,_⟩:=T.obj _ _ st2 b hb;Heap.lt_size e
 refine wpAny_newObj_type (zbK ?_)
 dsimp only
 generalize hP:s2.heap.push { cls:=.type "list",dict:=none,data:=.seq ([]:List Value).toArray }=P2
 have hC:P2.objs.size=s2.heap.objs.size+1:=by rw [← hP,Heap.size_push]
 have hDC:s2.heap.objs.size≠P2.objs.size:=by rw [hC];exact Nat.ne_of_lt (Nat.lt_succ_self _)
 have hCle:s2.heap.objs.size≤P2.objs.size:=by rw [hC];exact Nat.le_succ _
 have below:∀ b,b<s2.heap.objs.size→b≠P2.objs.size∧b≠s2.heap.objs.size:=fun b hb=>⟨by rw [hC];exact Nat.ne_of_lt (Nat.lt_succ_of_lt hb),Nat.ne_of_lt hb⟩
 have hcc:CellsAt scope X.env (cellsFrom (P2.objs.size+1) scope.names cl0) P2.objs.size (pushCells (P2.push { cls:=.type "dict",data:=.dict #[] }) scope.names) :=
  ze5 hcl1 hcl2 I2.ok.inj (fun x c e=>Nat.le_trans (Nat.le_of_lt (let ⟨_,_,ho,_⟩:=I2.cell x c e;Heap.lt_size ho)) hCle) (Heap.size_push ..) ok.cell
 have hns1:(pushCells (P2.push { cls:=.type "dict",data:=.dict #[] }) scope.names).Ns P2.objs.size (fun _=>none):=(Heap.Ns.new P2 (.type "dict")).keeps (pushCells_keeps _ _)
 generalize cellsFrom (P2.objs.size+1) scope.names cl0=cl at hcc ⊢
 have old:∀ b o,s2.heap.get? b=some o→(pushCells (P2.push { cls:=.type "dict",data:=.dict #[] }) scope.names).get? b=some o:=fun b o e=>pushCells_keeps _ _ b o (Heap.get?_push_of_some _ (hP ▸ Heap.get?_push_of_some _ e))
 have hacc:(pushCells (P2.push { cls:=.type "dict",data:=.dict #[] }) scope.names).get? s2.heap.objs.size=some { cls:=.type "list",data:=.seq ([]:List Value).toArray 0 }:=pushCells_keeps _ _ _ _ (Heap.get?_push_of_some _ (hP ▸ Heap.get?_push_size _ rfl))
 generalize pushCells (P2.push { cls:=.type "dict",data:=.dict #[] }) scope.names=g1 at hcc hns1 old hacc ⊢
 have stat:∀ {H':Hp} {pl:List (Addr×Obj)},(∀ b∈fp,H' b=none)→(∀ p∈pl,p.1∉fp)→∀ b∈fp,FpOk (zap X scope N cl P2.objs.size s2 H2 fp) pl H' b:=fun {H' pl} hn hp b hb=>by
  refine ⟨hn b hb,(below b (hlt b hb)).1,fun z => ?_,.inl hb,fun x c e => ?_,fun p hq z => ?_⟩
  ·rcases List.mem_cons.mp (I2.stkSub b z) with q|q
   ·exact (f2 b hb).2.1 q
   ·exact (f2 b hb).2.2.1 q
  ·rcases hcc.from_ x c e with ⟨q,_⟩|⟨q,_⟩
   ·exact (f2 b hb).2.2.2.2.1 x c q
   ·exact Nat.ne_of_gt (Nat.lt_trans (Nat.lt_of_lt_of_le (hlt b hb) hCle) q)
  ·have hq:p∈([]:List (Addr×Obj))++pl:=hq
   rw [List.nil_append] at hq
   exact hp p hq (by rw [z];exact hb)
 have nD:s2.heap.objs.size∉fp:=fun z=>absurd (hlt _ z) (Nat.lt_irrefl _)
 have loop:∀ s3:Shared,s3={ s2 with heap:=g1 } →
  codeAny (model X.prog X.w) X.A (.compLoop (.ListComp elt [⟨tg,iter,ifs,0⟩] scope pos) 0 (.ref it) (.ref s2.heap.objs.size) (compEnvC scope cl P2.objs.size X.env))
   (compPost (model X.prog X.w) X.A X.xe use R (.ref s2.heap.objs.size) P2.objs.size) s3:=by
  rintro s3 rfl
  have I0:=zgE (tk:=s2.toks) ok I2 f2 hlt hcc hCle old hns1
  refine lp (fun n s' => ∃ i ys its k σ' H',Inv (zap X scope N cl P2.objs.size s2 H2 fp) [] σ' H' s'∧tn i s'.heap∧(∀ b∈fp,H' b=none)∧s'.heap.get? s2.heap.objs.size=some { cls:=.type "list",data:=.seq (List.toArray its) k } ∧
   H' s2.heap.objs.size=none∧Vals ys its∧W i n ys σ' H') ?_ m0
   ⟨0,[],[],0,zdu cap σ,H2,I0,T.keep _ _ _ st2 (fun b _ o e=>old b o e),fun b hb=>(f2 b hb).1,hacc,I2.hok.fresh (Nat.le_refl _),.nil,w0⟩
  have cat:zcK X P2.objs.size s2 H2 fp:=⟨_,_,I2,f2,hCle⟩
  have ce:∀ e s',zd4 X P2.objs.size e s'→compPost (model X.prog X.w) X.A X.xe use R (.ref s2.heap.objs.size) P2.objs.size (.error e) s':=fun e s' h=>by cases use<;>exact h
  have xe:∀ e s',(zap X scope N cl P2.objs.size s2 H2 fp).xe e s'→notedBy (model X.prog X.w) X.A (compEnvC scope cl P2.objs.size X.env) (fun e s'=>compPost (model X.prog X.w) X.A X.xe use R (.ref s2.heap.objs.size) P2.objs.size (.error e) s') e s':=fun e s' h=>wpAny_mono h (fun _ s2 q=>ce e s2 q) fun e s2 q=>ce e s2 q
  rintro n s4 ⟨i,ys,its,k,σ4,H4,I4,st4,fr4,hd4,hn4,rv4,w4⟩
  obtain ⟨hz,tn4⟩:=turn i n ys σ4 H4 w4
  have J4:Inv (zap X scope N cl P2.objs.size s2 H2 fp) [(s2.heap.objs.size,{ cls:=.type "list",data:=.seq its.toArray k })] σ4 H4 s4:=I4.pins_of fun p hp=>by
   have e:=List.mem_singleton.mp hp
   subst e
   refine ⟨hd4,hn4,hDC,?_,fun v z=>by cases z⟩
   exact fun z=>absurd (Nat.lt_of_lt_of_le (by
    rcases List.mem_cons.mp (I2.stkSub _ z) with q|q
    ·exact Nat.lt_of_le_of_lt (Nat.le_of_eq q) I2.lt
    ·obtain ⟨_,o,ho,_⟩:=I2.ok.funs.mem q
     exact Nat.lt_of_lt_of_le (Heap.lt_size ho) I2.sz) (Nat.le_refl s2.heap.objs.size)) (Nat.lt_irrefl _)
  have np:∀ p ∈ [(s2.heap.objs.size,({ cls:=.type "list",data:=.seq its.toArray k }:Obj))],p.1∉fp:=fun p hp=>by
   have e:=List.mem_singleton.mp hp
   subst e;exact nD
  rcases tn4 with ⟨stop,qn⟩|⟨go,step⟩
  ·refine wpAny_mono (T.done (zap X scope N cl P2.objs.size s2 H2 fp) rfl rfl rfl hc i _ s4 σ4 H4 (fun _ _=>False) J4 (stat fr4 np) st4 stop) (fun r s5 h5 => ?_) fun _ _ f=>f.elim
   obtain ⟨rfl,I5⟩:=h5
   obtain ⟨m,hm,_⟩:=id I5.loc
   have p5:=I5.pin (s2.heap.objs.size,_) (List.mem_append_right _ List.mem_cons_self)
   refine fin _ _ m _ _ hm (Nat.ne_of_gt (Nat.lt_of_lt_of_le I2.lt hCle)) (I2.nofs hCle) (Nat.le_trans I2.sz hCle) (fun x c e z => ?_) (fun p hp z => ?_) fun h' hs'=>zgt I2 f2 hCle (Nat.le_refl _) hDC (I5.pins_of fun p hp=>nomatch hp) p5.1 p5.2.1 rv4 (Nat.le_of_lt hz) hs' ⟨by rw [zai (Ne.symm hDC)];exact I5.free,qn _ p5.2.1⟩
   ·obtain ⟨v,o,ho,hd⟩:=I2.cell x c e
    have:=Heap.lt_size ho
    rw [z] at this
    exact absurd (Nat.lt_of_lt_of_le this hCle) (Nat.lt_irrefl _)
   ·have:=Heap.lt_size (I2.pin p hp).1
    rw [z] at this
    exact absurd (Nat.lt_of_lt_of_le this hCle) (Nat.lt_irrefl _)
  ·refine wpAny_mono (T.item (zap X scope N cl P2.objs.size s2 H2 fp) rfl rfl rfl hc i _ s4 σ4 H4 (fun _ _=>False) J4 (stat fr4 np) st4 go) (fun r s5 h5 => ?_) fun _ _ f=>f.elim
   obtain ⟨u,rfl,h5⟩:=h5
   refine wpAny_mono h5 (fun _ s6 h6 => ?_) fun _ _ f=>f.elim
   obtain ⟨x,H6,I6,r6,y6,st6,fr6⟩:=h6
   have I6':=I6.pinned (stat fr6 np) (T.obj _ _ st6)
   refine wpAny_mono (hg cl P2.objs.size s2 H2 fp _ s6 σ4 H6 x u _ I6' r6 (step x H6 y6)) (fun _ s7 h7 => ?_) xe
   obtain ⟨σ7,H7,I7,q7⟩:=h7
   refine ht cl P2.objs.size s2 H2 fp cat ce I7 q7 fun bv s8 H8 I8 q8 => ?_
   have keepT:∀ (H9:Hp) (s9:Shared) (σ9:St),Inv (zap X scope N cl P2.objs.size s2 H2 fp) ([(s2.heap.objs.size,{ cls:=.type "list",data:=.seq its.toArray k })]++zcI fp s6.heap) σ9 H9 s9→(∀ b∈fp,∀ o,s6.heap.get? b=some o→s9.heap.get? b=some o)∧∀ b∈fp,H9 b=none:=fun H9 s9 σ9 I9=>by
    refine ⟨fun b hb o e=>(I9.pin (b,o) (List.mem_append_right _ (List.mem_append_right _ (zbs hb e)))).1,fun b hb => ?_⟩
    obtain ⟨o,e,d⟩:=T.obj _ _ st6 b hb
    exact (I9.pin (b,o) (List.mem_append_right _ (List.mem_append_right _ (zbs hb e)))).2.1
   have p8:=I8.pin (s2.heap.objs.size,_) (List.mem_append_right _ (List.mem_append_left _ List.mem_cons_self))
   cases bv with
   | false =>
    rw [if_neg (by simp)] at q8 ⊢
    obtain ⟨m',hm',w8⟩:=q8
    obtain ⟨z1,z2⟩:=keepT _ _ _ I8
    exact ⟨m',hm',i+1,ys,its,k,σ7,H8,I8.pins_of (fun p hp=>nomatch hp),T.keep _ _ _ st6 z1,z2,p8.1,p8.2.1,rv4,w8⟩
   | true =>
    rw [if_pos rfl] at q8 ⊢
    refine wpAny_mono (he cl P2.objs.size s2 H2 fp cat _ s8 σ7 H8 _ I8 q8) (fun yv s9 h9 => ?_) xe
    obtain ⟨y,H9,I9,ry,m',hm',w9⟩:=h9
    have p9:=I9.pin (s2.heap.objs.size,_) (List.mem_append_right _ (List.mem_append_left _ List.mem_cons_self))
    have hl:=rv4.length
    refine append_at (hsz:=by show its.toArray.size≤sizeLine;rw [List.size_toArray,← hl];exact Nat.le_of_lt hz) p9.1 fun h10 hs10 hd10 => ?_
    have I10:Inv (zap X scope N cl P2.objs.size s2 H2 fp) [] σ7 H9 { s9 with heap:=h10 }:=(I9.pins_of (pins':=[]) fun p hp=>nomatch hp).turned (t':=s9.toks) (it:=s2.heap.objs.size) (fun b o hb e=>(hs10.2 b hb).trans e) p9.2.1 hDC (.inr (Nat.le_refl _))
     (fun x c e z=>by
      obtain ⟨v,o,ho,hd⟩:=I9.cell x c e
      rw [z,p9.1] at ho;cases ho;cases hd) (fun p hp=>absurd hp (by show ¬ p∈([]:List (Addr×Obj))++[];simp))
    obtain ⟨z1,z2⟩:=keepT _ _ _ I9
    refine ⟨m',hm',i+1,ys++[y],its++[yv],k+1,σ7,H9,I10,T.keep _ _ _ st6 (fun b hb o e => ?_),z2,?_,p9.2.1,Vals.append rv4 (.cons ry .nil),w9⟩
    ·have hb':b≠s2.heap.objs.size:=fun z=>nD (by rw [← z];exact hb)
     exact (hs10.2 b hb').trans (z1 b hb o e)
    ·refine hd10.trans ?_
     simp
 exact codeAny_compStart_list (loop _ rfl) (T.self _ 0 _ _ _ (T.keep _ _ _ st2 (fun b _ o e=>old b o e)) (loop _ rfl))
theorem zfO (N:List Str)(cap:List (Option Nat))(hc:X.calm=true)(okB:zaX scope X.env N X.N cap=true)(hi:PI X tg iter wi)(hg:∀ cl C s H ex,PG (zap X scope N cl C s H ex) tg g)(he:∀ cl C s H ex,zcK X C s H ex→PE (zap X scope N cl C s H ex) elt te)
 (hs:∀ x,foldedSetIterable iter X.env x=pure x) {use:Option (Value→Sem Unit)} {R:Value→Shared→Prop} {fpos:Pos} {pins:List (Addr×Obj)} {s:Shared} {σ : St} {H:Hp} {Q:VK} (I:Inv X pins σ H s) (h:zfQ cap wi g te σ H Q) (fin:zc6 X pins σ Q use R) :
 wpAny (model X.prog X.w) X.A (comprehension (.ListComp elt [⟨tg,iter,[],0⟩] scope pos) scope X.env fpos (newList []) false (eval iter X.env) use) R X.xe s :=
 zgD (tt:=fun _ H q=>q true H) (test:=fun _ _ Q s=>Q true s) N (fun I turn n h=>PySem.W.kcp_loop I turn n h) (fun _ _ _ _ _ _ _ _ _ _ _ _ _ _ I q k=>k true _ _ I q) cap hc okB hi hg he hs I h fin
theorem zgJ (N:List Str)(cap:List (Option Nat))(hc:X.calm=true)(okB:zaX scope X.env N X.N cap=true)(hi:PI X tg iter wi)(hg:∀ cl C s H ex,PG (zap X scope N cl C s H ex) tg g)(he:∀ cl C s H ex,zcK X C s H ex→PE (zap X scope N cl C s H ex) elt te)
 (hs:autoParam (∀ x,foldedSetIterable iter X.env x=pure x) zaw._auto_1):PE X (.ListComp elt [⟨tg,iter,[],0⟩] scope pos) (zfQ cap wi g te):=by
 intro pins s σ H Q I h
 rw [eval_ListComp]
 exact zfO N cap hc okB hi hg he hs I h zgl
theorem zhP (N:List Str)(cap:List (Option Nat))(hc:X.calm=true)(okB:zaX scope X.env N X.N cap=true)(hi:PI X tg iter wi)(hg:∀ cl C s H ex,PG (zap X scope N cl C s H ex) tg g)(he:∀ cl C s H ex,PE (zap X scope N cl C s H ex) elt te)
 (hs:autoParam (∀ x,foldedSetIterable iter X.env x=pure x) zaw._auto_1):PE X (.ListComp elt [⟨tg,iter,[],0⟩] scope pos) (zfQ cap wi g te):=zgJ N cap hc okB hi hg (fun cl C s H ex _=>he cl C s H ex) hs
end
end L2
namespace L2
open PySem PySem.Spec PyProof.Rows
section
variable {X:Cx}
theorem zg9:zat X (.builtin "isinstance") (fun xs H Q => ∃ x n t b,xs=[x,.ty n]∧TyOf X.K H x t∧PySem.W.kitOne X.K t (.type n)=some b∧Q (.bl b) H):=by
 intro pins s σ H xs us Q I r h
 refine zc4a h fun x n t b zz=>zc0d zz fun zr4 ty e q => ?_
 obtain rfl:=zr4
 refine zc2c (zi7 r) fun u w' zr2 rx rn => ?_
 obtain rfl:=zr2
 obtain rfl:w'=Value.type n:=rn
 exact zfd I rx ty e fun tk=>⟨.bl b,H,I.tok tk,rfl,q⟩
def zaz (P:Program)(w:World)(K:PySem.W.Frag)(mg:Str→Option Value)(base:Heap)(name:Str)(k:Nat)(ps:List Str)(sp:Sp):Prop :=
 ∃ f fd,FnOk P w K mg base CX0 k f fd ps sp∧zbV K fd ps []∧PySem.W.keepIn K (.ref f)=true∧mg name=some (.ref f)
theorem zaz.mono {P:Program}{w:World}{K:PySem.W.Frag}{mg:Str→Option Value}{base:Heap}{name:Str}{j k:Nat}{ps:List Str}{sp:Sp}(c:zaz P w K mg base name j ps sp)(h:j≤k):zaz P w K mg base name k ps sp:=by
 refine zc2b c fun f fd F r => ?_
 exact ⟨f,fd,F.mono h,r⟩
theorem zjC {name:Str}{k:Nat}{ps:List Str}{sp:Sp}{p pos:Pos}{e:Expr}{es:List Expr}{t:TA}(c:zaz X.prog X.w X.K X.mg X.base name k ps sp)(hr:Room k X.A)(hg:Gl X name)(ha:PA X (e::es) t)
 (hdb:autoParam ((name == ("__debug__" : Str))=false) zav._auto_1) (he:starEach (e::es) X.env=(false,eval e X.env)::starEach es X.env:=by rfl) (hpl:(backTo pos (starEach es X.env)).any (·.1)=false:=by rfl) :
 PE X (.Call (.Name name p) (e::es) [] pos) (zhG sp [] E0 t):=by
 refine zc2d c fun f fd F b hk hm => ?_
 exact zeT F hr hg hm hk b .nil zkl ha hdb he hpl
end
theorem zaH {H:Hp}{p:Addr}(h:H p=none)(o:HO):Same H (upd H p o):=fun b u q=>by rw [zai (zan q h)];exact q
theorem zcq {n:Nat}(h:n≤1000):n≤sizeLine:=Nat.le_of_lt (zdc h)
theorem zc5 {H H':Hp}{l:Addr}(o:HO)(s:Same H H')(h:H l=none):Same H (upd H' l o):=fun b u e=>by
 rw [zai (zan e h)];exact s b u e
theorem zbC:bootBuiltins "len" = some (.builtin "len"):=boot_len
theorem zjQ:bootBuiltins "max" = some (.builtin "max"):=boot_max
theorem zj8:bootBuiltins "min" = some (.builtin "min"):=boot_min
theorem zaO:bootBuiltins "isinstance" = some (.builtin "isinstance"):=boot_isinstance
theorem zjI:bootBuiltins "sum" = some (.builtin "sum"):=boot_sum
theorem zhe:bootBuiltins "str" = some (.type "str"):=boot_str
theorem zb5:bootBuiltins "list" = some (.type "list"):=boot_list
theorem zg0:bootBuiltins "tuple" = some (.type "tuple"):=boot_tuple
end L2
namespace L2
open PySem PySem.Spec PyProof.Rows
noncomputable def Once (r:List (Int×Int)):Prop:=(r.map (·.1)).Nodup
end L2
namespace L2.DL
open PySem PySem.Spec PyProof.Rows
theorem zbr {c:Prop}{_:Decidable c}{α : Type}{a z : α}(h:(if c then some a else none)=some z):c∧a=z:=by
 by_cases q:c
 ·rw [if_pos q] at h;exact ⟨q,Option.some.inj h⟩
 ·rw [if_neg q] at h;exact zqn h
inductive D where
 | non|bl (b:Bool)|int (i:Int)|str (x:Str)|ty (n:String)|scr (ns:List Int)
 | tup (ds:List D)|lst (ds:List D)|dct (ks:List Key) (ds:List D)|ins (c:Str) (fs:List Str) (ds:List D)
 | exc (c:Str)|ucl (c:Str)
 | adr (a:Addr)|dcf (ks:List Key) (ds:List D)
inductive Res (α : Type) where
 | ok (a : α)|ex (c:Str) (fs:List D)|no
noncomputable def Res.bind {α β : Type}(r:Res α)(g : α → Res β):Res β := match r with
 | .ok a=>g a
 | .ex c fs=>.ex c fs
 | .no=>.no
noncomputable def Res.need {α : Type}(r:Res α)(p : α → Prop)(q:Str→List D→Prop):Prop:=match r with
 | .ok a=>p a
 | .ex c fs=>q c fs
 | .no=>False
@[simp] theorem Res.bind_ok {α β : Type}(a : α)(g : α → Res β):(Res.ok a).bind g=g a:=rfl
@[simp] theorem Res.bind_ex {α β : Type}(c:Str)(fs:List D)(g : α → Res β):(Res.ex c fs:Res α).bind g=.ex c fs:=rfl
theorem Res.need_bind {α β : Type}{r:Res α}{g : α → Res β}{p : β → Prop}{q:Str→List D→Prop}(h:(r.bind g).need p q):r.need (fun a=>(g a).need p q) q:=by
 cases r<;>exact h
theorem Res.need.mono {α : Type}{r:Res α}{p p' : α → Prop}{q q':Str→List D→Prop}(h:r.need p q)(hp:∀ a,p a→p' a)(hq:∀ c fs,q c fs→q' c fs):r.need p' q':=by
 cases r with
 | ok a=>exact hp a h
 | ex c fs=>exact hq c fs h
 | no=>exact h
theorem Res.need.monoE {α : Type}{r:Res α}{p p' : α → Prop}{q q':Str→List D→Prop}(h:r.need p q)(hp:∀ a,r=.ok a→p a→p' a)(hq:∀ c fs,q c fs→q' c fs):r.need p' q':=by
 cases r with
 | ok a=>exact hp a rfl h
 | ex c fs=>exact hq c fs h
 | no=>exact h
noncomputable def ExcO (C x:Addr):HO:=.ext fun h => ∃ o,h.get? x=some o∧o.cls=.ref C
noncomputable def TupD (_:PySem.W.Frag)(H:Hp)(a:Addr)(xs:List V):Prop:=H a=some (.tup xs)
theorem TupD.same {K:PySem.W.Frag}{H H':Hp}{a:Addr}{xs:List V}(e:Same H H')(h:TupD K H a xs):TupD K H' a xs:=e _ _ h
theorem TupD.of {K:PySem.W.Frag}{H:Hp}{a:Addr}{xs:List V}(h:H a=some (.tup xs)):TupD K H a xs:=h
theorem TupD.sq {K:PySem.W.Frag}{H:Hp}{a:Addr}{xs:List V}(h:TupD K H a xs):SqT K H a xs:=SqT.of h
noncomputable def LstD (_:PySem.W.Frag)(H:Hp)(a:Addr)(xs:List V):Prop:=Rd H a (.lst xs)
theorem LstD.same {K:PySem.W.Frag}{H H':Hp}{a:Addr}{xs:List V}(e:Same H H')(h:LstD K H a xs):LstD K H' a xs:=h.imp (fun q=>e _ _ q) (by rintro ⟨o,q⟩;exact ⟨o,e _ _ q⟩)
theorem LstD.of {K:PySem.W.Frag}{H:Hp}{a:Addr}{xs:List V}(h:H a=some (.lst xs)):LstD K H a xs:=.inl h
theorem LstD.sq {K:PySem.W.Frag}{H:Hp}{a:Addr}{xs:List V}(h:LstD K H a xs):SqL K H a xs:=.inl h
section
variable (K:PySem.W.Frag)
mutual
noncomputable def IsD (H:Hp):D→V→Prop
 | .non,v=>v=.non
 | .bl b,v=>v=.bl b
 | .int i,v=>v=.int i
 | .str x,v=>v=.str x
 | .ty n,v=>v=.ty n
 | .scr ns,v => ∃ a,v=.ref a∧SqL K H a (ns.map V.int)
 | .tup ds,v => ∃ a xs,v=.ref a∧TupD K H a xs∧IsDs H ds xs
 | .lst ds,v => ∃ a xs,v=.ref a∧LstD K H a xs∧IsDs H ds xs
 | .dct ks ds,v => ∃ a xs,v=.ref a∧H a=some (.dK (ks.zip xs))∧ks.length=xs.length∧IsDs H ds xs
 | .ins c fs ds,v => ∃ a C dx xs,v=.ref a∧PySem.W.nsIn K mainGlobals c=some (some (.ref C))∧H a=some (.ins C dx (fs.zip xs))∧fs.length=xs.length∧IsDs H ds xs
 | .exc c,v => ∃ a C,v=.ref a∧PySem.W.nsIn K mainGlobals c=some (some (.ref C))∧H a=some (ExcO C a)
 | .ucl c,v => ∃ C,v=.ref C∧PySem.W.nsIn K mainGlobals c=some (some (.ref C))
 | .adr a,v=>v=.ref a
 | .dcf ks ds,v => ∃ a o xs,v=.ref a∧H a=some (.frz o (.dK (ks.zip xs)))∧ks.length=xs.length∧IsDs H ds xs
noncomputable def IsDs (H:Hp):List D→List V→Prop
 | [],xs=>xs=[]
 | d::ds,xs => ∃ x r,xs=x::r∧IsD H d x∧IsDs H ds r
end
end
section
variable {K:PySem.W.Frag}{H H':Hp}
theorem IsD.non_iff {v:V}:IsD K H .non v↔v=.non:=.rfl
theorem IsD.bl_iff {b:Bool}{v:V}:IsD K H (.bl b) v↔v=.bl b:=.rfl
theorem IsD.int_iff {i:Int}{v:V}:IsD K H (.int i) v↔v=.int i:=.rfl
theorem IsD.str_iff {x:Str}{v:V}:IsD K H (.str x) v↔v=.str x:=.rfl
theorem IsD.ty_iff {n:String}{v:V}:IsD K H (.ty n) v↔v=.ty n:=.rfl
theorem IsD.scr_iff {ns:List Int}{v:V}:IsD K H (.scr ns) v↔∃ a,v=.ref a∧SqL K H a (ns.map V.int):=.rfl
theorem IsD.tup_iff {ds:List D}{v:V}:IsD K H (.tup ds) v↔∃ a xs,v=.ref a∧TupD K H a xs∧IsDs K H ds xs:=.rfl
theorem IsD.lst_iff {ds:List D}{v:V}:IsD K H (.lst ds) v↔∃ a xs,v=.ref a∧LstD K H a xs∧IsDs K H ds xs:=.rfl
theorem IsD.dct_iff {ks:List Key}{ds:List D}{v:V}:IsD K H (.dct ks ds) v↔∃ a xs,v=.ref a∧H a=some (.dK (ks.zip xs))∧ks.length=xs.length∧IsDs K H ds xs:=.rfl
theorem IsD.ins_iff {c:Str}{fs:List Str}{ds:List D}{v:V}:IsD K H (.ins c fs ds) v↔∃ a C dx xs,v=.ref a∧PySem.W.nsIn K mainGlobals c=some (some (.ref C))∧H a=some (.ins C dx (fs.zip xs))∧fs.length=xs.length∧IsDs K H ds xs:=.rfl
theorem IsD.exc_iff {c:Str}{v:V}:IsD K H (.exc c) v↔∃ a C,v=.ref a∧PySem.W.nsIn K mainGlobals c=some (some (.ref C))∧H a=some (ExcO C a):=.rfl
theorem IsD.ucl_iff {c:Str}{v:V}:IsD K H (.ucl c) v↔∃ C,v=.ref C∧PySem.W.nsIn K mainGlobals c=some (some (.ref C)):=.rfl
theorem IsD.adr_iff {a:Addr}{v:V}:IsD K H (.adr a) v↔v=.ref a:=.rfl
theorem IsD.dcf_iff {ks:List Key}{ds:List D}{v:V}:IsD K H (.dcf ks ds) v↔∃ a o xs,v=.ref a∧H a=some (.frz o (.dK (ks.zip xs)))∧ks.length=xs.length∧IsDs K H ds xs:=.rfl
theorem IsDs.nil_iff {xs:List V}:IsDs K H [] xs↔xs=[]:=.rfl
theorem IsDs.cons_iff {d:D}{ds:List D}{xs:List V}:IsDs K H (d::ds) xs↔∃ x r,xs=x::r∧IsD K H d x∧IsDs K H ds r:=.rfl
mutual
theorem IsD.same (e:Same H H'):∀ (d:D) (v:V),IsD K H d v→IsD K H' d v
 | .non,_,h=>h
 | .bl _,_,h=>h
 | .int _,_,h=>h
 | .str _,_,h=>h
 | .ty _,_,h=>h
 | .scr _,_,h=>by
  refine zc1b (IsD.scr_iff.mp h) fun a h1 h2 => ?_
  exact IsD.scr_iff.mpr ⟨a,h1,Same.seq e h2⟩
 | .tup ds,_,h=>by
  refine zc2c (IsD.tup_iff.mp h) fun a xs h1 h2 h3 => ?_
  exact IsD.tup_iff.mpr ⟨a,xs,h1,h2.same e,IsDs.same e ds xs h3⟩
 | .lst ds,_,h=>by
  refine zc2c (IsD.lst_iff.mp h) fun a xs h1 h2 h3 => ?_
  exact IsD.lst_iff.mpr ⟨a,xs,h1,h2.same e,IsDs.same e ds xs h3⟩
 | .dct ks ds,_,h=>by
  refine zc2d (IsD.dct_iff.mp h) fun a xs h1 h2 h4 h3 => ?_
  exact IsD.dct_iff.mpr ⟨a,xs,h1,e _ _ h2,h4,IsDs.same e ds xs h3⟩
 | .ins c fs ds,_,h=>by
  refine zc4a (IsD.ins_iff.mp h) fun a C dx xs zz=>zc0e zz fun h1 h5 h2 h4 h3 => ?_
  exact IsD.ins_iff.mpr ⟨a,C,dx,xs,h1,h5,e _ _ h2,h4,IsDs.same e ds xs h3⟩
 | .exc _,_,h=>by
  refine zc2c (IsD.exc_iff.mp h) fun a C h1 h2 h3 => ?_
  exact IsD.exc_iff.mpr ⟨a,C,h1,h2,e _ _ h3⟩
 | .ucl _,_,h=>h
 | .adr _,_,h=>h
 | .dcf ks ds,_,h=>by
  obtain ⟨a,o,xs,h1,h2,h4,h3⟩:=IsD.dcf_iff.mp h
  exact IsD.dcf_iff.mpr ⟨a,o,xs,h1,e _ _ h2,h4,IsDs.same e ds xs h3⟩
theorem IsDs.same (e:Same H H'):∀ (ds:List D) (xs:List V),IsDs K H ds xs→IsDs K H' ds xs
 | [],_,h=>h
 | d::ds,_,h=>by
  refine zc2c (IsDs.cons_iff.mp h) fun x r h1 h2 h3 => ?_
  exact IsDs.cons_iff.mpr ⟨x,r,h1,IsD.same e d x h2,IsDs.same e ds r h3⟩
end
theorem IsDs.mk {d:D}{ds:List D}{x:V}{xs:List V}(h:IsD K H d x)(r:IsDs K H ds xs):IsDs K H (d::ds) (x::xs):=IsDs.cons_iff.mpr ⟨x,xs,rfl,h,r⟩
theorem IsDs.nil:IsDs K H [] []:=IsDs.nil_iff.mpr rfl
theorem IsDs.length:∀ {ds:List D} {xs:List V},IsDs K H ds xs→xs.length=ds.length
 | [],xs,h=>by rw [IsDs.nil_iff] at h;subst h;rfl
 | d::ds,xs,h=>by
  rw [IsDs.cons_iff] at h
  obtain ⟨x,r,rfl,_,h3⟩:=h
  rw [List.length_cons,List.length_cons,IsDs.length h3]
theorem IsDs.get:∀ {ds:List D} {xs:List V} {i:Nat} {d:D},IsDs K H ds xs→ds[i]? = some d→∃ x,xs[i]? = some x∧IsD K H d x
 | [],_,_,_,_,e=>by exact zqn e
 | d::ds,xs,i,e,h,q=>by
  rw [IsDs.cons_iff] at h
  refine zc2c h fun x r zr2 h2 h3 => ?_
  obtain rfl:=zr2
  cases i with
  | zero=>cases q;exact ⟨x,rfl,h2⟩
  | succ i=>exact IsDs.get (i:=i) h3 q
theorem IsDs.getV {ds:List D}{xs:List V}{i:Nat}{x:V}(h:IsDs K H ds xs)(q:xs[i]? = some x):∃ d,ds[i]? = some d∧IsD K H d x:=by
 have hl:=h.length
 have hi:i<ds.length:=by rw [← hl];exact (List.getElem?_eq_some_iff.mp q).1
 refine zc1b (h.get (List.getElem?_eq_getElem hi)) fun y h1 h2 => ?_
 rw [q] at h1
 obtain rfl:=Option.some.inj h1
 exact ⟨_,List.getElem?_eq_getElem hi,h2⟩
theorem IsDs.append:∀ {ds es:List D} {xs ys:List V},IsDs K H ds xs→IsDs K H es ys→IsDs K H (ds++es) (xs++ys)
 | [],_,xs,_,h,h'=>by rw [IsDs.nil_iff] at h;subst h;exact h'
 | d::ds,_,xs,_,h,h'=>by
  rw [IsDs.cons_iff] at h
  refine zc2c h fun x r zr2 h2 h3 => ?_
  obtain rfl:=zr2
  exact IsDs.mk h2 (IsDs.append h3 h')
theorem IsDs.snoc {ds:List D}{xs:List V}{d:D}{x:V}(h:IsDs K H ds xs)(h':IsD K H d x):IsDs K H (ds++[d]) (xs++[x]):=h.append (.mk h' .nil)
theorem IsDs.ints:∀ (ns:List Int),IsDs K H (ns.map D.int) (ns.map V.int)
 | []=>.nil
 | n::ns=>.mk (IsD.int_iff.mpr rfl) (IsDs.ints ns)
theorem IsDs.ints_iff:∀ {ns:List Int} {xs:List V},IsDs K H (ns.map D.int) xs→xs=ns.map V.int
 | [],_,h=>IsDs.nil_iff.mp h
 | n::ns,xs,h=>by
  rw [List.map_cons,IsDs.cons_iff] at h
  obtain ⟨x,r,rfl,h2,h3⟩:=h
  rw [IsD.int_iff] at h2
  rw [h2,IsDs.ints_iff h3]
  rfl
end
structure Ext (F H F' H':Hp):Prop where
 ff:Same F F'
 fh:Same F' H'
 hh:Same H H'
 new:∀ a,F a=none→H a≠none→F' a=none
theorem Ext.refl {F H:Hp}(h:Same F H):Ext F H F H:=⟨.refl _,h,.refl _,fun _ e _=>e⟩
theorem Ext.trans {F H F1 H1 F2 H2:Hp}(a:Ext F H F1 H1)(b:Ext F1 H1 F2 H2):Ext F H F2 H2 :=
 ⟨a.ff.trans b.ff,b.fh,a.hh.trans b.hh,fun x e n=>b.new x (a.new x e n) (by
  cases q:H x with
  | none=>exact absurd q n
  | some o=>rw [a.hh _ _ q];simp)⟩
theorem zam {F H:Hp}{p:Addr}(h:Same F H)(hp:H p=none):F p=none:=h.free hp
theorem Ext.alloc {F H:Hp}{p:Addr}(h:Same F H)(hp:H p=none)(o:HO):Ext F H (upd F p o) (upd H p o) :=
 ⟨zaH (h.free hp) o,fun b u e=>by
  by_cases q:b=p
  ·subst q;rw [zak] at e ⊢;exact e
  ·rw [zai q] at e ⊢;exact h _ _ e,zaH hp o,fun a e n=>by
  have q:a≠p:=fun z=>n (by rw [z];exact hp)
  rw [zai q];exact e⟩
theorem Ext.keep {F H:Hp}{p:Addr}(h:Same F H)(hp:H p=none)(o:HO):Ext F H F (upd H p o) :=
 ⟨.refl _,h.trans (zaH hp o),zaH hp o,fun _ e _=>e⟩
theorem Ext.grow {F H H':Hp}(h:Same F H)(hh:Same H H'):Ext F H F H':=⟨.refl _,h.trans hh,hh,fun _ e _=>e⟩
inductive SV where
 | val (d:D)|own (p:Bool) (d:D)
structure Bs where
 F0:Hp
 H0:Hp
 pa:Nat→Option (Addr×List V)
abbrev SD:=List (Option SV)
def zbo (K:PySem.W.Frag)(F H:Hp)(l:Addr):D→Prop
 | .lst ds => ∃ xs,H l=some (.lst xs)∧IsDs K F ds xs
 | .dct ks ds => ∃ xs,H l=some (.dK (ks.zip xs))∧ks.length=xs.length∧IsDs K F ds xs
 | .ins c fs ds => ∃ C dx xs,PySem.W.nsIn K mainGlobals c=some (some (.ref C))∧H l=some (.ins C dx (fs.zip xs))∧fs.length=xs.length∧IsDs K F ds xs
 | _=>False
theorem zbo.has {K:PySem.W.Frag}{F H:Hp}{l:Addr}{d:D}(h:zbo K F H l d):∃ o,H l=some o:=by
 cases d with
 | lst ds=>obtain ⟨xs,e,_⟩:=h;exact ⟨_,e⟩
 | dct ks ds=>obtain ⟨xs,e,_⟩:=h;exact ⟨_,e⟩
 | ins c fs ds=>obtain ⟨C,dx,xs,_,e,_⟩:=h;exact ⟨_,e⟩
 | _=>exact False.elim h
theorem zbo.ext {K:PySem.W.Frag}{F H F' H':Hp}{l:Addr}{d:D}(h:zbo K F H l d)(ff:Same F F')(hh:∀ o,H l=some o→H' l=some o):zbo K F' H' l d:=by
 cases d with
 | lst ds=>obtain ⟨xs,e,q⟩:=h;exact ⟨xs,hh _ e,IsDs.same ff _ _ q⟩
 | dct ks ds=>obtain ⟨xs,e,z,q⟩:=h;exact ⟨xs,hh _ e,z,IsDs.same ff _ _ q⟩
 | ins c fs ds=>obtain ⟨C,dx,xs,k,e,z,q⟩:=h;exact ⟨C,dx,xs,k,hh _ e,z,IsDs.same ff _ _ q⟩
 | _=>exact False.elim h
theorem zbo.frz {K:PySem.W.Frag}{F H:Hp}{l:Addr}{d:D}{o:HO}(h:zbo K F H l d)(e:H l=Option.some o)(n:F l=none):IsD K (upd F l o) d (.ref l):=by
 cases d with
 | lst ds =>
  refine zc1b h fun xs e' q => ?_
  rw [e] at e';obtain rfl:=Option.some.inj e'
  exact IsD.lst_iff.mpr ⟨l,xs,rfl,.of zak,IsDs.same (zaH n _) _ _ q⟩
 | dct ks ds =>
  refine zc1c h fun xs e' z q => ?_
  rw [e] at e';obtain rfl:=Option.some.inj e'
  exact IsD.dct_iff.mpr ⟨l,xs,rfl,zak,z,IsDs.same (zaH n _) _ _ q⟩
 | ins c fs ds =>
  refine zc3a h fun C dx xs zz=>zc0d zz fun k e' z q => ?_
  rw [e] at e';obtain rfl:=Option.some.inj e'
  exact IsD.ins_iff.mpr ⟨l,C,dx,xs,rfl,k,zak,z,IsDs.same (zaH n _) _ _ q⟩
 | _=>exact False.elim h
noncomputable def zgG (H:Hp)(l:Addr)(o:Option (Addr×List V)):Prop:=∃ xs,o=some (l,xs)∧H l=some (.lst xs)
structure RS (K:PySem.W.Frag)(B:Bs)(F H:Hp)(sd:SD)(σ : St):Prop where
 ext:Ext B.F0 B.H0 F H
 len : σ.length=sd.length
 val:∀ {i:Nat} {d:D},sd[i]? = some (some (.val d))→∃ v,σ[i]? = some (some v)∧IsD K F d v
 own:∀ {i:Nat} {p:Bool} {d:D},sd[i]? = some (some (.own p d))→∃ l,σ[i]? = some (some (.ref l))∧B.H0 l=none∧F l=none∧zbo K F H l d∧(p=true→zgG H l (B.pa i))
 apart:∀ {i j:Nat} {p q:Bool} {d e:D} {l:Addr},i≠j→sd[i]? = some (some (.own p d))→sd[j]? = some (some (.own q e)) → σ[i]? = some (some (.ref l)) → σ[j]? ≠ some (some (.ref l))
section
variable {K:PySem.W.Frag}{B:Bs}{F H F' H':Hp}{sd:SD}{σ : St}
theorem zgG.mono {l:Addr}{o:Option (Addr×List V)}(h:zgG H l o)(k:∀ u,H l=some u→H' l=some u):zgG H' l o:=let ⟨xs,h1,h2⟩:=h;⟨xs,h1,k _ h2⟩
theorem RS.step (r:RS K B F H sd σ)(e:Ext F H F' H'):RS K B F' H' sd σ where
 ext:=r.ext.trans e
 len:=r.len
 val:=fun h=>let ⟨v,h1,h2⟩:=r.val h;⟨v,h1,IsD.same e.ff _ _ h2⟩
 own:=fun h=>by
  refine zc1e (r.own h) fun l h1 h2 h3 h4 h5 => ?_
  obtain ⟨o,ho⟩:=h4.has
  exact ⟨l,h1,h2,e.new l h3 (by rw [ho];simp),h4.ext e.ff fun o q=>e.hh _ _ q,fun p=>(h5 p).mono fun u q=>e.hh _ _ q⟩
 apart:=r.apart
theorem zag {α : Type}{l:List α}{i j:Nat}{a : α}(h:i≠j):(l.set i a)[j]? = l[j]? := List.getElem?_set_ne h
theorem zaj {α : Type}{l:List α}{i:Nat}{a b : α}(h:(l.set i a)[i]? = some b):b=a∧i<l.length:=by
 have hi:i<l.length:=by
  have:=(List.getElem?_eq_some_iff.mp h).1
  rwa [List.length_set] at this
 rw [List.getElem?_set_self hi] at h
 exact ⟨(Option.some.inj h).symm,hi⟩
theorem RS.setVal {i:Nat}{d:D}{v:V}(r:RS K B F H sd σ)(h:IsD K F d v):RS K B F H (sd.set i (some (.val d))) (σ.set i (some v)) where
 ext:=r.ext
 len:=by rw [List.length_set,List.length_set,r.len]
 val:=fun {j e} q=>by
  by_cases z:i=j
  ·subst z
   obtain ⟨e1,hi⟩:=zaj q
   cases e1
   exact ⟨v,List.getElem?_set_self (by rw [r.len];exact hi),h⟩
  ·rw [zag z] at q ⊢
   exact r.val q
 own:=fun {j p e} q=>by
  by_cases z:i=j
  ·subst z
   obtain ⟨e1,_⟩:=zaj q
   cases e1
  ·rw [zag z] at q ⊢
   exact r.own q
 apart:=fun {j k p1 p2 d1 d2 l} n q1 q2 q3=>by
  have z1:i≠j:=fun z=>by subst z;obtain ⟨e1,_⟩:=zaj q1;cases e1
  have z2:i≠k:=fun z=>by subst z;obtain ⟨e1,_⟩:=zaj q2;cases e1
  rw [zag z1] at q1 q3
  rw [zag z2] at q2 ⊢
  exact r.apart n q1 q2 q3
theorem RS.setOwn {i:Nat}{d:D}{l:Addr}(r:RS K B F H sd σ)(h0:B.H0 l=none)(hf:F l=none)(h:zbo K F H l d)(fr:∀ (j:Nat) (p:Bool) (e:D),sd[j]? = some (some (SV.own p e)) → σ[j]? ≠ some (some (.ref l))) :
 RS K B F H (sd.set i (some (.own false d))) (σ.set i (some (.ref l))) where
 ext:=r.ext
 len:=by rw [List.length_set,List.length_set,r.len]
 val:=fun {j e} q=>by
  by_cases z:i=j
  ·subst z
   obtain ⟨e1,_⟩:=zaj q
   cases e1
  ·rw [zag z] at q ⊢
   exact r.val q
 own:=fun {j p e} q=>by
  by_cases z:i=j
  ·subst z
   obtain ⟨e1,hi⟩:=zaj q
   cases e1
   exact ⟨l,List.getElem?_set_self (by rw [r.len];exact hi),h0,hf,h,fun z=>by cases z⟩
  ·rw [zag z] at q ⊢
   exact r.own q
 apart:=fun {j k p1 p2 d1 d2 m} n q1 q2 q3=>by
  by_cases z1:i=j
  ·subst z1
   obtain ⟨_,hi⟩:=zaj q1
   rw [zag n] at q2 ⊢
   rw [List.getElem?_set_self (by rw [r.len];exact hi)] at q3
   cases q3
   exact fr k p2 d2 q2
  ·rw [zag z1] at q1 q3
   by_cases z2:i=k
   ·subst z2
    obtain ⟨_,hi⟩:=zaj q2
    rw [List.getElem?_set_self (by rw [r.len];exact hi)]
    intro e
    cases e
    exact fr j p1 d1 q1 q3
   ·rw [zag z2] at q2 ⊢
    exact r.apart n q1 q2 q3
theorem RS.chg {i:Nat}{p:Bool}{d d':D}{l:Addr}{o:HO}(r:RS K B F H sd σ)(hi:sd[i]? = some (some (.own p d)))(hl : σ[i]? = some (some (.ref l)))(h:zbo K F (upd H l o) l d') :
 RS K B F (upd H l o) (sd.set i (some (.own false d'))) σ := by
 refine zc1e (r.own hi) fun l' e1 h0 hf _ _ => ?_
 rw [hl] at e1
 cases e1
 have hil:i<sd.length:=(List.getElem?_eq_some_iff.mp hi).1
 refine ⟨⟨r.ext.ff,zc5 o r.ext.fh hf,zc5 o r.ext.hh h0,r.ext.new⟩,by rw [List.length_set,r.len],fun {j e} q => ?_,fun {j p e} q => ?_,fun {j k p1 p2 d1 d2 m} n q1 q2 q3 => ?_⟩
 ·by_cases z:i=j
  ·subst z
   obtain ⟨e1,_⟩:=zaj q
   cases e1
  ·rw [zag z] at q
   exact r.val q
 ·by_cases z:i=j
  ·subst z
   obtain ⟨e1,_⟩:=zaj q
   cases e1
   exact ⟨l,hl,h0,hf,h,fun z=>by cases z⟩
  ·rw [zag z] at q
   refine zc1e (r.own q) fun m m1 m2 m3 m4 m5 => ?_
   have ne:m≠l:=fun e=>r.apart z hi q hl (by rw [← e];exact m1)
   exact ⟨m,m1,m2,m3,m4.ext (.refl _) fun u q'=>by rw [zai ne];exact q',fun p=>(m5 p).mono fun u q'=>by rw [zai ne];exact q'⟩
 ·have g:∀ {j:Nat} {p:Bool} {e:D},(sd.set i (some (.own false d')))[j]? = some (some (.own p e))→∃ p' e',sd[j]? = some (some (.own p' e')):=fun {j p e} q=>by
   by_cases z:i=j
   ·subst z;exact ⟨_,d,hi⟩
   ·rw [zag z] at q;exact ⟨p,e,q⟩
  refine zc2a (g q1) fun _ _ p1 => ?_
  refine zc2a (g q2) fun _ _ p2 => ?_
  exact r.apart n p1 p2 q3
theorem RS.frz1 {i:Nat}{p:Bool}{d:D}(r:RS K B F H sd σ)(hi:sd[i]? = some (some (.own p d))):∃ F',Same F F'∧RS K B F' H (sd.set i (some (.val d))) σ := by
 refine zc1e (r.own hi) fun l hl h0 hf ho _ => ?_
 obtain ⟨o,e⟩:=ho.has
 have hil:i<sd.length:=(List.getElem?_eq_some_iff.mp hi).1
 have sF:Same F (upd F l o):=zaH hf o
 refine ⟨upd F l o,sF,⟨r.ext.ff.trans sF,fun b u q => ?_,r.ext.hh,fun a q1 q2 => ?_⟩,by rw [List.length_set,r.len],fun {j x} q => ?_,fun {j p x} q => ?_,fun {j k p1 p2 d1 d2 m} n q1 q2 q3 => ?_⟩
 ·by_cases z:b=l
  ·subst z;rw [zak] at q;cases q;exact e
  ·rw [zai z] at q;exact r.ext.fh _ _ q
 ·have z:a≠l:=fun z=>q2 (by rw [z];exact h0)
  rw [zai z]
  exact r.ext.new a q1 q2
 ·by_cases z:i=j
  ·subst z
   obtain ⟨e1,_⟩:=zaj q
   cases e1
   exact ⟨_,hl,ho.frz e hf⟩
  ·rw [zag z] at q
   refine zc1b (r.val q) fun v v1 v2 => ?_
   exact ⟨v,v1,IsD.same sF _ _ v2⟩
 ·by_cases z:i=j
  ·subst z
   obtain ⟨e1,_⟩:=zaj q
   cases e1
  ·rw [zag z] at q
   refine zc1e (r.own q) fun m m1 m2 m3 m4 m5 => ?_
   have ne:m≠l:=fun e=>r.apart z hi q hl (by rw [← e];exact m1)
   exact ⟨m,m1,m2,by rw [zai ne];exact m3,m4.ext sF fun u q'=>q',m5⟩
 ·have z1:i≠j:=fun z=>by subst z;obtain ⟨e1,_⟩:=zaj q1;cases e1
  have z2:i≠k:=fun z=>by subst z;obtain ⟨e1,_⟩:=zaj q2;cases e1
  rw [zag z1] at q1
  rw [zag z2] at q2
  exact r.apart n q1 q2 q3
noncomputable def frzD:List Nat→SD→SD
 | [],sd=>sd
 | i::is,sd=>frzD is (match sd[i]? with
  | some (some (.own _ d))=>sd.set i (some (.val d))
  | _=>sd)
theorem RS.frz:∀ (is:List Nat) {F:Hp} {sd:SD},RS K B F H sd σ → ∃ F',Same F F'∧RS K B F' H (frzD is sd) σ
 | [],F,sd,r=>⟨F,.refl _,r⟩
 | i::is,F,sd,r=>by
  unfold frzD
  split
  ·rename_i p d h
   refine zc1b (r.frz1 h) fun F1 s1 r1 => ?_
   refine zc1b (RS.frz is r1) fun F2 s2 r2 => ?_
   exact ⟨F2,s1.trans s2,r2⟩
  ·exact RS.frz is r
end
end L2.DL
namespace L2.DL
open PySem PySem.Spec PyProof.Rows
def ExcIs (K:PySem.W.Frag)(F H:Hp)(c:Str)(fs:List D)(cv:Value)(a:Option Addr):Prop :=
 ∃ C,cv=.ref C∧PySem.W.nsIn K mainGlobals c=some (some (.ref C))∧(fs=[]∨∃ p n d x,fs=[d]∧a=some p∧H p=some (.xd [(n,x)])∧IsD K F d x)
def XW (K:PySem.W.Frag)(E:XK)(F H:Hp)(c:Str)(fs:List D):Prop:=∀ cv a F' H',Ext F H F' H'→ExcIs K F' H' c fs cv a→E cv a H'
theorem XW.ext {K:PySem.W.Frag}{E:XK}{F H F' H':Hp}{c:Str}{fs:List D}(h:XW K E F H c fs)(e:Ext F H F' H'):XW K E F' H' c fs:=fun cv a F2 H2 e2 q=>h cv a F2 H2 (e.trans e2) q
abbrev FE:=SD→Res D
abbrev FT:=SD→Res Bool
abbrev FA:=SD→Res (List D)
def OkD (K:PySem.W.Frag)(F H:Hp)(Q:VK)(d:D):Prop:=∀ v F' H',Ext F H F' H'→IsD K F' d v→Q v H'
noncomputable def OkB (F H:Hp)(Q:Bool→Hp→Prop)(b:Bool):Prop:=∀ F' H',Ext F H F' H'→Q b H'
def OkA (K:PySem.W.Frag)(F H:Hp)(Q:List V→Hp→Prop)(ds:List D):Prop:=∀ vs F' H',Ext F H F' H'→IsDs K F' ds vs→Q vs H'
def OkN (K:PySem.W.Frag)(F H:Hp)(Q:VK)(d:D):Prop:=∀ l F' H',Ext F H F' H'→H l=none→F' l=none→zbo K F' H' l d→Q (.ref l) H'
def tD (K:PySem.W.Frag)(E:XK)(f:FE):TE:=fun σ H Q => ∃ B F sd,RS K B F H sd σ ∧ (f sd).need (OkD K F H Q) (XW K E F H)
def tDT (K:PySem.W.Frag)(E:XK)(f:FT):TT:=fun σ H Q => ∃ B F sd,RS K B F H sd σ ∧ (f sd).need (OkB F H Q) (XW K E F H)
def tDA (K:PySem.W.Frag)(E:XK)(f:FA):TA:=fun σ H Q => ∃ B F sd,RS K B F H sd σ ∧ (f sd).need (OkA K F H Q) (XW K E F H)
def tDN (K:PySem.W.Frag)(E:XK)(f:FE):TE:=fun σ H Q => ∃ B F sd,RS K B F H sd σ ∧ (f sd).need (OkN K F H Q) (XW K E F H)
abbrev QE (X:Cx)(E:XK)(e:Expr)(f:FE):Prop:=PE X e (tD X.K E f)
abbrev QT (X:Cx)(E:XK)(e:Expr)(f:FT):Prop:=PT X e (tDT X.K E f)
abbrev QW (X:Cx)(E:XK)(e:Expr)(f:FT):Prop:=PW X e (tDT X.K E f)
abbrev QA (X:Cx)(E:XK)(es:List Expr)(f:FA):Prop:=PA X es (tDA X.K E f)
abbrev QN (X:Cx)(E:XK)(e:Expr)(f:FE):Prop:=PE X e (tDN X.K E f)
theorem PE.weak {X:Cx}{e:Expr}{t t':TE}(h:PE X e t)(w:∀ σ H Q,t' σ H Q→t σ H Q):PE X e t':=fun pins s σ H Q I q=>h pins s σ H Q I (w _ _ _ q)
theorem PT.weak {X:Cx}{e:Expr}{t t':TT}(h:PT X e t)(w:∀ σ H Q,t' σ H Q→t σ H Q):PT X e t':=fun pins s σ H Q I q=>h pins s σ H Q I (w _ _ _ q)
theorem PW.weak {X:Cx}{e:Expr}{t t':TT}(h:PW X e t)(w:∀ σ H Q,t' σ H Q→t σ H Q):PW X e t':=fun whole pins s σ H Q I q=>h whole pins s σ H Q I (w _ _ _ q)
theorem PA.weak {X:Cx}{e:List Expr}{t t':TA}(h:PA X e t)(w:∀ σ H Q,t' σ H Q→t σ H Q):PA X e t':=fun pos pins s σ H Q I q=>h pos pins s σ H Q I (w _ _ _ q)
theorem PS.weak {X:Cx}{e:Stmt}{t t':TS}(h:PS X e t)(w:∀ D σ H,t' D σ H→t D σ H):PS X e t':=fun pins s σ H D I q=>h pins s σ H D I (w _ _ _ q)
theorem PSs.weak {X:Cx}{e:List Stmt}{t t':TS}(h:PSs X e t)(w:∀ D σ H,t' D σ H→t D σ H):PSs X e t':=fun pins s σ H D I q=>h pins s σ H D I (w _ _ _ q)
theorem PI.weak {X:Cx}{tg e:Expr}{t t':TI}(h:PI X tg e t)(w:∀ σ H R,t' σ H R→t σ H R):PI X tg e t':=fun pins s σ H R I q=>h pins s σ H R I (w _ _ _ q)
section
variable {K:PySem.W.Frag}{E:XK}{F H F' H':Hp}
theorem OkD.ext {Q:VK}{d:D}(h:OkD K F H Q d)(e:Ext F H F' H'):OkD K F' H' Q d:=fun v F2 H2 e2 q=>h v F2 H2 (e.trans e2) q
theorem OkB.ext {Q:Bool→Hp→Prop}{b:Bool}(h:OkB F H Q b)(e:Ext F H F' H'):OkB F' H' Q b:=fun F2 H2 e2=>h F2 H2 (e.trans e2)
theorem OkN.ext {Q:VK}{d:D}(h:OkN K F H Q d)(e:Ext F H F' H'):OkN K F' H' Q d:=fun l F2 H2 e2 q=>h l F2 H2 (e.trans e2) (zam e.hh q)
theorem zj2 {Q:VK}{r:Res D}(h:r.need (OkD K F H Q) (XW K E F H))(e:Ext F H F' H'):r.need (OkD K F' H' Q) (XW K E F' H'):=h.mono (fun _ q=>q.ext e) fun _ _ q=>q.ext e
theorem ziY {Q:Bool→Hp→Prop}{r:Res Bool}(h:r.need (OkB F H Q) (XW K E F H))(e:Ext F H F' H'):r.need (OkB F' H' Q) (XW K E F' H'):=h.mono (fun _ q=>q.ext e) fun _ _ q=>q.ext e
theorem needN {Q:VK}{r:Res D}(h:r.need (OkN K F H Q) (XW K E F H))(e:Ext F H F' H'):r.need (OkN K F' H' Q) (XW K E F' H'):=h.mono (fun _ q=>q.ext e) fun _ _ q=>q.ext e
theorem OkD.new {Q:VK}{d:D}(h:OkD K F H Q d):OkN K F H Q d:=fun l F' H' e n n' o=>by
 obtain ⟨u,hu⟩:=o.has
 refine h (.ref l) (upd F' l u) H' ⟨e.ff.trans (zaH n' u),fun b v q => ?_,e.hh,fun a q1 q2 => ?_⟩ (o.frz hu n')
 ·by_cases z:b=l
  ·subst z;rw [zak] at q;cases q;exact hu
  ·rw [zai z] at q;exact e.fh _ _ q
 ·have z:a≠l:=fun z=>q2 (by rw [z];exact n)
  rw [zai z];exact e.new a q1 q2
end
section
variable {X:Cx}{E:XK}
theorem QN.qe {e:Expr}{f:FE}(h:QN X E e f):QE X E e f:=PE.weak h (by rintro σ H Q ⟨B,F,sd,r,n⟩;exact ⟨B,F,sd,r,n.mono (fun _ q=>q.new) fun _ _ q=>q⟩)
noncomputable def dVar (i:Nat):FE:=fun sd=>match sd[i]? with
 | some (some (.val d))=>.ok d
 | _=>.no
noncomputable def dC (d:D):FE:=fun _=>.ok d
theorem zac {i:Nat}{e:Expr}(h:PE X e (tVar i)):QE X E e (dVar i):=PE.weak h fun σ H Q zh=>by
 refine zc3b zh fun B F sd r n => ?_
 unfold dVar at n
 split at n
 ·rename_i d q
  refine zc1b (r.val q) fun v h1 h2 => ?_
  exact ⟨v,h1,n v F H (.refl r.ext.fh) h2⟩
 ·exact n.elim
theorem zbB {e:Expr}{v:V}{d:D}(h:PE X e (tC v))(i:∀ F,IsD X.K F d v):QE X E e (dC d):=PE.weak h (by rintro σ H Q ⟨B,F,sd,r,n⟩;exact n v F H (.refl r.ext.fh) (i F))
theorem zad {i j pos}:QE X E (.Constant (.int i) j pos) (dC (.int i)):=zbB zkc fun _=>IsD.int_iff.mpr rfl
theorem zgI {b j pos}:QE X E (.Constant (.bool b) j pos) (dC (.bl b)):=zbB pe_bl fun _=>IsD.bl_iff.mpr rfl
theorem zkb {j pos}:QE X E (.Constant .none j pos) (dC .non):=zbB zjZ fun _=>IsD.non_iff.mpr rfl
theorem zaT {x j pos}:QE X E (.Constant (.str x) j pos) (dC (.str x)):=zbB zhf fun _=>IsD.str_iff.mpr rfl
noncomputable def Res.ofO {α : Type}:Option α → Res α
 | some a=>.ok a
 | none=>.no
@[simp] theorem Res.ofO_some {α : Type}(a : α):Res.ofO (some a)=.ok a:=rfl
theorem Res.need_ofO {α : Type}{o:Option α}{p : α → Prop}{q:Str→List D→Prop}(h:(Res.ofO o).need p q):∃ a,o=some a∧p a:=by
 cases o with
 | none=>exact h.elim
 | some a=>exact ⟨a,rfl,h⟩
def dOp (g:D→D→Option D)(fa fb:FE):FE:=fun sd=>(fa sd).bind fun x=>(fb sd).bind fun y=>.ofO (g x y)
def dUn (g:D→Option D)(fa:FE):FE:=fun sd=>(fa sd).bind fun x=>.ofO (g x)
def rD2 (K:PySem.W.Frag)(g:D→D→Option D):R2:=fun v w H Q => ∃ F d e z,Same F H∧IsD K F d v∧IsD K F e w∧g d e=some z∧OkD K F H Q z
def rD1 (K:PySem.W.Frag)(g:D→Option D):V→Hp→VK→Prop:=fun v H Q => ∃ F d z,Same F H∧IsD K F d v∧g d=some z∧OkD K F H Q z
def rDA (K:PySem.W.Frag)(g:List D→Option D):List V→Hp→VK→Prop:=fun vs H Q => ∃ F ds z,Same F H∧IsDs K F ds vs∧g ds=some z∧OkD K F H Q z
def rDAN (K:PySem.W.Frag)(g:List D→Option D):List V→Hp→VK→Prop:=fun vs H Q => ∃ F ds z,Same F H∧IsDs K F ds vs∧g ds=some z∧OkN K F H Q z
theorem zfS {K:PySem.W.Frag}{g:D→D→Option D}{fa fb:FE}{σ : St}{H:Hp}{Q:VK}(h:tD K E (dOp g fa fb) σ H Q):tOp (rD2 K g) (tD K E fa) (tD K E fb) σ H Q:=by
 refine zc3b h fun B F sd r n => ?_
 refine ⟨B,F,sd,r,(Res.need_bind n).mono (fun x n1 v F1 H1 e1 i1 => ?_) fun _ _ q=>q⟩
 refine ⟨B,F1,sd,r.step e1,(Res.need_bind n1).mono (fun y n2 w F2 H2 e2 i2 => ?_) fun _ _ q=>q.ext e1⟩
 refine zc1b (Res.need_ofO n2) fun z hz q => ?_
 exact ⟨F2,x,y,z,e2.fh,IsD.same e2.ff _ _ i1,i2,hz,q.ext (e1.trans e2)⟩
theorem tD_un {K:PySem.W.Frag}{g:D→Option D}{fa:FE}{σ : St}{H:Hp}{Q:VK}(h:tD K E (dUn g fa) σ H Q):tUn (rD1 K g) (tD K E fa) σ H Q:=by
 refine zc3b h fun B F sd r n => ?_
 refine ⟨B,F,sd,r,(Res.need_bind n).mono (fun x n1 v F1 H1 e1 i1 => ?_) fun _ _ q=>q⟩
 refine zc1b (Res.need_ofO n1) fun z hz q => ?_
 exact ⟨F1,x,z,e1.fh,i1,hz,q.ext e1⟩
abbrev OpD (X:Cx)(f:Value→Value→Sem Value)(g:D→D→Option D):Prop:=OpR X f (rD2 X.K g)
theorem OpR.weak {f:Value→Value→Sem Value}{r r':R2}(h:OpR X f r)(w:∀ x y H Q,r' x y H Q→r x y H Q):OpR X f r':=fun pins s σ H x y v u Q I rx ry q=>h pins s σ H x y v u Q I rx ry (w _ _ _ _ q)
theorem UnR.weak {f:Value→Sem Value}{r r':V→Hp→VK→Prop}(h:UnR X f r)(w:∀ x H Q,r' x H Q→r x H Q):UnR X f r':=fun pins s σ H x v Q I rx q=>h pins s σ H x v Q I rx (w _ _ _ q)
theorem zat.weak {f:Value}{r r':List V→Hp→VK→Prop}(h:zat X f r)(w:∀ x H Q,r' x H Q→r x H Q):zat X f r':=fun pins s σ H x v Q I rx q=>h pins s σ H x v Q I rx (w _ _ _ q)
theorem IxR.weak {r r':R2}(h:IxR X r)(w:∀ x y H Q,r' x y H Q→r x y H Q):IxR X r':=fun value slice pins s σ H x y v u Q I rx ry q e=>h value slice pins s σ H x y v u Q I rx ry (w _ _ _ _ q) e
variable {a b:Expr}{fa fb:FE}{pos:Pos}
theorem q_op {op:Operator}{g:D→D→Option D}(ho:OpD X (binaryOp op) g)(ha:QE X E a fa)(hb:QE X E b fb):QE X E (.BinOp a op b pos) (dOp g fa fb):=PE.weak (pe_op ho ha hb) fun _ _ _ h=>zfS h
theorem q_un {op:UnaryOp}{g:D→Option D}(ho:UnR X (unaryOp op) (rD1 X.K g))(ha:QE X E a fa):QE X E (.UnaryOp op a pos) (dUn g fa):=PE.weak (pe_un ho ha) fun _ _ _ h=>tD_un h
theorem zjE {op:CmpOp}{g:D→D→Option D}(ho:OpD X (compareOp op) g)(ha:QE X E a fa)(hb:QE X E b fb)(hm:behindInMarks op b=false):QE X E (.Compare a [op] [b] pos) (dOp g fa fb):=PE.weak (zi0 ho ha hb hm) fun _ _ _ h=>zfS h
def za1 (fa:FE):FT:=fun sd=>(fa sd).bind fun x=>match x with
 | .bl b=>.ok b
 | _=>.no
theorem zbM {K:PySem.W.Frag}{σ : St}{H:Hp}{Q:Bool→Hp→Prop}(h:tDT K E (za1 fa) σ H Q):tD K E fa σ H (fun x H' => ∃ k,x=.bl k∧Q k H'):=by
 refine zc3b h fun B F sd r n => ?_
 refine ⟨B,F,sd,r,(Res.need_bind n).mono (fun x n1 v F1 H1 e1 i1 => ?_) fun _ _ q=>q⟩
 cases x with
 | bl k=>exact ⟨k,IsD.bl_iff.mp i1,n1 F1 H1 e1⟩
 | _=>exact n1.elim
theorem zbj {op:CmpOp}{g:D→D→Option D}(ho:OpD X (compareOp op) g)(ha:QE X E a fa)(hb:QE X E b fb)(hm:behindInMarks op b=false):QT X E (.Compare a [op] [b] pos) (za1 (dOp g fa fb)) :=
 PT.weak (zfX ho ha hb hm) fun σ H Q h=>by
  have h:=zbM h
  exact zfS h
theorem zbS (ha:QE X E a fa)(he:autoParam (∀ whole,isTrue a X.env whole=(do let v ← whole;standAt a.pos;holding [v] (truthy v))) zaw._auto_1):QT X E a (za1 fa):=PT.weak (zjh ha he) fun σ H Q q=>zbM q
def zcO (f:FT):FT:=fun sd=>(f sd).bind fun b=>.ok (!b)
def zdw (f g:FT):FT:=fun sd=>(f sd).bind fun b=>if b then g sd else .ok false
def dOrT (f g:FT):FT:=fun sd=>(f sd).bind fun b=>if b then .ok true else g sd
variable {f g:FT}{rest:List Expr}
theorem zdC (ha:QT X E a f):QT X E (.UnaryOp .Not a pos) (zcO f):=PT.weak (zjG ha) fun σ H Q ⟨B,F,sd,r,n⟩ =>
 ⟨B,F,sd,r,(Res.need_bind n).mono (fun _ q=>q) fun _ _ q=>q⟩
theorem zdr (ha:QT X E a f):QW X E (.BoolOp .And [a] pos) f:=zhV ha
theorem zhc (ha:QT X E a f):QW X E (.BoolOp .Or [a] pos) f:=ziW ha
theorem zfK (ha:QT X E a f)(hb:QW X E (.BoolOp .And (b::rest) pos) g):QW X E (.BoolOp .And (a::b::rest) pos) (zdw f g):=PW.weak (zju ha hb) fun σ H Q zh=>by
 refine zc3b zh fun B F sd r n => ?_
 refine ⟨B,F,sd,r,(Res.need_bind n).mono (fun k n1 F1 H1 e1 => ?_) fun _ _ q=>q⟩
 cases k with
 | true=>exact ⟨B,F1,sd,r.step e1,ziY n1 e1⟩
 | false=>exact n1 F1 H1 e1
theorem zkm (ha:QT X E a f)(hb:QW X E (.BoolOp .Or (b::rest) pos) g):QW X E (.BoolOp .Or (a::b::rest) pos) (dOrT f g):=PW.weak (pw_or ha hb) fun σ H Q zh=>by
 refine zc3b zh fun B F sd r n => ?_
 refine ⟨B,F,sd,r,(Res.need_bind n).mono (fun k n1 F1 H1 e1 => ?_) fun _ _ q=>q⟩
 cases k with
 | true=>exact n1 F1 H1 e1
 | false=>exact ⟨B,F1,sd,r.step e1,ziY n1 e1⟩
theorem QW.qt {e:Expr}(h:QW X E e f):QT X E e f:=PW.pt h
def zif (fa:FE):FE:=fun sd=>(za1 fa sd).bind fun b=>.ok (.bl !b)
theorem q_not (ha:QE X E a fa):QE X E (.UnaryOp .Not a pos) (zif fa):=PE.weak (zjK ha) fun σ H Q zh=>by
 refine zc3b zh fun B F sd r n => ?_
 refine zbM (K:=X.K) (E:=E) (Q:=fun c H1=>Q (.bl (!c)) H1) ⟨B,F,sd,r,(Res.need_bind n).mono (fun k n1 F1 H1 e1 => ?_) fun _ _ q=>q⟩
 exact n1 _ F1 H1 e1 (IsD.bl_iff.mpr rfl)
noncomputable def dNil:FA:=fun _=>.ok []
def zab (fa:FE)(fr:FA):FA:=fun sd=>(fa sd).bind fun x=>(fr sd).bind fun xs=>.ok (x::xs)
theorem zaf:QA X E [] dNil:=PA.weak zcP (by rintro σ H Q ⟨B,F,sd,r,n⟩;exact n [] F H (.refl r.ext.fh) .nil)
theorem zaa {e:Expr}{es:List Expr}{fe:FE}{fr:FA}(ha:QE X E e fe)(hr:QA X E es fr)(hs:autoParam (starEach (e::es) X.env=(false,eval e X.env)::starEach es X.env) zau._auto_1):QA X E (e::es) (zab fe fr) :=
 PA.weak (zbU ha hr hs) fun σ H Q zh=>by
  refine zc3b zh fun B F sd r n => ?_
  refine ⟨B,F,sd,r,(Res.need_bind n).mono (fun x n1 v F1 H1 e1 i1 => ?_) fun _ _ q=>q⟩
  refine ⟨B,F1,sd,r.step e1,(Res.need_bind n1).mono (fun xs n2 vs F2 H2 e2 i2 => ?_) fun _ _ q=>q.ext e1⟩
  exact n2 _ F2 H2 (e1.trans e2) (.mk (IsD.same e2.ff _ _ i1) i2)
def dLst (fr:FA):FE:=fun sd=>(fr sd).bind fun xs=>if xs.length≤1000 then .ok (.lst xs) else .no
def dTup (fr:FA):FE:=fun sd=>(fr sd).bind fun xs=>if xs.length≤1000 then .ok (.tup xs) else .no
theorem zb4 {es:List Expr}{fr:FA}(h:QA X E es fr):QN X E (.List es pos) (dLst fr):=PE.weak (zhg h) fun σ H Q zh=>by
 refine zc3b zh fun B F sd r n => ?_
 refine ⟨B,F,sd,r,(Res.need_bind n).mono (fun xs n1 vs F1 H1 e1 i1 => ?_) fun _ _ q=>q⟩
 split at n1
 ·rename_i hl
  have hz:=i1.length
  refine ⟨zcq (by omega),fun p hp => ?_⟩
  exact n1 p F1 (upd H1 p (.lst vs)) (e1.trans (.keep e1.fh hp _)) (zam e1.hh hp) (zam e1.fh hp) ⟨vs,zak,i1⟩
 ·exact n1.elim
theorem zbY {es:List Expr}{x1}{fr:FA}(h:QA X E es fr):QE X E (.Tuple es x1 pos) (dTup fr):=PE.weak (zjB h) fun σ H Q zh=>by
 refine zc3b zh fun B F sd r n => ?_
 refine ⟨B,F,sd,r,(Res.need_bind n).mono (fun xs n1 vs F1 H1 e1 i1 => ?_) fun _ _ q=>q⟩
 split at n1
 ·rename_i hl
  have hz:=i1.length
  refine ⟨zcq (by omega),fun p hp => ?_⟩
  have ea:=Ext.alloc e1.fh hp (.tup vs)
  exact n1 _ _ _ (e1.trans ea) (IsD.tup_iff.mpr ⟨p,vs,rfl,.of zak,IsDs.same ea.ff _ _ i1⟩)
 ·exact n1.elim
def SpD (K:PySem.W.Frag)(Fn:List D→Res D):Sp:=fun vs H Q _ => ∃ F ds,Same F H∧IsDs K F ds vs∧(Fn ds).need (OkD K F H Q) (XW K E0 F H)
def SpN (K:PySem.W.Frag)(Fn:List D→Res D):Sp:=fun vs H Q _ => ∃ F ds,Same F H∧IsDs K F ds vs∧(Fn ds).need (OkN K F H Q) (XW K E0 F H)
def za0 (Fn:List D→Res D)(fr:FA):FE:=fun sd=>(fr sd).bind Fn
theorem q_fn {name:Str}{k:Nat}{ps:List Str}{Fn:List D→Res D}{p:Pos}{e:Expr}{es:List Expr}{fr:FA}(c:zaz X.prog X.w X.K X.mg X.base name k ps (SpD X.K Fn))(hr:Room k X.A)(hg:Gl X name)(ha:QA X E0 (e::es) fr)
 (hdb:autoParam ((name == ("__debug__" : Str))=false) zav._auto_1) (he:starEach (e::es) X.env=(false,eval e X.env)::starEach es X.env:=by rfl) (hpl:(backTo pos (starEach es X.env)).any (·.1)=false:=by rfl) :
 QE X E0 (.Call (.Name name p) (e::es) [] pos) (za0 Fn fr):=PE.weak (zjC c hr hg ha hdb he hpl) fun σ H Q zh=>by
 refine zc3b zh fun B F sd r n => ?_
 refine ⟨B,F,sd,r,(Res.need_bind n).mono (fun xs n1 vs F1 H1 e1 i1 => ?_) fun _ _ q=>q⟩
 show SpD X.K Fn (vs++[]) H1 Q E0
 rw [List.append_nil]
 exact ⟨F1,xs,e1.fh,i1,zj2 n1 e1⟩
theorem zef {name:Str}{k:Nat}{ps:List Str}{Fn:List D→Res D}{p:Pos}{e:Expr}{es:List Expr}{fr:FA}(c:zaz X.prog X.w X.K X.mg X.base name k ps (SpN X.K Fn))(hr:Room k X.A)(hg:Gl X name)(ha:QA X E0 (e::es) fr)
 (hdb:autoParam ((name == ("__debug__" : Str))=false) zav._auto_1) (he:starEach (e::es) X.env=(false,eval e X.env)::starEach es X.env:=by rfl) (hpl:(backTo pos (starEach es X.env)).any (·.1)=false:=by rfl) :
 QN X E0 (.Call (.Name name p) (e::es) [] pos) (za0 Fn fr):=PE.weak (zjC c hr hg ha hdb he hpl) fun σ H Q zh=>by
 refine zc3b zh fun B F sd r n => ?_
 refine ⟨B,F,sd,r,(Res.need_bind n).mono (fun xs n1 vs F1 H1 e1 i1 => ?_) fun _ _ q=>q⟩
 show SpN X.K Fn (vs++[]) H1 Q E0
 rw [List.append_nil]
 exact ⟨F1,xs,e1.fh,i1,needN n1 e1⟩
def dBlt (g:List D→Option D)(fr:FA):FE:=fun sd=>(fr sd).bind fun xs=>.ofO (g xs)
theorem za2 {id:String}{x:Str}{p:Pos}{e:Expr}{es:List Expr}{g:List D→Option D}{fr:FA}(hc:zat X (.builtin id) (rDA X.K g))(hg:Gl X x)(hm:X.mg x=none)(hv:bootBuiltins x=some (.builtin id))(ha:QA X E (e::es) fr)(hn:autoParam (x ≠ "__name__") zav._auto_1)(hdb:autoParam ((x == ("__debug__" : Str))=false) zav._auto_1)
 (he:autoParam (starEach (e::es) X.env=(false,eval e X.env)::starEach es X.env) zau._auto_1) (hpl:autoParam ((backTo pos (starEach es X.env)).any (·.1)=false) zau._auto_1):QE X E (.Call (.Name x p) (e::es) [] pos) (dBlt g fr) :=
 PE.weak (zgz hc hg hm hv ha hn hdb he hpl) fun σ H Q zh=>by
  refine zc3b zh fun B F sd r n => ?_
  refine ⟨B,F,sd,r,(Res.need_bind n).mono (fun xs n1 vs F1 H1 e1 i1 => ?_) fun _ _ q=>q⟩
  refine zc1b (Res.need_ofO n1) fun z hz q => ?_
  exact ⟨F1,xs,z,e1.fh,i1,hz,q.ext e1⟩
theorem zc0 {T:String}{x:Str}{p:Pos}{e:Expr}{es:List Expr}{g:List D→Option D}{fr:FA}(hc:zat X (.type T) (rDA X.K g))(hg:Gl X x)(hm:X.mg x=none)(hv:bootBuiltins x=some (.type T))(ha:QA X E (e::es) fr)(hn:autoParam (x ≠ "__name__") zav._auto_1)(hdb:autoParam ((x == ("__debug__" : Str))=false) zav._auto_1)
 (he:autoParam (starEach (e::es) X.env=(false,eval e X.env)::starEach es X.env) zau._auto_1) (hpl:autoParam ((backTo pos (starEach es X.env)).any (·.1)=false) zau._auto_1):QE X E (.Call (.Name x p) (e::es) [] pos) (dBlt g fr) :=
 PE.weak (zbQ hc hg hm hv ha hn hdb he hpl) fun σ H Q zh=>by
  refine zc3b zh fun B F sd r n => ?_
  refine ⟨B,F,sd,r,(Res.need_bind n).mono (fun xs n1 vs F1 H1 e1 i1 => ?_) fun _ _ q=>q⟩
  refine zc1b (Res.need_ofO n1) fun z hz q => ?_
  exact ⟨F1,xs,z,e1.fh,i1,hz,q.ext e1⟩
theorem zcU {T:String}{x:Str}{p:Pos}{e:Expr}{es:List Expr}{g:List D→Option D}{fr:FA}(hc:zat X (.type T) (rDAN X.K g))(hg:Gl X x)(hm:X.mg x=none)(hv:bootBuiltins x=some (.type T))(ha:QA X E (e::es) fr)(hn:autoParam (x ≠ "__name__") zav._auto_1)(hdb:autoParam ((x == ("__debug__" : Str))=false) zav._auto_1)
 (he:autoParam (starEach (e::es) X.env=(false,eval e X.env)::starEach es X.env) zau._auto_1) (hpl:autoParam ((backTo pos (starEach es X.env)).any (·.1)=false) zau._auto_1):QN X E (.Call (.Name x p) (e::es) [] pos) (dBlt g fr) :=
 PE.weak (zbQ hc hg hm hv ha hn hdb he hpl) fun σ H Q zh=>by
  refine zc3b zh fun B F sd r n => ?_
  refine ⟨B,F,sd,r,(Res.need_bind n).mono (fun xs n1 vs F1 H1 e1 i1 => ?_) fun _ _ q=>q⟩
  refine zc1b (Res.need_ofO n1) fun z hz q => ?_
  exact ⟨F1,xs,z,e1.fh,i1,hz,q.ext e1⟩
noncomputable def zfw:D→Bool
 | .tup _=>false
 | .lst _=>false
 | .dct _ _=>false
 | .ins _ _ _=>false
 | .exc _=>false
 | .dcf _ _=>false
 | .scr _=>false
 | _=>true
theorem IsD.scal {K:PySem.W.Frag}{F F':Hp}{d:D}{v:V}(s:zfw d=true)(h:IsD K F d v):IsD K F' d v:=by
 cases d with
 | tup _=>exact zqb s
 | lst _=>exact zqb s
 | dct _ _=>exact zqb s
 | ins _ _ _=>exact zqb s
 | exc _=>exact zqb s
 | dcf _ _=>exact zqb s
 | scr _=>exact zqb s
 | _=>exact h
noncomputable def Res.bare {α : Type}(r:Res α):Res α := match r with
 | .ok a=>.ok a
 | .ex c []=>.ex c []
 | _=>.no
theorem Res.need_bare {α : Type}{K:PySem.W.Frag}{F H F1:Hp}{r:Res α}{p : α → Prop}(sF:Same F H)(h:r.bare.need p (XW K E0 F H)):r.need p (XW K E0 F1 H):=by
 cases r with
 | ok a=>exact h
 | no=>exact h
 | ex c fs =>
  cases fs with
  | nil=>exact fun cv a F2 H2 e2 ⟨C,h1,h2,_⟩=>h cv none F H2 (.grow sF e2.hh) ⟨C,h1,h2,.inl rfl⟩
  | cons d r=>exact h.elim
end
end L2.DL
namespace L2.DL
open PySem PySem.Spec PyProof.Rows
inductive Out where
 | next (sd:SD)|ret (d:D)|brk (sd:SD)|cont (sd:SD)
def OkM (K:PySem.W.Frag)(F H:Hp)(Q:VK)(d:D):Prop:=if zfw d=true then OkD K F H Q d else OkN K F H Q d
def ziZ (K:PySem.W.Frag)(m:Option Bool)(B:Bs)(Q:VK)(d:D):Prop:=match m with
 | some true=>OkN K B.F0 B.H0 Q d
 | some false=>OkD K B.F0 B.H0 Q d
 | none=>OkM K B.F0 B.H0 Q d
def zcd (K:PySem.W.Frag)(m:Option Bool)(B:Bs)(F:Hp)(T:Ends):Out→Prop
 | .next sd => ∀ σ F' H',Same F F'→RS K B F' H' sd σ → T.nx σ H'
 | .brk sd => ∀ σ F' H',Same F F'→RS K B F' H' sd σ → T.bk σ H'
 | .cont sd => ∀ σ F' H',Same F F'→RS K B F' H' sd σ → T.ct σ H'
 | .ret d=>ziZ K m B T.rt d
abbrev FS:=SD→Res Out
def tDS (K:PySem.W.Frag)(E:XK)(m:Option Bool)(g:FS):TS:=fun T σ H => ∃ B F sd,RS K B F H sd σ ∧ (g sd).need (zcd K m B F T) (XW K E B.F0 B.H0)
abbrev QS (X:Cx)(E:XK)(m:Option Bool)(st:Stmt)(g:FS):Prop:=PS X st (tDS X.K E m g)
abbrev QSs (X:Cx)(E:XK)(m:Option Bool)(st:List Stmt)(g:FS):Prop:=PSs X st (tDS X.K E m g)
section
variable {K:PySem.W.Frag}{E:XK}{m:Option Bool}{B:Bs}{F F' H:Hp}{T:Ends}
theorem zcd.mono {o:Out}(h:zcd K m B F T o)(e:Same F F'):zcd K m B F' T o:=by
 cases o with
 | next sd=>exact fun σ F2 H2 s r=>h σ F2 H2 (e.trans s) r
 | brk sd=>exact fun σ F2 H2 s r=>h σ F2 H2 (e.trans s) r
 | cont sd=>exact fun σ F2 H2 s r=>h σ F2 H2 (e.trans s) r
 | ret d=>exact h
end
section
variable {X:Cx}{E:XK}{m:Option Bool}{st:Stmt}{sts:List Stmt}{g g1 g2:FS}{pos:Pos}
noncomputable def zbb:FS:=fun sd=>.ok (.next sd)
def sSeq (g1 g2:FS):FS:=fun sd=>(g1 sd).bind fun o=>match o with
 | .next sd'=>g2 sd'
 | o=>.ok o
theorem za9:QSs X E m [] zbb:=PSs.weak zf1 (by rintro T σ H ⟨B,F,sd,r,n⟩;exact n σ F H (.refl _) r)
theorem zal (h:QS X E m st g):QSs X E m [st] g:=zeV h
theorem zae (h1:QS X E m st g1)(h2:QSs X E m sts g2):QSs X E m (st::sts) (sSeq g1 g2):=PSs.weak (zbP h1 h2) fun T σ H zh=>by
 refine zc3b zh fun B F sd r n => ?_
 refine ⟨B,F,sd,r,(Res.need_bind n).mono (fun o n1 => ?_) fun _ _ q=>q⟩
 cases o with
 | next sd'=>exact fun σ' F' H' s r'=>⟨B,F',sd',r',n1.mono (fun o q=>q.mono s) fun _ _ q=>q⟩
 | ret d=>exact n1
 | brk sd'=>exact n1
 | cont sd'=>exact n1
theorem zf6 (is:List Nat)(h:QS X E m st g):QS X E m st (fun sd=>g (frzD is sd)):=PS.weak h fun T σ H zh=>by
 refine zc3b zh fun B F sd r n => ?_
 refine zc1b (r.frz is) fun F1 s1 r1 => ?_
 exact ⟨B,F1,_,r1,n.mono (fun _ q=>q.mono s1) fun _ _ q=>q⟩
variable {e:Expr}{fe:FE}
def sSet (i:Nat)(f:FE):FS:=fun sd=>(f sd).bind fun d=>.ok (.next (sd.set i (some (.val d))))
def sOwn (i:Nat)(f:FE):FS:=fun sd=>(f sd).bind fun d=>.ok (.next (sd.set i (some (.own false d))))
theorem zao {i:Nat}{x:Str}{pos':Pos}(hN:X.N.Nodup)(hi:X.N[i]? = some x)(hx:Loc X.env.scope x)(he:QE X E e fe)(hs:autoParam (swapsWith e (some (.Name x pos')) pos.line X.env=pure false) zau._auto_1)
 (hf:X.fn x=true∨X.env.scope.names.lookup x=some .local:=by first|exact .inl rfl|exact .inr rfl):QS X E m (.Assign [.Name x pos'] e pos) (sSet i fe):=PS.weak (zfy hN hi hx he hs hf) fun T σ H zh=>by
 refine zc3b zh fun B F sd r n => ?_
 refine ⟨B,F,sd,r,(Res.need_bind n).mono (fun d n1 v F1 H1 e1 i1 => ?_) fun _ _ q=>q.ext r.ext⟩
 exact n1 _ F1 H1 e1.ff ((r.step e1).setVal i1)
theorem zcQ {i:Nat}{x:Str}{pos':Pos}(hN:X.N.Nodup)(hi:X.N[i]? = some x)(hx:Loc X.env.scope x)(he:QN X E e fe)(hs:autoParam (swapsWith e (some (.Name x pos')) pos.line X.env=pure false) zau._auto_1)
 (hf:X.fn x=true∨X.env.scope.names.lookup x=some .local:=by first|exact .inl rfl|exact .inr rfl):QS X E m (.Assign [.Name x pos'] e pos) (sOwn i fe):=PS.weak (zfy hN hi hx he hs hf) fun T σ H zh=>by
 refine zc3b zh fun B F sd r n => ?_
 refine ⟨B,F,sd,r,(Res.need_bind n).mono (fun d n1 l F1 H1 e1 h1 h2 h3 => ?_) fun _ _ q=>q.ext r.ext⟩
 refine n1 _ F1 H1 e1.ff ((r.step e1).setOwn (zam r.ext.hh h1) h2 h3 fun j p d' q1 q2 => ?_)
 refine zc1e (r.own q1) fun l' p1 _ _ p4 _ => ?_
 rw [p1] at q2
 cases q2
 obtain ⟨o,ho⟩:=p4.has
 rw [h1] at ho
 exact zqn ho
def sRet (f:FE):FS:=fun sd=>(f sd).bind fun d=>.ok (.ret d)
theorem za8 (he:QE X E e fe):QS X E false (.Return (some e) pos) (sRet fe):=PS.weak (zeK he) fun T σ H zh=>by
 refine zc3b zh fun B F sd r n => ?_
 refine ⟨B,F,sd,r,(Res.need_bind n).mono (fun d n1 v F1 H1 e1 i1 => ?_) fun _ _ q=>q.ext r.ext⟩
 exact n1 v F1 H1 (r.ext.trans e1) i1
theorem zeQ (he:QN X E e fe):QS X E true (.Return (some e) pos) (sRet fe):=PS.weak (zeK he) fun T σ H zh=>by
 refine zc3b zh fun B F sd r n => ?_
 refine ⟨B,F,sd,r,(Res.need_bind n).mono (fun d n1 l F1 H1 e1 h1 h2 h3 => ?_) fun _ _ q=>q.ext r.ext⟩
 exact n1 l F1 H1 (r.ext.trans e1) (zam r.ext.hh h1) h2 h3
noncomputable def zb6 (i:Nat):FS:=fun sd=>match sd[i]? with
 | some (some (.own _ d))=>.ok (.ret d)
 | _=>.no
theorem zcR {i:Nat}(he:PE X e (tVar i)):QS X E true (.Return (some e) pos) (zb6 i):=PS.weak (zeK he) fun T σ H zh=>by
 refine zc3b zh fun B F sd r n => ?_
 unfold zb6 at n
 split at n
 ·rename_i d q
  refine zc1e (r.own q) fun l h1 h2 h3 h4 _ => ?_
  exact ⟨.ref l,h1,n l F H r.ext h2 h3 h4⟩
 ·exact n.elim
def zgj (f:FE):FS:=fun sd=>(f sd).bind fun _=>.ok (.next sd)
def sIf (c:FT)(g1 g2:FS):FS:=fun sd=>(c sd).bind fun b=>if b then g1 sd else g2 sd
theorem zbx {c:Expr}{a b:List Stmt}{fc:FT}(hc:QT X E c fc)(ha:QSs X E m a g1)(hb:QSs X E m b g2):QS X E m (.If c a b pos) (sIf fc g1 g2):=PS.weak (ps_if hc ha hb) fun T σ H zh=>by
 refine zc3b zh fun B F sd r n => ?_
 refine ⟨B,F,sd,r,(Res.need_bind n).mono (fun b n1 F1 H1 e1 => ?_) fun _ _ q=>q.ext r.ext⟩
 cases b with
 | true=>exact ⟨B,F1,sd,r.step e1,n1.mono (fun _ q=>q.mono e1.ff) fun _ _ q=>q⟩
 | false=>exact ⟨B,F1,sd,r.step e1,n1.mono (fun _ q=>q.mono e1.ff) fun _ _ q=>q⟩
def zaC (i:Nat)(f:FE):FS:=fun sd=>match sd[i]? with
 | some (some (.own false (.lst ds)))=>(f sd).bind fun d=>if ds.length<sizeLine then .ok (.next (sd.set i (some (.own false (.lst (ds++[d])))))) else .no
 | _=>.no
theorem zbq {i:Nat}{o:Expr}{apos cpos:Pos}(ho:PE X o (tVar i))(he:QE X E e fe)
 (hp:∀ {to:TE} {t:TA},PE X o to→PA X [e] t→PE X (.Call (.Attribute o "append" apos) [e] [] cpos) (tBM X.K "list" zcD to t))
 (hs:autoParam (swapsWith (.Call (.Attribute o "append" apos) [e] [] cpos) none pos.line X.env=pure false) zau._auto_1)
 (hst:autoParam (starEach [e] X.env=(false,eval e X.env)::starEach [] X.env) zau._auto_1):QS X E m (.Expr (.Call (.Attribute o "append" apos) [e] [] cpos) pos) (zaC i fe) :=
 PS.weak (zdy (hp ho (zaa he zaf hst)) hs) fun T σ H zh=>by
  obtain ⟨B,F,sd,r,n⟩:=zh
  unfold zaC at n
  split at n
  ·rename_i ds hi
   obtain ⟨l,h1,h2,h3,⟨xs,h4,h5⟩,_⟩:=r.own hi
   refine ⟨.ref l,h1,.inl ⟨rfl,xs,SqL.of h4⟩,B,F,sd,r,?_⟩
   unfold zab dNil
   show ((fe sd).bind fun x=>.ok [x]).need _ _
   have n2:=Res.need_bind n
   cases q:fe sd with
   | no=>rw [q] at n2;exact n2
   | ex c fs=>rw [q] at n2;exact n2.ext r.ext
   | ok d =>
    rw [q] at n2
    intro vs F1 H1 e1 i1
    rw [IsDs.cons_iff] at i1
    obtain ⟨v,w,rfl,i2,i3⟩:=i1
    rw [IsDs.nil_iff] at i3
    subst i3
    have n3:(if ds.length<sizeLine then Res.ok (Out.next (sd.set i (some (.own false (.lst (ds++[d])))))) else .no).need (zcd X.K m B F T) (XW X.K E B.F0 B.H0):=n2
    split at n3
    ·rename_i hz
     have hl:=h5.length
     refine ⟨l,xs,v,rfl,rfl,e1.hh _ _ h4,by omega,?_⟩
     have r1:=r.step e1
     exact n3 σ F1 _ e1.ff (r1.chg hi h1 ⟨xs++[v],zak,(IsDs.same e1.ff _ _ h5).snoc i2⟩)
    ·exact n3.elim
  ·exact n.elim
inductive Tg where
 | one (i:Nat)|tup (is:List Nat)
noncomputable def setAll:List Nat→List D→SD→SD
 | i::is,d::ds,sd=>setAll is ds (sd.set i (some (.val d)))
 | _,_,sd=>sd
def zaZ:Tg→D→SD→Res SD
 | .one i,d,sd=>.ok (sd.set i (some (.val d)))
 | .tup is,.tup ds,sd=>if ds.length=is.length then .ok (setAll is ds sd) else .no
 | _,_,_=>.no
noncomputable def zdm:List Nat→List V→St→St
 | i::is,v::vs,σ => zdm is vs (σ.set i (some v))
 | _,_,σ => σ
theorem RS.setAll {K:PySem.W.Frag}{B:Bs}{F H:Hp}:∀ {is:List Nat} {ds:List D} {vs:List V} {sd:SD} {σ : St},RS K B F H sd σ → IsDs K F ds vs→RS K B F H (setAll is ds sd) (zdm is vs σ)
 | [],ds,vs,sd,σ,r,_=>r
 | i::is,[],vs,sd,σ,r,h=>by
  rw [IsDs.nil_iff] at h
  subst h
  exact r
 | i::is,d::ds,vs,sd,σ,r,h=>by
  rw [IsDs.cons_iff] at h
  refine zc2c h fun v w zr2 h1 h2 => ?_
  obtain rfl:=zr2
  exact RS.setAll (is:=is) (ds:=ds) (vs:=w) (r.setVal (i:=i) h1) h2
theorem RS.forget {K:PySem.W.Frag}{B:Bs}{F H:Hp}{sd sd':SD}{σ : St}(r:RS K B F H sd σ)(hl:sd'.length=sd.length)(h:∀ (i:Nat) (x:SV),sd'[i]? = some (some x)→sd[i]? = some (some x)):RS K B F H sd' σ :=
 ⟨r.ext,by rw [r.len,hl],fun q=>r.val (h _ _ q),fun q=>r.own (h _ _ q),fun n q1 q2 q3=>r.apart n (h _ _ q1) (h _ _ q2) q3⟩
def gT:Tg→PySem.W.Frag→TG
 | .one i,_=>zcT i
 | .tup is,K=>fun v σ H Q => ∃ a xs,v=.ref a∧SqT K H a xs∧xs.length=is.length∧Q (zdm is xs σ) H
theorem zjj {K:PySem.W.Frag}{tg:Tg}{B:Bs}{F H:Hp}{sd:SD}{σ : St}{d:D}{v:V}{p:SD→Prop}{q:Str→List D→Prop}{Q:St→Hp→Prop}(r:RS K B F H sd σ)(hi:IsD K F d v)(n:(zaZ tg d sd).need p q)
 (h:∀ sd' σ',p sd'→zaZ tg d sd=.ok sd'→RS K B F H sd' σ'→Q σ' H):gT tg K v σ H Q:=by
 cases tg with
 | one i=>exact h _ _ n rfl (r.setVal hi)
 | tup is =>
  cases d with
  | tup ds =>
   rw [IsD.tup_iff] at hi
   refine zc2c hi fun a xs zr2 h1 h2 => ?_
   obtain rfl:=zr2
   have eb:zaZ (.tup is) (.tup ds) sd=if ds.length=is.length then .ok (setAll is ds sd) else .no:=rfl
   by_cases hl:ds.length=is.length
   ·rw [if_pos hl] at eb
    rw [eb] at n
    exact ⟨a,xs,rfl,(h1.same r.ext.fh).sq,by rw [h2.length,hl],h _ _ n eb (r.setAll h2)⟩
   ·rw [if_neg hl] at eb
    rw [eb] at n
    exact n.elim
  | _=>exact n.elim
abbrev QG (X:Cx)(e:Expr)(tg:Tg):Prop:=PG X e (gT tg X.K)
def Walk (K:PySem.W.Frag)(F1:Hp)(J:It)(ds:List D):Prop:=∀ (i:Nat) (F2 H2:Hp),Same F1 F2→Same F2 H2 →
 (i<ds.length→J.go i H2∧∀ x H3,J.yld i H2 x H3→∃ d F3,ds[i]? = some d∧Ext F2 H2 F3 H3∧IsD K F3 d x)∧(ds.length≤i→J.stop i H2)
def tDI (K:PySem.W.Frag)(E:XK)(f:FA):TI:=fun σ H R => ∃ B F sd,RS K B F H sd σ ∧ (f sd).need (fun ds => ∀ J F' H',Ext F H F' H'→Walk K F' J ds→R J H') (XW K E F H)
abbrev QI (X:Cx)(E:XK)(tg iter:Expr)(f:FA):Prop:=PI X tg iter (tDI X.K E f)
def forD (b:D→FS):List D→FS
 | [],sd=>.ok (.next sd)
 | x::xs,sd=>(b x sd).bind fun o=>match o with
  | .next sd'=>forD b xs sd'
  | .cont sd'=>forD b xs sd'
  | .brk sd'=>.ok (.next sd')
  | .ret d=>.ok (.ret d)
def sFor (it:FA)(tg:Tg)(b:FS):FS:=fun sd=>(it sd).bind fun ds=>forD (fun x sd=>(zaZ tg x sd).bind b) ds sd
theorem zbz {tg iter:Expr}{body:List Stmt}{fi:FA}{t:Tg}(hp:PassesOwn (model X.prog X.w) X.A X.env X.xe)(hc:X.calm=true)(hi:QI X E tg iter fi)(hg:QG X tg t)(hb:QSs X E m body g)
 (hss:autoParam (∀ x,foldedSetIterable iter X.env x=pure x) zaw._auto_1):QS X E m (.For tg iter body [] pos) (sFor fi t g):=PS.weak (zjb hp hc hi hg hb hss) fun T σ H zh=>by
 refine zc3b zh fun B F sd r n => ?_
 refine ⟨B,F,sd,r,(Res.need_bind n).mono (fun ds n1 J F1 H1 e1 wk => ?_) fun _ _ q=>q.ext r.ext⟩
 refine ⟨fun i k σ H=>k=ds.length-i∧i≤ds.length∧∃ F2 sd,Same F1 F2∧RS X.K B F2 H sd σ ∧ (forD (fun x sd=>(zaZ t x sd).bind g) (ds.drop i) sd).need (zcd X.K m B F2 T) (XW X.K E B.F0 B.H0),
  ⟨ds.length,rfl,Nat.zero_le _,F1,sd,.refl _,r.step e1,n1.mono (fun _ q=>q.mono e1.ff) fun _ _ q=>q⟩,?_⟩
 rintro i k σ2 H2 ⟨rfl,hi,F2,sd2,s2,r2,n2⟩
 obtain ⟨w1,w2⟩:=wk i F2 H2 s2 r2.ext.fh
 by_cases hlt:i<ds.length
 ·obtain ⟨go,yl⟩:=w1 hlt
  refine .inr ⟨go,fun σ' H' => ∃ F3 sd3,Same F1 F3∧RS X.K B F3 H' sd3 σ'∧(forD (fun x sd=>(zaZ t x sd).bind g) (ds.drop (i+1)) sd3).need (zcd X.K m B F3 T) (XW X.K E B.F0 B.H0),
   fun σ' H' ⟨F3,sd3,q1,q2,q3⟩=>⟨ds.length-(i+1),by omega,rfl,hlt,F3,sd3,q1,q2,q3⟩,fun x H3 y => ?_⟩
  refine zc2c (yl x H3 y) fun d F3 hd e3 i3 => ?_
  rw [List.drop_eq_getElem_cons hlt] at n2
  have hd':ds[i]=d:=by rw [List.getElem?_eq_getElem hlt] at hd;exact Option.some.inj hd
  rw [hd'] at n2
  have r3:=r2.step e3
  unfold forD at n2
  have n3:=Res.need_bind (Res.need_bind n2)
  refine zjj r3 i3 n3 fun sd' σ' n4 _ r4 => ?_
  refine ⟨B,F3,sd',r4,n4.mono (fun o n5 => ?_) fun _ _ q=>q⟩
  cases o with
  | next sd5=>exact fun σ5 F5 H5 s5 r5=>⟨F5,sd5,(s2.trans e3.ff).trans s5,r5,n5.mono (fun _ q=>q.mono (e3.ff.trans s5)) fun _ _ q=>q⟩
  | cont sd5=>exact fun σ5 F5 H5 s5 r5=>⟨F5,sd5,(s2.trans e3.ff).trans s5,r5,n5.mono (fun _ q=>q.mono (e3.ff.trans s5)) fun _ _ q=>q⟩
  | brk sd5=>exact fun σ5 F5 H5 s5 r5=>n5 σ5 F5 H5 (e3.ff.trans s5) r5
  | ret d=>exact n5
 ·have he:i=ds.length:=by omega
  refine .inl ⟨w2 (by omega),?_⟩
  subst he
  rw [List.drop_length] at n2
  exact n2 σ2 F2 H2 (.refl _) r2
def mapD {α β : Type}(f : α → Res β):List α → Res (List β)
 | []=>.ok []
 | x::xs=>(f x).bind fun y=>(mapD f xs).bind fun ys=>.ok (y::ys)
def capD (cap:List (Option Nat))(sd:SD):SD:=cap.map fun o=>o.bind fun j=>match sd[j]? with
 | some (some (.val d))=>some (.val d)
 | _=>none
noncomputable def zcs (sd:SD)(i:Nat):Bool:=match sd[i]? with
 | some none=>true
 | _=>false
def zdN (sd:SD):Tg→Bool
 | .one i=>zcs sd i
 | .tup is=>is.all (zcs sd)
def zcm (cap:List (Option Nat))(it:FA)(tg:Tg)(f:FE):FE:=fun sd=>(it sd).bind fun ds=>if zdN (capD cap sd) tg=true∧ds.length<sizeLine then
 (mapD (fun x=>(zaZ tg x (capD cap sd)).bind f) ds).bind fun ys=>.ok (.lst ys) else .no
theorem RS.cap {K:PySem.W.Frag}{B:Bs}{F H:Hp}{sd:SD}{σ : St}(cap:List (Option Nat))(r:RS K B F H sd σ):RS K B F H (capD cap sd) (zdu cap σ):=by
 have key:∀ {i:Nat} {x:SV},(capD cap sd)[i]? = some (some x)→∃ j d,cap[i]? = some (some j)∧sd[j]? = some (some (.val d))∧x=.val d:=fun {i x} q=>by
  unfold capD at q
  rw [List.getElem?_map] at q
  cases hc:cap[i]? with
  | none=>rw [hc] at q;exact zqn q
  | some o =>
   rw [hc] at q
   cases o with
   | none=>cases q
   | some j =>
    have q:(match sd[j]? with
     | some (some (.val d))=>some (SV.val d)
     | _=>none)=some x:=Option.some.inj q
    split at q
    ·rename_i d hd
     exact ⟨j,d,rfl,hd,(Option.some.inj q).symm⟩
    ·exact zqn q
 refine ⟨r.ext,by unfold capD zdu;rw [List.length_map,List.length_map],fun {i d} q => ?_,fun {i p d} q => ?_,fun {i j p p' d e l} _ q => ?_⟩
 ·refine zc2c (key q) fun j d' h1 h2 h3 => ?_
  cases h3
  refine zc1b (r.val h2) fun v v1 v2 => ?_
  refine ⟨v,?_,v2⟩
  unfold zdu
  rw [List.getElem?_map,h1]
  show some (Option.bind (some j) fun j=>(σ[j]?).join)=_
  rw [Option.bind_some,v1]
  rfl
 ·refine zc2c (key q) fun j d' h1 h2 h3 => ?_
  cases h3
 ·refine zc2c (key q) fun j d' h1 h2 h3 => ?_
  cases h3
theorem zbv:∀ (is:List Nat) (ds:List D) (sd0 sd:SD),is.all (zcs sd0)=true→sd.length=sd0.length→(∀ (i:Nat) (x:SV),sd0[i]? = some (some x)→sd[i]? = some (some x)) →
 (setAll is ds sd).length=sd0.length∧∀ (i:Nat) (x:SV),sd0[i]? = some (some x)→(setAll is ds sd)[i]? = some (some x)
 | [],ds,sd0,sd,_,hl,h=>⟨hl,h⟩
 | i::is,[],sd0,sd,_,hl,h=>⟨hl,h⟩
 | i::is,d::ds,sd0,sd,hn,hl,h=>by
  rw [List.all_cons,Bool.and_eq_true] at hn
  refine zbv is ds sd0 (sd.set i (some (.val d))) hn.2 (by rw [List.length_set,hl]) fun j x q => ?_
  have ne:i≠j:=fun z=>by
   subst z
   have:=hn.1
   unfold zcs at this
   rw [q] at this
   exact zqb this
  rw [zag ne]
  exact h j x q
theorem zed {tg:Tg}{sd0 sd:SD}{d:D}(hn:zdN sd0 tg=true)(h:zaZ tg d sd0=.ok sd):sd0.length=sd.length∧∀ (i:Nat) (x:SV),sd0[i]? = some (some x)→sd[i]? = some (some x):=by
 cases tg with
 | one i =>
  cases h
  have:=zbv [i] [d] sd0 sd0 (by rw [List.all_cons,List.all_nil,Bool.and_true];exact hn) rfl fun _ _ q=>q
  exact ⟨this.1.symm,this.2⟩
 | tup is =>
  cases d with
  | tup ds =>
   have eb:zaZ (.tup is) (.tup ds) sd0=if ds.length=is.length then .ok (setAll is ds sd0) else .no:=rfl
   rw [eb] at h
   split at h
   ·cases h
    have:=zbv is ds sd0 sd0 hn rfl fun _ _ q=>q
    exact ⟨this.1.symm,this.2⟩
   ·cases h
  | _=>cases h
theorem zfN {α β : Type}{f : α → Res β}{xs:List α}{i:Nat}{x : α}{p:List β → Prop}{q:Str→List D→Prop}(hx:xs[i]? = some x)(h:(mapD f (xs.drop i)).need p q):(f x).need (fun y=>(mapD f (xs.drop (i+1))).need (fun ys=>p (y::ys)) q) q:=by
 have hlt:i<xs.length:=(List.getElem?_eq_some_iff.mp hx).1
 rw [List.drop_eq_getElem_cons hlt] at h
 have e:xs[i]=x:=by rw [List.getElem?_eq_getElem hlt] at hx;exact Option.some.inj hx
 rw [e] at h
 unfold mapD at h
 refine (Res.need_bind h).mono (fun y h1 => ?_) fun _ _ z=>z
 exact (Res.need_bind h1).mono (fun ys h2=>h2) fun _ _ z=>z
theorem zcA {K:PySem.W.Frag}{t:Tg}{fi:FA}{f:FE}{cap:List (Option Nat)}{σ : St}{H:Hp}{Q:VK}(hh:tDN K E (zcm cap fi t f) σ H Q):zfQ cap (tDI K E fi) (gT t K) (tD K E f) σ H Q:=by
 refine zc3b hh fun B F sd r n => ?_
 refine ⟨B,F,sd,r,(Res.need_bind n).mono (fun ds n1 J F1 H1 e1 wk => ?_) fun _ _ q=>q⟩
 split at n1
 ·rename_i hh
  obtain ⟨hn,hz⟩:=hh
  refine ⟨fun i k ys σ H2=>k=ds.length-i∧i≤ds.length∧∃ F2 es,Ext F1 H1 F2 H2∧RS K B F2 H2 (capD cap sd) σ ∧ IsDs K F2 es ys∧es.length=i ∧
   (mapD (fun x=>(zaZ t x (capD cap sd)).bind f) (ds.drop i)).need (fun rs=>OkN K F2 H2 Q (.lst (es++rs))) (XW K E F2 H2),⟨ds.length,rfl,Nat.zero_le _,F1,[],.refl e1.fh,(r.step e1).cap cap,.nil,rfl,?_⟩,?_⟩
  ·exact (Res.need_bind n1).mono (fun rs q=>(show OkN K F H Q (.lst rs) from q).ext e1) fun _ _ q=>q.ext e1
  rintro i k ys σ2 H2 ⟨rfl,hi,F2,es,e2,r2,i2,hl,n2⟩
  have ly:=i2.length
  refine ⟨by omega,?_⟩
  obtain ⟨w1,w2⟩:=wk i F2 H2 e2.ff e2.fh
  by_cases hlt:i<ds.length
  ·obtain ⟨go,yl⟩:=w1 hlt
   refine .inr ⟨go,fun x H3 y => ?_⟩
   refine zc2c (yl x H3 y) fun d F3 hd e3 i3 => ?_
   have n3:=zfN hd n2
   have r3:=r2.step e3
   refine zjj (K:=K) r3 i3 (Res.need_bind n3) fun sd' σ' n4 hb r4 => ?_
   obtain ⟨b1,b2⟩:=zed hn hb
   refine ⟨B,F3,sd',r4,n4.mono (fun y n5 v F4 H4 e4 i4 => ?_) fun _ _ q=>q.ext e3⟩
   refine ⟨ds.length-(i+1),by omega,rfl,hlt,F4,es++[y],(e2.trans e3).trans e4,(r4.step e4).forget b1 b2,(IsDs.same (e3.ff.trans e4.ff) _ _ i2).snoc i4,by rw [List.length_append,hl];rfl,?_⟩
   refine n5.mono (fun rs q => ?_) fun _ _ q=>q.ext (e3.trans e4)
   rw [List.append_assoc]
   exact q.ext (e3.trans e4)
  ·have he:i=ds.length:=by omega
   subst he
   refine .inl ⟨w2 (Nat.le_refl _),fun D hD => ?_⟩
   rw [List.drop_length] at n2
   have q:OkN K F2 H2 Q (.lst (es++[])):=n2
   rw [List.append_nil] at q
   exact q D F2 _ (.keep r2.ext.fh hD _) hD (zam r2.ext.fh hD) ⟨ys,zak,i2⟩
 ·exact n1.elim
theorem zgY {tg iter elt:Expr}{scope:Scope}{t:Tg}{fi:FA}{f:FE}(N:List Str)(cap:List (Option Nat))(hc:X.calm=true)(okB:zaX scope X.env N X.N cap=true)(hi:QI X E tg iter fi)
 (hg:∀ cl C s H ex,QG (zap X scope N cl C s H ex) tg t) (he:∀ cl C s H ex,QE (zap X scope N cl C s H ex) E elt f) (hs:autoParam (∀ x,foldedSetIterable iter X.env x=pure x) zaw._auto_1) :
 QN X E (.ListComp elt [⟨tg,iter,[],0⟩] scope pos) (zcm cap fi t f):=PE.weak (zhP (g:=gT t X.K) (te:=tD X.K E f) N cap hc okB hi hg he hs) fun _ _ _ h=>zcA h
noncomputable def zaN (n:Nat)(ds:List D):SD:=ds.map (fun d=>some (.val d))++List.replicate (n-ds.length) none
def runD (n ar:Nat)(g:FS)(ds:List D):Res D:=if ds.length=ar then (g (zaN n ds)).bind fun o=>match o with
 | .ret d=>.ok d
 | .next _=>.ok .non
 | _=>.no else .no
def runN (n ar:Nat)(g:FS)(ds:List D):Res D:=if ds.length=ar then (g (zaN n ds)).bind fun o=>match o with
 | .ret d=>.ok d
 | _=>.no else .no
theorem RS.start {K:PySem.W.Frag}{F H:Hp}{N:List Str}{ds:List D}{vs:List V}(s:Same F H)(h:IsDs K F ds vs):RS K ⟨F,H,fun _=>none⟩ F H (zaN N.length ds) (start N vs):=by
 have key:∀ {i:Nat} {x:SV},(zaN N.length ds)[i]? = some (some x)→∃ d,ds[i]? = some d∧x=.val d:=fun {i x} q=>by
  unfold zaN at q
  by_cases hi:i<ds.length
  ·rw [List.getElem?_append_left (by rw [List.length_map];exact hi),List.getElem?_map,List.getElem?_eq_getElem hi] at q
   exact ⟨ds[i],List.getElem?_eq_getElem hi,(Option.some.inj (Option.some.inj q)).symm⟩
  ·rw [List.getElem?_append_right (by rw [List.length_map];omega),List.getElem?_replicate] at q
   split at q<;>(first|exact zqn q|cases q)
 refine ⟨.refl s,by unfold zaN L2.start;simp [h.length],fun {i d} q => ?_,fun {i p d} q => ?_,fun {i j p p' d e l} _ q => ?_⟩
 ·refine zc1b (key q) fun d' h1 h2 => ?_
  cases h2
  refine zc1b (h.get h1) fun v v1 v2 => ?_
  refine ⟨v,?_,v2⟩
  unfold L2.start
  rw [List.getElem?_append_left (by rw [List.length_map];exact (List.getElem?_eq_some_iff.mp v1).1),List.getElem?_map,v1]
  rfl
 ·refine zc1b (key q) fun _ _ h2 => ?_
  cases h2
 ·refine zc1b (key q) fun _ _ h2 => ?_
  cases h2
section
variable {P:Program}{w:World}{K:PySem.W.Frag}{mg:Str→Option Value}{base:Heap}{x qual:Str}{f:Addr}{fd:FuncData}{N ps:List Str}{k:Nat}
theorem fn_d {g:FS}(F:Fun K x qual st f fd)(S:FnScope N ps (zah st))
 (hb:∀ (cdv:Value) (A:Around) (outer:List Env) (s:Shared) (H:Hp) (E:XK),Room k (A.deeper (envOfC qual (zah st) s.heap.objs.size f cdv))→QSs (cxOf CX0 P w K mg base N qual (zah st) f cdv A outer s H E).nox E0 false (zaL st) g) :
 FnOk P w K mg base CX0 (k+1) f fd ps (SpD K (runD N.length ps.length g)):=by
 refine F.ok S (fun vs H Q E ⟨F,ds,_,h,n⟩ => ?_) fun cdv A outer s H vs Q E hr ⟨F,ds,hs,h,n⟩=>⟨_,hb cdv A outer s H E hr,?_⟩
 ·unfold runD at n
  split at n
  ·rw [h.length];assumption
  ·exact n.elim
 ·unfold runD at n
  split at n
  ·refine ⟨⟨F,H,fun _=>none⟩,F,_,RS.start hs h,(Res.need_bind n).mono (fun o n1 => ?_) fun _ _ q=>q⟩
   cases o with
   | next sd=>exact fun σ F' H' _ r=>n1 .non F' H' r.ext (IsD.non_iff.mpr rfl)
   | ret d=>exact n1
   | brk sd=>exact n1.elim
   | cont sd=>exact n1.elim
  ·exact n.elim
theorem fn_n {g:FS}(F:Fun K x qual st f fd)(S:FnScope N ps (zah st))
 (hb:∀ (cdv:Value) (A:Around) (outer:List Env) (s:Shared) (H:Hp) (E:XK),Room k (A.deeper (envOfC qual (zah st) s.heap.objs.size f cdv))→QSs (cxOf CX0 P w K mg base N qual (zah st) f cdv A outer s H E).nox E0 true (zaL st) g) :
 FnOk P w K mg base CX0 (k+1) f fd ps (SpN K (runN N.length ps.length g)):=by
 refine F.ok S (fun vs H Q E ⟨F,ds,_,h,n⟩ => ?_) fun cdv A outer s H vs Q E hr ⟨F,ds,hs,h,n⟩=>⟨_,hb cdv A outer s H E hr,?_⟩
 ·unfold runN at n
  split at n
  ·rw [h.length];assumption
  ·exact n.elim
 ·unfold runN at n
  split at n
  ·refine ⟨⟨F,H,fun _=>none⟩,F,_,RS.start hs h,(Res.need_bind n).mono (fun o n1 => ?_) fun _ _ q=>q⟩
   cases o with
   | next sd=>exact n1.elim
   | ret d=>exact n1
   | brk sd=>exact n1.elim
   | cont sd=>exact n1.elim
  ·exact n.elim
end
end
end L2.DL
namespace L2.DL
open PySem PySem.Spec PyProof.Rows
noncomputable def prD (p:Int×Int):D:=.tup [.int p.1,.int p.2]
def rwD (r:List (Int×Int)):D:=.tup (r.map prD)
def zck {α : Type}(f:D→Option α):List D→Option (List α)
 | []=>some []
 | d::ds=>(f d).bind fun x=>(zck f ds).map fun xs=>x::xs
noncomputable def zes:D→Option Int
 | .int i=>some i
 | _=>none
theorem zdh {α β : Type}{f:D→Option α}{g : β → D}{k : β → α}(h:∀ x,f (g x)=some (k x)):∀ l:List β,zck f (l.map g)=some (l.map k)
 | []=>rfl
 | x::r=>by rw [List.map_cons];unfold zck;rw [h,zdh h r];rfl
theorem zdf {α : Type}{f:D→Option α}{g : α → D}(h:∀ d x,f d=some x→d=g x):∀ {ds:List D} {l:List α},zck f ds=some l→ds=l.map g
 | [],l,e=>by cases e;rfl
 | d::ds,l,e=>by
  unfold zck at e
  cases h1:f d with
  | none=>rw [h1] at e;exact zqn e
  | some x =>
   cases h2:zck f ds with
   | none=>rw [h1,h2] at e;exact zqn e
   | some xs =>
    rw [h1,h2] at e
    obtain rfl:=Option.some.inj e
    rw [List.map_cons,← h d x h1,← zdf h h2]
theorem zeE {d:D}{i:Int}(h:zes d=some i):d=.int i:=by
 cases d with
 | int j=>cases h;rfl
 | _=>exact zqn h
theorem zej {ds:List D}{l:List Int}(h:zck zes ds=some l):ds=l.map D.int:=zdf (fun _ _=>zeE) h
theorem zev (l:List Int):zck zes (l.map D.int)=some l:=by
 have h:=zdh (f:=zes) (g:=D.int) (k:=fun i:Int=>i) (fun _=>rfl) l
 rw [h,List.map_id']
section
variable {X:Cx}{E:XK}
noncomputable def gI (f:Int→Int→D):D→D→Option D
 | .int i,.int j=>some (f i j)
 | _,_=>none
noncomputable def gIc (c:Int→Int→Bool)(f:Int→Int→D):D→D→Option D
 | .int i,.int j=>if c i j then some (f i j) else none
 | _,_=>none
theorem zhF {h:Value→Value→Sem Value}{f:Int→Int→D}{g:Int→Int→V}(o:OpR X h (rI0 g))(hg:∀ i j F,IsD X.K F (f i j) (g i j)):OpD X h (gI f):=OpR.weak o fun x y H Q zh=>by
 obtain ⟨F,d,e,z,sF,id,ie,hz,q⟩:=zh
 cases d with
 | int i =>
  cases e with
  | int j=>cases hz;exact ⟨i,j,IsD.int_iff.mp id,IsD.int_iff.mp ie,q _ F H (.refl sF) (hg i j F)⟩
  | _=>exact zqn hz
 | _=>exact zqn hz
theorem zdU {h:Value→Value→Sem Value}{C:Int→Int→Prop}{c:Int→Int→Bool}{f:Int→Int→D}{g:Int→Int→V}(o:OpR X h (rI C g))(hc:∀ i j,c i j=true→C i j)(hg:∀ i j F,IsD X.K F (f i j) (g i j)):OpD X h (gIc c f):=OpR.weak o fun x y H Q zh=>by
 obtain ⟨F,d,e,z,sF,id,ie,hz,q⟩:=zh
 cases d with
 | int i =>
  cases e with
  | int j =>
   have hz:(if c i j then some (f i j) else none)=some z:=hz
   split at hz
   ·rename_i hcc
    cases hz;exact ⟨i,j,IsD.int_iff.mp id,IsD.int_iff.mp ie,hc i j hcc,q _ F H (.refl sF) (hg i j F)⟩
   ·exact zqn hz
  | _=>exact zqn hz
 | _=>exact zqn hz
theorem isI (i:Int)(F:Hp):IsD X.K F (.int i) (.int i):=IsD.int_iff.mpr rfl
theorem isB (b:Bool)(F:Hp):IsD X.K F (.bl b) (.bl b):=IsD.bl_iff.mpr rfl
noncomputable def gSub:=gI fun i j=>.int (i-j)
noncomputable def bigB:Nat:=10715086071862673209484250490600018105614048117055336074437503883703510511249361224931983788156958581275946729175531468251871452856923140435984577574698574803934567774824230985421074605062371141877954182153046474983581941267398767559165543946077062914571196477686542167660429831652624386837205668069376
def zbT (i j:Int):Bool:=(Nat.blt i.natAbs 18446744073709551616||Nat.blt j.natAbs 18446744073709551616)||(Nat.blt i.natAbs bigB&&Nat.blt j.natAbs bigB)
theorem zdA {k:Int}(h:k.natAbs<bigB):Builtin.Int.intBits k≤2 ^ 20:=by
 have e:bigB≤2 ^ 1000:=Nat.le_of_ble_eq_true rfl
 have hn:k.natAbs<2 ^ 1000:=Nat.lt_of_lt_of_le h e
 unfold Builtin.Int.intBits
 split
 ·exact Nat.zero_le _
 ·have l:k.natAbs.log2<1000:=by
   rcases Nat.eq_zero_or_pos k.natAbs with h0|hp
   ·rw [h0];decide
   ·exact (Nat.log2_lt (Nat.ne_of_gt hp)).mpr hn
  have e:(2:Nat) ^ 20=1048576:=by decide
  omega
theorem zgH {i j:Int}(h:zbT i j=true):IntMulOk i j:=by
 unfold zbT at h
 rw [Bool.or_eq_true,Bool.or_eq_true,Bool.and_eq_true,Nat.blt_eq,Nat.blt_eq,Nat.blt_eq,Nat.blt_eq] at h
 rcases h with (h|h)|⟨h1,h2⟩
 ·exact .of_left (intBits_le_64 (by omega) (by omega))
 ·exact .of_right (intBits_le_64 (by omega) (by omega))
 ·exact .of_bits (zdA h1) (zdA h2)
theorem zi1:OpR X (binaryOp .Mult) (rI (fun i j=>zbT i j=true) fun i j=>.int (i*j)):=opI fun _ _ _ _ _ _ _ hc q=>mul_int q (zgH hc)
def gMul:=gIc zbT fun i j=>.int (i*j)
def zbh:=gIc (fun _ j=>Nat.blt 0 j.toNat&&Nat.blt j.toNat 1073741824) fun i j=>.int (i / j)
def gMod:=gIc (fun _ j=>Nat.blt 0 j.toNat) fun i j=>.int (i % j)
def gPow:=gIc (fun i j=>Nat.ble (-j).toNat 0&&(Nat.ble j.toNat 1000000&&Nat.blt i.natAbs 18446744073709551616)) fun i j=>.int (i ^ j.toNat)
noncomputable def gLt:=gI fun i j=>.bl (decide (i<j))
noncomputable def gGt:=gI fun i j=>.bl (decide (j<i))
theorem zh0:OpD X (binaryOp .Sub) gSub:=zhF zjL fun _ _ F=>isI _ F
theorem ze7:OpD X (binaryOp .Mult) gMul:=zdU zi1 (fun i j h=>h) fun _ _ F=>isI _ F
theorem zaS:OpD X (binaryOp .FloorDiv) zbh:=zdU zis (fun i j h=>by rw [Bool.and_eq_true,Nat.blt_eq,Nat.blt_eq] at h;unfold CDiv;omega) fun _ _ F=>isI _ F
theorem zaD:OpD X (binaryOp .Mod) gMod:=zdU zj4 (fun i j h=>by rw [Nat.blt_eq] at h;omega) fun _ _ F=>isI _ F
theorem zjs:OpD X (binaryOp .Pow) gPow:=zdU zjw (fun i j h=>by rw [Bool.and_eq_true,Bool.and_eq_true,Nat.ble_eq,Nat.ble_eq,Nat.blt_eq] at h;unfold CPow;omega) fun _ _ F=>isI _ F
theorem o_lt:OpD X (compareOp .Lt) gLt:=zhF op_lt fun _ _ F=>isB _ F
theorem o_gt:OpD X (compareOp .Gt) gGt:=zhF op_gt fun _ _ F=>isB _ F
noncomputable def gNeg:D→Option D
 | .int i=>some (.int (-i))
 | _=>none
theorem ziT:UnR X (unaryOp .USub) (rD1 X.K gNeg):=UnR.weak zjr fun x H Q zh=>by
 obtain ⟨F,d,z,sF,id,hz,q⟩:=zh
 cases d with
 | int i=>cases hz;exact ⟨i,IsD.int_iff.mp id,q _ F H (.refl sF) (isI _ F)⟩
 | _=>exact zqn hz
noncomputable def gAdd:D→D→Option D
 | .int i,.int j=>some (.int (i+j))
 | .str x,.str y=>if x.length+y.length≤sizeLine then some (.str (x++y)) else none
 | .tup a,.tup b=>if a ≠ []∧b ≠ []∧a.length+b.length≤sizeLine then some (.tup (a++b)) else none
 | .lst a,.lst b=>if a.length+b.length≤sizeLine then some (.lst (a++b)) else none
 | _,_=>none
def rCat' (K:PySem.W.Frag):R2:=fun x y H Q => ∃ l b xs zs,x=.ref l∧y=.ref b∧LstD K H l xs∧LstD K H b zs∧xs.length+zs.length≤sizeLine∧∀ p,H p=none→Q (.ref p) (upd H p (.lst (xs++zs)))
theorem zhx:OpR X (binaryOp .Add) (rCat' X.K):=by
 intro pins s σ H x y v u Q I rx ry h
 refine zc4a h fun l b xs zs zz=>zc0e zz fun zr4 zr5 hl hb zz=>zc0b zz fun hz q => ?_
 obtain rfl:=zr4
 obtain rfl:=zr5
 obtain rfl:v=Value.ref l:=rx
 obtain rfl:u=Value.ref b:=ry
 refine zc0b (hl.ok I.hok) fun _ zz=>zc2b zz fun its n r1 e1 => ?_
 refine zc0b (hb.ok I.hok) fun _ zz=>zc2b zz fun its2 n2 r2 e2 => ?_
 have hl1:=r1.length
 have hl2:=r2.length
 refine PySem.P.add_list e1 e2 ?_ (by rw [List.size_toArray,List.size_toArray];omega)
 have ea:its.toArray++its2.toArray=(its++its2).toArray:=by simp
 rw [ea]
 exact ⟨.ref _,_,I.lnew (t':=s.toks) (r1.append r2) (by rw [List.length_append];omega),rfl,q _ I.fresh⟩
theorem zaA:OpD X (binaryOp .Add) gAdd:=by
 rintro pins s σ H x y v u Q I rx ry ⟨F,d,e,z,sF,id,ie,hz,q⟩
 cases d with
 | int i =>
  cases e with
  | int j=>cases hz;exact ziR pins s σ H x y v u Q I rx ry ⟨i,j,IsD.int_iff.mp id,IsD.int_iff.mp ie,q _ F H (.refl sF) (isI _ F)⟩
  | _=>exact zqn hz
 | str a =>
  cases e with
  | str b =>
   have hz:(if a.length+b.length≤sizeLine then some (D.str (a++b)) else none)=some z:=hz
   split at hz
   ·rename_i hl
    cases hz;exact zee pins s σ H x y v u Q I rx ry ⟨a,b,IsD.str_iff.mp id,IsD.str_iff.mp ie,hl,q _ F H (.refl sF) (IsD.str_iff.mpr rfl)⟩
   ·exact zqn hz
  | _=>exact zqn hz
 | tup a =>
  cases e with
  | tup b =>
   have hz:(if a ≠ []∧b ≠ []∧a.length+b.length≤sizeLine then some (D.tup (a++b)) else none)=some z:=hz
   split at hz
   ·rename_i hl
    obtain rfl:=Option.some.inj hz
    rw [IsD.tup_iff] at id ie
    obtain ⟨la,xs,rfl,h1,h2⟩:=id
    obtain ⟨lb,ys,rfl,h3,h4⟩:=ie
    have l1:=h2.length
    have l2:=h4.length
    have x0:xs ≠ []:=fun z=>hl.1 (List.length_eq_zero_iff.mp (by rw [← l1,z];rfl))
    have y0:ys ≠ []:=fun z=>hl.2.1 (List.length_eq_zero_iff.mp (by rw [← l2,z];rfl))
    refine zhq pins s σ H _ _ v u Q I rx ry ⟨la,lb,xs,ys,rfl,rfl,(h1.same sF).sq,(h3.same sF).sq,x0,by have:=hl.2.2;omega,fun z=>absurd z y0,fun _ p hp => ?_⟩
    have ea:=Ext.alloc sF hp (.tup (xs++ys))
    exact q _ _ _ ea (IsD.tup_iff.mpr ⟨p,_,rfl,.of zak,IsDs.same ea.ff _ _ (h2.append h4)⟩)
   ·exact zqn hz
  | _=>exact zqn hz
 | lst a =>
  cases e with
  | lst b =>
   have hz:(if a.length+b.length≤sizeLine then some (D.lst (a++b)) else none)=some z:=hz
   split at hz
   ·rename_i hl
    obtain rfl:=Option.some.inj hz
    rw [IsD.lst_iff] at id ie
    obtain ⟨la,xs,rfl,h1,h2⟩:=id
    obtain ⟨lb,ys,rfl,h3,h4⟩:=ie
    have l1:=h2.length
    have l2:=h4.length
    refine zhx pins s σ H _ _ v u Q I rx ry ⟨la,lb,xs,ys,rfl,rfl,h1.same sF,h3.same sF,by omega,fun p hp => ?_⟩
    have ea:=Ext.alloc sF hp (.lst (xs++ys))
    exact q _ _ _ ea (IsD.lst_iff.mpr ⟨p,_,rfl,.of zak,IsDs.same ea.ff _ _ (h2.append h4)⟩)
   ·exact zqn hz
  | _=>exact zqn hz
 | _=>exact zqn hz
mutual
noncomputable def toPy:D→PyData
 | .non=>.none
 | .bl b=>.bool b
 | .int i=>.int i
 | .str x=>.str x
 | .tup ds=>.tuple (zcn ds)
 | .lst ds=>.list (zcn ds)
 | .ty _=>.none
 | .scr _=>.none
 | .dct _ _=>.none
 | .ins _ _ _=>.none
 | .exc _=>.none
 | .ucl _=>.none
 | .adr _=>.none
 | .dcf _ _=>.none
noncomputable def zcn:List D→List PyData
 | [] => []
 | d::ds=>toPy d::zcn ds
end
noncomputable def plN:Nat→D→Bool
 | 0,_=>false
 | _+1,.int _=>true
 | _+1,.str x=>PyData.strOk x
 | _+1,.non=>true
 | n+1,.tup ds=>ds.all (plN n)
 | n+1,.lst ds=>ds.all (plN n)
 | _+1,_=>false
theorem zcw:∀ (n:Nat) (d:D),plN n d=true→(toPy d).canLay0=true∧(toPy d).depth≤n:=fun n=>by
 induction n with
 | zero=>intro _ h;exact zqb h
 | succ n ihn =>
  intro d h
  have all:∀ ds:List D,ds.all (plN n)=true→PyData.canLayAll0 (zcn ds)=true∧PyData.depthAll (zcn ds)≤n:=by
   intro ds
   induction ds with
   | nil=>intro _;exact ⟨rfl,Nat.zero_le _⟩
   | cons d ds ih =>
    intro h
    rw [List.all_cons,Bool.and_eq_true] at h
    obtain ⟨h1,h2⟩:=ihn d h.1
    obtain ⟨h3,h4⟩:=ih h.2
    exact ⟨Bool.and_eq_true_iff.mpr ⟨h1,h3⟩,Nat.max_le.mpr ⟨h2,h4⟩⟩
  cases d with
  | int i=>exact ⟨rfl,Nat.zero_le _⟩
  | str i=>exact ⟨h,Nat.zero_le _⟩
  | non=>exact ⟨rfl,Nat.zero_le _⟩
  | tup ds=>exact ⟨(all ds h).1,Nat.succ_le_succ (all ds h).2⟩
  | lst ds=>exact ⟨(all ds h).1,Nat.succ_le_succ (all ds h).2⟩
  | _=>exact zqb h
theorem D.ne {d e:D}(h:(d.ctorIdx == e.ctorIdx)=false):¬ d=e:=fun q=>by
 rw [q,beq_self_eq_true] at h
 cases  h
theorem zfs:∀ (n:Nat) (d e:D),plN n d=true→plN n e=true→(PyData.eqv (toPy d) (toPy e)=true↔d=e):=fun n=>by
 induction n with
 | zero=>intro _ _ h;exact zqb h
 | succ n ihn =>
  intro d e h h'
  have all:∀ ds es:List D,ds.all (plN n)=true→es.all (plN n)=true→(PyData.eqvAll (zcn ds) (zcn es)=true↔ds=es):=by
   intro ds
   induction ds with
   | nil =>
    intro es _ _
    cases es with
    | nil=>exact iff_of_true rfl rfl
    | cons e es=>exact iff_of_false Bool.false_ne_true (fun q=>List.cons_ne_nil _ _ q.symm)
   | cons d ds ih =>
    intro es h1 h2
    cases es with
    | nil=>exact iff_of_false Bool.false_ne_true (List.cons_ne_nil _ _)
    | cons e es =>
     rw [List.all_cons,Bool.and_eq_true] at h1 h2
     show (PyData.eqv (toPy d) (toPy e)&&PyData.eqvAll (zcn ds) (zcn es))=true↔_
     rw [Bool.and_eq_true_iff,ihn d e h1.1 h2.1,ih es h1.2 h2.2,List.cons.injEq]
  cases d with
  | int i =>
   cases e with
   | int j=>exact ⟨fun q=>congrArg D.int (beq_iff_eq.mp q),fun q=>beq_iff_eq.mpr (D.int.inj q)⟩
   | str _=>exact iff_of_false Bool.false_ne_true (D.ne rfl)
   | non=>exact iff_of_false Bool.false_ne_true (D.ne rfl)
   | tup _=>exact iff_of_false Bool.false_ne_true (D.ne rfl)
   | lst _=>exact iff_of_false Bool.false_ne_true (D.ne rfl)
   | _=>exact zqb h'
  | str i =>
   cases e with
   | str j=>exact ⟨fun q=>congrArg D.str (of_decide_eq_true q),fun q=>decide_eq_true (D.str.inj q)⟩
   | int _=>exact iff_of_false Bool.false_ne_true (D.ne rfl)
   | non=>exact iff_of_false Bool.false_ne_true (D.ne rfl)
   | tup _=>exact iff_of_false Bool.false_ne_true (D.ne rfl)
   | lst _=>exact iff_of_false Bool.false_ne_true (D.ne rfl)
   | _=>exact zqb h'
  | non =>
   cases e with
   | non=>exact iff_of_true rfl rfl
   | int _=>exact iff_of_false Bool.false_ne_true (D.ne rfl)
   | str _=>exact iff_of_false Bool.false_ne_true (D.ne rfl)
   | tup _=>exact iff_of_false Bool.false_ne_true (D.ne rfl)
   | lst _=>exact iff_of_false Bool.false_ne_true (D.ne rfl)
   | _=>exact zqb h'
  | tup ds =>
   cases e with
   | tup es=>exact (all ds es h h').trans ⟨fun q=>congrArg D.tup q,fun q=>D.tup.inj q⟩
   | int _=>exact iff_of_false Bool.false_ne_true (D.ne rfl)
   | str _=>exact iff_of_false Bool.false_ne_true (D.ne rfl)
   | non=>exact iff_of_false Bool.false_ne_true (D.ne rfl)
   | lst _=>exact iff_of_false Bool.false_ne_true (D.ne rfl)
   | _=>exact zqb h'
  | lst ds =>
   cases e with
   | lst es=>exact (all ds es h h').trans ⟨fun q=>congrArg D.lst q,fun q=>D.lst.inj q⟩
   | int _=>exact iff_of_false Bool.false_ne_true (D.ne rfl)
   | str _=>exact iff_of_false Bool.false_ne_true (D.ne rfl)
   | non=>exact iff_of_false Bool.false_ne_true (D.ne rfl)
   | tup _=>exact iff_of_false Bool.false_ne_true (D.ne rfl)
   | _=>exact zqb h'
  | _=>exact zqb h
theorem zbe {P:Program}{w:World}{K:PySem.W.Frag}{H:Hp}{h:Heap}(ok:HOk P w H h):∀ (n:Nat) (d:D) (v:V) (u:Value),plN n d=true→IsD K H d v→RelV v u→∃ as,Reads h u (toPy d) as
 | 0,_,_,_,p,_,_=>by exact zqb p
 | n+1,d,v,u,p,q,r=>by
  have all:∀ (ds:List D) (xs:List V) (us:List Value),ds.all (plN n)=true→IsDs K H ds xs→Vals xs us→∃ as,ReadsAll h us (zcn ds) as:=by
   intro ds
   induction ds with
   | nil =>
    intro xs us _ h1 h2
    rw [IsDs.nil_iff] at h1
    subst h1
    cases h2
    exact ⟨_,.nil⟩
   | cons d ds ih =>
    intro xs us hp h1 h2
    rw [List.all_cons,Bool.and_eq_true] at hp
    rw [IsDs.cons_iff] at h1
    refine zc2c h1 fun x rs zr2 h3 h4 => ?_
    obtain rfl:=zr2
    cases h2 with
    | cons r1 r2 =>
     obtain ⟨as,ra⟩:=zbe ok n d x _ hp.1 h3 r1
     obtain ⟨bs,rb⟩:=ih rs _ hp.2 h4 r2
     exact ⟨_,.cons ra rb⟩
  cases d with
  | int i =>
   rw [IsD.int_iff] at q;subst q
   obtain ⟨t,rfl⟩:=(show ∃ t,u=Value.int i t from r)
   exact ⟨_,.int i t⟩
  | str x =>
   rw [IsD.str_iff] at q;subst q
   obtain ⟨t,rfl⟩:=(show ∃ t,u=Value.str x t from r)
   exact ⟨_,.str x t⟩
  | non =>
   rw [IsD.non_iff] at q;subst q
   obtain rfl:u=Value.none:=r
   exact ⟨_,.none⟩
  | tup ds =>
   rw [IsD.tup_iff] at q
   refine zc2c q fun a xs zr2 h2 h3 => ?_
   obtain rfl:=zr2
   obtain rfl:u=Value.ref a:=r
   refine zc0b ((show za4 P w H h a (.tup xs) from ok a _ h2)) fun _ zz=>zc1b zz fun its rv zz=>zc1c zz fun o e c zz=>zc1a zz fun n' dt => ?_
   obtain ⟨as,ra⟩:=all ds xs its p h3 rv
   exact ⟨_,.tuple e c dt (by simpa using ra)⟩
  | lst ds =>
   rw [IsD.lst_iff] at q
   refine zc2c q fun a xs zr2 h2 h3 => ?_
   obtain rfl:=zr2
   obtain rfl:u=Value.ref a:=r
   refine zc0b (h2.ok ok) fun _ zz=>zc2b zz fun its n' rv e => ?_
   obtain ⟨as,ra⟩:=all ds xs its p h3 rv
   exact ⟨_,.list e rfl rfl (by simpa using ra)⟩
  | _=>exact zqb p
noncomputable section
open Classical
noncomputable def zaB (d e:D):Bool:=decide (d=e)
theorem zaE (d:D):zaB d d=true:=decide_eq_true rfl
theorem zcc {d e:D}:zaB d e=true↔d=e:=decide_eq_true_iff
theorem zc7 {d e:D}:zaB d e=false↔d≠e:=decide_eq_false_iff_not
def gEq:D→D→Option D
 | .bl a,.bl b=>some (.bl (a == b))
 | d,e=>if plN 12 d&&plN 12 e then some (.bl (zaB d e)) else none
def gNe:D→D→Option D
 | .bl a,.bl b=>some (.bl (a != b))
 | d,e=>if plN 12 d&&plN 12 e then some (.bl (!zaB d e)) else none
end
theorem zdQ {d e:D}(h1:plN 12 d=true)(h2:plN 12 e=true):gEq d e=some (.bl (zaB d e)):=by
 unfold gEq
 split
 ·exact zqb h1
 ·rw [h1,h2];rfl
theorem zfJ {d e:D}(h1:plN 12 d=true)(h2:plN 12 e=true):gNe d e=some (.bl (!zaB d e)):=by
 unfold gNe
 split
 ·exact zqb h1
 ·rw [h1,h2];rfl
theorem zhw (i j:Int):gEq (.int i) (.int j)=some (.bl (decide (i=j))):=by
 rw [zdQ rfl rfl]
 congr 2
 by_cases h:i=j
 ·rw [decide_eq_true h,h,zaE]
 ·rw [decide_eq_false h,zc7.mpr fun z=>h (by injection z)]
theorem o_eq (hu:X.A.units+64<cLine):OpD X (compareOp .Eq) gEq:=by
 rintro pins s σ H x y v u Q I rx ry ⟨F,d,e,z,sF,id,ie,hz,q⟩
 unfold gEq at hz
 split at hz
 ·rename_i a b
  obtain rfl:=Option.some.inj hz
  refine op_eq pins s σ H x y v u Q I rx ry ⟨?_,?_⟩
  ·rw [IsD.bl_iff.mp id,IsD.bl_iff.mp ie];rfl
  ·rw [IsD.bl_iff.mp id,IsD.bl_iff.mp ie]
   refine q _ F H (.refl sF) ?_
   rw [IsD.bl_iff]
   cases a<;>cases b<;>rfl
 ·split at hz
  ·rename_i hp
   rw [Bool.and_eq_true] at hp
   obtain rfl:=Option.some.inj hz
   obtain ⟨as,ra⟩:=zbe I.hok 12 d x v hp.1 (IsD.same sF _ _ id) rx
   obtain ⟨bs,rb⟩:=zbe I.hok 12 e y u hp.2 (IsD.same sF _ _ ie) ry
   obtain ⟨l1,z1⟩:=zcw 12 d hp.1
   obtain ⟨l2,z2⟩:=zcw 12 e hp.2
   refine PySem.SeqAt.compareEq_reads ra rb l1 l2 (by omega) ?_
   have hb:PyData.eqv (toPy d) (toPy e)=zaB d e:=Bool.eq_iff_iff.mpr ((zfs 12 d e hp.1 hp.2).trans zcc.symm)
   rw [hb]
   exact ⟨.bl _,H,I,rfl,q _ F H (.refl sF) (isB _ F)⟩
  ·exact zqn hz
theorem o_ne (hu:X.A.units+64<cLine):OpD X (compareOp .NotEq) gNe:=by
 rintro pins s σ H x y v u Q I rx ry ⟨F,d,e,z,sF,id,ie,hz,q⟩
 unfold gNe at hz
 split at hz
 ·rename_i a b
  obtain rfl:=Option.some.inj hz
  refine op_ne pins s σ H x y v u Q I rx ry ⟨?_,?_⟩
  ·rw [IsD.bl_iff.mp id,IsD.bl_iff.mp ie];rfl
  ·rw [IsD.bl_iff.mp id,IsD.bl_iff.mp ie]
   refine q _ F H (.refl sF) ?_
   rw [IsD.bl_iff]
   cases a<;>cases b<;>rfl
 ·split at hz
  ·rename_i hp
   rw [Bool.and_eq_true] at hp
   obtain rfl:=Option.some.inj hz
   obtain ⟨as,ra⟩:=zbe I.hok 12 d x v hp.1 (IsD.same sF _ _ id) rx
   obtain ⟨bs,rb⟩:=zbe I.hok 12 e y u hp.2 (IsD.same sF _ _ ie) ry
   obtain ⟨l1,z1⟩:=zcw 12 d hp.1
   obtain ⟨l2,z2⟩:=zcw 12 e hp.2
   refine PySem.SeqAt.compareNe_reads ra rb l1 l2 (by omega) ?_
   have hb:PyData.eqv (toPy d) (toPy e)=zaB d e:=Bool.eq_iff_iff.mpr ((zfs 12 d e hp.1 hp.2).trans zcc.symm)
   rw [hb]
   exact ⟨.bl _,H,I,rfl,q _ F H (.refl sF) (isB _ F)⟩
  ·exact zqn hz
end
end L2.DL
namespace L2.DL
open PySem PySem.Spec PyProof.Rows
theorem PE.or {X:Cx}{e:Expr}{t t':TE}(h:PE X e t)(h':PE X e t'):PE X e (fun σ H Q=>t σ H Q∨t' σ H Q):=fun pins s σ H Q I q=>q.elim (h pins s σ H Q I) (h' pins s σ H Q I)
theorem PT.or {X:Cx}{e:Expr}{t t':TT}(h:PT X e t)(h':PT X e t'):PT X e (fun σ H Q=>t σ H Q∨t' σ H Q):=fun pins s σ H Q I q=>q.elim (h pins s σ H Q I) (h' pins s σ H Q I)
noncomputable def zcC:D→Option Key
 | .int i=>some (.inl i)
 | .str x=>some (.inr x)
 | _=>none
theorem zc1 {K:PySem.W.Frag}{H:Hp}{d:D}{k:Key}{v:V}(h:zcC d=some k)(i:IsD K H d v):v=kV k:=by
 cases d with
 | int j=>cases h;exact IsD.int_iff.mp i
 | str x=>cases h;exact IsD.str_iff.mp i
 | _=>exact zqn h
noncomputable def valD:List Key→List D→Key→Option D
 | k::ks,d::ds,q=>if k=q then some d else valD ks ds q
 | _,_,_=>none
theorem zeH (k q:Key)(v:V)(r:List (Key×V)):valV ((k,v)::r) q=if k=q then some v else valV r q:=by
 unfold valV
 rw [List.find?_cons]
 by_cases h:k=q
 ·rw [if_pos h,decide_eq_true h];rfl
 ·rw [if_neg h,decide_eq_false h]
theorem zfI {k q:Key}{ks:List Key}{d:D}{ds:List D}:valD (k::ks) (d::ds) q=if k=q then some d else valD ks ds q:=rfl
theorem zc3 {K:PySem.W.Frag}{H:Hp}(q:Key):∀ {ks:List Key} {ds:List D} {xs:List V},ks.length=xs.length→IsDs K H ds xs →
 (∀ d,valD ks ds q=some d→∃ x,valV (ks.zip xs) q=some x∧IsD K H d x)∧(valD ks ds q=none→valV (ks.zip xs) q=none)
 | [],ds,xs,hl,h=>by
  have:xs=[]:=List.length_eq_zero_iff.mp hl.symm
  subst this
  refine ⟨fun d e => ?_,fun _=>rfl⟩
  cases ds<;>exact zqn e
 | k::ks,[],xs,hl,h=>by
  rw [IsDs.nil_iff] at h
  subst h
  cases hl
 | k::ks,d::ds,xs,hl,h=>by
  rw [IsDs.cons_iff] at h
  refine zc2c h fun x r zr2 h1 h2 => ?_
  obtain rfl:=zr2
  have ih:=zc3 q (ks:=ks) (Nat.succ.inj hl) h2
  rw [List.zip_cons_cons,zeH]
  rw [zfI]
  by_cases hk:k=q
  ·rw [if_pos hk,if_pos hk]
   exact ⟨fun d' e=>by cases e;exact ⟨x,rfl,h1⟩,fun e=>by cases e⟩
  ·rw [if_neg hk,if_neg hk]
   exact ih
section
variable {X:Cx}{E:XK}{m:Option Bool}{a b o i e:Expr}{fa fb fo fi fv:FE}{pos pos' apos cpos:Pos}
theorem zf3 {K:PySem.W.Frag}{H:Hp}{ds:List D}{xs:List V}{k:Int}{d:D}(h:IsDs K H ds xs)(e:atI ds k=some d):∃ x,atI xs k=some x∧IsD K H d x:=by
 unfold atI at e ⊢
 rw [h.length]
 cases hj:ixN ds.length k with
 | none=>rw [hj] at e;exact zqn e
 | some j =>
  rw [hj] at e
  exact h.get e
def gIx:D→D→Option D
 | .lst ds,.int k=>atI ds k
 | .tup ds,.int k=>atI ds k
 | .scr ns,.int k=>(atI ns k).map .int
 | .str x,.int k=>if x.length≤sizeLine then (atI x.cps.toList k).map fun c=>.str ⟨#[c]⟩ else none
 | .dct ks ds,k=>(zcC k).bind fun q=>valD ks ds q
 | .dcf ks ds,k=>(zcC k).bind fun q=>valD ks ds q
 | _,_=>none
theorem zgW {K:PySem.W.Frag}{H:Hp}{d:D}{ks:List Key}{ds:List D}{v:V}(hd:d=.dct ks ds∨d=.dcf ks ds)(h:IsD K H d v):∃ a xs,v=.ref a∧Rd H a (.dK (ks.zip xs))∧ks.length=xs.length∧IsDs K H ds xs:=by
 rcases hd with rfl|rfl
 ·obtain ⟨a,xs,h1,h2,h3⟩:=IsD.dct_iff.mp h
  exact ⟨a,xs,h1,.inl h2,h3⟩
 ·obtain ⟨a,o,xs,h1,h2,h3⟩:=IsD.dcf_iff.mp h
  exact ⟨a,xs,h1,.inr ⟨o,h2⟩,h3⟩
theorem zdp {H H':Hp}{a:Addr}{u:HO}(e:Same H H')(h:Rd H a u):Rd H' a u:=h.imp (fun q=>e _ _ q) (by rintro ⟨o,q⟩;exact ⟨o,e _ _ q⟩)
theorem zf7 {H:Hp}{a:Addr}{kvs:List (Key×V)}{k:Key}(e:Rd H a (.dK kvs)):DGet H a (kV k) (valV kvs k):=.inl ⟨kvs,k,e,rfl,rfl⟩
theorem zhA:IxR X (rD2 X.K fun d e=>match d with
 | .dct _ _=>none
 | .dcf _ _=>none
 | d=>gIx d e):=IxR.weak ziX fun x y H Q ⟨F,d,e,z,sF,id,ie,hz,q⟩=>by
 cases d with
 | lst ds =>
  cases e with
  | int k =>
   rw [IsD.lst_iff] at id
   refine zc2c id fun p xs zr2 h1 h2 => ?_
   obtain rfl:=zr2
   refine zc1b (zf3 h2 (show atI ds k=some z from hz)) fun x hx i2 => ?_
   exact .inl ⟨p,xs,k,x,rfl,IsD.int_iff.mp ie,(h1.same sF).sq,hx,q _ F H (.refl sF) i2⟩
  | _=>exact zqn hz
 | tup ds =>
  cases e with
  | int k =>
   rw [IsD.tup_iff] at id
   refine zc2c id fun p xs zr2 h1 h2 => ?_
   obtain rfl:=zr2
   refine zc1b (zf3 h2 (show atI ds k=some z from hz)) fun x hx i2 => ?_
   exact .inr (.inl ⟨p,xs,k,x,rfl,IsD.int_iff.mp ie,(h1.same sF).sq,hx,q _ F H (.refl sF) i2⟩)
  | _=>exact zqn hz
 | scr ns =>
  cases e with
  | int k =>
   rw [IsD.scr_iff] at id
   refine zc1b id fun p zr1 h1 => ?_
   obtain rfl:=zr1
   refine zc1b (Option.map_eq_some_iff.mp (show (atI ns k).map D.int=some z from hz)) fun j hj hz => ?_
   subst hz
   refine .inl ⟨p,_,k,.int j,rfl,IsD.int_iff.mp ie,Same.seq sF h1,?_,q _ F H (.refl sF) (isI _ F)⟩
   unfold atI at hj ⊢
   rw [List.length_map]
   cases hx:ixN ns.length k with
   | none=>rw [hx] at hj;exact zqn hj
   | some i=>rw [hx] at hj;show (ns.map V.int)[i]? = _;rw [List.getElem?_map,show ns[i]? = some j from hj];rfl
  | _=>exact zqn hz
 | str t =>
  cases e with
  | int k =>
   have hz:(if t.length≤sizeLine then (atI t.cps.toList k).map fun c=>D.str ⟨#[c]⟩ else none)=some z:=hz
   split at hz
   ·rename_i hl
    cases hc:atI t.cps.toList k with
    | none=>rw [hc] at hz;exact zqn hz
    | some c =>
     rw [hc] at hz
     obtain rfl:=Option.some.inj hz
     exact .inr (.inr ⟨t,k,c,IsD.str_iff.mp id,IsD.int_iff.mp ie,hl,hc,q _ F H (.refl sF) (IsD.str_iff.mpr rfl)⟩)
   ·exact zqn hz
  | _=>exact zqn hz
 | _=>exact zqn hz
theorem za5 (hu:X.A.units+1<cLine)(ha:QE X E a fa)(hb:QE X E b fb)(hs:zdz b)(hs2:NoSl b):QE X E (.Subscript a b pos) (dOp gIx fa fb) :=
 PE.weak (PE.or (zgg hu ha hb hs2) (zjy (zhA) ha hb hs)) fun σ H Q h=>by
  refine zc3b h fun B F sd r n => ?_
  by_cases hd:∃ d ks ds,fa sd=.ok d∧(d=.dct ks ds∨d=.dcf ks ds)
  ·obtain ⟨d,ks,ds,hd,hc⟩:=hd
   refine .inl ⟨B,F,sd,r,(Res.need_bind n).monoE (fun x hx n1 v F1 H1 e1 i1 => ?_) fun _ _ q=>q⟩
   rw [hd] at hx
   cases hx
   refine ⟨B,F1,sd,r.step e1,(Res.need_bind n1).mono (fun y n2 w F2 H2 e2 i2 => ?_) fun _ _ q=>q.ext e1⟩
   refine zc1b (Res.need_ofO n2) fun z hz q => ?_
   obtain ⟨k,hk,hz⟩:=Option.bind_eq_some_iff.mp (show (zcC y).bind (fun q=>valD ks ds q)=some z by rcases hc with rfl|rfl<;>exact hz)
   refine zc2d (zgW hc i1) fun p xs zr2 h1 h2 h3 => ?_
   obtain rfl:=zr2
   refine zc1b ((zc3 k h2 h3).1 z hz) fun x hx ix => ?_
   refine ⟨p,x,rfl,?_,q x F2 H2 (e1.trans e2) (IsD.same e2.ff _ _ ix)⟩
   rw [zc1 hk i2,← hx]
   exact zf7 (zdp e2.hh (zdp e1.fh h1))
  ·refine .inr (zfS ⟨B,F,sd,r,?_⟩)
   unfold dOp at n ⊢
   cases hx:fa sd with
   | ok d =>
    rw [hx] at n
    cases d with
    | dct ks ds=>exact absurd ⟨_,ks,ds,hx,.inl rfl⟩ hd
    | dcf ks ds=>exact absurd ⟨_,ks,ds,hx,.inr rfl⟩ hd
    | _=>exact n
   | no=>rw [hx] at n;exact n
   | ex c fs=>rw [hx] at n;exact n
def gIn (neg:Bool):D→D→Option D
 | k,.dct ks ds=>(zcC k).map fun q=>.bl (if neg then !(valD ks ds q).isSome else (valD ks ds q).isSome)
 | k,.dcf ks ds=>(zcC k).map fun q=>.bl (if neg then !(valD ks ds q).isSome else (valD ks ds q).isSome)
 | d,.lst ds=>if plN 12 d&&ds.all (plN 12) then some (.bl (if neg then !ds.any (fun e=>zaB e d) else ds.any fun e=>zaB e d)) else none
 | d,.tup ds=>if plN 12 d&&ds.all (plN 12) then some (.bl (if neg then !ds.any (fun e=>zaB e d) else ds.any fun e=>zaB e d)) else none
 | _,_=>none
theorem zhl {K:PySem.W.Frag}{H:Hp}:∀ (n:Nat) (d e:D) (v:V),plN n d=true→plN n e=true→IsD K H d v→IsD K H e v→d=e
 | 0,_,_,_,h,_,_,_=>by exact zqb h
 | n+1,d,e,v,hd,he,h1,h2=>by
  have all:∀ (ds es:List D) (xs:List V),ds.all (plN n)=true→es.all (plN n)=true→IsDs K H ds xs→IsDs K H es xs→ds=es:=by
   intro ds
   induction ds with
   | nil =>
    intro es xs _ _ h1 h2
    rw [IsDs.nil_iff] at h1
    subst h1
    have:=h2.length
    exact (List.length_eq_zero_iff.mp this.symm).symm
   | cons d ds ih =>
    intro es xs p1 p2 h1 h2
    rw [List.all_cons,Bool.and_eq_true] at p1
    rw [IsDs.cons_iff] at h1
    refine zc2c h1 fun x r zr2 h3 h4 => ?_
    obtain rfl:=zr2
    cases es with
    | nil=>rw [IsDs.nil_iff] at h2;cases h2
    | cons e es =>
     rw [List.all_cons,Bool.and_eq_true] at p2
     rw [IsDs.cons_iff] at h2
     refine zc2c h2 fun x' r' e' h5 h6 => ?_
     cases e'
     rw [zhl n d e x p1.1 p2.1 h3 h5,ih es r p1.2 p2.2 h4 h6]
  have ne:∀ {a:Addr} {xs ys:List V},TupD K H a xs→LstD K H a ys→False:=fun {a xs ys} q1 q2=>by
   rcases q2 with q2|⟨o,q2⟩
   ·rw [q1] at q2;cases q2
   ·rw [q1] at q2;cases q2
  cases d with
  | int i =>
   rw [IsD.int_iff] at h1;subst h1
   cases e with
   | int j=>rw [IsD.int_iff] at h2;cases h2;rfl
   | str j=>rw [IsD.str_iff] at h2;cases h2
   | non=>rw [IsD.non_iff] at h2;cases h2
   | tup es=>rw [IsD.tup_iff] at h2;obtain ⟨_,_,z,_⟩:=h2;cases z
   | lst es=>rw [IsD.lst_iff] at h2;obtain ⟨_,_,z,_⟩:=h2;cases z
   | _=>exact zqb he
  | str i =>
   rw [IsD.str_iff] at h1;subst h1
   cases e with
   | int j=>rw [IsD.int_iff] at h2;cases h2
   | str j=>rw [IsD.str_iff] at h2;cases h2;rfl
   | non=>rw [IsD.non_iff] at h2;cases h2
   | tup es=>rw [IsD.tup_iff] at h2;obtain ⟨_,_,z,_⟩:=h2;cases z
   | lst es=>rw [IsD.lst_iff] at h2;obtain ⟨_,_,z,_⟩:=h2;cases z
   | _=>exact zqb he
  | non =>
   rw [IsD.non_iff] at h1;subst h1
   cases e with
   | int j=>rw [IsD.int_iff] at h2;cases h2
   | str j=>rw [IsD.str_iff] at h2;cases h2
   | non=>rfl
   | tup es=>rw [IsD.tup_iff] at h2;obtain ⟨_,_,z,_⟩:=h2;cases z
   | lst es=>rw [IsD.lst_iff] at h2;obtain ⟨_,_,z,_⟩:=h2;cases z
   | _=>exact zqb he
  | tup ds =>
   rw [IsD.tup_iff] at h1
   refine zc2c h1 fun a xs zr2 q1 q2 => ?_
   obtain rfl:=zr2
   cases e with
   | int j=>rw [IsD.int_iff] at h2;cases h2
   | str j=>rw [IsD.str_iff] at h2;cases h2
   | non=>rw [IsD.non_iff] at h2;cases h2
   | tup es =>
    rw [IsD.tup_iff] at h2
    refine zc2c h2 fun a' xs' e' q3 q4 => ?_
    cases e'
    have q1':H a=some (.tup xs):=q1
    rw [show H a=some (.tup xs') from q3] at q1'
    cases q1'
    rw [all ds es _ hd he q2 q4]
   | lst es =>
    rw [IsD.lst_iff] at h2
    refine zc2c h2 fun a' xs' e' q3 q4 => ?_
    cases e'
    exact (ne q1 q3).elim
   | _=>exact zqb he
  | lst ds =>
   rw [IsD.lst_iff] at h1
   refine zc2c h1 fun a xs zr2 q1 q2 => ?_
   obtain rfl:=zr2
   cases e with
   | int j=>rw [IsD.int_iff] at h2;cases h2
   | str j=>rw [IsD.str_iff] at h2;cases h2
   | non=>rw [IsD.non_iff] at h2;cases h2
   | tup es =>
    rw [IsD.tup_iff] at h2
    refine zc2c h2 fun a' xs' e' q3 q4 => ?_
    cases e'
    exact (ne q3 q1).elim
   | lst es =>
    rw [IsD.lst_iff] at h2
    refine zc2c h2 fun a' xs' e' q3 q4 => ?_
    cases e'
    have:xs=xs':=by
     rcases q1 with q1|⟨_,q1⟩<;>rcases q3 with q3|⟨_,q3⟩<;>rw [q1] at q3<;>cases q3<;>rfl
    subst this
    rw [all ds es _ hd he q2 q4]
   | _=>exact zqb he
  | _=>exact zqb hd
def ValIs (K:PySem.W.Frag)(H:Hp)(d:D)(u:Value):Prop:=∃ v,RelV v u∧IsD K H d v
def eqTo (K:PySem.W.Frag)(H:Hp)(d:D)(u:Value):Bool:=@decide (ValIs K H d u) (Classical.propDecidable _)
theorem zeC {K:PySem.W.Frag}{H:Hp}{d e:D}{v:V}{u:Value}(hd:plN 12 d=true)(he:plN 12 e=true)(h:IsD K H e v)(r:RelV v u):eqTo K H d u=zaB e d:=by
 unfold eqTo
 by_cases q:e=d
 ·rw [q,zaE]
  exact @decide_eq_true _ (Classical.propDecidable _) ⟨v,r,q ▸ h⟩
 ·rw [zc7.mpr q]
  refine @decide_eq_false _ (Classical.propDecidable _) fun ⟨v',r',h'⟩=>q ?_
  rw [r'.inj r] at h'
  exact zhl 12 e d v he hd h h'
theorem zgU {P:Program}{w:World}{K:PySem.W.Frag}{A:Around}{s:Shared}{H:Hp}(hu:A.units+60<cLine)(ok:HOk P w H s.heap){d:D}{x:V}{v:Value}(hp:plN 12 d=true)(hx:IsD K H d x)(rx:RelV x v) :
 ∀ {ds:List D} {xs:List V} {us:List Value},ds.all (plN 12)=true→IsDs K H ds xs→Vals xs us→us.map (eqTo K H d)=ds.map (fun e=>zaB e d)∧∀ u∈us,SeqAt.EqAt A s u v (eqTo K H d u):=by
 intro ds
 induction ds with
 | nil =>
  intro xs us _ h1 h2
  rw [IsDs.nil_iff] at h1
  subst h1
  cases h2
  exact ⟨rfl,fun u hu=>nomatch hu⟩
 | cons e ds ih =>
  intro xs us hq h1 h2
  rw [List.all_cons,Bool.and_eq_true] at hq
  rw [IsDs.cons_iff] at h1
  refine zc2c h1 fun y rs zr2 h3 h4 => ?_
  obtain rfl:=zr2
  cases h2 with
  | cons r1 r2 =>
   obtain ⟨i1,i2⟩:=ih hq.2 h4 r2
   obtain ⟨as,ra⟩:=zbe ok 12 e y _ hq.1 h3 r1
   obtain ⟨cs,rb⟩:=zbe ok 12 d x v hp hx rx
   obtain ⟨l1,z1⟩:=zcw 12 e hq.1
   obtain ⟨l2,z2⟩:=zcw 12 d hp
   have es:=zeC hp hq.1 h3 r1
   refine ⟨by rw [List.map_cons,List.map_cons,i1,es],fun u hm => ?_⟩
   rcases List.mem_cons.mp hm with hm|hm
   ·subst hm
    rw [es,← (Bool.eq_iff_iff.mpr ((zfs 12 e d hq.1 hp).trans zcc.symm):PyData.eqv (toPy e) (toPy d)=zaB e d)]
    exact SeqAt.eqAt_reads (toPy e) (toPy d) A s _ v as cs ra rb l1 l2 (by omega)
   ·exact i2 u hm
theorem zbO {α : Type}{f : α → Bool}{l:List α}:l.any f=(l.map f).any id:=by rw [List.any_map];rfl
theorem ziM (hu:X.A.units+64<cLine)(neg:Bool):OpR X (compareOp (if neg then .NotIn else .In)) (rD2 X.K fun d e=>match e with
 | .dct _ _=>none
 | .dcf _ _=>none
 | e=>gIn neg d e):=by
 rintro pins s σ H x y v u Q I rx ry ⟨F,d,e,z,sF,id,ie,hz,q⟩
 have id':=IsD.same sF _ _ id
 cases e with
 | lst ds =>
  have hz:(if plN 12 d&&ds.all (plN 12) then some (D.bl (if neg then !ds.any (fun e=>zaB e d) else ds.any fun e=>zaB e d)) else none)=some z:=hz
  split at hz
  ·rename_i hp
   rw [Bool.and_eq_true] at hp
   obtain rfl:=Option.some.inj hz
   rw [IsD.lst_iff] at ie
   refine zc2c ie fun p xs zr2 h1 h2 => ?_
   obtain rfl:=zr2
   obtain rfl:u=Value.ref p:=ry
   refine zc1c (I.list (h1.same sF).sq) fun its ri pl hl => ?_
   obtain ⟨k1,k2⟩:=zgU (A:=X.A.in1) (by show X.A.units+1+60<cLine;omega) I.hok hp.1 id' rx hp.2 (IsDs.same sF _ _ h2) ri
   have ea:its.toArray.any (eqTo X.K H d)=ds.any (fun e=>zaB e d):=by
    rw [show its.toArray.any (eqTo X.K H d)=its.any (eqTo X.K H d) by simp,zbO,k1,← zbO]
   cases neg with
   | true =>
    refine SeqAt.notIn_listAt (eqTo X.K H d) pl.isList (fun w hw=>k2 w (by simpa using hw)) ⟨.bl _,H,I,rfl,?_⟩
    rw [ea]
    exact q _ F H (.refl sF) (isB _ F)
   | false =>
    refine SeqAt.in_listAt (eqTo X.K H d) pl.isList (fun w hw=>k2 w (by simpa using hw)) ⟨.bl _,H,I,rfl,?_⟩
    rw [ea]
    exact q _ F H (.refl sF) (isB _ F)
  ·exact zqn hz
 | tup ds =>
  have hz:(if plN 12 d&&ds.all (plN 12) then some (D.bl (if neg then !ds.any (fun e=>zaB e d) else ds.any fun e=>zaB e d)) else none)=some z:=hz
  split at hz
  ·rename_i hp
   rw [Bool.and_eq_true] at hp
   obtain rfl:=Option.some.inj hz
   rw [IsD.tup_iff] at ie
   refine zc2c ie fun p xs zr2 h1 h2 => ?_
   obtain rfl:=zr2
   obtain rfl:u=Value.ref p:=ry
   refine zc1c (I.tuple (h1.same sF).sq) fun its ri pl hl => ?_
   obtain ⟨k1,k2⟩:=zgU (A:=X.A.in1) (by show X.A.units+1+60<cLine;omega) I.hok hp.1 id' rx hp.2 (IsDs.same sF _ _ h2) ri
   have ea:its.toArray.any (eqTo X.K H d)=ds.any (fun e=>zaB e d):=by
    rw [show its.toArray.any (eqTo X.K H d)=its.any (eqTo X.K H d) by simp,zbO,k1,← zbO]
   cases neg with
   | true =>
    refine SeqAt.notIn_tupleAt (eqTo X.K H d) pl (fun w hw=>k2 w (by simpa using hw)) ⟨.bl _,H,I,rfl,?_⟩
    rw [ea]
    exact q _ F H (.refl sF) (isB _ F)
   | false =>
    refine SeqAt.in_tupleAt (eqTo X.K H d) pl (fun w hw=>k2 w (by simpa using hw)) ⟨.bl _,H,I,rfl,?_⟩
    rw [ea]
    exact q _ F H (.refl sF) (isB _ F)
  ·exact zqn hz
 | _=>exact zqn hz
theorem tD_in {K:PySem.W.Frag}{neg:Bool}{σ : St}{H:Hp}{Q:VK}(h:tD K E (dOp (gIn neg) fa fb) σ H Q) :
 (fun σ H Q=>tD K E fa σ H fun y H1=>tD K E fb σ H1 fun x H2 => ∃ a o,x=.ref a∧DGet H2 a y o∧Q (.bl (if neg then !o.isSome else o.isSome)) H2) σ H Q∨tOp (rD2 K fun d e=>match e with
 | .dct _ _=>none
 | .dcf _ _=>none
 | e=>gIn neg d e) (tD K E fa) (tD K E fb) σ H Q:=by
 refine zc3b h fun B F sd r n => ?_
 by_cases hd:∃ d ks ds,fb sd=.ok d∧(d=.dct ks ds∨d=.dcf ks ds)
 ·obtain ⟨d,ks,ds,hd,hc⟩:=hd
  refine .inl ⟨B,F,sd,r,(Res.need_bind n).mono (fun x n1 v F1 H1 e1 i1 => ?_) fun _ _ q=>q⟩
  refine ⟨B,F1,sd,r.step e1,(Res.need_bind n1).monoE (fun y hy n2 w F2 H2 e2 i2 => ?_) fun _ _ q=>q.ext e1⟩
  rw [hd] at hy
  cases hy
  refine zc1b (Res.need_ofO n2) fun z hz q => ?_
  obtain ⟨k,hk,hz⟩:=Option.map_eq_some_iff.mp (show (zcC x).map (fun q=>D.bl (if neg then !(valD ks ds q).isSome else (valD ks ds q).isSome))=some z by rcases hc with rfl|rfl<;>exact hz)
  subst hz
  refine zc2d (zgW hc i2) fun p xs zr2 h1 h2 h3 => ?_
  obtain rfl:=zr2
  obtain ⟨g1,g2⟩:=zc3 k h2 h3
  refine ⟨p,valV (ks.zip xs) k,rfl,?_,?_⟩
  ·rw [zc1 hk i1]
   exact zf7 (zdp e2.fh h1)
  ·have es:(valV (ks.zip xs) k).isSome=(valD ks ds k).isSome:=by
    cases hv:valD ks ds k with
    | none=>rw [g2 hv];rfl
    | some d=>obtain ⟨x,hx,_⟩:=g1 d hv;rw [hx];rfl
   rw [es]
   exact q _ F2 H2 (e1.trans e2) (IsD.bl_iff.mpr rfl)
 ·refine .inr (zfS ⟨B,F,sd,r,?_⟩)
  unfold dOp at n ⊢
  cases hx:fa sd with
  | ok d =>
   rw [hx] at n
   cases hy:fb sd with
   | ok e =>
    rw [hy] at n
    cases e with
    | dct ks ds=>exact absurd ⟨_,ks,ds,hy,.inl rfl⟩ hd
    | dcf ks ds=>exact absurd ⟨_,ks,ds,hy,.inr rfl⟩ hd
    | _=>exact n
   | no=>rw [hy] at n;exact n
   | ex c fs=>rw [hy] at n;exact n
  | no=>rw [hx] at n;exact n
  | ex c fs=>rw [hx] at n;exact n
theorem zgT (hu:X.A.units+64<cLine)(ha:QE X E a fa)(hb:QE X E b fb)(hm:autoParam (behindInMarks .NotIn b=false) zau._auto_1):QT X E (.Compare a [.NotIn] [b] pos) (za1 (dOp (gIn true) fa fb)) :=
 PT.weak (PT.or (zki (zfk (by omega) ha hb) hm) (zfX (ziM hu true) ha hb hm)) fun σ H Q h=>tD_in (zbM h)
end
end L2.DL
namespace L2.DL
open PySem PySem.Spec PyProof.Rows
section
variable {X:Cx}{E:XK}{m:Option Bool}{a b o i e f tg:Expr}{fa fb fo fi fv:FE}{fr:FA}{pos pos' apos cpos p:Pos}
theorem zb9 {K:PySem.W.Frag}{H:Hp}{d:D}{vs:List V}(h:IsDs K H [d] vs):∃ v,vs=[v]∧IsD K H d v:=by
 rw [IsDs.cons_iff] at h
 refine zc2c h fun v r zr2 h1 h2 => ?_
 obtain rfl:=zr2
 rw [IsDs.nil_iff] at h2
 subst h2
 exact ⟨v,rfl,h1⟩
theorem zem {K:PySem.W.Frag}{H:Hp}{d e:D}{vs:List V}(h:IsDs K H [d,e] vs):∃ v w,vs=[v,w]∧IsD K H d v∧IsD K H e w:=by
 rw [IsDs.cons_iff] at h
 refine zc2c h fun v r zr2 h1 h2 => ?_
 obtain rfl:=zr2
 refine zc1b (zb9 h2) fun w zr1 h3 => ?_
 obtain rfl:=zr1
 exact ⟨v,w,rfl,h1,h3⟩
noncomputable def gLen:List D→Option D
 | [.lst ds]=>some (.int ds.length)
 | [.tup ds]=>some (.int ds.length)
 | [.dct ks _]=>some (.int ks.length)
 | [.scr ns]=>some (.int ns.length)
 | [.str x]=>if x.length≤sizeLine then some (.int x.length) else none
 | _=>none
noncomputable def LenP (ds:List D)(z:D):Prop:=(∃ es,ds=[.lst es]∧z=.int es.length)∨(∃ es,ds=[.tup es]∧z=.int es.length)∨(∃ ks es,ds=[.dct ks es]∧z=.int ks.length)∨(∃ ns,ds=[.scr ns]∧z=.int ns.length)∨∃ x,x.length≤sizeLine∧ds=[.str x]∧z=.int x.length
theorem zgL {ds:List D}{z:D}(hz:gLen ds=some z):LenP ds z:=by
 cases ds with
 | nil=>exact zqn hz
 | cons d ds =>
  cases ds with
  | nil =>
   cases d with
   | lst ds=>exact .inl ⟨_,rfl,(Option.some.inj hz).symm⟩
   | tup ds=>exact .inr (.inl ⟨_,rfl,(Option.some.inj hz).symm⟩)
   | dct ks ds=>exact .inr (.inr (.inl ⟨_,_,rfl,(Option.some.inj hz).symm⟩))
   | scr ns=>exact .inr (.inr (.inr (.inl ⟨_,rfl,(Option.some.inj hz).symm⟩)))
   | str x=>exact let q:=zbr hz;.inr (.inr (.inr (.inr ⟨_,q.1,rfl,q.2.symm⟩)))
   | _=>exact zqn hz
  | cons e ds=>cases d<;>exact zqn hz
theorem zcX:zat X (.builtin "len") (rDA X.K gLen):=zat.weak (zat.or zcV (zat.or zf5 zcJ)) fun xs H Q zh=>by
 obtain ⟨F,ds,z,sF,id,hz,q⟩:=zh
 rcases zgL hz with ⟨es,rfl,rfl⟩|⟨es,rfl,rfl⟩|⟨ks,es,rfl,rfl⟩|⟨ns,rfl,rfl⟩|⟨x,hl,rfl,rfl⟩
 ·obtain ⟨v,rfl,h⟩:=zb9 id
  rw [IsD.lst_iff] at h
  obtain ⟨a,ys,rfl,h1,h2⟩:=h
  rw [← h2.length] at q
  exact .inl ⟨a,ys,rfl,.inl (h1.same sF).sq,q _ F H (.refl sF) (isI _ F)⟩
 ·obtain ⟨v,rfl,h⟩:=zb9 id
  rw [IsD.tup_iff] at h
  obtain ⟨a,ys,rfl,h1,h2⟩:=h
  rw [← h2.length] at q
  exact .inl ⟨a,ys,rfl,.inr (h1.same sF).sq,q _ F H (.refl sF) (isI _ F)⟩
 ·obtain ⟨v,rfl,h⟩:=zb9 id
  rw [IsD.dct_iff] at h
  obtain ⟨a,ys,rfl,h1,h2,h3⟩:=h
  refine .inr (.inl ⟨a,_,rfl,sF _ _ h1,?_⟩)
  rw [List.length_zip,← h2,Nat.min_self]
  exact q _ F H (.refl sF) (isI _ F)
 ·obtain ⟨v,rfl,h⟩:=zb9 id
  rw [IsD.scr_iff] at h
  obtain ⟨a,rfl,h1⟩:=h
  refine .inl ⟨a,_,rfl,.inl (Same.seq sF h1),?_⟩
  rw [List.length_map]
  exact q _ F H (.refl sF) (isI _ F)
 ·obtain ⟨v,rfl,h⟩:=zb9 id
  rw [IsD.str_iff] at h
  subst h
  exact .inr (.inr ⟨_,rfl,hl,q _ F H (.refl sF) (isI _ F)⟩)
noncomputable def zgo:List D→Option D
 | [.int i,.int j]=>some (.int (if j > i then j else i))
 | _=>none
noncomputable def zgO:List D→Option D
 | [.int i,.int j]=>some (.int (if j<i then j else i))
 | _=>none
noncomputable def zjW (ds:List D):Prop:=∃ i j,ds=[.int i,.int j]
theorem zgs {ds:List D}{z:D}(hz:zgo ds=some z):zjW ds:=by
 cases ds with
 | nil=>exact zqn hz
 | cons d ds =>
  cases ds with
  | nil=>cases d<;>exact zqn hz
  | cons e ds =>
   cases d with
   | int i =>
    cases e with
    | int j =>
     cases ds with
     | nil=>exact ⟨_,_,rfl⟩
     | cons _ _=>exact zqn hz
    | _=>exact zqn hz
   | _=>exact zqn hz
theorem zhZ {ds:List D}{z:D}(hz:zgO ds=some z):zjW ds:=by
 cases ds with
 | nil=>exact zqn hz
 | cons d ds =>
  cases ds with
  | nil=>cases d<;>exact zqn hz
  | cons e ds =>
   cases d with
   | int i =>
    cases e with
    | int j =>
     cases ds with
     | nil=>exact ⟨_,_,rfl⟩
     | cons _ _=>exact zqn hz
    | _=>exact zqn hz
   | _=>exact zqn hz
theorem ziV (hc:X.calm=true):zat X (.builtin "max") (rDA X.K zgo):=zat.weak (zff hc) fun xs H Q zh=>by
 refine zc3a zh fun F ds z zz=>zc0d zz fun sF id hz q => ?_
 refine zc2a (zgs hz) fun i j zr2 => ?_
 obtain rfl:=zr2
 obtain rfl:=Option.some.inj hz
 refine zc2c (zem id) fun v w zr2 h1 h2 => ?_
 obtain rfl:=zr2
 exact ⟨_,_,by rw [IsD.int_iff.mp h1,IsD.int_iff.mp h2],q _ F H (.refl sF) (isI _ F)⟩
theorem zjp (hc:X.calm=true):zat X (.builtin "min") (rDA X.K zgO):=zat.weak (zf8 hc) fun xs H Q zh=>by
 refine zc3a zh fun F ds z zz=>zc0d zz fun sF id hz q => ?_
 refine zc2a (zhZ hz) fun i j zr2 => ?_
 obtain rfl:=zr2
 obtain rfl:=Option.some.inj hz
 refine zc2c (zem id) fun v w zr2 h1 h2 => ?_
 obtain rfl:=zr2
 exact ⟨_,_,by rw [IsD.int_iff.mp h1,IsD.int_iff.mp h2],q _ F H (.refl sF) (isI _ F)⟩
def zdR:D→Option (List Int)
 | .lst ds=>zck zes ds
 | _=>none
theorem zfj {K:PySem.W.Frag}{H:Hp}{d:D}{ns:List Int}{v:V}(h:zdR d=some ns)(i:IsD K H d v):∃ a,v=.ref a∧LstD K H a (ns.map V.int):=by
 cases d with
 | lst ds =>
  rw [IsD.lst_iff] at i
  refine zc2c i fun a xs zr2 h1 h2 => ?_
  obtain rfl:=zr2
  rw [zej (show zck zes ds=some ns from h)] at h2
  rw [IsDs.ints_iff h2] at h1
  exact ⟨a,rfl,h1⟩
 | _=>exact zqn h
theorem zet (ns:List Int):zdR (.lst (ns.map D.int))=some ns:=zev ns
noncomputable def tyN:D→Option String
 | .non=>some "NoneType"
 | .bl _=>some "bool"
 | .int _=>some "int"
 | .str _=>some "str"
 | .lst _=>some "list"
 | .tup _=>some "tuple"
 | .dct _ _=>some "dict"
 | _=>none
noncomputable def tyIn (t n:String):Bool:=(t == n)||(t == "bool" && n == "int")
noncomputable def zci (t n:String):Bool:=["NoneType", "bool", "int", "str", "list", "tuple", "dict"].contains t&&["bool", "int", "str", "list", "tuple", "dict"].contains n
theorem zi8 (K:PySem.W.Frag)(t n:String)(h:zci t n=true):PySem.W.kitOne K (.type t) (.type n)=some (tyIn t n):=by
 unfold zci at h
 rw [Bool.and_eq_true,List.contains_iff_mem,List.contains_iff_mem] at h
 obtain ⟨h1,h2⟩:=h
 simp only [List.mem_cons,List.not_mem_nil,or_false] at h1 h2
 rcases h1 with rfl|rfl|rfl|rfl|rfl|rfl|rfl<;>rcases h2 with rfl|rfl|rfl|rfl|rfl|rfl<;>first|rfl|kernel_rfl
def gIsi:List D→Option D
 | [d,.ty n]=>(tyN d).bind fun t=>if zci t n then some (.bl (tyIn t n)) else none
 | _=>none
theorem ziH {K:PySem.W.Frag}{H:Hp}{d:D}{v:V}{t:String}(h:tyN d=some t)(i:IsD K H d v):TyOf K H v (.type t):=by
 cases d with
 | non=>cases h;rw [IsD.non_iff.mp i];exact .non
 | bl b=>cases h;rw [IsD.bl_iff.mp i];exact .bl b
 | int j=>cases h;rw [IsD.int_iff.mp i];exact .int j
 | str x=>cases h;rw [IsD.str_iff.mp i];exact .str x
 | lst ds =>
  obtain rfl:=Option.some.inj h
  rw [IsD.lst_iff] at i
  refine zc2c i fun a xs zr2 h1 _ => ?_
  obtain rfl:=zr2
  rcases h1 with h1|⟨o,h1⟩
  ·exact .lst h1
  ·exact .frz h1
 | tup ds =>
  obtain rfl:=Option.some.inj h
  rw [IsD.tup_iff] at i
  refine zc2c i fun a xs zr2 h1 _ => ?_
  obtain rfl:=zr2
  exact .tup h1
 | dct ks ds =>
  obtain rfl:=Option.some.inj h
  rw [IsD.dct_iff] at i
  refine zc2c i fun a xs zr2 h1 _ => ?_
  obtain rfl:=zr2
  exact .dK h1
 | ty n=>exact zqn h
 | scr n=>exact zqn h
 | ins C fs ds=>exact zqn h
 | exc c=>exact zqn h
 | ucl c=>exact zqn h
 | adr c=>exact zqn h
 | dcf c ds=>exact zqn h
def IsiP (ds:List D)(z:D):Prop:=∃ d n t,ds=[d,.ty n]∧tyN d=some t∧zci t n=true∧z=.bl (tyIn t n)
theorem zgv {ds:List D}{z:D}(hz:gIsi ds=some z):IsiP ds z:=by
 cases ds with
 | nil=>exact zqn hz
 | cons d ds =>
  cases ds with
  | nil=>exact zqn hz
  | cons e ds =>
   cases ds with
   | nil =>
    cases e with
    | ty n =>
     refine zc1b (Option.bind_eq_some_iff.mp (show (tyN d).bind (fun t=>if zci t n then some (D.bl (tyIn t n)) else none)=some z from hz)) fun t h1 hz => ?_
     exact ⟨d,n,t,rfl,h1,(zbr hz).1,(zbr hz).2.symm⟩
    | _=>exact zqn hz
   | cons _ _=>cases e<;>exact zqn hz
theorem b_isi:zat X (.builtin "isinstance") (rDA X.K gIsi):=zat.weak zg9 fun xs H Q zh=>by
 refine zc3a zh fun F ds z zz=>zc0d zz fun sF id hz q => ?_
 refine zc3a (zgv hz) fun d n t zz=>zc0d zz fun zr3 h1 hk zr6 => ?_
 obtain rfl:=zr3
 obtain rfl:=zr6
 refine zc2c (zem id) fun v w zr2 h2 h3 => ?_
 obtain rfl:=zr2
 exact ⟨v,_,_,_,by rw [IsD.ty_iff.mp h3],ziH h1 (IsD.same sF _ _ h2),zi8 _ _ _ hk,q _ F H (.refl sF) (isB _ F)⟩
theorem zjN {n:String}{x:Str}{u:Value}(hg:Gl X x)(hm:X.mg x=none)(hv:bootBuiltins x=some u)(r:RelV (.ty n) u)(hn:autoParam (x ≠ "__name__") zav._auto_1)(hd:autoParam ((x == ("__debug__" : Str))=false) zav._auto_1):QE X E (.Name x pos) (dC (.ty n)) :=
 zbB (zhr (v:=.ty n) hg hm hv r hn hd) fun _=>IsD.ty_iff.mpr rfl
noncomputable def zcp:List D→Option D
 | [.lst ds]=>some (.lst ds)
 | [.tup ds]=>some (.lst ds)
 | [.scr ns]=>some (.lst (ns.map .int))
 | _=>none
noncomputable def ListP (ds:List D)(z:D):Prop:=(∃ es,ds=[.lst es]∧z=.lst es)∨(∃ es,ds=[.tup es]∧z=.lst es)∨∃ ns,ds=[.scr ns]∧z=.lst (ns.map .int)
theorem zfu {ds:List D}{z:D}(hz:zcp ds=some z):ListP ds z:=by
 cases ds with
 | nil=>exact zqn hz
 | cons d ds =>
  cases ds with
  | nil =>
   cases d with
   | lst ds=>exact .inl ⟨_,rfl,(Option.some.inj hz).symm⟩
   | tup ds=>exact .inr (.inl ⟨_,rfl,(Option.some.inj hz).symm⟩)
   | scr ns=>exact .inr (.inr ⟨_,rfl,(Option.some.inj hz).symm⟩)
   | _=>exact zqn hz
  | cons e ds=>cases d<;>exact zqn hz
theorem zhb:zat X (.type "list") (rDAN X.K zcp):=zat.weak zbD fun xs H Q zh=>by
 obtain ⟨F,ds,z,sF,id,hz,q⟩:=zh
 have fin:∀ {es:List D} {ys:List V},IsDs X.K F es ys→OkN X.K F H Q (.lst es)→∀ l,H l=none→Q (.ref l) (upd H l (.lst ys)):=fun {es ys} h q l hl =>
  q l F _ (.keep sF hl _) hl (zam sF hl) ⟨ys,zak,h⟩
 rcases zfu hz with ⟨es,rfl,rfl⟩|⟨es,rfl,rfl⟩|⟨ns,rfl,rfl⟩
 ·obtain ⟨v,rfl,h⟩:=zb9 id
  rw [IsD.lst_iff] at h
  obtain ⟨a,ys,rfl,h1,h2⟩:=h
  exact ⟨a,ys,rfl,.inl (h1.same sF).sq,fin h2 q⟩
 ·obtain ⟨v,rfl,h⟩:=zb9 id
  rw [IsD.tup_iff] at h
  obtain ⟨a,ys,rfl,h1,h2⟩:=h
  exact ⟨a,ys,rfl,.inr (h1.same sF).sq,fin h2 q⟩
 ·obtain ⟨v,rfl,h⟩:=zb9 id
  rw [IsD.scr_iff] at h
  obtain ⟨a,rfl,h1⟩:=h
  exact ⟨a,_,rfl,.inl (Same.seq sF h1),fin (IsDs.ints _) q⟩
noncomputable def zdX:List D→Option D
 | [.lst ds]=>some (.tup ds)
 | [.tup ds]=>some (.tup ds)
 | _=>none
noncomputable def TupP (ds:List D)(z:D):Prop:=(∃ es,ds=[.lst es]∧z=.tup es)∨∃ es,ds=[.tup es]∧z=.tup es
theorem zex {ds:List D}{z:D}(hz:zdX ds=some z):TupP ds z:=by
 cases ds with
 | nil=>exact zqn hz
 | cons d ds =>
  cases ds with
  | nil =>
   cases d with
   | lst ds=>exact .inl ⟨_,rfl,(Option.some.inj hz).symm⟩
   | tup ds=>exact .inr ⟨_,rfl,(Option.some.inj hz).symm⟩
   | _=>exact zqn hz
  | cons e ds=>cases d<;>exact zqn hz
theorem zhW:zat X (.type "tuple") (rDA X.K zdX):=zat.weak zcF fun xs H Q zh=>by
 refine zc3a zh fun F ds z zz=>zc0d zz fun sF id hz q => ?_
 rcases zex hz with ⟨es,rfl,rfl⟩|⟨es,rfl,rfl⟩
 ·refine zc1b (zb9 id) fun v zr1 h => ?_
  obtain rfl:=zr1
  rw [IsD.lst_iff] at h
  refine zc2c h fun a ys zr2 h1 h2 => ?_
  obtain rfl:=zr2
  refine ⟨a,ys,rfl,.inl ⟨(h1.same sF).sq,fun l hl => ?_⟩⟩
  have ea:=Ext.alloc sF hl (.tup ys)
  exact q _ _ _ ea (IsD.tup_iff.mpr ⟨l,ys,rfl,.of zak,IsDs.same ea.ff _ _ h2⟩)
 ·refine zc1b (zb9 id) fun v zr1 h => ?_
  obtain rfl:=zr1
  have h':=h
  rw [IsD.tup_iff] at h
  refine zc2c h fun a ys zr2 h1 h2 => ?_
  obtain rfl:=zr2
  exact ⟨a,ys,rfl,.inr ⟨(h1.same sF).sq,q _ F H (.refl sF) h'⟩⟩
noncomputable def walkL:D→Option (List D)
 | .lst ds=>some ds
 | .scr ns=>some (ns.map .int)
 | _=>none
noncomputable def walkT:D→Option (List D)
 | .tup ds=>some ds
 | _=>none
def iL (f:FE):FA:=fun sd=>(f sd).bind fun d=>.ofO (walkL d)
def iT (f:FE):FA:=fun sd=>(f sd).bind fun d=>.ofO (walkT d)
theorem zb3 {K:PySem.W.Frag}{F1:Hp}{J:It}{ds:List D}{xs:List V}{S:Hp→Prop}(h:IsDs K F1 ds xs)(sm:∀ F H,Same F1 F→Same F H→S H)(g:∀ i H x,S H→xs[i]? = some x→J.go i H)(st:∀ i H,S H→xs.length≤i→J.stop i H)
 (yl:∀ i H x H',S H→J.yld i H x H'→H'=H∧xs[i]? = some x):Walk K F1 J ds:=fun i F2 H2 s1 s2=>by
 have hS:=sm F2 H2 s1 s2
 refine ⟨fun hi => ?_,fun hi=>st i H2 hS (by rw [h.length];exact hi)⟩
 refine zc1b (h.get (List.getElem?_eq_getElem hi)) fun x hx _ => ?_
 refine ⟨g i H2 x hS hx,fun y H3 hy => ?_⟩
 obtain ⟨rfl,hy'⟩:=yl i H2 y H3 hS hy
 refine zc1b (h.getV hy') fun d hd id => ?_
 exact ⟨d,F2,hd,.refl s2,IsD.same s1 _ _ id⟩
theorem zh3 (h:QE X E e fa):QI X E tg e (iL fa):=PI.weak (zit h) fun σ H R zh=>by
 refine zc3b zh fun B F sd r n => ?_
 refine ⟨B,F,sd,r,(Res.need_bind n).mono (fun d n1 v F1 H1 e1 i1 => ?_) fun _ _ q=>q⟩
 refine zc1b (Res.need_ofO n1) fun ds hz q => ?_
 cases d with
 | lst es =>
  obtain rfl:=Option.some.inj hz
  rw [IsD.lst_iff] at i1
  refine zc2c i1 fun a xs zr2 h1 h2 => ?_
  obtain rfl:=zr2
  refine ⟨a,rfl,⟨xs,(h1.same e1.fh).sq⟩,q _ F1 H1 e1 (zb3 (S:=fun H=>SqL X.K H a xs) h2 (fun F H s1 s2=>((h1.same s1).same s2).sq) (fun i H x hS hx=>⟨xs,x,hS,hx⟩) (fun i H hS hi=>⟨xs,hS,hi⟩) fun i H x H' hS hy=>⟨hy.1,hy.2 xs hS⟩)⟩
 | scr ns =>
  obtain rfl:=Option.some.inj hz
  rw [IsD.scr_iff] at i1
  refine zc1b i1 fun a zr1 h1 => ?_
  obtain rfl:=zr1
  refine ⟨a,rfl,⟨_,Same.seq e1.fh h1⟩,q _ F1 H1 e1 (zb3 (S:=fun H=>SqL X.K H a (ns.map V.int)) (IsDs.ints ns) (fun F H s1 s2=>Same.seq s2 (Same.seq s1 h1)) (fun i H x hS hx=>⟨_,x,hS,hx⟩) (fun i H hS hi=>⟨_,hS,hi⟩) fun i H x H' hS hy=>⟨hy.1,hy.2 _ hS⟩)⟩
 | _=>exact zqn hz
theorem zja (h:QE X E e fa):QI X E tg e (iT fa):=PI.weak (zjF h) fun σ H R zh=>by
 refine zc3b zh fun B F sd r n => ?_
 refine ⟨B,F,sd,r,(Res.need_bind n).mono (fun d n1 v F1 H1 e1 i1 => ?_) fun _ _ q=>q⟩
 refine zc1b (Res.need_ofO n1) fun ds hz q => ?_
 cases d with
 | tup es =>
  obtain rfl:=Option.some.inj hz
  rw [IsD.tup_iff] at i1
  refine zc2c i1 fun a xs zr2 h1 h2 => ?_
  obtain rfl:=zr2
  refine ⟨a,rfl,⟨xs,(h1.same e1.fh).sq⟩,q _ F1 H1 e1 (zb3 (S:=fun H=>SqT X.K H a xs) h2 (fun F H s1 s2=>((h1.same s1).same s2).sq) (fun i H x hS hx=>⟨xs,x,hS,hx⟩) (fun i H hS hi=>⟨xs,hS,hi⟩) fun i H x H' hS hy=>⟨hy.1,hy.2 xs hS⟩)⟩
 | _=>exact zqn hz
noncomputable def PIor {X:Cx}{tg e:Expr}{t t':TI}(h:PI X tg e t)(h':PI X tg e t'):PI X tg e (fun σ H R=>t σ H R∨t' σ H R):=fun pins s σ H R I q=>q.elim (h pins s σ H R I) (h' pins s σ H R I)
noncomputable def ze9:D→Option (List D)
 | .lst ds=>some ds
 | .scr ns=>some (ns.map .int)
 | .tup ds=>some ds
 | _=>none
def iS (f:FE):FA:=fun sd=>(f sd).bind fun d=>.ofO (ze9 d)
theorem zcx (h:QE X E e fa):QI X E tg e (iS fa):=PI.weak (PIor (zh3 (E:=E) h) (zja (E:=E) h)) fun σ H R zh=>by
 refine zc3b zh fun B F sd r n => ?_
 by_cases hd:∃ ds,fa sd=.ok (.tup ds)
 ·obtain ⟨ds,hd⟩:=hd
  refine .inr ⟨B,F,sd,r,?_⟩
  unfold iS at n
  unfold iT
  rw [hd] at n ⊢
  exact n
 ·refine .inl ⟨B,F,sd,r,?_⟩
  unfold iS at n
  unfold iL
  cases hx:fa sd with
  | ok d =>
   rw [hx] at n
   cases d with
   | tup ds=>exact absurd ⟨ds,hx⟩ hd
   | _=>exact n
  | no=>rw [hx] at n;exact n
  | ex c fs=>rw [hx] at n;exact n
noncomputable def zax (lo:Int)(n:Nat):List D:=(List.range n).map fun k:Nat=>.int (lo+k)
noncomputable def zeA (j:Int):Bool:=Nat.ble j.toNat 1000000000&&Nat.ble (-j).toNat 1000000000
theorem zdK {j:Int}(h:zeA j=true) : -(2 ^ 62)≤j∧j<2 ^ 62:=by
 unfold zeA at h
 rw [Bool.and_eq_true,Nat.ble_eq,Nat.ble_eq] at h
 omega
theorem zgF {j:Int}(h1 : -1000000000≤j)(h2:j≤1000000000):zeA j=true:=by
 unfold zeA
 rw [Bool.and_eq_true,Nat.ble_eq,Nat.ble_eq]
 omega
def iR1 (fr:FA):FA:=fun sd=>(fr sd).bind fun ds=>match ds with
 | [.int j]=>if zeA j then .ok (zax 0 j.toNat) else .no
 | _=>.no
theorem zey {K:PySem.W.Frag}{F1:Hp}(lo:Int)(n:Nat):Walk K F1 (Itr lo n) (zax lo n):=fun i F2 H2 s1 s2=>by
 have hl:(zax lo n).length=n:=by unfold zax;rw [List.length_map,List.length_range]
 rw [hl]
 refine ⟨fun hi=>⟨hi,fun x H3 hy => ?_⟩,fun hi=>hi⟩
 obtain ⟨rfl,rfl⟩:=hy
 refine ⟨.int (lo+i),F2,?_,.refl s2,IsD.int_iff.mpr rfl⟩
 unfold zax
 rw [List.getElem?_map,List.getElem?_range hi]
 rfl
theorem zaR {a:Expr}(hg:Gl X "range")(hm:X.mg "range" = none)(ha:QA X E [a] fr)(hs:autoParam (starEach [a] X.env=[(false,eval a X.env)]) zau._auto_1):QI X E tg (.Call (.Name "range" p) [a] [] pos) (iR1 fr):=PI.weak (zfo hg hm ha hs) fun σ H R zh=>by
 refine zc3b zh fun B F sd r n => ?_
 refine ⟨B,F,sd,r,(Res.need_bind n).mono (fun ds n1 vs F1 H1 e1 i1 => ?_) fun _ _ q=>q⟩
 split at n1
 ·split at n1
  ·rename_i j hj
   refine zc1b (zb9 i1) fun v zr1 h => ?_
   obtain rfl:=zr1
   rw [IsD.int_iff.mp h]
   exact ⟨j,rfl,(zdK hj).1,(zdK hj).2,n1 _ F1 H1 e1 (zey 0 _)⟩
  ·exact n1.elim
 ·exact n1.elim
end
end L2.DL
namespace L2.DL
open PySem PySem.Spec PyProof.Rows
section
variable {X:Cx}{E:XK}{m:Option Bool}{a b o i e f tg:Expr}{fa fb fo fi fv:FE}{fr:FA}{pos pos' apos cpos p:Pos}
theorem zbc {i:Nat}{e:Expr}(h:PG X e (zcT i)):QG X e (.one i):=h
end
end L2.DL
namespace L2.DL
open PySem PySem.Spec PyProof.Rows
section
variable {X:Cx}{E:XK}{m:Option Bool}{a b o i e f tg:Expr}{fa fb fo fi fv:FE}{fr:FA}{pos pos' apos cpos p:Pos}
def zdd (i:Nat)(fb:FE):FE:=fun sd=>match sd[i]? with
 | some (some (.own _ d))=>(fb sd).bind fun y=>.ofO (gIx d y)
 | _=>.no
theorem zh5 {i:Nat}(hu:X.A.units+1<cLine)(ha:PE X a (tVar i))(hb:QE X E b fb)(hs:zdz b)(hs2:NoSl b):QE X E (.Subscript a b pos) (zdd i fb) :=
 PE.weak (PE.or (zgg hu ha hb hs2) (zjy zeL ha hb hs)) fun σ H Q zh=>by
  refine zc3b zh fun B F sd r n => ?_
  unfold zdd at n
  split at n
  ·rename_i p d hi
   refine zc1e (r.own hi) fun l h1 h2 h3 h4 _ => ?_
   cases d with
   | lst ds =>
    refine zc1b h4 fun xs g1 g2 => ?_
    refine .inr ⟨.ref l,h1,B,F,sd,r,(Res.need_bind n).mono (fun y n1 w F1 H1 e1 i1 => ?_) fun _ _ q=>q⟩
    refine zc1b (Res.need_ofO n1) fun z hz q => ?_
    cases y with
    | int k =>
     refine zc1b (zf3 g2 (show atI ds k=some z from hz)) fun x hx ix => ?_
     exact ⟨l,xs,k,x,rfl,IsD.int_iff.mp i1,SqL.of (e1.hh _ _ g1),hx,q _ F1 H1 e1 (IsD.same e1.ff _ _ ix)⟩
    | _=>exact zqn hz
   | dct ks ds =>
    refine zc1c h4 fun xs g1 g2 g3 => ?_
    refine .inl ⟨.ref l,h1,B,F,sd,r,(Res.need_bind n).mono (fun y n1 w F1 H1 e1 i1 => ?_) fun _ _ q=>q⟩
    refine zc1b (Res.need_ofO n1) fun z hz q => ?_
    refine zc1b (Option.bind_eq_some_iff.mp (show (zcC y).bind (fun q=>valD ks ds q)=some z from hz)) fun k hk hz => ?_
    refine zc1b ((zc3 k g2 g3).1 z hz) fun x hx ix => ?_
    refine ⟨l,x,rfl,?_,q x F1 H1 e1 (IsD.same e1.ff _ _ ix)⟩
    rw [zc1 hk i1,← hx]
    exact DGet.k (e1.hh _ _ g1)
   | ins c fs ds =>
    refine .inr ⟨.ref l,h1,B,F,sd,r,(Res.need_bind n).mono (fun y n1 w F1 H1 e1 i1 => ?_) fun _ _ q=>q⟩
    refine zc1b (Res.need_ofO n1) fun z hz q => ?_
    cases y<;>exact zqn hz
   | _=>exact h4.elim
  ·exact n.elim
end
end L2.DL
namespace L2
open PySem PySem.Spec PyProof.Rows
section
variable {X:Cx}{tg iter elt c:Expr}{scope:Scope}{pos:Pos}{wi:TI}{g:TG}{te:TE}{tt:TT}
theorem zi9 {y:Str}{py:Pos}{iy:Nat}{pins:List (Addr×Obj)}{σ : St}{DD:Ends}(hNN:X.N.Nodup)(hiy:X.N[iy]? = some y)(hyy:Loc X.env.scope y)(hyf:X.fn y=true∨X.env.scope.names.lookup y=some .local) :
 zc6 X pins σ (fun v H'=>DD.nx (σ.set iy (some v)) H') (some (assign (.Name y py) X.env)) (fun _ s'=>SP X pins DD .next s'):=fun C D m s5 r hm nC nF sz cC pC k=>by
 refine zc2d (k s5.heap ⟨rfl,fun _ _=>rfl⟩) fun v5 H5 K5 rv5 fC q5 => ?_
 refine zc3c (id hm) fun oC esC epC hoC hdC hrC => ?_
 have KP:Inv X (pins++[(C,oC)]) σ H5 { s5 with heap:=s5.heap }:=K5.pins_of fun p hp=>by
  rcases List.mem_append.mp hp with hp|hp
  ·exact K5.pin p (List.mem_append_right _ hp)
  ·have e:=List.mem_singleton.mp hp
   subst e
   exact ⟨hoC,fC,nC,nF,fun v z=>by rw [show oC.data=_ from z] at hdC;cases hdC⟩
 refine wpAny_assign_Name (zbL KP hNN hiy hyy rv5 (fun s6 I6 => ?_) hyf)
 have p6:=I6.pin (C,oC) (List.mem_append_right _ (List.mem_append_right _ List.mem_cons_self))
 refine ⟨m,⟨oC,esC,epC,p6.1,hdC,hrC⟩,fun h' hs'=>⟨_,H5,?_,q5⟩⟩
 exact (I6.pins_of (pins':=pins) fun p hp=>I6.pin p (List.mem_append_right _ (List.mem_append_left _ hp))).turned (t':=s6.toks) (it:=C) (fun b o hb e=>(hs'.2 b hb).trans e) fC nC (.inr sz) cC pC
theorem zcu {y:Str}{py spos:Pos}{iy:Nat}(hsw:swapsWith (.ListComp elt [⟨tg,iter,[],0⟩] scope pos) (some (.Name y py)) spos.line X.env=pure true)(hNN:X.N.Nodup)(hiy:X.N[iy]? = some y)(hyy:Loc X.env.scope y)(hyf:X.fn y=true∨X.env.scope.names.lookup y=some .local)(N:List Str)(cap:List (Option Nat))(hc:X.calm=true)(okB:zaX scope X.env N X.N cap=true)(hi:PI X tg iter wi)(hg:∀ cl C s H ex,PG (zap X scope N cl C s H ex) tg g)(he:∀ cl C s H ex,PE (zap X scope N cl C s H ex) elt te)
 (hs:autoParam (∀ x,foldedSetIterable iter X.env x=pure x) zaw._auto_1):PS X (.Assign [.Name y py] (.ListComp elt [⟨tg,iter,[],0⟩] scope pos) spos) (tAsg (zfQ cap wi g te) (zcT iy)):=by
 intro pins s σ H DD I h
 rw [exec_Assign_Name_used _ _ _ _ hsw]
 refine wpAny_bind (wpAny_standAt (wpAny_bind ?_))
 refine wpAny_bind (wpAny_mono (zfO (use:=some (assign (.Name y py) X.env)) (R:=fun _ s'=>SP X pins DD .next s') N cap hc okB hi hg (fun cl C s H ex _=>he cl C s H ex) hs I h (zi9 hNN hiy hyy hyf)) (fun _ s' hq=>wpAny_pure (wpAny_pure hq)) fun _ _ e=>e)
end
end L2
namespace L2.DL
open PySem PySem.Spec PyProof.Rows
section
variable {X:Cx}{E:XK}{m:Option Bool}{tg iter elt c:Expr}{scope:Scope}{pos spos py:Pos}{y:Str}{iy:Nat}{t:Tg}{fi:FA}{fc:FT}{f:FE}
theorem zhm {K:PySem.W.Frag}{te:TE}{i:Nat}{fe:FE}(w:∀ σ H Q,tDN K E fe σ H Q→te σ H Q){T:Ends}{σ : St}{H:Hp}(h:tDS K E m (sSet i fe) T σ H):tAsg te (zcT i) T σ H:=w _ _ _ (by
 obtain ⟨B,F,sd,r,n⟩:=h
 refine ⟨B,F,sd,r,(Res.need_bind n).mono (fun d n1=>OkD.new fun v F1 H1 e1 i1 => ?_) fun _ _ q=>q.ext r.ext⟩
 exact n1 _ F1 H1 e1.ff ((r.step e1).setVal i1))
theorem zii {K:PySem.W.Frag}{te:TE}{i:Nat}{fe:FE}(w:∀ σ H Q,tDN K E fe σ H Q→te σ H Q){T:Ends}{σ : St}{H:Hp}(h:tDS K E m (sOwn i fe) T σ H):tAsg te (zcT i) T σ H:=w _ _ _ (by
 obtain ⟨B,F,sd,r,n⟩:=h
 refine ⟨B,F,sd,r,(Res.need_bind n).mono (fun d n1 l F1 H1 e1 h1 h2 h3 => ?_) fun _ _ q=>q.ext r.ext⟩
 refine n1 _ F1 H1 e1.ff ((r.step e1).setOwn (zam r.ext.hh h1) h2 h3 fun j p d' q1 q2 => ?_)
 obtain ⟨l',p1,_,_,p4,_⟩:=r.own q1
 rw [p1] at q2
 cases q2
 obtain ⟨o,ho⟩:=p4.has
 rw [h1] at ho
 exact zqn ho)
theorem ze6 (N:List Str)(cap:List (Option Nat))(hNN:X.N.Nodup)(hiy:X.N[iy]? = some y)(hyy:Loc X.env.scope y)(hc:X.calm=true)(okB:zaX scope X.env N X.N cap=true)(hi:QI X E tg iter fi)
 (hg:∀ cl C s H ex,QG (zap X scope N cl C s H ex) tg t) (he:∀ cl C s H ex,QE (zap X scope N cl C s H ex) E elt f) (hsw:autoParam (swapsWith (.ListComp elt [⟨tg,iter,[],0⟩] scope pos) (some (.Name y py)) spos.line X.env=pure true) zau._auto_1)
 (hyf:X.fn y=true∨X.env.scope.names.lookup y=some .local:=by first|exact .inl rfl|exact .inr rfl) (hs:∀ x,foldedSetIterable iter X.env x=pure x:=by intro _;rfl) :
 QS X E m (.Assign [.Name y py] (.ListComp elt [⟨tg,iter,[],0⟩] scope pos) spos) (sSet iy (zcm cap fi t f)):=by
 have hh:=zcu (g:=gT t X.K) (te:=tD X.K E f) hsw hNN hiy hyy hyf N cap hc okB hi hg he hs
 exact PS.weak hh fun T σ H h=>zhm (fun _ _ _ q=>zcA q) h
end
end L2.DL
namespace L2.DL
open PySem PySem.Spec PyProof.Rows
noncomputable def zkh:Option (Option SV)→Res D
 | some (some (.val d))=>.ok d
 | _=>.no
@[simp] theorem zj5 (d:D):zkh (some (some (.val d)))=.ok d:=rfl
@[simp] theorem ev_var (i:Nat)(sd:SD):dVar i sd=zkh sd[i]? := rfl
@[simp] theorem ev_C (d:D)(sd:SD):dC d sd=.ok d:=rfl
@[simp] theorem ev_op (g:D→D→Option D)(fa fb:FE)(sd:SD):dOp g fa fb sd=(fa sd).bind fun x=>(fb sd).bind fun y=>.ofO (g x y):=rfl
@[simp] theorem ev_un (g:D→Option D)(fa:FE)(sd:SD):dUn g fa sd=(fa sd).bind fun x=>.ofO (g x):=rfl
noncomputable def bOf:D→Res Bool
 | .bl b=>.ok b
 | _=>.no
@[simp] theorem bOf_bl (b:Bool):bOf (.bl b)=.ok b:=rfl
@[simp] theorem ev_bool (fa:FE)(sd:SD):za1 fa sd=(fa sd).bind bOf:=by
 unfold za1
 cases fa sd with
 | ok d=>cases d<;>rfl
 | ex c fs=>rfl
 | no=>rfl
@[simp] theorem ev_notT (f:FT)(sd:SD):zcO f sd=(f sd).bind fun b=>.ok (!b):=rfl
@[simp] theorem ev_andT (f g:FT)(sd:SD):zdw f g sd=(f sd).bind fun b=>if b then g sd else .ok false:=rfl
@[simp] theorem ev_orT (f g:FT)(sd:SD):dOrT f g sd=(f sd).bind fun b=>if b then .ok true else g sd:=rfl
@[simp] theorem ev_notV (fa:FE)(sd:SD):zif fa sd=(za1 fa sd).bind fun b=>.ok (.bl !b):=rfl
@[simp] theorem ev_nil (sd:SD):dNil sd=.ok []:=rfl
@[simp] theorem ev_cons (fa:FE)(fr:FA)(sd:SD):zab fa fr sd=(fa sd).bind fun x=>(fr sd).bind fun xs=>.ok (x::xs):=rfl
@[simp] theorem ev_lst (fr:FA)(sd:SD):dLst fr sd=(fr sd).bind fun xs=>if xs.length≤1000 then .ok (.lst xs) else .no:=rfl
@[simp] theorem ev_tup (fr:FA)(sd:SD):dTup fr sd=(fr sd).bind fun xs=>if xs.length≤1000 then .ok (.tup xs) else .no:=rfl
@[simp] theorem ev_call (Fn:List D→Res D)(fr:FA)(sd:SD):za0 Fn fr sd=(fr sd).bind Fn:=rfl
@[simp] theorem ev_blt (g:List D→Option D)(fr:FA)(sd:SD):dBlt g fr sd=(fr sd).bind fun xs=>.ofO (g xs):=rfl
@[simp] theorem bare_ok {α : Type}(a : α):(Res.ok a).bare=.ok a:=rfl
@[simp] theorem frzD_nil (sd:SD):frzD [] sd=sd:=rfl
noncomputable def frz1 (i:Nat)(sd:SD):Option (Option SV)→SD
 | some (some (.own _ d))=>sd.set i (some (.val d))
 | _=>sd
@[simp] theorem frz1_own (i:Nat)(sd:SD)(p:Bool)(d:D):frz1 i sd (some (some (.own p d)))=sd.set i (some (.val d)):=rfl
@[simp] theorem zjn (i:Nat)(is:List Nat)(sd:SD):frzD (i::is) sd=frzD is (frz1 i sd sd[i]?):=by
 show frzD is _=frzD is _
 congr 1
noncomputable def seqK (g:FS):Out→Res Out
 | .next sd=>g sd
 | o=>.ok o
@[simp] theorem zjx (g:FS)(sd:SD):seqK g (.next sd)=g sd:=rfl
@[simp] theorem seqK_ret (g:FS)(d:D):seqK g (.ret d)=.ok (.ret d):=rfl
@[simp] theorem ev_seq (g1 g2:FS)(sd:SD):sSeq g1 g2 sd=(g1 sd).bind (seqK g2):=by
 unfold sSeq
 cases g1 sd with
 | ok o=>cases o<;>rfl
 | ex c fs=>rfl
 | no=>rfl
@[simp] theorem ev_next (sd:SD):zbb sd=.ok (.next sd):=rfl
@[simp] theorem ev_set (i:Nat)(f:FE)(sd:SD):sSet i f sd=(f sd).bind fun d=>.ok (.next (sd.set i (some (.val d)))):=rfl
@[simp] theorem ev_own (i:Nat)(f:FE)(sd:SD):sOwn i f sd=(f sd).bind fun d=>.ok (.next (sd.set i (some (.own false d)))):=rfl
@[simp] theorem ev_ret (f:FE)(sd:SD):sRet f sd=(f sd).bind fun d=>.ok (.ret d):=rfl
noncomputable def ownV:Option (Option SV)→Res D
 | some (some (.own _ d))=>.ok d
 | _=>.no
@[simp] theorem ownV_own (p:Bool)(d:D):ownV (some (some (.own p d)))=.ok d:=rfl
@[simp] theorem zj0 (i:Nat)(sd:SD):zb6 i sd=(ownV sd[i]?).bind fun d=>.ok (.ret d):=by
 unfold zb6
 cases sd[i]? with
 | none=>rfl
 | some o =>
  cases o with
  | none=>rfl
  | some v=>cases v<;>rfl
@[simp] theorem ev_drop (f:FE)(sd:SD):zgj f sd=(f sd).bind fun _=>.ok (.next sd):=rfl
@[simp] theorem ev_ifS (c:FT)(g1 g2:FS)(sd:SD):sIf c g1 g2 sd=(c sd).bind fun b=>if b then g1 sd else g2 sd:=rfl
noncomputable def ownL:Option (Option SV)→Res (List D)
 | some (some (.own false (.lst ds)))=>.ok ds
 | _=>.no
@[simp] theorem ownL_own (ds:List D):ownL (some (some (.own false (.lst ds))))=.ok ds:=rfl
@[simp] theorem zkj (i:Nat)(f:FE)(sd:SD):zaC i f sd=(ownL sd[i]?).bind fun ds=>(f sd).bind fun d=>if ds.length<sizeLine then .ok (.next (sd.set i (some (.own false (.lst (ds++[d])))))) else .no:=by
 unfold zaC
 cases sd[i]? with
 | none=>rfl
 | some o =>
  cases o with
  | none=>rfl
  | some v =>
   cases v with
   | val d=>rfl
   | own p d=>cases p<;>cases d<;>rfl
noncomputable def outV:Out→Res D
 | .ret d=>.ok d
 | .next _=>.ok .non
 | _=>.no
@[simp] theorem outV_ret (d:D):outV (.ret d)=.ok d:=rfl
theorem zg1 (n ar:Nat)(g:FS)(ds:List D)(h:ds.length=ar):runD n ar g ds=(g (zaN n ds)).bind outV:=by
 unfold runD
 rw [if_pos h]
 cases g (zaN n ds) with
 | ok o=>cases o<;>rfl
 | ex c fs=>rfl
 | no=>rfl
noncomputable def outN:Out→Res D
 | .ret d=>.ok d
 | _=>.no
@[simp] theorem outN_ret (d:D):outN (.ret d)=.ok d:=rfl
theorem zir (n ar:Nat)(g:FS)(ds:List D)(h:ds.length=ar):runN n ar g ds=(g (zaN n ds)).bind outN:=by
 unfold runN
 rw [if_pos h]
 cases g (zaN n ds) with
 | ok o=>cases o<;>rfl
 | ex c fs=>rfl
 | no=>rfl
@[simp] theorem run_d1 (n:Nat)(g:FS)(a:D):runD n 1 g [a]=(g (some (.val a)::List.replicate (n-1) none)).bind outV:=zg1 n 1 g [a] rfl
@[simp] theorem run_d2 (n:Nat)(g:FS)(a b:D):runD n 2 g [a,b]=(g (some (.val a)::some (.val b)::List.replicate (n-2) none)).bind outV:=zg1 n 2 g [a,b] rfl
@[simp] theorem run_d3 (n:Nat)(g:FS)(a b c:D):runD n 3 g [a,b,c]=(g (some (.val a)::some (.val b)::some (.val c)::List.replicate (n-3) none)).bind outV:=zg1 n 3 g [a,b,c] rfl
@[simp] theorem run_n1 (n:Nat)(g:FS)(a:D):runN n 1 g [a]=(g (some (.val a)::List.replicate (n-1) none)).bind outN:=zir n 1 g [a] rfl
@[simp] theorem run_n2 (n:Nat)(g:FS)(a b:D):runN n 2 g [a,b]=(g (some (.val a)::some (.val b)::List.replicate (n-2) none)).bind outN:=zir n 2 g [a,b] rfl
@[simp] theorem run_n3 (n:Nat)(g:FS)(a b c:D):runN n 3 g [a,b,c]=(g (some (.val a)::some (.val b)::some (.val c)::List.replicate (n-3) none)).bind outN:=zir n 3 g [a,b,c] rfl
@[simp] theorem gAdd_int (i j:Int):gAdd (.int i) (.int j)=some (.int (i+j)):=rfl
@[simp] theorem gSub_int (i j:Int):gSub (.int i) (.int j)=some (.int (i-j)):=rfl
@[simp] theorem gNeg_int (i:Int):gNeg (.int i)=some (.int (-i)):=rfl
@[simp] theorem gLt_int (i j:Int):gLt (.int i) (.int j)=some (.bl (decide (i<j))):=rfl
@[simp] theorem gGt_int (i j:Int):gGt (.int i) (.int j)=some (.bl (decide (j<i))):=rfl
@[simp] theorem gEq_int' (i j:Int):gEq (.int i) (.int j)=some (.bl (decide (i=j))):=zhw i j
theorem zcb {i j:Int}(h:zbT i j=true):gMul (.int i) (.int j)=some (.int (i*j)):=by
 show (if zbT i j then _ else _)=_
 rw [if_pos h]
theorem zbW {i j:Int}(h1 : -18446744073709551616<j)(h2:j<18446744073709551616):zbT i j=true:=by
 unfold zbT
 rw [Bool.or_eq_true,Bool.or_eq_true,Nat.blt_eq,Nat.blt_eq]
 exact .inl (by omega)
@[simp] theorem zd6 {i j:Int}(h:0<j):gMod (.int i) (.int j)=some (.int (i % j)):=by
 show (if Nat.blt 0 j.toNat then _ else _)=_
 rw [if_pos (by rw [Nat.blt_eq];omega)]
@[simp] theorem zgn {i j:Int}(h:0<j)(h2:j<1073741824):zbh (.int i) (.int j)=some (.int (i / j)):=by
 show (if Nat.blt 0 j.toNat&&Nat.blt j.toNat 1073741824 then _ else _)=_
 rw [if_pos (by rw [Bool.and_eq_true,Nat.blt_eq,Nat.blt_eq];omega)]
@[simp] theorem gLen_lst (ds:List D):gLen [.lst ds]=some (.int ds.length):=rfl
@[simp] theorem gLen_scr (ns:List Int):gLen [.scr ns]=some (.int ns.length):=rfl
@[simp] theorem zjf (i j:Int):zgo [.int i,.int j]=some (.int (if j > i then j else i)):=rfl
@[simp] theorem zkn (i j:Int):zgO [.int i,.int j]=some (.int (if j<i then j else i)):=rfl
@[simp] theorem zj9 (ds:List D):zcp [.lst ds]=some (.lst ds):=rfl
@[simp] theorem ziD (ds:List D):zdX [.lst ds]=some (.tup ds):=rfl
@[simp] theorem gIx_lst (ds:List D)(k:Int):gIx (.lst ds) (.int k)=atI ds k:=rfl
@[simp] theorem gIx_scr (ns:List Int)(k:Int):gIx (.scr ns) (.int k)=(atI ns k).map .int:=rfl
@[simp] theorem ev_iS (f:FE)(sd:SD):iS f sd=(f sd).bind fun d=>.ofO (ze9 d):=rfl
@[simp] theorem zjR (ds:List D):ze9 (.lst ds)=some ds:=rfl
def zbp:List D→Res (List D)
 | [.int j]=>if zeA j then .ok (zax 0 j.toNat) else .no
 | _=>.no
@[simp] theorem ev_iR1 (fr:FA)(sd:SD):iR1 fr sd=(fr sd).bind zbp:=by
 unfold iR1
 cases fr sd with
 | ok ds=>show (match ds with|[.int j]=>_|_=>_)=zbp ds;unfold zbp;rfl
 | ex c fs=>rfl
 | no=>rfl
theorem zaF {j:Int}(h1 : -1000000000≤j)(h2:j≤1000000000):zbp [.int j]=.ok (zax 0 j.toNat):=if_pos (zgF h1 h2)
theorem zbt {lo:Int}{n i:Nat}{x:D}(h:(zax lo n)[i]? = some x):x=.int (lo+i)∧i<n:=by
 unfold zax at h
 rw [List.getElem?_map] at h
 by_cases hi:i<n
 ·rw [List.getElem?_range hi] at h
  exact ⟨(Option.some.inj h).symm,hi⟩
 ·rw [List.getElem?_eq_none (by rw [List.length_range];omega)] at h
  exact zqn h
theorem zba (lo:Int)(n:Nat):(zax lo n).length=n:=by unfold zax;rw [List.length_map,List.length_range]
def forT (tg:Tg)(b:FS)(ds:List D)(sd:SD):Res Out:=forD (fun x sd=>(zaZ tg x sd).bind b) ds sd
@[simp] theorem ev_for (it:FA)(tg:Tg)(b:FS)(sd:SD):sFor it tg b sd=(it sd).bind fun ds=>forT tg b ds sd:=rfl
@[simp] theorem zfc (i:Nat)(d:D)(sd:SD):zaZ (.one i) d sd=.ok (sd.set i (some (.val d))):=rfl
theorem zbl {tg:Tg}{b:FS}{ds:List D}{sd:SD}(P:Nat→SD→Prop)(h0:P 0 sd)(hs:∀ (i:Nat) (x:D) (sd:SD),ds[i]? = some x→P i sd→∃ sd',(zaZ tg x sd).bind b=.ok (.next sd')∧P (i+1) sd'):∃ sd',forT tg b ds sd=.ok (.next sd')∧P ds.length sd':=by
 have key:∀ (k i:Nat) (sd:SD),ds.length-i=k→i≤ds.length→P i sd→∃ sd',forT tg b (ds.drop i) sd=.ok (.next sd')∧P ds.length sd':=by
  intro k
  induction k with
  | zero =>
   intro i sd e hi p
   have:i=ds.length:=by omega
   subst this
   rw [List.drop_length]
   exact ⟨sd,rfl,p⟩
  | succ k ih =>
   intro i sd e hi p
   have hlt:i<ds.length:=by omega
   rw [List.drop_eq_getElem_cons hlt]
   refine zc1b (hs i ds[i] sd (List.getElem?_eq_getElem hlt) p) fun sd' h1 h2 => ?_
   refine zc1b (ih (i+1) sd' (by omega) hlt h2) fun sd2 h3 h4 => ?_
   refine ⟨sd2,?_,h4⟩
   unfold forT forD
   rw [h1]
   exact h3
 have:=key ds.length 0 sd (by omega) (Nat.zero_le _) h0
 rwa [List.drop_zero] at this
theorem zgh {tg:Tg}{b:FS}{ds:List D}{sd:SD}(R:Res Out→Prop)(P:Nat→SD→Prop)(h0:P 0 sd)(he:∀ sd,P ds.length sd→R (.ok (.next sd)))
 (hs:∀ (i:Nat) (x:D) (sd:SD),ds[i]? = some x→P i sd→(∃ sd',((zaZ tg x sd).bind b=.ok (.next sd')∨(zaZ tg x sd).bind b=.ok (.cont sd'))∧P (i+1) sd')∨(∃ sd',(zaZ tg x sd).bind b=.ok (.brk sd')∧R (.ok (.next sd')))∨∃ d,(zaZ tg x sd).bind b=.ok (.ret d)∧R (.ok (.ret d))):R (forT tg b ds sd):=by
 have key:∀ (k i:Nat) (sd:SD),ds.length-i=k→i≤ds.length→P i sd→R (forT tg b (ds.drop i) sd):=by
  intro k
  induction k with
  | zero =>
   intro i sd e hi p
   have:i=ds.length:=by omega
   subst this
   rw [List.drop_length]
   exact he sd p
  | succ k ih =>
   intro i sd e hi p
   have hlt:i<ds.length:=by omega
   rw [List.drop_eq_getElem_cons hlt]
   unfold forT forD
   rcases hs i ds[i] sd (List.getElem?_eq_getElem hlt) p with ⟨sd',h1|h1,h2⟩|⟨sd',h1,h2⟩|⟨d,h1,h2⟩
   ·rw [h1];exact ih (i+1) sd' (by omega) hlt h2
   ·rw [h1];exact ih (i+1) sd' (by omega) hlt h2
   ·rw [h1];exact h2
   ·rw [h1];exact h2
 have:=key ds.length 0 sd (by omega) (Nat.zero_le _) h0
 rwa [List.drop_zero] at this
theorem zdS {α β γ : Type}{f : α → Res β}{k : γ → α}{g : γ → β}{xs:List γ}(h:∀ x∈xs,f (k x)=.ok (g x)):mapD f (xs.map k)=.ok (xs.map g):=by
 induction xs with
 | nil=>rfl
 | cons x xs ih =>
  rw [List.map_cons]
  unfold mapD
  rw [h x List.mem_cons_self,ih fun y hy=>h y (List.mem_cons_of_mem _ hy)]
  rfl
def mapE (tg:Tg)(f:FE)(c:SD)(ds:List D):Res (List D):=mapD (fun x=>(zaZ tg x c).bind f) ds
@[simp] theorem ev_comp (cap:List (Option Nat))(it:FA)(tg:Tg)(f:FE)(sd:SD):zcm cap it tg f sd=(it sd).bind fun ds=>if zdN (capD cap sd) tg=true∧ds.length<sizeLine then (mapE tg f (capD cap sd) ds).bind fun ys=>.ok (.lst ys) else .no:=rfl
noncomputable def capV:Option (Option SV)→Option SV
 | some (some (.val d))=>some (.val d)
 | _=>none
@[simp] theorem capV_val (d:D):capV (some (some (.val d)))=some (.val d):=rfl
@[simp] theorem capD_nil (sd:SD):capD [] sd=[]:=rfl
@[simp] theorem capD_n (cap:List (Option Nat))(sd:SD):capD (none::cap) sd=none::capD cap sd:=rfl
@[simp] theorem capD_s (j:Nat)(cap:List (Option Nat))(sd:SD):capD (some j::cap) sd=capV sd[j]? :: capD cap sd:=rfl
@[simp] theorem ziC (sd:SD)(i:Nat):zdN sd (.one i)=zcs sd i:=rfl
@[simp] theorem noneAt_0 (sd:SD):zcs (none::sd) 0=true:=rfl
theorem zd2 {α : Type}{tg:Tg}{f:FE}{c:SD}{k : α → D}{g : α → D}{xs:List α}(h:∀ x∈xs,(zaZ tg (k x) c).bind f=.ok (g x)):mapE tg f c (xs.map k)=.ok (xs.map g):=zdS h
theorem zep {tg:Tg}{f:FE}{c:SD}{lo:Int}{n:Nat}{g:Nat→D}(h:∀ i,i<n→(zaZ tg (.int (lo+i)) c).bind f=.ok (g i)):mapE tg f c (zax lo n)=.ok ((List.range n).map g):=zdS fun i hi=>h i (List.mem_range.mp hi)
theorem zaG {n:Nat}(h:n≤1000):n<sizeLine:=zdc h
end L2.DL
namespace L2.DL
open PySem PySem.Spec PyProof.Rows
noncomputable def zaM {α : Type}(xs:List α)(lo hi st:Option Int):List α := (sliceRange (sliceBounds lo hi st xs.length).1 (sliceBounds lo hi st xs.length).2.1 (sliceBounds lo hi st xs.length).2.2).filterMap (xs[·]?)
theorem zdG (its:List Value)(lo hi st:Option Int):slicePick its.toArray lo hi st=(zaM its lo hi st).toArray:=by
 unfold slicePick zaM
 rw [List.size_toArray]
 congr 2
 funext i
 simp
theorem zeP {xs:List V}{its:List Value}(r:Vals xs its)(lo hi st:Option Int):Vals (zaM xs lo hi st) (zaM its lo hi st):=by
 unfold zaM
 rw [r.length]
 generalize sliceRange _ _ _=ix
 induction ix with
 | nil=>exact .nil
 | cons i ix ih =>
  rw [List.filterMap_cons,List.filterMap_cons]
  cases hx:xs[i]? with
  | none=>rw [r.none_of hx];exact ih
  | some x =>
   refine zc1b (r.get hx) fun u hu ru => ?_
   rw [hu]
   exact .cons ru ih
theorem zij {K:PySem.W.Frag}{H:Hp}{ds:List D}{xs:List V}(r:IsDs K H ds xs)(lo hi st:Option Int):IsDs K H (zaM ds lo hi st) (zaM xs lo hi st):=by
 unfold zaM
 rw [r.length]
 generalize sliceRange _ _ _=ix
 induction ix with
 | nil=>exact .nil
 | cons i ix ih =>
  rw [List.filterMap_cons,List.filterMap_cons]
  cases hx:ds[i]? with
  | none =>
   have hn:xs[i]? = none:=List.getElem?_eq_none_iff.mpr (by rw [r.length];exact List.getElem?_eq_none_iff.mp hx)
   rw [hn];exact ih
  | some x =>
   refine zc1b (r.get hx) fun u hu ru => ?_
   rw [hu]
   exact .mk ru ih
theorem zdL {α β : Type}(f : α → β)(xs:List α)(lo hi st:Option Int):zaM (xs.map f) lo hi st=(zaM xs lo hi st).map f:=by
 unfold zaM
 rw [List.length_map]
 generalize sliceRange _ _ _=ix
 induction ix with
 | nil=>rfl
 | cons i ix ih =>
  rw [List.filterMap_cons,List.filterMap_cons,List.getElem?_map]
  cases xs[i]? with
  | none=>exact ih
  | some x=>show f x::_=_;rw [ih];rfl
theorem zgR {α : Type}(xs:List α)(lo hi st:Option Int):(zaM xs lo hi st).length≤xs.length:=by
 have h:=slicePick_size_le (xs.map fun _=>Value.none).toArray lo hi st
 rw [zdG,List.size_toArray,List.size_toArray,zdL,List.length_map,List.length_map] at h
 exact h
section
variable {X:Cx}{E:XK}{m:Option Bool}{a b o i e f tg:Expr}{fa fb fo fi fv fe:FE}{fr:FA}{pos pos' apos cpos p p2:Pos}{lo hi st:Option Expr}
abbrev FO:=SD→Res (Option Int)
def tDO (K:PySem.W.Frag)(E:XK)(f:FO):TO:=fun σ H Q => ∃ B F sd,RS K B F H sd σ ∧ (f sd).need (fun o => ∀ F' H',Ext F H F' H'→Q o H') (XW K E F H)
noncomputable def zaV:FO:=fun _=>.ok none
def zbJ (f:FE):FO:=fun sd=>(f sd).bind fun d=>match d with
 | .int i=>.ok (some i)
 | _=>.no
abbrev QO (X:Cx)(E:XK)(e:Option Expr)(f:FO):Prop:=PO X e (tDO X.K E f)
theorem PO.weak {e:Option Expr}{t t':TO}(h:PO X e t)(w:∀ σ H Q,t' σ H Q→t σ H Q):PO X e t':=fun pins s σ H Q I q=>h pins s σ H Q I (w _ _ _ q)
theorem zcj:QO X E none zaV:=PO.weak zhN (by rintro σ H Q ⟨B,F,sd,r,n⟩;exact n F H (.refl r.ext.fh))
theorem zbZ (h:QE X E e fe):QO X E (some e) (zbJ fe):=PO.weak (zid h) fun σ H Q zh=>by
 refine zc3b zh fun B F sd r n => ?_
 refine ⟨B,F,sd,r,(Res.need_bind n).mono (fun d n1 v F1 H1 e1 i1 => ?_) fun _ _ q=>q⟩
 cases d with
 | int i=>exact ⟨i,IsD.int_iff.mp i1,n1 F1 H1 e1⟩
 | _=>exact n1.elim
def rSl3 (K:PySem.W.Frag):V→Option Int→Option Int→Option Int→Hp→VK→Prop:=fun x lo hi st H Q => ∃ a xs,x=.ref a∧SqL K H a xs∧st≠some 0∧∀ p,H p=none→Q (.ref p) (upd H p (.lst (zaM xs lo hi st)))
noncomputable def tSl3 (r:V→Option Int→Option Int→Option Int→Hp→VK→Prop)(te:TE)(tl th ts:TO):TE:=fun σ H Q=>te σ H fun x H1=>tl σ H1 fun l H2=>th σ H2 fun u H3=>ts σ H3 fun c H4=>r x l u c H4 Q
theorem zeW {te:TE}{tl th ts:TO}(he:PE X e te)(hl:PO X lo tl)(hu:PO X hi th)(hs:PO X st ts):PE X (.Subscript e (.Slice lo hi st p2) pos) (tSl3 (rSl3 X.K) te tl th ts):=by
 intro pins s σ H Q I h
 refine Subscript_ (thn (he pins s σ H _ I h) fun v s1 zh => ?_)
 refine zc2c zh fun x H1 I1 r1 q1 => ?_
 refine wpAny_Slice (thn (hl pins s1 σ H1 _ I1 q1) fun vl s2 ⟨l,H2,I2,pl,q2⟩=>thn (hu pins s2 σ H2 _ I2 q2) fun vu s3 ⟨u,H3,I3,pu,q3⟩=>thn (hs pins s3 σ H3 _ I3 q3) fun vs s4 zh => ?_)
 refine zc2c zh fun c H4 I4 ps q4 => ?_
 refine zc2d q4 fun a xs zr2 hx h0 q => ?_
 obtain rfl:=zr2
 obtain rfl:v=Value.ref a:=r1
 have I5:Inv X pins σ H4 { s4 with heap:=s4.heap.push { cls:=.type "slice",data:=.fields #[vl,vu,vs] } }:=I4.kept (t':=s4.toks) fun b ob q=>Heap.get?_push_of_some _ q
 refine zc1c (I5.list hx) fun its r ht hz => ?_
 have hlen:=r.length
 show wpAny (model X.prog X.w) X.A (subscriptTail e (.Slice lo hi st p2) (.ref a) (.ref s4.heap.objs.size)) (EP X pins σ Q) X.xe { s4 with heap:=s4.heap.push { cls:=.type "slice",data:=.fields #[vl,vu,vs] } }
 suffices fin:wpAny (model X.prog X.w) X.A (getItem (.ref a) (.ref s4.heap.objs.size)) (EP X pins σ Q) X.xe { s4 with heap:=s4.heap.push { cls:=.type "slice",data:=.fields #[vl,vu,vs] } } by
  cases st with
  | none=>exact tail_any (ops:=[.ref s4.heap.objs.size,.ref a]) ht.isList.typeIs slot_list_getitem.lookup fin (by with_unfolding_all rfl)
  | some c=>exact tail_any (ops:=[.ref a,.ref s4.heap.objs.size]) ht.isList.typeIs slot_list_getitem.lookup fin (by with_unfolding_all rfl)
 refine wpAny_getItem_list_slice ht.isList (Heap.IsSliceOf.new ..) pl pu ps h0 ?_ (by rw [List.size_toArray]<;>omega)
 rw [zdG]
 refine ⟨.ref _,_,I5.laid (t':=s4.toks) (o:=.lst (zaM xs l u c)) (fun b ob q=>Heap.get?_push_of_some _ q) (Nat.le_refl _) ?_,rfl,q _ (I5.hok.fresh (Nat.le_refl _))⟩
 exact ⟨Nat.le_trans (zgR xs l u c) hz,_,0,zeP r l u c,Heap.get?_push_size _ rfl⟩
def gSl:D→Option Int→Option Int→Option Int→Option D
 | .lst ds,lo,hi,st=>if st=some 0 then none else some (.lst (zaM ds lo hi st))
 | .scr ns,lo,hi,st=>if st=some 0 then none else some (.lst ((zaM ns lo hi st).map .int))
 | _,_,_,_=>none
def dSl (fe:FE)(fl fh fs:FO):FE:=fun sd=>(fe sd).bind fun d=>(fl sd).bind fun l=>(fh sd).bind fun h=>(fs sd).bind fun c=>.ofO (gSl d l h c)
theorem zeZ {fl fh fs:FO}(he:QE X E e fe)(hl:QO X E lo fl)(hu:QO X E hi fh)(hs:QO X E st fs):QN X E (.Subscript e (.Slice lo hi st p2) pos) (dSl fe fl fh fs):=PE.weak (zeW he hl hu hs) fun σ H Q zh=>by
 refine zc3b zh fun B F sd r n => ?_
 refine ⟨B,F,sd,r,(Res.need_bind n).mono (fun d n1 v F1 H1 e1 i1 => ?_) fun _ _ q=>q⟩
 refine ⟨B,F1,sd,r.step e1,(Res.need_bind n1).mono (fun l n2 F2 H2 e2 => ?_) fun _ _ q=>q.ext e1⟩
 refine ⟨B,F2,sd,(r.step e1).step e2,(Res.need_bind n2).mono (fun h n3 F3 H3 e3 => ?_) fun _ _ q=>q.ext (e1.trans e2)⟩
 refine ⟨B,F3,sd,((r.step e1).step e2).step e3,(Res.need_bind n3).mono (fun c n4 F4 H4 e4 => ?_) fun _ _ q=>q.ext ((e1.trans e2).trans e3)⟩
 refine zc1b (Res.need_ofO n4) fun z hz q => ?_
 have e14:=((e2.trans e3).trans e4)
 have eA:=e1.trans e14
 cases d with
 | lst ds =>
  have hz:(if c=some 0 then none else some (D.lst (zaM ds l h c)))=some z:=hz
  split at hz
  ·exact zqn hz
  ·rename_i h0
   obtain rfl:=Option.some.inj hz
   rw [IsD.lst_iff] at i1
   refine zc2c i1 fun a xs zr2 h1 h2 => ?_
   obtain rfl:=zr2
   exact ⟨a,xs,rfl,((h1.same e14.ff).same e14.fh).sq,h0,fun p hp=>q p F4 _ (eA.trans (.keep e4.fh hp _)) (zam eA.hh hp) (zam e4.fh hp) ⟨_,zak,zij (IsDs.same e14.ff _ _ h2) l h c⟩⟩
 | scr ns =>
  have hz:(if c=some 0 then none else some (D.lst ((zaM ns l h c).map .int)))=some z:=hz
  split at hz
  ·exact zqn hz
  ·rename_i h0
   obtain rfl:=Option.some.inj hz
   rw [IsD.scr_iff] at i1
   refine zc1b i1 fun a zr1 h1 => ?_
   obtain rfl:=zr1
   refine ⟨a,_,rfl,Same.seq e14.fh (Same.seq e14.ff h1),h0,fun p hp=>q p F4 _ (eA.trans (.keep e4.fh hp _)) (zam eA.hh hp) (zam e4.fh hp) ⟨_,zak,?_⟩⟩
   rw [zdL]
   exact IsDs.ints _
 | _=>exact zqn hz
@[simp] theorem ev_sl (fe:FE)(fl fh fs:FO)(sd:SD):dSl fe fl fh fs sd=(fe sd).bind fun d=>(fl sd).bind fun l=>(fh sd).bind fun h=>(fs sd).bind fun c=>.ofO (gSl d l h c):=rfl
@[simp] theorem zjg (sd:SD):zaV sd=.ok none:=rfl
noncomputable def zgX:D→Res (Option Int)
 | .int i=>.ok (some i)
 | _=>.no
@[simp] theorem ziA (i:Int):zgX (.int i)=.ok (some i):=rfl
@[simp] theorem ev_part (f:FE)(sd:SD):zbJ f sd=(f sd).bind zgX:=by
 unfold zbJ
 cases f sd with
 | ok d=>cases d<;>rfl
 | ex c fs=>rfl
 | no=>rfl
@[simp] theorem gSl_lst0 (ds:List D)(lo hi:Option Int):gSl (.lst ds) lo hi none=some (.lst (zaM ds lo hi none)):=rfl
theorem zhB {ds:List Int}{lo hi:Option Int}{c:Int}(h:c≠0):gSl (.scr ds) lo hi (some c)=some (.lst ((zaM ds lo hi (some c)).map .int)):=if_neg fun z=>h (Option.some.inj z)
@[simp] theorem ev_ixOwn (i:Nat)(fb:FE)(sd:SD):zdd i fb sd=(ownV sd[i]?).bind fun d=>(fb sd).bind fun y=>.ofO (gIx d y):=by
 unfold zdd
 cases sd[i]? with
 | none=>rfl
 | some o =>
  cases o with
  | none=>rfl
  | some v=>cases v<;>rfl
end
end L2.DL
namespace L2
open PySem PySem.Spec PyProof.Rows
section
variable {X:Cx}
theorem zfU (hc:X.calm=true):zat X (.builtin "sum") (fun xs H Q => ∃ (a:Addr) (ns:List Int),xs=[.ref a]∧SqL X.K H a (ns.map V.int)∧Q (.int ns.sum) H):=by
 intro pins s σ H xs us Q I r h
 refine zc2c h fun a ns zr2 hl q => ?_
 obtain rfl:=zr2
 refine zc1b (zd1 r) fun u zr1 ru => ?_
 obtain rfl:=zr1
 obtain rfl:u=Value.ref a:=ru
 refine zc1c (I.list hl) fun its rv p hz => ?_
 have hi:IntsAre its ns:=zeu rv
 obtain ⟨ys,e⟩:=hi.allInts.items
 have hns:ns=ys.toList.map (·.1):=by
  rw [← hi.numsOf,← nums_intItems,← e]
 have hl':=p.isList
 rw [e] at hl'
 refine sum_intListG (I.ok.hd hc) hl' fun h' tk t' hk => ?_
 refine ⟨.int ns.sum,H,I.kept hk,⟨t',?_⟩,q⟩
 rw [preSum_eq,List.take_of_length_le (by simp),← hns]
end
end L2
namespace L2.DL
open PySem PySem.Spec PyProof.Rows
def gSum:List D→Option D
 | [d]=>(zdR d).bind fun ns=>some (.int ns.sum)
 | _=>none
section
variable {X:Cx}{E:XK}{m:Option Bool}{a b o i e f tg:Expr}{fa fb fo fi fv fe:FE}{fr:FA}{pos pos' apos cpos p p2:Pos}{lo hi st:Option Expr}
theorem b_sum (hc:X.calm=true):zat X (.builtin "sum") (rDA X.K gSum):=zat.weak (zfU hc) fun xs H Q zh=>by
 refine zc3a zh fun F ds z zz=>zc0d zz fun sF id hz q => ?_
 unfold gSum at hz
 split at hz
 ·refine zc1b (Option.bind_eq_some_iff.mp hz) fun ns h1 hz => ?_
  obtain rfl:=Option.some.inj hz
  refine zc1b (zb9 id) fun v zr1 h => ?_
  obtain rfl:=zr1
  refine zc1b (zfj h1 h) fun a zr1 h2 => ?_
  obtain rfl:=zr1
  exact ⟨a,ns,rfl,(h2.same sF).sq,q _ F H (.refl sF) (isI _ F)⟩
 ·exact zqn hz
end
@[simp] theorem ziK (ns:List Int):gSum [.lst (ns.map .int)]=some (.int ns.sum):=by
 show (zdR _).bind _=_
 rw [zet]
 rfl
end L2.DL
namespace L2
open PySem PySem.Spec PyProof.Rows
end L2
namespace L2.DL
open PySem PySem.Spec PyProof.Rows
end L2.DL
namespace L2.ST
open PySem
noncomputable def zhv (t:SetTable):Nat→SetTable.Probe→SetTable.Probe
 | 0,p=>p
 | n+1,p=>zhv t n (t.advance p)
end L2.ST
namespace L2.ST
open PySem
noncomputable def UpA (xs:Array Nat):Prop:=∀ i j,i<j→j<xs.size→xs.getD i 0<xs.getD j 0
noncomputable def occ (t:SetTable)(j:Nat):Prop:=∃ i,i<t.place.size∧t.place.getD i 0=j
def Way (t:SetTable)(o:Nat→Prop)(x:Int)(y:Nat):Prop:=∃ n,(zhv t n (t.probeStart x)).j=y∧∀ m,m<n→o (zhv t m (t.probeStart x)).j
structure TabOk (t:SetTable)(hs:Array Int):Prop where
 size:t.place.size=hs.size
 up:UpA t.place
 le:∀ i,i<t.place.size→t.place.getD i 0≤t.mask
 nod:t.dummies = #[]
 pow:∃ k,t.mask+1=2 ^ k
 room:t.place.size≤t.mask
 ways:∀ i,i<t.place.size→Way t (occ t) (hs.getD i 0) (t.place.getD i 0)
end L2.ST
namespace L2.ST
open PySem
structure SetIs (hp:Heap)(a:Addr)(es:Array (Int×Value))(t:SetTable):Prop where
 at_:∃ ep,hp.get? a=some { cls:=.type "set",dict:=none,data:=.set es ep t,slots:=#[] }
 tab:TabOk t (es.map (·.1))
 seven:7≤t.mask
 most:t.mask≤8*es.size+7
 room:es.size*5<t.mask*3
 refs:∀ i (hi:i<es.size),∃ b,es[i].2=.ref b
variable {prog:Program}{w:World}{A:Around}{E:Value→Shared→Prop}{s:Shared}
end L2.ST
namespace L2.ST
open PySem PySem.Spec PyProof.Rows
noncomputable def Holds (hsh:Value→Int)(hp:Heap)(S:Addr)(ld:Bool)(D:List Value):Prop:=∃ es t,SetIs hp S es t∧es.toList.Perm (D.map fun v=>(hsh v,v))∧t.led=ld∧t.plain=true
end L2.ST
namespace L2
open PySem PySem.Spec PyProof.Rows
theorem za4.has {P:Program}{w:World}{H:Hp}{h:Heap}{a:Addr}{o:HO}(x:za4 P w H h a o):∃ u,h.get? a=some u:=by
 cases o with
 | lst xs=>obtain ⟨_,_,_,_,e⟩:=x;exact ⟨_,e⟩
 | tup xs=>obtain ⟨_,_,_,o,e,_⟩:=x;exact ⟨_,e⟩
 | dK kvs=>obtain ⟨_,_,_,_,o,_,_,e,_⟩:=x;exact ⟨_,e⟩
 | dT kvs=>obtain ⟨_,_,_,_,o,_,_,e,_⟩:=x;exact ⟨_,e⟩
 | set S n=>obtain ⟨o,_,_,_,e,_⟩:=x;exact ⟨_,e⟩
 | ins C dx fs=>obtain ⟨_,_,_,e,_⟩:=x;exact ⟨_,e⟩
 | own y=>exact x
 | xd fs=>obtain ⟨_,⟨_,_,_,e,_⟩,_⟩:=x;exact ⟨_,e⟩
 | rng lo hi=>obtain ⟨_,_,_,e⟩:=x;exact ⟨_,e⟩
 | frz ob u=>exact ⟨_,x.1⟩
 | tbl ps=>exact ⟨_,show h.get? a=some _ from x⟩
 | met f y=>exact ⟨_,show h.get? a=some _ from x⟩
 | ext φ => exact x.2.1
structure FlyAt (l:List Env)(h₀:Heap)(H:Hp)(x C:Addr)(B h:Heap):Prop where
 fly:∃ t,Heap.FlyingW B l x (.ref C) (.ref t) h
 trk:∀ b o,h.get? b=some o→(H b≠none∨((∃ u,h₀.get? b=some u)∧b∉frs l))→B.get? b=some o
def CXE (P:Program)(w:World):CXT:=fun outer H s E e s' => ∃ H' x C B,e=.ref x∧s'.os=s.os∧AllBare s'.gens∧Un (frs outer) [] H H' s.heap s'.heap∧HOk P w H' s'.heap∧FlyAt outer s.heap H' x C B s'.heap∧E (.ref C) none H'
structure Thrown (X:Cx)(E:XK):Prop where
 on:∀ (pins:List (Addr×Obj)) (σ : St) (H:Hp) (s:Shared) (h₀:Heap) (x C:Addr) (B:Heap),Inv X pins σ H s→(∀ b u,X.s₀.heap.get? b=some u→b∉X.ex→∃ u',h₀.get? b=some u')→FlyAt X.stack h₀ H x C B s.heap→E (.ref C) none H→X.xe (.ref x) s
structure Raises (X:Cx)(E:XK):Prop where
 new:∀ (pins:List (Addr×Obj)) (σ : St) (H:Hp) (s:Shared) (h':Heap) (x C:Addr) (args:List Value),Inv X pins σ H s→Heap.MadeExcOf s.heap h' x (.ref C) args→E (.ref C) none H→X.xe (.ref x) { s with heap:=h' }
theorem Thrown.passes {X:Cx}{E:XK}(T:Thrown X E):zct (CXE X.prog X.w) X E:=by
 rintro pins σ H s e s' I ⟨H',x,C,B,h1,os,bare,un,hok,fl,hE⟩
 subst h1
 have I':=I.call' (s':=s') (ch:=[]) os un hok bare (fun b z=>absurd z (by simp))
 exact T.on pins σ H' s' s.heap x C B I' (fun b u e hx=>I.base.there b u e hx) fl hE
theorem zhJ {X:Cx}:Thrown X E0:=⟨fun _ _ _ _ _ _ _ _ _ _ _ z=>z.elim⟩
section
variable {P:Program}{w:World}{K:PySem.W.Frag}{mg:Str→Option Value}{base:Heap}{N:List Str}{qual:Str}{scope:Scope}{f:Addr}{cd:Value}{A:Around}{outer:List Env}{s:Shared}{H:Hp}{E:XK}
theorem zge {pins:List (Addr×Obj)}{σ : St}{H':Hp}{s':Shared}{h₀ h'' B:Heap}{x C t:Addr}(I:Inv (cxOf (CXE P w) P w K mg base N qual scope f cd A outer s H E) pins σ H' s')
 (h0:∀ b u,s.heap.get? b=some u→∃ u',h₀.get? b=some u') (fl:Heap.FlyingW B outer x (.ref C) (.ref t) h'') (up:s'.heap.UpToSlots h'')
 (trk:∀ b o,s'.heap.get? b=some o→(H' b≠none∨((∃ u,h₀.get? b=some u)∧b∉frs (envOfC qual scope s.heap.objs.size f cd::outer)))→B.get? b=some o) (hE:E (.ref C) none H') :
 CXE P w outer H s E (.ref x) { s' with heap:=h'' }:=by
 have nst:∀ b u,s.heap.get? b=some u→b∉frs outer→b∉frs (envOfC qual scope s.heap.objs.size f cd::outer):=fun b u e hb z=>by
  unfold frs at z hb
  rw [List.filterMap_cons] at z
  have z:b∈s.heap.objs.size::outer.filterMap (·.frame):=z
  rcases List.mem_cons.mp z with q|q
  ·exact absurd (Heap.lt_size e) (by rw [q];exact Nat.lt_irrefl _)
  ·exact hb q
 have nex:∀ b:Addr,b∉(cxOf (CXE P w) P w K mg base N qual scope f cd A outer s H E).ex:=fun b z=>absurd (show b∈([]:List Addr) from z) (by simp)
 have keep:∀ b o,s'.heap.get? b=some o→(H' b≠none∨((∃ u,s.heap.get? b=some u)∧b∉frs outer))→B.get? b=some o:=fun b o e c=>by
  refine trk b o e ?_
  rcases c with c|⟨⟨u,hu⟩,hb⟩
  ·exact .inl c
  ·exact .inr ⟨h0 b u hu,nst b u hu hb⟩
 have slot:∀ b o,s.heap.get? b=some o→b∈frs outer→∃ sl,h''.get? b=some { o with slots:=sl }:=fun b o e hb=>by
  obtain ⟨sl,e1⟩:=I.base.slot b o e (I.ok.frf b hb) hb (nex b)
  refine zc0b (I.ok.funs.mem hb) fun _ zz=>zc1b zz fun o' ho' hd => ?_
  have ho':s.heap.get? b=some o':=ho'
  rw [e] at ho'
  obtain rfl:=Option.some.inj ho'
  obtain ⟨sl',e2⟩:=up b _ e1 hd
  exact ⟨sl',e2⟩
 refine ⟨H',x,C,B,rfl,I.os,I.bare,⟨fun b o e n hb _ => ?_,fun b o e n hb _=>slot b o e hb,fun b o e n _=>I.base.free b o e n (nex b),fun b o e _ => ?_,I.base.tups,I.base.frzs,I.base.tbls⟩,fun b u e => ?_,⟨⟨t,fl⟩,fun b o e c => ?_⟩,hE⟩
 ·exact fl.1 b o (keep b o (I.base.keep b o e n hb (nex b)) (.inr ⟨⟨o,e⟩,hb⟩))
 ·by_cases hb:b∈frs outer
  ·obtain ⟨sl,q⟩:=slot b o e hb
   exact ⟨_,q⟩
  ·obtain ⟨o',e'⟩:=I.base.there b o e (nex b)
   exact ⟨o',fl.1 b o' (keep b o' e' (.inr ⟨⟨o,e⟩,hb⟩))⟩
 ·refine (I.hok b u e).stay (fun c v hc q=>fl.1 c v (keep c v q (.inl ?_))) (fun _ q=>q) fun _ _ q=>q
  rcases hc with z|z
  ·rw [z,e];simp
  ·rw [z];simp
 ·have ex:∃ o',s'.heap.get? b=some o':=by
   rcases c with c|⟨⟨u,hu⟩,_⟩
   ·cases q:H' b with
    | none=>exact absurd q c
    | some u=>exact (I.hok b u q).has
   ·exact I.base.there b u hu (nex b)
  obtain ⟨o',e'⟩:=ex
  have k:=keep b o' e' c
  have:=fl.1 b o' k
  have e:h''.get? b=some o:=e
  rw [e] at this
  obtain rfl:=Option.some.inj this
  exact k
theorem ze4:Raises (cxOf (CXE P w) P w K mg base N qual scope f cd A outer s H E) E:=by
 refine ⟨fun pins σ H' s' h' x C args I hx hE => ?_⟩
 have st:=I.stack
 have fin:∀ env∈(envOfC qual scope s.heap.objs.size f cd::outer),∀ a,env.frame=some a→a∈frs (envOfC qual scope s.heap.objs.size f cd::outer):=fun env he a ha=>List.mem_filterMap.mpr ⟨env,he,ha⟩
 have B:=PySem.W.hideAll s'.heap (frs (envOfC qual scope s.heap.objs.size f cd::outer))
 refine wpAny_leaves_madeW (s:={ s' with heap:=h' }) (base:=PySem.W.hideAll s'.heap (frs (envOfC qual scope s.heap.objs.size f cd::outer))) (h:=s'.heap) I.ok.frames rfl (fun b o e=>PySem.W.of_hideAll _ e) (PySem.W.funFrames_hide st fin) hx fun h'' t fl tup tn up => ?_
 refine zge (s':=s') (h₀:=s'.heap) I (fun b u e=>I.base.there b u e (by show b∉([]:List Addr);simp)) fl ((Heap.UpToSlots.of_keeps hx.keeps).trans up) (fun b o e c => ?_) hE
 refine PySem.W.hideAll_get _ e fun z => ?_
 rcases c with c|c
 ·exact c (I.stkFree b z)
 ·exact c.2 z
end
def zaQ (P:Program)(w:World)(K:PySem.W.Frag)(mg:Str→Option Value)(base:Heap)(name:Str)(k:Nat)(ps:List Str)(sp:Sp):Prop :=
 ∃ f fd,FnOk P w K mg base (CXE P w) k f fd ps sp∧zbV K fd ps []∧PySem.W.keepIn K (.ref f)=true∧mg name=some (.ref f)
theorem zaQ.mono {P:Program}{w:World}{K:PySem.W.Frag}{mg:Str→Option Value}{base:Heap}{name:Str}{j k:Nat}{ps:List Str}{sp:Sp}(c:zaQ P w K mg base name j ps sp)(h:j≤k):zaQ P w K mg base name k ps sp:=by
 refine zc2b c fun f fd F r => ?_
 exact ⟨f,fd,F.mono h,r⟩
section
variable {X:Cx}{E:XK}{name:Str}{k:Nat}{ps:List Str}{sp:Sp}{p pos:Pos}{e:Expr}{es:List Expr}{t:TA}
theorem ziP (c:zaQ X.prog X.w X.K X.mg X.base name k ps sp)(T:Thrown X E)(hr:Room k X.A)(hg:Gl X name)(ha:PA X (e::es) t)
 (hdb:autoParam ((name == ("__debug__" : Str))=false) zav._auto_1) (he:starEach (e::es) X.env=(false,eval e X.env)::starEach es X.env:=by rfl) (hpl:(backTo pos (starEach es X.env)).any (·.1)=false:=by rfl) :
 PE X (.Call (.Name name p) (e::es) [] pos) (zhG sp [] E t):=by
 refine zc2d c fun f fd F b hk hm => ?_
 exact zeT F hr hg hm hk b .nil T.passes ha hdb he hpl
end
theorem Fun.okX {P:Program}{w:World}{K:PySem.W.Frag}{mg:Str→Option Value}{base:Heap}{x qual:Str}{st:Stmt}{f:Addr}{fd:FuncData}{N ps:List Str}{k:Nat}{sp:Sp}(F:Fun K x qual st f fd)(S:FnScope N ps (zah st))(len:∀ vs H Q E,sp vs H Q E→vs.length=ps.length)
 (hbody:∀ (cdv:Value) (A:Around) (outer:List Env) (s:Shared) (H:Hp) (vs:List V) (Q:VK) (E:XK),Room k (A.deeper (envOfC qual (zah st) s.heap.objs.size f cdv))→sp vs H Q E →
  ∃ t,PSs (cxOf (CXE P w) P w K mg base N qual (zah st) f cdv A outer s H E) (zaL st) t∧t { nx:=fun _ H'=>Q .non H',rt:=Q } (start N vs) H):FnOk P w K mg base (CXE P w) (k+1) f fd ps sp:=by
 refine zc4a F.ex fun oc od kV doc zz=>zc4a zz fun pm an cdv ct zz=>zc1c zz fun osl zr9 lk hcd => ?_
 obtain rfl:=zr9
 exact zjY lk hcd S len fun A outer s H vs Q E hr hsp=>hbody cdv A outer s H vs Q E hr hsp
end L2
namespace L2.DL
open PySem PySem.Spec PyProof.Rows
def SpDX (K:PySem.W.Frag)(Fn:List D→Res D):Sp:=fun vs H Q E => ∃ F ds,Same F H∧IsDs K F ds vs∧(Fn ds).need (OkD K F H Q) (XW K E F H)
noncomputable def Res.strict {α : Type}:Res α → Res α
 | .ok a=>.ok a
 | _=>.no
@[simp] theorem Res.strict_ok {α : Type}(a : α):(Res.ok a).strict=.ok a:=rfl
theorem Res.need_strict {α : Type}{r:Res α}{p : α → Prop}{q q':Str→List D→Prop}(h:r.strict.need p q):r.need p q':=by
 cases r with
 | ok a=>exact h
 | ex c fs=>exact h.elim
 | no=>exact h
section
variable {X:Cx}{E:XK}{name:Str}{k:Nat}{ps:List Str}{Fn:List D→Res D}{p pos:Pos}{e:Expr}{es:List Expr}{fr:FA}
theorem q_fnX (c:zaQ X.prog X.w X.K X.mg X.base name k ps (SpDX X.K Fn))(T:Thrown X E)(hr:Room k X.A)(hg:Gl X name)(ha:QA X E (e::es) fr)
 (hdb:autoParam ((name == ("__debug__" : Str))=false) zav._auto_1) (he:starEach (e::es) X.env=(false,eval e X.env)::starEach es X.env:=by rfl) (hpl:(backTo pos (starEach es X.env)).any (·.1)=false:=by rfl) :
 QE X E (.Call (.Name name p) (e::es) [] pos) (za0 Fn fr):=PE.weak (ziP c T hr hg ha hdb he hpl) fun σ H Q zh=>by
 refine zc3b zh fun B F sd r n => ?_
 refine ⟨B,F,sd,r,(Res.need_bind n).mono (fun xs n1 vs F1 H1 e1 i1 => ?_) fun _ _ q=>q⟩
 show SpDX X.K Fn (vs++[]) H1 Q E
 rw [List.append_nil]
 exact ⟨F1,xs,e1.fh,i1,zj2 n1 e1⟩
end
section
variable {P:Program}{w:World}{K:PySem.W.Frag}{mg:Str→Option Value}{base:Heap}{x qual:Str}{f:Addr}{fd:FuncData}{N ps:List Str}{k:Nat}{st:Stmt}
theorem fn_dX {g:FS}(F:Fun K x qual st f fd)(S:FnScope N ps (zah st))
 (hb:∀ (cdv:Value) (A:Around) (outer:List Env) (s:Shared) (H:Hp) (E:XK),Room k (A.deeper (envOfC qual (zah st) s.heap.objs.size f cdv))→QSs (cxOf (CXE P w) P w K mg base N qual (zah st) f cdv A outer s H E) E false (zaL st) g) :
 FnOk P w K mg base (CXE P w) (k+1) f fd ps (SpDX K (runD N.length ps.length g)):=by
 refine F.okX S (fun vs H Q E ⟨F,ds,_,h,n⟩ => ?_) fun cdv A outer s H vs Q E hr ⟨F,ds,hs,h,n⟩=>⟨_,hb cdv A outer s H E hr,?_⟩
 ·unfold runD at n
  split at n
  ·rw [h.length];assumption
  ·exact n.elim
 ·unfold runD at n
  split at n
  ·refine ⟨⟨F,H,fun _=>none⟩,F,_,RS.start hs h,(Res.need_bind n).mono (fun o n1 => ?_) fun _ _ q=>q⟩
   cases o with
   | next sd=>exact fun σ F' H' _ r=>n1 .non F' H' r.ext (IsD.non_iff.mpr rfl)
   | ret d=>exact n1
   | brk sd=>exact n1.elim
   | cont sd=>exact n1.elim
  ·exact n.elim
end
end L2.DL
namespace L2
open PySem PySem.Spec PyProof.Rows
section
variable {X:Cx}{x:Str}{v e:Expr}{tv:TE}{t:TA}{p1 p2 np cpos pos:Pos}{k}
structure Exc (K:PySem.W.Frag)(mg:Str→Option Value)(c:Str)(C:Addr):Prop where
 ns:PySem.W.nsIn K mainGlobals c=some (some (.ref C))
 mgc:mg c=some (.ref C)
 exc:PySem.W.excIn K C [.type "ValueError",.type "Exception",.type "BaseException",.type "object"] "ValueError.__new__" = true
noncomputable def ExcP (m:List Value)(l:List (Option Value))(g:Addr→List Value→Option Value→Option Value→Option Value→Option Value→String→Option Value→Bool):Prop :=
 ∃ C bm k0 k1 k2 k3 n k5,m=.ref C::bm∧l=[k0,k1,k2,k3,some (.builtin n),k5]∧g C bm k0 k1 k2 k3 n k5=true
theorem zfE {m:List Value}{l:List (Option Value)}{g:Addr→List Value→Option Value→Option Value→Option Value→Option Value→String→Option Value→Bool}
 (q:PySem.W.excIn.match_1 (fun _ _=>Bool) m l g (fun _ _=>false)=true):ExcP m l g:=by
 cases m with
 | nil=>exact zqb q
 | cons v bm =>
  cases v with
  | ref C =>
   cases l with
   | nil=>exact zqb q
   | cons k0 l =>
    cases l with
    | nil=>exact zqb q
    | cons k1 l =>
     cases l with
     | nil=>exact zqb q
     | cons k2 l =>
      cases l with
      | nil=>exact zqb q
      | cons k3 l =>
       cases l with
       | nil=>exact zqb q
       | cons k4 l =>
        cases k4 with
        | none=>exact zqb q
        | some u =>
         cases u with
         | builtin n =>
          cases l with
          | nil=>exact zqb q
          | cons k5 l =>
           cases l with
           | nil=>exact ⟨_,_,_,_,_,_,_,_,rfl,rfl,q⟩
           | cons _ _=>exact zqb q
         | _=>exact zqb q
  | _=>exact zqb q
theorem zeI {K:PySem.W.Frag}{h:Heap}{C:Addr}{bmB:List Value}{newId:String}{P:Prop}(KI:K.In h)(q:PySem.W.excIn K C bmB newId=true)
 (k:∀ bm N nm qn bs hdct sn sub ab col dd k0 k1 k2 k3 k5 mN,h.get? C=some (excClassObj nm qn C N bs bm hdct sn sub ab col dd k0 k1 k2 k3 k5 newId)→h.Ns N mN→mN "__init__" = none→OwnTail h bmB bm→P):P:=by
 unfold PySem.W.excIn at q
 split at q
 ·rename_i dd cd sl ho
  obtain ⟨C',bm,k0,k1,k2,k3,n,k5,hm,hs,q⟩:=zfE q
  simp only [Bool.and_eq_true,beq_iff_eq,Bool.not_eq_true'] at q
  obtain ⟨⟨⟨⟨⟨z1,z2⟩,hdel⟩,ht⟩,hok⟩,hni⟩:=q
  subst z1 z2
  have hc:=KI _ _ ho
  obtain ⟨nm,bs,mro,ns,qn,hd,sn,sub,ab,col,del⟩:=cd
  dsimp only at hm hdel hok hni hc
  subst hm hdel
  have hsl:sl = #[k0,k1,k2,k3,some (.builtin n),k5]:=by
   obtain ⟨l⟩:=sl
   exact congrArg Array.mk hs
  subst hsl
  exact k bm ns nm qn bs hd sn sub ab col dd k0 k1 k2 k3 k5 _ hc (.of_isNs (PySem.W.isNs_of_in KI hok)) (PySem.W.nsMap_none_of_in KI hok hni) (PySem.W.tail_of_in KI ht)
 ·exact zqb q
noncomputable def zka (C:Addr)(E:XK)(t:TA):TS:=fun _ σ H=>t σ H fun vs H1=>vs.length≤1000∧E (.ref C) none H1
theorem zgk {E:XK}{c:Str}{C:Addr}(R:Raises X E)(ex:Exc X.K X.mg c C)(hc:X.calm=true)(hg:Gl X c)(ha:PA X [e] t)(hd:autoParam ((c == ("__debug__" : Str))=false) zav._auto_1)
 (he:autoParam (starEach [e] X.env=(false,eval e X.env)::starEach [] X.env) zau._auto_1):PS X (.Raise (some (.Call (.Name c np) [e] [] cpos)) none pos) (zka C E t):=by
 intro pins s σ H D I h
 refine zeI (h:=X.base) I.mod.kin ex.exc fun tl N nm q bs hdct sn sub ab col dd k0 k1 k2 k3 k5 mN hC hN hni T => ?_
 refine wpAny_Raise_call_subU (C:=C) (nm:=nm) (q:=q) (N:=N) (bs:=bs) (bm:=tl) (hdct:=hdct) (sn:=sn) (sub:=sub) (ab:=ab) (col:=col) (dd:=dd) (k0:=k0) (k1:=k1) (k2:=k2) (k3:=k3) (k5:=k5)
  PySem.F.excBase_ValueError (by decide +kernel) PySem.F.excBase_ValueError (mN:=mN) (T.hasType PySem.F.excBase_ValueError.hasBase) (I.ok.hd hc) (by rw [he];rfl) hni (zb7 I hg ex.mgc ⟨rfl,?_⟩ hd)
 have hA:=ha cpos pins s σ H _ I h
 rw [he] at hA ⊢
 refine Calls.evalArgs_plain (wpAny_mono hA (fun vs s2 ⟨ws,H2,I2,r2,hl,hE⟩ => ?_) fun _ _ y=>y)
 have lw:=r2.length
 refine ⟨rfl,zcq (by show vs.length≤1000;omega),I2.bk _ _ hC,hN.keeps I2.bk,T.keeps I2.bk,fun h' x hx=>R.new pins σ H2 s2 h' x C _ I2 hx hE⟩
end
end L2
namespace L2.DL
open PySem PySem.Spec PyProof.Rows
def zdO (c:Str)(f:FE):FS:=fun sd=>(f sd).bind fun _=>.ex c []
@[simp] theorem ev_raise (c:Str)(f:FE)(sd:SD):zdO c f sd=(f sd).bind fun _=>.ex c []:=rfl
section
variable {X:Cx}{E:XK}{m:Option Bool}{x:Str}{v e:Expr}{fv fe:FE}{p1 p2 np cpos pos:Pos}{k}
theorem zgQ {c:Str}{C:Addr}(R:Raises X E)(ex:Exc X.K X.mg c C)(hc:X.calm=true)(hg:Gl X c)(he:QE X E e fe)(hd:autoParam ((c == ("__debug__" : Str))=false) zav._auto_1)
 (hst:autoParam (starEach [e] X.env=(false,eval e X.env)::starEach [] X.env) zau._auto_1):QS X E m (.Raise (some (.Call (.Name c np) [e] [] cpos)) none pos) (zdO c fe) :=
 PS.weak (zgk R ex hc hg (zaa he zaf hst) hd hst) fun T σ H zh=>by
  refine zc3b zh fun B F sd r n => ?_
  have n0:(zab fe dNil sd).need (fun ds=>ds.length=1∧XW X.K E B.F0 B.H0 c []) (XW X.K E F H):=by
   unfold zdO at n
   unfold zab dNil
   cases hf:fe sd with
   | ok d=>rw [hf] at n;exact ⟨rfl,n⟩
   | ex c' fs=>rw [hf] at n;exact XW.ext (n:XW X.K E B.F0 B.H0 c' fs) r.ext
   | no=>rw [hf] at n;exact n
  refine ⟨B,F,sd,r,n0.mono (fun ds n1 vs F1 H1 e1 i1 => ?_) fun _ _ q=>q⟩
  have:=i1.length
  exact ⟨by omega,n1.2 (.ref C) none F1 H1 (r.ext.trans e1) ⟨C,rfl,ex.ns,.inl rfl⟩⟩
end
end L2.DL
namespace L2
open PySem PySem.Spec PyProof.Rows
noncomputable def zcB (X:Cx)(pins:List (Addr×Obj))(σ : St)(E:XK)(e:Value)(s':Shared):Prop :=
 ∃ H' h₀ x C B,e=.ref x∧Inv X pins σ H' s'∧(∀ b u,X.s₀.heap.get? b=some u→b∉X.ex→∃ u',h₀.get? b=some u')∧(∀ p∈X.pn++pins,∃ u,h₀.get? p.1=some u)∧FlyAt X.stack h₀ H' x C B s'.heap∧E (.ref C) none H'
section
variable {X:Cx}{pins:List (Addr×Obj)}{σ : St}{H:Hp}{s:Shared}{E:XK}
theorem zdv {k:Nat}{f:Addr}{fd:FuncData}{ps:List Str}{sp:Sp}{Q:VK}{us:List Value}{vs:List V}(F:FnOk X.prog X.w X.K X.mg X.base (CXE X.prog X.w) k f fd ps sp)(hr:Room k X.A)(hb:zbV X.K fd ps [])
 (I:Inv X pins σ H s) (r:Vals vs us) (h:sp vs H Q E):wpAny (model X.prog X.w) X.A (call (.ref f) us) (EP X pins σ Q) (zcB X pins σ E) s:=by
 have hl:(us++[]).length=ps.length:=by rw [List.append_nil,← r.length];exact F.len _ _ _ _ h
 have hbb:=hb s us I.kIn hl
 rw [List.append_nil] at hbb
 refine wpAny_call (codeAny_mono (F.run X.A X.stack s H ⟨us,[]⟩ us vs Q E hr I.env0 hbb r h) fun r s' hq => ?_)
 cases r with
 | error e =>
  refine zc4a hq fun H' x C B zz=>zc0e zz fun h1 os bare un zz=>zc0c zz fun hok fl hE => ?_
  subst h1
  exact ⟨H',s.heap,x,C,B,rfl,I.call' (s':=s') (ch:=[]) os un hok bare (fun b z=>absurd z (by simp)),fun b u e hx=>I.base.there b u e hx,fun p hp=>⟨_,(I.pin p hp).1⟩,fl,hE⟩
 | ok fl =>
  cases fl with
  | ret u=>exact I.after hq
  | next=>exact False.elim hq
  | brk=>exact False.elim hq
  | cont=>exact False.elim hq
theorem zcM {name:Str}{k:Nat}{ps:List Str}{sp:Sp}{p pos:Pos}{e:Expr}{es:List Expr}{t:TA}{Q:VK}(c:zaQ X.prog X.w X.K X.mg X.base name k ps sp)(hr:Room k X.A)(hg:Gl X name)(ha:PA X.nox (e::es) t)
 (hdb:(name == ("__debug__" : Str))=false) (he:starEach (e::es) X.env=(false,eval e X.env)::starEach es X.env) (hpl:(backTo pos (starEach es X.env)).any (·.1)=false)
 (I:Inv X pins σ H s) (h:t σ H fun vs H1=>sp vs H1 Q E):wpAny (model X.prog X.w) X.A (eval (.Call (.Name name p) (e::es) [] pos) X.env) (EP X pins σ Q) (zcB X pins σ E) s:=by
 refine zc2d c fun f fd F b hk hm => ?_
 refine wpAny_Call_Name_kw (zb7 I hg hm ?_ hdb)
 refine PySem.W.callWith_K (h₀:=X.base) I.ok.mod.kin hk (wpAny_mono (ha pos pins s σ H _ (I.wish _) h) (fun us s1 ⟨vs,H1,I1,r,q⟩=>⟨I1.kIn,?_⟩) fun _ _ z=>z.elim) he hpl
 exact zdv F hr b I1.unwish r q
theorem Inv.flown {h₀ h' B:Heap}{x C t:Addr}(I:Inv X pins σ H s)(h0:∀ b u,X.s₀.heap.get? b=some u→b∉X.ex→∃ u',h₀.get? b=some u')(hp:∀ p∈X.pn++pins,∃ u,h₀.get? p.1=some u)
 (trk:∀ b o,s.heap.get? b=some o→(H b≠none∨((∃ u,h₀.get? b=some u)∧b∉frs X.stack))→B.get? b=some o) (fl:Heap.FlyingW B X.stack x (.ref C) (.ref t) h') (up:s.heap.UpToSlots h'):Inv X pins σ H { s with heap:=h' }:=by
 have nst:∀ b u,X.s₀.heap.get? b=some u→b∉X.fs→b∉frs X.stack:=fun b u e hb z=>by
  rcases List.mem_cons.mp (I.stkSub b z) with q|q
  ·exact absurd (Heap.lt_size e) (by rw [q];exact Nat.not_lt.mpr I.ok.above)
  ·exact hb q
 have slot:∀ b o,X.s₀.heap.get? b=some o→b∈X.fs→b∉X.ex→∃ sl,h'.get? b=some { o with slots:=sl }:=fun b o e hb hx=>by
  obtain ⟨sl,e1⟩:=I.base.slot b o e (I.ok.frf b hb) hb hx
  refine zc0b (I.ok.funs.mem hb) fun _ zz=>zc1b zz fun o' ho' hd => ?_
  rw [e] at ho'
  obtain rfl:=Option.some.inj ho'
  obtain ⟨sl',e2⟩:=up b _ e1 hd
  exact ⟨sl',e2⟩
 have cell:∀ c v,s.heap.IsCell c v→h'.IsCell c v:=fun c v zh=>by
  refine zc1b zh fun o ho hd => ?_
  obtain ⟨sl,e⟩:=up c o ho fun vs q=>by rw [hd] at q;cases q
  exact ⟨_,e,hd⟩
 refine zc1b (id I.loc) fun m hn hl => ?_
 refine ⟨I.ok,I.os,I.bare,⟨fun b o e n hb hx => ?_,fun b o e n hb hx=>slot b o e hb hx,fun b o e n hx=>I.base.free b o e n hx,fun b o e hx => ?_,I.base.tups,I.base.frzs,I.base.tbls⟩,⟨m,up.ns hn,fun i y v h1 h2 h3 => ?_⟩,fun y c e => ?_,I.free,I.freeC,fun p hpp => ?_,fun b u e => ?_,I.len⟩
 ·exact fl.1 b o (trk b o (I.base.keep b o e n hb hx) (.inr ⟨h0 b o e hx,nst b o e hb⟩))
 ·by_cases hb:b∈X.fs
  ·obtain ⟨sl,q⟩:=slot b o e hb hx
   exact ⟨_,q⟩
  ·obtain ⟨o',e'⟩:=I.base.there b o e hx
   exact ⟨o',fl.1 b o' (trk b o' e' (.inr ⟨h0 b o e hx,nst b o e hb⟩))⟩
 ·refine zc1b (hl i y v h1 h2 h3) fun u r l => ?_
  refine ⟨u,r,?_⟩
  rcases l with l|⟨k,c,e,z⟩
  ·exact .inl l
  ·exact .inr ⟨k,c,e,cell c _ z⟩
 ·obtain ⟨v,q⟩:=I.cell y c e
  exact ⟨v,cell c v q⟩
 ·refine zc0e (I.pin p hpp) fun q1 q2 q3 q4 q5 => ?_
  refine ⟨fl.1 _ _ (trk _ _ q1 (.inr ⟨hp p hpp,fun z => ?_⟩)),q2,q3,q4,q5⟩
  rcases List.mem_cons.mp (I.stkSub _ z) with q|q
  ·exact q3 q
  ·exact q4 q
 ·refine (I.hok b u e).stay (fun c v hc q=>fl.1 c v (trk c v q (.inl ?_))) (fun _ q=>q) fun _ _ q=>q
  rcases hc with z|z
  ·rw [z,e];simp
  ·rw [z];simp
abbrev Cx.inSuite (X:Cx)(x:Addr):Cx:={ X with A:=X.A.mark (some (.ref x)),calm:=false,xe:=fun _ _=>False }
theorem Inv.suite (I:Inv X pins σ H s)(x:Addr):Inv (X.inSuite x) pins σ H s :=
 ⟨⟨I.ok.mod,I.ok.kind,I.ok.glob,I.ok.blt,I.ok.above,I.ok.inj,I.ok.has,I.ok.cab,(fun z=>by exact zqb z),I.ok.frames,I.ok.stk,I.ok.exf,I.ok.bs,I.ok.bsz,I.ok.noex,I.ok.exfs,I.ok.funs,I.ok.frf⟩,I.os,I.bare,I.base,I.loc,I.cell,I.free,I.freeC,I.pin,I.hok,I.len⟩
theorem Inv.unsuite {x:Addr}(I:Inv (X.inSuite x) pins σ H s)(ok:X.Ok):Inv X pins σ H s:=⟨ok,I.os,I.bare,I.base,I.loc,I.cell,I.free,I.freeC,I.pin,I.hok,I.len⟩
theorem SP.unsuite {x:Addr}{D:Ends}{f:Flow}{s':Shared}(h:SP (X.inSuite x) pins D f s')(ok:X.Ok):SP X pins D f s':=by
 cases f with
 | next=>obtain ⟨σ',H',I,q⟩:=h;exact ⟨σ',H',I.unsuite ok,q⟩
 | brk=>obtain ⟨σ',H',I,q⟩:=h;exact ⟨σ',H',I.unsuite ok,q⟩
 | cont=>obtain ⟨σ',H',I,q⟩:=h;exact ⟨σ',H',I.unsuite ok,q⟩
 | ret u=>obtain ⟨v,σ',H',I,r,q⟩:=h;exact ⟨v,σ',H',I.unsuite ok,r,q⟩
end
end L2
namespace L2.DL
open PySem PySem.Spec PyProof.Rows
end L2.DL
namespace L2
open PySem PySem.Spec PyProof.Rows
theorem zew {P:Program}{w:World}{K:PySem.W.Frag}{mg:Str→Option Value}{base:Heap}{N:List Str}{qual:Str}{scope:Scope}{f:Addr}{cd:Value}{A:Around}{outer:List Env}{s:Shared}{H:Hp}{E:XK} :
 PassesOwn (model (cxOf (CXE P w) P w K mg base N qual scope f cd A outer s H E).prog (cxOf (CXE P w) P w K mg base N qual scope f cd A outer s H E).w) (cxOf (CXE P w) P w K mg base N qual scope f cd A outer s H E).A (cxOf (CXE P w) P w K mg base N qual scope f cd A outer s H E).env (cxOf (CXE P w) P w K mg base N qual scope f cd A outer s H E).xe :=
 PassesOwn.leaving (Q₁:=fun e s''=>CXE P w outer H s E e s'')
end L2
namespace L2.DL
open PySem PySem.Spec PyProof.Rows
noncomputable def delH (H:Hp)(l:Addr):Hp:=fun a=>if a=l then none else H a
theorem zfV {H:Hp}{l:Addr}:Same (delH H l) H:=fun a o e=>by
 unfold delH at e
 split at e
 ·exact zqn e
 ·exact e
theorem zhK {H:Hp}{l:Addr}:delH H l l=none:=by unfold delH;rw [if_pos rfl]
theorem zhp {H:Hp}{l a:Addr}(h:a≠l):delH H l a=H a:=by unfold delH;rw [if_neg h]
end L2.DL
namespace L2
open PySem PySem.Spec PyProof.Rows
abbrev TB:=Ends→XK→St→Hp→Prop
def PB (X:Cx)(body:List Stmt)(t:TB):Prop :=
 ∀ (pins:List (Addr×Obj)) (s:Shared) (σ : St) (H:Hp) (D:Ends) (E:XK),Inv X pins σ H s→t D E σ H→wpAny (model X.prog X.w) X.A (execs body X.env) (SP X pins D) (zcB X pins σ E) s
section
variable {X:Cx}
theorem PB.weak {b:List Stmt}{t t':TB}(h:PB X b t)(w:∀ D E σ H,t' D E σ H→t D E σ H):PB X b t':=fun pins s σ H D E I q=>h pins s σ H D E I (w _ _ _ _ q)
theorem zhS {name:Str}{k:Nat}{ps:List Str}{sp:Sp}{t:TA}{e:Expr}{es:List Expr}{p cpos apos:Pos}
 (cc:zaQ X.prog X.w X.K X.mg X.base name k ps sp) (hr:Room k X.A) (hg:Gl X name) (ha:PA X.nox (e::es) t)
 (hdb:autoParam ((name == ("__debug__" : Str))=false) zav._auto_1) (he:starEach (e::es) X.env=(false,eval e X.env)::starEach es X.env:=by rfl) (hpl:(backTo cpos (starEach es X.env)).any (·.1)=false:=by rfl)
 (hsw:autoParam (swapsWith (.Call (.Name name p) (e::es) [] cpos) none apos.line X.env=pure false) zau._auto_1) :
 PB X [.Expr (.Call (.Name name p) (e::es) [] cpos) apos] (fun D E σ H=>t σ H fun vs H1=>sp vs H1 (fun _ H2=>D.nx σ H2) E):=by
 intro pins s σ H D E I h
 refine wpAny_execs_cons (wpAny_Expr_any (wpAny_mono (zcM (Q:=fun _ H2=>D.nx σ H2) (E:=E) cc hr hg ha hdb he hpl I h) (fun v s1 q => ?_) fun e s1 fl=>fl) I.quiet hsw)
 refine zc2c q fun z H1 I1 r1 q1 => ?_
 exact wpAny_execs_nil ⟨_,H1,I1,q1⟩
end
end L2
namespace L2.DL
open PySem PySem.Spec PyProof.Rows
def tDB (K:PySem.W.Frag)(m:Option Bool)(g:FS):TB:=fun D E σ H => ∃ B F sd,RS K B F H sd σ ∧ (g sd).need (zcd K m B F D) (XW K E F H)
abbrev QB (X:Cx)(m:Option Bool)(body:List Stmt)(g:FS):Prop:=PB X body (tDB X.K m g)
def zdD (Fn:List D→Res D)(fr:FA):FE:=fun sd=>(fr sd).strict.bind Fn
@[simp] theorem ev_callS (Fn:List D→Res D)(fr:FA)(sd:SD):zdD Fn fr sd=(fr sd).strict.bind Fn:=rfl
section
variable {X:Cx}{m:Option Bool}
theorem zh7 {name:Str}{k:Nat}{ps:List Str}{Fn:List D→Res D}{fr:FA}{e:Expr}{es:List Expr}{p cpos apos:Pos}
 (cc:zaQ X.prog X.w X.K X.mg X.base name k ps (SpDX X.K Fn)) (hr:Room k X.A) (hg:Gl X name) (ha:QA X.nox E0 (e::es) fr)
 (hdb:autoParam ((name == ("__debug__" : Str))=false) zav._auto_1) (he:starEach (e::es) X.env=(false,eval e X.env)::starEach es X.env:=by rfl) (hpl:(backTo cpos (starEach es X.env)).any (·.1)=false:=by rfl)
 (hsw:autoParam (swapsWith (.Call (.Name name p) (e::es) [] cpos) none apos.line X.env=pure false) zau._auto_1) :
 QB X m [.Expr (.Call (.Name name p) (e::es) [] cpos) apos] (zgj (zdD Fn fr)) :=
 PB.weak (zhS cc hr hg ha hdb he hpl hsw) fun T E σ H zh=>by
  refine zc3b zh fun B F sd r n => ?_
  refine ⟨B,F,sd,r,?_⟩
  unfold zgj zdD at n
  cases hf:fr sd with
  | ex c' fs=>rw [hf] at n;exact n.elim
  | no=>rw [hf] at n;exact n.elim
  | ok ds =>
   rw [hf] at n
   have n:((Fn ds).bind fun _=>Res.ok (Out.next sd)).need (zcd X.K m B F T) (XW X.K E F H):=n
   show OkA X.K F H _ ds
   intro vs F1 H1 e1 i1
   refine ⟨F1,ds,e1.fh,i1,?_⟩
   cases hq:Fn ds with
   | ok d =>
    rw [hq] at n
    exact fun v F2 H2 e2 i2=>n _ F2 H2 (e1.ff.trans e2.ff) ((r.step e1).step e2)
   | no=>rw [hq] at n;exact n.elim
   | ex c' fs =>
    rw [hq] at n
    have n:XW X.K E F H c' fs:=n
    exact n.ext e1
end
end L2.DL
namespace L2
open PySem PySem.Spec PyProof.Rows
noncomputable def zbi (K:PySem.W.Frag)(x:Str)(st:Stmt):Prop:=∃ f fd,PySem.W.nsIn K mainGlobals x=some (some (.ref f))∧Fun K x x st f fd
theorem zbi.callee {P:Program}{w:World}{K:PySem.W.Frag}{h base:Heap}{mg:Str→Option Value}{x:Str}{st:Stmt}{k:Nat}{ps:List Str}{sp:Sp}(X:K.In h)(G:h.Ns mainGlobals mg)(d:zbi K x st)
 (ok:∀ {f:Addr} {fd:FuncData},Fun K x x st f fd→FnOk P w K mg base CX0 k f fd ps sp)
 (hb:∀ (kV doc pm:Value) (an:Option Addr) (cdv ct:Value) (us:List Value),us.length=ps.length→bindArgs (PySem.W.fnOf x x (zbA st) (zaL st) (zah st) .none kV doc pm an cdv ct) ⟨us,[]⟩=pure (ps.zip us)):zaz P w K mg base x k ps sp:=by
 refine zc2b d fun f fd a F => ?_
 exact ⟨f,fd,ok F,F.binds hb,F.kp,PySem.W.mg_of X G a⟩
theorem zbi.calleeX {P:Program}{w:World}{K:PySem.W.Frag}{h base:Heap}{mg:Str→Option Value}{x:Str}{st:Stmt}{k:Nat}{ps:List Str}{sp:Sp}(X:K.In h)(G:h.Ns mainGlobals mg)(d:zbi K x st)
 (ok:∀ {f:Addr} {fd:FuncData},Fun K x x st f fd→FnOk P w K mg base (CXE P w) k f fd ps sp)
 (hb:∀ (kV doc pm:Value) (an:Option Addr) (cdv ct:Value) (us:List Value),us.length=ps.length→bindArgs (PySem.W.fnOf x x (zbA st) (zaL st) (zah st) .none kV doc pm an cdv ct) ⟨us,[]⟩=pure (ps.zip us)):zaQ P w K mg base x k ps sp:=by
 refine zc2b d fun f fd a F => ?_
 exact ⟨f,fd,ok F,F.binds hb,F.kp,PySem.W.mg_of X G a⟩
end L2
namespace L2
open PySem PySem.Spec PyProof.Rows
section
variable {X:Cx}{pins:List (Addr×Obj)}{σ : St}{H:Hp}{s:Shared}
theorem Inv.track {x:Addr}{φ : Heap→Prop}(I:Inv X pins σ H s)(hx:H x=none)(h0:X.s₀.heap.get? x=none)(hl:x≠X.env.locals)(hc:∀ y c,X.env.cells.lookup y=some c→c≠x)(hp:∀ p∈X.pn++pins,p.1≠x)(ok:za4 X.prog X.w (upd H x (.ext φ)) s.heap x (.ext φ)):Inv X pins σ (upd H x (.ext φ)) s:=by
 have ne:∀ {b:Addr} {u:HO},H b=some u→b≠x:=fun {b u} e z=>by rw [z,hx] at e;exact zqn e
 refine ⟨I.ok,I.os,I.bare,⟨I.base.keep,I.base.slot,fun b o e n hxx => ?_,I.base.there,fun b xs e => ?_,fun b o u e => ?_,fun b ps e => ?_⟩,I.loc,I.cell,?_,fun y c e => ?_,fun p hpp => ?_,fun b u e => ?_,I.len⟩
 ·have z:b≠x:=fun z=>by rw [z,h0] at e;exact zqn e
  rw [zai z];exact I.base.free b o e n hxx
 ·have q:=I.base.tups b xs e
  rw [zai (ne q)];exact q
 ·have q:=I.base.frzs b o u e
  rw [zai (ne q)];exact q
 ·obtain ⟨more,q⟩:=I.base.tbls b ps e
  exact ⟨more,by rw [zai (ne q)];exact q⟩
 ·rw [zai (Ne.symm hl)];exact I.free
 ·rw [zai (hc y c e)];exact I.freeC y c e
 ·refine zc0e (I.pin p hpp) fun q1 q2 q3 q4 q5 => ?_
  exact ⟨q1,by rw [zai (hp p hpp)];exact q2,q3,q4,q5⟩
 ·by_cases z:b=x
  ·subst z;rw [zak] at e;cases e;exact ok
  ·rw [zai z] at e
   refine (I.hok b u e).stay (fun _ _ _ q=>q) (fun c q => ?_) fun c xs q => ?_
   ·rw [zai (ne q)];exact q
   ·rw [zai (ne q)];exact q
theorem zjd {P:Program}{w:World}{H:Hp}{h:Heap}{C x:Addr}{o:Obj}(e:h.get? x=some o)(c:o.cls=.ref C):za4 P w H h x (DL.ExcO C x):=⟨⟨o,e,c⟩,⟨o,e⟩,(by rintro h1 h2 ⟨o,e,c⟩ k;exact ⟨o,k o e,c⟩)⟩
theorem Inv.gone {j:Nat}{n:Str}{h':Heap}{v:Option Value}{m:Str→Option Value}{t':Nat}(I:Inv X pins σ H s)(hN:X.N.Nodup)(hj:X.N[j]? = some n)(hm:s.heap.Ns X.env.locals m)(hloc:∀ (i:Nat) (x:Str) (v:V),X.N[i]? = some x → σ[i]? = some (some v)→Vis X.env.scope x→∃ u,RelV v u∧Look X.env s.heap m x u)
 (hn':h'.Ns X.env.locals (fun x=>if x=n then v else m x)) (hs:Heap.SameBut X.env.locals s.heap h'):Inv X pins (σ.set j none) H { s with heap:=h',toks:=t' }:=by
 refine zc3b (id hm) fun oL _ _ hoL _ => ?_
 have cne:=I.cne
 have hjσ : j < σ.length:=by rw [I.len];exact (List.getElem?_eq_some_iff.mp hj).1
 refine ⟨I.ok,I.os,I.bare,⟨fun b o e n hb hx => ?_,fun b o e n hb hx => ?_,I.base.free,fun b o e hx => ?_,I.base.tups,I.base.frzs,I.base.tbls⟩,⟨_,hn',fun i y v' e1 e2 e3 => ?_⟩,fun y c e => ?_,I.free,I.freeC,fun p hp => ?_,fun b ob e => ?_,by simpa using I.len⟩
 ·exact (hs.2 b (Nat.ne_of_lt (Nat.lt_of_lt_of_le (Heap.lt_size e) I.ok.above))).trans (I.base.keep b o e n hb hx)
 ·obtain ⟨sl,e1⟩:=I.base.slot b o e n hb hx
  exact ⟨sl,(hs.2 b (Nat.ne_of_lt (Nat.lt_of_lt_of_le (Heap.lt_size e) I.ok.above))).trans e1⟩
 ·obtain ⟨o',e1⟩:=I.base.there b o e hx
  exact ⟨o',(hs.2 b (Nat.ne_of_lt (Nat.lt_of_lt_of_le (Heap.lt_size e) I.ok.above))).trans e1⟩
 ·by_cases hij:i=j
  ·subst hij
   rw [List.getElem?_set_self hjσ] at e2
   cases e2
  ·rw [List.getElem?_set_ne (Ne.symm hij)] at e2
   refine zc1b (hloc i y v' e1 e2 e3) fun u' r' q => ?_
   refine ⟨u',r',?_⟩
   rcases q with ⟨k,e⟩|⟨k,c,e,z⟩
   ·refine .inl ⟨k,?_⟩
    have:y≠n:=fun e=>hij (zc9 hN e1 (e ▸ hj))
    simp [this,e]
   ·exact .inr ⟨k,c,e,z.sameBut hs (cne y c e)⟩
 ·obtain ⟨w',z⟩:=I.cell y c e
  exact ⟨w',z.sameBut hs (cne y c e)⟩
 ·refine zc0e (I.pin p hp) fun e n ne nf d => ?_
  exact ⟨(hs.2 p.1 ne).trans e,n,ne,nf,d⟩
 ·refine (I.hok b ob e).stay (fun c w' hc q=>(hs.2 c ?_).trans q) (fun _ q=>q) fun _ _ q=>q
  rintro rfl
  rcases hc with z|hc
  ·rw [← z,I.free] at e;exact zqn e
  ·rw [I.free] at hc;exact zqn hc
noncomputable def zfi (j:Nat)(D:Ends):Ends:={ nx:=fun σ H=>D.nx (σ.set j none) H,bk:=fun σ H=>D.bk (σ.set j none) H,ct:=fun σ H=>D.ct (σ.set j none) H,rt:=D.rt }
theorem zc2 {M:Model}{A:Around}{E:Value→Shared→Prop}{nm q:Str}{C U N:Addr}{bs bm:List Value}{hdct:Bool}{sn:List Str}{sub:List Value}{ab:Bool}{col:Option Bool}{dd:Option Addr}{k0 k1 k2 k3 k5:Option Value}{newId:String}{h:Heap}{g:Array GenState}{d:Drawn}{t:Nat}{os:OsState}{e:Addr}{oe:Obj}{Q:Bool→Shared→Prop}
 (hU:h.get? U=some (excClassObj nm q U N bs bm hdct sn sub ab col dd k0 k1 k2 k3 k5 newId)) (he:h.get? e=some oe) (hcls:oe.cls=.ref C) (hbase:bm.contains (.type "BaseException")=true) (L4:PySem.W.Looks M h (isSubtype (.ref C) (.ref U)) true)
 (hq:Q true ⟨h,g,d,t,os⟩):wpAny M A (excMatches (.ref e) (.ref U)) Q E ⟨h,g,d,t,os⟩:=by
 have hcB:(Value.ref U::bm).contains (.type "BaseException")=true:=by rw [List.contains_cons,hbase,Bool.or_true]
 have f:=tc_notTuple
 unfold excMatches
 repeat (first|(with_reducible refine wpAny_loadPart_at he ?_;rw [hcls])|with_reducible refine wpAny_loadPart_at hU ?_|(with_reducible refine wpAny_isSubtype_exc hU ?_;rw [hcB])|with_reducible refine L4.at ?_|wp_step)
 exact hq
theorem ze8 {Ex:Value→Shared→Prop}{c n:Str}{U:Addr}{j:Nat}{b₀:Stmt}{suite:List Stmt}{np hpos:Pos}{ts:TS}{D:Ends}{e:Value}(hst:X.stack=X.env::X.outer)(hfr:X.env.frame=some X.env.locals)(hex:X.ex=[])(ex:Exc X.K X.mg c U)(hg:Gl X c)
 (hN:X.N.Nodup) (hj:X.N[j]? = some n) (hk:X.env.scope.names.lookup n=some .local) (hs:∀ x,PSs (X.inSuite x) (b₀::suite) ts)
 (fl:zcB X pins σ (fun cv _ H2 => ∃ C,cv=.ref C∧PySem.W.subIn X.K (.ref C) (.ref U)=some true∧∀ x,H2 x=none→ts (zfi j D) (σ.set j (some (.ref x))) (upd H2 x (DL.ExcO C x))) e s) (hd:(c == ("__debug__" : Str))=false) :
 wpAny (model X.prog X.w) X.A (noteFrame e X.env) (fun _ s₂=>wpAny (model X.prog X.w) X.A (setFlight e none) (fun _ s₃=>wpAny (model X.prog X.w) X.A (handleBy e X.env [.ExceptHandler (some (.Name c np)) (some n) (b₀::suite) hpos]) (SP X pins D) Ex s₃) Ex s₂) Ex s:=by
 refine zc4a fl fun H' h₀ x C' zz=>zc1a zz fun B zz=>zc0e zz fun zr5 I h0 hp zz=>zc0b zz fun zr9 zz=>zc1c zz fun C hC' up hts => ?_
 obtain rfl:=zr5
 obtain ⟨⟨t,fly⟩,trk⟩:=zr9
 cases hC'
 have fly':=fly
 rw [hst] at fly'
 refine wpAny_looks_onW (I.ok.frames.trans (by rw [hst])) hfr fly' fun h₄ held₄ up₄ => ?_
 refine wpAny_landsW held₄ fun h₅ fl₅ up₅ => ?_
 have fl5:=fl₅
 rw [← hst] at fl5
 have up5:=up₄.trans up₅
 have I5:=I.flown h0 hp trk fl5 up5
 refine wpAny_handleBy_cons (codeAny_handlers_test (zb7 (X:=X.inSuite x) (I5.suite x) hg ex.mgc ?_ hd)) (by intro q;cases q)
 refine zeI (h:=h₅) I5.kIn ex.exc fun tl N nm q bs hdct sn sub ab col dd k0 k1 k2 k3 k5 mN hC hN' hni T => ?_
 obtain ⟨ob,hob,hobc⟩:=fl₅.there
 have L4:PySem.W.Looks (model X.prog X.w) h₅ (isSubtype (.ref C') (.ref U)) true:=PySem.W.looks_subIn I5.kIn up
 have hbase:tl.contains (.type "BaseException")=true:=T.hasType PySem.F.excBase_ValueError.hasBase
 refine zc2 hC hob hobc hbase L4 (codeAny_handlers_suite_as ?_)
 refine lands_againW fl₅ fun h₆ fl₆ up₆ => ?_
 rw [← hst] at fl₆
 have up6:=up5.trans up₆
 have I6:=I.flown h0 hp trk fl₆ up6
 have bx:B.get? x=none:=fly.2.1
 refine zc1b fly.there fun o0 ho0 _ => ?_
 have fr6:=fl₆.2.2.1
 obtain ⟨oe,vs,_,_,_,he,⟨hcls,_⟩,hdat,_⟩:=id fl₆.2.2.2
 have hxH:H' x=none:=by
  cases z:H' x with
  | none=>rfl
  | some u =>
   rw [trk x o0 ho0 (.inl (by rw [z];simp))] at bx
   cases bx
 have nfr:x∉frs X.stack:=fun z=>by
  obtain ⟨_,o,ho,hdd⟩:=fr6.mem z
  rw [he] at ho
  obtain rfl:=Option.some.inj ho
  exact hdd vs hdat
 have nex:X.s₀.heap.get? x=none:=by
  cases z:X.s₀.heap.get? x with
  | none=>rfl
  | some o =>
   obtain ⟨u',hu'⟩:=h0 x o z (by rw [hex];simp)
   rw [trk x o0 ho0 (.inr ⟨⟨u',hu'⟩,nfr⟩)] at bx
   cases bx
 obtain ⟨m6,hm6,_⟩:=id I6.loc
 have nl:x≠X.env.locals:=fun z=>by
  obtain ⟨o,es,ep,ho,hd2,_⟩:=hm6
  have ho:h₆.get? X.env.locals=some o:=ho
  rw [← z,he] at ho
  obtain rfl:=Option.some.inj ho
  rw [hdat] at hd2
  cases hd2
 have nc:∀ y cc,X.env.cells.lookup y=some cc→cc≠x:=fun y cc e z=>by
  obtain ⟨v,o,ho,hd2⟩:=I6.cell y cc e
  have ho:h₆.get? cc=some o:=ho
  rw [z,he] at ho
  obtain rfl:=Option.some.inj ho
  rw [hdat] at hd2
  cases hd2
 have np:∀ p∈X.pn++pins,p.1≠x:=fun p hpp z=>by
  obtain ⟨q1,_⟩:=I.pin p hpp
  have h1:=hp p hpp
  rw [z] at q1 h1
  rw [trk x _ q1 (.inr ⟨h1,nfr⟩)] at bx
  cases bx
 have I6t:Inv X pins σ (upd H' x (DL.ExcO C' x)) { s with heap:=h₆ }:=I6.track (φ := fun h => ∃ o,h.get? x=some o∧o.cls=.ref C') hxH nex nl nc np (zjd he hcls)
 refine zbL (X:=X.inSuite x) (I6t.suite x) hN hj (.inl hk) (v:=.ref x) (u:=.ref x) rfl (fun s7 I7 => ?_) (.inr hk)
 refine wpAny_mono (hs x pins _ _ _ (zfi j D) I7 (hts x hxH)) (fun f s8 q => ?_) fun _ _ z=>z.elim
 have q:=q.unsuite I.ok
 have hcl:(X.env.scope.kind == .class||(X.env.scope.kind == .module&&X.env.locals != X.env.globals))=false:=by rw [I.ok.kind];rfl
 show wpAny (model X.prog X.w) X.A (do bindName X.env n .none;unbindBehindTheSuite X.env n hpos) (fun _ s₃=>SP X pins D f s₃) Ex s8
 cases f with
 | next =>
  obtain ⟨σ',H2,I8,q8⟩:=q
  obtain ⟨m,hm,hl⟩:=id I8.loc
  exact wpAny_nameGoes_keeps hk hm hcl fun h' v hn' hs'=>⟨σ'.set j none,H2,I8.gone hN hj hm hl hn' hs',q8⟩
 | brk =>
  obtain ⟨σ',H2,I8,q8⟩:=q
  obtain ⟨m,hm,hl⟩:=id I8.loc
  exact wpAny_nameGoes_keeps hk hm hcl fun h' v hn' hs'=>⟨σ'.set j none,H2,I8.gone hN hj hm hl hn' hs',q8⟩
 | cont =>
  obtain ⟨σ',H2,I8,q8⟩:=q
  obtain ⟨m,hm,hl⟩:=id I8.loc
  exact wpAny_nameGoes_keeps hk hm hcl fun h' v hn' hs'=>⟨σ'.set j none,H2,I8.gone hN hj hm hl hn' hs',q8⟩
 | ret u =>
  obtain ⟨v0,σ',H2,I8,r8,q8⟩:=q
  obtain ⟨m,hm,hl⟩:=id I8.loc
  exact wpAny_nameGoes_keeps hk hm hcl fun h' v hn' hs'=>⟨v0,σ'.set j none,H2,I8.gone hN hj hm hl hn' hs',r8,q8⟩
theorem zgP {c n:Str}{U:Addr}{j:Nat}{body:List Stmt}{tb:TB}{ts:TS}{b₀:Stmt}{suite:List Stmt}{np hpos pos:Pos}(hst:X.stack=X.env::X.outer)(hfr:X.env.frame=some X.env.locals)(hex:X.ex=[])(hb:PB X body tb)(ex:Exc X.K X.mg c U)(hgc:Gl X c)
 (hN:X.N.Nodup) (hj:X.N[j]? = some n) (hk:X.env.scope.names.lookup n=some .local) (hs:∀ x,PSs (X.inSuite x) (b₀::suite) ts) (hd:autoParam ((c == ("__debug__" : Str))=false) zav._auto_1) :
 PS X (.Try body [.ExceptHandler (some (.Name c np)) (some n) (b₀::suite) hpos] [] [] pos) (fun D σ H=>tb D (fun cv _ H2 => ∃ C,cv=.ref C∧PySem.W.subIn X.K (.ref C) (.ref U)=some true∧∀ x,H2 x=none→ts (zfi j D) (σ.set j (some (.ref x))) (upd H2 x (DL.ExcO C x))) σ H):=by
 intro pins s σ H D I h
 rw [arm_exec_Try]
 refine wpAny_bind (wpAny_standAt (wpAny_tryStmt_except (wpAny_mono (hb pins s σ H D _ I h) (fun f s1 q => ?_) fun e s1 fl=>ze8 hst hfr hex ex hgc hN hj hk hs fl hd)))
 cases f with
 | next=>exact wpAny_execs_nil q
 | ret v=>exact q
 | brk=>exact q
 | cont=>exact q
end
end L2
namespace L2.DL
open PySem PySem.Spec PyProof.Rows
noncomputable def zfA (j:Nat):Out→Out
 | .next sd=>.next (sd.set j none)
 | .brk sd=>.brk (sd.set j none)
 | .cont sd=>.cont (sd.set j none)
 | .ret d=>.ret d
theorem RS.drop {K:PySem.W.Frag}{B:Bs}{F H:Hp}{sd:SD}{σ : St}(j:Nat)(r:RS K B F H sd σ):RS K B F H (sd.set j none) (σ.set j none):=by
 have get:∀ {i:Nat} {x:SV},(sd.set j none)[i]? = some (some x)→i≠j∧sd[i]? = some (some x):=fun {i x} q=>by
  by_cases z:i=j
  ·subst z
   have:=(zaj q).1
   cases this
  ·rw [zag (Ne.symm z)] at q
   exact ⟨z,q⟩
 refine ⟨r.ext,by rw [List.length_set,List.length_set];exact r.len,fun {i d} q => ?_,fun {i p d} q => ?_,fun {i k p p' d e l} hne q q' => ?_⟩
 ·obtain ⟨z,q⟩:=get q
  refine zc1b (r.val q) fun v h1 h2 => ?_
  exact ⟨v,by rw [zag (Ne.symm z)];exact h1,h2⟩
 ·obtain ⟨z,q⟩:=get q
  refine zc1b (r.own q) fun l h1 h2 => ?_
  exact ⟨l,by rw [zag (Ne.symm z)];exact h1,h2⟩
 ·obtain ⟨z,q⟩:=get q
  obtain ⟨z',q'⟩:=get q'
  rw [zag (Ne.symm z),zag (Ne.symm z')]
  exact r.apart hne q q'
def zdW (cs:List Str)(j:Nat)(gs:FS)(sd:SD):Res Out→Res Out
 | .ok o=>.ok o
 | .ex c [] => @ite _ (c∈cs) (Classical.propDecidable _) ((gs (sd.set j (some (.val (.exc c))))).strict.bind fun o=>.ok (zfA j o)) .no
 | _=>.no
theorem zdj {cs:List Str}{c:Str}(j:Nat)(gs:FS)(sd:SD)(h:c∈cs):zdW cs j gs sd (.ex c [])=(gs (sd.set j (some (.val (.exc c))))).strict.bind fun o=>.ok (zfA j o):=@if_pos _ (Classical.propDecidable _) h _ _ _
def zdZ (cs:List Str)(j:Nat)(g gs:FS):FS:=fun sd=>zdW cs j gs sd (g sd)
@[simp] theorem ev_tryAs (cs:List Str)(j:Nat)(g gs:FS)(sd:SD):zdZ cs j g gs sd=zdW cs j gs sd (g sd):=rfl
section
variable {X:Cx}{E:XK}{m:Option Bool}
theorem zgK {c n:Str}{U:Addr}{j:Nat}{cs:List Str}{body:List Stmt}{g gs:FS}{b₀:Stmt}{suite:List Stmt}{np hpos pos:Pos}(hst:X.stack=X.env::X.outer)(hfr:X.env.frame=some X.env.locals)(hex:X.ex=[])(hb:QB X m body g)(ex:Exc X.K X.mg c U)(hgc:Gl X c)
 (hN:X.N.Nodup) (hj:X.N[j]? = some n) (hk:X.env.scope.names.lookup n=some .local) (hs:∀ x,QSs (X.inSuite x) E0 m (b₀::suite) gs) (hc:∀ c'∈cs,∃ C,PySem.W.nsIn X.K mainGlobals c'=some (some (.ref C))∧PySem.W.subIn X.K (.ref C) (.ref U)=some true) (hd:autoParam ((c == ("__debug__" : Str))=false) zav._auto_1) :
 QS X E m (.Try body [.ExceptHandler (some (.Name c np)) (some n) (b₀::suite) hpos] [] [] pos) (zdZ cs j g gs) :=
 PS.weak (zgP (ts:=tDS X.K E0 m gs) hst hfr hex hb ex hgc hN hj hk hs hd) fun T σ H zh=>by
  refine zc3b zh fun B F sd r n => ?_
  refine ⟨B,F,sd,r,?_⟩
  unfold zdZ at n
  cases hq:g sd with
  | ok o=>rw [hq] at n;exact n
  | no=>rw [hq] at n;exact n.elim
  | ex c' fs =>
   rw [hq] at n
   cases fs with
   | cons d r=>exact n.elim
   | nil =>
    by_cases hm:c'∈cs
    ·rw [zdj j gs sd hm] at n
     rintro cv a F2 H2 e2 ⟨C',h1,h2,_⟩
     refine zc1b (hc c' hm) fun C hC hsub => ?_
     rw [hC] at h2
     cases h2
     refine ⟨C',h1,hsub,fun x hx => ?_⟩
     have ea:=Ext.alloc e2.fh hx (ExcO C' x)
     refine ⟨B,_,_,((r.step e2).step ea).setVal (IsD.exc_iff.mpr ⟨x,C',rfl,hC,zak⟩),?_⟩
     refine (Res.need_strict (Res.need_bind n)).mono (fun o q => ?_) fun _ _ q=>q
     have q:zcd X.K m B F T (zfA j o):=q
     cases o with
     | next sd'=>exact fun σ' F' H' sF r'=>q _ F' H' ((e2.ff.trans ea.ff).trans sF) (r'.drop j)
     | brk sd'=>exact fun σ' F' H' sF r'=>q _ F' H' ((e2.ff.trans ea.ff).trans sF) (r'.drop j)
     | cont sd'=>exact fun σ' F' H' sF r'=>q _ F' H' ((e2.ff.trans ea.ff).trans sF) (r'.drop j)
     | ret d=>exact q
    ·have n:(@ite _ (c'∈cs) (Classical.propDecidable _) ((gs (sd.set j (some (.val (.exc c'))))).strict.bind fun o=>.ok (zfA j o)) Res.no).need (zcd X.K m B F T) (XW X.K E B.F0 B.H0):=n
     rw [@if_neg _ (Classical.propDecidable _) hm] at n
     exact n.elim
end
end L2.DL
namespace L2
open PySem PySem.Spec PyProof.Rows
theorem zg4 {prog:Program}{w:World}{A:Around}{E:Value→Shared→Prop}{s:Shared}{v:Value}{C:Addr}{T:String}{Q:Value→Shared→Prop}(hx:v ≠ .builtin "__main__.__loader__#opaque")(ht:PySem.W.Looks (model prog w) s.heap (typeOf v) (.ref C))(hsub:PySem.W.Looks (model prog w) s.heap (isSubtype (.ref C) (.type T)) true)
 (hty:typeOf (.type T)=pure (.type "type")) (h:Q (.bool true) s):wpAny (model prog w) A (call (.builtin "isinstance") [v,.type T]) Q E s:=by
 refine call_isinstance_of ?_ hx
 unfold Builtin.«isinstance.nested»
 refine wpAny_bind (m:=typeOf v) (ht.here ?_)
 rw [if_neg (fun q=>by cases beq_iff_eq.mp q)]
 refine wpAny_bind (m:=typeOf (.type T)) (wpAny_of_eq hty ?_)
 show wpAny _ _ (if (Value.type "type" == Value.type "type")=true then _ else _) _ _ s
 rw [if_pos (by decide)]
 refine wpAny_bind (wpAny_bind (m:=isType (.type T)) (wpAny_pure (a:=true) ?_))
 refine wpAny_bind (m:=isInstance v (.type T)) (PySem.W.Looks.here (PySem.W.Looks.andThen ht hsub) ?_)
 exact wpAny_pure (a:=true) (wpAny_pure h)
theorem zcz:bootBuiltins "ValueError" = some (.type "ValueError"):=by decide +kernel
end L2
namespace L2.DL
open PySem PySem.Spec PyProof.Rows
noncomputable def zen (cs:List Str):List D→Option D
 | [.exc c,.ucl u] => @ite _ (c=u) (Classical.propDecidable _) (some (.bl true)) none
 | [.exc c,.ty T] => @ite _ (T = "ValueError" ∧ c∈cs) (Classical.propDecidable _) (some (.bl true)) none
 | _=>none
@[simp] theorem ziE (cs:List Str)(c:Str):zen cs [.exc c,.ucl c]=some (.bl true):=@if_pos _ (Classical.propDecidable _) rfl _ _ _
theorem zfC {cs:List Str}{c:Str}(h:c∈cs):zen cs [.exc c,.ty "ValueError"]=some (.bl true):=@if_pos _ (Classical.propDecidable _) ⟨rfl,h⟩ _ _ _
section
variable {X:Cx}{E:XK}
theorem zbE {c:Str}{C:Addr}{pos:Pos}(ns:PySem.W.nsIn X.K mainGlobals c=some (some (.ref C)))(mgc:X.mg c=some (.ref C))(hg:Gl X c)(hd:autoParam ((c == ("__debug__" : Str))=false) zav._auto_1):QE X E (.Name c pos) (dC (.ucl c)) :=
 zbB (v:=.ref C) (fun pins s σ H Q I h=>zb7 I hg mgc ⟨.ref C,H,I,rfl,h⟩ hd) fun F=>IsD.ucl_iff.mpr ⟨C,rfl,ns⟩
noncomputable def IsiXP (cs:List Str)(ds:List D)(z:D):Prop:=z=.bl true∧((∃ c,ds=[.exc c,.ucl c])∨∃ c,c∈cs∧ds=[.exc c,.ty "ValueError"])
theorem zfY {cs:List Str}{ds:List D}{z:D}(hz:zen cs ds=some z):IsiXP cs ds z:=by
 cases ds with
 | nil=>exact zqn hz
 | cons d ds =>
  cases d with
  | exc c =>
   cases ds with
   | nil=>exact zqn hz
   | cons e ds =>
    cases e with
    | ucl u =>
     cases ds with
     | nil =>
      obtain ⟨rfl,rfl⟩:=zbr (c:=c=u) hz
      exact ⟨rfl,.inl ⟨_,rfl⟩⟩
     | cons _ _=>exact zqn hz
    | ty T =>
     cases ds with
     | nil =>
      obtain ⟨⟨rfl,hm⟩,rfl⟩:=zbr (c:=T = "ValueError" ∧ c∈cs) hz
      exact ⟨rfl,.inr ⟨_,hm,rfl⟩⟩
     | cons _ _=>exact zqn hz
    | _=>exact zqn hz
  | _=>exact zqn hz
theorem zhd {cs:List Str}(hv:∀ c∈cs,∀ C,PySem.W.nsIn X.K mainGlobals c=some (some (.ref C))→PySem.W.subIn X.K (.ref C) (.type "ValueError")=some true):zat X (.builtin "isinstance") (rDA X.K (zen cs)):=by
 rintro pins s σ H xs us Q I r ⟨F,ds,z,sF,id,hz,q⟩
 have typ:∀ {a C:Addr},F a=some (ExcO C a)→∀ M,PySem.W.Looks M s.heap (typeOf (.ref a)) (.ref C):=fun {a C} h M=>by
  obtain ⟨⟨o,ho,hc⟩,_⟩:=I.hok a _ (sF _ _ h)
  rw [← hc]
  exact (PySem.W.Looks.ld (M:=M) ho).andThen .now
 obtain ⟨rfl,⟨c,rfl⟩|⟨c,hm,rfl⟩⟩:=zfY hz
 ·refine zc2c (zem id) fun v1 v2 zr2 i1 i2 => ?_
  obtain rfl:=zr2
  refine zc2c r.two fun u1 u2 zr2 ra rb => ?_
  obtain rfl:=zr2
  refine zc2c (IsD.exc_iff.mp i1) fun a C zr2 hC hF => ?_
  obtain rfl:=zr2
  refine zc1b (IsD.ucl_iff.mp i2) fun C' zr1 hC' => ?_
  obtain rfl:=zr1
  rw [hC] at hC'
  cases hC'
  obtain rfl:u1=Value.ref a:=ra
  obtain rfl:u2=Value.ref C:=rb
  exact PySem.W.isi_call I.kIn (typ hF) (by unfold PySem.W.isIn;simp) (by intro e;cases e) ⟨.bl true,H,I,rfl,q _ F H (.refl sF) (IsD.bl_iff.mpr rfl)⟩
 ·refine zc2c (zem id) fun v1 v2 zr2 i1 i2 => ?_
  obtain rfl:=zr2
  refine zc2c r.two fun u1 u2 zr2 ra rb => ?_
  obtain rfl:=zr2
  refine zc2c (IsD.exc_iff.mp i1) fun a C zr2 hC hF => ?_
  obtain rfl:=zr2
  obtain rfl:=IsD.ty_iff.mp i2
  obtain rfl:u1=Value.ref a:=ra
  obtain rfl:u2=Value.type "ValueError" := rb
  exact zg4 (by intro e;cases e) (typ hF _) (PySem.W.looks_subIn I.kIn (hv c hm C hC)) rfl ⟨.bl true,H,I,rfl,q _ F H (.refl sF) (IsD.bl_iff.mpr rfl)⟩
end
end L2.DL
namespace L2
open PySem PySem.Spec PyProof.Rows
section
variable {X:Cx}{tg:Expr}
theorem zfT {e:Expr}{lo hi:Option Expr}{p2 pos:Pos}{te:TE}{tl th:TO}(he:PE X e te)(hl:PO X lo tl)(hu:PO X hi th) :
 PE X (.Subscript e (.Slice lo hi none p2) pos) (fun σ H Q=>te σ H fun x H1=>tl σ H1 fun l H2=>th σ H2 fun u H3 => ∃ z,x=.str z∧z.length≤sizeLine∧Q (.str (Txt.slice z l u)) H3):=by
 intro pins s σ H Q I h
 refine Subscript_ (thn (he pins s σ H _ I h) fun v s1 zh => ?_)
 obtain ⟨x,H1,I1,r1,q1⟩:=zh
 refine wpAny_Slice (thn (hl pins s1 σ H1 _ I1 q1) fun vl s2 ⟨l,H2,I2,pl,q2⟩=>thn (hu pins s2 σ H2 _ I2 q2) fun vu s3 zh => ?_)
 obtain ⟨u,H3,I3,pu,q3⟩:=zh
 obtain ⟨z,rfl,hz,q⟩:=q3
 obtain ⟨t,rfl⟩:=r1
 rw [evalPart_none]
 refine wpAny_pure ?_
 have I5:Inv X pins σ H3 { s3 with heap:=s3.heap.push { cls:=.type "slice",data:=.fields #[vl,vu,.none] } }:=I3.kept (t':=s3.toks) fun b ob q=>Heap.get?_push_of_some _ q
 show wpAny (model X.prog X.w) X.A (subscriptTail e (.Slice lo hi none p2) (.str z t) (.ref s3.heap.objs.size)) (EP X pins σ Q) X.xe { s3 with heap:=s3.heap.push { cls:=.type "slice",data:=.fields #[vl,vu,.none] } }
 suffices fin:wpAny (model X.prog X.w) X.A (getItem (.str z t) (.ref s3.heap.objs.size)) (EP X pins σ Q) X.xe { s3 with heap:=s3.heap.push { cls:=.type "slice",data:=.fields #[vl,vu,.none] } } by
  exact tail_any (ops:=[.ref s3.heap.objs.size,.str z t]) (typeIs_str _ z t) slot_str_getitem.lookup fin (by with_unfolding_all rfl)
 obtain ⟨l',hl'⟩:∃ l':Option (Int×Tok),vl=partValue l'∧l'.map (·.1)=l:=by
  cases pl with
  | none=>exact ⟨none,rfl,rfl⟩
  | int i t=>exact ⟨some (i,t),rfl,rfl⟩
 obtain ⟨u',hu'⟩:∃ u':Option (Int×Tok),vu=partValue u'∧u'.map (·.1)=u:=by
  cases pu with
  | none=>exact ⟨none,rfl,rfl⟩
  | int i t=>exact ⟨some (i,t),rfl,rfl⟩
 refine wpAny_getItem_str_slice (l:=l') (u:=u') (st:=none) ⟨_,Heap.get?_push_size _ rfl,rfl,by rw [hl'.1,hu'.1];rfl⟩ rfl ?_
 have le:=Txt.slice_le z l u
 have es:Txt.slice z l u=if ((1:Int) == 1&&(slicePicked z l' u' none).length == z.length)=true then z else ⟨((slicePicked z l' u' none).filterMap (z.cps[·]?)).toArray⟩:=by
  unfold Txt.slice slicePicked
  rw [hl'.2,hu'.2]
  rfl
 unfold sliceMade
 rw [es] at q le
 by_cases c:((1:Int) == 1&&(slicePicked z l' u' none).length == z.length)=true
 ·rw [if_pos c] at q
  have c':(((none:Option (Int×Tok)).map (·.1)).getD 1 == 1&&(slicePicked z l' u' none).length == z.length)=true:=c
  rw [if_pos c']
  exact ⟨.str z,H3,I5,⟨_,rfl⟩,q⟩
 ·rw [if_neg c] at q le
  have c':¬ (((none:Option (Int×Tok)).map (·.1)).getD 1 == 1&&(slicePicked z l' u' none).length == z.length)=true:=c
  rw [if_neg c']
  exact ⟨by omega,.str _,H3,I5.tok _,⟨_,rfl⟩,q⟩
end
end L2
namespace L2.DL
open PySem PySem.Spec PyProof.Rows
noncomputable def gStr:List D→Option D
 | [.int i]=>if Nat.ble i.natAbs.log2 1900 then some (.str (toString i)) else none
 | _=>none
noncomputable def gSlS:D→Option Int→Option Int→Option D
 | .str x,l,u=>if x.length≤sizeLine then some (.str (Txt.slice x l u)) else none
 | _,_,_=>none
def dSlS (fe:FE)(fl fh:FO):FE:=fun sd=>(fe sd).bind fun d=>(fl sd).bind fun l=>(fh sd).bind fun h=>.ofO (gSlS d l h)
@[simp] theorem ev_slS (fe:FE)(fl fh:FO)(sd:SD):dSlS fe fl fh sd=(fe sd).bind fun d=>(fl sd).bind fun l=>(fh sd).bind fun h=>.ofO (gSlS d l h):=rfl
section
variable {X:Cx}{E:XK}{tg e a b:Expr}{fe fa fb:FE}{lo hi:Option Expr}{p2 pos p:Pos}
theorem zj6:zat X (.type "str") (rDA X.K gStr):=zat.weak zda fun xs H Q zh=>by
 obtain ⟨F,ds,z,sF,id,hz,q⟩:=zh
 unfold gStr at hz
 split at hz
 ·rename_i i
  split at hz
  ·rename_i hl
   obtain rfl:=Option.some.inj hz
   obtain ⟨v1,r1,e1,i1,id⟩:=IsDs.cons_iff.mp id
   rw [IsDs.nil_iff] at id
   subst id e1
   exact ⟨i,by rw [IsD.int_iff.mp i1],Nat.lt_of_le_of_lt (Nat.ble_eq.mp hl) (by decide),q _ F H (.refl sF) (IsD.str_iff.mpr rfl)⟩
  ·exact zqn hz
 ·exact zqn hz
theorem zdI {fl fh:FO}(he:QE X E e fe)(hl:QO X E lo fl)(hu:QO X E hi fh):QE X E (.Subscript e (.Slice lo hi none p2) pos) (dSlS fe fl fh):=PE.weak (zfT he hl hu) fun σ H Q zh=>by
 obtain ⟨B,F,sd,r,n⟩:=zh
 refine ⟨B,F,sd,r,(Res.need_bind n).mono (fun d n1 v F1 H1 e1 i1 => ?_) fun _ _ q=>q⟩
 refine ⟨B,F1,sd,r.step e1,(Res.need_bind n1).mono (fun l n2 F2 H2 e2 => ?_) fun _ _ q=>q.ext e1⟩
 refine ⟨B,F2,sd,(r.step e1).step e2,(Res.need_bind n2).mono (fun h n3 F3 H3 e3 => ?_) fun _ _ q=>q.ext (e1.trans e2)⟩
 obtain ⟨z,hz,q⟩:=Res.need_ofO n3
 cases d with
 | str x =>
  have hz:(if x.length≤sizeLine then some (D.str (Txt.slice x l h)) else none)=some z:=hz
  split at hz
  ·rename_i hx
   obtain rfl:=Option.some.inj hz
   exact ⟨x,IsD.str_iff.mp i1,hx,q _ F3 H3 ((e1.trans e2).trans e3) (IsD.str_iff.mpr rfl)⟩
  ·exact zqn hz
 | _=>exact zqn hz
end
end L2.DL
namespace L2.DL
open PySem PySem.Spec PyProof.Rows
structure ClsD (K:PySem.W.Frag)(mg:Str→Option Value)(c:Str)(C:Addr)(fs:List Str):Prop where
 ns:PySem.W.nsIn K mainGlobals c=some (some (.ref C))
 mgc:mg c=some (.ref C)
 cls:Cls K C
 no:∀ f∈fs,zbH K C f
noncomputable def fldD (f:Str):List Str→List D→Option D
 | g::gs,d::ds=>if g=f then some d else fldD f gs ds
 | _,_=>none
theorem zgV {K:PySem.W.Frag}{H:Hp}{f:Str}:∀ {fs:List Str} {ds:List D} {xs:List V} {d:D},IsDs K H ds xs→fs.length=xs.length→fldD f fs ds=some d→∃ x,(fs.zip xs).lookup f=some x∧IsD K H d x
 | [],ds,xs,d,_,_,h=>by unfold fldD at h;exact zqn h
 | g::gs,[],xs,d,i,l,h=>by
  rw [IsDs.nil_iff] at i
  subst i
  cases l
 | g::gs,e::ds,xs,d,i,l,h=>by
  obtain ⟨x,r,rfl,i1,i2⟩:=IsDs.cons_iff.mp i
  unfold fldD at h
  rw [List.zip_cons_cons]
  by_cases q:g=f
  ·rw [if_pos q] at h
   obtain rfl:=Option.some.inj h
   have hb:(f == g)=true:=beq_iff_eq.mpr q.symm
   exact ⟨x,by simp only [List.lookup,hb],i1⟩
  ·rw [if_neg q] at h
   obtain ⟨y,h1,h2⟩:=zgV (fs:=gs) i2 (by simpa using l) h
   have hb:(f == g)=false:=beq_eq_false_iff_ne.mpr fun z=>q z.symm
   exact ⟨y,by simp only [List.lookup,hb];exact h1,h2⟩
def gFld (c f:Str):D→Option D
 | .ins c' fs ds=>if c'=c then fldD f fs ds else none
 | _=>none
section
variable {X:Cx}{E:XK}{e:Expr}{fe:FE}{pos:Pos}
theorem zco {c f:Str}{C:Addr}{fs:List Str}(k:ClsD X.K X.mg c C fs)(hf:f∈fs)(he:QE X E e fe)(hb:autoParam (attributeBase e f X.env (eval e X.env)=eval e X.env) zau._auto_1):QE X E (.Attribute e f pos) (dUn (gFld c f) fe):=PE.weak (zkk he hb) fun σ H Q zh=>by
 obtain ⟨B,F,sd,r,n⟩:=zh
 refine ⟨B,F,sd,r,(Res.need_bind n).mono (fun d n1 v F1 H1 e1 i1 => ?_) fun _ _ q=>q⟩
 obtain ⟨z,hz,q⟩:=Res.need_ofO n1
 cases d with
 | ins c' gs ds =>
  have hw:(if c'=c then fldD f gs ds else none)=some z:=hz
  by_cases hc:c'=c
  ·rw [if_pos hc] at hw
   subst hc
   obtain ⟨a,C',dx,xs,rfl,hC,hH,hl,hi⟩:=IsD.ins_iff.mp i1
   rw [k.ns] at hC
   cases hC
   obtain ⟨x,h1,h2⟩:=zgV hi hl hw
   exact ⟨a,C,dx,_,x,rfl,e1.fh _ _ hH,k.cls,k.no f hf,h1,q _ F1 H1 e1 h2⟩
  ·rw [if_neg hc] at hw
   exact zqn hw
 | _=>exact zqn hz
end
theorem zdY (f:Str)(v:V):∀ fs:List (Str×V),f∉fs.map (·.1)→putF f v fs=fs++[(f,v)]
 | [],_=>rfl
 | (g,x)::r,h=>by
  rw [List.map_cons,List.mem_cons,not_or] at h
  show (if g=f then (g,v)::r else (g,x)::putF f v r)=_
  rw [if_neg (fun z=>h.1 z.symm),zdY f v r h.2]
  rfl
theorem RS.startI {K:PySem.W.Frag}{F H:Hp}{N:List Str}{ds:List D}{us:List V}{x:Addr}(s:Same F H)(h:IsDs K F ds us) :
 RS K ⟨F,delH H x,fun _=>none⟩ F H (none::zaN N.length ds) (some (.ref x)::L2.start N us)∧∀ (i:Nat) (p:Bool) (d:D),(none::zaN N.length ds:SD)[i]? ≠ some (some (SV.own p d)):=by
 have r0:=RS.start (N:=N) s h
 have no:∀ (i:Nat) (p:Bool) (d:D),(none::zaN N.length ds:SD)[i]? ≠ some (some (SV.own p d)):=fun i p d q=>by
  cases i with
  | zero=>cases q
  | succ i =>
   obtain ⟨l,_,h2,_,h4,_⟩:=r0.own (i:=i) (p:=p) (d:=d) q
   obtain ⟨o,ho⟩:=h4.has
   have h2:H l=none:=h2
   rw [h2] at ho
   exact zqn ho
 refine ⟨⟨⟨.refl _,s,zfV,fun _ e _=>e⟩,by simp [r0.len],fun {i d} q => ?_,fun q=>absurd q (no _ _ _),fun _ q _ _=>absurd q (no _ _ _)⟩,no⟩
 cases i with
 | zero=>cases q
 | succ i=>exact r0.val (i:=i) q
def dMake (c:Str)(names:List Str)(Fn:List D→Res (List D))(fa:FA):FE:=fun sd=>(fa sd).bind fun ds=>(Fn ds).bind fun es=>.ok (.ins c names es)
def zj3 (K:PySem.W.Frag)(c qual:Str)(fs:List Str)(st:Stmt):Prop:=∃ C fI fdI,PySem.W.nsIn K mainGlobals c=some (some (.ref C))∧Cls K C∧(∀ f∈fs,zbH K C f)∧Mk K C fI∧Fun K "__init__" qual st fI fdI
end L2.DL
namespace L2.DL
open PySem PySem.Spec PyProof.Rows
noncomputable def zf2 (F F':Hp):Prop:=∀ a xs,F' a=some (.tup xs)→F a=some (.tup xs)
section
variable {K:PySem.W.Frag}{B:Bs}{F H F' H':Hp}{sd:SD}{σ : St}
theorem RS.frz1C {i:Nat}{p:Bool}{d:D}(r:RS K B F H sd σ)(hi:sd[i]? = some (some (.own p d))):∃ F',Same F F'∧zf2 F F'∧RS K B F' H (sd.set i (some (.val d))) σ := by
 obtain ⟨l,hl,h0,hf,ho,_⟩:=r.own hi
 obtain ⟨o,e⟩:=ho.has
 have hil:i<sd.length:=(List.getElem?_eq_some_iff.mp hi).1
 have sF:Same F (upd F l o):=zaH hf o
 have nt:zf2 F (upd F l o):=fun a xs q=>by
  by_cases z:a=l
  ·subst z
   rw [zak] at q
   obtain rfl:=Option.some.inj q
   cases d with
   | lst ds=>obtain ⟨_,h,_⟩:=ho;rw [e] at h;cases h
   | dct ks ds=>obtain ⟨_,h,_⟩:=ho;rw [e] at h;cases h
   | ins c fs ds=>obtain ⟨_,_,_,_,h,_⟩:=ho;rw [e] at h;cases h
   | _=>exact ho.elim
  ·rw [zai z] at q
   exact q
 refine ⟨upd F l o,sF,nt,⟨r.ext.ff.trans sF,fun b u q => ?_,r.ext.hh,fun a q1 q2 => ?_⟩,by rw [List.length_set,r.len],fun {j x} q => ?_,fun {j p x} q => ?_,fun {j k p1 p2 d1 d2 m} n q1 q2 q3 => ?_⟩
 ·by_cases z:b=l
  ·subst z;rw [zak] at q;cases q;exact e
  ·rw [zai z] at q;exact r.ext.fh _ _ q
 ·have z:a≠l:=fun z=>q2 (by rw [z];exact h0)
  rw [zai z]
  exact r.ext.new a q1 q2
 ·by_cases z:i=j
  ·subst z
   obtain ⟨e1,_⟩:=zaj q
   cases e1
   exact ⟨_,hl,ho.frz e hf⟩
  ·rw [zag z] at q
   obtain ⟨v,v1,v2⟩:=r.val q
   exact ⟨v,v1,IsD.same sF _ _ v2⟩
 ·by_cases z:i=j
  ·subst z
   obtain ⟨e1,_⟩:=zaj q
   cases e1
  ·rw [zag z] at q
   obtain ⟨m,m1,m2,m3,m4,m5⟩:=r.own q
   have ne:m≠l:=fun e=>r.apart z hi q hl (by rw [← e];exact m1)
   exact ⟨m,m1,m2,by rw [zai ne];exact m3,m4.ext sF fun u q'=>q',m5⟩
 ·have z1:i≠j:=fun z=>by subst z;obtain ⟨e1,_⟩:=zaj q1;cases e1
  have z2:i≠k:=fun z=>by subst z;obtain ⟨e1,_⟩:=zaj q2;cases e1
  rw [zag z1] at q1
  rw [zag z2] at q2
  exact r.apart n q1 q2 q3
theorem RS.frzC:∀ (is:List Nat) {F:Hp} {sd:SD},RS K B F H sd σ → ∃ F',Same F F'∧zf2 F F'∧RS K B F' H (frzD is sd) σ
 | [],F,sd,r=>⟨F,.refl _,fun _ _ q=>q,r⟩
 | i::is,F,sd,r=>by
  unfold frzD
  split
  ·rename_i p d h
   obtain ⟨F1,s1,t1,r1⟩:=r.frz1C h
   obtain ⟨F2,s2,t2,r2⟩:=RS.frzC is r1
   exact ⟨F2,s1.trans s2,fun a xs q=>t1 a xs (t2 a xs q),r2⟩
  ·exact RS.frzC is r
def zg2:D→Bool
 | .tup ds=>ds.all zfw
 | d=>zfw d
noncomputable def zcl (F H F2:Hp):Hp:=fun a=>match H a,F2 a with
 | none,some (.tup xs)=>some (.tup xs)
 | _,_=>F a
theorem IsDs.scals:∀ {ds:List D} {xs:List V},ds.all zfw=true→IsDs K F ds xs→IsDs K F' ds xs
 | [],xs,_,h=>by rw [IsDs.nil_iff] at h ⊢;exact h
 | d::ds,xs,s,h=>by
  obtain ⟨x,r,rfl,h1,h2⟩:=IsDs.cons_iff.mp h
  rw [List.all_cons,Bool.and_eq_true] at s
  exact IsDs.cons_iff.mpr ⟨x,r,rfl,h1.scal s.1,IsDs.scals s.2 h2⟩
theorem zfP {F1 F2 H2:Hp}(s:Same F H)(s1:Same F F1)(e:Ext F1 H F2 H2):Ext F H (zcl F H F2) H2:=by
 refine ⟨fun a o q => ?_,fun a o q => ?_,e.hh,fun a q1 q2 => ?_⟩
 ·unfold zcl
  rw [s _ _ q]
  exact q
 ·unfold zcl at q
  split at q
  ·rename_i h1 h2
   obtain rfl:=Option.some.inj q
   exact e.fh _ _ h2
  ·exact e.hh _ _ (s _ _ q)
 ·unfold zcl
  cases h:H a with
  | none=>exact absurd h q2
  | some o=>exact q1
theorem zgy {F1 F2 H2:Hp}(s:Same F H)(s1:Same F F1)(nt:zf2 F F1)(e:Ext F1 H F2 H2){d:D}{v:V}(hd:zg2 d=true)(i:IsD K F2 d v):IsD K (zcl F H F2) d v:=by
 cases d with
 | tup ds =>
  obtain ⟨a,xs,rfl,h1,h2⟩:=IsD.tup_iff.mp i
  refine IsD.tup_iff.mpr ⟨a,xs,rfl,?_,IsDs.scals hd h2⟩
  have h1:F2 a=some (.tup xs):=h1
  show zcl F H F2 a=some (.tup xs)
  unfold zcl
  cases h:H a with
  | none=>rw [h1]
  | some o =>
   show F a=some (.tup xs)
   cases q:F1 a with
   | none=>rw [e.new a q (by rw [h];simp)] at h1;exact zqn h1
   | some u =>
    have:=e.ff _ _ q
    rw [h1] at this
    obtain rfl:=Option.some.inj this
    exact nt _ _ q
 | _=>exact i.scal hd
theorem zdk {F1 F2 H2:Hp}(s:Same F H)(s1:Same F F1)(nt:zf2 F F1)(e:Ext F1 H F2 H2):∀ {ds:List D} {xs:List V},ds.all zg2=true→IsDs K F2 ds xs→IsDs K (zcl F H F2) ds xs
 | [],xs,_,h=>by rw [IsDs.nil_iff] at h ⊢;exact h
 | d::ds,xs,hd,h=>by
  obtain ⟨x,r,rfl,h1,h2⟩:=IsDs.cons_iff.mp h
  rw [List.all_cons,Bool.and_eq_true] at hd
  exact IsDs.cons_iff.mpr ⟨x,r,rfl,zgy s s1 nt e hd.1 h1,zdk s s1 nt e hd.2 h2⟩
def zhI:D→Bool
 | .lst ds=>ds.all zg2
 | _=>false
def zeS (is:List Nat)(f:FE):FE:=fun sd=>(f (frzD is sd)).bare.bind fun d=>if zhI d then .ok d else .no
theorem tmpN {fe:FE}{is:List Nat}{Q:VK}(h:tDN K E0 (zeS is fe) σ H Q):tDN K E0 fe σ H Q:=by
 obtain ⟨B,F,sd,r,n⟩:=h
 obtain ⟨F1,s1,nt,r1⟩:=r.frzC is
 refine ⟨B,F1,_,r1,(Res.need_bare r.ext.fh (Res.need_bind n)).mono (fun d n1 l F2 H2 e2 h1 h2 h3 => ?_) fun c fs q=>q⟩
 split at n1
 ·rename_i hs
  cases d with
  | lst ds =>
   obtain ⟨xs,g1,g2⟩:=h3
   refine n1 l (zcl F H F2) H2 (zfP r.ext.fh s1 e2) h1 ?_ ⟨xs,g1,zdk r.ext.fh s1 nt e2 hs g2⟩
   unfold zcl
   rw [h1,h2]
   cases q:F l with
   | none=>rfl
   | some o=>rw [r.ext.fh _ _ q] at h1;cases h1
  | _=>exact zqb hs
 ·exact n1.elim
end
section
variable {X:Cx}{m:Option Bool}{tg iter elt c:Expr}{scope:Scope}{pos spos py:Pos}{y:Str}{iy:Nat}{t:Tg}{fi:FA}{fc:FT}{f:FE}
theorem zdo (is:List Nat)(N:List Str)(cap:List (Option Nat))(hNN:X.N.Nodup)(hiy:X.N[iy]? = some y)(hyy:Loc X.env.scope y)(hc:X.calm=true)(okB:zaX scope X.env N X.N cap=true)(hi:QI X E0 tg iter fi)
 (hg:∀ cl C s H ex,QG (zap X scope N cl C s H ex) tg t) (he:∀ cl C s H ex,QE (zap X scope N cl C s H ex) E0 elt f) (hsw:autoParam (swapsWith (.ListComp elt [⟨tg,iter,[],0⟩] scope pos) (some (.Name y py)) spos.line X.env=pure true) zau._auto_1)
 (hyf:X.fn y=true∨X.env.scope.names.lookup y=some .local:=by first|exact .inl rfl|exact .inr rfl) (hs:∀ x,foldedSetIterable iter X.env x=pure x:=by intro _;rfl) :
 QS X E0 m (.Assign [.Name y py] (.ListComp elt [⟨tg,iter,[],0⟩] scope pos) spos) (sOwn iy (zeS is (zcm cap fi t f))):=by
 have hh:=zcu (g:=gT t X.K) (te:=tD X.K E0 f) hsw hNN hiy hyy hyf N cap hc okB hi hg he hs
 exact PS.weak hh fun T σ H h=>zii (fun _ _ _ q=>zcA (tmpN q)) h
end
abbrev FJ:=Str→SD→Res D
noncomputable def jNil:FJ:=fun acc _=>if acc.length≤sizeLine then .ok (.str acc) else .no
noncomputable def jCon (x:Str)(r:FJ):FJ:=fun acc sd=>if (acc++x).length≤sizeLine then r (acc++x) sd else .no
def jFv (g:D→Option Str)(fe:FE)(r:FJ):FJ:=fun acc sd=>(fe sd).bind fun d=>match g d with
 | some z=>if z.length≤sizeLine∧(acc++z).length≤sizeLine then r (acc++z) sd else .no
 | none=>.no
noncomputable def zin:D→Option Str
 | .str x=>some (reprText x)
 | _=>none
noncomputable def QJ (X:Cx)(E:XK)(es:List Expr)(f:FJ):Prop:=∀ (pins:List (Addr×Obj)) (s:Shared) (σ : St) (H:Hp) (acc:Str) (Q:VK),Inv X pins σ H s→tD X.K E (f acc) σ H Q →
 Joins (model X.prog X.w) X.A X.xe (evalEach es X.env) acc (fun out s1=>out.length≤sizeLine∧EP X pins σ Q (.str out s1.toks) { s1 with toks:=s1.toks+1 }) s
section
variable {X:Cx}{E:XK}{es:List Expr}{e:Expr}{fe:FE}{r:FJ}{x:Str}{p p1 p2 pos:Pos}{k}
theorem zjV:QJ X E [] jNil:=fun pins s σ H acc Q I zh=>by
 obtain ⟨B,F,sd,r,n⟩:=zh
 unfold jNil at n
 split at n
 ·rename_i h
  exact ⟨h,.str acc,H,I.tok _,⟨_,rfl⟩,n _ F H (.refl r.ext.fh) (IsD.str_iff.mpr rfl)⟩
 ·exact n.elim
theorem ziN (hr:QJ X E es r):QJ X E (.Constant (.str x) k p1::es) (jCon x r):=fun pins s σ H acc Q I zh=>by
 obtain ⟨B,F,sd,rs,n⟩:=zh
 unfold jCon at n
 split at n
 ·rename_i h
  show wpAny _ _ (eval (.Constant (.str x) k p1) X.env) _ _ s
  refine thn (zhf pins s σ H (fun y H1=>y=.str x∧H1=H) I ⟨rfl,rfl⟩) fun u s1 zh => ?_
  obtain ⟨y,H1,I1,r1,e1,e2⟩:=zh
  subst e1 e2
  obtain ⟨t1,rfl⟩:=r1
  exact ⟨x,t1,rfl,h,hr pins s1 σ H1 _ Q I1 ⟨B,F,sd,rs,n⟩⟩
 ·exact n.elim
theorem zhQ (he:QE X E e fe)(hr:QJ X E es r):QJ X E (.FormattedValue e 114 none p2::es) (jFv zin fe r):=fun pins s σ H acc Q I zh=>by
 obtain ⟨B,F,sd,rs,n⟩:=zh
 show wpAny _ _ (eval (.FormattedValue e 114 none p2) X.env) _ _ s
 refine wpAny_FormattedValue_repr (thn (he pins s σ H (fun y H1 => ∃ z:Str,y=.str z∧(reprText z).length≤sizeLine∧(acc++reprText z).length≤sizeLine∧tD X.K E (r (acc++reprText z)) σ H1 Q) I ⟨B,F,sd,rs,(Res.need_bind n).mono (fun d n1 y F1 H1 e1 i1 => ?_) fun _ _ q=>q⟩) fun u s1 ⟨y,H1,I1,r1,z,e1,l1,l2,q⟩ => ?_)
 ·cases d with
  | str z =>
   have n1:(if (reprText z).length≤sizeLine∧(acc++reprText z).length≤sizeLine then r (acc++reprText z) sd else .no).need (OkD X.K F H Q) (XW X.K E F H):=n1
   split at n1
   ·rename_i h
    exact ⟨z,IsD.str_iff.mp i1,h.1,h.2,B,F1,sd,rs.step e1,n1.mono (fun d q=>q.ext e1) fun _ _ q=>q.ext e1⟩
   ·exact n1.elim
  | _=>exact n1.elim
 ·subst e1
  obtain ⟨t1,rfl⟩:=r1
  refine wpAny_pyReprObj_str (wpAny_formatField_str ⟨_,_,rfl,l2,?_⟩ ⟨_,_,rfl,l2,?_⟩ l1) l1
  ·exact hr pins _ σ H1 _ Q (I1.tok _) q
  ·exact hr pins _ σ H1 _ Q ((I1.tok _).tok _) q
theorem ziU {a b:Expr}{f:FJ}(h:QJ X E (a::b::es) f):QE X E (.JoinedStr (a::b::es) pos) (f Str.empty):=fun pins s σ H Q I q=>wpAny_JoinedStr (h pins s σ H Str.empty Q I q)
end
end L2.DL
namespace L2
open PySem
theorem zbu {N P:List Str}{sc:Scope}(a:autoParam (sc.kind=.function) zau._auto_1)(b:autoParam (sc.isCoroutine=false) zau._auto_1)(c:autoParam (sc.isGenerator=false) zau._auto_1)(d:N.Nodup:=by decide +kernel)(e:N.take P.length=P:=by rfl)
 (f:∀ x∈P,sc.names.lookup x=some .local∨sc.names.lookup x=some .cell:=by decide +kernel) (g:∀ y∈sc.names,y.2 ≠ .free:=by decide +kernel):FnScope N P sc:=⟨a,b,c,d,e,f,g⟩
theorem zgS (N:List Str)(h:N.Nodup:=by decide +kernel):N.Nodup:=h
theorem pgn {X:Cx}{x:Str}{pos:Pos}(i:Nat)(hN:X.N.Nodup)(hi:autoParam (X.N[i]? = some x) zau._auto_1)(hx:Loc X.env.scope x:=by first|exact .inl rfl|exact .inr rfl)(hf:X.fn x=true∨X.env.scope.names.lookup x=some .local:=by first|exact .inl rfl|exact .inr rfl|assumption):PG X (.Name x pos) (zcT i):=zaY hN hi hx hf
section
variable {p:List Value→Prop}
theorem us1 (h:∀ a,p [a]):∀ us:List Value,us.length=1→p us:=fun us e=>by
 obtain ⟨a,rfl⟩:=List.length_eq_one_iff.mp e
 exact h a
theorem us2 (h:∀ a b,p [a,b]):∀ us:List Value,us.length=2→p us:=fun us e=>by
 cases us with
 | nil=>exact absurd e (by decide)
 | cons a us=>exact us1 (p:=fun us=>p (a::us)) (fun b=>h a b) us (Nat.succ.inj e)
theorem us3 (h:∀ a b c,p [a,b,c]):∀ us:List Value,us.length=3→p us:=fun us e=>by
 cases us with
 | nil=>exact absurd e (by decide)
 | cons a us=>exact us2 (p:=fun us=>p (a::us)) (fun b c=>h a b c) us (Nat.succ.inj e)
theorem us4 (h:∀ a b c d,p [a,b,c,d]):∀ us:List Value,us.length=4→p us
 | [a,b,c,d],_=>h a b c d
theorem us5 (h:∀ a b c d e,p [a,b,c,d,e]):∀ us:List Value,us.length=5→p us
 | [a,b,c,d,e],_=>h a b c d e
end
end L2
namespace L2
open PySem PySem.Spec PyProof.Rows Builtin Builtin.ObjectAttr Builtin.Getset_descriptor
section
variable {prog:Program}{w:World}{A:Around}{E:Value→Shared→Prop}{s:Shared}{K:PySem.W.Frag}{x C:Addr}{o:Obj}
structure ExcCl (K:PySem.W.Frag)(C:Addr):Prop where
 ga:PySem.W.findIn K (.ref C) "__getattribute__" = some (some (.builtin "BaseException.__getattribute__"))
 hook:PySem.W.findIn K (.ref C) "__getattr__" = some none
 cls:PySem.W.findIn K (.ref C) "__class__" = some (some (.builtin "object.__class__"))
 get:PySem.W.specialIn K (.builtin "object.__class__") "__get__" = some (some (.builtin "getset_descriptor.__get__"))
 sets:PySem.W.takesIn K (.builtin "object.__class__")=some true
 obj:PySem.W.mroIn K C (.type "object")=some true
 base:PySem.W.subIn K (.ref C) (.type "BaseException")=some true
 isC:PySem.W.hasDictIn K C=true
theorem zfv {Q:Option Value→Shared→Prop}(c:ExcCl K C)(X:K.In s.heap)(ho:s.heap.get? x=some o)(hc:o.cls=.ref C)(h:Q (some (.ref C)) { s with toks:=s.toks+1 }):wpAny (model prog w) A (getAttr? (.ref x) "__class__") Q E s:=by
 obtain ⟨hh,g,d,t,os⟩:=s
 have L0:PySem.W.Looks (model prog w) hh (typeOf (.ref x)) (.ref C):=hc ▸ (PySem.W.Looks.ld ho).andThen .now
 have L1:=PySem.W.looks_findIn (M:=model prog w) X c.ga
 have L2:=PySem.W.looks_findIn (M:=model prog w) X c.hook
 have L3:=PySem.W.looks_findIn (M:=model prog w) X c.cls
 have L4:=PySem.W.looks_specialIn (M:=model prog w) X c.get
 have L5:=PySem.W.looks_takesIn (M:=model prog w) X c.sets
 have L6:=PySem.W.looks_subIn (M:=model prog w) X c.base
 have L7:=PySem.W.looks_mroIn (M:=model prog w) X c.obj
 unfold getAttr? getAttrBy? getAttrBy
 refine wpAny_bind (wpAny_mkText (wpAny_bind (wpAny_attempt (wpAny_holding (wpAny_bind (L0.at (wpAny_bind (L1.at ?_))))))))
 have e2:(onTheHeap (Value.ref C)&&Value.builtin "BaseException.__getattribute__" == Value.builtin "object.__getattribute__")=false:=by
  rw [show (Value.builtin "BaseException.__getattribute__" == Value.builtin "object.__getattribute__")=false by decide +kernel];rfl
 dsimp only
 rw [e2]
 simp only [Bool.false_eq_true,if_false]
 unfold getAttrByItsOwn hookBefore
 have e3:onTheHeap (Value.ref C)=true:=rfl
 rw [e3]
 simp only [if_true]
 refine wpAny_bind (L2.at ?_)
 refine wpAny_bind (wpAny_attempt (wpAny_holding ?_))
 unfold callGetattribute
 simp only [Bool.false_and,Bool.false_eq_true,if_false]
 unfold boundAndCalled
 refine wpAny_bind (wpAny_of_eq (F.excAttr_ValueError.ga.bind (.ref x)) ?_)
 dsimp only
 have cg:∀ {A':Around} {R:Result→Shared→Prop} (t':Nat),R (.ok (.ret (.ref C))) ⟨hh,g,d,t',os⟩→codeAny (model prog w) A' (.call (.builtin "getset_descriptor.__get__") ⟨[.builtin "object.__class__",.ref x,.ref C],[]⟩) R ⟨hh,g,d,t',os⟩:=fun {A' R} t' hR=>by
  refine codeAny_call_builtin PySem.W.KF.slot_gs.plain PySem.W.KF.entry_gs (PySem.W.KF.slot_gs.check _ _ _ _ _ _ _ _ PySem.W.KF.type_class (PySem.W.KF.args_gs _ _ _) ?_)
  unfold Builtin.«getset_descriptor.__get__» descrGet
  rw [PySem.W.dga_obj]
  refine wpAny_bind (wpAny_pure ?_)
  unfold descrGetter descrCheckInstance descrNameAndClass isInstance
  simp only [PySem.W.KF.owner_class]
  repeat lk
  refine ⟨Code.quiet_builtin _ (by decide +kernel),codeAny_builtin PySem.W.KF.entry_class ?_⟩
  unfold Builtin.«object.__class__» shownTypeOf
  repeat lk
  exact hR
 refine wpAny_call (codeAny_call_builtin F.excAttr_ValueError.ga.plain F.entry_bexc_ga ?_)
 have ck:builtinKind "BaseException.__getattribute__" = some .slot:=by decide +kernel
 have sp:splitId "BaseException.__getattribute__" = some ("BaseException", "__getattribute__"):=by decide +kernel
 have ha:=F.args_bexc_ga (.ref x) (.str "__class__" t)
 show wpAny _ _ (checkBuiltinCall "BaseException.__getattribute__" ⟨[.ref x,.str "__class__" t],[]⟩) _ _ _
 simp only [checkBuiltinCall,ck,sp]
 refine wpAny_bind (m:=isInstance (.ref x) (.type "BaseException")) (PySem.W.Looks.at (L0.andThen L6) ?_)
 rw [if_neg (by decide)]
 unfold argsOk at ha
 refine wpAny_of_eq (a:=()) ha ?_
 show wpAny _ _ (Builtin.«object.__getattribute__» ⟨[.ref x,.str "__class__" t],[]⟩) _ _ _
 have L8:PySem.W.Looks (model prog w) hh (Builtin.ObjectAttr.find (.ref x) (.ref C) "__class__") (.bind (.builtin "getset_descriptor.__get__") (.builtin "object.__class__")):=by
  intro A' Q' E' s' k q
  unfold Builtin.ObjectAttr.find
  refine wpAny_bind (L3 A' _ E' s' k (wpAny_bind (m:=Builtin.ObjectAttr.getOf _) (L4 A' _ E' s' k ?_)))
  refine wpAny_bind (wpAny_bind (L5 A' _ E' s' k (wpAny_pure ?_)))
  exact wpAny_bind (wpAny_rule (wpAny_pure q))
 unfold Builtin.«object.__getattribute__»
 repeat (first|with_reducible refine wpAny_call (cg _ ?_)|lk)
 exact h
theorem zgq (c:ExcCl K C):PySem.W.KitX K (.ref x) (.ref C) (fun h => ∃ o,h.get? x=some o∧o.cls=.ref C) where
 ty:=fun M h _ ⟨o,ho,hc⟩=>hc ▸ (PySem.W.Looks.ld ho).andThen .now
 it:=fun M h X _=>by
  refine zc1b (PySem.W.any_some c.isC) fun cd hcd _ => ?_
  unfold PySem.W.clsIn at hcd
  split at hcd
  ·rename_i ho
   intro A' Q' E' s' k q
   unfold isType loadHead
   exact wpAny_bind (wpAny_loadPart (k _ _ (X _ _ ho)) (wpAny_pure q))
  ·exact zqn hcd
 ne:=fun h tp dd its n sl X htp=>by
  refine zc1b (PySem.W.any_some c.isC) fun cd hcd _ => ?_
  refine Bool.eq_false_iff.mpr fun q => ?_
  have e:C=tp:=Value.ref.inj (beq_iff_eq.mp q)
  subst e
  unfold PySem.W.clsIn at hcd
  split at hcd
  ·rename_i ho
   have z:=(X _ _ ho).symm.trans htp
   cases z
  ·exact zqn hcd
 ca:=fun X ⟨o,ho,hc⟩ k=>zfv c X ho hc k
structure NoSub (K:PySem.W.Frag)(C U:Addr):Prop where
 ne:Nat.beq C U=false
 sub:PySem.W.subIn K (.ref C) (.ref U)=some false
 ty:PySem.W.typeIn K (.ref U)=some (.type "type")
 dc:PySem.W.hasDictIn K U=true
theorem NoSub.one {K:PySem.W.Frag}{C U:Addr}(h:NoSub K C U):PySem.W.kitOne K (.ref C) (.ref U)=some false:=by
 refine zc1b (PySem.W.any_some h.dc) fun cd hcd _ => ?_
 have e:¬ (Value.ref C == Value.ref U)=true:=fun z=>by
  have z:C=U:=Value.ref.inj (beq_iff_eq.mp z)
  have:=h.ne
  rw [z,Nat.beq_refl] at this
  cases this
 unfold PySem.W.kitOne
 rw [if_neg e]
 show (if _ then _ else _)=_
 rw [if_pos (by rw [hcd,h.ty];rfl)]
 exact h.sub
end
end L2
namespace L2.DL
open PySem PySem.Spec PyProof.Rows
structure Ucl (K:PySem.W.Frag)(mg:Str→Option Value)(c:Str)(C:Addr):Prop where
 ns:PySem.W.nsIn K mainGlobals c=some (some (.ref C))
 mgc:mg c=some (.ref C)
noncomputable def zcY (cs us:List Str):List D→Option D
 | [.exc c,.tup ds] => @ite _ (c∈cs∧ds=us.map .ucl) (Classical.propDecidable _) (some (.bl false)) none
 | _=>none
theorem zeY {cs us:List Str}{c:Str}(h:c∈cs):zcY cs us [.exc c,.tup (us.map .ucl)]=some (.bl false):=@if_pos _ (Classical.propDecidable _) ⟨h,rfl⟩ _ _ _
theorem zdV {K:PySem.W.Frag}{F:Hp}{C:Addr}:∀ {us:List Str} {vs:List V} {ws:List Value},IsDs K F (us.map D.ucl) vs→Vals vs ws→(∀ u∈us,∀ U,PySem.W.nsIn K mainGlobals u=some (some (.ref U))→PySem.W.kitOne K (.ref C) (.ref U)=some false)→PySem.W.kitAny K (.ref C) ws=some false
 | [],vs,ws,i,r,_=>by
  rw [List.map_nil,IsDs.nil_iff] at i
  subst i
  cases r
  rfl
 | u::us,vs,ws,i,r,h=>by
  rw [List.map_cons,IsDs.cons_iff] at i
  obtain ⟨v,r',rfl,h1,h2⟩:=i
  obtain ⟨U,rfl,hU⟩:=IsD.ucl_iff.mp h1
  cases r with
  | cons ra r =>
   obtain rfl:=(show _=Value.ref U from ra)
   have e:=h u List.mem_cons_self U hU
   have ih:=zdV h2 r fun w hw=>h w (List.mem_cons_of_mem _ hw)
   unfold PySem.W.kitAny
   rw [e]
   exact ih
noncomputable def zjM (cs us:List Str)(ds:List D)(z:D):Prop:=∃ c,c∈cs∧ds=[.exc c,.tup (us.map .ucl)]∧z=.bl false
theorem ze3 {cs us:List Str}{ds:List D}{z:D}(hz:zcY cs us ds=some z):zjM cs us ds z:=by
 cases ds with
 | nil=>exact zqn hz
 | cons d ds =>
  cases d with
  | exc c =>
   cases ds with
   | nil=>exact zqn hz
   | cons e ds =>
    cases e with
    | tup es =>
     cases ds with
     | nil =>
      obtain ⟨⟨hm,rfl⟩,rfl⟩:=zbr (c:=c∈cs∧es=us.map .ucl) hz
      exact ⟨_,hm,rfl,rfl⟩
     | cons _ _=>exact zqn hz
    | _=>exact zqn hz
  | _=>exact zqn hz
theorem zio {X:Cx}{cs us:List Str}(he:∀ c∈cs,∀ C,PySem.W.nsIn X.K mainGlobals c=some (some (.ref C))→ExcCl X.K C)
 (hn:∀ c∈cs,∀ C,PySem.W.nsIn X.K mainGlobals c=some (some (.ref C))→∀ u∈us,∀ U,PySem.W.nsIn X.K mainGlobals u=some (some (.ref U))→PySem.W.kitOne X.K (.ref C) (.ref U)=some false):zat X (.builtin "isinstance") (rDA X.K (zcY cs us)):=by
 rintro pins s σ H xs ws Q I r ⟨F,ds,z,sF,id,hz,q⟩
 refine zc1c (ze3 hz) fun c hc zr2 zr3 => ?_
 obtain rfl:=zr2
 obtain rfl:=zr3
 refine zc2c (zem id) fun v1 v2 zr2 i1 i2 => ?_
 obtain rfl:=zr2
 refine zc2c r.two fun u1 u2 zr2 ra rb => ?_
 obtain rfl:=zr2
 refine zc2c (IsD.exc_iff.mp i1) fun a C zr2 hC hF => ?_
 obtain rfl:=zr2
 refine zc2c (IsD.tup_iff.mp i2) fun b ys zr2 t1 t2 => ?_
 obtain rfl:=zr2
 obtain rfl:u1=Value.ref a:=ra
 obtain rfl:u2=Value.ref b:=rb
 obtain ⟨⟨o,ho,hcl⟩,_⟩:=I.hok a _ (sF _ _ hF)
 refine zc0b ((show za4 X.prog X.w H s.heap b (.tup ys) from I.hok b _ (sF _ _ t1))) fun _ zz=>zc1b zz fun its rv zz=>zc1c zz fun ot h1 h2 zz=>zc1a zz fun n h3 => ?_
 obtain ⟨oc,od,oda,osl⟩:=ot
 simp only at h2 h3
 subst h2 h3
 exact PySem.W.kia_tup (zgq (he c hc C hC)) I.kIn ⟨o,ho,hcl⟩ h1 (zdV t2 rv fun u hu U hU=>hn c hc C hC u hu U hU) (fun z=>nomatch z) fun tk=>⟨.bl false,H,I.tok _,rfl,q _ F H (.refl sF) (IsD.bl_iff.mpr rfl)⟩
end L2.DL
namespace L2.DL
open PySem PySem.Spec PyProof.Rows
abbrev HP:=List (Addr×D)
noncomputable def hpAt:HP→Addr→Option D
 | [],_=>none
 | p::r,a=>if a=p.1 then some p.2 else hpAt r a
noncomputable def ze0:HP→Addr→D→HP
 | [],_,_ => []
 | p::r,a,d=>if a=p.1 then (p.1,d)::r else p::ze0 r a d
theorem zgr (a:Addr):hpAt [] a=none:=rfl
theorem zaJ (p:Addr×D)(r:HP)(a:Addr):hpAt (p::r) a=if a=p.1 then some p.2 else hpAt r a:=rfl
theorem zc4:∀ {hp:HP} {a:Addr} {d:D} (b:Addr),hpAt hp a≠none→hpAt (ze0 hp a d) b=if b=a then some d else hpAt hp b
 | [],a,d,b,h=>absurd rfl h
 | p::r,a,d,b,h=>by
  unfold ze0
  by_cases z:a=p.1
  ·rw [if_pos z,zaJ,zaJ]
   show (if b=p.1 then some d else _)=_
   rw [← z]
   by_cases y:b=a
   ·rw [if_pos y,if_pos y]
   ·rw [if_neg y,if_neg y,if_neg y]
  ·rw [if_neg z,zaJ,zaJ]
   rw [zaJ,if_neg z] at h
   rw [zc4 b h]
   by_cases y:b=p.1
   ·rw [if_pos y,if_pos y,if_neg fun x=>z (by rw [← x,y])]
   ·rw [if_neg y,if_neg y]
structure RT (K:PySem.W.Frag)(B B':Bs)(F H:Hp)(sd:SD)(hp:HP)(σ : St):Prop where
 rs:RS K B' F H sd σ
 f0:B'.F0=B.F0
 pa:B'.pa=B.pa
 out:∀ a,hpAt hp a=none→B'.H0 a=B.H0 a
 obj:∀ a d,hpAt hp a=some d→B.F0 a=none∧B.H0 a=none∧zbo K F B'.H0 a d
section
variable {K:PySem.W.Frag}{B B':Bs}{F F' H H':Hp}{sd sd':SD}{hp:HP}{σ σ':St}{a:Addr}{d:D}
theorem RT.sub (t:RT K B B' F H sd hp σ):Same B.H0 B'.H0:=fun a o e=>by
 cases q:hpAt hp a with
 | none=>rw [t.out a q];exact e
 | some d=>rw [(t.obj a d q).2.1] at e;exact zqn e
theorem RT.ext0 (t:RT K B B' F H sd hp σ){F2 H2:Hp}(e:Ext B'.F0 B'.H0 F2 H2):Ext B.F0 B.H0 F2 H2 :=
 ⟨by rw [← t.f0];exact e.ff,e.fh,t.sub.trans e.hh,fun a h0 h1=>e.new a (by rw [t.f0];exact h0) fun z=>h1 (zam t.sub z)⟩
theorem RT.go (t:RT K B B' F H sd hp σ)(s:Same F F')(r:RS K B' F' H' sd' σ'):RT K B B' F' H' sd' hp σ' :=
 ⟨r,t.f0,t.pa,t.out,fun a d h=>let ⟨h1,h2,h3⟩:=t.obj a d h;⟨h1,h2,h3.ext s fun _ q=>q⟩⟩
theorem RT.free (t:RT K B B' F H sd hp σ)(h:hpAt hp a=some d):F a=none:=by
 obtain ⟨h1,h2,h3⟩:=t.obj a d h
 obtain ⟨o,ho⟩:=h3.has
 exact t.rs.ext.new a (by rw [t.f0];exact h1) (by rw [ho];simp)
theorem RT.lies (t:RT K B B' F H sd hp σ)(h:hpAt hp a=some d):zbo K F H a d:=(t.obj a d h).2.2.ext (.refl _) fun o q=>t.rs.ext.hh _ _ q
theorem RT.no_own (t:RT K B B' F H sd hp σ)(h:hpAt hp a=some d){l:Addr}(hl:B'.H0 l=none):l≠a:=fun z=>by
 obtain ⟨o,ho⟩:=(t.obj a d h).2.2.has
 rw [← z,hl] at ho
 exact zqn ho
theorem RT.chg (t:RT K B B' F H sd hp σ){d':D}{o:HO}(ha:hpAt hp a=some d)(h:zbo K F (upd H a o) a d'):RT K B ⟨B'.F0,upd B'.H0 a o,B'.pa⟩ F (upd H a o) sd (ze0 hp a d') σ := by
 have hf:=t.free ha
 obtain ⟨b1,b2,b3⟩:=t.obj a d ha
 have hn:hpAt hp a≠none:=by rw [ha];simp
 refine ⟨⟨⟨t.rs.ext.ff,zc5 o t.rs.ext.fh hf,fun b u e => ?_,fun b h0 h1 => ?_⟩,t.rs.len,t.rs.val,fun {i p e} q => ?_,t.rs.apart⟩,t.f0,t.pa,fun b hb => ?_,fun b e hb => ?_⟩
 ·have e:upd B'.H0 a o b=some u:=e
  by_cases z:b=a
  ·subst z;rw [zak] at e ⊢;exact e
  ·rw [zai z] at e ⊢;exact t.rs.ext.hh _ _ e
 ·by_cases z:b=a
  ·rw [z];exact hf
  ·exact t.rs.ext.new b h0 fun y=>h1 (by show upd B'.H0 a o b=none;rw [zai z];exact y)
 ·obtain ⟨l,l1,l2,l3,l4,l5⟩:=t.rs.own q
  have ne:=t.no_own ha l2
  exact ⟨l,l1,(zai ne).trans l2,l3,l4.ext (.refl _) (fun u q'=>by rw [zai ne];exact q'),fun z=>(l5 z).mono fun u q'=>by rw [zai ne];exact q'⟩
 ·rw [zc4 b hn] at hb
  by_cases z:b=a
  ·rw [if_pos z] at hb;exact zqn hb.symm
  ·rw [if_neg z] at hb
   show upd B'.H0 a o b=B.H0 b
   rw [zai z]
   exact t.out b hb
 ·rw [zc4 b hn] at hb
  by_cases z:b=a
  ·rw [if_pos z] at hb
   obtain rfl:=Option.some.inj hb
   subst z
   exact ⟨b1,b2,h.ext (.refl _) fun u q=>by show upd B'.H0 b o b=some u;rw [zak] at q ⊢;exact q⟩
  ·rw [if_neg z] at hb
   obtain ⟨c1,c2,c3⟩:=t.obj b e hb
   exact ⟨c1,c2,c3.ext (.refl _) fun u q=>by show upd B'.H0 a o b=some u;rw [zai z];exact q⟩
end
section
variable {K:PySem.W.Frag}{B:Bs}{F H:Hp}{sd:SD}{hp:HP}{σ : St}
theorem zgA {α : Type}{l:List α}{i:Nat}{a : α}(h:l[i]? = some a):l.set i a=l:=by
 apply List.ext_getElem?
 intro j
 by_cases z:i=j
 ·subst z
  rw [List.getElem?_set_self (List.getElem?_eq_some_iff.mp h).1,h]
 ·rw [List.getElem?_set_ne z]
end
inductive Out2 where
 | next (sd:SD) (hp:HP)|ret (d:D)|brk (sd:SD) (hp:HP)|cont (sd:SD) (hp:HP)
def zeb (K:PySem.W.Frag)(m:Option Bool)(B:Bs)(F:Hp)(T:Ends):Out2→Prop
 | .next sd hp => ∀ σ B' F' H',Same F F'→RT K B B' F' H' sd hp σ → T.nx σ H'
 | .brk sd hp => ∀ σ B' F' H',Same F F'→RT K B B' F' H' sd hp σ → T.bk σ H'
 | .cont sd hp => ∀ σ B' F' H',Same F F'→RT K B B' F' H' sd hp σ → T.ct σ H'
 | .ret d=>ziZ K m B T.rt d
abbrev FS2:=SD→HP→Res Out2
def tDS2 (K:PySem.W.Frag)(E:XK)(m:Option Bool)(g:FS2):TS:=fun T σ H => ∃ B B' F sd hp,RT K B B' F H sd hp σ ∧ (g sd hp).need (zeb K m B F T) (XW K E B.F0 B.H0)
abbrev Q2S (X:Cx)(E:XK)(m:Option Bool)(st:Stmt)(g:FS2):Prop:=PS X st (tDS2 X.K E m g)
abbrev Q2Ss (X:Cx)(E:XK)(m:Option Bool)(st:List Stmt)(g:FS2):Prop:=PSs X st (tDS2 X.K E m g)
section
variable {K:PySem.W.Frag}{E:XK}{m:Option Bool}{B B':Bs}{F F' H:Hp}{T:Ends}{sd:SD}{hp:HP}{σ : St}
theorem zeb.mono {o:Out2}(h:zeb K m B F T o)(e:Same F F'):zeb K m B F' T o:=by
 cases o with
 | next sd hp=>exact fun σ B2 F2 H2 s r=>h σ B2 F2 H2 (e.trans s) r
 | brk sd hp=>exact fun σ B2 F2 H2 s r=>h σ B2 F2 H2 (e.trans s) r
 | cont sd hp=>exact fun σ B2 F2 H2 s r=>h σ B2 F2 H2 (e.trans s) r
 | ret d=>exact h
end
section
variable {X:Cx}{E:XK}{m:Option Bool}{st:Stmt}{sts:List Stmt}{g:FS}{g1 g2:FS2}{pos pos':Pos}{o i e:Expr}{fo fi fv:FE}
def zec (g1 g2:FS2):FS2:=fun sd hp=>(g1 sd hp).bind fun o=>match o with
 | .next sd' hp'=>g2 sd' hp'
 | o=>.ok o
theorem zjk (h:Q2S X E m st g1):Q2Ss X E m [st] g1:=zeV h
theorem zfa (h1:Q2S X E m st g1)(h2:Q2Ss X E m sts g2):Q2Ss X E m (st::sts) (zec g1 g2):=PSs.weak (zbP h1 h2) fun T σ H zh=>by
 obtain ⟨B,B',F,sd,hp,t,n⟩:=zh
 refine ⟨B,B',F,sd,hp,t,(Res.need_bind n).mono (fun o n1 => ?_) fun _ _ q=>q⟩
 cases o with
 | next sd' hp'=>exact fun σ' B2 F' H' s r'=>⟨B,B2,F',sd',hp',r',n1.mono (fun o q=>q.mono s) fun _ _ q=>q⟩
 | ret d=>exact n1
 | brk sd' hp'=>exact n1
 | cont sd' hp'=>exact n1
end
open Classical in
noncomputable def allA (n:Nat)(g:List Addr→Res Out):Res Out:=if h:∃ o,∀ as:List Addr,as.length=n→as.Nodup→g as=.ok o then .ok (Classical.choose h) else .no
theorem zih {n:Nat}{g:List Addr→Res Out}{o:Out}(h:∀ as:List Addr,as.length=n→as.Nodup→g as=.ok o):allA n g=.ok o:=by
 have hx:∃ o,∀ as:List Addr,as.length=n→as.Nodup→g as=.ok o:=⟨o,h⟩
 unfold allA
 rw [dif_pos hx]
 have h1:=Classical.choose_spec hx (List.range n) List.length_range List.nodup_range
 rw [h (List.range n) List.length_range List.nodup_range] at h1
 exact h1.symm
theorem zeN {n:Nat}{g:List Addr→Res Out}{p:Out→Prop}{q:Str→List D→Prop}(h:(allA n g).need p q)(as:List Addr)(hl:as.length=n)(hn:as.Nodup):(g as).need p q:=by
 unfold allA at h
 split at h
 ·rename_i hx
  rw [Classical.choose_spec hx as hl hn]
  exact h
 ·exact h.elim
def zca (K:PySem.W.Frag)(F H:Hp):List Addr→List D→Prop
 | [],ds=>ds=[]
 | a::as,ds => ∃ d r,ds=d::r∧zbo K F H a d∧zca K F H as r
theorem zca.len {K:PySem.W.Frag}{F H:Hp}:∀ {as:List Addr} {ds:List D},zca K F H as ds→as.length=ds.length
 | [],ds,h=>by rw [show ds=[] from h];rfl
 | a::as,ds,⟨d,r,h1,h2,h3⟩=>by rw [h1,List.length_cons,List.length_cons,h3.len]
theorem zca.at {K:PySem.W.Frag}{F H:Hp}:∀ {as:List Addr} {ds:List D},zca K F H as ds→∀ {a:Addr} {d:D},hpAt (as.zip ds) a=some d→a∈as∧zbo K F H a d
 | [],ds,h,a,d,q=>by cases q
 | b::as,ds,⟨e,r,h1,h2,h3⟩,a,d,q=>by
  subst h1
  rw [List.zip_cons_cons,zaJ] at q
  by_cases z:a=b
  ·rw [if_pos z] at q
   cases q
   rw [z]
   exact ⟨List.mem_cons_self,h2⟩
  ·rw [if_neg z] at q
   obtain ⟨m1,m2⟩:=h3.at q
   exact ⟨List.mem_cons_of_mem _ m1,m2⟩
theorem zb0:∀ {as:List Addr} {ds:List D} {a:Addr},as.length=ds.length→hpAt (as.zip ds) a=none→a∉as
 | [],ds,a,_,_=>by simp
 | b::as,[],a,h,_=>by cases h
 | b::as,d::ds,a,h,q=>by
  rw [List.zip_cons_cons,zaJ] at q
  by_cases z:a=b
  ·rw [if_pos z] at q;exact zqn q.symm
  ·rw [if_neg z] at q
   intro m
   rcases List.mem_cons.mp m with y|y
   ·exact z y
   ·exact zb0 (by simpa using h) q y
def OkNs (K:PySem.W.Frag)(F H:Hp)(Q:List V→Hp→Prop)(ds:List D):Prop:=∀ as F' H',Ext F H F' H'→as.Nodup→(∀ a∈as,H a=none∧F' a=none)→zca K F' H' as ds→Q (as.map .ref) H'
def tDNs (K:PySem.W.Frag)(E:XK)(f:FA):TA:=fun σ H Q => ∃ B F sd,RS K B F H sd σ ∧ (f sd).need (OkNs K F H Q) (XW K E F H)
abbrev QNs (X:Cx)(E:XK)(es:List Expr)(f:FA):Prop:=PA X es (tDNs X.K E f)
section
variable {X:Cx}{E:XK}{m:Option Bool}{pos pos':Pos}
theorem zjP:QNs X E [] dNil:=PA.weak zcP fun σ H Q ⟨B,F,sd,r,n⟩=>(show OkNs X.K F H Q [] from n) [] F H (.refl r.ext.fh) List.nodup_nil (fun a ha=>by cases ha) rfl
theorem zfe {e:Expr}{es:List Expr}{fe:FE}{fr:FA}(ha:QN X E e fe)(hr:QNs X E es fr)(hs:autoParam (starEach (e::es) X.env=(false,eval e X.env)::starEach es X.env) zau._auto_1):QNs X E (e::es) (zab fe fr) :=
 PA.weak (zbU ha hr hs) fun σ H Q zh=>by
  obtain ⟨B,F,sd,r,n⟩:=zh
  refine ⟨B,F,sd,r,(Res.need_bind n).mono (fun x n1 l F1 H1 e1 h1 h2 h3 => ?_) fun _ _ q=>q⟩
  refine ⟨B,F1,sd,r.step e1,(Res.need_bind n1).mono (fun xs n2 as F2 H2 e2 nd fr ow => ?_) fun _ _ q=>q.ext e1⟩
  obtain ⟨o,ho⟩:=h3.has
  have hl:l∉as:=fun z=>by have:=(fr l z).1;rw [ho] at this;cases this
  refine (show OkNs X.K F H Q (x::xs) from n2) (l::as) F2 H2 (e1.trans e2) (List.nodup_cons.mpr ⟨hl,nd⟩) (fun a ha => ?_) ⟨x,xs,rfl,h3.ext e2.ff fun u q=>e2.hh _ _ q,ow⟩
  rcases List.mem_cons.mp ha with z|z
  ·rw [z];exact ⟨h1,e2.new l h2 (by rw [ho];simp)⟩
  ·exact ⟨zam e1.hh (fr a z).1,(fr a z).2⟩
theorem zgZ {K:PySem.W.Frag}{F:Hp}:∀ as:List Addr,IsDs K F (as.map D.adr) (as.map V.ref)
 | []=>.nil
 | a::as=>.mk (IsD.adr_iff.mpr rfl) (zgZ as)
theorem zkq {K:PySem.W.Frag}{B:Bs}{F H F1 H1:Hp}{sd:SD}{σ : St}{as:List Addr}{ds:List D}(r:RS K B F H sd σ)(e1:Ext F H F1 H1)(fr:∀ a∈as,H a=none∧F1 a=none)(ow:zca K F1 H1 as ds) :
 RT K B ⟨B.F0,fun a=>if a∈as then H1 a else B.H0 a,B.pa⟩ F1 H1 sd (as.zip ds) σ := by
 have r1:=r.step e1
 have hl:=ow.len
 have new:∀ a∈as,B.H0 a=none:=fun a ha=>zam r.ext.hh (fr a ha).1
 refine ⟨⟨⟨r1.ext.ff,r1.ext.fh,fun b u e => ?_,fun b h0 h1 => ?_⟩,r1.len,r1.val,fun {i p d} q => ?_,r1.apart⟩,rfl,rfl,fun a ha => ?_,fun a d ha => ?_⟩
 ·have e:(if b∈as then H1 b else B.H0 b)=some u:=e
  split at e
  ·exact e
  ·exact r1.ext.hh _ _ e
 ·by_cases z:b∈as
  ·exact (fr b z).2
  ·have h1:(if b∈as then H1 b else B.H0 b)≠none:=h1
   rw [if_neg z] at h1
   exact r1.ext.new b h0 h1
 ·obtain ⟨l,l1,l2,l3,l4,l5⟩:=r.own q
  obtain ⟨l',l1',l2',l3',l4',l5'⟩:=r1.own q
  rw [l1] at l1'
  cases l1'
  have hn:l∉as:=fun z=>by
   obtain ⟨o,ho⟩:=l4.has
   rw [(fr l z).1] at ho
   exact zqn ho
  exact ⟨l,l1,by show (if l∈as then H1 l else B.H0 l)=none;rw [if_neg hn];exact l2,l3',l4',l5'⟩
 ·exact if_neg (zb0 hl ha)
 ·obtain ⟨m1,m2⟩:=ow.at ha
  exact ⟨zam r1.ext.ff (fr a m1).2,new a m1,m2.ext (.refl _) fun o q=>by show (if a∈as then H1 a else B.H0 a)=some o;rw [if_pos m1];exact q⟩
end
end L2.DL
namespace L2.DL
open PySem PySem.Spec PyProof.Rows
def Lent (K:PySem.W.Frag)(F H:Hp)(hp:HP):Prop:=∀ a d,hpAt hp a=some d→F a=none∧zbo K F H a d
theorem Lent.step {K:PySem.W.Frag}{F H F' H':Hp}{hp:HP}(h:Lent K F H hp)(e:Ext F H F' H'):Lent K F' H' hp:=fun a d q=>by
 obtain ⟨h1,h2⟩:=h a d q
 obtain ⟨o,ho⟩:=h2.has
 exact ⟨e.new a h1 (by rw [ho];simp),h2.ext e.ff fun u q=>e.hh _ _ q⟩
theorem Lent.upd {K:PySem.W.Frag}{F H:Hp}{hp:HP}{x:Addr}{o:HO}(h:Lent K F H hp)(hx:hpAt hp x=none):Lent K F (upd H x o) hp:=fun a d q=>by
 obtain ⟨h1,h2⟩:=h a d q
 have ne:a≠x:=fun z=>by rw [z,hx] at q;cases q
 exact ⟨h1,h2.ext (.refl _) fun u q=>by rw [zai ne];exact q⟩
theorem RT.lent {K:PySem.W.Frag}{B B':Bs}{F H:Hp}{sd:SD}{hp:HP}{σ : St}(t:RT K B B' F H sd hp σ):Lent K F H hp:=fun _ _ h=>⟨t.free h,t.lies h⟩
abbrev FE2:=SD→HP→Res D
abbrev FA2:=SD→HP→Res (List D)
def tDE2 (K:PySem.W.Frag)(E:XK)(f:FE2):TE:=fun σ H Q => ∃ B F sd hp,RS K B F H sd σ ∧ Lent K F H hp∧(f sd hp).need (OkD K F H Q) (XW K E F H)
abbrev Q2E (X:Cx)(E:XK)(e:Expr)(f:FE2):Prop:=PE X e (tDE2 X.K E f)
section
variable {X:Cx}{E:XK}{m:Option Bool}{a e o:Expr}{fe fa fo fv:FE}{f2:FE2}{pos p:Pos}
noncomputable def e2L (f:FE):FE2:=fun sd _=>f sd
theorem zgx (h:QE X E e fe):Q2E X E e (e2L fe):=PE.weak h (by rintro σ H Q ⟨B,F,sd,hp,r,_,n⟩;exact ⟨B,F,sd,r,n⟩)
def zby (f:FE):FE2:=fun sd hp=>(f sd).bind fun d=>match d with
 | .adr a=>match hpAt hp a with
  | some (.lst es)=>.ok (.lst es)
  | _=>.no
 | _=>.no
theorem zcE {x:Str}(ha:QE X E a fa)(hg:Gl X x)(hm:X.mg x=none)(hv:bootBuiltins x=some (.type "list"))(hn:autoParam (x ≠ "__name__") zav._auto_1)(hdb:autoParam ((x == ("__debug__" : Str))=false) zav._auto_1)
 (he:autoParam (starEach [a] X.env=(false,eval a X.env)::starEach [] X.env) zau._auto_1) (hpl:autoParam ((backTo pos (starEach [] X.env)).any (·.1)=false) zau._auto_1):Q2E X E (.Call (.Name x p) [a] [] pos) (zby fa) :=
 PE.weak (zbQ zbD hg hm hv (zbU ha zcP he) hn hdb he hpl) fun σ H Q zh=>by
  obtain ⟨B,F,sd,hp,r,ln,n⟩:=zh
  refine ⟨B,F,sd,r,(Res.need_bind n).mono (fun d n1 v F1 H1 e1 i1 => ?_) fun _ _ q=>q⟩
  split at n1
  ·rename_i b
   obtain rfl:=IsD.adr_iff.mp i1
   split at n1
   ·rename_i es hb
    obtain ⟨h1,xs,g1,g2⟩:=ln.step e1 b _ hb
    refine ⟨b,xs,rfl,.inl (SqL.of g1),fun q hq => ?_⟩
    exact n1.new q F1 _ (e1.trans (.keep e1.fh hq _)) (zam e1.hh hq) (zam e1.fh hq) ⟨xs,zak,g2⟩
   ·exact n1.elim
  ·exact n1.elim
def zfR (i:Nat)(f:FE2):FS2:=fun sd hp=>match sd[i]? with
 | some (some (.own false (.lst ds)))=>(f sd hp).bind fun d=>if ds.length<sizeLine then .ok (.next (sd.set i (some (.own false (.lst (ds++[d]))))) hp) else .no
 | _=>.no
theorem zfq {i:Nat}{apos cpos:Pos}(ho:PE X o (tVar i))(he:Q2E X E e f2)
 (hp:∀ {to:TE} {t:TA},PE X o to→PA X [e] t→PE X (.Call (.Attribute o "append" apos) [e] [] cpos) (tBM X.K "list" zcD to t))
 (hs:autoParam (swapsWith (.Call (.Attribute o "append" apos) [e] [] cpos) none pos.line X.env=pure false) zau._auto_1)
 (hst:autoParam (starEach [e] X.env=(false,eval e X.env)::starEach [] X.env) zau._auto_1):Q2S X E m (.Expr (.Call (.Attribute o "append" apos) [e] [] cpos) pos) (zfR i f2) :=
 PS.weak (zdy (hp ho (zbU he zcP hst)) hs) fun T σ H zh=>by
  obtain ⟨B,B',F,sd,hp,t,n⟩:=zh
  unfold zfR at n
  split at n
  ·rename_i ds hi
   obtain ⟨l,h1,h2,h3,⟨xs,h4,h5⟩,_⟩:=t.rs.own hi
   refine ⟨.ref l,h1,.inl ⟨rfl,xs,SqL.of h4⟩,B',F,sd,hp,t.rs,t.lent,(Res.need_bind n).mono (fun d n3 v F1 H1 e1 i1 => ?_) fun _ _ q=>q.ext (t.ext0 t.rs.ext)⟩
   split at n3
   ·rename_i hz
    have hl:=h5.length
    refine ⟨l,xs,v,rfl,rfl,e1.hh _ _ h4,by omega,?_⟩
    exact n3 σ B' F1 _ e1.ff (t.go e1.ff ((t.rs.step e1).chg hi h1 ⟨xs++[v],zak,(IsDs.same e1.ff _ _ h5).snoc i1⟩))
   ·exact n3.elim
  ·exact n.elim
def zcr (fo fv:FE):FS2:=fun sd hp=>(fo sd).bind fun o=>match o with
 | .adr a=>match hpAt hp a with
  | some (.lst es)=>(fv sd).bind fun v=>if es.length<sizeLine then .ok (.next sd (ze0 hp a (.lst (es++[v])))) else .no
  | _=>.no
 | _=>.no
theorem zga {apos cpos:Pos}(ho:QE X E o fo)(he:QE X E e fv)
 (hp:∀ {to:TE} {t:TA},PE X o to→PA X [e] t→PE X (.Call (.Attribute o "append" apos) [e] [] cpos) (tBM X.K "list" zcD to t))
 (hs:autoParam (swapsWith (.Call (.Attribute o "append" apos) [e] [] cpos) none pos.line X.env=pure false) zau._auto_1)
 (hst:autoParam (starEach [e] X.env=(false,eval e X.env)::starEach [] X.env) zau._auto_1):Q2S X E m (.Expr (.Call (.Attribute o "append" apos) [e] [] cpos) pos) (zcr fo fv) :=
 PS.weak (zdy (hp ho (zbU he zcP hst)) hs) fun T σ H zh=>by
  obtain ⟨B,B',F,sd,hp,t,n⟩:=zh
  refine ⟨B',F,sd,t.rs,(Res.need_bind n).mono (fun d n1 v F1 H1 e1 i1 => ?_) fun _ _ q=>q.ext (t.ext0 t.rs.ext)⟩
  split at n1
  ·rename_i a
   obtain rfl:=IsD.adr_iff.mp i1
   split at n1
   ·rename_i es ha
    have t1:=t.go e1.ff (t.rs.step e1)
    obtain ⟨xs,g1,g2⟩:=t1.lies ha
    refine ⟨.inl ⟨rfl,xs,SqL.of g1⟩,B',F1,sd,t1.rs,(Res.need_bind n1).mono (fun d2 n2 w F2 H2 e2 i2 => ?_) fun _ _ q=>q.ext (t.ext0 t1.rs.ext)⟩
    split at n2
    ·rename_i hz
     have hl:=g2.length
     have t2:=t1.go e2.ff (t1.rs.step e2)
     refine ⟨a,xs,w,rfl,rfl,e2.hh _ _ g1,by omega,?_⟩
     exact n2 σ _ F2 _ (e1.ff.trans e2.ff) (t2.chg ha ⟨xs++[w],zak,(IsDs.same e2.ff _ _ g2).snoc i2⟩)
    ·exact n2.elim
   ·exact n1.elim
  ·exact n1.elim
end
section
variable {K:PySem.W.Frag}{B B':Bs}{F H:Hp}{sd:SD}{hp:HP}{σ : St}
theorem RT.drop (t:RT K B B' F H sd hp σ):RS K B F H sd σ := ⟨t.ext0 t.rs.ext,t.rs.len,t.rs.val,fun q=>let ⟨l,l1,l2,l3,l4,l5⟩:=t.rs.own q;⟨l,l1,zam t.sub l2,l3,l4,fun z=>by rw [← t.pa];exact l5 z⟩,t.rs.apart⟩
theorem RS.unset {i:Nat}(r:RS K B F H sd σ):RS K B F H (sd.set i none) σ where
 ext:=r.ext
 len:=by rw [List.length_set,r.len]
 val:=fun {j e} q=>by
  by_cases z:i=j
  ·subst z
   obtain ⟨e1,_⟩:=zaj q
   cases e1
  ·rw [zag z] at q
   exact r.val q
 own:=fun {j p e} q=>by
  by_cases z:i=j
  ·subst z
   obtain ⟨e1,_⟩:=zaj q
   cases e1
  ·rw [zag z] at q
   exact r.own q
 apart:=fun {j k p1 p2 d1 d2 l} n q1 q2 q3=>by
  have z1:i≠j:=fun z=>by subst z;obtain ⟨e1,_⟩:=zaj q1;cases e1
  have z2:i≠k:=fun z=>by subst z;obtain ⟨e1,_⟩:=zaj q2;cases e1
  rw [zag z1] at q1
  rw [zag z2] at q2
  exact r.apart n q1 q2 q3
end
noncomputable def zjX (i:Nat):Out2→Res Out
 | .next sd _=>.ok (.next (sd.set i none))
 | .ret d=>.ok (.ret d)
 | _=>.no
def zel (i:Nat)(fr:FA)(g:FS2):FS:=fun sd=>(fr sd).bind fun ds=>if ds.length≤1000 then allA ds.length (fun as=>(g (sd.set i (some (.val (.lst (as.map .adr))))) (as.zip ds)).bind (zjX i)) else .no
section
variable {X:Cx}{E:XK}{m:Option Bool}{pos pos':Pos}
theorem zje {i:Nat}{x:Str}{p1:Pos}{es:List Expr}{fr:FA}{sts:List Stmt}{g:FS2}(hN:X.N.Nodup)(hi:X.N[i]? = some x)(hx:Loc X.env.scope x)(he:QNs X E es fr)(hb:Q2Ss X E m sts g)
 (hs:autoParam (swapsWith (.List es pos) (some (.Name x pos')) p1.line X.env=pure false) zau._auto_1) (hf:X.fn x=true∨X.env.scope.names.lookup x=some .local:=by first|exact .inl rfl|exact .inr rfl) :
 QSs X E m (.Assign [.Name x pos'] (.List es pos) p1::sts) (zel i fr g):=PSs.weak (zbP (zfy hN hi hx (zhg he) hs hf) hb) fun T σ H zh=>by
 obtain ⟨B,F,sd,r,n⟩:=zh
 refine ⟨B,F,sd,r,(Res.need_bind n).mono (fun ds n1 as F1 H1 e1 nd fr ow => ?_) fun _ _ q=>q.ext r.ext⟩
 split at n1
 ·rename_i hl
  have lw:=ow.len
  have n2:=Res.need_bind (zeN n1 as lw nd)
  refine ⟨zcq (by rw [List.length_map];omega),fun p hp => ?_⟩
  have r1:=zkq r e1 fr ow
  have ea:=Ext.alloc e1.fh hp (.lst (as.map V.ref))
  have r2:=r1.go ea.ff ((r1.rs.step ea).setVal (i:=i) (d:=.lst (as.map .adr)) (IsD.lst_iff.mpr ⟨p,_,rfl,.of zak,zgZ as⟩))
  refine ⟨B,_,_,_,_,r2,n2.mono (fun o n3 => ?_) fun _ _ q=>q⟩
  cases o with
  | ret d=>exact n3
  | next sd' hp'=>exact fun σ' B2 F2 H2 s2 t2=>n3 σ' F2 H2 ((e1.ff.trans ea.ff).trans s2) t2.drop.unset
  | _=>exact n3.elim
 ·exact n1.elim
end
open Classical in
noncomputable def allD (g:Addr→Res D):Res D:=if h:∃ o,∀ a,g a=.ok o then .ok (Classical.choose h) else .no
theorem zhE {g:Addr→Res D}{o:D}(h:∀ a,g a=.ok o):allD g=.ok o:=by
 have hx:∃ o,∀ a,g a=.ok o:=⟨o,h⟩
 unfold allD
 rw [dif_pos hx]
 have h1:=Classical.choose_spec hx 0
 rw [h 0] at h1
 exact h1.symm
theorem zfL {g:Addr→Res D}{p:D→Prop}{q:Str→List D→Prop}(h:(allD g).need p q)(a:Addr):(g a).need p q:=by
 unfold allD at h
 split at h
 ·rename_i hx
  rw [Classical.choose_spec hx a]
  exact h
 ·exact h.elim
def zgi (i:Nat)(f:FE2):FE:=fun sd=>match sd[i]? with
 | some (some (.own _ d))=>allD fun a=>f (sd.set i (some (.val (.adr a)))) [(a,d)]
 | _=>.no
theorem zj7 {X:Cx}{E:XK}{e:Expr}{f:FE2}{i:Nat}(h:Q2E X E e f):QE X E e (zgi i f):=PE.weak h fun σ H Q zh=>by
 obtain ⟨B,F,sd,r,n⟩:=zh
 unfold zgi at n
 split at n
 ·rename_i p d hi
  obtain ⟨l,h1,h2,h3,h4,_⟩:=r.own hi
  have r1:=r.setVal (i:=i) (d:=.adr l) (v:=.ref l) (IsD.adr_iff.mpr rfl)
  rw [zgA h1] at r1
  refine ⟨B,F,_,_,r1,fun a d' q => ?_,zfL n l⟩
  rw [zaJ,zgr] at q
  by_cases z:a=l
  ·rw [if_pos z] at q
   cases q
   rw [z]
   exact ⟨h3,h4⟩
  ·rw [if_neg z] at q
   cases q
 ·exact n.elim
def tI2 (K:PySem.W.Frag)(c:Str)(names:List Str)(g:FA2):TS:=fun T σ H => ∃ B F sd x C dx fs xs ds0 hp,RS K B F H sd σ ∧ (∀ (i:Nat) (p:Bool) (d:D),sd[i]? ≠ some (some (SV.own p d))) ∧ σ[0]? = some (some (.ref x))∧B.H0 x=none∧F x=none∧PySem.W.nsIn K mainGlobals c=some (some (.ref C))∧H x=some (.ins C dx (fs.zip xs))∧fs.length=xs.length∧(fs++names).Nodup∧(fs++names).length<900∧IsDs K F ds0 xs∧Lent K F H hp∧hpAt hp x=none ∧
 (g sd hp).need (fun ds => ∀ F' H' xs',Ext B.F0 B.H0 F' H'→F' x=none→H' x=some (.ins C dx ((fs++names).zip xs'))→(fs++names).length=xs'.length→IsDs K F' (ds0++ds) xs'→T.nx σ H') (XW K E0 B.F0 B.H0)
noncomputable def zdx:FA2:=fun _ _=>.ok []
def zbm (f:FE2)(g:FA2):FA2:=fun sd hp=>(f sd hp).bind fun d=>(g sd hp).bind fun ds=>.ok (d::ds)
section
variable {X:Cx}{o e:Expr}{fe:FE2}{g:FA2}{pos pos':Pos}{ss:List Stmt}{c f:Str}{C:Addr}{fs names:List Str}
theorem zeJ:PSs X [] (tI2 X.K c [] zdx):=PSs.weak zf1 fun T σ H zh=>by
 obtain ⟨B,F,sd,x,C,dx,fs,xs,ds0,hp,r,no,h0,h1,h2,hC,hH,hl,hn,hm,hi,ln,hx,n⟩:=zh
 have n:∀ F' H' xs',Ext B.F0 B.H0 F' H'→F' x=none→H' x=some (.ins C dx ((fs++[]).zip xs'))→(fs++[]).length=xs'.length→IsDs X.K F' (ds0++[]) xs'→T.nx σ H':=n
 simp only [List.append_nil] at n
 exact n F H xs r.ext h2 hH hl hi
theorem zbN (k:ClsD X.K X.mg c C fs)(hf:f∈fs)(ho:PE X o (tVar 0))(he:Q2E X E0 e fe)(hr:PSs X ss (tI2 X.K c names g))(hs:autoParam (swapsWith e (some (.Attribute o f pos')) pos.line X.env=pure false) zau._auto_1) :
 PSs X (.Assign [.Attribute o f pos'] e pos::ss) (tI2 X.K c (f::names) (zbm fe g)):=PSs.weak (zbP (zjA ho he hs) hr) fun T σ H zh=>by
 obtain ⟨B,F,sd,x,C',dx,gs,xs,ds0,hp,r,no,h0,h1,h2,hC,hH,hl,hn,hm,hi,ln,hx,n⟩:=zh
 refine ⟨B,F,sd,hp,r,ln,(Res.need_bind n).mono (fun d n1 v F1 H1 e1 i1 => ?_) fun _ _ q=>q.ext r.ext⟩
 have c1:C'=C:=by
  rw [k.ns] at hC
  cases hC
  rfl
 subst c1
 have hH1:=e1.hh _ _ hH
 have hF1:F1 x=none:=e1.new x h2 (by rw [hH];simp)
 have lz:(gs.zip xs).map (·.1)=gs:=by rw [List.map_fst_zip (by omega)]
 have hfn:f∉gs:=fun z=>by
  have:=(List.nodup_append.mp hn).2.2 f z f (List.mem_cons_self ..)
  exact this rfl
 have ll:(gs.zip xs).length<1000:=by
  rw [List.length_zip]
  simp at hm
  omega
 refine ⟨.ref x,h0,x,C',dx,_,rfl,hH1,k.cls,k.no f hf,ll,?_⟩
 rw [zdY f v _ (by rw [lz];exact hfn)]
 have ez:gs.zip xs++[(f,v)]=(gs++[f]).zip (xs++[v]):=by rw [List.zip_append hl];rfl
 rw [ez]
 have r1:=r.step e1
 have hi1:IsDs X.K F1 (ds0++[d]) (xs++[v]):=IsDs.snoc (IsDs.same e1.ff _ _ hi) i1
 refine ⟨B,F1,sd,x,C',dx,gs++[f],xs++[v],ds0++[d],hp,⟨⟨r1.ext.ff,fun a o e => ?_,fun a o e => ?_,r1.ext.new⟩,r1.len,r1.val,fun q=>absurd q (no _ _ _),fun _ q _ _=>absurd q (no _ _ _)⟩,no,h0,h1,hF1,hC,zak,by simp [hl],by simpa using hn,by simpa using hm,hi1,(ln.step e1).upd hx,hx,(Res.need_bind n1).mono (fun ds n2 F2 H2 xs2 e2 f2 q1 q2 q3 => ?_) fun _ _ q=>q⟩
 ·rw [zai (zan e hF1)]
  exact r1.ext.fh _ _ e
 ·rw [zai (zan e h1)]
  exact r1.ext.hh _ _ e
 ·exact n2 F2 H2 xs2 e2 f2 (by simpa using q1) (by simpa using q2) (by simpa using q3)
end
def SpI2 (K:PySem.W.Frag)(c:Str)(names:List Str)(Fn:List D→HP→Res (List D)):Sp:=fun vs H Q _ => ∃ F ds x C dx us hp,Same F H∧vs=.ref x::us∧IsDs K F ds us∧F x=none∧PySem.W.nsIn K mainGlobals c=some (some (.ref C))∧H x=some (.ins C dx [])∧Lent K F H hp∧hpAt hp x=none ∧
 (Fn ds hp).need (fun es => ∀ F' H' xs,Ext F (delH H x) F' H'→F' x=none→H' x=some (.ins C dx (names.zip xs))→names.length=xs.length→IsDs K F' es xs→Q .non H') (XW K E0 F (delH H x))
def zdn (n ar:Nat)(g:FA2)(ds:List D)(hp:HP):Res (List D):=if ds.length+1=ar then g (none::zaN (n-1) ds) hp else .no
section
variable {P:Program}{w:World}{K:PySem.W.Frag}{mg:Str→Option Value}{base:Heap}{x qual:Str}{st:Stmt}{f:Addr}{fd:FuncData}{N ps:List Str}{k:Nat}
theorem zjm {c y:Str}{names:List Str}{g:FA2}(F:Fun K x qual st f fd)(S:FnScope (y::N) ps (zah st))(hn:names.Nodup)(hm:names.length<900)
 (hb:∀ (cdv:Value) (A:Around) (outer:List Env) (s:Shared) (H:Hp) (E:XK),Room k (A.deeper (envOfC qual (zah st) s.heap.objs.size f cdv))→PSs (cxOf CX0 P w K mg base (y::N) qual (zah st) f cdv A outer s H E).nox (zaL st) (tI2 K c names g)) :
 FnOk P w K mg base CX0 (k+1) f fd ps (SpI2 K c names (zdn (y::N).length ps.length g)):=by
 refine F.ok S (fun vs H Q E ⟨F,ds,x,C,dx,us,hp,_,e,i,_,_,_,_,_,n⟩ => ?_) fun cdv A outer s H vs Q E hr ⟨F,ds,x,C,dx,us,hp,hs,e,i,hf,hC,hH,ln,hx,n⟩=>⟨_,hb cdv A outer s H E hr,?_⟩
 ·unfold zdn at n
  split at n
  ·rename_i h
   rw [e,← h,List.length_cons,i.length]
  ·exact n.elim
 ·subst e
  unfold zdn at n
  split at n
  ·have es:L2.start (y::N) (.ref x::us)=some (.ref x)::L2.start N us:=by
    unfold L2.start
    simp
   rw [es]
   obtain ⟨r,no⟩:=RS.startI (N:=N) (x:=x) hs i
   exact ⟨_,F,_,x,C,dx,[],[],[],hp,r,no,rfl,zhK,hf,hC,hH,rfl,hn,hm,.nil,ln,hx,n⟩
  ·exact n.elim
end
def MkD2 (P:Program)(w:World)(K:PySem.W.Frag)(mg:Str→Option Value)(base:Heap)(c:Str)(names:List Str)(k:Nat)(ps:List Str)(Fn:List D→HP→Res (List D)):Prop :=
 ∃ C f fd,ClsD K mg c C names∧Mk K C f∧FnOk P w K mg base CX0 k f fd ps (SpI2 K c names Fn)∧zbV K fd ps []
def zbR (c:Str)(names:List Str)(Fn:List D→HP→Res (List D))(fa:FA):FE2:=fun sd hp=>(fa sd).bind fun ds=>(Fn ds hp).bind fun es=>.ok (.ins c names es)
section
variable {X:Cx}{pos:Pos}
theorem zd9 {c:Str}{names:List Str}{k:Nat}{ps:List Str}{Fn:List D→HP→Res (List D)}{p:Pos}{e:Expr}{es:List Expr}{fa:FA}(M:MkD2 X.prog X.w X.K X.mg X.base c names k ps Fn)(hr:Room (k+1) X.A)(hg:Gl X c)(ha:QA X E0 (e::es) fa)
 (hdb:autoParam ((c == ("__debug__" : Str))=false) zav._auto_1) (he:starEach (e::es) X.env=(false,eval e X.env)::starEach es X.env:=by rfl) (hpl:(backTo pos (starEach es X.env)).any (·.1)=false:=by rfl) :
 Q2E X E0 (.Call (.Name c p) (e::es) [] pos) (zbR c names Fn fa):=by
 obtain ⟨C,f,fd,kd,mk,F,b⟩:=M
 refine PE.weak (zi3 mk F hr hg kd.mgc b .nil zkl ha hdb he hpl) fun σ H Q zh => ?_
 obtain ⟨B,F,sd,hp,r,ln,n⟩:=zh
 refine ⟨B,F,sd,r,(Res.need_bind n).mono (fun ds n1 vs F1 H1 e1 i1 x dx nx ndx ne => ?_) fun _ _ q=>q⟩
 have n2:=Res.need_bind n1
 have hF1:F1 x=none:=by
  cases q:F1 x with
  | none=>rfl
  | some o=>rw [e1.fh _ _ q] at nx;cases nx
 have hH0:H x=none:=by
  cases q:H x with
  | none=>rfl
  | some o=>rw [e1.hh _ _ q] at nx;cases nx
 have s1:∀ {G:Hp},Same G H1→Same G (delH (upd (upd H1 dx (.own x)) x (.ins C dx [])) x):=fun {G} s a o q=>by
  have q1:=s _ _ q
  rw [zhp (zan q1 nx),zai (zan q1 nx),zai (zan q1 ndx)]
  exact q1
 have s2:Same F1 (upd (upd H1 dx (.own x)) x (.ins C dx [])):=fun a o q=>by
  have q1:=e1.fh _ _ q
  rw [zai (zan q1 nx),zai (zan q1 ndx)]
  exact q1
 have ed:Ext F H F1 (delH (upd (upd H1 dx (.own x)) x (.ins C dx [])) x):=⟨e1.ff,s1 e1.fh,s1 e1.hh,e1.new⟩
 have ln1:=ln.step e1
 have no:∀ y,H1 y=none→hpAt hp y=none:=fun y hy=>by
  cases q:hpAt hp y with
  | none=>rfl
  | some d =>
   obtain ⟨o,ho⟩:=(ln1 y d q).2.has
   rw [hy] at ho
   cases ho
 rw [List.append_nil]
 refine ⟨F1,ds,x,C,dx,vs,hp,s2,rfl,i1,hF1,kd.ns,zak,(ln1.upd (no _ ndx)).upd (no _ nx),no _ nx,n2.mono (fun es n3 F2 H2 xs e2 f2 h2 l2 i2=>⟨rfl,?_⟩) fun _ _ q=>q.ext ed⟩
 exact n3.new x F2 H2 (ed.trans e2) hH0 f2 ⟨C,dx,xs,kd.ns,h2,l2,i2⟩
end
end L2.DL
set_option maxHeartbeats 4000000
namespace My
open PySem L2 L2.DL
noncomputable def mixF (cell salt:Int):Int:=((cell % 2147483647+salt)*48271 % 2147483647)*((cell % 2147483647+salt)*48271 % 2147483647) % 2147483629
noncomputable def zi5 (ns:List Int)(k:Int):Int:=ns.getD k.toNat 0
theorem zhj:plN 12 (.lst [])=true:=rfl
theorem zhY (r:List Int):plN 12 (.lst (r.map D.int))=true:=by
 show (r.map D.int).all (plN 11)=true
 rw [List.all_map,List.all_eq_true]
 exact fun p _=>rfl
theorem zbF {α : Type}(f : α → D)(l:List α):zaB (.lst (l.map f)) (.lst [])=l.isEmpty:=by
 cases l with
 | nil=>exact zaE _
 | cons x r=>exact zc7.mpr fun h=>by injection h with h;(first|exact zqn h|exact zqb h|(obtain rfl:=Option.some.inj h)|cases h)
theorem zb8 {α : Type}{l:List α}{k:Nat}(h:k<l.length):atI l (k:Int)=l[k]? := by
 unfold atI ixN
 rw [if_pos (by omega),if_pos (by omega),Int.toNat_natCast]
 rfl
theorem zgf {α : Type}{f : α → D}{l:List α}{i:Nat}{x:D}(h:(l.map f)[i]? = some x):∃ p,l[i]? = some p∧x=f p:=by
 rw [List.getElem?_map] at h
 cases q:l[i]? with
 | none=>rw [q] at h;(first|exact zqn h|exact zqb h|(obtain rfl:=Option.some.inj h)|cases h)
 | some p=>rw [q] at h;exact ⟨p,rfl,(Option.some.inj h).symm⟩
structure RowOk (n:Int)(r:List (Int×Int)):Prop where
 ne:r ≠ []
 once:Once r
 mem:∀ p∈r,0≤p.1∧p.1<n
 len:r.length≤12
def frD (f:List (List (Int×Int))):D:=.lst (f.map rwD)
@[simp] theorem gList_fr (f:List (List (Int×Int))):zcp [frD f]=some (frD f):=rfl
@[simp] theorem walkS_fr (f:List (List (Int×Int))):ze9 (frD f)=some (f.map rwD):=rfl
@[simp] theorem walkS_rw (r:List (Int×Int)):ze9 (rwD r)=some (r.map prD):=rfl
@[simp] theorem gLen_fr (f:List (List (Int×Int))):gLen [frD f]=some (.int f.length):=by show some (D.int (f.map rwD).length)=_;rw [List.length_map]
@[simp] theorem zht (f:List (List (Int×Int))):gIsi [frD f,.ty "list"]=some (.bl true):=rfl
@[simp] theorem zhk (f:List (Int×Int)):gIsi [rwD f,.ty "tuple"]=some (.bl true):=rfl
@[simp] theorem zha (p:Int×Int):gIsi [prD p,.ty "tuple"]=some (.bl true):=rfl
@[simp] theorem gLen_pr (p:Int×Int):gLen [prD p]=some (.int 2):=rfl
@[simp] theorem gIx_pr0 (p:Int×Int):gIx (prD p) (.int 0)=some (.int p.1):=rfl
@[simp] theorem gIx_pr1 (p:Int×Int):gIx (prD p) (.int 1)=some (.int p.2):=rfl
theorem pl_rw (n:Nat)(r:List (Int×Int)):plN (n+3) (rwD r)=true:=by
 show (r.map prD).all (plN (n+2))=true
 rw [List.all_map,List.all_eq_true]
 exact fun p _=>rfl
structure FormOk (n:Int)(f:List (List (Int×Int))):Prop where
 ne:f ≠ []
 rows:∀ r∈f,RowOk n r
 len:f.length≤100
noncomputable def Rise (r:List (Int×Int)):Prop:=(r.map (·.1)).Pairwise (· < ·)
theorem zfH {α : Type}(l:List α){k:Int}(h0:0≤k):zaM l none (some k) none=l.take k.toNat:=by
 have e:sliceBounds none (some k) none l.length=(((0:Nat):Int),((min k.toNat l.length:Nat):Int),1):=by
  unfold sliceBounds
  simp only [Option.getD_none]
  simp
  omega
 unfold zaM
 rw [e]
 show (sliceRange _ _ 1).filterMap _=_
 have p:=pick_run l.toArray 0 (min k.toNat l.length-0)
 rw [sliceRange_one]
 have ep:(fun x:Nat=>l[x]?)=fun x:Nat=>l.toArray[x]? := by funext x;simp
 rw [ep,p]
 simp
theorem zfr {α : Type}{f : α → Bool}{l:List α}{i:Nat}{p : α}(h:∀ q∈l.take i,f q=false)(hp:l[i]? = some p)(hf:f p=true):l.find? f=some p:=by
 have hi:=(List.getElem?_eq_some_iff.mp hp).1
 have e:l=l.take i++(p::l.drop (i+1)):=by
  have e1:l.drop i=p::l.drop (i+1):=by
   rw [List.drop_eq_getElem_cons hi]
   congr 1
   exact (List.getElem?_eq_some_iff.mp hp).2
  rw [← e1,List.take_append_drop]
 rw [e,List.find?_append,List.find?_eq_none.mpr fun q hq=>by rw [h q hq];simp]
 simp [hf]
structure ThingsOk (ts:List Int):Prop where
 ne:ts ≠ []
 len:ts.length≤4
 rng:∀ t∈ts,0≤t∧t<12
 up:ts.Pairwise (· < ·)
theorem zf9 {r:List (Int×Int)}(h:Rise r):Once r:=by
 unfold Rise at h
 unfold Once List.Nodup
 exact h.imp fun h e=>by omega
structure Over (f:List (List (Int×Int)))(hs:List Int):Prop where
 ne:f ≠ []
 rne:∀ r∈f,r ≠ []
 once:∀ r∈f,Once r
 bnd:∀ r∈f,∀ p∈r,0≤p.1∧p.1<(hs.length:Int)
structure RoundOk (n:Int)(fs:List (List (List (Int×Int)))):Prop where
 len:(fs.length:Int)=n
 low:1≤n
 most:n≤12
 forms:∀ f∈fs,FormOk n f
theorem RoundOk.over {n:Int}{fs:List (List (List (Int×Int)))}(R:RoundOk n fs){hs:List Int}(h:hs.length=fs.length):∀ f∈fs,Over f hs:=fun f hf=>⟨(R.forms f hf).ne,fun r hr=>((R.forms f hf).rows r hr).ne,fun r hr=>((R.forms f hf).rows r hr).once,fun r hr p hp=>by
 have:=((R.forms f hf).rows r hr).mem p hp
 have:=R.len
 omega⟩
def rdD (fs:List (List (List (Int×Int)))):D:=.lst (fs.map frD)
@[simp] theorem walkS_rd (fs:List (List (List (Int×Int)))):ze9 (rdD fs)=some (fs.map frD):=rfl
open L2.ST
structure PairsOk (ts:List Int)(r:List (Int×Int)):Prop where
 ne:r ≠ []
 len:r.length≤4
 mem:∀ p∈r,p.1∈ts
 up:r.Pairwise fun p q=>p.1<q.1
theorem zh2 {r:List (Int×Int)}(h:r.Pairwise fun p q=>p.1<q.1):Once r:=by
 unfold Once List.Nodup
 rw [List.pairwise_map]
 exact h.imp fun h e=>by omega
theorem PairsOk.row {ts:List Int}{r:List (Int×Int)}(T:ThingsOk ts)(P:PairsOk ts r):RowOk 12 r:=⟨P.ne,zh2 P.up,fun p hp=>T.rng _ (P.mem p hp),Nat.le_trans P.len (by omega)⟩
structure JRow (r:List (Int×Int)):Prop where
 ne:r ≠ []
 rise:Rise r
 bnd:∀ p∈r,0≤p.1∧p.1<12
theorem JRow.once {r:List (Int×Int)}(h:JRow r):Once r:=zf9 h.rise
theorem JRow.len {r:List (Int×Int)}(h:JRow r):r.length≤12:=by
 have up:(r.map (·.1)).Pairwise (· < ·):=h.rise
 have key:∀ (l:List Int) (a:Int),l.Pairwise (· < ·)→(∀ x∈l,a≤x∧x<12)→(l.length:Int)≤max 0 (12-a):=by
  intro l
  induction l with
  | nil=>intro a _ _;simp;omega
  | cons x l ih =>
   intro a hp hb
   rw [List.pairwise_cons] at hp
   have h1:=hb x List.mem_cons_self
   have:=ih (x+1) hp.2 fun y hy=>⟨by have:=hp.1 y hy;omega,(hb y (List.mem_cons_of_mem _ hy)).2⟩
   rw [List.length_cons]
   omega
 have:=key _ 0 up fun x hx=>by
  refine zc1b (List.mem_map.mp hx) fun p hp zr2 => ?_
  obtain rfl:=zr2
  exact h.bnd p hp
 rw [List.length_map] at this
 omega
noncomputable def asc (x:Str):Prop:=x.cps.all (· < 128)=true
theorem zbf {x:Str}:asc x↔∀ c∈x.cps.toList,c<128:=by
 unfold asc
 rw [← Array.all_toList,List.all_eq_true]
 exact ⟨fun h c hc=>of_decide_eq_true (h c hc),fun h c hc=>decide_eq_true (h c hc)⟩
theorem zc8 (a b:Str):(a++b).length=a.length+b.length:=Array.size_append
theorem zaP (a b:Str):(a++b).cps.toList=a.cps.toList++b.cps.toList:=Array.toList_append
theorem zic {a b:Str}(ha:asc a)(hb:asc b):asc (a++b):=zbf.mpr fun c hc=>by
 rw [zaP] at hc
 rcases List.mem_append.mp hc with h|h
 ·exact zbf.mp ha c h
 ·exact zbf.mp hb c h
theorem zgd {x:Str}{l u:Option Int}{c:Nat}(h:c∈(Txt.slice x l u).cps.toList):c∈x.cps.toList:=by
 unfold Txt.slice at h
 split at h
 ·exact h
 ·obtain ⟨i,_,hi⟩:=List.mem_filterMap.mp h
  exact Array.mem_toList_iff.mpr (Array.mem_of_getElem? hi)
theorem zeD {x:Str}{l u:Option Int}(h:asc x):asc (Txt.slice x l u):=zbf.mpr fun c hc=>zbf.mp h c (zgd hc)
structure TxtOk (n:Nat)(x:Str):Prop where
 len:x.length≤n
 asc:asc x
theorem TxtOk.app {m n:Nat}{a b:Str}(ha:TxtOk m a)(hb:TxtOk n b):TxtOk (m+n) (a++b):=⟨by rw [zc8];have:=ha.len;have:=hb.len;omega,zic ha.asc hb.asc⟩
theorem TxtOk.cut {n:Nat}{a:Str}(ha:TxtOk n a)(l u:Option Int):TxtOk n (Txt.slice a l u):=⟨Nat.le_trans (Txt.slice_le a l u) ha.len,zeD ha.asc⟩
theorem TxtOk.mono {m n:Nat}{a:Str}(ha:TxtOk m a)(h:m≤n):TxtOk n a:=⟨Nat.le_trans ha.len h,ha.asc⟩
theorem zjJ {c:Nat}(h:c<128):TxtOk 1 ⟨#[c]⟩:=⟨Nat.le_refl _,zbf.mpr fun d hd=>by rw [List.mem_singleton.mp hd];exact h⟩
theorem zaK {n:Nat}{x:Str}(h:(decide (x.length≤n)&&x.cps.all (· < 128))=true):TxtOk n x:=by
 rw [Bool.and_eq_true] at h
 exact ⟨of_decide_eq_true h.1,h.2⟩
theorem za6 {m n:Nat}{a b:Str}(ha:TxtOk m a)(hb:TxtOk n b)(h:m+n≤1000):gAdd (.str a) (.str b)=some (.str (a++b)):=if_pos (zcq (by have:=ha.len;have:=hb.len;omega))
theorem zfG {n:Nat}{a:Str}(ha:TxtOk n a)(h:n≤1000)(l u:Option Int):gSlS (.str a) l u=some (.str (Txt.slice a l u)):=if_pos (zcq (by have:=ha.len;omega))
theorem zil {n:Nat}{a:Str}{k:Int}(ha:TxtOk n a)(h:n≤1000)(k0:0≤k)(k1:k<(a.length:Int)):∃ c,gIx (.str a) (.int k)=some (.str ⟨#[c]⟩)∧a.cps.toList[k.toNat]? = some c∧c<128:=by
 have hl:k.toNat<a.cps.toList.length:=by
  rw [Array.length_toList]
  have:a.length=a.cps.size:=rfl
  omega
 refine ⟨a.cps.toList[k.toNat],?_,List.getElem?_eq_getElem hl,zbf.mp ha.asc _ (List.getElem_mem hl)⟩
 show (if a.length≤sizeLine then (atI a.cps.toList k).map fun c=>D.str ⟨#[c]⟩ else none)=_
 rw [if_pos (zcq (by have:=ha.len;omega))]
 have e:atI a.cps.toList k=some a.cps.toList[k.toNat]:=by
  unfold atI ixN
  rw [if_pos k0,if_pos (by rw [Array.length_toList];exact k1)]
  exact List.getElem?_eq_getElem hl
 rw [e]
 rfl
theorem zig {l:List D}{k:Int}(k0:0≤k)(k1:k<(l.length:Int)):∃ d∈l,atI l k=some d:=by
 have hl:k.toNat<l.length:=by omega
 refine ⟨l[k.toNat],List.getElem_mem hl,?_⟩
 unfold atI ixN
 rw [if_pos k0,if_pos k1]
 exact List.getElem?_eq_getElem hl
theorem zeq:TxtOk 26 "abcdefghijklmnopqrstuvwxyz" := zaK (by decide +kernel)
theorem zd5:(("abcdefghijklmnopqrstuvwxyz" : Str).length:Int)=26:=by decide +kernel
theorem zgB:∀ k:Fin 64,(Nat.ble (k.val:Int).natAbs.log2 1900=true)∧(decide ((toString (k.val:Int):Str).length≤2)&&(toString (k.val:Int):Str).cps.all (· < 128))=true:=by decide +kernel
noncomputable def letF (k:Nat):Str:=⟨#[97+k]⟩
def zbI (k:Nat):Str:=letF (k % 26)++letF (k / 26 % 26)
noncomputable def digF (k:Nat):Str:=(toString (k:Int):Str)
def nmF (q:Int)(base:Str)(k:Nat):Str:=if q=0 then "x" ++ base++digF k else if q=1 then "y" ++ digF k++base else if q=2 then "q" ++ base++zbI k else zbI k ++ "q" ++ base
theorem zeh:∀ k:Fin 26,(("abcdefghijklmnopqrstuvwxyz" : Str).cps.toList)[k.val]? = some (97+k.val):=by decide +kernel
theorem zbw {k:Int}(k0:0≤k)(k1:k<26):gIx (.str "abcdefghijklmnopqrstuvwxyz") (.int k)=some (.str (letF k.toNat)):=by
 obtain ⟨c,h1,h2,_⟩:=zil zeq (by omega) k0 (by rw [zd5];exact k1)
 have h3:=zeh ⟨k.toNat,by omega⟩
 rw [h2] at h3
 rw [h1,Option.some.inj h3]
 rfl
theorem zdF {k:Nat}(h:k<64):gStr [.int (k:Int)]=some (.str (digF k))∧TxtOk 2 (digF k):=by
 obtain ⟨h1,h2⟩:=zgB ⟨k,h⟩
 exact ⟨if_pos h1,zaK h2⟩
theorem zcv {k:Nat}(h:k<26):TxtOk 1 (letF k):=zjJ (by omega)
theorem zfz (k:Nat):TxtOk 2 (zbI k):=(zcv (Nat.mod_lt _ (by omega))).app (zcv (Nat.mod_lt _ (by omega)))
theorem zhC {q:Int}{base:Str}{k:Nat}(h:k<64)(hb:TxtOk 9 base):TxtOk 12 (nmF q base k):=by
 have okx:TxtOk 1 "x" := zaK (by decide +kernel)
 have oky:TxtOk 1 "y" := zaK (by decide +kernel)
 have okq:TxtOk 1 "q" := zaK (by decide +kernel)
 have ok:=(zdF h).2
 have oksp:=zfz k
 unfold nmF
 repeat' split
 ·exact ((okx.app hb).app ok).mono (by omega)
 ·exact ((oky.app ok).app hb).mono (by omega)
 ·exact ((okq.app hb).app oksp).mono (by omega)
 ·exact ((oksp.app okq).app hb).mono (by omega)
noncomputable def low (x:Str):Prop:=∀ c∈x.cps.toList,97≤c∧c<123
theorem zia {a b:Str}(ha:low a)(hb:low b):low (a++b):=fun c hc=>by
 rw [zaP] at hc
 rcases List.mem_append.mp hc with h|h
 ·exact ha c h
 ·exact hb c h
theorem zhn {k:Nat}(h:k<26):low (letF k):=fun c hc=>by
 rw [List.mem_singleton.mp hc]
 omega
@[simp] theorem run_d5 (n:Nat)(g:FS)(a b c d e:D):runD n 5 g [a,b,c,d,e]=(g (some (.val a)::some (.val b)::some (.val c)::some (.val d)::some (.val e)::List.replicate (n-5) none)).bind outV:=zg1 n 5 g [a,b,c,d,e] rfl
structure Pl where
 name:Str
 givens:List Str
 rows:List (Str×Str×List (Int×Int))
def rowD (r:Str×Str×List (Int×Int)):D:=.tup [.str r.1,.str r.2.1,rwD r.2.2]
def zas (p:Pl):D:=.tup [.str p.name,.lst (p.givens.map .str),.lst (p.rows.map rowD)]
def zar (p:Pl):D:=.ins "Plan" ["name", "givens", "rows"] [.str p.name,.lst (p.givens.map .str),.lst (p.rows.map rowD)]
def zbn (ps:List Pl):D:=.ins "Book" ["plans"] [.lst (ps.map zar)]
noncomputable def prtD (p:Str×Int):D:=.tup [.str p.1,.int p.2]
structure ItOk (ahead:Int)(its:List (Int×Int)):Prop where
 rng:∀ p∈its,0≤p.1∧p.1<ahead
 far:∀ p∈its,-1000000000000000000000000000000<p.2∧p.2<1000000000000000000000000000000
@[simp] theorem gIx_row0 (r:Str×Str×List (Int×Int)):gIx (rowD r) (.int 0)=some (.str r.1):=rfl
@[simp] theorem gIx_row1 (r:Str×Str×List (Int×Int)):gIx (rowD r) (.int 1)=some (.str r.2.1):=rfl
@[simp] theorem gIx_row2 (r:Str×Str×List (Int×Int)):gIx (rowD r) (.int 2)=some (rwD r.2.2):=rfl
@[simp] theorem zji (p:Pl):gIx (zas p) (.int 0)=some (.str p.name):=rfl
@[simp] theorem zkf (p:Pl):gIx (zas p) (.int 1)=some (.lst (p.givens.map .str)):=rfl
@[simp] theorem ziQ (p:Pl):gIx (zas p) (.int 2)=some (.lst (p.rows.map rowD)):=rfl
@[simp] theorem gIx_prt0 (p:Str×Int):gIx (prtD p) (.int 0)=some (.str p.1):=rfl
@[simp] theorem gIx_prt1 (p:Str×Int):gIx (prtD p) (.int 1)=some (.int p.2):=rfl
@[simp] theorem zj1 (ps:List Pl):gFld "Book" "plans" (zbn ps)=some (.lst (ps.map zar)):=rfl
@[simp] theorem fld_name (p:Pl):gFld "Plan" "name" (zar p)=some (.str p.name):=rfl
@[simp] theorem ziB (p:Pl):gFld "Plan" "givens" (zar p)=some (.lst (p.givens.map .str)):=rfl
@[simp] theorem fld_rows (p:Pl):gFld "Plan" "rows" (zar p)=some (.lst (p.rows.map rowD)):=rfl
noncomputable def zbk (ps:List Pl):List (Str×Int):=ps.map fun p=>(p.name,(p.givens.length:Int))
noncomputable def HowOk (parts:List (Str×Int))(how:Str)(n:Nat):Prop:=how = "all" ∨ how = "first" ∨ (how,(n:Int))∈parts
structure RwOk (parts:List (Str×Int))(ahead:Int)(r:Str×Str×List (Int×Int)):Prop where
 how:HowOk parts r.2.1 r.2.2.length
 its:ItOk ahead r.2.2
 low:1≤r.2.2.length
 top:r.2.2.length≤40
theorem zb2 {n:Nat}{x:Str}(h:asc x):plN (n+1) (.str x)=true:=by
 show PyData.strOk x=true
 unfold PyData.strOk
 rw [← Array.all_toList,List.all_eq_true]
 exact fun c hc=>decide_eq_true (Nat.lt_trans (zbf.mp h c hc) (by omega))
noncomputable def zdB (parts:List (Str×Int)):Prop:=∀ p∈parts,TxtOk 12 p.1∧1≤p.2∧p.2≤12
theorem zi2 (n:Nat){l:List (Str×Int)}(h:zdB l):plN (n+3) (.lst (l.map prtD))=true:=by
 show (l.map prtD).all (plN (n+2))=true
 rw [List.all_eq_true]
 intro x hx
 obtain ⟨y,hy,rfl⟩:=List.mem_map.mp hx
 show [D.str y.1,D.int y.2].all (plN (n+1))=true
 rw [List.all_cons,zb2 (h y hy).1.asc]
 rfl
theorem ziq {α : Type}{f : α → D}{l:List α}(h:plN 12 (.lst (l.map f))=true):gNe (.lst (l.map f)) (.lst [])=some (.bl (!l.isEmpty)):=by
 rw [zfJ h zhj,zbF]
theorem zhu {α : Type}{f : α → D}{l:List α}(h:plN 12 (.lst (l.map f))=true):gEq (.lst (l.map f)) (.lst [])=some (.bl l.isEmpty):=by
 rw [zdQ h zhj,zbF]
theorem zhh {α : Type}{f : α → D}{l:List α}{k:Int}(k0:0≤k)(k1:k<(l.length:Int)):∃ x∈l,atI (l.map f) k=some (f x):=by
 obtain ⟨d,hd,e⟩:=zig (l:=l.map f) (k:=k) k0 (by rw [List.length_map];exact k1)
 obtain ⟨x,hx,rfl⟩:=List.mem_map.mp hd
 exact ⟨x,hx,e⟩
theorem zeM:((List.range 60).map fun k=>(digF k).cps.toList).Nodup:=by decide +kernel
theorem zdM:((List.range 60).map fun k=>(zbI k).cps.toList).Nodup:=by decide +kernel
theorem zb1 {α : Type}{f:Nat → α}{n:Nat}(h:((List.range n).map f).Nodup){a b:Nat}(ha:a<n)(hb:b<n)(e:f a=f b):a=b:=by
 have h:=List.pairwise_iff_getElem.mp (List.pairwise_map.mp h)
 rcases Nat.lt_trichotomy a b with z|z|z
 ·exact absurd (by rw [List.getElem_range,List.getElem_range];exact e) (h a b (by rw [List.length_range];exact ha) (by rw [List.length_range];exact hb) z)
 ·exact z
 ·exact absurd (by rw [List.getElem_range,List.getElem_range];exact e.symm) (h b a (by rw [List.length_range];exact hb) (by rw [List.length_range];exact ha) z)
theorem zjq {q:Int}{base:Str}{a b:Nat}(ha:a<60)(hb:b<60)(e:nmF q base a=nmF q base b):a=b:=by
 have h:(nmF q base a).cps.toList=(nmF q base b).cps.toList:=by rw [e]
 unfold nmF at h
 split at h
 ·simp only [zaP,List.append_cancel_left_eq] at h
  exact zb1 zeM ha hb h
 ·split at h
  ·simp only [zaP,List.append_cancel_left_eq,List.append_cancel_right_eq] at h
   exact zb1 zeM ha hb h
  ·split at h
   ·simp only [zaP,List.append_cancel_left_eq] at h
    exact zb1 zdM ha hb h
   ·simp only [zaP,List.append_cancel_right_eq] at h
    exact zb1 zdM ha hb h
theorem zgu (q:Int)(base:Str){n:Nat}(h:n≤60):((List.range n).map (nmF q base)).Nodup:=by
 rw [List.nodup_iff_pairwise_ne,List.pairwise_map]
 refine List.Pairwise.imp_of_mem (fun {a b} ma mb hn e=>hn ?_) (List.nodup_iff_pairwise_ne.mp List.nodup_range)
 exact zjq (by have:=List.mem_range.mp ma;omega) (by have:=List.mem_range.mp mb;omega) e
noncomputable def zhO (l:List Nat):Bool:=l[0]? == some 120||l[0]? == some 121||l[0]? == some 113||l[2]? == some 113
theorem zea (q:Int)(base:Str)(k:Nat):zhO (nmF q base k).cps.toList=true:=by
 have hx:("x" : Str).cps.toList=[120]:=by decide +kernel
 have hy:("y" : Str).cps.toList=[121]:=by decide +kernel
 have hq:("q" : Str).cps.toList=[113]:=by decide +kernel
 unfold nmF zhO
 split
 ·simp [zaP,hx]
 ·split
  ·simp [zaP,hy]
  ·split
   ·simp [zaP,hq]
   ·have hs:(zbI k).cps.toList=[97+k % 26,97+k / 26 % 26]:=by
     unfold zbI
     rw [zaP]
     rfl
    simp [zaP,hq,hs]
theorem zke {q:Int}{base w:Str}{k:Nat}(h:zhO w.cps.toList=false):nmF q base k≠w:=fun e=>by
 have:=zea q base k
 rw [e,h] at this
 first|exact zqn this|exact zqb this|(obtain rfl:=Option.some.inj this)|cases this
theorem ziI (q:Int)(base:Str)(k:Nat):1≤(nmF q base k).length:=by
 have h:=zea q base k
 have e:(nmF q base k).length=(nmF q base k).cps.toList.length:=rfl
 cases l:(nmF q base k).cps.toList with
 | nil=>rw [l] at h;(first|exact zqn h|exact zqb h|(obtain rfl:=Option.some.inj h)|cases h)
 | cons a r=>rw [e,l];simp
structure WB (ps:List Pl):Prop where
 l1:1≤ps.length
 l2:ps.length≤20
 nd:(ps.map (·.name)).Nodup
 ok:∀ p∈ps,TxtOk 12 p.name∧1≤p.name.length∧p.name ≠ "all" ∧ p.name ≠ "first"
 how:∀ (i:Nat) (p:Pl),ps[i]? = some p→∀ r∈p.rows,r.2.1 = "all" ∨ r.2.1 = "first" ∨ r.2.1∈(ps.take i).map (·.name)
 sz:∀ p∈ps,p.rows.length≤40∧p.givens.length≤12
@[simp] theorem ev_tmpN (is:List Nat)(f:FE)(sd:SD):zeS is f sd=(f (frzD is sd)).bare.bind fun d=>if zhI d then .ok d else .no:=rfl
@[simp] theorem ev_make (c:Str)(names:List Str)(Fn:List D→Res (List D))(fa:FA)(sd:SD):dMake c names Fn fa sd=(fa sd).bind fun ds=>(Fn ds).bind fun es=>.ok (.ins c names es):=rfl
theorem zeG (l:List (Str×Int)):zhI (.lst (l.map prtD))=true:=by
 show (l.map prtD).all zg2=true
 rw [List.all_eq_true]
 intro x hx
 obtain ⟨y,_,rfl⟩:=List.mem_map.mp hx
 rfl
@[simp] theorem zkg (i j k:Nat)(r:Str×Str×List (Int×Int))(sd:SD):zaZ (.tup [i,j,k]) (rowD r) sd=.ok (((sd.set i (some (.val (.str r.1)))).set j (some (.val (.str r.2.1)))).set k (some (.val (rwD r.2.2)))):=rfl
@[simp] theorem zjO (x:Str):zcC (.str x)=some (.inr x):=rfl
noncomputable def dT (t:List (Str×Int)):D:=.dct (t.map fun p=>.inr p.1) (t.map fun p=>.int p.2)
noncomputable def lkT (t:List (Str×Int))(x:Str):Option Int:=(t.find? fun p=>decide (p.1=x)).map (·.2)
theorem zeF {a b:Str}:((Sum.inr a:Key)=.inr b)↔a=b:=⟨fun z=>by injection z,fun z=>by rw [z]⟩
theorem zhH:∀ (t:List (Str×Int)) (x:Str),valD (t.map fun p=>.inr p.1) (t.map fun p=>.int p.2) (.inr x)=(lkT t x).map .int
 | [],_=>rfl
 | p::t,x=>by
  rw [List.map_cons,List.map_cons]
  unfold valD lkT
  rw [List.find?_cons]
  by_cases h:p.1=x
  ·rw [if_pos (zeF.mpr h),decide_eq_true h]
   rfl
  ·rw [if_neg (fun z=>h (zeF.mp z)),decide_eq_false h]
   exact zhH t x
@[simp] theorem gIx_T (t:List (Str×Int))(x:Str):gIx (dT t) (.str x)=(lkT t x).map .int:=zhH t x
@[simp] theorem gIn_T (neg:Bool)(t:List (Str×Int))(x:Str):gIn neg (.str x) (dT t)=some (.bl (if neg then !(lkT t x).isSome else (lkT t x).isSome)):=by
 show some (D.bl (if neg then !(valD (t.map fun p=>.inr p.1) (t.map fun p=>.int p.2) (.inr x)).isSome else (valD (t.map fun p=>.inr p.1) (t.map fun p=>.int p.2) (.inr x)).isSome))=_
 rw [zhH,Option.isSome_map]
theorem zhT {t:List (Str×Int)}{x:Str}:lkT t x=none↔x∉t.map (·.1):=by
 unfold lkT
 rw [Option.map_eq_none_iff,List.find?_eq_none]
 constructor
 ·intro h z
  obtain ⟨p,hp,e⟩:=List.mem_map.mp z
  exact h p hp (decide_eq_true e)
 ·intro h p hp z
  exact h (List.mem_map.mpr ⟨p,hp,of_decide_eq_true z⟩)
theorem ziF {a b:List (Str×Int)}{x:Str}(h:x∉a.map (·.1)):lkT (a++b) x=lkT b x:=by
 unfold lkT
 rw [List.find?_append,show a.find? (fun p=>decide (p.1=x))=none from Option.map_eq_none_iff.mp (zhT.mpr h)]
 rfl
theorem lk_at (x:Str)(v:Int)(b:List (Str×Int)):lkT ((x,v)::b) x=some v:=by
 unfold lkT
 rw [List.find?_cons,decide_eq_true rfl]
 rfl
noncomputable def isP (how:Str):Bool:=!(decide (how = "all")||decide (how = "first"))
def wt1 (t:List (Str×Int))(p:Pl):Int:=p.rows.length+((p.rows.filter fun r=>isP r.2.1).map fun r=>(lkT t r.2.1).getD 0).sum
def wtS (t:List (Str×Int))(p:Pl):List (Str×Int):=t++[(p.name,wt1 t p)]
def wtF (ps:List Pl):List (Str×Int):=ps.foldl wtS []
theorem zie (ps:List Pl)(p:Pl):wtF (ps++[p])=wtF ps++[(p.name,wt1 (wtF ps) p)]:=by
 unfold wtF
 rw [List.foldl_append]
 rfl
theorem zfm:∀ (l:List Pl) (t:List (Str×Int)),∃ u,l.foldl wtS t=t++u
 | [],t=>⟨[],by simp⟩
 | p::l,t=>by
  obtain ⟨u,e⟩:=zfm l (wtS t p)
  exact ⟨(p.name,wt1 t p)::u,by rw [List.foldl_cons,e];unfold wtS;simp⟩
theorem zfB:∀ (l:List Pl) (t:List (Str×Int)),(l.foldl wtS t).map (·.1)=t.map (·.1)++l.map (·.name)
 | [],t=>by simp
 | p::l,t=>by
  rw [List.foldl_cons,zfB l]
  unfold wtS
  simp
theorem zdP (l:List Pl):(wtF l).map (·.1)=l.map (·.name):=by
 unfold wtF
 rw [zfB]
 rfl
theorem WB.fresh {ps:List Pl}(W:WB ps){i:Nat}{p:Pl}(hi:ps[i]? = some p):p.name∉(wtF (ps.take i)).map (·.1):=by
 rw [zdP]
 intro z
 have hlt:i<ps.length:=(List.getElem?_eq_some_iff.mp hi).1
 obtain ⟨y,hy,e⟩:=List.mem_map.mp z
 obtain ⟨j,hj,ej⟩:=List.getElem_of_mem hy
 rw [List.length_take] at hj
 have nd:=List.pairwise_iff_getElem.mp (List.pairwise_map.mp W.nd) j i (by omega) hlt (by omega)
 rw [List.getElem_take] at ej
 apply nd
 rw [ej,e,(List.getElem?_eq_some_iff.mp hi).2]
theorem WB.at {ps:List Pl}(W:WB ps){i:Nat}{p:Pl}(hi:ps[i]? = some p):lkT (wtF ps) p.name=some (wt1 (wtF (ps.take i)) p):=by
 have hlt:i<ps.length:=(List.getElem?_eq_some_iff.mp hi).1
 have e:wtF ps=(ps.drop (i+1)).foldl wtS (wtF (ps.take i)++[(p.name,wt1 (wtF (ps.take i)) p)]):=by
  rw [← zie]
  unfold wtF
  rw [← List.foldl_append]
  congr 1
  have tk:ps.take (i+1)=ps.take i++[p]:=by rw [List.take_succ,hi];rfl
  rw [← tk,List.take_append_drop]
 obtain ⟨u,hu⟩:=zfm (ps.drop (i+1)) (wtF (ps.take i)++[(p.name,wt1 (wtF (ps.take i)) p)])
 rw [e,hu,List.append_assoc,ziF (W.fresh hi)]
 exact lk_at _ _ _
theorem WB.hasc {ps:List Pl}(W:WB ps){i:Nat}{p:Pl}(hi:ps[i]? = some p){r:Str×Str×List (Int×Int)}(hr:r∈p.rows):asc r.2.1:=by
 rcases W.how i p hi r hr with z|z|z
 ·rw [z];exact (zaK (n:=3) (by decide +kernel)).asc
 ·rw [z];exact (zaK (n:=5) (by decide +kernel)).asc
 ·obtain ⟨y,hy,e⟩:=List.mem_map.mp z
  rw [← e]
  exact (W.ok y (List.mem_of_mem_take hy)).1.asc
def I_Book:List D→HP→Res (List D):=zdn 2 2 (zbm (zby (dVar 1)) zdx)
def I_Plan:List D→HP→Res (List D):=zdn 4 4 (zbm (e2L (dVar 1)) (zbm (zby (dVar 2)) (zbm (zby (dVar 3)) zdx)))
def zgC:FS:=(sRet (zcm [none] (iS (dUn (gFld "Book" "plans") (dVar 0))) (.one 0) (dTup (zab (dUn (gFld "Plan" "name") (dVar 0)) (zab (dUn (gFld "Plan" "givens") (dVar 0)) (zab (dUn (gFld "Plan" "rows") (dVar 0)) dNil))))))
def ze1:List D→Res D:=runN 1 1 zgC
theorem f_z11 {ps:List Pl}(h:ps.length≤60):ze1 [zbn ps]=.ok (.lst (ps.map zas)):=by
 have key:mapE (.one 0) (dTup (zab (dUn (gFld "Plan" "name") (dVar 0)) (zab (dUn (gFld "Plan" "givens") (dVar 0)) (zab (dUn (gFld "Plan" "rows") (dVar 0)) dNil)))) [none] (ps.map zar)=.ok (ps.map zas):=zd2 fun p _=>by simp [zas]
 have hz:=zaG (show ps.length≤1000 by omega)
 simp [ze1,zgC,key,hz]
def G_z1:FS:=(sSeq (sIf (za1 (dOp gLt (dVar 1) (dBlt gLen (zab (dVar 0) dNil)))) (sRet (dOp gIx (dVar 0) (dVar 1))) zbb) (sRet (dC (.int 0))))
def F_z1:List D→Res D:=runD 2 2 G_z1
theorem f_z1 (ns:List Int)(k:Nat):F_z1 [.scr ns,.int k]=.ok (.int (zi5 ns k)):=by
 unfold zi5
 rw [Int.toNat_natCast]
 by_cases h:k<ns.length
 ·have e:atI ns (k:Int)=some ns[k]:=by rw [zb8 h];exact List.getElem?_eq_getElem h
  have e2:ns.getD k 0=ns[k]:=by rw [List.getD_eq_getElem?_getD,List.getElem?_eq_getElem h];rfl
  rw [e2]
  simp [F_z1,G_z1,h,e]
 ·have e2:ns.getD k 0=0:=by rw [List.getD_eq_getElem?_getD,List.getElem?_eq_none (by omega)];rfl
  rw [e2]
  simp [F_z1,G_z1,h]
def G_z2:FS:=(sSeq (sSet 2 (dOp gMod (dOp gMul (dOp gAdd (dOp gMod (dVar 0) (dC (.int 2147483647))) (dVar 1)) (dC (.int 48271))) (dC (.int 2147483647)))) (sRet (dOp gMod (dOp gMul (dVar 2) (dVar 2)) (dC (.int 2147483629)))))
def F_z2:List D→Res D:=runD 3 2 G_z2
@[simp] theorem f_z2 (c s:Int):F_z2 [.int c,.int s]=.ok (.int (mixF c s)):=by
 have h1:zbT (c % 2147483647+s) 48271=true:=zbW (by omega) (by omega)
 have h2:zbT ((c % 2147483647+s)*48271 % 2147483647) ((c % 2147483647+s)*48271 % 2147483647)=true:=zbW (by omega) (by omega)
 simp [F_z2,G_z2,zcb h1,zcb h2,mixF]
def G_z5:FS:=(sSeq (sSet 2 (dC (.str "abcdefghijklmnopqrstuvwxyz"))) (sSeq (sSet 3 (dC (.str ""))) (sSeq (sFor (iR1 (zab (dOp gMod (dOp zbh (dVar 0) (dC (.int 4))) (dC (.int 10))) dNil)) (.one 4) (sSet 3 (dOp gAdd (dVar 3) (dOp gIx (dVar 2) (dOp gMod (za0 F_z2 (zab (dVar 0) (zab (dOp gAdd (dC (.int 7)) (dVar 4)) dNil))) (dC (.int 26))))))) (sSeq (sOwn 5 (dLst dNil)) (sSeq (sFor (iR1 (zab (dVar 1) dNil)) (.one 4) (sSeq (sSet 6 (dOp gAdd (dOp gIx (dVar 2) (dOp gMod (dVar 4) (dC (.int 26)))) (dOp gIx (dVar 2) (dOp gMod (dOp zbh (dVar 4) (dC (.int 26))) (dC (.int 26)))))) (sSeq (sSet 7 (dLst (zab (dOp gAdd (dOp gAdd (dC (.str "x")) (dVar 3)) (dBlt gStr (zab (dVar 4) dNil))) (zab (dOp gAdd (dOp gAdd (dC (.str "y")) (dBlt gStr (zab (dVar 4) dNil))) (dVar 3)) (zab (dOp gAdd (dOp gAdd (dC (.str "q")) (dVar 3)) (dVar 6)) (zab (dOp gAdd (dOp gAdd (dVar 6) (dC (.str "q"))) (dVar 3)) dNil)))))) (zaC 5 (dOp gIx (dVar 7) (dOp gMod (dVar 0) (dC (.int 4)))))))) (zb6 5))))))
def F_z5:List D→Res D:=runN 8 2 G_z5
theorem zbG (cell:Int){many:Nat}(h:many≤60):∃ base,TxtOk 9 base∧low base∧F_z5 [.int cell,.int many]=.ok (.lst (((List.range many).map (nmF (cell % 4) base)).map .str)):=by
 obtain ⟨m,hm,m0,m10⟩:∃ m:Int,cell / 4 % 10=m∧0≤m∧m<10:=⟨_,rfl,by omega,by omega⟩
 have r1:zbp [.int m]=.ok (zax 0 m.toNat):=zaF (by omega) (by omega)
 have r2:zbp [.int many]=.ok (zax 0 many):=by rw [zaF (by omega) (by omega),Int.toNat_natCast]
 obtain ⟨sd1,e1,base,u4,hsd1,hb,lb⟩:=zbl (tg:=.one 4) (b:=sSet 3 (dOp gAdd (dVar 3) (dOp gIx (dVar 2) (dOp gMod (za0 F_z2 (zab (dVar 0) (zab (dOp gAdd (dC (.int 7)) (dVar 4)) dNil))) (dC (.int 26)))))) (ds:=zax 0 m.toNat) (sd:=[some (.val (.int cell)),some (.val (.int many)),some (.val (.str "abcdefghijklmnopqrstuvwxyz")),some (.val (.str "")),none,none,none,none])
  (P:=fun i sd => ∃ (base:Str) (u4:Option SV),sd=[some (.val (.int cell)),some (.val (.int many)),some (.val (.str "abcdefghijklmnopqrstuvwxyz")),some (.val (.str base)),u4,none,none,none]∧TxtOk i base∧low base) ⟨"",none,rfl,zaK (by decide +kernel),fun _ h=>nomatch h⟩ (by
   rintro i x sd hx ⟨base,u4,rfl,hb,lb⟩
   obtain ⟨rfl,hi⟩:=zbt hx
   obtain ⟨y,hy⟩:∃ y,mixF cell (7+(0+(i:Int))) % 26=y:=⟨_,rfl⟩
   have hc:=zbw (k:=y) (by omega) (by omega)
   have lk:y.toNat<26:=by omega
   have ga:=za6 hb (zcv lk) (by omega)
   exact ⟨[some (.val (.int cell)),some (.val (.int many)),some (.val (.str "abcdefghijklmnopqrstuvwxyz")),some (.val (.str (base++letF y.toNat))),some (.val (.int (0+(i:Int)))),none,none,none],by simp at hy ⊢;simp [hy,hc,ga],_,_,rfl,hb.app (zcv lk),zia lb (zhn lk)⟩)
 rw [zba] at hb
 have hb:TxtOk 9 base:=hb.mono (by omega)
 obtain ⟨q,hq,q0,q4⟩:∃ q:Int,cell % 4=q∧0≤q∧q<4:=⟨_,rfl,by omega,by omega⟩
 have okx:TxtOk 1 "x" := zaK (by decide +kernel)
 have oky:TxtOk 1 "y" := zaK (by decide +kernel)
 have okq:TxtOk 1 "q" := zaK (by decide +kernel)
 obtain ⟨sd2,e2,w4,w6,w7,hsd2⟩:=zbl (tg:=.one 4) (b:=(sSeq (sSet 6 (dOp gAdd (dOp gIx (dVar 2) (dOp gMod (dVar 4) (dC (.int 26)))) (dOp gIx (dVar 2) (dOp gMod (dOp zbh (dVar 4) (dC (.int 26))) (dC (.int 26)))))) (sSeq (sSet 7 (dLst (zab (dOp gAdd (dOp gAdd (dC (.str "x")) (dVar 3)) (dBlt gStr (zab (dVar 4) dNil))) (zab (dOp gAdd (dOp gAdd (dC (.str "y")) (dBlt gStr (zab (dVar 4) dNil))) (dVar 3)) (zab (dOp gAdd (dOp gAdd (dC (.str "q")) (dVar 3)) (dVar 6)) (zab (dOp gAdd (dOp gAdd (dVar 6) (dC (.str "q"))) (dVar 3)) dNil)))))) (zaC 5 (dOp gIx (dVar 7) (dOp gMod (dVar 0) (dC (.int 4)))))))) (ds:=zax 0 many) (sd:=[some (.val (.int cell)),some (.val (.int many)),some (.val (.str "abcdefghijklmnopqrstuvwxyz")),some (.val (.str base)),u4,some (.own false (.lst [])),none,none])
  (P:=fun i sd => ∃ (w4 w6 w7:Option SV),sd=[some (.val (.int cell)),some (.val (.int many)),some (.val (.str "abcdefghijklmnopqrstuvwxyz")),some (.val (.str base)),w4,some (.own false (.lst (((List.range i).map (nmF q base)).map .str))),w6,w7]) ⟨u4,none,none,rfl⟩ (by
   rintro i x sd hx ⟨w4,w6,w7,rfl⟩
   obtain ⟨rfl,hi⟩:=zbt hx
   have eI:(0+(i:Int))=(i:Int):=by omega
   have hc1:=zbw (k:=(i:Int) % 26) (by omega) (by omega)
   have hc2:=zbw (k:=(i:Int) / 26 % 26) (by omega) (by omega)
   rw [show ((i:Int) % 26).toNat=i % 26 by omega] at hc1
   rw [show ((i:Int) / 26 % 26).toNat=i / 26 % 26 by omega] at hc2
   obtain ⟨hsk,ok⟩:=zdF (k:=i) (by omega)
   have l1:TxtOk 1 (letF (i % 26)):=zcv (Nat.mod_lt _ (by omega))
   have l2:TxtOk 1 (letF (i / 26 % 26)):=zcv (Nat.mod_lt _ (by omega))
   have sp:gAdd (.str (letF (i % 26))) (.str (letF (i / 26 % 26)))=some (.str (zbI i)):=za6 l1 l2 (by omega)
   have oksp:=zfz i
   have a1:=za6 okx hb (by omega)
   have a2:=za6 (okx.app hb) ok (by omega)
   have b1:=za6 oky ok (by omega)
   have b2:=za6 (oky.app ok) hb (by omega)
   have d1:=za6 okq hb (by omega)
   have d2:=za6 (okq.app hb) oksp (by omega)
   have e1:=za6 oksp okq (by omega)
   have e2:=za6 (oksp.app okq) hb (by omega)
   have hx:atI [D.str ("x" ++ base++digF i),D.str ("y" ++ digF i++base),D.str ("q" ++ base++zbI i),D.str (zbI i ++ "q" ++ base)] q=some (.str (nmF q base i)):=by
    have:q=0∨q=1∨q=2∨q=3:=by omega
    rcases this with rfl|rfl|rfl|rfl<;>rfl
   have hz:=zaG (show ((List.range i).map (nmF q base)).length≤1000 by rw [List.length_map,List.length_range];omega)
   rw [List.length_map,List.length_range] at hz
   refine ⟨[some (.val (.int cell)),some (.val (.int many)),some (.val (.str "abcdefghijklmnopqrstuvwxyz")),some (.val (.str base)),some (.val (.int (i:Int))),some (.own false (.lst (((List.range (i+1)).map (nmF q base)).map .str))),some (.val (.str (zbI i))),some (.val (.lst [D.str ("x" ++ base++digF i),D.str ("y" ++ digF i++base),D.str ("q" ++ base++zbI i),D.str (zbI i ++ "q" ++ base)]))],?_,_,_,_,rfl⟩
   rw [List.range_succ]
   simp [hc1,hc2,sp,hsk,a1,a2,b1,b2,d1,d2,e1,e2,hq,hx,hz])
 rw [zba] at hsd2
 subst hsd1
 subst hsd2
 refine ⟨base,hb,lb,?_⟩
 rw [hq]
 simp [F_z5,G_z5,hm,r1,r2,e1,e2]
def G_z4:FS:=(sSeq (sSet 2 (za0 F_z2 (zab (dVar 0) (zab (dVar 1) dNil)))) (sSeq (sIf (za1 (dOp gGt (dOp gMod (dVar 2) (dC (.int 4))) (dC (.int 0)))) (sRet (dOp gSub (dOp gMod (dOp zbh (dVar 2) (dC (.int 4))) (dC (.int 5))) (dC (.int 2)))) zbb) (sSeq (sSet 3 (dOp gMod (dOp gMul (dOp zbh (dVar 0) (dC (.int 7))) (dOp gAdd (dVar 1) (dC (.int 2)))) (dOp gPow (dC (.int 10)) (dC (.int 30))))) (sSeq (sIf (za1 (dOp gEq (dOp gMod (dOp zbh (dVar 2) (dC (.int 20))) (dC (.int 3))) (dC (.int 0)))) (sSet 3 (dOp gSub (dOp gPow (dC (.int 10)) (dC (.int 30))) (dC (.int 1)))) zbb) (sSeq (sIf (za1 (dOp gEq (dOp gMod (dOp zbh (dVar 2) (dC (.int 60))) (dC (.int 2))) (dC (.int 0)))) (sRet (dVar 3)) zbb) (sRet (dUn gNeg (dVar 3))))))))
def F_z4:List D→Res D:=runD 4 2 G_z4
theorem f_z4 {c s:Int}(h1 : -1000000≤s)(h2:s≤1000000):∃ w:Int,F_z4 [.int c,.int s]=.ok (.int w) ∧ -1000000000000000000000000000000<w∧w<1000000000000000000000000000000:=by
 have h3:zbT (c / 7) (s+2)=true:=zbW (by omega) (by omega)
 have h4:gPow (.int 10) (.int 30)=some (.int 1000000000000000000000000000000):=rfl
 obtain ⟨x,hx⟩:∃ x:Int,c / 7*(s+2)=x:=⟨_,rfl⟩
 have h5:=zcb h3
 rw [hx] at h5
 by_cases c1:0<mixF c s % 4
 ·exact ⟨mixF c s / 4 % 5-2,by simp [F_z4,G_z4,c1],by omega,by omega⟩
 ·by_cases c2:mixF c s / 20 % 3=0<;>by_cases c3:mixF c s / 60 % 2=0
  ·exact ⟨999999999999999999999999999999,by simp [F_z4,G_z4,c1,c2,c3,h5,h4],by omega,by omega⟩
  ·exact ⟨-999999999999999999999999999999,by simp [F_z4,G_z4,c1,c2,c3,h5,h4],by omega,by omega⟩
  ·exact ⟨x % 1000000000000000000000000000000,by simp [F_z4,G_z4,c1,c2,c3,h5,h4],by omega,by omega⟩
  ·exact ⟨-(x % 1000000000000000000000000000000),by simp [F_z4,G_z4,c1,c2,c3,h5,h4],by omega,by omega⟩
def G_z7:FS:=(sSeq (sOwn 3 (dLst dNil)) (sSeq (sFor (iR1 (zab (dVar 1) dNil)) (.one 4) (zaC 3 (dTup (zab (dOp gMod (za0 F_z2 (zab (dVar 0) (zab (dOp gAdd (dC (.int 101)) (dVar 4)) dNil))) (dVar 2)) (zab (za0 F_z4 (zab (dOp gAdd (dOp zbh (dVar 0) (dOp gAdd (dVar 4) (dC (.int 1)))) (dVar 4)) (zab (dOp gAdd (dC (.int 151)) (dVar 4)) dNil))) dNil))))) (fun sd=>(sRet (dBlt zdX (zab (dVar 3) dNil))) (frzD [3] sd))))
def F_z7:List D→Res D:=runD 5 3 G_z7
theorem f_z7 {cell ahead:Int}{count:Nat}(h:count≤60)(ha:1≤ahead):∃ its:List (Int×Int),F_z7 [.int cell,.int count,.int ahead]=.ok (rwD its)∧its.length=count∧ItOk ahead its:=by
 have r1:zbp [.int count]=.ok (zax 0 count):=by rw [zaF (by omega) (by omega),Int.toNat_natCast]
 obtain ⟨sd1,e1,its,u4,hsd1,hl,ok⟩:=zbl (tg:=.one 4) (b:=zaC 3 (dTup (zab (dOp gMod (za0 F_z2 (zab (dVar 0) (zab (dOp gAdd (dC (.int 101)) (dVar 4)) dNil))) (dVar 2)) (zab (za0 F_z4 (zab (dOp gAdd (dOp zbh (dVar 0) (dOp gAdd (dVar 4) (dC (.int 1)))) (dVar 4)) (zab (dOp gAdd (dC (.int 151)) (dVar 4)) dNil))) dNil)))) (ds:=zax 0 count) (sd:=[some (.val (.int cell)),some (.val (.int count)),some (.val (.int ahead)),some (.own false (.lst [])),none])
  (P:=fun i sd => ∃ (its:List (Int×Int)) (u4:Option SV),sd=[some (.val (.int cell)),some (.val (.int count)),some (.val (.int ahead)),some (.own false (.lst (its.map prD))),u4]∧its.length=i∧ItOk ahead its) ⟨[],none,rfl,rfl,fun _ h=>(nomatch h),fun _ h=>nomatch h⟩ (by
   rintro i x sd hx ⟨its,u4,rfl,hl,ok⟩
   obtain ⟨rfl,hi⟩:=zbt hx
   obtain ⟨w,hw,w1,w2⟩:=f_z4 (c:=cell / ((0+(i:Int))+1)+(0+(i:Int))) (s:=151+(0+(i:Int))) (by omega) (by omega)
   obtain ⟨t,ht⟩:∃ t,mixF cell (101+(0+(i:Int))) % ahead=t:=⟨_,rfl⟩
   have t0:0≤t:=by rw [← ht];exact Int.emod_nonneg _ (by omega)
   have t1:t<ahead:=by rw [← ht];exact Int.emod_lt_of_pos _ (by omega)
   have gm:=zd6 (i:=mixF cell (101+(0+(i:Int)))) (j:=ahead) (by omega)
   rw [ht] at gm
   have gf:=zgn (i:=cell) (j:=(0+(i:Int))+1) (by omega) (by omega)
   have hz:=zaG (show its.length≤1000 by omega)
   refine ⟨[some (.val (.int cell)),some (.val (.int count)),some (.val (.int ahead)),some (.own false (.lst ((its++[(t,w)]).map prD))),some (.val (.int (0+(i:Int))))],?_,_,_,rfl,by simp [hl],⟨fun p hp => ?_,fun p hp => ?_⟩⟩
   ·simp only [Int.zero_add] at gm gf hw ⊢
    simp [gm,gf,hw,hz,prD]
   ·rcases List.mem_append.mp hp with z|z
    ·exact ok.rng p z
    ·rw [List.mem_singleton.mp z];exact ⟨t0,t1⟩
   ·rcases List.mem_append.mp hp with z|z
    ·exact ok.far p z
    ·rw [List.mem_singleton.mp z];exact ⟨w1,w2⟩)
 rw [zba] at hl
 subst hsd1
 refine ⟨its,?_,hl,ok⟩
 simp [F_z7,G_z7,r1,e1]
 rfl
def G_z8:FS:=(sSeq (sSet 5 (za0 F_z2 (zab (dVar 0) (zab (dC (.int 23)) dNil)))) (sSeq (sIf (zdw (za1 (dOp gNe (dVar 3) (dLst dNil))) (za1 (dOp gEq (dOp gMod (dVar 5) (dC (.int 3))) (dC (.int 0))))) (sSeq (sSet 6 (dOp gIx (dVar 3) (dOp gMod (dOp zbh (dVar 5) (dC (.int 3))) (dBlt gLen (zab (dVar 3) dNil))))) (sRet (dTup (zab (dVar 1) (zab (dOp gIx (dVar 6) (dC (.int 0))) (zab (za0 F_z7 (zab (dVar 0) (zab (dOp gIx (dVar 6) (dC (.int 1))) (zab (dVar 2) dNil)))) dNil)))))) zbb) (sSeq (sSet 7 (dOp gAdd (dC (.int 1)) (dOp gMod (dOp zbh (dVar 5) (dC (.int 3))) (dC (.int 4))))) (sSeq (sIf (zdw (za1 (dVar 4)) (za1 (dOp gEq (dOp gMod (dOp zbh (dVar 5) (dC (.int 12))) (dC (.int 3))) (dC (.int 0))))) (sSet 7 (dC (.int 40))) zbb) (sRet (dTup (zab (dVar 1) (zab (dOp gIx (dLst (zab (dC (.str "all")) (zab (dC (.str "first")) dNil))) (dOp gMod (dOp zbh (dVar 5) (dC (.int 100))) (dC (.int 2)))) (zab (za0 F_z7 (zab (dVar 0) (zab (dVar 7) (zab (dVar 2) dNil)))) dNil)))))))))
def F_z8:List D→Res D:=runD 8 5 G_z8
theorem f_z8 {cell ahead:Int}{name:Str}{parts:List (Str×Int)}{wide:Bool}(ha:1≤ahead)(hp:zdB parts):∃ how its,F_z8 [.int cell,.str name,.int ahead,.lst (parts.map prtD),.bl wide]=.ok (rowD (name,how,its))∧RwOk parts ahead (name,how,its):=by
 obtain ⟨m,hm⟩:∃ m,mixF cell 23=m:=⟨_,rfl⟩
 have gn:=ziq (zi2 9 hp)
 have plain:∀ count:Nat,1≤count→count≤40→∃ how its,atI [D.str "all",D.str "first"] (m / 100 % 2)=some (.str how)∧F_z7 [.int cell,.int count,.int ahead]=.ok (rwD its)∧RwOk parts ahead (name,how,its):=fun count c1 c2=>by
  obtain ⟨its,h1,h2,h3⟩:=f_z7 (cell:=cell) (ahead:=ahead) (count:=count) (by omega) ha
  have:m / 100 % 2=0∨m / 100 % 2=1:=by omega
  rcases this with z|z
  ·exact ⟨"all",its,by rw [z];rfl,h1,⟨.inl rfl,h3,by show 1≤its.length;omega,by show its.length≤40;omega⟩⟩
  ·exact ⟨"first",its,by rw [z];rfl,h1,⟨.inr (.inl rfl),h3,by show 1≤its.length;omega,by show its.length≤40;omega⟩⟩
 by_cases c1:parts.isEmpty=false∧m % 3=0
 ·obtain ⟨c0,c1⟩:=c1
  have hl:1≤parts.length:=by
   cases parts with
   | nil=>first|exact zqn c0|exact zqb c0|(obtain rfl:=Option.some.inj c0)|cases c0
   | cons a l=>simp
  obtain ⟨k,hk⟩:∃ k,m / 3 % (parts.length:Int)=k:=⟨_,rfl⟩
  have k0:0≤k:=by rw [← hk];exact Int.emod_nonneg _ (by omega)
  have k1:k<(parts.length:Int):=by rw [← hk];exact Int.emod_lt_of_pos _ (by omega)
  have gm:=zd6 (i:=m / 3) (j:=(parts.length:Int)) (by omega)
  rw [hk] at gm
  obtain ⟨p,pm,pe⟩:=zhh (f:=prtD) k0 k1
  obtain ⟨_,p1,p2⟩:=hp p pm
  obtain ⟨n,hn⟩:∃ n:Nat,p.2=(n:Int):=⟨p.2.toNat,by omega⟩
  obtain ⟨its,h1,h2,h3⟩:=f_z7 (cell:=cell) (ahead:=ahead) (count:=n) (by omega) ha
  refine ⟨p.1,its,?_,⟨.inr (.inr ?_),h3,by show 1≤its.length;omega,by show its.length≤40;omega⟩⟩
  ·rw [← hn] at h1
   rw [c0] at gn
   simp [F_z8,G_z8,hm,c1] at gn ⊢
   simp [gn,gm,pe,h1,rowD]
  ·show (p.1,(its.length:Int))∈parts
   rw [h2,← hn]
   exact pm
 ·obtain ⟨n,hn,n1,n2⟩:∃ n:Nat,1+m / 3 % 4=(n:Int)∧1≤n∧n≤4:=⟨(1+m / 3 % 4).toNat,by omega,by omega,by omega⟩
  obtain ⟨how,its,ha,hi,ok⟩:=plain n n1 (by omega)
  obtain ⟨how4,its4,ha4,hi4,ok4⟩:=plain 40 (by omega) (by omega)
  have hi4:F_z7 [.int cell,.int 40,.int ahead]=.ok (rwD its4):=hi4
  have main:∀ (c:Bool),gNe (.lst (parts.map prtD)) (.lst [])=some (.bl c)→¬ (c=true∧m % 3=0)→∃ how its,F_z8 [.int cell,.str name,.int ahead,.lst (parts.map prtD),.bl wide]=.ok (rowD (name,how,its))∧RwOk parts ahead (name,how,its):=fun c gc nc=>by
   cases c with
   | false =>
    cases wide with
    | false=>exact ⟨how,its,by simp [F_z8,G_z8,hm,gc,hn,ha,hi,rowD],ok⟩
    | true =>
     by_cases c2:m / 12 % 3=0
     ·exact ⟨how4,its4,by simp [F_z8,G_z8,hm,gc,hn,c2,ha4,hi4,rowD],ok4⟩
     ·exact ⟨how,its,by simp [F_z8,G_z8,hm,gc,hn,c2,ha,hi,rowD],ok⟩
   | true =>
    have c3:¬ m % 3=0:=fun z=>nc ⟨rfl,z⟩
    cases wide with
    | false=>exact ⟨how,its,by simp [F_z8,G_z8,hm,gc,hn,c3,ha,hi,rowD],ok⟩
    | true =>
     by_cases c2:m / 12 % 3=0
     ·exact ⟨how4,its4,by simp [F_z8,G_z8,hm,gc,hn,c2,c3,ha4,hi4,rowD],ok4⟩
     ·exact ⟨how,its,by simp [F_z8,G_z8,hm,gc,hn,c2,c3,ha,hi,rowD],ok⟩
  exact main _ gn (by rintro ⟨z1,z2⟩;exact c1 ⟨by simpa using z1,z2⟩)
def G_z9:FS:=(sSeq (sSet 5 (dOp gIx (dVar 0) (dOp gMod (dOp gMul (dC (.int 7)) (dVar 1)) (dBlt gLen (zab (dVar 0) dNil))))) (sSeq (sSet 6 (dOp gAdd (dC (.int 1)) (dOp gMod (za0 F_z2 (zab (dVar 5) (zab (dC (.int 31)) dNil))) (dC (.int 4))))) (sSeq (sSet 7 (dOp gAdd (dC (.int 1)) (dOp gMod (za0 F_z2 (zab (dVar 5) (zab (dC (.int 37)) dNil))) (dC (.int 6))))) (sSeq (sIf (za1 (dVar 4)) (sSeq (sSet 6 (dOp gIx (dLst (zab (dC (.int 12)) (zab (dC (.int 11)) (zab (dC (.int 1)) dNil)))) (dOp gMod (za0 F_z2 (zab (dVar 5) (zab (dC (.int 41)) dNil))) (dC (.int 3))))) (sSet 7 (dOp gIx (dLst (zab (dC (.int 40)) (zab (dC (.int 39)) (zab (dC (.int 7)) dNil)))) (dOp gMod (za0 F_z2 (zab (dVar 5) (zab (dC (.int 43)) dNil))) (dC (.int 3)))))) zbb) (sSeq (sSet 8 (za0 F_z5 (zab (dOp zbh (dVar 5) (dC (.int 5))) (zab (dOp gAdd (dVar 6) (dVar 7)) dNil)))) (sSeq (sOwn 9 (dLst dNil)) (sSeq (sFor (iR1 (zab (dVar 7) dNil)) (.one 10) (sSeq (sSet 11 (dOp gAdd (dOp gIx (dVar 0) (dOp gMod (dOp gAdd (dOp gAdd (dOp gMul (dC (.int 7)) (dVar 1)) (dVar 10)) (dC (.int 1))) (dBlt gLen (zab (dVar 0) dNil)))) (dOp gMul (dC (.int 13)) (dVar 10)))) (zaC 9 (za0 F_z8 (zab (dVar 11) (zab (dOp gIx (dVar 8) (dOp gAdd (dVar 6) (dVar 10))) (zab (dOp gAdd (dVar 6) (dVar 10)) (zab (dVar 3) (zab (dVar 4) dNil))))))))) (fun sd=>(sRet (dTup (zab (dVar 2) (zab (dSl (dVar 8) zaV (zbJ (dVar 6)) zaV) (zab (dVar 9) dNil))))) (frzD [9] sd)))))))))
def F_z9:List D→Res D:=runD 12 5 G_z9
structure PlOk (parts:List (Str×Int))(p:Pl):Prop where
 g1:1≤p.givens.length
 g2:p.givens.length≤12
 r1:1≤p.rows.length
 r2:p.rows.length≤40
 rows:∀ (k:Nat) (r:Str×Str×List (Int×Int)),p.rows[k]? = some r→RwOk parts ((p.givens.length:Int)+k) r
 names:∃ (q:Int) (base:Str),TxtOk 9 base∧low base∧p.givens++p.rows.map (·.1)=(List.range (p.givens.length+p.rows.length)).map (nmF q base)
theorem f_z9 {pool:List Int}{at_:Nat}{name:Str}{parts:List (Str×Int)}{wide:Bool}(h1:1≤pool.length)(h2:pool.length≤24)(ha:at_≤100)(hp:zdB parts):∃ p:Pl,F_z9 [.lst (pool.map .int),.int at_,.str name,.lst (parts.map prtD),.bl wide]=.ok (zas p)∧p.name=name∧PlOk parts p∧(wide=false→p.rows.length≤6):=by
 have ixp:∀ k:Int,∃ c:Int,gMod (.int k) (.int (pool.length:Int))=some (.int (k % (pool.length:Int)))∧atI (pool.map D.int) (k % (pool.length:Int))=some (.int c):=fun k=>by
  obtain ⟨c,_,e⟩:=zhh (f:=D.int) (l:=pool) (k:=k % (pool.length:Int)) (Int.emod_nonneg _ (by omega)) (Int.emod_lt_of_pos _ (by omega))
  exact ⟨c,zd6 (by omega),e⟩
 have mul7:gMul (.int 7) (.int (at_:Int))=some (.int (7*(at_:Int))):=zcb (zbW (by omega) (by omega))
 obtain ⟨cell,gm0,gi0⟩:=ixp (7*(at_:Int))
 obtain ⟨g,r,hg,g1,g2,r1,r2,r3⟩:∃ g r:Nat,((if wide=true then atI [D.int 12,D.int 11,D.int 1] (mixF cell 41 % 3) else some (.int (1+mixF cell 31 % 4)))=some (.int (g:Int))∧(if wide=true then atI [D.int 40,D.int 39,D.int 7] (mixF cell 43 % 3) else some (.int (1+mixF cell 37 % 6)))=some (.int (r:Int)))∧1≤g∧g≤12∧1≤r∧r≤40∧(wide=false→r≤6):=by
  cases wide with
  | false=>exact ⟨(1+mixF cell 31 % 4).toNat,(1+mixF cell 37 % 6).toNat,⟨by simp;omega,by simp;omega⟩,by omega,by omega,by omega,by omega,fun _=>by omega⟩
  | true =>
   have a3:mixF cell 41 % 3=0∨mixF cell 41 % 3=1∨mixF cell 41 % 3=2:=by omega
   have b3:mixF cell 43 % 3=0∨mixF cell 43 % 3=1∨mixF cell 43 % 3=2:=by omega
   obtain ⟨g,hg,g1,g2⟩:∃ g:Nat,atI [D.int 12,D.int 11,D.int 1] (mixF cell 41 % 3)=some (.int (g:Int))∧1≤g∧g≤12:=by
    rcases a3 with z|z|z
    ·exact ⟨12,by rw [z];rfl,by omega,by omega⟩
    ·exact ⟨11,by rw [z];rfl,by omega,by omega⟩
    ·exact ⟨1,by rw [z];rfl,by omega,by omega⟩
   obtain ⟨r,hr,r1,r2⟩:∃ r:Nat,atI [D.int 40,D.int 39,D.int 7] (mixF cell 43 % 3)=some (.int (r:Int))∧1≤r∧r≤40:=by
    rcases b3 with z|z|z
    ·exact ⟨40,by rw [z];rfl,by omega,by omega⟩
    ·exact ⟨39,by rw [z];rfl,by omega,by omega⟩
    ·exact ⟨7,by rw [z];rfl,by omega,by omega⟩
   exact ⟨g,r,⟨hg,hr⟩,g1,g2,r1,r2,fun z=>nomatch z⟩
 obtain ⟨base,bk,bl,fn⟩:=zbG (cell / 5) (many:=g+r) (by omega)
 obtain ⟨q,hq⟩:∃ q,cell / 5 % 4=q:=⟨_,rfl⟩
 rw [hq] at fn
 have r0:zbp [.int r]=.ok (zax 0 r):=by rw [zaF (by omega) (by omega),Int.toNat_natCast]
 obtain ⟨ns,hns⟩:∃ ns,(List.range (g+r)).map (nmF q base)=ns:=⟨_,rfl⟩
 have nl:ns.length=g+r:=by rw [← hns,List.length_map,List.length_range]
 have nat_:∀ k:Nat,k<g+r→ns[k]? = some (nmF q base k):=fun k hk=>by rw [← hns,List.getElem?_map,List.getElem?_range hk];rfl
 rw [hns] at fn
 obtain ⟨sd1,e1,rows,u10,u11,hsd1,hl,ok,hn⟩:=zbl (tg:=.one 10) (b:=(sSeq (sSet 11 (dOp gAdd (dOp gIx (dVar 0) (dOp gMod (dOp gAdd (dOp gAdd (dOp gMul (dC (.int 7)) (dVar 1)) (dVar 10)) (dC (.int 1))) (dBlt gLen (zab (dVar 0) dNil)))) (dOp gMul (dC (.int 13)) (dVar 10)))) (zaC 9 (za0 F_z8 (zab (dVar 11) (zab (dOp gIx (dVar 8) (dOp gAdd (dVar 6) (dVar 10))) (zab (dOp gAdd (dVar 6) (dVar 10)) (zab (dVar 3) (zab (dVar 4) dNil))))))))) (ds:=zax 0 r)
  (sd:=[some (.val (.lst (pool.map .int))),some (.val (.int at_)),some (.val (.str name)),some (.val (.lst (parts.map prtD))),some (.val (.bl wide)),some (.val (.int cell)),some (.val (.int g)),some (.val (.int r)),some (.val (.lst (ns.map .str))),some (.own false (.lst [])),none,none])
  (P:=fun i sd => ∃ (rows:List (Str×Str×List (Int×Int))) (u10 u11:Option SV),sd=[some (.val (.lst (pool.map .int))),some (.val (.int at_)),some (.val (.str name)),some (.val (.lst (parts.map prtD))),some (.val (.bl wide)),some (.val (.int cell)),some (.val (.int g)),some (.val (.int r)),some (.val (.lst (ns.map .str))),some (.own false (.lst (rows.map rowD))),u10,u11]∧rows.length=i∧(∀ (k:Nat) x,rows[k]? = some x→RwOk parts ((g:Int)+k) x)∧rows.map (·.1)=(ns.drop g).take i) ⟨[],none,none,rfl,rfl,fun k x h=>by simp at h,by simp⟩ (by
   rintro i x sd hx ⟨rows,u10,u11,rfl,hl,ok,hn⟩
   obtain ⟨rfl,hi⟩:=zbt hx
   have eI:(0+(i:Int))=(i:Int):=by omega
   obtain ⟨c,gm,gi⟩:=ixp (7*(at_:Int)+(i:Int)+1)
   have m13:gMul (.int 13) (.int (i:Int))=some (.int (13*(i:Int))):=zcb (zbW (by omega) (by omega))
   have nx:atI (ns.map D.str) ((g:Int)+(i:Int))=some (.str (nmF q base (g+i))):=by
    rw [show ((g:Int)+(i:Int))=((g+i:Nat):Int) by omega,zb8 (by rw [List.length_map];omega),List.getElem?_map,nat_ _ (by omega)]
    rfl
   obtain ⟨how,its,hm,rk⟩:=f_z8 (cell:=c+13*(i:Int)) (ahead:=(g:Int)+(i:Int)) (name:=nmF q base (g+i)) (parts:=parts) (wide:=wide) (by omega) hp
   have hz:=zaG (show rows.length≤1000 by omega)
   refine ⟨[some (.val (.lst (pool.map .int))),some (.val (.int at_)),some (.val (.str name)),some (.val (.lst (parts.map prtD))),some (.val (.bl wide)),some (.val (.int cell)),some (.val (.int g)),some (.val (.int r)),some (.val (.lst (ns.map .str))),some (.own false (.lst ((rows++[(nmF q base (g+i),how,its)]).map rowD))),some (.val (.int (i:Int))),some (.val (.int (c+13*(i:Int))))],?_,_,_,_,rfl,by simp [hl],fun k x hk => ?_,?_⟩
   ·simp [mul7,gm,gi,m13,nx,hm,hz]
   ·by_cases z:k<rows.length
    ·rw [List.getElem?_append_left z] at hk
     exact ok k x hk
    ·rw [List.getElem?_append_right (by omega)] at hk
     have kz:k-rows.length=0:=by
      cases e:k-rows.length with
      | zero=>rfl
      | succ j=>rw [e] at hk;simp at hk
     rw [kz] at hk
     first|exact zqn hk|exact zqb hk|(obtain rfl:=Option.some.inj hk)|cases hk
     have:k=i:=by omega
     rw [this]
     exact rk
   ·rw [List.map_append,hn]
    have hd:(ns.drop g)[i]? = some (nmF q base (g+i)):=by rw [List.getElem?_drop];exact nat_ _ (by omega)
    rw [List.take_succ,hd]
    rfl)
 rw [zba] at hl hn
 subst hsd1
 have hs:zaM (ns.map D.str) none (some (g:Int)) none=(ns.take g).map D.str:=by
  rw [zfH _ (by omega),List.map_take,Int.toNat_natCast]
 refine ⟨⟨name,ns.take g,rows⟩,?_,rfl,⟨by show 1≤(ns.take g).length;rw [List.length_take];omega,by show (ns.take g).length≤12;rw [List.length_take];omega,by show 1≤rows.length;omega,by show rows.length≤40;omega,fun k x hk => ?_,⟨q,base,bk,bl,?_⟩⟩,fun z=>by have:=r3 z;show rows.length≤6;omega⟩
 ·have fn':F_z5 [.int (cell / 5),.int ((g:Int)+(r:Int))]=.ok (.lst (ns.map .str)):=by rw [← fn];congr 3
  cases wide with
  | false =>
   obtain ⟨ha1,ha2⟩:=hg
   simp at ha1 ha2
   simp [F_z9,G_z9,mul7,gm0,gi0,ha1,ha2,fn',r0,e1,hs,zas]
  | true =>
   obtain ⟨ha1,ha2⟩:=hg
   simp at ha1 ha2
   simp [F_z9,G_z9,mul7,gm0,gi0,ha1,ha2,fn',r0,e1,hs,zas]
 ·show RwOk parts (((ns.take g).length:Int)+k) x
  rw [List.length_take,Nat.min_eq_left (by omega)]
  exact ok k x hk
 ·show ns.take g++rows.map (·.1)=_
  rw [hn,List.take_of_length_le (l:=ns.drop g) (i:=r) (by rw [List.length_drop];omega),List.take_append_drop,← hns]
  congr 2
  show g+r=(((List.range (g+r)).map (nmF q base)).take g).length+rows.length
  rw [List.length_take,List.length_map,List.length_range]
  omega
def G_z3:FS:=(sSeq (sSet 3 (dBlt zgO (zab (dVar 2) (zab (dBlt zgo (zab (dC (.int 0)) (zab (dOp gSub (dBlt gLen (zab (dVar 0) dNil)) (dVar 1)) dNil))) dNil)))) (sRet (zcm [none,some 0,some 1,some 2] (iR1 (zab (dVar 3) dNil)) (.one 0) (dBlt gSum (zab (dSl (dVar 1) (zbJ (dOp gAdd (dVar 2) (dVar 0))) zaV (zbJ (dVar 3))) dNil)))))
def F_z3:List D→Res D:=runN 4 3 G_z3
theorem zcW {ns:List Int}(h:ns.length≤63){a most:Int}(a0:0≤a)(a1:a≤100)(m0:1≤most)(m1:most≤60):∃ cs:List Int,(cs.length:Int)≤most∧F_z3 [.scr ns,.int a,.int most]=.ok (.lst (cs.map .int)):=by
 obtain ⟨m,hm,em⟩:∃ m:Nat,(m:Int)≤most∧(if (if a<(ns.length:Int) then (ns.length:Int)-a else 0)<most then (if a<(ns.length:Int) then (ns.length:Int)-a else 0) else most)=(m:Int):=by
  refine ⟨(if (if a<(ns.length:Int) then (ns.length:Int)-a else 0)<most then (if a<(ns.length:Int) then (ns.length:Int)-a else 0) else most).toNat,?_,?_⟩<;>(repeat' split)<;>omega
 have r1:zbp [.int (m:Int)]=.ok (zax 0 m):=by
  rw [zaF (by omega) (by omega),Int.toNat_natCast]
 have key:mapE (.one 0) (dBlt gSum (zab (dSl (dVar 1) (zbJ (dOp gAdd (dVar 2) (dVar 0))) zaV (zbJ (dVar 3))) dNil)) [none,some (.val (.scr ns)),some (.val (.int a)),some (.val (.int most))] (zax 0 m)=.ok ((List.range m).map fun k:Nat=>.int (zaM ns (some (a+(k:Int))) none (some most)).sum):=zep fun i hi=>by
  have gs:=zhB (ds:=ns) (lo:=some (a+(i:Int))) (hi:=none) (c:=most) (by omega)
  simp [gs]
 refine ⟨(List.range m).map fun k:Nat=>(zaM ns (some (a+(k:Int))) none (some most)).sum,by simpa using hm,?_⟩
 rw [List.map_map]
 have lz:=zaG (show m≤1000 by omega)
 simp [F_z3,G_z3,em,r1,key,zba,lz]
def G_z6:FS:=(sSeq (sSet 2 (za0 F_z3 (zab (dVar 0) (zab (dVar 1) (zab (dC (.int 24)) dNil))))) (sSeq (sIf (za1 (dOp gEq (dVar 2) (dLst dNil))) (sRet (dLst (zab (dBlt gLen (zab (dVar 0) dNil)) dNil))) zbb) (sRet (dVar 2))))
def F_z6:List D→Res D:=runD 3 2 G_z6
theorem f_z6 {ns:List Int}(h:ns.length≤63):∃ pool:List Int,F_z6 [.scr ns,.int 1]=.ok (.lst (pool.map .int))∧1≤pool.length∧pool.length≤24:=by
 obtain ⟨cs,h1,h2⟩:=zcW h (a:=1) (most:=24) (by omega) (by omega) (by omega) (by omega)
 have ge:=zhu (zhY cs)
 cases c:cs.isEmpty with
 | true =>
  rw [c] at ge
  exact ⟨[(ns.length:Int)],by simp [F_z6,G_z6,h2,ge],by simp,by simp⟩
 | false =>
  rw [c] at ge
  refine ⟨cs,by simp [F_z6,G_z6,h2,ge],?_,by omega⟩
  cases cs with
  | nil=>first|exact zqn c|exact zqb c|(obtain rfl:=Option.some.inj c)|cases c
  | cons a l=>simp
def zfg:FS:=(sSeq (sSet 2 (za0 F_z6 (zab (dVar 0) (zab (dVar 1) dNil)))) (sSeq (sSet 3 (za0 F_z1 (zab (dVar 0) (zab (dC (.int 0)) dNil)))) (sSeq (sSet 4 (dOp gEq (dOp gMod (dVar 3) (dC (.int 5))) (dC (.int 1)))) (sSeq (sSet 5 (dOp gAdd (dC (.int 1)) (dOp gMod (dOp zbh (dVar 3) (dC (.int 5))) (dC (.int 4))))) (sSeq (sIf (za1 (dVar 4)) (sSet 5 (dC (.int 1))) zbb) (sSeq (sSet 6 (za0 F_z5 (zab (dOp zbh (dVar 3) (dC (.int 20))) (zab (dVar 5) dNil)))) (sSeq (sOwn 7 (dLst dNil)) (sSeq (sFor (iR1 (zab (dVar 5) dNil)) (.one 8) (sSeq (sOwn 9 (zeS [7] (zcm [none] (iS (dVar 7)) (.one 0) (dTup (zab (dOp gIx (dVar 0) (dC (.int 0))) (zab (dBlt gLen (zab (dOp gIx (dVar 0) (dC (.int 1))) dNil)) dNil)))))) (fun sd=>(zaC 7 (za0 F_z9 (zab (dVar 2) (zab (dVar 8) (zab (dOp gIx (dVar 6) (dVar 8)) (zab (dVar 9) (zab (dVar 4) dNil))))))) (frzD [9] sd)))) (zb6 7)))))))))
def zei:List D→Res D:=runN 10 2 zfg
structure BkOk (ps:List Pl):Prop where
 l1:1≤ps.length
 l2:ps.length≤4
 pls:∀ (i:Nat) (p:Pl),ps[i]? = some p→PlOk (zbk (ps.take i)) p
 few:ps.length=1∨∀ p∈ps,p.rows.length≤6
 names:∃ (q:Int) (base:Str),TxtOk 9 base∧low base∧ps.map (·.name)=(List.range ps.length).map (nmF q base)
theorem f_z10 {ns:List Int}(h:ns.length≤63):∃ ps:List Pl,zei [.scr ns,.int 1]=.ok (.lst (ps.map zas))∧BkOk ps:=by
 obtain ⟨pool,hp,p1,p2⟩:=f_z6 h
 have hc:=f_z1 ns 0
 obtain ⟨fst,hf⟩:∃ c,zi5 ns 0=c:=⟨_,rfl⟩
 have hc:F_z1 [.scr ns,.int 0]=.ok (.int fst):=by rw [← hf];exact hc
 obtain ⟨wide,hw⟩:∃ b:Bool,decide (fst % 5=1)=b:=⟨_,rfl⟩
 obtain ⟨many,hm,m1,m2,m3⟩:∃ m:Nat,(if wide=true then (1:Int) else 1+fst / 5 % 4)=(m:Int)∧1≤m∧m≤4∧(wide=true→m=1):=by
  cases wide with
  | true=>exact ⟨1,rfl,by omega,by omega,fun _=>rfl⟩
  | false=>exact ⟨(1+fst / 5 % 4).toNat,by simp;omega,by omega,by omega,fun z=>nomatch z⟩
 obtain ⟨base,bk,bl,fn⟩:=zbG (fst / 20) (many:=many) (by omega)
 obtain ⟨q,hq⟩:∃ q,fst / 20 % 4=q:=⟨_,rfl⟩
 rw [hq] at fn
 obtain ⟨nm,hnm⟩:∃ nm,(List.range many).map (nmF q base)=nm:=⟨_,rfl⟩
 have nl:nm.length=many:=by rw [← hnm,List.length_map,List.length_range]
 have nat_:∀ k:Nat,k<many→nm[k]? = some (nmF q base k):=fun k hk=>by rw [← hnm,List.getElem?_map,List.getElem?_range hk];rfl
 rw [hnm] at fn
 have r0:zbp [.int many]=.ok (zax 0 many):=by rw [zaF (by omega) (by omega),Int.toNat_natCast]
 obtain ⟨sd1,e1,ps,u8,u9,hsd1,hl,ok,hn,fw⟩:=zbl (tg:=.one 8) (b:=(sSeq (sOwn 9 (zeS [7] (zcm [none] (iS (dVar 7)) (.one 0) (dTup (zab (dOp gIx (dVar 0) (dC (.int 0))) (zab (dBlt gLen (zab (dOp gIx (dVar 0) (dC (.int 1))) dNil)) dNil)))))) (fun sd=>(zaC 7 (za0 F_z9 (zab (dVar 2) (zab (dVar 8) (zab (dOp gIx (dVar 6) (dVar 8)) (zab (dVar 9) (zab (dVar 4) dNil))))))) (frzD [9] sd)))) (ds:=zax 0 many)
  (sd:=[some (.val (.scr ns)),some (.val (.int 1)),some (.val (.lst (pool.map .int))),some (.val (.int fst)),some (.val (.bl wide)),some (.val (.int many)),some (.val (.lst (nm.map .str))),some (.own false (.lst [])),none,none])
  (P:=fun i sd => ∃ (ps:List Pl) (u8 u9:Option SV),sd=[some (.val (.scr ns)),some (.val (.int 1)),some (.val (.lst (pool.map .int))),some (.val (.int fst)),some (.val (.bl wide)),some (.val (.int many)),some (.val (.lst (nm.map .str))),some (.own false (.lst (ps.map zas))),u8,u9]∧ps.length=i∧(∀ (k:Nat) p,ps[k]? = some p→PlOk (zbk (ps.take k)) p)∧ps.map (·.name)=nm.take i∧∀ p∈ps,wide=false→p.rows.length≤6) ⟨[],none,none,rfl,rfl,fun k x h=>by simp at h,by simp,fun _ h=>nomatch h⟩ (by
   rintro i x sd hx ⟨ps,u8,u9,rfl,hl,ok,hn,fw⟩
   obtain ⟨rfl,hi⟩:=zbt hx
   have eI:(0+(i:Int))=(i:Int):=by omega
   have mem:∀ p∈ps,TxtOk 12 p.name∧1≤p.givens.length∧p.givens.length≤12:=fun p hp=>by
    obtain ⟨k,hk,e⟩:=List.getElem_of_mem hp
    have ok1:=ok k p (by rw [List.getElem?_eq_getElem hk,e])
    have hm:p.name∈nm.take i:=by rw [← hn];exact List.mem_map.mpr ⟨p,hp,rfl⟩
    have hm:=List.mem_of_mem_take hm
    rw [← hnm] at hm
    obtain ⟨j,hj,ej⟩:=List.mem_map.mp hm
    refine ⟨?_,ok1.g1,ok1.g2⟩
    rw [← ej]
    exact zhC (by have:=List.mem_range.mp hj;omega) bk
   have po:zdB (zbk ps):=fun p hp=>by
    obtain ⟨y,hy,rfl⟩:=List.mem_map.mp hp
    obtain ⟨a,b,c⟩:=mem y hy
    exact ⟨a,by show (1:Int)≤(y.givens.length:Int);omega,by show (y.givens.length:Int)≤12;omega⟩
   have key:mapE (.one 0) (dTup (zab (dOp gIx (dVar 0) (dC (.int 0))) (zab (dBlt gLen (zab (dOp gIx (dVar 0) (dC (.int 1))) dNil)) dNil))) [none] (ps.map zas)=.ok ((zbk ps).map prtD):=by
    unfold zbk
    rw [List.map_map]
    exact zd2 fun p _=>by simp [prtD]
   obtain ⟨p,hp,pn,pk,pf⟩:=f_z9 (at_:=i) (name:=nmF q base i) (parts:=zbk ps) (wide:=wide) p1 p2 (by omega) po
   have nx:atI (nm.map D.str) (i:Int)=some (.str (nmF q base i)):=by
    rw [zb8 (by rw [List.length_map];omega),List.getElem?_map,nat_ _ (by omega)]
    rfl
   have hz:=zaG (show ps.length≤1000 by omega)
   have fl:=zeG (zbk ps)
   refine ⟨[some (.val (.scr ns)),some (.val (.int 1)),some (.val (.lst (pool.map .int))),some (.val (.int fst)),some (.val (.bl wide)),some (.val (.int many)),some (.val (.lst (nm.map .str))),some (.own false (.lst ((ps++[p]).map zas))),some (.val (.int (i:Int))),some (.val (.lst ((zbk ps).map prtD)))],?_,_,_,_,rfl,by simp [hl],fun k x hk => ?_,?_,fun x hx z=>(List.mem_append.mp hx).elim (fun y=>fw x y z) fun y=>by rw [List.mem_singleton.mp y];exact pf z⟩
   ·simp [key,hz,fl,nx,hp]
   ·by_cases z:k<ps.length
    ·rw [List.getElem?_append_left z] at hk
     rw [List.take_append_of_le_length (by omega)]
     exact ok k x hk
    ·rw [List.getElem?_append_right (by omega)] at hk
     have kz:k-ps.length=0:=by
      cases e:k-ps.length with
      | zero=>rfl
      | succ j=>rw [e] at hk;simp at hk
     rw [kz] at hk
     first|exact zqn hk|exact zqb hk|(obtain rfl:=Option.some.inj hk)|cases hk
     have:k=ps.length:=by omega
     rw [this,List.take_left']
     ·exact pk
     ·rfl
   ·rw [List.map_append,hn,List.take_succ,nat_ _ (by omega)]
    show _++[p.name]=_
    rw [pn]
    rfl)
 rw [zba] at hl hn
 subst hsd1
 have few:ps.length=1∨∀ p∈ps,p.rows.length≤6:=by
  by_cases w:wide=false
  ·exact .inr fun p hp=>fw p hp w
  ·exact .inl (by rw [hl];exact m3 (by simpa using w))
 refine ⟨ps,?_,⟨by omega,by omega,ok,few,q,base,bk,bl,?_⟩⟩
 ·cases wide with
  | true =>
   have hm:(1:Int)=(many:Int):=hm
   simp at hw
   simp [zei,zfg,hp,hc,hw,fn,r0,e1,← hm] at fn r0 e1 ⊢
   simp [fn,r0,e1]
  | false =>
   have hm:1+fst / 5 % 4=(many:Int):=hm
   simp at hw
   simp [zei,zfg,hp,hc,hw,hm,fn,r0] at e1 ⊢
   simp [e1]
 ·rw [hn,List.take_of_length_le (by omega),← hnm,hl]
theorem ziO {ps:List Pl}(B:BkOk ps):WB ps:=by
 obtain ⟨q,base,bk,bl,e⟩:=B.names
 have l2:=B.l2
 have mem:∀ p∈ps,∃ k,k<ps.length∧p.name=nmF q base k:=fun p hp=>by
  have hm:p.name∈ps.map (·.name):=List.mem_map.mpr ⟨p,hp,rfl⟩
  rw [e] at hm
  obtain ⟨k,hk,ek⟩:=List.mem_map.mp hm
  exact ⟨k,List.mem_range.mp hk,ek.symm⟩
 refine ⟨B.l1,by omega,by rw [e];exact zgu q base (by omega),fun p hp => ?_,fun i p hi r hr => ?_,fun p hp => ?_⟩
 ·obtain ⟨k,hk,ek⟩:=mem p hp
  rw [ek]
  exact ⟨zhC (by omega) bk,ziI _ _ _,zke (by decide +kernel),zke (by decide +kernel)⟩
 ·obtain ⟨k,hk⟩:=List.getElem?_of_mem hr
  rcases ((B.pls i p hi).rows k r hk).how with z|z|z
  ·exact .inl z
  ·exact .inr (.inl z)
  ·obtain ⟨y,hy,ey⟩:=List.mem_map.mp z
   refine .inr (.inr (List.mem_map.mpr ⟨y,hy,?_⟩))
   exact congrArg Prod.fst ey
 ·obtain ⟨i,hi⟩:=List.getElem?_of_mem hp
  exact ⟨(B.pls i p hi).r2,(B.pls i p hi).g2⟩
def G_z0:FS:=(sSeq (sFor (iS (dUn (gFld "Book" "plans") (dVar 0))) (.one 2) (sIf (za1 (dOp gEq (dUn (gFld "Plan" "name") (dVar 2)) (dVar 1))) (sRet (dVar 2)) zbb)) (zdO "NoPlan" ((jCon "no plan is called " (jFv zin (dVar 1) jNil)) Str.empty)))
def F_z0:List D→Res D:=runD 3 2 G_z0
theorem f_z0 {ps:List Pl}{x:Str}(hx:asc x)(hp:∀ p∈ps,asc p.name)(hr:(reprText x).length≤400):F_z0 [zbn ps,.str x]=match ps.find? fun p=>decide (p.name=x) with
 | some p=>.ok (zar p)
 | none=>.ex "NoPlan" []:=by
 have ge:∀ p∈ps,gEq (.str p.name) (.str x)=some (.bl (decide (p.name=x))):=fun p hq=>by
  rw [zdQ (zb2 (hp p hq)) (zb2 hx)]
  unfold zaB
  congr 2
  exact decide_eq_decide.mpr ⟨fun z=>by injection z,fun z=>by rw [z]⟩
 have lp:forT (.one 2) (sIf (za1 (dOp gEq (dUn (gFld "Plan" "name") (dVar 2)) (dVar 1))) (sRet (dVar 2)) zbb) (ps.map zar) [some (.val (zbn ps)),some (.val (.str x)),none]=match ps.find? fun p=>decide (p.name=x) with
  | some p=>.ok (.ret (zar p))
  | none=>.ok (.next ([some (.val (zbn ps)),some (.val (.str x))]++[ps.getLast?.map fun p=>.val (zar p)])):=by
  refine zgh (R:=fun r=>r=match ps.find? fun p=>decide (p.name=x) with
   | some p=>.ok (.ret (zar p))
   | none=>.ok (.next ([some (.val (zbn ps)),some (.val (.str x))]++[ps.getLast?.map fun p=>.val (zar p)]))) (P:=fun i sd=>(∀ q∈ps.take i,decide (q.name=x)=false)∧sd=[some (.val (zbn ps)),some (.val (.str x))]++[(ps.take i).getLast?.map fun p=>.val (zar p)]) ⟨fun q h=>by simp at h,by simp⟩ (fun sd ⟨h1,h2⟩ => ?_) fun i d sd hd ⟨h1,h2⟩ => ?_
  ·rw [List.length_map,List.take_length] at h1 h2
   have:ps.find? (fun p=>decide (p.name=x))=none:=List.find?_eq_none.mpr fun q hq=>by rw [h1 q hq];simp
   rw [this,h2]
  ·obtain ⟨p,hp1,rfl⟩:=zgf hd
   have hi:i<ps.length:=(List.getElem?_eq_some_iff.mp hp1).1
   have hm:p∈ps:=List.mem_of_getElem? hp1
   have gp:=ge p hm
   have tk:ps.take (i+1)=ps.take i++[p]:=by rw [List.take_succ,hp1];rfl
   cases c:decide (p.name=x) with
   | true =>
    rw [c] at gp
    refine .inr (.inr ⟨zar p,?_,?_⟩)
    ·subst h2
     simp [gp]
    ·rw [zfr h1 hp1 c]
   | false =>
    rw [c] at gp
    refine .inl ⟨[some (.val (zbn ps)),some (.val (.str x))]++[some (.val (zar p))],.inl ?_,fun q hq => ?_,?_⟩
    ·subst h2
     simp [gp]
    ·rw [tk] at hq
     rcases List.mem_append.mp hq with z|z
     ·exact h1 q z
     ·rw [List.mem_singleton.mp z];exact c
    ·rw [tk,List.getLast?_concat]
     rfl
 have l1:("no plan is called " : Str).length=18:=by decide +kernel
 have l0:(Str.empty:Str).length=0:=rfl
 have a1:((Str.empty:Str) ++ "no plan is called ").length≤sizeLine:=zcq (by rw [zc8];omega)
 have a2:(reprText x).length≤sizeLine:=zcq (by omega)
 have a3:((Str.empty:Str) ++ "no plan is called " ++ reprText x).length≤sizeLine:=zcq (by rw [zc8,zc8];omega)
 cases c:ps.find? fun p=>decide (p.name=x) with
 | some p =>
  rw [c] at lp
  simp at lp
  simp [F_z0,G_z0,lp]
 | none =>
  rw [c] at lp
  simp at lp
  simp [F_z0,G_z0,lp,jCon,jFv,jNil,zin,a1,a2,a3]
def zg8:FS:=(sSeq (sSet 2 (dC .non)) (sSeq (zdZ ["NoPlan"] 3 (zgj (zdD F_z0 (zab (dVar 0) (zab (dVar 1) dNil)))) (sSet 2 (dVar 3))) (sSeq (sIf (dOrT (zcO (za1 (dBlt (zen ["NoPlan"]) (zab (dVar 2) (zab (dC (.ucl "NoPlan")) dNil))))) (zcO (za1 (dBlt (zen ["NoPlan"]) (zab (dVar 2) (zab (dC (.ty "ValueError")) dNil)))))) (sRet (dC (.bl false))) zbb) (sRet (zif (dBlt (zcY ["NoPlan"] ["BadName", "BadPart", "BadPlan", "NoName", "TooLong", "TooMany", "Unlike"]) (zab (dVar 2) (zab (dTup (zab (dC (.ucl "BadName")) (zab (dC (.ucl "BadPart")) (zab (dC (.ucl "BadPlan")) (zab (dC (.ucl "NoName")) (zab (dC (.ucl "TooLong")) (zab (dC (.ucl "TooMany")) (zab (dC (.ucl "Unlike")) dNil)))))))) dNil))))))))
def zdg:List D→Res D:=runD 4 2 zg8
theorem f_z12 {bk:D}{x:Str}(h:F_z0 [bk,.str x]=.ex "NoPlan" []):zdg [bk,.str x]=.ok (.bl true):=by
 have v:=zfC (cs:=["NoPlan"]) (c := "NoPlan") (List.mem_singleton.mpr rfl)
 have t:zcY ["NoPlan"] ["BadName", "BadPart", "BadPlan", "NoName", "TooLong", "TooMany", "Unlike"] [.exc "NoPlan",.tup [.ucl "BadName",.ucl "BadPart",.ucl "BadPlan",.ucl "NoName",.ucl "TooLong",.ucl "TooMany",.ucl "Unlike"]]=some (.bl false):=zeY (List.mem_singleton.mpr rfl)
 have e:zdW ["NoPlan"] 3 (sSet 2 (dVar 3)) [some (.val bk),some (.val (.str x)),some (.val .non),none] (.ex "NoPlan" [])=.ok (.next [some (.val bk),some (.val (.str x)),some (.val (.exc "NoPlan")),none]):=by
  rw [zdj 3 _ _ (List.mem_singleton.mpr rfl)]
  simp [Res.strict,zfA]
 simp [zdg,zg8,h,e,v,t]
def zgN:FS:=(sSeq (sSet 1 (za0 zei (zab (dVar 0) (zab (dC (.int 1)) dNil)))) (sSeq (sOwn 2 (dLst dNil)) (sSeq (sFor (iS (dVar 1)) (.one 3) (zel 4 (zab (dBlt zcp (zab (dOp gIx (dVar 3) (dC (.int 1))) dNil)) (zab (dBlt zcp (zab (dOp gIx (dVar 3) (dC (.int 2))) dNil)) dNil)) (zec (zfR 2 (zbR "Plan" ["name", "givens", "rows"] I_Plan (zab (dOp gIx (dVar 3) (dC (.int 0))) (zab (dOp gIx (dVar 4) (dC (.int 0))) (zab (dOp gIx (dVar 4) (dC (.int 1))) dNil))))) (zec (zcr (dOp gIx (dVar 4) (dC (.int 0))) (dC (.str "more"))) (zcr (dOp gIx (dVar 4) (dC (.int 1))) (dTup (zab (dC (.str "more")) (zab (dC (.str "all")) (zab (dTup (zab (dTup (zab (dC (.int 0)) (zab (dC (.int 0)) dNil))) dNil)) dNil))))))))) (sSeq (sSet 5 (zgi 2 (zbR "Book" ["plans"] I_Book (zab (dVar 2) dNil)))) (sSeq (zaC 2 (zdd 2 (dC (.int 0)))) (sSeq (sIf (dOrT (za1 (dOp gNe (za0 ze1 (zab (dVar 5) dNil)) (dVar 1))) (zcO (za1 (dBlt gIsi (zab (dUn (gFld "Book" "plans") (dVar 5)) (zab (dC (.ty "list")) dNil)))))) (sRet (dC (.bl false))) zbb) (sSeq (sSet 6 (zcm [none] (iS (dVar 1)) (.one 0) (dOp gIx (dVar 0) (dC (.int 0))))) (sSeq (sFor (iR1 (zab (dBlt gLen (zab (dVar 1) dNil)) dNil)) (.one 7) (sSeq (sSet 8 (za0 F_z0 (zab (dVar 5) (zab (dOp gIx (dVar 6) (dVar 7)) dNil)))) (sSeq (sIf (za1 (dOp gNe (dTup (zab (dUn (gFld "Plan" "name") (dVar 8)) (zab (dUn (gFld "Plan" "givens") (dVar 8)) (zab (dUn (gFld "Plan" "rows") (dVar 8)) dNil)))) (dOp gIx (dVar 1) (dVar 7)))) (sRet (dC (.bl false))) zbb) (sFor (iS (dLst (zab (dSlS (dOp gIx (dVar 6) (dVar 7)) zaV (zbJ (dUn gNeg (dC (.int 1))))) (zab (dOp gAdd (dOp gIx (dVar 6) (dVar 7)) (dC (.str "0"))) (zab (dSlS (dOp gIx (dVar 6) (dVar 7)) (zbJ (dC (.int 1))) zaV) (zab (dC (.str "plan")) (zab (dC (.str "")) dNil))))))) (.one 9) (sIf (zdw (za1 (dOp (gIn true) (dVar 9) (dVar 6))) (zcO (za1 (za0 zdg (zab (dVar 5) (zab (dVar 9) dNil)))))) (sRet (dC (.bl false))) zbb))))) (sRet (dOp gEq (za0 ze1 (zab (dVar 5) dNil)) (dVar 1)))))))))))
def zd0:List D→Res D:=runD 10 1 zgN
theorem zgm {ps:List Pl}(W:WB ps){i:Nat}{p:Pl}(hi:ps[i]? = some p):ps.find? (fun q=>decide (q.name=p.name))=some p:=by
 have hlt:i<ps.length:=(List.getElem?_eq_some_iff.mp hi).1
 refine zfr (i:=i) (fun q hq=>decide_eq_false fun z => ?_) hi (decide_eq_true rfl)
 have:=W.fresh hi
 rw [zdP] at this
 exact this (List.mem_map.mpr ⟨q,hq,z⟩)
theorem zfF {x:Str}(h:TxtOk 20 x):(reprText x).length≤400:=by
 have rl:=StrLaws.reprText_len x fun c hc=>Nat.lt_trans (zbf.mp h.asc c hc) (by decide)
 have:=h.len
 omega
theorem zcy {ps:List Pl}(B:BkOk ps)(m:Nat){p:Pl}(hp:p∈ps):plN (m+6) (zas p)=true:=by
 have W:=ziO B
 obtain ⟨i,hi⟩:=List.getElem?_of_mem hp
 have K:=B.pls i p hi
 have g2:=K.g2
 have r2:=K.r2
 obtain ⟨q',base',bk',bl',e'⟩:=K.names
 have tn:∀ x∈p.givens++p.rows.map (·.1),asc x:=fun x hx=>by
  rw [e'] at hx
  obtain ⟨k,hk,rfl⟩:=List.mem_map.mp hx
  have:=List.mem_range.mp hk
  exact (zhC (by omega) bk').asc
 have hasc:∀ r∈p.rows,asc r.1∧asc r.2.1:=fun r hr=>by
  refine ⟨tn r.1 (List.mem_append_right _ (List.mem_map.mpr ⟨r,hr,rfl⟩)),?_⟩
  rcases W.how i p hi r hr with z|z|z
  ·rw [z];exact (zaK (n:=3) (by decide +kernel)).asc
  ·rw [z];exact (zaK (n:=5) (by decide +kernel)).asc
  ·obtain ⟨y,hy,ey⟩:=List.mem_map.mp z
   rw [← ey]
   exact (W.ok y (List.mem_of_mem_take hy)).1.asc
 have a1:plN (m+5) (.lst (p.givens.map .str))=true:=by
  show (p.givens.map D.str).all (plN (m+4))=true
  rw [List.all_eq_true]
  intro y hy
  obtain ⟨z,hz,rfl⟩:=List.mem_map.mp hy
  exact zb2 (n:=m+3) (tn z (List.mem_append_left _ hz))
 have a2:plN (m+5) (.lst (p.rows.map rowD))=true:=by
  show (p.rows.map rowD).all (plN (m+4))=true
  rw [List.all_eq_true]
  intro y hy
  obtain ⟨r,hr,rfl⟩:=List.mem_map.mp hy
  obtain ⟨b1,b2⟩:=hasc r hr
  show [D.str r.1,D.str r.2.1,rwD r.2.2].all (plN (m+3))=true
  rw [List.all_cons,List.all_cons,List.all_cons,zb2 (n:=m+2) b1,zb2 (n:=m+2) b2,pl_rw m]
  rfl
 show [D.str p.name,D.lst (p.givens.map .str),D.lst (p.rows.map rowD)].all (plN (m+5))=true
 rw [List.all_cons,List.all_cons,List.all_cons,zb2 (n:=m+4) (W.ok p hp).1.asc,a1,a2]
 rfl
theorem zgp {x:Str}{l:List Str}(hx:asc x)(h:∀ y∈l,asc y):gIn true (.str x) (.lst (l.map .str))=some (.bl (!decide (x∈l))):=by
 have ha:(l.map D.str).all (plN 12)=true:=by
  rw [List.all_map,List.all_eq_true]
  exact fun y hy=>zb2 (n:=11) (h y hy)
 have e:(l.map D.str).any (fun e=>zaB e (.str x))=decide (x∈l):=by
  rw [List.any_map]
  by_cases h:x∈l
  ·rw [decide_eq_true h]
   exact List.any_eq_true.mpr ⟨x,h,by show zaB (.str x) (.str x)=true;exact zaE _⟩
  ·rw [decide_eq_false h]
   refine List.any_eq_false.mpr fun y hy => ?_
   show ¬ zaB (.str y) (.str x)=true
   intro z
   have z:D.str y=D.str x:=@of_decide_eq_true _ (Classical.propDecidable _) z
   exact h (by injection z with z;exact z ▸ hy)
 show (if plN 12 (D.str x)&&(l.map D.str).all (plN 12) then some (D.bl (if true then !(l.map D.str).any (fun e=>zaB e (.str x)) else (l.map D.str).any fun e=>zaB e (.str x))) else none)=_
 rw [zb2 (n:=11) hx,ha,e]
 rfl
theorem ziv {ps:List Pl}(W:WB ps){x:Str}(hx:TxtOk 20 x)(h:x∉ps.map (·.name)):zdg [zbn ps,.str x]=.ok (.bl true):=by
 refine f_z12 ?_
 rw [f_z0 hx.asc (fun p hp=>(W.ok p hp).1.asc) (zfF hx),List.find?_eq_none.mpr fun q hq => ?_]
 rw [decide_eq_true_iff]
 exact fun z=>h (List.mem_map.mpr ⟨q,hq,z⟩)
theorem zho {i:Nat}{fr:FA}{g:FS2}{sd:SD}{ds:List D}{o:Out}(hf:fr sd=.ok ds)(hl:ds.length≤1000)(h:∀ as:List Addr,as.length=ds.length→as.Nodup→(g (sd.set i (some (.val (.lst (as.map .adr))))) (as.zip ds)).bind (zjX i)=.ok o):zel i fr g sd=.ok o:=by
 unfold zel
 rw [hf]
 show (if ds.length≤1000 then _ else _)=_
 rw [if_pos hl]
 exact zih h
def mkB:FS2:=(zec (zfR 2 (zbR "Plan" ["name", "givens", "rows"] I_Plan (zab (dOp gIx (dVar 3) (dC (.int 0))) (zab (dOp gIx (dVar 4) (dC (.int 0))) (zab (dOp gIx (dVar 4) (dC (.int 1))) dNil))))) (zec (zcr (dOp gIx (dVar 4) (dC (.int 0))) (dC (.str "more"))) (zcr (dOp gIx (dVar 4) (dC (.int 1))) (dTup (zab (dC (.str "more")) (zab (dC (.str "all")) (zab (dTup (zab (dTup (zab (dC (.int 0)) (zab (dC (.int 0)) dNil))) dNil)) dNil)))))))
theorem mk_ok {x y:D}{l:List Pl}{p:Pl}{a b:Addr}(ab:a≠b)(hl:l.length≤100)(g1:p.givens.length≤12)(r1:p.rows.length≤40):∃ hp,mkB [some (.val x),some (.val y),some (.own false (.lst (l.map zar))),some (.val (zas p)),some (.val (.lst [.adr a,.adr b])),none,none,none,none,none] [(a,.lst (p.givens.map .str)),(b,.lst (p.rows.map rowD))]=.ok (.next [some (.val x),some (.val y),some (.own false (.lst (l.map zar++[zar p]))),some (.val (zas p)),some (.val (.lst [.adr a,.adr b])),none,none,none,none,none] hp):=by
 have z1:=zaG (show l.length≤1000 by omega)
 have z2:=zaG (show p.givens.length≤1000 by omega)
 have z3:=zaG (show p.rows.length≤1000 by omega)
 have ba:¬ b=a:=fun z=>ab z.symm
 refine ⟨[(a,.lst (p.givens.map .str++[.str "more"])),(b,.lst (p.rows.map rowD++[.tup [.str "more",.str "all",.tup [.tup [.int 0,.int 0]]]]))],?_⟩
 have t0:atI [D.adr a,D.adr b] 0=some (.adr a):=rfl
 have t1:atI [D.adr a,D.adr b] 1=some (.adr b):=rfl
 simp [mkB,zec,zfR,zcr,zbR,I_Plan,zdn,zbm,zdx,e2L,zby,hpAt,ze0,zaN,ba,z1,z2,z3,t0,t1,zar]
theorem law_true (ns:List Int)(h:ns.length≤63):zd0 [.scr ns]=.ok (.bl true):=by
 obtain ⟨ps,e1,B⟩:=f_z10 h
 have W:=ziO B
 have l1:=B.l1
 have l2:=B.l2
 have pl:plN 12 (.lst (ps.map zas))=true:=by
  show (ps.map zas).all (plN 11)=true
  rw [List.all_map,List.all_eq_true]
  exact fun p hp=>zcy B 5 hp
 have nasc:∀ y∈ps.map (·.name),asc y:=fun y hy=>by
  obtain ⟨p,hp,rfl⟩:=List.mem_map.mp hy
  exact (W.ok p hp).1.asc
 have ff:=f_z11 (ps:=ps) (by omega)
 obtain ⟨nm,hnm⟩:∃ nm,ps.map (·.name)=nm:=⟨_,rfl⟩
 have nl:nm.length=ps.length:=by rw [← hnm,List.length_map]
 obtain ⟨sd1,f1,u3,hsd1⟩:=zbl (tg:=.one 3) (b:=zel 4 (zab (dBlt zcp (zab (dOp gIx (dVar 3) (dC (.int 1))) dNil)) (zab (dBlt zcp (zab (dOp gIx (dVar 3) (dC (.int 2))) dNil)) dNil)) mkB) (ds:=ps.map zas)
  (sd:=[some (.val (.scr ns)),some (.val (.lst (ps.map zas))),some (.own false (.lst [])),none,none,none,none,none,none,none])
  (P:=fun i sd => ∃ u3:Option SV,sd=[some (.val (.scr ns)),some (.val (.lst (ps.map zas))),some (.own false (.lst ((ps.take i).map zar))),u3,none,none,none,none,none,none]) ⟨none,rfl⟩ (by
   rintro i x sd hx ⟨u3,rfl⟩
   obtain ⟨p,hp,rfl⟩:=zgf hx
   have hi:=(List.getElem?_eq_some_iff.mp hp).1
   have K:=B.pls i p hp
   refine ⟨[some (.val (.scr ns)),some (.val (.lst (ps.map zas))),some (.own false (.lst ((ps.take i).map zar++[zar p]))),some (.val (zas p)),none,none,none,none,none,none],?_,some (.val (zas p)),?_⟩
   ·rw [zfc]
    show zel 4 (zab (dBlt zcp (zab (dOp gIx (dVar 3) (dC (.int 1))) dNil)) (zab (dBlt zcp (zab (dOp gIx (dVar 3) (dC (.int 2))) dNil)) dNil)) mkB [some (.val (.scr ns)),some (.val (.lst (ps.map zas))),some (.own false (.lst ((ps.take i).map zar))),some (.val (zas p)),none,none,none,none,none,none]=_
    refine zho (ds:=[.lst (p.givens.map .str),.lst (p.rows.map rowD)]) ?_ (show 2≤1000 by omega) fun as ha nd => ?_
    ·simp
    match as,ha,nd with
    | [a,b],_,nd =>
     have ab:a≠b:=fun z=>by subst z;simp at nd
     obtain ⟨hp,e⟩:=mk_ok (x:=.scr ns) (y:=.lst (ps.map zas)) (l:=ps.take i) (p:=p) ab (by rw [List.length_take];omega) K.g2 K.r2
     show Res.bind (mkB _ _) _=_
     erw [e]
     rfl
   ·rw [List.take_succ,hp,List.map_append]
    rfl)
 rw [List.length_map,List.take_length] at hsd1
 subst hsd1
 have bk:zgi 2 (zbR "Book" ["plans"] I_Book (zab (dVar 2) dNil)) [some (.val (.scr ns)),some (.val (.lst (ps.map zas))),some (.own false (.lst (ps.map zar))),u3,none,none,none,none,none,none]=.ok (zbn ps):=by
  show allD _=_
  refine zhE fun a => ?_
  simp [zbR,I_Book,zdn,zbm,zdx,zby,hpAt,zaN]
  rfl
 obtain ⟨p0,hp0⟩:∃ p0,ps[0]? = some p0:=⟨ps[0],List.getElem?_eq_getElem (by omega)⟩
 have a0:atI (ps.map zar) 0=some (zar p0):=by
  have:=zb8 (l:=ps.map zar) (k:=0) (by rw [List.length_map];omega)
  rw [List.getElem?_map,hp0] at this
  exact this
 have z0:=zaG (show ps.length≤1000 by omega)
 have ne:gNe (.lst (ps.map zas)) (.lst (ps.map zas))=some (.bl false):=by rw [zfJ pl pl,zaE];rfl
 have eq:gEq (.lst (ps.map zas)) (.lst (ps.map zas))=some (.bl true):=by rw [zdQ pl pl,zaE]
 have kn:mapE (.one 0) (dOp gIx (dVar 0) (dC (.int 0))) [none] (ps.map zas)=.ok (nm.map .str):=by
  rw [← hnm,List.map_map]
  exact zd2 fun p _=>by simp
 have r0:zbp [.int (ps.length:Int)]=.ok (zax 0 ps.length):=by rw [zaF (by omega) (by omega),Int.toNat_natCast]
 obtain ⟨sd2,f2,u7,u8,u9,hsd2⟩:=zbl (tg:=.one 7) (b:=(sSeq (sSet 8 (za0 F_z0 (zab (dVar 5) (zab (dOp gIx (dVar 6) (dVar 7)) dNil)))) (sSeq (sIf (za1 (dOp gNe (dTup (zab (dUn (gFld "Plan" "name") (dVar 8)) (zab (dUn (gFld "Plan" "givens") (dVar 8)) (zab (dUn (gFld "Plan" "rows") (dVar 8)) dNil)))) (dOp gIx (dVar 1) (dVar 7)))) (sRet (dC (.bl false))) zbb) (sFor (iS (dLst (zab (dSlS (dOp gIx (dVar 6) (dVar 7)) zaV (zbJ (dUn gNeg (dC (.int 1))))) (zab (dOp gAdd (dOp gIx (dVar 6) (dVar 7)) (dC (.str "0"))) (zab (dSlS (dOp gIx (dVar 6) (dVar 7)) (zbJ (dC (.int 1))) zaV) (zab (dC (.str "plan")) (zab (dC (.str "")) dNil))))))) (.one 9) (sIf (zdw (za1 (dOp (gIn true) (dVar 9) (dVar 6))) (zcO (za1 (za0 zdg (zab (dVar 5) (zab (dVar 9) dNil)))))) (sRet (dC (.bl false))) zbb))))) (ds:=zax 0 ps.length)
  (sd:=[some (.val (.scr ns)),some (.val (.lst (ps.map zas))),some (.own false (.lst (ps.map zar++[zar p0]))),u3,none,some (.val (zbn ps)),some (.val (.lst (nm.map .str))),none,none,none])
  (P:=fun i sd => ∃ u7 u8 u9:Option SV,sd=[some (.val (.scr ns)),some (.val (.lst (ps.map zas))),some (.own false (.lst (ps.map zar++[zar p0]))),u3,none,some (.val (zbn ps)),some (.val (.lst (nm.map .str))),u7,u8,u9]) ⟨none,none,none,rfl⟩ (by
   rintro i x sd hx ⟨u7,u8,u9,rfl⟩
   obtain ⟨rfl,hi⟩:=zbt hx
   have eI:(0+(i:Int))=(i:Int):=by omega
   obtain ⟨p,hp⟩:∃ p,ps[i]? = some p:=⟨ps[i],List.getElem?_eq_getElem (by omega)⟩
   have pm:p∈ps:=List.mem_of_getElem? hp
   have tp:=(W.ok p pm).1
   have fp:=f_z0 (ps:=ps) (x:=p.name) tp.asc (fun q hq=>(W.ok q hq).1.asc) (zfF (tp.mono (by omega)))
   rw [zgm W hp] at fp
   have fp:F_z0 [zbn ps,.str p.name]=.ok (zar p):=fp
   have nx:atI (nm.map D.str) (i:Int)=some (.str p.name):=by
    rw [zb8 (by rw [List.length_map];omega),← hnm,List.map_map,List.getElem?_map,hp]
    rfl
   have px:atI (ps.map zas) (i:Int)=some (zas p):=by
    rw [zb8 (by rw [List.length_map];omega),List.getElem?_map,hp]
    rfl
   have pn:gNe (zas p) (zas p)=some (.bl false):=by rw [zfJ (zcy B 6 pm) (zcy B 6 pm),zaE];rfl
   obtain ⟨xs,hxs,hxt⟩:∃ xs:List Str,xs=[Txt.slice p.name none (some (-1)),p.name ++ "0",Txt.slice p.name (some 1) none, "plan", ""]∧∀ x∈xs,TxtOk 20 x:=⟨_,rfl,fun x hx=>by
    simp only [List.mem_cons,List.not_mem_nil,or_false] at hx
    rcases hx with rfl|rfl|rfl|rfl|rfl
    ·exact (tp.cut _ _).mono (by omega)
    ·exact (tp.app (zaK (n:=1) (by decide +kernel))).mono (by omega)
    ·exact (tp.cut _ _).mono (by omega)
    ·exact zaK (by decide +kernel)
    ·exact zaK (by decide +kernel)⟩
   obtain ⟨sd3,f3,v9,hsd3⟩:=zbl (tg:=.one 9) (b:=(sIf (zdw (za1 (dOp (gIn true) (dVar 9) (dVar 6))) (zcO (za1 (za0 zdg (zab (dVar 5) (zab (dVar 9) dNil)))))) (sRet (dC (.bl false))) zbb)) (ds:=xs.map .str)
    (sd:=[some (.val (.scr ns)),some (.val (.lst (ps.map zas))),some (.own false (.lst (ps.map zar++[zar p0]))),u3,none,some (.val (zbn ps)),some (.val (.lst (nm.map .str))),some (.val (.int i)),some (.val (zar p)),u9])
    (P:=fun _ sd => ∃ v9:Option SV,sd=[some (.val (.scr ns)),some (.val (.lst (ps.map zas))),some (.own false (.lst (ps.map zar++[zar p0]))),u3,none,some (.val (zbn ps)),some (.val (.lst (nm.map .str))),some (.val (.int i)),some (.val (zar p)),v9]) ⟨u9,rfl⟩ (by
     rintro j y sd hy ⟨v9,rfl⟩
     refine zc1b (zgf hy) fun x hx zr2 => ?_
     obtain rfl:=zr2
     have xt:=hxt x (List.mem_of_getElem? hx)
     have gi:=zgp xt.asc (hnm ▸ nasc)
     refine ⟨[some (.val (.scr ns)),some (.val (.lst (ps.map zas))),some (.own false (.lst (ps.map zar++[zar p0]))),u3,none,some (.val (zbn ps)),some (.val (.lst (nm.map .str))),some (.val (.int i)),some (.val (zar p)),some (.val (.str x))],?_,_,rfl⟩
     by_cases c:x∈nm
     ·rw [decide_eq_true c] at gi
      simp [gi]
     ·rw [decide_eq_false c] at gi
      have rf:=ziv W xt (hnm ▸ c)
      simp [gi,rf])
   subst hsd3
   have s1:=zfG tp (by omega) none (some (-1))
   have s2:=zfG tp (by omega) (some 1) none
   have s3:gAdd (.str p.name) (.str "0")=some (.str (p.name ++ "0")):=za6 tp (zaK (n:=1) (by decide +kernel)) (by omega)
   rw [hxs] at f3
   simp only [List.map_cons,List.map_nil] at f3
   refine ⟨[some (.val (.scr ns)),some (.val (.lst (ps.map zas))),some (.own false (.lst (ps.map zar++[zar p0]))),u3,none,some (.val (zbn ps)),some (.val (.lst (nm.map .str))),some (.val (.int i)),some (.val (zar p)),v9],?_,_,_,_,rfl⟩
   have pt:zas p=.tup [.str p.name,.lst (p.givens.map .str),.lst (p.rows.map rowD)]:=rfl
   rw [pt] at pn px
   simp only [eI]
   simp [nx,fp,px,pn,s1,s2,s3]
   exact f3)
 subst hsd2
 unfold mkB at f1
 have isl:gIsi [.lst (ps.map zar),.ty "list"]=some (.bl true):=rfl
 simp [zd0,zgN,e1,f1,bk,a0,z0,ff,ne,kn,r0,isl,f2,eq]
end My
set_option maxHeartbeats 4000000
namespace My
open PySem L2 L2.DL
noncomputable def top (i:Nat):Stmt:=PySem.Challenge.pw_allfirst_k42_plans_and_books.main.body.getD i (.Pass ⟨0,0,0,0⟩)
structure Mg (mg:Str→Option Value):Prop where
 ValueError_:mg "ValueError" = none
 isinstance_:mg "isinstance" = none
 len_:mg "len" = none
 list_:mg "list" = none
 max_:mg "max" = none
 min_:mg "min" = none
 range_:mg "range" = none
 str_:mg "str" = none
 sum_:mg "sum" = none
 tuple_:mg "tuple" = none
section
variable {P:Program}{w:World}{K:PySem.W.Frag}{mg:Str→Option Value}{base:Heap}{f:Addr}{fd:FuncData}
abbrev zdi:Stmt:=zfZ (top 12) 0
theorem zib:FnScope ["self", "plans"] ["self", "plans"] (zah zdi):=zbu
theorem ziz {C:Addr}(F:Fun K "__init__" "Book.__init__" zdi f fd)(m:Mg mg)(k:ClsD K mg "Book" C ["plans"]):FnOk P w K mg base CX0 1 f fd ["self", "plans"] (SpI2 K "Book" ["plans"] I_Book):=by
 have sc:=zib
 refine zjm (k:=0) (N:=["plans"]) (ps:=["self", "plans"]) (g:=(zbm (zby (dVar 1)) zdx)) F sc (by decide) (by decide) fun cdv A outer s H E hr => ?_
 exact (zbN k (by decide) (pv 0) (zcE (zac (pv 1)) rfl m.list_ zb5) zeJ)
abbrev zcG:Stmt:=zfZ (top 11) 0
theorem zhU:FnScope ["self", "name", "givens", "rows"] ["self", "name", "givens", "rows"] (zah zcG):=zbu
theorem zhX {C:Addr}(F:Fun K "__init__" "Plan.__init__" zcG f fd)(m:Mg mg)(k:ClsD K mg "Plan" C ["name", "givens", "rows"]):FnOk P w K mg base CX0 1 f fd ["self", "name", "givens", "rows"] (SpI2 K "Plan" ["name", "givens", "rows"] I_Plan):=by
 have sc:=zhU
 refine zjm (k:=0) (N:=["name", "givens", "rows"]) (ps:=["self", "name", "givens", "rows"]) (g:=(zbm (e2L (dVar 1)) (zbm (zby (dVar 2)) (zbm (zby (dVar 3)) zdx)))) F sc (by decide) (by decide) fun cdv A outer s H E hr => ?_
 exact (zbN k (by decide) (pv 0) (zgx (zac (pv 1))) (zbN k (by decide) (pv 0) (zcE (zac (pv 2)) rfl m.list_ zb5) (zbN k (by decide) (pv 0) (zcE (zac (pv 3)) rfl m.list_ zb5) zeJ)))
abbrev zi6:Stmt:=top 25
theorem zkd:FnScope ["book"] ["book"] (zah zi6):=zbu
theorem zjc {k:Nat}(F:Fun K "_law_fields" "_law_fields" zi6 f fd)(m:Mg mg)  {D_Book:Addr}(k_Book:ClsD K mg "Book" D_Book ["plans"]){D_Plan:Addr}(k_Plan:ClsD K mg "Plan" D_Plan ["name", "givens", "rows"]):FnOk P w K mg base CX0 (k+1) f fd ["book"] (SpN K ze1):=by
 have sc:=zkd
 refine fn_n (N:=["book"]) (ps:=["book"]) (g:=zgC) F sc fun cdv A outer s H E hr => ?_
 unfold zgC
 exact (zal (zeQ (zgY ["plan"] [none] rfl rfl (zcx (zco k_Book (by decide) (zac (pv 0)))) (fun _ _ _ _ _=>(zbc (pgn 0 (zgS ["plan"])))) (fun _ _ _ _ _=>(zbY (zaa (zco k_Plan (by decide) (zac (pv 0))) (zaa (zco k_Plan (by decide) (zac (pv 0))) (zaa (zco k_Plan (by decide) (zac (pv 0))) zaf))))))))
abbrev s_z1:Stmt:=top 15
theorem sc_z1:FnScope ["script", "k"] ["script", "k"] (zah s_z1):=zbu
theorem ok_z1 {k:Nat}(F:Fun K "_law_cell_at" "_law_cell_at" s_z1 f fd)(m:Mg mg)  : FnOk P w K mg base CX0 (k+1) f fd ["script", "k"] (SpD K F_z1):=by
 have sc:=sc_z1
 refine fn_d (N:=["script", "k"]) (ps:=["script", "k"]) (g:=G_z1) F sc fun cdv A outer s H E hr => ?_
 unfold G_z1
 exact (zae (zbx (zbj o_lt (zac (pv 1)) (za2 (x := "len") zcX rfl m.len_ zbC (zaa (zac (pv 0)) zaf)) (zbd _)) (zal (za8 (za5 (za3 hr) (zac (pv 0)) (zac (pv 1)) (fun _ _=>rfl) (fun _ _=>rfl)))) za9) (zal (za8 zad)))
abbrev s_z2:Stmt:=top 16
theorem sc_z2:FnScope ["cell", "salt", "mixed"] ["cell", "salt"] (zah s_z2):=zbu
theorem ok_z2 {k:Nat}(F:Fun K "_law_mixed" "_law_mixed" s_z2 f fd)(m:Mg mg)  : FnOk P w K mg base CX0 (k+1) f fd ["cell", "salt"] (SpD K F_z2):=by
 have sc:=sc_z2
 refine fn_d (N:=["cell", "salt", "mixed"]) (ps:=["cell", "salt"]) (g:=G_z2) F sc fun cdv A outer s H E hr => ?_
 unfold G_z2
 exact (zae (zao (i:=2) sc.nd rfl (.inl rfl) (q_op zaD (q_op ze7 (q_op zaA (q_op zaD (zac (pv 0)) zad) (zac (pv 1))) zad) zad)) (zal (za8 (q_op zaD (q_op ze7 (zac (pv 2)) (zac (pv 2))) zad))))
abbrev s_z5:Stmt:=top 19
theorem sc_z5:FnScope ["cell", "many", "letters", "base", "k", "names", "spot", "made"] ["cell", "many"] (zah s_z5):=zbu
theorem ok_z5 {k:Nat}(F:Fun K "_law_names" "_law_names" s_z5 f fd)(m:Mg mg)(c_z2:zaz P w K mg base "_law_mixed" k ["cell", "salt"] (SpD K F_z2)):FnOk P w K mg base CX0 (k+1) f fd ["cell", "many"] (SpN K F_z5):=by
 have sc:=sc_z5
 refine fn_n (N:=["cell", "many", "letters", "base", "k", "names", "spot", "made"]) (ps:=["cell", "many"]) (g:=G_z5) F sc fun cdv A outer s H E hr => ?_
 unfold G_z5
 exact (zae (zao (i:=2) sc.nd rfl (.inl rfl) zaT) (zae (zao (i:=3) sc.nd rfl (.inl rfl) zaT) (zae (zbz PassesOwn.never rfl (zaR rfl m.range_ (zaa (q_op zaD (q_op zaS (zac (pv 0)) zad) zad) zaf)) (zbc (zaY (i:=4) sc.nd rfl (.inl rfl))) (zal (zao (i:=3) sc.nd rfl (.inl rfl) (q_op zaA (zac (pv 3)) (za5 (za3 hr) (zac (pv 2)) (q_op zaD (q_fn c_z2 hr rfl (zaa (zac (pv 0)) (zaa (q_op zaA zad (zac (pv 4))) zaf))) zad) (fun _ _=>rfl) (fun _ _=>rfl)))))) (zae (zcQ (i:=5) sc.nd rfl (.inl rfl) (zb4 zaf)) (zae (zbz PassesOwn.never rfl (zaR rfl m.range_ (zaa (zac (pv 1)) zaf)) (zbc (zaY (i:=4) sc.nd rfl (.inl rfl))) (zae (zao (i:=6) sc.nd rfl (.inl rfl) (q_op zaA (za5 (za3 hr) (zac (pv 2)) (q_op zaD (zac (pv 4)) zad) (fun _ _=>rfl) (fun _ _=>rfl)) (za5 (za3 hr) (zac (pv 2)) (q_op zaD (q_op zaS (zac (pv 4)) zad) zad) (fun _ _=>rfl) (fun _ _=>rfl)))) (zae (zao (i:=7) sc.nd rfl (.inl rfl) (QN.qe (zb4 (zaa (q_op zaA (q_op zaA zaT (zac (pv 3))) (zc0 (x := "str") zj6 rfl m.str_ zhe (zaa (zac (pv 4)) zaf))) (zaa (q_op zaA (q_op zaA zaT (zc0 (x := "str") zj6 rfl m.str_ zhe (zaa (zac (pv 4)) zaf))) (zac (pv 3))) (zaa (q_op zaA (q_op zaA zaT (zac (pv 3))) (zac (pv 6))) (zaa (q_op zaA (q_op zaA (zac (pv 6)) zaT) (zac (pv 3))) zaf))))))) (zal (zbq (pv 5) (za5 (za3 hr) (zac (pv 7)) (q_op zaD (zac (pv 0)) zad) (fun _ _=>rfl) (fun _ _=>rfl)) (fun h1 h2=>zcN PySem.F.plainAttrs_list PySem.F.slot_list_append PySem.F.type_list_append zaI h1 h2)))))) (zal (zcR (pv 5))))))))
abbrev s_z4:Stmt:=top 18
theorem sc_z4:FnScope ["cell", "salt", "mixed", "size"] ["cell", "salt"] (zah s_z4):=zbu
theorem ok_z4 {k:Nat}(F:Fun K "_law_far_wait" "_law_far_wait" s_z4 f fd)(m:Mg mg)(c_z2:zaz P w K mg base "_law_mixed" k ["cell", "salt"] (SpD K F_z2)):FnOk P w K mg base CX0 (k+1) f fd ["cell", "salt"] (SpD K F_z4):=by
 have sc:=sc_z4
 refine fn_d (N:=["cell", "salt", "mixed", "size"]) (ps:=["cell", "salt"]) (g:=G_z4) F sc fun cdv A outer s H E hr => ?_
 unfold G_z4
 exact (zae (zao (i:=2) sc.nd rfl (.inl rfl) (q_fn c_z2 hr rfl (zaa (zac (pv 0)) (zaa (zac (pv 1)) zaf)))) (zae (zbx (zbj o_gt (q_op zaD (zac (pv 2)) zad) zad (zbd _)) (zal (za8 (q_op zh0 (q_op zaD (q_op zaS (zac (pv 2)) zad) zad) zad))) za9) (zae (zao (i:=3) sc.nd rfl (.inl rfl) (q_op zaD (q_op ze7 (q_op zaS (zac (pv 0)) zad) (q_op zaA (zac (pv 1)) zad)) (q_op zjs zad zad))) (zae (zbx (zbj (o_eq hr.units) (q_op zaD (q_op zaS (zac (pv 2)) zad) zad) zad (zbd _)) (zal (zao (i:=3) sc.nd rfl (.inl rfl) (q_op zh0 (q_op zjs zad zad) zad))) za9) (zae (zbx (zbj (o_eq hr.units) (q_op zaD (q_op zaS (zac (pv 2)) zad) zad) zad (zbd _)) (zal (za8 (zac (pv 3)))) za9) (zal (za8 (q_un ziT (zac (pv 3))))))))))
abbrev s_z7:Stmt:=top 21
theorem sc_z7:FnScope ["cell", "count", "ahead", "items", "k"] ["cell", "count", "ahead"] (zah s_z7):=zbu
theorem ok_z7 {k:Nat}(F:Fun K "_law_items" "_law_items" s_z7 f fd)(m:Mg mg)(c_z4:zaz P w K mg base "_law_far_wait" k ["cell", "salt"] (SpD K F_z4))(c_z2:zaz P w K mg base "_law_mixed" k ["cell", "salt"] (SpD K F_z2)):FnOk P w K mg base CX0 (k+1) f fd ["cell", "count", "ahead"] (SpD K F_z7):=by
 have sc:=sc_z7
 refine fn_d (N:=["cell", "count", "ahead", "items", "k"]) (ps:=["cell", "count", "ahead"]) (g:=G_z7) F sc fun cdv A outer s H E hr => ?_
 unfold G_z7
 exact (zae (zcQ (i:=3) sc.nd rfl (.inl rfl) (zb4 zaf)) (zae (zbz PassesOwn.never rfl (zaR rfl m.range_ (zaa (zac (pv 1)) zaf)) (zbc (zaY (i:=4) sc.nd rfl (.inl rfl))) (zal (zbq (pv 3) (zbY (zaa (q_op zaD (q_fn c_z2 hr rfl (zaa (zac (pv 0)) (zaa (q_op zaA zad (zac (pv 4))) zaf))) (zac (pv 2))) (zaa (q_fn c_z4 hr rfl (zaa (q_op zaA (q_op zaS (zac (pv 0)) (q_op zaA (zac (pv 4)) zad)) (zac (pv 4))) (zaa (q_op zaA zad (zac (pv 4))) zaf))) zaf))) (fun h1 h2=>zcN PySem.F.plainAttrs_list PySem.F.slot_list_append PySem.F.type_list_append zaI h1 h2)))) (zal (zf6 [3] (za8 (zc0 (x := "tuple") zhW rfl m.tuple_ zg0 (zaa (zac (pv 3)) zaf)))))))
abbrev s_z8:Stmt:=top 22
theorem sc_z8:FnScope ["cell", "name", "ahead", "parts", "wide", "mixed", "part", "count"] ["cell", "name", "ahead", "parts", "wide"] (zah s_z8):=zbu
theorem ok_z8 {k:Nat}(F:Fun K "_law_made" "_law_made" s_z8 f fd)(m:Mg mg)(c_z7:zaz P w K mg base "_law_items" k ["cell", "count", "ahead"] (SpD K F_z7))(c_z2:zaz P w K mg base "_law_mixed" k ["cell", "salt"] (SpD K F_z2)):FnOk P w K mg base CX0 (k+1) f fd ["cell", "name", "ahead", "parts", "wide"] (SpD K F_z8):=by
 have sc:=sc_z8
 refine fn_d (N:=["cell", "name", "ahead", "parts", "wide", "mixed", "part", "count"]) (ps:=["cell", "name", "ahead", "parts", "wide"]) (g:=G_z8) F sc fun cdv A outer s H E hr => ?_
 unfold G_z8
 exact (zae (zao (i:=5) sc.nd rfl (.inl rfl) (q_fn c_z2 hr rfl (zaa (zac (pv 0)) (zaa zad zaf)))) (zae (zbx (QW.qt (zfK (zbj (o_ne hr.units) (zac (pv 3)) (QN.qe (zb4 zaf)) (zbd _)) (zdr (zbj (o_eq hr.units) (q_op zaD (zac (pv 5)) zad) zad (zbd _))))) (zae (zao (i:=6) sc.nd rfl (.inl rfl) (za5 (za3 hr) (zac (pv 3)) (q_op zaD (q_op zaS (zac (pv 5)) zad) (za2 (x := "len") zcX rfl m.len_ zbC (zaa (zac (pv 3)) zaf))) (fun _ _=>rfl) (fun _ _=>rfl))) (zal (za8 (zbY (zaa (zac (pv 1)) (zaa (za5 (za3 hr) (zac (pv 6)) zad (fun _ _=>rfl) (fun _ _=>rfl)) (zaa (q_fn c_z7 hr rfl (zaa (zac (pv 0)) (zaa (za5 (za3 hr) (zac (pv 6)) zad (fun _ _=>rfl) (fun _ _=>rfl)) (zaa (zac (pv 2)) zaf)))) zaf))))))) za9) (zae (zao (i:=7) sc.nd rfl (.inl rfl) (q_op zaA zad (q_op zaD (q_op zaS (zac (pv 5)) zad) zad))) (zae (zbx (QW.qt (zfK (zbS (zac (pv 4))) (zdr (zbj (o_eq hr.units) (q_op zaD (q_op zaS (zac (pv 5)) zad) zad) zad (zbd _))))) (zal (zao (i:=7) sc.nd rfl (.inl rfl) zad)) za9) (zal (za8 (zbY (zaa (zac (pv 1)) (zaa (za5 (za3 hr) (QN.qe (zb4 (zaa zaT (zaa zaT zaf)))) (q_op zaD (q_op zaS (zac (pv 5)) zad) zad) (fun _ _=>rfl) (fun _ _=>rfl)) (zaa (q_fn c_z7 hr rfl (zaa (zac (pv 0)) (zaa (zac (pv 7)) (zaa (zac (pv 2)) zaf)))) zaf))))))))))
abbrev s_z9:Stmt:=top 23
theorem sc_z9:FnScope ["pool", "at", "name", "parts", "wide", "cell", "givens", "rows", "names", "made", "k", "word"] ["pool", "at", "name", "parts", "wide"] (zah s_z9):=zbu
theorem ok_z9 {k:Nat}(F:Fun K "_law_plan" "_law_plan" s_z9 f fd)(m:Mg mg)(c_z8:zaz P w K mg base "_law_made" k ["cell", "name", "ahead", "parts", "wide"] (SpD K F_z8))(c_z2:zaz P w K mg base "_law_mixed" k ["cell", "salt"] (SpD K F_z2))(c_z5:zaz P w K mg base "_law_names" k ["cell", "many"] (SpN K F_z5)):FnOk P w K mg base CX0 (k+1) f fd ["pool", "at", "name", "parts", "wide"] (SpD K F_z9):=by
 have sc:=sc_z9
 refine fn_d (N:=["pool", "at", "name", "parts", "wide", "cell", "givens", "rows", "names", "made", "k", "word"]) (ps:=["pool", "at", "name", "parts", "wide"]) (g:=G_z9) F sc fun cdv A outer s H E hr => ?_
 unfold G_z9
 exact (zae (zao (i:=5) sc.nd rfl (.inl rfl) (za5 (za3 hr) (zac (pv 0)) (q_op zaD (q_op ze7 zad (zac (pv 1))) (za2 (x := "len") zcX rfl m.len_ zbC (zaa (zac (pv 0)) zaf))) (fun _ _=>rfl) (fun _ _=>rfl))) (zae (zao (i:=6) sc.nd rfl (.inl rfl) (q_op zaA zad (q_op zaD (q_fn c_z2 hr rfl (zaa (zac (pv 5)) (zaa zad zaf))) zad))) (zae (zao (i:=7) sc.nd rfl (.inl rfl) (q_op zaA zad (q_op zaD (q_fn c_z2 hr rfl (zaa (zac (pv 5)) (zaa zad zaf))) zad))) (zae (zbx (zbS (zac (pv 4))) (zae (zao (i:=6) sc.nd rfl (.inl rfl) (za5 (za3 hr) (QN.qe (zb4 (zaa zad (zaa zad (zaa zad zaf))))) (q_op zaD (q_fn c_z2 hr rfl (zaa (zac (pv 5)) (zaa zad zaf))) zad) (fun _ _=>rfl) (fun _ _=>rfl))) (zal (zao (i:=7) sc.nd rfl (.inl rfl) (za5 (za3 hr) (QN.qe (zb4 (zaa zad (zaa zad (zaa zad zaf))))) (q_op zaD (q_fn c_z2 hr rfl (zaa (zac (pv 5)) (zaa zad zaf))) zad) (fun _ _=>rfl) (fun _ _=>rfl))))) za9) (zae (zao (i:=8) sc.nd rfl (.inl rfl) (QN.qe (zef c_z5 hr rfl (zaa (q_op zaS (zac (pv 5)) zad) (zaa (q_op zaA (zac (pv 6)) (zac (pv 7))) zaf))))) (zae (zcQ (i:=9) sc.nd rfl (.inl rfl) (zb4 zaf)) (zae (zbz PassesOwn.never rfl (zaR rfl m.range_ (zaa (zac (pv 7)) zaf)) (zbc (zaY (i:=10) sc.nd rfl (.inl rfl))) (zae (zao (i:=11) sc.nd rfl (.inl rfl) (q_op zaA (za5 (za3 hr) (zac (pv 0)) (q_op zaD (q_op zaA (q_op zaA (q_op ze7 zad (zac (pv 1))) (zac (pv 10))) zad) (za2 (x := "len") zcX rfl m.len_ zbC (zaa (zac (pv 0)) zaf))) (fun _ _=>rfl) (fun _ _=>rfl)) (q_op ze7 zad (zac (pv 10))))) (zal (zbq (pv 9) (q_fn c_z8 hr rfl (zaa (zac (pv 11)) (zaa (za5 (za3 hr) (zac (pv 8)) (q_op zaA (zac (pv 6)) (zac (pv 10))) (fun _ _=>rfl) (fun _ _=>rfl)) (zaa (q_op zaA (zac (pv 6)) (zac (pv 10))) (zaa (zac (pv 3)) (zaa (zac (pv 4)) zaf)))))) (fun h1 h2=>zcN PySem.F.plainAttrs_list PySem.F.slot_list_append PySem.F.type_list_append zaI h1 h2))))) (zal (zf6 [9] (za8 (zbY (zaa (zac (pv 2)) (zaa (QN.qe (zeZ (zac (pv 8)) zcj (zbZ (zac (pv 6))) zcj)) (zaa (zac (pv 9)) zaf))))))))))))))
abbrev s_z3:Stmt:=top 17
theorem sc_z3:FnScope ["script", "start", "most", "many"] ["script", "start", "most"] (zah s_z3):=zbu
theorem ok_z3 {k:Nat}(F:Fun K "_law_turns" "_law_turns" s_z3 f fd)(m:Mg mg)  : FnOk P w K mg base CX0 (k+1) f fd ["script", "start", "most"] (SpN K F_z3):=by
 have sc:=sc_z3
 refine fn_n (N:=["script", "start", "most", "many"]) (ps:=["script", "start", "most"]) (g:=G_z3) F sc fun cdv A outer s H E hr => ?_
 unfold G_z3
 exact (zae (zao (i:=3) sc.nd rfl (.inl rfl) (za2 (x := "min") (zjp rfl) rfl m.min_ zj8 (zaa (zac (pv 2)) (zaa (za2 (x := "max") (ziV rfl) rfl m.max_ zjQ (zaa zad (zaa (q_op zh0 (za2 (x := "len") zcX rfl m.len_ zbC (zaa (zac (pv 0)) zaf)) (zac (pv 1))) zaf))) zaf)))) (zal (zeQ (zgY ["k", "script", "start", "most"] [none,some 0,some 1,some 2] rfl rfl (zaR rfl m.range_ (zaa (zac (pv 3)) zaf)) (fun _ _ _ _ _=>(zbc (pgn 0 (zgS ["k", "script", "start", "most"])))) (fun _ _ _ _ _=>(za2 (x := "sum") (b_sum rfl) rfl m.sum_ zjI (zaa (QN.qe (zeZ (zac (pv 1)) (zbZ (q_op zaA (zac (pv 2)) (zac (pv 0)))) zcj (zbZ (zac (pv 3))))) zaf)))))))
abbrev s_z6:Stmt:=top 20
theorem sc_z6:FnScope ["script", "start", "pool"] ["script", "start"] (zah s_z6):=zbu
theorem ok_z6 {k:Nat}(F:Fun K "_law_pool" "_law_pool" s_z6 f fd)(m:Mg mg)(c_z3:zaz P w K mg base "_law_turns" k ["script", "start", "most"] (SpN K F_z3)):FnOk P w K mg base CX0 (k+1) f fd ["script", "start"] (SpD K F_z6):=by
 have sc:=sc_z6
 refine fn_d (N:=["script", "start", "pool"]) (ps:=["script", "start"]) (g:=G_z6) F sc fun cdv A outer s H E hr => ?_
 unfold G_z6
 exact (zae (zao (i:=2) sc.nd rfl (.inl rfl) (QN.qe (zef c_z3 hr rfl (zaa (zac (pv 0)) (zaa (zac (pv 1)) (zaa zad zaf)))))) (zae (zbx (zbj (o_eq hr.units) (zac (pv 2)) (QN.qe (zb4 zaf)) (zbd _)) (zal (za8 (QN.qe (zb4 (zaa (za2 (x := "len") zcX rfl m.len_ zbC (zaa (zac (pv 0)) zaf)) zaf))))) za9) (zal (za8 (zac (pv 2))))))
abbrev ziy:Stmt:=top 24
theorem ziJ:FnScope ["script", "start", "pool", "first", "wide", "many", "names", "plans", "at", "parts"] ["script", "start"] (zah ziy):=zbu
theorem zko {k:Nat}(F:Fun K "_law_parts" "_law_parts" ziy f fd)(m:Mg mg)(c_z1:zaz P w K mg base "_law_cell_at" k ["script", "k"] (SpD K F_z1))(c_z5:zaz P w K mg base "_law_names" k ["cell", "many"] (SpN K F_z5))(c_z9:zaz P w K mg base "_law_plan" k ["pool", "at", "name", "parts", "wide"] (SpD K F_z9))(c_z6:zaz P w K mg base "_law_pool" k ["script", "start"] (SpD K F_z6)):FnOk P w K mg base CX0 (k+1) f fd ["script", "start"] (SpN K zei):=by
 have sc:=ziJ
 refine fn_n (N:=["script", "start", "pool", "first", "wide", "many", "names", "plans", "at", "parts"]) (ps:=["script", "start"]) (g:=zfg) F sc fun cdv A outer s H E hr => ?_
 unfold zfg
 exact (zae (zao (i:=2) sc.nd rfl (.inl rfl) (q_fn c_z6 hr rfl (zaa (zac (pv 0)) (zaa (zac (pv 1)) zaf)))) (zae (zao (i:=3) sc.nd rfl (.inl rfl) (q_fn c_z1 hr rfl (zaa (zac (pv 0)) (zaa zad zaf)))) (zae (zao (i:=4) sc.nd rfl (.inl rfl) (zjE (o_eq hr.units) (q_op zaD (zac (pv 3)) zad) zad (zbd _))) (zae (zao (i:=5) sc.nd rfl (.inl rfl) (q_op zaA zad (q_op zaD (q_op zaS (zac (pv 3)) zad) zad))) (zae (zbx (zbS (zac (pv 4))) (zal (zao (i:=5) sc.nd rfl (.inl rfl) zad)) za9) (zae (zao (i:=6) sc.nd rfl (.inl rfl) (QN.qe (zef c_z5 hr rfl (zaa (q_op zaS (zac (pv 3)) zad) (zaa (zac (pv 5)) zaf))))) (zae (zcQ (i:=7) sc.nd rfl (.inl rfl) (zb4 zaf)) (zae (zbz PassesOwn.never rfl (zaR rfl m.range_ (zaa (zac (pv 5)) zaf)) (zbc (zaY (i:=8) sc.nd rfl (.inl rfl))) (zae (zdo [7] ["plan"] [none] sc.nd rfl (.inl rfl) rfl rfl (zcx (zac (pv 7))) (fun _ _ _ _ _=>(zbc (pgn 0 (zgS ["plan"])))) (fun _ _ _ _ _=>(zbY (zaa (za5 (za3 hr) (zac (pv 0)) zad (fun _ _=>rfl) (fun _ _=>rfl)) (zaa (za2 (x := "len") zcX rfl m.len_ zbC (zaa (za5 (za3 hr) (zac (pv 0)) zad (fun _ _=>rfl) (fun _ _=>rfl)) zaf)) zaf))))) (zal (zf6 [9] (zbq (pv 7) (q_fn c_z9 hr rfl (zaa (zac (pv 2)) (zaa (zac (pv 8)) (zaa (za5 (za3 hr) (zac (pv 6)) (zac (pv 8)) (fun _ _=>rfl) (fun _ _=>rfl)) (zaa (zac (pv 9)) (zaa (zac (pv 4)) zaf)))))) (fun h1 h2=>zcN PySem.F.plainAttrs_list PySem.F.slot_list_append PySem.F.type_list_append zaI h1 h2)))))) (zal (zcR (pv 7)))))))))))
abbrev s_z0:Stmt:=top 13
theorem sc_z0:FnScope ["book", "name", "plan"] ["book", "name"] (zah s_z0):=zbu
theorem ok_z0 {k:Nat}(F:Fun K "plan_by" "plan_by" s_z0 f fd)(m:Mg mg)  {C_NoPlan:Addr}(x_NoPlan:Exc K mg "NoPlan" C_NoPlan){D_Book:Addr}(k_Book:ClsD K mg "Book" D_Book ["plans"]){D_Plan:Addr}(k_Plan:ClsD K mg "Plan" D_Plan ["name", "givens", "rows"]):FnOk P w K mg base (CXE P w) (k+1) f fd ["book", "name"] (SpDX K F_z0):=by
 have sc:=sc_z0
 refine fn_dX (N:=["book", "name", "plan"]) (ps:=["book", "name"]) (g:=G_z0) F sc fun cdv A outer s H E hr => ?_
 unfold G_z0
 exact (zae (zbz zew rfl (zcx (zco k_Book (by decide) (zac (pv 0)))) (zbc (zaY (i:=2) sc.nd rfl (.inl rfl))) (zal (zbx (zbj (o_eq hr.units) (zco k_Plan (by decide) (zac (pv 2))) (zac (pv 1)) (zbd _)) (zal (za8 (zac (pv 2)))) za9))) (zal (zgQ ze4 x_NoPlan rfl rfl (ziU (ziN (zhQ (zac (pv 1)) zjV))))))
abbrev zhy:Stmt:=top 26
theorem zjv:FnScope ["book", "name", "caught", "e"] ["book", "name"] (zah zhy):=zbu
theorem zjT {k:Nat}(F:Fun K "_law_refused" "_law_refused" zhy f fd)(m:Mg mg)(c_z0:zaQ P w K mg base "plan_by" k ["book", "name"] (SpDX K F_z0)){C_AllError:Addr}(x_AllError:Exc K mg "AllError" C_AllError){C_NoPlan:Addr}(x_NoPlan:Exc K mg "NoPlan" C_NoPlan){U_BadName:Addr}(o_BadName:Ucl K mg "BadName" U_BadName){U_BadPart:Addr}(o_BadPart:Ucl K mg "BadPart" U_BadPart){U_BadPlan:Addr}(o_BadPlan:Ucl K mg "BadPlan" U_BadPlan){U_NoName:Addr}(o_NoName:Ucl K mg "NoName" U_NoName){U_TooLong:Addr}(o_TooLong:Ucl K mg "TooLong" U_TooLong){U_TooMany:Addr}(o_TooMany:Ucl K mg "TooMany" U_TooMany){U_Unlike:Addr}(o_Unlike:Ucl K mg "Unlike" U_Unlike)(e_NoPlan:ExcCl K C_NoPlan)(n_NoPlan_BadName:NoSub K C_NoPlan U_BadName)(n_NoPlan_BadPart:NoSub K C_NoPlan U_BadPart)(n_NoPlan_BadPlan:NoSub K C_NoPlan U_BadPlan)(n_NoPlan_NoName:NoSub K C_NoPlan U_NoName)(n_NoPlan_TooLong:NoSub K C_NoPlan U_TooLong)(n_NoPlan_TooMany:NoSub K C_NoPlan U_TooMany)(n_NoPlan_Unlike:NoSub K C_NoPlan U_Unlike)(u_NoPlan_AllError:PySem.W.subIn K (.ref C_NoPlan) (.ref C_AllError)=some true)(v_NoPlan:PySem.W.subIn K (.ref C_NoPlan) (.type "ValueError")=some true):FnOk P w K mg base CX0 (k+1) f fd ["book", "name"] (SpD K zdg):=by
 have sc:=zjv
 refine fn_d (N:=["book", "name", "caught", "e"]) (ps:=["book", "name"]) (g:=zg8) F sc fun cdv A outer s H E hr => ?_
 unfold zg8
 exact (zae (zao (i:=2) sc.nd rfl (.inl rfl) zkb) (zae (zgK (j:=3) (cs:=["NoPlan"]) rfl rfl rfl (zh7 c_z0 hr rfl (zaa (zac (pv 0)) (zaa (zac (pv 1)) zaf))) x_AllError rfl sc.nd rfl rfl (fun _=>(zal (zao (i:=2) sc.nd rfl (.inl rfl) (zac (pv 3))))) (fun c' h=>by rcases List.mem_cons.mp h with rfl|h;(exact ⟨_,x_NoPlan.ns,u_NoPlan_AllError⟩);(first|exact zqn h|exact zqb h|(obtain rfl:=Option.some.inj h)|cases h))) (zae (zbx (QW.qt (zkm (zdC (zbS (za2 (x := "isinstance") (zhd (cs:=["NoPlan"]) (fun c' h C hC=>by rcases List.mem_cons.mp h with rfl|h;(have hC:=x_NoPlan.ns.symm.trans hC;cases hC;exact v_NoPlan);(first|exact zqn h|exact zqb h|(obtain rfl:=Option.some.inj h)|cases h))) rfl m.isinstance_ zaO (zaa (zac (pv 2)) (zaa (zbE x_NoPlan.ns x_NoPlan.mgc rfl) zaf))))) (zhc (zdC (zbS (za2 (x := "isinstance") (zhd (cs:=["NoPlan"]) (fun c' h C hC=>by rcases List.mem_cons.mp h with rfl|h;(have hC:=x_NoPlan.ns.symm.trans hC;cases hC;exact v_NoPlan);(first|exact zqn h|exact zqb h|(obtain rfl:=Option.some.inj h)|cases h))) rfl m.isinstance_ zaO (zaa (zac (pv 2)) (zaa (zjN (n := "ValueError") (x := "ValueError") rfl m.ValueError_ zcz rfl) zaf)))))))) (zal (za8 zgI)) za9) (zal (za8 (q_not (za2 (x := "isinstance") (zio (cs:=["NoPlan"]) (us:=["BadName", "BadPart", "BadPlan", "NoName", "TooLong", "TooMany", "Unlike"]) (fun c' h C hC=>by rcases List.mem_cons.mp h with rfl|h;(have hC:=x_NoPlan.ns.symm.trans hC;cases hC;exact e_NoPlan);(first|exact zqn h|exact zqb h|(obtain rfl:=Option.some.inj h)|cases h)) (fun c' h C hC u hu U hU=>by rcases List.mem_cons.mp h with rfl|h;(have hC:=x_NoPlan.ns.symm.trans hC;cases hC;rcases List.mem_cons.mp hu with rfl|hu;(have hU:=o_BadName.ns.symm.trans hU;cases hU;exact n_NoPlan_BadName.one);rcases List.mem_cons.mp hu with rfl|hu;(have hU:=o_BadPart.ns.symm.trans hU;cases hU;exact n_NoPlan_BadPart.one);rcases List.mem_cons.mp hu with rfl|hu;(have hU:=o_BadPlan.ns.symm.trans hU;cases hU;exact n_NoPlan_BadPlan.one);rcases List.mem_cons.mp hu with rfl|hu;(have hU:=o_NoName.ns.symm.trans hU;cases hU;exact n_NoPlan_NoName.one);rcases List.mem_cons.mp hu with rfl|hu;(have hU:=o_TooLong.ns.symm.trans hU;cases hU;exact n_NoPlan_TooLong.one);rcases List.mem_cons.mp hu with rfl|hu;(have hU:=o_TooMany.ns.symm.trans hU;cases hU;exact n_NoPlan_TooMany.one);rcases List.mem_cons.mp hu with rfl|hu;(have hU:=o_Unlike.ns.symm.trans hU;cases hU;exact n_NoPlan_Unlike.one);(first|exact zqn hu|exact zqb hu|(obtain rfl:=Option.some.inj hu)|cases hu));(first|exact zqn h|exact zqb h|(obtain rfl:=Option.some.inj h)|cases h))) rfl m.isinstance_ zaO (zaa (zac (pv 2)) (zaa (zbY (zaa (zbE o_BadName.ns o_BadName.mgc rfl) (zaa (zbE o_BadPart.ns o_BadPart.mgc rfl) (zaa (zbE o_BadPlan.ns o_BadPlan.mgc rfl) (zaa (zbE o_NoName.ns o_NoName.mgc rfl) (zaa (zbE o_TooLong.ns o_TooLong.mgc rfl) (zaa (zbE o_TooMany.ns o_TooMany.mgc rfl) (zaa (zbE o_Unlike.ns o_Unlike.mgc rfl) zaf)))))))) zaf)))))))))
abbrev zhM:Stmt:=top 27
theorem zjz:FnScope ["script", "plans", "made", "plan", "lists", "book", "names", "at", "found", "other"] ["script"] (zah zhM):=zbu
theorem ziS {k:Nat}(F:Fun K "law" "law" zhM f fd)(m:Mg mg)(c_z11:zaz P w K mg base "_law_fields" k ["book"] (SpN K ze1))(c_z10:zaz P w K mg base "_law_parts" k ["script", "start"] (SpN K zei))(c_z12:zaz P w K mg base "_law_refused" k ["book", "name"] (SpD K zdg))(c_z0:zaQ P w K mg base "plan_by" k ["book", "name"] (SpDX K F_z0)){D_Book:Addr}(k_Book:ClsD K mg "Book" D_Book ["plans"]){D_Plan:Addr}(k_Plan:ClsD K mg "Plan" D_Plan ["name", "givens", "rows"])(zdi:MkD2 P w K mg base "Book" ["plans"] 1 ["self", "plans"] I_Book)(zcG:MkD2 P w K mg base "Plan" ["name", "givens", "rows"] 1 ["self", "name", "givens", "rows"] I_Plan)(h2:2≤k):FnOk P w K mg base CX0 (k+1) f fd ["script"] (SpD K zd0):=by
 have sc:=zjz
 refine fn_d (N:=["script", "plans", "made", "plan", "lists", "book", "names", "at", "found", "other"]) (ps:=["script"]) (g:=zgN) F sc fun cdv A outer s H E hr => ?_
 unfold zgN
 exact (zae (zao (i:=1) sc.nd rfl (.inl rfl) (QN.qe (zef c_z10 hr rfl (zaa (zac (pv 0)) (zaa zad zaf))))) (zae (zcQ (i:=2) sc.nd rfl (.inl rfl) (zb4 zaf)) (zae (zbz PassesOwn.never rfl (zcx (zac (pv 1))) (zbc (zaY (i:=3) sc.nd rfl (.inl rfl))) (zje (i:=4) sc.nd rfl (.inl rfl) (zfe (zcU (x := "list") zhb rfl m.list_ zb5 (zaa (za5 (za3 hr) (zac (pv 3)) zad (fun _ _=>rfl) (fun _ _=>rfl)) zaf)) (zfe (zcU (x := "list") zhb rfl m.list_ zb5 (zaa (za5 (za3 hr) (zac (pv 3)) zad (fun _ _=>rfl) (fun _ _=>rfl)) zaf)) zjP)) (zfa (zfq (pv 2) (zd9 zcG (hr.mono h2) rfl (zaa (za5 (za3 hr) (zac (pv 3)) zad (fun _ _=>rfl) (fun _ _=>rfl)) (zaa (za5 (za3 hr) (zac (pv 4)) zad (fun _ _=>rfl) (fun _ _=>rfl)) (zaa (za5 (za3 hr) (zac (pv 4)) zad (fun _ _=>rfl) (fun _ _=>rfl)) zaf)))) (fun h1 h2=>zcN PySem.F.plainAttrs_list PySem.F.slot_list_append PySem.F.type_list_append zaI h1 h2)) (zfa (zga (za5 (za3 hr) (zac (pv 4)) zad (fun _ _=>rfl) (fun _ _=>rfl)) zaT (fun h1 h2=>zcN PySem.F.plainAttrs_list PySem.F.slot_list_append PySem.F.type_list_append zaI h1 h2)) (zjk (zga (za5 (za3 hr) (zac (pv 4)) zad (fun _ _=>rfl) (fun _ _=>rfl)) (zbY (zaa zaT (zaa zaT (zaa (zbY (zaa (zbY (zaa zad (zaa zad zaf))) zaf)) zaf)))) (fun h1 h2=>zcN PySem.F.plainAttrs_list PySem.F.slot_list_append PySem.F.type_list_append zaI h1 h2))))))) (zae (zao (i:=5) sc.nd rfl (.inl rfl) (zj7 (i:=2) (zd9 zdi (hr.mono h2) rfl (zaa (zac (pv 2)) zaf)))) (zae (zbq (pv 2) (zh5 (za3 hr) (pv 2) zad (fun _ _=>rfl) (fun _ _=>rfl)) (fun h1 h2=>zcN PySem.F.plainAttrs_list PySem.F.slot_list_append PySem.F.type_list_append zaI h1 h2)) (zae (zbx (QW.qt (zkm (zbj (o_ne hr.units) (QN.qe (zef c_z11 hr rfl (zaa (zac (pv 5)) zaf))) (zac (pv 1)) (zbd _)) (zhc (zdC (zbS (za2 (x := "isinstance") b_isi rfl m.isinstance_ zaO (zaa (zco k_Book (by decide) (zac (pv 5))) (zaa (zjN (n := "list") (x := "list") rfl m.list_ zb5 rfl) zaf)))))))) (zal (za8 zgI)) za9) (zae (ze6 ["plan"] [none] sc.nd rfl (.inl rfl) rfl rfl (zcx (zac (pv 1))) (fun _ _ _ _ _=>(zbc (pgn 0 (zgS ["plan"])))) (fun _ _ _ _ _=>(za5 (za3 hr) (zac (pv 0)) zad (fun _ _=>rfl) (fun _ _=>rfl)))) (zae (zbz PassesOwn.never rfl (zaR rfl m.range_ (zaa (za2 (x := "len") zcX rfl m.len_ zbC (zaa (zac (pv 1)) zaf)) zaf)) (zbc (zaY (i:=7) sc.nd rfl (.inl rfl))) (zae (zao (i:=8) sc.nd rfl (.inl rfl) (q_fnX c_z0 zhJ hr rfl (zaa (zac (pv 5)) (zaa (za5 (za3 hr) (zac (pv 6)) (zac (pv 7)) (fun _ _=>rfl) (fun _ _=>rfl)) zaf)))) (zae (zbx (zbj (o_ne hr.units) (zbY (zaa (zco k_Plan (by decide) (zac (pv 8))) (zaa (zco k_Plan (by decide) (zac (pv 8))) (zaa (zco k_Plan (by decide) (zac (pv 8))) zaf)))) (za5 (za3 hr) (zac (pv 1)) (zac (pv 7)) (fun _ _=>rfl) (fun _ _=>rfl)) (zbd _)) (zal (za8 zgI)) za9) (zal (zbz PassesOwn.never rfl (zcx (QN.qe (zb4 (zaa (zdI (za5 (za3 hr) (zac (pv 6)) (zac (pv 7)) (fun _ _=>rfl) (fun _ _=>rfl)) zcj (zbZ (q_un ziT zad))) (zaa (q_op zaA (za5 (za3 hr) (zac (pv 6)) (zac (pv 7)) (fun _ _=>rfl) (fun _ _=>rfl)) zaT) (zaa (zdI (za5 (za3 hr) (zac (pv 6)) (zac (pv 7)) (fun _ _=>rfl) (fun _ _=>rfl)) (zbZ zad) zcj) (zaa zaT (zaa zaT zaf)))))))) (zbc (zaY (i:=9) sc.nd rfl (.inl rfl))) (zal (zbx (QW.qt (zfK (zgT hr.units (zac (pv 9)) (zac (pv 6))) (zdr (zdC (zbS (q_fn c_z12 hr rfl (zaa (zac (pv 5)) (zaa (zac (pv 9)) zaf)))))))) (zal (za8 zgI)) za9))))))) (zal (za8 (zjE (o_eq hr.units) (QN.qe (zef c_z11 hr rfl (zaa (zac (pv 5)) zaf))) (zac (pv 1)) (zbd _))))))))))))
end
def zdJ (K:PySem.W.Frag):Sp:=fun vs H Q _ => ∃ (a:Addr) (ns:List Int),vs=[.ref a]∧SqL K H a (ns.map V.int)∧ns.length≤63∧∀ H',Q (.bl true) H'
theorem ziw (K:PySem.W.Frag)(vs:List V)(H:Hp)(Q:VK)(E:XK)(h:zdJ K vs H Q E):SpD K zd0 vs H Q E:=by
 refine zc2d h fun a ns zr2 hS hl q => ?_
 obtain rfl:=zr2
 refine ⟨H,[.scr ns],Same.refl _,IsDs.mk (IsD.scr_iff.mpr ⟨a,rfl,hS⟩) .nil,?_⟩
 rw [law_true ns hl]
 intro v F' H' e i
 rw [IsD.bl_iff.mp i]
 exact q H'
theorem all_mk {l:PySem.W.OpenLaw}{w:World}{K:PySem.W.Frag}{h:Heap}{mg:Str→Option Value}{fa:Addr}(X:K.In h)(G:h.Ns mainGlobals mg)(hfa:mg "law" = some (.ref fa))
 {C_AllError:Addr}
 {C_NoPlan:Addr}
 {U_BadName:Addr}
 {U_BadPart:Addr}
 {U_BadPlan:Addr}
 {U_NoName:Addr}
 {U_TooLong:Addr}
 {U_TooMany:Addr}
 {U_Unlike:Addr}
 (d_z11:zbi K "_law_fields" zi6)
 (d_z1:zbi K "_law_cell_at" s_z1)
 (d_z2:zbi K "_law_mixed" s_z2)
 (d_z5:zbi K "_law_names" s_z5)
 (d_z4:zbi K "_law_far_wait" s_z4)
 (d_z7:zbi K "_law_items" s_z7)
 (d_z8:zbi K "_law_made" s_z8)
 (d_z9:zbi K "_law_plan" s_z9)
 (d_z3:zbi K "_law_turns" s_z3)
 (d_z6:zbi K "_law_pool" s_z6)
 (d_z10:zbi K "_law_parts" ziy)
 (d_z0:zbi K "plan_by" s_z0)
 (d_z12:zbi K "_law_refused" zhy)
 (d_law:zbi K "law" zhM)
 (a_AllError:PySem.W.nsIn K mainGlobals "AllError" = some (some (.ref C_AllError))) (q_AllError:PySem.W.excIn K C_AllError [.type "ValueError",.type "Exception",.type "BaseException",.type "object"] "ValueError.__new__" = true)
 (a_NoPlan:PySem.W.nsIn K mainGlobals "NoPlan" = some (some (.ref C_NoPlan))) (q_NoPlan:PySem.W.excIn K C_NoPlan [.type "ValueError",.type "Exception",.type "BaseException",.type "object"] "ValueError.__new__" = true)
 (b_BadName:PySem.W.nsIn K mainGlobals "BadName" = some (some (.ref U_BadName)))
 (b_BadPart:PySem.W.nsIn K mainGlobals "BadPart" = some (some (.ref U_BadPart)))
 (b_BadPlan:PySem.W.nsIn K mainGlobals "BadPlan" = some (some (.ref U_BadPlan)))
 (b_NoName:PySem.W.nsIn K mainGlobals "NoName" = some (some (.ref U_NoName)))
 (b_TooLong:PySem.W.nsIn K mainGlobals "TooLong" = some (some (.ref U_TooLong)))
 (b_TooMany:PySem.W.nsIn K mainGlobals "TooMany" = some (some (.ref U_TooMany)))
 (b_Unlike:PySem.W.nsIn K mainGlobals "Unlike" = some (some (.ref U_Unlike)))
 (e_NoPlan:ExcCl K C_NoPlan)
 (n_NoPlan_BadName:NoSub K C_NoPlan U_BadName)
 (n_NoPlan_BadPart:NoSub K C_NoPlan U_BadPart)
 (n_NoPlan_BadPlan:NoSub K C_NoPlan U_BadPlan)
 (n_NoPlan_NoName:NoSub K C_NoPlan U_NoName)
 (n_NoPlan_TooLong:NoSub K C_NoPlan U_TooLong)
 (n_NoPlan_TooMany:NoSub K C_NoPlan U_TooMany)
 (n_NoPlan_Unlike:NoSub K C_NoPlan U_Unlike)
 (u_NoPlan_AllError:PySem.W.subIn K (.ref C_NoPlan) (.ref C_AllError)=some true)
 (v_NoPlan:PySem.W.subIn K (.ref C_NoPlan) (.type "ValueError")=some true)
 (l_Book:zj3 K "Book" "Book.__init__" ["plans"] zdi)
 (l_Plan:zj3 K "Plan" "Plan.__init__" ["name", "givens", "rows"] zcG)
 (z_ValueError:PySem.W.nsIn K mainGlobals "ValueError" = some none)
 (z_isinstance:PySem.W.nsIn K mainGlobals "isinstance" = some none)
 (z_len:PySem.W.nsIn K mainGlobals "len" = some none)
 (z_list:PySem.W.nsIn K mainGlobals "list" = some none)
 (z_max:PySem.W.nsIn K mainGlobals "max" = some none)
 (z_min:PySem.W.nsIn K mainGlobals "min" = some none)
 (z_range:PySem.W.nsIn K mainGlobals "range" = some none)
 (z_str:PySem.W.nsIn K mainGlobals "str" = some none)
 (z_sum:PySem.W.nsIn K mainGlobals "sum" = some none)
 (z_tuple:PySem.W.nsIn K mainGlobals "tuple" = some none) :
 ∃ fd:FuncData,(∀ (s:Shared) (v:Value),BindsTo s fd ⟨[v],[]⟩ [("script",v)])∧∀ base:Heap,K.In base→base.Ns mainGlobals mg→FnOk l.prog w K mg base CX0 7 fa fd ["script"] (zdJ K):=by
 refine zc2b d_law fun f_law fd_law a_law zd0 => ?_
 have e:=hfa.symm.trans (PySem.W.mg_of X G a_law)
 first|exact zqn e|exact zqb e|(obtain rfl:=Option.some.inj e)|cases e
 have m:Mg mg:=⟨PySem.W.mg_none_of X G z_ValueError,PySem.W.mg_none_of X G z_isinstance,PySem.W.mg_none_of X G z_len,PySem.W.mg_none_of X G z_list,PySem.W.mg_none_of X G z_max,PySem.W.mg_none_of X G z_min,PySem.W.mg_none_of X G z_range,PySem.W.mg_none_of X G z_str,PySem.W.mg_none_of X G z_sum,PySem.W.mg_none_of X G z_tuple⟩
 have x_AllError:Exc K mg "AllError" C_AllError:=⟨a_AllError,PySem.W.mg_of X G a_AllError,q_AllError⟩
 have x_NoPlan:Exc K mg "NoPlan" C_NoPlan:=⟨a_NoPlan,PySem.W.mg_of X G a_NoPlan,q_NoPlan⟩
 have o_BadName:Ucl K mg "BadName" U_BadName:=⟨b_BadName,PySem.W.mg_of X G b_BadName⟩
 have o_BadPart:Ucl K mg "BadPart" U_BadPart:=⟨b_BadPart,PySem.W.mg_of X G b_BadPart⟩
 have o_BadPlan:Ucl K mg "BadPlan" U_BadPlan:=⟨b_BadPlan,PySem.W.mg_of X G b_BadPlan⟩
 have o_NoName:Ucl K mg "NoName" U_NoName:=⟨b_NoName,PySem.W.mg_of X G b_NoName⟩
 have o_TooLong:Ucl K mg "TooLong" U_TooLong:=⟨b_TooLong,PySem.W.mg_of X G b_TooLong⟩
 have o_TooMany:Ucl K mg "TooMany" U_TooMany:=⟨b_TooMany,PySem.W.mg_of X G b_TooMany⟩
 have o_Unlike:Ucl K mg "Unlike" U_Unlike:=⟨b_Unlike,PySem.W.mg_of X G b_Unlike⟩
 obtain ⟨D_Book,fI_Book,fdI_Book,l1_Book,l2_Book,l3_Book,l4_Book,l5_Book⟩:=l_Book
 have k_Book:ClsD K mg "Book" D_Book ["plans"]:=⟨l1_Book,PySem.W.mg_of X G l1_Book,l2_Book,l3_Book⟩
 obtain ⟨D_Plan,fI_Plan,fdI_Plan,l1_Plan,l2_Plan,l3_Plan,l4_Plan,l5_Plan⟩:=l_Plan
 have k_Plan:ClsD K mg "Plan" D_Plan ["name", "givens", "rows"]:=⟨l1_Plan,PySem.W.mg_of X G l1_Plan,l2_Plan,l3_Plan⟩
 refine ⟨fd_law,(by obtain ⟨_,_,_,_,_,_,_,_,_,rfl,_,_⟩:=id zd0.ex;exact fun s v=>.of_eq rfl),fun base _ _ => ?_⟩
 have j_Book:MkD2 l.prog w K mg base "Book" ["plans"] 1 ["self", "plans"] My.I_Book:=⟨_,_,_,k_Book,l4_Book,ziz l5_Book m k_Book,l5_Book.binds fun _ _ _ _ _ _=>us2 fun _ _=>rfl⟩
 have j_Plan:MkD2 l.prog w K mg base "Plan" ["name", "givens", "rows"] 1 ["self", "name", "givens", "rows"] My.I_Plan:=⟨_,_,_,k_Plan,l4_Plan,zhX l5_Plan m k_Plan,l5_Plan.binds fun _ _ _ _ _ _=>us4 fun _ _ _ _=>rfl⟩
 have C_z11:=d_z11.callee (P:=l.prog) (w:=w) (base:=base) X G (fun F=>zjc (k:=0) F m k_Book k_Plan) fun _ _ _ _ _ _=>us1 fun _=>rfl
 have C_z1:=d_z1.callee (P:=l.prog) (w:=w) (base:=base) X G (fun F=>ok_z1 (k:=0) F m ) fun _ _ _ _ _ _=>us2 fun _ _=>rfl
 have C_z2:=d_z2.callee (P:=l.prog) (w:=w) (base:=base) X G (fun F=>ok_z2 (k:=0) F m ) fun _ _ _ _ _ _=>us2 fun _ _=>rfl
 have C_z5:=d_z5.callee (P:=l.prog) (w:=w) (base:=base) X G (fun F=>ok_z5 (k:=1) F m (C_z2.mono (by decide))) fun _ _ _ _ _ _=>us2 fun _ _=>rfl
 have C_z4:=d_z4.callee (P:=l.prog) (w:=w) (base:=base) X G (fun F=>ok_z4 (k:=1) F m (C_z2.mono (by decide))) fun _ _ _ _ _ _=>us2 fun _ _=>rfl
 have C_z7:=d_z7.callee (P:=l.prog) (w:=w) (base:=base) X G (fun F=>ok_z7 (k:=2) F m (C_z4.mono (by decide)) (C_z2.mono (by decide))) fun _ _ _ _ _ _=>us3 fun _ _ _=>rfl
 have C_z8:=d_z8.callee (P:=l.prog) (w:=w) (base:=base) X G (fun F=>ok_z8 (k:=3) F m (C_z7.mono (by decide)) (C_z2.mono (by decide))) fun _ _ _ _ _ _=>us5 fun _ _ _ _ _=>rfl
 have C_z9:=d_z9.callee (P:=l.prog) (w:=w) (base:=base) X G (fun F=>ok_z9 (k:=4) F m (C_z8.mono (by decide)) (C_z2.mono (by decide)) (C_z5.mono (by decide))) fun _ _ _ _ _ _=>us5 fun _ _ _ _ _=>rfl
 have C_z3:=d_z3.callee (P:=l.prog) (w:=w) (base:=base) X G (fun F=>ok_z3 (k:=0) F m ) fun _ _ _ _ _ _=>us3 fun _ _ _=>rfl
 have C_z6:=d_z6.callee (P:=l.prog) (w:=w) (base:=base) X G (fun F=>ok_z6 (k:=1) F m (C_z3.mono (by decide))) fun _ _ _ _ _ _=>us2 fun _ _=>rfl
 have C_z10:=d_z10.callee (P:=l.prog) (w:=w) (base:=base) X G (fun F=>zko (k:=5) F m (C_z1.mono (by decide)) (C_z5.mono (by decide)) (C_z9.mono (by decide)) (C_z6.mono (by decide))) fun _ _ _ _ _ _=>us2 fun _ _=>rfl
 have C_z0:=d_z0.calleeX (P:=l.prog) (w:=w) (base:=base) X G (fun F=>ok_z0 (k:=0) F m x_NoPlan k_Book k_Plan) fun _ _ _ _ _ _=>us2 fun _ _=>rfl
 have C_z12:=d_z12.callee (P:=l.prog) (w:=w) (base:=base) X G (fun F=>zjT (k:=1) F m (C_z0.mono (by decide)) x_AllError x_NoPlan o_BadName o_BadPart o_BadPlan o_NoName o_TooLong o_TooMany o_Unlike e_NoPlan n_NoPlan_BadName n_NoPlan_BadPart n_NoPlan_BadPlan n_NoPlan_NoName n_NoPlan_TooLong n_NoPlan_TooMany n_NoPlan_Unlike u_NoPlan_AllError v_NoPlan) fun _ _ _ _ _ _=>us2 fun _ _=>rfl
 exact ((ziS (k:=6) (P:=l.prog) (w:=w) (base:=base) zd0 m (C_z11.mono (by decide)) (C_z10.mono (by decide)) (C_z12.mono (by decide)) (C_z0.mono (by decide)) k_Book k_Plan j_Book j_Plan (by decide)).mono (by decide)).imp (ziw K)
theorem walk {l:PySem.W.OpenLaw}{q:Program}{loose:List Str}{XP:(Str→Option Value)→Heap→Prop}{YP:World→Heap→Prop}{d:DefRec}{K:Params→PySem.W.Frag}(hn:l.most=some 63)(hdf:d.params.defaults=[])
 (hY:∀ (w:World) (h:Heap),YP w h→(K w.params).In h)
 (F:∀ (w:World) (mg:Str→Option Value) (fa:Addr) (h:Heap),(K w.params).In h→h.Ns mainGlobals mg→mg d.name=some (.ref fa) →
  ∃ fd:FuncData,(∀ (s:Shared) (u:Value),BindsTo s fd ⟨[u],[]⟩ [("script",u)])∧∀ base:Heap,(K w.params).In base→base.Ns mainGlobals mg→FnOk l.prog w (K w.params) mg base CX0 7 fa fd ["script"] (zdJ (K w.params))) :
 PySem.W.WalkO q loose XP YP l.row.toRowW d [] (fun f vs=>PySem.call f vs) :=
 L2.walk_of (n:=63) (k:=7) (x := "script") (CX:=fun _=>CX0) (sp:=fun w=>zdJ (K w.params)) hn (by decide) hdf ⟨rfl,by decide,by decide⟩ hY F (fun _ _ a ns hl _ hS=>⟨a,ns,rfl,hS,hl,fun _=>rfl⟩) fun _ _ _ _ _ z=>z
end My
open PySem PySem.W PyProof.Rows
set_option maxRecDepth 100000 in
set_option maxHeartbeats 0 in
theorem PySem.Challenge.cw_allfirst_k42_plans_and_books_holds : PySem.Challenge.rw_allfirst_k42_plans_and_books.Holds := by
 w_on;o_law;k_head;(case hw=>w_witness2)
 k_fill
 refine My.walk (l:=PySem.Challenge.rw_allfirst_k42_plans_and_books) rfl rfl (fun w h Y=>PySem.W.kIn_of Y) ?F
 case F =>
  intro w mg fa h KX G hmg
  refine' My.all_mk KX G hmg ?d_z11 ?d_z1 ?d_z2 ?d_z5 ?d_z4 ?d_z7 ?d_z8 ?d_z9 ?d_z3 ?d_z6 ?d_z10 ?d_z0 ?d_z12 ?d_law ?a_AllError ?q_AllError ?a_NoPlan ?q_NoPlan ?b_BadName ?b_BadPart ?b_BadPlan ?b_NoName ?b_TooLong ?b_TooMany ?b_Unlike ?e_NoPlan ?n_NoPlan_BadName ?n_NoPlan_BadPart ?n_NoPlan_BadPlan ?n_NoPlan_NoName ?n_NoPlan_TooLong ?n_NoPlan_TooMany ?n_NoPlan_Unlike ?u_NoPlan_AllError ?v_NoPlan ?l_Book ?l_Plan ?z_ValueError ?z_isinstance ?z_len ?z_list ?z_max ?z_min ?z_range ?z_str ?z_sum ?z_tuple
  (case d_z11|d_z1|d_z2|d_z5|d_z4|d_z7|d_z8|d_z9|d_z3|d_z6|d_z10|d_z0|d_z12|d_law=>refine' ⟨_,_,?a,L2.fun_mk ?l ?c ?k⟩;(case a=>k_is);(case l=>k_is);(case c=>k_is);(case k=>k_is))
  (case a_AllError=>k_is)
  (case q_AllError=>k_exc)
  (case a_NoPlan=>k_is)
  (case q_NoPlan=>k_exc)
  (case b_BadName|b_BadPart|b_BadPlan|b_NoName|b_TooLong|b_TooMany|b_Unlike=>k_is)
  (case e_NoPlan=>refine' ⟨?e0,?e1,?e2,?e3,?e4,?e5,?e6,?e7⟩;(case e0=>k_is);(case e1=>k_is);(case e2=>k_is);(case e3=>k_is);(case e4=>k_is);(case e5=>k_is);(case e6=>k_is);(case e7=>k_is))
  (case n_NoPlan_BadName=>refine' ⟨?n0,?n1,?n2,?n3⟩;(case n0=>rfl);(case n1=>k_is);(case n2=>k_is);(case n3=>k_is))
  (case n_NoPlan_BadPart=>refine' ⟨?n0,?n1,?n2,?n3⟩;(case n0=>rfl);(case n1=>k_is);(case n2=>k_is);(case n3=>k_is))
  (case n_NoPlan_BadPlan=>refine' ⟨?n0,?n1,?n2,?n3⟩;(case n0=>rfl);(case n1=>k_is);(case n2=>k_is);(case n3=>k_is))
  (case n_NoPlan_NoName=>refine' ⟨?n0,?n1,?n2,?n3⟩;(case n0=>rfl);(case n1=>k_is);(case n2=>k_is);(case n3=>k_is))
  (case n_NoPlan_TooLong=>refine' ⟨?n0,?n1,?n2,?n3⟩;(case n0=>rfl);(case n1=>k_is);(case n2=>k_is);(case n3=>k_is))
  (case n_NoPlan_TooMany=>refine' ⟨?n0,?n1,?n2,?n3⟩;(case n0=>rfl);(case n1=>k_is);(case n2=>k_is);(case n3=>k_is))
  (case n_NoPlan_Unlike=>refine' ⟨?n0,?n1,?n2,?n3⟩;(case n0=>rfl);(case n1=>k_is);(case n2=>k_is);(case n3=>k_is))
  (case u_NoPlan_AllError|v_NoPlan=>k_is)
  (case l_Book=>refine' ⟨_,_,_,?ua,⟨?up,?uh,?uo,?us⟩,List.forall_mem_cons.mpr ⟨?uf0,List.forall_mem_nil _⟩,⟨?um,?ui,?un,?ue⟩,L2.fun_mk ?ul ?uc ?uk⟩;(case ua=>k_is);(case ui=>k_is);(case ul=>k_is);(case uc=>k_is);(case uk=>k_is);(case up=>k_is);(case uh=>k_is);(case uo=>k_is);(case us=>k_is);(case um=>k_is);(case un=>k_is);(case ue=>k_is);(case uf0=>show PySem.W.findIn _ _ _=_;k_is))
  (case l_Plan=>refine' ⟨_,_,_,?ua,⟨?up,?uh,?uo,?us⟩,List.forall_mem_cons.mpr ⟨?uf0,List.forall_mem_cons.mpr ⟨?uf1,List.forall_mem_cons.mpr ⟨?uf2,List.forall_mem_nil _⟩⟩⟩,⟨?um,?ui,?un,?ue⟩,L2.fun_mk ?ul ?uc ?uk⟩;(case ua=>k_is);(case ui=>k_is);(case ul=>k_is);(case uc=>k_is);(case uk=>k_is);(case up=>k_is);(case uh=>k_is);(case uo=>k_is);(case us=>k_is);(case um=>k_is);(case un=>k_is);(case ue=>k_is);(case uf0=>show PySem.W.findIn _ _ _=_;k_is);(case uf1=>show PySem.W.findIn _ _ _=_;k_is);(case uf2=>show PySem.W.findIn _ _ _=_;k_is))
  (case z_ValueError|z_isinstance|z_len|z_list|z_max|z_min|z_range|z_str|z_sum|z_tuple=>k_is)
