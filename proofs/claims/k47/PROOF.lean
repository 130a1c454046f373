import PyProof.Rows.All
import Wide.All
import OpenK.AllK
import Wide.FinOn
import Lean
import PyProof.EqAt
import PyProof.EqKinds
import PyProof.TupleCall
import PyProof.P3Eq
import PyProof.NeData
import PySem.Challenge.RW_allfirst_k47_the_first_fault_is_told
set_option Elab.async false
set_option linter.all false
set_option maxRecDepth 100000
set_option bootstrap.genMatcherCode false
set_option compiler.extract_closed false
set_option genSizeOf false
noncomputable section
local macro_rules | `(tactic| omega) => `(tactic| lia)
theorem zau (_:True=True:=by rfl):True:=trivial
theorem zav (_:True:=by decide):True:=trivial
theorem zaw (_:Nat→True=True:=by intro _;rfl):True:=trivial
theorem zc0b {p0 p1:Prop}{P:Prop}(h:p0∧p1)(k:p0→p1→P):P:=by
 obtain ⟨h0,h1⟩:=h
 exact k h0 h1
theorem zc0c {p0 p1 p2:Prop}{P:Prop}(h:p0∧p1∧p2)(k:p0→p1→p2→P):P:=by
 obtain ⟨h0,h1,h2⟩:=h
 exact k h0 h1 h2
theorem zc0d {p0 p1 p2 p3:Prop}{P:Prop}(h:p0∧p1∧p2∧p3)(k:p0→p1→p2→p3→P):P:=by
 obtain ⟨h0,h1,h2,h3⟩:=h
 exact k h0 h1 h2 h3
theorem zc0e {p0 p1 p2 p3 p4:Prop}{P:Prop}(h:p0∧p1∧p2∧p3∧p4)(k:p0→p1→p2→p3→p4→P):P:=by
 obtain ⟨h0,h1,h2,h3,h4⟩:=h
 exact k h0 h1 h2 h3 h4
theorem zc1a.{u0}{α0:Sort u0}{p0 : α0→Prop}{P:Prop}(h:∃ a0,p0 a0)(k:∀ a0,p0 a0→P):P:=by
 obtain ⟨a0,h0⟩:=h
 exact k a0 h0
theorem zc1b.{u0}{α0:Sort u0}{p0 p1 : α0→Prop}{P:Prop}(h:∃ a0,p0 a0∧p1 a0)(k:∀ a0,p0 a0→p1 a0→P):P:=by
 obtain ⟨a0,h0,h1⟩:=h
 exact k a0 h0 h1
theorem zc1c.{u0}{α0:Sort u0}{p0 p1 p2 : α0→Prop}{P:Prop}(h:∃ a0,p0 a0∧p1 a0∧p2 a0)(k:∀ a0,p0 a0→p1 a0→p2 a0→P):P:=by
 obtain ⟨a0,h0,h1,h2⟩:=h
 exact k a0 h0 h1 h2
theorem zc1d.{u0}{α0:Sort u0}{p0 p1 p2 p3 : α0→Prop}{P:Prop}(h:∃ a0,p0 a0∧p1 a0∧p2 a0∧p3 a0)(k:∀ a0,p0 a0→p1 a0→p2 a0→p3 a0→P):P:=by
 obtain ⟨a0,h0,h1,h2,h3⟩:=h
 exact k a0 h0 h1 h2 h3
theorem zc1e.{u0}{α0:Sort u0}{p0 p1 p2 p3 p4 : α0→Prop}{P:Prop}(h:∃ a0,p0 a0∧p1 a0∧p2 a0∧p3 a0∧p4 a0)(k:∀ a0,p0 a0→p1 a0→p2 a0→p3 a0→p4 a0→P):P:=by
 obtain ⟨a0,h0,h1,h2,h3,h4⟩:=h
 exact k a0 h0 h1 h2 h3 h4
theorem zc2a.{u0,u1}{α0:Sort u0}{α1:Sort u1}{p0 : α0 → α1→Prop}{P:Prop}(h:∃ a0 a1,p0 a0 a1)(k:∀ a0 a1,p0 a0 a1→P):P:=by
 obtain ⟨a0,a1,h0⟩:=h
 exact k a0 a1 h0
theorem zc2b.{u0,u1}{α0:Sort u0}{α1:Sort u1}{p0 p1 : α0 → α1→Prop}{P:Prop}(h:∃ a0 a1,p0 a0 a1∧p1 a0 a1)(k:∀ a0 a1,p0 a0 a1→p1 a0 a1→P):P:=by
 obtain ⟨a0,a1,h0,h1⟩:=h
 exact k a0 a1 h0 h1
theorem zc2c.{u0,u1}{α0:Sort u0}{α1:Sort u1}{p0 p1 p2 : α0 → α1→Prop}{P:Prop}(h:∃ a0 a1,p0 a0 a1∧p1 a0 a1∧p2 a0 a1)(k:∀ a0 a1,p0 a0 a1→p1 a0 a1→p2 a0 a1→P):P:=by
 obtain ⟨a0,a1,h0,h1,h2⟩:=h
 exact k a0 a1 h0 h1 h2
theorem zc2d.{u0,u1}{α0:Sort u0}{α1:Sort u1}{p0 p1 p2 p3 : α0 → α1→Prop}{P:Prop}(h:∃ a0 a1,p0 a0 a1∧p1 a0 a1∧p2 a0 a1∧p3 a0 a1)(k:∀ a0 a1,p0 a0 a1→p1 a0 a1→p2 a0 a1→p3 a0 a1→P):P:=by
 obtain ⟨a0,a1,h0,h1,h2,h3⟩:=h
 exact k a0 a1 h0 h1 h2 h3
theorem zc3a.{u0,u1,u2}{α0:Sort u0}{α1:Sort u1}{α2:Sort u2}{p0 : α0 → α1 → α2→Prop}{P:Prop}(h:∃ a0 a1 a2,p0 a0 a1 a2)(k:∀ a0 a1 a2,p0 a0 a1 a2→P):P:=by
 obtain ⟨a0,a1,a2,h0⟩:=h
 exact k a0 a1 a2 h0
theorem zc3b.{u0,u1,u2}{α0:Sort u0}{α1:Sort u1}{α2:Sort u2}{p0 p1 : α0 → α1 → α2→Prop}{P:Prop}(h:∃ a0 a1 a2,p0 a0 a1 a2∧p1 a0 a1 a2)(k:∀ a0 a1 a2,p0 a0 a1 a2→p1 a0 a1 a2→P):P:=by
 obtain ⟨a0,a1,a2,h0,h1⟩:=h
 exact k a0 a1 a2 h0 h1
theorem zc3c.{u0,u1,u2}{α0:Sort u0}{α1:Sort u1}{α2:Sort u2}{p0 p1 p2 : α0 → α1 → α2→Prop}{P:Prop}(h:∃ a0 a1 a2,p0 a0 a1 a2∧p1 a0 a1 a2∧p2 a0 a1 a2)(k:∀ a0 a1 a2,p0 a0 a1 a2→p1 a0 a1 a2→p2 a0 a1 a2→P):P:=by
 obtain ⟨a0,a1,a2,h0,h1,h2⟩:=h
 exact k a0 a1 a2 h0 h1 h2
theorem zc4a.{u0,u1,u2,u3}{α0:Sort u0}{α1:Sort u1}{α2:Sort u2}{α3:Sort u3}{p0 : α0 → α1 → α2 → α3→Prop}{P:Prop}(h:∃ a0 a1 a2 a3,p0 a0 a1 a2 a3)(k:∀ a0 a1 a2 a3,p0 a0 a1 a2 a3→P):P:=by
 obtain ⟨a0,a1,a2,a3,h0⟩:=h
 exact k a0 a1 a2 a3 h0
namespace L2
open PySem PySem.Spec PyProof.Rows
abbrev Key:=Sum Int Str
noncomputable def zdJ:Key→Value→Bool
 | .inl k,v=>Value.isInt k v
 | .inr x,v=>Value.isStrOf x v
noncomputable def keyH (w:World):Key→Int
 | .inl k=>hashInt k
 | .inr x=>hashStr w x
theorem zaK:∀ {k:Key} {v:Value},zdJ k v=true→(∃ i t,k=Sum.inl i∧v=Value.int i t)∨(∃ x t,k=Sum.inr x∧v=Value.str x t)
 | .inl i,v,h=>by
  obtain ⟨t,e⟩:=Value.isInt_shape (k:=i) (v:=v) h
  exact .inl ⟨i,t,rfl,e⟩
 | .inr x,v,h=>by
  obtain ⟨t,e⟩:=Value.isStrOf_shape (x:=x) (v:=v) h
  exact .inr ⟨x,t,rfl,e⟩
theorem zib (i:Int)(t:Tok):zdJ (.inl i) (.int i t)=true:=by simp [zdJ,Value.isInt]
theorem zi8 (x:Str)(t:Tok):zdJ (.inr x) (.str x t)=true:=by simp [zdJ,Value.isStrOf]
theorem znN (a b:Int):decide ((Sum.inl a:Key)=Sum.inl b)=(a == b):=by
 by_cases e:a=b
 ·subst e;simp -iota
 ·have h:¬ (Sum.inl a:Key)=Sum.inl b:=fun q=>e (Sum.inl.inj q)
  rw [decide_eq_false h]
  exact (beq_eq_false_iff_ne.mpr e).symm
theorem zoL (a b:Str):decide ((Sum.inr a:Key)=Sum.inr b)=decide (a=b):=by
 by_cases e:a=b
 ·subst e;simp -iota
 ·have h:¬ (Sum.inr a:Key)=Sum.inr b:=fun q=>e (Sum.inr.inj q)
  rw [decide_eq_false h,decide_eq_false e]
theorem zo2 (a:Int)(b:Str):decide ((Sum.inl a:Key)=Sum.inr b)=false:=decide_eq_false (fun q=>nomatch q)
theorem zoB (a:Str)(b:Int):decide ((Sum.inr a:Key)=Sum.inl b)=false:=decide_eq_false (fun q=>nomatch q)
def zaN (prog:Program)(w:World):PySem.KeyKind prog w Key where
 is:=zdJ
 hash:=keyH w
 inj:=fun v a b ha hb=>by
  rcases zaK ha with ⟨i,t,rfl,rfl⟩|⟨x,t,rfl,rfl⟩
  ·rcases zaK hb with ⟨j,u,rfl,e⟩|⟨y,u,rfl,e⟩
   ·injection e with e1 _;rw [e1]
   ·exact nomatch e
  ·rcases zaK hb with ⟨j,u,rfl,e⟩|⟨y,u,rfl,e⟩
   ·exact nomatch e
   ·injection e with e1 _;rw [e1]
 byValue:=fun k v h=>by
  rcases zaK h with ⟨i,t,rfl,rfl⟩|⟨x,t,rfl,rfl⟩<;>rfl
 pyHash:=fun hv h=>by
  rcases zaK hv with ⟨i,t,rfl,rfl⟩|⟨x,t,rfl,rfl⟩
  ·exact wpAny_pyHash_int h
  ·exact wpAny_pyHash_str h
 eqBool:=fun hu hv h=>by
  rcases zaK hu with ⟨i,t,rfl,rfl⟩|⟨x,t,rfl,rfl⟩
  ·rcases zaK hv with ⟨j,u,rfl,rfl⟩|⟨y,u,rfl,rfl⟩
   ·rw [znN] at h;exact wpAny_eqBool_int h
   ·rw [zo2] at h;exact SeqAt.EqAt.int_str i t y u _ _ _ _ h
  ·rcases zaK hv with ⟨j,u,rfl,rfl⟩|⟨y,u,rfl,rfl⟩
   ·rw [zoB] at h;exact SeqAt.EqAt.str_int x t j u _ _ _ _ h
   ·rw [zoL] at h;exact wpAny_eqBool_str h
 «strs»:=fun k x t v h=>by
  rcases zaK h with ⟨i,u,rfl,e⟩|⟨y,u,rfl,e⟩
  ·exact nomatch e
  ·injection e with e1 _
   subst e1
   cases v<;>rfl
theorem zfx (prog:Program)(w:World)(i:Int)(t:Tok):(zaN prog w).is (.inl i) (.int i t)=true:=zib i t
theorem zfb (prog:Program)(w:World)(x:Str)(t:Tok):(zaN prog w).is (.inr x) (.str x t)=true:=zi8 x t
end L2
namespace L2
open PySem PySem.Spec PyProof.Rows
inductive V where
 | non|bl (b:Bool)|int (i:Int)|str (x:Str)|byt (b:Array UInt8)|flt (b:UInt64)|ref (a:Addr)|ty (n:String)
 deriving DecidableEq
noncomputable def RelV:V→Value→Prop
 | .non,u=>u=Value.none
 | .bl b,u=>u=Value.bool b
 | .int i,u => ∃ t,u=Value.int i t
 | .str x,u => ∃ t,u=Value.str x t
 | .byt b,u => ∃ t,u=Value.bytes b t
 | .flt b,u => ∃ t,u=Value.float b t
 | .ref a,u=>u=Value.ref a
 | .ty n,u=>u=Value.type n
abbrev Vals:List V→List Value→Prop:=Paired RelV
theorem Vals.length {xs:List V}{us:List Value}(r:Vals xs us):xs.length=us.length:=Paired.length r
theorem Vals.get:∀ {xs:List V} {us:List Value} {i:Nat} {x:V},Vals xs us→xs[i]? = some x→∃ u,us[i]? = some u∧RelV x u
 | _,_,_,_,.nil,e=>by simp -iota at e
 | _,_,0,_,.cons r _,e=>by simp -iota at e;subst e;exact ⟨_,rfl,r⟩
 | _,_,i+1,x,.cons _ t,e=>by
  refine zc1b (Vals.get (i:=i) (x:=x) t (by simpa -iota using e)) fun u h1 h2 => ?_
  exact ⟨u,by simpa -iota using h1,h2⟩
theorem Vals.set {x:V}{u:Value}(r:RelV x u):∀ {xs:List V} {us:List Value} (i:Nat),Vals xs us→Vals (xs.set i x) (us.set i u)
 | _,_,_,.nil=>.nil
 | _,_,0,.cons _ t=>.cons r t
 | _,_,i+1,.cons q t=>.cons q (Vals.set r i t)
theorem Vals.append:∀ {xs ys:List V} {us ws:List Value},Vals xs us→Vals ys ws→Vals (xs++ys) (us++ws):=fun h s=>by
 induction h with
 | nil=>exact s
 | cons r _ ih=>exact .cons r ih
theorem Vals.none_of:∀ {xs:List V} {us:List Value} {i:Nat},Vals xs us→xs[i]? = none→us[i]? = none:=fun {xs us i} r e=>by
 have h1:=r.length
 have h2:xs.length≤i:=List.getElem?_eq_none_iff.mp e
 exact List.getElem?_eq_none_iff.mpr (by omega)
def RelO:Option V→Option Value→Prop
 | some v,some u=>RelV v u
 | none,none=>True
 | _,_=>False
def KV {κ : Type}:List (κ × V)→List (κ × Value)→Prop:=Paired fun (p : κ × V) (q : κ × Value)=>p.1=q.1∧RelV p.2 q.2
noncomputable def kV:Key→V
 | .inl i=>.int i
 | .inr x=>.str x
inductive HO where
 | lst (xs:List V)
 | tup (xs:List V)
 | dK (kvs:List (Key×V))|dT (kvs:List (List Key×V))
 | set (S:Int→Bool) (n:Nat)
 | ins (C dx:Addr) (fs:List (Str×V))
 | own (x:Addr)
 | xd (fs:List (Str×V))
 | met (f x:Addr)
 | rng (lo hi:Int)
 | frz (o:Obj) (u:HO)
 | tbl (ps:Array Value)
 | ext (φ : Heap→Prop)
abbrev Hp:=Addr→Option HO
noncomputable def upd (H:Hp)(a:Addr)(o:HO):Hp:=fun b=>if b=a then some o else H b
theorem zam {H:Hp}{a:Addr}{o:HO}:upd H a o a=some o:=by unfold upd;rw [if_pos rfl]
theorem zaj {H:Hp}{a b:Addr}{o:HO}(h:b≠a):upd H a o b=H b:=by unfold upd;rw [if_neg h]
theorem ne_of {H:Hp}{a b:Addr}{o u:HO}(h:H a=some o)(h':H b=some u)(d:o≠u):a≠b:=by
 intro e;subst e;rw [h] at h';exact d (Option.some.inj h')
theorem zaF {H:Hp}{a b:Addr}{o:HO}(h:H a=some o)(h':H b=none):a≠b:=by
 intro e;subst e;rw [h] at h';cases h'
section
variable (P:Program)(w:World)
def zbh (H:Hp)(h:Heap)(a:Addr):HO→Prop
 | .lst xs=>xs.length≤sizeLine∧∃ (its:List Value) (n:Nat),Vals xs its∧h.get? a=some { cls:=.type "list",data:=.seq its.toArray n }
 | .tup xs=>(xs.length≤sizeLine∧∃ o,h.get? a=some o∧o.dict=none)∧∃ its:List Value,Vals xs its∧IsTup h a its.toArray
 | .dK kvs=>kvs.length≤sizeLine∧(a == sysModules)=false∧∃ vs,KV kvs vs∧h.DictOf (zaN P w) a vs
 | .dT kvs=>kvs.length≤sizeLine∧(a == sysModules)=false∧∃ xs:List (List Key×Addr×Value),
  Paired (fun (p:List Key×V) (q:List Key×Addr×Value)=>p.1=q.1∧H q.2.1=some (.tup (p.1.map kV))∧RelV p.2 q.2.2) kvs xs ∧
  ∃ o es ep,h.get? a=some o∧o.ExactDict∧o.data=.dict es ep∧es.toList=xs.map (entryOfKey (tupleKind (zaN P w)))∧(xs.map (·.1)).Nodup
 | .set S n=>h.SetOf (intKind P w) a S n
 | .ins C dx fs=>H dx=some (.own a)∧fs.length≤1000∧dx≠a∧h.get? a=some (PySem.W.instObj C dx) ∧
  ∃ mA,h.Ns1 dx mA∧(∀ f,RelO (fs.lookup f) (mA f))∧PySem.Within mA (fs.map (·.1))
 | .own _ => ∃ o,h.get? a=some o
 | .xd fs => ∃ mA,h.Ns1 a mA∧∀ f,RelO (fs.lookup f) (mA f)
 | .rng lo hi => ∃ t u v,h.get? a=some { cls:=.type "range",data:=.fields #[.int lo t,.int hi u,.int 1 v] }
 | .frz o u=>h.get? a=some o∧zbh H h a u
 | .tbl ps=>h.get? a=some { cls:=.none,data:=.fields ps }
 | .met f x=>h.get? a=some (PySem.W.methodObj (.ref f) (.ref x))
 | .ext φ => φ h∧(∃ o,h.get? a=some o)∧∀ h1 h2:Heap,φ h1→(∀ o,h1.get? a=some o→h2.get? a=some o) → φ h2
def HOk (H:Hp)(h:Heap):Prop:=∀ a o,H a=some o→zbh P w H h a o
end
section
variable {P:Program}{w:World}{H H':Hp}{h h':Heap}{a:Addr}{o:HO}
theorem zbh.lt (x:zbh P w H h a o):a<h.objs.size:=by
 cases o with
 | lst xs=>obtain ⟨_,_,_,_,e⟩:=x;exact Heap.lt_size e
 | tup xs=>obtain ⟨_,_,_,p⟩:=x;exact p.lt
 | dK kvs=>obtain ⟨_,_,_,_,o,_,_,e,_⟩:=x;exact Heap.lt_size e
 | dT kvs=>obtain ⟨_,_,_,_,o,_,_,e,_⟩:=x;exact Heap.lt_size e
 | set S n=>obtain ⟨o,_,_,_,e,_⟩:=x;exact Heap.lt_size e
 | ins C dx fs=>obtain ⟨_,_,_,e,_⟩:=x;exact Heap.lt_size e
 | own y=>obtain ⟨_,e⟩:=x;exact Heap.lt_size e
 | xd fs=>obtain ⟨_,⟨_,_,_,e,_⟩,_⟩:=x;exact Heap.lt_size e
 | rng lo hi=>obtain ⟨_,_,_,e⟩:=x;exact Heap.lt_size e
 | frz ob u=>obtain ⟨e,_⟩:=x;exact Heap.lt_size e
 | tbl ps=>exact Heap.lt_size (show h.get? a=some _ from x)
 | met f y=>exact Heap.lt_size (show h.get? a=some _ from x)
 | ext φ => obtain ⟨_,⟨_,e⟩,_⟩:=x;exact Heap.lt_size e
theorem Paired.mapP {α β : Type}{F G : α → β → Prop}:∀ {l₁:List α} {l₂:List β},Paired F l₁ l₂→(∀ a b,F a b→G a b)→Paired G l₁ l₂:=fun h f=>by
 induction h with
 | nil=>exact .nil
 | cons r _ ih=>exact .cons (f _ _ r) ih
theorem zbh.stay (x:zbh P w H h a o)(k:∀ b u,(b=a∨H b=some (.own a))→h.get? b=some u→h'.get? b=some u)
 (ho:∀ b,H b=some (.own a)→H' b=some (.own a)) (ht:∀ b xs,H b=some (.tup xs)→H' b=some (.tup xs)):zbh P w H' h' a o:=by
 induction o with
 | lst xs=>obtain ⟨z,its,n,r,e⟩:=x;exact ⟨z,its,n,r,k _ _ (.inl rfl) e⟩
 | tup xs=>obtain ⟨⟨z,od,ed,dd⟩,its,r,ob,e,c⟩:=x;exact ⟨⟨z,od,k _ _ (.inl rfl) ed,dd⟩,its,r,ob,k _ _ (.inl rfl) e,c⟩
 | dK kvs=>obtain ⟨z,y,vs,r,ob,es,ep,e,c⟩:=x;exact ⟨z,y,vs,r,ob,es,ep,k _ _ (.inl rfl) e,c⟩
 | dT kvs =>
  refine zc0c x fun z y zz=>zc1b zz fun xs r zz=>zc3b zz fun ob es ep e c => ?_
  exact ⟨z,y,xs,Paired.mapP r fun p q z=>⟨z.1,ht _ _ z.2.1,z.2.2⟩,ob,es,ep,k _ _ (.inl rfl) e,c⟩
 | set S n=>obtain ⟨ob,es,ep,t,e,c⟩:=x;exact ⟨ob,es,ep,t,k _ _ (.inl rfl) e,c⟩
 | ins C dx fs =>
  refine zc0e x fun d z ne e zz=>zc1b zz fun mA zr5 r => ?_
  obtain ⟨od,es,ep,e2,c⟩:=zr5
  exact ⟨ho _ d,z,ne,k _ _ (.inl rfl) e,mA,⟨od,es,ep,k _ _ (.inr d) e2,c⟩,r⟩
 | own y=>obtain ⟨ob,e⟩:=x;exact ⟨ob,k _ _ (.inl rfl) e⟩
 | xd fs=>obtain ⟨mA,⟨od,es,ep,e,c⟩,r⟩:=x;exact ⟨mA,⟨od,es,ep,k _ _ (.inl rfl) e,c⟩,r⟩
 | rng lo hi=>obtain ⟨t,u,v,e⟩:=x;exact ⟨t,u,v,k _ _ (.inl rfl) e⟩
 | frz ob u ih=>obtain ⟨e,q⟩:=x;exact ⟨k _ _ (.inl rfl) e,ih q⟩
 | tbl ps =>
  have e:h.get? a=some { cls:=.none,data:=.fields ps }:=x
  show h'.get? a=some { cls:=.none,data:=.fields ps }
  exact k a _ (.inl rfl) e
 | met f y =>
  have e:h.get? a=some (PySem.W.methodObj (.ref f) (.ref y)):=x
  show h'.get? a=some (PySem.W.methodObj (.ref f) (.ref y))
  exact k a _ (.inl rfl) e
 | ext φ => obtain ⟨p,⟨o,e⟩,st⟩:=x;exact ⟨st _ _ p fun o q=>k _ _ (.inl rfl) q,⟨o,k _ _ (.inl rfl) e⟩,st⟩
theorem HOk.lt (x:HOk P w H h)(e:H a=some o):a<h.objs.size:=(x a o e).lt
theorem HOk.fresh (x:HOk P w H h)(e:h.objs.size≤a):H a=none:=by
 cases q:H a with
 | none=>rfl
 | some u=>exact absurd (Nat.lt_of_lt_of_le (x.lt q) e) (Nat.lt_irrefl _)
theorem HOk.kept (x:HOk P w H h)(k:∀ b u,h.get? b=some u→h'.get? b=some u):HOk P w H h':=fun a o e =>
 (x a o e).stay (fun b u _ q=>k b u q) (fun _ q=>q) fun _ _ q=>q
theorem HOk.laid (x:HOk P w H h)(k:∀ b u,h.get? b=some u→h'.get? b=some u)(hp:h.objs.size≤a)(new:zbh P w (upd H a o) h' a o):HOk P w (upd H a o) h':=fun b u e=>by
 have hn:=x.fresh hp
 by_cases hb:b=a
 ·subst hb;rw [zam] at e;cases e;exact new
 ·rw [zaj hb] at e
  exact (x b u e).stay (fun c v _ q=>k c v q) (fun c q=>by rw [zaj (zaF q hn)];exact q) fun c xs q=>by rw [zaj (zaF q hn)];exact q
end
noncomputable def Rd (H:Hp)(a:Addr)(u:HO):Prop:=H a=some u∨∃ o,H a=some (.frz o u)
theorem Rd.ok {P:Program}{w:World}{H:Hp}{h:Heap}{a:Addr}{u:HO}(r:Rd H a u)(x:HOk P w H h):zbh P w H h a u:=by
 rcases r with r|⟨o,r⟩
 ·exact x a u r
 ·obtain ⟨_,q⟩:=x a _ r
  exact q
noncomputable def Mut:Option HO→Prop
 | some (.lst _)=>True
 | some (.dK _)=>True
 | some (.dT _)=>True
 | some (.set _ _)=>True
 | some (.ins _ _ _)=>True
 | some (.ext _)=>True
 | _=>False
section
variable {P:Program}{w:World}{H:Hp}{h h':Heap}{x e:Addr}{o':HO}
theorem HOk.write (ok:HOk P w H h)(mu:Mut (H x))(he:e=x∨H e=some (.own x))(k:∀ b u,b≠e→h.get? b=some u→h'.get? b=some u)(heo:∃ u,h'.get? e=some u)
 (new:zbh P w (upd H x o') h' x o'):HOk P w (upd H x o') h':=fun b u q=>by
 have nown:∀ c y,H c=some (.own y)→c≠x:=fun c y r z=>by subst z;rw [r] at mu;exact mu
 have ntup:∀ c xs,H c=some (.tup xs)→c≠x:=fun c xs r z=>by subst z;rw [r] at mu;exact mu
 by_cases hb:b=x
 ·subst hb;rw [zam] at q;cases q;exact new
 ·rw [zaj hb] at q
  by_cases hbe:b=e
  ·have q':H b=some (.own x):=by
    rcases he with z|z
    ·exact absurd (hbe.trans z) hb
    ·rw [hbe];exact z
   rw [q] at q';cases q'
   obtain ⟨v,hv⟩:=heo
   exact ⟨v,by rw [hbe];exact hv⟩
  ·refine (ok b u q).stay (fun c v hc r=>k c v ?_ r) (fun c r=>by rw [zaj (nown c b r)];exact r) fun c xs r=>by rw [zaj (ntup c xs r)];exact r
   rcases hc with rfl|hc
   ·exact hbe
   ·rintro rfl
    rcases he with z|z
    ·exact nown c b hc z
    ·rw [hc] at z;cases z;exact hb rfl
end
structure Un (fs ex:List Addr)(H H':Hp)(h h':Heap):Prop where
 keep:∀ b o,h.get? b=some o→H b=none→b∉fs→b∉ex→h'.get? b=some o
 slot:∀ b o,h.get? b=some o→H b=none→b∈fs→b∉ex→∃ sl,h'.get? b=some { o with slots:=sl }
 free:∀ b o,h.get? b=some o→H b=none→b∉ex→H' b=none
 there:∀ b o,h.get? b=some o→b∉ex→∃ o',h'.get? b=some o'
 tups:∀ b xs,H b=some (.tup xs)→H' b=some (.tup xs)
 frzs:∀ b o u,H b=some (.frz o u)→H' b=some (.frz o u)
 tbls:∀ b ps,H b=some (.tbl ps)→∃ more,H' b=some (.tbl (ps++more))
section
variable {fs fs' ex ex':List Addr}{H H1 H2:Hp}{h h1 h2 h':Heap}{a x e:Addr}{o:HO}
theorem Un.any (u:Un fs ex H H1 h h1){b:Addr}{ob:Obj}(q:h.get? b=some ob)(n:H b=none)(hx:b∉ex):∃ sl,h1.get? b=some { ob with slots:=sl }:=by
 by_cases hb:b∈fs
 ·exact u.slot b ob q n hb hx
 ·exact ⟨ob.slots,u.keep b ob q n hb hx⟩
theorem Un.kept (k:∀ b u,h.get? b=some u→h'.get? b=some u):Un fs ex H H h h' :=
 ⟨fun b ob q _ _ _=>k b ob q,fun b ob q _ _ _=>⟨ob.slots,k b ob q⟩,fun _ _ _ n _=>n,fun b ob q _=>⟨ob,k b ob q⟩,fun _ _ q=>q,fun _ _ _ q=>q,fun _ ps q=>⟨#[],by rw [q];simp -iota⟩⟩
theorem Un.refl:Un fs ex H H h h:=Un.kept fun _ _ q=>q
theorem Un.laid (k:∀ b u,h.get? b=some u→h'.get? b=some u)(hp:h.objs.size≤a)(hn:H a=none):Un fs ex H (upd H a o) h h' where
 keep:=fun b u q _ _ _=>k b u q
 slot:=fun b u q _ _ _=>⟨u.slots,k b u q⟩
 free:=fun b u q n _=>by rw [zaj (Nat.ne_of_lt (Nat.lt_of_lt_of_le (Heap.lt_size q) hp))];exact n
 there:=fun b u q _=>⟨u,k b u q⟩
 tups:=fun b xs q=>by rw [zaj (zaF q hn)];exact q
 frzs:=fun b u xs q=>by rw [zaj (zaF q hn)];exact q
 tbls:=fun b ps q=>⟨#[],by rw [zaj (zaF q hn),q];simp -iota⟩
theorem Un.write (mu:Mut (H x))(he:e=x∨H e=some (.own x))(k:∀ b u,b≠e→h.get? b=some u→h'.get? b=some u)(heo:∃ u,h'.get? e=some u):Un fs ex H (upd H x o) h h':=by
 have hx:∀ b,H b=none→b≠x:=fun b n z=>by subst z;rw [n] at mu;exact mu
 have hb:∀ b,H b=none→b≠e:=fun b n z=>by
  subst z
  rcases he with r|r
  ·exact hx b n r
  ·rw [n] at r;cases r
 have hm:∀ b u,H b=some u→¬ Mut (some u)→b≠x:=fun b u q nm z=>by subst z;rw [q] at mu;exact nm mu
 refine ⟨fun b u q n _ _=>k b u (hb b n) q,fun b u q n _ _=>⟨u.slots,k b u (hb b n) q⟩,fun b u q n _=>by rw [zaj (hx b n)];exact n,fun b u q _ => ?_,
  fun b xs q=>by rw [zaj (hm b _ q fun z=>z)];exact q,fun b u xs q=>by rw [zaj (hm b _ q fun z=>z)];exact q,fun b ps q=>⟨#[],by rw [zaj (hm b _ q fun z=>z),q];simp -iota⟩⟩
 by_cases hbe:b=e
 ·subst hbe;exact heo
 ·exact ⟨u,k b u hbe q⟩
end
noncomputable def trk (h:Heap)(H:Hp):List Addr:=(List.range h.objs.size).filter fun a=>(H a).isSome
def hidT (h:Heap)(H:Hp):Heap:=PySem.W.hideAll h (trk h H)
theorem ziH (h:Heap)(H:Hp):(hidT h H).objs.size=h.objs.size:=PySem.W.hideAll_size _ _
theorem zj6 {h:Heap}{H:Hp}{b:Addr}{o:Obj}(e:h.get? b=some o)(n:H b=none):(hidT h H).get? b=some o :=
 PySem.W.hideAll_get _ e fun hm=>by
  have q:(H b).isSome=true:=(List.mem_filter.mp hm).2
  rw [n] at q;simp -iota at q
theorem zma {h:Heap}{H:Hp}{b:Addr}{o:Obj}(e:(hidT h H).get? b=some o):h.get? b=some o∧H b=none:=by
 have e':h.get? b=some o:=PySem.W.of_hideAll (trk h H) e
 refine ⟨e',?_⟩
 cases q:H b with
 | none=>rfl
 | some x =>
  have hm:b∈trk h H:=List.mem_filter.mpr ⟨List.mem_range.mpr (Heap.lt_size e'),by simp -iota [q]⟩
  have z:(hidT h H).get? b=none:=PySem.W.hideAll_none (trk h H) hm
  rw [z] at e;cases e
end L2
namespace L2
open PySem PySem.Spec PyProof.Rows
structure Mod (K:PySem.W.Frag)(mg:Str→Option Value)(base:Heap):Prop where
 kin:K.In base
 glob:base.Ns mainGlobals mg
 blt:∃ mb,base.Ns builtinsNs mb∧∀ x:Str,x ≠ "__name__" → mb x=bootBuiltins x
 nolimit:base.NoLimit
structure Cx where
 prog:Program
 w:World
 K:PySem.W.Frag
 mg:Str→Option Value
 base:Heap
 A:Around
 N:List Str
 s₀:Shared
 H₀:Hp
 env:Env
 outer:List Env
 stack:List Env
 ex:List Addr
 fn:Str→Bool
 calm:Bool
 pn:List (Addr×Obj)
 xe:Value→Shared→Prop
noncomputable def frs (l:List Env):List Addr:=l.filterMap (·.frame)
abbrev Cx.fs (X:Cx):List Addr:=frs X.outer
noncomputable def Vis (sc:Scope)(x:Str):Prop:=sc.names.lookup x=some .local∨sc.names.lookup x=some .cell∨sc.names.lookup x=some .free
noncomputable def Loc (sc:Scope)(x:Str):Prop:=sc.names.lookup x=some .local∨sc.names.lookup x=some .cell
noncomputable def Look (env:Env)(h:Heap)(m:Str→Option Value)(x:Str)(u:Value):Prop :=
 (env.kindOf x=some .local∧m x=some u)∨((env.kindOf x=some .cell∨env.kindOf x=some .free)∧∃ c,env.cells.lookup x=some c∧h.IsCell c (some u))
structure Cx.Ok (X:Cx):Prop where
 mod:Mod X.K X.mg X.base
 kind:X.env.scope.kind=.function
 glob:X.env.globals=mainGlobals
 blt:X.env.builtins=builtinsNs
 above:X.s₀.heap.objs.size≤X.env.locals
 inj:∀ x y c,X.env.cells.lookup x=some c→X.env.cells.lookup y=some c→x=y
 has:∀ x,(X.env.kindOf x=some .cell∨X.env.kindOf x=some .free)→∃ c,X.env.cells.lookup x=some c
 cab:∀ x c,X.fn x=true→X.env.cells.lookup x=some c→X.s₀.heap.objs.size≤c
 hd:X.calm=true→X.A.handled=none
 frames:X.A.frames=some X.stack
 stk:X.stack=X.outer∨(X.stack=X.env::X.outer∧X.env.frame=some X.env.locals)
 exf:∀ b∈X.ex,b≠X.env.locals∧∀ x c,X.env.cells.lookup x=some c→c≠b
 bs:∀ b o,X.base.get? b=some o→X.s₀.heap.get? b=some o∧X.H₀ b=none
 bsz:X.base.objs.size≤X.s₀.heap.objs.size
 noex:∀ b o,X.base.get? b=some o→b∉X.ex
 exfs:∀ b∈X.ex,b∉X.fs
 funs:X.s₀.heap.FunFrames X.base X.outer
 frf:∀ b∈X.fs,X.H₀ b=none
structure Inv (X:Cx)(pins:List (Addr×Obj))(σ : List (Option V))(H:Hp)(s:Shared):Prop where
 ok:X.Ok
 os:s.os=X.s₀.os
 bare:AllBare s.gens
 base:Un X.fs X.ex X.H₀ H X.s₀.heap s.heap
 loc:∃ m,s.heap.Ns X.env.locals m∧∀ (i:Nat) (x:Str) (v:V),X.N[i]? = some x → σ[i]? = some (some v)→Vis X.env.scope x→∃ u,RelV v u∧Look X.env s.heap m x u
 cell:∀ x c,X.env.cells.lookup x=some c→∃ v,s.heap.IsCell c v
 free:H X.env.locals=none
 freeC:∀ x c,X.env.cells.lookup x=some c→H c=none
 pin:∀ p∈X.pn++pins,s.heap.get? p.1=some p.2∧H p.1=none∧p.1≠X.env.locals∧p.1∉X.fs∧∀ v,p.2.data ≠ .cell v
 hok:HOk X.prog X.w H s.heap
 len : σ.length=X.N.length
section
variable {X:Cx}{pins:List (Addr×Obj)}{σ : List (Option V)}{H H':Hp}{s:Shared}{h':Heap}
theorem Cx.Ok.nofr (ok:X.Ok){b:Addr}{o:Obj}(e:X.base.get? b=some o):b∉X.fs:=fun hb=>by
 have:=(ok.funs.mem hb).1
 rw [e] at this;cases this
theorem Inv.bs (I:Inv X pins σ H s):∀ b o,X.base.get? b=some o→s.heap.get? b=some o∧H b=none:=fun b o e =>
 ⟨I.base.keep b o (I.ok.bs b o e).1 (I.ok.bs b o e).2 (I.ok.nofr e) (I.ok.noex b o e),I.base.free b o (I.ok.bs b o e).1 (I.ok.bs b o e).2 (I.ok.noex b o e)⟩
theorem Inv.bk (I:Inv X pins σ H s):∀ b o,X.base.get? b=some o→s.heap.get? b=some o:=fun b o e=>(I.bs b o e).1
theorem Inv.mod (I:Inv X pins σ H s):Mod X.K X.mg X.base:=I.ok.mod
theorem Inv.kIn (I:Inv X pins σ H s):X.K.In s.heap:=I.ok.mod.kin.keeps I.bk
theorem Inv.lt (I:Inv X pins σ H s):X.env.locals<s.heap.objs.size:=let ⟨_,hn,_⟩:=I.loc;hn.lt
theorem Inv.sz (I:Inv X pins σ H s):X.s₀.heap.objs.size≤s.heap.objs.size:=Nat.le_trans I.ok.above (Nat.le_of_lt I.lt)
theorem Inv.nofs (I:Inv X pins σ H s){a:Addr}(h:s.heap.objs.size≤a):a∉X.fs:=fun hb=>by
 refine zc0b (I.ok.funs.mem hb) fun _ zz=>zc1b zz fun o ho _ => ?_
 exact absurd (Nat.lt_of_lt_of_le (Heap.lt_size ho) (Nat.le_trans I.sz h)) (Nat.lt_irrefl _)
theorem Inv.cne (I:Inv X pins σ H s):∀ x c,X.env.cells.lookup x=some c→c≠X.env.locals:=fun x c e z=>by
 refine zc2b (I.cell x c e) fun v o ho hd => ?_
 refine zc1b I.loc fun m zr1 _ => ?_
 obtain ⟨o',es,ep,ho',hd',_⟩:=zr1
 rw [z,ho'] at ho;cases ho;rw [hd'] at hd;cases hd
theorem Inv.funs (I:Inv X pins σ H s):s.heap.FunFrames X.base X.outer:=by
 have all:∀ (l:List Env),(∀ b∈frs l,b∈X.fs)→X.s₀.heap.FunFrames X.base l→s.heap.FunFrames X.base l:=by
  intro l
  induction l with
  | nil=>intro _ _;trivial
  | cons env r ih =>
   intro hs hl
   refine zc0c hl fun hk zr1 hr => ?_
   obtain ⟨L,o,hf,hn,ho,hd⟩:=zr1
   have hL:L∈X.fs:=hs L (by unfold frs;rw [List.filterMap_cons,hf];exact List.mem_cons_self)
   obtain ⟨sl,e⟩:=I.base.slot L o ho (I.ok.frf L hL) hL fun z=>I.ok.exfs L z hL
   exact ⟨hk,⟨L,_,hf,hn,e,hd⟩,ih (fun b hb=>hs b (by unfold frs;rw [List.filterMap_cons,hf];exact List.mem_cons_of_mem _ hb)) hr⟩
 exact all X.outer (fun _ hb=>hb) I.ok.funs
theorem Inv.stack (I:Inv X pins σ H s):s.heap.FunFrames X.base X.stack:=by
 rcases I.ok.stk with e|⟨e,hf⟩
 ·rw [e];exact I.funs
 ·rw [e]
  refine zc1b I.loc fun m hn _ => ?_
  refine .cons (by rw [I.ok.kind];decide) hf hn ?_ I.funs
  exact Heap.get?_none_of_le (Nat.le_trans I.ok.bsz I.ok.above)
theorem Inv.stkSub (I:Inv X pins σ H s):∀ b∈frs X.stack,b∈X.env.locals::X.fs:=fun b hb=>by
 rcases I.ok.stk with e|⟨e,hf⟩
 ·rw [e] at hb;exact List.mem_cons_of_mem _ hb
 ·rw [e] at hb
  unfold frs at hb
  rw [List.filterMap_cons,hf] at hb
  exact hb
theorem Inv.stkFree (I:Inv X pins σ H s):∀ b∈frs X.stack,H b=none:=fun b hb=>by
 rcases List.mem_cons.mp (I.stkSub b hb) with e|hb
 ·rw [e];exact I.free
 ·refine zc0b (I.ok.funs.mem hb) fun _ zz=>zc1b zz fun o ho _ => ?_
  exact I.base.free b o ho (I.ok.frf b hb) fun z=>I.ok.exfs b z hb
theorem Inv.step {g':Array GenState}{t':Nat}{d':Drawn}{ch:List Addr}(I:Inv X pins σ H s)
 (hch:∀ b∈ch,(b∈X.ex∨X.s₀.heap.objs.size≤b)∧b≠X.env.locals∧(∀ x c,X.env.cells.lookup x=some c→c≠b)∧∀ p∈X.pn++pins,p.1≠b)
 (keep:∀ b o,b≠X.env.locals→b∉X.fs→b∉ch→s.heap.get? b=some o→H b=none→h'.get? b=some o)
 (slot:∀ b o,b≠X.env.locals→b∈X.fs→b∉ch→s.heap.get? b=some o→H b=none→∃ sl,h'.get? b=some { o with slots:=sl }) (free:∀ b o,b∉ch→s.heap.get? b=some o→H b=none→H' b=none)
 (there:∀ b o,b∉ch→s.heap.get? b=some o→∃ o',h'.get? b=some o')
 (tups:∀ b xs,H b=some (.tup xs)→H' b=some (.tup xs)) (frzs:∀ b o u,H b=some (.frz o u)→H' b=some (.frz o u)) (tbls:∀ b ps,H b=some (.tbl ps)→∃ more,H' b=some (.tbl (ps++more)))
 (ns:∀ m,s.heap.Ns X.env.locals m→h'.Ns X.env.locals m) (hok:HOk X.prog X.w H' h') (hg:AllBare g') :
 Inv X pins σ H' { s with heap:=h',gens:=g',drawn:=d',toks:=t' }:=by
 have neL:∀ b o,X.s₀.heap.get? b=some o→b≠X.env.locals:=fun b o e=>Nat.ne_of_lt (Nat.lt_of_lt_of_le (Heap.lt_size e) I.ok.above)
 have neC:∀ b o,X.s₀.heap.get? b=some o→b∉X.ex→b∉ch:=fun b o e hx hb=>by
  rcases (hch b hb).1 with z|z
  ·exact hx z
  ·exact absurd (Nat.lt_of_lt_of_le (Heap.lt_size e) z) (Nat.lt_irrefl _)
 have cellK:∀ x c,X.env.cells.lookup x=some c→∀ v,s.heap.IsCell c v→h'.IsCell c v:=fun x c e v zh=>by
  refine zc1b zh fun o ho hd => ?_
  have nch:c∉ch:=fun z=>(hch c z).2.2.1 x c e rfl
  by_cases hc:c∈X.fs
  ·obtain ⟨sl,q⟩:=slot c o (I.cne x c e) hc nch ho (I.freeC x c e)
   exact ⟨_,q,hd⟩
  ·exact ⟨o,keep c o (I.cne x c e) hc nch ho (I.freeC x c e),hd⟩
 refine ⟨I.ok,I.os,hg,⟨fun b o e n hb hx => ?_,fun b o e n hb hx => ?_,fun b o e n hx => ?_,fun b o e hx => ?_,fun b xs e=>tups b xs (I.base.tups b xs e),fun b o xs e=>frzs b o xs (I.base.frzs b o xs e),fun b ps e => ?_⟩,?_,fun x c e => ?_,?_,fun x c e => ?_,fun p hp => ?_,hok,I.len⟩
 ·exact keep b o (neL b o e) hb (neC b o e hx) (I.base.keep b o e n hb hx) (I.base.free b o e n hx)
 ·obtain ⟨sl,e1⟩:=I.base.slot b o e n hb hx
  obtain ⟨sl',e2⟩:=slot b _ (neL b o e) hb (neC b o e hx) e1 (I.base.free b o e n hx)
  exact ⟨sl',e2⟩
 ·obtain ⟨o',e1⟩:=I.base.there b o e hx
  exact free b o' (neC b o e hx) e1 (I.base.free b o e n hx)
 ·obtain ⟨o',e1⟩:=I.base.there b o e hx
  exact there b o' (neC b o e hx) e1
 ·obtain ⟨m1,e1⟩:=I.base.tbls b ps e
  obtain ⟨m2,e2⟩:=tbls b _ e1
  exact ⟨m1++m2,by rw [e2,Array.append_assoc]⟩
 ·refine zc1b I.loc fun m hn hl => ?_
  refine ⟨m,ns m hn,fun i x v e1 e2 e3 => ?_⟩
  refine zc1b (hl i x v e1 e2 e3) fun u r l => ?_
  refine ⟨u,r,?_⟩
  rcases l with l|⟨k,c,e,z⟩
  ·exact .inl l
  ·exact .inr ⟨k,c,e,cellK x c e _ z⟩
 ·obtain ⟨v,z⟩:=I.cell x c e
  exact ⟨v,cellK x c e v z⟩
 ·refine zc1b I.loc fun m zr1 _ => ?_
  obtain ⟨o,_,_,ho,_⟩:=zr1
  exact free _ o (fun z=>(hch _ z).2.1 rfl) ho I.free
 ·refine zc2b (I.cell x c e) fun v o ho hd => ?_
  exact free c o (fun z=>(hch c z).2.2.1 x c e rfl) ho (I.freeC x c e)
 ·refine zc0e (I.pin p hp) fun e n ne nf d => ?_
  have nch:p.1∉ch:=fun z=>(hch p.1 z).2.2.2 p hp rfl
  exact ⟨keep p.1 p.2 ne nf nch e n,free p.1 p.2 nch e n,ne,nf,d⟩
theorem Inv.un {t':Nat}(I:Inv X pins σ H s)(u:Un X.fs [] H H' s.heap h')(hok:HOk X.prog X.w H' h'):Inv X pins σ H' { s with heap:=h',toks:=t' }:=by
 refine zc1b (id I.loc) fun m zr1 _ => ?_
 obtain ⟨o,es,ep,ho,r⟩:=zr1
 obtain ⟨sl,hL⟩:=u.any ho I.free (by simp -iota)
 exact I.step (g':=s.gens) (d':=s.drawn) (ch:=[]) (fun _ z=>nomatch z) (fun b o _ hb _ e n=>u.keep b o e n hb (by simp -iota)) (fun b o _ hb _ e n=>u.slot b o e n hb (by simp -iota)) (fun b o _ e n=>u.free b o e n (by simp -iota)) (fun b o _ e=>u.there b o e (by simp -iota)) u.tups u.frzs u.tbls (fun m' hm=>by
  refine zc3b hm fun o' es' ep' ho' r' => ?_
  rw [ho] at ho';cases ho'
  exact ⟨_,es',ep',hL,r'⟩) hok I.bare
theorem Inv.call {g':Array GenState}{t':Nat}{d':Drawn}{ch:List Addr}(I:Inv X pins σ H s)(u:Un (frs X.stack) ch H H' s.heap h')(hok:HOk X.prog X.w H' h')(hg:AllBare g')
 (hch:∀ b∈ch,(b∈X.ex∨X.s₀.heap.objs.size≤b)∧b≠X.env.locals∧(∀ x c,X.env.cells.lookup x=some c→c≠b)∧∀ p∈X.pn++pins,p.1≠b) :
 Inv X pins σ H' { s with heap:=h',gens:=g',drawn:=d',toks:=t' }:=by
 refine zc1b (id I.loc) fun m zr1 _ => ?_
 obtain ⟨o,es,ep,ho,r⟩:=zr1
 obtain ⟨sl,hL⟩:=u.any ho I.free fun z=>(hch _ z).2.1 rfl
 exact I.step (ch:=ch) hch (fun b o hL hb hc e n=>u.keep b o e n (fun z=>(List.mem_cons.mp (I.stkSub b z)).elim hL hb) hc) (fun b o _ _ hc e n=>u.any e n hc) (fun b o hc e n=>u.free b o e n hc) (fun b o hc e=>u.there b o e hc) u.tups u.frzs u.tbls (fun m' hm=>by
  refine zc3b hm fun o' es' ep' ho' r' => ?_
  rw [ho] at ho';cases ho'
  exact ⟨_,es',ep',hL,r'⟩) hok hg
theorem Inv.turned {t':Nat}{it:Addr}(I:Inv X pins σ H s)(k:∀ b o,b≠it→s.heap.get? b=some o→h'.get? b=some o)(hn:H it=none)(hL:it≠X.env.locals)
 (h1:it∈X.ex∨X.s₀.heap.objs.size≤it) (h2:∀ x c,X.env.cells.lookup x=some c→c≠it) (h3:∀ p∈X.pn++pins,p.1≠it):Inv X pins σ H { s with heap:=h',toks:=t' }:=by
 have nit:∀ b u,H b=some u→b≠it:=fun b u e z=>by rw [z,hn] at e;cases e
 refine I.step (g':=s.gens) (d':=s.drawn) (ch:=[it]) (fun b hb => ?_) (fun b o _ _ hc e _=>k b o (fun z=>hc (by simp -iota [z])) e) (fun b o _ _ hc e _=>⟨o.slots,k b o (fun z=>hc (by simp -iota [z])) e⟩) (fun _ _ _ _ n=>n)
  (fun b o hc e=>⟨o,k b o (fun z=>hc (by simp -iota [z])) e⟩) (fun _ _ e=>e) (fun _ _ _ e=>e) (fun b ps e=>⟨#[],by rw [e];simp -iota⟩) (fun m hm => ?_) (fun b u e => ?_) I.bare
 ·have e:b=it:=by simpa -iota using hb
  subst e
  exact ⟨h1,hL,h2,h3⟩
 ·refine zc3b hm fun o es ep ho r => ?_
  exact ⟨o,es,ep,k _ o (Ne.symm hL) ho,r⟩
 ·refine (I.hok b u e).stay (fun c v hc q=>k c v ?_ q) (fun _ q=>q) fun _ _ q=>q
  rcases hc with z|z
  ·rw [z];exact nit b u e
  ·exact nit c _ z
theorem Inv.tok (I:Inv X pins σ H s)(t:Nat):Inv X pins σ H { s with toks:=t }:=I.un (h':=s.heap) (t':=t) Un.refl I.hok
theorem Inv.kept {t':Nat}(I:Inv X pins σ H s)(k:∀ b u,s.heap.get? b=some u→h'.get? b=some u):Inv X pins σ H { s with heap:=h',toks:=t' }:=I.un (Un.kept k) (I.hok.kept k)
theorem Inv.laid {a:Addr}{o:HO}{t':Nat}(I:Inv X pins σ H s)(k:∀ b u,s.heap.get? b=some u→h'.get? b=some u)(hp:s.heap.objs.size≤a)(new:zbh X.prog X.w (upd H a o) h' a o) :
 Inv X pins σ (upd H a o) { s with heap:=h',toks:=t' }:=I.un (Un.laid k hp (I.hok.fresh hp)) (I.hok.laid k hp new)
theorem Inv.write {x e:Addr}{o:HO}{t':Nat}(I:Inv X pins σ H s)(mu:Mut (H x))(he:e=x∨H e=some (.own x))(k:∀ b u,b≠e→s.heap.get? b=some u→h'.get? b=some u)(heo:∃ u,h'.get? e=some u)
 (new:zbh X.prog X.w (upd H x o) h' x o):Inv X pins σ (upd H x o) { s with heap:=h',toks:=t' }:=I.un (Un.write mu he k heo) (I.hok.write mu he k heo new)
theorem Inv.pins_of {pins':List (Addr×Obj)}(I:Inv X pins σ H s)(h:∀ p∈pins',s.heap.get? p.1=some p.2∧H p.1=none∧p.1≠X.env.locals∧p.1∉X.fs∧∀ v,p.2.data ≠ .cell v):Inv X pins' σ H s :=
 ⟨I.ok,I.os,I.bare,I.base,I.loc,I.cell,I.free,I.freeC,fun p hp=>(List.mem_append.mp hp).elim (fun z=>I.pin p (List.mem_append_left _ z)) (h p),I.hok,I.len⟩
theorem zdX {N:List Str}(hN:N.Nodup){i j:Nat}{x:Str}(a:N[i]? = some x)(b:N[j]? = some x):i=j:=by
 obtain ⟨h1,e1⟩:=List.getElem?_eq_some_iff.mp a
 obtain ⟨h2,e2⟩:=List.getElem?_eq_some_iff.mp b
 exact (List.getElem_inj hN).mp (e1.trans e2.symm)
theorem zix {M:Model}{A:Around}{E:Value→Shared→Prop}{i:Nat}{x:Str}{v:V}{u:Value}{Q:Unit→Shared→Prop}(I:Inv X pins σ H s)(hN:X.N.Nodup)(hi:X.N[i]? = some x)(hx:Loc X.env.scope x)(r:RelV v u)
 (h:∀ s',Inv X pins (σ.set i (some v)) H s'→(∃ a,Heap.SameBut a s.heap s'.heap∧(a=X.env.locals∨X.env.cells.lookup x=some a))→Q () s') (hf:X.fn x=true∨X.env.scope.names.lookup x=some .local:=by first|exact .inl rfl|exact .inr rfl|assumption):wpAny M A (storeName X.env x u) Q E s:=by
 refine zc1b (id I.loc) fun m hn hl => ?_
 have hcls:(X.env.scope.kind == .class||(X.env.scope.kind == .module&&X.env.locals != X.env.globals))=false:=by rw [I.ok.kind];rfl
 have hiσ : i < σ.length:=by rw [I.len];exact (List.getElem?_eq_some_iff.mp hi).1
 have cne:=I.cne
 have tracked:∀ {a:Addr} {h':Heap},(∃ o,s.heap.get? a=some o∧H a=none)→Heap.SameBut a s.heap h'→HOk X.prog X.w H h':=fun {a h'} ha hs b ob e=>by
  refine zc1b ha fun _ _ hfree => ?_
  refine (I.hok b ob e).stay (fun c w' hc q=>(hs.2 c ?_).trans q) (fun _ q=>q) fun _ _ q=>q
  rintro rfl
  rcases hc with rfl|hc
  ·rw [hfree] at e;cases e
  ·rw [hfree] at hc;cases hc
 rcases hx with hk|hk
 ·refine wpAny_storeName_local hk hn (fun h' hn' hs => ?_) hcls
  refine zc3b (id hn) fun oL _ _ hoL _ => ?_
  refine h _ ⟨I.ok,I.os,I.bare,⟨fun b o e n hb hx => ?_,fun b o e n hb hx => ?_,I.base.free,fun b o e hx => ?_,I.base.tups,I.base.frzs,I.base.tbls⟩,⟨_,hn',fun j y v' e1 e2 e3 => ?_⟩,fun y c e => ?_,I.free,I.freeC,fun p hp => ?_,tracked ⟨oL,hoL,I.free⟩ hs,by simpa -iota using I.len⟩ ⟨_,hs,.inl rfl⟩
  ·exact (hs.2 b (Nat.ne_of_lt (Nat.lt_of_lt_of_le (Heap.lt_size e) I.ok.above))).trans (I.base.keep b o e n hb hx)
  ·obtain ⟨sl,e1⟩:=I.base.slot b o e n hb hx
   exact ⟨sl,(hs.2 b (Nat.ne_of_lt (Nat.lt_of_lt_of_le (Heap.lt_size e) I.ok.above))).trans e1⟩
  ·obtain ⟨o',e1⟩:=I.base.there b o e hx
   exact ⟨o',(hs.2 b (Nat.ne_of_lt (Nat.lt_of_lt_of_le (Heap.lt_size e) I.ok.above))).trans e1⟩
  ·by_cases hj:j=i
   ·subst hj
    rw [hi] at e1;cases e1
    rw [List.getElem?_set_self hiσ] at e2
    cases e2
    exact ⟨u,r,.inl ⟨hk,by simp -iota⟩⟩
   ·rw [List.getElem?_set_ne (Ne.symm hj)] at e2
    refine zc1b (hl j y v' e1 e2 e3) fun u' r' q => ?_
    refine ⟨u',r',?_⟩
    rcases q with ⟨k,e⟩|⟨k,c,e,z⟩
    ·refine .inl ⟨k,?_⟩
     have:y≠x:=fun e=>hj (zdX hN e1 (e ▸ hi))
     simp -iota [this,e]
    ·exact .inr ⟨k,c,e,z.sameBut hs (cne y c e)⟩
  ·obtain ⟨w',z⟩:=I.cell y c e
   exact ⟨w',z.sameBut hs (cne y c e)⟩
  ·refine zc0e (I.pin p hp) fun e n ne nf d => ?_
   exact ⟨(hs.2 p.1 ne).trans e,n,ne,nf,d⟩
 ·have hfn:X.fn x=true:=by
   rcases hf with z|z
   ·exact z
   ·rw [z] at hk;cases hk
  obtain ⟨c,hc⟩:=I.ok.has x (.inl hk)
  obtain ⟨w',z⟩:=I.cell x c hc
  refine wpAny_storeName_cell I.ok.kind hk hc z (fun h' hc' hs => ?_)
  refine zc1b (id z) fun oc hoc hocd => ?_
  refine h { s with heap:=h' } ⟨I.ok,I.os,I.bare,⟨fun b o e n hb hx => ?_,fun b o e n hb hx => ?_,I.base.free,fun b o e hx => ?_,I.base.tups,I.base.frzs,I.base.tbls⟩,⟨m,hn.sameBut hs (Ne.symm (cne x c hc)),fun j y v' e1 e2 e3 => ?_⟩,fun y c' e => ?_,I.free,I.freeC,fun p hp => ?_,tracked ⟨oc,hoc,I.freeC x c hc⟩ hs,by simpa -iota using I.len⟩ ⟨c,hs,.inr hc⟩
  ·exact (hs.2 b (Nat.ne_of_lt (Nat.lt_of_lt_of_le (Heap.lt_size e) (I.ok.cab x c hfn hc)))).trans (I.base.keep b o e n hb hx)
  ·obtain ⟨sl,e1⟩:=I.base.slot b o e n hb hx
   exact ⟨sl,(hs.2 b (Nat.ne_of_lt (Nat.lt_of_lt_of_le (Heap.lt_size e) (I.ok.cab x c hfn hc)))).trans e1⟩
  ·obtain ⟨o',e1⟩:=I.base.there b o e hx
   exact ⟨o',(hs.2 b (Nat.ne_of_lt (Nat.lt_of_lt_of_le (Heap.lt_size e) (I.ok.cab x c hfn hc)))).trans e1⟩
  ·by_cases hj:j=i
   ·subst hj
    rw [hi] at e1;cases e1
    rw [List.getElem?_set_self hiσ] at e2
    cases e2
    exact ⟨u,r,.inr ⟨.inl hk,c,hc,hc'⟩⟩
   ·rw [List.getElem?_set_ne (Ne.symm hj)] at e2
    refine zc1b (hl j y v' e1 e2 e3) fun u' r' q => ?_
    refine ⟨u',r',?_⟩
    rcases q with q|⟨k,c',e,z'⟩
    ·exact .inl q
    ·refine .inr ⟨k,c',e,z'.sameBut hs ?_⟩
     rintro rfl
     exact hj (zdX hN e1 (I.ok.inj _ _ _ e hc ▸ hi))
  ·by_cases hcc:c'=c
   ·subst hcc;exact ⟨_,hc'⟩
   ·obtain ⟨w2,z2⟩:=I.cell y c' e
    exact ⟨w2,z2.sameBut hs hcc⟩
  ·refine zc0e (I.pin p hp) fun e n ne nf d => ?_
   refine ⟨(hs.2 p.1 ?_).trans e,n,ne,nf,d⟩
   intro q
   rw [q,hoc] at e
   have q':oc=p.2:=Option.some.inj e
   exact d w' (by rw [← q'];exact hocd)
theorem zc4 {M:Model}{A:Around}{E:Value→Shared→Prop}{i:Nat}{x:Str}{v:V}{u:Value}{Q:Unit→Shared→Prop}(I:Inv X pins σ H s)(hN:X.N.Nodup)(hi:X.N[i]? = some x)(hx:Loc X.env.scope x)(r:RelV v u)
 (h:∀ s',Inv X pins (σ.set i (some v)) H s'→Q () s') (hf:X.fn x=true∨X.env.scope.names.lookup x=some .local:=by first|exact .inl rfl|exact .inr rfl|assumption):wpAny M A (storeName X.env x u) Q E s :=
 zix I hN hi hx r (fun s' I' _=>h s' I') hf
theorem Inv.call' {s':Shared}{ch:List Addr}(I:Inv X pins σ H s)(ho:s'.os=s.os)(u:Un (frs X.stack) ch H H' s.heap s'.heap)(hok:HOk X.prog X.w H' s'.heap)(hg:AllBare s'.gens)
 (hch:∀ b∈ch,(b∈X.ex∨X.s₀.heap.objs.size≤b)∧b≠X.env.locals∧(∀ x c,X.env.cells.lookup x=some c→c≠b)∧∀ p∈X.pn++pins,p.1≠b):Inv X pins σ H' s':=by
 obtain ⟨h',g',d',t',o'⟩:=s'
 have e:o'=s.os:=ho
 subst e
 exact I.call (g':=g') (t':=t') (d':=d') u hok hg hch
end
abbrev XK:=Value→Option Addr→Hp→Prop
abbrev St:=List (Option V)
abbrev VK:=V→Hp→Prop
abbrev TE:=St→Hp→VK→Prop
abbrev TT:=St→Hp→(Bool→Hp→Prop)→Prop
abbrev TA:=St→Hp→(List V→Hp→Prop)→Prop
structure Ends where
 nx:St→Hp→Prop
 rt:VK
 bk:St→Hp→Prop:=fun _ _=>False
 ct:St→Hp→Prop:=fun _ _=>False
abbrev TS:=Ends→St→Hp→Prop
def EP (X:Cx)(pins:List (Addr×Obj))(σ : St)(Q:VK)(u:Value)(s':Shared):Prop:=∃ v H',Inv X pins σ H' s'∧RelV v u∧Q v H'
noncomputable def TP (X:Cx)(pins:List (Addr×Obj))(σ : St)(Q:Bool→Hp→Prop)(b:Bool)(s':Shared):Prop:=∃ H',Inv X pins σ H' s'∧Q b H'
noncomputable def AP (X:Cx)(pins:List (Addr×Obj))(σ : St)(Q:List V→Hp→Prop)(us:List Value)(s':Shared):Prop:=∃ vs H',Inv X pins σ H' s'∧Vals vs us∧Q vs H'
def SP (X:Cx)(pins:List (Addr×Obj))(D:Ends)(f:Flow)(s':Shared):Prop :=
 match f with
 | .next => ∃ σ' H',Inv X pins σ' H' s'∧D.nx σ' H'
 | .brk => ∃ σ' H',Inv X pins σ' H' s'∧D.bk σ' H'
 | .cont => ∃ σ' H',Inv X pins σ' H' s'∧D.ct σ' H'
 | .ret u => ∃ v σ' H',Inv X pins σ' H' s'∧RelV v u∧D.rt v H'
noncomputable def PE (X:Cx)(e:Expr)(t:TE):Prop :=
 ∀ (pins:List (Addr×Obj)) (s:Shared) (σ : St) (H:Hp) (Q:VK),Inv X pins σ H s→t σ H Q→wpAny (model X.prog X.w) X.A (eval e X.env) (EP X pins σ Q) X.xe s
noncomputable def PT (X:Cx)(e:Expr)(t:TT):Prop :=
 ∀ (pins:List (Addr×Obj)) (s:Shared) (σ : St) (H:Hp) (Q:Bool→Hp→Prop),Inv X pins σ H s→t σ H Q→wpAny (model X.prog X.w) X.A (isTrue e X.env (eval e X.env)) (TP X pins σ Q) X.xe s
noncomputable def PW (X:Cx)(e:Expr)(t:TT):Prop :=
 ∀ (whole:Sem Value) (pins:List (Addr×Obj)) (s:Shared) (σ : St) (H:Hp) (Q:Bool→Hp→Prop),Inv X pins σ H s→t σ H Q→wpAny (model X.prog X.w) X.A (isTrue e X.env whole) (TP X pins σ Q) X.xe s
theorem PW.pt {X:Cx}{e:Expr}{t:TT}(h:PW X e t):PT X e t:=h _
noncomputable def PA (X:Cx)(es:List Expr)(t:TA):Prop :=
 ∀ (pos:Pos) (pins:List (Addr×Obj)) (s:Shared) (σ : St) (H:Hp) (Q:List V→Hp→Prop),Inv X pins σ H s→t σ H Q→wpAny (model X.prog X.w) X.A (spliced (backTo pos (starEach es X.env))) (AP X pins σ Q) X.xe s
noncomputable def PS (X:Cx)(st:Stmt)(t:TS):Prop :=
 ∀ (pins:List (Addr×Obj)) (s:Shared) (σ : St) (H:Hp) (D:Ends),Inv X pins σ H s→t D σ H→wpAny (model X.prog X.w) X.A (exec st X.env) (SP X pins D) X.xe s
noncomputable def PSs (X:Cx)(st:List Stmt)(t:TS):Prop :=
 ∀ (pins:List (Addr×Obj)) (s:Shared) (σ : St) (H:Hp) (D:Ends),Inv X pins σ H s→t D σ H→wpAny (model X.prog X.w) X.A (execs st X.env) (SP X pins D) X.xe s
theorem thn {α : Type}{t:Sem α}{Q Q' : α → Shared→Prop}{M:Model}{A:Around}{E:Value→Shared→Prop}{s:Shared}(h:wpAny M A t Q E s)(hQ:∀ a s,Q a s→Q' a s):wpAny M A t Q' E s:=wpAny_mono h hQ fun _ _ x=>x
end L2
namespace L2
open PySem PySem.Spec PyProof.Rows
section
variable {X:Cx}
noncomputable def tVar (i:Nat):TE:=fun σ H Q => ∃ v,σ[i]? = some (some v)∧Q v H
noncomputable def tC (v:V):TE:=fun _ H Q=>Q v H
theorem zpB {i:Nat}{x:Str}{pos:Pos}(hN:X.N[i]? = some x)(hv:Vis X.env.scope x)(hd:autoParam ((x == ("__debug__" : Str))=false) zav._auto_1)(hcd:autoParam ((x == ("__classdict__" : Str))=false) zav._auto_1):PE X (.Name x pos) (tVar i):=by
 intro pins s σ H Q I h
 refine zc1b h fun v e h => ?_
 refine zc1b I.loc fun m hn hl => ?_
 refine zc1b (hl i x v hN e hv) fun u r l => ?_
 have fin:EP X pins σ Q u s:=⟨v,H,I,r,h⟩
 rcases l with ⟨hk,hm⟩|⟨hk,c,hc,hcell⟩
 ·exact wpAny_Name (wpAny_loadName_local I.ok.kind hk hn hm fin) hd
 ·rcases hk with hk|hk
  ·exact wpAny_Name (wpAny_loadName_cell I.ok.kind hk hc hcell fin) hd
  ·exact wpAny_Name (wpAny_loadName_free I.ok.kind hk hc hcell fin hcd) hd
theorem zpq {i j pos}:PE X (.Constant (.int i) j pos) (tC (.int i)):=fun _ _ _ H _ I h=>wpAny_Constant_int ⟨.int i,H,I.tok _,⟨_,rfl⟩,h⟩
theorem pe_bl {b j pos}:PE X (.Constant (.bool b) j pos) (tC (.bl b)):=fun _ _ _ H _ I h=>Constant_bool ⟨.bl b,H,I,rfl,h⟩
theorem znq {j pos}:PE X (.Constant .none j pos) (tC .non):=fun _ _ _ H _ I h=>Constant_none ⟨.non,H,I,rfl,h⟩
theorem zkP {x j pos}:PE X (.Constant (.str x) j pos) (tC (.str x)):=fun _ _ _ H _ I h=>Calls.Constant_str ⟨.str x,H,I.tok _,⟨_,rfl⟩,h⟩
noncomputable def Gl (X:Cx)(x:Str):Prop:=X.env.kindOf x=some .globalImplicit
theorem zcx {E:Value→Shared→Prop}{pins:List (Addr×Obj)}{s:Shared}{σ : St}{H:Hp}{x:Str}{u:Value}{pos:Pos}{Q:Value→Shared→Prop}(I:Inv X pins σ H s)(hg:Gl X x)(hm:X.mg x=some u)(h:Q u s)
 (hd:autoParam ((x == ("__debug__" : Str))=false) zav._auto_1):wpAny (model X.prog X.w) X.A (eval (.Name x pos) X.env) Q E s :=
 Calls.Name_function_global I.ok.kind hg (Calls.loadGlobal_global (by rw [I.ok.glob];exact I.mod.glob.keeps I.bk) hm h) hd
theorem zgk {E:Value→Shared→Prop}{pins:List (Addr×Obj)}{s:Shared}{σ : St}{H:Hp}{x:Str}{u:Value}{pos:Pos}{Q:Value→Shared→Prop}(I:Inv X pins σ H s)(hg:Gl X x)(hm:X.mg x=none)(hv:bootBuiltins x=some u)(h:Q u s)
 (hn:autoParam (x ≠ "__name__") zav._auto_1) (hd:autoParam ((x == ("__debug__" : Str))=false) zav._auto_1):wpAny (model X.prog X.w) X.A (eval (.Name x pos) X.env) Q E s:=by
 refine zc1b I.mod.blt fun mb h1 h2 => ?_
 exact Calls.Name_function_global I.ok.kind hg (Calls.loadGlobal_builtin (by rw [I.ok.glob];exact I.mod.glob.keeps I.bk) hm (by rw [I.ok.blt];exact h1.keeps I.bk) ((h2 x hn).trans hv) h) hd
theorem zhi {x:Str}{v:V}{u:Value}{pos:Pos}(hg:Gl X x)(hm:X.mg x=some u)(r:RelV v u)(hd:autoParam ((x == ("__debug__" : Str))=false) zav._auto_1):PE X (.Name x pos) (tC v) :=
 fun _ _ _ H _ I h=>zcx I hg hm ⟨v,H,I,r,h⟩ hd
theorem zlP {x:Str}{v:V}{u:Value}{pos:Pos}(hg:Gl X x)(hm:X.mg x=none)(hv:bootBuiltins x=some u)(r:RelV v u)(hn:autoParam (x ≠ "__name__") zav._auto_1)(hd:autoParam ((x == ("__debug__" : Str))=false) zav._auto_1):PE X (.Name x pos) (tC v) :=
 fun _ _ _ H _ I h=>zgk I hg hm hv ⟨v,H,I,r,h⟩ hn hd
variable {a b:Expr}{ta tb:TE}{pos:Pos}
noncomputable def PC (X:Cx)(op:CmpOp)(a b:Expr)(t:TE):Prop :=
 ∀ (pins:List (Addr×Obj)) (s:Shared) (σ : St) (H:Hp) (Q:VK),Inv X pins σ H s→t σ H Q →
  wpAny (model X.prog X.w) X.A (eval a X.env) (fun v s₁=>wpAny (model X.prog X.w) X.A (eval b X.env) (fun u s₂=>wpAny (model X.prog X.w) X.A (compareOp op v u) (EP X pins σ Q) X.xe s₂) X.xe s₁) X.xe s
noncomputable def tB (t:TE):TT:=fun σ H Q=>t σ H fun x H1 => ∃ c,x=.bl c∧Q c H1
theorem zoZ {op:CmpOp}{t:TE}(h:PC X op a b t)(h1:behindInMarks op b=false:=by first|exact nobehind _ (by decide) (by decide)|rfl):PE X (.Compare a [op] [b] pos) t:=fun pins s σ H Q I hw=>wpAny_Compare1 (h pins s σ H Q I hw) h1
theorem zoA {e:Expr}{t:TE}(h:PE X e t)(he:autoParam (∀ whole,isTrue e X.env whole=(do let v ← whole;standAt e.pos;holding [v] (truthy v))) zaw._auto_1):PT X e (tB t):=by
 intro pins s σ H Q I hw
 refine isTrue_plain (thn (h pins s σ H _ I hw) fun v s1 ⟨x,H1,I1,r1,q1⟩ => ?_) (he _)
 refine zc1b q1 fun d zr1 q => ?_
 obtain rfl:=zr1
 cases r1
 exact wpAny_truthy_bool ⟨H1,I1,q⟩
variable {tA tB':TT}{rest:List Expr}
noncomputable def tAnd (t u:TT):TT:=fun σ H Q=>t σ H fun c H1=>if c=true then u σ H1 Q else Q false H1
noncomputable def tOr (t u:TT):TT:=fun σ H Q=>t σ H fun c H1=>if c=true then Q true H1 else u σ H1 Q
noncomputable def tNot (t:TT):TT:=fun σ H Q=>t σ H fun c H1=>Q (!c) H1
theorem zmf (ha:PT X a tA):PW X (.BoolOp .And [a] pos) tA:=by
 intro wh pins s σ H Q I h
 refine isTrue_and (thn (ha pins s σ H Q I h) fun c s1 e => ?_)
 cases c with
 | true=>exact isTrue_and_nil e
 | false=>exact e
theorem zo3 (ha:PT X a tA):PW X (.BoolOp .Or [a] pos) tA:=by
 intro wh pins s σ H Q I h
 refine isTrue_or (thn (ha pins s σ H Q I h) fun c s1 e => ?_)
 cases c with
 | false=>exact isTrue_or_nil e
 | true=>exact e
theorem znE (ha:PT X a tA)(hb:PW X (.BoolOp .And (b::rest) pos) tB'):PW X (.BoolOp .And (a::b::rest) pos) (tAnd tA tB'):=by
 intro wh pins s σ H Q I h
 refine isTrue_and (thn (ha pins s σ H _ I h) fun c s1 zh => ?_)
 refine zc1b zh fun H1 I1 q1 => ?_
 cases c with
 | true=>exact hb wh pins s1 σ H1 Q I1 q1
 | false=>exact ⟨H1,I1,q1⟩
theorem pw_or (ha:PT X a tA)(hb:PW X (.BoolOp .Or (b::rest) pos) tB'):PW X (.BoolOp .Or (a::b::rest) pos) (tOr tA tB'):=by
 intro wh pins s σ H Q I h
 refine isTrue_or (thn (ha pins s σ H _ I h) fun c s1 zh => ?_)
 refine zc1b zh fun H1 I1 q1 => ?_
 cases c with
 | true=>exact ⟨H1,I1,q1⟩
 | false=>exact hb wh pins s1 σ H1 Q I1 q1
theorem zoo (ha:PT X a tA):PT X (.UnaryOp .Not a pos) (tNot tA):=by
 intro pins s σ H Q I h
 exact isTrue_not (ha pins s σ H (fun c H1=>Q (!c) H1) I h)
noncomputable def tAndV (ta tb:TE):TE:=fun σ H Q=>ta σ H fun x H1 => ∃ c,x=.bl c∧if c=true then tb σ H1 Q else Q (.bl false) H1
noncomputable def tOrV (ta tb:TE):TE:=fun σ H Q=>ta σ H fun x H1 => ∃ c,x=.bl c∧if c=true then Q (.bl true) H1 else tb σ H1 Q
theorem zop {op}{t:TE}(h:PE X a t):PE X (.BoolOp op [a] pos) t:=fun pins s σ H Q I hw=>BoolOp_one (h pins s σ H Q I hw)
theorem zn4 (ha:PE X a ta)(hb:PE X (.BoolOp .And (b::rest) pos) tb):PE X (.BoolOp .And (a::b::rest) pos) (tAndV ta tb):=by
 intro pins s σ H Q I h
 refine BoolOp_and (thn (ha pins s σ H _ I h) fun v s1 zh => ?_)
 obtain ⟨x,H1,I1,r1,q1⟩:=zh
 obtain ⟨c,rfl,q1⟩:=q1
 cases r1
 refine wpAny_truthy_bool ?_
 cases c with
 | true=>exact hb pins s1 σ H1 Q I1 q1
 | false=>exact ⟨.bl false,H1,I1,rfl,q1⟩
theorem pe_or (ha:PE X a ta)(hb:PE X (.BoolOp .Or (b::rest) pos) tb):PE X (.BoolOp .Or (a::b::rest) pos) (tOrV ta tb):=by
 intro pins s σ H Q I h
 refine BoolOp_or (thn (ha pins s σ H _ I h) fun v s1 zh => ?_)
 obtain ⟨x,H1,I1,r1,q1⟩:=zh
 obtain ⟨c,rfl,q1⟩:=q1
 cases r1
 refine wpAny_truthy_bool ?_
 cases c with
 | false=>exact hb pins s1 σ H1 Q I1 q1
 | true=>exact ⟨.bl true,H1,I1,rfl,q1⟩
end
end L2
namespace L2
open PySem PySem.Spec PyProof.Rows
noncomputable def SqL (K:PySem.W.Frag)(H:Hp)(a:Addr)(xs:List V):Prop :=
 Rd H a (.lst xs) ∨
  ∃ (o:Obj) (its:Array Value) (n:Nat),K.lookup a=some o∧o.cls=.type "list" ∧ o.dict=none∧o.data=.seq its n∧its.size≤sizeLine∧Vals xs its.toList
noncomputable def SqT (K:PySem.W.Frag)(H:Hp)(a:Addr)(xs:List V):Prop :=
 Rd H a (.tup xs) ∨
  ∃ (o:Obj) (its:Array Value) (n:Nat),K.lookup a=some o∧o.cls=.type "tuple" ∧ o.data=.seq its n∧its.size≤sizeLine∧Vals xs its.toList
noncomputable def absV:Value→Option V
 | .none=>some .non
 | .bool b=>some (.bl b)
 | .int i _=>some (.int i)
 | .str x _=>some (.str x)
 | .bytes b _=>some (.byt b)
 | .float b _=>some (.flt b)
 | .ref a=>some (.ref a)
 | .type n=>some (.ty n)
 | _=>none
theorem RelV.abs {x:V}{u:Value}(r:RelV x u):absV u=some x:=by
 cases x with
 | non=>cases r;rfl
 | bl _=>cases r;rfl
 | int _=>obtain ⟨t,rfl⟩:=r;rfl
 | str _=>obtain ⟨t,rfl⟩:=r;rfl
 | byt _=>obtain ⟨t,rfl⟩:=r;rfl
 | flt _=>obtain ⟨t,rfl⟩:=r;rfl
 | ref _=>cases r;rfl
 | ty _=>cases r;rfl
theorem RelV.inj {x y:V}{u:Value}(r:RelV x u)(q:RelV y u):x=y:=Option.some.inj (r.abs.symm.trans q.abs)
theorem Vals.inj:∀ {xs ys:List V} {us:List Value},Vals xs us→Vals ys us→xs=ys:=fun {xs ys us} g h=>by
 induction g generalizing ys with
 | nil=>cases h;rfl
 | cons r _ ih =>
  cases h with
  | cons r' t'=>rw [r.inj r',ih t']
section
variable {X:Cx}{pins:List (Addr×Obj)}{σ : St}{H:Hp}{s:Shared}{a:Addr}{xs ys:List V}
theorem SqL.of {K:PySem.W.Frag}(h:H a=some (.lst xs)):SqL K H a xs:=.inl (.inl h)
theorem SqT.of {K:PySem.W.Frag}(h:H a=some (.tup xs)):SqT K H a xs:=.inl (.inl h)
theorem Inv.list (I:Inv X pins σ H s)(h:SqL X.K H a xs):∃ its:List Value,Vals xs its∧PlainL s.heap a its.toArray∧xs.length≤sizeLine:=by
 rcases h with h|⟨o,its,n,hk,hc,hd,hs,hz,r⟩
 ·refine zc0b (h.ok I.hok) fun z zz=>zc2b zz fun its n r e => ?_
  exact ⟨its,r,⟨_,n,e,rfl,rfl,rfl⟩,z⟩
 ·refine ⟨its.toList,r,⟨o,n,I.kIn a o hk,hc,hd,by simpa -iota using hs⟩,?_⟩
  have e:=r.length
  simp -iota only [Array.length_toList] at e
  omega
theorem Inv.tuple (I:Inv X pins σ H s)(h:SqT X.K H a xs):∃ its:List Value,Vals xs its∧IsTup s.heap a its.toArray∧xs.length≤sizeLine:=by
 rcases h with h|⟨o,its,n,hk,hc,hs,hz,r⟩
 ·obtain ⟨z,its,r,p⟩:=h.ok I.hok
  exact ⟨its,r,p,z.1⟩
 ·refine ⟨its.toList,r,⟨o,I.kIn a o hk,hc,n,by simpa -iota using hs⟩,?_⟩
  have e:=r.length
  simp -iota only [Array.length_toList] at e
  omega
theorem Inv.list_inj (I:Inv X pins σ H s)(h:SqL X.K H a xs)(h':SqL X.K H a ys):xs=ys:=by
 refine zc1c (I.list h) fun its r zr2 _ => ?_
 obtain ⟨o,n,e,_,_,d⟩:=zr2
 refine zc1c (I.list h') fun its' r' zr2 _ => ?_
 obtain ⟨o',n',e',_,_,d'⟩:=zr2
 rw [e] at e';cases e'
 rw [d] at d'
 injection d' with d1 _
 have:its=its':=by simpa -iota using congrArg Array.toList d1
 subst this
 exact r.inj r'
theorem Inv.tuple_inj (I:Inv X pins σ H s)(h:SqT X.K H a xs)(h':SqT X.K H a ys):xs=ys:=by
 refine zc1c (I.tuple h) fun its r zr2 _ => ?_
 obtain ⟨o,e,_,n,d⟩:=zr2
 refine zc1c (I.tuple h') fun its' r' zr2 _ => ?_
 obtain ⟨o',e',_,n',d'⟩:=zr2
 rw [e] at e';cases e'
 rw [d] at d'
 injection d' with d1 _
 have:its=its':=by simpa -iota using congrArg Array.toList d1
 subst this
 exact r.inj r'
end
abbrev Cx.wish (X:Cx)(E:Value→Shared→Prop):Cx:={ X with xe:=E }
abbrev Cx.nox (X:Cx):Cx:=X.wish fun _ _=>False
theorem Cx.Ok.wish {X:Cx}(ok:X.Ok)(E:Value→Shared→Prop):(X.wish E).Ok :=
 ⟨ok.mod,ok.kind,ok.glob,ok.blt,ok.above,ok.inj,ok.has,ok.cab,ok.hd,ok.frames,ok.stk,ok.exf,ok.bs,ok.bsz,ok.noex,ok.exfs,ok.funs,ok.frf⟩
theorem Cx.Ok.unwish {X:Cx}{E:Value→Shared→Prop}(ok:(X.wish E).Ok):X.Ok :=
 ⟨ok.mod,ok.kind,ok.glob,ok.blt,ok.above,ok.inj,ok.has,ok.cab,ok.hd,ok.frames,ok.stk,ok.exf,ok.bs,ok.bsz,ok.noex,ok.exfs,ok.funs,ok.frf⟩
section
variable {X:Cx}{pins:List (Addr×Obj)}{σ : St}{H:Hp}{s:Shared}{E:Value→Shared→Prop}
theorem Inv.wish (I:Inv X pins σ H s)(E:Value→Shared→Prop):Inv (X.wish E) pins σ H s:=⟨I.ok.wish E,I.os,I.bare,I.base,I.loc,I.cell,I.free,I.freeC,I.pin,I.hok,I.len⟩
theorem Inv.unwish (I:Inv (X.wish E) pins σ H s):Inv X pins σ H s:=⟨I.ok.unwish,I.os,I.bare,I.base,I.loc,I.cell,I.free,I.freeC,I.pin,I.hok,I.len⟩
theorem SP.unwish {D:Ends}{f:Flow}{s':Shared}(h:SP (X.wish E) pins D f s'):SP X pins D f s':=by
 cases f with
 | next=>obtain ⟨σ',H',I,q⟩:=h;exact ⟨σ',H',I.unwish,q⟩
 | brk=>obtain ⟨σ',H',I,q⟩:=h;exact ⟨σ',H',I.unwish,q⟩
 | cont=>obtain ⟨σ',H',I,q⟩:=h;exact ⟨σ',H',I.unwish,q⟩
 | ret u=>obtain ⟨v,σ',H',I,r,q⟩:=h;exact ⟨v,σ',H',I.unwish,r,q⟩
theorem PSs.nox {st:List Stmt}{t:TS}(h:PSs X.nox st t):PSs X st t:=fun pins s σ H D I hw =>
 wpAny_mono (h pins s σ H D (I.wish _) hw) (fun _ _ q=>q.unwish) fun _ _ z=>False.elim z
end
section
variable {X:Cx}{st:Stmt}{rest:List Stmt}{t u:TS}{e:Expr}{te:TE}{pos:Pos}
noncomputable def tNext:TS:=fun D σ H=>D.nx σ H
noncomputable def tSeq (t u:TS):TS:=fun D σ H=>t { D with nx:=u D } σ H
theorem zid:PSs X [] tNext:=fun _ _ σ H _ I h=>wpAny_execs_nil ⟨σ,H,I,h⟩
theorem zgn (h1:PS X st t)(h2:PSs X rest u):PSs X (st::rest) (tSeq t u):=by
 intro pins s σ H D I h
 refine wpAny_execs_cons (thn (h1 pins s σ H { D with nx:=u D } I h) fun f s1 q => ?_)
 cases f with
 | next =>
  refine zc2b q fun σ' H' I' q => ?_
  exact h2 pins s1 σ' H' D I' q
 | ret v=>exact q
 | brk=>exact q
 | cont=>exact q
theorem zlU (h1:PS X st t):PSs X [st] t:=by
 intro pins s σ H D I h
 refine wpAny_execs_cons (thn (h1 pins s σ H D I h) fun f s1 q => ?_)
 cases f with
 | next=>exact wpAny_execs_nil q
 | ret v=>exact q
 | brk=>exact q
 | cont=>exact q
theorem Inv.quiet {pins:List (Addr×Obj)}{σ : St}{H:Hp}{s:Shared}(I:Inv X pins σ H s):interactive X.env=false:=by simp -iota [interactive,I.ok.kind]
noncomputable def tDrop (te:TE):TS:=fun D σ H=>te σ H fun _ H1=>D.nx σ H1
theorem zhT (he:PE X e te)(hs:autoParam (swapsWith e none pos.line X.env=pure false) zau._auto_1):PS X (.Expr e pos) (tDrop te):=by
 intro pins s σ H D I h
 exact wpAny_Expr_any (thn (he pins s σ H _ I h) (by rintro v s1 ⟨x,H1,I1,r1,q1⟩;exact ⟨σ,H1,I1,q1⟩)) I.quiet hs
noncomputable def tRet (te:TE):TS:=fun D σ H=>te σ H D.rt
theorem zgd (he:PE X e te):PS X (.Return (some e) pos) (tRet te):=by
 intro pins s σ H D I h
 exact wpAny_Return_some (thn (he pins s σ H _ I h) (by rintro v s1 ⟨x,H1,I1,r1,q1⟩;exact ⟨x,σ,H1,I1,r1,q1⟩))
noncomputable def tIfS (c:TT)(t u:TS):TS:=fun D σ H=>c σ H fun b H1=>if b=true then t D σ H1 else u D σ H1
theorem ps_if {c:Expr}{a b:List Stmt}{tc:TT}(hc:PT X c tc)(ha:PSs X a t)(hb:PSs X b u):PS X (.If c a b pos) (tIfS tc t u):=by
 intro pins s σ H D I h
 refine wpAny_If (thn (hc pins s σ H _ I h) fun d s1 zh => ?_)
 refine zc1b zh fun H1 I1 q1 => ?_
 cases d with
 | true=>exact ha pins s1 σ H1 D I1 q1
 | false=>exact hb pins s1 σ H1 D I1 q1
end
abbrev TG:=V→St→Hp→(St→Hp→Prop)→Prop
abbrev TGs:=List V→St→Hp→(St→Hp→Prop)→Prop
def PG (X:Cx)(target:Expr)(t:TG):Prop :=
 ∀ (pins:List (Addr×Obj)) (s:Shared) (σ : St) (H:Hp) (v:V) (u:Value) (Q:St→Hp→Prop),Inv X pins σ H s→RelV v u→t v σ H Q →
  wpAny (model X.prog X.w) X.A (assign target X.env u) (fun _ s' => ∃ σ' H',Inv X pins σ' H' s'∧Q σ' H') X.xe s
noncomputable def PGs (X:Cx)(ts:List Expr)(t:TGs):Prop :=
 ∀ (pins:List (Addr×Obj)) (s:Shared) (σ : St) (H:Hp) (vs:List V) (us:List Value) (Q:St→Hp→Prop),Inv X pins σ H s→Vals vs us→t vs σ H Q →
  wpAny (model X.prog X.w) X.A (assignInOrder ((assignEach ts X.env).map (·.2)) us) (fun _ s' => ∃ σ' H',Inv X pins σ' H' s'∧Q σ' H') X.xe s
abbrev TSet:=V→V→V→Hp→(Hp→Prop)→Prop
def PSet (X:Cx)(t:TSet):Prop :=
 ∀ (pins:List (Addr×Obj)) (s:Shared) (σ : St) (H:Hp) (o i v:V) (ov iv u:Value) (Q:Hp→Prop),Inv X pins σ H s→RelV o ov→RelV i iv→RelV v u→t o i v H Q →
  wpAny (model X.prog X.w) X.A (setItem ov iv u) (fun _ s' => ∃ H',Inv X pins σ H' s'∧Q H') X.xe s
abbrev TIp:=V→V→Hp→VK→Prop
def PIp (X:Cx)(op:Operator)(t:TIp):Prop :=
 ∀ (pins:List (Addr×Obj)) (s:Shared) (σ : St) (H:Hp) (x y:V) (v u:Value) (Q:VK),Inv X pins σ H s→RelV x v→RelV y u→t x y H Q →
  wpAny (model X.prog X.w) X.A (inplaceOp op v u) (EP X pins σ Q) X.xe s
section
variable {X:Cx}{pos:Pos}
noncomputable def zdG (i:Nat):TG:=fun v σ H Q=>Q (σ.set i (some v)) H
theorem zat {i:Nat}{x:Str}(hN:X.N.Nodup)(hi:X.N[i]? = some x)(hx:Loc X.env.scope x)(hf:X.fn x=true∨X.env.scope.names.lookup x=some .local:=by first|exact .inl rfl|exact .inr rfl|assumption):PG X (.Name x pos) (zdG i):=by
 intro pins s σ H v u Q I r h
 exact wpAny_assign_Name (zc4 I hN hi hx r (fun s' I'=>⟨_,H,I',h⟩) hf)
noncomputable def gNil:TGs:=fun vs σ H Q=>vs=[]∧Q σ H
noncomputable def znV (t:TG)(u:TGs):TGs:=fun vs σ H Q => ∃ v r,vs=v::r∧t v σ H fun σ' H'=>u r σ' H' Q
theorem zbI:PGs X [] gNil:=by
 intro pins s σ H vs us Q I r h
 obtain ⟨e,h⟩:=h
 subst e
 cases r
 exact assignInOrder_nil ⟨σ,H,I,h⟩
theorem zar {e:Expr}{es:List Expr}{t:TG}{u:TGs}(h1:PG X e t)(h2:PGs X es u)
 (hs:autoParam ((assignEach (e::es) X.env).map (·.2)=assign e X.env::(assignEach es X.env).map (·.2)) zau._auto_1):PGs X (e::es) (znV t u):=by
 intro pins s σ H vs us Q I r h
 obtain ⟨v,vr,e1,h⟩:=h
 subst e1
 cases r with
 | cons r rr =>
  rw [hs]
  refine assignInOrder_cons (thn (h1 pins s σ H _ _ _ I r h) fun _ s1 zh => ?_)
  obtain ⟨σ1,H1,I1,q1⟩:=zh
  exact h2 pins s1 σ1 H1 _ _ Q I1 rr q1
def gTup (K:PySem.W.Frag)(n:Nat)(t:TGs):TG:=fun v σ H Q => ∃ a xs,v=.ref a∧SqT K H a xs∧xs.length=n∧t xs σ H Q
theorem zcq {es:List Expr}{k:Nat}{t:TGs}{n:Nat}(hc:X.calm=true)(h:PGs X es t)
 (hn:autoParam ((assignEach es X.env).length=n) zau._auto_1) (hst:autoParam ((assignEach es X.env).findIdx? (·.1)=none) zau._auto_1):PG X (.Tuple es k pos) (gTup X.K n t):=by
 intro pins s σ H v u Q I r hw
 obtain ⟨a,xs,e1,hq,hl,hw⟩:=hw
 subst e1
 cases r
 obtain ⟨its,rv,ht,hz⟩:=I.tuple hq
 refine assign_Tuple_tuple (I.ok.hd hc) ht (by simp -iota [hn,← hl,rv.length]) hst fun h' hx => ?_
 have I1:Inv X pins σ H { s with heap:=h' }:=I.kept (t':=s.toks) fun b o e=>hx b o (Nat.ne_of_lt (Heap.lt_size e)) e
 exact h pins _ σ H xs _ Q I1 (by simpa -iota using rv) hw
noncomputable def gSub (to ti:TE)(t:TSet):TG:=fun v σ H Q=>to σ H fun o H1=>ti σ H1 fun i H2=>t o i v H2 fun H3=>Q σ H3
theorem znk {o i:Expr}{to ti:TE}{t:TSet}(ho:PE X o to)(hi:PE X i ti)(hs:PSet X t)
 (ha:∀ v,assign (.Subscript o i pos) X.env v=(do
  let ov ← holding [v] (eval o X.env)
  let iv ← holding [v,ov] (eval i X.env)
  standAt pos
  holding [v,ov,iv] (setItem ov iv v)
  release [v,ov,iv] []):=by intro _;rfl):PG X (.Subscript o i pos) (gSub to ti t):=by
 intro pins s σ H v u Q I r h
 rw [ha]
 refine wpAny_bind (wpAny_holding (thn (ho pins s σ H _ I h) fun ov s1 zh => ?_))
 refine zc2c zh fun x H1 I1 r1 q1 => ?_
 refine wpAny_bind (wpAny_holding (thn (hi pins s1 σ H1 _ I1 q1) fun iv s2 zh => ?_))
 refine zc2c zh fun y H2 I2 r2 q2 => ?_
 refine wpAny_bind (wpAny_standAt (wpAny_bind (wpAny_holding (thn (hs pins s2 σ H2 x y v ov iv u _ I2 r1 r2 r q2) fun _ s3 zh => ?_))))
 refine zc1b zh fun H3 I3 q3 => ?_
 exact wpAny_release ⟨σ,H3,I3,q3⟩
noncomputable def tAsg (te:TE)(g:TG):TS:=fun D σ H=>te σ H fun x H1=>g x σ H1 D.nx
theorem zkM {tg e:Expr}{te:TE}{g:TG}(he:PE X e te)(hg:PG X tg g)(hs:autoParam (swapsWithSole [tg] e pos.line X.env=pure false) zau._auto_1)(hw:autoParam (swappedStores [tg] e X.env=pure none) zau._auto_1)
 (h1:autoParam ((assignEach [tg] X.env).map (·.2)=[assign tg X.env]) zau._auto_1):PS X (.Assign [tg] e pos) (tAsg te g):=by
 intro pins s σ H D I h
 refine wpAny_Assign_stores (thn (he pins s σ H _ I h) fun v s1 ⟨x,H1,I1,r1,q1⟩ => ?_) hs hw
 rw [h1]
 exact thn (hg pins s1 σ H1 x v _ I1 r1 q1) fun _ s2 q=>q
theorem zla {i:Nat}{x:Str}{e:Expr}{te:TE}{pos':Pos}(hN:X.N.Nodup)(hi:X.N[i]? = some x)(hx:Loc X.env.scope x)(he:PE X e te)(hs:autoParam (swapsWith e (some (.Name x pos')) pos.line X.env=pure false) zau._auto_1)(hf:X.fn x=true∨X.env.scope.names.lookup x=some .local:=by first|exact .inl rfl|exact .inr rfl|assumption) :
 PS X (.Assign [.Name x pos'] e pos) (tAsg te (zdG i)):=by
 intro pins s σ H D I h
 refine wpAny_Assign_Name (thn (he pins s σ H _ I h) fun v s1 ⟨y,H1,I1,r1,q1⟩ => ?_) hs
 exact zc4 I1 hN hi hx r1 (fun s2 I2=>⟨_,H1,I2,q1⟩) hf
noncomputable def tAug (i:Nat)(te:TE)(ti:TIp):TS:=fun D σ H => ∃ x,σ[i]? = some (some x)∧te σ H fun y H1=>ti x y H1 fun z H2=>D.nx (σ.set i (some z)) H2
theorem znK {i:Nat}{x:Str}{e:Expr}{te:TE}{op:Operator}{ti:TIp}{pos':Pos}(hN:X.N.Nodup)(hi:X.N[i]? = some x)(hx:Loc X.env.scope x)(he:PE X e te)(ho:PIp X op ti)(hf:X.fn x=true∨X.env.scope.names.lookup x=some .local:=by first|exact .inl rfl|exact .inr rfl|assumption) :
 PS X (.AugAssign (.Name x pos') op e pos) (tAug i te ti):=by
 intro pins s σ H D I h
 obtain ⟨v,e1,h⟩:=h
 obtain ⟨m,hn,hl⟩:=I.loc
 have vis:Vis X.env.scope x:=by rcases hx with k|k;exact .inl k;exact .inr (.inl k)
 obtain ⟨u,r,l⟩:=hl i x v hi e1 vis
 refine wpAny_AugAssign_Name ?_
 have go:wpAny (model X.prog X.w) X.A (eval e X.env) (fun w s₂=>wpAny (model X.prog X.w) X.A (inplaceOp op u w) (fun r s₃=>wpAny (model X.prog X.w) X.A (storeName X.env x r) (fun _=>SP X pins D .next) X.xe s₃) X.xe s₂) X.xe s:=by
  refine thn (he pins s σ H _ I h) fun w s1 zh => ?_
  obtain ⟨y,H1,I1,r1,q1⟩:=zh
  refine thn (ho pins s1 σ H1 v y u w _ I1 r r1 q1) fun z s2 zh => ?_
  obtain ⟨zv,H2,I2,r2,q2⟩:=zh
  exact zc4 I2 hN hi hx r2 (fun s3 I3=>⟨_,H2,I3,q2⟩) hf
 rcases l with ⟨hk,hm⟩|⟨hk,c,hc,hcell⟩
 ·exact wpAny_loadName_local I.ok.kind hk hn hm go
 ·rcases hk with hk|hk
  ·exact wpAny_loadName_cell I.ok.kind hk hc hcell go
  ·rcases hx with k|k
   ·have:X.env.scope.names.lookup x=some .free:=hk
    rw [k] at this;cases this
   ·have:X.env.scope.names.lookup x=some .free:=hk
    rw [k] at this;cases this
noncomputable def ipI (f:Int→Int→Int):TIp:=fun x y H Q => ∃ i j,x=.int i∧y=.int j∧Q (.int (f i j)) H
theorem zo4:PIp X .Add (ipI fun i j=>i+j):=by
 intro pins s σ H x y v u Q I r1 r2 h
 obtain ⟨i,j,e1,e2,q⟩:=h
 subst e1;subst e2
 obtain ⟨t,rfl⟩:=r1
 obtain ⟨t',rfl⟩:=r2
 exact iadd_int ⟨.int _,H,I.tok _,⟨_,rfl⟩,q⟩
end
structure It where
 go:Nat→Hp→Prop
 yld:Nat→Hp→V→Hp→Prop
 stop:Nat→Hp→Prop
noncomputable def FpOk (X:Cx)(pins:List (Addr×Obj))(H:Hp)(b:Addr):Prop :=
 H b=none∧b≠X.env.locals∧b∉X.fs∧(b∈X.ex∨X.s₀.heap.objs.size≤b)∧(∀ x c,X.env.cells.lookup x=some c→c≠b)∧∀ p∈X.pn++pins,p.1≠b
theorem Inv.fpOk {X:Cx}{pins:List (Addr×Obj)}{σ : St}{H H':Hp}{s:Shared}{b:Addr}(I:Inv X pins σ H s)(hb:s.heap.objs.size≤b)(hn:H' b=none):FpOk X pins H' b:=by
 refine ⟨hn,Nat.ne_of_gt (Nat.lt_of_lt_of_le I.lt hb),I.nofs hb,.inr (Nat.le_trans I.sz hb),fun x c e z => ?_,fun p hp z => ?_⟩
 ·obtain ⟨v,q⟩:=I.cell x c e
  exact absurd (Nat.lt_of_lt_of_le q.lt (by rw [z];exact hb)) (Nat.lt_irrefl _)
 ·exact absurd (Nat.lt_of_lt_of_le (Heap.lt_size (I.pin p hp).1) (by rw [z];exact hb)) (Nat.lt_irrefl _)
structure Turn (P:Program)(w:World)(K:PySem.W.Frag)(tg:Expr)(J:It)(fp:List Addr)(it:Addr)(tn:Nat→Heap→Prop):Prop where
 mem:it∈fp
 obj:∀ i h,tn i h→∀ b∈fp,∃ o,h.get? b=some o∧∀ v,o.data ≠ .cell v
 keep:∀ i h h',tn i h→(∀ b∈fp,∀ o,h.get? b=some o→h'.get? b=some o)→tn i h'
 item:∀ (X:Cx),X.prog=P→X.w=w→X.K=K→X.calm=true→∀ (i:Nat) (pins:List (Addr×Obj)) (s:Shared) (σ : St) (H:Hp) (E:Value→Shared→Prop),Inv X pins σ H s→(∀ b∈fp,FpOk X pins H b)→tn i s.heap→J.go i H →
  wpAny (model P w) X.A (pyNext (.ref it)) (fun r s1 => ∃ u,r=some u ∧
   wpAny (model P w) X.A (letOwnedTupleGo tg (.ref it) u) (fun _ s2 => ∃ x H',Inv X pins σ H' s2∧RelV x u∧J.yld i H x H'∧tn (i+1) s2.heap∧∀ b∈fp,H' b=none) E s1) E s
 done:∀ (X:Cx),X.prog=P→X.w=w→X.K=K→X.calm=true→∀ (i:Nat) (pins:List (Addr×Obj)) (s:Shared) (σ : St) (H:Hp) (E:Value→Shared→Prop),Inv X pins σ H s→(∀ b∈fp,FpOk X pins H b)→tn i s.heap→J.stop i H →
  wpAny (model P w) X.A (pyNext (.ref it)) (fun r s1=>r=none∧Inv X pins σ H s1) E s
 self:∀ (A:Around) (i:Nat) (s:Shared) (Q:Value→Shared→Prop) (E:Value→Shared→Prop),tn i s.heap→Q (.ref it) s→wpAny (model P w) A (pyIter (.ref it)) Q E s
abbrev TI:=St→Hp→(It→Hp→Prop)→Prop
def PIE (X:Cx)(pins:List (Addr×Obj))(σ : St)(tg:Expr)(R:It→Hp→Prop)(itv:Value)(s2:Shared):Prop :=
 ∃ (it:Addr) (fp:List Addr) (tn:Nat→Heap→Prop) (J:It) (H':Hp),itv=.ref it∧Inv X pins σ H' s2∧Turn X.prog X.w X.K tg J fp it tn∧tn 0 s2.heap∧(∀ b∈fp,FpOk X pins H' b)∧R J H'
def PI (X:Cx)(tg iter:Expr)(wi:TI):Prop :=
 ∀ (pins:List (Addr×Obj)) (s:Shared) (σ : St) (H:Hp) (R:It→Hp→Prop),Inv X pins σ H s→wi σ H R →
  wpAny (model X.prog X.w) X.A (eval iter X.env) (fun v s1=>wpAny (model X.prog X.w) X.A (pyIter v) (PIE X pins σ tg R) X.xe s1) X.xe s
theorem zkx {M:Model}{A:Around}{E:Value→Shared→Prop}{s:Shared}{tg:Expr}{it:Addr}{u:Value}{o:Obj}{n:String}{vs:Array Value}{Q:Unit→Shared→Prop}(ho:s.heap.get? it=some o)(hc:o.cls=.type n)(hd:o.data=.fields vs)
 (hn : ["enumerate", "zip", "dict_itemiterator", "dict_reverseitemiterator", "odict_iterator", "itertools.zip_longest", "itertools.pairwise"].contains n=false) (hQ:Q () s):wpAny M A (letOwnedTupleGo tg (.ref it) u) Q E s:=by
 unfold letOwnedTupleGo
 cases tg<;>first
  | exact wpAny_pure hQ
  | (cases u<;>first
   | exact wpAny_pure hQ
   | (
    refine wpAny_bind (wpAny_load ho ?_)
    rw [hc,hd]
    show wpAny M A (if (["enumerate", "zip", "dict_itemiterator", "dict_reverseitemiterator", "odict_iterator", "itertools.zip_longest", "itertools.pairwise"].contains n&&vs[0]? == some (rawInt _))=true then _ else _) Q E s
    rw [if_neg (by intro h;rw [hn,Bool.false_and] at h;cases h)]
    exact wpAny_pure hQ))
def Itl (K:PySem.W.Frag)(a:Addr):It :=
 ⟨fun i H => ∃ xs x,SqL K H a xs∧xs[i]? = some x,fun i H x H'=>H'=H∧∀ xs,SqL K H a xs→xs[i]? = some x,fun i H => ∃ xs,SqL K H a xs∧xs.length≤i⟩
def Itt (K:PySem.W.Frag)(a:Addr):It :=
 ⟨fun i H => ∃ xs x,SqT K H a xs∧xs[i]? = some x,fun i H x H'=>H'=H∧∀ xs,SqT K H a xs→xs[i]? = some x,fun i H => ∃ xs,SqT K H a xs∧xs.length≤i⟩
noncomputable def Itr (lo:Int)(n:Nat):It:=⟨fun i _=>i<n,fun i H x H'=>H'=H∧x=.int (lo+i),fun i _=>n≤i⟩
theorem zi9 {P:Program}{w:World}{K:PySem.W.Frag}{tg:Expr}(a it:Addr):Turn P w K tg (Itl K a) [it] it (fun i h=>h.IsListIter it a i) where
 mem:=by simp -iota
 obj:=fun i h st b hb=>by
  have e:b=it:=by simpa -iota using hb
  subst e
  refine zc1c st fun o e c d => ?_
  exact ⟨o,e,fun v z=>by rw [d] at z;cases z⟩
 keep:=fun i h h' st k=>st.at fun o e=>k it (by simp -iota) o e
 item:=by
  intro X hP hw hK hc i pins s σ H E I hf st hg
  subst hP hw hK
  refine zc2b hg fun xs x hq hx => ?_
  refine zc1c (I.list hq) fun its rv p hz => ?_
  refine zc1b (rv.get hx) fun u hu ru => ?_
  refine zc0e (hf it (by simp -iota)) fun f0 f1 f2 f3 zz=>zc0b zz fun f4 f5 => ?_
  refine wpAny_pyNext_list_item st p.isList (x:=u) (by simpa -iota using hu) fun h' st' sb => ?_
  have I1:Inv X pins σ H { s with heap:=h' }:=I.turned (t':=s.toks) (fun b o hb e=>(sb.2 b hb).trans e) f0 f1 f3 f4 f5
  refine zc1c (id st') fun o e c d => ?_
  exact ⟨u,rfl,zkx (s:={ s with heap:=h' }) e c d (by decide) ⟨x,H,I1,ru,⟨rfl,fun ys hy=>by rw [I.list_inj hy hq];exact hx⟩,st',fun b hb=>(hf b hb).1⟩⟩
 done:=by
  intro X hP hw hK hc i pins s σ H E I hf st hg
  subst hP hw hK
  refine zc1b hg fun xs hq hx => ?_
  refine zc1c (I.list hq) fun its rv p hz => ?_
  refine zc0e (hf it (by simp -iota)) fun f0 f1 f2 f3 zz=>zc0b zz fun f4 f5 => ?_
  have hl:=rv.length
  exact wpAny_pyNext_list_end (I.ok.hd hc) st p.isList (by simp -iota;omega) fun h' eb=>⟨rfl,I.turned (t':=s.toks) (fun b o hb e=>eb b o hb e) f0 f1 f3 f4 f5⟩
 self:=fun _ _ _ _ _ st h=>wpAny_pyIter_listiter st h
theorem zgV {P:Program}{w:World}{K:PySem.W.Frag}{tg:Expr}(a it:Addr):Turn P w K tg (Itt K a) [it] it (fun i h=>h.IsTupleIter it a i) where
 mem:=by simp -iota
 obj:=fun i h st b hb=>by
  have e:b=it:=by simpa -iota using hb
  subst e
  refine zc1c st fun o e c d => ?_
  exact ⟨o,e,fun v z=>by rw [d] at z;cases z⟩
 keep:=fun i h h' st k=>st.at fun o e=>k it (by simp -iota) o e
 item:=by
  intro X hP hw hK hc i pins s σ H E I hf st hg
  subst hP hw hK
  refine zc2b hg fun xs x hq hx => ?_
  refine zc1c (I.tuple hq) fun its rv p hz => ?_
  refine zc1b (rv.get hx) fun u hu ru => ?_
  refine zc0e (hf it (by simp -iota)) fun f0 f1 f2 f3 zz=>zc0b zz fun f4 f5 => ?_
  refine wpAny_pyNext_tuple_item st (show s.heap.IsTuple a its.toArray from p) (x:=u) (by simpa -iota using hu) fun h' st' sb => ?_
  have I1:Inv X pins σ H { s with heap:=h' }:=I.turned (t':=s.toks) (fun b o hb e=>(sb.2 b hb).trans e) f0 f1 f3 f4 f5
  refine zc1c (id st') fun o e c d => ?_
  exact ⟨u,rfl,zkx (s:={ s with heap:=h' }) e c d (by decide) ⟨x,H,I1,ru,⟨rfl,fun ys hy=>by rw [I.tuple_inj hy hq];exact hx⟩,st',fun b hb=>(hf b hb).1⟩⟩
 done:=by
  intro X hP hw hK hc i pins s σ H E I hf st hg
  subst hP hw hK
  refine zc1b hg fun xs hq hx => ?_
  refine zc1c (I.tuple hq) fun its rv p hz => ?_
  refine zc0e (hf it (by simp -iota)) fun f0 f1 f2 f3 zz=>zc0b zz fun f4 f5 => ?_
  have hl:=rv.length
  exact wpAny_pyNext_tuple_end (I.ok.hd hc) st (show s.heap.IsTuple a its.toArray from p) (by simp -iota;omega) fun h' eb=>⟨rfl,I.turned (t':=s.toks) (fun b o hb e=>eb b o hb e) f0 f1 f3 f4 f5⟩
 self:=fun _ _ _ _ _ st h=>wpAny_pyIter_tupleiter st h
theorem zgO {P:Program}{w:World}{K:PySem.W.Frag}{tg:Expr}(it:Addr)(lo:Int)(n:Nat):Turn P w K tg (Itr lo n) [it] it (fun i h=>IsRangeIter h it (lo+(i:Nat)*1) ((n:Int)-(i:Nat)) 1) where
 mem:=by simp -iota
 obj:=fun i h st b hb=>by
  have e:b=it:=by simpa -iota using hb
  subst e
  exact ⟨_,st,fun v z=>by
   have z':Data.fields _=Data.cell v:=z
   cases z'⟩
 keep:=fun i h h' st k=>k it (by simp -iota) _ st
 item:=by
  intro X hP hw hK hc i pins s σ H E I hf st hg
  subst hP hw hK
  refine zc0e (hf it (by simp -iota)) fun f0 f1 f2 f3 zz=>zc0b zz fun f4 f5 => ?_
  have W:=Walks.range (prog:=X.prog) (w:=X.w) (I.ok.hd hc) it lo 1 n
  refine W.item i s _ _ hg st fun v h' tk hv st' kk => ?_
  obtain ⟨t,rfl⟩:=hv
  have I1:Inv X pins σ H { s with heap:=h',toks:=tk }:=I.turned (fun b o hb e=>kk b o (by simpa -iota using hb) e) f0 f1 f3 f4 f5
  refine ⟨_,rfl,zkx (s:={ s with heap:=h',toks:=tk }) (n := "range_iterator") st' rfl rfl (by decide) ⟨.int (lo+i),H,I1,⟨t,?_⟩,⟨rfl,rfl⟩,st',fun b hb=>(hf b hb).1⟩⟩
  rw [Int.mul_one]
 done:=by
  intro X hP hw hK hc i pins s σ H E I hf st hg
  subst hP hw hK
  refine zc0e (hf it (by simp -iota)) fun f0 f1 f2 f3 zz=>zc0b zz fun f4 f5 => ?_
  exact wpAny_pyNext_range_end (I.ok.hd hc) st (by have:n≤i:=hg;omega) fun h' eb=>⟨rfl,I.turned (t':=s.toks) (fun b o hb e=>eb b o hb e) f0 f1 f3 f4 f5⟩
 self:=fun _ _ _ _ _ st h=>wpAny_pyIter_rangeiter st h
end L2
namespace L2
open PySem PySem.Spec PyProof.Rows
section
variable {X:Cx}{tg:Expr}
def iList (K:PySem.W.Frag)(tl:TE):TI:=fun σ H R=>tl σ H fun x H1 => ∃ a,x=.ref a∧(∃ xs,SqL K H1 a xs)∧R (Itl K a) H1
def iTup (K:PySem.W.Frag)(tl:TE):TI:=fun σ H R=>tl σ H fun x H1 => ∃ a,x=.ref a∧(∃ xs,SqT K H1 a xs)∧R (Itt K a) H1
theorem zlM {l:Expr}{tl:TE}(hl:PE X l tl):PI X tg l (iList X.K tl):=by
 intro pins s σ H R I h
 refine thn (hl pins s σ H _ I h) fun v s1 zh => ?_
 refine zc2c zh fun x H1 I1 r1 q1 => ?_
 refine zc1c q1 fun a e zr2 q => ?_
 obtain ⟨xs,hq⟩:=zr2
 subst e
 cases r1
 refine zc1c (I1.list hq) fun its rv p hz => ?_
 refine wpAny_pyIter_list p.isList ?_
 refine ⟨s1.heap.objs.size,[s1.heap.objs.size],_,_,H1,rfl,I1.kept (t':=s1.toks) fun b o e=>Heap.get?_push_of_some _ e,zi9 a _,⟨_,Heap.get?_push_size _ rfl,rfl,rfl⟩,fun b hb => ?_,q⟩
 have e:b=s1.heap.objs.size:=by simpa -iota using hb
 subst e
 exact I1.fpOk (Nat.le_refl _) (I1.hok.fresh (Nat.le_refl _))
theorem zoV {l:Expr}{tl:TE}(hl:PE X l tl):PI X tg l (iTup X.K tl):=by
 intro pins s σ H R I h
 refine thn (hl pins s σ H _ I h) fun v s1 zh => ?_
 refine zc2c zh fun x H1 I1 r1 q1 => ?_
 refine zc1c q1 fun a e zr2 q => ?_
 obtain ⟨xs,hq⟩:=zr2
 subst e
 cases r1
 refine zc1c (I1.tuple hq) fun its rv p hz => ?_
 refine wpAny_pyIter_tuple (show s1.heap.IsTuple a its.toArray from p) ?_
 refine ⟨s1.heap.objs.size,[s1.heap.objs.size],_,_,H1,rfl,I1.kept (t':=s1.toks) fun b o e=>Heap.get?_push_of_some _ e,zgV a _,⟨_,Heap.get?_push_size _ rfl,rfl,rfl⟩,fun b hb => ?_,q⟩
 have e:b=s1.heap.objs.size:=by simpa -iota using hb
 subst e
 exact I1.fpOk (Nat.le_refl _) (I1.hok.fresh (Nat.le_refl _))
theorem zjD {pins:List (Addr×Obj)}{σ : St}{H:Hp}{s:Shared}{R:It→Hp→Prop}{E:Value→Shared→Prop}{lo hi:Int}{t u v:Tok}{tk:Nat}(I:Inv X pins σ H s)(h1 : -(2 ^ 62)≤lo)(h2:lo<2 ^ 62)(h3 : -(2 ^ 62)≤hi)(h4:hi<2 ^ 62)
 (q:R (Itr lo (hi-lo).toNat) H):wpAny (model X.prog X.w) X.A (pyIter (.ref s.heap.objs.size)) (PIE X pins σ tg R) E { s with heap:=s.heap.push { cls:=.type "range",data:=.fields #[.int lo t,.int hi u,.int 1 v] },toks:=tk }:=by
 refine wpAny_pyIter_range (IsRange.new ..) (small_one h1 h2 h3 h4) ?_
 have I1:Inv X pins σ H { s with heap:=s.heap.push { cls:=.type "range",data:=.fields #[.int lo t,.int hi u,.int 1 v] },toks:=tk }:=I.kept fun b o e=>Heap.get?_push_of_some _ e
 refine ⟨(s.heap.push { cls:=.type "range",data:=.fields #[.int lo t,.int hi u,.int 1 v] }).objs.size,[(s.heap.push { cls:=.type "range",data:=.fields #[.int lo t,.int hi u,.int 1 v] }).objs.size],_,_,H,rfl,
  I1.kept (t':=tk) fun b o e=>Heap.get?_push_of_some _ e,zgO _ lo (hi-lo).toNat,?_,fun b hb => ?_,q⟩
 ·have e1:lo+((0:Nat):Int)*1=lo:=by simp -iota
  have e2:(((hi-lo).toNat:Nat):Int)-((0:Nat):Int)=Builtin.Range.rangeSize lo hi 1:=by rw [rangeSize_one];split<;>omega
  show IsRangeIter _ _ (lo+((0:Nat):Int)*1) ((((hi-lo).toNat:Nat):Int)-((0:Nat):Int)) 1
  rw [e1,e2]
  exact Heap.get?_push_size _ rfl
 ·have e:b=(s.heap.push { cls:=.type "range",data:=.fields #[.int lo t,.int hi u,.int 1 v] }).objs.size:=by simpa -iota using hb
  subst e
  exact I1.fpOk (Nat.le_refl _) (I1.hok.fresh (Nat.le_refl _))
def iRng1 (ta:TA):TI:=fun σ H R=>ta σ H fun vs H1 => ∃ j:Int,vs=[.int j] ∧ -(2 ^ 62)≤j∧j<2 ^ 62∧R (Itr 0 j.toNat) H1
theorem zi1 {a:Expr}{ta:TA}{p pos:Pos}(hg:Gl X "range")(hm:X.mg "range" = none)(ha:PA X [a] ta)(hs:autoParam (starEach [a] X.env=[(false,eval a X.env)]) zau._auto_1):PI X tg (.Call (.Name "range" p) [a] [] pos) (iRng1 ta):=by
 intro pins s σ H R I h
 refine Call_ (zgk I hg hm boot_range (PyProof.Rows.callWith_type1 (thn (ha pos pins s σ H _ I h) fun us s1 ⟨vs,H1,I1,r1,q1⟩ => ?_) hs rfl))
 obtain ⟨j,e,q1,q2,q⟩:=q1
 subst e
 cases r1 with
 | cons r rr =>
  cases rr
  obtain ⟨t,rfl⟩:=r
  exact call_range_1 (zjD I1 (by omega) (by omega) q1 q2 (by simpa -iota using q))
noncomputable def tFor (wi:TI)(g:TG)(tb:TS):TS:=fun D σ H=>wi σ H fun J H1 => ∃ W:Nat→Nat→St→Hp→Prop,(∃ m,W 0 m σ H1)∧∀ i m σ H,W i m σ H →
 (J.stop i H∧D.nx σ H)∨(J.go i H∧∃ N:St→Hp→Prop,(∀ σ' H',N σ' H'→∃ m',m'<m∧W (i+1) m' σ' H')∧∀ x H',J.yld i H x H'→g x σ H' fun σ2 H2=>tb { D with nx:=N,ct:=N,bk:=D.nx } σ2 H2)
noncomputable def zeP (fp:List Addr)(h:Heap):List (Addr×Obj):=fp.filterMap fun b=>(h.get? b).map fun o=>(b,o)
theorem zcn {fp:List Addr}{h:Heap}{b:Addr}{o:Obj}(hb:b∈fp)(e:h.get? b=some o):(b,o)∈zeP fp h:=List.mem_filterMap.mpr ⟨b,hb,by rw [e];rfl⟩
theorem ziq {fp:List Addr}{h:Heap}{p:Addr×Obj}(hp:p∈zeP fp h):p.1∈fp∧h.get? p.1=some p.2:=by
 refine zc1b (List.mem_filterMap.mp hp) fun b hb e => ?_
 cases q:h.get? b with
 | none=>rw [q] at e;cases e
 | some o =>
  rw [q] at e
  have e':(b,o)=p:=Option.some.inj e
  subst e'
  exact ⟨hb,q⟩
theorem Inv.pinned {pins:List (Addr×Obj)}{σ : St}{H:Hp}{s:Shared}{fp:List Addr}(I:Inv X pins σ H s)(hf:∀ b∈fp,FpOk X pins H b)(ho:∀ b∈fp,∃ o,s.heap.get? b=some o∧∀ v,o.data ≠ .cell v):Inv X (pins++zeP fp s.heap) σ H s :=
 I.pins_of fun p hp=>(List.mem_append.mp hp).elim (fun z=>I.pin p (List.mem_append_right _ z)) fun z=>by
  obtain ⟨hb,e⟩:=ziq z
  refine zc0d (hf p.1 hb) fun f0 f1 f2 _ => ?_
  refine zc1b (ho p.1 hb) fun o e' d => ?_
  rw [e] at e';cases e'
  exact ⟨e,f0,f1,f2,d⟩
theorem Inv.unpinned {pins pl:List (Addr×Obj)}{σ : St}{H:Hp}{s:Shared}(I:Inv X (pins++pl) σ H s):Inv X pins σ H s:=I.pins_of fun p hp=>I.pin p (List.mem_append_right _ (List.mem_append_left _ hp))
theorem zpw {iter:Expr}{body:List Stmt}{wi:TI}{g:TG}{tb:TS}{pos:Pos}(hp:PassesOwn (model X.prog X.w) X.A X.env X.xe)(hc:X.calm=true)(hi:PI X tg iter wi)(hg:PG X tg g)(hb:PSs X body tb)
 (hs:autoParam (∀ x,foldedSetIterable iter X.env x=pure x) zaw._auto_1):PS X (.For tg iter body [] pos) (tFor wi g tb):=by
 intro pins s σ H D I h
 refine wpAny_For (thn (hi pins s σ H _ I h) fun v s1 h1=>thn h1 fun itv s2 h2 => ?_) hs
 refine zc4a h2 fun it fp tn J zz=>zc1a zz fun H2 zz=>zc0e zz fun e I2 T st2 zz=>zc0b zz fun f2 zz=>zc1b zz fun W zr11 turn => ?_
 obtain ⟨m0,w0⟩:=zr11
 subst e
 have stat:∀ {H':Hp},(∀ b∈fp,H' b=none)→∀ b∈fp,FpOk X pins H' b:=fun hn b hb=>⟨hn b hb,(f2 b hb).2⟩
 refine codeAny_forLoop_any (fun n s' => ∃ i σ' H',Inv X pins σ' H' s'∧tn i s'.heap∧(∀ b∈fp,H' b=none)∧W i n σ' H') ?_ m0 ⟨0,σ,H2,I2,st2,fun b hb=>(f2 b hb).1,w0⟩
 rintro n s3 ⟨i,σ3,H3,I3,st3,fr3,w3⟩
 rcases turn i n σ3 H3 w3 with ⟨stop,qn⟩|⟨go,N,hN,step⟩
 ·refine wpAny_passesOwn hp (thn (T.done X rfl rfl rfl hc i pins s3 σ3 H3 X.xe I3 (stat fr3) st3 stop) fun r s4 zh => ?_)
  obtain ⟨hr,I4⟩:=zh
  subst hr
  exact wpAny_execs_nil ⟨σ3,H3,I4,qn⟩
 ·refine wpAny_passesOwn hp (thn (T.item X rfl rfl rfl hc i pins s3 σ3 H3 X.xe I3 (stat fr3) st3 go) fun r s4 zh => ?_)
  refine zc1b zh fun u hr h4 => ?_
  subst hr
  refine wpAny_passesOwn hp (thn h4 fun _ s5 zh => ?_)
  refine zc2a zh fun x H5 zz=>zc0e zz fun I5 r5 y5 st5 fr5 => ?_
  have I5':=I5.pinned (stat fr5) (T.obj _ _ st5)
  refine wpAny_passesOwn hp (thn (hg _ s5 σ3 H5 x u _ I5' r5 (step x H5 y5)) fun _ s6 zh => ?_)
  refine zc2b zh fun σ6 H6 I6 q6 => ?_
  refine wpAny_passesOwn hp (thn (hb _ s6 σ6 H6 _ I6 q6) fun f s7 q7 => ?_)
  have again:∀ {σ7:St} {H7:Hp},Inv X (pins++zeP fp s5.heap) σ7 H7 s7→N σ7 H7→∃ m,m<n∧∃ i σ' H',Inv X pins σ' H' s7∧tn i s7.heap∧(∀ b∈fp,H' b=none)∧W i m σ' H':=fun {σ7 H7} I7 n7=>by
   refine zc1b (hN σ7 H7 n7) fun m' hm w7 => ?_
   refine ⟨m',hm,i+1,σ7,H7,I7.unpinned,T.keep _ _ _ st5 fun b hb o e=>(I7.pin (b,o) (List.mem_append_right _ (List.mem_append_right _ (zcn hb e)))).1,fun b hb => ?_,w7⟩
   refine zc1b (T.obj _ _ st5 b hb) fun o e d => ?_
   exact (I7.pin (b,o) (List.mem_append_right _ (List.mem_append_right _ (zcn hb e)))).2.1
  cases f with
  | next=>obtain ⟨σ7,H7,I7,n7⟩:=q7;exact again I7 n7
  | cont=>obtain ⟨σ7,H7,I7,n7⟩:=q7;exact again I7 n7
  | brk=>obtain ⟨σ7,H7,I7,q7⟩:=q7;exact ⟨σ7,H7,I7.unpinned,q7⟩
  | ret v=>obtain ⟨x7,σ7,H7,I7,r7,q7⟩:=q7;exact ⟨x7,σ7,H7,I7.unpinned,r7,q7⟩
end
end L2
namespace L2
open PySem PySem.Spec PyProof.Rows
abbrev R2:=V→V→Hp→VK→Prop
def OpR (X:Cx)(f:Value→Value→Sem Value)(r:R2):Prop :=
 ∀ (pins:List (Addr×Obj)) (s:Shared) (σ : St) (H:Hp) (x y:V) (v u:Value) (Q:VK),Inv X pins σ H s→RelV x v→RelV y u→r x y H Q →
  wpAny (model X.prog X.w) X.A (f v u) (EP X pins σ Q) X.xe s
def UnR (X:Cx)(f:Value→Sem Value)(r:V→Hp→VK→Prop):Prop :=
 ∀ (pins:List (Addr×Obj)) (s:Shared) (σ : St) (H:Hp) (x:V) (v:Value) (Q:VK),Inv X pins σ H s→RelV x v→r x H Q →
  wpAny (model X.prog X.w) X.A (f v) (EP X pins σ Q) X.xe s
noncomputable def zaJ (X:Cx)(f:Value)(r:List V→Hp→VK→Prop):Prop :=
 ∀ (pins:List (Addr×Obj)) (s:Shared) (σ : St) (H:Hp) (xs:List V) (us:List Value) (Q:VK),Inv X pins σ H s→Vals xs us→r xs H Q →
  wpAny (model X.prog X.w) X.A (call f us) (EP X pins σ Q) X.xe s
noncomputable def tOp (r:R2)(ta tb:TE):TE:=fun σ H Q=>ta σ H fun x H1=>tb σ H1 fun y H2=>r x y H2 Q
noncomputable def tUn (r:V→Hp→VK→Prop)(ta:TE):TE:=fun σ H Q=>ta σ H fun x H1=>r x H1 Q
noncomputable def rI (C:Int→Int→Prop)(g:Int→Int→V):R2:=fun x y H Q => ∃ i j,x=.int i∧y=.int j∧C i j∧Q (g i j) H
noncomputable def rI0 (g:Int→Int→V):R2:=fun x y H Q => ∃ i j,x=.int i∧y=.int j∧Q (g i j) H
noncomputable def rU (g:Int→V):V→Hp→VK→Prop:=fun x H Q => ∃ i,x=.int i∧Q (g i) H
section
variable {X:Cx}{a b c:Expr}{ta tb tc:TE}{pos:Pos}
theorem binT (ha:PE X a ta)(hb:PE X b tb){pins:List (Addr×Obj)}{s:Shared}{σ : St}{H:Hp}{R:V→V→Hp→Prop}(I:Inv X pins σ H s)
 (h:ta σ H fun x H1=>tb σ H1 fun y H2=>R x y H2) {Q:Value→Shared→Prop} {f:Value→Value→Sem Value}
 (hf:∀ v u s2 x y H2,Inv X pins σ H2 s2→RelV x v→RelV y u→R x y H2→wpAny (model X.prog X.w) X.A (f v u) Q X.xe s2) :
 wpAny (model X.prog X.w) X.A (eval a X.env) (fun v s₁=>wpAny (model X.prog X.w) X.A (eval b X.env) (fun u s₂=>wpAny (model X.prog X.w) X.A (f v u) Q X.xe s₂) X.xe s₁) X.xe s:=by
 refine thn (ha pins s σ H _ I h) fun v s1 zh => ?_
 refine zc2c zh fun x H1 I1 r1 q1 => ?_
 refine thn (hb pins s1 σ H1 _ I1 q1) fun u s2 zh => ?_
 refine zc2c zh fun y H2 I2 r2 q2 => ?_
 exact hf v u s2 x y H2 I2 r1 r2 q2
theorem zou {op:Operator}{r:R2}(ho:OpR X (binaryOp op) r)(ha:PE X a ta)(hb:PE X b tb):PE X (.BinOp a op b pos) (tOp r ta tb):=by
 intro pins s σ H Q I h
 exact wpAny_BinOp (binT ha hb I h fun v u s2 x y H2 I2 rx ry q=>ho pins s2 σ H2 x y v u Q I2 rx ry q)
theorem pe_un {op:UnaryOp}{r:V→Hp→VK→Prop}(ho:UnR X (unaryOp op) r)(ha:PE X a ta):PE X (.UnaryOp op a pos) (tUn r ta):=by
 intro pins s σ H Q I h
 exact UnaryOp_ (thn (ha pins s σ H _ I h) (by rintro v s1 ⟨x,H1,I1,r1,q1⟩;exact ho pins s1 σ H1 x v Q I1 r1 q1))
theorem opI {f:Value→Value→Sem Value}{C:Int→Int→Prop}{g:Int→Int→Int}
 (rule:∀ (i j:Int) (t u:Tok) (s:Shared) (Q:Value→Shared→Prop) (E:Value→Shared→Prop),C i j→Q (.int (g i j) s.toks) { s with toks:=s.toks+1 }→wpAny (model X.prog X.w) X.A (f (.int i t) (.int j u)) Q E s) :
 OpR X f (rI C fun i j=>.int (g i j)):=by
 intro pins s σ H x y v u Q I rx ry h
 refine zc2d h fun i j zr2 zr3 hc q => ?_
 obtain rfl:=zr2
 obtain rfl:=zr3
 obtain ⟨t,rfl⟩:=rx
 obtain ⟨t',rfl⟩:=ry
 exact rule i j t t' s _ _ hc ⟨.int (g i j),H,I.tok _,⟨_,rfl⟩,q⟩
theorem opI0 {f:Value→Value→Sem Value}{g:Int→Int→Int}
 (rule:∀ (i j:Int) (t u:Tok) (s:Shared) (Q:Value→Shared→Prop) (E:Value→Shared→Prop),Q (.int (g i j) s.toks) { s with toks:=s.toks+1 }→wpAny (model X.prog X.w) X.A (f (.int i t) (.int j u)) Q E s) :
 OpR X f (rI0 fun i j=>.int (g i j)):=by
 intro pins s σ H x y v u Q I rx ry h
 refine zc2c h fun i j zr2 zr3 q => ?_
 obtain rfl:=zr2
 obtain rfl:=zr3
 obtain ⟨t,rfl⟩:=rx
 obtain ⟨t',rfl⟩:=ry
 exact rule i j t t' s _ _ ⟨.int (g i j),H,I.tok _,⟨_,rfl⟩,q⟩
theorem opB0 {f:Value→Value→Sem Value}{g:Int→Int→Bool}
 (rule:∀ (i j:Int) (t u:Tok) (s:Shared) (Q:Value→Shared→Prop) (E:Value→Shared→Prop),Q (.bool (g i j)) s→wpAny (model X.prog X.w) X.A (f (.int i t) (.int j u)) Q E s) :
 OpR X f (rI0 fun i j=>.bl (g i j)):=by
 intro pins s σ H x y v u Q I rx ry h
 refine zc2c h fun i j zr2 zr3 q => ?_
 obtain rfl:=zr2
 obtain rfl:=zr3
 obtain ⟨t,rfl⟩:=rx
 obtain ⟨t',rfl⟩:=ry
 exact rule i j t t' s _ _ ⟨.bl (g i j),H,I,rfl,q⟩
noncomputable def CDiv (i j:Int):Prop:=0<j∧j<1073741824
noncomputable def CPow (i j:Int):Prop:=0≤j∧j≤1000000∧i.natAbs<2 ^ 64
theorem zpi:OpR X (binaryOp .Add) (rI0 fun i j=>.int (i+j)):=opI0 fun _ _ _ _ _ _ _ q=>add_int q
theorem znQ:OpR X (binaryOp .Sub) (rI0 fun i j=>.int (i-j)):=opI0 fun _ _ _ _ _ _ _ q=>sub_int q
theorem zmj:OpR X (binaryOp .FloorDiv) (rI CDiv fun i j=>.int (i / j)):=opI fun i j _ _ _ _ _ hc q=>by
 have h1:(0:Int)<j:=hc.1
 have h2:j<1073741824:=hc.2
 exact floordiv_int (by omega) (by rw [Int.fdiv_eq_ediv_of_nonneg i (by omega)];exact q) (.inl (PyProof.noPylong_small (by omega)))
theorem znB:OpR X (binaryOp .Mod) (rI (fun _ j=>0<j) fun i j=>.int (i % j)):=opI fun i j _ _ _ _ _ hc q=>by
 have h1:(0:Int)<j:=hc
 exact mod_int' (by omega) (by rw [Int.fmod_eq_emod_of_nonneg i (by omega)];exact q)
theorem zot:OpR X (binaryOp .Pow) (rI CPow fun i j=>.int (i ^ j.toNat)):=opI fun _ _ _ _ _ _ _ hc q=>pow_int_small hc.1 hc.2.1 hc.2.2 q
theorem unI {f:Value→Sem Value}{g:Int→Int}
 (rule:∀ (i:Int) (t:Tok) (s:Shared) (Q:Value→Shared→Prop) (E:Value→Shared→Prop),Q (.int (g i) s.toks) { s with toks:=s.toks+1 }→wpAny (model X.prog X.w) X.A (f (.int i t)) Q E s) :
 UnR X f (rU fun i=>.int (g i)):=by
 intro pins s σ H x v Q I rx h
 refine zc1b h fun i zr1 q => ?_
 obtain rfl:=zr1
 obtain ⟨t,rfl⟩:=rx
 exact rule i t s _ _ ⟨.int (g i),H,I.tok _,⟨_,rfl⟩,q⟩
theorem zoq:UnR X (unaryOp .USub) (rU fun i=>.int (-i)):=unI fun _ _ _ _ _ q=>neg_int q
end
noncomputable def scal:V→V→Bool
 | .non,.non=>true | .non,.int _=>true | .int _,.non=>true | .non,.bl _=>true | .bl _,.non=>true | .non,.str _=>true | .str _,.non=>true
 | .int _,.int _=>true | .bl _,.bl _=>true | .str _,.str _=>true | .byt _,.byt _=>true
 | .int _,.str _=>true | .str _,.int _=>true | .bl _,.str _=>true | .str _,.bl _=>true
 | _,_=>false
def rEq:R2:=fun x y H Q=>scal x y=true∧Q (.bl (decide (x=y))) H
def rNe:R2:=fun x y H Q=>scal x y=true∧Q (.bl (!decide (x=y))) H
theorem zhV {i j:Int}:decide (V.int i=V.int j)=(i == j):=by
 rw [Bool.eq_iff_iff]
 simp -iota
theorem zkB {i j:Bool}:decide (V.bl i=V.bl j)=(i == j):=by
 rw [Bool.eq_iff_iff]
 simp -iota
theorem ziO {i j:Str}:decide (V.str i=V.str j)=(i == j):=by
 rw [Bool.eq_iff_iff]
 simp -iota
theorem ziT {i j:Array UInt8}:decide (V.byt i=V.byt j)=(i.toList == j.toList):=by
 rw [Bool.eq_iff_iff]
 cases i
 cases j
 simp -iota
section
variable {X:Cx}{a b c:Expr}{ta tb tc:TE}{pos:Pos}
theorem zaI {pins:List (Addr×Obj)}{σ : St}{H:Hp}{s:Shared}{Q:VK}{k k':Bool}(I:Inv X pins σ H s)(q:Q (.bl k) H)(e:k=k'):EP X pins σ Q (.bool k') s:=by
 subst e
 exact ⟨.bl k,H,I,rfl,q⟩
theorem op_eq:OpR X (compareOp .Eq) rEq:=by
 intro pins s σ H x y v u Q I rx ry h
 obtain ⟨hs,q⟩:=h
 cases x with
 | non =>
  cases rx
  cases y with
  | non=>cases ry;exact PySem.EqNone.eq_none_none (zaI I q (by simp -iota))
  | bl j=>cases ry;exact PySem.EqNone.eq_none_bool (zaI I q (by simp -iota))
  | int j=>obtain ⟨t',rfl⟩:=ry;exact PySem.EqNone.eq_none_int (zaI I q (by simp -iota))
  | str j=>obtain ⟨t',rfl⟩:=ry;exact PySem.EqNone.eq_none_str (zaI I q (by simp -iota))
  | _=>exact absurd (show false=true from hs) Bool.false_ne_true
 | bl i =>
  cases rx
  cases y with
  | non=>cases ry;exact PySem.EqNone.eq_bool_none (zaI I q (by simp -iota))
  | bl j=>cases ry;exact eq_bool (zaI I q zkB)
  | str j=>obtain ⟨t',rfl⟩:=ry;exact PySem.EqMixed.eq_bool_str (zaI I q (by simp -iota))
  | _=>exact absurd (show false=true from hs) Bool.false_ne_true
 | int i =>
  obtain ⟨t,rfl⟩:=rx
  cases y with
  | non=>cases ry;exact PySem.EqNone.eq_int_none (zaI I q (by simp -iota))
  | int j=>obtain ⟨t',rfl⟩:=ry;exact eq_int (zaI I q zhV)
  | str j=>obtain ⟨t',rfl⟩:=ry;exact PySem.EqMixed.eq_int_str (zaI I q (by simp -iota))
  | _=>exact absurd (show false=true from hs) Bool.false_ne_true
 | str i =>
  obtain ⟨t,rfl⟩:=rx
  cases y with
  | non=>cases ry;exact PySem.EqNone.eq_str_none (zaI I q (by simp -iota))
  | bl j=>cases ry;exact PySem.EqMixed.eq_str_bool (zaI I q (by simp -iota))
  | int j=>obtain ⟨t',rfl⟩:=ry;exact PySem.EqMixed.eq_str_int (zaI I q (by simp -iota))
  | str j=>obtain ⟨t',rfl⟩:=ry;exact eq_str (zaI I q ziO)
  | _=>exact absurd (show false=true from hs) Bool.false_ne_true
 | byt i =>
  obtain ⟨t,rfl⟩:=rx
  cases y with
  | byt j=>obtain ⟨t',rfl⟩:=ry;exact PySem.W.eq_bytes (zaI I q ziT)
  | _=>exact absurd (show false=true from hs) Bool.false_ne_true
 | _=>cases y<;>exact absurd (show false=true from hs) Bool.false_ne_true
theorem op_ne:OpR X (compareOp .NotEq) rNe:=by
 intro pins s σ H x y v u Q I rx ry h
 obtain ⟨hs,q⟩:=h
 cases x with
 | non =>
  cases rx
  cases y with
  | non=>cases ry;exact PySem.EqNone.ne_none_none (zaI I q (by simp -iota))
  | bl j=>cases ry;exact PySem.EqNone.ne_none_bool (zaI I q (by simp -iota))
  | int j=>obtain ⟨t',rfl⟩:=ry;exact PySem.EqNone.ne_none_int (zaI I q (by simp -iota))
  | str j=>obtain ⟨t',rfl⟩:=ry;exact PySem.EqNone.ne_none_str (zaI I q (by simp -iota))
  | _=>exact absurd (show false=true from hs) Bool.false_ne_true
 | bl i =>
  cases rx
  cases y with
  | non=>cases ry;exact PySem.EqNone.ne_bool_none (zaI I q (by simp -iota))
  | bl j=>cases ry;exact ne_bool (zaI I q (congrArg not zkB))
  | str j=>obtain ⟨t',rfl⟩:=ry;exact PySem.EqMixed.ne_bool_str (zaI I q (by simp -iota))
  | _=>exact absurd (show false=true from hs) Bool.false_ne_true
 | int i =>
  obtain ⟨t,rfl⟩:=rx
  cases y with
  | non=>cases ry;exact PySem.EqNone.ne_int_none (zaI I q (by simp -iota))
  | int j=>obtain ⟨t',rfl⟩:=ry;exact ne_int (zaI I q (congrArg not zhV))
  | str j=>obtain ⟨t',rfl⟩:=ry;exact PySem.EqMixed.ne_int_str (zaI I q (by simp -iota))
  | _=>exact absurd (show false=true from hs) Bool.false_ne_true
 | str i =>
  obtain ⟨t,rfl⟩:=rx
  cases y with
  | non=>cases ry;exact PySem.EqNone.ne_str_none (zaI I q (by simp -iota))
  | bl j=>cases ry;exact PySem.EqMixed.ne_str_bool (zaI I q (by simp -iota))
  | int j=>obtain ⟨t',rfl⟩:=ry;exact PySem.EqMixed.ne_str_int (zaI I q (by simp -iota))
  | str j=>obtain ⟨t',rfl⟩:=ry;exact ne_str (zaI I q (congrArg not ziO))
  | _=>exact absurd (show false=true from hs) Bool.false_ne_true
 | byt i =>
  obtain ⟨t,rfl⟩:=rx
  cases y with
  | byt j=>obtain ⟨t',rfl⟩:=ry;exact PySem.W.ne_bytes (zaI I q (congrArg not ziT))
  | _=>exact absurd (show false=true from hs) Bool.false_ne_true
 | _=>cases y<;>exact absurd (show false=true from hs) Bool.false_ne_true
theorem op_lt:OpR X (compareOp .Lt) (rI0 fun i j=>.bl (decide (i<j))):=opB0 fun _ _ _ _ _ _ _ q=>lt_int q
theorem op_le:OpR X (compareOp .LtE) (rI0 fun i j=>.bl (decide (i≤j))):=opB0 fun _ _ _ _ _ _ _ q=>le_int q
theorem op_gt:OpR X (compareOp .Gt) (rI0 fun i j=>.bl (decide (j<i))):=opB0 fun _ _ _ _ _ _ _ q=>gt_int q
theorem op_ge:OpR X (compareOp .GtE) (rI0 fun i j=>.bl (decide (j≤i))):=opB0 fun _ _ _ _ _ _ _ q=>ge_int q
theorem ziQ:OpR X (compareOp .In) (fun x y H Q => ∃ i j,x=.str i∧y=.str j∧Q (.bl (!(Builtin.Str.occurrences j i 0 j.length 1).isEmpty)) H):=by
 intro pins s σ H x y v u Q I rx ry h
 obtain ⟨i,j,rfl,rfl,q⟩:=h
 obtain ⟨t,rfl⟩:=rx
 obtain ⟨t',rfl⟩:=ry
 exact in_str (zaI I q rfl)
theorem zez:OpR X (compareOp .NotIn) (fun x y H Q => ∃ i j,x=.str i∧y=.str j∧Q (.bl (!(!(Builtin.Str.occurrences j i 0 j.length 1).isEmpty))) H):=by
 intro pins s σ H x y v u Q I rx ry h
 obtain ⟨i,j,rfl,rfl,q⟩:=h
 obtain ⟨t,rfl⟩:=rx
 obtain ⟨t',rfl⟩:=ry
 exact notIn_str (zaI I q rfl)
theorem za1 (b:Expr){op:CmpOp}(h:autoParam (op ≠ .In) zav._auto_1)(h2:autoParam (op ≠ .NotIn) zav._auto_1):behindInMarks op b=false:=by
 have e1:(op == CmpOp.In)=false:=by cases op<;>first|rfl|exact absurd rfl h
 have e2:(op == CmpOp.NotIn)=false:=by cases op<;>first|rfl|exact absurd rfl h2
 cases b<;>first|rfl|(show (_&&(_||_)&&_)=false;rw [e1,e2,Bool.or_self,Bool.and_false,Bool.false_and])
theorem zhH {op:CmpOp}{r:R2}(ho:OpR X (compareOp op) r)(ha:PE X a ta)(hb:PE X b tb)(hm:behindInMarks op b=false):PE X (.Compare a [op] [b] pos) (tOp r ta tb):=by
 intro pins s σ H Q I h
 exact wpAny_Compare1 (binT ha hb I h fun v u s2 x y H2 I2 rx ry q=>ho pins s2 σ H2 x y v u Q I2 rx ry q) hm
noncomputable def zob (t:TE):TT:=fun σ H Q=>t σ H fun x H' => ∃ k,x=.bl k∧Q k H'
theorem zhM {op:CmpOp}{r:R2}(ho:OpR X (compareOp op) r)(ha:PE X a ta)(hb:PE X b tb)(hm:behindInMarks op b=false):PT X (.Compare a [op] [b] pos) (zob (tOp r ta tb)):=by
 intro pins s σ H Q I h
 refine wpAny_isTrue_Compare1 (thn (ha pins s σ H _ I h) fun v s1 ⟨x,H1,I1,r1,q1⟩=>thn (hb pins s1 σ H1 _ I1 q1) fun u s2 ⟨y,H2,I2,r2,q2⟩ =>
  thn (ho pins s2 σ H2 x y v u _ I2 r1 r2 q2) fun c s3 ⟨z,H3,I3,r3,k,e,q3⟩ => ?_) hm
 subst e
 cases r3
 exact wpAny_truthy_bool ⟨H3,I3,q3⟩
noncomputable def zkQ (r r':R2)(ta tb tc:TE):TE:=fun σ H Q=>ta σ H fun x H1=>tb σ H1 fun y H2=>r x y H2 fun z H3 => ∃ k,z=.bl k ∧
 (if k=true then tc σ H3 fun w' H4=>r' y w' H4 Q else Q (.bl false) H3)
theorem zj3 {op op':CmpOp}{r r':R2}(ho:OpR X (compareOp op) r)(ho':OpR X (compareOp op') r')(ha:PE X a ta)(hb:PE X b tb)(hc:PE X c tc)
 (hm:lastMarks [op,op'] [b,c]=false:=by with_unfolding_all rfl):PT X (.Compare a [op,op'] [b,c] pos) (zob (zkQ r r' ta tb tc)):=by
 intro pins s σ H Q I h
 refine isTrue_chain (thn (ha pins s σ H _ I h) fun v s1 ⟨x,H1,I1,r1,q1⟩=>test_link (thn (hb pins s1 σ H1 _ I1 q1) fun u s2 ⟨y,H2,I2,r2,q2⟩ =>
  thn (ho pins s2 σ H2 x y v u _ I2 r1 r2 q2) fun d s3 ⟨z,H3,I3,r3,k,e,q3⟩ => ?_)) hm
 subst e
 cases r3
 refine wpAny_truthy_bool ?_
 cases k with
 | false =>
  obtain ⟨k',e',q'⟩:=q3
  cases e'
  exact ite_ff ⟨H3,I3,q'⟩
 | true =>
  refine ite_tt (test_last (thn (hc pins s3 σ H3 _ I3 q3) fun w' s4 ⟨z',H4,I4,r4,q4⟩=>thn (ho' pins s4 σ H4 y z' u w' _ I4 r2 r4 q4) fun d' s5 zh => ?_))
  obtain ⟨z2,H5,I5,r5,k2,e2,q5⟩:=zh
  subst e2
  cases r5
  exact wpAny_truthy_bool ⟨H5,I5,q5⟩
theorem zdO:(sizeLine:Nat)<2 ^ 63:=by rw [sizeLine_eq];decide
theorem zg4:OpR X (binaryOp .Add) (fun x y H Q => ∃ i j,x=.str i∧y=.str j∧i.length+j.length≤sizeLine∧Q (.str (i++j)) H):=by
 intro pins s σ H x y v u Q I rx ry h
 refine zc2d h fun i j zr2 zr3 hz q => ?_
 obtain rfl:=zr2
 obtain rfl:=zr3
 obtain ⟨t,rfl⟩:=rx
 obtain ⟨t',rfl⟩:=ry
 exact add_str (fun t' tk=>⟨.str (i++j),H,I.tok _,⟨_,rfl⟩,q⟩) hz
theorem zdt {x:V}{us:List Value}(r:Vals [x] us):∃ u,us=[u]∧RelV x u:=by
 cases r with
 | cons r1 r2=>cases r2;exact ⟨_,rfl,r1⟩
theorem znM {x y:V}{us:List Value}(r:Vals [x,y] us):∃ u w',us=[u,w']∧RelV x u∧RelV y w':=by
 cases r with
 | cons r1 r2 =>
  cases r2 with
  | cons r3 r4=>cases r4;exact ⟨_,_,rfl,r1,r3⟩
theorem zj5:zaJ X (.builtin "abs") (fun xs H Q => ∃ i,xs=[.int i]∧Q (.int (if i<0 then -i else i)) H):=by
 intro pins s σ H xs us Q I r h
 obtain ⟨i,rfl,q⟩:=h
 obtain ⟨u,rfl,t,rfl⟩:=zdt r
 exact call_abs_int fun u tk=>⟨.int (if i<0 then -i else i),H,I.tok _,⟨_,rfl⟩,q⟩
theorem zhf (hc:X.calm=true):zaJ X (.builtin "max") (fun xs H Q => ∃ i j,xs=[.int i,.int j]∧Q (.int (if j > i then j else i)) H):=by
 intro pins s σ H xs us Q I r h
 refine zc2b h fun i j zr2 q => ?_
 obtain rfl:=zr2
 refine zc2c (znM r) fun u w' zr2 zr3 zr4 => ?_
 obtain rfl:=zr2
 obtain ⟨t,rfl⟩:=zr3
 obtain ⟨t',rfl⟩:=zr4
 refine max_two_ints (I.ok.hd hc) fun h' tk k=>⟨_,H,I.kept k,?_,q⟩
 by_cases hj:j > i
 ·rw [if_pos hj,if_pos hj];exact ⟨_,rfl⟩
 ·rw [if_neg hj,if_neg hj];exact ⟨_,rfl⟩
theorem ziC (hc:X.calm=true):zaJ X (.builtin "min") (fun xs H Q => ∃ i j,xs=[.int i,.int j]∧Q (.int (if j<i then j else i)) H):=by
 intro pins s σ H xs us Q I r h
 refine zc2b h fun i j zr2 q => ?_
 obtain rfl:=zr2
 refine zc2c (znM r) fun u w' zr2 zr3 zr4 => ?_
 obtain rfl:=zr2
 obtain ⟨t,rfl⟩:=zr3
 obtain ⟨t',rfl⟩:=zr4
 refine min_two_ints (I.ok.hd hc) fun h' tk k=>⟨_,H,I.kept k,?_,q⟩
 by_cases hj:j<i
 ·rw [if_pos hj,if_pos hj];exact ⟨_,rfl⟩
 ·rw [if_neg hj,if_neg hj];exact ⟨_,rfl⟩
theorem zeH:zaJ X (.type "str") (fun xs H Q => ∃ i,xs=[.int i]∧i.natAbs.log2<1920∧Q (.str (toString i)) H):=by
 intro pins s σ H xs us Q I r h
 obtain ⟨i,rfl,hz,q⟩:=h
 obtain ⟨u,rfl,t,rfl⟩:=zdt r
 exact PySem.P.str_of_int hz ⟨.str _,H,I.tok _,⟨_,rfl⟩,q⟩
end
end L2
namespace L2
open PySem PySem.Spec PyProof.Rows
structure ObjM (h:Heap)(x dx C:Addr)(mA:Str→Option Value):Prop where
 obj:h.get? x=some (PySem.W.instObj C dx)
 ns:h.Ns1 dx mA
 ne:dx≠x
theorem zi6 {h:Heap}{dx:Addr}{mA:Str→Option Value}(n:h.Ns1 dx mA):∃ od,h.get? dx=some od∧∀ name,PySem.W.lookIn name od=some (mA name):=by
 refine zc3a n fun o es ep zz=>zc0e zz fun ho hd hk _ hm => ?_
 refine ⟨o,ho,fun name => ?_⟩
 have e:=hm name
 unfold nsFind findBy at e
 rw [← Array.find?_toList] at e
 unfold PySem.W.lookIn
 rw [hd]
 dsimp only
 split
 ·rename_i y q
  rw [q] at e
  exact congrArg some e
 ·rename_i q
  rw [q] at e
  have a:es.toList.any (·.refKey)=false:=by
   rw [List.any_eq_false]
   intro y hy
   refine zc2a (hk y (Array.mem_toList_iff.mp hy)) fun z t hkey => ?_
   simp -iota [DictEntry.refKey,hkey]
  have a':¬ es.toList.any (·.refKey)=true:=by rw [a];exact Bool.false_ne_true
  rw [if_neg a']
  exact congrArg some e
theorem ObjM.look {h:Heap}{x dx C:Addr}{mA:Str→Option Value}(I:ObjM h x dx C mA):∃ od,PySem.W.InstAt h x (PySem.W.instObj C dx) C (some od)∧∀ name,PySem.W.lookIn name od=some (mA name) :=
 let ⟨od,ho,hl⟩:=zi6 I.ns
 ⟨od,⟨I.obj,rfl,rfl,ho⟩,hl⟩
section
variable {prog:Program}{w:World}{A:Around}{E:Value→Shared→Prop}{s:Shared}{K:PySem.W.Frag}{x dx C f:Addr}{mA:Str→Option Value}{name:Str}{v:Value}
theorem zlu {expr:Bool}{Q:Value→Shared→Prop}(X:K.In s.heap)(I:ObjM s.heap x dx C mA)(hg:PySem.W.plainGet K C name=true)(hh:PySem.W.hasDictIn K C=true)
 (ha:PySem.W.findIn K (.ref C) name=some none) (hv:mA name=some v) (hv':PySem.W.handedIn v=true) (h:Q v { s with toks:=s.toks+1 }) :
 wpAny (model prog w) A (getAttr (.ref x) name expr) Q E s:=by
 obtain ⟨od,J,hl⟩:=I.look
 exact PySem.W.get_value X J (PySem.W.plainGet_of hg).1 (PySem.W.findObj_own hh ha rfl (by rw [hl,hv])) hv' h
theorem zlO {ns:List Str}{Q:Unit→Shared→Prop}(X:K.In s.heap)(I:ObjM s.heap x dx C mA)
 (hs:PySem.W.findIn K (.ref C) "__setattr__" = some (some (.builtin "object.__setattr__"))) (hp:PySem.W.plainOver K C=true) (ht:PySem.W.takerIn K C name=some none) (hh:PySem.W.hasDictIn K C=true)
 (hw:PySem.Within mA ns) (hsz:ns.length≤sizeLine)
 (h:∀ h',ObjM h' x dx C (fun y=>if y=name then some v else mA y)→Heap.SameBut dx s.heap h'→Q () { s with heap:=h',toks:=s.toks+2 }) :
 wpAny (model prog w) A (setAttr (.ref x) name v) Q E s:=by
 obtain ⟨od,J,hl⟩:=I.look
 refine PySem.W.set_plain X J hs (PySem.W.osa_open (s:={ s with toks:=s.toks+1 }) (r:=none) X J hp ht fun b => ?_)
 obtain ⟨cd,hc,hd'⟩:=PySem.W.any_some hh
 have hx:s.heap.get? x=some ⟨.ref C,some dx,.plain,#[]⟩:=I.obj
 refine wpAny_bind (wpAny_pure (wpAny_bind (wpAny_bind (wpAny_loadPart hx (wpAny_bind (PySem.W.Looks.here (s:={ s with toks:=s.toks+1 }) (PySem.W.looks_clsIn X hc) ?_))))))
 rw [hd']
 refine wpAny_pure (a:=some dx) (wpAny_bind (wpAny_pure (wpAny_bind ?_)))
 refine wpAny_nsSet1 (s:={ s with toks:=s.toks+1 }) I.ns fun h' hn2 hs2 => ?_
 obtain ⟨oD,esD,epD,hoD,hdD,hcD⟩:=hn2.count (PySem.Within.cons name v hw)
 refine wpAny_bind (wpAny_lookBehind hoD (by rw [hdD];exact pastItsLine_dict (Nat.le_trans hcD (by rw [List.length_cons];omega))) ?_)
 exact wpAny_pure (h _ ⟨(hs2.2 _ (Ne.symm I.ne)).trans I.obj,hn2,I.ne⟩ hs2)
theorem zju {R:Result→Shared→Prop}{vs:List Value}{kw:List (Str×Value)}(X:K.In s.heap)(hm:PySem.W.makesIn K C=true)
 (hi:PySem.W.findIn K (.ref C) "__init__" = some (some (.ref f))) (hf:PySem.W.typeIn K (.ref f)=some (.type "function"))
 (h:codeAny (model prog w) (A.under (.builtin "type.__call__" ⟨.ref C::vs,kw⟩)) (.call (.ref f) ⟨.ref (s.heap.objs.size+1)::vs,kw⟩) (PySem.W.InitBack (s.heap.objs.size+1) R)
  { s with heap:=(s.heap.push PySem.W.emptyDict).push (PySem.W.instObj C s.heap.objs.size) }) :
 codeAny (model prog w) A (.call (.ref C) ⟨vs,kw⟩) R s:=by
 obtain ⟨hh,g,d,t,os⟩:=s
 exact PySem.W.make_core (PySem.W.makes_of X hm) (PySem.W.looks_findIn X hi) (fun self=>PySem.W.bind_fn X self hf) (.inl rfl) h
end
noncomputable def putF (f:Str)(v:V):List (Str×V)→List (Str×V)
 | [] => [(f,v)]
 | (g,x)::r=>if g=f then (g,v)::r else (g,x)::putF f v r
theorem zd3 (f g:Str)(v:V):∀ fs:List (Str×V),(putF f v fs).lookup g=if g=f then some v else fs.lookup g
 | []=>by
  show List.lookup g [(f,v)]=_
  by_cases h:g=f
  ·have hb:(g == f)=true:=beq_iff_eq.mpr h
   simp only [List.lookup,hb,if_pos h]
  ·have hb:(g == f)=false:=beq_eq_false_iff_ne.mpr h
   simp only [List.lookup,hb,if_neg h]
 | (k,x)::r=>by
  have ih:=zd3 f g v r
  rw [show putF f v ((k,x)::r)=(if k=f then (k,v)::r else (k,x)::putF f v r) from rfl]
  by_cases hk:k=f
  ·rw [if_pos hk]
   by_cases h:g=k
   ·have hb:(g == k)=true:=beq_iff_eq.mpr h
    simp only [List.lookup,hb,if_pos (h.trans hk)]
   ·have hb:(g == k)=false:=beq_eq_false_iff_ne.mpr h
    simp only [List.lookup,hb,if_neg (fun e:g=f=>h (e.trans hk.symm))]
  ·rw [if_neg hk]
   by_cases h:g=k
   ·have hb:(g == k)=true:=beq_iff_eq.mpr h
    simp only [List.lookup,hb,if_neg (fun e:g=f=>hk (h.symm.trans e))]
   ·have hb:(g == k)=false:=beq_eq_false_iff_ne.mpr h
    simp only [List.lookup,hb]
    exact ih
theorem zdd (f:Str)(v:V):∀ fs:List (Str×V),f∈(putF f v fs).map (·.1)∧∀ g,g∈fs.map (·.1)→g∈(putF f v fs).map (·.1)
 | []=>⟨by simp -iota [putF],fun g h=>by simp -iota at h⟩
 | (k,x)::r=>by
  obtain ⟨i1,i2⟩:=zdd f v r
  rw [show putF f v ((k,x)::r)=(if k=f then (k,v)::r else (k,x)::putF f v r) from rfl]
  by_cases hk:k=f
  ·rw [if_pos hk]
   subst hk
   exact ⟨by simp -iota,fun g h=>by simpa -iota using h⟩
  ·rw [if_neg hk]
   refine ⟨?_,fun g h => ?_⟩
   ·rw [List.map_cons]
    exact List.mem_cons_of_mem _ i1
   ·rw [List.map_cons] at h ⊢
    rcases List.mem_cons.mp h with e|e
    ·exact List.mem_cons.mpr (.inl e)
    ·exact List.mem_cons_of_mem _ (i2 g e)
theorem zdo (f:Str)(v:V):∀ fs:List (Str×V),(putF f v fs).length≤fs.length+1
 | []=>by simp -iota [putF]
 | (k,x)::r=>by
  have ih:=zdo f v r
  rw [show putF f v ((k,x)::r)=(if k=f then (k,v)::r else (k,x)::putF f v r) from rfl]
  by_cases hk:k=f
  ·rw [if_pos hk,List.length_cons,List.length_cons];omega
  ·rw [if_neg hk,List.length_cons,List.length_cons];omega
theorem RelO.some_of {v:V}{o:Option Value}(r:RelO (some v) o):∃ u,o=some u∧RelV v u:=by
 cases o with
 | none=>exact (show False from r).elim
 | some u=>exact ⟨u,rfl,r⟩
theorem zhI {v:V}{u:Value}(r:RelV v u):PySem.W.handedIn u=true:=by
 cases v with
 | non=>cases (show u=Value.none from r);rfl
 | bl b=>cases (show u=Value.bool b from r);rfl
 | int i=>obtain ⟨t,e⟩:=(show ∃ t,u=Value.int i t from r);cases e;rfl
 | str x=>obtain ⟨t,e⟩:=(show ∃ t,u=Value.str x t from r);cases e;rfl
 | byt b=>obtain ⟨t,e⟩:=(show ∃ t,u=Value.bytes b t from r);cases e;rfl
 | flt b=>obtain ⟨t,e⟩:=(show ∃ t,u=Value.float b t from r);cases e;rfl
 | ref a=>cases (show u=Value.ref a from r);rfl
 | ty n=>cases (show u=Value.type n from r);rfl
section
variable {P:Program}{w:World}{H H':Hp}{h h':Heap}{a C dx:Addr}{fs fs':List (Str×V)}
theorem zhF (hok:HOk P w H h)(e:H a=some (.ins C dx fs)):∃ mA,ObjM h a dx C mA∧(∀ f,RelO (fs.lookup f) (mA f))∧PySem.Within mA (fs.map (·.1))∧fs.length≤1000∧H dx=some (.own a):=by
 refine zc0e ((show zbh P w H h a (.ins C dx fs) from hok a _ e)) fun d z ne ob zz=>zc1c zz fun mA n r q => ?_
 exact ⟨mA,⟨ob,n,ne⟩,r,q,z,d⟩
end
structure Cls (K:PySem.W.Frag)(C:Addr):Prop where
 pg:PySem.W.plainGet K C Str.empty=true
 hd:PySem.W.hasDictIn K C=true
 po:PySem.W.plainOver K C=true
 sa:PySem.W.findIn K (.ref C) "__setattr__" = some (some (.builtin "object.__setattr__"))
theorem Cls.get {K:PySem.W.Frag}{C:Addr}(c:Cls K C)(f:Str):PySem.W.plainGet K C f=true:=c.pg
noncomputable def zcN (K:PySem.W.Frag)(C:Addr)(f:Str):Prop:=PySem.W.findIn K (.ref C) f=some none
theorem zcN.taker {K:PySem.W.Frag}{C:Addr}{f:Str}(n:zcN K C f):PySem.W.takerIn K C f=some none:=by
 unfold PySem.W.takerIn
 rw [show PySem.W.findIn K (.ref C) f=some none from n]
 rfl
section
variable {X:Cx}{pins:List (Addr×Obj)}{σ : St}{H:Hp}{s:Shared}{a C dx:Addr}{fs:List (Str×V)}{f:Str}{v:V}{A:Around}{E:Value→Shared→Prop}
theorem zg7 {b:Bool}{Q:Value→Shared→Prop}(I:Inv X pins σ H s)(e:H a=some (.ins C dx fs))(c:Cls X.K C)(n:zcN X.K C f)(l:fs.lookup f=some v)
 (h:∀ u s',Inv X pins σ H s'→RelV v u→Q u s'):wpAny (model X.prog X.w) A (getAttr (.ref a) f b) Q E s:=by
 obtain ⟨mA,O,r,_,_,_⟩:=zhF I.hok e
 obtain ⟨u,hu,ru⟩:=RelO.some_of (v:=v) (o:=mA f) (by rw [← l];exact r f)
 exact zlu I.kIn O (c.get f) c.hd n hu (zhI ru) (h u _ (I.tok _) ru)
theorem zgu {y:V}{u:Value}{Q:Unit→Shared→Prop}(I:Inv X pins σ H s)(e:H a=some (.ins C dx fs))(c:Cls X.K C)(n:zcN X.K C f)(hl:fs.length<1000)(ry:RelV y u)
 (h:∀ s',Inv X pins σ (upd H a (.ins C dx (putF f y fs))) s'→Q () s'):wpAny (model X.prog X.w) A (setAttr (.ref a) f u) Q E s:=by
 obtain ⟨mA,O,r,wi,_,ho⟩:=zhF I.hok e
 have hz:(fs.map (·.1)).length≤sizeLine:=by rw [List.length_map,sizeLine_eq];omega
 refine zlO I.kIn O c.sa c.po n.taker c.hd wi hz fun h' O' sb=>h _ ?_
 have hd:∃ o,h'.get? dx=some o:=let ⟨o,_,_,e',_⟩:=O'.ns;⟨o,e'⟩
 refine I.write (x:=a) (e:=dx) (by rw [e];exact True.intro) (.inr ho) (fun b q hb z=>(sb.2 b hb).trans z) hd ?_
 refine ⟨by rw [zaj O.ne];exact ho,?_,O.ne,O'.obj,_,O'.ns,fun g => ?_,fun g hg => ?_⟩
 ·have:=zdo f y fs;omega
 ·show RelO ((putF f y fs).lookup g) (if g=f then some u else mA g)
  rw [zd3]
  by_cases q:g=f
  ·rw [if_pos q,if_pos q];exact ry
  ·rw [if_neg q,if_neg q];exact r g
 ·by_cases q:g=f
  ·rw [q];exact (zdd f y fs).1
  ·refine (zdd f y fs).2 g (wi g fun z=>hg ?_)
   show (if g=f then some u else mA g)=none
   rw [if_neg q];exact z
theorem Inv.made (I:Inv X pins σ H s):Inv X pins σ (upd (upd H s.heap.objs.size (.own (s.heap.objs.size+1))) (s.heap.objs.size+1) (.ins C s.heap.objs.size []))
 { s with heap:=(s.heap.push PySem.W.emptyDict).push (PySem.W.instObj C s.heap.objs.size) }:=by
 have e1:(s.heap.push PySem.W.emptyDict).get? s.heap.objs.size=some PySem.W.emptyDict:=Heap.get?_push_size s.heap rfl
 have e2:((s.heap.push PySem.W.emptyDict).push (PySem.W.instObj C s.heap.objs.size)).get? (s.heap.objs.size+1)=some (PySem.W.instObj C s.heap.objs.size):=by
  have:=Heap.get?_push_size (s.heap.push PySem.W.emptyDict) (o:=PySem.W.instObj C s.heap.objs.size) rfl
  rwa [Heap.size_push] at this
 have e3:(s.heap.push PySem.W.emptyDict).Ns s.heap.objs.size (fun _=>none):=⟨PySem.W.emptyDict,#[],_,e1,rfl,(fun e he=>absurd he (by simp -iota)),fun _=>rfl⟩
 have I1:=I.laid (a:=s.heap.objs.size) (o:=.own (s.heap.objs.size+1)) (h':=s.heap.push PySem.W.emptyDict) (t':=s.toks) (fun b u q=>Heap.get?_push_of_some _ q) (Nat.le_refl _) ⟨_,e1⟩
 refine I1.laid (a:=s.heap.objs.size+1) (o:=.ins C s.heap.objs.size []) (t':=s.toks) (fun b u q=>Heap.get?_push_of_some _ q) (Nat.le_of_eq (Heap.size_push _ _)) ?_
 have ne:s.heap.objs.size≠s.heap.objs.size+1:=Nat.ne_of_lt (Nat.lt_succ_self _)
 refine ⟨by rw [zaj ne,zam],Nat.zero_le _,ne,e2,fun _=>none,(Heap.Ns1.of_empty e3).at fun o q=>Heap.get?_push_of_some _ q,fun _=>True.intro,fun y hy=>absurd rfl hy⟩
theorem zl6 {prog:Program}{w:World}{env:Env}{e:Expr}{f:Str}{pos:Pos}{s:Shared}{Q:Value→Shared→Prop}(hb:attributeBase e f env (eval e env)=eval e env)
 (h:wpAny (model prog w) A (eval e env) (fun o s₁=>wpAny (model prog w) A (getAttr o f true) Q E s₁) E s):wpAny (model prog w) A (eval (.Attribute e f pos) env) Q E s :=
 Attribute_any_ h (by rw [arm_eval_Attribute,hb])
end
def tFld (K:PySem.W.Frag)(ta:TE)(f:Str):TE:=fun σ H Q=>ta σ H fun x H1 => ∃ a C dx fs v,x=.ref a∧H1 a=some (.ins C dx fs)∧Cls K C∧zcN K C f∧fs.lookup f=some v∧Q v H1
def sFld (K:PySem.W.Frag)(ta tv:TE)(f:Str):TS:=fun D σ H=>tv σ H fun y H1=>ta σ H1 fun x H2 => ∃ a C dx fs,x=.ref a∧H2 a=some (.ins C dx fs)∧Cls K C∧zcN K C f∧fs.length<1000 ∧
 D.nx σ (upd H2 a (.ins C dx (putF f y fs)))
section
variable {X:Cx}{o e value:Expr}{f:Str}{pos pos' tpos:Pos}{ta tv:TE}
theorem znj (he:PE X e ta)(hb:attributeBase e f X.env (eval e X.env)=eval e X.env):PE X (.Attribute e f pos) (tFld X.K ta f):=by
 intro pins s σ H Q I h
 refine zl6 hb (thn (he pins s σ H _ I h) fun u s1 zh => ?_)
 obtain ⟨x,H1,I1,rx,a,C,dx,fs,v,ex,ea,c,n,l,q⟩:=zh
 subst ex
 obtain rfl:u=Value.ref a:=rx
 exact zg7 I1 ea c n l fun u' s2 I2 ru=>⟨v,H1,I2,ru,q⟩
theorem zpe (ha:PE X o ta)(hv:PE X value tv)(hs:swapsWith value (some (.Attribute o f pos')) pos.line X.env=pure false):PS X (.Assign [.Attribute o f pos'] value pos) (sFld X.K ta tv f):=by
 intro pins s σ H D I h
 refine plainObj_wpAny_Assign_Attribute (thn (hv pins s σ H _ I h) fun u s1 ⟨y,H1,I1,ry,q⟩=>thn (ha pins s1 σ H1 _ I1 q) fun ov s2 ⟨x,H2,I2,rx,a,C,dx,fs,ex,ea,c,n,l,q2⟩ => ?_) hs
 subst ex
 obtain rfl:ov=Value.ref a:=rx
 exact zgu I2 ea c n l ry fun s3 I3=>⟨σ,_,I3,q2⟩
end
end L2
namespace L2
open PySem PySem.Spec PyProof.Rows
structure Room (k:Nat)(A:Around):Prop where
 hd:A.handled=none
 dp:A.depth+3*k+5<recursionLimit
 un:A.units+16*k+200<cLine
theorem Room.mono {j k:Nat}{A:Around}(r:Room k A)(h:j≤k):Room j A:=⟨r.hd,by have:=r.dp;omega,by have:=r.un;omega⟩
theorem Room.deeper {k:Nat}{A:Around}(r:Room (k+1) A)(env:Env):Room k (A.deeper env) :=
 ⟨r.hd,by have:=r.dp;show A.depth+1+3*k+5<_;omega,by have:=r.un;show A.units+3+16*k+200<_;omega⟩
theorem zhb {A:Around}{C:Addr}{us:List Value}{kw:List (Str×Value)}:(A.under (.builtin "type.__call__" ⟨.ref C::us,kw⟩)).depth=A.depth+1:=by
 first|rfl|simp -iota [Around.under,Code.weight,Code.isCreation,Code.isGuard,Code.isCaller,Code.frames,Code.isFrame,guardIds]
theorem zgv {A:Around}{C:Addr}{us:List Value}{kw:List (Str×Value)}:(A.under (.builtin "type.__call__" ⟨.ref C::us,kw⟩)).units=A.units+1:=by
 first|rfl|simp -iota [Around.under,Code.cUnits,Code.frames,Code.isFrame]
theorem Room.make {k:Nat}{A:Around}(r:Room (k+1) A)(C:Addr)(us:List Value)(kw:List (Str×Value)):Room k (A.under (.builtin "type.__call__" ⟨.ref C::us,kw⟩)) :=
 ⟨r.hd,by have:=r.dp;rw [zhb];omega,by have:=r.un;rw [zgv];omega⟩
theorem Room.depth {k:Nat}{A:Around}(r:Room k A):A.depth<recursionLimit:=by have:=r.dp;omega
theorem Room.units {k:Nat}{A:Around}(r:Room k A):A.units+64<cLine:=by have:=r.un;omega
noncomputable def tNil:TA:=fun _ H Q=>Q [] H
noncomputable def zor (ta:TE)(tr:TA):TA:=fun σ H Q=>ta σ H fun x H1=>tr σ H1 fun xs H2=>Q (x::xs) H2
section
variable {X:Cx}{e:Expr}{es:List Expr}{te:TE}{t:TA}{pos:Pos}
theorem zkW:PA X [] tNil:=fun _ _ _ _ H Q I h=>Calls.spliced_nil ⟨[],H,I,.nil,h⟩
theorem zfu (ha:PE X e te)(hr:PA X es t)(hs:autoParam (starEach (e::es) X.env=(false,eval e X.env)::starEach es X.env) zau._auto_1):PA X (e::es) (zor te t):=by
 intro pos pins s σ H Q I h
 rw [hs]
 show wpAny _ _ (spliced ((false,eval e X.env)::backTo pos (starEach es X.env))) _ _ s
 refine Calls.spliced_cons (thn (ha pins s σ H _ I h) fun u s1 zh => ?_)
 refine zc2c zh fun x H1 I1 r1 q1 => ?_
 exact thn (hr pos pins s1 σ H1 _ I1 q1) (by rintro us s2 ⟨xs,H2,I2,r2,q2⟩;exact ⟨x::xs,H2,I2,.cons r1 r2,q2⟩)
def tTup (t:TA):TE:=fun σ H Q=>t σ H fun xs H1=>xs.length≤sizeLine∧∀ p,H1 p=none→Q (.ref p) (upd H1 p (.tup xs))
def tLst (t:TA):TE:=fun σ H Q=>t σ H fun xs H1=>xs.length≤sizeLine∧∀ p,H1 p=none→Q (.ref p) (upd H1 p (.lst xs))
theorem zog {x1}(h:PA X es t):PE X (.Tuple es x1 pos) (tTup t):=by
 intro pins s σ H Q I hq
 refine wpAny_Tuple_spliced (thn (h pos pins s σ H _ I hq) fun us s1 ⟨xs,H1,I1,r,z,q⟩=>⟨by rw [← r.length];exact z,?_⟩)
 have hf:H1 s1.heap.objs.size=none:=I1.hok.fresh (Nat.le_refl _)
 refine ⟨.ref s1.heap.objs.size,upd H1 s1.heap.objs.size (.tup xs),I1.laid (t':=s1.toks) (fun b u e=>Heap.get?_push_of_some _ e) (Nat.le_refl _) ?_,rfl,q _ hf⟩
 exact ⟨⟨z,⟨_,Heap.get?_push_size _ rfl,rfl⟩⟩,us,r,⟨_,Heap.get?_push_size _ rfl,rfl,_,rfl⟩⟩
theorem zp5 (h:PA X es t):PE X (.List es pos) (tLst t):=by
 intro pins s σ H Q I hq
 refine wpAny_List_spliced (thn (h pos pins s σ H _ I hq) fun us s1 ⟨xs,H1,I1,r,z,q⟩=>⟨by rw [← r.length];exact z,?_⟩)
 have hf:H1 s1.heap.objs.size=none:=I1.hok.fresh (Nat.le_refl _)
 refine ⟨.ref s1.heap.objs.size,upd H1 s1.heap.objs.size (.lst xs),I1.laid (t':=s1.toks) (fun b u e=>Heap.get?_push_of_some _ e) (Nat.le_refl _) ?_,rfl,q _ hf⟩
 exact ⟨z,us,0,r,Heap.get?_push_size _ rfl⟩
end
abbrev Sp:=List V→Hp→VK→XK→Prop
abbrev CXT:=List Env→Hp→Shared→XK→Value→Shared→Prop
structure Env0 (P:Program)(w:World)(K:PySem.W.Frag)(mg:Str→Option Value)(base:Heap)(A:Around)(outer:List Env)(s:Shared)(H:Hp):Prop where
 frames:A.frames=some outer
 mod:Mod K mg base
 bs:∀ b o,base.get? b=some o→s.heap.get? b=some o∧H b=none
 bsz:base.objs.size≤s.heap.objs.size
 funs:s.heap.FunFrames base outer
 frf:∀ b∈frs outer,H b=none
 hok:HOk P w H s.heap
 bare:AllBare s.gens
def CE (outer:List Env)(P:Program)(w:World)(H:Hp)(s:Shared)(Q:VK)(u:Value)(s':Shared):Prop :=
 ∃ v H',s'.os=s.os∧AllBare s'.gens∧Un (frs outer) [] H H' s.heap s'.heap∧HOk P w H' s'.heap∧RelV v u∧Q v H'
noncomputable def CR (CX:CXT)(outer:List Env)(P:Program)(w:World)(H:Hp)(s:Shared)(Q:VK)(E:XK)(r:Result)(s':Shared):Prop :=
 match r with
 | .ok (.ret u)=>CE outer P w H s Q u s'
 | .ok _=>False
 | .error e=>CX outer H s E e s'
structure FnOk (P:Program)(w:World)(K:PySem.W.Frag)(mg:Str→Option Value)(base:Heap)(CX:CXT)(k:Nat)(f:Addr)(fd:FuncData)(ps:List Str)(sp:Sp):Prop where
 len:∀ vs H Q E,sp vs H Q E→vs.length=ps.length
 run:∀ (A:Around) (outer:List Env) (s:Shared) (H:Hp) (args:Args) (us:List Value) (vs:List V) (Q:VK) (E:XK),Room k A→Env0 P w K mg base A outer s H→BindsTo s fd args (ps.zip us)→Vals vs us→sp vs H Q E →
  codeAny (model P w) A (.call (.ref f) args) (CR CX outer P w H s Q E) s
theorem FnOk.mono {P:Program}{w:World}{K:PySem.W.Frag}{mg:Str→Option Value}{base:Heap}{CX:CXT}{j k:Nat}{f:Addr}{fd:FuncData}{ps:List Str}{sp:Sp}(F:FnOk P w K mg base CX j f fd ps sp)(h:j≤k) :
 FnOk P w K mg base CX k f fd ps sp:=⟨F.len,fun A outer s H args us vs Q E hr=>F.run A outer s H args us vs Q E (hr.mono h)⟩
theorem FnOk.imp {P:Program}{w:World}{K:PySem.W.Frag}{mg:Str→Option Value}{base:Heap}{CX:CXT}{k:Nat}{f:Addr}{fd:FuncData}{ps:List Str}{sp sp':Sp}(F:FnOk P w K mg base CX k f fd ps sp)
 (h:∀ vs H Q E,sp' vs H Q E→sp vs H Q E):FnOk P w K mg base CX k f fd ps sp' :=
 ⟨fun vs H Q E q=>F.len vs H Q E (h _ _ _ _ q),fun A outer s H args us vs Q E hr he hb hv hs=>F.run A outer s H args us vs Q E hr he hb hv (h _ _ _ _ hs)⟩
theorem Env0.make {P:Program}{w:World}{K:PySem.W.Frag}{mg:Str→Option Value}{base:Heap}{A:Around}{outer:List Env}{s:Shared}{H:Hp}(e:Env0 P w K mg base A outer s H)(C:Addr)(us:List Value)(kw:List (Str×Value)) :
 Env0 P w K mg base (A.under (.builtin "type.__call__" ⟨.ref C::us,kw⟩)) outer s H:=⟨by first|exact e.frames|(simpa -iota [Around.under,Code.envs,Code.isFrame,pushEnvs] using e.frames),e.mod,e.bs,e.bsz,e.funs,e.frf,e.hok,e.bare⟩
section
variable {X:Cx}{pins:List (Addr×Obj)}{σ : St}{H:Hp}{s s':Shared}
theorem Inv.env0 (I:Inv X pins σ H s):Env0 X.prog X.w X.K X.mg X.base X.A X.stack s H :=
 ⟨I.ok.frames,I.ok.mod,I.bs,Nat.le_trans I.ok.bsz I.sz,I.stack,I.stkFree,I.hok,I.bare⟩
theorem Inv.after {Q:VK}{u:Value}(I:Inv X pins σ H s)(h:CE X.stack X.prog X.w H s Q u s'):EP X pins σ Q u s':=by
 refine zc2a h fun v H' zz=>zc0e zz fun os bare un hok zz=>zc0b zz fun r q => ?_
 obtain ⟨hh,g,d,t,os'⟩:=s'
 obtain rfl:os'=s.os:=os
 exact ⟨v,H',I.call (h':=hh) (g':=g) (d':=d) (t':=t) (ch:=[]) un hok bare (fun b z=>absurd z (by simp -iota)),r,q⟩
end
noncomputable def zmA (sp:Sp)(dvs:List V)(E:XK)(t:TA):TE:=fun σ H Q=>t σ H fun vs H1=>sp (vs++dvs) H1 Q E
def tMake (C:Addr)(sp:Sp)(dvs:List V)(E:XK)(t:TA):TE:=fun σ H Q=>t σ H fun vs H1 => ∀ x dx,H1 x=none→H1 dx=none→dx≠x →
 sp (.ref x::(vs++dvs)) (upd (upd H1 dx (.own x)) x (.ins C dx [])) (fun v H2=>v=.non∧Q (.ref x) H2) E
noncomputable def zdb (K:PySem.W.Frag)(fd:FuncData)(ps:List Str)(ds:List Value):Prop :=
 ∀ (s:Shared) (us:List Value),K.In s.heap→(us++ds).length=ps.length→BindsTo s fd ⟨us,[]⟩ (ps.zip (us++ds))
theorem zdb.all {K:PySem.W.Frag}{fd:FuncData}{ps:List Str}(h:∀ us:List Value,us.length=ps.length→bindArgs fd ⟨us,[]⟩=pure (ps.zip us)):zdb K fd ps []:=fun s us _ hl=>by
 rw [List.append_nil] at hl ⊢
 exact .of_eq (h us hl)
noncomputable def zdL (CX:CXT)(X:Cx)(E:XK):Prop:=∀ (pins:List (Addr×Obj)) (σ : St) (H:Hp) (s:Shared) (e:Value) (s':Shared),Inv X pins σ H s→CX X.stack H s E e s'→X.xe e s'
section
variable {X:Cx}{CX:CXT}{k:Nat}{f C:Addr}{fd:FuncData}{ps:List Str}{sp:Sp}{dvs:List V}{ds:List Value}{E:XK}{x m:Str}{p pos apos:Pos}{e o:Expr}{es:List Expr}{ta:TE}{t:TA}
theorem zpy {pins:List (Addr×Obj)}{σ : St}{H:Hp}{s:Shared}{Q:VK}{us:List Value}{vs:List V}(F:FnOk X.prog X.w X.K X.mg X.base CX k f fd ps sp)(hr:Room k X.A)(hb:zdb X.K fd ps ds)(hd:Vals dvs ds)(hx:zdL CX X E)
 (I:Inv X pins σ H s) (r:Vals vs us) (h:sp (vs++dvs) H Q E):wpAny (model X.prog X.w) X.A (call (.ref f) us) (EP X pins σ Q) X.xe s:=by
 have r2:Vals (vs++dvs) (us++ds):=r.append hd
 have hl:(us++ds).length=ps.length:=by rw [← r2.length];exact F.len _ _ _ _ h
 refine wpAny_call (codeAny_mono (F.run X.A X.stack s H ⟨us,[]⟩ (us++ds) (vs++dvs) Q E hr I.env0 (hb s us I.kIn hl) r2 h) fun r s' hq => ?_)
 cases r with
 | error e=>exact hx pins σ H s e s' I hq
 | ok fl =>
  cases fl with
  | ret u=>exact I.after hq
  | next=>exact False.elim hq
  | brk=>exact False.elim hq
  | cont=>exact False.elim hq
theorem zh0 (F:FnOk X.prog X.w X.K X.mg X.base CX k f fd ps sp)(hr:Room k X.A)(hg:Gl X x)(hm:X.mg x=some (.ref f))(hk:PySem.W.keepIn X.K (.ref f)=true)(hb:zdb X.K fd ps ds)(hd:Vals dvs ds)(hx:zdL CX X E)
 (ha:PA X (e::es) t) (hdb:autoParam ((x == ("__debug__" : Str))=false) zav._auto_1) (he:starEach (e::es) X.env=(false,eval e X.env)::starEach es X.env:=by rfl) (hpl:(backTo pos (starEach es X.env)).any (·.1)=false:=by rfl) :
 PE X (.Call (.Name x p) (e::es) [] pos) (zmA sp dvs E t):=by
 intro pins s σ H Q I h
 refine wpAny_Call_Name_kw (zcx I hg hm ?_ hdb)
 refine PySem.W.callWith_K (h₀:=X.base) I.ok.mod.kin hk (thn (ha pos pins s σ H _ I h) fun us s1 ⟨vs,H1,I1,r,q⟩=>⟨I1.kIn,?_⟩) he hpl
 exact zpy F hr hb hd hx I1 r q
structure Mk (K:PySem.W.Frag)(C f:Addr):Prop where
 makes:PySem.W.makesIn K C=true
 init:PySem.W.findIn K (.ref C) "__init__" = some (some (.ref f))
 fn:PySem.W.isFn K (.ref f)=true
 kp:PySem.W.keepIn K (.ref C)=true
theorem zki {pins:List (Addr×Obj)}{σ : St}{H:Hp}{s:Shared}{Q:VK}{us:List Value}{vs:List V}(M:Mk X.K C f)(F:FnOk X.prog X.w X.K X.mg X.base CX k f fd ps sp)(hr:Room (k+1) X.A)(hb:zdb X.K fd ps ds)(hd:Vals dvs ds)
 (hx:zdL CX X E) (I:Inv X pins σ H s) (r:Vals vs us)
 (h:∀ x dx,H x=none→H dx=none→dx≠x→sp (.ref x::(vs++dvs)) (upd (upd H dx (.own x)) x (.ins C dx [])) (fun v H2=>v=.non∧Q (.ref x) H2) E) :
 wpAny (model X.prog X.w) X.A (call (.ref C) us) (EP X pins σ Q) X.xe s:=by
 have hq:=h (s.heap.objs.size+1) s.heap.objs.size (I.hok.fresh (Nat.le_succ _)) (I.hok.fresh (Nat.le_refl _)) (Nat.ne_of_lt (Nat.lt_succ_self _))
 have I2:=Inv.made (C:=C) I
 have r2:Vals (V.ref (s.heap.objs.size+1)::(vs++dvs)) (Value.ref (s.heap.objs.size+1)::(us++ds)):=.cons rfl (r.append hd)
 have hl:(Value.ref (s.heap.objs.size+1)::us++ds).length=ps.length:=by
  have e:=r2.length
  rw [F.len _ _ _ _ hq] at e
  exact e.symm
 refine wpAny_call (zju (f:=f) I.kIn M.makes M.init (beq_iff_eq.mp M.fn) (codeAny_mono (F.run _ X.stack _ _ ⟨Value.ref (s.heap.objs.size+1)::us,[]⟩ (Value.ref (s.heap.objs.size+1)::(us++ds)) _ _ E (hr.make C us [])
  (I2.env0.make C us []) (hb _ (Value.ref (s.heap.objs.size+1)::us) I2.kIn hl) r2 hq) fun r s' hq' => ?_))
 cases r with
 | error e=>exact hx pins σ _ _ e s' I2 hq'
 | ok fl =>
  cases fl with
  | ret u =>
   obtain ⟨v,H',I3,rv,ev,q3⟩:=I2.after hq'
   subst ev
   exact ⟨rv,⟨V.ref (s.heap.objs.size+1),H',I3,rfl,q3⟩⟩
  | next=>exact False.elim hq'
  | brk=>exact False.elim hq'
  | cont=>exact False.elim hq'
theorem zlp (M:Mk X.K C f)(F:FnOk X.prog X.w X.K X.mg X.base CX k f fd ps sp)(hr:Room (k+1) X.A)(hg:Gl X x)(hm:X.mg x=some (.ref C))(hb:zdb X.K fd ps ds)(hd:Vals dvs ds)(hx:zdL CX X E)
 (ha:PA X (e::es) t) (hdb:autoParam ((x == ("__debug__" : Str))=false) zav._auto_1) (he:starEach (e::es) X.env=(false,eval e X.env)::starEach es X.env:=by rfl) (hpl:(backTo pos (starEach es X.env)).any (·.1)=false:=by rfl) :
 PE X (.Call (.Name x p) (e::es) [] pos) (tMake C sp dvs E t):=by
 intro pins s σ H Q I h
 refine wpAny_Call_Name_kw (zcx I hg hm ?_ hdb)
 refine PySem.W.callWith_K (h₀:=X.base) I.ok.mod.kin M.kp (thn (ha pos pins s σ H _ I h) fun us s1 ⟨vs,H1,I1,r,q⟩=>⟨I1.kIn,?_⟩) he hpl
 exact zki M F hr hb hd hx I1 r q
end
structure FnScope (N P:List Str)(sc:Scope):Prop where
 kind:sc.kind=.function
 co:sc.isCoroutine=false
 gen:sc.isGenerator=false
 nd:N.Nodup
 pre:N.take P.length=P
 par:∀ x∈P,sc.names.lookup x=some .local∨sc.names.lookup x=some .cell
 nofree:∀ y∈sc.names,y.2 ≠ .free
theorem ze6 {kindOf:Str→Option NameKind}{x:Str}:∀ {binds:List (Str×Value)} {m:Str→Option Value},(∀ v,(x,v)∉binds)→bindL kindOf binds m x=m x
 | [],_,_=>rfl
 | (n,v)::r,m,h=>by
  unfold bindL
  rw [ze6 fun w hw=>h w (List.mem_cons_of_mem _ hw)]
  split
  ·have:x≠n:=by rintro rfl;exact h v List.mem_cons_self
   simp -iota [this]
  ·rfl
theorem zeU {kindOf:Str→Option NameKind}{x:Str}:∀ {binds:List (Str×Value)} {m:Str→Option Value},(∀ v,(x,v)∉binds)→bindC kindOf binds m x=m x
 | [],_,_=>rfl
 | (n,v)::r,m,h=>by
  unfold bindC
  rw [zeU fun w hw=>h w (List.mem_cons_of_mem _ hw)]
  split
  ·rfl
  ·have:x≠n:=by rintro rfl;exact h v List.mem_cons_self
   simp -iota [this]
theorem zeT {kindOf:Str→Option NameKind}{x:Str}{v:Value}:∀ {P:List Str} {vs:List Value} {i:Nat} {m:Str→Option Value},P.Nodup→P[i]? = some x→vs[i]? = some v→kindOf x=some .local →
 bindL kindOf (P.zip vs) m x=some v
 | [],_,_,_,_,h,_,_=>by simp -iota at h
 | _::_,[],_,_,_,_,h,_=>by simp -iota at h
 | p::P,w::vs,0,m,nd,h1,h2,hk=>by
  simp -iota at h1 h2;subst h1;subst h2
  show bindL kindOf ((p,w)::P.zip vs) m p=_
  unfold bindL
  rw [ze6 fun v hv=>(List.nodup_cons.mp nd).1 (List.of_mem_zip hv).1,if_pos hk]
  simp -iota
 | p::P,w::vs,i+1,m,nd,h1,h2,hk=>by
  show bindL kindOf ((p,w)::P.zip vs) m x=_
  unfold bindL
  exact zeT (i:=i) (List.nodup_cons.mp nd).2 (by simpa -iota using h1) (by simpa -iota using h2) hk
theorem zeK {kindOf:Str→Option NameKind}{x:Str}{v:Value}:∀ {P:List Str} {vs:List Value} {i:Nat} {m:Str→Option Value},P.Nodup→P[i]? = some x→vs[i]? = some v→kindOf x≠some .local →
 bindC kindOf (P.zip vs) m x=some v
 | [],_,_,_,_,h,_,_=>by simp -iota at h
 | _::_,[],_,_,_,_,h,_=>by simp -iota at h
 | p::P,w::vs,0,m,nd,h1,h2,hk=>by
  simp -iota at h1 h2;subst h1;subst h2
  show bindC kindOf ((p,w)::P.zip vs) m p=_
  unfold bindC
  rw [zeU fun v hv=>(List.nodup_cons.mp nd).1 (List.of_mem_zip hv).1,if_neg hk]
  simp -iota
 | p::P,w::vs,i+1,m,nd,h1,h2,hk=>by
  show bindC kindOf ((p,w)::P.zip vs) m x=_
  unfold bindC
  exact zeK (i:=i) (List.nodup_cons.mp nd).2 (by simpa -iota using h1) (by simpa -iota using h2) hk
noncomputable def start (N:List Str)(vs:List V):St:=vs.map some++List.replicate (N.length-vs.length) none
noncomputable def cxOf (CX:CXT)(P:Program)(w:World)(K:PySem.W.Frag)(mg:Str→Option Value)(base:Heap)(N:List Str)(qual:Str)(scope:Scope)(f:Addr)(cd:Value)(A:Around)(outer:List Env)(s:Shared)(H:Hp)(E:XK):Cx where
 prog:=P
 w:=w
 K:=K
 mg:=mg
 base:=base
 A:=A.deeper (envOfC qual scope s.heap.objs.size f cd)
 N:=N
 s₀:=s
 H₀:=H
 env:=envOfC qual scope s.heap.objs.size f cd
 outer:=outer
 stack:=envOfC qual scope s.heap.objs.size f cd::outer
 ex:=[]
 calm:=true
 fn:=fun _=>true
 pn:=[]
 xe:=fun e s'=>wpAny (model P w) (A.deeper (envOfC qual scope s.heap.objs.size f cd)) (leaving (envOfC qual scope s.heap.objs.size f cd) e) (fun _ s''=>CX outer H s E e s'') (fun e' s''=>CX outer H s E e' s'') s'
theorem zge {sc:Scope}{n:Nat}{x:Str}(h:sc.names.lookup x=some .cell):∃ c,(cellsFrom n sc.names []).lookup x=some c:=by
 have q:=PySem.W.cellsFrom_some sc.names n [] (.inl h)
 exact Option.isSome_iff_exists.mp q
theorem zhc {CX:CXT}{P:Program}{w:World}{K:PySem.W.Frag}{mg:Str→Option Value}{base:Heap}{N ps:List Str}{qual:Str}{scope:Scope}{f:Addr}{cd:Value}{A:Around}{outer:List Env}{s s1:Shared}{H:Hp}{E:XK}{us:List Value}{vs:List V}
 (S:FnScope N ps scope) (hd:A.handled=none) (e0:Env0 P w K mg base A outer s H) (hl:vs.length=ps.length) (r:Vals vs us)
 (x:InCallC s s.heap.objs.size (bindL (envOfC qual scope s.heap.objs.size f cd).kindOf (ps.zip us) fun _=>none) (cellsFrom (s.heap.objs.size+1) scope.names []) (bindC (envOfC qual scope s.heap.objs.size f cd).kindOf (ps.zip us) fun _=>none) s1) :
 Inv (cxOf CX P w K mg base N qual scope f cd A outer s H E) [] (start N vs) H s1:=by
 have hpl:ps.length≤N.length:=by have:=congrArg List.length S.pre;rw [List.length_take] at this;omega
 refine zc2b x.done fun h1 tk zr2 hk => ?_
 obtain rfl:=zr2
 have noA:∀ b:Addr,b∉(cxOf CX P w K mg base N qual scope f cd A outer s H E).ex:=fun b z=>absurd (show b∈([]:List Addr) from z) (by simp -iota)
 refine ⟨⟨e0.mod,S.kind,rfl,rfl,Nat.le_refl _,fun y z c h1 h2 => ?_,fun y hy => ?_,fun y c _ h => ?_,fun _=>hd,Around.frames_deeper e0.frames,.inr ⟨rfl,rfl⟩,fun b z=>absurd z (noA b),e0.bs,e0.bsz,fun b _ _=>noA b,fun b z=>absurd z (noA b),e0.funs,e0.frf⟩,
  rfl,e0.bare,Un.kept hk,⟨_,x.toInCall.ns,fun i y v h1 h2 h3 => ?_⟩,fun y c h=>⟨_,x.cell y c h⟩,e0.hok.fresh (Nat.le_refl _),fun y c h => ?_,fun p hp=>absurd (show p∈([]:List (Addr×Obj)) from hp) (by simp -iota),e0.hok.kept hk,?_⟩
 ·exact name_of_addr x.apart (PySem.mem_of_lookup h1) (PySem.mem_of_lookup h2)
 ·have hy:scope.names.lookup y=some .cell∨scope.names.lookup y=some .free:=hy
  rcases hy with hy|hy
  ·exact zge hy
  ·exact absurd rfl (S.nofree _ (PySem.mem_of_lookup hy))
 ·exact Nat.le_of_lt (x.above y c (PySem.mem_of_lookup h))
 ·have hi:i<vs.length:=by
   unfold start at h2
   by_cases hi:i<vs.length
   ·exact hi
   ·rw [List.getElem?_append_right (by simpa -iota using hi)] at h2
    rw [List.getElem?_replicate] at h2
    split at h2<;>cases h2
  have ha:vs[i]? = some v:=by
   unfold start at h2
   rw [List.getElem?_append_left (by simpa -iota using hi),List.getElem?_map] at h2
   cases e:vs[i]? with
   | none=>rw [e] at h2;cases h2
   | some a=>rw [e] at h2;cases h2;rfl
  refine zc1b (r.get ha) fun u hu rv => ?_
  have hp:ps[i]? = some y:=by
   rw [← S.pre,List.getElem?_take_of_lt (by omega)];exact h1
  have ndP:ps.Nodup:=by rw [← S.pre];exact S.nd.sublist (List.take_sublist _ _)
  refine ⟨u,rv,?_⟩
  rcases S.par y (List.mem_of_getElem? hp) with k|k
  ·exact .inl ⟨k,zeT ndP hp hu k⟩
  ·obtain ⟨c,e⟩:=zge (n:=s.heap.objs.size+1) k
   refine .inr ⟨.inl k,c,e,?_⟩
   have q:=x.cell y c e
   rw [zeK ndP hp hu (by show scope.names.lookup y≠_;rw [k];decide)] at q
   exact q
 ·exact e0.hok.fresh (Nat.le_of_lt (x.above y c (PySem.mem_of_lookup h)))
 ·unfold start
  show _=N.length
  rw [List.length_append,List.length_map,List.length_replicate]
  omega
theorem znC {CX:CXT}{P:Program}{w:World}{K:PySem.W.Frag}{mg:Str→Option Value}{base:Heap}{k:Nat}{f:Addr}{name qual:Str}{params:Arguments}{body:List Stmt}{scope:Scope}{dV kV doc pm cdv ct oc:Value}{an od:Option Addr}
 {osl:Array (Option Value)} {N ps:List Str} {sp:Sp} (lk:K.lookup f=some ⟨oc,od,.func (PySem.W.fnOf name qual params body scope dV kV doc pm an cdv ct),osl⟩) (hcd:PySem.W.codeIn K cdv qual=true) (S:FnScope N ps scope)
 (len:∀ vs H Q E,sp vs H Q E→vs.length=ps.length)
 (hbody:∀ (A:Around) (outer:List Env) (s:Shared) (H:Hp) (vs:List V) (Q:VK) (E:XK),Room k (A.deeper (envOfC qual scope s.heap.objs.size f cdv))→sp vs H Q E →
  ∃ t,PSs (cxOf CX P w K mg base N qual scope f cdv A outer s H E) body t∧t { nx:=fun _ H'=>Q .non H',rt:=Q } (start N vs) H) :
 FnOk P w K mg base CX (k+1) f (PySem.W.fnOf name qual params body scope dV kV doc pm an cdv ct) ps sp:=by
 refine ⟨len,fun A outer s H args us vs Q E hr e0 hb r hsp => ?_⟩
 have hl:=len _ _ _ _ hsp
 have KX:K.In s.heap:=e0.mod.kin.keeps fun b o e=>(e0.bs b o e).1
 have lim:s.heap.NoLimit:=e0.mod.nolimit.keeps fun b o e=>(e0.bs b o e).1
 have hkind:∀ y∈ps.zip us,scope.names.lookup y.1=some .local∨(scope.names.lookup y.1=some .cell∧((cellsFrom (s.heap.objs.size+1) scope.names []).lookup y.1).isSome=true):=fun ⟨n,v⟩ hy=>by
  rcases S.par n (List.of_mem_zip hy).1 with q|q
  ·exact .inl q
  ·exact .inr ⟨q,PySem.W.cellsFrom_some _ _ _ (.inl q)⟩
 refine codeAny_call_function hr.depth (KX _ _ lk) rfl S.co S.gen rfl (PySem.W.codeRec_of KX hcd) (hb _ _ _ _ ?_)
 refine wpAny_newFunctionEnv_cells S.kind hkind fun env he s1 x => ?_
 subst he
 refine ⟨lim.keeps x.toInCall.keep,codeAny_func ?_⟩
 refine zc1b (hbody A outer s H vs Q E (hr.deeper _) hsp) fun t ht hq => ?_
 have I:Inv (cxOf CX P w K mg base N qual scope f cdv A outer s H E) [] (start N vs) H s1:=zhc S hr.hd e0 hl r x
 refine wpAny_mono (ht [] s1 (start N vs) H _ I hq) (fun fl s' hs => ?_) fun e s' hs=>hs
 have fin:∀ {σ':St} {H':Hp} {v:V} {u:Value},Inv (cxOf CX P w K mg base N qual scope f cdv A outer s H E) [] σ' H' s'→RelV v u→Q v H'→CE outer P w H s Q u s' :=
  fun {σ' H' v u} J rv q=>⟨v,H',J.os,J.bare,J.base,J.hok,rv,q⟩
 cases fl with
 | ret u =>
  refine zc3c hs fun v σ' H' J rv q => ?_
  exact fin J rv q
 | next =>
  refine zc2b hs fun σ' H' J q => ?_
  exact fin (v:=V.non) (u:=Value.none) J rfl q
 | brk =>
  refine zc2b hs fun _ _ _ q => ?_
  exact False.elim q
 | cont =>
  refine zc2b hs fun _ _ _ q => ?_
  exact False.elim q
end L2
namespace L2
open PySem PySem.Spec PyProof.Rows
section
variable {X:Cx}{x:Str}{p pos:Pos}{e:Expr}{es:List Expr}{t:TA}{id T:String}{r:List V→Hp→VK→Prop}
noncomputable def tCB (r:List V→Hp→VK→Prop)(t:TA):TE:=fun σ H Q=>t σ H fun vs H1=>r vs H1 Q
theorem zgc (hc:zaJ X (.builtin id) r)(hg:Gl X x)(hm:X.mg x=none)(hv:bootBuiltins x=some (.builtin id))(ha:PA X (e::es) t)(hn:autoParam (x ≠ "__name__") zav._auto_1)(hdb:autoParam ((x == ("__debug__" : Str))=false) zav._auto_1)
 (he:autoParam (starEach (e::es) X.env=(false,eval e X.env)::starEach es X.env) zau._auto_1) (hpl:autoParam ((backTo pos (starEach es X.env)).any (·.1)=false) zau._auto_1):PE X (.Call (.Name x p) (e::es) [] pos) (tCB r t):=by
 intro pins s σ H Q I h
 refine wpAny_Call_Name_kw (zgk I hg hm hv ?_ hn hdb)
 exact PyProof.Rows.callWith_builtin1 (thn (ha pos pins s σ H _ I h) (by rintro us s1 ⟨vs,H1,I1,r1,q1⟩;exact hc pins s1 σ H1 vs us Q I1 r1 q1)) he hpl
theorem zdm (hc:zaJ X (.type T) r)(hg:Gl X x)(hm:X.mg x=none)(hv:bootBuiltins x=some (.type T))(ha:PA X (e::es) t)(hn:autoParam (x ≠ "__name__") zav._auto_1)(hdb:autoParam ((x == ("__debug__" : Str))=false) zav._auto_1)
 (he:autoParam (starEach (e::es) X.env=(false,eval e X.env)::starEach es X.env) zau._auto_1) (hpl:autoParam ((backTo pos (starEach es X.env)).any (·.1)=false) zau._auto_1):PE X (.Call (.Name x p) (e::es) [] pos) (tCB r t):=by
 intro pins s σ H Q I h
 refine wpAny_Call_Name_kw (zgk I hg hm hv ?_ hn hdb)
 exact PyProof.Rows.callWith_type1 (thn (ha pos pins s σ H _ I h) (by rintro us s1 ⟨vs,H1,I1,r1,q1⟩;exact hc pins s1 σ H1 vs us Q I1 r1 q1)) he hpl
end
end L2
namespace HT
open PySem PyProof.Rows
section
open PySem.SeqAt
open PySem.AutoSeq1 (wpAny_loadPart')
open PySem.MeetsSeq PySem.MeetsSeq2 PySem.MeetsSeq3
end
section
variable {prog:Program}{w:World}{A:Around}{E:Value→Shared→Prop}{s:Shared}
theorem cat_tup {t b:Addr}{vs ws:List Value}{Q:Value→Shared→Prop}(ht:IsTup s.heap t vs.toArray)(hb:IsTup s.heap b ws.toArray)(hv:vs ≠ [])
 (h1:ws=[]→Q (.ref t) s) (h2:ws ≠ []→Q (.ref s.heap.objs.size) { s with heap:=s.heap.push { cls:=.type "tuple",data:=.seq (vs++ws).toArray } })
 (hsz:vs.length+ws.length≤sizeLine):wpAny (model prog w) A (binaryOp .Add (.ref t) (.ref b)) Q E s:=by
 refine zc1c (id ht) fun zr0 ho hc zz=>zc1a zz fun n hd => ?_
 obtain ⟨cls,dd,data,sl⟩:=zr0
 refine zc1c (id hb) fun zr0 ho2 hc2 zz=>zc1a zz fun n2 hd2 => ?_
 obtain ⟨cls2,dd2,data2,sl2⟩:=zr0
 simp -iota only at hc hd hc2 hd2
 subst hc hd hc2 hd2
 have e:vs.toArray++ws.toArray=(vs++ws).toArray:=by simp -iota
 by_cases hw:ws=[]
 ·exact concat_meets ⟨_,ho,rfl⟩ ⟨_,ho2,rfl⟩ noFill_tuple_add seq_tuple_add PySem.F.slot_tuple_add PySem.F.entry_tuple_add (PySem.F.args_tuple_add_2 _ _)
   (tuple_addW1 t b vs.toArray ws.toArray n n2 dd dd2 sl sl2 (by simpa -iota using hv) (by simp -iota [hw])) ⟨ho,ho2,h1 hw⟩
 ·refine concat_meets ⟨_,ho,rfl⟩ ⟨_,ho2,rfl⟩ noFill_tuple_add seq_tuple_add PySem.F.slot_tuple_add PySem.F.entry_tuple_add (PySem.F.args_tuple_add_2 _ _)
   (tuple_addW2 t b vs.toArray ws.toArray n n2 dd dd2 sl sl2 (by simpa -iota using hv) (by simpa -iota using hw) (by rw [List.size_toArray,List.size_toArray];exact hsz)) ⟨ho,ho2,?_⟩
  rw [e]
  exact h2 hw
end
end HT
namespace L2
open PySem PySem.Spec PyProof.Rows
abbrev TO:=St→Hp→(Option Int→Hp→Prop)→Prop
noncomputable def PO (X:Cx)(e:Option Expr)(t:TO):Prop :=
 ∀ (pins:List (Addr×Obj)) (s:Shared) (σ : St) (H:Hp) (Q:Option Int→Hp→Prop),Inv X pins σ H s→t σ H Q →
  wpAny (model X.prog X.w) X.A (evalPart e X.env) (fun u s' => ∃ o H',Inv X pins σ H' s'∧IsPart u o∧Q o H') X.xe s
noncomputable def zlW:TO:=fun _ H Q=>Q none H
noncomputable def tPart (t:TE):TO:=fun σ H Q=>t σ H fun x H1 => ∃ i,x=.int i∧Q (some i) H1
theorem zgx {ns:List Int}:∀ {us:List Value},Vals (ns.map V.int) us→IntsAre us ns:=by
 induction ns with
 | nil=>intro us r;rw [List.map_nil] at r;cases r;exact .nil
 | cons n ns ih =>
  intro us r
  rw [List.map_cons] at r
  cases r with
  | cons r1 r2 =>
   obtain ⟨t,e⟩:=r1
   subst e
   exact .cons n t (ih r2)
section
variable {X:Cx}{e:Expr}{te:TE}{lo hi:Option Expr}{tl th:TO}{pos p2:Pos}
theorem zm9:PO X none zlW:=by
 intro pins s σ H Q I h
 rw [evalPart_none]
 exact wpAny_pure ⟨none,H,I,.none,h⟩
theorem zm3 (h:PE X e te):PO X (some e) (tPart te):=by
 intro pins s σ H Q I hw
 rw [evalPart_some]
 refine thn (h pins s σ H _ I hw) fun u s1 zh => ?_
 refine zc2c zh fun x H1 I1 r1 q1 => ?_
 refine zc1b q1 fun i zr1 q => ?_
 obtain rfl:=zr1
 obtain ⟨t,rfl⟩:=r1
 exact ⟨some i,H1,I1,.int i t,q⟩
def rCatT (K:PySem.W.Frag):R2:=fun x y H Q => ∃ a b xs ys,x=.ref a∧y=.ref b∧SqT K H a xs∧SqT K H b ys∧xs ≠ []∧xs.length+ys.length≤sizeLine ∧
 (ys=[]→Q (.ref a) H)∧(ys ≠ []→∀ p,H p=none→Q (.ref p) (upd H p (.tup (xs++ys))))
theorem Vals.nil_iff {xs:List V}{us:List Value}(r:Vals xs us):us=[]↔xs=[]:=by
 cases r with
 | nil=>simp -iota
 | cons _ _=>simp -iota
theorem zll:OpR X (binaryOp .Add) (rCatT X.K):=by
 intro pins s σ H x y v u Q I rx ry h
 refine zc4a h fun a b xs ys zz=>zc0e zz fun zr4 zr5 ha hb zz=>zc0d zz fun hx hz q1 q2 => ?_
 obtain rfl:=zr4
 obtain rfl:=zr5
 cases rx
 cases ry
 refine zc1c (I.tuple ha) fun its r1 p1 _ => ?_
 refine zc1c (I.tuple hb) fun its2 r2 p2 _ => ?_
 refine HT.cat_tup p1 p2 (fun z=>hx (r1.nil_iff.mp z)) (fun z=>⟨.ref a,H,I,rfl,q1 (r2.nil_iff.mp z)⟩) (fun z => ?_) (by rw [← r1.length,← r2.length];exact hz)
 refine ⟨.ref s.heap.objs.size,_,I.laid (t':=s.toks) (o:=.tup (xs++ys)) (fun b ob q=>Heap.get?_push_of_some _ q) (Nat.le_refl _) ?_,rfl,q2 (fun w=>z (r2.nil_iff.mpr w)) _ (I.hok.fresh (Nat.le_refl _))⟩
 exact ⟨⟨by rw [List.length_append];exact hz,⟨_,Heap.get?_push_size _ rfl,rfl⟩⟩,_,r1.append r2,IsTup.new _ _⟩
end
end L2
namespace L2
open PySem PySem.Spec PyProof.Rows
noncomputable def ixN (n:Nat)(i:Int):Option Nat:=if 0≤i then (if i<n then some i.toNat else none) else if -(n:Int)≤i then some (i+n).toNat else none
def atI {α : Type}(xs:List α)(i:Int):Option α := (ixN xs.length i).bind fun j=>xs[j]?
theorem ziD {n:Nat}{i:Int}{j:Nat}(h:ixN n i=some j):seqIndex? i n=some j∧j<n ∧ -(n:Int)≤i∧i<n:=by
 unfold ixN at h
 by_cases h0:0≤i
 ·rw [if_pos h0] at h
  by_cases h1:i<n
  ·rw [if_pos h1] at h
   have e:i.toNat=j:=Option.some.inj h
   exact ⟨by rw [seqIndex_of h0 h1,e],by omega,by omega,h1⟩
  ·rw [if_neg h1] at h;cases h
 ·rw [if_neg h0] at h
  by_cases h1 : -(n:Int)≤i
  ·rw [if_pos h1] at h
   have e:(i+n).toNat=j:=Option.some.inj h
   exact ⟨by rw [seqIndex_neg (by omega) h1,e],by omega,h1,by omega⟩
  ·rw [if_neg h1] at h;cases h
theorem zfd {α : Type}{xs:List α}{i:Int}{v : α}(h:atI xs i=some v):∃ j,seqIndex? i xs.length=some j∧xs[j]? = some v∧j<xs.length ∧ -(xs.length:Int)≤i∧i<xs.length:=by
 unfold atI at h
 cases e:ixN xs.length i with
 | none=>rw [e] at h;cases h
 | some j =>
  rw [e] at h
  refine zc0d (ziD e) fun h1 h2 h3 h4 => ?_
  exact ⟨j,h1,h,h2,h3,h4⟩
noncomputable def zf1 (b:Expr):Prop:=∀ o i,subscripted b false o i=operate [o,i] (getItem o i)
def IxR (X:Cx)(r:R2):Prop :=
 ∀ (value slice:Expr) (pins:List (Addr×Obj)) (s:Shared) (σ : St) (H:Hp) (x y:V) (v u:Value) (Q:VK),Inv X pins σ H s→RelV x v→RelV y u→r x y H Q →
  subscripted slice false v u=operate [v,u] (getItem v u)→wpAny (model X.prog X.w) X.A (subscriptTail value slice v u) (EP X pins σ Q) X.xe s
def MtR (X:Cx)(id:String)(r:V→List V→Hp→VK→Prop):Prop :=
 ∀ (pins:List (Addr×Obj)) (s:Shared) (σ : St) (H:Hp) (x:V) (xs:List V) (v:Value) (us:List Value) (Q:VK),Inv X pins σ H s→RelV x v→Vals xs us→r x xs H Q →
  wpAny (model X.prog X.w) X.A (call (.builtin id) (v::us)) (EP X pins σ Q) X.xe s
section
variable {X:Cx}{a b:Expr}{ta tb:TE}{pos:Pos}
theorem IxR.or {r r':R2}(h:IxR X r)(h':IxR X r'):IxR X (fun x y H Q=>r x y H Q∨r' x y H Q):=by
 intro value slice pins s σ H x y v u Q I rx ry q hs
 rcases q with q|q
 ·exact h value slice pins s σ H x y v u Q I rx ry q hs
 ·exact h' value slice pins s σ H x y v u Q I rx ry q hs
theorem zoM {r:R2}(hr:IxR X r)(ha:PE X a ta)(hb:PE X b tb)(hs:zf1 b):PE X (.Subscript a b pos) (tOp r ta tb):=by
 intro pins s σ H Q I h
 exact Subscript_ (binT ha hb I h fun v u s2 x y H2 I2 rx ry q=>hr a b pins s2 σ H2 x y v u Q I2 rx ry q (hs _ _))
def rIxL (K:PySem.W.Frag):R2:=fun x y H Q => ∃ p xs i v,x=.ref p∧y=.int i∧SqL K H p xs∧atI xs i=some v∧Q v H
def rIxT (K:PySem.W.Frag):R2:=fun x y H Q => ∃ p xs i v,x=.ref p∧y=.int i∧SqT K H p xs∧atI xs i=some v∧Q v H
def rIxS:R2:=fun x y H Q => ∃ z i c,x=.str z∧y=.int i∧z.length≤sizeLine∧atI z.cps.toList i=some c∧Q (.str ⟨#[c]⟩) H
theorem zhm:IxR X (rIxL X.K):=by
 intro value slice pins s σ H x y v u Q I rx ry h hs
 refine zc4a h fun p xs i z zz=>zc0e zz fun zr4 zr5 hq he q => ?_
 obtain rfl:=zr4
 obtain rfl:=zr5
 cases rx
 obtain ⟨t,rfl⟩:=ry
 refine zc1c (I.list hq) fun its r pl hz => ?_
 refine zc1e (zfd he) fun j h1 h2 h3 h4 h5 => ?_
 refine zc1b (r.get h2) fun w ew rw' => ?_
 have hl:=r.length
 have hn:=zdO
 have fin:EP X pins σ Q w s:=⟨z,H,I,rw',q⟩
 by_cases h0:0≤i
 ·have hj:i.toNat=j:=by
   rw [seqIndex_of h0 h5] at h1
   exact Option.some.inj h1
  exact item_listR pl.isList h0 (by omega) (by rw [hj];simpa -iota using ew) fin hs
 ·have hj:(i+(its.toArray.size:Int)).toNat=j:=by
   rw [seqIndex_neg (by omega) h4] at h1
   rw [List.size_toArray,← hl]
   exact Option.some.inj h1
  exact subscriptTail_builtinR (x:=w) pl.isList.typeIs slot_list_getitem.lookup
   (wpAny_getItem_list_neg (Q:=fun r s'=>r=w∧EP X pins σ Q r s') pl.isList (by omega) (by rw [List.size_toArray]<;>omega) (by omega) (by rw [hj];simpa -iota using ew) ⟨rfl,fin⟩) hs
theorem zoU:IxR X (rIxT X.K):=by
 intro value slice pins s σ H x y v u Q I rx ry h hs
 refine zc4a h fun p xs i z zz=>zc0e zz fun zr4 zr5 hq he q => ?_
 obtain rfl:=zr4
 obtain rfl:=zr5
 cases rx
 obtain ⟨t,rfl⟩:=ry
 refine zc1c (I.tuple hq) fun its r pl hz => ?_
 refine zc1e (zfd he) fun j h1 h2 h3 h4 h5 => ?_
 refine zc1b (r.get h2) fun w ew rw' => ?_
 have hl:=r.length
 have hn:=zdO
 have fin:EP X pins σ Q w s:=⟨z,H,I,rw',q⟩
 exact subscriptTail_builtinR (x:=w) pl.typeIs slot_tuple_getitem.lookup
  (getItem_tuple (j:=j) (Q:=fun r s'=>r=w∧EP X pins σ Q r s') pl (by omega) (by omega) (by rw [List.size_toArray,← hl];exact h1) (by simpa -iota using ew) ⟨rfl,fin⟩) hs
theorem zo8:IxR X rIxS:=by
 intro value slice pins s σ H x y v u Q I rx ry h hs
 refine zc3a h fun z i c zz=>zc0e zz fun zr3 zr4 hz he q => ?_
 obtain rfl:=zr3
 obtain rfl:=zr4
 obtain ⟨t,rfl⟩:=rx
 obtain ⟨t',rfl⟩:=ry
 refine zc1e (zfd he) fun j h1 h2 h3 h4 h5 => ?_
 have hl:z.cps.toList.length=z.length:=by simp -iota [Str.length]
 rw [hl] at h1 h4 h5
 have hn:=zdO
 exact tail_any (typeIs_str s z t) slot_str_getitem.lookup (getItem_str (c:=c) (by
  have e1:decide (i < -(2 ^ 63:Int))=false:=decide_eq_false (by omega)
  have e2:decide (i ≥ 2 ^ 63)=false:=decide_eq_false (by omega)
  rw [e1,e2,Bool.or_false]) (by rw [h1];simpa -iota using h2) ⟨.str ⟨#[c]⟩,H,I.tok _,⟨_,rfl⟩,q⟩) hs
def rIx (K:PySem.W.Frag):R2:=fun x y H Q=>rIxL K x y H Q∨rIxT K x y H Q∨rIxS x y H Q
theorem zp0:IxR X (rIx X.K):=zhm.or (zoU.or zo8)
theorem zgz (its:List Value)(n j:Nat)(u:Value):Obj.mapSeq (·.setIfInBounds j u) { cls:=.type "list",data:=.seq its.toArray n }={ cls:=.type "list",data:=.seq (its.set j u).toArray n }:=by
 simp [Obj.mapSeq]
theorem Inv.lst {pins:List (Addr×Obj)}{σ : St}{H:Hp}{s:Shared}{p:Addr}{xs:List V}(I:Inv X pins σ H s)(h:H p=some (.lst xs)) :
 ∃ (its:List Value) (n:Nat),Vals xs its∧s.heap.get? p=some { cls:=.type "list",data:=.seq its.toArray n }∧xs.length≤sizeLine:=by
 refine zc0b (I.hok p _ h) fun z zz=>zc2b zz fun its n r e => ?_
 exact ⟨its,n,r,e,z⟩
theorem Inv.lstUpd {pins:List (Addr×Obj)}{σ : St}{H:Hp}{s:Shared}{p:Addr}{xs ys:List V}{its its':List Value}{n n':Nat}{f:Obj→Obj}(I:Inv X pins σ H s)(h:H p=some (.lst xs))
 (ho:s.heap.get? p=some { cls:=.type "list",data:=.seq its.toArray n }) (hf:f { cls:=.type "list",data:=.seq its.toArray n }={ cls:=.type "list",data:=.seq its'.toArray n' }) (r:Vals ys its') (hz:ys.length≤sizeLine) (t:Nat) :
 Inv X pins σ (upd H p (.lst ys)) { s with heap:=s.heap.update p f,toks:=t }:=by
 have e:(s.heap.update p f).get? p=some { cls:=.type "list",data:=.seq its'.toArray n' }:=by
  rw [Heap.get?_update_self f ho (by rw [hf]<;>rfl),hf]
 refine I.write (x:=p) (e:=p) (by rw [h];trivial) (.inl rfl) (fun b u hb q=>(Heap.get?_update_other _ _ (Ne.symm hb)).trans q) ⟨_,e⟩ ?_
 exact ⟨hz,its',n',r,e⟩
def rSetL:V→V→V→Hp→(Hp→Prop)→Prop:=fun o i v H Q => ∃ p xs k j,o=.ref p∧i=.int k∧H p=some (.lst xs)∧ixN xs.length k=some j∧Q (upd H p (.lst (xs.set j v)))
theorem zjB:PSet X rSetL:=by
 intro pins s σ H o i v ov iv u Q I ro ri rv h
 refine zc4a h fun p xs k j zz=>zc0e zz fun zr4 zr5 hp hj q => ?_
 obtain rfl:=zr4
 obtain rfl:=zr5
 cases ro
 obtain ⟨t,rfl⟩:=ri
 refine zc2c (I.lst hp) fun its n r ho hz => ?_
 refine zc0d (ziD hj) fun h1 h2 h3 h4 => ?_
 have hl:=r.length
 have hn:=zdO
 have I':Inv X pins σ (upd H p (.lst (xs.set j v))) { s with heap:=s.heap.update p (Obj.mapSeq (·.setIfInBounds j u)) } :=
  I.lstUpd hp ho (zgz its n j u) (r.set rv j) (by rw [List.length_set];exact hz) s.toks
 by_cases h0:0≤k
 ·have hk:k.toNat=j:=by
   rw [seqIndex_of h0 h4] at h1
   exact Option.some.inj h1
  exact PySem.W.ki_setAt ho h0 (by omega) (by rw [List.size_toArray,← hl];exact h4) (by rw [hk];exact ⟨_,I',q⟩)
 ·have hk:(k+(its.toArray.size:Int)).toNat=j:=by
   rw [seqIndex_neg (by omega) h3] at h1
   rw [List.size_toArray,← hl]
   exact Option.some.inj h1
  exact PySem.W.ki_setBack ho (by omega) (by rw [List.size_toArray,← hl];exact h3) (by omega) (by rw [hk];exact ⟨_,I',q⟩)
theorem zeD:zaJ X (.builtin "len") (fun xs H Q => ∃ p ys,xs=[.ref p]∧(SqL X.K H p ys∨SqT X.K H p ys)∧Q (.int ys.length) H):=by
 intro pins s σ H xs us Q I r h
 refine zc2c h fun p ys zr2 hq q => ?_
 obtain rfl:=zr2
 refine zc1b (zdt r) fun u zr1 rx => ?_
 obtain rfl:=zr1
 cases rx
 have hn:=zdO
 rcases hq with hq|hq
 ·refine zc1c (I.list hq) fun its r' pl hz => ?_
  have hlen:=r'.length
  exact Calls.call_len_list pl.isList (by simp -iota only [List.size_toArray]<;>omega) ⟨.int ys.length,H,I.tok _,⟨s.toks+1,by rw [List.size_toArray,hlen]⟩,q⟩
 ·refine zc1c (I.tuple hq) fun its r' pl hz => ?_
  have hlen:=r'.length
  exact len_tuple pl (by simp -iota only [List.size_toArray]<;>omega) ⟨.int ys.length,H,I.tok _,⟨s.toks+1,by rw [List.size_toArray,hlen]⟩,q⟩
theorem ze2:zaJ X (.builtin "len") (fun xs H Q => ∃ z,xs=[.str z]∧z.length≤sizeLine∧Q (.int z.length) H):=by
 intro pins s σ H xs us Q I r h
 obtain ⟨z,rfl,hz,q⟩:=h
 obtain ⟨u,rfl,t,rfl⟩:=zdt r
 have hn:=zdO
 exact len_str (by omega) ⟨.int z.length,H,I.tok _,⟨_,rfl⟩,q⟩
theorem zaJ.or {f:Value}{r r':List V→Hp→VK→Prop}(h:zaJ X f r)(h':zaJ X f r'):zaJ X f (fun xs H Q=>r xs H Q∨r' xs H Q):=by
 intro pins s σ H xs us Q I rs q
 rcases q with q|q
 ·exact h pins s σ H xs us Q I rs q
 ·exact h' pins s σ H xs us Q I rs q
theorem ze5:zaJ X (.type "list") (fun xs H Q => ∃ p ys,xs=[.ref p]∧(SqL X.K H p ys∨SqT X.K H p ys)∧∀ l,H l=none→Q (.ref l) (upd H l (.lst ys))):=by
 intro pins s σ H xs us Q I r h
 refine zc2c h fun p ys zr2 hq q => ?_
 obtain rfl:=zr2
 refine zc1b (zdt r) fun u zr1 rx => ?_
 obtain rfl:=zr1
 cases rx
 have fin:∀ (its:List Value),Vals ys its→ys.length≤sizeLine→∀ (h':Heap) (c':Nat),(∀ b o',s.heap.get? b=some o'→h'.get? b=some o') →
  h'.get? s.heap.objs.size=some { cls:=.type "list",dict:=none,data:=.seq its.toArray c',slots:=#[] }→EP X pins σ Q (.ref s.heap.objs.size) { s with heap:=h' }:=fun its r' hz h' c' kp e =>
  ⟨.ref s.heap.objs.size,_,I.laid (t':=s.toks) kp (Nat.le_refl _) (show zbh X.prog X.w _ h' _ (.lst ys) from ⟨hz,its,c',r',e⟩),rfl,q _ (I.hok.fresh (Nat.le_refl _))⟩
 rcases hq with hq|hq
 ·refine zc1c (I.list hq) fun its r' pl hz => ?_
  have hlen:=r'.length
  refine zc1c pl.isList fun o ho hc zz=>zc1a zz fun n hd => ?_
  exact call_list_seq p (.inl rfl) ho hc hd (fun h' c' kp e=>fin its r' hz h' c' kp e) (by simp -iota only [List.size_toArray]<;>omega)
 ·refine zc1c (I.tuple hq) fun its r' pl hz => ?_
  have hlen:=r'.length
  refine zc1c pl fun o ho hc zz=>zc1a zz fun n hd => ?_
  exact call_list_seq p (.inr rfl) ho hc hd (fun h' c' kp e=>fin its r' hz h' c' kp e) (by simp -iota only [List.size_toArray]<;>omega)
theorem zeq:zaJ X (.type "tuple") (fun xs H Q => ∃ p ys,xs=[.ref p]∧((SqL X.K H p ys∧∀ l,H l=none→Q (.ref l) (upd H l (.tup ys)))∨(SqT X.K H p ys∧Q (.ref p) H))):=by
 intro pins s σ H xs us Q I r h
 obtain ⟨p,ys,rfl,h⟩:=h
 obtain ⟨u,rfl,rx⟩:=zdt r
 cases rx
 rcases h with ⟨hq,q⟩|⟨hq,q⟩
 ·obtain ⟨its,r',pl,hz⟩:=I.list hq
  have hlen:=r'.length
  refine call_tuple_list pl.isList (fun h' kp => ?_) (by simp -iota only [List.size_toArray]<;>omega)
  have I1:Inv X pins σ H { s with heap:=h' }:=I.kept (t':=s.toks) kp
  have I2:Inv X pins σ (upd H h'.objs.size (.tup ys)) { s with heap:=h'.push { cls:=.type "tuple",data:=.seq its.toArray } } :=
   I1.laid (t':=s.toks) (fun b o e=>Heap.get?_push_of_some _ e) (Nat.le_refl _) (show zbh X.prog X.w _ _ _ (.tup ys) from ⟨⟨hz,⟨_,Heap.get?_push_size _ rfl,rfl⟩⟩,its,r',IsTup.new _ _⟩)
  exact ⟨.ref h'.objs.size,_,I2,rfl,q _ (I1.hok.fresh (Nat.le_refl _))⟩
 ·obtain ⟨its,r',pl,hz⟩:=I.tuple hq
  exact call_tuple_same pl ⟨.ref p,H,I,rfl,q⟩
def tyV (K:PySem.W.Frag)(T:String)(x:V)(H:Hp):Prop:=match x with
 | .str _=>T = "str"
 | .int _=>T = "int"
 | .ref p=>(T = "list" ∧ ∃ xs,SqL K H p xs)∨(T = "tuple" ∧ ∃ o,K.lookup p=some o∧o.cls=.type "tuple" ∧ o.dict=none) ∨
  (T = "dict" ∧ ((∃ kvs,H p=some (.dK kvs))∨∃ kvs,H p=some (.dT kvs)))∨(T = "set" ∧ ∃ S n,H p=some (.set S n))
 | _=>False
theorem zk8 {pins:List (Addr×Obj)}{σ : St}{H:Hp}{s:Shared}{T:String}{x:V}{v:Value}(I:Inv X pins σ H s)(r:RelV x v)(ty:tyV X.K T x H) :
 s.TypeIs v T∧∀ a,v=.ref a→∃ ob,s.heap.get? a=some ob∧ob.dict=none:=by
 cases x with
 | str z =>
  obtain ⟨t,rfl⟩:=r
  cases (show T = "str" from ty)
  exact ⟨typeIs_str s z t,fun _ e=>nomatch e⟩
 | int i =>
  obtain ⟨t,rfl⟩:=r
  cases (show T = "int" from ty)
  exact ⟨typeIs_int s i t,fun _ e=>nomatch e⟩
 | ref p =>
  cases r
  rcases ty with ⟨rfl,xs,hq⟩|⟨rfl,o,hk,hc,hd⟩|⟨rfl,hk⟩|⟨rfl,S,n,hk⟩
  ·refine zc1c (I.list hq) fun its _ pl _ => ?_
   refine ⟨pl.isList.typeIs,fun a e => ?_⟩
   cases e
   refine zc2d pl fun o n e c hd _ => ?_
   exact ⟨o,e,hd⟩
  ·refine ⟨⟨o,I.kIn p o hk,hc⟩,fun a e => ?_⟩
   cases e
   exact ⟨o,I.kIn _ o hk,hd⟩
  ·have z:∃ o,s.heap.get? p=some o∧o.ExactDict:=by
    rcases hk with ⟨kvs,hk⟩|⟨kvs,hk⟩
    ·refine zc0c (I.hok p _ hk) fun _ _ zz=>zc1b zz fun _ _ zz=>zc3c zz fun o _ _ e ex _ => ?_
     exact ⟨o,e,ex⟩
    ·refine zc0c (I.hok p _ hk) fun _ _ zz=>zc1b zz fun _ _ zz=>zc3c zz fun o _ _ e ex _ => ?_
     exact ⟨o,e,ex⟩
   refine zc1b z fun o e ex => ?_
   refine ⟨⟨o,e,ex.1⟩,fun a e2 => ?_⟩
   cases e2
   exact ⟨o,e,ex.2.1⟩
  ·refine zc4a (I.hok p _ hk) fun o _ _ _ zz=>zc0c zz fun e ex _ => ?_
   refine ⟨⟨o,e,ex.1⟩,fun a e2 => ?_⟩
   cases e2
   exact ⟨o,e,ex.2.1⟩
 | _=>exact False.elim ty
def tBM0 (K:PySem.W.Frag)(T:String)(r:V→List V→Hp→VK→Prop)(to:TE):TE:=fun σ H Q=>to σ H fun x H1=>tyV K T x H1∧r x [] H1 Q
def tBM (K:PySem.W.Frag)(T:String)(r:V→List V→Hp→VK→Prop)(to:TE)(t:TA):TE:=fun σ H Q=>to σ H fun x H1=>tyV K T x H1∧t σ H1 fun xs H2=>r x xs H2 Q
variable {o e:Expr}{es:List Expr}{to:TE}{t:TA}{name:Str}{apos cpos:Pos}{T id:String}{r:V→List V→Hp→VK→Prop}
theorem zno (pa:PlainAttrs T)(slot:Slot T name id)(hty:typeOf (.builtin id)=pure (.type "method_descriptor"))(hm:MtR X id r)(ho:PE X o to)
 (hbase:autoParam (attributeBase o name X.env (eval o X.env)=eval o X.env) zau._auto_1) (hline:autoParam ((apos.endLine == cpos.line)=true) zau._auto_1):PE X (.Call (.Attribute o name apos) [] [] cpos) (tBM0 X.K T r to):=by
 intro pins s σ H Q I h
 refine wpAny_Call_method0_late hbase hline (thn (ho pins s σ H _ I h) fun v s1 zh => ?_)
 refine zc2d zh fun x H1 I1 r1 ty q1 => ?_
 obtain ⟨h1,h2⟩:=zk8 I1 r1 ty
 exact ⟨T,id,pa,slot,hty,h1,h2,Calls.callWith_builtin rfl (PySem.evalArgs_none (hm pins s1 σ H1 x [] v [] Q I1 r1 .nil q1))⟩
theorem zgB (pa:PlainAttrs T)(slot:Slot T name id)(hty:typeOf (.builtin id)=pure (.type "method_descriptor"))(hm:MtR X id r)(ho:PE X o to)(ha:PA X (e::es) t)
 (hbase:autoParam (attributeBase o name X.env (eval o X.env)=eval o X.env) zau._auto_1)
 (hfew:((backTo cpos (starEach (e::es) X.env)).all (fun x => !x.1)&&(backToKw cpos (keywordEach [] X.env)).all (fun x=>x.1.isSome)
  && decide ((e::es).length+([]:List Keyword).length+(if ([]:List Keyword).isEmpty then 0 else 1)<30))=true:=by rfl)
 (hline:autoParam ((apos.endLine == cpos.line)=true) zau._auto_1) (hs:autoParam (starEach (e::es) X.env=(false,eval e X.env)::starEach es X.env) zau._auto_1) (hplain:autoParam ((backTo cpos (starEach es X.env)).any (·.1)=false) zau._auto_1) :
 PE X (.Call (.Attribute o name apos) (e::es) [] cpos) (tBM X.K T r to t):=by
 intro pins s σ H Q I h
 refine wpAny_Call_method_late hbase hfew hline rfl (thn (ho pins s σ H _ I h) fun v s1 zh => ?_)
 refine zc2d zh fun x H1 I1 r1 ty q1 => ?_
 obtain ⟨h1,h2⟩:=zk8 I1 r1 ty
 refine ⟨T,id,pa,slot,hty,h1,h2,?_⟩
 have hA:=ha cpos pins s1 σ H1 _ I1 q1
 rw [hs] at hA ⊢
 refine Calls.callWith_builtin (by show (false||(backTo cpos (starEach es X.env)).any (·.1))=false;rw [hplain]<;>rfl) (Calls.evalArgs_plain ?_)
 exact thn hA (by rintro us s2 ⟨vs,H2,I2,r2,q2⟩;exact hm pins s2 σ H2 x vs v us Q I2 r1 r2 q2)
end
end L2
namespace L2
open PySem PySem.Spec PyProof.Rows
def MtM (X:Cx)(id:String)(r:V→List V→Hp→VK→Prop):Prop :=
 ∀ (pins:List (Addr×Obj)) (s:Shared) (σ : St) (H:Hp) (x:V) (xs:List V) (v:Value) (us:List Value) (Q:VK),Inv X pins σ H s→RelV x v→Vals xs us→r x xs H Q →
  wpAny (model X.prog X.w) X.A (call (.builtin id) (v::us)) (EP X pins σ Q) X.xe s
theorem Vals.one:∀ {x:V} {us:List Value},Vals [x] us→∃ u,us=[u]∧RelV x u:=fun h=>by
 cases h with
 | cons r t=>cases t;exact ⟨_,rfl,r⟩
theorem Vals.two:∀ {x y:V} {us:List Value},Vals [x,y] us→∃ u v,us=[u,v]∧RelV x u∧RelV y v:=fun h=>by
 cases h with
 | cons r t =>
  cases t with
  | cons r' t=>cases t;exact ⟨_,_,rfl,r,r'⟩
theorem Vals.zero:∀ {us:List Value},Vals [] us→us=[]
 | _,.nil=>rfl
theorem Vals.rep {xs:List V}{us:List Value}(h:Vals xs us):∀ k:Nat,Vals (List.replicate k xs).flatten (List.replicate k us).flatten
 | 0=>.nil
 | k+1=>by
  rw [List.replicate_succ,List.replicate_succ,List.flatten_cons,List.flatten_cons]
  exact Vals.append h (Vals.rep h k)
theorem zd4 (its:List Value):∀ (k:Nat) (acc:List Value),
 List.foldl (fun x1 x2=>x1++x2) acc.toArray (List.replicate k its.toArray)=(acc++(List.replicate k its).flatten).toArray
 | 0,acc=>by simp -iota
 | k+1,acc=>by
  have e:acc.toArray++its.toArray=(acc++its).toArray:=by simp -iota
  have e2:(acc++its)++(List.replicate k its).flatten=acc++(List.replicate (k+1) its).flatten:=by
   rw [List.replicate_succ,List.flatten_cons,List.append_assoc]
  rw [← e2,← zd4 its k (acc++its),← e,List.replicate_succ,List.foldl_cons]
section
variable {X:Cx}{pins:List (Addr×Obj)}{σ : St}{H:Hp}{s:Shared}{l b:Addr}{xs ys zs:List V}
theorem Inv.lset {its its':List Value}{n:Nat}{f:Array Value→Array Value}{t':Nat}(I:Inv X pins σ H s)(hH:H l=some (.lst xs))
 (e:s.heap.get? l=some { cls:=.type "list",data:=.seq its.toArray n }) (hf:f its.toArray=its'.toArray) (hv:Vals ys its') (hz:ys.length≤sizeLine) :
 Inv X pins σ (upd H l (.lst ys)) { s with heap:=s.heap.update l (Obj.mapSeq f),toks:=t' }:=by
 have q:=PySem.IsL.update e f
 rw [hf] at q
 refine I.write (x:=l) (e:=l) (by rw [hH];exact trivial) (.inl rfl) (fun b' u hb hu=>(Heap.get?_update_other s.heap (Obj.mapSeq f) (Ne.symm hb)).trans hu) ⟨_,q⟩ ?_
 exact ⟨hz,its',_,hv,q⟩
theorem Inv.lnew {its:List Value}{t':Nat}(I:Inv X pins σ H s)(hv:Vals ys its)(hz:ys.length≤sizeLine) :
 Inv X pins σ (upd H s.heap.objs.size (.lst ys)) { s with heap:=s.heap.push { cls:=.type "list",data:=.seq its.toArray },toks:=t' } :=
 I.laid (fun _ _ q=>Heap.get?_push_of_some _ q) (Nat.le_refl _) ⟨hz,its,0,hv,Heap.get?_push_size _ rfl⟩
theorem Inv.fresh (I:Inv X pins σ H s):H s.heap.objs.size=none:=I.hok.fresh (Nat.le_refl _)
theorem Inv.lstM (I:Inv X pins σ H s)(hH:H l=some (.lst xs)):xs.length≤sizeLine∧∃ (its:List Value) (n:Nat),Vals xs its∧xs.length=its.length∧s.heap.get? l=some { cls:=.type "list",data:=.seq its.toArray n }:=by
 refine zc0b (I.hok l _ hH) fun z zz=>zc2b zz fun its n r e => ?_
 exact ⟨z,its,n,r,r.length,e⟩
theorem zj2 {n:Nat}(h:n≤sizeLine):Builtin.List.listTooLong n=false:=by
 unfold Builtin.List.listTooLong
 exact decide_eq_false (by omega)
end
section
variable {X:Cx}
def zhN:V→List V→Hp→VK→Prop:=fun x vs H Q => ∃ l xs y,x=.ref l∧vs=[y]∧H l=some (.lst xs)∧xs.length<sizeLine∧Q .non (upd H l (.lst (xs++[y])))
theorem zbJ:MtM X "list.append" zhN:=by
 intro pins s σ H x vs v us Q I rx rv h
 obtain ⟨l,xs,y,rfl,rfl,hH,hz,q⟩:=h
 cases rx
 obtain ⟨u,rfl,ru⟩:=rv.one
 obtain ⟨z,its,n,r,hl,e⟩:=I.lstM hH
 refine call_meets F.slot_list_append ⟨_,e,rfl⟩ F.entry_list_append (F.args_list_append_2 _ _) (PySem.list_append l its.toArray n u (by rw [List.size_toArray];omega)) ⟨e,?_⟩
 refine ⟨.non,_,I.lset (its':=its++[u]) hH e (by simp -iota) (r.append (.cons ru .nil)) ?_,rfl,q⟩
 rw [List.length_append,List.length_singleton]
 omega
theorem zfB {α : Type}(xs:List α)(k:Nat):(List.replicate k xs).flatten.length=k*xs.length:=by
 induction k with
 | zero=>simp -iota
 | succ k ih=>rw [List.replicate_succ,List.flatten_cons,List.length_append,ih,Nat.succ_mul,Nat.add_comm]
end
section
variable {prog:Program}{w:World}{A:Around}{E:Value→Shared→Prop}{s:Shared}
set_option maxRecDepth 100000 in
end
end L2
namespace L2
open PySem PySem.Spec PyProof.Rows
section
variable {κ : Type}[DecidableEq κ]
noncomputable def valV (kvs:List (κ × V))(k : κ):Option V:=(kvs.find? fun kv=>decide (kv.1=k)).map (·.2)
noncomputable def putK (kvs:List (κ × V))(k : κ)(v:V):List (κ × V) :=
 if (kvs.any fun kv=>decide (kv.1=k))=true then kvs.map (fun kv=>if kv.1=k then (kv.1,v) else kv) else kvs++[(k,v)]
theorem zek {p : κ × V}{r:List (κ × V)}{k : κ}(e:p.1=k):valV (p::r) k=some p.2:=by simp -iota [valV,List.find?_cons,e]
theorem zdY {p : κ × V}{r:List (κ × V)}{k : κ}(e:¬ p.1=k):valV (p::r) k=valV r k:=by simp -iota [valV,List.find?_cons,e]
theorem zgh (k : κ):∀ kvs:List (κ × V),(kvs.any fun kv=>decide (kv.1=k))=(valV kvs k).isSome
 | []=>rfl
 | p::r=>by
  rw [List.any_cons]
  by_cases e:p.1=k
  ·simp -iota only [zek e,decide_eq_true e,Bool.true_or,Option.isSome_some]
  ·rw [zdY e,decide_eq_false e,Bool.false_or];exact zgh k r
theorem zdv (kvs:List (κ × V))(k : κ)(v:V):(putK kvs k v).length≤kvs.length+1:=by
 unfold putK
 split
 ·rw [List.length_map];omega
 ·rw [List.length_append,List.length_cons,List.length_nil];omega
theorem RelO.isSome_eq {o:Option V}{u:Option Value}(r:RelO o u):o.isSome=u.isSome:=by
 cases o with
 | none=>cases u with
  | none=>rfl
  | some _=>exact (show False from r).elim
 | some _=>cases u with
  | none=>exact (show False from r).elim
  | some _=>rfl
theorem RelO.getD {o:Option V}{u:Option Value}{d:V}{d':Value}(r:RelO o u)(rd:RelV d d'):RelV (o.getD d) (u.getD d'):=by
 cases o with
 | none=>cases u with
  | none=>exact rd
  | some _=>exact (show False from r).elim
 | some _=>cases u with
  | none=>exact (show False from r).elim
  | some _=>exact r
theorem KV.val {kvs:List (κ × V)}{vs:List (κ × Value)}(r:KV kvs vs)(k : κ):RelO (valV kvs k) (valueAt vs k):=by
 unfold KV at r
 induction r with
 | nil=>exact True.intro
 | @cons p q ps qs h t ih =>
  obtain ⟨h1,h2⟩:=h
  by_cases e:p.1=k
  ·have e':q.1=k:=h1.symm.trans e
   have b:valueAt (q::qs) k=some q.2:=by simp -iota [valueAt,List.find?_cons,e']
   rw [zek e,b];exact h2
  ·have e':¬ q.1=k:=fun z=>e (h1.trans z)
   have b:valueAt (q::qs) k=valueAt qs k:=by simp -iota [valueAt,List.find?_cons,e']
   rw [zdY e,b];exact ih
theorem KV.any {kvs:List (κ × V)}{vs:List (κ × Value)}(r:KV kvs vs)(k : κ):(kvs.any fun kv=>decide (kv.1=k))=vs.any fun kv=>decide (kv.1=k):=by
 unfold KV at r
 induction r with
 | nil=>rfl
 | cons h t ih=>rw [List.any_cons,List.any_cons,ih,h.1]
theorem KV.repl {kvs:List (κ × V)}{vs:List (κ × Value)}(r:KV kvs vs)(k : κ){y:V}{u:Value}(ry:RelV y u) :
 KV (kvs.map fun kv=>if kv.1=k then (kv.1,y) else kv) (vs.map fun kv=>if kv.1=k then (kv.1,u) else kv):=by
 unfold KV at r ⊢
 induction r with
 | nil=>exact .nil
 | @cons p q ps qs h t ih =>
  rw [List.map_cons,List.map_cons]
  refine .cons ?_ ih
  obtain ⟨h1,h2⟩:=h
  by_cases e:p.1=k
  ·rw [if_pos e,if_pos (h1.symm.trans e)];exact ⟨h1,ry⟩
  ·rw [if_neg e,if_neg (fun z=>e (h1.trans z))];exact ⟨h1,h2⟩
theorem KV.put {kvs:List (κ × V)}{vs:List (κ × Value)}(r:KV kvs vs)(k : κ){y:V}{u:Value}(ry:RelV y u):KV (putK kvs k y) (stored vs k u):=by
 unfold putK stored
 rw [r.any k]
 by_cases e:(vs.any fun kv=>decide (kv.1=k))=true
 ·rw [if_pos e,if_pos e];exact r.repl k ry
 ·rw [if_neg e,if_neg e];exact Paired.snoc r ⟨rfl,ry⟩
theorem KV.length {kvs:List (κ × V)}{vs:List (κ × Value)}(r:KV kvs vs):kvs.length=vs.length:=Paired.length r
end
theorem zgP {P:Program}{w:World}{k:Key}{u:Value}(r:RelV (kV k) u):(zaN P w).is k u=true:=by
 cases k with
 | inl i=>obtain ⟨t,e⟩:=(show ∃ t,u=Value.int i t from r);subst e;exact zfx P w i t
 | inr x=>obtain ⟨t,e⟩:=(show ∃ t,u=Value.str x t from r);subst e;exact zfb P w x t
theorem ze1 {P:Program}{w:World}:∀ {ks:List Key} {us:List Value},Vals (ks.map kV) us→ItemsAre (zaN P w) ks us
 | [],_,r=>by rw [List.map_nil] at r;cases r;exact .nil
 | k::ks,_,r=>by
  rw [List.map_cons] at r
  cases r with
  | cons h t=>exact .cons (zgP h) (ze1 t)
abbrev KT (H:Hp):List (List Key×V)→List (List Key×Addr×Value)→Prop:=Paired fun p q=>p.1=q.1∧H q.2.1=some (.tup (p.1.map kV))∧RelV p.2 q.2.2
theorem KT.val {H:Hp}{kvs:List (List Key×V)}{xs:List (List Key×Addr×Value)}(r:KT H kvs xs)(k:List Key):RelO (valV kvs k) ((atKey xs k).map (·.2)):=by
 induction r with
 | nil=>exact True.intro
 | @cons p q ps qs h t ih =>
  refine zc0c h fun h1 _ h2 => ?_
  by_cases e:p.1=k
  ·have e':q.1=k:=h1.symm.trans e
   have b:atKey (q::qs) k=some q.2:=by simp -iota [atKey,List.find?_cons,e']
   rw [zek e,b];exact h2
  ·have e':¬ q.1=k:=fun z=>e (h1.trans z)
   have b:atKey (q::qs) k=atKey qs k:=by simp -iota [atKey,List.find?_cons,e']
   rw [zdY e,b];exact ih
theorem KT.repl {H:Hp}{kvs:List (List Key×V)}{xs:List (List Key×Addr×Value)}(r:KT H kvs xs)(k:List Key){y:V}{u:Value}(ry:RelV y u) :
 KT H (kvs.map fun kv=>if kv.1=k then (kv.1,y) else kv) (xs.map (putAt k u)):=by
 induction r with
 | nil=>exact .nil
 | @cons p q ps qs h t ih =>
  rw [List.map_cons,List.map_cons]
  refine .cons ?_ ih
  refine zc0c h fun h1 h2 h3 => ?_
  unfold putAt
  by_cases e:p.1=k
  ·rw [if_pos e,if_pos (h1.symm.trans e)];exact ⟨h1,h2,ry⟩
  ·rw [if_neg e,if_neg (fun z=>e (h1.trans z))];exact ⟨h1,h2,h3⟩
theorem KT.put {H:Hp}{kvs:List (List Key×V)}{xs:List (List Key×Addr×Value)}(r:KT H kvs xs)(k:List Key){b:Addr}{y:V}{u:Value}(hb:H b=some (.tup (k.map kV)))(ry:RelV y u) :
 KT H (putK kvs k y) (storedH xs k b u):=by
 have e:(kvs.any fun kv=>decide (kv.1=k))=(atKey xs k).isSome:=by
  rw [zgh,(r.val k).isSome_eq,Option.isSome_map]
 unfold putK storedH
 rw [e]
 by_cases q:(atKey xs k).isSome=true
 ·rw [if_pos q,if_pos q];exact r.repl k ry
 ·rw [if_neg q,if_neg q];exact Paired.snoc r ⟨rfl,hb,ry⟩
theorem KT.keeps {H H':Hp}{kvs:List (List Key×V)}{xs:List (List Key×Addr×Value)}(r:KT H kvs xs)(ht:∀ b ys,H b=some (.tup ys)→H' b=some (.tup ys)):KT H' kvs xs :=
 Paired.mapP r fun _ _ z=>⟨z.1,ht _ _ z.2.1,z.2.2⟩
section
variable {P:Program}{w:World}{H:Hp}{h:Heap}{a:Addr}
theorem zoS {u:HO}(ok:HOk P w H h)(e:Rd H a u):zbh P w H h a u:=e.ok ok
theorem zeZ {kvs:List (Key×V)}(ok:HOk P w H h)(e:Rd H a (.dK kvs)):kvs.length≤sizeLine∧(a == sysModules)=false∧∃ vs,KV kvs vs∧h.DictOf (zaN P w) a vs :=
 show zbh P w H h a (.dK kvs) from zoS ok e
theorem zmd {kvs:List (Key×V)}(ok:HOk P w H h)(e:H a=some (.dK kvs)):kvs.length≤sizeLine∧(a == sysModules)=false∧∃ vs,KV kvs vs∧h.DictOf (zaN P w) a vs:=zeZ ok (.inl e)
theorem zeB {ks:List Key}(ok:HOk P w H h)(e:H a=some (.tup (ks.map kV))):(tupleKind (zaN P w)).is h ks a:=by
 refine zc0b ((show zbh P w H h a (.tup (ks.map kV)) from ok a _ e)) fun _ zz=>zc1b zz fun its r zz=>zc1c zz fun o h1 h2 zz=>zc1a zz fun n h3 => ?_
 exact ⟨o,its.toArray,n,h1,h2,h3,by simpa -iota using ze1 r⟩
theorem zgN {kvs:List (List Key×V)}(ok:HOk P w H h)(e:Rd H a (.dT kvs)):kvs.length≤sizeLine∧(a == sysModules)=false ∧
 ∃ xs,KT H kvs xs∧h.DictOfH (tupleKind (zaN P w)) a xs:=by
 refine zc0c ((show zbh P w H h a (.dT kvs) from zoS ok e)) fun z y zz=>zc1b zz fun xs r zz=>zc3a zz fun o es ep zz=>zc0e zz fun h1 h2 h3 h4 h5 => ?_
 refine ⟨z,y,xs,r,o,es,ep,h1,h2,h3,h4,fun x hx => ?_,h5⟩
 have all:∀ {l:List (List Key×V)} {m:List (List Key×Addr×Value)},KT H l m→∀ x∈m,(tupleKind (zaN P w)).is h x.1 x.2.1:=by
  intro l m q
  induction q with
  | nil=>intro x hx;exact nomatch hx
  | @cons p q ps qs hq t ih =>
   intro x hx
   rcases List.mem_cons.mp hx with e|hx
   ·subst e
    exact zeB ok (by rw [← hq.1];exact hq.2.1)
   ·exact ih x hx
 exact all r x hx
theorem dt_of {kvs:List (List Key×V)}(ok:HOk P w H h)(e:H a=some (.dT kvs)):kvs.length≤sizeLine∧(a == sysModules)=false ∧
 ∃ xs,KT H kvs xs∧h.DictOfH (tupleKind (zaN P w)) a xs:=zgN ok (.inl e)
end
def DGet (H:Hp)(a:Addr)(y:V)(r:Option V):Prop :=
 (∃ kvs k,Rd H a (.dK kvs)∧y=kV k∧r=valV kvs k)∨∃ kvs k b,Rd H a (.dT kvs)∧y=.ref b∧H b=some (.tup (k.map kV))∧r=valV kvs k
def DPut (H:Hp)(a:Addr)(y v:V)(H':Hp):Prop :=
 (∃ kvs k,H a=some (.dK kvs)∧y=kV k∧kvs.length<sizeLine∧H'=upd H a (.dK (putK kvs k v))) ∨
 ∃ kvs k b,H a=some (.dT kvs)∧y=.ref b∧H b=some (.tup (k.map kV))∧kvs.length<sizeLine∧H'=upd H a (.dT (putK kvs k v))
theorem DGet.k {H:Hp}{a:Addr}{kvs:List (Key×V)}{k:Key}(e:H a=some (.dK kvs)):DGet H a (kV k) (valV kvs k):=.inl ⟨kvs,k,.inl e,rfl,rfl⟩
theorem DPut.k {H:Hp}{a:Addr}{kvs:List (Key×V)}{k:Key}{v:V}(e:H a=some (.dK kvs))(hl:kvs.length<sizeLine):DPut H a (kV k) v (upd H a (.dK (putK kvs k v))):=.inl ⟨kvs,k,e,rfl,hl,rfl⟩
section
variable {X:Cx}{pins:List (Addr×Obj)}{σ : St}{H:Hp}{s:Shared}{a:Addr}{y v:V}{u r:Value}{o:Option V}{A:Around}{E:Value→Shared→Prop}
theorem Inv.big (I:Inv X pins σ H s):sysModules<s.heap.objs.size:=by
 have h:mainGlobals<s.heap.objs.size:=(I.mod.glob.keeps I.bk).lt
 exact Nat.lt_trans (by decide) h
theorem zik {Q:Value→Shared→Prop}(hu:A.units+1<cLine)(I:Inv X pins σ H s)(g:DGet H a y (some v))(ry:RelV y u)(h:∀ w' s',Inv X pins σ H s'→RelV v w'→Q w' s') :
 wpAny (model X.prog X.w) A (getItem (.ref a) u) Q E s:=by
 rcases g with ⟨kvs,k,e,ey,l⟩|⟨kvs,k,b,e,ey,eb,l⟩
 ·subst ey
  refine zc0c (zeZ I.hok e) fun z hd zz=>zc1b zz fun vs rel dd => ?_
  refine zc1b (RelO.some_of (v:=v) (o:=valueAt vs k) (by rw [l];exact rel.val k)) fun w' hw rw' => ?_
  exact wpAny_getItem_of (zgP ry) dd.mapOf hw (h w' _ (I.tok _) rw')
 ·subst ey
  cases (show u=Value.ref b from ry)
  refine zc0c (zgN I.hok e) fun z hd zz=>zc1b zz fun xs rel dd => ?_
  refine zc1b (RelO.some_of (v:=v) (o:=(atKey xs k).map (·.2)) (by rw [l];exact rel.val k)) fun w' hw rw' => ?_
  refine zc1b (Option.map_eq_some_iff.mp hw) fun p hp hp2 => ?_
  refine wpAny_getItem_heap (tupleKind_room_in1 hu) (zeB I.hok eb) dd hp ?_
  rw [hp2]
  exact h w' _ (I.tok _) rw'
theorem zm8 {Q:Value→Shared→Prop}(hu:A.units+1<cLine)(I:Inv X pins σ H s)(g:DGet H a y o)(ry:RelV y u)(h:∀ s',Inv X pins σ H s'→Q (.bool (!o.isSome)) s') :
 wpAny (model X.prog X.w) A (compareOp .NotIn u (.ref a)) Q E s:=by
 rcases g with ⟨kvs,k,e,ey,l⟩|⟨kvs,k,b,e,ey,eb,l⟩
 ·subst ey
  refine zc0c (zeZ I.hok e) fun z hd zz=>zc1b zz fun vs rel dd => ?_
  refine wpAny_notIn_of (zgP ry) hd dd.mapOf ?_
  rw [← (rel.val k).isSome_eq,← l]
  exact h _ (I.tok _)
 ·subst ey
  cases (show u=Value.ref b from ry)
  refine zc0c (zgN I.hok e) fun z hd zz=>zc1b zz fun xs rel dd => ?_
  refine wpAny_notIn_heap (tupleKind_room_in1 hu) (zeB I.hok eb) hd dd ?_
  have q:=(rel.val k).isSome_eq
  rw [Option.isSome_map] at q
  rw [← q,← l]
  exact h _ (I.tok _)
theorem zjb {h':Heap}{t':Nat}{ob:HO}(I:Inv X pins σ H s)(mu:Mut (H a))(hs:Heap.SameBut a s.heap h')(he:∃ q,h'.get? a=some q)(new:zbh X.prog X.w (upd H a ob) h' a ob) :
 Inv X pins σ (upd H a ob) { s with heap:=h',toks:=t' } :=
 I.write (x:=a) (e:=a) mu (.inl rfl) (fun b q hb z=>(hs.2 b hb).trans z) he new
theorem zoC {P:Program}{w:World}{H':Hp}{h':Heap}{kvs:List (Key×V)}{vs:List (Key×Value)}(z:kvs.length≤sizeLine)(hd:(a == sysModules)=false)(rel:KV kvs vs)(dd:h'.DictOf (zaN P w) a vs) :
 zbh P w H' h' a (.dK kvs):=⟨z,hd,vs,rel,dd⟩
theorem zio {H':Hp}{Q:Unit→Shared→Prop}(hu:A.units+1<cLine)(I:Inv X pins σ H s)(g:DPut H a y v H')(ry:RelV y u)(rv:RelV v r)(h:∀ s',Inv X pins σ H' s'→Q () s') :
 wpAny (model X.prog X.w) A (setItem (.ref a) u r) Q E s:=by
 rcases g with ⟨kvs,k,e,ey,l,eH⟩|⟨kvs,k,b,e,ey,eb,l,eH⟩
 ·subst ey eH
  refine zc0c (zmd I.hok e) fun z hd zz=>zc1b zz fun vs rel dd => ?_
  have hz:vs.length≤sizeLine:=by rw [← rel.length];exact z
  have hl:(putK kvs k v).length≤sizeLine:=by have:=zdv kvs k v;omega
  refine wpAny_setItem_pairs (hsz:=hz) (zgP ry) dd fun h' dd' hs=>h _ ?_
  have he:∃ q,h'.get? a=some q:=let ⟨q,_,_,hq,_⟩:=dd';⟨q,hq⟩
  exact zjb I (by rw [e];exact True.intro) hs he (zoC hl hd (rel.put k rv) dd')
 ·subst ey eH
  cases (show u=Value.ref b from ry)
  refine zc0c (dt_of I.hok e) fun z hd zz=>zc1b zz fun xs rel dd => ?_
  have hz:xs.length≤sizeLine:=by rw [← Paired.length rel];exact z
  have hl:(putK kvs k v).length≤sizeLine:=by have:=zdv kvs k v;omega
  refine wpAny_setItem_heap (hsz:=hz) (tupleKind_room_in1 hu) (zeB I.hok eb) dd fun h' dd' hs=>h _ ?_
  refine zc3a dd' fun q es ep zz=>zc0e zz fun hq h2 h3 h4 zz=>zc0b zz fun _ h5 => ?_
  refine zjb I (by rw [e];exact True.intro) hs ⟨q,hq⟩ ⟨hl,hd,_,(rel.put k eb rv).keeps fun c ys ec => ?_,q,es,ep,hq,h2,h3,h4,h5⟩
  rw [zaj (ne_of ec e (fun z=>nomatch z))]
  exact ec
end
section
variable {X:Cx}{pins:List (Addr×Obj)}{σ : St}{H:Hp}{s:Shared}{a:Addr}{kvs:List (Key×V)}{k:Key}{u:Value}{A:Around}{E:Value→Shared→Prop}
theorem d_len {Q:Value→Shared→Prop}(I:Inv X pins σ H s)(e:Rd H a (.dK kvs))(h:∀ t s',Inv X pins σ H s'→Q (.int kvs.length t) s'):wpAny (model X.prog X.w) A (call (.builtin "len") [.ref a]) Q E s:=by
 obtain ⟨z,hd,vs,rel,dd⟩:=zeZ I.hok e
 refine call_len_dict hd dd (by rw [← rel.length];rw [sizeLine_eq] at z;omega) ?_
 rw [← rel.length]
 exact h _ _ (I.tok _)
end
noncomputable def NoSl (i:Expr):Prop:=∀ ov iv,subscripted i false ov iv=operate [ov,iv] (getItem ov iv)
theorem zl9 {prog:Program}{w:World}{A:Around}{E:Value→Shared→Prop}{s:Shared}{env:Env}{value slice:Expr}{pos:Pos}{T id:String}{Q:Value→Shared→Prop}
 (hl:typeLookup (.type T) "__getitem__" = pure (some (.builtin id))) (hs:NoSl slice)
 (h:wpAny (model prog w) A (eval value env) (fun o s₁=>wpAny (model prog w) A (eval slice env) (fun i s₂=>s₂.TypeIs o T∧wpAny (model prog w) A (getItem o i) Q E s₂) E s₁) E s) :
 wpAny (model prog w) A (eval (.Subscript value slice pos) env) Q E s:=by
 refine Subscript_ (wpAny_mono h (fun o s₁ h₁=>wpAny_mono h₁ (fun i s₂ h₂ => ?_) fun _ _ x=>x) fun _ _ x=>x)
 obtain ⟨hT,h₂⟩:=h₂
 unfold subscriptTail
 refine wpAny_bind ?_
 rw [getitemInPython_of_ne hT.not_modules]
 refine wpAny_bind (wpAny_specialOf hT hl ?_)
 have fin:wpAny (model prog w) A (subscripted slice false o i) (fun r s₃=>wpAny (model prog w) A (letTemporaryGo value o r >>= fun _=>pure r) Q E s₃) E s₂:=by
  rw [hs o i]
  exact wpAny_operating (wpAny_mono h₂ (fun r s₃ h₃=>wpAny_bind (wpAny_letTemporaryGo (wpAny_pure h₃))) fun _ _ x=>x)
 first
  | exact wpAny_pure (wpAny_bind fin)
  | exact wpAny_bind (wpAny_pure (wpAny_bind fin))
  | exact wpAny_bind fin
theorem zfc {X:Cx}{pins:List (Addr×Obj)}{σ : St}{H:Hp}{s:Shared}{a:Addr}{y:V}{o:Option V}(I:Inv X pins σ H s)(g:DGet H a y o):s.TypeIs (.ref a) "dict" := by
 rcases g with ⟨kvs,k,e,_,_⟩|⟨kvs,k,b,e,_,_,_⟩
 ·refine zc0c (zeZ I.hok e) fun _ _ zz=>zc1b zz fun vs _ dd => ?_
  exact dd.typeIs
 ·refine zc0c (zgN I.hok e) fun _ _ zz=>zc1b zz fun xs _ dd => ?_
  exact dd.typeIs
def tDGet (td ty:TE):TE:=fun σ H Q=>td σ H fun x H1=>ty σ H1 fun y H2 => ∃ a v,x=.ref a∧DGet H2 a y (some v)∧Q v H2
def zmw (ty td:TE):TE:=fun σ H Q=>ty σ H fun y H1=>td σ H1 fun x H2 => ∃ a o,x=.ref a∧DGet H2 a y o∧Q (.bl (!o.isSome)) H2
def sDPut (td ty tv:TE):TS:=fun D σ H=>tv σ H fun v H1=>td σ H1 fun x H2=>ty σ H2 fun y H3 => ∃ a H4,x=.ref a∧DPut H3 a y v H4∧D.nx σ H4
section
variable {X:Cx}{o i e value:Expr}{pos pos' tpos:Pos}{td ty tv:TE}
theorem zhk (hu:X.A.units+1<cLine)(ho:PE X o td)(hi:PE X i ty)(hs:NoSl i):PE X (.Subscript o i pos) (tDGet td ty):=by
 intro pins s σ H Q I h
 refine zl9 PySem.F.slot_dict_getitem.lookup hs (thn (ho pins s σ H _ I h) fun u s1 ⟨x,H1,I1,rx,q1⟩=>thn (hi pins s1 σ H1 _ I1 q1) fun iv s2 zh => ?_)
 refine zc2c zh fun y H2 I2 ry zz=>zc2c zz fun a v ex g q2 => ?_
 subst ex
 obtain rfl:u=Value.ref a:=rx
 exact ⟨zfc I2 g,zik hu I2 g ry fun w' s3 I3 rw'=>⟨v,H2,I3,rw',q2⟩⟩
theorem zih (hu:X.A.units+1<cLine)(hi:PE X i ty)(ho:PE X o td):PC X .NotIn i o (zmw ty td):=by
 intro pins s σ H Q I h
 refine thn (hi pins s σ H _ I h) fun iv s1 ⟨y,H1,I1,ry,q1⟩=>thn (ho pins s1 σ H1 _ I1 q1) fun u s2 zh => ?_
 refine zc2c zh fun x H2 I2 rx zz=>zc2c zz fun a ov ex g q2 => ?_
 subst ex
 obtain rfl:u=Value.ref a:=rx
 exact zm8 hu I2 g ry fun s3 I3=>⟨.bl (!ov.isSome),H2,I3,rfl,q2⟩
theorem zmD (hu:X.A.units+1<cLine)(ho:PE X o td)(hi:PE X i ty)(hv:PE X value tv)(hs:swapsWith value (some (.Subscript o i pos')) pos.line X.env=pure false) :
 PS X (.Assign [.Subscript o i pos'] value pos) (sDPut td ty tv):=by
 intro pins s σ H D I h
 refine wpAny_Assign_Subscript (thn (hv pins s σ H _ I h) fun r s1 ⟨v,H1,I1,rv,q1⟩=>thn (ho pins s1 σ H1 _ I1 q1) fun u s2 ⟨x,H2,I2,rx,q2⟩=>thn (hi pins s2 σ H2 _ I2 q2) fun iv s3 ⟨y,H3,I3,ry,a,H4,ex,g,q3⟩ => ?_) hs
 subst ex
 obtain rfl:u=Value.ref a:=rx
 exact zio hu I3 g ry rv fun s4 I4=>⟨σ,H4,I4,q3⟩
end
theorem zjU {P:Program}{w:World}{H:Hp}(h:Heap)(hb:sysModules<h.objs.size):zbh P w H (h.push { cls:=.type "dict",data:=.dict #[] }) h.objs.size (.dK []) :=
 ⟨Nat.zero_le _,beq_eq_false_iff_ne.mpr (Ne.symm (Nat.ne_of_lt hb)),[],.nil,Heap.DictOf.new h⟩
def zpn:TE:=fun _ H Q => ∀ p,H p=none→Q (.ref p) (upd H p (.dK []))
section
variable {X:Cx}{pos:Pos}
theorem zkt:PE X (.Dict [] [] pos) zpn:=fun pins s σ H Q I h =>
 wpAny_Dict_empty ⟨.ref s.heap.objs.size,_,I.laid (a:=s.heap.objs.size) (o:=.dK []) (t':=s.toks) (fun _ _ q=>Heap.get?_push_of_some _ q) (Nat.le_refl _) (zjU s.heap I.big),rfl,h _ (I.hok.fresh (Nat.le_refl _))⟩
end
structure M1 (X:Cx)(o:Expr)(m:Str)(apos:Pos)(e:Expr)(cpos:Pos):Prop where
 base:attributeBase o m X.env (eval o X.env)=eval o X.env
 few:((backTo cpos (starEach [e] X.env)).all (fun x => !x.1)&&(backToKw cpos (keywordEach [] X.env)).all (fun x=>x.1.isSome)
  && decide (([e]:List Expr).length+([]:List Keyword).length+(if ([]:List Keyword).isEmpty then 0 else 1)<30))=true
 line:(apos.endLine == cpos.line)=true
 trees:backTo cpos (starEach [e] X.env)=[(false,eval e X.env)]
noncomputable def IsD (H:Hp)(a:Addr):Prop:=(∃ kvs,Rd H a (.dK kvs))∨∃ kvs,Rd H a (.dT kvs)
theorem zn8 {X:Cx}{pins:List (Addr×Obj)}{σ : St}{H:Hp}{s:Shared}{a:Addr}(I:Inv X pins σ H s)(d:IsD H a) :
 s.TypeIs (.ref a) "dict" ∧ (∀ b,Value.ref a=.ref b→∃ ob,s.heap.get? b=some ob∧ob.dict=none)∧(a == sysModules)=false:=by
 rcases d with ⟨kvs,e⟩|⟨kvs,e⟩
 ·refine zc0c (zeZ I.hok e) fun _ hd zz=>zc1b zz fun vs _ dd => ?_
  refine ⟨dd.typeIs,fun b q => ?_,hd⟩
  cases q
  refine zc3c dd fun ob _ _ h1 h2 _ => ?_
  exact ⟨ob,h1,h2.2.1⟩
 ·refine zc0c (zgN I.hok e) fun _ hd zz=>zc1b zz fun xs _ dd => ?_
  refine ⟨dd.typeIs,fun b q => ?_,hd⟩
  cases q
  refine zc3c dd fun ob _ _ h1 h2 _ => ?_
  exact ⟨ob,h1,h2.2.1⟩
section
variable {X:Cx}{pins:List (Addr×Obj)}{σ : St}{H:Hp}{s:Shared}{a:Addr}{y d:V}{u r:Value}{o:Option V}{A:Around}{E:Value→Shared→Prop}
theorem zna {Q:Value→Shared→Prop}(hu:A.units+1<cLine)(I:Inv X pins σ H s)(g:DGet H a y o)(ry:RelV y u)(h:∀ w' s',Inv X pins σ H s'→RelV (o.getD .non) w'→Q w' s') :
 wpAny (model X.prog X.w) A (call (.builtin "dict.get") [.ref a,u]) Q E s:=by
 rcases g with ⟨kvs,k,e,ey,l⟩|⟨kvs,k,b,e,ey,eb,l⟩
 ·subst ey
  obtain ⟨z,hd,vs,rel,dd⟩:=zeZ I.hok e
  refine call_meetsIn PySem.F.slot_dict_get dd.typeIs PySem.F.entry_dict_get (PySem.F.args_dict_get_2 _ _) (meets_dict_get (zaN X.prog X.w) a (zgP ry) hd) ⟨_,dd.mapOf,h _ _ (I.tok _) ?_⟩
  rw [l]
  exact (rel.val k).getD rfl
 ·subst ey
  cases (show u=Value.ref b from ry)
  obtain ⟨z,hd,xs,rel,dd⟩:=zgN I.hok e
  refine call_meetsIn PySem.F.slot_dict_get dd.typeIs PySem.F.entry_dict_get (PySem.F.args_dict_get_2 _ _) (meetsH_dict_get (tupleKind (zaN X.prog X.w)) a b hd) ⟨tupleKind_room_in1 hu,k,xs,zeB I.hok eb,dd,h _ _ (I.tok _) ?_⟩
  rw [l]
  exact (rel.val k).getD rfl
end
def zp1 (td ty:TE):TE:=fun σ H Q=>td σ H fun x H1 => ∃ a,x=.ref a∧IsD H1 a∧ty σ H1 fun y H2 => ∃ o,DGet H2 a y o∧Q (o.getD .non) H2
section
variable {X:Cx}{o e f:Expr}{apos cpos:Pos}{td ty tx:TE}
theorem zjx (hu:X.A.units+1<cLine)(ho:PE X o td)(he:PE X e ty)(m:M1 X o "get" apos e cpos):PE X (.Call (.Attribute o "get" apos) [e] [] cpos) (zp1 td ty):=by
 intro pins s σ H Q I h
 refine wpAny_Call_method m.base m.few m.line PySem.F.plainAttrs_dict PySem.F.slot_dict_get PySem.F.type_dict_get (thn (ho pins s σ H _ I h) fun u s1 zh => ?_)
 obtain ⟨x,H1,I1,rx,a,ex,d,q1⟩:=zh
 subst ex
 obtain rfl:u=Value.ref a:=rx
 obtain ⟨t1,t2,_⟩:=zn8 I1 d
 refine ⟨t1,t2,?_⟩
 rw [m.trees]
 refine Calls.callWith_builtin rfl (Calls.evalArgs_plain (Calls.spliced_cons (thn (he pins s1 σ H1 _ I1 q1) fun iv s2 ⟨y,H2,I2,ry,ov,g,q2⟩=>Calls.spliced_nil ?_)))
 exact zna hu I2 g ry fun w' s3 I3 rw'=>⟨_,H2,I3,rw',q2⟩
end
end L2
namespace Att
open PySem PySem.W PySem.Calls PyProof.Rows
theorem zdj {P:Params}{h:Heap}:∀ (ns:List Int) (vs:List Value),WellAll P h vs (ns.map WData.int)→IntsAre vs ns:=by
 intro ns
 induction ns with
 | nil =>
  intro vs w
  rw [List.map_nil] at w
  cases w
  exact .nil
 | cons n ns ih =>
  intro vs w
  rw [List.map_cons] at w
  cases w with
  | cons a b =>
   cases a
   exact .cons _ _ (ih _ b)
theorem ziB {l:OpenLaw}{n:Nat}(hn:l.most=some n){P:Params}{h:Heap}{args:List WData}{vals:List Value}
 (hpre:l.row.toRowW.claim.pre args=true) (hwl:WellAll P h vals args) :
 ∃ a vs ns,vals=[Value.ref a]∧args=[WData.list (ns.map WData.int)]∧h.get? a=some { cls:=.type "list",data:=.seq vs.toArray }∧IntsAre vs ns∧ns.length≤n:=by
 have hsh:WShape.hasAll [] args [.list .int]=true:=(pre_splitW hpre).1
 have hc:l.pre.holds [] { args:=args }=true:=(pre_splitW hpre).2
 refine zc2c (hasAllW_cons hsh) fun d r zr2 h1 h2 => ?_
 obtain rfl:=zr2
 obtain rfl:=hasAllW_nil h2
 refine zc1b (hasW_list h1) fun xs zr1 h3 => ?_
 obtain rfl:=zr1
 obtain ⟨ns,rfl⟩:=items_int h3
 have hlen:ns.length≤n:=by
  unfold OpenLaw.pre at hc
  have h4:(WTm.not (.lt (.lit (.int (n:Int))) (.len (.arg 0)))).holds [] { args:=[.list (ns.map .int)] }=true:=by
   have h4:=(holds_andW hc).1
   rw [hn] at h4
   exact h4
  have h5:=condW_of h4 (w_not (w_lt w_lit (w_len_list (w_arg rfl))))
  rw [List.length_map] at h5
  refine Nat.le_of_not_lt fun q => ?_
  have q':(n:Int)<((ns.length:Nat):Int):=by omega
  first
   | (rw [decide_eq_true q'] at h5;exact absurd h5 (by decide))
   | (simp -iota at h5;omega)
 cases hwl with
 | cons w1 w2 =>
  cases w2
  cases w1 with
  | list ho hall=>exact ⟨_,_,ns,rfl,rfl,ho,zdj ns _ hall,hlen⟩
theorem ziu (l:OpenLaw)(args:List WData):l.row.toRowW.claim.post args (.bool true) args=true :=
 postW_of (r:=l.row.toRowW) (X:=(true == true))
  (show WShape.has [] (.bool true) .bool=true by first|rfl|decide|simp -iota [WShape.has,WShape.arms,WShape.armsAll])
  (show (WTm.eq .res (.lit (.bool true))).value [] { args:=args,res:=some (.bool true),after:=args }=some (.bool (true == true)) from w_eq_bool (w_res rfl) w_lit) rfl
theorem attach_call {l:OpenLaw}{n:Nat}{q:Program}{loose:List Str}{XP:(Str→Option Value)→Heap→Prop}{YP:World→Heap→Prop}{d:DefRec}
 (hn:l.most=some n) (hdf:d.params.defaults=[])
 (call:∀ (w:World) (s₀ s₁:Shared) (mg mb:Str→Option Value) (fa:Addr) (o:Obj) (pm cd doc:Value) (a:Addr) (vs:List Value) (ns:List Int),
  Ground q loose [] XP w s₀ mg mb s₁.heap→YP w s₁.heap →
  s₁.heap.get? fa=some o→o.data=.func (docDef d.name d.params d.body d.scope pm cd doc)→s₁.heap.CodeRec cd d.name→mg d.name=some (.ref fa) →
  s₁.heap.get? a=some { cls:=.type "list",data:=.seq vs.toArray }→IntsAre vs ns→ns.length≤n→s₁.gens = #[] →
  codeAny (model l.prog w) callerA (.call (.ref fa) ⟨[.ref a],[]⟩) (fun r s'=>r=.ok (.ret (.bool true))∧OldK s₁.heap s'.heap∧s'.os=s₁.os∧AllBare s'.gens) s₁) :
 WalkO q loose XP YP l.row.toRowW d [] (fun f vs=>PySem.call f vs):=by
 intro w s₀ s₁ mg mb G Y fa o pm cd doc dV kV ho hd hcd hD hmg hg args vals as hpre hlay hrd hwl hlo
 obtain rfl:dV=.none:=Dflts.none hD hdf
 obtain rfl:kV=.none:=Dflts.noKw hD
 refine zc3a (ziB hn hpre hwl) fun a vs ns zz=>zc0e zz fun zr3 zr4 hobj hints hlen => ?_
 obtain rfl:=zr3
 obtain rfl:=zr4
 refine enter_call (codeAny_mono (call w s₀ s₁ mg mb fa o pm cd doc a vs ns G Y ho (fd_plain hd) hcd hmg hobj hints hlen hg) fun r s' hq => ?_)
 refine zc0d hq fun zr0 h2 h3 h4 => ?_
 obtain rfl:=zr0
 exact ⟨.inl ⟨.bool true,.bool true,[],rfl,fun _=>rfl,.bool true,ziu l _,fun _=>⟨List.Pairwise.nil,fun _ hm=>(nomatch hm)⟩⟩,h2,h3,h4⟩
end Att
namespace L2
open PySem PySem.Spec PyProof.Rows
theorem zh3:∀ {vs:List Value} {ns:List Int},IntsAre vs ns→Vals (ns.map V.int) vs:=fun h=>by
 induction h with
 | nil=>exact .nil
 | cons n t _ ih=>exact .cons ⟨t,rfl⟩ ih
noncomputable def Only (H:Hp):Prop:=∀ b,H b=none∨∃ o xs,H b=some (.frz o (.lst xs))
theorem zjP {P:Program}{w:World}{K:PySem.W.Frag}{mg mb:Str→Option Value}{CX:CXT}{k:Nat}{fa a:Addr}{fd:FuncData}{x:Str}{sp:Sp}{s₁:Shared}{vs:List Value}{ns:List Int}
 (KX:K.In s₁.heap) (hns:s₁.heap.Ns mainGlobals mg) (hb:s₁.heap.Ns builtinsNs mb) (hbb:∀ x:Str,x ≠ "__name__" → mb x=bootBuiltins x) (hlim:s₁.heap.NoLimit) (hg:s₁.gens = #[])
 (ha:s₁.heap.get? a=some { cls:=.type "list",data:=.seq vs.toArray }) (hi:IntsAre vs ns) (hl:ns.length≤sizeLine) (hr:Room k callerA)
 (F:∀ base:Heap,K.In base→base.Ns mainGlobals mg→FnOk P w K mg base CX k fa fd [x] sp) (hbind:∀ (s:Shared) (u:Value),BindsTo s fd ⟨[u],[]⟩ [(x,u)])
 (hsp:∀ H:Hp,Only H→SqL K H a (ns.map V.int)→sp [.ref a] H (fun v _=>v=.bl true) fun _ _ _=>False)
 (hCX:∀ H e s',CX [] H s₁ (fun _ _ _=>False) e s'→False) :
 codeAny (model P w) callerA (.call (.ref fa) ⟨[.ref a],[]⟩) (fun r s'=>r=.ok (.ret (.bool true))∧OldK s₁.heap s'.heap∧s'.os=s₁.os∧AllBare s'.gens) s₁:=by
 have rv:=zh3 hi
 have lenV:=hi.length
 have core:∀ H:Hp,Only H→SqL K H a (ns.map V.int)→HOk P w H s₁.heap→(∀ b,H b≠none→b=a)→(H a≠none→K.lookup a=none) →
  codeAny (model P w) callerA (.call (.ref fa) ⟨[.ref a],[]⟩) (fun r s'=>r=.ok (.ret (.bool true))∧OldK s₁.heap s'.heap∧s'.os=s₁.os∧AllBare s'.gens) s₁:=by
  intro H hO hS hok hA hK
  have base_of:∀ {b:Addr} {o:Obj},s₁.heap.get? b=some o→H b=none→(hidT s₁.heap H).get? b=some o:=fun e n=>zj6 e n
  have noA:∀ {b:Addr} {o:Obj} {es:Array DictEntry} {ep:Nat},s₁.heap.get? b=some o→o.data=.dict es ep→H b=none:=fun {b o es ep} e d=>by
   cases q:H b with
   | none=>rfl
   | some u =>
    have e':b=a:=hA b (by rw [q];simp -iota)
    subst e'
    rw [ha] at e;cases e
    have d':Data.seq vs.toArray _=Data.dict es ep:=d
    cases d'
  have nsK:∀ {b:Addr} {m:Str→Option Value},s₁.heap.Ns b m→(hidT s₁.heap H).Ns b m:=fun {b m} ⟨o,es,ep,e,d,r⟩=>⟨o,es,ep,base_of e (noA e d),d,r⟩
  have hKb:K.In (hidT s₁.heap H):=fun b o e=>base_of (KX b o e) (by
   cases q:H b with
   | none=>rfl
   | some u =>
    have e':b=a:=hA b (by rw [q];simp -iota)
    subst e'
    rw [hK (by rw [q];simp -iota)] at e;cases e)
  have hM:Mod K mg (hidT s₁.heap H):=⟨hKb,nsK hns,⟨mb,nsK hb,hbb⟩,let ⟨mc,h1,h2⟩:=hlim;⟨mc,nsK h1,h2⟩⟩
  have e0:Env0 P w K mg (hidT s₁.heap H) callerA [] s₁ H:=⟨rfl,hM,fun b o e=>zma e,Nat.le_of_eq (ziH _ _),trivial,fun b hb=>absurd (show b∈([]:List Addr) from hb) (by simp -iota),hok,.of_eq hg⟩
  refine codeAny_mono ((F _ hKb (nsK hns)).run callerA [] s₁ H ⟨[.ref a],[]⟩ [.ref a] [.ref a] _ _ hr e0 (hbind s₁ (.ref a)) (.cons rfl .nil) (hsp H hO hS)) fun r s' h => ?_
  cases r with
  | error e=>exact (hCX H e s' h).elim
  | ok fl =>
   cases fl with
   | next=>exact False.elim h
   | brk=>exact False.elim h
   | cont=>exact False.elim h
   | ret u =>
    refine zc2a h fun v H' zz=>zc0e zz fun os bare un hok' zz=>zc0b zz fun r' q => ?_
    have q':v=.bl true:=q
    subst q'
    obtain rfl:u=Value.bool true:=r'
    refine ⟨rfl,OldK.of_keep fun b o e => ?_,os,bare⟩
    cases q:H b with
    | none=>exact un.keep b o e q (by intro z;exact absurd (show b∈([]:List Addr) from z) (by simp -iota)) (by simp -iota)
    | some u =>
     rcases hO b with z|⟨ob,xs,z⟩
     ·rw [q] at z;cases z
     ·have z2:=un.frzs b ob _ z
      obtain ⟨e1,_⟩:=hok b _ z
      obtain ⟨e2,_⟩:=hok' b _ z2
      rw [e] at e1;cases e1
      exact e2
 cases hk:K.lookup a with
 | some o =>
  have e:=KX a o hk
  rw [ha] at e
  cases e
  refine core (fun _=>none) (fun _=>.inl rfl) (.inr ⟨_,vs.toArray,_,hk,rfl,rfl,rfl,by rw [List.size_toArray,lenV];exact hl,by simpa -iota using rv⟩) (fun b u z=>by have z':(none:Option HO)=some u:=z;cases z') (fun b z=>absurd rfl z) fun z=>absurd rfl z
 | none =>
  refine core (fun b=>if b=a then some (.frz { cls:=.type "list",data:=.seq vs.toArray } (.lst (ns.map V.int))) else none) (fun b => ?_) (.inl (.inr ⟨{ cls:=.type "list",data:=.seq vs.toArray },if_pos rfl⟩)) (fun b u z => ?_) (fun b z => ?_) fun _=>hk
  ·by_cases hb:b=a
   ·exact .inr ⟨_,_,if_pos hb⟩
   ·exact .inl (if_neg hb)
  ·by_cases hb:b=a
   ·have z':=(if_pos hb).symm.trans z
    cases z'
    subst hb
    exact ⟨ha,by rw [List.length_map];exact hl,vs,_,rv,ha⟩
   ·have z':=(if_neg hb).symm.trans z
    cases z'
  ·by_cases hb:b=a
   ·exact hb
   ·exact absurd (if_neg hb) z
end L2
namespace L2
open PySem PySem.Spec PyProof.Rows
theorem walk_of {l:PySem.W.OpenLaw}{n k:Nat}{q:Program}{loose:List Str}{XP:(Str→Option Value)→Heap→Prop}{YP:World→Heap→Prop}{d:DefRec}{K:Params→PySem.W.Frag}{CX:World→CXT}{sp:World→Sp}{x:Str}
 (hn:l.most=some n) (hn2:n≤sizeLine) (hdf:d.params.defaults=[]) (hr:Room k callerA)
 (hY:∀ (w:World) (h:Heap),YP w h→(K w.params).In h)
 (F:∀ (w:World) (mg:Str→Option Value) (fa:Addr) (h:Heap),(K w.params).In h→h.Ns mainGlobals mg→mg d.name=some (.ref fa) →
  ∃ fd:FuncData,(∀ (s:Shared) (u:Value),BindsTo s fd ⟨[u],[]⟩ [(x,u)]) ∧
   ∀ base:Heap,(K w.params).In base→base.Ns mainGlobals mg→FnOk l.prog w (K w.params) mg base (CX w) k fa fd [x] (sp w))
 (hsp:∀ (w:World) (H:Hp) (a:Addr) (ns:List Int),ns.length≤n→Only H→SqL (K w.params) H a (ns.map V.int)→sp w [.ref a] H (fun v _=>v=.bl true) fun _ _ _=>False)
 (hCX:∀ (w:World) (H:Hp) (s:Shared) (e:Value) (s':Shared),CX w [] H s (fun _ _ _=>False) e s'→False) :
 PySem.W.WalkO q loose XP YP l.row.toRowW d [] (fun f vs=>PySem.call f vs):=by
 refine Att.attach_call hn hdf fun w s₀ s₁ mg mb fa o pm cd doc a vs ns G Y ho hd hcd hmg hobj hints hlen hg => ?_
 have KX:=hY w _ Y
 refine zc1b (F w mg fa _ KX G.T.g hmg) fun fd hb hF => ?_
 exact zjP KX G.T.g G.T.b G.T.builtins G.T.nolimit hg hobj hints (Nat.le_trans hlen hn2) hr hF hb (fun H hO hS=>hsp w H a ns hlen hO hS) fun H e s'=>hCX w H s₁ e s'
end L2
namespace L2
open PySem PySem.Spec PyProof.Rows
noncomputable def zii (s:Stmt)(j:Nat):Stmt:=match s with
 | .ClassDef _ _ _ body _ _ _ _ _ _ _=>body.getD j (.Pass ⟨0,0,0,0⟩)
 | _=>.Pass ⟨0,0,0,0⟩
noncomputable def zcL (s:Stmt):Arguments:=match s with
 | .FunctionDef _ a _ _ _ _ _ _ _ _=>a
 | _=>{ posonlyargs:=[],args:=[],vararg:=none,kwonlyargs:=[],kw_defaults:=[],kwarg:=none,defaults:=[] }
noncomputable def zbr (s:Stmt):List Stmt:=match s with
 | .FunctionDef _ _ b _ _ _ _ _ _ _=>b
 | _ => []
noncomputable def zah (s:Stmt):Scope:=match s with
 | .FunctionDef _ _ _ _ _ _ sc _ _ _=>sc
 | _=>{ kind:=.function,names:=[],isGenerator:=false,isCoroutine:=false }
abbrev CX0:CXT:=fun _ _ _ _ _ _=>False
abbrev E0:XK:=fun _ _ _=>False
theorem zoT {X:Cx}:zdL CX0 X E0:=fun _ _ _ _ _ _ _ h=>h.elim
structure Fun (K:PySem.W.Frag)(x qual:Str)(st:Stmt)(f:Addr)(fd:FuncData):Prop where
 ex:∃ (oc:Value) (od:Option Addr) (kV doc pm:Value) (an:Option Addr) (cdv ct:Value) (osl:Array (Option Value)),
  fd=PySem.W.fnOf x qual (zcL st) (zbr st) (zah st) .none kV doc pm an cdv ct∧K.lookup f=some ⟨oc,od,.func fd,osl⟩∧PySem.W.codeIn K cdv qual=true
 kp:PySem.W.keepIn K (.ref f)=true
section
variable {P:Program}{w:World}{K:PySem.W.Frag}{mg:Str→Option Value}{base:Heap}
theorem Fun.ok {x qual:Str}{st:Stmt}{f:Addr}{fd:FuncData}{N ps:List Str}{k:Nat}{sp:Sp}(F:Fun K x qual st f fd)(S:FnScope N ps (zah st))(len:∀ vs H Q E,sp vs H Q E→vs.length=ps.length)
 (hbody:∀ (cdv:Value) (A:Around) (outer:List Env) (s:Shared) (H:Hp) (vs:List V) (Q:VK) (E:XK),Room k (A.deeper (envOfC qual (zah st) s.heap.objs.size f cdv))→sp vs H Q E →
  ∃ t,PSs (cxOf CX0 P w K mg base N qual (zah st) f cdv A outer s H E).nox (zbr st) t∧t { nx:=fun _ H'=>Q .non H',rt:=Q } (start N vs) H):FnOk P w K mg base CX0 (k+1) f fd ps sp:=by
 refine zc4a F.ex fun oc od kV doc zz=>zc4a zz fun pm an cdv ct zz=>zc1c zz fun osl zr9 lk hcd => ?_
 obtain rfl:=zr9
 refine znC lk hcd S len fun A outer s H vs Q E hr hsp => ?_
 refine zc1b (hbody cdv A outer s H vs Q E hr hsp) fun t h q => ?_
 exact ⟨t,h.nox,q⟩
theorem Fun.binds {x qual:Str}{st:Stmt}{f:Addr}{fd:FuncData}{ps:List Str}(F:Fun K x qual st f fd)
 (h:∀ (kV doc pm:Value) (an:Option Addr) (cdv ct:Value) (us:List Value),us.length=ps.length→bindArgs (PySem.W.fnOf x qual (zcL st) (zbr st) (zah st) .none kV doc pm an cdv ct) ⟨us,[]⟩=pure (ps.zip us)):zdb K fd ps []:=by
 refine zc4a F.ex fun oc od kV doc zz=>zc4a zz fun pm an cdv ct zz=>zc1c zz fun osl zr9 lk hcd => ?_
 obtain rfl:=zr9
 exact .all (h kV doc pm an cdv ct)
theorem fun_mk {x qual:Str}{st:Stmt}{f:Addr}{oc:Value}{od an:Option Addr}{osl:Array (Option Value)}{kV doc pm cdv ct:Value}(l:K.lookup f=some ⟨oc,od,.func (PySem.W.fnOf x qual (zcL st) (zbr st) (zah st) .none kV doc pm an cdv ct),osl⟩)
 (c:PySem.W.codeIn K cdv qual=true) (k:PySem.W.keepIn K (.ref f)=true):Fun K x qual st f (PySem.W.fnOf x qual (zcL st) (zbr st) (zah st) .none kV doc pm an cdv ct):=⟨⟨oc,od,kV,doc,pm,an,cdv,ct,osl,rfl,l,c⟩,k⟩
end
theorem zay {A:Around}{k:Nat}(hr:Room k A):A.units+1<cLine:=Nat.lt_of_le_of_lt (Nat.add_le_add_left (by decide:1≤64) _) hr.units
theorem ze3 {n:Nat}(h:n≤1000):n<sizeLine:=Nat.lt_of_le_of_lt h (by decide)
section
variable {X:Cx}
theorem pv (i:Nat){x:Str}{pos:Pos}(hN:autoParam (X.N[i]? = some x) zau._auto_1)(hv:Vis X.env.scope x:=by first|exact Or.inl rfl|exact Or.inr (Or.inl rfl)|exact Or.inr (Or.inr rfl))(hd:(x == ("__debug__" : Str))=false:=by decide)
 (hcd:autoParam ((x == ("__classdict__" : Str))=false) zav._auto_1):PE X (.Name x pos) (tVar i):=zpB hN hv hd hcd
end
noncomputable def Same (H H':Hp):Prop:=∀ b o,H b=some o→H' b=some o
theorem Same.refl (H:Hp):Same H H:=fun _ _ h=>h
theorem Same.trans {H H1 H2:Hp}(a:Same H H1)(b:Same H1 H2):Same H H2:=fun c o h=>b c o (a c o h)
theorem Same.free {H H':Hp}(e:Same H H'){l:Addr}(h:H' l=Option.none):H l=Option.none:=by
 cases q:H l with
 | none=>rfl
 | some o =>
  rw [e l o q] at h
  cases h
theorem Same.seq {K:PySem.W.Frag}{H H':Hp}{a:Addr}{xs:List V}(e:Same H H')(h:SqL K H a xs):SqL K H' a xs:=by
 rcases h with (h|⟨o,h⟩)|h
 ·exact .inl (.inl (e _ _ h))
 ·exact .inl (.inr ⟨o,e _ _ h⟩)
 ·exact .inr h
end L2
namespace L2
open PySem PySem.Spec PyProof.Rows
section
variable {X:Cx}
theorem ziF:zaJ X (.builtin "len") (fun xs H Q => ∃ a kvs,xs=[V.ref a]∧H a=some (.dK kvs)∧Q (.int kvs.length) H):=by
 intro pins s σ H xs us Q I r h
 refine zc2c h fun a kvs zr2 ha q => ?_
 obtain rfl:=zr2
 refine zc1b (zdt r) fun u zr1 ru => ?_
 obtain rfl:=zr1
 cases ru
 exact d_len I (.inl ha) fun t s' I'=>⟨.int kvs.length,H,I',⟨t,rfl⟩,q⟩
end
end L2
theorem zqn {P:Prop}{α : Type}{z : α}(h:none=some z):P:=by cases  h
theorem zqb {P:Prop}(h:false=true):P:=by cases  h
namespace L2
open PySem PySem.Spec PyProof.Rows
theorem zd2 (env:Env):∀ (names:List (Str×NameKind)) (acc:List (Str×Addr)),(∀ y∈names,y.2=.free→∃ c,env.cells.lookup y.1=some c) →
 ∃ cl,(forIn names acc fun (x:Str×NameKind) (r:List (Str×Addr))=>(match x with
  | (name,kind)=>if (kind == NameKind.free)=true then do let a ← cellOf env name;pure (ForInStep.yield ((name,a)::r)) else pure (ForInStep.yield r):Sem (ForInStep (List (Str×Addr)))))=(pure cl:Sem (List (Str×Addr))) ∧
  (∀ x c,cl.lookup x=some c→env.cells.lookup x=some c∨acc.lookup x=some c)∧(∀ x c,acc.lookup x=some c→∃ c',cl.lookup x=some c')∧∀ y∈names,y.2=.free→∃ c,cl.lookup y.1=some c
 | [],acc,_=>⟨acc,rfl,fun _ _ h=>.inr h,fun x c h=>⟨c,h⟩,fun _ h=>nomatch h⟩
 | (n,k)::r,acc,h=>by
  rw [List.forIn_cons]
  cases hk:(k == NameKind.free) with
  | true =>
   have hk':k=.free:=by cases k<;>first|rfl|(exact absurd hk (by decide))
   obtain ⟨c,hc⟩:=h (n,k) List.mem_cons_self hk'
   refine zc1d (zd2 env r ((n,c)::acc) fun y hy=>h y (List.mem_cons_of_mem _ hy)) fun cl e h1 h2 h3 => ?_
   refine ⟨cl,?_,fun x c' hx => ?_,fun x c' hx => ?_,fun y hy hf => ?_⟩
   ·simp only [hk,if_true,cellOf,hc]
    exact e
   ·rcases h1 x c' hx with q|q
    ·exact .inl q
    ·rw [List.lookup_cons] at q
     cases hb:x == n with
     | true =>
      rw [hb] at q;cases q;have:x=n:=by simpa using hb
      subst this;exact .inl hc
     | false=>rw [hb] at q;exact .inr q
   ·cases hb:x == n with
    | true=>exact h2 x c (by rw [List.lookup_cons,hb])
    | false=>exact h2 x c' (by rw [List.lookup_cons,hb];exact hx)
   ·rcases List.mem_cons.mp hy with rfl|hy
    ·exact h2 n c (by rw [List.lookup_cons,beq_self_eq_true])
    ·exact h3 y hy hf
  | false =>
   refine zc1d (zd2 env r acc fun y hy=>h y (List.mem_cons_of_mem _ hy)) fun cl e h1 h2 h3 => ?_
   refine ⟨cl,?_,h1,h2,fun y hy hf => ?_⟩
   ·simp only [hk,Bool.false_eq_true,if_false]
    exact e
   ·rcases List.mem_cons.mp hy with rfl|hy
    ·rw [show k=.free from hf] at hk;exact absurd hk (by decide)
    ·exact h3 y hy hf
theorem zmo (env:Env)(scope:Scope)(h:∀ y∈scope.names,y.2=.free→∃ c,env.cells.lookup y.1=some c) :
 ∃ cl,closureFor scope env=pure cl∧(∀ x c,cl.lookup x=some c→env.cells.lookup x=some c)∧∀ y∈scope.names,y.2=.free→∃ c,cl.lookup y.1=some c:=by
 refine zc1d (zd2 env scope.names [] h) fun cl e h1 _ h3 => ?_
 refine ⟨cl,?_,fun x c hx=>(h1 x c hx).elim id (fun q=>by simp at q),h3⟩
 simp only [closureFor]
 first
 | (rw [e];rfl)
 | exact (congrArg (· >>= fun cs=>pure cs) e)
theorem zbD {env:Env}{x:Str}:∀ {names:List (Str×NameKind)},
 (names.lookup x=some .free→(names.map fun (n,k)=>if (k == NameKind.free&&env.scope.kind == .function&&env.kindOf n == some .cell) then (n,NameKind.cell) else (n,k)).lookup x=some .cell∨(names.map fun (n,k)=>if (k == NameKind.free&&env.scope.kind == .function&&env.kindOf n == some .cell) then (n,NameKind.cell) else (n,k)).lookup x=some .free) ∧
 ((∀ y∈names,y.2 ≠ .cell)→∀ k',(names.map fun (n,k)=>if (k == NameKind.free&&env.scope.kind == .function&&env.kindOf n == some .cell) then (n,NameKind.cell) else (n,k)).lookup x=some k'→(k'=.cell∨k'=.free)→names.lookup x=some .free)
 | []=>⟨fun h=>by simp at h,fun _ _ h=>by simp at h⟩
 | (n,k)::r=>by
  obtain ⟨ih1,ih2⟩:=@zbD env x r
  simp only [List.map_cons]
  cases hx:x == n with
  | true =>
   refine ⟨fun h => ?_,fun hc k' h hk' => ?_⟩
   ·simp only [List.lookup_cons,hx] at h
    obtain rfl:=Option.some.inj h
    by_cases hc:(NameKind.free == NameKind.free&&env.scope.kind == .function&&env.kindOf n == some .cell)=true
    ·rw [if_pos hc];simp [List.lookup_cons,hx]
    ·rw [if_neg hc];simp [List.lookup_cons,hx]
   ·rw [List.lookup_cons,hx]
    have nc:=hc (n,k) List.mem_cons_self
    by_cases hq:(k == NameKind.free&&env.scope.kind == .function&&env.kindOf n == some .cell)=true
    ·have:k=.free:=by
      cases k<;>first|rfl|(simp at hq)
     rw [this]
    ·rw [if_neg hq] at h
     simp only [List.lookup_cons,hx] at h
     have h:k=k':=by simpa using h
     subst h
     rcases hk' with z|z
     ·exact absurd z nc
     ·rw [z]
  | false =>
   refine ⟨fun h => ?_,fun hc k' h hk' => ?_⟩
   ·simp only [List.lookup_cons,hx] at h
    split<;>simp only [List.lookup_cons,hx]<;>exact ih1 h
   ·rw [List.lookup_cons,hx]
    refine ih2 (fun y hy=>hc y (List.mem_cons_of_mem _ hy)) k' ?_ hk'
    split at h<;>simp only [List.lookup_cons,hx] at h<;>exact h
noncomputable def zfj (X:Cx)(C:Addr):Value→Shared→Prop:=fun x s' => ∃ m,s'.heap.Ns C m∧∀ h',Heap.SameBut C s'.heap h'→∀ cenv:Env,cenv.locals=C→wpAny (model X.prog X.w) X.A (passOn "comprehension.variables-let-go" x cenv:Sem Value) (fun _ _=>False) X.xe { s' with heap:=h' }
def za4 (X:Cx)(scope:Scope)(N:List Str)(cl:List (Str×Addr))(C:Addr)(s:Shared)(H:Hp)(ex:List Addr):Cx where
 prog:=X.prog
 w:=X.w
 K:=X.K
 mg:=X.mg
 base:=X.base
 A:=X.A
 N:=N
 s₀:=s
 H₀:=H
 env:=compEnvC scope cl C X.env
 outer:=X.stack
 stack:=X.stack
 ex:=ex
 fn:=fun _=>false
 calm:=X.calm
 pn:=[]
 xe:=notedBy (model X.prog X.w) X.A (compEnvC scope cl C X.env) (zfj X C)
def zeW (X:Cx)(C:Addr)(s:Shared)(H:Hp)(ex:List Addr):Prop:=∃ pins σ,Inv X pins σ H s∧(∀ b∈ex,FpOk X pins H b)∧s.heap.objs.size≤C
noncomputable def zfy (cap:List (Option Nat))(σ : St):St:=cap.map fun o=>o.bind fun j=>(σ[j]?).join
structure CompOk (X:Cx)(scope:Scope)(N:List Str)(cap:List (Option Nat)):Prop where
 kind:scope.kind=.function
 loc:∀ y∈scope.names,y.2=.local→scope.names.lookup y.1=some .local
 cell:∀ y∈scope.names,y.2 ≠ .cell
 free:∀ y∈scope.names,y.2=.free→X.env.kindOf y.1=some .cell∨X.env.kindOf y.1=some .free
 len:cap.length=N.length
 cap:∀ (i j:Nat) (x:Str),cap[i]? = some (some j)→N[i]? = some x→X.N[j]? = some x∧scope.names.lookup x=some .free
noncomputable def zbp (scope:Scope)(env:Env)(N' N:List Str)(cap:List (Option Nat)):Bool :=
 decide (scope.kind=.function)&&scope.names.all (fun y => !decide (y.2=.local)||decide (scope.names.lookup y.1=some .local))&&scope.names.all (fun y => !decide (y.2=.cell)) &&
 scope.names.all (fun y => !decide (y.2=.free)||(decide (env.kindOf y.1=some .cell)||decide (env.kindOf y.1=some .free)))&&decide (cap.length=N'.length) &&
 (N'.zip cap).all (fun p=>match p.2 with|none=>true|some j=>decide (N[j]? = some p.1)&&decide (scope.names.lookup p.1=some .free))
theorem CompOk.of {X:Cx}{scope:Scope}{N:List Str}{cap:List (Option Nat)}(h:zbp scope X.env N X.N cap=true):CompOk X scope N cap:=by
 unfold zbp at h
 simp only [Bool.and_eq_true,List.all_eq_true,decide_eq_true_eq,Bool.or_eq_true,Bool.not_eq_true',decide_eq_false_iff_not] at h
 obtain ⟨⟨⟨⟨⟨h1,h2⟩,h3⟩,h4⟩,h5⟩,h6⟩:=h
 refine ⟨h1,fun y hy hl => ?_,fun y hy=>h3 y hy,fun y hy hf => ?_,h5,fun i j x e1 e2 => ?_⟩
 ·rcases h2 y hy with z|z
  ·exact absurd hl z
  ·exact z
 ·rcases h4 y hy with z|z
  ·exact absurd hf z
  ·exact z
 ·have hm:(x,some j)∈N.zip cap:=by
   refine List.mem_of_getElem? (i:=i) ?_
   rw [List.getElem?_zip_eq_some]
   exact ⟨e2,e1⟩
  have q:=h6 (x,some j) hm
  simpa using q
section
variable {X:Cx}{scope:Scope}{N:List Str}{cap:List (Option Nat)}{pins:List (Addr×Obj)}{σ : St}{H:Hp}{s:Shared}{cl:List (Str×Addr)}{C D:Addr}{fp:List Addr}
theorem zjG {h1:Heap}{tk:Nat}{m:Str→Option Value}(ok:CompOk X scope N cap)(I:Inv X pins σ H s)(hf:∀ b∈fp,FpOk X pins H b)(hlt:∀ b∈fp,b<s.heap.objs.size)
 (hcl1:∀ x c,cl.lookup x=some c→X.env.cells.lookup x=some c) (hcl2:∀ y∈scope.names,y.2=.free→∃ c,cl.lookup y.1=some c)
 (hC:s.heap.objs.size≤C) (old:∀ b o,s.heap.get? b=some o→h1.get? b=some o) (hns:h1.Ns C m) :
 Inv (za4 X scope N cl C s H fp) [] (zfy cap σ) H { s with heap:=h1,toks:=tk }:=by
 have kf:∀ x,(za4 X scope N cl C s H fp).env.kindOf x=some .cell∨(za4 X scope N cl C s H fp).env.kindOf x=some .free→scope.names.lookup x=some .free:=fun x h=>by
  rcases h with h|h
  ·exact (zbD (env:=X.env) (x:=x) (names:=scope.names)).2 ok.cell _ h (.inl rfl)
  ·exact (zbD (env:=X.env) (x:=x) (names:=scope.names)).2 ok.cell _ h (.inr rfl)
 refine ⟨⟨I.ok.mod,ok.kind,I.ok.glob,I.ok.blt,hC,fun x y c e1 e2=>I.ok.inj x y c (hcl1 x c e1) (hcl1 y c e2),fun x h => ?_,(fun x c z=>Bool.noConfusion z),I.ok.hd,I.ok.frames,.inl rfl,fun b hb=>⟨?_,fun x c e => ?_⟩,I.bs,Nat.le_trans I.ok.bsz I.sz,
  fun b o e hb => ?_,fun b hb z => ?_,I.stack,I.stkFree⟩,rfl,I.bare,Un.kept old,⟨m,hns,fun i x v e1 e2 e3 => ?_⟩,fun x c e => ?_,I.hok.fresh hC,fun x c e=>I.freeC x c (hcl1 x c e),fun p hp=>absurd hp (by show ¬ p∈([]:List (Addr×Obj))++[];simp),I.hok.kept old,?_⟩
 ·have q:=kf x h
  exact hcl2 (x,.free) (PySem.mem_of_lookup q) rfl
 ·exact Nat.ne_of_lt (Nat.lt_of_lt_of_le (hlt b hb) hC)
 ·exact (hf b hb).2.2.2.2.1 x c (hcl1 x c e)
 ·rcases (hf b hb).2.2.2.1 with z|z
  ·exact I.ok.noex b o e z
  ·exact absurd (Nat.lt_of_lt_of_le (Heap.lt_size e) (Nat.le_trans I.ok.bsz z)) (Nat.lt_irrefl _)
 ·rcases List.mem_cons.mp (I.stkSub b z) with q|q
  ·exact (hf b hb).2.1 q
  ·exact (hf b hb).2.2.1 q
 ·have e1:N[i]? = some x:=e1
  have hc:∃ j,cap[i]? = some (some j) ∧ σ[j]? = some (some v):=by
   have e2:(cap.map fun o=>o.bind fun j=>(σ[j]?).join)[i]? = some (some v):=e2
   rw [List.getElem?_map] at e2
   cases q:cap[i]? with
   | none=>rw [q] at e2;exact zqn e2
   | some o =>
    rw [q] at e2
    cases o with
    | none=>cases e2
    | some j =>
     have e2:some ((σ[j]?).join)=some (some v):=e2
     cases q2 : σ[j]? with
     | none=>rw [q2] at e2;cases e2
     | some w=>rw [q2] at e2;exact ⟨j,rfl,by cases e2;exact q2⟩
  refine zc1b hc fun j c1 c2 => ?_
  obtain ⟨n1,n2⟩:=ok.cap i j x c1 e1
  refine zc1b I.loc fun m0 _ hl => ?_
  have fr:=ok.free (x,.free) (PySem.mem_of_lookup n2) rfl
  refine zc1b (hl j x v n1 c2 (fr.elim (fun z=>.inr (.inl z)) fun z=>.inr (.inr z))) fun u r l => ?_
  refine ⟨u,r,.inr ⟨(zbD (env:=X.env) (x:=x) (names:=scope.names)).1 n2,?_⟩⟩
  rcases l with ⟨k,_⟩|⟨_,c,ec,z⟩
  ·have k:X.env.kindOf x=some .local:=k
   rcases fr with f|f<;>· rw [k] at f;cases f
  ·obtain ⟨c',e'⟩:=hcl2 (x,.free) (PySem.mem_of_lookup n2) rfl
   have e'':=hcl1 x c' e'
   rw [ec] at e'';obtain rfl:=Option.some.inj e''
   exact ⟨c,e',z.keeps old⟩
 ·obtain ⟨v,z⟩:=I.cell x c (hcl1 x c e)
  exact ⟨v,z.keeps old⟩
 ·show (cap.map _).length=N.length
  rw [List.length_map];exact ok.len
theorem zko {σ':St}{H':Hp}{s':Shared}{ys:List V}{its:List Value}{k:Nat}{h':Heap}{Q:VK}(I:Inv X pins σ H s)(hf:∀ b∈fp,FpOk X pins H b)(hC:s.heap.objs.size≤C)(hD:s.heap.objs.size≤D)(hDC:D≠C)
 (J:Inv (za4 X scope N cl C s H fp) [] σ' H' s') (hd:s'.heap.get? D=some { cls:=.type "list",data:=.seq its.toArray k }) (hn:H' D=none) (rv:Vals ys its) (hz:ys.length≤sizeLine) (hs:Heap.SameBut C s'.heap h')
 (q:Q (.ref D) (upd H' D (.lst ys))):EP X pins σ Q (.ref D) { s' with heap:=h' }:=by
 have nC:∀ b o,s.heap.get? b=some o→b≠C:=fun b o e=>Nat.ne_of_lt (Nat.lt_of_lt_of_le (Heap.lt_size e) hC)
 have nD:∀ b o,s.heap.get? b=some o→b≠D:=fun b o e=>Nat.ne_of_lt (Nat.lt_of_lt_of_le (Heap.lt_size e) hD)
 have tD:∀ b u,H' b=some u→b≠D:=fun b u e z=>by rw [z,hn] at e;exact zqn e
 have tC:∀ b u,H' b=some u→b≠C:=fun b u e z=>by
  have:=J.free
  rw [z] at e
  rw [show H' C=none from this] at e;exact zqn e
 have B:Un (frs X.stack) fp H H' s.heap s'.heap:=J.base
 refine ⟨.ref D,upd H' D (.lst ys),I.call' (s':={ s' with heap:=h' }) (ch:=fp) J.os ?_ ?_ J.bare (fun b hb=>⟨(hf b hb).2.2.2.1,(hf b hb).2.1,(hf b hb).2.2.2.2.1,(hf b hb).2.2.2.2.2⟩),rfl,q⟩
 ·refine ⟨fun b o e n hb hx=>(hs.2 b (nC b o e)).trans (B.keep b o e n hb hx),fun b o e n hb hx => ?_,fun b o e n hx => ?_,fun b o e hx => ?_,fun b xs e => ?_,fun b o u e => ?_,fun b ps e => ?_⟩
  ·obtain ⟨sl,z⟩:=B.slot b o e n hb hx
   exact ⟨sl,(hs.2 b (nC b o e)).trans z⟩
  ·rw [zaj (nD b o e)];exact B.free b o e n hx
  ·obtain ⟨o',z⟩:=B.there b o e hx
   exact ⟨o',(hs.2 b (nC b o e)).trans z⟩
  ·have z:=B.tups b xs e
   rw [zaj (tD b _ z)];exact z
  ·have z:=B.frzs b o u e
   rw [zaj (tD b _ z)];exact z
  ·obtain ⟨more,z⟩:=B.tbls b ps e
   exact ⟨more,by rw [zaj (tD b _ z)];exact z⟩
 ·intro b u e
  by_cases hb:b=D
  ·subst hb
   rw [zam] at e;obtain rfl:=Option.some.inj e
   exact ⟨hz,its,k,rv,(hs.2 b hDC).trans hd⟩
  ·rw [zaj hb] at e
   refine (J.hok b u e).stay (fun c v hc z=>(hs.2 c ?_).trans z) (fun c z=>by rw [zaj (tD c _ z)];exact z) (fun c xs z=>by rw [zaj (tD c _ z)];exact z)
   rcases hc with hc|hc
   ·rw [hc];exact tC b u e
   ·exact tC c _ hc
end
def compR (cap:List (Option Nat))(g:TG)(te:TE)(σ : St)(Q:VK):It→Hp→Prop:=fun J H1 => ∃ W:Nat→Nat→List V→St→Hp→Prop,(∃ m,W 0 m [] (zfy cap σ) H1)∧∀ i m ys σ' H',W i m ys σ' H'→ys.length<sizeLine ∧
 (
  (J.stop i H'∧∀ D,H' D=none→Q (.ref D) (upd H' D (.lst ys))) ∨
  (J.go i H'∧∀ x H2,J.yld i H' x H2→g x σ' H2 fun σ2 H3=>te σ2 H3 fun y H4 => ∃ m',m'<m∧W (i+1) m' (ys++[y]) σ2 H4))
def ziN (cap:List (Option Nat))(wi:TI)(g:TG)(te:TE):TE:=fun σ H Q=>wi σ H (compR cap g te σ Q)
def zm5 (cap:List (Option Nat))(g:TG)(tt:TT)(te:TE)(σ : St)(Q:VK):It→Hp→Prop:=fun J H1 => ∃ W:Nat→Nat→List V→St→Hp→Prop,(∃ m,W 0 m [] (zfy cap σ) H1)∧∀ i m ys σ' H',W i m ys σ' H'→ys.length<sizeLine ∧
 (
  (J.stop i H'∧∀ D,H' D=none→Q (.ref D) (upd H' D (.lst ys))) ∨
  (J.go i H'∧∀ x H2,J.yld i H' x H2→g x σ' H2 fun σ2 H3=>tt σ2 H3 fun b H4=>if b=true then te σ2 H4 (fun y H5 => ∃ m',m'<m∧W (i+1) m' (ys++[y]) σ2 H5) else ∃ m',m'<m∧W (i+1) m' ys σ2 H4))
def zer (cap:List (Option Nat))(wi:TI)(g:TG)(tt:TT)(te:TE):TE:=fun σ H Q=>wi σ H (zm5 cap g tt te σ Q)
section
variable {X:Cx}{tg iter elt c:Expr}{scope:Scope}{pos:Pos}{wi:TI}{g:TG}{te:TE}{tt:TT}
noncomputable def zd9 (X:Cx)(pins:List (Addr×Obj))(σ : St)(Q:VK)(use:Option (Value→Sem Unit))(R:Value→Shared→Prop):Prop :=
 ∀ (C D:Addr) (m:Str→Option Value) (s5:Shared) (r:Flow),s5.heap.Ns C m→¬ C=X.env.locals→C∉X.fs→X.s₀.heap.objs.size≤C→(∀ x c,X.env.cells.lookup x=some c→c≠C)→(∀ p∈X.pn++pins,p.1≠C) →
  (∀ h',Heap.SameBut C s5.heap h'→EP X pins σ (fun v H'=>H' C=none∧Q v H') (.ref D) { s5 with heap:=h' })→compPost (model X.prog X.w) X.A X.xe use R (.ref D) C (.ok r) s5
theorem zjm {pins:List (Addr×Obj)}{σ : St}{Q:VK}:zd9 X pins σ Q none (EP X pins σ Q):=fun C D m s5 r hm _ _ _ _ _ k=>⟨m,hm,fun h' hs'=>by
 refine zc2d (k h' hs') fun v H' I' rv _ q => ?_
 exact ⟨v,H',I',rv,q⟩⟩
noncomputable def TurnI (X:Cx)(tg elt:Expr)(it acc:Value)(env:Env)(R:Result→Shared→Prop)(I:Nat→Shared→Prop)(test:(Bool→Shared→Prop)→Shared→Prop)(n:Nat)(s:Shared):Prop :=
 let E:Value→Shared→Prop:=notedBy (model X.prog X.w) X.A env fun e s'=>R (.error e) s'
 wpAny (model X.prog X.w) X.A (pyNext it) (fun r s1=>match r with
  | none=>R (.ok .next) s1
  | some v=>wpAny (model X.prog X.w) X.A (letOwnedTupleGo tg it v) (fun _ s2=>wpAny (model X.prog X.w) X.A (assign tg env v) (fun _ s3=>test (fun ok s4=>if ok=true then wpAny (model X.prog X.w) X.A (eval elt env) (fun x s5=>wpAny (model X.prog X.w) X.A (call (.builtin "list.append") [acc,x]) (fun _ s6 => ∃ m,m<n∧I m s6) E s5) E s4 else ∃ m,m<n∧I m s4) s3) E s2) E s1) E s
theorem zgq {ifs:List Expr}(N:List Str){test:Env→(Result→Shared→Prop)→(Bool→Shared→Prop)→Shared→Prop}
 (lp:∀ {it acc:Value} {env:Env} {R:Result→Shared→Prop} {s:Shared} (I:Nat→Shared→Prop),(∀ n s,I n s→TurnI X tg elt it acc env R I (test env R) n s)→∀ n,I n s→codeAny (model X.prog X.w) X.A (.compLoop (.ListComp elt [⟨tg,iter,ifs,0⟩] scope pos) 0 it acc env) R s)
 (ht:∀ cl C s H ex {pins:List (Addr×Obj)} {s7:Shared} {σ7:St} {H7:Hp} {R:Result→Shared→Prop} {q:Bool→Hp→Prop} {Q:Bool→Shared→Prop},zeW X C s H ex→(∀ e s',zfj X C e s'→R (.error e) s')→Inv (za4 X scope N cl C s H ex) pins σ7 H7 s7→tt σ7 H7 q→(∀ b s8 H8,Inv (za4 X scope N cl C s H ex) pins σ7 H8 s8→q b H8→Q b s8)→test (compEnvC scope cl C X.env) R Q s7)
 (cap:List (Option Nat)) (hc:X.calm=true) (okB:zbp scope X.env N X.N cap=true) (hi:PI X tg iter wi) (hg:∀ cl C s H ex,PG (za4 X scope N cl C s H ex) tg g) (he:∀ cl C s H ex,zeW X C s H ex→PE (za4 X scope N cl C s H ex) elt te)
 (hs:∀ x,foldedSetIterable iter X.env x=pure x) {use:Option (Value→Sem Unit)} {R:Value→Shared→Prop} {fpos:Pos} {pins:List (Addr×Obj)} {s:Shared} {σ : St} {H:Hp} {Q:VK} (I:Inv X pins σ H s) (h:zer cap wi g tt te σ H Q) (fin:zd9 X pins σ Q use R) :
 wpAny (model X.prog X.w) X.A (comprehension (.ListComp elt [⟨tg,iter,ifs,0⟩] scope pos) scope X.env fpos (newList []) false (eval iter X.env) use) R X.xe s:=by
 have ok:=CompOk.of okB
 obtain ⟨cl,hcl,hcl1,hcl2⟩:=zmo X.env scope fun y hy hf=>I.ok.has y.1 (ok.free y hy hf)
 refine wpAny_comprehension_free (use:=use) rfl hs hcl ok.kind ok.loc (thn (hi pins s σ H _ I h) fun xv s1 h1=>thn h1 fun itv s2 h2 => ?_)
 obtain ⟨it,fp,tn,J,H2,e,I2,T,st2,f2,W,⟨m0,w0⟩,turn⟩:=h2
 subst e
 have hlt:∀ b∈fp,b<s2.heap.objs.size:=fun b hb=>let ⟨_,e,_⟩:=T.obj _ _ st2 b hb;Heap.lt_size e
 refine wpAny_newObj_type (wpAny_newFunctionEnv ok.cell (by intro y hy;simp at hy) (fun g1 hns1 hsb1 => ?_) ok.kind)
 dsimp only at hns1 hsb1 ⊢
 generalize hP:s2.heap.push { cls:=.type "list",dict:=none,data:=.seq ([]:List Value).toArray }=P2 at hns1 hsb1 ⊢
 have hC:P2.objs.size=s2.heap.objs.size+1:=by rw [← hP,Heap.size_push]
 have hDC:s2.heap.objs.size≠P2.objs.size:=by rw [hC];exact Nat.ne_of_lt (Nat.lt_succ_self _)
 have hCle:s2.heap.objs.size≤P2.objs.size:=by rw [hC];exact Nat.le_succ _
 have below:∀ b,b<s2.heap.objs.size→b≠P2.objs.size∧b≠s2.heap.objs.size:=fun b hb=>⟨by rw [hC];exact Nat.ne_of_lt (Nat.lt_succ_of_lt hb),Nat.ne_of_lt hb⟩
 have old:∀ b o,s2.heap.get? b=some o→g1.get? b=some o:=fun b o e=>hsb1.extBut b o (below b (Heap.lt_size e)).1 (Heap.get?_push_of_some _ (hP ▸ Heap.get?_push_of_some _ e))
 have hacc:g1.get? s2.heap.objs.size=some { cls:=.type "list",data:=.seq ([]:List Value).toArray 0 }:=hsb1.extBut _ _ hDC (Heap.get?_push_of_some _ (hP ▸ Heap.get?_push_size _ rfl))
 have stat:∀ {H':Hp} {pl:List (Addr×Obj)},(∀ b∈fp,H' b=none)→(∀ p∈pl,p.1∉fp)→∀ b∈fp,FpOk (za4 X scope N cl P2.objs.size s2 H2 fp) pl H' b:=fun {H' pl} hn hp b hb=>by
  refine ⟨hn b hb,(below b (hlt b hb)).1,fun z => ?_,.inl hb,fun x c e=>(f2 b hb).2.2.2.2.1 x c (hcl1 x c e),fun p hq z => ?_⟩
  ·rcases List.mem_cons.mp (I2.stkSub b z) with q|q
   ·exact (f2 b hb).2.1 q
   ·exact (f2 b hb).2.2.1 q
  ·have hq:p∈([]:List (Addr×Obj))++pl:=hq
   rw [List.nil_append] at hq
   exact hp p hq (by rw [z];exact hb)
 have nD:s2.heap.objs.size∉fp:=fun z=>absurd (hlt _ z) (Nat.lt_irrefl _)
 have loop:∀ s3:Shared,s3={ s2 with heap:=g1,toks:=s2.toks+([]:List (Str×Value)).length } →
  codeAny (model X.prog X.w) X.A (.compLoop (.ListComp elt [⟨tg,iter,ifs,0⟩] scope pos) 0 (.ref it) (.ref s2.heap.objs.size) (compEnvC scope cl P2.objs.size X.env))
   (compPost (model X.prog X.w) X.A X.xe use R (.ref s2.heap.objs.size) P2.objs.size) s3:=by
  rintro s3 rfl
  have I0:=zjG (tk:=s2.toks+([]:List (Str×Value)).length) ok I2 f2 hlt hcl1 hcl2 hCle old hns1
  refine lp (fun n s' => ∃ i ys its k σ' H',Inv (za4 X scope N cl P2.objs.size s2 H2 fp) [] σ' H' s'∧tn i s'.heap∧(∀ b∈fp,H' b=none)∧s'.heap.get? s2.heap.objs.size=some { cls:=.type "list",data:=.seq (List.toArray its) k } ∧
   H' s2.heap.objs.size=none∧Vals ys its∧W i n ys σ' H') ?_ m0
   ⟨0,[],[],0,zfy cap σ,H2,I0,T.keep _ _ _ st2 (fun b _ o e=>old b o e),fun b hb=>(f2 b hb).1,hacc,I2.hok.fresh (Nat.le_refl _),.nil,w0⟩
  have cat:zeW X P2.objs.size s2 H2 fp:=⟨_,_,I2,f2,hCle⟩
  have ce:∀ e s',zfj X P2.objs.size e s'→compPost (model X.prog X.w) X.A X.xe use R (.ref s2.heap.objs.size) P2.objs.size (.error e) s':=fun e s' h=>by cases use<;>exact h
  have xe:∀ e s',(za4 X scope N cl P2.objs.size s2 H2 fp).xe e s'→notedBy (model X.prog X.w) X.A (compEnvC scope cl P2.objs.size X.env) (fun e s'=>compPost (model X.prog X.w) X.A X.xe use R (.ref s2.heap.objs.size) P2.objs.size (.error e) s') e s':=fun e s' h=>wpAny_mono h (fun _ s2 q=>ce e s2 q) fun e s2 q=>ce e s2 q
  rintro n s4 ⟨i,ys,its,k,σ4,H4,I4,st4,fr4,hd4,hn4,rv4,w4⟩
  obtain ⟨hz,tn4⟩:=turn i n ys σ4 H4 w4
  have J4:Inv (za4 X scope N cl P2.objs.size s2 H2 fp) [(s2.heap.objs.size,{ cls:=.type "list",data:=.seq its.toArray k })] σ4 H4 s4:=I4.pins_of fun p hp=>by
   have e:=List.mem_singleton.mp hp
   subst e
   refine ⟨hd4,hn4,hDC,?_,fun v z=>by cases z⟩
   exact fun z=>absurd (Nat.lt_of_lt_of_le (by
    rcases List.mem_cons.mp (I2.stkSub _ z) with q|q
    ·exact Nat.lt_of_le_of_lt (Nat.le_of_eq q) I2.lt
    ·obtain ⟨_,o,ho,_⟩:=I2.ok.funs.mem q
     exact Nat.lt_of_lt_of_le (Heap.lt_size ho) I2.sz) (Nat.le_refl s2.heap.objs.size)) (Nat.lt_irrefl _)
  have np:∀ p ∈ [(s2.heap.objs.size,({ cls:=.type "list",data:=.seq its.toArray k }:Obj))],p.1∉fp:=fun p hp=>by
   have e:=List.mem_singleton.mp hp
   subst e;exact nD
  rcases tn4 with ⟨stop,qn⟩|⟨go,step⟩
  ·refine wpAny_mono (T.done (za4 X scope N cl P2.objs.size s2 H2 fp) rfl rfl rfl hc i _ s4 σ4 H4 (fun _ _=>False) J4 (stat fr4 np) st4 stop) (fun r s5 h5 => ?_) fun _ _ f=>f.elim
   obtain ⟨rfl,I5⟩:=h5
   obtain ⟨m,hm,_⟩:=id I5.loc
   have p5:=I5.pin (s2.heap.objs.size,_) (List.mem_append_right _ List.mem_cons_self)
   refine fin _ _ m _ _ hm (Nat.ne_of_gt (Nat.lt_of_lt_of_le I2.lt hCle)) (I2.nofs hCle) (Nat.le_trans I2.sz hCle) (fun x c e z => ?_) (fun p hp z => ?_) fun h' hs'=>zko I2 f2 hCle (Nat.le_refl _) hDC (I5.pins_of fun p hp=>nomatch hp) p5.1 p5.2.1 rv4 (Nat.le_of_lt hz) hs' ⟨by rw [zaj (Ne.symm hDC)];exact I5.free,qn _ p5.2.1⟩
   ·obtain ⟨v,o,ho,hd⟩:=I2.cell x c e
    have:=Heap.lt_size ho
    rw [z] at this
    exact absurd (Nat.lt_of_lt_of_le this hCle) (Nat.lt_irrefl _)
   ·have:=Heap.lt_size (I2.pin p hp).1
    rw [z] at this
    exact absurd (Nat.lt_of_lt_of_le this hCle) (Nat.lt_irrefl _)
  ·refine wpAny_mono (T.item (za4 X scope N cl P2.objs.size s2 H2 fp) rfl rfl rfl hc i _ s4 σ4 H4 (fun _ _=>False) J4 (stat fr4 np) st4 go) (fun r s5 h5 => ?_) fun _ _ f=>f.elim
   obtain ⟨u,rfl,h5⟩:=h5
   refine wpAny_mono h5 (fun _ s6 h6 => ?_) fun _ _ f=>f.elim
   obtain ⟨x,H6,I6,r6,y6,st6,fr6⟩:=h6
   have I6':=I6.pinned (stat fr6 np) (T.obj _ _ st6)
   refine wpAny_mono (hg cl P2.objs.size s2 H2 fp _ s6 σ4 H6 x u _ I6' r6 (step x H6 y6)) (fun _ s7 h7 => ?_) xe
   obtain ⟨σ7,H7,I7,q7⟩:=h7
   refine ht cl P2.objs.size s2 H2 fp cat ce I7 q7 fun bv s8 H8 I8 q8 => ?_
   have keepT:∀ (H9:Hp) (s9:Shared) (σ9:St),Inv (za4 X scope N cl P2.objs.size s2 H2 fp) ([(s2.heap.objs.size,{ cls:=.type "list",data:=.seq its.toArray k })]++zeP fp s6.heap) σ9 H9 s9→(∀ b∈fp,∀ o,s6.heap.get? b=some o→s9.heap.get? b=some o)∧∀ b∈fp,H9 b=none:=fun H9 s9 σ9 I9=>by
    refine ⟨fun b hb o e=>(I9.pin (b,o) (List.mem_append_right _ (List.mem_append_right _ (zcn hb e)))).1,fun b hb => ?_⟩
    obtain ⟨o,e,d⟩:=T.obj _ _ st6 b hb
    exact (I9.pin (b,o) (List.mem_append_right _ (List.mem_append_right _ (zcn hb e)))).2.1
   have p8:=I8.pin (s2.heap.objs.size,_) (List.mem_append_right _ (List.mem_append_left _ List.mem_cons_self))
   cases bv with
   | false =>
    rw [if_neg (by simp)] at q8 ⊢
    obtain ⟨m',hm',w8⟩:=q8
    obtain ⟨z1,z2⟩:=keepT _ _ _ I8
    exact ⟨m',hm',i+1,ys,its,k,σ7,H8,I8.pins_of (fun p hp=>nomatch hp),T.keep _ _ _ st6 z1,z2,p8.1,p8.2.1,rv4,w8⟩
   | true =>
    rw [if_pos rfl] at q8 ⊢
    refine wpAny_mono (he cl P2.objs.size s2 H2 fp cat _ s8 σ7 H8 _ I8 q8) (fun yv s9 h9 => ?_) xe
    obtain ⟨y,H9,I9,ry,m',hm',w9⟩:=h9
    have p9:=I9.pin (s2.heap.objs.size,_) (List.mem_append_right _ (List.mem_append_left _ List.mem_cons_self))
    have hl:=rv4.length
    refine append_at (hsz:=by show its.toArray.size≤sizeLine;rw [List.size_toArray,← hl];exact Nat.le_of_lt hz) p9.1 fun h10 hs10 hd10 => ?_
    have I10:Inv (za4 X scope N cl P2.objs.size s2 H2 fp) [] σ7 H9 { s9 with heap:=h10 }:=(I9.pins_of (pins':=[]) fun p hp=>nomatch hp).turned (t':=s9.toks) (it:=s2.heap.objs.size) (fun b o hb e=>(hs10.2 b hb).trans e) p9.2.1 hDC (.inr (Nat.le_refl _))
     (fun x c e z=>by
      obtain ⟨v,o,ho,hd⟩:=I9.cell x c e
      rw [z,p9.1] at ho;cases ho;cases hd) (fun p hp=>absurd hp (by show ¬ p∈([]:List (Addr×Obj))++[];simp))
    obtain ⟨z1,z2⟩:=keepT _ _ _ I9
    refine ⟨m',hm',i+1,ys++[y],its++[yv],k+1,σ7,H9,I10,T.keep _ _ _ st6 (fun b hb o e => ?_),z2,?_,p9.2.1,Vals.append rv4 (.cons ry .nil),w9⟩
    ·have hb':b≠s2.heap.objs.size:=fun z=>nD (by rw [← z];exact hb)
     exact (hs10.2 b hb').trans (z1 b hb o e)
    ·refine hd10.trans ?_
     simp
 exact codeAny_compStart_list (loop _ rfl) (T.self _ 0 _ _ _ (T.keep _ _ _ st2 (fun b _ o e=>old b o e)) (loop _ rfl))
theorem zhG (N:List Str)(cap:List (Option Nat))(hc:X.calm=true)(okB:zbp scope X.env N X.N cap=true)(hi:PI X tg iter wi)(hg:∀ cl C s H ex,PG (za4 X scope N cl C s H ex) tg g)(he:∀ cl C s H ex,zeW X C s H ex→PE (za4 X scope N cl C s H ex) elt te)
 (hs:∀ x,foldedSetIterable iter X.env x=pure x) {use:Option (Value→Sem Unit)} {R:Value→Shared→Prop} {fpos:Pos} {pins:List (Addr×Obj)} {s:Shared} {σ : St} {H:Hp} {Q:VK} (I:Inv X pins σ H s) (h:ziN cap wi g te σ H Q) (fin:zd9 X pins σ Q use R) :
 wpAny (model X.prog X.w) X.A (comprehension (.ListComp elt [⟨tg,iter,[],0⟩] scope pos) scope X.env fpos (newList []) false (eval iter X.env) use) R X.xe s :=
 zgq (tt:=fun _ H q=>q true H) (test:=fun _ _ Q s=>Q true s) N (fun I turn n h=>PySem.W.kcp_loop I turn n h) (fun _ _ _ _ _ _ _ _ _ _ _ _ _ _ I q k=>k true _ _ I q) cap hc okB hi hg he hs I h fin
theorem zjQ (N:List Str)(cap:List (Option Nat))(hc:X.calm=true)(okB:zbp scope X.env N X.N cap=true)(hi:PI X tg iter wi)(hg:∀ cl C s H ex,PG (za4 X scope N cl C s H ex) tg g)(he:∀ cl C s H ex,zeW X C s H ex→PE (za4 X scope N cl C s H ex) elt te)
 (hs:autoParam (∀ x,foldedSetIterable iter X.env x=pure x) zaw._auto_1):PE X (.ListComp elt [⟨tg,iter,[],0⟩] scope pos) (ziN cap wi g te):=by
 intro pins s σ H Q I h
 rw [eval_ListComp]
 exact zhG N cap hc okB hi hg he hs I h zjm
theorem zlL (N:List Str)(cap:List (Option Nat))(hc:X.calm=true)(okB:zbp scope X.env N X.N cap=true)(hi:PI X tg iter wi)(hg:∀ cl C s H ex,PG (za4 X scope N cl C s H ex) tg g)(he:∀ cl C s H ex,PE (za4 X scope N cl C s H ex) elt te)
 (hs:autoParam (∀ x,foldedSetIterable iter X.env x=pure x) zaw._auto_1):PE X (.ListComp elt [⟨tg,iter,[],0⟩] scope pos) (ziN cap wi g te):=zjQ N cap hc okB hi hg (fun cl C s H ex _=>he cl C s H ex) hs
end
end L2
namespace L2
open PySem PySem.Spec PyProof.Rows
section
variable {X:Cx}
def za2 (P:Program)(w:World)(K:PySem.W.Frag)(mg:Str→Option Value)(base:Heap)(name:Str)(k:Nat)(ps:List Str)(sp:Sp):Prop :=
 ∃ f fd,FnOk P w K mg base CX0 k f fd ps sp∧zdb K fd ps []∧PySem.W.keepIn K (.ref f)=true∧mg name=some (.ref f)
theorem za2.mono {P:Program}{w:World}{K:PySem.W.Frag}{mg:Str→Option Value}{base:Heap}{name:Str}{j k:Nat}{ps:List Str}{sp:Sp}(c:za2 P w K mg base name j ps sp)(h:j≤k):za2 P w K mg base name k ps sp:=by
 refine zc2b c fun f fd F r => ?_
 exact ⟨f,fd,F.mono h,r⟩
theorem ziM {name:Str}{k:Nat}{ps:List Str}{sp:Sp}{p pos:Pos}{e:Expr}{es:List Expr}{t:TA}(c:za2 X.prog X.w X.K X.mg X.base name k ps sp)(hr:Room k X.A)(hg:Gl X name)(ha:PA X (e::es) t)
 (hdb:autoParam ((name == ("__debug__" : Str))=false) zav._auto_1) (he:starEach (e::es) X.env=(false,eval e X.env)::starEach es X.env:=by rfl) (hpl:(backTo pos (starEach es X.env)).any (·.1)=false:=by rfl) :
 PE X (.Call (.Name name p) (e::es) [] pos) (zmA sp [] E0 t):=by
 refine zc2d c fun f fd F b hk hm => ?_
 exact zh0 F hr hg hm hk b .nil zoT ha hdb he hpl
end
theorem zbe {H:Hp}{p:Addr}(h:H p=none)(o:HO):Same H (upd H p o):=fun b u q=>by rw [zaj (zaF q h)];exact q
theorem zbs {n:Nat}(h:n≤1000):n≤sizeLine:=Nat.le_of_lt (ze3 h)
theorem zfG {H H':Hp}{l:Addr}(o:HO)(s:Same H H')(h:H l=none):Same H (upd H' l o):=fun b u e=>by
 rw [zaj (zaF e h)];exact s b u e
theorem za3:bootBuiltins "len" = some (.builtin "len"):=boot_len
theorem zmY:bootBuiltins "max" = some (.builtin "max"):=boot_max
theorem zmZ:bootBuiltins "min" = some (.builtin "min"):=boot_min
theorem zbb:bootBuiltins "isinstance" = some (.builtin "isinstance"):=boot_isinstance
theorem zkT:bootBuiltins "sum" = some (.builtin "sum"):=boot_sum
theorem zc6:bootBuiltins "str" = some (.type "str"):=boot_str
theorem zbV:bootBuiltins "list" = some (.type "list"):=boot_list
theorem zfS:bootBuiltins "tuple" = some (.type "tuple"):=boot_tuple
theorem bt_set:bootBuiltins "set" = some (.type "set"):=boot_set
end L2
namespace L2
open PySem PySem.Spec PyProof.Rows
noncomputable def Once (r:List (Int×Int)):Prop:=(r.map (·.1)).Nodup
end L2
namespace L2
open PySem PyProof.Rows
noncomputable def gx (ix:Array Nat)(k:Nat):Nat:=(ix[k]?).getD 0
end L2
namespace L2
open PySem PySem.Spec PyProof.Rows
section
variable {X:Cx}{tg iter elt c:Expr}{scope:Scope}{pos:Pos}{wi:TI}{g:TG}{te:TE}{tt:TT}
theorem zjd (N:List Str)(cap:List (Option Nat))(hc:X.calm=true)(okB:zbp scope X.env N X.N cap=true)(hi:PI X tg iter wi)(hg:∀ cl C s H ex,PG (za4 X scope N cl C s H ex) tg g)(ht:∀ cl C s H ex,PT (za4 X scope N cl C s H ex) c tt)(he:∀ cl C s H ex,PE (za4 X scope N cl C s H ex) elt te)
 (hs:∀ x,foldedSetIterable iter X.env x=pure x) {use:Option (Value→Sem Unit)} {R:Value→Shared→Prop} {fpos:Pos} {pins:List (Addr×Obj)} {s:Shared} {σ : St} {H:Hp} {Q:VK} (I:Inv X pins σ H s) (h:zer cap wi g tt te σ H Q) (fin:zd9 X pins σ Q use R) :
 wpAny (model X.prog X.w) X.A (comprehension (.ListComp elt [⟨tg,iter,[c],0⟩] scope pos) scope X.env fpos (newList []) false (eval iter X.env) use) R X.xe s :=
 zgq (test:=fun env R Q s=>wpAny (model X.prog X.w) X.A (isTrue c env (eval c env)) Q (notedBy (model X.prog X.w) X.A env fun e s'=>R (.error e) s') s) N (fun I turn n h=>PySem.W.kct_loop I turn n h)
  (fun cl C s H ex _ _ _ _ _ _ _ _ hR I q k=>wpAny_mono (ht cl C s H ex _ _ _ _ _ I q) (fun b s8 z=>by obtain ⟨H8,I8,q8⟩:=z;exact k b s8 H8 I8 q8) fun e s' hx=>wpAny_mono hx (fun _ s'' z=>hR _ _ z) fun _ _ z=>hR _ _ z) cap hc okB hi hg (fun cl C s H ex _=>he cl C s H ex) hs I h fin
end
section
variable {X:Cx}
noncomputable def zhR (vw d:Addr):HO:=.ext fun h=>h.IsItemsView vw d
theorem zka:MtR X "dict.items" (fun x vs H Q => ∃ d kvs,x=.ref d∧vs=[]∧H d=some (.dK kvs)∧∀ p,H p=none→Q (.ref p) (upd H p (zhR p d))):=by
 intro pins s σ H x vs v us Q I rx rv h
 refine zc2d h fun d kvs zr2 zr3 hd q => ?_
 obtain rfl:=zr2
 obtain rfl:=zr3
 obtain rfl:v=Value.ref d:=rx
 obtain rfl:us=[]:=Vals.zero rv
 refine zc0c (zmd I.hok hd) fun z lo zz=>zc1b zz fun ws rel dd => ?_
 refine call_meetsIn PySem.F.slot_dict_items dd.typeIs PySem.F.entry_dict_items (PySem.F.args_dict_items_1 _) (meets_dict_items (zaN X.prog X.w) d lo) ⟨⟨ws,dd⟩,?_⟩
 refine ⟨.ref s.heap.objs.size,upd H s.heap.objs.size (zhR s.heap.objs.size d),I.laid (t':=s.toks) (fun b o e=>Heap.get?_push_of_some _ e) (Nat.le_refl _) ?_,rfl,q _ (I.hok.fresh (Nat.le_refl _))⟩
 exact ⟨⟨_,Heap.get?_push_size _ rfl,rfl,rfl⟩,⟨_,Heap.get?_push_size _ rfl⟩,fun h1 h2 z kk=>by
  refine zc1b z fun o e r => ?_
  exact ⟨o,kk o e,r⟩⟩
end
end L2
namespace L2.DL
open PySem PySem.Spec PyProof.Rows
theorem zck {c:Prop}{_:Decidable c}{α : Type}{a z : α}(h:(if c then some a else none)=some z):c∧a=z:=by
 by_cases q:c
 ·rw [if_pos q] at h;exact ⟨q,Option.some.inj h⟩
 ·rw [if_neg q] at h;exact zqn h
inductive D where
 | non|bl (b:Bool)|int (i:Int)|str (x:Str)|ty (n:String)|scr (ns:List Int)
 | tup (ds:List D)|lst (ds:List D)|dct (ks:List Key) (ds:List D)|ins (c:Str) (fs:List Str) (ds:List D)
 | exc (c:Str)|ucl (c:Str)
 | adr (a:Addr)|dcf (ks:List Key) (ds:List D)
inductive Res (α : Type) where
 | ok (a : α)|ex (c:Str) (fs:List D)|no
noncomputable def Res.bind {α β : Type}(r:Res α)(g : α → Res β):Res β := match r with
 | .ok a=>g a
 | .ex c fs=>.ex c fs
 | .no=>.no
noncomputable def Res.need {α : Type}(r:Res α)(p : α → Prop)(q:Str→List D→Prop):Prop:=match r with
 | .ok a=>p a
 | .ex c fs=>q c fs
 | .no=>False
@[simp] theorem Res.bind_ok {α β : Type}(a : α)(g : α → Res β):(Res.ok a).bind g=g a:=rfl
@[simp] theorem Res.bind_ex {α β : Type}(c:Str)(fs:List D)(g : α → Res β):(Res.ex c fs:Res α).bind g=.ex c fs:=rfl
theorem Res.need_bind {α β : Type}{r:Res α}{g : α → Res β}{p : β → Prop}{q:Str→List D→Prop}(h:(r.bind g).need p q):r.need (fun a=>(g a).need p q) q:=by
 cases r<;>exact h
theorem Res.need.mono {α : Type}{r:Res α}{p p' : α → Prop}{q q':Str→List D→Prop}(h:r.need p q)(hp:∀ a,p a→p' a)(hq:∀ c fs,q c fs→q' c fs):r.need p' q':=by
 cases r with
 | ok a=>exact hp a h
 | ex c fs=>exact hq c fs h
 | no=>exact h
theorem Res.need.monoE {α : Type}{r:Res α}{p p' : α → Prop}{q q':Str→List D→Prop}(h:r.need p q)(hp:∀ a,r=.ok a→p a→p' a)(hq:∀ c fs,q c fs→q' c fs):r.need p' q':=by
 cases r with
 | ok a=>exact hp a rfl h
 | ex c fs=>exact hq c fs h
 | no=>exact h
noncomputable def ExcO (C x:Addr):HO:=.ext fun h => ∃ o,h.get? x=some o∧o.cls=.ref C
noncomputable def TupD (_:PySem.W.Frag)(H:Hp)(a:Addr)(xs:List V):Prop:=H a=some (.tup xs)
theorem TupD.same {K:PySem.W.Frag}{H H':Hp}{a:Addr}{xs:List V}(e:Same H H')(h:TupD K H a xs):TupD K H' a xs:=e _ _ h
theorem TupD.of {K:PySem.W.Frag}{H:Hp}{a:Addr}{xs:List V}(h:H a=some (.tup xs)):TupD K H a xs:=h
theorem TupD.sq {K:PySem.W.Frag}{H:Hp}{a:Addr}{xs:List V}(h:TupD K H a xs):SqT K H a xs:=SqT.of h
noncomputable def LstD (_:PySem.W.Frag)(H:Hp)(a:Addr)(xs:List V):Prop:=Rd H a (.lst xs)
theorem LstD.same {K:PySem.W.Frag}{H H':Hp}{a:Addr}{xs:List V}(e:Same H H')(h:LstD K H a xs):LstD K H' a xs:=h.imp (fun q=>e _ _ q) (by rintro ⟨o,q⟩;exact ⟨o,e _ _ q⟩)
theorem LstD.of {K:PySem.W.Frag}{H:Hp}{a:Addr}{xs:List V}(h:H a=some (.lst xs)):LstD K H a xs:=.inl h
theorem LstD.sq {K:PySem.W.Frag}{H:Hp}{a:Addr}{xs:List V}(h:LstD K H a xs):SqL K H a xs:=.inl h
section
variable (K:PySem.W.Frag)
mutual
noncomputable def IsD (H:Hp):D→V→Prop
 | .non,v=>v=.non
 | .bl b,v=>v=.bl b
 | .int i,v=>v=.int i
 | .str x,v=>v=.str x
 | .ty n,v=>v=.ty n
 | .scr ns,v => ∃ a,v=.ref a∧SqL K H a (ns.map V.int)
 | .tup ds,v => ∃ a xs,v=.ref a∧TupD K H a xs∧IsDs H ds xs
 | .lst ds,v => ∃ a xs,v=.ref a∧LstD K H a xs∧IsDs H ds xs
 | .dct ks ds,v => ∃ a xs,v=.ref a∧H a=some (.dK (ks.zip xs))∧ks.length=xs.length∧IsDs H ds xs
 | .ins c fs ds,v => ∃ a C dx xs,v=.ref a∧PySem.W.nsIn K mainGlobals c=some (some (.ref C))∧H a=some (.ins C dx (fs.zip xs))∧fs.length=xs.length∧IsDs H ds xs
 | .exc c,v => ∃ a C,v=.ref a∧PySem.W.nsIn K mainGlobals c=some (some (.ref C))∧H a=some (ExcO C a)
 | .ucl c,v => ∃ C,v=.ref C∧PySem.W.nsIn K mainGlobals c=some (some (.ref C))
 | .adr a,v=>v=.ref a
 | .dcf ks ds,v => ∃ a o xs,v=.ref a∧H a=some (.frz o (.dK (ks.zip xs)))∧ks.length=xs.length∧IsDs H ds xs
noncomputable def IsDs (H:Hp):List D→List V→Prop
 | [],xs=>xs=[]
 | d::ds,xs => ∃ x r,xs=x::r∧IsD H d x∧IsDs H ds r
end
end
section
variable {K:PySem.W.Frag}{H H':Hp}
theorem IsD.non_iff {v:V}:IsD K H .non v↔v=.non:=.rfl
theorem IsD.bl_iff {b:Bool}{v:V}:IsD K H (.bl b) v↔v=.bl b:=.rfl
theorem IsD.int_iff {i:Int}{v:V}:IsD K H (.int i) v↔v=.int i:=.rfl
theorem IsD.str_iff {x:Str}{v:V}:IsD K H (.str x) v↔v=.str x:=.rfl
theorem IsD.ty_iff {n:String}{v:V}:IsD K H (.ty n) v↔v=.ty n:=.rfl
theorem IsD.scr_iff {ns:List Int}{v:V}:IsD K H (.scr ns) v↔∃ a,v=.ref a∧SqL K H a (ns.map V.int):=.rfl
theorem IsD.tup_iff {ds:List D}{v:V}:IsD K H (.tup ds) v↔∃ a xs,v=.ref a∧TupD K H a xs∧IsDs K H ds xs:=.rfl
theorem IsD.lst_iff {ds:List D}{v:V}:IsD K H (.lst ds) v↔∃ a xs,v=.ref a∧LstD K H a xs∧IsDs K H ds xs:=.rfl
theorem IsD.dct_iff {ks:List Key}{ds:List D}{v:V}:IsD K H (.dct ks ds) v↔∃ a xs,v=.ref a∧H a=some (.dK (ks.zip xs))∧ks.length=xs.length∧IsDs K H ds xs:=.rfl
theorem IsD.ins_iff {c:Str}{fs:List Str}{ds:List D}{v:V}:IsD K H (.ins c fs ds) v↔∃ a C dx xs,v=.ref a∧PySem.W.nsIn K mainGlobals c=some (some (.ref C))∧H a=some (.ins C dx (fs.zip xs))∧fs.length=xs.length∧IsDs K H ds xs:=.rfl
theorem IsD.exc_iff {c:Str}{v:V}:IsD K H (.exc c) v↔∃ a C,v=.ref a∧PySem.W.nsIn K mainGlobals c=some (some (.ref C))∧H a=some (ExcO C a):=.rfl
theorem IsD.ucl_iff {c:Str}{v:V}:IsD K H (.ucl c) v↔∃ C,v=.ref C∧PySem.W.nsIn K mainGlobals c=some (some (.ref C)):=.rfl
theorem IsD.dcf_iff {ks:List Key}{ds:List D}{v:V}:IsD K H (.dcf ks ds) v↔∃ a o xs,v=.ref a∧H a=some (.frz o (.dK (ks.zip xs)))∧ks.length=xs.length∧IsDs K H ds xs:=.rfl
theorem IsDs.nil_iff {xs:List V}:IsDs K H [] xs↔xs=[]:=.rfl
theorem IsDs.cons_iff {d:D}{ds:List D}{xs:List V}:IsDs K H (d::ds) xs↔∃ x r,xs=x::r∧IsD K H d x∧IsDs K H ds r:=.rfl
mutual
theorem IsD.same (e:Same H H'):∀ (d:D) (v:V),IsD K H d v→IsD K H' d v
 | .non,_,h=>h
 | .bl _,_,h=>h
 | .int _,_,h=>h
 | .str _,_,h=>h
 | .ty _,_,h=>h
 | .scr _,_,h=>by
  refine zc1b (IsD.scr_iff.mp h) fun a h1 h2 => ?_
  exact IsD.scr_iff.mpr ⟨a,h1,Same.seq e h2⟩
 | .tup ds,_,h=>by
  refine zc2c (IsD.tup_iff.mp h) fun a xs h1 h2 h3 => ?_
  exact IsD.tup_iff.mpr ⟨a,xs,h1,h2.same e,IsDs.same e ds xs h3⟩
 | .lst ds,_,h=>by
  refine zc2c (IsD.lst_iff.mp h) fun a xs h1 h2 h3 => ?_
  exact IsD.lst_iff.mpr ⟨a,xs,h1,h2.same e,IsDs.same e ds xs h3⟩
 | .dct ks ds,_,h=>by
  refine zc2d (IsD.dct_iff.mp h) fun a xs h1 h2 h4 h3 => ?_
  exact IsD.dct_iff.mpr ⟨a,xs,h1,e _ _ h2,h4,IsDs.same e ds xs h3⟩
 | .ins c fs ds,_,h=>by
  refine zc4a (IsD.ins_iff.mp h) fun a C dx xs zz=>zc0e zz fun h1 h5 h2 h4 h3 => ?_
  exact IsD.ins_iff.mpr ⟨a,C,dx,xs,h1,h5,e _ _ h2,h4,IsDs.same e ds xs h3⟩
 | .exc _,_,h=>by
  refine zc2c (IsD.exc_iff.mp h) fun a C h1 h2 h3 => ?_
  exact IsD.exc_iff.mpr ⟨a,C,h1,h2,e _ _ h3⟩
 | .ucl _,_,h=>h
 | .adr _,_,h=>h
 | .dcf ks ds,_,h=>by
  obtain ⟨a,o,xs,h1,h2,h4,h3⟩:=IsD.dcf_iff.mp h
  exact IsD.dcf_iff.mpr ⟨a,o,xs,h1,e _ _ h2,h4,IsDs.same e ds xs h3⟩
theorem IsDs.same (e:Same H H'):∀ (ds:List D) (xs:List V),IsDs K H ds xs→IsDs K H' ds xs
 | [],_,h=>h
 | d::ds,_,h=>by
  refine zc2c (IsDs.cons_iff.mp h) fun x r h1 h2 h3 => ?_
  exact IsDs.cons_iff.mpr ⟨x,r,h1,IsD.same e d x h2,IsDs.same e ds r h3⟩
end
theorem IsDs.mk {d:D}{ds:List D}{x:V}{xs:List V}(h:IsD K H d x)(r:IsDs K H ds xs):IsDs K H (d::ds) (x::xs):=IsDs.cons_iff.mpr ⟨x,xs,rfl,h,r⟩
theorem IsDs.nil:IsDs K H [] []:=IsDs.nil_iff.mpr rfl
theorem IsDs.length:∀ {ds:List D} {xs:List V},IsDs K H ds xs→xs.length=ds.length
 | [],xs,h=>by rw [IsDs.nil_iff] at h;subst h;rfl
 | d::ds,xs,h=>by
  rw [IsDs.cons_iff] at h
  obtain ⟨x,r,rfl,_,h3⟩:=h
  rw [List.length_cons,List.length_cons,IsDs.length h3]
theorem IsDs.get:∀ {ds:List D} {xs:List V} {i:Nat} {d:D},IsDs K H ds xs→ds[i]? = some d→∃ x,xs[i]? = some x∧IsD K H d x
 | [],_,_,_,_,e=>by exact zqn e
 | d::ds,xs,i,e,h,q=>by
  rw [IsDs.cons_iff] at h
  refine zc2c h fun x r zr2 h2 h3 => ?_
  obtain rfl:=zr2
  cases i with
  | zero=>cases q;exact ⟨x,rfl,h2⟩
  | succ i=>exact IsDs.get (i:=i) h3 q
theorem IsDs.getV {ds:List D}{xs:List V}{i:Nat}{x:V}(h:IsDs K H ds xs)(q:xs[i]? = some x):∃ d,ds[i]? = some d∧IsD K H d x:=by
 have hl:=h.length
 have hi:i<ds.length:=by rw [← hl];exact (List.getElem?_eq_some_iff.mp q).1
 refine zc1b (h.get (List.getElem?_eq_getElem hi)) fun y h1 h2 => ?_
 rw [q] at h1
 obtain rfl:=Option.some.inj h1
 exact ⟨_,List.getElem?_eq_getElem hi,h2⟩
theorem IsDs.append:∀ {ds es:List D} {xs ys:List V},IsDs K H ds xs→IsDs K H es ys→IsDs K H (ds++es) (xs++ys)
 | [],_,xs,_,h,h'=>by rw [IsDs.nil_iff] at h;subst h;exact h'
 | d::ds,_,xs,_,h,h'=>by
  rw [IsDs.cons_iff] at h
  refine zc2c h fun x r zr2 h2 h3 => ?_
  obtain rfl:=zr2
  exact IsDs.mk h2 (IsDs.append h3 h')
theorem IsDs.snoc {ds:List D}{xs:List V}{d:D}{x:V}(h:IsDs K H ds xs)(h':IsD K H d x):IsDs K H (ds++[d]) (xs++[x]):=h.append (.mk h' .nil)
theorem IsDs.set:∀ (n:Nat) {ds:List D} {xs:List V} {d:D} {x:V},IsDs K H ds xs→IsD K H d x→IsDs K H (ds.set n d) (xs.set n x)
 | _,[],xs,_,_,h,_=>by rw [IsDs.nil_iff] at h;subst h;exact .nil
 | 0,d::ds,xs,_,_,h,q=>by
  rw [IsDs.cons_iff] at h
  refine zc2c h fun x r zr2 h2 h3 => ?_
  obtain rfl:=zr2
  exact IsDs.mk q h3
 | n+1,d::ds,xs,_,_,h,q=>by
  rw [IsDs.cons_iff] at h
  refine zc2c h fun x r zr2 h2 h3 => ?_
  obtain rfl:=zr2
  exact IsDs.mk h2 (IsDs.set n h3 q)
theorem IsDs.ints:∀ (ns:List Int),IsDs K H (ns.map D.int) (ns.map V.int)
 | []=>.nil
 | n::ns=>.mk (IsD.int_iff.mpr rfl) (IsDs.ints ns)
theorem IsDs.ints_iff:∀ {ns:List Int} {xs:List V},IsDs K H (ns.map D.int) xs→xs=ns.map V.int
 | [],_,h=>IsDs.nil_iff.mp h
 | n::ns,xs,h=>by
  rw [List.map_cons,IsDs.cons_iff] at h
  obtain ⟨x,r,rfl,h2,h3⟩:=h
  rw [IsD.int_iff] at h2
  rw [h2,IsDs.ints_iff h3]
  rfl
end
structure Ext (F H F' H':Hp):Prop where
 ff:Same F F'
 fh:Same F' H'
 hh:Same H H'
 new:∀ a,F a=none→H a≠none→F' a=none
theorem Ext.refl {F H:Hp}(h:Same F H):Ext F H F H:=⟨.refl _,h,.refl _,fun _ e _=>e⟩
theorem Ext.trans {F H F1 H1 F2 H2:Hp}(a:Ext F H F1 H1)(b:Ext F1 H1 F2 H2):Ext F H F2 H2 :=
 ⟨a.ff.trans b.ff,b.fh,a.hh.trans b.hh,fun x e n=>b.new x (a.new x e n) (by
  cases q:H x with
  | none=>exact absurd q n
  | some o=>rw [a.hh _ _ q];simp)⟩
theorem za8 {F H:Hp}{p:Addr}(h:Same F H)(hp:H p=none):F p=none:=h.free hp
theorem Ext.alloc {F H:Hp}{p:Addr}(h:Same F H)(hp:H p=none)(o:HO):Ext F H (upd F p o) (upd H p o) :=
 ⟨zbe (h.free hp) o,fun b u e=>by
  by_cases q:b=p
  ·subst q;rw [zam] at e ⊢;exact e
  ·rw [zaj q] at e ⊢;exact h _ _ e,zbe hp o,fun a e n=>by
  have q:a≠p:=fun z=>n (by rw [z];exact hp)
  rw [zaj q];exact e⟩
theorem Ext.keep {F H:Hp}{p:Addr}(h:Same F H)(hp:H p=none)(o:HO):Ext F H F (upd H p o) :=
 ⟨.refl _,h.trans (zbe hp o),zbe hp o,fun _ e _=>e⟩
theorem Ext.grow {F H H':Hp}(h:Same F H)(hh:Same H H'):Ext F H F H':=⟨.refl _,h.trans hh,hh,fun _ e _=>e⟩
inductive SV where
 | val (d:D)|own (p:Bool) (d:D)
structure Bs where
 F0:Hp
 H0:Hp
 pa:Nat→Option (Addr×List V)
abbrev SD:=List (Option SV)
def zcI (K:PySem.W.Frag)(F H:Hp)(l:Addr):D→Prop
 | .lst ds => ∃ xs,H l=some (.lst xs)∧IsDs K F ds xs
 | .dct ks ds => ∃ xs,H l=some (.dK (ks.zip xs))∧ks.length=xs.length∧IsDs K F ds xs
 | .ins c fs ds => ∃ C dx xs,PySem.W.nsIn K mainGlobals c=some (some (.ref C))∧H l=some (.ins C dx (fs.zip xs))∧fs.length=xs.length∧IsDs K F ds xs
 | _=>False
theorem zcI.has {K:PySem.W.Frag}{F H:Hp}{l:Addr}{d:D}(h:zcI K F H l d):∃ o,H l=some o:=by
 cases d with
 | lst ds=>obtain ⟨xs,e,_⟩:=h;exact ⟨_,e⟩
 | dct ks ds=>obtain ⟨xs,e,_⟩:=h;exact ⟨_,e⟩
 | ins c fs ds=>obtain ⟨C,dx,xs,_,e,_⟩:=h;exact ⟨_,e⟩
 | _=>exact False.elim h
theorem zcI.ext {K:PySem.W.Frag}{F H F' H':Hp}{l:Addr}{d:D}(h:zcI K F H l d)(ff:Same F F')(hh:∀ o,H l=some o→H' l=some o):zcI K F' H' l d:=by
 cases d with
 | lst ds=>obtain ⟨xs,e,q⟩:=h;exact ⟨xs,hh _ e,IsDs.same ff _ _ q⟩
 | dct ks ds=>obtain ⟨xs,e,z,q⟩:=h;exact ⟨xs,hh _ e,z,IsDs.same ff _ _ q⟩
 | ins c fs ds=>obtain ⟨C,dx,xs,k,e,z,q⟩:=h;exact ⟨C,dx,xs,k,hh _ e,z,IsDs.same ff _ _ q⟩
 | _=>exact False.elim h
theorem zcI.frz {K:PySem.W.Frag}{F H:Hp}{l:Addr}{d:D}{o:HO}(h:zcI K F H l d)(e:H l=Option.some o)(n:F l=none):IsD K (upd F l o) d (.ref l):=by
 cases d with
 | lst ds =>
  refine zc1b h fun xs e' q => ?_
  rw [e] at e';obtain rfl:=Option.some.inj e'
  exact IsD.lst_iff.mpr ⟨l,xs,rfl,.of zam,IsDs.same (zbe n _) _ _ q⟩
 | dct ks ds =>
  refine zc1c h fun xs e' z q => ?_
  rw [e] at e';obtain rfl:=Option.some.inj e'
  exact IsD.dct_iff.mpr ⟨l,xs,rfl,zam,z,IsDs.same (zbe n _) _ _ q⟩
 | ins c fs ds =>
  refine zc3a h fun C dx xs zz=>zc0d zz fun k e' z q => ?_
  rw [e] at e';obtain rfl:=Option.some.inj e'
  exact IsD.ins_iff.mpr ⟨l,C,dx,xs,rfl,k,zam,z,IsDs.same (zbe n _) _ _ q⟩
 | _=>exact False.elim h
noncomputable def zjE (H:Hp)(l:Addr)(o:Option (Addr×List V)):Prop:=∃ xs,o=some (l,xs)∧H l=some (.lst xs)
structure RS (K:PySem.W.Frag)(B:Bs)(F H:Hp)(sd:SD)(σ : St):Prop where
 ext:Ext B.F0 B.H0 F H
 len : σ.length=sd.length
 val:∀ {i:Nat} {d:D},sd[i]? = some (some (.val d))→∃ v,σ[i]? = some (some v)∧IsD K F d v
 own:∀ {i:Nat} {p:Bool} {d:D},sd[i]? = some (some (.own p d))→∃ l,σ[i]? = some (some (.ref l))∧B.H0 l=none∧F l=none∧zcI K F H l d∧(p=true→zjE H l (B.pa i))
 apart:∀ {i j:Nat} {p q:Bool} {d e:D} {l:Addr},i≠j→sd[i]? = some (some (.own p d))→sd[j]? = some (some (.own q e)) → σ[i]? = some (some (.ref l)) → σ[j]? ≠ some (some (.ref l))
section
variable {K:PySem.W.Frag}{B:Bs}{F H F' H':Hp}{sd:SD}{σ : St}
theorem zjE.mono {l:Addr}{o:Option (Addr×List V)}(h:zjE H l o)(k:∀ u,H l=some u→H' l=some u):zjE H' l o:=let ⟨xs,h1,h2⟩:=h;⟨xs,h1,k _ h2⟩
theorem RS.step (r:RS K B F H sd σ)(e:Ext F H F' H'):RS K B F' H' sd σ where
 ext:=r.ext.trans e
 len:=r.len
 val:=fun h=>let ⟨v,h1,h2⟩:=r.val h;⟨v,h1,IsD.same e.ff _ _ h2⟩
 own:=fun h=>by
  refine zc1e (r.own h) fun l h1 h2 h3 h4 h5 => ?_
  obtain ⟨o,ho⟩:=h4.has
  exact ⟨l,h1,h2,e.new l h3 (by rw [ho];simp),h4.ext e.ff fun o q=>e.hh _ _ q,fun p=>(h5 p).mono fun u q=>e.hh _ _ q⟩
 apart:=r.apart
theorem zak {α : Type}{l:List α}{i j:Nat}{a : α}(h:i≠j):(l.set i a)[j]? = l[j]? := List.getElem?_set_ne h
theorem zaq {α : Type}{l:List α}{i:Nat}{a b : α}(h:(l.set i a)[i]? = some b):b=a∧i<l.length:=by
 have hi:i<l.length:=by
  have:=(List.getElem?_eq_some_iff.mp h).1
  rwa [List.length_set] at this
 rw [List.getElem?_set_self hi] at h
 exact ⟨(Option.some.inj h).symm,hi⟩
theorem RS.setVal {i:Nat}{d:D}{v:V}(r:RS K B F H sd σ)(h:IsD K F d v):RS K B F H (sd.set i (some (.val d))) (σ.set i (some v)) where
 ext:=r.ext
 len:=by rw [List.length_set,List.length_set,r.len]
 val:=fun {j e} q=>by
  by_cases z:i=j
  ·subst z
   obtain ⟨e1,hi⟩:=zaq q
   cases e1
   exact ⟨v,List.getElem?_set_self (by rw [r.len];exact hi),h⟩
  ·rw [zak z] at q ⊢
   exact r.val q
 own:=fun {j p e} q=>by
  by_cases z:i=j
  ·subst z
   obtain ⟨e1,_⟩:=zaq q
   cases e1
  ·rw [zak z] at q ⊢
   exact r.own q
 apart:=fun {j k p1 p2 d1 d2 l} n q1 q2 q3=>by
  have z1:i≠j:=fun z=>by subst z;obtain ⟨e1,_⟩:=zaq q1;cases e1
  have z2:i≠k:=fun z=>by subst z;obtain ⟨e1,_⟩:=zaq q2;cases e1
  rw [zak z1] at q1 q3
  rw [zak z2] at q2 ⊢
  exact r.apart n q1 q2 q3
theorem RS.setOwn {i:Nat}{d:D}{l:Addr}(r:RS K B F H sd σ)(h0:B.H0 l=none)(hf:F l=none)(h:zcI K F H l d)(fr:∀ (j:Nat) (p:Bool) (e:D),sd[j]? = some (some (SV.own p e)) → σ[j]? ≠ some (some (.ref l))) :
 RS K B F H (sd.set i (some (.own false d))) (σ.set i (some (.ref l))) where
 ext:=r.ext
 len:=by rw [List.length_set,List.length_set,r.len]
 val:=fun {j e} q=>by
  by_cases z:i=j
  ·subst z
   obtain ⟨e1,_⟩:=zaq q
   cases e1
  ·rw [zak z] at q ⊢
   exact r.val q
 own:=fun {j p e} q=>by
  by_cases z:i=j
  ·subst z
   obtain ⟨e1,hi⟩:=zaq q
   cases e1
   exact ⟨l,List.getElem?_set_self (by rw [r.len];exact hi),h0,hf,h,fun z=>by cases z⟩
  ·rw [zak z] at q ⊢
   exact r.own q
 apart:=fun {j k p1 p2 d1 d2 m} n q1 q2 q3=>by
  by_cases z1:i=j
  ·subst z1
   obtain ⟨_,hi⟩:=zaq q1
   rw [zak n] at q2 ⊢
   rw [List.getElem?_set_self (by rw [r.len];exact hi)] at q3
   cases q3
   exact fr k p2 d2 q2
  ·rw [zak z1] at q1 q3
   by_cases z2:i=k
   ·subst z2
    obtain ⟨_,hi⟩:=zaq q2
    rw [List.getElem?_set_self (by rw [r.len];exact hi)]
    intro e
    cases e
    exact fr j p1 d1 q1 q3
   ·rw [zak z2] at q2 ⊢
    exact r.apart n q1 q2 q3
theorem RS.chg {i:Nat}{p:Bool}{d d':D}{l:Addr}{o:HO}(r:RS K B F H sd σ)(hi:sd[i]? = some (some (.own p d)))(hl : σ[i]? = some (some (.ref l)))(h:zcI K F (upd H l o) l d') :
 RS K B F (upd H l o) (sd.set i (some (.own false d'))) σ := by
 refine zc1e (r.own hi) fun l' e1 h0 hf _ _ => ?_
 rw [hl] at e1
 cases e1
 have hil:i<sd.length:=(List.getElem?_eq_some_iff.mp hi).1
 refine ⟨⟨r.ext.ff,zfG o r.ext.fh hf,zfG o r.ext.hh h0,r.ext.new⟩,by rw [List.length_set,r.len],fun {j e} q => ?_,fun {j p e} q => ?_,fun {j k p1 p2 d1 d2 m} n q1 q2 q3 => ?_⟩
 ·by_cases z:i=j
  ·subst z
   obtain ⟨e1,_⟩:=zaq q
   cases e1
  ·rw [zak z] at q
   exact r.val q
 ·by_cases z:i=j
  ·subst z
   obtain ⟨e1,_⟩:=zaq q
   cases e1
   exact ⟨l,hl,h0,hf,h,fun z=>by cases z⟩
  ·rw [zak z] at q
   refine zc1e (r.own q) fun m m1 m2 m3 m4 m5 => ?_
   have ne:m≠l:=fun e=>r.apart z hi q hl (by rw [← e];exact m1)
   exact ⟨m,m1,m2,m3,m4.ext (.refl _) fun u q'=>by rw [zaj ne];exact q',fun p=>(m5 p).mono fun u q'=>by rw [zaj ne];exact q'⟩
 ·have g:∀ {j:Nat} {p:Bool} {e:D},(sd.set i (some (.own false d')))[j]? = some (some (.own p e))→∃ p' e',sd[j]? = some (some (.own p' e')):=fun {j p e} q=>by
   by_cases z:i=j
   ·subst z;exact ⟨_,d,hi⟩
   ·rw [zak z] at q;exact ⟨p,e,q⟩
  refine zc2a (g q1) fun _ _ p1 => ?_
  refine zc2a (g q2) fun _ _ p2 => ?_
  exact r.apart n p1 p2 q3
theorem RS.frz1 {i:Nat}{p:Bool}{d:D}(r:RS K B F H sd σ)(hi:sd[i]? = some (some (.own p d))):∃ F',Same F F'∧RS K B F' H (sd.set i (some (.val d))) σ := by
 refine zc1e (r.own hi) fun l hl h0 hf ho _ => ?_
 obtain ⟨o,e⟩:=ho.has
 have hil:i<sd.length:=(List.getElem?_eq_some_iff.mp hi).1
 have sF:Same F (upd F l o):=zbe hf o
 refine ⟨upd F l o,sF,⟨r.ext.ff.trans sF,fun b u q => ?_,r.ext.hh,fun a q1 q2 => ?_⟩,by rw [List.length_set,r.len],fun {j x} q => ?_,fun {j p x} q => ?_,fun {j k p1 p2 d1 d2 m} n q1 q2 q3 => ?_⟩
 ·by_cases z:b=l
  ·subst z;rw [zam] at q;cases q;exact e
  ·rw [zaj z] at q;exact r.ext.fh _ _ q
 ·have z:a≠l:=fun z=>q2 (by rw [z];exact h0)
  rw [zaj z]
  exact r.ext.new a q1 q2
 ·by_cases z:i=j
  ·subst z
   obtain ⟨e1,_⟩:=zaq q
   cases e1
   exact ⟨_,hl,ho.frz e hf⟩
  ·rw [zak z] at q
   refine zc1b (r.val q) fun v v1 v2 => ?_
   exact ⟨v,v1,IsD.same sF _ _ v2⟩
 ·by_cases z:i=j
  ·subst z
   obtain ⟨e1,_⟩:=zaq q
   cases e1
  ·rw [zak z] at q
   refine zc1e (r.own q) fun m m1 m2 m3 m4 m5 => ?_
   have ne:m≠l:=fun e=>r.apart z hi q hl (by rw [← e];exact m1)
   exact ⟨m,m1,m2,by rw [zaj ne];exact m3,m4.ext sF fun u q'=>q',m5⟩
 ·have z1:i≠j:=fun z=>by subst z;obtain ⟨e1,_⟩:=zaq q1;cases e1
  have z2:i≠k:=fun z=>by subst z;obtain ⟨e1,_⟩:=zaq q2;cases e1
  rw [zak z1] at q1
  rw [zak z2] at q2
  exact r.apart n q1 q2 q3
noncomputable def frzD:List Nat→SD→SD
 | [],sd=>sd
 | i::is,sd=>frzD is (match sd[i]? with
  | some (some (.own _ d))=>sd.set i (some (.val d))
  | _=>sd)
theorem RS.frz:∀ (is:List Nat) {F:Hp} {sd:SD},RS K B F H sd σ → ∃ F',Same F F'∧RS K B F' H (frzD is sd) σ
 | [],F,sd,r=>⟨F,.refl _,r⟩
 | i::is,F,sd,r=>by
  unfold frzD
  split
  ·rename_i p d h
   refine zc1b (r.frz1 h) fun F1 s1 r1 => ?_
   refine zc1b (RS.frz is r1) fun F2 s2 r2 => ?_
   exact ⟨F2,s1.trans s2,r2⟩
  ·exact RS.frz is r
end
end L2.DL
namespace L2.DL
open PySem PySem.Spec PyProof.Rows
def ExcIs (K:PySem.W.Frag)(F H:Hp)(c:Str)(fs:List D)(cv:Value)(a:Option Addr):Prop :=
 ∃ C,cv=.ref C∧PySem.W.nsIn K mainGlobals c=some (some (.ref C))∧(fs=[]∨∃ p n d x,fs=[d]∧a=some p∧H p=some (.xd [(n,x)])∧IsD K F d x)
def XW (K:PySem.W.Frag)(E:XK)(F H:Hp)(c:Str)(fs:List D):Prop:=∀ cv a F' H',Ext F H F' H'→ExcIs K F' H' c fs cv a→E cv a H'
theorem XW.ext {K:PySem.W.Frag}{E:XK}{F H F' H':Hp}{c:Str}{fs:List D}(h:XW K E F H c fs)(e:Ext F H F' H'):XW K E F' H' c fs:=fun cv a F2 H2 e2 q=>h cv a F2 H2 (e.trans e2) q
abbrev FE:=SD→Res D
abbrev FT:=SD→Res Bool
abbrev FA:=SD→Res (List D)
def OkD (K:PySem.W.Frag)(F H:Hp)(Q:VK)(d:D):Prop:=∀ v F' H',Ext F H F' H'→IsD K F' d v→Q v H'
noncomputable def OkB (F H:Hp)(Q:Bool→Hp→Prop)(b:Bool):Prop:=∀ F' H',Ext F H F' H'→Q b H'
def OkA (K:PySem.W.Frag)(F H:Hp)(Q:List V→Hp→Prop)(ds:List D):Prop:=∀ vs F' H',Ext F H F' H'→IsDs K F' ds vs→Q vs H'
def OkN (K:PySem.W.Frag)(F H:Hp)(Q:VK)(d:D):Prop:=∀ l F' H',Ext F H F' H'→H l=none→F' l=none→zcI K F' H' l d→Q (.ref l) H'
def tD (K:PySem.W.Frag)(E:XK)(f:FE):TE:=fun σ H Q => ∃ B F sd,RS K B F H sd σ ∧ (f sd).need (OkD K F H Q) (XW K E F H)
def tDT (K:PySem.W.Frag)(E:XK)(f:FT):TT:=fun σ H Q => ∃ B F sd,RS K B F H sd σ ∧ (f sd).need (OkB F H Q) (XW K E F H)
def tDA (K:PySem.W.Frag)(E:XK)(f:FA):TA:=fun σ H Q => ∃ B F sd,RS K B F H sd σ ∧ (f sd).need (OkA K F H Q) (XW K E F H)
def tDN (K:PySem.W.Frag)(E:XK)(f:FE):TE:=fun σ H Q => ∃ B F sd,RS K B F H sd σ ∧ (f sd).need (OkN K F H Q) (XW K E F H)
abbrev QE (X:Cx)(E:XK)(e:Expr)(f:FE):Prop:=PE X e (tD X.K E f)
abbrev QT (X:Cx)(E:XK)(e:Expr)(f:FT):Prop:=PT X e (tDT X.K E f)
abbrev QW (X:Cx)(E:XK)(e:Expr)(f:FT):Prop:=PW X e (tDT X.K E f)
abbrev QA (X:Cx)(E:XK)(es:List Expr)(f:FA):Prop:=PA X es (tDA X.K E f)
abbrev QN (X:Cx)(E:XK)(e:Expr)(f:FE):Prop:=PE X e (tDN X.K E f)
theorem PE.weak {X:Cx}{e:Expr}{t t':TE}(h:PE X e t)(w:∀ σ H Q,t' σ H Q→t σ H Q):PE X e t':=fun pins s σ H Q I q=>h pins s σ H Q I (w _ _ _ q)
theorem PT.weak {X:Cx}{e:Expr}{t t':TT}(h:PT X e t)(w:∀ σ H Q,t' σ H Q→t σ H Q):PT X e t':=fun pins s σ H Q I q=>h pins s σ H Q I (w _ _ _ q)
theorem PW.weak {X:Cx}{e:Expr}{t t':TT}(h:PW X e t)(w:∀ σ H Q,t' σ H Q→t σ H Q):PW X e t':=fun whole pins s σ H Q I q=>h whole pins s σ H Q I (w _ _ _ q)
theorem PA.weak {X:Cx}{e:List Expr}{t t':TA}(h:PA X e t)(w:∀ σ H Q,t' σ H Q→t σ H Q):PA X e t':=fun pos pins s σ H Q I q=>h pos pins s σ H Q I (w _ _ _ q)
theorem PS.weak {X:Cx}{e:Stmt}{t t':TS}(h:PS X e t)(w:∀ D σ H,t' D σ H→t D σ H):PS X e t':=fun pins s σ H D I q=>h pins s σ H D I (w _ _ _ q)
theorem PSs.weak {X:Cx}{e:List Stmt}{t t':TS}(h:PSs X e t)(w:∀ D σ H,t' D σ H→t D σ H):PSs X e t':=fun pins s σ H D I q=>h pins s σ H D I (w _ _ _ q)
theorem PI.weak {X:Cx}{tg e:Expr}{t t':TI}(h:PI X tg e t)(w:∀ σ H R,t' σ H R→t σ H R):PI X tg e t':=fun pins s σ H R I q=>h pins s σ H R I (w _ _ _ q)
section
variable {K:PySem.W.Frag}{E:XK}{F H F' H':Hp}
theorem OkD.ext {Q:VK}{d:D}(h:OkD K F H Q d)(e:Ext F H F' H'):OkD K F' H' Q d:=fun v F2 H2 e2 q=>h v F2 H2 (e.trans e2) q
theorem OkB.ext {Q:Bool→Hp→Prop}{b:Bool}(h:OkB F H Q b)(e:Ext F H F' H'):OkB F' H' Q b:=fun F2 H2 e2=>h F2 H2 (e.trans e2)
theorem OkN.ext {Q:VK}{d:D}(h:OkN K F H Q d)(e:Ext F H F' H'):OkN K F' H' Q d:=fun l F2 H2 e2 q=>h l F2 H2 (e.trans e2) (za8 e.hh q)
theorem ziK {Q:VK}{r:Res D}(h:r.need (OkD K F H Q) (XW K E F H))(e:Ext F H F' H'):r.need (OkD K F' H' Q) (XW K E F' H'):=h.mono (fun _ q=>q.ext e) fun _ _ q=>q.ext e
theorem zmV {Q:Bool→Hp→Prop}{r:Res Bool}(h:r.need (OkB F H Q) (XW K E F H))(e:Ext F H F' H'):r.need (OkB F' H' Q) (XW K E F' H'):=h.mono (fun _ q=>q.ext e) fun _ _ q=>q.ext e
theorem zpu {Q:VK}{r:Res D}(h:r.need (OkN K F H Q) (XW K E F H))(e:Ext F H F' H'):r.need (OkN K F' H' Q) (XW K E F' H'):=h.mono (fun _ q=>q.ext e) fun _ _ q=>q.ext e
theorem OkD.new {Q:VK}{d:D}(h:OkD K F H Q d):OkN K F H Q d:=fun l F' H' e n n' o=>by
 obtain ⟨u,hu⟩:=o.has
 refine h (.ref l) (upd F' l u) H' ⟨e.ff.trans (zbe n' u),fun b v q => ?_,e.hh,fun a q1 q2 => ?_⟩ (o.frz hu n')
 ·by_cases z:b=l
  ·subst z;rw [zam] at q;cases q;exact hu
  ·rw [zaj z] at q;exact e.fh _ _ q
 ·have z:a≠l:=fun z=>q2 (by rw [z];exact n)
  rw [zaj z];exact e.new a q1 q2
end
section
variable {X:Cx}{E:XK}
theorem QN.qe {e:Expr}{f:FE}(h:QN X E e f):QE X E e f:=PE.weak h (by rintro σ H Q ⟨B,F,sd,r,n⟩;exact ⟨B,F,sd,r,n.mono (fun _ q=>q.new) fun _ _ q=>q⟩)
noncomputable def dVar (i:Nat):FE:=fun sd=>match sd[i]? with
 | some (some (.val d))=>.ok d
 | _=>.no
noncomputable def dC (d:D):FE:=fun _=>.ok d
theorem zac {i:Nat}{e:Expr}(h:PE X e (tVar i)):QE X E e (dVar i):=PE.weak h fun σ H Q zh=>by
 refine zc3b zh fun B F sd r n => ?_
 unfold dVar at n
 split at n
 ·rename_i d q
  refine zc1b (r.val q) fun v h1 h2 => ?_
  exact ⟨v,h1,n v F H (.refl r.ext.fh) h2⟩
 ·exact n.elim
theorem zc2 {e:Expr}{v:V}{d:D}(h:PE X e (tC v))(i:∀ F,IsD X.K F d v):QE X E e (dC d):=PE.weak h (by rintro σ H Q ⟨B,F,sd,r,n⟩;exact n v F H (.refl r.ext.fh) (i F))
theorem zad {i j pos}:QE X E (.Constant (.int i) j pos) (dC (.int i)):=zc2 zpq fun _=>IsD.int_iff.mpr rfl
theorem zkn {b j pos}:QE X E (.Constant (.bool b) j pos) (dC (.bl b)):=zc2 pe_bl fun _=>IsD.bl_iff.mpr rfl
theorem zpk {j pos}:QE X E (.Constant .none j pos) (dC .non):=zc2 znq fun _=>IsD.non_iff.mpr rfl
theorem zas {x j pos}:QE X E (.Constant (.str x) j pos) (dC (.str x)):=zc2 zkP fun _=>IsD.str_iff.mpr rfl
noncomputable def Res.ofO {α : Type}:Option α → Res α
 | some a=>.ok a
 | none=>.no
@[simp] theorem Res.ofO_some {α : Type}(a : α):Res.ofO (some a)=.ok a:=rfl
theorem Res.need_ofO {α : Type}{o:Option α}{p : α → Prop}{q:Str→List D→Prop}(h:(Res.ofO o).need p q):∃ a,o=some a∧p a:=by
 cases o with
 | none=>exact h.elim
 | some a=>exact ⟨a,rfl,h⟩
def dOp (g:D→D→Option D)(fa fb:FE):FE:=fun sd=>(fa sd).bind fun x=>(fb sd).bind fun y=>.ofO (g x y)
def dUn (g:D→Option D)(fa:FE):FE:=fun sd=>(fa sd).bind fun x=>.ofO (g x)
def rD2 (K:PySem.W.Frag)(g:D→D→Option D):R2:=fun v w H Q => ∃ F d e z,Same F H∧IsD K F d v∧IsD K F e w∧g d e=some z∧OkD K F H Q z
def rD2N (K:PySem.W.Frag)(g:D→D→Option D):R2:=fun v w H Q => ∃ F d e z,Same F H∧IsD K F d v∧IsD K F e w∧g d e=some z∧OkN K F H Q z
def rD1 (K:PySem.W.Frag)(g:D→Option D):V→Hp→VK→Prop:=fun v H Q => ∃ F d z,Same F H∧IsD K F d v∧g d=some z∧OkD K F H Q z
def rDA (K:PySem.W.Frag)(g:List D→Option D):List V→Hp→VK→Prop:=fun vs H Q => ∃ F ds z,Same F H∧IsDs K F ds vs∧g ds=some z∧OkD K F H Q z
def rDAN (K:PySem.W.Frag)(g:List D→Option D):List V→Hp→VK→Prop:=fun vs H Q => ∃ F ds z,Same F H∧IsDs K F ds vs∧g ds=some z∧OkN K F H Q z
theorem zij {K:PySem.W.Frag}{g:D→D→Option D}{fa fb:FE}{σ : St}{H:Hp}{Q:VK}(h:tD K E (dOp g fa fb) σ H Q):tOp (rD2 K g) (tD K E fa) (tD K E fb) σ H Q:=by
 refine zc3b h fun B F sd r n => ?_
 refine ⟨B,F,sd,r,(Res.need_bind n).mono (fun x n1 v F1 H1 e1 i1 => ?_) fun _ _ q=>q⟩
 refine ⟨B,F1,sd,r.step e1,(Res.need_bind n1).mono (fun y n2 w F2 H2 e2 i2 => ?_) fun _ _ q=>q.ext e1⟩
 refine zc1b (Res.need_ofO n2) fun z hz q => ?_
 exact ⟨F2,x,y,z,e2.fh,IsD.same e2.ff _ _ i1,i2,hz,q.ext (e1.trans e2)⟩
theorem znG {K:PySem.W.Frag}{g:D→D→Option D}{fa fb:FE}{σ : St}{H:Hp}{Q:VK}(h:tDN K E (dOp g fa fb) σ H Q):tOp (rD2N K g) (tD K E fa) (tD K E fb) σ H Q:=by
 refine zc3b h fun B F sd r n => ?_
 refine ⟨B,F,sd,r,(Res.need_bind n).mono (fun x n1 v F1 H1 e1 i1 => ?_) fun _ _ q=>q⟩
 refine ⟨B,F1,sd,r.step e1,(Res.need_bind n1).mono (fun y n2 w F2 H2 e2 i2 => ?_) fun _ _ q=>q.ext e1⟩
 refine zc1b (Res.need_ofO n2) fun z hz q => ?_
 exact ⟨F2,x,y,z,e2.fh,IsD.same e2.ff _ _ i1,i2,hz,q.ext (e1.trans e2)⟩
theorem tD_un {K:PySem.W.Frag}{g:D→Option D}{fa:FE}{σ : St}{H:Hp}{Q:VK}(h:tD K E (dUn g fa) σ H Q):tUn (rD1 K g) (tD K E fa) σ H Q:=by
 refine zc3b h fun B F sd r n => ?_
 refine ⟨B,F,sd,r,(Res.need_bind n).mono (fun x n1 v F1 H1 e1 i1 => ?_) fun _ _ q=>q⟩
 refine zc1b (Res.need_ofO n1) fun z hz q => ?_
 exact ⟨F1,x,z,e1.fh,i1,hz,q.ext e1⟩
abbrev OpD (X:Cx)(f:Value→Value→Sem Value)(g:D→D→Option D):Prop:=OpR X f (rD2 X.K g)
abbrev OpDN (X:Cx)(f:Value→Value→Sem Value)(g:D→D→Option D):Prop:=OpR X f (rD2N X.K g)
theorem OpR.weak {f:Value→Value→Sem Value}{r r':R2}(h:OpR X f r)(w:∀ x y H Q,r' x y H Q→r x y H Q):OpR X f r':=fun pins s σ H x y v u Q I rx ry q=>h pins s σ H x y v u Q I rx ry (w _ _ _ _ q)
theorem UnR.weak {f:Value→Sem Value}{r r':V→Hp→VK→Prop}(h:UnR X f r)(w:∀ x H Q,r' x H Q→r x H Q):UnR X f r':=fun pins s σ H x v Q I rx q=>h pins s σ H x v Q I rx (w _ _ _ q)
theorem zaJ.weak {f:Value}{r r':List V→Hp→VK→Prop}(h:zaJ X f r)(w:∀ x H Q,r' x H Q→r x H Q):zaJ X f r':=fun pins s σ H x v Q I rx q=>h pins s σ H x v Q I rx (w _ _ _ q)
theorem IxR.weak {r r':R2}(h:IxR X r)(w:∀ x y H Q,r' x y H Q→r x y H Q):IxR X r':=fun value slice pins s σ H x y v u Q I rx ry q e=>h value slice pins s σ H x y v u Q I rx ry (w _ _ _ _ q) e
variable {a b:Expr}{fa fb:FE}{pos:Pos}
theorem q_op {op:Operator}{g:D→D→Option D}(ho:OpD X (binaryOp op) g)(ha:QE X E a fa)(hb:QE X E b fb):QE X E (.BinOp a op b pos) (dOp g fa fb):=PE.weak (zou ho ha hb) fun _ _ _ h=>zij h
theorem zjn {op:Operator}{g:D→D→Option D}(ho:OpDN X (binaryOp op) g)(ha:QE X E a fa)(hb:QE X E b fb):QN X E (.BinOp a op b pos) (dOp g fa fb):=PE.weak (zou ho ha hb) fun _ _ _ h=>znG h
theorem q_un {op:UnaryOp}{g:D→Option D}(ho:UnR X (unaryOp op) (rD1 X.K g))(ha:QE X E a fa):QE X E (.UnaryOp op a pos) (dUn g fa):=PE.weak (pe_un ho ha) fun _ _ _ h=>tD_un h
theorem zgU {op:CmpOp}{g:D→D→Option D}(ho:OpD X (compareOp op) g)(ha:QE X E a fa)(hb:QE X E b fb)(hm:behindInMarks op b=false):QE X E (.Compare a [op] [b] pos) (dOp g fa fb):=PE.weak (zhH ho ha hb hm) fun _ _ _ h=>zij h
def zap (fa:FE):FT:=fun sd=>(fa sd).bind fun x=>match x with
 | .bl b=>.ok b
 | _=>.no
theorem zci {K:PySem.W.Frag}{σ : St}{H:Hp}{Q:Bool→Hp→Prop}(h:tDT K E (zap fa) σ H Q):tD K E fa σ H (fun x H' => ∃ k,x=.bl k∧Q k H'):=by
 refine zc3b h fun B F sd r n => ?_
 refine ⟨B,F,sd,r,(Res.need_bind n).mono (fun x n1 v F1 H1 e1 i1 => ?_) fun _ _ q=>q⟩
 cases x with
 | bl k=>exact ⟨k,IsD.bl_iff.mp i1,n1 F1 H1 e1⟩
 | _=>exact n1.elim
theorem za5 {op:CmpOp}{g:D→D→Option D}(ho:OpD X (compareOp op) g)(ha:QE X E a fa)(hb:QE X E b fb)(hm:behindInMarks op b=false):QT X E (.Compare a [op] [b] pos) (zap (dOp g fa fb)) :=
 PT.weak (zhM ho ha hb hm) fun σ H Q h=>by
  have h:=zci h
  exact zij h
theorem zcr (ha:QE X E a fa)(he:autoParam (∀ whole,isTrue a X.env whole=(do let v ← whole;standAt a.pos;holding [v] (truthy v))) zaw._auto_1):QT X E a (zap fa):=PT.weak (zoA ha he) fun σ H Q q=>zci q
def zbT (f:FT):FT:=fun sd=>(f sd).bind fun b=>.ok (!b)
def zeu (f g:FT):FT:=fun sd=>(f sd).bind fun b=>if b then g sd else .ok false
def dOrT (f g:FT):FT:=fun sd=>(f sd).bind fun b=>if b then .ok true else g sd
variable {f g:FT}{rest:List Expr}
theorem zcp (ha:QT X E a f):QT X E (.UnaryOp .Not a pos) (zbT f):=PT.weak (zoo ha) fun σ H Q ⟨B,F,sd,r,n⟩ =>
 ⟨B,F,sd,r,(Res.need_bind n).mono (fun _ q=>q) fun _ _ q=>q⟩
theorem zdy (ha:QT X E a f):QW X E (.BoolOp .And [a] pos) f:=zmf ha
theorem zfN (ha:QT X E a f):QW X E (.BoolOp .Or [a] pos) f:=zo3 ha
theorem zeC (ha:QT X E a f)(hb:QW X E (.BoolOp .And (b::rest) pos) g):QW X E (.BoolOp .And (a::b::rest) pos) (zeu f g):=PW.weak (znE ha hb) fun σ H Q zh=>by
 refine zc3b zh fun B F sd r n => ?_
 refine ⟨B,F,sd,r,(Res.need_bind n).mono (fun k n1 F1 H1 e1 => ?_) fun _ _ q=>q⟩
 cases k with
 | true=>exact ⟨B,F1,sd,r.step e1,zmV n1 e1⟩
 | false=>exact n1 F1 H1 e1
theorem ziR (ha:QT X E a f)(hb:QW X E (.BoolOp .Or (b::rest) pos) g):QW X E (.BoolOp .Or (a::b::rest) pos) (dOrT f g):=PW.weak (pw_or ha hb) fun σ H Q zh=>by
 refine zc3b zh fun B F sd r n => ?_
 refine ⟨B,F,sd,r,(Res.need_bind n).mono (fun k n1 F1 H1 e1 => ?_) fun _ _ q=>q⟩
 cases k with
 | true=>exact n1 F1 H1 e1
 | false=>exact ⟨B,F1,sd,r.step e1,zmV n1 e1⟩
theorem QW.qt {e:Expr}(h:QW X E e f):QT X E e f:=PW.pt h
def zm4 (fa fb:FE):FE:=fun sd=>(zap fa sd).bind fun b=>if b then fb sd else .ok (.bl false)
def dOrV (fa fb:FE):FE:=fun sd=>(zap fa sd).bind fun b=>if b then .ok (.bl true) else fb sd
theorem znw {op}(h:QE X E a fa):QE X E (.BoolOp op [a] pos) fa:=zop h
theorem q_and (ha:QE X E a fa)(hb:QE X E (.BoolOp .And (b::rest) pos) fb):QE X E (.BoolOp .And (a::b::rest) pos) (zm4 fa fb):=PE.weak (zn4 ha hb) fun σ H Q zh=>by
 obtain ⟨B,F,sd,r,n⟩:=zh
 refine zci (K:=X.K) (E:=E) (Q:=fun c H1=>if c=true then tD X.K E fb σ H1 Q else Q (.bl false) H1) ⟨B,F,sd,r,(Res.need_bind n).mono (fun k n1 F1 H1 e1 => ?_) fun _ _ q=>q⟩
 cases k with
 | true=>exact ⟨B,F1,sd,r.step e1,ziK n1 e1⟩
 | false=>exact n1 _ F1 H1 e1 (IsD.bl_iff.mpr rfl)
theorem q_or (ha:QE X E a fa)(hb:QE X E (.BoolOp .Or (b::rest) pos) fb):QE X E (.BoolOp .Or (a::b::rest) pos) (dOrV fa fb):=PE.weak (pe_or ha hb) fun σ H Q zh=>by
 obtain ⟨B,F,sd,r,n⟩:=zh
 refine zci (K:=X.K) (E:=E) (Q:=fun c H1=>if c=true then Q (.bl true) H1 else tD X.K E fb σ H1 Q) ⟨B,F,sd,r,(Res.need_bind n).mono (fun k n1 F1 H1 e1 => ?_) fun _ _ q=>q⟩
 cases k with
 | true=>exact n1 _ F1 H1 e1 (IsD.bl_iff.mpr rfl)
 | false=>exact ⟨B,F1,sd,r.step e1,ziK n1 e1⟩
noncomputable def dNil:FA:=fun _=>.ok []
def zab (fa:FE)(fr:FA):FA:=fun sd=>(fa sd).bind fun x=>(fr sd).bind fun xs=>.ok (x::xs)
theorem zaf:QA X E [] dNil:=PA.weak zkW (by rintro σ H Q ⟨B,F,sd,r,n⟩;exact n [] F H (.refl r.ext.fh) .nil)
theorem zaa {e:Expr}{es:List Expr}{fe:FE}{fr:FA}(ha:QE X E e fe)(hr:QA X E es fr)(hs:autoParam (starEach (e::es) X.env=(false,eval e X.env)::starEach es X.env) zau._auto_1):QA X E (e::es) (zab fe fr) :=
 PA.weak (zfu ha hr hs) fun σ H Q zh=>by
  refine zc3b zh fun B F sd r n => ?_
  refine ⟨B,F,sd,r,(Res.need_bind n).mono (fun x n1 v F1 H1 e1 i1 => ?_) fun _ _ q=>q⟩
  refine ⟨B,F1,sd,r.step e1,(Res.need_bind n1).mono (fun xs n2 vs F2 H2 e2 i2 => ?_) fun _ _ q=>q.ext e1⟩
  exact n2 _ F2 H2 (e1.trans e2) (.mk (IsD.same e2.ff _ _ i1) i2)
def dLst (fr:FA):FE:=fun sd=>(fr sd).bind fun xs=>if xs.length≤1000 then .ok (.lst xs) else .no
def dTup (fr:FA):FE:=fun sd=>(fr sd).bind fun xs=>if xs.length≤1000 then .ok (.tup xs) else .no
theorem zaW {es:List Expr}{fr:FA}(h:QA X E es fr):QN X E (.List es pos) (dLst fr):=PE.weak (zp5 h) fun σ H Q zh=>by
 refine zc3b zh fun B F sd r n => ?_
 refine ⟨B,F,sd,r,(Res.need_bind n).mono (fun xs n1 vs F1 H1 e1 i1 => ?_) fun _ _ q=>q⟩
 split at n1
 ·rename_i hl
  have hz:=i1.length
  refine ⟨zbs (by omega),fun p hp => ?_⟩
  exact n1 p F1 (upd H1 p (.lst vs)) (e1.trans (.keep e1.fh hp _)) (za8 e1.hh hp) (za8 e1.fh hp) ⟨vs,zam,i1⟩
 ·exact n1.elim
theorem zaP {es:List Expr}{x1}{fr:FA}(h:QA X E es fr):QE X E (.Tuple es x1 pos) (dTup fr):=PE.weak (zog h) fun σ H Q zh=>by
 refine zc3b zh fun B F sd r n => ?_
 refine ⟨B,F,sd,r,(Res.need_bind n).mono (fun xs n1 vs F1 H1 e1 i1 => ?_) fun _ _ q=>q⟩
 split at n1
 ·rename_i hl
  have hz:=i1.length
  refine ⟨zbs (by omega),fun p hp => ?_⟩
  have ea:=Ext.alloc e1.fh hp (.tup vs)
  exact n1 _ _ _ (e1.trans ea) (IsD.tup_iff.mpr ⟨p,vs,rfl,.of zam,IsDs.same ea.ff _ _ i1⟩)
 ·exact n1.elim
def SpD (K:PySem.W.Frag)(Fn:List D→Res D):Sp:=fun vs H Q _ => ∃ F ds,Same F H∧IsDs K F ds vs∧(Fn ds).need (OkD K F H Q) (XW K E0 F H)
def SpN (K:PySem.W.Frag)(Fn:List D→Res D):Sp:=fun vs H Q _ => ∃ F ds,Same F H∧IsDs K F ds vs∧(Fn ds).need (OkN K F H Q) (XW K E0 F H)
def zaC (Fn:List D→Res D)(fr:FA):FE:=fun sd=>(fr sd).bind Fn
theorem q_fn {name:Str}{k:Nat}{ps:List Str}{Fn:List D→Res D}{p:Pos}{e:Expr}{es:List Expr}{fr:FA}(c:za2 X.prog X.w X.K X.mg X.base name k ps (SpD X.K Fn))(hr:Room k X.A)(hg:Gl X name)(ha:QA X E0 (e::es) fr)
 (hdb:autoParam ((name == ("__debug__" : Str))=false) zav._auto_1) (he:starEach (e::es) X.env=(false,eval e X.env)::starEach es X.env:=by rfl) (hpl:(backTo pos (starEach es X.env)).any (·.1)=false:=by rfl) :
 QE X E0 (.Call (.Name name p) (e::es) [] pos) (zaC Fn fr):=PE.weak (ziM c hr hg ha hdb he hpl) fun σ H Q zh=>by
 refine zc3b zh fun B F sd r n => ?_
 refine ⟨B,F,sd,r,(Res.need_bind n).mono (fun xs n1 vs F1 H1 e1 i1 => ?_) fun _ _ q=>q⟩
 show SpD X.K Fn (vs++[]) H1 Q E0
 rw [List.append_nil]
 exact ⟨F1,xs,e1.fh,i1,ziK n1 e1⟩
theorem zeJ {name:Str}{k:Nat}{ps:List Str}{Fn:List D→Res D}{p:Pos}{e:Expr}{es:List Expr}{fr:FA}(c:za2 X.prog X.w X.K X.mg X.base name k ps (SpN X.K Fn))(hr:Room k X.A)(hg:Gl X name)(ha:QA X E0 (e::es) fr)
 (hdb:autoParam ((name == ("__debug__" : Str))=false) zav._auto_1) (he:starEach (e::es) X.env=(false,eval e X.env)::starEach es X.env:=by rfl) (hpl:(backTo pos (starEach es X.env)).any (·.1)=false:=by rfl) :
 QN X E0 (.Call (.Name name p) (e::es) [] pos) (zaC Fn fr):=PE.weak (ziM c hr hg ha hdb he hpl) fun σ H Q zh=>by
 refine zc3b zh fun B F sd r n => ?_
 refine ⟨B,F,sd,r,(Res.need_bind n).mono (fun xs n1 vs F1 H1 e1 i1 => ?_) fun _ _ q=>q⟩
 show SpN X.K Fn (vs++[]) H1 Q E0
 rw [List.append_nil]
 exact ⟨F1,xs,e1.fh,i1,zpu n1 e1⟩
def dBlt (g:List D→Option D)(fr:FA):FE:=fun sd=>(fr sd).bind fun xs=>.ofO (g xs)
theorem zal {id:String}{x:Str}{p:Pos}{e:Expr}{es:List Expr}{g:List D→Option D}{fr:FA}(hc:zaJ X (.builtin id) (rDA X.K g))(hg:Gl X x)(hm:X.mg x=none)(hv:bootBuiltins x=some (.builtin id))(ha:QA X E (e::es) fr)(hn:autoParam (x ≠ "__name__") zav._auto_1)(hdb:autoParam ((x == ("__debug__" : Str))=false) zav._auto_1)
 (he:autoParam (starEach (e::es) X.env=(false,eval e X.env)::starEach es X.env) zau._auto_1) (hpl:autoParam ((backTo pos (starEach es X.env)).any (·.1)=false) zau._auto_1):QE X E (.Call (.Name x p) (e::es) [] pos) (dBlt g fr) :=
 PE.weak (zgc hc hg hm hv ha hn hdb he hpl) fun σ H Q zh=>by
  refine zc3b zh fun B F sd r n => ?_
  refine ⟨B,F,sd,r,(Res.need_bind n).mono (fun xs n1 vs F1 H1 e1 i1 => ?_) fun _ _ q=>q⟩
  refine zc1b (Res.need_ofO n1) fun z hz q => ?_
  exact ⟨F1,xs,z,e1.fh,i1,hz,q.ext e1⟩
theorem zbq {T:String}{x:Str}{p:Pos}{e:Expr}{es:List Expr}{g:List D→Option D}{fr:FA}(hc:zaJ X (.type T) (rDA X.K g))(hg:Gl X x)(hm:X.mg x=none)(hv:bootBuiltins x=some (.type T))(ha:QA X E (e::es) fr)(hn:autoParam (x ≠ "__name__") zav._auto_1)(hdb:autoParam ((x == ("__debug__" : Str))=false) zav._auto_1)
 (he:autoParam (starEach (e::es) X.env=(false,eval e X.env)::starEach es X.env) zau._auto_1) (hpl:autoParam ((backTo pos (starEach es X.env)).any (·.1)=false) zau._auto_1):QE X E (.Call (.Name x p) (e::es) [] pos) (dBlt g fr) :=
 PE.weak (zdm hc hg hm hv ha hn hdb he hpl) fun σ H Q zh=>by
  refine zc3b zh fun B F sd r n => ?_
  refine ⟨B,F,sd,r,(Res.need_bind n).mono (fun xs n1 vs F1 H1 e1 i1 => ?_) fun _ _ q=>q⟩
  refine zc1b (Res.need_ofO n1) fun z hz q => ?_
  exact ⟨F1,xs,z,e1.fh,i1,hz,q.ext e1⟩
theorem zb0 {T:String}{x:Str}{p:Pos}{e:Expr}{es:List Expr}{g:List D→Option D}{fr:FA}(hc:zaJ X (.type T) (rDAN X.K g))(hg:Gl X x)(hm:X.mg x=none)(hv:bootBuiltins x=some (.type T))(ha:QA X E (e::es) fr)(hn:autoParam (x ≠ "__name__") zav._auto_1)(hdb:autoParam ((x == ("__debug__" : Str))=false) zav._auto_1)
 (he:autoParam (starEach (e::es) X.env=(false,eval e X.env)::starEach es X.env) zau._auto_1) (hpl:autoParam ((backTo pos (starEach es X.env)).any (·.1)=false) zau._auto_1):QN X E (.Call (.Name x p) (e::es) [] pos) (dBlt g fr) :=
 PE.weak (zdm hc hg hm hv ha hn hdb he hpl) fun σ H Q zh=>by
  refine zc3b zh fun B F sd r n => ?_
  refine ⟨B,F,sd,r,(Res.need_bind n).mono (fun xs n1 vs F1 H1 e1 i1 => ?_) fun _ _ q=>q⟩
  refine zc1b (Res.need_ofO n1) fun z hz q => ?_
  exact ⟨F1,xs,z,e1.fh,i1,hz,q.ext e1⟩
noncomputable def zc3:D→Bool
 | .tup _=>false
 | .lst _=>false
 | .dct _ _=>false
 | .ins _ _ _=>false
 | .exc _=>false
 | .dcf _ _=>false
 | .scr _=>false
 | _=>true
theorem IsD.scal {K:PySem.W.Frag}{F F':Hp}{d:D}{v:V}(s:zc3 d=true)(h:IsD K F d v):IsD K F' d v:=by
 cases d with
 | tup _=>exact zqb s
 | lst _=>exact zqb s
 | dct _ _=>exact zqb s
 | ins _ _ _=>exact zqb s
 | exc _=>exact zqb s
 | dcf _ _=>exact zqb s
 | scr _=>exact zqb s
 | _=>exact h
noncomputable def Res.bare {α : Type}(r:Res α):Res α := match r with
 | .ok a=>.ok a
 | .ex c []=>.ex c []
 | _=>.no
theorem Res.need_bare {α : Type}{K:PySem.W.Frag}{F H F1:Hp}{r:Res α}{p : α → Prop}(sF:Same F H)(h:r.bare.need p (XW K E0 F H)):r.need p (XW K E0 F1 H):=by
 cases r with
 | ok a=>exact h
 | no=>exact h
 | ex c fs =>
  cases fs with
  | nil=>exact fun cv a F2 H2 e2 ⟨C,h1,h2,_⟩=>h cv none F H2 (.grow sF e2.hh) ⟨C,h1,h2,.inl rfl⟩
  | cons d r=>exact h.elim
def dTmp (is:List Nat)(f:FE):FE:=fun sd=>(f (frzD is sd)).bare.bind fun d=>if zc3 d then .ok d else .no
theorem zfE {e:Expr}{fe:FE}(is:List Nat)(h:QE X E0 e fe):QE X E0 e (dTmp is fe):=PE.weak h fun σ H Q zh=>by
 refine zc3b zh fun B F sd r n => ?_
 refine zc1b (r.frz is) fun F1 s1 r1 => ?_
 refine ⟨B,F1,_,r1,(Res.need_bare r.ext.fh (Res.need_bind n)).mono (fun d n1 v F2 H2 e2 i2 => ?_) fun c fs q=>q⟩
 split at n1
 ·rename_i hs
  exact n1 v F H2 (.grow r.ext.fh e2.hh) (i2.scal hs)
 ·exact n1.elim
end
end L2.DL
namespace L2.DL
open PySem PySem.Spec PyProof.Rows
inductive Out where
 | next (sd:SD)|ret (d:D)|brk (sd:SD)|cont (sd:SD)
def OkM (K:PySem.W.Frag)(F H:Hp)(Q:VK)(d:D):Prop:=if zc3 d=true then OkD K F H Q d else OkN K F H Q d
def RetOk (K:PySem.W.Frag)(m:Option Bool)(B:Bs)(Q:VK)(d:D):Prop:=match m with
 | some true=>OkN K B.F0 B.H0 Q d
 | some false=>OkD K B.F0 B.H0 Q d
 | none=>OkM K B.F0 B.H0 Q d
def zdl (K:PySem.W.Frag)(m:Option Bool)(B:Bs)(F:Hp)(T:Ends):Out→Prop
 | .next sd => ∀ σ F' H',Same F F'→RS K B F' H' sd σ → T.nx σ H'
 | .brk sd => ∀ σ F' H',Same F F'→RS K B F' H' sd σ → T.bk σ H'
 | .cont sd => ∀ σ F' H',Same F F'→RS K B F' H' sd σ → T.ct σ H'
 | .ret d=>RetOk K m B T.rt d
abbrev FS:=SD→Res Out
def tDS (K:PySem.W.Frag)(E:XK)(m:Option Bool)(g:FS):TS:=fun T σ H => ∃ B F sd,RS K B F H sd σ ∧ (g sd).need (zdl K m B F T) (XW K E B.F0 B.H0)
abbrev QS (X:Cx)(E:XK)(m:Option Bool)(st:Stmt)(g:FS):Prop:=PS X st (tDS X.K E m g)
abbrev QSs (X:Cx)(E:XK)(m:Option Bool)(st:List Stmt)(g:FS):Prop:=PSs X st (tDS X.K E m g)
section
variable {K:PySem.W.Frag}{E:XK}{m:Option Bool}{B:Bs}{F F' H:Hp}{T:Ends}
theorem zdl.mono {o:Out}(h:zdl K m B F T o)(e:Same F F'):zdl K m B F' T o:=by
 cases o with
 | next sd=>exact fun σ F2 H2 s r=>h σ F2 H2 (e.trans s) r
 | brk sd=>exact fun σ F2 H2 s r=>h σ F2 H2 (e.trans s) r
 | cont sd=>exact fun σ F2 H2 s r=>h σ F2 H2 (e.trans s) r
 | ret d=>exact h
end
section
variable {X:Cx}{E:XK}{m:Option Bool}{st:Stmt}{sts:List Stmt}{g g1 g2:FS}{pos:Pos}
noncomputable def za9:FS:=fun sd=>.ok (.next sd)
def sSeq (g1 g2:FS):FS:=fun sd=>(g1 sd).bind fun o=>match o with
 | .next sd'=>g2 sd'
 | o=>.ok o
theorem zao:QSs X E m [] za9:=PSs.weak zid (by rintro T σ H ⟨B,F,sd,r,n⟩;exact n σ F H (.refl _) r)
theorem zag (h:QS X E m st g):QSs X E m [st] g:=zlU h
theorem zae (h1:QS X E m st g1)(h2:QSs X E m sts g2):QSs X E m (st::sts) (sSeq g1 g2):=PSs.weak (zgn h1 h2) fun T σ H zh=>by
 refine zc3b zh fun B F sd r n => ?_
 refine ⟨B,F,sd,r,(Res.need_bind n).mono (fun o n1 => ?_) fun _ _ q=>q⟩
 cases o with
 | next sd'=>exact fun σ' F' H' s r'=>⟨B,F',sd',r',n1.mono (fun o q=>q.mono s) fun _ _ q=>q⟩
 | ret d=>exact n1
 | brk sd'=>exact n1
 | cont sd'=>exact n1
theorem zbi (is:List Nat)(h:QS X E m st g):QS X E m st (fun sd=>g (frzD is sd)):=PS.weak h fun T σ H zh=>by
 refine zc3b zh fun B F sd r n => ?_
 refine zc1b (r.frz is) fun F1 s1 r1 => ?_
 exact ⟨B,F1,_,r1,n.mono (fun _ q=>q.mono s1) fun _ _ q=>q⟩
variable {e:Expr}{fe:FE}
def sSet (i:Nat)(f:FE):FS:=fun sd=>(f sd).bind fun d=>.ok (.next (sd.set i (some (.val d))))
def sOwn (i:Nat)(f:FE):FS:=fun sd=>(f sd).bind fun d=>.ok (.next (sd.set i (some (.own false d))))
theorem zan {i:Nat}{x:Str}{pos':Pos}(hN:X.N.Nodup)(hi:X.N[i]? = some x)(hx:Loc X.env.scope x)(he:QE X E e fe)(hs:autoParam (swapsWith e (some (.Name x pos')) pos.line X.env=pure false) zau._auto_1)
 (hf:X.fn x=true∨X.env.scope.names.lookup x=some .local:=by first|exact .inl rfl|exact .inr rfl):QS X E m (.Assign [.Name x pos'] e pos) (sSet i fe):=PS.weak (zla hN hi hx he hs hf) fun T σ H zh=>by
 refine zc3b zh fun B F sd r n => ?_
 refine ⟨B,F,sd,r,(Res.need_bind n).mono (fun d n1 v F1 H1 e1 i1 => ?_) fun _ _ q=>q.ext r.ext⟩
 exact n1 _ F1 H1 e1.ff ((r.step e1).setVal i1)
theorem zbS {i:Nat}{x:Str}{pos':Pos}(hN:X.N.Nodup)(hi:X.N[i]? = some x)(hx:Loc X.env.scope x)(he:QN X E e fe)(hs:autoParam (swapsWith e (some (.Name x pos')) pos.line X.env=pure false) zau._auto_1)
 (hf:X.fn x=true∨X.env.scope.names.lookup x=some .local:=by first|exact .inl rfl|exact .inr rfl):QS X E m (.Assign [.Name x pos'] e pos) (sOwn i fe):=PS.weak (zla hN hi hx he hs hf) fun T σ H zh=>by
 refine zc3b zh fun B F sd r n => ?_
 refine ⟨B,F,sd,r,(Res.need_bind n).mono (fun d n1 l F1 H1 e1 h1 h2 h3 => ?_) fun _ _ q=>q.ext r.ext⟩
 refine n1 _ F1 H1 e1.ff ((r.step e1).setOwn (za8 r.ext.hh h1) h2 h3 fun j p d' q1 q2 => ?_)
 refine zc1e (r.own q1) fun l' p1 _ _ p4 _ => ?_
 rw [p1] at q2
 cases q2
 obtain ⟨o,ho⟩:=p4.has
 rw [h1] at ho
 exact zqn ho
def sRet (f:FE):FS:=fun sd=>(f sd).bind fun d=>.ok (.ret d)
theorem za7 (he:QE X E e fe):QS X E false (.Return (some e) pos) (sRet fe):=PS.weak (zgd he) fun T σ H zh=>by
 refine zc3b zh fun B F sd r n => ?_
 refine ⟨B,F,sd,r,(Res.need_bind n).mono (fun d n1 v F1 H1 e1 i1 => ?_) fun _ _ q=>q.ext r.ext⟩
 exact n1 v F1 H1 (r.ext.trans e1) i1
theorem zf9 (he:QN X E e fe):QS X E true (.Return (some e) pos) (sRet fe):=PS.weak (zgd he) fun T σ H zh=>by
 refine zc3b zh fun B F sd r n => ?_
 refine ⟨B,F,sd,r,(Res.need_bind n).mono (fun d n1 l F1 H1 e1 h1 h2 h3 => ?_) fun _ _ q=>q.ext r.ext⟩
 exact n1 l F1 H1 (r.ext.trans e1) (za8 r.ext.hh h1) h2 h3
noncomputable def zcu (i:Nat):FS:=fun sd=>match sd[i]? with
 | some (some (.own _ d))=>.ok (.ret d)
 | _=>.no
theorem zdr {i:Nat}(he:PE X e (tVar i)):QS X E true (.Return (some e) pos) (zcu i):=PS.weak (zgd he) fun T σ H zh=>by
 refine zc3b zh fun B F sd r n => ?_
 unfold zcu at n
 split at n
 ·rename_i d q
  refine zc1e (r.own q) fun l h1 h2 h3 h4 _ => ?_
  exact ⟨.ref l,h1,n l F H r.ext h2 h3 h4⟩
 ·exact n.elim
def zdw (f:FE):FS:=fun sd=>(f sd).bind fun _=>.ok (.next sd)
theorem zdn (he:QE X E e fe)(hs:autoParam (swapsWith e none pos.line X.env=pure false) zau._auto_1):QS X E m (.Expr e pos) (zdw fe):=PS.weak (zhT he hs) fun T σ H zh=>by
 obtain ⟨B,F,sd,r,n⟩:=zh
 refine ⟨B,F,sd,r,(Res.need_bind n).mono (fun d n1 v F1 H1 e1 i1 => ?_) fun _ _ q=>q.ext r.ext⟩
 exact n1 σ F1 H1 e1.ff (r.step e1)
def sIf (c:FT)(g1 g2:FS):FS:=fun sd=>(c sd).bind fun b=>if b then g1 sd else g2 sd
theorem zaM {c:Expr}{a b:List Stmt}{fc:FT}(hc:QT X E c fc)(ha:QSs X E m a g1)(hb:QSs X E m b g2):QS X E m (.If c a b pos) (sIf fc g1 g2):=PS.weak (ps_if hc ha hb) fun T σ H zh=>by
 refine zc3b zh fun B F sd r n => ?_
 refine ⟨B,F,sd,r,(Res.need_bind n).mono (fun b n1 F1 H1 e1 => ?_) fun _ _ q=>q.ext r.ext⟩
 cases b with
 | true=>exact ⟨B,F1,sd,r.step e1,n1.mono (fun _ q=>q.mono e1.ff) fun _ _ q=>q⟩
 | false=>exact ⟨B,F1,sd,r.step e1,n1.mono (fun _ q=>q.mono e1.ff) fun _ _ q=>q⟩
def zbo (i:Nat)(f:FE):FS:=fun sd=>match sd[i]? with
 | some (some (.own false (.lst ds)))=>(f sd).bind fun d=>if ds.length<sizeLine then .ok (.next (sd.set i (some (.own false (.lst (ds++[d])))))) else .no
 | _=>.no
theorem zbL {i:Nat}{o:Expr}{apos cpos:Pos}(ho:PE X o (tVar i))(he:QE X E e fe)
 (hp:∀ {to:TE} {t:TA},PE X o to→PA X [e] t→PE X (.Call (.Attribute o "append" apos) [e] [] cpos) (tBM X.K "list" zhN to t))
 (hs:autoParam (swapsWith (.Call (.Attribute o "append" apos) [e] [] cpos) none pos.line X.env=pure false) zau._auto_1)
 (hst:autoParam (starEach [e] X.env=(false,eval e X.env)::starEach [] X.env) zau._auto_1):QS X E m (.Expr (.Call (.Attribute o "append" apos) [e] [] cpos) pos) (zbo i fe) :=
 PS.weak (zhT (hp ho (zaa he zaf hst)) hs) fun T σ H zh=>by
  obtain ⟨B,F,sd,r,n⟩:=zh
  unfold zbo at n
  split at n
  ·rename_i ds hi
   obtain ⟨l,h1,h2,h3,⟨xs,h4,h5⟩,_⟩:=r.own hi
   refine ⟨.ref l,h1,.inl ⟨rfl,xs,SqL.of h4⟩,B,F,sd,r,?_⟩
   unfold zab dNil
   show ((fe sd).bind fun x=>.ok [x]).need _ _
   have n2:=Res.need_bind n
   cases q:fe sd with
   | no=>rw [q] at n2;exact n2
   | ex c fs=>rw [q] at n2;exact n2.ext r.ext
   | ok d =>
    rw [q] at n2
    intro vs F1 H1 e1 i1
    rw [IsDs.cons_iff] at i1
    obtain ⟨v,w,rfl,i2,i3⟩:=i1
    rw [IsDs.nil_iff] at i3
    subst i3
    have n3:(if ds.length<sizeLine then Res.ok (Out.next (sd.set i (some (.own false (.lst (ds++[d])))))) else .no).need (zdl X.K m B F T) (XW X.K E B.F0 B.H0):=n2
    split at n3
    ·rename_i hz
     have hl:=h5.length
     refine ⟨l,xs,v,rfl,rfl,e1.hh _ _ h4,by omega,?_⟩
     have r1:=r.step e1
     exact n3 σ F1 _ e1.ff (r1.chg hi h1 ⟨xs++[v],zam,(IsDs.same e1.ff _ _ h5).snoc i2⟩)
    ·exact n3.elim
  ·exact n.elim
inductive Tg where
 | one (i:Nat)|tup (is:List Nat)
noncomputable def setAll:List Nat→List D→SD→SD
 | i::is,d::ds,sd=>setAll is ds (sd.set i (some (.val d)))
 | _,_,sd=>sd
def zb1:Tg→D→SD→Res SD
 | .one i,d,sd=>.ok (sd.set i (some (.val d)))
 | .tup is,.tup ds,sd=>if ds.length=is.length then .ok (setAll is ds sd) else .no
 | _,_,_=>.no
noncomputable def zen:List Nat→List V→St→St
 | i::is,v::vs,σ => zen is vs (σ.set i (some v))
 | _,_,σ => σ
theorem RS.setAll {K:PySem.W.Frag}{B:Bs}{F H:Hp}:∀ {is:List Nat} {ds:List D} {vs:List V} {sd:SD} {σ : St},RS K B F H sd σ → IsDs K F ds vs→RS K B F H (setAll is ds sd) (zen is vs σ)
 | [],ds,vs,sd,σ,r,_=>r
 | i::is,[],vs,sd,σ,r,h=>by
  rw [IsDs.nil_iff] at h
  subst h
  exact r
 | i::is,d::ds,vs,sd,σ,r,h=>by
  rw [IsDs.cons_iff] at h
  refine zc2c h fun v w zr2 h1 h2 => ?_
  obtain rfl:=zr2
  exact RS.setAll (is:=is) (ds:=ds) (vs:=w) (r.setVal (i:=i) h1) h2
theorem RS.forget {K:PySem.W.Frag}{B:Bs}{F H:Hp}{sd sd':SD}{σ : St}(r:RS K B F H sd σ)(hl:sd'.length=sd.length)(h:∀ (i:Nat) (x:SV),sd'[i]? = some (some x)→sd[i]? = some (some x)):RS K B F H sd' σ :=
 ⟨r.ext,by rw [r.len,hl],fun q=>r.val (h _ _ q),fun q=>r.own (h _ _ q),fun n q1 q2 q3=>r.apart n (h _ _ q1) (h _ _ q2) q3⟩
def gT:Tg→PySem.W.Frag→TG
 | .one i,_=>zdG i
 | .tup is,K=>fun v σ H Q => ∃ a xs,v=.ref a∧SqT K H a xs∧xs.length=is.length∧Q (zen is xs σ) H
theorem zkz {K:PySem.W.Frag}{tg:Tg}{B:Bs}{F H:Hp}{sd:SD}{σ : St}{d:D}{v:V}{p:SD→Prop}{q:Str→List D→Prop}{Q:St→Hp→Prop}(r:RS K B F H sd σ)(hi:IsD K F d v)(n:(zb1 tg d sd).need p q)
 (h:∀ sd' σ',p sd'→zb1 tg d sd=.ok sd'→RS K B F H sd' σ'→Q σ' H):gT tg K v σ H Q:=by
 cases tg with
 | one i=>exact h _ _ n rfl (r.setVal hi)
 | tup is =>
  cases d with
  | tup ds =>
   rw [IsD.tup_iff] at hi
   refine zc2c hi fun a xs zr2 h1 h2 => ?_
   obtain rfl:=zr2
   have eb:zb1 (.tup is) (.tup ds) sd=if ds.length=is.length then .ok (setAll is ds sd) else .no:=rfl
   by_cases hl:ds.length=is.length
   ·rw [if_pos hl] at eb
    rw [eb] at n
    exact ⟨a,xs,rfl,(h1.same r.ext.fh).sq,by rw [h2.length,hl],h _ _ n eb (r.setAll h2)⟩
   ·rw [if_neg hl] at eb
    rw [eb] at n
    exact n.elim
  | _=>exact n.elim
abbrev QG (X:Cx)(e:Expr)(tg:Tg):Prop:=PG X e (gT tg X.K)
def Walk (K:PySem.W.Frag)(F1:Hp)(J:It)(ds:List D):Prop:=∀ (i:Nat) (F2 H2:Hp),Same F1 F2→Same F2 H2 →
 (i<ds.length→J.go i H2∧∀ x H3,J.yld i H2 x H3→∃ d F3,ds[i]? = some d∧Ext F2 H2 F3 H3∧IsD K F3 d x)∧(ds.length≤i→J.stop i H2)
def tDI (K:PySem.W.Frag)(E:XK)(f:FA):TI:=fun σ H R => ∃ B F sd,RS K B F H sd σ ∧ (f sd).need (fun ds => ∀ J F' H',Ext F H F' H'→Walk K F' J ds→R J H') (XW K E F H)
abbrev QI (X:Cx)(E:XK)(tg iter:Expr)(f:FA):Prop:=PI X tg iter (tDI X.K E f)
def forD (b:D→FS):List D→FS
 | [],sd=>.ok (.next sd)
 | x::xs,sd=>(b x sd).bind fun o=>match o with
  | .next sd'=>forD b xs sd'
  | .cont sd'=>forD b xs sd'
  | .brk sd'=>.ok (.next sd')
  | .ret d=>.ok (.ret d)
def sFor (it:FA)(tg:Tg)(b:FS):FS:=fun sd=>(it sd).bind fun ds=>forD (fun x sd=>(zb1 tg x sd).bind b) ds sd
theorem zb6 {tg iter:Expr}{body:List Stmt}{fi:FA}{t:Tg}(hp:PassesOwn (model X.prog X.w) X.A X.env X.xe)(hc:X.calm=true)(hi:QI X E tg iter fi)(hg:QG X tg t)(hb:QSs X E m body g)
 (hss:autoParam (∀ x,foldedSetIterable iter X.env x=pure x) zaw._auto_1):QS X E m (.For tg iter body [] pos) (sFor fi t g):=PS.weak (zpw hp hc hi hg hb hss) fun T σ H zh=>by
 refine zc3b zh fun B F sd r n => ?_
 refine ⟨B,F,sd,r,(Res.need_bind n).mono (fun ds n1 J F1 H1 e1 wk => ?_) fun _ _ q=>q.ext r.ext⟩
 refine ⟨fun i k σ H=>k=ds.length-i∧i≤ds.length∧∃ F2 sd,Same F1 F2∧RS X.K B F2 H sd σ ∧ (forD (fun x sd=>(zb1 t x sd).bind g) (ds.drop i) sd).need (zdl X.K m B F2 T) (XW X.K E B.F0 B.H0),
  ⟨ds.length,rfl,Nat.zero_le _,F1,sd,.refl _,r.step e1,n1.mono (fun _ q=>q.mono e1.ff) fun _ _ q=>q⟩,?_⟩
 rintro i k σ2 H2 ⟨rfl,hi,F2,sd2,s2,r2,n2⟩
 obtain ⟨w1,w2⟩:=wk i F2 H2 s2 r2.ext.fh
 by_cases hlt:i<ds.length
 ·obtain ⟨go,yl⟩:=w1 hlt
  refine .inr ⟨go,fun σ' H' => ∃ F3 sd3,Same F1 F3∧RS X.K B F3 H' sd3 σ'∧(forD (fun x sd=>(zb1 t x sd).bind g) (ds.drop (i+1)) sd3).need (zdl X.K m B F3 T) (XW X.K E B.F0 B.H0),
   fun σ' H' ⟨F3,sd3,q1,q2,q3⟩=>⟨ds.length-(i+1),by omega,rfl,hlt,F3,sd3,q1,q2,q3⟩,fun x H3 y => ?_⟩
  refine zc2c (yl x H3 y) fun d F3 hd e3 i3 => ?_
  rw [List.drop_eq_getElem_cons hlt] at n2
  have hd':ds[i]=d:=by rw [List.getElem?_eq_getElem hlt] at hd;exact Option.some.inj hd
  rw [hd'] at n2
  have r3:=r2.step e3
  unfold forD at n2
  have n3:=Res.need_bind (Res.need_bind n2)
  refine zkz r3 i3 n3 fun sd' σ' n4 _ r4 => ?_
  refine ⟨B,F3,sd',r4,n4.mono (fun o n5 => ?_) fun _ _ q=>q⟩
  cases o with
  | next sd5=>exact fun σ5 F5 H5 s5 r5=>⟨F5,sd5,(s2.trans e3.ff).trans s5,r5,n5.mono (fun _ q=>q.mono (e3.ff.trans s5)) fun _ _ q=>q⟩
  | cont sd5=>exact fun σ5 F5 H5 s5 r5=>⟨F5,sd5,(s2.trans e3.ff).trans s5,r5,n5.mono (fun _ q=>q.mono (e3.ff.trans s5)) fun _ _ q=>q⟩
  | brk sd5=>exact fun σ5 F5 H5 s5 r5=>n5 σ5 F5 H5 (e3.ff.trans s5) r5
  | ret d=>exact n5
 ·have he:i=ds.length:=by omega
  refine .inl ⟨w2 (by omega),?_⟩
  subst he
  rw [List.drop_length] at n2
  exact n2 σ2 F2 H2 (.refl _) r2
def mapD {α β : Type}(f : α → Res β):List α → Res (List β)
 | []=>.ok []
 | x::xs=>(f x).bind fun y=>(mapD f xs).bind fun ys=>.ok (y::ys)
def capD (cap:List (Option Nat))(sd:SD):SD:=cap.map fun o=>o.bind fun j=>match sd[j]? with
 | some (some (.val d))=>some (.val d)
 | _=>none
noncomputable def zc9 (sd:SD)(i:Nat):Bool:=match sd[i]? with
 | some none=>true
 | _=>false
def zdz (sd:SD):Tg→Bool
 | .one i=>zc9 sd i
 | .tup is=>is.all (zc9 sd)
def zb2 (cap:List (Option Nat))(it:FA)(tg:Tg)(f:FE):FE:=fun sd=>(it sd).bind fun ds=>if zdz (capD cap sd) tg=true∧ds.length<sizeLine then
 (mapD (fun x=>(zb1 tg x (capD cap sd)).bind f) ds).bind fun ys=>.ok (.lst ys) else .no
theorem RS.cap {K:PySem.W.Frag}{B:Bs}{F H:Hp}{sd:SD}{σ : St}(cap:List (Option Nat))(r:RS K B F H sd σ):RS K B F H (capD cap sd) (zfy cap σ):=by
 have key:∀ {i:Nat} {x:SV},(capD cap sd)[i]? = some (some x)→∃ j d,cap[i]? = some (some j)∧sd[j]? = some (some (.val d))∧x=.val d:=fun {i x} q=>by
  unfold capD at q
  rw [List.getElem?_map] at q
  cases hc:cap[i]? with
  | none=>rw [hc] at q;exact zqn q
  | some o =>
   rw [hc] at q
   cases o with
   | none=>cases q
   | some j =>
    have q:(match sd[j]? with
     | some (some (.val d))=>some (SV.val d)
     | _=>none)=some x:=Option.some.inj q
    split at q
    ·rename_i d hd
     exact ⟨j,d,rfl,hd,(Option.some.inj q).symm⟩
    ·exact zqn q
 refine ⟨r.ext,by unfold capD zfy;rw [List.length_map,List.length_map],fun {i d} q => ?_,fun {i p d} q => ?_,fun {i j p p' d e l} _ q => ?_⟩
 ·refine zc2c (key q) fun j d' h1 h2 h3 => ?_
  cases h3
  refine zc1b (r.val h2) fun v v1 v2 => ?_
  refine ⟨v,?_,v2⟩
  unfold zfy
  rw [List.getElem?_map,h1]
  show some (Option.bind (some j) fun j=>(σ[j]?).join)=_
  rw [Option.bind_some,v1]
  rfl
 ·refine zc2c (key q) fun j d' h1 h2 h3 => ?_
  cases h3
 ·refine zc2c (key q) fun j d' h1 h2 h3 => ?_
  cases h3
theorem zcv:∀ (is:List Nat) (ds:List D) (sd0 sd:SD),is.all (zc9 sd0)=true→sd.length=sd0.length→(∀ (i:Nat) (x:SV),sd0[i]? = some (some x)→sd[i]? = some (some x)) →
 (setAll is ds sd).length=sd0.length∧∀ (i:Nat) (x:SV),sd0[i]? = some (some x)→(setAll is ds sd)[i]? = some (some x)
 | [],ds,sd0,sd,_,hl,h=>⟨hl,h⟩
 | i::is,[],sd0,sd,_,hl,h=>⟨hl,h⟩
 | i::is,d::ds,sd0,sd,hn,hl,h=>by
  rw [List.all_cons,Bool.and_eq_true] at hn
  refine zcv is ds sd0 (sd.set i (some (.val d))) hn.2 (by rw [List.length_set,hl]) fun j x q => ?_
  have ne:i≠j:=fun z=>by
   subst z
   have:=hn.1
   unfold zc9 at this
   rw [q] at this
   exact zqb this
  rw [zak ne]
  exact h j x q
theorem zdM {tg:Tg}{sd0 sd:SD}{d:D}(hn:zdz sd0 tg=true)(h:zb1 tg d sd0=.ok sd):sd0.length=sd.length∧∀ (i:Nat) (x:SV),sd0[i]? = some (some x)→sd[i]? = some (some x):=by
 cases tg with
 | one i =>
  cases h
  have:=zcv [i] [d] sd0 sd0 (by rw [List.all_cons,List.all_nil,Bool.and_true];exact hn) rfl fun _ _ q=>q
  exact ⟨this.1.symm,this.2⟩
 | tup is =>
  cases d with
  | tup ds =>
   have eb:zb1 (.tup is) (.tup ds) sd0=if ds.length=is.length then .ok (setAll is ds sd0) else .no:=rfl
   rw [eb] at h
   split at h
   ·cases h
    have:=zcv is ds sd0 sd0 hn rfl fun _ _ q=>q
    exact ⟨this.1.symm,this.2⟩
   ·cases h
  | _=>cases h
theorem ziP {α β : Type}{f : α → Res β}{xs:List α}{i:Nat}{x : α}{p:List β → Prop}{q:Str→List D→Prop}(hx:xs[i]? = some x)(h:(mapD f (xs.drop i)).need p q):(f x).need (fun y=>(mapD f (xs.drop (i+1))).need (fun ys=>p (y::ys)) q) q:=by
 have hlt:i<xs.length:=(List.getElem?_eq_some_iff.mp hx).1
 rw [List.drop_eq_getElem_cons hlt] at h
 have e:xs[i]=x:=by rw [List.getElem?_eq_getElem hlt] at hx;exact Option.some.inj hx
 rw [e] at h
 unfold mapD at h
 refine (Res.need_bind h).mono (fun y h1 => ?_) fun _ _ z=>z
 exact (Res.need_bind h1).mono (fun ys h2=>h2) fun _ _ z=>z
theorem zcW {K:PySem.W.Frag}{t:Tg}{fi:FA}{f:FE}{cap:List (Option Nat)}{σ : St}{H:Hp}{Q:VK}(hh:tDN K E (zb2 cap fi t f) σ H Q):ziN cap (tDI K E fi) (gT t K) (tD K E f) σ H Q:=by
 refine zc3b hh fun B F sd r n => ?_
 refine ⟨B,F,sd,r,(Res.need_bind n).mono (fun ds n1 J F1 H1 e1 wk => ?_) fun _ _ q=>q⟩
 split at n1
 ·rename_i hh
  obtain ⟨hn,hz⟩:=hh
  refine ⟨fun i k ys σ H2=>k=ds.length-i∧i≤ds.length∧∃ F2 es,Ext F1 H1 F2 H2∧RS K B F2 H2 (capD cap sd) σ ∧ IsDs K F2 es ys∧es.length=i ∧
   (mapD (fun x=>(zb1 t x (capD cap sd)).bind f) (ds.drop i)).need (fun rs=>OkN K F2 H2 Q (.lst (es++rs))) (XW K E F2 H2),⟨ds.length,rfl,Nat.zero_le _,F1,[],.refl e1.fh,(r.step e1).cap cap,.nil,rfl,?_⟩,?_⟩
  ·exact (Res.need_bind n1).mono (fun rs q=>(show OkN K F H Q (.lst rs) from q).ext e1) fun _ _ q=>q.ext e1
  rintro i k ys σ2 H2 ⟨rfl,hi,F2,es,e2,r2,i2,hl,n2⟩
  have ly:=i2.length
  refine ⟨by omega,?_⟩
  obtain ⟨w1,w2⟩:=wk i F2 H2 e2.ff e2.fh
  by_cases hlt:i<ds.length
  ·obtain ⟨go,yl⟩:=w1 hlt
   refine .inr ⟨go,fun x H3 y => ?_⟩
   refine zc2c (yl x H3 y) fun d F3 hd e3 i3 => ?_
   have n3:=ziP hd n2
   have r3:=r2.step e3
   refine zkz (K:=K) r3 i3 (Res.need_bind n3) fun sd' σ' n4 hb r4 => ?_
   obtain ⟨b1,b2⟩:=zdM hn hb
   refine ⟨B,F3,sd',r4,n4.mono (fun y n5 v F4 H4 e4 i4 => ?_) fun _ _ q=>q.ext e3⟩
   refine ⟨ds.length-(i+1),by omega,rfl,hlt,F4,es++[y],(e2.trans e3).trans e4,(r4.step e4).forget b1 b2,(IsDs.same (e3.ff.trans e4.ff) _ _ i2).snoc i4,by rw [List.length_append,hl];rfl,?_⟩
   refine n5.mono (fun rs q => ?_) fun _ _ q=>q.ext (e3.trans e4)
   rw [List.append_assoc]
   exact q.ext (e3.trans e4)
  ·have he:i=ds.length:=by omega
   subst he
   refine .inl ⟨w2 (Nat.le_refl _),fun D hD => ?_⟩
   rw [List.drop_length] at n2
   have q:OkN K F2 H2 Q (.lst (es++[])):=n2
   rw [List.append_nil] at q
   exact q D F2 _ (.keep r2.ext.fh hD _) hD (za8 r2.ext.fh hD) ⟨ys,zam,i2⟩
 ·exact n1.elim
theorem zca {tg iter elt:Expr}{scope:Scope}{t:Tg}{fi:FA}{f:FE}(N:List Str)(cap:List (Option Nat))(hc:X.calm=true)(okB:zbp scope X.env N X.N cap=true)(hi:QI X E tg iter fi)
 (hg:∀ cl C s H ex,QG (za4 X scope N cl C s H ex) tg t) (he:∀ cl C s H ex,QE (za4 X scope N cl C s H ex) E elt f) (hs:autoParam (∀ x,foldedSetIterable iter X.env x=pure x) zaw._auto_1) :
 QN X E (.ListComp elt [⟨tg,iter,[],0⟩] scope pos) (zb2 cap fi t f):=PE.weak (zlL (g:=gT t X.K) (te:=tD X.K E f) N cap hc okB hi hg he hs) fun _ _ _ h=>zcW h
noncomputable def zbc (n:Nat)(ds:List D):SD:=ds.map (fun d=>some (.val d))++List.replicate (n-ds.length) none
def runD (n ar:Nat)(g:FS)(ds:List D):Res D:=if ds.length=ar then (g (zbc n ds)).bind fun o=>match o with
 | .ret d=>.ok d
 | .next _=>.ok .non
 | _=>.no else .no
def runN (n ar:Nat)(g:FS)(ds:List D):Res D:=if ds.length=ar then (g (zbc n ds)).bind fun o=>match o with
 | .ret d=>.ok d
 | _=>.no else .no
theorem RS.start {K:PySem.W.Frag}{F H:Hp}{N:List Str}{ds:List D}{vs:List V}(s:Same F H)(h:IsDs K F ds vs):RS K ⟨F,H,fun _=>none⟩ F H (zbc N.length ds) (start N vs):=by
 have key:∀ {i:Nat} {x:SV},(zbc N.length ds)[i]? = some (some x)→∃ d,ds[i]? = some d∧x=.val d:=fun {i x} q=>by
  unfold zbc at q
  by_cases hi:i<ds.length
  ·rw [List.getElem?_append_left (by rw [List.length_map];exact hi),List.getElem?_map,List.getElem?_eq_getElem hi] at q
   exact ⟨ds[i],List.getElem?_eq_getElem hi,(Option.some.inj (Option.some.inj q)).symm⟩
  ·rw [List.getElem?_append_right (by rw [List.length_map];omega),List.getElem?_replicate] at q
   split at q<;>(first|exact zqn q|cases q)
 refine ⟨.refl s,by unfold zbc L2.start;simp [h.length],fun {i d} q => ?_,fun {i p d} q => ?_,fun {i j p p' d e l} _ q => ?_⟩
 ·refine zc1b (key q) fun d' h1 h2 => ?_
  cases h2
  refine zc1b (h.get h1) fun v v1 v2 => ?_
  refine ⟨v,?_,v2⟩
  unfold L2.start
  rw [List.getElem?_append_left (by rw [List.length_map];exact (List.getElem?_eq_some_iff.mp v1).1),List.getElem?_map,v1]
  rfl
 ·refine zc1b (key q) fun _ _ h2 => ?_
  cases h2
 ·refine zc1b (key q) fun _ _ h2 => ?_
  cases h2
section
variable {P:Program}{w:World}{K:PySem.W.Frag}{mg:Str→Option Value}{base:Heap}{x qual:Str}{f:Addr}{fd:FuncData}{N ps:List Str}{k:Nat}
theorem fn_d {g:FS}(F:Fun K x qual st f fd)(S:FnScope N ps (zah st))
 (hb:∀ (cdv:Value) (A:Around) (outer:List Env) (s:Shared) (H:Hp) (E:XK),Room k (A.deeper (envOfC qual (zah st) s.heap.objs.size f cdv))→QSs (cxOf CX0 P w K mg base N qual (zah st) f cdv A outer s H E).nox E0 false (zbr st) g) :
 FnOk P w K mg base CX0 (k+1) f fd ps (SpD K (runD N.length ps.length g)):=by
 refine F.ok S (fun vs H Q E ⟨F,ds,_,h,n⟩ => ?_) fun cdv A outer s H vs Q E hr ⟨F,ds,hs,h,n⟩=>⟨_,hb cdv A outer s H E hr,?_⟩
 ·unfold runD at n
  split at n
  ·rw [h.length];assumption
  ·exact n.elim
 ·unfold runD at n
  split at n
  ·refine ⟨⟨F,H,fun _=>none⟩,F,_,RS.start hs h,(Res.need_bind n).mono (fun o n1 => ?_) fun _ _ q=>q⟩
   cases o with
   | next sd=>exact fun σ F' H' _ r=>n1 .non F' H' r.ext (IsD.non_iff.mpr rfl)
   | ret d=>exact n1
   | brk sd=>exact n1.elim
   | cont sd=>exact n1.elim
  ·exact n.elim
theorem fn_n {g:FS}(F:Fun K x qual st f fd)(S:FnScope N ps (zah st))
 (hb:∀ (cdv:Value) (A:Around) (outer:List Env) (s:Shared) (H:Hp) (E:XK),Room k (A.deeper (envOfC qual (zah st) s.heap.objs.size f cdv))→QSs (cxOf CX0 P w K mg base N qual (zah st) f cdv A outer s H E).nox E0 true (zbr st) g) :
 FnOk P w K mg base CX0 (k+1) f fd ps (SpN K (runN N.length ps.length g)):=by
 refine F.ok S (fun vs H Q E ⟨F,ds,_,h,n⟩ => ?_) fun cdv A outer s H vs Q E hr ⟨F,ds,hs,h,n⟩=>⟨_,hb cdv A outer s H E hr,?_⟩
 ·unfold runN at n
  split at n
  ·rw [h.length];assumption
  ·exact n.elim
 ·unfold runN at n
  split at n
  ·refine ⟨⟨F,H,fun _=>none⟩,F,_,RS.start hs h,(Res.need_bind n).mono (fun o n1 => ?_) fun _ _ q=>q⟩
   cases o with
   | next sd=>exact n1.elim
   | ret d=>exact n1
   | brk sd=>exact n1.elim
   | cont sd=>exact n1.elim
  ·exact n.elim
end
end
end L2.DL
namespace L2.DL
open PySem PySem.Spec PyProof.Rows
noncomputable def prD (p:Int×Int):D:=.tup [.int p.1,.int p.2]
def rwD (r:List (Int×Int)):D:=.tup (r.map prD)
def zbX {α : Type}(f:D→Option α):List D→Option (List α)
 | []=>some []
 | d::ds=>(f d).bind fun x=>(zbX f ds).map fun xs=>x::xs
noncomputable def zgS:D→Option Int
 | .int i=>some i
 | _=>none
theorem zcB {α β : Type}{f:D→Option α}{g : β → D}{k : β → α}(h:∀ x,f (g x)=some (k x)):∀ l:List β,zbX f (l.map g)=some (l.map k)
 | []=>rfl
 | x::r=>by rw [List.map_cons];unfold zbX;rw [h,zcB h r];rfl
theorem zde {α : Type}{f:D→Option α}{g : α → D}(h:∀ d x,f d=some x→d=g x):∀ {ds:List D} {l:List α},zbX f ds=some l→ds=l.map g
 | [],l,e=>by cases e;rfl
 | d::ds,l,e=>by
  unfold zbX at e
  cases h1:f d with
  | none=>rw [h1] at e;exact zqn e
  | some x =>
   cases h2:zbX f ds with
   | none=>rw [h1,h2] at e;exact zqn e
   | some xs =>
    rw [h1,h2] at e
    obtain rfl:=Option.some.inj e
    rw [List.map_cons,← h d x h1,← zde h h2]
theorem zhB {d:D}{i:Int}(h:zgS d=some i):d=.int i:=by
 cases d with
 | int j=>cases h;rfl
 | _=>exact zqn h
theorem zgw {ds:List D}{l:List Int}(h:zbX zgS ds=some l):ds=l.map D.int:=zde (fun _ _=>zhB) h
theorem zg6 (l:List Int):zbX zgS (l.map D.int)=some l:=by
 have h:=zcB (f:=zgS) (g:=D.int) (k:=fun i:Int=>i) (fun _=>rfl) l
 rw [h,List.map_id']
section
variable {X:Cx}{E:XK}
noncomputable def gI (f:Int→Int→D):D→D→Option D
 | .int i,.int j=>some (f i j)
 | _,_=>none
noncomputable def gIc (c:Int→Int→Bool)(f:Int→Int→D):D→D→Option D
 | .int i,.int j=>if c i j then some (f i j) else none
 | _,_=>none
theorem zia {h:Value→Value→Sem Value}{f:Int→Int→D}{g:Int→Int→V}(o:OpR X h (rI0 g))(hg:∀ i j F,IsD X.K F (f i j) (g i j)):OpD X h (gI f):=OpR.weak o fun x y H Q zh=>by
 obtain ⟨F,d,e,z,sF,id,ie,hz,q⟩:=zh
 cases d with
 | int i =>
  cases e with
  | int j=>cases hz;exact ⟨i,j,IsD.int_iff.mp id,IsD.int_iff.mp ie,q _ F H (.refl sF) (hg i j F)⟩
  | _=>exact zqn hz
 | _=>exact zqn hz
theorem zfT {h:Value→Value→Sem Value}{C:Int→Int→Prop}{c:Int→Int→Bool}{f:Int→Int→D}{g:Int→Int→V}(o:OpR X h (rI C g))(hc:∀ i j,c i j=true→C i j)(hg:∀ i j F,IsD X.K F (f i j) (g i j)):OpD X h (gIc c f):=OpR.weak o fun x y H Q zh=>by
 obtain ⟨F,d,e,z,sF,id,ie,hz,q⟩:=zh
 cases d with
 | int i =>
  cases e with
  | int j =>
   have hz:(if c i j then some (f i j) else none)=some z:=hz
   split at hz
   ·rename_i hcc
    cases hz;exact ⟨i,j,IsD.int_iff.mp id,IsD.int_iff.mp ie,hc i j hcc,q _ F H (.refl sF) (hg i j F)⟩
   ·exact zqn hz
  | _=>exact zqn hz
 | _=>exact zqn hz
theorem isI (i:Int)(F:Hp):IsD X.K F (.int i) (.int i):=IsD.int_iff.mpr rfl
theorem isB (b:Bool)(F:Hp):IsD X.K F (.bl b) (.bl b):=IsD.bl_iff.mpr rfl
noncomputable def gSub:=gI fun i j=>.int (i-j)
noncomputable def bigB:Nat:=10715086071862673209484250490600018105614048117055336074437503883703510511249361224931983788156958581275946729175531468251871452856923140435984577574698574803934567774824230985421074605062371141877954182153046474983581941267398767559165543946077062914571196477686542167660429831652624386837205668069376
def zds (i j:Int):Bool:=(Nat.blt i.natAbs 18446744073709551616||Nat.blt j.natAbs 18446744073709551616)||(Nat.blt i.natAbs bigB&&Nat.blt j.natAbs bigB)
theorem zgo {k:Int}(h:k.natAbs<bigB):Builtin.Int.intBits k≤2 ^ 20:=by
 have e:bigB≤2 ^ 1000:=Nat.le_of_ble_eq_true rfl
 have hn:k.natAbs<2 ^ 1000:=Nat.lt_of_lt_of_le h e
 unfold Builtin.Int.intBits
 split
 ·exact Nat.zero_le _
 ·have l:k.natAbs.log2<1000:=by
   rcases Nat.eq_zero_or_pos k.natAbs with h0|hp
   ·rw [h0];decide
   ·exact (Nat.log2_lt (Nat.ne_of_gt hp)).mpr hn
  have e:(2:Nat) ^ 20=1048576:=by decide
  omega
theorem zjC {i j:Int}(h:zds i j=true):IntMulOk i j:=by
 unfold zds at h
 rw [Bool.or_eq_true,Bool.or_eq_true,Bool.and_eq_true,Nat.blt_eq,Nat.blt_eq,Nat.blt_eq,Nat.blt_eq] at h
 rcases h with (h|h)|⟨h1,h2⟩
 ·exact .of_left (intBits_le_64 (by omega) (by omega))
 ·exact .of_right (intBits_le_64 (by omega) (by omega))
 ·exact .of_bits (zgo h1) (zgo h2)
theorem zlK:OpR X (binaryOp .Mult) (rI (fun i j=>zds i j=true) fun i j=>.int (i*j)):=opI fun _ _ _ _ _ _ _ hc q=>mul_int q (zjC hc)
def gMul:=gIc zds fun i j=>.int (i*j)
def zaQ:=gIc (fun _ j=>Nat.blt 0 j.toNat&&Nat.blt j.toNat 1073741824) fun i j=>.int (i / j)
def gMod:=gIc (fun _ j=>Nat.blt 0 j.toNat) fun i j=>.int (i % j)
def gPow:=gIc (fun i j=>Nat.ble (-j).toNat 0&&(Nat.ble j.toNat 1000000&&Nat.blt i.natAbs 18446744073709551616)) fun i j=>.int (i ^ j.toNat)
noncomputable def gLt:=gI fun i j=>.bl (decide (i<j))
noncomputable def gLe:=gI fun i j=>.bl (decide (i≤j))
noncomputable def gGt:=gI fun i j=>.bl (decide (j<i))
noncomputable def gGe:=gI fun i j=>.bl (decide (j≤i))
theorem zd5:OpD X (binaryOp .Sub) gSub:=zia znQ fun _ _ F=>isI _ F
theorem zeE:OpD X (binaryOp .Mult) gMul:=zfT zlK (fun i j h=>h) fun _ _ F=>isI _ F
theorem zaH:OpD X (binaryOp .FloorDiv) zaQ:=zfT zmj (fun i j h=>by rw [Bool.and_eq_true,Nat.blt_eq,Nat.blt_eq] at h;unfold CDiv;omega) fun _ _ F=>isI _ F
theorem zaE:OpD X (binaryOp .Mod) gMod:=zfT znB (fun i j h=>by rw [Nat.blt_eq] at h;omega) fun _ _ F=>isI _ F
theorem zi7:OpD X (binaryOp .Pow) gPow:=zfT zot (fun i j h=>by rw [Bool.and_eq_true,Bool.and_eq_true,Nat.ble_eq,Nat.ble_eq,Nat.blt_eq] at h;unfold CPow;omega) fun _ _ F=>isI _ F
theorem o_lt:OpD X (compareOp .Lt) gLt:=zia op_lt fun _ _ F=>isB _ F
theorem o_le:OpD X (compareOp .LtE) gLe:=zia op_le fun _ _ F=>isB _ F
theorem o_gt:OpD X (compareOp .Gt) gGt:=zia op_gt fun _ _ F=>isB _ F
theorem o_ge:OpD X (compareOp .GtE) gGe:=zia op_ge fun _ _ F=>isB _ F
noncomputable def gNeg:D→Option D
 | .int i=>some (.int (-i))
 | _=>none
theorem zic:UnR X (unaryOp .USub) (rD1 X.K gNeg):=UnR.weak zoq fun x H Q zh=>by
 obtain ⟨F,d,z,sF,id,hz,q⟩:=zh
 cases d with
 | int i=>cases hz;exact ⟨i,IsD.int_iff.mp id,q _ F H (.refl sF) (isI _ F)⟩
 | _=>exact zqn hz
noncomputable def gAdd:D→D→Option D
 | .int i,.int j=>some (.int (i+j))
 | .str x,.str y=>if x.length+y.length≤sizeLine then some (.str (x++y)) else none
 | .tup a,.tup b=>if a ≠ []∧b ≠ []∧a.length+b.length≤sizeLine then some (.tup (a++b)) else none
 | .lst a,.lst b=>if a.length+b.length≤sizeLine then some (.lst (a++b)) else none
 | _,_=>none
def rCat' (K:PySem.W.Frag):R2:=fun x y H Q => ∃ l b xs zs,x=.ref l∧y=.ref b∧LstD K H l xs∧LstD K H b zs∧xs.length+zs.length≤sizeLine∧∀ p,H p=none→Q (.ref p) (upd H p (.lst (xs++zs)))
theorem zhe:OpR X (binaryOp .Add) (rCat' X.K):=by
 intro pins s σ H x y v u Q I rx ry h
 refine zc4a h fun l b xs zs zz=>zc0e zz fun zr4 zr5 hl hb zz=>zc0b zz fun hz q => ?_
 obtain rfl:=zr4
 obtain rfl:=zr5
 obtain rfl:v=Value.ref l:=rx
 obtain rfl:u=Value.ref b:=ry
 refine zc0b (hl.ok I.hok) fun _ zz=>zc2b zz fun its n r1 e1 => ?_
 refine zc0b (hb.ok I.hok) fun _ zz=>zc2b zz fun its2 n2 r2 e2 => ?_
 have hl1:=r1.length
 have hl2:=r2.length
 refine PySem.P.add_list e1 e2 ?_ (by rw [List.size_toArray,List.size_toArray];omega)
 have ea:its.toArray++its2.toArray=(its++its2).toArray:=by simp
 rw [ea]
 exact ⟨.ref _,_,I.lnew (t':=s.toks) (r1.append r2) (by rw [List.length_append];omega),rfl,q _ I.fresh⟩
theorem zaz:OpD X (binaryOp .Add) gAdd:=by
 rintro pins s σ H x y v u Q I rx ry ⟨F,d,e,z,sF,id,ie,hz,q⟩
 cases d with
 | int i =>
  cases e with
  | int j=>cases hz;exact zpi pins s σ H x y v u Q I rx ry ⟨i,j,IsD.int_iff.mp id,IsD.int_iff.mp ie,q _ F H (.refl sF) (isI _ F)⟩
  | _=>exact zqn hz
 | str a =>
  cases e with
  | str b =>
   have hz:(if a.length+b.length≤sizeLine then some (D.str (a++b)) else none)=some z:=hz
   split at hz
   ·rename_i hl
    cases hz;exact zg4 pins s σ H x y v u Q I rx ry ⟨a,b,IsD.str_iff.mp id,IsD.str_iff.mp ie,hl,q _ F H (.refl sF) (IsD.str_iff.mpr rfl)⟩
   ·exact zqn hz
  | _=>exact zqn hz
 | tup a =>
  cases e with
  | tup b =>
   have hz:(if a ≠ []∧b ≠ []∧a.length+b.length≤sizeLine then some (D.tup (a++b)) else none)=some z:=hz
   split at hz
   ·rename_i hl
    obtain rfl:=Option.some.inj hz
    rw [IsD.tup_iff] at id ie
    obtain ⟨la,xs,rfl,h1,h2⟩:=id
    obtain ⟨lb,ys,rfl,h3,h4⟩:=ie
    have l1:=h2.length
    have l2:=h4.length
    have x0:xs ≠ []:=fun z=>hl.1 (List.length_eq_zero_iff.mp (by rw [← l1,z];rfl))
    have y0:ys ≠ []:=fun z=>hl.2.1 (List.length_eq_zero_iff.mp (by rw [← l2,z];rfl))
    refine zll pins s σ H _ _ v u Q I rx ry ⟨la,lb,xs,ys,rfl,rfl,(h1.same sF).sq,(h3.same sF).sq,x0,by have:=hl.2.2;omega,fun z=>absurd z y0,fun _ p hp => ?_⟩
    have ea:=Ext.alloc sF hp (.tup (xs++ys))
    exact q _ _ _ ea (IsD.tup_iff.mpr ⟨p,_,rfl,.of zam,IsDs.same ea.ff _ _ (h2.append h4)⟩)
   ·exact zqn hz
  | _=>exact zqn hz
 | lst a =>
  cases e with
  | lst b =>
   have hz:(if a.length+b.length≤sizeLine then some (D.lst (a++b)) else none)=some z:=hz
   split at hz
   ·rename_i hl
    obtain rfl:=Option.some.inj hz
    rw [IsD.lst_iff] at id ie
    obtain ⟨la,xs,rfl,h1,h2⟩:=id
    obtain ⟨lb,ys,rfl,h3,h4⟩:=ie
    have l1:=h2.length
    have l2:=h4.length
    refine zhe pins s σ H _ _ v u Q I rx ry ⟨la,lb,xs,ys,rfl,rfl,h1.same sF,h3.same sF,by omega,fun p hp => ?_⟩
    have ea:=Ext.alloc sF hp (.lst (xs++ys))
    exact q _ _ _ ea (IsD.lst_iff.mpr ⟨p,_,rfl,.of zam,IsDs.same ea.ff _ _ (h2.append h4)⟩)
   ·exact zqn hz
  | _=>exact zqn hz
 | _=>exact zqn hz
mutual
noncomputable def toPy:D→PyData
 | .non=>.none
 | .bl b=>.bool b
 | .int i=>.int i
 | .str x=>.str x
 | .tup ds=>.tuple (zdD ds)
 | .lst ds=>.list (zdD ds)
 | .ty _=>.none
 | .scr _=>.none
 | .dct _ _=>.none
 | .ins _ _ _=>.none
 | .exc _=>.none
 | .ucl _=>.none
 | .adr _=>.none
 | .dcf _ _=>.none
noncomputable def zdD:List D→List PyData
 | [] => []
 | d::ds=>toPy d::zdD ds
end
noncomputable def plN:Nat→D→Bool
 | 0,_=>false
 | _+1,.int _=>true
 | _+1,.str x=>PyData.strOk x
 | _+1,.non=>true
 | n+1,.tup ds=>ds.all (plN n)
 | n+1,.lst ds=>ds.all (plN n)
 | _+1,_=>false
theorem zdP:∀ (n:Nat) (d:D),plN n d=true→(toPy d).canLay0=true∧(toPy d).depth≤n:=fun n=>by
 induction n with
 | zero=>intro _ h;exact zqb h
 | succ n ihn =>
  intro d h
  have all:∀ ds:List D,ds.all (plN n)=true→PyData.canLayAll0 (zdD ds)=true∧PyData.depthAll (zdD ds)≤n:=by
   intro ds
   induction ds with
   | nil=>intro _;exact ⟨rfl,Nat.zero_le _⟩
   | cons d ds ih =>
    intro h
    rw [List.all_cons,Bool.and_eq_true] at h
    obtain ⟨h1,h2⟩:=ihn d h.1
    obtain ⟨h3,h4⟩:=ih h.2
    exact ⟨Bool.and_eq_true_iff.mpr ⟨h1,h3⟩,Nat.max_le.mpr ⟨h2,h4⟩⟩
  cases d with
  | int i=>exact ⟨rfl,Nat.zero_le _⟩
  | str i=>exact ⟨h,Nat.zero_le _⟩
  | non=>exact ⟨rfl,Nat.zero_le _⟩
  | tup ds=>exact ⟨(all ds h).1,Nat.succ_le_succ (all ds h).2⟩
  | lst ds=>exact ⟨(all ds h).1,Nat.succ_le_succ (all ds h).2⟩
  | _=>exact zqb h
theorem D.ne {d e:D}(h:(d.ctorIdx == e.ctorIdx)=false):¬ d=e:=fun q=>by
 rw [q,beq_self_eq_true] at h
 cases  h
theorem ziz:∀ (n:Nat) (d e:D),plN n d=true→plN n e=true→(PyData.eqv (toPy d) (toPy e)=true↔d=e):=fun n=>by
 induction n with
 | zero=>intro _ _ h;exact zqb h
 | succ n ihn =>
  intro d e h h'
  have all:∀ ds es:List D,ds.all (plN n)=true→es.all (plN n)=true→(PyData.eqvAll (zdD ds) (zdD es)=true↔ds=es):=by
   intro ds
   induction ds with
   | nil =>
    intro es _ _
    cases es with
    | nil=>exact iff_of_true rfl rfl
    | cons e es=>exact iff_of_false Bool.false_ne_true (fun q=>List.cons_ne_nil _ _ q.symm)
   | cons d ds ih =>
    intro es h1 h2
    cases es with
    | nil=>exact iff_of_false Bool.false_ne_true (List.cons_ne_nil _ _)
    | cons e es =>
     rw [List.all_cons,Bool.and_eq_true] at h1 h2
     show (PyData.eqv (toPy d) (toPy e)&&PyData.eqvAll (zdD ds) (zdD es))=true↔_
     rw [Bool.and_eq_true_iff,ihn d e h1.1 h2.1,ih es h1.2 h2.2,List.cons.injEq]
  cases d with
  | int i =>
   cases e with
   | int j=>exact ⟨fun q=>congrArg D.int (beq_iff_eq.mp q),fun q=>beq_iff_eq.mpr (D.int.inj q)⟩
   | str _=>exact iff_of_false Bool.false_ne_true (D.ne rfl)
   | non=>exact iff_of_false Bool.false_ne_true (D.ne rfl)
   | tup _=>exact iff_of_false Bool.false_ne_true (D.ne rfl)
   | lst _=>exact iff_of_false Bool.false_ne_true (D.ne rfl)
   | _=>exact zqb h'
  | str i =>
   cases e with
   | str j=>exact ⟨fun q=>congrArg D.str (of_decide_eq_true q),fun q=>decide_eq_true (D.str.inj q)⟩
   | int _=>exact iff_of_false Bool.false_ne_true (D.ne rfl)
   | non=>exact iff_of_false Bool.false_ne_true (D.ne rfl)
   | tup _=>exact iff_of_false Bool.false_ne_true (D.ne rfl)
   | lst _=>exact iff_of_false Bool.false_ne_true (D.ne rfl)
   | _=>exact zqb h'
  | non =>
   cases e with
   | non=>exact iff_of_true rfl rfl
   | int _=>exact iff_of_false Bool.false_ne_true (D.ne rfl)
   | str _=>exact iff_of_false Bool.false_ne_true (D.ne rfl)
   | tup _=>exact iff_of_false Bool.false_ne_true (D.ne rfl)
   | lst _=>exact iff_of_false Bool.false_ne_true (D.ne rfl)
   | _=>exact zqb h'
  | tup ds =>
   cases e with
   | tup es=>exact (all ds es h h').trans ⟨fun q=>congrArg D.tup q,fun q=>D.tup.inj q⟩
   | int _=>exact iff_of_false Bool.false_ne_true (D.ne rfl)
   | str _=>exact iff_of_false Bool.false_ne_true (D.ne rfl)
   | non=>exact iff_of_false Bool.false_ne_true (D.ne rfl)
   | lst _=>exact iff_of_false Bool.false_ne_true (D.ne rfl)
   | _=>exact zqb h'
  | lst ds =>
   cases e with
   | lst es=>exact (all ds es h h').trans ⟨fun q=>congrArg D.lst q,fun q=>D.lst.inj q⟩
   | int _=>exact iff_of_false Bool.false_ne_true (D.ne rfl)
   | str _=>exact iff_of_false Bool.false_ne_true (D.ne rfl)
   | non=>exact iff_of_false Bool.false_ne_true (D.ne rfl)
   | tup _=>exact iff_of_false Bool.false_ne_true (D.ne rfl)
   | _=>exact zqb h'
  | _=>exact zqb h
theorem zbR {P:Program}{w:World}{K:PySem.W.Frag}{H:Hp}{h:Heap}(ok:HOk P w H h):∀ (n:Nat) (d:D) (v:V) (u:Value),plN n d=true→IsD K H d v→RelV v u→∃ as,Reads h u (toPy d) as
 | 0,_,_,_,p,_,_=>by exact zqb p
 | n+1,d,v,u,p,q,r=>by
  have all:∀ (ds:List D) (xs:List V) (us:List Value),ds.all (plN n)=true→IsDs K H ds xs→Vals xs us→∃ as,ReadsAll h us (zdD ds) as:=by
   intro ds
   induction ds with
   | nil =>
    intro xs us _ h1 h2
    rw [IsDs.nil_iff] at h1
    subst h1
    cases h2
    exact ⟨_,.nil⟩
   | cons d ds ih =>
    intro xs us hp h1 h2
    rw [List.all_cons,Bool.and_eq_true] at hp
    rw [IsDs.cons_iff] at h1
    refine zc2c h1 fun x rs zr2 h3 h4 => ?_
    obtain rfl:=zr2
    cases h2 with
    | cons r1 r2 =>
     obtain ⟨as,ra⟩:=zbR ok n d x _ hp.1 h3 r1
     obtain ⟨bs,rb⟩:=ih rs _ hp.2 h4 r2
     exact ⟨_,.cons ra rb⟩
  cases d with
  | int i =>
   rw [IsD.int_iff] at q;subst q
   obtain ⟨t,rfl⟩:=(show ∃ t,u=Value.int i t from r)
   exact ⟨_,.int i t⟩
  | str x =>
   rw [IsD.str_iff] at q;subst q
   obtain ⟨t,rfl⟩:=(show ∃ t,u=Value.str x t from r)
   exact ⟨_,.str x t⟩
  | non =>
   rw [IsD.non_iff] at q;subst q
   obtain rfl:u=Value.none:=r
   exact ⟨_,.none⟩
  | tup ds =>
   rw [IsD.tup_iff] at q
   refine zc2c q fun a xs zr2 h2 h3 => ?_
   obtain rfl:=zr2
   obtain rfl:u=Value.ref a:=r
   refine zc0b ((show zbh P w H h a (.tup xs) from ok a _ h2)) fun _ zz=>zc1b zz fun its rv zz=>zc1c zz fun o e c zz=>zc1a zz fun n' dt => ?_
   obtain ⟨as,ra⟩:=all ds xs its p h3 rv
   exact ⟨_,.tuple e c dt (by simpa using ra)⟩
  | lst ds =>
   rw [IsD.lst_iff] at q
   refine zc2c q fun a xs zr2 h2 h3 => ?_
   obtain rfl:=zr2
   obtain rfl:u=Value.ref a:=r
   refine zc0b (h2.ok ok) fun _ zz=>zc2b zz fun its n' rv e => ?_
   obtain ⟨as,ra⟩:=all ds xs its p h3 rv
   exact ⟨_,.list e rfl rfl (by simpa using ra)⟩
  | _=>exact zqb p
noncomputable section
open Classical
noncomputable def sameD (d e:D):Bool:=decide (d=e)
theorem zbK (d:D):sameD d d=true:=decide_eq_true rfl
theorem zcZ {d e:D}:sameD d e=true↔d=e:=decide_eq_true_iff
theorem zcj {d e:D}:sameD d e=false↔d≠e:=decide_eq_false_iff_not
def gEq:D→D→Option D
 | .bl a,.bl b=>some (.bl (a == b))
 | d,e=>if plN 12 d&&plN 12 e then some (.bl (sameD d e)) else none
def gNe:D→D→Option D
 | .bl a,.bl b=>some (.bl (a != b))
 | d,e=>if plN 12 d&&plN 12 e then some (.bl (!sameD d e)) else none
end
theorem zkV {d e:D}(h1:plN 12 d=true)(h2:plN 12 e=true):gEq d e=some (.bl (sameD d e)):=by
 unfold gEq
 split
 ·exact zqb h1
 ·rw [h1,h2];rfl
theorem zji {d e:D}(h1:plN 12 d=true)(h2:plN 12 e=true):gNe d e=some (.bl (!sameD d e)):=by
 unfold gNe
 split
 ·exact zqb h1
 ·rw [h1,h2];rfl
theorem zlx (i j:Int):gEq (.int i) (.int j)=some (.bl (decide (i=j))):=by
 rw [zkV rfl rfl]
 congr 2
 by_cases h:i=j
 ·rw [decide_eq_true h,h,zbK]
 ·rw [decide_eq_false h,zcj.mpr fun z=>h (by injection z)]
theorem zlz (i j:Int):gNe (.int i) (.int j)=some (.bl (!decide (i=j))):=by
 rw [zji rfl rfl]
 congr 3
 by_cases h:i=j
 ·rw [decide_eq_true h,h,zbK]
 ·rw [decide_eq_false h,zcj.mpr fun z=>h (by injection z)]
theorem o_eq (hu:X.A.units+64<cLine):OpD X (compareOp .Eq) gEq:=by
 rintro pins s σ H x y v u Q I rx ry ⟨F,d,e,z,sF,id,ie,hz,q⟩
 unfold gEq at hz
 split at hz
 ·rename_i a b
  obtain rfl:=Option.some.inj hz
  refine op_eq pins s σ H x y v u Q I rx ry ⟨?_,?_⟩
  ·rw [IsD.bl_iff.mp id,IsD.bl_iff.mp ie];rfl
  ·rw [IsD.bl_iff.mp id,IsD.bl_iff.mp ie]
   refine q _ F H (.refl sF) ?_
   rw [IsD.bl_iff]
   cases a<;>cases b<;>rfl
 ·split at hz
  ·rename_i hp
   rw [Bool.and_eq_true] at hp
   obtain rfl:=Option.some.inj hz
   obtain ⟨as,ra⟩:=zbR I.hok 12 d x v hp.1 (IsD.same sF _ _ id) rx
   obtain ⟨bs,rb⟩:=zbR I.hok 12 e y u hp.2 (IsD.same sF _ _ ie) ry
   obtain ⟨l1,z1⟩:=zdP 12 d hp.1
   obtain ⟨l2,z2⟩:=zdP 12 e hp.2
   refine PySem.SeqAt.compareEq_reads ra rb l1 l2 (by omega) ?_
   have hb:PyData.eqv (toPy d) (toPy e)=sameD d e:=Bool.eq_iff_iff.mpr ((ziz 12 d e hp.1 hp.2).trans zcZ.symm)
   rw [hb]
   exact ⟨.bl _,H,I,rfl,q _ F H (.refl sF) (isB _ F)⟩
  ·exact zqn hz
theorem o_ne (hu:X.A.units+64<cLine):OpD X (compareOp .NotEq) gNe:=by
 rintro pins s σ H x y v u Q I rx ry ⟨F,d,e,z,sF,id,ie,hz,q⟩
 unfold gNe at hz
 split at hz
 ·rename_i a b
  obtain rfl:=Option.some.inj hz
  refine op_ne pins s σ H x y v u Q I rx ry ⟨?_,?_⟩
  ·rw [IsD.bl_iff.mp id,IsD.bl_iff.mp ie];rfl
  ·rw [IsD.bl_iff.mp id,IsD.bl_iff.mp ie]
   refine q _ F H (.refl sF) ?_
   rw [IsD.bl_iff]
   cases a<;>cases b<;>rfl
 ·split at hz
  ·rename_i hp
   rw [Bool.and_eq_true] at hp
   obtain rfl:=Option.some.inj hz
   obtain ⟨as,ra⟩:=zbR I.hok 12 d x v hp.1 (IsD.same sF _ _ id) rx
   obtain ⟨bs,rb⟩:=zbR I.hok 12 e y u hp.2 (IsD.same sF _ _ ie) ry
   obtain ⟨l1,z1⟩:=zdP 12 d hp.1
   obtain ⟨l2,z2⟩:=zdP 12 e hp.2
   refine PySem.SeqAt.compareNe_reads ra rb l1 l2 (by omega) ?_
   have hb:PyData.eqv (toPy d) (toPy e)=sameD d e:=Bool.eq_iff_iff.mpr ((ziz 12 d e hp.1 hp.2).trans zcZ.symm)
   rw [hb]
   exact ⟨.bl _,H,I,rfl,q _ F H (.refl sF) (isB _ F)⟩
  ·exact zqn hz
end
end L2.DL
namespace L2.DL
open PySem PySem.Spec PyProof.Rows
theorem PE.or {X:Cx}{e:Expr}{t t':TE}(h:PE X e t)(h':PE X e t'):PE X e (fun σ H Q=>t σ H Q∨t' σ H Q):=fun pins s σ H Q I q=>q.elim (h pins s σ H Q I) (h' pins s σ H Q I)
noncomputable def zb5:D→Option Key
 | .int i=>some (.inl i)
 | .str x=>some (.inr x)
 | _=>none
theorem zcg {K:PySem.W.Frag}{H:Hp}{d:D}{k:Key}{v:V}(h:zb5 d=some k)(i:IsD K H d v):v=kV k:=by
 cases d with
 | int j=>cases h;exact IsD.int_iff.mp i
 | str x=>cases h;exact IsD.str_iff.mp i
 | _=>exact zqn h
noncomputable def valD:List Key→List D→Key→Option D
 | k::ks,d::ds,q=>if k=q then some d else valD ks ds q
 | _,_,_=>none
theorem zhO (k q:Key)(v:V)(r:List (Key×V)):valV ((k,v)::r) q=if k=q then some v else valV r q:=by
 unfold valV
 rw [List.find?_cons]
 by_cases h:k=q
 ·rw [if_pos h,decide_eq_true h];rfl
 ·rw [if_neg h,decide_eq_false h]
theorem zh5 {k q:Key}{ks:List Key}{d:D}{ds:List D}:valD (k::ks) (d::ds) q=if k=q then some d else valD ks ds q:=rfl
theorem zdq {K:PySem.W.Frag}{H:Hp}(q:Key):∀ {ks:List Key} {ds:List D} {xs:List V},ks.length=xs.length→IsDs K H ds xs →
 (∀ d,valD ks ds q=some d→∃ x,valV (ks.zip xs) q=some x∧IsD K H d x)∧(valD ks ds q=none→valV (ks.zip xs) q=none)
 | [],ds,xs,hl,h=>by
  have:xs=[]:=List.length_eq_zero_iff.mp hl.symm
  subst this
  refine ⟨fun d e => ?_,fun _=>rfl⟩
  cases ds<;>exact zqn e
 | k::ks,[],xs,hl,h=>by
  rw [IsDs.nil_iff] at h
  subst h
  cases hl
 | k::ks,d::ds,xs,hl,h=>by
  rw [IsDs.cons_iff] at h
  refine zc2c h fun x r zr2 h1 h2 => ?_
  obtain rfl:=zr2
  have ih:=zdq q (ks:=ks) (Nat.succ.inj hl) h2
  rw [List.zip_cons_cons,zhO]
  rw [zh5]
  by_cases hk:k=q
  ·rw [if_pos hk,if_pos hk]
   exact ⟨fun d' e=>by cases e;exact ⟨x,rfl,h1⟩,fun e=>by cases e⟩
  ·rw [if_neg hk,if_neg hk]
   exact ih
noncomputable def chgD:List Key→List D→Key→D→List D
 | k::ks,d::ds,q,v=>(if k=q then v else d)::chgD ks ds q v
 | _,_,_,_ => []
noncomputable def chgV:List Key→List V→Key→V→List V
 | k::ks,d::ds,q,v=>(if k=q then v else d)::chgV ks ds q v
 | _,_,_,_ => []
theorem zhq {k q:Key}{ks:List Key}{d v:D}{ds:List D}:chgD (k::ks) (d::ds) q v=(if k=q then v else d)::chgD ks ds q v:=rfl
theorem zhY {k q:Key}{ks:List Key}{d v:V}{ds:List V}:chgV (k::ks) (d::ds) q v=(if k=q then v else d)::chgV ks ds q v:=rfl
theorem zkG {K:PySem.W.Frag}{H:Hp}{q:Key}{d:D}{v:V}(hv:IsD K H d v):∀ {ks:List Key} {ds:List D} {xs:List V},ks.length=xs.length→IsDs K H ds xs→IsDs K H (chgD ks ds q d) (chgV ks xs q v)∧(chgV ks xs q v).length=ks.length ∧
 (ks.zip xs).map (fun kv=>if kv.1=q then (kv.1,v) else kv)=ks.zip (chgV ks xs q v)
 | [],ds,xs,hl,h=>by
  have:xs=[]:=List.length_eq_zero_iff.mp hl.symm
  subst this
  refine ⟨?_,rfl,rfl⟩
  cases ds<;>exact .nil
 | k::ks,[],xs,hl,h=>by
  rw [IsDs.nil_iff] at h
  subst h
  cases hl
 | k::ks,d'::ds,xs,hl,h=>by
  rw [IsDs.cons_iff] at h
  refine zc2c h fun x r zr2 h1 h2 => ?_
  obtain rfl:=zr2
  refine zc0c (zkG (q:=q) hv (ks:=ks) (Nat.succ.inj hl) h2) fun i1 i2 i3 => ?_
  rw [zhq,zhY]
  refine ⟨IsDs.mk ?_ i1,by rw [List.length_cons,i2];rfl,?_⟩
  ·by_cases hk:k=q
   ·rw [if_pos hk,if_pos hk];exact hv
   ·rw [if_neg hk,if_neg hk];exact h1
  ·rw [List.zip_cons_cons,List.map_cons,i3,List.zip_cons_cons]
   by_cases hk:k=q
   ·rw [if_pos hk,if_pos hk]
   ·rw [if_neg hk,if_neg hk]
noncomputable def hasK (q:Key)(ks:List Key):Bool:=ks.any fun k=>decide (k=q)
theorem zhr (q:Key):∀ {ks:List Key} {xs:List V},ks.length=xs.length→((ks.zip xs).any fun kv=>decide (kv.1=q))=hasK q ks
 | [],xs,_=>rfl
 | k::ks,[],h=>by cases h
 | k::ks,x::xs,h=>by
  rw [List.zip_cons_cons,List.any_cons,zhr q (Nat.succ.inj h)]
  rfl
def zfq (ks:List Key)(q:Key):List Key:=if hasK q ks=true then ks else ks++[q]
def zg9 (ks:List Key)(ds:List D)(q:Key)(v:D):List D:=if hasK q ks=true then chgD ks ds q v else ds++[v]
theorem zl0 {K:PySem.W.Frag}{H:Hp}{q:Key}{d:D}{v:V}{ks:List Key}{ds:List D}{xs:List V}(hl:ks.length=xs.length)(h:IsDs K H ds xs)(hv:IsD K H d v) :
 ∃ ys,putK (ks.zip xs) q v=(zfq ks q).zip ys∧(zfq ks q).length=ys.length∧IsDs K H (zg9 ks ds q d) ys:=by
 unfold putK zfq zg9
 rw [zhr q hl]
 by_cases hm:hasK q ks=true
 ·rw [if_pos hm,if_pos hm,if_pos hm]
  refine zc0c (zkG (q:=q) hv hl h) fun h1 h2 h3 => ?_
  exact ⟨_,h3,h2.symm,h1⟩
 ·rw [if_neg hm,if_neg hm,if_neg hm]
  exact ⟨xs++[v],by rw [List.zip_append hl];rfl,by simp [hl],h.snoc hv⟩
section
variable {X:Cx}{E:XK}{m:Option Bool}{a b o i e:Expr}{fa fb fo fi fv:FE}{pos pos' apos cpos:Pos}
theorem zif {K:PySem.W.Frag}{H:Hp}{ds:List D}{xs:List V}{k:Int}{d:D}(h:IsDs K H ds xs)(e:atI ds k=some d):∃ x,atI xs k=some x∧IsD K H d x:=by
 unfold atI at e ⊢
 rw [h.length]
 cases hj:ixN ds.length k with
 | none=>rw [hj] at e;exact zqn e
 | some j =>
  rw [hj] at e
  exact h.get e
def gIx:D→D→Option D
 | .lst ds,.int k=>atI ds k
 | .tup ds,.int k=>atI ds k
 | .scr ns,.int k=>(atI ns k).map .int
 | .str x,.int k=>if x.length≤sizeLine then (atI x.cps.toList k).map fun c=>.str ⟨#[c]⟩ else none
 | .dct ks ds,k=>(zb5 k).bind fun q=>valD ks ds q
 | .dcf ks ds,k=>(zb5 k).bind fun q=>valD ks ds q
 | _,_=>none
theorem zkL {K:PySem.W.Frag}{H:Hp}{d:D}{ks:List Key}{ds:List D}{v:V}(hd:d=.dct ks ds∨d=.dcf ks ds)(h:IsD K H d v):∃ a xs,v=.ref a∧Rd H a (.dK (ks.zip xs))∧ks.length=xs.length∧IsDs K H ds xs:=by
 rcases hd with rfl|rfl
 ·obtain ⟨a,xs,h1,h2,h3⟩:=IsD.dct_iff.mp h
  exact ⟨a,xs,h1,.inl h2,h3⟩
 ·obtain ⟨a,o,xs,h1,h2,h3⟩:=IsD.dcf_iff.mp h
  exact ⟨a,xs,h1,.inr ⟨o,h2⟩,h3⟩
theorem zfw {H H':Hp}{a:Addr}{u:HO}(e:Same H H')(h:Rd H a u):Rd H' a u:=h.imp (fun q=>e _ _ q) (by rintro ⟨o,q⟩;exact ⟨o,e _ _ q⟩)
theorem zin {H:Hp}{a:Addr}{kvs:List (Key×V)}{k:Key}(e:Rd H a (.dK kvs)):DGet H a (kV k) (valV kvs k):=.inl ⟨kvs,k,e,rfl,rfl⟩
theorem zlQ:IxR X (rD2 X.K fun d e=>match d with
 | .dct _ _=>none
 | .dcf _ _=>none
 | d=>gIx d e):=IxR.weak zp0 fun x y H Q ⟨F,d,e,z,sF,id,ie,hz,q⟩=>by
 cases d with
 | lst ds =>
  cases e with
  | int k =>
   rw [IsD.lst_iff] at id
   refine zc2c id fun p xs zr2 h1 h2 => ?_
   obtain rfl:=zr2
   refine zc1b (zif h2 (show atI ds k=some z from hz)) fun x hx i2 => ?_
   exact .inl ⟨p,xs,k,x,rfl,IsD.int_iff.mp ie,(h1.same sF).sq,hx,q _ F H (.refl sF) i2⟩
  | _=>exact zqn hz
 | tup ds =>
  cases e with
  | int k =>
   rw [IsD.tup_iff] at id
   refine zc2c id fun p xs zr2 h1 h2 => ?_
   obtain rfl:=zr2
   refine zc1b (zif h2 (show atI ds k=some z from hz)) fun x hx i2 => ?_
   exact .inr (.inl ⟨p,xs,k,x,rfl,IsD.int_iff.mp ie,(h1.same sF).sq,hx,q _ F H (.refl sF) i2⟩)
  | _=>exact zqn hz
 | scr ns =>
  cases e with
  | int k =>
   rw [IsD.scr_iff] at id
   refine zc1b id fun p zr1 h1 => ?_
   obtain rfl:=zr1
   refine zc1b (Option.map_eq_some_iff.mp (show (atI ns k).map D.int=some z from hz)) fun j hj hz => ?_
   subst hz
   refine .inl ⟨p,_,k,.int j,rfl,IsD.int_iff.mp ie,Same.seq sF h1,?_,q _ F H (.refl sF) (isI _ F)⟩
   unfold atI at hj ⊢
   rw [List.length_map]
   cases hx:ixN ns.length k with
   | none=>rw [hx] at hj;exact zqn hj
   | some i=>rw [hx] at hj;show (ns.map V.int)[i]? = _;rw [List.getElem?_map,show ns[i]? = some j from hj];rfl
  | _=>exact zqn hz
 | str t =>
  cases e with
  | int k =>
   have hz:(if t.length≤sizeLine then (atI t.cps.toList k).map fun c=>D.str ⟨#[c]⟩ else none)=some z:=hz
   split at hz
   ·rename_i hl
    cases hc:atI t.cps.toList k with
    | none=>rw [hc] at hz;exact zqn hz
    | some c =>
     rw [hc] at hz
     obtain rfl:=Option.some.inj hz
     exact .inr (.inr ⟨t,k,c,IsD.str_iff.mp id,IsD.int_iff.mp ie,hl,hc,q _ F H (.refl sF) (IsD.str_iff.mpr rfl)⟩)
   ·exact zqn hz
  | _=>exact zqn hz
 | _=>exact zqn hz
theorem zaB (hu:X.A.units+1<cLine)(ha:QE X E a fa)(hb:QE X E b fb)(hs:zf1 b)(hs2:NoSl b):QE X E (.Subscript a b pos) (dOp gIx fa fb) :=
 PE.weak (PE.or (zhk hu ha hb hs2) (zoM (zlQ) ha hb hs)) fun σ H Q h=>by
  refine zc3b h fun B F sd r n => ?_
  by_cases hd:∃ d ks ds,fa sd=.ok d∧(d=.dct ks ds∨d=.dcf ks ds)
  ·obtain ⟨d,ks,ds,hd,hc⟩:=hd
   refine .inl ⟨B,F,sd,r,(Res.need_bind n).monoE (fun x hx n1 v F1 H1 e1 i1 => ?_) fun _ _ q=>q⟩
   rw [hd] at hx
   cases hx
   refine ⟨B,F1,sd,r.step e1,(Res.need_bind n1).mono (fun y n2 w F2 H2 e2 i2 => ?_) fun _ _ q=>q.ext e1⟩
   refine zc1b (Res.need_ofO n2) fun z hz q => ?_
   obtain ⟨k,hk,hz⟩:=Option.bind_eq_some_iff.mp (show (zb5 y).bind (fun q=>valD ks ds q)=some z by rcases hc with rfl|rfl<;>exact hz)
   refine zc2d (zkL hc i1) fun p xs zr2 h1 h2 h3 => ?_
   obtain rfl:=zr2
   refine zc1b ((zdq k h2 h3).1 z hz) fun x hx ix => ?_
   refine ⟨p,x,rfl,?_,q x F2 H2 (e1.trans e2) (IsD.same e2.ff _ _ ix)⟩
   rw [zcg hk i2,← hx]
   exact zin (zfw e2.hh (zfw e1.fh h1))
  ·refine .inr (zij ⟨B,F,sd,r,?_⟩)
   unfold dOp at n ⊢
   cases hx:fa sd with
   | ok d =>
    rw [hx] at n
    cases d with
    | dct ks ds=>exact absurd ⟨_,ks,ds,hx,.inl rfl⟩ hd
    | dcf ks ds=>exact absurd ⟨_,ks,ds,hx,.inr rfl⟩ hd
    | _=>exact n
   | no=>rw [hx] at n;exact n
   | ex c fs=>rw [hx] at n;exact n
def gIn (neg:Bool):D→D→Option D
 | k,.dct ks ds=>(zb5 k).map fun q=>.bl (if neg then !(valD ks ds q).isSome else (valD ks ds q).isSome)
 | k,.dcf ks ds=>(zb5 k).map fun q=>.bl (if neg then !(valD ks ds q).isSome else (valD ks ds q).isSome)
 | d,.lst ds=>if plN 12 d&&ds.all (plN 12) then some (.bl (if neg then !ds.any (fun e=>sameD e d) else ds.any fun e=>sameD e d)) else none
 | d,.tup ds=>if plN 12 d&&ds.all (plN 12) then some (.bl (if neg then !ds.any (fun e=>sameD e d) else ds.any fun e=>sameD e d)) else none
 | _,_=>none
theorem zkI {K:PySem.W.Frag}{H:Hp}:∀ (n:Nat) (d e:D) (v:V),plN n d=true→plN n e=true→IsD K H d v→IsD K H e v→d=e
 | 0,_,_,_,h,_,_,_=>by exact zqb h
 | n+1,d,e,v,hd,he,h1,h2=>by
  have all:∀ (ds es:List D) (xs:List V),ds.all (plN n)=true→es.all (plN n)=true→IsDs K H ds xs→IsDs K H es xs→ds=es:=by
   intro ds
   induction ds with
   | nil =>
    intro es xs _ _ h1 h2
    rw [IsDs.nil_iff] at h1
    subst h1
    have:=h2.length
    exact (List.length_eq_zero_iff.mp this.symm).symm
   | cons d ds ih =>
    intro es xs p1 p2 h1 h2
    rw [List.all_cons,Bool.and_eq_true] at p1
    rw [IsDs.cons_iff] at h1
    refine zc2c h1 fun x r zr2 h3 h4 => ?_
    obtain rfl:=zr2
    cases es with
    | nil=>rw [IsDs.nil_iff] at h2;cases h2
    | cons e es =>
     rw [List.all_cons,Bool.and_eq_true] at p2
     rw [IsDs.cons_iff] at h2
     refine zc2c h2 fun x' r' e' h5 h6 => ?_
     cases e'
     rw [zkI n d e x p1.1 p2.1 h3 h5,ih es r p1.2 p2.2 h4 h6]
  have ne:∀ {a:Addr} {xs ys:List V},TupD K H a xs→LstD K H a ys→False:=fun {a xs ys} q1 q2=>by
   rcases q2 with q2|⟨o,q2⟩
   ·rw [q1] at q2;cases q2
   ·rw [q1] at q2;cases q2
  cases d with
  | int i =>
   rw [IsD.int_iff] at h1;subst h1
   cases e with
   | int j=>rw [IsD.int_iff] at h2;cases h2;rfl
   | str j=>rw [IsD.str_iff] at h2;cases h2
   | non=>rw [IsD.non_iff] at h2;cases h2
   | tup es=>rw [IsD.tup_iff] at h2;obtain ⟨_,_,z,_⟩:=h2;cases z
   | lst es=>rw [IsD.lst_iff] at h2;obtain ⟨_,_,z,_⟩:=h2;cases z
   | _=>exact zqb he
  | str i =>
   rw [IsD.str_iff] at h1;subst h1
   cases e with
   | int j=>rw [IsD.int_iff] at h2;cases h2
   | str j=>rw [IsD.str_iff] at h2;cases h2;rfl
   | non=>rw [IsD.non_iff] at h2;cases h2
   | tup es=>rw [IsD.tup_iff] at h2;obtain ⟨_,_,z,_⟩:=h2;cases z
   | lst es=>rw [IsD.lst_iff] at h2;obtain ⟨_,_,z,_⟩:=h2;cases z
   | _=>exact zqb he
  | non =>
   rw [IsD.non_iff] at h1;subst h1
   cases e with
   | int j=>rw [IsD.int_iff] at h2;cases h2
   | str j=>rw [IsD.str_iff] at h2;cases h2
   | non=>rfl
   | tup es=>rw [IsD.tup_iff] at h2;obtain ⟨_,_,z,_⟩:=h2;cases z
   | lst es=>rw [IsD.lst_iff] at h2;obtain ⟨_,_,z,_⟩:=h2;cases z
   | _=>exact zqb he
  | tup ds =>
   rw [IsD.tup_iff] at h1
   refine zc2c h1 fun a xs zr2 q1 q2 => ?_
   obtain rfl:=zr2
   cases e with
   | int j=>rw [IsD.int_iff] at h2;cases h2
   | str j=>rw [IsD.str_iff] at h2;cases h2
   | non=>rw [IsD.non_iff] at h2;cases h2
   | tup es =>
    rw [IsD.tup_iff] at h2
    refine zc2c h2 fun a' xs' e' q3 q4 => ?_
    cases e'
    have q1':H a=some (.tup xs):=q1
    rw [show H a=some (.tup xs') from q3] at q1'
    cases q1'
    rw [all ds es _ hd he q2 q4]
   | lst es =>
    rw [IsD.lst_iff] at h2
    refine zc2c h2 fun a' xs' e' q3 q4 => ?_
    cases e'
    exact (ne q1 q3).elim
   | _=>exact zqb he
  | lst ds =>
   rw [IsD.lst_iff] at h1
   refine zc2c h1 fun a xs zr2 q1 q2 => ?_
   obtain rfl:=zr2
   cases e with
   | int j=>rw [IsD.int_iff] at h2;cases h2
   | str j=>rw [IsD.str_iff] at h2;cases h2
   | non=>rw [IsD.non_iff] at h2;cases h2
   | tup es =>
    rw [IsD.tup_iff] at h2
    refine zc2c h2 fun a' xs' e' q3 q4 => ?_
    cases e'
    exact (ne q3 q1).elim
   | lst es =>
    rw [IsD.lst_iff] at h2
    refine zc2c h2 fun a' xs' e' q3 q4 => ?_
    cases e'
    have:xs=xs':=by
     rcases q1 with q1|⟨_,q1⟩<;>rcases q3 with q3|⟨_,q3⟩<;>rw [q1] at q3<;>cases q3<;>rfl
    subst this
    rw [all ds es _ hd he q2 q4]
   | _=>exact zqb he
  | _=>exact zqb hd
def ValIs (K:PySem.W.Frag)(H:Hp)(d:D)(u:Value):Prop:=∃ v,RelV v u∧IsD K H d v
def eqTo (K:PySem.W.Frag)(H:Hp)(d:D)(u:Value):Bool:=@decide (ValIs K H d u) (Classical.propDecidable _)
theorem zjg {K:PySem.W.Frag}{H:Hp}{d e:D}{v:V}{u:Value}(hd:plN 12 d=true)(he:plN 12 e=true)(h:IsD K H e v)(r:RelV v u):eqTo K H d u=sameD e d:=by
 unfold eqTo
 by_cases q:e=d
 ·rw [q,zbK]
  exact @decide_eq_true _ (Classical.propDecidable _) ⟨v,r,q ▸ h⟩
 ·rw [zcj.mpr q]
  refine @decide_eq_false _ (Classical.propDecidable _) fun ⟨v',r',h'⟩=>q ?_
  rw [r'.inj r] at h'
  exact zkI 12 e d v he hd h h'
theorem any_eq {P:Program}{w:World}{K:PySem.W.Frag}{A:Around}{s:Shared}{H:Hp}(hu:A.units+60<cLine)(ok:HOk P w H s.heap){d:D}{x:V}{v:Value}(hp:plN 12 d=true)(hx:IsD K H d x)(rx:RelV x v) :
 ∀ {ds:List D} {xs:List V} {us:List Value},ds.all (plN 12)=true→IsDs K H ds xs→Vals xs us→us.map (eqTo K H d)=ds.map (fun e=>sameD e d)∧∀ u∈us,SeqAt.EqAt A s u v (eqTo K H d u):=by
 intro ds
 induction ds with
 | nil =>
  intro xs us _ h1 h2
  rw [IsDs.nil_iff] at h1
  subst h1
  cases h2
  exact ⟨rfl,fun u hu=>nomatch hu⟩
 | cons e ds ih =>
  intro xs us hq h1 h2
  rw [List.all_cons,Bool.and_eq_true] at hq
  rw [IsDs.cons_iff] at h1
  refine zc2c h1 fun y rs zr2 h3 h4 => ?_
  obtain rfl:=zr2
  cases h2 with
  | cons r1 r2 =>
   obtain ⟨i1,i2⟩:=ih hq.2 h4 r2
   obtain ⟨as,ra⟩:=zbR ok 12 e y _ hq.1 h3 r1
   obtain ⟨cs,rb⟩:=zbR ok 12 d x v hp hx rx
   obtain ⟨l1,z1⟩:=zdP 12 e hq.1
   obtain ⟨l2,z2⟩:=zdP 12 d hp
   have es:=zjg hp hq.1 h3 r1
   refine ⟨by rw [List.map_cons,List.map_cons,i1,es],fun u hm => ?_⟩
   rcases List.mem_cons.mp hm with hm|hm
   ·subst hm
    rw [es,← (Bool.eq_iff_iff.mpr ((ziz 12 e d hq.1 hp).trans zcZ.symm):PyData.eqv (toPy e) (toPy d)=sameD e d)]
    exact SeqAt.eqAt_reads (toPy e) (toPy d) A s _ v as cs ra rb l1 l2 (by omega)
   ·exact i2 u hm
theorem any_map' {α : Type}{f : α → Bool}{l:List α}:l.any f=(l.map f).any id:=by rw [List.any_map];rfl
theorem zp9 (hu:X.A.units+64<cLine)(neg:Bool):OpR X (compareOp (if neg then .NotIn else .In)) (rD2 X.K fun d e=>match e with
 | .dct _ _=>none
 | .dcf _ _=>none
 | e=>gIn neg d e):=by
 rintro pins s σ H x y v u Q I rx ry ⟨F,d,e,z,sF,id,ie,hz,q⟩
 have id':=IsD.same sF _ _ id
 cases e with
 | lst ds =>
  have hz:(if plN 12 d&&ds.all (plN 12) then some (D.bl (if neg then !ds.any (fun e=>sameD e d) else ds.any fun e=>sameD e d)) else none)=some z:=hz
  split at hz
  ·rename_i hp
   rw [Bool.and_eq_true] at hp
   obtain rfl:=Option.some.inj hz
   rw [IsD.lst_iff] at ie
   refine zc2c ie fun p xs zr2 h1 h2 => ?_
   obtain rfl:=zr2
   obtain rfl:u=Value.ref p:=ry
   refine zc1c (I.list (h1.same sF).sq) fun its ri pl hl => ?_
   obtain ⟨k1,k2⟩:=any_eq (A:=X.A.in1) (by show X.A.units+1+60<cLine;omega) I.hok hp.1 id' rx hp.2 (IsDs.same sF _ _ h2) ri
   have ea:its.toArray.any (eqTo X.K H d)=ds.any (fun e=>sameD e d):=by
    rw [show its.toArray.any (eqTo X.K H d)=its.any (eqTo X.K H d) by simp,any_map',k1,← any_map']
   cases neg with
   | true =>
    refine SeqAt.notIn_listAt (eqTo X.K H d) pl.isList (fun w hw=>k2 w (by simpa using hw)) ⟨.bl _,H,I,rfl,?_⟩
    rw [ea]
    exact q _ F H (.refl sF) (isB _ F)
   | false =>
    refine SeqAt.in_listAt (eqTo X.K H d) pl.isList (fun w hw=>k2 w (by simpa using hw)) ⟨.bl _,H,I,rfl,?_⟩
    rw [ea]
    exact q _ F H (.refl sF) (isB _ F)
  ·exact zqn hz
 | tup ds =>
  have hz:(if plN 12 d&&ds.all (plN 12) then some (D.bl (if neg then !ds.any (fun e=>sameD e d) else ds.any fun e=>sameD e d)) else none)=some z:=hz
  split at hz
  ·rename_i hp
   rw [Bool.and_eq_true] at hp
   obtain rfl:=Option.some.inj hz
   rw [IsD.tup_iff] at ie
   refine zc2c ie fun p xs zr2 h1 h2 => ?_
   obtain rfl:=zr2
   obtain rfl:u=Value.ref p:=ry
   refine zc1c (I.tuple (h1.same sF).sq) fun its ri pl hl => ?_
   obtain ⟨k1,k2⟩:=any_eq (A:=X.A.in1) (by show X.A.units+1+60<cLine;omega) I.hok hp.1 id' rx hp.2 (IsDs.same sF _ _ h2) ri
   have ea:its.toArray.any (eqTo X.K H d)=ds.any (fun e=>sameD e d):=by
    rw [show its.toArray.any (eqTo X.K H d)=its.any (eqTo X.K H d) by simp,any_map',k1,← any_map']
   cases neg with
   | true =>
    refine SeqAt.notIn_tupleAt (eqTo X.K H d) pl (fun w hw=>k2 w (by simpa using hw)) ⟨.bl _,H,I,rfl,?_⟩
    rw [ea]
    exact q _ F H (.refl sF) (isB _ F)
   | false =>
    refine SeqAt.in_tupleAt (eqTo X.K H d) pl (fun w hw=>k2 w (by simpa using hw)) ⟨.bl _,H,I,rfl,?_⟩
    rw [ea]
    exact q _ F H (.refl sF) (isB _ F)
  ·exact zqn hz
 | _=>exact zqn hz
theorem tD_in {K:PySem.W.Frag}{neg:Bool}{σ : St}{H:Hp}{Q:VK}(h:tD K E (dOp (gIn neg) fa fb) σ H Q) :
 (fun σ H Q=>tD K E fa σ H fun y H1=>tD K E fb σ H1 fun x H2 => ∃ a o,x=.ref a∧DGet H2 a y o∧Q (.bl (if neg then !o.isSome else o.isSome)) H2) σ H Q∨tOp (rD2 K fun d e=>match e with
 | .dct _ _=>none
 | .dcf _ _=>none
 | e=>gIn neg d e) (tD K E fa) (tD K E fb) σ H Q:=by
 refine zc3b h fun B F sd r n => ?_
 by_cases hd:∃ d ks ds,fb sd=.ok d∧(d=.dct ks ds∨d=.dcf ks ds)
 ·obtain ⟨d,ks,ds,hd,hc⟩:=hd
  refine .inl ⟨B,F,sd,r,(Res.need_bind n).mono (fun x n1 v F1 H1 e1 i1 => ?_) fun _ _ q=>q⟩
  refine ⟨B,F1,sd,r.step e1,(Res.need_bind n1).monoE (fun y hy n2 w F2 H2 e2 i2 => ?_) fun _ _ q=>q.ext e1⟩
  rw [hd] at hy
  cases hy
  refine zc1b (Res.need_ofO n2) fun z hz q => ?_
  obtain ⟨k,hk,hz⟩:=Option.map_eq_some_iff.mp (show (zb5 x).map (fun q=>D.bl (if neg then !(valD ks ds q).isSome else (valD ks ds q).isSome))=some z by rcases hc with rfl|rfl<;>exact hz)
  subst hz
  refine zc2d (zkL hc i2) fun p xs zr2 h1 h2 h3 => ?_
  obtain rfl:=zr2
  obtain ⟨g1,g2⟩:=zdq k h2 h3
  refine ⟨p,valV (ks.zip xs) k,rfl,?_,?_⟩
  ·rw [zcg hk i1]
   exact zin (zfw e2.fh h1)
  ·have es:(valV (ks.zip xs) k).isSome=(valD ks ds k).isSome:=by
    cases hv:valD ks ds k with
    | none=>rw [g2 hv];rfl
    | some d=>obtain ⟨x,hx,_⟩:=g1 d hv;rw [hx];rfl
   rw [es]
   exact q _ F2 H2 (e1.trans e2) (IsD.bl_iff.mpr rfl)
 ·refine .inr (zij ⟨B,F,sd,r,?_⟩)
  unfold dOp at n ⊢
  cases hx:fa sd with
  | ok d =>
   rw [hx] at n
   cases hy:fb sd with
   | ok e =>
    rw [hy] at n
    cases e with
    | dct ks ds=>exact absurd ⟨_,ks,ds,hy,.inl rfl⟩ hd
    | dcf ks ds=>exact absurd ⟨_,ks,ds,hy,.inr rfl⟩ hd
    | _=>exact n
   | no=>rw [hy] at n;exact n
   | ex c fs=>rw [hy] at n;exact n
  | no=>rw [hx] at n;exact n
  | ex c fs=>rw [hx] at n;exact n
theorem zm2 (hu:X.A.units+64<cLine)(ha:QE X E a fa)(hb:QE X E b fb)(hm:autoParam (behindInMarks .NotIn b=false) zau._auto_1):QE X E (.Compare a [.NotIn] [b] pos) (dOp (gIn true) fa fb) :=
 PE.weak (PE.or (zoZ (zih (by omega) ha hb) hm) (zhH (zp9 hu true) ha hb hm)) fun σ H Q h=>tD_in h
end
end L2.DL
namespace L2.DL
open PySem PySem.Spec PyProof.Rows
section
variable {X:Cx}{E:XK}{m:Option Bool}{a b o i e f tg:Expr}{fa fb fo fi fv:FE}{fr:FA}{pos pos' apos cpos p:Pos}
theorem zco {K:PySem.W.Frag}{H:Hp}{d:D}{vs:List V}(h:IsDs K H [d] vs):∃ v,vs=[v]∧IsD K H d v:=by
 rw [IsDs.cons_iff] at h
 refine zc2c h fun v r zr2 h1 h2 => ?_
 obtain rfl:=zr2
 rw [IsDs.nil_iff] at h2
 subst h2
 exact ⟨v,rfl,h1⟩
theorem zgZ {K:PySem.W.Frag}{H:Hp}{d e:D}{vs:List V}(h:IsDs K H [d,e] vs):∃ v w,vs=[v,w]∧IsD K H d v∧IsD K H e w:=by
 rw [IsDs.cons_iff] at h
 refine zc2c h fun v r zr2 h1 h2 => ?_
 obtain rfl:=zr2
 refine zc1b (zco h2) fun w zr1 h3 => ?_
 obtain rfl:=zr1
 exact ⟨v,w,rfl,h1,h3⟩
noncomputable def gLen:List D→Option D
 | [.lst ds]=>some (.int ds.length)
 | [.tup ds]=>some (.int ds.length)
 | [.dct ks _]=>some (.int ks.length)
 | [.scr ns]=>some (.int ns.length)
 | [.str x]=>if x.length≤sizeLine then some (.int x.length) else none
 | _=>none
noncomputable def LenP (ds:List D)(z:D):Prop:=(∃ es,ds=[.lst es]∧z=.int es.length)∨(∃ es,ds=[.tup es]∧z=.int es.length)∨(∃ ks es,ds=[.dct ks es]∧z=.int ks.length)∨(∃ ns,ds=[.scr ns]∧z=.int ns.length)∨∃ x,x.length≤sizeLine∧ds=[.str x]∧z=.int x.length
theorem zjo {ds:List D}{z:D}(hz:gLen ds=some z):LenP ds z:=by
 cases ds with
 | nil=>exact zqn hz
 | cons d ds =>
  cases ds with
  | nil =>
   cases d with
   | lst ds=>exact .inl ⟨_,rfl,(Option.some.inj hz).symm⟩
   | tup ds=>exact .inr (.inl ⟨_,rfl,(Option.some.inj hz).symm⟩)
   | dct ks ds=>exact .inr (.inr (.inl ⟨_,_,rfl,(Option.some.inj hz).symm⟩))
   | scr ns=>exact .inr (.inr (.inr (.inl ⟨_,rfl,(Option.some.inj hz).symm⟩)))
   | str x=>exact let q:=zck hz;.inr (.inr (.inr (.inr ⟨_,q.1,rfl,q.2.symm⟩)))
   | _=>exact zqn hz
  | cons e ds=>cases d<;>exact zqn hz
theorem zaT:zaJ X (.builtin "len") (rDA X.K gLen):=zaJ.weak (zaJ.or zeD (zaJ.or ziF ze2)) fun xs H Q zh=>by
 obtain ⟨F,ds,z,sF,id,hz,q⟩:=zh
 rcases zjo hz with ⟨es,rfl,rfl⟩|⟨es,rfl,rfl⟩|⟨ks,es,rfl,rfl⟩|⟨ns,rfl,rfl⟩|⟨x,hl,rfl,rfl⟩
 ·obtain ⟨v,rfl,h⟩:=zco id
  rw [IsD.lst_iff] at h
  obtain ⟨a,ys,rfl,h1,h2⟩:=h
  rw [← h2.length] at q
  exact .inl ⟨a,ys,rfl,.inl (h1.same sF).sq,q _ F H (.refl sF) (isI _ F)⟩
 ·obtain ⟨v,rfl,h⟩:=zco id
  rw [IsD.tup_iff] at h
  obtain ⟨a,ys,rfl,h1,h2⟩:=h
  rw [← h2.length] at q
  exact .inl ⟨a,ys,rfl,.inr (h1.same sF).sq,q _ F H (.refl sF) (isI _ F)⟩
 ·obtain ⟨v,rfl,h⟩:=zco id
  rw [IsD.dct_iff] at h
  obtain ⟨a,ys,rfl,h1,h2,h3⟩:=h
  refine .inr (.inl ⟨a,_,rfl,sF _ _ h1,?_⟩)
  rw [List.length_zip,← h2,Nat.min_self]
  exact q _ F H (.refl sF) (isI _ F)
 ·obtain ⟨v,rfl,h⟩:=zco id
  rw [IsD.scr_iff] at h
  obtain ⟨a,rfl,h1⟩:=h
  refine .inl ⟨a,_,rfl,.inl (Same.seq sF h1),?_⟩
  rw [List.length_map]
  exact q _ F H (.refl sF) (isI _ F)
 ·obtain ⟨v,rfl,h⟩:=zco id
  rw [IsD.str_iff] at h
  subst h
  exact .inr (.inr ⟨_,rfl,hl,q _ F H (.refl sF) (isI _ F)⟩)
noncomputable def zjW:List D→Option D
 | [.int i,.int j]=>some (.int (if j > i then j else i))
 | _=>none
noncomputable def zjL:List D→Option D
 | [.int i,.int j]=>some (.int (if j<i then j else i))
 | _=>none
noncomputable def zok (ds:List D):Prop:=∃ i j,ds=[.int i,.int j]
theorem zkr {ds:List D}{z:D}(hz:zjW ds=some z):zok ds:=by
 cases ds with
 | nil=>exact zqn hz
 | cons d ds =>
  cases ds with
  | nil=>cases d<;>exact zqn hz
  | cons e ds =>
   cases d with
   | int i =>
    cases e with
    | int j =>
     cases ds with
     | nil=>exact ⟨_,_,rfl⟩
     | cons _ _=>exact zqn hz
    | _=>exact zqn hz
   | _=>exact zqn hz
theorem zls {ds:List D}{z:D}(hz:zjL ds=some z):zok ds:=by
 cases ds with
 | nil=>exact zqn hz
 | cons d ds =>
  cases ds with
  | nil=>cases d<;>exact zqn hz
  | cons e ds =>
   cases d with
   | int i =>
    cases e with
    | int j =>
     cases ds with
     | nil=>exact ⟨_,_,rfl⟩
     | cons _ _=>exact zqn hz
    | _=>exact zqn hz
   | _=>exact zqn hz
theorem znY (hc:X.calm=true):zaJ X (.builtin "max") (rDA X.K zjW):=zaJ.weak (zhf hc) fun xs H Q zh=>by
 refine zc3a zh fun F ds z zz=>zc0d zz fun sF id hz q => ?_
 refine zc2a (zkr hz) fun i j zr2 => ?_
 obtain rfl:=zr2
 obtain rfl:=Option.some.inj hz
 refine zc2c (zgZ id) fun v w zr2 h1 h2 => ?_
 obtain rfl:=zr2
 exact ⟨_,_,by rw [IsD.int_iff.mp h1,IsD.int_iff.mp h2],q _ F H (.refl sF) (isI _ F)⟩
theorem znH (hc:X.calm=true):zaJ X (.builtin "min") (rDA X.K zjL):=zaJ.weak (ziC hc) fun xs H Q zh=>by
 refine zc3a zh fun F ds z zz=>zc0d zz fun sF id hz q => ?_
 refine zc2a (zls hz) fun i j zr2 => ?_
 obtain rfl:=zr2
 obtain rfl:=Option.some.inj hz
 refine zc2c (zgZ id) fun v w zr2 h1 h2 => ?_
 obtain rfl:=zr2
 exact ⟨_,_,by rw [IsD.int_iff.mp h1,IsD.int_iff.mp h2],q _ F H (.refl sF) (isI _ F)⟩
def zgt:D→Option (List Int)
 | .lst ds=>zbX zgS ds
 | _=>none
theorem ziV {K:PySem.W.Frag}{H:Hp}{d:D}{ns:List Int}{v:V}(h:zgt d=some ns)(i:IsD K H d v):∃ a,v=.ref a∧LstD K H a (ns.map V.int):=by
 cases d with
 | lst ds =>
  rw [IsD.lst_iff] at i
  refine zc2c i fun a xs zr2 h1 h2 => ?_
  obtain rfl:=zr2
  rw [zgw (show zbX zgS ds=some ns from h)] at h2
  rw [IsDs.ints_iff h2] at h1
  exact ⟨a,rfl,h1⟩
 | _=>exact zqn h
theorem zg1 (ns:List Int):zgt (.lst (ns.map D.int))=some ns:=zg6 ns
noncomputable def tyN:D→Option String
 | .non=>some "NoneType"
 | .bl _=>some "bool"
 | .int _=>some "int"
 | .str _=>some "str"
 | .lst _=>some "list"
 | .tup _=>some "tuple"
 | .dct _ _=>some "dict"
 | _=>none
noncomputable def tyIn (t n:String):Bool:=(t == n)||(t == "bool" && n == "int")
noncomputable def zlo (t n:String):Bool:=["NoneType", "bool", "int", "str", "list", "tuple", "dict"].contains t&&["bool", "int", "str", "list", "tuple", "dict"].contains n
def gIsi:List D→Option D
 | [d,.ty n]=>(tyN d).bind fun t=>if zlo t n then some (.bl (tyIn t n)) else none
 | _=>none
theorem qc_ty {n:String}{x:Str}{u:Value}(hg:Gl X x)(hm:X.mg x=none)(hv:bootBuiltins x=some u)(r:RelV (.ty n) u)(hn:autoParam (x ≠ "__name__") zav._auto_1)(hd:autoParam ((x == ("__debug__" : Str))=false) zav._auto_1):QE X E (.Name x pos) (dC (.ty n)) :=
 zc2 (zlP (v:=.ty n) hg hm hv r hn hd) fun _=>IsD.ty_iff.mpr rfl
noncomputable def zbM:List D→Option D
 | [.lst ds]=>some (.lst ds)
 | [.tup ds]=>some (.lst ds)
 | [.scr ns]=>some (.lst (ns.map .int))
 | _=>none
noncomputable def ListP (ds:List D)(z:D):Prop:=(∃ es,ds=[.lst es]∧z=.lst es)∨(∃ es,ds=[.tup es]∧z=.lst es)∨∃ ns,ds=[.scr ns]∧z=.lst (ns.map .int)
theorem zhU {ds:List D}{z:D}(hz:zbM ds=some z):ListP ds z:=by
 cases ds with
 | nil=>exact zqn hz
 | cons d ds =>
  cases ds with
  | nil =>
   cases d with
   | lst ds=>exact .inl ⟨_,rfl,(Option.some.inj hz).symm⟩
   | tup ds=>exact .inr (.inl ⟨_,rfl,(Option.some.inj hz).symm⟩)
   | scr ns=>exact .inr (.inr ⟨_,rfl,(Option.some.inj hz).symm⟩)
   | _=>exact zqn hz
  | cons e ds=>cases d<;>exact zqn hz
theorem zcR:zaJ X (.type "list") (rDAN X.K zbM):=zaJ.weak ze5 fun xs H Q zh=>by
 obtain ⟨F,ds,z,sF,id,hz,q⟩:=zh
 have fin:∀ {es:List D} {ys:List V},IsDs X.K F es ys→OkN X.K F H Q (.lst es)→∀ l,H l=none→Q (.ref l) (upd H l (.lst ys)):=fun {es ys} h q l hl =>
  q l F _ (.keep sF hl _) hl (za8 sF hl) ⟨ys,zam,h⟩
 rcases zhU hz with ⟨es,rfl,rfl⟩|⟨es,rfl,rfl⟩|⟨ns,rfl,rfl⟩
 ·obtain ⟨v,rfl,h⟩:=zco id
  rw [IsD.lst_iff] at h
  obtain ⟨a,ys,rfl,h1,h2⟩:=h
  exact ⟨a,ys,rfl,.inl (h1.same sF).sq,fin h2 q⟩
 ·obtain ⟨v,rfl,h⟩:=zco id
  rw [IsD.tup_iff] at h
  obtain ⟨a,ys,rfl,h1,h2⟩:=h
  exact ⟨a,ys,rfl,.inr (h1.same sF).sq,fin h2 q⟩
 ·obtain ⟨v,rfl,h⟩:=zco id
  rw [IsD.scr_iff] at h
  obtain ⟨a,rfl,h1⟩:=h
  exact ⟨a,_,rfl,.inl (Same.seq sF h1),fin (IsDs.ints _) q⟩
noncomputable def zdx:List D→Option D
 | [.lst ds]=>some (.tup ds)
 | [.tup ds]=>some (.tup ds)
 | _=>none
noncomputable def TupP (ds:List D)(z:D):Prop:=(∃ es,ds=[.lst es]∧z=.tup es)∨∃ es,ds=[.tup es]∧z=.tup es
theorem zgJ {ds:List D}{z:D}(hz:zdx ds=some z):TupP ds z:=by
 cases ds with
 | nil=>exact zqn hz
 | cons d ds =>
  cases ds with
  | nil =>
   cases d with
   | lst ds=>exact .inl ⟨_,rfl,(Option.some.inj hz).symm⟩
   | tup ds=>exact .inr ⟨_,rfl,(Option.some.inj hz).symm⟩
   | _=>exact zqn hz
  | cons e ds=>cases d<;>exact zqn hz
theorem zh2:zaJ X (.type "tuple") (rDA X.K zdx):=zaJ.weak zeq fun xs H Q zh=>by
 refine zc3a zh fun F ds z zz=>zc0d zz fun sF id hz q => ?_
 rcases zgJ hz with ⟨es,rfl,rfl⟩|⟨es,rfl,rfl⟩
 ·refine zc1b (zco id) fun v zr1 h => ?_
  obtain rfl:=zr1
  rw [IsD.lst_iff] at h
  refine zc2c h fun a ys zr2 h1 h2 => ?_
  obtain rfl:=zr2
  refine ⟨a,ys,rfl,.inl ⟨(h1.same sF).sq,fun l hl => ?_⟩⟩
  have ea:=Ext.alloc sF hl (.tup ys)
  exact q _ _ _ ea (IsD.tup_iff.mpr ⟨l,ys,rfl,.of zam,IsDs.same ea.ff _ _ h2⟩)
 ·refine zc1b (zco id) fun v zr1 h => ?_
  obtain rfl:=zr1
  have h':=h
  rw [IsD.tup_iff] at h
  refine zc2c h fun a ys zr2 h1 h2 => ?_
  obtain rfl:=zr2
  exact ⟨a,ys,rfl,.inr ⟨(h1.same sF).sq,q _ F H (.refl sF) h'⟩⟩
noncomputable def zk1:FE:=fun _=>.ok (.dct [] [])
theorem zk7:QN X E (.Dict [] [] pos) zk1:=PE.weak zkt (by rintro σ H Q ⟨B,F,sd,r,n⟩;exact fun p hp=>n p F _ (.keep r.ext.fh hp _) hp (za8 r.ext.fh hp) ⟨[],zam,rfl,.nil⟩)
def zgK (i:Nat)(fk fv:FE):FS:=fun sd=>(fv sd).bind fun v=>match sd[i]? with
 | some (some (.own false (.dct ks ds)))=>(fk sd).bind fun k=>match zb5 k with
  | some q=>if ks.length<sizeLine then .ok (.next (sd.set i (some (.own false (.dct (zfq ks q) (zg9 ks ds q v)))))) else .no
  | none=>.no
 | _=>.no
theorem ziv {j:Nat}(hu:X.A.units+1<cLine)(ho:PE X o (tVar j))(hi:QE X E i fi)(hv:QE X E e fv)(hs:autoParam (swapsWith e (some (.Subscript o i pos')) pos.line X.env=pure false) zau._auto_1) :
 QS X E m (.Assign [.Subscript o i pos'] e pos) (zgK j fi fv):=PS.weak (zmD hu ho hi hv hs) fun T σ H zh=>by
 refine zc3b zh fun B F sd r n => ?_
 refine ⟨B,F,sd,r,(Res.need_bind n).mono (fun d n1 v F1 H1 e1 i1 => ?_) fun _ _ q=>q.ext r.ext⟩
 split at n1
 ·rename_i ks ds hj
  refine zc1e ((r.step e1).own hj) fun l h1 h2 h3 zr4 _ => ?_
  obtain ⟨xs,h4,h5,h6⟩:=zr4
  refine ⟨.ref l,h1,B,F1,sd,r.step e1,(Res.need_bind n1).mono (fun k n2 w F2 H2 e2 i2 => ?_) fun _ _ q=>q.ext (r.step e1).ext⟩
  split at n2
  ·rename_i q hk
   split at n2
   ·rename_i hz
    refine zc1c (zl0 (K:=X.K) (q:=q) h5 (IsDs.same e2.ff _ _ h6) (IsD.same e2.ff _ _ i1)) fun ys y1 y2 y3 => ?_
    have hH:=e2.hh _ _ h4
    refine ⟨l,_,rfl,(by rw [zcg hk i2];exact DPut.k hH (by rw [List.length_zip];omega)),?_⟩
    exact n2 σ F2 _ (e1.ff.trans e2.ff) (((r.step e1).step e2).chg hj h1 ⟨ys,by rw [zam,y1],y2,y3⟩)
   ·exact n2.elim
  ·exact n2.elim
 ·exact n1.elim
noncomputable def walkL:D→Option (List D)
 | .lst ds=>some ds
 | .scr ns=>some (ns.map .int)
 | _=>none
noncomputable def walkT:D→Option (List D)
 | .tup ds=>some ds
 | _=>none
def iL (f:FE):FA:=fun sd=>(f sd).bind fun d=>.ofO (walkL d)
def iT (f:FE):FA:=fun sd=>(f sd).bind fun d=>.ofO (walkT d)
theorem zch {K:PySem.W.Frag}{F1:Hp}{J:It}{ds:List D}{xs:List V}{S:Hp→Prop}(h:IsDs K F1 ds xs)(sm:∀ F H,Same F1 F→Same F H→S H)(g:∀ i H x,S H→xs[i]? = some x→J.go i H)(st:∀ i H,S H→xs.length≤i→J.stop i H)
 (yl:∀ i H x H',S H→J.yld i H x H'→H'=H∧xs[i]? = some x):Walk K F1 J ds:=fun i F2 H2 s1 s2=>by
 have hS:=sm F2 H2 s1 s2
 refine ⟨fun hi => ?_,fun hi=>st i H2 hS (by rw [h.length];exact hi)⟩
 refine zc1b (h.get (List.getElem?_eq_getElem hi)) fun x hx _ => ?_
 refine ⟨g i H2 x hS hx,fun y H3 hy => ?_⟩
 obtain ⟨rfl,hy'⟩:=yl i H2 y H3 hS hy
 refine zc1b (h.getV hy') fun d hd id => ?_
 exact ⟨d,F2,hd,.refl s2,IsD.same s1 _ _ id⟩
theorem zlF (h:QE X E e fa):QI X E tg e (iL fa):=PI.weak (zlM h) fun σ H R zh=>by
 refine zc3b zh fun B F sd r n => ?_
 refine ⟨B,F,sd,r,(Res.need_bind n).mono (fun d n1 v F1 H1 e1 i1 => ?_) fun _ _ q=>q⟩
 refine zc1b (Res.need_ofO n1) fun ds hz q => ?_
 cases d with
 | lst es =>
  obtain rfl:=Option.some.inj hz
  rw [IsD.lst_iff] at i1
  refine zc2c i1 fun a xs zr2 h1 h2 => ?_
  obtain rfl:=zr2
  refine ⟨a,rfl,⟨xs,(h1.same e1.fh).sq⟩,q _ F1 H1 e1 (zch (S:=fun H=>SqL X.K H a xs) h2 (fun F H s1 s2=>((h1.same s1).same s2).sq) (fun i H x hS hx=>⟨xs,x,hS,hx⟩) (fun i H hS hi=>⟨xs,hS,hi⟩) fun i H x H' hS hy=>⟨hy.1,hy.2 xs hS⟩)⟩
 | scr ns =>
  obtain rfl:=Option.some.inj hz
  rw [IsD.scr_iff] at i1
  refine zc1b i1 fun a zr1 h1 => ?_
  obtain rfl:=zr1
  refine ⟨a,rfl,⟨_,Same.seq e1.fh h1⟩,q _ F1 H1 e1 (zch (S:=fun H=>SqL X.K H a (ns.map V.int)) (IsDs.ints ns) (fun F H s1 s2=>Same.seq s2 (Same.seq s1 h1)) (fun i H x hS hx=>⟨_,x,hS,hx⟩) (fun i H hS hi=>⟨_,hS,hi⟩) fun i H x H' hS hy=>⟨hy.1,hy.2 _ hS⟩)⟩
 | _=>exact zqn hz
theorem zoY (h:QE X E e fa):QI X E tg e (iT fa):=PI.weak (zoV h) fun σ H R zh=>by
 refine zc3b zh fun B F sd r n => ?_
 refine ⟨B,F,sd,r,(Res.need_bind n).mono (fun d n1 v F1 H1 e1 i1 => ?_) fun _ _ q=>q⟩
 refine zc1b (Res.need_ofO n1) fun ds hz q => ?_
 cases d with
 | tup es =>
  obtain rfl:=Option.some.inj hz
  rw [IsD.tup_iff] at i1
  refine zc2c i1 fun a xs zr2 h1 h2 => ?_
  obtain rfl:=zr2
  refine ⟨a,rfl,⟨xs,(h1.same e1.fh).sq⟩,q _ F1 H1 e1 (zch (S:=fun H=>SqT X.K H a xs) h2 (fun F H s1 s2=>((h1.same s1).same s2).sq) (fun i H x hS hx=>⟨xs,x,hS,hx⟩) (fun i H hS hi=>⟨xs,hS,hi⟩) fun i H x H' hS hy=>⟨hy.1,hy.2 xs hS⟩)⟩
 | _=>exact zqn hz
noncomputable def PIor {X:Cx}{tg e:Expr}{t t':TI}(h:PI X tg e t)(h':PI X tg e t'):PI X tg e (fun σ H R=>t σ H R∨t' σ H R):=fun pins s σ H R I q=>q.elim (h pins s σ H R I) (h' pins s σ H R I)
noncomputable def zg8:D→Option (List D)
 | .lst ds=>some ds
 | .scr ns=>some (ns.map .int)
 | .tup ds=>some ds
 | _=>none
def iS (f:FE):FA:=fun sd=>(f sd).bind fun d=>.ofO (zg8 d)
theorem zb3 (h:QE X E e fa):QI X E tg e (iS fa):=PI.weak (PIor (zlF (E:=E) h) (zoY (E:=E) h)) fun σ H R zh=>by
 refine zc3b zh fun B F sd r n => ?_
 by_cases hd:∃ ds,fa sd=.ok (.tup ds)
 ·obtain ⟨ds,hd⟩:=hd
  refine .inr ⟨B,F,sd,r,?_⟩
  unfold iS at n
  unfold iT
  rw [hd] at n ⊢
  exact n
 ·refine .inl ⟨B,F,sd,r,?_⟩
  unfold iS at n
  unfold iL
  cases hx:fa sd with
  | ok d =>
   rw [hx] at n
   cases d with
   | tup ds=>exact absurd ⟨ds,hx⟩ hd
   | _=>exact n
  | no=>rw [hx] at n;exact n
  | ex c fs=>rw [hx] at n;exact n
noncomputable def zax (lo:Int)(n:Nat):List D:=(List.range n).map fun k:Nat=>.int (lo+k)
noncomputable def zg5 (j:Int):Bool:=Nat.ble j.toNat 1000000000&&Nat.ble (-j).toNat 1000000000
theorem zfR {j:Int}(h:zg5 j=true) : -(2 ^ 62)≤j∧j<2 ^ 62:=by
 unfold zg5 at h
 rw [Bool.and_eq_true,Nat.ble_eq,Nat.ble_eq] at h
 omega
theorem zk0 {j:Int}(h1 : -1000000000≤j)(h2:j≤1000000000):zg5 j=true:=by
 unfold zg5
 rw [Bool.and_eq_true,Nat.ble_eq,Nat.ble_eq]
 omega
def iR1 (fr:FA):FA:=fun sd=>(fr sd).bind fun ds=>match ds with
 | [.int j]=>if zg5 j then .ok (zax 0 j.toNat) else .no
 | _=>.no
theorem zgY {K:PySem.W.Frag}{F1:Hp}(lo:Int)(n:Nat):Walk K F1 (Itr lo n) (zax lo n):=fun i F2 H2 s1 s2=>by
 have hl:(zax lo n).length=n:=by unfold zax;rw [List.length_map,List.length_range]
 rw [hl]
 refine ⟨fun hi=>⟨hi,fun x H3 hy => ?_⟩,fun hi=>hi⟩
 obtain ⟨rfl,rfl⟩:=hy
 refine ⟨.int (lo+i),F2,?_,.refl s2,IsD.int_iff.mpr rfl⟩
 unfold zax
 rw [List.getElem?_map,List.getElem?_range hi]
 rfl
theorem zaL {a:Expr}(hg:Gl X "range")(hm:X.mg "range" = none)(ha:QA X E [a] fr)(hs:autoParam (starEach [a] X.env=[(false,eval a X.env)]) zau._auto_1):QI X E tg (.Call (.Name "range" p) [a] [] pos) (iR1 fr):=PI.weak (zi1 hg hm ha hs) fun σ H R zh=>by
 refine zc3b zh fun B F sd r n => ?_
 refine ⟨B,F,sd,r,(Res.need_bind n).mono (fun ds n1 vs F1 H1 e1 i1 => ?_) fun _ _ q=>q⟩
 split at n1
 ·split at n1
  ·rename_i j hj
   refine zc1b (zco i1) fun v zr1 h => ?_
   obtain rfl:=zr1
   rw [IsD.int_iff.mp h]
   exact ⟨j,rfl,(zfR hj).1,(zfR hj).2,n1 _ F1 H1 e1 (zgY 0 _)⟩
  ·exact n1.elim
 ·exact n1.elim
end
end L2.DL
namespace L2.DL
open PySem PySem.Spec PyProof.Rows
section
variable {X:Cx}{E:XK}{m:Option Bool}{a b o i e f tg:Expr}{fa fb fo fi fv:FE}{fr:FA}{pos pos' apos cpos p:Pos}
theorem PG.weak {e:Expr}{t t':TG}(h:PG X e t)(w:∀ v σ H Q,t' v σ H Q→t v σ H Q):PG X e t':=fun pins s σ H v u Q I r q=>h pins s σ H v u Q I r (w _ _ _ _ q)
def zhS:List Nat→TGs
 | []=>gNil
 | i::is=>znV (zdG i) (zhS is)
theorem zey:∀ {is:List Nat} {xs:List V} {σ : St} {H:Hp} {Q:St→Hp→Prop},xs.length=is.length→Q (zen is xs σ) H→zhS is xs σ H Q
 | [],xs,σ,H,Q,hl,q=>⟨List.length_eq_zero_iff.mp hl,q⟩
 | i::is,[],σ,H,Q,hl,q=>by cases hl
 | i::is,x::xs,σ,H,Q,hl,q=>⟨x,xs,rfl,zey (is:=is) (xs:=xs) (Nat.succ.inj hl) q⟩
theorem zaS {i:Nat}{e:Expr}(h:PG X e (zdG i)):QG X e (.one i):=h
theorem zcs (is:List Nat){e:Expr}(h:PG X e (gTup X.K is.length (zhS is))):QG X e (.tup is):=PG.weak h (by rintro v σ H Q ⟨a,xs,e,h1,h2,q⟩;exact ⟨a,xs,e,h1,h2,zey h2 q⟩)
def zfz (tg:Tg)(c:FT)(f:FE)(sd:SD):List D→Res (List D)
 | []=>.ok []
 | x::xs=>(zb1 tg x sd).bind fun s=>(c s).bind fun b=>if b then (f s).bind fun y=>(zfz tg c f sd xs).bind fun ys=>.ok (y::ys) else zfz tg c f sd xs
def zei (cap:List (Option Nat))(it:FA)(tg:Tg)(c:FT)(f:FE):FE:=fun sd=>(it sd).bind fun ds=>if zdz (capD cap sd) tg=true∧ds.length<sizeLine then
 (zfz tg c f (capD cap sd) ds).bind fun ys=>.ok (.lst ys) else .no
theorem zgA {K:PySem.W.Frag}{t:Tg}{fi:FA}{fc:FT}{f:FE}{cap:List (Option Nat)}{σ : St}{H:Hp}{Q:VK}(hh:tDN K E (zei cap fi t fc f) σ H Q):zer cap (tDI K E fi) (gT t K) (tDT K E fc) (tD K E f) σ H Q:=by
 refine zc3b hh fun B F sd r n => ?_
 refine ⟨B,F,sd,r,(Res.need_bind n).mono (fun ds n1 J F1 H1 e1 wk => ?_) fun _ _ q=>q⟩
 split at n1
 ·rename_i hh
  obtain ⟨hn,hz⟩:=hh
  refine ⟨fun i k ys σ H2=>k=ds.length-i∧i≤ds.length∧∃ F2 es,Ext F1 H1 F2 H2∧RS K B F2 H2 (capD cap sd) σ ∧ IsDs K F2 es ys∧es.length≤i ∧
   (zfz t fc f (capD cap sd) (ds.drop i)).need (fun rs=>OkN K F2 H2 Q (.lst (es++rs))) (XW K E F2 H2),⟨ds.length,rfl,Nat.zero_le _,F1,[],.refl e1.fh,(r.step e1).cap cap,.nil,Nat.le_refl _,?_⟩,?_⟩
  ·exact (Res.need_bind n1).mono (fun rs q=>(show OkN K F H Q (.lst rs) from q).ext e1) fun _ _ q=>q.ext e1
  rintro i k ys σ2 H2 ⟨rfl,hi,F2,es,e2,r2,i2,hl,n2⟩
  have ly:=i2.length
  refine ⟨by omega,?_⟩
  obtain ⟨w1,w2⟩:=wk i F2 H2 e2.ff e2.fh
  by_cases hlt:i<ds.length
  ·obtain ⟨go,yl⟩:=w1 hlt
   refine .inr ⟨go,fun x H3 y => ?_⟩
   refine zc2c (yl x H3 y) fun d F3 hd e3 i3 => ?_
   rw [List.drop_eq_getElem_cons hlt] at n2
   have hd':ds[i]=d:=by rw [List.getElem?_eq_getElem hlt] at hd;exact Option.some.inj hd
   rw [hd'] at n2
   unfold zfz at n2
   have r3:=r2.step e3
   refine zkz (K:=K) r3 i3 (Res.need_bind n2) fun sd' σ' n4 hb r4 => ?_
   obtain ⟨b1,b2⟩:=zdM hn hb
   refine ⟨B,F3,sd',r4,(Res.need_bind n4).mono (fun b n5 F4 H4 e4 => ?_) fun _ _ q=>q.ext e3⟩
   cases b with
   | true =>
    refine ⟨B,F4,sd',r4.step e4,(Res.need_bind n5).mono (fun y n6 v F5 H5 e5 i5 => ?_) fun _ _ q=>q.ext (e3.trans e4)⟩
    refine ⟨ds.length-(i+1),by omega,rfl,hlt,F5,es++[y],((e2.trans e3).trans e4).trans e5,((r4.step e4).step e5).forget b1 b2,(IsDs.same ((e3.ff.trans e4.ff).trans e5.ff) _ _ i2).snoc i5,by rw [List.length_append];exact Nat.succ_le_succ hl,?_⟩
    refine (Res.need_bind n6).mono (fun rs q => ?_) fun _ _ q=>q.ext ((e3.trans e4).trans e5)
    rw [List.append_assoc]
    exact (show OkN K F2 H2 Q (.lst (es++y::rs)) from q).ext ((e3.trans e4).trans e5)
   | false =>
    refine ⟨ds.length-(i+1),by omega,rfl,hlt,F4,es,(e2.trans e3).trans e4,(r4.step e4).forget b1 b2,IsDs.same (e3.ff.trans e4.ff) _ _ i2,Nat.le_succ_of_le hl,?_⟩
    exact (show (zfz t fc f (capD cap sd) (ds.drop (i+1))).need _ _ from n5).mono (fun rs q=>q.ext (e3.trans e4)) fun _ _ q=>q.ext (e3.trans e4)
  ·have he:i=ds.length:=by omega
   subst he
   refine .inl ⟨w2 (Nat.le_refl _),fun D hD => ?_⟩
   rw [List.drop_length] at n2
   have q:OkN K F2 H2 Q (.lst (es++[])):=n2
   rw [List.append_nil] at q
   exact q D F2 _ (.keep r2.ext.fh hD _) hD (za8 r2.ext.fh hD) ⟨ys,zam,i2⟩
 ·exact n1.elim
end
end L2.DL
namespace L2.DL
open PySem PySem.Spec PyProof.Rows
section
variable {X:Cx}{E:XK}{m:Option Bool}{a b o i e f tg:Expr}{fa fb fo fi fv:FE}{fr:FA}{pos pos' apos cpos p:Pos}
def zbA (i:Nat)(fb:FE):FE:=fun sd=>match sd[i]? with
 | some (some (.own _ d))=>(fb sd).bind fun y=>.ofO (gIx d y)
 | _=>.no
theorem zbH {i:Nat}(hu:X.A.units+1<cLine)(ha:PE X a (tVar i))(hb:QE X E b fb)(hs:zf1 b)(hs2:NoSl b):QE X E (.Subscript a b pos) (zbA i fb) :=
 PE.weak (PE.or (zhk hu ha hb hs2) (zoM zhm ha hb hs)) fun σ H Q zh=>by
  refine zc3b zh fun B F sd r n => ?_
  unfold zbA at n
  split at n
  ·rename_i p d hi
   refine zc1e (r.own hi) fun l h1 h2 h3 h4 _ => ?_
   cases d with
   | lst ds =>
    refine zc1b h4 fun xs g1 g2 => ?_
    refine .inr ⟨.ref l,h1,B,F,sd,r,(Res.need_bind n).mono (fun y n1 w F1 H1 e1 i1 => ?_) fun _ _ q=>q⟩
    refine zc1b (Res.need_ofO n1) fun z hz q => ?_
    cases y with
    | int k =>
     refine zc1b (zif g2 (show atI ds k=some z from hz)) fun x hx ix => ?_
     exact ⟨l,xs,k,x,rfl,IsD.int_iff.mp i1,SqL.of (e1.hh _ _ g1),hx,q _ F1 H1 e1 (IsD.same e1.ff _ _ ix)⟩
    | _=>exact zqn hz
   | dct ks ds =>
    refine zc1c h4 fun xs g1 g2 g3 => ?_
    refine .inl ⟨.ref l,h1,B,F,sd,r,(Res.need_bind n).mono (fun y n1 w F1 H1 e1 i1 => ?_) fun _ _ q=>q⟩
    refine zc1b (Res.need_ofO n1) fun z hz q => ?_
    refine zc1b (Option.bind_eq_some_iff.mp (show (zb5 y).bind (fun q=>valD ks ds q)=some z from hz)) fun k hk hz => ?_
    refine zc1b ((zdq k g2 g3).1 z hz) fun x hx ix => ?_
    refine ⟨l,x,rfl,?_,q x F1 H1 e1 (IsD.same e1.ff _ _ ix)⟩
    rw [zcg hk i1,← hx]
    exact DGet.k (e1.hh _ _ g1)
   | ins c fs ds =>
    refine .inr ⟨.ref l,h1,B,F,sd,r,(Res.need_bind n).mono (fun y n1 w F1 H1 e1 i1 => ?_) fun _ _ q=>q⟩
    refine zc1b (Res.need_ofO n1) fun z hz q => ?_
    cases y<;>exact zqn hz
   | _=>exact h4.elim
  ·exact n.elim
end
end L2.DL
namespace L2
open PySem PySem.Spec PyProof.Rows
section
variable {X:Cx}{tg iter elt c:Expr}{scope:Scope}{pos:Pos}{wi:TI}{g:TG}{te:TE}{tt:TT}
theorem zhE {y:Str}{py:Pos}{iy:Nat}{pins:List (Addr×Obj)}{σ : St}{DD:Ends}(hNN:X.N.Nodup)(hiy:X.N[iy]? = some y)(hyy:Loc X.env.scope y)(hyf:X.fn y=true∨X.env.scope.names.lookup y=some .local) :
 zd9 X pins σ (fun v H'=>DD.nx (σ.set iy (some v)) H') (some (assign (.Name y py) X.env)) (fun _ s'=>SP X pins DD .next s'):=fun C D m s5 r hm nC nF sz cC pC k=>by
 refine zc2d (k s5.heap ⟨rfl,fun _ _=>rfl⟩) fun v5 H5 K5 rv5 fC q5 => ?_
 refine zc3c (id hm) fun oC esC epC hoC hdC hrC => ?_
 have KP:Inv X (pins++[(C,oC)]) σ H5 { s5 with heap:=s5.heap }:=K5.pins_of fun p hp=>by
  rcases List.mem_append.mp hp with hp|hp
  ·exact K5.pin p (List.mem_append_right _ hp)
  ·have e:=List.mem_singleton.mp hp
   subst e
   exact ⟨hoC,fC,nC,nF,fun v z=>by rw [show oC.data=_ from z] at hdC;cases hdC⟩
 refine wpAny_assign_Name (zc4 KP hNN hiy hyy rv5 (fun s6 I6 => ?_) hyf)
 have p6:=I6.pin (C,oC) (List.mem_append_right _ (List.mem_append_right _ List.mem_cons_self))
 refine ⟨m,⟨oC,esC,epC,p6.1,hdC,hrC⟩,fun h' hs'=>⟨_,H5,?_,q5⟩⟩
 exact (I6.pins_of (pins':=pins) fun p hp=>I6.pin p (List.mem_append_right _ (List.mem_append_left _ hp))).turned (t':=s6.toks) (it:=C) (fun b o hb e=>(hs'.2 b hb).trans e) fC nC (.inr sz) cC pC
theorem zcH {y:Str}{py spos:Pos}{iy:Nat}(hsw:swapsWith (.ListComp elt [⟨tg,iter,[],0⟩] scope pos) (some (.Name y py)) spos.line X.env=pure true)(hNN:X.N.Nodup)(hiy:X.N[iy]? = some y)(hyy:Loc X.env.scope y)(hyf:X.fn y=true∨X.env.scope.names.lookup y=some .local)(N:List Str)(cap:List (Option Nat))(hc:X.calm=true)(okB:zbp scope X.env N X.N cap=true)(hi:PI X tg iter wi)(hg:∀ cl C s H ex,PG (za4 X scope N cl C s H ex) tg g)(he:∀ cl C s H ex,PE (za4 X scope N cl C s H ex) elt te)
 (hs:autoParam (∀ x,foldedSetIterable iter X.env x=pure x) zaw._auto_1):PS X (.Assign [.Name y py] (.ListComp elt [⟨tg,iter,[],0⟩] scope pos) spos) (tAsg (ziN cap wi g te) (zdG iy)):=by
 intro pins s σ H DD I h
 rw [exec_Assign_Name_used _ _ _ _ hsw]
 refine wpAny_bind (wpAny_standAt (wpAny_bind ?_))
 refine wpAny_bind (wpAny_mono (zhG (use:=some (assign (.Name y py) X.env)) (R:=fun _ s'=>SP X pins DD .next s') N cap hc okB hi hg (fun cl C s H ex _=>he cl C s H ex) hs I h (zhE hNN hiy hyy hyf)) (fun _ s' hq=>wpAny_pure (wpAny_pure hq)) fun _ _ e=>e)
theorem zeO {y:Str}{py spos:Pos}{iy:Nat}(hsw:swapsWith (.ListComp elt [⟨tg,iter,[c],0⟩] scope pos) (some (.Name y py)) spos.line X.env=pure true)(hNN:X.N.Nodup)(hiy:X.N[iy]? = some y)(hyy:Loc X.env.scope y)(hyf:X.fn y=true∨X.env.scope.names.lookup y=some .local)(N:List Str)(cap:List (Option Nat))(hc:X.calm=true)(okB:zbp scope X.env N X.N cap=true)(hi:PI X tg iter wi)(hg:∀ cl C s H ex,PG (za4 X scope N cl C s H ex) tg g)(ht:∀ cl C s H ex,PT (za4 X scope N cl C s H ex) c tt)(he:∀ cl C s H ex,PE (za4 X scope N cl C s H ex) elt te)
 (hs:autoParam (∀ x,foldedSetIterable iter X.env x=pure x) zaw._auto_1):PS X (.Assign [.Name y py] (.ListComp elt [⟨tg,iter,[c],0⟩] scope pos) spos) (tAsg (zer cap wi g tt te) (zdG iy)):=by
 intro pins s σ H DD I h
 rw [exec_Assign_Name_used _ _ _ _ hsw]
 refine wpAny_bind (wpAny_standAt (wpAny_bind ?_))
 refine wpAny_bind (wpAny_mono (zjd (use:=some (assign (.Name y py) X.env)) (R:=fun _ s'=>SP X pins DD .next s') N cap hc okB hi hg ht he hs I h (zhE hNN hiy hyy hyf)) (fun _ s' hq=>wpAny_pure (wpAny_pure hq)) fun _ _ e=>e)
end
end L2
namespace L2.DL
open PySem PySem.Spec PyProof.Rows
section
variable {X:Cx}{E:XK}{m:Option Bool}{tg iter elt c:Expr}{scope:Scope}{pos spos py:Pos}{y:Str}{iy:Nat}{t:Tg}{fi:FA}{fc:FT}{f:FE}
theorem zmp {K:PySem.W.Frag}{te:TE}{i:Nat}{fe:FE}(w:∀ σ H Q,tDN K E fe σ H Q→te σ H Q){T:Ends}{σ : St}{H:Hp}(h:tDS K E m (sSet i fe) T σ H):tAsg te (zdG i) T σ H:=w _ _ _ (by
 obtain ⟨B,F,sd,r,n⟩:=h
 refine ⟨B,F,sd,r,(Res.need_bind n).mono (fun d n1=>OkD.new fun v F1 H1 e1 i1 => ?_) fun _ _ q=>q.ext r.ext⟩
 exact n1 _ F1 H1 e1.ff ((r.step e1).setVal i1))
theorem zf4 {K:PySem.W.Frag}{te:TE}{i:Nat}{fe:FE}(w:∀ σ H Q,tDN K E fe σ H Q→te σ H Q){T:Ends}{σ : St}{H:Hp}(h:tDS K E m (sOwn i fe) T σ H):tAsg te (zdG i) T σ H:=w _ _ _ (by
 obtain ⟨B,F,sd,r,n⟩:=h
 refine ⟨B,F,sd,r,(Res.need_bind n).mono (fun d n1 l F1 H1 e1 h1 h2 h3 => ?_) fun _ _ q=>q.ext r.ext⟩
 refine n1 _ F1 H1 e1.ff ((r.step e1).setOwn (za8 r.ext.hh h1) h2 h3 fun j p d' q1 q2 => ?_)
 obtain ⟨l',p1,_,_,p4,_⟩:=r.own q1
 rw [p1] at q2
 cases q2
 obtain ⟨o,ho⟩:=p4.has
 rw [h1] at ho
 exact zqn ho)
theorem zce (N:List Str)(cap:List (Option Nat))(hNN:X.N.Nodup)(hiy:X.N[iy]? = some y)(hyy:Loc X.env.scope y)(hc:X.calm=true)(okB:zbp scope X.env N X.N cap=true)(hi:QI X E tg iter fi)
 (hg:∀ cl C s H ex,QG (za4 X scope N cl C s H ex) tg t) (he:∀ cl C s H ex,QE (za4 X scope N cl C s H ex) E elt f) (hsw:autoParam (swapsWith (.ListComp elt [⟨tg,iter,[],0⟩] scope pos) (some (.Name y py)) spos.line X.env=pure true) zau._auto_1)
 (hyf:X.fn y=true∨X.env.scope.names.lookup y=some .local:=by first|exact .inl rfl|exact .inr rfl) (hs:∀ x,foldedSetIterable iter X.env x=pure x:=by intro _;rfl) :
 QS X E m (.Assign [.Name y py] (.ListComp elt [⟨tg,iter,[],0⟩] scope pos) spos) (sSet iy (zb2 cap fi t f)):=by
 have hh:=zcH (g:=gT t X.K) (te:=tD X.K E f) hsw hNN hiy hyy hyf N cap hc okB hi hg he hs
 exact PS.weak hh fun T σ H h=>zmp (fun _ _ _ q=>zcW q) h
theorem zgF (N:List Str)(cap:List (Option Nat))(hNN:X.N.Nodup)(hiy:X.N[iy]? = some y)(hyy:Loc X.env.scope y)(hc:X.calm=true)(okB:zbp scope X.env N X.N cap=true)(hi:QI X E tg iter fi)
 (hg:∀ cl C s H ex,QG (za4 X scope N cl C s H ex) tg t) (he:∀ cl C s H ex,QE (za4 X scope N cl C s H ex) E elt f) (hsw:autoParam (swapsWith (.ListComp elt [⟨tg,iter,[],0⟩] scope pos) (some (.Name y py)) spos.line X.env=pure true) zau._auto_1)
 (hyf:X.fn y=true∨X.env.scope.names.lookup y=some .local:=by first|exact .inl rfl|exact .inr rfl) (hs:∀ x,foldedSetIterable iter X.env x=pure x:=by intro _;rfl) :
 QS X E m (.Assign [.Name y py] (.ListComp elt [⟨tg,iter,[],0⟩] scope pos) spos) (sOwn iy (zb2 cap fi t f)):=by
 have hh:=zcH (g:=gT t X.K) (te:=tD X.K E f) hsw hNN hiy hyy hyf N cap hc okB hi hg he hs
 exact PS.weak hh fun T σ H h=>zf4 (fun _ _ _ q=>zcW q) h
end
end L2.DL
namespace L2.DL
open PySem PySem.Spec PyProof.Rows
noncomputable def znR:Option (Option SV)→Res D
 | some (some (.val d))=>.ok d
 | _=>.no
@[simp] theorem zoE (d:D):znR (some (some (.val d)))=.ok d:=rfl
@[simp] theorem ev_var (i:Nat)(sd:SD):dVar i sd=znR sd[i]? := rfl
@[simp] theorem ev_C (d:D)(sd:SD):dC d sd=.ok d:=rfl
@[simp] theorem ev_op (g:D→D→Option D)(fa fb:FE)(sd:SD):dOp g fa fb sd=(fa sd).bind fun x=>(fb sd).bind fun y=>.ofO (g x y):=rfl
@[simp] theorem ev_un (g:D→Option D)(fa:FE)(sd:SD):dUn g fa sd=(fa sd).bind fun x=>.ofO (g x):=rfl
noncomputable def bOf:D→Res Bool
 | .bl b=>.ok b
 | _=>.no
@[simp] theorem bOf_bl (b:Bool):bOf (.bl b)=.ok b:=rfl
@[simp] theorem ev_bool (fa:FE)(sd:SD):zap fa sd=(fa sd).bind bOf:=by
 unfold zap
 cases fa sd with
 | ok d=>cases d<;>rfl
 | ex c fs=>rfl
 | no=>rfl
@[simp] theorem ev_notT (f:FT)(sd:SD):zbT f sd=(f sd).bind fun b=>.ok (!b):=rfl
@[simp] theorem ev_andT (f g:FT)(sd:SD):zeu f g sd=(f sd).bind fun b=>if b then g sd else .ok false:=rfl
@[simp] theorem ev_orT (f g:FT)(sd:SD):dOrT f g sd=(f sd).bind fun b=>if b then .ok true else g sd:=rfl
@[simp] theorem ev_andV (fa fb:FE)(sd:SD):zm4 fa fb sd=(zap fa sd).bind fun b=>if b then fb sd else .ok (.bl false):=rfl
@[simp] theorem ev_orV (fa fb:FE)(sd:SD):dOrV fa fb sd=(zap fa sd).bind fun b=>if b then .ok (.bl true) else fb sd:=rfl
@[simp] theorem ev_nil (sd:SD):dNil sd=.ok []:=rfl
@[simp] theorem ev_cons (fa:FE)(fr:FA)(sd:SD):zab fa fr sd=(fa sd).bind fun x=>(fr sd).bind fun xs=>.ok (x::xs):=rfl
@[simp] theorem ev_lst (fr:FA)(sd:SD):dLst fr sd=(fr sd).bind fun xs=>if xs.length≤1000 then .ok (.lst xs) else .no:=rfl
@[simp] theorem ev_tup (fr:FA)(sd:SD):dTup fr sd=(fr sd).bind fun xs=>if xs.length≤1000 then .ok (.tup xs) else .no:=rfl
@[simp] theorem ev_call (Fn:List D→Res D)(fr:FA)(sd:SD):zaC Fn fr sd=(fr sd).bind Fn:=rfl
@[simp] theorem ev_blt (g:List D→Option D)(fr:FA)(sd:SD):dBlt g fr sd=(fr sd).bind fun xs=>.ofO (g xs):=rfl
@[simp] theorem bare_ok {α : Type}(a : α):(Res.ok a).bare=.ok a:=rfl
@[simp] theorem ev_tmp (is:List Nat)(f:FE)(sd:SD):dTmp is f sd=(f (frzD is sd)).bare.bind fun d=>if zc3 d then .ok d else .no:=rfl
@[simp] theorem scal_int (i:Int):zc3 (.int i)=true:=rfl
@[simp] theorem frzD_nil (sd:SD):frzD [] sd=sd:=rfl
noncomputable def frz1 (i:Nat)(sd:SD):Option (Option SV)→SD
 | some (some (.own _ d))=>sd.set i (some (.val d))
 | _=>sd
@[simp] theorem frz1_own (i:Nat)(sd:SD)(p:Bool)(d:D):frz1 i sd (some (some (.own p d)))=sd.set i (some (.val d)):=rfl
@[simp] theorem frz1_val (i:Nat)(sd:SD)(d:D):frz1 i sd (some (some (.val d)))=sd:=rfl
@[simp] theorem zo0 (i:Nat)(is:List Nat)(sd:SD):frzD (i::is) sd=frzD is (frz1 i sd sd[i]?):=by
 show frzD is _=frzD is _
 congr 1
noncomputable def seqK (g:FS):Out→Res Out
 | .next sd=>g sd
 | o=>.ok o
@[simp] theorem zn9 (g:FS)(sd:SD):seqK g (.next sd)=g sd:=rfl
@[simp] theorem seqK_ret (g:FS)(d:D):seqK g (.ret d)=.ok (.ret d):=rfl
@[simp] theorem ev_seq (g1 g2:FS)(sd:SD):sSeq g1 g2 sd=(g1 sd).bind (seqK g2):=by
 unfold sSeq
 cases g1 sd with
 | ok o=>cases o<;>rfl
 | ex c fs=>rfl
 | no=>rfl
@[simp] theorem ev_next (sd:SD):za9 sd=.ok (.next sd):=rfl
@[simp] theorem ev_set (i:Nat)(f:FE)(sd:SD):sSet i f sd=(f sd).bind fun d=>.ok (.next (sd.set i (some (.val d)))):=rfl
@[simp] theorem ev_own (i:Nat)(f:FE)(sd:SD):sOwn i f sd=(f sd).bind fun d=>.ok (.next (sd.set i (some (.own false d)))):=rfl
@[simp] theorem ev_ret (f:FE)(sd:SD):sRet f sd=(f sd).bind fun d=>.ok (.ret d):=rfl
noncomputable def ownV:Option (Option SV)→Res D
 | some (some (.own _ d))=>.ok d
 | _=>.no
@[simp] theorem ownV_own (p:Bool)(d:D):ownV (some (some (.own p d)))=.ok d:=rfl
@[simp] theorem znI (i:Nat)(sd:SD):zcu i sd=(ownV sd[i]?).bind fun d=>.ok (.ret d):=by
 unfold zcu
 cases sd[i]? with
 | none=>rfl
 | some o =>
  cases o with
  | none=>rfl
  | some v=>cases v<;>rfl
@[simp] theorem ev_drop (f:FE)(sd:SD):zdw f sd=(f sd).bind fun _=>.ok (.next sd):=rfl
@[simp] theorem ev_ifS (c:FT)(g1 g2:FS)(sd:SD):sIf c g1 g2 sd=(c sd).bind fun b=>if b then g1 sd else g2 sd:=rfl
noncomputable def ownL:Option (Option SV)→Res (List D)
 | some (some (.own false (.lst ds)))=>.ok ds
 | _=>.no
@[simp] theorem ownL_own (ds:List D):ownL (some (some (.own false (.lst ds))))=.ok ds:=rfl
@[simp] theorem znm (i:Nat)(f:FE)(sd:SD):zbo i f sd=(ownL sd[i]?).bind fun ds=>(f sd).bind fun d=>if ds.length<sizeLine then .ok (.next (sd.set i (some (.own false (.lst (ds++[d])))))) else .no:=by
 unfold zbo
 cases sd[i]? with
 | none=>rfl
 | some o =>
  cases o with
  | none=>rfl
  | some v =>
   cases v with
   | val d=>rfl
   | own p d=>cases p<;>cases d<;>rfl
noncomputable def ownK:Option (Option SV)→Res (List Key×List D)
 | some (some (.own false (.dct ks ds)))=>.ok (ks,ds)
 | _=>.no
@[simp] theorem ownK_own (ks:List Key)(ds:List D):ownK (some (some (.own false (.dct ks ds))))=.ok (ks,ds):=rfl
@[simp] theorem ev_dput (i:Nat)(fk fv:FE)(sd:SD):zgK i fk fv sd=(fv sd).bind fun v=>(ownK sd[i]?).bind fun o=>(fk sd).bind fun k=>(Res.ofO (zb5 k)).bind fun q=>if o.1.length<sizeLine then .ok (.next (sd.set i (some (.own false (.dct (zfq o.1 q) (zg9 o.1 o.2 q v)))))) else .no:=by
 unfold zgK
 cases fv sd with
 | ok v =>
  show (match sd[i]? with
   | some (some (.own false (.dct ks ds)))=>_
   | _=>_)=(ownK sd[i]?).bind _
  cases sd[i]? with
  | none=>rfl
  | some o =>
   cases o with
   | none=>rfl
   | some w =>
    cases w with
    | val d=>rfl
    | own p d =>
     cases p with
     | true=>cases d<;>rfl
     | false =>
      cases d with
      | dct ks ds =>
       show (fk sd).bind _=(fk sd).bind _
       cases fk sd with
       | ok k=>show (match zb5 k with|some q=>_|none=>_)=(Res.ofO (zb5 k)).bind _;cases zb5 k<;>rfl
       | ex c fs=>rfl
       | no=>rfl
      | _=>rfl
 | ex c fs=>rfl
 | no=>rfl
noncomputable def outV:Out→Res D
 | .ret d=>.ok d
 | .next _=>.ok .non
 | _=>.no
@[simp] theorem outV_ret (d:D):outV (.ret d)=.ok d:=rfl
@[simp] theorem zph (sd:SD):outV (.next sd)=.ok .non:=rfl
theorem zjF (n ar:Nat)(g:FS)(ds:List D)(h:ds.length=ar):runD n ar g ds=(g (zbc n ds)).bind outV:=by
 unfold runD
 rw [if_pos h]
 cases g (zbc n ds) with
 | ok o=>cases o<;>rfl
 | ex c fs=>rfl
 | no=>rfl
noncomputable def outN:Out→Res D
 | .ret d=>.ok d
 | _=>.no
@[simp] theorem outN_ret (d:D):outN (.ret d)=.ok d:=rfl
theorem zlA (n ar:Nat)(g:FS)(ds:List D)(h:ds.length=ar):runN n ar g ds=(g (zbc n ds)).bind outN:=by
 unfold runN
 rw [if_pos h]
 cases g (zbc n ds) with
 | ok o=>cases o<;>rfl
 | ex c fs=>rfl
 | no=>rfl
@[simp] theorem run_d1 (n:Nat)(g:FS)(a:D):runD n 1 g [a]=(g (some (.val a)::List.replicate (n-1) none)).bind outV:=zjF n 1 g [a] rfl
@[simp] theorem run_d2 (n:Nat)(g:FS)(a b:D):runD n 2 g [a,b]=(g (some (.val a)::some (.val b)::List.replicate (n-2) none)).bind outV:=zjF n 2 g [a,b] rfl
@[simp] theorem run_d3 (n:Nat)(g:FS)(a b c:D):runD n 3 g [a,b,c]=(g (some (.val a)::some (.val b)::some (.val c)::List.replicate (n-3) none)).bind outV:=zjF n 3 g [a,b,c] rfl
@[simp] theorem run_n1 (n:Nat)(g:FS)(a:D):runN n 1 g [a]=(g (some (.val a)::List.replicate (n-1) none)).bind outN:=zlA n 1 g [a] rfl
@[simp] theorem run_n2 (n:Nat)(g:FS)(a b:D):runN n 2 g [a,b]=(g (some (.val a)::some (.val b)::List.replicate (n-2) none)).bind outN:=zlA n 2 g [a,b] rfl
@[simp] theorem run_n3 (n:Nat)(g:FS)(a b c:D):runN n 3 g [a,b,c]=(g (some (.val a)::some (.val b)::some (.val c)::List.replicate (n-3) none)).bind outN:=zlA n 3 g [a,b,c] rfl
@[simp] theorem gAdd_int (i j:Int):gAdd (.int i) (.int j)=some (.int (i+j)):=rfl
@[simp] theorem gSub_int (i j:Int):gSub (.int i) (.int j)=some (.int (i-j)):=rfl
@[simp] theorem gNeg_int (i:Int):gNeg (.int i)=some (.int (-i)):=rfl
@[simp] theorem gLt_int (i j:Int):gLt (.int i) (.int j)=some (.bl (decide (i<j))):=rfl
@[simp] theorem gLe_int (i j:Int):gLe (.int i) (.int j)=some (.bl (decide (i≤j))):=rfl
@[simp] theorem gGt_int (i j:Int):gGt (.int i) (.int j)=some (.bl (decide (j<i))):=rfl
@[simp] theorem gGe_int (i j:Int):gGe (.int i) (.int j)=some (.bl (decide (j≤i))):=rfl
@[simp] theorem gEq_int' (i j:Int):gEq (.int i) (.int j)=some (.bl (decide (i=j))):=zlx i j
@[simp] theorem gNe_int' (i j:Int):gNe (.int i) (.int j)=some (.bl (!decide (i=j))):=zlz i j
theorem zcy {i j:Int}(h:zds i j=true):gMul (.int i) (.int j)=some (.int (i*j)):=by
 show (if zds i j then _ else _)=_
 rw [if_pos h]
theorem zct {i j:Int}(h1 : -18446744073709551616<j)(h2:j<18446744073709551616):zds i j=true:=by
 unfold zds
 rw [Bool.or_eq_true,Bool.or_eq_true,Nat.blt_eq,Nat.blt_eq]
 exact .inl (by omega)
@[simp] theorem zdg {i j:Int}(h:0<j):gMod (.int i) (.int j)=some (.int (i % j)):=by
 show (if Nat.blt 0 j.toNat then _ else _)=_
 rw [if_pos (by rw [Nat.blt_eq];omega)]
@[simp] theorem zkj {i j:Int}(h:0<j)(h2:j<1073741824):zaQ (.int i) (.int j)=some (.int (i / j)):=by
 show (if Nat.blt 0 j.toNat&&Nat.blt j.toNat 1073741824 then _ else _)=_
 rw [if_pos (by rw [Bool.and_eq_true,Nat.blt_eq,Nat.blt_eq];omega)]
@[simp] theorem zks (ds:List D):gLen [.lst ds]=some (.int ds.length):=rfl
@[simp] theorem gLen_scr (ns:List Int):gLen [.scr ns]=some (.int ns.length):=rfl
@[simp] theorem zoX (i j:Int):zjW [.int i,.int j]=some (.int (if j > i then j else i)):=rfl
@[simp] theorem znS (i j:Int):zjL [.int i,.int j]=some (.int (if j<i then j else i)):=rfl
@[simp] theorem znW (ds:List D):zbM [.lst ds]=some (.lst ds):=rfl
@[simp] theorem zmE (ds:List D):zdx [.lst ds]=some (.tup ds):=rfl
@[simp] theorem gIx_lst (ds:List D)(k:Int):gIx (.lst ds) (.int k)=atI ds k:=rfl
@[simp] theorem gIx_scr (ns:List Int)(k:Int):gIx (.scr ns) (.int k)=(atI ns k).map .int:=rfl
noncomputable def znx:D→Res (List Key×List D)
 | .dct ks ds=>.ok (ks,ds)
 | _=>.no
@[simp] theorem ev_iS (f:FE)(sd:SD):iS f sd=(f sd).bind fun d=>.ofO (zg8 d):=rfl
@[simp] theorem zoR (ds:List D):zg8 (.lst ds)=some ds:=rfl
def zbm:List D→Res (List D)
 | [.int j]=>if zg5 j then .ok (zax 0 j.toNat) else .no
 | _=>.no
@[simp] theorem ev_iR1 (fr:FA)(sd:SD):iR1 fr sd=(fr sd).bind zbm:=by
 unfold iR1
 cases fr sd with
 | ok ds=>show (match ds with|[.int j]=>_|_=>_)=zbm ds;unfold zbm;rfl
 | ex c fs=>rfl
 | no=>rfl
theorem zaA {j:Int}(h1 : -1000000000≤j)(h2:j≤1000000000):zbm [.int j]=.ok (zax 0 j.toNat):=if_pos (zk0 h1 h2)
theorem zc5 {lo:Int}{n i:Nat}{x:D}(h:(zax lo n)[i]? = some x):x=.int (lo+i)∧i<n:=by
 unfold zax at h
 rw [List.getElem?_map] at h
 by_cases hi:i<n
 ·rw [List.getElem?_range hi] at h
  exact ⟨(Option.some.inj h).symm,hi⟩
 ·rw [List.getElem?_eq_none (by rw [List.length_range];omega)] at h
  exact zqn h
theorem zaD (lo:Int)(n:Nat):(zax lo n).length=n:=by unfold zax;rw [List.length_map,List.length_range]
def forT (tg:Tg)(b:FS)(ds:List D)(sd:SD):Res Out:=forD (fun x sd=>(zb1 tg x sd).bind b) ds sd
@[simp] theorem ev_for (it:FA)(tg:Tg)(b:FS)(sd:SD):sFor it tg b sd=(it sd).bind fun ds=>forT tg b ds sd:=rfl
@[simp] theorem zps (i:Nat)(d:D)(sd:SD):zb1 (.one i) d sd=.ok (sd.set i (some (.val d))):=rfl
@[simp] theorem znT (i j:Nat)(a b:D)(sd:SD):zb1 (.tup [i,j]) (.tup [a,b]) sd=.ok ((sd.set i (some (.val a))).set j (some (.val b))):=rfl
@[simp] theorem zmJ (i j:Nat)(p:Int×Int)(sd:SD):zb1 (.tup [i,j]) (prD p) sd=.ok ((sd.set i (some (.val (.int p.1)))).set j (some (.val (.int p.2)))):=rfl
theorem zcG {tg:Tg}{b:FS}{ds:List D}{sd:SD}(P:Nat→SD→Prop)(h0:P 0 sd)(hs:∀ (i:Nat) (x:D) (sd:SD),ds[i]? = some x→P i sd→∃ sd',(zb1 tg x sd).bind b=.ok (.next sd')∧P (i+1) sd'):∃ sd',forT tg b ds sd=.ok (.next sd')∧P ds.length sd':=by
 have key:∀ (k i:Nat) (sd:SD),ds.length-i=k→i≤ds.length→P i sd→∃ sd',forT tg b (ds.drop i) sd=.ok (.next sd')∧P ds.length sd':=by
  intro k
  induction k with
  | zero =>
   intro i sd e hi p
   have:i=ds.length:=by omega
   subst this
   rw [List.drop_length]
   exact ⟨sd,rfl,p⟩
  | succ k ih =>
   intro i sd e hi p
   have hlt:i<ds.length:=by omega
   rw [List.drop_eq_getElem_cons hlt]
   refine zc1b (hs i ds[i] sd (List.getElem?_eq_getElem hlt) p) fun sd' h1 h2 => ?_
   refine zc1b (ih (i+1) sd' (by omega) hlt h2) fun sd2 h3 h4 => ?_
   refine ⟨sd2,?_,h4⟩
   unfold forT forD
   rw [h1]
   exact h3
 have:=key ds.length 0 sd (by omega) (Nat.zero_le _) h0
 rwa [List.drop_zero] at this
theorem zfJ {α β γ : Type}{f : α → Res β}{k : γ → α}{g : γ → β}{xs:List γ}(h:∀ x∈xs,f (k x)=.ok (g x)):mapD f (xs.map k)=.ok (xs.map g):=by
 induction xs with
 | nil=>rfl
 | cons x xs ih =>
  rw [List.map_cons]
  unfold mapD
  rw [h x List.mem_cons_self,ih fun y hy=>h y (List.mem_cons_of_mem _ hy)]
  rfl
def mapE (tg:Tg)(f:FE)(c:SD)(ds:List D):Res (List D):=mapD (fun x=>(zb1 tg x c).bind f) ds
@[simp] theorem ev_comp (cap:List (Option Nat))(it:FA)(tg:Tg)(f:FE)(sd:SD):zb2 cap it tg f sd=(it sd).bind fun ds=>if zdz (capD cap sd) tg=true∧ds.length<sizeLine then (mapE tg f (capD cap sd) ds).bind fun ys=>.ok (.lst ys) else .no:=rfl
noncomputable def capV:Option (Option SV)→Option SV
 | some (some (.val d))=>some (.val d)
 | _=>none
@[simp] theorem capV_val (d:D):capV (some (some (.val d)))=some (.val d):=rfl
@[simp] theorem capD_nil (sd:SD):capD [] sd=[]:=rfl
@[simp] theorem capD_n (cap:List (Option Nat))(sd:SD):capD (none::cap) sd=none::capD cap sd:=rfl
@[simp] theorem capD_s (j:Nat)(cap:List (Option Nat))(sd:SD):capD (some j::cap) sd=capV sd[j]? :: capD cap sd:=rfl
@[simp] theorem zmH (sd:SD)(i:Nat):zdz sd (.one i)=zc9 sd i:=rfl
@[simp] theorem zmK (sd:SD)(is:List Nat):zdz sd (.tup is)=is.all (zc9 sd):=rfl
@[simp] theorem noneAt_0 (sd:SD):zc9 (none::sd) 0=true:=rfl
@[simp] theorem noneAt_s (o:Option SV)(sd:SD)(i:Nat):zc9 (o::sd) (i+1)=zc9 sd i:=rfl
theorem zcc {α : Type}{tg:Tg}{f:FE}{c:SD}{k : α → D}{g : α → D}{xs:List α}(h:∀ x∈xs,(zb1 tg (k x) c).bind f=.ok (g x)):mapE tg f c (xs.map k)=.ok (xs.map g):=zfJ h
theorem zbj {tg:Tg}{f:FE}{c:SD}{lo:Int}{n:Nat}{g:Nat→D}(h:∀ i,i<n→(zb1 tg (.int (lo+i)) c).bind f=.ok (g i)):mapE tg f c (zax lo n)=.ok ((List.range n).map g):=zfJ fun i hi=>h i (List.mem_range.mp hi)
@[simp] theorem zpf (cap:List (Option Nat))(it:FA)(tg:Tg)(c:FT)(f:FE)(sd:SD):zei cap it tg c f sd=(it sd).bind fun ds=>if zdz (capD cap sd) tg=true∧ds.length<sizeLine then (zfz tg c f (capD cap sd) ds).bind fun ys=>.ok (.lst ys) else .no:=rfl
theorem za0 {n:Nat}(h:n≤1000):n<sizeLine:=ze3 h
end L2.DL
namespace L2.DL
open PySem PySem.Spec PyProof.Rows
noncomputable def zbw {α : Type}(xs:List α)(lo hi st:Option Int):List α := (sliceRange (sliceBounds lo hi st xs.length).1 (sliceBounds lo hi st xs.length).2.1 (sliceBounds lo hi st xs.length).2.2).filterMap (xs[·]?)
theorem zfU (its:List Value)(lo hi st:Option Int):slicePick its.toArray lo hi st=(zbw its lo hi st).toArray:=by
 unfold slicePick zbw
 rw [List.size_toArray]
 congr 2
 funext i
 simp
theorem ziW {xs:List V}{its:List Value}(r:Vals xs its)(lo hi st:Option Int):Vals (zbw xs lo hi st) (zbw its lo hi st):=by
 unfold zbw
 rw [r.length]
 generalize sliceRange _ _ _=ix
 induction ix with
 | nil=>exact .nil
 | cons i ix ih =>
  rw [List.filterMap_cons,List.filterMap_cons]
  cases hx:xs[i]? with
  | none=>rw [r.none_of hx];exact ih
  | some x =>
   refine zc1b (r.get hx) fun u hu ru => ?_
   rw [hu]
   exact .cons ru ih
theorem zmq {K:PySem.W.Frag}{H:Hp}{ds:List D}{xs:List V}(r:IsDs K H ds xs)(lo hi st:Option Int):IsDs K H (zbw ds lo hi st) (zbw xs lo hi st):=by
 unfold zbw
 rw [r.length]
 generalize sliceRange _ _ _=ix
 induction ix with
 | nil=>exact .nil
 | cons i ix ih =>
  rw [List.filterMap_cons,List.filterMap_cons]
  cases hx:ds[i]? with
  | none =>
   have hn:xs[i]? = none:=List.getElem?_eq_none_iff.mpr (by rw [r.length];exact List.getElem?_eq_none_iff.mp hx)
   rw [hn];exact ih
  | some x =>
   refine zc1b (r.get hx) fun u hu ru => ?_
   rw [hu]
   exact .mk ru ih
theorem zfH {α β : Type}(f : α → β)(xs:List α)(lo hi st:Option Int):zbw (xs.map f) lo hi st=(zbw xs lo hi st).map f:=by
 unfold zbw
 rw [List.length_map]
 generalize sliceRange _ _ _=ix
 induction ix with
 | nil=>rfl
 | cons i ix ih =>
  rw [List.filterMap_cons,List.filterMap_cons,List.getElem?_map]
  cases xs[i]? with
  | none=>exact ih
  | some x=>show f x::_=_;rw [ih];rfl
theorem zjr {α : Type}(xs:List α)(lo hi st:Option Int):(zbw xs lo hi st).length≤xs.length:=by
 have h:=slicePick_size_le (xs.map fun _=>Value.none).toArray lo hi st
 rw [zfU,List.size_toArray,List.size_toArray,zfH,List.length_map,List.length_map] at h
 exact h
section
variable {X:Cx}{E:XK}{m:Option Bool}{a b o i e f tg:Expr}{fa fb fo fi fv fe:FE}{fr:FA}{pos pos' apos cpos p p2:Pos}{lo hi st:Option Expr}
abbrev FO:=SD→Res (Option Int)
def tDO (K:PySem.W.Frag)(E:XK)(f:FO):TO:=fun σ H Q => ∃ B F sd,RS K B F H sd σ ∧ (f sd).need (fun o => ∀ F' H',Ext F H F' H'→Q o H') (XW K E F H)
noncomputable def zbd:FO:=fun _=>.ok none
def zcK (f:FE):FO:=fun sd=>(f sd).bind fun d=>match d with
 | .int i=>.ok (some i)
 | _=>.no
abbrev QO (X:Cx)(E:XK)(e:Option Expr)(f:FO):Prop:=PO X e (tDO X.K E f)
theorem PO.weak {e:Option Expr}{t t':TO}(h:PO X e t)(w:∀ σ H Q,t' σ H Q→t σ H Q):PO X e t':=fun pins s σ H Q I q=>h pins s σ H Q I (w _ _ _ q)
theorem zbu:QO X E none zbd:=PO.weak zm9 (by rintro σ H Q ⟨B,F,sd,r,n⟩;exact n F H (.refl r.ext.fh))
theorem zbW (h:QE X E e fe):QO X E (some e) (zcK fe):=PO.weak (zm3 h) fun σ H Q zh=>by
 refine zc3b zh fun B F sd r n => ?_
 refine ⟨B,F,sd,r,(Res.need_bind n).mono (fun d n1 v F1 H1 e1 i1 => ?_) fun _ _ q=>q⟩
 cases d with
 | int i=>exact ⟨i,IsD.int_iff.mp i1,n1 F1 H1 e1⟩
 | _=>exact n1.elim
def rSl3 (K:PySem.W.Frag):V→Option Int→Option Int→Option Int→Hp→VK→Prop:=fun x lo hi st H Q => ∃ a xs,x=.ref a∧SqL K H a xs∧st≠some 0∧∀ p,H p=none→Q (.ref p) (upd H p (.lst (zbw xs lo hi st)))
noncomputable def tSl3 (r:V→Option Int→Option Int→Option Int→Hp→VK→Prop)(te:TE)(tl th ts:TO):TE:=fun σ H Q=>te σ H fun x H1=>tl σ H1 fun l H2=>th σ H2 fun u H3=>ts σ H3 fun c H4=>r x l u c H4 Q
theorem zjf {te:TE}{tl th ts:TO}(he:PE X e te)(hl:PO X lo tl)(hu:PO X hi th)(hs:PO X st ts):PE X (.Subscript e (.Slice lo hi st p2) pos) (tSl3 (rSl3 X.K) te tl th ts):=by
 intro pins s σ H Q I h
 refine Subscript_ (thn (he pins s σ H _ I h) fun v s1 zh => ?_)
 refine zc2c zh fun x H1 I1 r1 q1 => ?_
 refine wpAny_Slice (thn (hl pins s1 σ H1 _ I1 q1) fun vl s2 ⟨l,H2,I2,pl,q2⟩=>thn (hu pins s2 σ H2 _ I2 q2) fun vu s3 ⟨u,H3,I3,pu,q3⟩=>thn (hs pins s3 σ H3 _ I3 q3) fun vs s4 zh => ?_)
 refine zc2c zh fun c H4 I4 ps q4 => ?_
 refine zc2d q4 fun a xs zr2 hx h0 q => ?_
 obtain rfl:=zr2
 obtain rfl:v=Value.ref a:=r1
 have I5:Inv X pins σ H4 { s4 with heap:=s4.heap.push { cls:=.type "slice",data:=.fields #[vl,vu,vs] } }:=I4.kept (t':=s4.toks) fun b ob q=>Heap.get?_push_of_some _ q
 refine zc1c (I5.list hx) fun its r ht hz => ?_
 have hlen:=r.length
 show wpAny (model X.prog X.w) X.A (subscriptTail e (.Slice lo hi st p2) (.ref a) (.ref s4.heap.objs.size)) (EP X pins σ Q) X.xe { s4 with heap:=s4.heap.push { cls:=.type "slice",data:=.fields #[vl,vu,vs] } }
 suffices fin:wpAny (model X.prog X.w) X.A (getItem (.ref a) (.ref s4.heap.objs.size)) (EP X pins σ Q) X.xe { s4 with heap:=s4.heap.push { cls:=.type "slice",data:=.fields #[vl,vu,vs] } } by
  cases st with
  | none=>exact tail_any (ops:=[.ref s4.heap.objs.size,.ref a]) ht.isList.typeIs slot_list_getitem.lookup fin (by with_unfolding_all rfl)
  | some c=>exact tail_any (ops:=[.ref a,.ref s4.heap.objs.size]) ht.isList.typeIs slot_list_getitem.lookup fin (by with_unfolding_all rfl)
 refine wpAny_getItem_list_slice ht.isList (Heap.IsSliceOf.new ..) pl pu ps h0 ?_ (by rw [List.size_toArray]<;>omega)
 rw [zfU]
 refine ⟨.ref _,_,I5.laid (t':=s4.toks) (o:=.lst (zbw xs l u c)) (fun b ob q=>Heap.get?_push_of_some _ q) (Nat.le_refl _) ?_,rfl,q _ (I5.hok.fresh (Nat.le_refl _))⟩
 exact ⟨Nat.le_trans (zjr xs l u c) hz,_,0,ziW r l u c,Heap.get?_push_size _ rfl⟩
def gSl:D→Option Int→Option Int→Option Int→Option D
 | .lst ds,lo,hi,st=>if st=some 0 then none else some (.lst (zbw ds lo hi st))
 | .scr ns,lo,hi,st=>if st=some 0 then none else some (.lst ((zbw ns lo hi st).map .int))
 | _,_,_,_=>none
def dSl (fe:FE)(fl fh fs:FO):FE:=fun sd=>(fe sd).bind fun d=>(fl sd).bind fun l=>(fh sd).bind fun h=>(fs sd).bind fun c=>.ofO (gSl d l h c)
theorem zc0 {fl fh fs:FO}(he:QE X E e fe)(hl:QO X E lo fl)(hu:QO X E hi fh)(hs:QO X E st fs):QN X E (.Subscript e (.Slice lo hi st p2) pos) (dSl fe fl fh fs):=PE.weak (zjf he hl hu hs) fun σ H Q zh=>by
 refine zc3b zh fun B F sd r n => ?_
 refine ⟨B,F,sd,r,(Res.need_bind n).mono (fun d n1 v F1 H1 e1 i1 => ?_) fun _ _ q=>q⟩
 refine ⟨B,F1,sd,r.step e1,(Res.need_bind n1).mono (fun l n2 F2 H2 e2 => ?_) fun _ _ q=>q.ext e1⟩
 refine ⟨B,F2,sd,(r.step e1).step e2,(Res.need_bind n2).mono (fun h n3 F3 H3 e3 => ?_) fun _ _ q=>q.ext (e1.trans e2)⟩
 refine ⟨B,F3,sd,((r.step e1).step e2).step e3,(Res.need_bind n3).mono (fun c n4 F4 H4 e4 => ?_) fun _ _ q=>q.ext ((e1.trans e2).trans e3)⟩
 refine zc1b (Res.need_ofO n4) fun z hz q => ?_
 have e14:=((e2.trans e3).trans e4)
 have eA:=e1.trans e14
 cases d with
 | lst ds =>
  have hz:(if c=some 0 then none else some (D.lst (zbw ds l h c)))=some z:=hz
  split at hz
  ·exact zqn hz
  ·rename_i h0
   obtain rfl:=Option.some.inj hz
   rw [IsD.lst_iff] at i1
   refine zc2c i1 fun a xs zr2 h1 h2 => ?_
   obtain rfl:=zr2
   exact ⟨a,xs,rfl,((h1.same e14.ff).same e14.fh).sq,h0,fun p hp=>q p F4 _ (eA.trans (.keep e4.fh hp _)) (za8 eA.hh hp) (za8 e4.fh hp) ⟨_,zam,zmq (IsDs.same e14.ff _ _ h2) l h c⟩⟩
 | scr ns =>
  have hz:(if c=some 0 then none else some (D.lst ((zbw ns l h c).map .int)))=some z:=hz
  split at hz
  ·exact zqn hz
  ·rename_i h0
   obtain rfl:=Option.some.inj hz
   rw [IsD.scr_iff] at i1
   refine zc1b i1 fun a zr1 h1 => ?_
   obtain rfl:=zr1
   refine ⟨a,_,rfl,Same.seq e14.fh (Same.seq e14.ff h1),h0,fun p hp=>q p F4 _ (eA.trans (.keep e4.fh hp _)) (za8 eA.hh hp) (za8 e4.fh hp) ⟨_,zam,?_⟩⟩
   rw [zfH]
   exact IsDs.ints _
 | _=>exact zqn hz
@[simp] theorem ev_sl (fe:FE)(fl fh fs:FO)(sd:SD):dSl fe fl fh fs sd=(fe sd).bind fun d=>(fl sd).bind fun l=>(fh sd).bind fun h=>(fs sd).bind fun c=>.ofO (gSl d l h c):=rfl
@[simp] theorem zmR (sd:SD):zbd sd=.ok none:=rfl
noncomputable def zjl:D→Res (Option Int)
 | .int i=>.ok (some i)
 | _=>.no
@[simp] theorem zmG (i:Int):zjl (.int i)=.ok (some i):=rfl
@[simp] theorem ev_part (f:FE)(sd:SD):zcK f sd=(f sd).bind zjl:=by
 unfold zcK
 cases f sd with
 | ok d=>cases d<;>rfl
 | ex c fs=>rfl
 | no=>rfl
@[simp] theorem zbz (ds:List D)(lo hi:Option Int):gSl (.lst ds) lo hi none=some (.lst (zbw ds lo hi none)):=rfl
theorem zmt {ds:List Int}{lo hi:Option Int}{c:Int}(h:c≠0):gSl (.scr ds) lo hi (some c)=some (.lst ((zbw ds lo hi (some c)).map .int)):=if_neg fun z=>h (Option.some.inj z)
def zcT (i:Nat)(fk fv:FE):FS:=fun sd=>(fv sd).bind fun v=>match sd[i]? with
 | some (some (.own false (.lst ds)))=>(fk sd).bind fun k=>match k with
  | .int k=>match ixN ds.length k with
   | some j=>.ok (.next (sd.set i (some (.own false (.lst (ds.set j v))))))
   | none=>.no
  | _=>.no
 | _=>.no
theorem zbQ {j:Nat}(ho:PE X o (tVar j))(hi:QE X E i fi)(hv:QE X E e fv)(ha:∀ v,assign (.Subscript o i pos') X.env v=(do
 let ov ← holding [v] (eval o X.env)
 let iv ← holding [v,ov] (eval i X.env)
 standAt pos'
 holding [v,ov,iv] (setItem ov iv v)
 release [v,ov,iv] []):=by intro _;rfl) (hs:swapsWithSole [.Subscript o i pos'] e pos.line X.env=pure false:=by rfl) (hw:swappedStores [.Subscript o i pos'] e X.env=pure none:=by rfl)
 (h1:autoParam ((assignEach [.Subscript o i pos'] X.env).map (·.2)=[assign (.Subscript o i pos') X.env]) zau._auto_1):QS X E m (.Assign [.Subscript o i pos'] e pos) (zcT j fi fv):=PS.weak (zkM hv (znk ho hi zjB ha) hs hw h1) fun T σ H zh=>by
 refine zc3b zh fun B F sd r n => ?_
 refine ⟨B,F,sd,r,(Res.need_bind n).mono (fun d n1 v F1 H1 e1 i1 => ?_) fun _ _ q=>q.ext r.ext⟩
 split at n1
 ·rename_i ds hj
  refine zc1e ((r.step e1).own hj) fun l h1 h2 h3 zr4 _ => ?_
  obtain ⟨xs,h4,h5⟩:=zr4
  refine ⟨.ref l,h1,B,F1,sd,r.step e1,(Res.need_bind n1).mono (fun k n2 w F2 H2 e2 i2 => ?_) fun _ _ q=>q.ext (r.step e1).ext⟩
  split at n2
  ·rename_i k
   split at n2
   ·rename_i q hk
    have hH:=e2.hh _ _ h4
    have hl:=h5.length
    refine ⟨l,xs,k,q,rfl,IsD.int_iff.mp i2,hH,by rw [hl];exact hk,?_⟩
    exact n2 σ F2 _ (e1.ff.trans e2.ff) (((r.step e1).step e2).chg hj h1 ⟨_,zam,(IsDs.same e2.ff _ _ h5).set q (IsD.same e2.ff _ _ i1)⟩)
   ·exact n2.elim
  ·exact n2.elim
 ·exact n1.elim
@[simp] theorem ev_lput (i:Nat)(fk fv:FE)(sd:SD):zcT i fk fv sd=(fv sd).bind fun v=>(ownL sd[i]?).bind fun ds=>(fk sd).bind fun k=>(zjl k).bind fun k=>(Res.ofO (ixN ds.length (k.getD 0))).bind fun j=>.ok (.next (sd.set i (some (.own false (.lst (ds.set j v)))))):=by
 unfold zcT
 cases fv sd with
 | ok v =>
  show (match sd[i]? with
   | some (some (.own false (.lst ds)))=>_
   | _=>_)=(ownL sd[i]?).bind _
  cases sd[i]? with
  | none=>rfl
  | some o =>
   cases o with
   | none=>rfl
   | some w =>
    cases w with
    | val d=>rfl
    | own p d =>
     cases p with
     | true=>cases d<;>rfl
     | false =>
      cases d with
      | lst ds =>
       show (fk sd).bind _=(fk sd).bind _
       cases fk sd with
       | ok k =>
        cases k with
        | int k=>show (match ixN ds.length k with|some j=>_|none=>_)=(Res.ofO (ixN ds.length k)).bind _;cases ixN ds.length k<;>rfl
        | _=>rfl
       | ex c fs=>rfl
       | no=>rfl
      | _=>rfl
 | ex c fs=>rfl
 | no=>rfl
@[simp] theorem ev_ixOwn (i:Nat)(fb:FE)(sd:SD):zbA i fb sd=(ownV sd[i]?).bind fun d=>(fb sd).bind fun y=>.ofO (gIx d y):=by
 unfold zbA
 cases sd[i]? with
 | none=>rfl
 | some o =>
  cases o with
  | none=>rfl
  | some v=>cases v<;>rfl
end
end L2.DL
namespace L2
open PySem PySem.Spec PyProof.Rows
section
variable {X:Cx}
theorem zir (hc:X.calm=true):zaJ X (.builtin "sum") (fun xs H Q => ∃ (a:Addr) (ns:List Int),xs=[.ref a]∧SqL X.K H a (ns.map V.int)∧Q (.int ns.sum) H):=by
 intro pins s σ H xs us Q I r h
 refine zc2c h fun a ns zr2 hl q => ?_
 obtain rfl:=zr2
 refine zc1b (zdt r) fun u zr1 ru => ?_
 obtain rfl:=zr1
 obtain rfl:u=Value.ref a:=ru
 refine zc1c (I.list hl) fun its rv p hz => ?_
 have hi:IntsAre its ns:=zgx rv
 obtain ⟨ys,e⟩:=hi.allInts.items
 have hns:ns=ys.toList.map (·.1):=by
  rw [← hi.numsOf,← nums_intItems,← e]
 have hl':=p.isList
 rw [e] at hl'
 refine sum_intListG (I.ok.hd hc) hl' fun h' tk t' hk => ?_
 refine ⟨.int ns.sum,H,I.kept hk,⟨t',?_⟩,q⟩
 rw [preSum_eq,List.take_of_length_le (by simp),← hns]
theorem zjO {bs:List Bool}{its:List Value}(r:Vals (bs.map V.bl) its)(i:Nat)(v:Value)(h:its.toArray[i]? = some v):v=.bool (bs.getD i false):=by
 have h':its[i]? = some v:=by simpa using h
 have hi:i<its.length:=(List.getElem?_eq_some_iff.mp h').1
 have hl:=r.length
 rw [List.length_map] at hl
 have hb:bs[i]? = some bs[i]:=List.getElem?_eq_getElem (by omega)
 refine zc1b (r.get (i:=i) (x:=.bl bs[i]) (by rw [List.getElem?_map,hb];rfl)) fun u hu ru => ?_
 rw [h'] at hu
 obtain rfl:=Option.some.inj hu
 rw [show v=Value.bool bs[i] from ru,List.getD_eq_getElem?_getD,hb]
 rfl
theorem ziw (bs:List Bool):(List.range bs.length).all (fun i=>bs.getD i false)=bs.all id:=by
 apply Bool.eq_iff_iff.mpr
 rw [List.all_eq_true,List.all_eq_true]
 constructor
 ·intro h b hb
  obtain ⟨i,hi,rfl⟩:=List.getElem_of_mem hb
  have:=h i (List.mem_range.mpr hi)
  rw [List.getD_eq_getElem?_getD,List.getElem?_eq_getElem hi] at this
  exact this
 ·intro h i hi
  have hi:=List.mem_range.mp hi
  rw [List.getD_eq_getElem?_getD,List.getElem?_eq_getElem hi]
  exact h _ (List.getElem_mem hi)
theorem zjc (hc:X.calm=true):zaJ X (.builtin "all") (fun xs H Q => ∃ (a:Addr) (bs:List Bool),xs=[.ref a]∧SqL X.K H a (bs.map V.bl)∧Q (.bl (bs.all id)) H):=by
 intro pins s σ H xs us Q I r h
 refine zc2c h fun a bs zr2 hl q => ?_
 obtain rfl:=zr2
 refine zc1b (zdt r) fun u zr1 ru => ?_
 obtain rfl:=zr1
 obtain rfl:u=Value.ref a:=ru
 refine zc1c (I.list hl) fun its rv p hz => ?_
 have hlt:a<s.heap.objs.size:=by obtain ⟨_,e,_⟩:=p.isList;exact Heap.lt_size e
 have hlen:=rv.length
 rw [List.length_map] at hlen
 refine call_all_walk (wpAny_pyIter_list p.isList ⟨_,_,_,_,_,_,fun i=>bs.getD i false,rfl,Walks.list (A:=X.A.in1) (I.ok.hd hc) s.heap.objs.size a (Nat.ne_of_lt hlt) its.toArray,⟨⟨_,Heap.get?_push_size _ rfl,rfl,rfl⟩,p.isList.push _⟩,?_,fun h' tk hk => ?_⟩)
 ·intro i v s' Q' E' hP hQ
  have hv:=zjO rv i v hP
  subst hv
  exact wpAny_of_eq rfl hQ
 ·rw [List.size_toArray,← hlen,ziw]
  refine ⟨.bl _,H,I.kept (t':=tk) fun b o e=>hk b o ?_ (Heap.get?_push_of_some _ e),rfl,q⟩
  intro hm
  have e':=List.mem_singleton.mp hm
  rw [e'] at e
  exact Nat.lt_irrefl _ (Heap.lt_size e)
end
end L2
namespace L2.DL
open PySem PySem.Spec PyProof.Rows
noncomputable def blOf:D→Option Bool
 | .bl i=>some i
 | _=>none
theorem zku {d:D}{i:Bool}(h:blOf d=some i):d=.bl i:=by
 cases d with
 | bl j=>cases h;rfl
 | _=>exact zqn h
theorem IsDs.bls_iff {K:PySem.W.Frag}{H:Hp}:∀ {bs:List Bool} {xs:List V},IsDs K H (bs.map D.bl) xs→xs=bs.map V.bl
 | [],_,h=>IsDs.nil_iff.mp h
 | b::bs,_,h=>by
  rw [List.map_cons,IsDs.cons_iff] at h
  obtain ⟨x,r,rfl,h1,h2⟩:=h
  rw [IsD.bl_iff.mp h1,IsDs.bls_iff h2]
  rfl
def zff:D→Option (List Bool)
 | .lst ds=>zbX blOf ds
 | _=>none
theorem zfP {K:PySem.W.Frag}{H:Hp}{d:D}{ns:List Bool}{v:V}(h:zff d=some ns)(i:IsD K H d v):∃ a,v=.ref a∧LstD K H a (ns.map V.bl):=by
 cases d with
 | lst ds =>
  rw [IsD.lst_iff] at i
  refine zc2c i fun a xs zr2 h1 h2 => ?_
  obtain rfl:=zr2
  rw [zde (fun _ _=>zku) (show zbX blOf ds=some ns from h)] at h2
  rw [IsDs.bls_iff h2] at h1
  exact ⟨a,rfl,h1⟩
 | _=>exact zqn h
theorem zd0 (ns:List Bool):zff (.lst (ns.map D.bl))=some ns:=by
 have h:=zcB (f:=blOf) (g:=D.bl) (k:=fun i:Bool=>i) (fun _=>rfl) ns
 rw [List.map_id'] at h
 exact h
def gSum:List D→Option D
 | [d]=>(zgt d).bind fun ns=>some (.int ns.sum)
 | _=>none
def gAll:List D→Option D
 | [d]=>(zff d).bind fun ns=>some (.bl (ns.all id))
 | _=>none
section
variable {X:Cx}{E:XK}{m:Option Bool}{a b o i e f tg:Expr}{fa fb fo fi fv fe:FE}{fr:FA}{pos pos' apos cpos p p2:Pos}{lo hi st:Option Expr}
theorem zni (hc:X.calm=true):zaJ X (.builtin "sum") (rDA X.K gSum):=zaJ.weak (zir hc) fun xs H Q zh=>by
 refine zc3a zh fun F ds z zz=>zc0d zz fun sF id hz q => ?_
 unfold gSum at hz
 split at hz
 ·refine zc1b (Option.bind_eq_some_iff.mp hz) fun ns h1 hz => ?_
  obtain rfl:=Option.some.inj hz
  refine zc1b (zco id) fun v zr1 h => ?_
  obtain rfl:=zr1
  refine zc1b (ziV h1 h) fun a zr1 h2 => ?_
  obtain rfl:=zr1
  exact ⟨a,ns,rfl,(h2.same sF).sq,q _ F H (.refl sF) (isI _ F)⟩
 ·exact zqn hz
theorem zoH (hc:X.calm=true):zaJ X (.builtin "all") (rDA X.K gAll):=zaJ.weak (zjc hc) fun xs H Q zh=>by
 refine zc3a zh fun F ds z zz=>zc0d zz fun sF id hz q => ?_
 unfold gAll at hz
 split at hz
 ·refine zc1b (Option.bind_eq_some_iff.mp hz) fun ns h1 hz => ?_
  obtain rfl:=Option.some.inj hz
  refine zc1b (zco id) fun v zr1 h => ?_
  obtain rfl:=zr1
  refine zc1b (zfP h1 h) fun a zr1 h2 => ?_
  obtain rfl:=zr1
  exact ⟨a,ns,rfl,(h2.same sF).sq,q _ F H (.refl sF) (isB _ F)⟩
 ·exact zqn hz
end
@[simp] theorem zp7 (ns:List Int):gSum [.lst (ns.map .int)]=some (.int ns.sum):=by
 show (zgt _).bind _=_
 rw [zg1]
 rfl
theorem zfL (ns:List Bool):gAll [.lst (ns.map .bl)]=some (.bl (ns.all id)):=by
 show (zff _).bind _=_
 rw [zd0]
 rfl
end L2.DL
namespace L2
open PySem PySem.Spec PyProof.Rows
theorem zk6:bootBuiltins "all" = some (.builtin "all"):=boot_all
end L2
namespace L2.DL
open PySem PySem.Spec PyProof.Rows
end L2.DL
namespace L2
open PySem PySem.Spec PyProof.Rows
section
variable {X:Cx}{pins:List (Addr×Obj)}{σ : St}{H:Hp}{s:Shared}{h':Heap}
theorem Inv.turnedL {t':Nat}{ch:List Addr}(I:Inv X pins σ H s)(k:∀ b o,b∉ch→s.heap.get? b=some o→h'.get? b=some o)(hf:∀ b∈ch,FpOk X pins H b):Inv X pins σ H { s with heap:=h',toks:=t' }:=by
 have nit:∀ b u,H b=some u→b∉ch:=fun b u e z=>by rw [(hf b z).1] at e;exact zqn e
 refine I.step (g':=s.gens) (d':=s.drawn) (ch:=ch) (fun b hb => ?_) (fun b o _ _ hc e _=>k b o hc e) (fun b o _ _ hc e _=>⟨o.slots,k b o hc e⟩) (fun _ _ _ _ n=>n)
  (fun b o hc e=>⟨o,k b o hc e⟩) (fun _ _ e=>e) (fun _ _ _ e=>e) (fun b ps e=>⟨#[],by rw [e];simp⟩) (fun m hm => ?_) (fun b u e => ?_) I.bare
 ·obtain ⟨_,f1,_,f3,f4,f5⟩:=hf b hb
  exact ⟨f3,f1,f4,f5⟩
 ·obtain ⟨o,es,ep,ho,r⟩:=hm
  exact ⟨o,es,ep,k _ o (fun z=>(hf _ z).2.1 rfl) ho,r⟩
 ·refine (I.hok b u e).stay (fun c v hc q=>k c v ?_ q) (fun _ q=>q) fun _ _ q=>q
  rcases hc with z|z
  ·rw [z];exact nit b u e
  ·exact nit c _ z
theorem FpOk.upd {b T:Addr}{o:HO}(h:FpOk X pins H b)(n:b≠T):FpOk X pins (upd H T o) b:=⟨(zaj n).trans h.1,h.2⟩
theorem Inv.paired {t':Nat}{ch:List Addr}{x y:V}{u v:Value}(I:Inv X pins σ H s)(rx:RelV x u)(ry:RelV y v)(hf:∀ b∈ch,FpOk X pins H b)(hc:∀ b∈ch,b≠s.heap.objs.size)
 (hT:h'.get? s.heap.objs.size=some { cls:=.type "tuple",data:=.seq #[u,v] }) (k:∀ b o,b∉ch→s.heap.get? b=some o→h'.get? b=some o) :
 Inv X pins σ (upd H s.heap.objs.size (.tup [x,y])) { s with heap:=h',toks:=t' }:=by
 have I1:Inv X pins σ (upd H s.heap.objs.size (.tup [x,y])) { s with heap:=s.heap.push { cls:=.type "tuple",data:=.seq #[u,v] },toks:=s.toks } :=
  I.laid (t':=s.toks) (fun b o e=>Heap.get?_push_of_some _ e) (Nat.le_refl _) ⟨⟨by simp only [sizeLine_eq,List.length_cons,List.length_nil];omega,_,Heap.get?_push_size _ rfl,rfl⟩,[u,v],.cons rx (.cons ry .nil),_,Heap.get?_push_size _ rfl,rfl,_,rfl⟩
 refine Inv.turnedL (s:={ s with heap:=s.heap.push { cls:=.type "tuple",data:=.seq #[u,v] },toks:=s.toks }) (h':=h') (t':=t') (ch:=ch) I1 (fun b o hb e => ?_) fun b hb=>(hf b hb).upd (hc b hb)
 have e:(s.heap.push { cls:=.type "tuple",data:=.seq #[u,v] }).get? b=some o:=e
 rcases Heap.get?_push_cases e with ⟨rfl,rfl⟩|e
 ·exact hT
 ·exact k b o hb e
end
end L2
namespace L2.DL
open PySem PySem.Spec PyProof.Rows
section
variable {X:Cx}{E:XK}{fr:FA}{p pos tp:Pos}{elts:List Expr}
noncomputable def gAbs:List D→Option D
 | [.int i]=>some (.int (if i<0 then -i else i))
 | _=>none
@[simp] theorem gAbs_int (i:Int):gAbs [.int i]=some (.int (if i<0 then -i else i)):=rfl
theorem b_abs:zaJ X (.builtin "abs") (rDA X.K gAbs):=zaJ.weak zj5 fun xs H Q zh=>by
 obtain ⟨F,ds,z,sF,id,hz,q⟩:=zh
 unfold gAbs at hz
 split at hz
 ·obtain rfl:=Option.some.inj hz
  obtain ⟨v,rfl,h⟩:=zco id
  exact ⟨_,by rw [IsD.int_iff.mp h],q _ F H (.refl sF) (isI _ F)⟩
 ·exact zqn hz
theorem znv:bootBuiltins "abs" = some (.builtin "abs"):=by kernel_rfl
def rRep' (K:PySem.W.Frag):R2:=fun x y H Q => ∃ l k xs,x=.ref l∧y=.int k∧LstD K H l xs ∧ -(2 ^ 63)≤k∧k<2 ^ 63∧xs.length*k.toNat≤sizeLine∧∀ p,H p=none→Q (.ref p) (upd H p (.lst (List.replicate k.toNat xs).flatten))
theorem zmr:OpR X (binaryOp .Mult) (rRep' X.K):=by
 intro pins s σ H x y v u Q I rx ry h
 obtain ⟨l,k,xs,rfl,rfl,hH,h1,h2,hz,q⟩:=h
 cases rx
 obtain ⟨t,rfl⟩:=ry
 obtain ⟨z,its,n,r,e⟩:=hH.ok I.hok
 have hl:=r.length
 have hlen:its.toArray.size*k.toNat≤sizeLine:=by rw [List.size_toArray,← hl];exact hz
 have hcap:¬ its.toArray.size*k.toNat > (2 ^ 63-1) / 8:=by
  have:(sizeLine:Nat)≤(2 ^ 63-1) / 8:=by decide
  omega
 have hfit:¬ (!Builtin.List.listFitsIndex k)=true:=by
  rw [fitsIndex_both h1 h2]
  exact Bool.false_ne_true
 have hlong:¬ Builtin.List.listTooLong (its.toArray.size*k.toNat)=true:=by
  rw [zj2 hlen]
  exact Bool.false_ne_true
 have hnew:List.foldl (fun x1 x2=>x1++x2) #[] (List.replicate (if its.toArray.isEmpty=true then 0 else k.toNat) its.toArray)=(List.replicate k.toNat its).flatten.toArray:=by
  have f0:∀ m:Nat,List.foldl (fun x1 x2=>x1++x2) #[] (List.replicate m its.toArray)=(List.replicate m its).flatten.toArray:=fun m=>by
   have:=zd4 its m []
   rw [List.nil_append] at this
   exact this
  rw [f0]
  cases its with
  | nil=>simp
  | cons a r'=>rw [if_neg (by simp)]
 refine wpAny_binaryOp_repeat_ref (T := "list") (U := "int") (by decide) ⟨_,e,rfl⟩ (fun s'=>typeIs_int s' k t) noFill_list_mul F.fills_int_mul F.slot_int_rmul repeat_list F.slot_int_index.lookup
  (call_meets F.slot_int_rmul (typeIs_int s k t) F.entry_int_rmul (F.args_int_rmul_2 _ _) (int___rmul___int_list k t l its.toArray n)
   ⟨e,rfl,⟨_,e,rfl⟩,call_meets F.slot_list_mul ⟨_,e,rfl⟩ F.entry_list_mul (F.args_list_mul_2 _ _) (AutoListH.list___mul___list_int_3 l its.toArray n k t hfit hcap hlong) ⟨e,?_⟩⟩)
 rw [hnew]
 exact ⟨.ref _,_,I.lnew (t':=s.toks) (r.rep k.toNat) (by rw [zfB,Nat.mul_comm];exact hz),rfl,q _ I.fresh⟩
noncomputable def gRep:D→D→Option D
 | .lst ds,.int k=>if Nat.ble ds.length 1000&&(Nat.ble k.toNat 1000&&Nat.ble (-k).toNat 1000) then some (.lst (List.replicate k.toNat ds).flatten) else none
 | _,_=>none
theorem zlG {ds:List D}{k:Int}(h0:ds.length≤1000)(h1 : -1000≤k)(h2:k≤1000):gRep (.lst ds) (.int k)=some (.lst (List.replicate k.toNat ds).flatten):=by
 show (if _ then _ else _)=_
 rw [if_pos (by rw [Bool.and_eq_true,Bool.and_eq_true,Nat.ble_eq,Nat.ble_eq,Nat.ble_eq];omega)]
theorem IsDs.rep {K:PySem.W.Frag}{F:Hp}{ds:List D}{xs:List V}(h:IsDs K F ds xs):∀ k:Nat,IsDs K F (List.replicate k ds).flatten (List.replicate k xs).flatten
 | 0=>.nil
 | k+1=>by
  rw [List.replicate_succ,List.replicate_succ,List.flatten_cons,List.flatten_cons]
  exact h.append (IsDs.rep h k)
theorem o_rep:OpDN X (binaryOp .Mult) gRep:=OpR.weak zmr fun x y H Q zh=>by
 obtain ⟨F,d,e,z,sF,id,ie,hz,q⟩:=zh
 cases d with
 | lst ds =>
  cases e with
  | int k =>
   have hz:(if Nat.ble ds.length 1000&&(Nat.ble k.toNat 1000&&Nat.ble (-k).toNat 1000) then some (D.lst (List.replicate k.toNat ds).flatten) else none)=some z:=hz
   split at hz
   ·rename_i hl
    rw [Bool.and_eq_true,Bool.and_eq_true,Nat.ble_eq,Nat.ble_eq,Nat.ble_eq] at hl
    obtain rfl:=Option.some.inj hz
    rw [IsD.lst_iff] at id
    obtain ⟨l,xs,rfl,h1,h2⟩:=id
    have ll:=h2.length
    refine ⟨l,k,xs,rfl,IsD.int_iff.mp ie,h1.same sF,by omega,by omega,?_,fun p hp=>q p F _ (.keep sF hp _) hp (za8 sF hp) ⟨_,zam,h2.rep k.toNat⟩⟩
    have:xs.length*k.toNat≤1000*1000:=Nat.mul_le_mul (by omega) (by omega)
    rw [sizeLine_eq]
    omega
   ·exact zqn hz
  | _=>exact zqn hz
 | _=>exact zqn hz
end
end L2.DL
namespace L2.ST
open PySem
noncomputable def zmu (t:SetTable):Nat→SetTable.Probe→SetTable.Probe
 | 0,p=>p
 | n+1,p=>zmu t n (t.advance p)
end L2.ST
namespace L2.ST
open PySem
noncomputable def UpA (xs:Array Nat):Prop:=∀ i j,i<j→j<xs.size→xs.getD i 0<xs.getD j 0
noncomputable def occ (t:SetTable)(j:Nat):Prop:=∃ i,i<t.place.size∧t.place.getD i 0=j
def Way (t:SetTable)(o:Nat→Prop)(x:Int)(y:Nat):Prop:=∃ n,(zmu t n (t.probeStart x)).j=y∧∀ m,m<n→o (zmu t m (t.probeStart x)).j
structure TabOk (t:SetTable)(hs:Array Int):Prop where
 size:t.place.size=hs.size
 up:UpA t.place
 le:∀ i,i<t.place.size→t.place.getD i 0≤t.mask
 nod:t.dummies = #[]
 pow:∃ k,t.mask+1=2 ^ k
 room:t.place.size≤t.mask
 ways:∀ i,i<t.place.size→Way t (occ t) (hs.getD i 0) (t.place.getD i 0)
end L2.ST
namespace L2.ST
open PySem
structure SetIs (hp:Heap)(a:Addr)(es:Array (Int×Value))(t:SetTable):Prop where
 at_:∃ ep,hp.get? a=some { cls:=.type "set",dict:=none,data:=.set es ep t,slots:=#[] }
 tab:TabOk t (es.map (·.1))
 seven:7≤t.mask
 most:t.mask≤8*es.size+7
 room:es.size*5<t.mask*3
 refs:∀ i (hi:i<es.size),∃ b,es[i].2=.ref b
variable {prog:Program}{w:World}{A:Around}{E:Value→Shared→Prop}{s:Shared}
end L2.ST
namespace L2.ST
open PySem PySem.Spec PyProof.Rows
noncomputable def Holds (hsh:Value→Int)(hp:Heap)(S:Addr)(ld:Bool)(D:List Value):Prop:=∃ es t,SetIs hp S es t∧es.toList.Perm (D.map fun v=>(hsh v,v))∧t.led=ld∧t.plain=true
end L2.ST
namespace L2.ST
open PySem PySem.Spec PyProof.Rows
section
variable {prog:Program}{w:World}{A:Around}{E:Value→Shared→Prop}{s:Shared}
noncomputable def ledW (w:World):Bool:=!w.params.followText "set-order"
theorem zeQ (a:Value){Q₁:Value→Shared→Prop}
 (h:Q₁ (.ref s.heap.objs.size) { s with heap:=s.heap.push { cls:=.type "set",dict:=none,data:=.set #[] 0 (.fresh 0 0 (ledW w)) } }) :
 codeAny (model prog w) A (.call (.builtin "set.__new__") ⟨[.type "set",a],[]⟩) (wants Q₁ E) s:=by
 refine codeAny_of_tree ?_
 show wpAny _ A.in1 (do checkBuiltinCall "set.__new__" ⟨[.type "set",a],[]⟩;again (.builtin "set.__new__" ⟨[.type "set",a],[]⟩)) _ _ s
 refine wpAny_bind (wpAny_of_eq (F.newCall_set_1 a) (wpAny_pure ⟨plainId_quiet F.plain_set_new _,codeAny_builtin F.entry_set_new ?_⟩))
 rw [Around.under_plainId F.plain_set_new _]
 unfold Builtin.«set.__new__» Builtin.Frozenset.newClass
 have hsub:=sub_set_self
 obtain ⟨hp,g,d,tk,os⟩:=s
 dsimp only
 wp_walk
 refine wpAny_askSetting (wpAny_pure ?_)
 dsimp only
 simp only [newObj]
 refine wpAny_bind (wpAny_alloc (wpAny_pure ?_))
 exact wpAny_pure h
end
end L2.ST
namespace L2.ST
open PySem PySem.Spec PyProof.Rows
noncomputable def pairP (p:Int×Int):PyData:=.tuple [.int p.1,.int p.2]
def rowP (r:List (Int×Int)):PyData:=.tuple (r.map pairP)
end L2.ST
namespace L2.ST
open PySem PySem.Spec PyProof.Rows
end L2.ST
namespace L2.DL
open PySem PySem.Spec PyProof.Rows L2.ST
theorem bt_set:bootBuiltins "set" = some (.type "set"):=by kernel_rfl
end L2.DL
namespace L2
open PySem PySem.Spec PyProof.Rows
theorem zbh.has {P:Program}{w:World}{H:Hp}{h:Heap}{a:Addr}{o:HO}(x:zbh P w H h a o):∃ u,h.get? a=some u:=by
 cases o with
 | lst xs=>obtain ⟨_,_,_,_,e⟩:=x;exact ⟨_,e⟩
 | tup xs=>obtain ⟨_,_,_,o,e,_⟩:=x;exact ⟨_,e⟩
 | dK kvs=>obtain ⟨_,_,_,_,o,_,_,e,_⟩:=x;exact ⟨_,e⟩
 | dT kvs=>obtain ⟨_,_,_,_,o,_,_,e,_⟩:=x;exact ⟨_,e⟩
 | set S n=>obtain ⟨o,_,_,_,e,_⟩:=x;exact ⟨_,e⟩
 | ins C dx fs=>obtain ⟨_,_,_,e,_⟩:=x;exact ⟨_,e⟩
 | own y=>exact x
 | xd fs=>obtain ⟨_,⟨_,_,_,e,_⟩,_⟩:=x;exact ⟨_,e⟩
 | rng lo hi=>obtain ⟨_,_,_,e⟩:=x;exact ⟨_,e⟩
 | frz ob u=>exact ⟨_,x.1⟩
 | tbl ps=>exact ⟨_,show h.get? a=some _ from x⟩
 | met f y=>exact ⟨_,show h.get? a=some _ from x⟩
 | ext φ => exact x.2.1
structure FlyAt (l:List Env)(h₀:Heap)(H:Hp)(x C:Addr)(B h:Heap):Prop where
 fly:∃ t,Heap.FlyingW B l x (.ref C) (.ref t) h
 trk:∀ b o,h.get? b=some o→(H b≠none∨((∃ u,h₀.get? b=some u)∧b∉frs l))→B.get? b=some o
def CXE (P:Program)(w:World):CXT:=fun outer H s E e s' => ∃ H' x C B,e=.ref x∧s'.os=s.os∧AllBare s'.gens∧Un (frs outer) [] H H' s.heap s'.heap∧HOk P w H' s'.heap∧FlyAt outer s.heap H' x C B s'.heap∧E (.ref C) none H'
structure Thrown (X:Cx)(E:XK):Prop where
 on:∀ (pins:List (Addr×Obj)) (σ : St) (H:Hp) (s:Shared) (h₀:Heap) (x C:Addr) (B:Heap),Inv X pins σ H s→(∀ b u,X.s₀.heap.get? b=some u→b∉X.ex→∃ u',h₀.get? b=some u')→FlyAt X.stack h₀ H x C B s.heap→E (.ref C) none H→X.xe (.ref x) s
structure Raises (X:Cx)(E:XK):Prop where
 new:∀ (pins:List (Addr×Obj)) (σ : St) (H:Hp) (s:Shared) (h':Heap) (x C:Addr) (args:List Value),Inv X pins σ H s→Heap.MadeExcOf s.heap h' x (.ref C) args→E (.ref C) none H→X.xe (.ref x) { s with heap:=h' }
theorem Thrown.passes {X:Cx}{E:XK}(T:Thrown X E):zdL (CXE X.prog X.w) X E:=by
 rintro pins σ H s e s' I ⟨H',x,C,B,h1,os,bare,un,hok,fl,hE⟩
 subst h1
 have I':=I.call' (s':=s') (ch:=[]) os un hok bare (fun b z=>absurd z (by simp))
 exact T.on pins σ H' s' s.heap x C B I' (fun b u e hx=>I.base.there b u e hx) fl hE
section
variable {P:Program}{w:World}{K:PySem.W.Frag}{mg:Str→Option Value}{base:Heap}{N:List Str}{qual:Str}{scope:Scope}{f:Addr}{cd:Value}{A:Around}{outer:List Env}{s:Shared}{H:Hp}{E:XK}
theorem ze4 {pins:List (Addr×Obj)}{σ : St}{H':Hp}{s':Shared}{h₀ h'' B:Heap}{x C t:Addr}(I:Inv (cxOf (CXE P w) P w K mg base N qual scope f cd A outer s H E) pins σ H' s')
 (h0:∀ b u,s.heap.get? b=some u→∃ u',h₀.get? b=some u') (fl:Heap.FlyingW B outer x (.ref C) (.ref t) h'') (up:s'.heap.UpToSlots h'')
 (trk:∀ b o,s'.heap.get? b=some o→(H' b≠none∨((∃ u,h₀.get? b=some u)∧b∉frs (envOfC qual scope s.heap.objs.size f cd::outer)))→B.get? b=some o) (hE:E (.ref C) none H') :
 CXE P w outer H s E (.ref x) { s' with heap:=h'' }:=by
 have nst:∀ b u,s.heap.get? b=some u→b∉frs outer→b∉frs (envOfC qual scope s.heap.objs.size f cd::outer):=fun b u e hb z=>by
  unfold frs at z hb
  rw [List.filterMap_cons] at z
  have z:b∈s.heap.objs.size::outer.filterMap (·.frame):=z
  rcases List.mem_cons.mp z with q|q
  ·exact absurd (Heap.lt_size e) (by rw [q];exact Nat.lt_irrefl _)
  ·exact hb q
 have nex:∀ b:Addr,b∉(cxOf (CXE P w) P w K mg base N qual scope f cd A outer s H E).ex:=fun b z=>absurd (show b∈([]:List Addr) from z) (by simp)
 have keep:∀ b o,s'.heap.get? b=some o→(H' b≠none∨((∃ u,s.heap.get? b=some u)∧b∉frs outer))→B.get? b=some o:=fun b o e c=>by
  refine trk b o e ?_
  rcases c with c|⟨⟨u,hu⟩,hb⟩
  ·exact .inl c
  ·exact .inr ⟨h0 b u hu,nst b u hu hb⟩
 have slot:∀ b o,s.heap.get? b=some o→b∈frs outer→∃ sl,h''.get? b=some { o with slots:=sl }:=fun b o e hb=>by
  obtain ⟨sl,e1⟩:=I.base.slot b o e (I.ok.frf b hb) hb (nex b)
  refine zc0b (I.ok.funs.mem hb) fun _ zz=>zc1b zz fun o' ho' hd => ?_
  have ho':s.heap.get? b=some o':=ho'
  rw [e] at ho'
  obtain rfl:=Option.some.inj ho'
  obtain ⟨sl',e2⟩:=up b _ e1 hd
  exact ⟨sl',e2⟩
 refine ⟨H',x,C,B,rfl,I.os,I.bare,⟨fun b o e n hb _ => ?_,fun b o e n hb _=>slot b o e hb,fun b o e n _=>I.base.free b o e n (nex b),fun b o e _ => ?_,I.base.tups,I.base.frzs,I.base.tbls⟩,fun b u e => ?_,⟨⟨t,fl⟩,fun b o e c => ?_⟩,hE⟩
 ·exact fl.1 b o (keep b o (I.base.keep b o e n hb (nex b)) (.inr ⟨⟨o,e⟩,hb⟩))
 ·by_cases hb:b∈frs outer
  ·obtain ⟨sl,q⟩:=slot b o e hb
   exact ⟨_,q⟩
  ·obtain ⟨o',e'⟩:=I.base.there b o e (nex b)
   exact ⟨o',fl.1 b o' (keep b o' e' (.inr ⟨⟨o,e⟩,hb⟩))⟩
 ·refine (I.hok b u e).stay (fun c v hc q=>fl.1 c v (keep c v q (.inl ?_))) (fun _ q=>q) fun _ _ q=>q
  rcases hc with z|z
  ·rw [z,e];simp
  ·rw [z];simp
 ·have ex:∃ o',s'.heap.get? b=some o':=by
   rcases c with c|⟨⟨u,hu⟩,_⟩
   ·cases q:H' b with
    | none=>exact absurd q c
    | some u=>exact (I.hok b u q).has
   ·exact I.base.there b u hu (nex b)
  obtain ⟨o',e'⟩:=ex
  have k:=keep b o' e' c
  have:=fl.1 b o' k
  have e:h''.get? b=some o:=e
  rw [e] at this
  obtain rfl:=Option.some.inj this
  exact k
theorem zbO:Thrown (cxOf (CXE P w) P w K mg base N qual scope f cd A outer s H E) E:=by
 refine ⟨fun pins σ H' s' h₀ x C B I h0 fl hE => ?_⟩
 obtain ⟨⟨t,fly⟩,trk⟩:=fl
 have nex:∀ b:Addr,b∉(cxOf (CXE P w) P w K mg base N qual scope f cd A outer s H E).ex:=fun b z=>absurd (show b∈([]:List Addr) from z) (by simp)
 exact wpAny_leaves_onW I.ok.frames rfl fly fun h' fl up=>ze4 I (fun b u e=>h0 b u e (nex b)) fl up trk hE
theorem zaX:Raises (cxOf (CXE P w) P w K mg base N qual scope f cd A outer s H E) E:=by
 refine ⟨fun pins σ H' s' h' x C args I hx hE => ?_⟩
 have st:=I.stack
 have fin:∀ env∈(envOfC qual scope s.heap.objs.size f cd::outer),∀ a,env.frame=some a→a∈frs (envOfC qual scope s.heap.objs.size f cd::outer):=fun env he a ha=>List.mem_filterMap.mpr ⟨env,he,ha⟩
 have B:=PySem.W.hideAll s'.heap (frs (envOfC qual scope s.heap.objs.size f cd::outer))
 refine wpAny_leaves_madeW (s:={ s' with heap:=h' }) (base:=PySem.W.hideAll s'.heap (frs (envOfC qual scope s.heap.objs.size f cd::outer))) (h:=s'.heap) I.ok.frames rfl (fun b o e=>PySem.W.of_hideAll _ e) (PySem.W.funFrames_hide st fin) hx fun h'' t fl tup tn up => ?_
 refine ze4 (s':=s') (h₀:=s'.heap) I (fun b u e=>I.base.there b u e (by show b∉([]:List Addr);simp)) fl ((Heap.UpToSlots.of_keeps hx.keeps).trans up) (fun b o e c => ?_) hE
 refine PySem.W.hideAll_get _ e fun z => ?_
 rcases c with c|c
 ·exact c (I.stkFree b z)
 ·exact c.2 z
end
def zbg (P:Program)(w:World)(K:PySem.W.Frag)(mg:Str→Option Value)(base:Heap)(name:Str)(k:Nat)(ps:List Str)(sp:Sp):Prop :=
 ∃ f fd,FnOk P w K mg base (CXE P w) k f fd ps sp∧zdb K fd ps []∧PySem.W.keepIn K (.ref f)=true∧mg name=some (.ref f)
theorem zbg.mono {P:Program}{w:World}{K:PySem.W.Frag}{mg:Str→Option Value}{base:Heap}{name:Str}{j k:Nat}{ps:List Str}{sp:Sp}(c:zbg P w K mg base name j ps sp)(h:j≤k):zbg P w K mg base name k ps sp:=by
 refine zc2b c fun f fd F r => ?_
 exact ⟨f,fd,F.mono h,r⟩
section
variable {X:Cx}{E:XK}{name:Str}{k:Nat}{ps:List Str}{sp:Sp}{p pos:Pos}{e:Expr}{es:List Expr}{t:TA}
theorem zmX (c:zbg X.prog X.w X.K X.mg X.base name k ps sp)(T:Thrown X E)(hr:Room k X.A)(hg:Gl X name)(ha:PA X (e::es) t)
 (hdb:autoParam ((name == ("__debug__" : Str))=false) zav._auto_1) (he:starEach (e::es) X.env=(false,eval e X.env)::starEach es X.env:=by rfl) (hpl:(backTo pos (starEach es X.env)).any (·.1)=false:=by rfl) :
 PE X (.Call (.Name name p) (e::es) [] pos) (zmA sp [] E t):=by
 refine zc2d c fun f fd F b hk hm => ?_
 exact zh0 F hr hg hm hk b .nil T.passes ha hdb he hpl
end
theorem Fun.okX {P:Program}{w:World}{K:PySem.W.Frag}{mg:Str→Option Value}{base:Heap}{x qual:Str}{st:Stmt}{f:Addr}{fd:FuncData}{N ps:List Str}{k:Nat}{sp:Sp}(F:Fun K x qual st f fd)(S:FnScope N ps (zah st))(len:∀ vs H Q E,sp vs H Q E→vs.length=ps.length)
 (hbody:∀ (cdv:Value) (A:Around) (outer:List Env) (s:Shared) (H:Hp) (vs:List V) (Q:VK) (E:XK),Room k (A.deeper (envOfC qual (zah st) s.heap.objs.size f cdv))→sp vs H Q E →
  ∃ t,PSs (cxOf (CXE P w) P w K mg base N qual (zah st) f cdv A outer s H E) (zbr st) t∧t { nx:=fun _ H'=>Q .non H',rt:=Q } (start N vs) H):FnOk P w K mg base (CXE P w) (k+1) f fd ps sp:=by
 refine zc4a F.ex fun oc od kV doc zz=>zc4a zz fun pm an cdv ct zz=>zc1c zz fun osl zr9 lk hcd => ?_
 obtain rfl:=zr9
 exact znC lk hcd S len fun A outer s H vs Q E hr hsp=>hbody cdv A outer s H vs Q E hr hsp
end L2
namespace L2.DL
open PySem PySem.Spec PyProof.Rows
def SpDX (K:PySem.W.Frag)(Fn:List D→Res D):Sp:=fun vs H Q E => ∃ F ds,Same F H∧IsDs K F ds vs∧(Fn ds).need (OkD K F H Q) (XW K E F H)
noncomputable def Res.strict {α : Type}:Res α → Res α
 | .ok a=>.ok a
 | _=>.no
@[simp] theorem Res.strict_ok {α : Type}(a : α):(Res.ok a).strict=.ok a:=rfl
theorem Res.need_strict {α : Type}{r:Res α}{p : α → Prop}{q q':Str→List D→Prop}(h:r.strict.need p q):r.need p q':=by
 cases r with
 | ok a=>exact h
 | ex c fs=>exact h.elim
 | no=>exact h
def zc8 (Fn:List D→Res D)(fr:FA):FE:=fun sd=>(fr sd).bind fun ds=>(Fn ds).strict
@[simp] theorem ev_call0 (Fn:List D→Res D)(fr:FA)(sd:SD):zc8 Fn fr sd=(fr sd).bind fun ds=>(Fn ds).strict:=rfl
section
variable {X:Cx}{E:XK}{name:Str}{k:Nat}{ps:List Str}{Fn:List D→Res D}{p pos:Pos}{e:Expr}{es:List Expr}{fr:FA}
theorem zit (c:zbg X.prog X.w X.K X.mg X.base name k ps (SpDX X.K Fn))(T:Thrown X E)(hr:Room k X.A)(hg:Gl X name)(ha:QA X E (e::es) fr)
 (hdb:autoParam ((name == ("__debug__" : Str))=false) zav._auto_1) (he:starEach (e::es) X.env=(false,eval e X.env)::starEach es X.env:=by rfl) (hpl:(backTo pos (starEach es X.env)).any (·.1)=false:=by rfl) :
 QE X E (.Call (.Name name p) (e::es) [] pos) (zaC Fn fr):=PE.weak (zmX c T hr hg ha hdb he hpl) fun σ H Q zh=>by
 refine zc3b zh fun B F sd r n => ?_
 refine ⟨B,F,sd,r,(Res.need_bind n).mono (fun xs n1 vs F1 H1 e1 i1 => ?_) fun _ _ q=>q⟩
 show SpDX X.K Fn (vs++[]) H1 Q E
 rw [List.append_nil]
 exact ⟨F1,xs,e1.fh,i1,ziK n1 e1⟩
theorem zlj (c:za2 X.prog X.w X.K X.mg X.base name k ps (SpD X.K Fn))(hr:Room k X.A)(hg:Gl X name)(ha:QA X E (e::es) fr)
 (hdb:autoParam ((name == ("__debug__" : Str))=false) zav._auto_1) (he:starEach (e::es) X.env=(false,eval e X.env)::starEach es X.env:=by rfl) (hpl:(backTo pos (starEach es X.env)).any (·.1)=false:=by rfl) :
 QE X E (.Call (.Name name p) (e::es) [] pos) (zc8 Fn fr):=PE.weak (ziM c hr hg ha hdb he hpl) fun σ H Q zh=>by
 obtain ⟨B,F,sd,r,n⟩:=zh
 refine ⟨B,F,sd,r,(Res.need_bind n).mono (fun xs n1 vs F1 H1 e1 i1 => ?_) fun _ _ q=>q⟩
 show SpD X.K Fn (vs++[]) H1 Q E0
 rw [List.append_nil]
 exact ⟨F1,xs,e1.fh,i1,Res.need_strict (ziK n1 e1)⟩
theorem zmM (c:za2 X.prog X.w X.K X.mg X.base name k ps (SpN X.K Fn))(hr:Room k X.A)(hg:Gl X name)(ha:QA X E (e::es) fr)
 (hdb:autoParam ((name == ("__debug__" : Str))=false) zav._auto_1) (he:starEach (e::es) X.env=(false,eval e X.env)::starEach es X.env:=by rfl) (hpl:(backTo pos (starEach es X.env)).any (·.1)=false:=by rfl) :
 QN X E (.Call (.Name name p) (e::es) [] pos) (zc8 Fn fr):=PE.weak (ziM c hr hg ha hdb he hpl) fun σ H Q zh=>by
 refine zc3b zh fun B F sd r n => ?_
 refine ⟨B,F,sd,r,(Res.need_bind n).mono (fun xs n1 vs F1 H1 e1 i1 => ?_) fun _ _ q=>q⟩
 show SpN X.K Fn (vs++[]) H1 Q E0
 rw [List.append_nil]
 exact ⟨F1,xs,e1.fh,i1,Res.need_strict (zpu n1 e1)⟩
end
section
variable {P:Program}{w:World}{K:PySem.W.Frag}{mg:Str→Option Value}{base:Heap}{x qual:Str}{f:Addr}{fd:FuncData}{N ps:List Str}{k:Nat}{st:Stmt}
theorem zha {g:FS}(F:Fun K x qual st f fd)(S:FnScope N ps (zah st))
 (hb:∀ (cdv:Value) (A:Around) (outer:List Env) (s:Shared) (H:Hp) (E:XK),Room k (A.deeper (envOfC qual (zah st) s.heap.objs.size f cdv))→QSs (cxOf (CXE P w) P w K mg base N qual (zah st) f cdv A outer s H E) E false (zbr st) g) :
 FnOk P w K mg base (CXE P w) (k+1) f fd ps (SpDX K (runD N.length ps.length g)):=by
 refine F.okX S (fun vs H Q E ⟨F,ds,_,h,n⟩ => ?_) fun cdv A outer s H vs Q E hr ⟨F,ds,hs,h,n⟩=>⟨_,hb cdv A outer s H E hr,?_⟩
 ·unfold runD at n
  split at n
  ·rw [h.length];assumption
  ·exact n.elim
 ·unfold runD at n
  split at n
  ·refine ⟨⟨F,H,fun _=>none⟩,F,_,RS.start hs h,(Res.need_bind n).mono (fun o n1 => ?_) fun _ _ q=>q⟩
   cases o with
   | next sd=>exact fun σ F' H' _ r=>n1 .non F' H' r.ext (IsD.non_iff.mpr rfl)
   | ret d=>exact n1
   | brk sd=>exact n1.elim
   | cont sd=>exact n1.elim
  ·exact n.elim
end
end L2.DL
namespace L2
open PySem PySem.Spec PyProof.Rows
section
variable {X:Cx}{x:Str}{v e:Expr}{tv:TE}{t:TA}{p1 p2 np cpos pos:Pos}{k}
structure Exc (K:PySem.W.Frag)(mg:Str→Option Value)(c:Str)(C:Addr):Prop where
 ns:PySem.W.nsIn K mainGlobals c=some (some (.ref C))
 mgc:mg c=some (.ref C)
 exc:PySem.W.excIn K C [.type "ValueError",.type "Exception",.type "BaseException",.type "object"] "ValueError.__new__" = true
noncomputable def ExcP (m:List Value)(l:List (Option Value))(g:Addr→List Value→Option Value→Option Value→Option Value→Option Value→String→Option Value→Bool):Prop :=
 ∃ C bm k0 k1 k2 k3 n k5,m=.ref C::bm∧l=[k0,k1,k2,k3,some (.builtin n),k5]∧g C bm k0 k1 k2 k3 n k5=true
theorem zho {m:List Value}{l:List (Option Value)}{g:Addr→List Value→Option Value→Option Value→Option Value→Option Value→String→Option Value→Bool}
 (q:PySem.W.excIn.match_1 (fun _ _=>Bool) m l g (fun _ _=>false)=true):ExcP m l g:=by
 cases m with
 | nil=>exact zqb q
 | cons v bm =>
  cases v with
  | ref C =>
   cases l with
   | nil=>exact zqb q
   | cons k0 l =>
    cases l with
    | nil=>exact zqb q
    | cons k1 l =>
     cases l with
     | nil=>exact zqb q
     | cons k2 l =>
      cases l with
      | nil=>exact zqb q
      | cons k3 l =>
       cases l with
       | nil=>exact zqb q
       | cons k4 l =>
        cases k4 with
        | none=>exact zqb q
        | some u =>
         cases u with
         | builtin n =>
          cases l with
          | nil=>exact zqb q
          | cons k5 l =>
           cases l with
           | nil=>exact ⟨_,_,_,_,_,_,_,_,rfl,rfl,q⟩
           | cons _ _=>exact zqb q
         | _=>exact zqb q
  | _=>exact zqb q
theorem zi3 {K:PySem.W.Frag}{h:Heap}{C:Addr}{bmB:List Value}{newId:String}{P:Prop}(KI:K.In h)(q:PySem.W.excIn K C bmB newId=true)
 (k:∀ bm N nm qn bs hdct sn sub ab col dd k0 k1 k2 k3 k5 mN,h.get? C=some (excClassObj nm qn C N bs bm hdct sn sub ab col dd k0 k1 k2 k3 k5 newId)→h.Ns N mN→mN "__init__" = none→OwnTail h bmB bm→P):P:=by
 unfold PySem.W.excIn at q
 split at q
 ·rename_i dd cd sl ho
  obtain ⟨C',bm,k0,k1,k2,k3,n,k5,hm,hs,q⟩:=zho q
  simp only [Bool.and_eq_true,beq_iff_eq,Bool.not_eq_true'] at q
  obtain ⟨⟨⟨⟨⟨z1,z2⟩,hdel⟩,ht⟩,hok⟩,hni⟩:=q
  subst z1 z2
  have hc:=KI _ _ ho
  obtain ⟨nm,bs,mro,ns,qn,hd,sn,sub,ab,col,del⟩:=cd
  dsimp only at hm hdel hok hni hc
  subst hm hdel
  have hsl:sl = #[k0,k1,k2,k3,some (.builtin n),k5]:=by
   obtain ⟨l⟩:=sl
   exact congrArg Array.mk hs
  subst hsl
  exact k bm ns nm qn bs hd sn sub ab col dd k0 k1 k2 k3 k5 _ hc (.of_isNs (PySem.W.isNs_of_in KI hok)) (PySem.W.nsMap_none_of_in KI hok hni) (PySem.W.tail_of_in KI ht)
 ·exact zqb q
noncomputable def zpC (C:Addr)(E:XK)(t:TA):TS:=fun _ σ H=>t σ H fun vs H1=>vs.length≤1000∧E (.ref C) none H1
theorem zj8 {E:XK}{c:Str}{C:Addr}(R:Raises X E)(ex:Exc X.K X.mg c C)(hc:X.calm=true)(hg:Gl X c)(ha:PA X [e] t)(hd:autoParam ((c == ("__debug__" : Str))=false) zav._auto_1)
 (he:autoParam (starEach [e] X.env=(false,eval e X.env)::starEach [] X.env) zau._auto_1):PS X (.Raise (some (.Call (.Name c np) [e] [] cpos)) none pos) (zpC C E t):=by
 intro pins s σ H D I h
 refine zi3 (h:=X.base) I.mod.kin ex.exc fun tl N nm q bs hdct sn sub ab col dd k0 k1 k2 k3 k5 mN hC hN hni T => ?_
 refine wpAny_Raise_call_subU (C:=C) (nm:=nm) (q:=q) (N:=N) (bs:=bs) (bm:=tl) (hdct:=hdct) (sn:=sn) (sub:=sub) (ab:=ab) (col:=col) (dd:=dd) (k0:=k0) (k1:=k1) (k2:=k2) (k3:=k3) (k5:=k5)
  PySem.F.excBase_ValueError (by decide +kernel) PySem.F.excBase_ValueError (mN:=mN) (T.hasType PySem.F.excBase_ValueError.hasBase) (I.ok.hd hc) (by rw [he];rfl) hni (zcx I hg ex.mgc ⟨rfl,?_⟩ hd)
 have hA:=ha cpos pins s σ H _ I h
 rw [he] at hA ⊢
 refine Calls.evalArgs_plain (wpAny_mono hA (fun vs s2 ⟨ws,H2,I2,r2,hl,hE⟩ => ?_) fun _ _ y=>y)
 have lw:=r2.length
 refine ⟨rfl,zbs (by show vs.length≤1000;omega),I2.bk _ _ hC,hN.keeps I2.bk,T.keeps I2.bk,fun h' x hx=>R.new pins σ H2 s2 h' x C _ I2 hx hE⟩
end
end L2
namespace L2.DL
open PySem PySem.Spec PyProof.Rows
def zbk (c:Str)(f:FE):FS:=fun sd=>(f sd).bind fun _=>.ex c []
@[simp] theorem ev_raise (c:Str)(f:FE)(sd:SD):zbk c f sd=(f sd).bind fun _=>.ex c []:=rfl
section
variable {X:Cx}{E:XK}{m:Option Bool}{x:Str}{v e:Expr}{fv fe:FE}{p1 p2 np cpos pos:Pos}{k}
theorem zby {c:Str}{C:Addr}(R:Raises X E)(ex:Exc X.K X.mg c C)(hc:X.calm=true)(hg:Gl X c)(he:QE X E e fe)(hd:autoParam ((c == ("__debug__" : Str))=false) zav._auto_1)
 (hst:autoParam (starEach [e] X.env=(false,eval e X.env)::starEach [] X.env) zau._auto_1):QS X E m (.Raise (some (.Call (.Name c np) [e] [] cpos)) none pos) (zbk c fe) :=
 PS.weak (zj8 R ex hc hg (zaa he zaf hst) hd hst) fun T σ H zh=>by
  refine zc3b zh fun B F sd r n => ?_
  have n0:(zab fe dNil sd).need (fun ds=>ds.length=1∧XW X.K E B.F0 B.H0 c []) (XW X.K E F H):=by
   unfold zbk at n
   unfold zab dNil
   cases hf:fe sd with
   | ok d=>rw [hf] at n;exact ⟨rfl,n⟩
   | ex c' fs=>rw [hf] at n;exact XW.ext (n:XW X.K E B.F0 B.H0 c' fs) r.ext
   | no=>rw [hf] at n;exact n
  refine ⟨B,F,sd,r,n0.mono (fun ds n1 vs F1 H1 e1 i1 => ?_) fun _ _ q=>q⟩
  have:=i1.length
  exact ⟨by omega,n1.2 (.ref C) none F1 H1 (r.ext.trans e1) ⟨C,rfl,ex.ns,.inl rfl⟩⟩
end
end L2.DL
namespace L2
open PySem PySem.Spec PyProof.Rows
noncomputable def zeo (X:Cx)(pins:List (Addr×Obj))(σ : St)(E:XK)(e:Value)(s':Shared):Prop :=
 ∃ H' h₀ x C B,e=.ref x∧Inv X pins σ H' s'∧(∀ b u,X.s₀.heap.get? b=some u→b∉X.ex→∃ u',h₀.get? b=some u')∧(∀ p∈X.pn++pins,∃ u,h₀.get? p.1=some u)∧FlyAt X.stack h₀ H' x C B s'.heap∧E (.ref C) none H'
section
variable {X:Cx}{pins:List (Addr×Obj)}{σ : St}{H:Hp}{s:Shared}{E:XK}
theorem zfi {k:Nat}{f:Addr}{fd:FuncData}{ps:List Str}{sp:Sp}{Q:VK}{us:List Value}{vs:List V}(F:FnOk X.prog X.w X.K X.mg X.base (CXE X.prog X.w) k f fd ps sp)(hr:Room k X.A)(hb:zdb X.K fd ps [])
 (I:Inv X pins σ H s) (r:Vals vs us) (h:sp vs H Q E):wpAny (model X.prog X.w) X.A (call (.ref f) us) (EP X pins σ Q) (zeo X pins σ E) s:=by
 have hl:(us++[]).length=ps.length:=by rw [List.append_nil,← r.length];exact F.len _ _ _ _ h
 have hbb:=hb s us I.kIn hl
 rw [List.append_nil] at hbb
 refine wpAny_call (codeAny_mono (F.run X.A X.stack s H ⟨us,[]⟩ us vs Q E hr I.env0 hbb r h) fun r s' hq => ?_)
 cases r with
 | error e =>
  refine zc4a hq fun H' x C B zz=>zc0e zz fun h1 os bare un zz=>zc0c zz fun hok fl hE => ?_
  subst h1
  exact ⟨H',s.heap,x,C,B,rfl,I.call' (s':=s') (ch:=[]) os un hok bare (fun b z=>absurd z (by simp)),fun b u e hx=>I.base.there b u e hx,fun p hp=>⟨_,(I.pin p hp).1⟩,fl,hE⟩
 | ok fl =>
  cases fl with
  | ret u=>exact I.after hq
  | next=>exact False.elim hq
  | brk=>exact False.elim hq
  | cont=>exact False.elim hq
theorem zeN {name:Str}{k:Nat}{ps:List Str}{sp:Sp}{p pos:Pos}{e:Expr}{es:List Expr}{t:TA}{Q:VK}(c:zbg X.prog X.w X.K X.mg X.base name k ps sp)(hr:Room k X.A)(hg:Gl X name)(ha:PA X.nox (e::es) t)
 (hdb:(name == ("__debug__" : Str))=false) (he:starEach (e::es) X.env=(false,eval e X.env)::starEach es X.env) (hpl:(backTo pos (starEach es X.env)).any (·.1)=false)
 (I:Inv X pins σ H s) (h:t σ H fun vs H1=>sp vs H1 Q E):wpAny (model X.prog X.w) X.A (eval (.Call (.Name name p) (e::es) [] pos) X.env) (EP X pins σ Q) (zeo X pins σ E) s:=by
 refine zc2d c fun f fd F b hk hm => ?_
 refine wpAny_Call_Name_kw (zcx I hg hm ?_ hdb)
 refine PySem.W.callWith_K (h₀:=X.base) I.ok.mod.kin hk (wpAny_mono (ha pos pins s σ H _ (I.wish _) h) (fun us s1 ⟨vs,H1,I1,r,q⟩=>⟨I1.kIn,?_⟩) fun _ _ z=>z.elim) he hpl
 exact zfi F hr b I1.unwish r q
theorem Inv.flown {h₀ h' B:Heap}{x C t:Addr}(I:Inv X pins σ H s)(h0:∀ b u,X.s₀.heap.get? b=some u→b∉X.ex→∃ u',h₀.get? b=some u')(hp:∀ p∈X.pn++pins,∃ u,h₀.get? p.1=some u)
 (trk:∀ b o,s.heap.get? b=some o→(H b≠none∨((∃ u,h₀.get? b=some u)∧b∉frs X.stack))→B.get? b=some o) (fl:Heap.FlyingW B X.stack x (.ref C) (.ref t) h') (up:s.heap.UpToSlots h'):Inv X pins σ H { s with heap:=h' }:=by
 have nst:∀ b u,X.s₀.heap.get? b=some u→b∉X.fs→b∉frs X.stack:=fun b u e hb z=>by
  rcases List.mem_cons.mp (I.stkSub b z) with q|q
  ·exact absurd (Heap.lt_size e) (by rw [q];exact Nat.not_lt.mpr I.ok.above)
  ·exact hb q
 have slot:∀ b o,X.s₀.heap.get? b=some o→b∈X.fs→b∉X.ex→∃ sl,h'.get? b=some { o with slots:=sl }:=fun b o e hb hx=>by
  obtain ⟨sl,e1⟩:=I.base.slot b o e (I.ok.frf b hb) hb hx
  refine zc0b (I.ok.funs.mem hb) fun _ zz=>zc1b zz fun o' ho' hd => ?_
  rw [e] at ho'
  obtain rfl:=Option.some.inj ho'
  obtain ⟨sl',e2⟩:=up b _ e1 hd
  exact ⟨sl',e2⟩
 have cell:∀ c v,s.heap.IsCell c v→h'.IsCell c v:=fun c v zh=>by
  refine zc1b zh fun o ho hd => ?_
  obtain ⟨sl,e⟩:=up c o ho fun vs q=>by rw [hd] at q;cases q
  exact ⟨_,e,hd⟩
 refine zc1b (id I.loc) fun m hn hl => ?_
 refine ⟨I.ok,I.os,I.bare,⟨fun b o e n hb hx => ?_,fun b o e n hb hx=>slot b o e hb hx,fun b o e n hx=>I.base.free b o e n hx,fun b o e hx => ?_,I.base.tups,I.base.frzs,I.base.tbls⟩,⟨m,up.ns hn,fun i y v h1 h2 h3 => ?_⟩,fun y c e => ?_,I.free,I.freeC,fun p hpp => ?_,fun b u e => ?_,I.len⟩
 ·exact fl.1 b o (trk b o (I.base.keep b o e n hb hx) (.inr ⟨h0 b o e hx,nst b o e hb⟩))
 ·by_cases hb:b∈X.fs
  ·obtain ⟨sl,q⟩:=slot b o e hb hx
   exact ⟨_,q⟩
  ·obtain ⟨o',e'⟩:=I.base.there b o e hx
   exact ⟨o',fl.1 b o' (trk b o' e' (.inr ⟨h0 b o e hx,nst b o e hb⟩))⟩
 ·refine zc1b (hl i y v h1 h2 h3) fun u r l => ?_
  refine ⟨u,r,?_⟩
  rcases l with l|⟨k,c,e,z⟩
  ·exact .inl l
  ·exact .inr ⟨k,c,e,cell c _ z⟩
 ·obtain ⟨v,q⟩:=I.cell y c e
  exact ⟨v,cell c v q⟩
 ·refine zc0e (I.pin p hpp) fun q1 q2 q3 q4 q5 => ?_
  refine ⟨fl.1 _ _ (trk _ _ q1 (.inr ⟨hp p hpp,fun z => ?_⟩)),q2,q3,q4,q5⟩
  rcases List.mem_cons.mp (I.stkSub _ z) with q|q
  ·exact q3 q
  ·exact q4 q
 ·refine (I.hok b u e).stay (fun c v hc q=>fl.1 c v (trk c v q (.inl ?_))) (fun _ q=>q) fun _ _ q=>q
  rcases hc with z|z
  ·rw [z,e];simp
  ·rw [z];simp
abbrev Cx.inSuite (X:Cx)(x:Addr):Cx:={ X with A:=X.A.mark (some (.ref x)),calm:=false,xe:=fun _ _=>False }
theorem Inv.suite (I:Inv X pins σ H s)(x:Addr):Inv (X.inSuite x) pins σ H s :=
 ⟨⟨I.ok.mod,I.ok.kind,I.ok.glob,I.ok.blt,I.ok.above,I.ok.inj,I.ok.has,I.ok.cab,(fun z=>by exact zqb z),I.ok.frames,I.ok.stk,I.ok.exf,I.ok.bs,I.ok.bsz,I.ok.noex,I.ok.exfs,I.ok.funs,I.ok.frf⟩,I.os,I.bare,I.base,I.loc,I.cell,I.free,I.freeC,I.pin,I.hok,I.len⟩
theorem Inv.unsuite {x:Addr}(I:Inv (X.inSuite x) pins σ H s)(ok:X.Ok):Inv X pins σ H s:=⟨ok,I.os,I.bare,I.base,I.loc,I.cell,I.free,I.freeC,I.pin,I.hok,I.len⟩
theorem SP.unsuite {x:Addr}{D:Ends}{f:Flow}{s':Shared}(h:SP (X.inSuite x) pins D f s')(ok:X.Ok):SP X pins D f s':=by
 cases f with
 | next=>obtain ⟨σ',H',I,q⟩:=h;exact ⟨σ',H',I.unsuite ok,q⟩
 | brk=>obtain ⟨σ',H',I,q⟩:=h;exact ⟨σ',H',I.unsuite ok,q⟩
 | cont=>obtain ⟨σ',H',I,q⟩:=h;exact ⟨σ',H',I.unsuite ok,q⟩
 | ret u=>obtain ⟨v,σ',H',I,r,q⟩:=h;exact ⟨v,σ',H',I.unsuite ok,r,q⟩
end
end L2
namespace L2.DL
open PySem PySem.Spec PyProof.Rows
end L2.DL
namespace L2
open PySem PySem.Spec PyProof.Rows
theorem zbx {P:Program}{w:World}{K:PySem.W.Frag}{mg:Str→Option Value}{base:Heap}{N:List Str}{qual:Str}{scope:Scope}{f:Addr}{cd:Value}{A:Around}{outer:List Env}{s:Shared}{H:Hp}{E:XK} :
 PassesOwn (model (cxOf (CXE P w) P w K mg base N qual scope f cd A outer s H E).prog (cxOf (CXE P w) P w K mg base N qual scope f cd A outer s H E).w) (cxOf (CXE P w) P w K mg base N qual scope f cd A outer s H E).A (cxOf (CXE P w) P w K mg base N qual scope f cd A outer s H E).env (cxOf (CXE P w) P w K mg base N qual scope f cd A outer s H E).xe :=
 PassesOwn.leaving (Q₁:=fun e s''=>CXE P w outer H s E e s'')
end L2
namespace L2.DL
open PySem PySem.Spec PyProof.Rows
def zgg (g':D→D→Option D)(fc:FE)(sd:SD)(y:D):D→Res D
 | .bl true=>(fc sd).bind fun w=>.ofO (g' y w)
 | .bl false=>.ok (.bl false)
 | _=>.no
@[simp] theorem chainK_t (g':D→D→Option D)(fc:FE)(sd:SD)(y:D):zgg g' fc sd y (.bl true)=(fc sd).bind fun w=>.ofO (g' y w):=rfl
@[simp] theorem chainK_f (g':D→D→Option D)(fc:FE)(sd:SD)(y:D):zgg g' fc sd y (.bl false)=.ok (.bl false):=rfl
def zbN (g g':D→D→Option D)(fa fb fc:FE):FE:=fun sd=>(fa sd).bind fun x=>(fb sd).bind fun y=>(Res.ofO (g x y)).bind (zgg g' fc sd y)
@[simp] theorem ev_chain (g g':D→D→Option D)(fa fb fc:FE)(sd:SD):zbN g g' fa fb fc sd=(fa sd).bind fun x=>(fb sd).bind fun y=>(Res.ofO (g x y)).bind (zgg g' fc sd y):=rfl
section
variable {X:Cx}{E:XK}{a b c:Expr}{fa fb fc:FE}{g g':D→D→Option D}{pos:Pos}
theorem zkv {K:PySem.W.Frag}{σ : St}{H:Hp}{Q:VK}(h:tD K E (zbN g g' fa fb fc) σ H Q):zkQ (rD2 K g) (rD2 K g') (tD K E fa) (tD K E fb) (tD K E fc) σ H Q:=by
 obtain ⟨B,F,sd,r,n⟩:=h
 refine ⟨B,F,sd,r,(Res.need_bind n).mono (fun x n1 v F1 H1 e1 i1 => ?_) fun _ _ q=>q⟩
 refine ⟨B,F1,sd,r.step e1,(Res.need_bind n1).mono (fun y n2 w F2 H2 e2 i2 => ?_) fun _ _ q=>q.ext e1⟩
 obtain ⟨z,hz,n3⟩:=Res.need_ofO (Res.need_bind n2)
 refine ⟨F2,x,y,z,e2.fh,IsD.same e2.ff _ _ i1,i2,hz,fun v3 F3 H3 e3 i3 => ?_⟩
 cases z with
 | bl k =>
  refine ⟨k,IsD.bl_iff.mp i3,?_⟩
  cases k with
  | true =>
   rw [if_pos rfl]
   refine ⟨B,F3,sd,((r.step e1).step e2).step e3,(Res.need_bind n3).mono (fun u n4 v4 F4 H4 e4 i4 => ?_) fun _ _ q=>q.ext (e1.trans (e2.trans e3))⟩
   obtain ⟨z',hz',q⟩:=Res.need_ofO n4
   exact ⟨F4,y,u,z',e4.fh,IsD.same (e3.ff.trans e4.ff) _ _ i2,i4,hz',q.ext (e1.trans (e2.trans (e3.trans e4)))⟩
  | false =>
   rw [if_neg (by decide)]
   exact n3 _ F3 H3 (e1.trans (e2.trans e3)) (IsD.bl_iff.mpr rfl)
 | _=>exact n3.elim
end
end L2.DL
namespace L2.DL
open PySem PySem.Spec PyProof.Rows
noncomputable def delH (H:Hp)(l:Addr):Hp:=fun a=>if a=l then none else H a
theorem zet {H:Hp}{l:Addr}:Same (delH H l) H:=fun a o e=>by
 unfold delH at e
 split at e
 ·exact zqn e
 ·exact e
theorem zkl {F H:Hp}{l:Addr}(s:Same F H)(n:F l=none):Same F (delH H l):=fun a o e=>by
 have z:a≠l:=fun z=>by rw [z,n] at e;exact zqn e
 unfold delH
 rw [if_neg z]
 exact s _ _ e
theorem zhz {H:Hp}{l:Addr}:delH H l l=none:=by unfold delH;rw [if_pos rfl]
theorem zim {H:Hp}{l a:Addr}(h:a≠l):delH H l a=H a:=by unfold delH;rw [if_neg h]
def startO (n j:Nat)(ds:List D):SD:=match ds[j]? with
 | some d=>(zbc n ds).set j (some (.own false d))
 | none=>zbc n ds
theorem RS.startO {K:PySem.W.Frag}{F H:Hp}{N:List Str}{ds:List D}{vs:List V}{j:Nat}{d:D}{l:Addr}(s:Same F H)(hl:vs.length=ds.length)(hd:ds[j]? = some d)(hv:vs[j]? = some (.ref l))(hf:F l=none)(ho:zcI K F H l d)(h:∀ i e,i≠j→ds[i]? = some e→∃ v,vs[i]? = some v∧IsD K F e v) :
 RS K ⟨F,delH H l,fun _=>none⟩ F H (L2.DL.startO N.length j ds) (L2.start N vs):=by
 have es:L2.DL.startO N.length j ds=(zbc N.length ds).set j (some (.own false d)):=by unfold L2.DL.startO;rw [hd]
 rw [es]
 have hj:j<ds.length:=(List.getElem?_eq_some_iff.mp hd).1
 have key:∀ {i:Nat} {x:SV},(zbc N.length ds)[i]? = some (some x)→∃ d,ds[i]? = some d∧x=.val d:=fun {i x} q=>by
  unfold zbc at q
  by_cases hi:i<ds.length
  ·rw [List.getElem?_append_left (by rw [List.length_map];exact hi),List.getElem?_map,List.getElem?_eq_getElem hi] at q
   exact ⟨ds[i],List.getElem?_eq_getElem hi,(Option.some.inj (Option.some.inj q)).symm⟩
  ·rw [List.getElem?_append_right (by rw [List.length_map];omega),List.getElem?_replicate] at q
   split at q<;>(first|exact zqn q|cases q)
 have at_:∀ {i:Nat} {v:V},vs[i]? = some v→(L2.start N vs)[i]? = some (some v):=fun {i v} q=>by
  unfold L2.start
  rw [List.getElem?_append_left (by rw [List.length_map];exact (List.getElem?_eq_some_iff.mp q).1),List.getElem?_map,q]
  rfl
 refine ⟨⟨.refl _,s,zet,fun _ e _=>e⟩,by unfold zbc L2.start;simp [hl],fun {i d'} q => ?_,fun {i p d'} q => ?_,fun {i k p p' d' e l'} hne q q' => ?_⟩
 ·by_cases z:i=j
  ·subst z
   have:=(zaq q).1
   cases this
  ·rw [zak (Ne.symm z)] at q
   obtain ⟨d2,h1,h2⟩:=key q
   cases h2
   obtain ⟨v,v1,v2⟩:=h i _ z h1
   exact ⟨v,at_ v1,v2⟩
 ·by_cases z:i=j
  ·subst z
   have:=(zaq q).1
   cases this
   exact ⟨l,at_ hv,zhz,hf,ho,fun z=>by cases z⟩
  ·rw [zak (Ne.symm z)] at q
   obtain ⟨_,_,h2⟩:=key q
   cases h2
 ·by_cases z:i=j
  ·have z':k≠j:=fun e=>hne (z.trans e.symm)
   rw [zak (Ne.symm z')] at q'
   obtain ⟨_,_,h2⟩:=key q'
   cases h2
  ·rw [zak (Ne.symm z)] at q
   obtain ⟨_,_,h2⟩:=key q
   cases h2
theorem zbt {tg:Tg}{b:FS}{ds:List D}{sd:SD}(R:Res Out→Prop)(P:Nat→SD→Prop)(h0:P 0 sd)(he:∀ sd,P ds.length sd→R (.ok (.next sd)))
 (hs:∀ (i:Nat) (x:D) (sd:SD),ds[i]? = some x→P i sd→(∃ sd',(zb1 tg x sd).bind b=.ok (.next sd')∧P (i+1) sd')∨∃ c es,(zb1 tg x sd).bind b=.ex c es∧R (.ex c es)):R (forT tg b ds sd):=by
 have key:∀ (k i:Nat) (sd:SD),ds.length-i=k→i≤ds.length→P i sd→R (forT tg b (ds.drop i) sd):=by
  intro k
  induction k with
  | zero =>
   intro i sd e hi p
   have:i=ds.length:=by omega
   subst this
   rw [List.drop_length]
   exact he sd p
  | succ k ih =>
   intro i sd e hi p
   have hlt:i<ds.length:=by omega
   rw [List.drop_eq_getElem_cons hlt]
   unfold forT forD
   rcases hs i ds[i] sd (List.getElem?_eq_getElem hlt) p with ⟨sd',h1,h2⟩|⟨c,es,h1,h2⟩
   ·rw [h1];exact ih (i+1) sd' (by omega) hlt h2
   ·rw [h1];exact h2
 have:=key ds.length 0 sd (by omega) (Nat.zero_le _) h0
 rwa [List.drop_zero] at this
section
variable {X:Cx}{pos:Pos}
noncomputable def zf8:D→D→Option D
 | .lst a,.lst b=>if a.length+b.length≤sizeLine then some (.lst (a++b)) else none
 | _,_=>none
theorem zjj:OpDN X (binaryOp .Add) zf8:=OpR.weak zhe fun x y H Q zh=>by
 refine zc4a zh fun F d e z zz=>zc0e zz fun sF id ie hz q => ?_
 cases d with
 | lst a =>
  cases e with
  | lst b =>
   have hz:(if a.length+b.length≤sizeLine then some (D.lst (a++b)) else none)=some z:=hz
   split at hz
   ·rename_i hl
    obtain rfl:=Option.some.inj hz
    rw [IsD.lst_iff] at id ie
    refine zc2c id fun l xs zr2 h1 h2 => ?_
    obtain rfl:=zr2
    refine zc2c ie fun l' ys zr2 h3 h4 => ?_
    obtain rfl:=zr2
    have l1:=h2.length
    have l2:=h4.length
    exact ⟨l,l',xs,ys,rfl,rfl,h1.same sF,h3.same sF,by omega,fun p hp=>q p F _ (.keep sF hp _) hp (za8 sF hp) ⟨_,zam,h2.append h4⟩⟩
   ·exact zqn hz
  | _=>exact zqn hz
 | _=>exact zqn hz
end
end L2.DL
namespace L2
open PySem PySem.Spec PyProof.Rows
abbrev TB:=Ends→XK→St→Hp→Prop
def PB (X:Cx)(body:List Stmt)(t:TB):Prop :=
 ∀ (pins:List (Addr×Obj)) (s:Shared) (σ : St) (H:Hp) (D:Ends) (E:XK),Inv X pins σ H s→t D E σ H→wpAny (model X.prog X.w) X.A (execs body X.env) (SP X pins D) (zeo X pins σ E) s
section
variable {X:Cx}
theorem PB.weak {b:List Stmt}{t t':TB}(h:PB X b t)(w:∀ D E σ H,t' D E σ H→t D E σ H):PB X b t':=fun pins s σ H D E I q=>h pins s σ H D E I (w _ _ _ _ q)
theorem zl5 {name:Str}{k:Nat}{ps:List Str}{sp:Sp}{t:TA}{e:Expr}{es:List Expr}{p cpos apos:Pos}
 (cc:zbg X.prog X.w X.K X.mg X.base name k ps sp) (hr:Room k X.A) (hg:Gl X name) (ha:PA X.nox (e::es) t)
 (hdb:autoParam ((name == ("__debug__" : Str))=false) zav._auto_1) (he:starEach (e::es) X.env=(false,eval e X.env)::starEach es X.env:=by rfl) (hpl:(backTo cpos (starEach es X.env)).any (·.1)=false:=by rfl)
 (hsw:autoParam (swapsWith (.Call (.Name name p) (e::es) [] cpos) none apos.line X.env=pure false) zau._auto_1) :
 PB X [.Expr (.Call (.Name name p) (e::es) [] cpos) apos] (fun D E σ H=>t σ H fun vs H1=>sp vs H1 (fun _ H2=>D.nx σ H2) E):=by
 intro pins s σ H D E I h
 refine wpAny_execs_cons (wpAny_Expr_any (wpAny_mono (zeN (Q:=fun _ H2=>D.nx σ H2) (E:=E) cc hr hg ha hdb he hpl I h) (fun v s1 q => ?_) fun e s1 fl=>fl) I.quiet hsw)
 refine zc2c q fun z H1 I1 r1 q1 => ?_
 exact wpAny_execs_nil ⟨_,H1,I1,q1⟩
end
end L2
namespace L2.DL
open PySem PySem.Spec PyProof.Rows
def tDB (K:PySem.W.Frag)(m:Option Bool)(g:FS):TB:=fun D E σ H => ∃ B F sd,RS K B F H sd σ ∧ (g sd).need (zdl K m B F D) (XW K E F H)
abbrev QB (X:Cx)(m:Option Bool)(body:List Stmt)(g:FS):Prop:=PB X body (tDB X.K m g)
def zgp (Fn:List D→Res D)(fr:FA):FE:=fun sd=>(fr sd).strict.bind Fn
@[simp] theorem ev_callS (Fn:List D→Res D)(fr:FA)(sd:SD):zgp Fn fr sd=(fr sd).strict.bind Fn:=rfl
section
variable {X:Cx}{m:Option Bool}
theorem zlk {name:Str}{k:Nat}{ps:List Str}{Fn:List D→Res D}{fr:FA}{e:Expr}{es:List Expr}{p cpos apos:Pos}
 (cc:zbg X.prog X.w X.K X.mg X.base name k ps (SpDX X.K Fn)) (hr:Room k X.A) (hg:Gl X name) (ha:QA X.nox E0 (e::es) fr)
 (hdb:autoParam ((name == ("__debug__" : Str))=false) zav._auto_1) (he:starEach (e::es) X.env=(false,eval e X.env)::starEach es X.env:=by rfl) (hpl:(backTo cpos (starEach es X.env)).any (·.1)=false:=by rfl)
 (hsw:autoParam (swapsWith (.Call (.Name name p) (e::es) [] cpos) none apos.line X.env=pure false) zau._auto_1) :
 QB X m [.Expr (.Call (.Name name p) (e::es) [] cpos) apos] (zdw (zgp Fn fr)) :=
 PB.weak (zl5 cc hr hg ha hdb he hpl hsw) fun T E σ H zh=>by
  refine zc3b zh fun B F sd r n => ?_
  refine ⟨B,F,sd,r,?_⟩
  unfold zdw zgp at n
  cases hf:fr sd with
  | ex c' fs=>rw [hf] at n;exact n.elim
  | no=>rw [hf] at n;exact n.elim
  | ok ds =>
   rw [hf] at n
   have n:((Fn ds).bind fun _=>Res.ok (Out.next sd)).need (zdl X.K m B F T) (XW X.K E F H):=n
   show OkA X.K F H _ ds
   intro vs F1 H1 e1 i1
   refine ⟨F1,ds,e1.fh,i1,?_⟩
   cases hq:Fn ds with
   | ok d =>
    rw [hq] at n
    exact fun v F2 H2 e2 i2=>n _ F2 H2 (e1.ff.trans e2.ff) ((r.step e1).step e2)
   | no=>rw [hq] at n;exact n.elim
   | ex c' fs =>
    rw [hq] at n
    have n:XW X.K E F H c' fs:=n
    exact n.ext e1
end
end L2.DL
namespace L2
open PySem PySem.Spec PyProof.Rows
noncomputable def zaY (K:PySem.W.Frag)(x:Str)(st:Stmt):Prop:=∃ f fd,PySem.W.nsIn K mainGlobals x=some (some (.ref f))∧Fun K x x st f fd
theorem zaY.callee {P:Program}{w:World}{K:PySem.W.Frag}{h base:Heap}{mg:Str→Option Value}{x:Str}{st:Stmt}{k:Nat}{ps:List Str}{sp:Sp}(X:K.In h)(G:h.Ns mainGlobals mg)(d:zaY K x st)
 (ok:∀ {f:Addr} {fd:FuncData},Fun K x x st f fd→FnOk P w K mg base CX0 k f fd ps sp)
 (hb:∀ (kV doc pm:Value) (an:Option Addr) (cdv ct:Value) (us:List Value),us.length=ps.length→bindArgs (PySem.W.fnOf x x (zcL st) (zbr st) (zah st) .none kV doc pm an cdv ct) ⟨us,[]⟩=pure (ps.zip us)):za2 P w K mg base x k ps sp:=by
 refine zc2b d fun f fd a F => ?_
 exact ⟨f,fd,ok F,F.binds hb,F.kp,PySem.W.mg_of X G a⟩
theorem zaY.calleeX {P:Program}{w:World}{K:PySem.W.Frag}{h base:Heap}{mg:Str→Option Value}{x:Str}{st:Stmt}{k:Nat}{ps:List Str}{sp:Sp}(X:K.In h)(G:h.Ns mainGlobals mg)(d:zaY K x st)
 (ok:∀ {f:Addr} {fd:FuncData},Fun K x x st f fd→FnOk P w K mg base (CXE P w) k f fd ps sp)
 (hb:∀ (kV doc pm:Value) (an:Option Addr) (cdv ct:Value) (us:List Value),us.length=ps.length→bindArgs (PySem.W.fnOf x x (zcL st) (zbr st) (zah st) .none kV doc pm an cdv ct) ⟨us,[]⟩=pure (ps.zip us)):zbg P w K mg base x k ps sp:=by
 refine zc2b d fun f fd a F => ?_
 exact ⟨f,fd,ok F,F.binds hb,F.kp,PySem.W.mg_of X G a⟩
end L2
namespace L2
open PySem PySem.Spec PyProof.Rows
section
variable {X:Cx}{pins:List (Addr×Obj)}{σ : St}{H:Hp}{s:Shared}
theorem Inv.track {x:Addr}{φ : Heap→Prop}(I:Inv X pins σ H s)(hx:H x=none)(h0:X.s₀.heap.get? x=none)(hl:x≠X.env.locals)(hc:∀ y c,X.env.cells.lookup y=some c→c≠x)(hp:∀ p∈X.pn++pins,p.1≠x)(ok:zbh X.prog X.w (upd H x (.ext φ)) s.heap x (.ext φ)):Inv X pins σ (upd H x (.ext φ)) s:=by
 have ne:∀ {b:Addr} {u:HO},H b=some u→b≠x:=fun {b u} e z=>by rw [z,hx] at e;exact zqn e
 refine ⟨I.ok,I.os,I.bare,⟨I.base.keep,I.base.slot,fun b o e n hxx => ?_,I.base.there,fun b xs e => ?_,fun b o u e => ?_,fun b ps e => ?_⟩,I.loc,I.cell,?_,fun y c e => ?_,fun p hpp => ?_,fun b u e => ?_,I.len⟩
 ·have z:b≠x:=fun z=>by rw [z,h0] at e;exact zqn e
  rw [zaj z];exact I.base.free b o e n hxx
 ·have q:=I.base.tups b xs e
  rw [zaj (ne q)];exact q
 ·have q:=I.base.frzs b o u e
  rw [zaj (ne q)];exact q
 ·obtain ⟨more,q⟩:=I.base.tbls b ps e
  exact ⟨more,by rw [zaj (ne q)];exact q⟩
 ·rw [zaj (Ne.symm hl)];exact I.free
 ·rw [zaj (hc y c e)];exact I.freeC y c e
 ·refine zc0e (I.pin p hpp) fun q1 q2 q3 q4 q5 => ?_
  exact ⟨q1,by rw [zaj (hp p hpp)];exact q2,q3,q4,q5⟩
 ·by_cases z:b=x
  ·subst z;rw [zam] at e;cases e;exact ok
  ·rw [zaj z] at e
   refine (I.hok b u e).stay (fun _ _ _ q=>q) (fun c q => ?_) fun c xs q => ?_
   ·rw [zaj (ne q)];exact q
   ·rw [zaj (ne q)];exact q
theorem zo9 {P:Program}{w:World}{H:Hp}{h:Heap}{C x:Addr}{o:Obj}(e:h.get? x=some o)(c:o.cls=.ref C):zbh P w H h x (DL.ExcO C x):=⟨⟨o,e,c⟩,⟨o,e⟩,(by rintro h1 h2 ⟨o,e,c⟩ k;exact ⟨o,k o e,c⟩)⟩
theorem Inv.gone {j:Nat}{n:Str}{h':Heap}{v:Option Value}{m:Str→Option Value}{t':Nat}(I:Inv X pins σ H s)(hN:X.N.Nodup)(hj:X.N[j]? = some n)(hm:s.heap.Ns X.env.locals m)(hloc:∀ (i:Nat) (x:Str) (v:V),X.N[i]? = some x → σ[i]? = some (some v)→Vis X.env.scope x→∃ u,RelV v u∧Look X.env s.heap m x u)
 (hn':h'.Ns X.env.locals (fun x=>if x=n then v else m x)) (hs:Heap.SameBut X.env.locals s.heap h'):Inv X pins (σ.set j none) H { s with heap:=h',toks:=t' }:=by
 refine zc3b (id hm) fun oL _ _ hoL _ => ?_
 have cne:=I.cne
 have hjσ : j < σ.length:=by rw [I.len];exact (List.getElem?_eq_some_iff.mp hj).1
 refine ⟨I.ok,I.os,I.bare,⟨fun b o e n hb hx => ?_,fun b o e n hb hx => ?_,I.base.free,fun b o e hx => ?_,I.base.tups,I.base.frzs,I.base.tbls⟩,⟨_,hn',fun i y v' e1 e2 e3 => ?_⟩,fun y c e => ?_,I.free,I.freeC,fun p hp => ?_,fun b ob e => ?_,by simpa using I.len⟩
 ·exact (hs.2 b (Nat.ne_of_lt (Nat.lt_of_lt_of_le (Heap.lt_size e) I.ok.above))).trans (I.base.keep b o e n hb hx)
 ·obtain ⟨sl,e1⟩:=I.base.slot b o e n hb hx
  exact ⟨sl,(hs.2 b (Nat.ne_of_lt (Nat.lt_of_lt_of_le (Heap.lt_size e) I.ok.above))).trans e1⟩
 ·obtain ⟨o',e1⟩:=I.base.there b o e hx
  exact ⟨o',(hs.2 b (Nat.ne_of_lt (Nat.lt_of_lt_of_le (Heap.lt_size e) I.ok.above))).trans e1⟩
 ·by_cases hij:i=j
  ·subst hij
   rw [List.getElem?_set_self hjσ] at e2
   cases e2
  ·rw [List.getElem?_set_ne (Ne.symm hij)] at e2
   refine zc1b (hloc i y v' e1 e2 e3) fun u' r' q => ?_
   refine ⟨u',r',?_⟩
   rcases q with ⟨k,e⟩|⟨k,c,e,z⟩
   ·refine .inl ⟨k,?_⟩
    have:y≠n:=fun e=>hij (zdX hN e1 (e ▸ hj))
    simp [this,e]
   ·exact .inr ⟨k,c,e,z.sameBut hs (cne y c e)⟩
 ·obtain ⟨w',z⟩:=I.cell y c e
  exact ⟨w',z.sameBut hs (cne y c e)⟩
 ·refine zc0e (I.pin p hp) fun e n ne nf d => ?_
  exact ⟨(hs.2 p.1 ne).trans e,n,ne,nf,d⟩
 ·refine (I.hok b ob e).stay (fun c w' hc q=>(hs.2 c ?_).trans q) (fun _ q=>q) fun _ _ q=>q
  rintro rfl
  rcases hc with z|hc
  ·rw [← z,I.free] at e;exact zqn e
  ·rw [I.free] at hc;exact zqn hc
noncomputable def zi0 (j:Nat)(D:Ends):Ends:={ nx:=fun σ H=>D.nx (σ.set j none) H,bk:=fun σ H=>D.bk (σ.set j none) H,ct:=fun σ H=>D.ct (σ.set j none) H,rt:=D.rt }
theorem zeg {M:Model}{A:Around}{E:Value→Shared→Prop}{nm q:Str}{C U N:Addr}{bs bm:List Value}{hdct:Bool}{sn:List Str}{sub:List Value}{ab:Bool}{col:Option Bool}{dd:Option Addr}{k0 k1 k2 k3 k5:Option Value}{newId:String}{h:Heap}{g:Array GenState}{d:Drawn}{t:Nat}{os:OsState}{e:Addr}{oe:Obj}{Q:Bool→Shared→Prop}
 (hU:h.get? U=some (excClassObj nm q U N bs bm hdct sn sub ab col dd k0 k1 k2 k3 k5 newId)) (he:h.get? e=some oe) (hcls:oe.cls=.ref C) (hbase:bm.contains (.type "BaseException")=true) (L4:PySem.W.Looks M h (isSubtype (.ref C) (.ref U)) true)
 (hq:Q true ⟨h,g,d,t,os⟩):wpAny M A (excMatches (.ref e) (.ref U)) Q E ⟨h,g,d,t,os⟩:=by
 have hcB:(Value.ref U::bm).contains (.type "BaseException")=true:=by rw [List.contains_cons,hbase,Bool.or_true]
 have f:=tc_notTuple
 unfold excMatches
 repeat (first|(with_reducible refine wpAny_loadPart_at he ?_;rw [hcls])|with_reducible refine wpAny_loadPart_at hU ?_|(with_reducible refine wpAny_isSubtype_exc hU ?_;rw [hcB])|with_reducible refine L4.at ?_|wp_step)
 exact hq
theorem zgW {Ex:Value→Shared→Prop}{c n:Str}{U:Addr}{j:Nat}{b₀:Stmt}{suite:List Stmt}{np hpos:Pos}{ts:TS}{D:Ends}{e:Value}(hst:X.stack=X.env::X.outer)(hfr:X.env.frame=some X.env.locals)(hex:X.ex=[])(ex:Exc X.K X.mg c U)(hg:Gl X c)
 (hN:X.N.Nodup) (hj:X.N[j]? = some n) (hk:X.env.scope.names.lookup n=some .local) (hs:∀ x,PSs (X.inSuite x) (b₀::suite) ts)
 (fl:zeo X pins σ (fun cv _ H2 => ∃ C,cv=.ref C∧PySem.W.subIn X.K (.ref C) (.ref U)=some true∧∀ x,H2 x=none→ts (zi0 j D) (σ.set j (some (.ref x))) (upd H2 x (DL.ExcO C x))) e s) (hd:(c == ("__debug__" : Str))=false) :
 wpAny (model X.prog X.w) X.A (noteFrame e X.env) (fun _ s₂=>wpAny (model X.prog X.w) X.A (setFlight e none) (fun _ s₃=>wpAny (model X.prog X.w) X.A (handleBy e X.env [.ExceptHandler (some (.Name c np)) (some n) (b₀::suite) hpos]) (SP X pins D) Ex s₃) Ex s₂) Ex s:=by
 refine zc4a fl fun H' h₀ x C' zz=>zc1a zz fun B zz=>zc0e zz fun zr5 I h0 hp zz=>zc0b zz fun zr9 zz=>zc1c zz fun C hC' up hts => ?_
 obtain rfl:=zr5
 obtain ⟨⟨t,fly⟩,trk⟩:=zr9
 cases hC'
 have fly':=fly
 rw [hst] at fly'
 refine wpAny_looks_onW (I.ok.frames.trans (by rw [hst])) hfr fly' fun h₄ held₄ up₄ => ?_
 refine wpAny_landsW held₄ fun h₅ fl₅ up₅ => ?_
 have fl5:=fl₅
 rw [← hst] at fl5
 have up5:=up₄.trans up₅
 have I5:=I.flown h0 hp trk fl5 up5
 refine wpAny_handleBy_cons (codeAny_handlers_test (zcx (X:=X.inSuite x) (I5.suite x) hg ex.mgc ?_ hd)) (by intro q;cases q)
 refine zi3 (h:=h₅) I5.kIn ex.exc fun tl N nm q bs hdct sn sub ab col dd k0 k1 k2 k3 k5 mN hC hN' hni T => ?_
 obtain ⟨ob,hob,hobc⟩:=fl₅.there
 have L4:PySem.W.Looks (model X.prog X.w) h₅ (isSubtype (.ref C') (.ref U)) true:=PySem.W.looks_subIn I5.kIn up
 have hbase:tl.contains (.type "BaseException")=true:=T.hasType PySem.F.excBase_ValueError.hasBase
 refine zeg hC hob hobc hbase L4 (codeAny_handlers_suite_as ?_)
 refine lands_againW fl₅ fun h₆ fl₆ up₆ => ?_
 rw [← hst] at fl₆
 have up6:=up5.trans up₆
 have I6:=I.flown h0 hp trk fl₆ up6
 have bx:B.get? x=none:=fly.2.1
 refine zc1b fly.there fun o0 ho0 _ => ?_
 have fr6:=fl₆.2.2.1
 obtain ⟨oe,vs,_,_,_,he,⟨hcls,_⟩,hdat,_⟩:=id fl₆.2.2.2
 have hxH:H' x=none:=by
  cases z:H' x with
  | none=>rfl
  | some u =>
   rw [trk x o0 ho0 (.inl (by rw [z];simp))] at bx
   cases bx
 have nfr:x∉frs X.stack:=fun z=>by
  obtain ⟨_,o,ho,hdd⟩:=fr6.mem z
  rw [he] at ho
  obtain rfl:=Option.some.inj ho
  exact hdd vs hdat
 have nex:X.s₀.heap.get? x=none:=by
  cases z:X.s₀.heap.get? x with
  | none=>rfl
  | some o =>
   obtain ⟨u',hu'⟩:=h0 x o z (by rw [hex];simp)
   rw [trk x o0 ho0 (.inr ⟨⟨u',hu'⟩,nfr⟩)] at bx
   cases bx
 obtain ⟨m6,hm6,_⟩:=id I6.loc
 have nl:x≠X.env.locals:=fun z=>by
  obtain ⟨o,es,ep,ho,hd2,_⟩:=hm6
  have ho:h₆.get? X.env.locals=some o:=ho
  rw [← z,he] at ho
  obtain rfl:=Option.some.inj ho
  rw [hdat] at hd2
  cases hd2
 have nc:∀ y cc,X.env.cells.lookup y=some cc→cc≠x:=fun y cc e z=>by
  obtain ⟨v,o,ho,hd2⟩:=I6.cell y cc e
  have ho:h₆.get? cc=some o:=ho
  rw [z,he] at ho
  obtain rfl:=Option.some.inj ho
  rw [hdat] at hd2
  cases hd2
 have np:∀ p∈X.pn++pins,p.1≠x:=fun p hpp z=>by
  obtain ⟨q1,_⟩:=I.pin p hpp
  have h1:=hp p hpp
  rw [z] at q1 h1
  rw [trk x _ q1 (.inr ⟨h1,nfr⟩)] at bx
  cases bx
 have I6t:Inv X pins σ (upd H' x (DL.ExcO C' x)) { s with heap:=h₆ }:=I6.track (φ := fun h => ∃ o,h.get? x=some o∧o.cls=.ref C') hxH nex nl nc np (zo9 he hcls)
 refine zc4 (X:=X.inSuite x) (I6t.suite x) hN hj (.inl hk) (v:=.ref x) (u:=.ref x) rfl (fun s7 I7 => ?_) (.inr hk)
 refine wpAny_mono (hs x pins _ _ _ (zi0 j D) I7 (hts x hxH)) (fun f s8 q => ?_) fun _ _ z=>z.elim
 have q:=q.unsuite I.ok
 have hcl:(X.env.scope.kind == .class||(X.env.scope.kind == .module&&X.env.locals != X.env.globals))=false:=by rw [I.ok.kind];rfl
 show wpAny (model X.prog X.w) X.A (do bindName X.env n .none;unbindBehindTheSuite X.env n hpos) (fun _ s₃=>SP X pins D f s₃) Ex s8
 cases f with
 | next =>
  obtain ⟨σ',H2,I8,q8⟩:=q
  obtain ⟨m,hm,hl⟩:=id I8.loc
  exact wpAny_nameGoes_keeps hk hm hcl fun h' v hn' hs'=>⟨σ'.set j none,H2,I8.gone hN hj hm hl hn' hs',q8⟩
 | brk =>
  obtain ⟨σ',H2,I8,q8⟩:=q
  obtain ⟨m,hm,hl⟩:=id I8.loc
  exact wpAny_nameGoes_keeps hk hm hcl fun h' v hn' hs'=>⟨σ'.set j none,H2,I8.gone hN hj hm hl hn' hs',q8⟩
 | cont =>
  obtain ⟨σ',H2,I8,q8⟩:=q
  obtain ⟨m,hm,hl⟩:=id I8.loc
  exact wpAny_nameGoes_keeps hk hm hcl fun h' v hn' hs'=>⟨σ'.set j none,H2,I8.gone hN hj hm hl hn' hs',q8⟩
 | ret u =>
  obtain ⟨v0,σ',H2,I8,r8,q8⟩:=q
  obtain ⟨m,hm,hl⟩:=id I8.loc
  exact wpAny_nameGoes_keeps hk hm hcl fun h' v hn' hs'=>⟨v0,σ'.set j none,H2,I8.gone hN hj hm hl hn' hs',r8,q8⟩
theorem zkk {c n:Str}{U:Addr}{j:Nat}{body:List Stmt}{tb:TB}{ts:TS}{b₀:Stmt}{suite:List Stmt}{np hpos pos:Pos}(hst:X.stack=X.env::X.outer)(hfr:X.env.frame=some X.env.locals)(hex:X.ex=[])(hb:PB X body tb)(ex:Exc X.K X.mg c U)(hgc:Gl X c)
 (hN:X.N.Nodup) (hj:X.N[j]? = some n) (hk:X.env.scope.names.lookup n=some .local) (hs:∀ x,PSs (X.inSuite x) (b₀::suite) ts) (hd:autoParam ((c == ("__debug__" : Str))=false) zav._auto_1) :
 PS X (.Try body [.ExceptHandler (some (.Name c np)) (some n) (b₀::suite) hpos] [] [] pos) (fun D σ H=>tb D (fun cv _ H2 => ∃ C,cv=.ref C∧PySem.W.subIn X.K (.ref C) (.ref U)=some true∧∀ x,H2 x=none→ts (zi0 j D) (σ.set j (some (.ref x))) (upd H2 x (DL.ExcO C x))) σ H):=by
 intro pins s σ H D I h
 rw [arm_exec_Try]
 refine wpAny_bind (wpAny_standAt (wpAny_tryStmt_except (wpAny_mono (hb pins s σ H D _ I h) (fun f s1 q => ?_) fun e s1 fl=>zgW hst hfr hex ex hgc hN hj hk hs fl hd)))
 cases f with
 | next=>exact wpAny_execs_nil q
 | ret v=>exact q
 | brk=>exact q
 | cont=>exact q
end
end L2
namespace L2.DL
open PySem PySem.Spec PyProof.Rows
noncomputable def zhs (j:Nat):Out→Out
 | .next sd=>.next (sd.set j none)
 | .brk sd=>.brk (sd.set j none)
 | .cont sd=>.cont (sd.set j none)
 | .ret d=>.ret d
@[simp] theorem zmI (j:Nat)(sd:SD):zhs j (.next sd)=.next (sd.set j none):=rfl
theorem RS.drop {K:PySem.W.Frag}{B:Bs}{F H:Hp}{sd:SD}{σ : St}(j:Nat)(r:RS K B F H sd σ):RS K B F H (sd.set j none) (σ.set j none):=by
 have get:∀ {i:Nat} {x:SV},(sd.set j none)[i]? = some (some x)→i≠j∧sd[i]? = some (some x):=fun {i x} q=>by
  by_cases z:i=j
  ·subst z
   have:=(zaq q).1
   cases this
  ·rw [zak (Ne.symm z)] at q
   exact ⟨z,q⟩
 refine ⟨r.ext,by rw [List.length_set,List.length_set];exact r.len,fun {i d} q => ?_,fun {i p d} q => ?_,fun {i k p p' d e l} hne q q' => ?_⟩
 ·obtain ⟨z,q⟩:=get q
  refine zc1b (r.val q) fun v h1 h2 => ?_
  exact ⟨v,by rw [zak (Ne.symm z)];exact h1,h2⟩
 ·obtain ⟨z,q⟩:=get q
  refine zc1b (r.own q) fun l h1 h2 => ?_
  exact ⟨l,by rw [zak (Ne.symm z)];exact h1,h2⟩
 ·obtain ⟨z,q⟩:=get q
  obtain ⟨z',q'⟩:=get q'
  rw [zak (Ne.symm z),zak (Ne.symm z')]
  exact r.apart hne q q'
def zfF (cs:List Str)(j:Nat)(gs:FS)(sd:SD):Res Out→Res Out
 | .ok o=>.ok o
 | .ex c [] => @ite _ (c∈cs) (Classical.propDecidable _) ((gs (sd.set j (some (.val (.exc c))))).strict.bind fun o=>.ok (zhs j o)) .no
 | _=>.no
theorem zhy {cs:List Str}{c:Str}(j:Nat)(gs:FS)(sd:SD)(h:c∈cs):zfF cs j gs sd (.ex c [])=(gs (sd.set j (some (.val (.exc c))))).strict.bind fun o=>.ok (zhs j o):=@if_pos _ (Classical.propDecidable _) h _ _ _
def zfQ (cs:List Str)(j:Nat)(g gs:FS):FS:=fun sd=>zfF cs j gs sd (g sd)
@[simp] theorem ev_tryAs (cs:List Str)(j:Nat)(g gs:FS)(sd:SD):zfQ cs j g gs sd=zfF cs j gs sd (g sd):=rfl
section
variable {X:Cx}{E:XK}{m:Option Bool}
theorem zkf {c n:Str}{U:Addr}{j:Nat}{cs:List Str}{body:List Stmt}{g gs:FS}{b₀:Stmt}{suite:List Stmt}{np hpos pos:Pos}(hst:X.stack=X.env::X.outer)(hfr:X.env.frame=some X.env.locals)(hex:X.ex=[])(hb:QB X m body g)(ex:Exc X.K X.mg c U)(hgc:Gl X c)
 (hN:X.N.Nodup) (hj:X.N[j]? = some n) (hk:X.env.scope.names.lookup n=some .local) (hs:∀ x,QSs (X.inSuite x) E0 m (b₀::suite) gs) (hc:∀ c'∈cs,∃ C,PySem.W.nsIn X.K mainGlobals c'=some (some (.ref C))∧PySem.W.subIn X.K (.ref C) (.ref U)=some true) (hd:autoParam ((c == ("__debug__" : Str))=false) zav._auto_1) :
 QS X E m (.Try body [.ExceptHandler (some (.Name c np)) (some n) (b₀::suite) hpos] [] [] pos) (zfQ cs j g gs) :=
 PS.weak (zkk (ts:=tDS X.K E0 m gs) hst hfr hex hb ex hgc hN hj hk hs hd) fun T σ H zh=>by
  refine zc3b zh fun B F sd r n => ?_
  refine ⟨B,F,sd,r,?_⟩
  unfold zfQ at n
  cases hq:g sd with
  | ok o=>rw [hq] at n;exact n
  | no=>rw [hq] at n;exact n.elim
  | ex c' fs =>
   rw [hq] at n
   cases fs with
   | cons d r=>exact n.elim
   | nil =>
    by_cases hm:c'∈cs
    ·rw [zhy j gs sd hm] at n
     rintro cv a F2 H2 e2 ⟨C',h1,h2,_⟩
     refine zc1b (hc c' hm) fun C hC hsub => ?_
     rw [hC] at h2
     cases h2
     refine ⟨C',h1,hsub,fun x hx => ?_⟩
     have ea:=Ext.alloc e2.fh hx (ExcO C' x)
     refine ⟨B,_,_,((r.step e2).step ea).setVal (IsD.exc_iff.mpr ⟨x,C',rfl,hC,zam⟩),?_⟩
     refine (Res.need_strict (Res.need_bind n)).mono (fun o q => ?_) fun _ _ q=>q
     have q:zdl X.K m B F T (zhs j o):=q
     cases o with
     | next sd'=>exact fun σ' F' H' sF r'=>q _ F' H' ((e2.ff.trans ea.ff).trans sF) (r'.drop j)
     | brk sd'=>exact fun σ' F' H' sF r'=>q _ F' H' ((e2.ff.trans ea.ff).trans sF) (r'.drop j)
     | cont sd'=>exact fun σ' F' H' sF r'=>q _ F' H' ((e2.ff.trans ea.ff).trans sF) (r'.drop j)
     | ret d=>exact q
    ·have n:(@ite _ (c'∈cs) (Classical.propDecidable _) ((gs (sd.set j (some (.val (.exc c'))))).strict.bind fun o=>.ok (zhs j o)) Res.no).need (zdl X.K m B F T) (XW X.K E B.F0 B.H0):=n
     rw [@if_neg _ (Classical.propDecidable _) hm] at n
     exact n.elim
end
end L2.DL
namespace L2
open PySem PySem.Spec PyProof.Rows
theorem zkw {prog:Program}{w:World}{A:Around}{E:Value→Shared→Prop}{s:Shared}{v:Value}{C:Addr}{T:String}{Q:Value→Shared→Prop}(hx:v ≠ .builtin "__main__.__loader__#opaque")(ht:PySem.W.Looks (model prog w) s.heap (typeOf v) (.ref C))(hsub:PySem.W.Looks (model prog w) s.heap (isSubtype (.ref C) (.type T)) true)
 (hty:typeOf (.type T)=pure (.type "type")) (h:Q (.bool true) s):wpAny (model prog w) A (call (.builtin "isinstance") [v,.type T]) Q E s:=by
 refine call_isinstance_of ?_ hx
 unfold Builtin.«isinstance.nested»
 refine wpAny_bind (m:=typeOf v) (ht.here ?_)
 rw [if_neg (fun q=>by cases beq_iff_eq.mp q)]
 refine wpAny_bind (m:=typeOf (.type T)) (wpAny_of_eq hty ?_)
 show wpAny _ _ (if (Value.type "type" == Value.type "type")=true then _ else _) _ _ s
 rw [if_pos (by decide)]
 refine wpAny_bind (wpAny_bind (m:=isType (.type T)) (wpAny_pure (a:=true) ?_))
 refine wpAny_bind (m:=isInstance v (.type T)) (PySem.W.Looks.here (PySem.W.Looks.andThen ht hsub) ?_)
 exact wpAny_pure (a:=true) (wpAny_pure h)
theorem zea:bootBuiltins "ValueError" = some (.type "ValueError"):=by decide +kernel
end L2
namespace L2.DL
open PySem PySem.Spec PyProof.Rows
noncomputable def zjK (cs:List Str):List D→Option D
 | [.exc c,.ucl u] => @ite _ (c=u) (Classical.propDecidable _) (some (.bl true)) none
 | [.exc c,.ty T] => @ite _ (T = "ValueError" ∧ c∈cs) (Classical.propDecidable _) (some (.bl true)) none
 | _=>none
theorem ziX {cs:List Str}{c:Str}(h:c∈cs):zjK cs [.exc c,.ty "ValueError"]=some (.bl true):=@if_pos _ (Classical.propDecidable _) ⟨rfl,h⟩ _ _ _
section
variable {X:Cx}{E:XK}
theorem zc7 {c:Str}{C:Addr}{pos:Pos}(ns:PySem.W.nsIn X.K mainGlobals c=some (some (.ref C)))(mgc:X.mg c=some (.ref C))(hg:Gl X c)(hd:autoParam ((c == ("__debug__" : Str))=false) zav._auto_1):QE X E (.Name c pos) (dC (.ucl c)) :=
 zc2 (v:=.ref C) (fun pins s σ H Q I h=>zcx I hg mgc ⟨.ref C,H,I,rfl,h⟩ hd) fun F=>IsD.ucl_iff.mpr ⟨C,rfl,ns⟩
noncomputable def IsiXP (cs:List Str)(ds:List D)(z:D):Prop:=z=.bl true∧((∃ c,ds=[.exc c,.ucl c])∨∃ c,c∈cs∧ds=[.exc c,.ty "ValueError"])
theorem zh6 {cs:List Str}{ds:List D}{z:D}(hz:zjK cs ds=some z):IsiXP cs ds z:=by
 cases ds with
 | nil=>exact zqn hz
 | cons d ds =>
  cases d with
  | exc c =>
   cases ds with
   | nil=>exact zqn hz
   | cons e ds =>
    cases e with
    | ucl u =>
     cases ds with
     | nil =>
      obtain ⟨rfl,rfl⟩:=zck (c:=c=u) hz
      exact ⟨rfl,.inl ⟨_,rfl⟩⟩
     | cons _ _=>exact zqn hz
    | ty T =>
     cases ds with
     | nil =>
      obtain ⟨⟨rfl,hm⟩,rfl⟩:=zck (c:=T = "ValueError" ∧ c∈cs) hz
      exact ⟨rfl,.inr ⟨_,hm,rfl⟩⟩
     | cons _ _=>exact zqn hz
    | _=>exact zqn hz
  | _=>exact zqn hz
theorem zpd {cs:List Str}(hv:∀ c∈cs,∀ C,PySem.W.nsIn X.K mainGlobals c=some (some (.ref C))→PySem.W.subIn X.K (.ref C) (.type "ValueError")=some true):zaJ X (.builtin "isinstance") (rDA X.K (zjK cs)):=by
 rintro pins s σ H xs us Q I r ⟨F,ds,z,sF,id,hz,q⟩
 have typ:∀ {a C:Addr},F a=some (ExcO C a)→∀ M,PySem.W.Looks M s.heap (typeOf (.ref a)) (.ref C):=fun {a C} h M=>by
  obtain ⟨⟨o,ho,hc⟩,_⟩:=I.hok a _ (sF _ _ h)
  rw [← hc]
  exact (PySem.W.Looks.ld (M:=M) ho).andThen .now
 obtain ⟨rfl,⟨c,rfl⟩|⟨c,hm,rfl⟩⟩:=zh6 hz
 ·refine zc2c (zgZ id) fun v1 v2 zr2 i1 i2 => ?_
  obtain rfl:=zr2
  refine zc2c r.two fun u1 u2 zr2 ra rb => ?_
  obtain rfl:=zr2
  refine zc2c (IsD.exc_iff.mp i1) fun a C zr2 hC hF => ?_
  obtain rfl:=zr2
  refine zc1b (IsD.ucl_iff.mp i2) fun C' zr1 hC' => ?_
  obtain rfl:=zr1
  rw [hC] at hC'
  cases hC'
  obtain rfl:u1=Value.ref a:=ra
  obtain rfl:u2=Value.ref C:=rb
  exact PySem.W.isi_call I.kIn (typ hF) (by unfold PySem.W.isIn;simp) (by intro e;cases e) ⟨.bl true,H,I,rfl,q _ F H (.refl sF) (IsD.bl_iff.mpr rfl)⟩
 ·refine zc2c (zgZ id) fun v1 v2 zr2 i1 i2 => ?_
  obtain rfl:=zr2
  refine zc2c r.two fun u1 u2 zr2 ra rb => ?_
  obtain rfl:=zr2
  refine zc2c (IsD.exc_iff.mp i1) fun a C zr2 hC hF => ?_
  obtain rfl:=zr2
  obtain rfl:=IsD.ty_iff.mp i2
  obtain rfl:u1=Value.ref a:=ra
  obtain rfl:u2=Value.type "ValueError" := rb
  exact zkw (by intro e;cases e) (typ hF _) (PySem.W.looks_subIn I.kIn (hv c hm C hC)) rfl ⟨.bl true,H,I,rfl,q _ F H (.refl sF) (IsD.bl_iff.mpr rfl)⟩
end
end L2.DL
namespace L2.DL
open PySem PySem.Spec PyProof.Rows
theorem ze0 {h:Heap}:∀ (a:List Bool) (us:List Value),Vals (a.map V.bl) us→∃ as,ReadsAll h us (a.map PyData.bool) as
 | [],us,r=>by cases r;exact ⟨_,.nil⟩
 | b::a,us,r=>by
  cases r with
  | cons r1 r2 =>
   obtain ⟨bs,rb⟩:=ze0 a _ r2
   obtain rfl:_=Value.bool b:=r1
   exact ⟨_,.cons (.bool b) rb⟩
theorem zhL:∀ (a:List Bool),PyData.canLayAll0 (a.map PyData.bool)=true∧PyData.depthAll (a.map PyData.bool)≤1
 | []=>by unfold PyData.canLayAll0 PyData.depthAll;exact ⟨rfl,Nat.zero_le _⟩
 | b::a=>by
  obtain ⟨h1,h2⟩:=zhL a
  rw [List.map_cons]
  unfold PyData.canLayAll0 PyData.depthAll
  rw [h1]
  refine ⟨by unfold PyData.canLay0;rfl,Nat.max_le.mpr ⟨?_,h2⟩⟩
  unfold PyData.depth
  exact Nat.zero_le _
theorem zis:∀ (a b:List Bool),PyData.eqvAll (a.map PyData.bool) (b.map PyData.bool)=(a == b)
 | [],[]=>by unfold PyData.eqvAll;rfl
 | [],_::_=>by rw [List.map_cons,List.map_nil];unfold PyData.eqvAll;rfl
 | _::_,[]=>by rw [List.map_cons,List.map_nil];unfold PyData.eqvAll;rfl
 | x::a,y::b=>by
  rw [List.map_cons,List.map_cons]
  unfold PyData.eqvAll
  rw [zis a b]
  unfold PyData.eqv
  rfl
def gEqB:D→D→Option D:=fun d e=>(zff d).bind fun a=>(zff e).bind fun b=>some (.bl (a == b))
theorem zjV (a b:List Bool):gEqB (.lst (a.map .bl)) (.lst (b.map .bl))=some (.bl (a == b)):=by unfold gEqB;rw [zd0,zd0];rfl
section
variable {X:Cx}
theorem zh9 {P:Program}{w:World}{K:PySem.W.Frag}{F H:Hp}{h:Heap}{d:D}{a:List Bool}{v:V}{u:Value}(ok:HOk P w H h)(sF:Same F H)(hd:zff d=some a)(i:IsD K F d v)(r:RelV v u):∃ as,Reads h u (.list (a.map PyData.bool)) as:=by
 refine zc1b (zfP hd i) fun l zr1 h2 => ?_
 obtain rfl:=zr1
 obtain rfl:u=Value.ref l:=r
 refine zc0b ((h2.same sF).ok ok) fun _ zz=>zc2b zz fun its n' rv e => ?_
 obtain ⟨as,ra⟩:=ze0 (h:=h) a its rv
 exact ⟨_,.list e rfl rfl (by simpa using ra)⟩
theorem zgf (a:List Bool):(PyData.list (a.map PyData.bool)).canLay0=true∧(PyData.list (a.map PyData.bool)).depth≤2:=by
 obtain ⟨h1,h2⟩:=zhL a
 unfold PyData.canLay0 PyData.depth
 exact ⟨h1,by omega⟩
theorem o_eqB (hu:X.A.units+64<cLine):OpD X (compareOp .Eq) gEqB:=by
 rintro pins s σ H x y v u Q I rx ry ⟨F,d,e,z,sF,id,ie,hz,q⟩
 obtain ⟨a,ha,hz⟩:=Option.bind_eq_some_iff.mp hz
 obtain ⟨b,hb,hz⟩:=Option.bind_eq_some_iff.mp hz
 obtain rfl:=Option.some.inj hz
 obtain ⟨as,ra⟩:=zh9 I.hok sF ha id rx
 obtain ⟨bs,rb⟩:=zh9 I.hok sF hb ie ry
 obtain ⟨l1,z1⟩:=zgf a
 obtain ⟨l2,z2⟩:=zgf b
 refine PySem.SeqAt.compareEq_reads ra rb l1 l2 (by omega) ?_
 have he:PyData.eqv (.list (a.map PyData.bool)) (.list (b.map PyData.bool))=(a == b):=by unfold PyData.eqv;exact zis a b
 rw [he]
 exact ⟨.bl _,H,I,rfl,q _ F H (.refl sF) (isB _ F)⟩
end
end L2.DL
namespace L2
open PySem PySem.Spec PyProof.Rows
noncomputable def Its (x:Str):It:=⟨fun i _=>i<x.cps.size,fun i H y H'=>H'=H∧∃ c,x.cps[i]? = some c∧y=.str ⟨#[c]⟩,fun i _=>x.cps.size≤i⟩
theorem zjz {P:Program}{w:World}{K:PySem.W.Frag}{tg:Expr}(it:Addr)(x:Str)(t:Tok):Turn P w K tg (Its x) [it] it (fun i h=>h.IsStrIter it "str_ascii_iterator" x t i) where
 mem:=by simp
 obj:=fun i h st b hb=>by
  have e:b=it:=by simpa using hb
  subst e
  obtain ⟨o,ho,_,hd⟩:=st
  exact ⟨o,ho,fun v z=>by rw [hd] at z;cases z⟩
 keep:=fun i h h' st k=>let ⟨o,ho,r⟩:=st;⟨o,k it (by simp) o ho,r⟩
 item:=by
  intro X hP hw hK hc i pins s σ H E I hf st hg
  subst hP hw hK
  obtain ⟨f0,f1,f2,f3,f4,f5⟩:=hf it (by simp)
  have hg:i<x.cps.size:=hg
  refine wpAny_pyNext_ascii_item st (c:=x.cps[i]) (by simp [hg]) fun h' st' sb => ?_
  have I1:Inv X pins σ H { s with heap:=h',toks:=s.toks+1 }:=I.turned (fun b o hb e=>(sb.2 b hb).trans e) f0 f1 f3 f4 f5
  obtain ⟨o,e,c,d⟩:=id st'
  exact ⟨_,rfl,zkx (s:={ s with heap:=h',toks:=s.toks+1 }) e c d (by decide) ⟨.str ⟨#[x.cps[i]]⟩,H,I1,⟨_,rfl⟩,⟨rfl,_,by simp [hg],rfl⟩,st',fun b hb=>(hf b hb).1⟩⟩
 done:=by
  intro X hP hw hK hc i pins s σ H E I hf st hg
  subst hP hw hK
  obtain ⟨f0,f1,f2,f3,f4,f5⟩:=hf it (by simp)
  have hg:x.cps.size≤i:=hg
  exact wpAny_pyNext_ascii_end (I.ok.hd hc) st (by simp [hg]) fun h' eb=>⟨rfl,I.turned (t':=s.toks) (fun b o hb e=>eb b o hb e) f0 f1 f3 f4 f5⟩
 self:=fun _ _ _ _ _ st h=>wpAny_pyIter_striter_ascii st h
section
variable {X:Cx}{tg:Expr}
def iStrT (tl:TE):TI:=fun σ H R=>tl σ H fun y H1 => ∃ x,y=.str x∧x.cps.all (· < 128)=true∧R (Its x) H1
theorem znf {l:Expr}{tl:TE}(hl:PE X l tl):PI X tg l (iStrT tl):=by
 intro pins s σ H R I h
 refine thn (hl pins s σ H _ I h) fun v s1 zh => ?_
 obtain ⟨y,H1,I1,r1,q1⟩:=zh
 obtain ⟨x,rfl,ha,q⟩:=q1
 obtain ⟨t,rfl⟩:=r1
 refine wpAny_pyIter_ascii ha ?_
 refine ⟨s1.heap.objs.size,[s1.heap.objs.size],_,_,H1,rfl,I1.kept (t':=s1.toks) fun b o e=>Heap.get?_push_of_some _ e,zjz _ x t,⟨_,Heap.get?_push_size _ rfl,rfl,rfl⟩,fun b hb => ?_,q⟩
 have e:b=s1.heap.objs.size:=by simpa using hb
 subst e
 exact I1.fpOk (Nat.le_refl _) (I1.hok.fresh (Nat.le_refl _))
theorem zoF (hu:X.A.units+64<cLine)(neg:Bool):OpR X (compareOp (if neg then .NotIn else .In)) (fun x y H Q => ∃ (d:DL.D) (ws:List Str) (p:Addr),DL.IsD X.K H d x∧DL.plN 12 d=true∧(ws.map DL.D.str).all (DL.plN 12)=true∧y=.ref p∧SqT X.K H p (ws.map V.str) ∧
 Q (.bl (if neg then !(ws.map DL.D.str).any (fun e=>DL.sameD e d) else (ws.map DL.D.str).any fun e=>DL.sameD e d)) H):=by
 rintro pins s σ H x y v u Q I rx ry ⟨d,ws,p,id,hp,hw,hy,hq,q⟩
 subst hy
 obtain rfl:u=Value.ref p:=ry
 obtain ⟨its,ri,pl,hl⟩:=I.tuple hq
 have iw:∀ ws:List Str,DL.IsDs X.K H (ws.map DL.D.str) (ws.map V.str):=fun ws=>by
  induction ws with
  | nil=>exact .nil
  | cons w ws ih=>exact .mk (DL.IsD.str_iff.mpr rfl) ih
 obtain ⟨k1,k2⟩:=DL.any_eq (A:=X.A.in1) (by show X.A.units+1+60<cLine;omega) I.hok hp id rx hw (iw ws) ri
 have ea:its.toArray.any (DL.eqTo X.K H d)=(ws.map DL.D.str).any (fun e=>DL.sameD e d):=by
  rw [show its.toArray.any (DL.eqTo X.K H d)=its.any (DL.eqTo X.K H d) by simp,DL.any_map',k1,← DL.any_map']
 cases neg with
 | true =>
  refine SeqAt.notIn_tupleAt (DL.eqTo X.K H d) pl (fun w hw=>k2 w (by simpa using hw)) ⟨.bl _,H,I,rfl,?_⟩
  rw [ea]
  exact q
 | false =>
  refine SeqAt.in_tupleAt (DL.eqTo X.K H d) pl (fun w hw=>k2 w (by simpa using hw)) ⟨.bl _,H,I,rfl,?_⟩
  rw [ea]
  exact q
end
end L2
namespace L2.DL
open PySem PySem.Spec PyProof.Rows
noncomputable def ascB (x:Str):Bool:=x.cps.all (· < 128)
noncomputable def chD (x:Str):List D:=x.cps.toList.map fun c=>.str ⟨#[c]⟩
def iStr (f:FE):FA:=fun sd=>(f sd).bind fun d=>match d with
 | .str x=>if ascB x=true then .ok (chD x) else .no
 | _=>.no
@[simp] theorem ev_iStr (f:FE)(sd:SD):iStr f sd=(f sd).bind fun d=>match d with
 | .str x=>if ascB x=true then .ok (chD x) else .no
 | _=>.no:=rfl
noncomputable def gInS (neg:Bool):D→D→Option D
 | .str c,.str x=>some (.bl (if neg then !(!(Builtin.Str.occurrences x c 0 x.length 1).isEmpty) else !(Builtin.Str.occurrences x c 0 x.length 1).isEmpty))
 | _,_=>none
theorem zee (neg:Bool)(c:Nat)(x:Str):gInS neg (.str ⟨#[c]⟩) (.str x)=some (.bl (if neg then !decide (c∈x.cps.toList) else decide (c∈x.cps.toList))):=by
 show some (D.bl (if neg then !(!(Builtin.Str.occurrences x ⟨#[c]⟩ 0 x.length 1).isEmpty) else !(Builtin.Str.occurrences x ⟨#[c]⟩ 0 x.length 1).isEmpty))=_
 rw [PySem.StrLaws.found_one]
noncomputable def gStr:List D→Option D
 | [.int i]=>if Nat.ble i.natAbs.log2 1900 then some (.str (toString i)) else none
 | _=>none
section
variable {X:Cx}{E:XK}{tg e a b:Expr}{fe fa fb:FE}{lo hi:Option Expr}{p2 pos p:Pos}
theorem zn1 (h:QE X E e fe):QI X E tg e (iStr fe):=PI.weak (znf h) fun σ H R zh=>by
 obtain ⟨B,F,sd,r,n⟩:=zh
 refine ⟨B,F,sd,r,(Res.need_bind n).mono (fun d n1 v F1 H1 e1 i1 => ?_) fun _ _ q=>q⟩
 cases d with
 | str x =>
  have n1:(if ascB x=true then Res.ok (chD x) else Res.no).need (fun ds => ∀ J F' H',Ext F H F' H'→Walk X.K F' J ds→R J H') (XW X.K E F H):=n1
  split at n1
  ·rename_i ha
   have ic:∀ l:List Nat,IsDs X.K F1 (l.map fun c=>D.str ⟨#[c]⟩) (l.map fun c=>V.str ⟨#[c]⟩):=fun l=>by
    induction l with
    | nil=>exact .nil
    | cons c l ih=>exact .mk (IsD.str_iff.mpr rfl) ih
   refine ⟨x,IsD.str_iff.mp i1,ha,n1 (Its x) F1 H1 e1 (zch (S:=fun _=>True) (xs:=x.cps.toList.map fun c=>V.str ⟨#[c]⟩) (ic _) (fun _ _ _ _=>trivial) (fun i H y _ hy => ?_) (fun i H _ hi => ?_) fun i H y H' _ hy => ?_)⟩
   ·have:=(List.getElem?_eq_some_iff.mp hy).1
    rw [List.length_map,Array.length_toList] at this
    exact this
   ·rw [List.length_map,Array.length_toList] at hi
    exact hi
   ·obtain ⟨h1,c,hc,h2⟩:=hy
    refine ⟨h1,?_⟩
    rw [List.getElem?_map,Array.getElem?_toList,hc,h2]
    rfl
  ·exact n1.elim
 | _=>exact n1.elim
theorem zns (neg:Bool):OpD X (compareOp (if neg then .NotIn else .In)) (gInS neg):=by
 rintro pins s σ H x y v u Q I rx ry ⟨F,d,e,z,sF,id,ie,hz,q⟩
 cases d with
 | str c =>
  cases e with
  | str t =>
   obtain rfl:=Option.some.inj hz
   have e1:=IsD.str_iff.mp id
   have e2:=IsD.str_iff.mp ie
   cases neg with
   | true=>exact zez pins s σ H x y v u Q I rx ry ⟨c,t,e1,e2,q _ F H (.refl sF) (isB _ F)⟩
   | false=>exact ziQ pins s σ H x y v u Q I rx ry ⟨c,t,e1,e2,q _ F H (.refl sF) (isB _ F)⟩
  | _=>exact zqn hz
 | _=>exact zqn hz
theorem zkX:OpD X (compareOp .In) (gInS false):=zns false
theorem zp6:OpD X (compareOp .NotIn) (gInS true):=zns true
theorem zdZ:zaJ X (.type "str") (rDA X.K gStr):=zaJ.weak zeH fun xs H Q zh=>by
 obtain ⟨F,ds,z,sF,id,hz,q⟩:=zh
 unfold gStr at hz
 split at hz
 ·rename_i i
  split at hz
  ·rename_i hl
   obtain rfl:=Option.some.inj hz
   obtain ⟨v1,r1,e1,i1,id⟩:=IsDs.cons_iff.mp id
   rw [IsDs.nil_iff] at id
   subst id e1
   exact ⟨i,by rw [IsD.int_iff.mp i1],Nat.lt_of_le_of_lt (Nat.ble_eq.mp hl) (by decide),q _ F H (.refl sF) (IsD.str_iff.mpr rfl)⟩
  ·exact zqn hz
 ·exact zqn hz
theorem zfe {x v:Str}{t:Tok}(hm:X.mg x=some (.str v t))(hg:Gl X x)(hd:autoParam ((x == ("__debug__" : Str))=false) zav._auto_1):QE X E (.Name x pos) (dC (.str v)):=zc2 (zhi (v:=.str v) hg hm ⟨t,rfl⟩ hd) fun F=>IsD.str_iff.mpr rfl
structure KTup (K:PySem.W.Frag)(mg:Str→Option Value)(x:Str)(ws:List Str):Prop where
 ex:∃ p,mg x=some (.ref p)∧∀ H,SqT K H p (ws.map V.str)
theorem zpE {K:PySem.W.Frag}{neg:Bool}{ws:List Str}{p:Addr}{σ : St}{H:Hp}{Q:VK}(hq:∀ H,SqT K H p (ws.map V.str))(h:tD K E (dOp (gIn neg) fa (dC (.tup (ws.map .str)))) σ H Q) :
 tOp (fun x y H Q => ∃ (d:D) (ws:List Str) (p:Addr),IsD K H d x∧plN 12 d=true∧(ws.map D.str).all (plN 12)=true∧y=.ref p∧SqT K H p (ws.map V.str) ∧
 Q (.bl (if neg then !(ws.map D.str).any (fun e=>sameD e d) else (ws.map D.str).any fun e=>sameD e d)) H) (tD K E fa) (tC (.ref p)) σ H Q:=by
 obtain ⟨B,F,sd,r,n⟩:=h
 refine ⟨B,F,sd,r,(Res.need_bind n).mono (fun x n1 v F1 H1 e1 i1 => ?_) fun _ _ q=>q⟩
 have n1:(Res.ofO (gIn neg x (.tup (ws.map .str)))).need (OkD K F H Q) (XW K E F H):=n1
 obtain ⟨z,hz,q⟩:=Res.need_ofO n1
 have hz:(if plN 12 x&&(ws.map D.str).all (plN 12) then some (D.bl (if neg then !(ws.map D.str).any (fun e=>sameD e x) else (ws.map D.str).any fun e=>sameD e x)) else none)=some z:=hz
 split at hz
 ·rename_i hp
  rw [Bool.and_eq_true] at hp
  obtain rfl:=Option.some.inj hz
  exact ⟨x,ws,p,IsD.same e1.fh _ _ i1,hp.1,hp.2,rfl,hq _,q _ F1 H1 e1 (IsD.bl_iff.mpr rfl)⟩
 ·exact zqn hz
theorem znJ {g:Str}{ws:List Str}(hu:X.A.units+64<cLine)(k:KTup X.K X.mg g ws)(hg:Gl X g)(ha:QE X E a fa)(hd:autoParam ((g == ("__debug__" : Str))=false) zav._auto_1):QT X E (.Compare a [.In] [.Name g p] pos) (zap (dOp (gIn false) fa (dC (.tup (ws.map .str))))):=by
 obtain ⟨q,hm,hs⟩:=k.ex
 exact PT.weak (zhM (zoF hu false) ha (zhi (v:=.ref q) hg hm rfl hd) rfl) fun σ H Q h=>zpE hs (zci h)
theorem zcm {c:Expr}{fc:FE}{g g':D→D→Option D}{op op':CmpOp}(ho:OpR X (compareOp op) (rD2 X.K g))(ho':OpR X (compareOp op') (rD2 X.K g'))(ha:QE X E a fa)(hb:QE X E b fb)(hc:QE X E c fc)
 (hm:lastMarks [op,op'] [b,c]=false:=by with_unfolding_all rfl):QT X E (.Compare a [op,op'] [b,c] pos) (zap (zbN g g' fa fb fc)):=PT.weak (zj3 ho ho' ha hb hc hm) fun _ _ _ h=>zkv (zci h)
end
end L2.DL
namespace L2.DL
open PySem PySem.Spec PyProof.Rows
structure ClsD (K:PySem.W.Frag)(mg:Str→Option Value)(c:Str)(C:Addr)(fs:List Str):Prop where
 ns:PySem.W.nsIn K mainGlobals c=some (some (.ref C))
 mgc:mg c=some (.ref C)
 cls:Cls K C
 no:∀ f∈fs,zcN K C f
noncomputable def fldD (f:Str):List Str→List D→Option D
 | g::gs,d::ds=>if g=f then some d else fldD f gs ds
 | _,_=>none
theorem zkU {K:PySem.W.Frag}{H:Hp}{f:Str}:∀ {fs:List Str} {ds:List D} {xs:List V} {d:D},IsDs K H ds xs→fs.length=xs.length→fldD f fs ds=some d→∃ x,(fs.zip xs).lookup f=some x∧IsD K H d x
 | [],ds,xs,d,_,_,h=>by unfold fldD at h;exact zqn h
 | g::gs,[],xs,d,i,l,h=>by
  rw [IsDs.nil_iff] at i
  subst i
  cases l
 | g::gs,e::ds,xs,d,i,l,h=>by
  obtain ⟨x,r,rfl,i1,i2⟩:=IsDs.cons_iff.mp i
  unfold fldD at h
  rw [List.zip_cons_cons]
  by_cases q:g=f
  ·rw [if_pos q] at h
   obtain rfl:=Option.some.inj h
   have hb:(f == g)=true:=beq_iff_eq.mpr q.symm
   exact ⟨x,by simp only [List.lookup,hb],i1⟩
  ·rw [if_neg q] at h
   obtain ⟨y,h1,h2⟩:=zkU (fs:=gs) i2 (by simpa using l) h
   have hb:(f == g)=false:=beq_eq_false_iff_ne.mpr fun z=>q z.symm
   exact ⟨y,by simp only [List.lookup,hb];exact h1,h2⟩
def gFld (c f:Str):D→Option D
 | .ins c' fs ds=>if c'=c then fldD f fs ds else none
 | _=>none
section
variable {X:Cx}{E:XK}{e:Expr}{fe:FE}{pos:Pos}
theorem zbP {c f:Str}{C:Addr}{fs:List Str}(k:ClsD X.K X.mg c C fs)(hf:f∈fs)(he:QE X E e fe)(hb:autoParam (attributeBase e f X.env (eval e X.env)=eval e X.env) zau._auto_1):QE X E (.Attribute e f pos) (dUn (gFld c f) fe):=PE.weak (znj he hb) fun σ H Q zh=>by
 obtain ⟨B,F,sd,r,n⟩:=zh
 refine ⟨B,F,sd,r,(Res.need_bind n).mono (fun d n1 v F1 H1 e1 i1 => ?_) fun _ _ q=>q⟩
 obtain ⟨z,hz,q⟩:=Res.need_ofO n1
 cases d with
 | ins c' gs ds =>
  have hw:(if c'=c then fldD f gs ds else none)=some z:=hz
  by_cases hc:c'=c
  ·rw [if_pos hc] at hw
   subst hc
   obtain ⟨a,C',dx,xs,rfl,hC,hH,hl,hi⟩:=IsD.ins_iff.mp i1
   rw [k.ns] at hC
   cases hC
   obtain ⟨x,h1,h2⟩:=zkU hi hl hw
   exact ⟨a,C,dx,_,x,rfl,e1.fh _ _ hH,k.cls,k.no f hf,h1,q _ F1 H1 e1 h2⟩
  ·rw [if_neg hc] at hw
   exact zqn hw
 | _=>exact zqn hz
end
theorem zfK (f:Str)(v:V):∀ fs:List (Str×V),f∉fs.map (·.1)→putF f v fs=fs++[(f,v)]
 | [],_=>rfl
 | (g,x)::r,h=>by
  rw [List.map_cons,List.mem_cons,not_or] at h
  show (if g=f then (g,v)::r else (g,x)::putF f v r)=_
  rw [if_neg (fun z=>h.1 z.symm),zfK f v r h.2]
  rfl
def tI (K:PySem.W.Frag)(c:Str)(names:List Str)(g:FA):TS:=fun T σ H => ∃ B F sd x C dx fs xs ds0,RS K B F H sd σ ∧ (∀ (i:Nat) (p:Bool) (d:D),sd[i]? ≠ some (some (SV.own p d))) ∧ σ[0]? = some (some (.ref x))∧B.H0 x=none∧F x=none∧PySem.W.nsIn K mainGlobals c=some (some (.ref C))∧H x=some (.ins C dx (fs.zip xs))∧fs.length=xs.length∧(fs++names).Nodup∧(fs++names).length<900∧IsDs K F ds0 xs ∧
 (g sd).need (fun ds => ∀ F' H' xs',Ext B.F0 B.H0 F' H'→F' x=none→H' x=some (.ins C dx ((fs++names).zip xs'))→(fs++names).length=xs'.length→IsDs K F' (ds0++ds) xs'→T.nx σ H') (XW K E0 B.F0 B.H0)
section
variable {X:Cx}{o e:Expr}{fe:FE}{g:FA}{pos pos':Pos}{ss:List Stmt}{c f:Str}{C:Addr}{fs names:List Str}
theorem zkR:PSs X [] (tI X.K c [] dNil):=PSs.weak zid fun T σ H zh=>by
 obtain ⟨B,F,sd,x,C,dx,fs,xs,ds0,r,no,h0,h1,h2,hC,hH,hl,hn,hm,hi,n⟩:=zh
 have n:∀ F' H' xs',Ext B.F0 B.H0 F' H'→F' x=none→H' x=some (.ins C dx ((fs++[]).zip xs'))→(fs++[]).length=xs'.length→IsDs X.K F' (ds0++[]) xs'→T.nx σ H':=n
 simp only [List.append_nil] at n
 exact n F H xs r.ext h2 hH hl hi
theorem zef (k:ClsD X.K X.mg c C fs)(hf:f∈fs)(ho:PE X o (tVar 0))(he:QE X E0 e fe)(hr:PSs X ss (tI X.K c names g))(hs:autoParam (swapsWith e (some (.Attribute o f pos')) pos.line X.env=pure false) zau._auto_1) :
 PSs X (.Assign [.Attribute o f pos'] e pos::ss) (tI X.K c (f::names) (zab fe g)):=PSs.weak (zgn (zpe ho he hs) hr) fun T σ H zh=>by
 obtain ⟨B,F,sd,x,C',dx,gs,xs,ds0,r,no,h0,h1,h2,hC,hH,hl,hn,hm,hi,n⟩:=zh
 refine ⟨B,F,sd,r,(Res.need_bind n).mono (fun d n1 v F1 H1 e1 i1 => ?_) fun _ _ q=>q.ext r.ext⟩
 have c1:C'=C:=by
  rw [k.ns] at hC
  cases hC
  rfl
 subst c1
 have hH1:=e1.hh _ _ hH
 have hF1:F1 x=none:=e1.new x h2 (by rw [hH];simp)
 have lz:(gs.zip xs).map (·.1)=gs:=by rw [List.map_fst_zip (by omega)]
 have hfn:f∉gs:=fun z=>by
  have:=(List.nodup_append.mp hn).2.2 f z f (List.mem_cons_self ..)
  exact this rfl
 have ll:(gs.zip xs).length<1000:=by
  rw [List.length_zip]
  simp at hm
  omega
 refine ⟨.ref x,h0,x,C',dx,_,rfl,hH1,k.cls,k.no f hf,ll,?_⟩
 rw [zfK f v _ (by rw [lz];exact hfn)]
 have ez:gs.zip xs++[(f,v)]=(gs++[f]).zip (xs++[v]):=by rw [List.zip_append hl];rfl
 rw [ez]
 have r1:=r.step e1
 have hi1:IsDs X.K F1 (ds0++[d]) (xs++[v]):=IsDs.snoc (IsDs.same e1.ff _ _ hi) i1
 refine ⟨B,F1,sd,x,C',dx,gs++[f],xs++[v],ds0++[d],⟨⟨r1.ext.ff,fun a o e => ?_,fun a o e => ?_,r1.ext.new⟩,r1.len,r1.val,fun q=>absurd q (no _ _ _),fun _ q _ _=>absurd q (no _ _ _)⟩,no,h0,h1,hF1,hC,zam,by simp [hl],by simpa using hn,by simpa using hm,hi1,(Res.need_bind n1).mono (fun ds n2 F2 H2 xs2 e2 f2 q1 q2 q3 => ?_) fun _ _ q=>q⟩
 ·rw [zaj (zaF e hF1)]
  exact r1.ext.fh _ _ e
 ·rw [zaj (zaF e h1)]
  exact r1.ext.hh _ _ e
 ·exact n2 F2 H2 xs2 e2 f2 (by simpa using q1) (by simpa using q2) (by simpa using q3)
end
def SpI (K:PySem.W.Frag)(c:Str)(names:List Str)(Fn:List D→Res (List D)):Sp:=fun vs H Q _ => ∃ F ds x C dx us,Same F H∧vs=.ref x::us∧IsDs K F ds us∧F x=none∧PySem.W.nsIn K mainGlobals c=some (some (.ref C))∧H x=some (.ins C dx []) ∧
 (Fn ds).need (fun es => ∀ F' H' xs,Ext F (delH H x) F' H'→F' x=none→H' x=some (.ins C dx (names.zip xs))→names.length=xs.length→IsDs K F' es xs→Q .non H') (XW K E0 F (delH H x))
def runI (n ar:Nat)(g:FA)(ds:List D):Res (List D):=if ds.length+1=ar then g (none::zbc (n-1) ds) else .no
theorem RS.startI {K:PySem.W.Frag}{F H:Hp}{N:List Str}{ds:List D}{us:List V}{x:Addr}(s:Same F H)(h:IsDs K F ds us) :
 RS K ⟨F,delH H x,fun _=>none⟩ F H (none::zbc N.length ds) (some (.ref x)::L2.start N us)∧∀ (i:Nat) (p:Bool) (d:D),(none::zbc N.length ds:SD)[i]? ≠ some (some (SV.own p d)):=by
 have r0:=RS.start (N:=N) s h
 have no:∀ (i:Nat) (p:Bool) (d:D),(none::zbc N.length ds:SD)[i]? ≠ some (some (SV.own p d)):=fun i p d q=>by
  cases i with
  | zero=>cases q
  | succ i =>
   obtain ⟨l,_,h2,_,h4,_⟩:=r0.own (i:=i) (p:=p) (d:=d) q
   obtain ⟨o,ho⟩:=h4.has
   have h2:H l=none:=h2
   rw [h2] at ho
   exact zqn ho
 refine ⟨⟨⟨.refl _,s,zet,fun _ e _=>e⟩,by simp [r0.len],fun {i d} q => ?_,fun q=>absurd q (no _ _ _),fun _ q _ _=>absurd q (no _ _ _)⟩,no⟩
 cases i with
 | zero=>cases q
 | succ i=>exact r0.val (i:=i) q
section
variable {P:Program}{w:World}{K:PySem.W.Frag}{mg:Str→Option Value}{base:Heap}{x qual:Str}{st:Stmt}{f:Addr}{fd:FuncData}{N ps:List Str}{k:Nat}
theorem fn_i {c y:Str}{names:List Str}{g:FA}(F:Fun K x qual st f fd)(S:FnScope (y::N) ps (zah st))(hn:names.Nodup)(hm:names.length<900)
 (hb:∀ (cdv:Value) (A:Around) (outer:List Env) (s:Shared) (H:Hp) (E:XK),Room k (A.deeper (envOfC qual (zah st) s.heap.objs.size f cdv))→PSs (cxOf CX0 P w K mg base (y::N) qual (zah st) f cdv A outer s H E).nox (zbr st) (tI K c names g)) :
 FnOk P w K mg base CX0 (k+1) f fd ps (SpI K c names (runI (y::N).length ps.length g)):=by
 refine F.ok S (fun vs H Q E ⟨F,ds,x,C,dx,us,_,e,i,_,_,_,n⟩ => ?_) fun cdv A outer s H vs Q E hr ⟨F,ds,x,C,dx,us,hs,e,i,hf,hC,hH,n⟩=>⟨_,hb cdv A outer s H E hr,?_⟩
 ·unfold runI at n
  split at n
  ·rename_i h
   rw [e,← h,List.length_cons,i.length]
  ·exact n.elim
 ·subst e
  unfold runI at n
  split at n
  ·have es:L2.start (y::N) (.ref x::us)=some (.ref x)::L2.start N us:=by
    unfold L2.start
    simp
   rw [es]
   obtain ⟨r,no⟩:=RS.startI (N:=N) (x:=x) hs i
   exact ⟨_,F,_,x,C,dx,[],[],[],r,no,rfl,zhz,hf,hC,hH,rfl,hn,hm,.nil,n⟩
  ·exact n.elim
end
def MkD (P:Program)(w:World)(K:PySem.W.Frag)(mg:Str→Option Value)(base:Heap)(c:Str)(names:List Str)(k:Nat)(ps:List Str)(Fn:List D→Res (List D)):Prop :=
 ∃ C f fd,ClsD K mg c C names∧Mk K C f∧FnOk P w K mg base CX0 k f fd ps (SpI K c names Fn)∧zdb K fd ps []
def ziY (c:Str)(names:List Str)(Fn:List D→Res (List D))(fa:FA):FE:=fun sd=>(fa sd).bind fun ds=>(Fn ds).bind fun es=>.ok (.ins c names es)
section
variable {X:Cx}{pos:Pos}
theorem zkZ {c:Str}{names:List Str}{k:Nat}{ps:List Str}{Fn:List D→Res (List D)}{p:Pos}{e:Expr}{es:List Expr}{fa:FA}(M:MkD X.prog X.w X.K X.mg X.base c names k ps Fn)(hr:Room (k+1) X.A)(hg:Gl X c)(ha:QA X E0 (e::es) fa)
 (hdb:autoParam ((c == ("__debug__" : Str))=false) zav._auto_1) (he:starEach (e::es) X.env=(false,eval e X.env)::starEach es X.env:=by rfl) (hpl:(backTo pos (starEach es X.env)).any (·.1)=false:=by rfl) :
 QN X E0 (.Call (.Name c p) (e::es) [] pos) (ziY c names Fn fa):=by
 obtain ⟨C,f,fd,kd,mk,F,b⟩:=M
 refine PE.weak (zlp mk F hr hg kd.mgc b .nil zoT ha hdb he hpl) fun σ H Q zh => ?_
 obtain ⟨B,F,sd,r,n⟩:=zh
 refine ⟨B,F,sd,r,(Res.need_bind n).mono (fun ds n1 vs F1 H1 e1 i1 x dx nx ndx ne => ?_) fun _ _ q=>q⟩
 have n2:=Res.need_bind n1
 have hF1:F1 x=none:=by
  cases q:F1 x with
  | none=>rfl
  | some o=>rw [e1.fh _ _ q] at nx;cases nx
 have hH0:H x=none:=by
  cases q:H x with
  | none=>rfl
  | some o=>rw [e1.hh _ _ q] at nx;cases nx
 have s1:∀ {G:Hp},Same G H1→Same G (delH (upd (upd H1 dx (.own x)) x (.ins C dx [])) x):=fun {G} s a o q=>by
  have q1:=s _ _ q
  rw [zim (zaF q1 nx),zaj (zaF q1 nx),zaj (zaF q1 ndx)]
  exact q1
 have s2:Same F1 (upd (upd H1 dx (.own x)) x (.ins C dx [])):=fun a o q=>by
  have q1:=e1.fh _ _ q
  rw [zaj (zaF q1 nx),zaj (zaF q1 ndx)]
  exact q1
 have ed:Ext F H F1 (delH (upd (upd H1 dx (.own x)) x (.ins C dx [])) x):=⟨e1.ff,s1 e1.fh,s1 e1.hh,e1.new⟩
 rw [List.append_nil]
 refine ⟨F1,ds,x,C,dx,vs,s2,rfl,i1,hF1,kd.ns,zam,n2.mono (fun es n3 F2 H2 xs e2 f2 h2 l2 i2=>⟨rfl,?_⟩) fun _ _ q=>q.ext ed⟩
 exact n3 x F2 H2 (ed.trans e2) hH0 f2 ⟨C,dx,xs,kd.ns,h2,l2,i2⟩
end
def zoJ (K:PySem.W.Frag)(c qual:Str)(fs:List Str)(st:Stmt):Prop:=∃ C fI fdI,PySem.W.nsIn K mainGlobals c=some (some (.ref C))∧Cls K C∧(∀ f∈fs,zcN K C f)∧Mk K C fI∧Fun K "__init__" qual st fI fdI
end L2.DL
namespace L2.DL
open PySem PySem.Spec PyProof.Rows
noncomputable def ziL (F F':Hp):Prop:=∀ a xs,F' a=some (.tup xs)→F a=some (.tup xs)
section
variable {K:PySem.W.Frag}{B:Bs}{F H F' H':Hp}{sd:SD}{σ : St}
theorem RS.frz1C {i:Nat}{p:Bool}{d:D}(r:RS K B F H sd σ)(hi:sd[i]? = some (some (.own p d))):∃ F',Same F F'∧ziL F F'∧RS K B F' H (sd.set i (some (.val d))) σ := by
 obtain ⟨l,hl,h0,hf,ho,_⟩:=r.own hi
 obtain ⟨o,e⟩:=ho.has
 have hil:i<sd.length:=(List.getElem?_eq_some_iff.mp hi).1
 have sF:Same F (upd F l o):=zbe hf o
 have nt:ziL F (upd F l o):=fun a xs q=>by
  by_cases z:a=l
  ·subst z
   rw [zam] at q
   obtain rfl:=Option.some.inj q
   cases d with
   | lst ds=>obtain ⟨_,h,_⟩:=ho;rw [e] at h;cases h
   | dct ks ds=>obtain ⟨_,h,_⟩:=ho;rw [e] at h;cases h
   | ins c fs ds=>obtain ⟨_,_,_,_,h,_⟩:=ho;rw [e] at h;cases h
   | _=>exact ho.elim
  ·rw [zaj z] at q
   exact q
 refine ⟨upd F l o,sF,nt,⟨r.ext.ff.trans sF,fun b u q => ?_,r.ext.hh,fun a q1 q2 => ?_⟩,by rw [List.length_set,r.len],fun {j x} q => ?_,fun {j p x} q => ?_,fun {j k p1 p2 d1 d2 m} n q1 q2 q3 => ?_⟩
 ·by_cases z:b=l
  ·subst z;rw [zam] at q;cases q;exact e
  ·rw [zaj z] at q;exact r.ext.fh _ _ q
 ·have z:a≠l:=fun z=>q2 (by rw [z];exact h0)
  rw [zaj z]
  exact r.ext.new a q1 q2
 ·by_cases z:i=j
  ·subst z
   obtain ⟨e1,_⟩:=zaq q
   cases e1
   exact ⟨_,hl,ho.frz e hf⟩
  ·rw [zak z] at q
   obtain ⟨v,v1,v2⟩:=r.val q
   exact ⟨v,v1,IsD.same sF _ _ v2⟩
 ·by_cases z:i=j
  ·subst z
   obtain ⟨e1,_⟩:=zaq q
   cases e1
  ·rw [zak z] at q
   obtain ⟨m,m1,m2,m3,m4,m5⟩:=r.own q
   have ne:m≠l:=fun e=>r.apart z hi q hl (by rw [← e];exact m1)
   exact ⟨m,m1,m2,by rw [zaj ne];exact m3,m4.ext sF fun u q'=>q',m5⟩
 ·have z1:i≠j:=fun z=>by subst z;obtain ⟨e1,_⟩:=zaq q1;cases e1
  have z2:i≠k:=fun z=>by subst z;obtain ⟨e1,_⟩:=zaq q2;cases e1
  rw [zak z1] at q1
  rw [zak z2] at q2
  exact r.apart n q1 q2 q3
theorem RS.frzC:∀ (is:List Nat) {F:Hp} {sd:SD},RS K B F H sd σ → ∃ F',Same F F'∧ziL F F'∧RS K B F' H (frzD is sd) σ
 | [],F,sd,r=>⟨F,.refl _,fun _ _ q=>q,r⟩
 | i::is,F,sd,r=>by
  unfold frzD
  split
  ·rename_i p d h
   obtain ⟨F1,s1,t1,r1⟩:=r.frz1C h
   obtain ⟨F2,s2,t2,r2⟩:=RS.frzC is r1
   exact ⟨F2,s1.trans s2,fun a xs q=>t1 a xs (t2 a xs q),r2⟩
  ·exact RS.frzC is r
def zj1:D→Bool
 | .tup ds=>ds.all zc3
 | d=>zc3 d
noncomputable def zdE (F H F2:Hp):Hp:=fun a=>match H a,F2 a with
 | none,some (.tup xs)=>some (.tup xs)
 | _,_=>F a
theorem IsDs.scals:∀ {ds:List D} {xs:List V},ds.all zc3=true→IsDs K F ds xs→IsDs K F' ds xs
 | [],xs,_,h=>by rw [IsDs.nil_iff] at h ⊢;exact h
 | d::ds,xs,s,h=>by
  obtain ⟨x,r,rfl,h1,h2⟩:=IsDs.cons_iff.mp h
  rw [List.all_cons,Bool.and_eq_true] at s
  exact IsDs.cons_iff.mpr ⟨x,r,rfl,h1.scal s.1,IsDs.scals s.2 h2⟩
theorem zi5 {F1 F2 H2:Hp}(s:Same F H)(s1:Same F F1)(e:Ext F1 H F2 H2):Ext F H (zdE F H F2) H2:=by
 refine ⟨fun a o q => ?_,fun a o q => ?_,e.hh,fun a q1 q2 => ?_⟩
 ·unfold zdE
  rw [s _ _ q]
  exact q
 ·unfold zdE at q
  split at q
  ·rename_i h1 h2
   obtain rfl:=Option.some.inj q
   exact e.fh _ _ h2
  ·exact e.hh _ _ (s _ _ q)
 ·unfold zdE
  cases h:H a with
  | none=>exact absurd h q2
  | some o=>exact q1
theorem zj7 {F1 F2 H2:Hp}(s:Same F H)(s1:Same F F1)(nt:ziL F F1)(e:Ext F1 H F2 H2){d:D}{v:V}(hd:zj1 d=true)(i:IsD K F2 d v):IsD K (zdE F H F2) d v:=by
 cases d with
 | tup ds =>
  obtain ⟨a,xs,rfl,h1,h2⟩:=IsD.tup_iff.mp i
  refine IsD.tup_iff.mpr ⟨a,xs,rfl,?_,IsDs.scals hd h2⟩
  have h1:F2 a=some (.tup xs):=h1
  show zdE F H F2 a=some (.tup xs)
  unfold zdE
  cases h:H a with
  | none=>rw [h1]
  | some o =>
   show F a=some (.tup xs)
   cases q:F1 a with
   | none=>rw [e.new a q (by rw [h];simp)] at h1;exact zqn h1
   | some u =>
    have:=e.ff _ _ q
    rw [h1] at this
    obtain rfl:=Option.some.inj this
    exact nt _ _ q
 | _=>exact i.scal hd
theorem zeG {F1 F2 H2:Hp}(s:Same F H)(s1:Same F F1)(nt:ziL F F1)(e:Ext F1 H F2 H2):∀ {ds:List D} {xs:List V},ds.all zj1=true→IsDs K F2 ds xs→IsDs K (zdE F H F2) ds xs
 | [],xs,_,h=>by rw [IsDs.nil_iff] at h ⊢;exact h
 | d::ds,xs,hd,h=>by
  obtain ⟨x,r,rfl,h1,h2⟩:=IsDs.cons_iff.mp h
  rw [List.all_cons,Bool.and_eq_true] at hd
  exact IsDs.cons_iff.mpr ⟨x,r,rfl,zj7 s s1 nt e hd.1 h1,zeG s s1 nt e hd.2 h2⟩
def zl1:D→Bool
 | .lst ds=>ds.all zj1
 | _=>false
def zfC (is:List Nat)(f:FE):FE:=fun sd=>(f (frzD is sd)).bare.bind fun d=>if zl1 d then .ok d else .no
theorem tmpN {fe:FE}{is:List Nat}{Q:VK}(h:tDN K E0 (zfC is fe) σ H Q):tDN K E0 fe σ H Q:=by
 obtain ⟨B,F,sd,r,n⟩:=h
 obtain ⟨F1,s1,nt,r1⟩:=r.frzC is
 refine ⟨B,F1,_,r1,(Res.need_bare r.ext.fh (Res.need_bind n)).mono (fun d n1 l F2 H2 e2 h1 h2 h3 => ?_) fun c fs q=>q⟩
 split at n1
 ·rename_i hs
  cases d with
  | lst ds =>
   obtain ⟨xs,g1,g2⟩:=h3
   refine n1 l (zdE F H F2) H2 (zi5 r.ext.fh s1 e2) h1 ?_ ⟨xs,g1,zeG r.ext.fh s1 nt e2 hs g2⟩
   unfold zdE
   rw [h1,h2]
   cases q:F l with
   | none=>rfl
   | some o=>rw [r.ext.fh _ _ q] at h1;cases h1
  | _=>exact zqb hs
 ·exact n1.elim
end
section
variable {X:Cx}{m:Option Bool}{tg iter elt c:Expr}{scope:Scope}{pos spos py:Pos}{y:Str}{iy:Nat}{t:Tg}{fi:FA}{fc:FT}{f:FE}
theorem zfp (is:List Nat)(N:List Str)(cap:List (Option Nat))(hNN:X.N.Nodup)(hiy:X.N[iy]? = some y)(hyy:Loc X.env.scope y)(hc:X.calm=true)(okB:zbp scope X.env N X.N cap=true)(hi:QI X E0 tg iter fi)
 (hg:∀ cl C s H ex,QG (za4 X scope N cl C s H ex) tg t) (he:∀ cl C s H ex,QE (za4 X scope N cl C s H ex) E0 elt f) (hsw:autoParam (swapsWith (.ListComp elt [⟨tg,iter,[],0⟩] scope pos) (some (.Name y py)) spos.line X.env=pure true) zau._auto_1)
 (hyf:X.fn y=true∨X.env.scope.names.lookup y=some .local:=by first|exact .inl rfl|exact .inr rfl) (hs:∀ x,foldedSetIterable iter X.env x=pure x:=by intro _;rfl) :
 QS X E0 m (.Assign [.Name y py] (.ListComp elt [⟨tg,iter,[],0⟩] scope pos) spos) (sOwn iy (zfC is (zb2 cap fi t f))):=by
 have hh:=zcH (g:=gT t X.K) (te:=tD X.K E0 f) hsw hNN hiy hyy hyf N cap hc okB hi hg he hs
 exact PS.weak hh fun T σ H h=>zf4 (fun _ _ _ q=>zcW (tmpN q)) h
theorem zeb (is:List Nat)(N:List Str)(cap:List (Option Nat))(hNN:X.N.Nodup)(hiy:X.N[iy]? = some y)(hyy:Loc X.env.scope y)(hc:X.calm=true)(okB:zbp scope X.env N X.N cap=true)(hi:QI X E0 tg iter fi)
 (hg:∀ cl C s H ex,QG (za4 X scope N cl C s H ex) tg t) (ht:∀ cl C s H ex,QT (za4 X scope N cl C s H ex) E0 c fc) (he:∀ cl C s H ex,QE (za4 X scope N cl C s H ex) E0 elt f) (hsw:autoParam (swapsWith (.ListComp elt [⟨tg,iter,[c],0⟩] scope pos) (some (.Name y py)) spos.line X.env=pure true) zau._auto_1)
 (hyf:X.fn y=true∨X.env.scope.names.lookup y=some .local:=by first|exact .inl rfl|exact .inr rfl) (hs:∀ x,foldedSetIterable iter X.env x=pure x:=by intro _;rfl) :
 QS X E0 m (.Assign [.Name y py] (.ListComp elt [⟨tg,iter,[c],0⟩] scope pos) spos) (sOwn iy (zfC is (zei cap fi t fc f))):=by
 have hh:=zeO (g:=gT t X.K) (tt:=tDT X.K E0 fc) (te:=tD X.K E0 f) hsw hNN hiy hyy hyf N cap hc okB hi hg ht he hs
 exact PS.weak hh fun T σ H h=>zf4 (fun _ _ _ q=>zgA (tmpN q)) h
end
abbrev FJ:=Str→SD→Res D
noncomputable def jNil:FJ:=fun acc _=>if acc.length≤sizeLine then .ok (.str acc) else .no
noncomputable def jCon (x:Str)(r:FJ):FJ:=fun acc sd=>if (acc++x).length≤sizeLine then r (acc++x) sd else .no
def jFv (g:D→Option Str)(fe:FE)(r:FJ):FJ:=fun acc sd=>(fe sd).bind fun d=>match g d with
 | some z=>if z.length≤sizeLine∧(acc++z).length≤sizeLine then r (acc++z) sd else .no
 | none=>.no
noncomputable def zcA:D→Option Str
 | .str x=>some (reprText x)
 | _=>none
noncomputable def QJ (X:Cx)(E:XK)(es:List Expr)(f:FJ):Prop:=∀ (pins:List (Addr×Obj)) (s:Shared) (σ : St) (H:Hp) (acc:Str) (Q:VK),Inv X pins σ H s→tD X.K E (f acc) σ H Q →
 Joins (model X.prog X.w) X.A X.xe (evalEach es X.env) acc (fun out s1=>out.length≤sizeLine∧EP X pins σ Q (.str out s1.toks) { s1 with toks:=s1.toks+1 }) s
section
variable {X:Cx}{E:XK}{es:List Expr}{e:Expr}{fe:FE}{r:FJ}{x:Str}{p p1 p2 pos:Pos}{k}
theorem zeR:QJ X E [] jNil:=fun pins s σ H acc Q I zh=>by
 obtain ⟨B,F,sd,r,n⟩:=zh
 unfold jNil at n
 split at n
 ·rename_i h
  exact ⟨h,.str acc,H,I.tok _,⟨_,rfl⟩,n _ F H (.refl r.ext.fh) (IsD.str_iff.mpr rfl)⟩
 ·exact n.elim
theorem zcQ (hr:QJ X E es r):QJ X E (.Constant (.str x) k p1::es) (jCon x r):=fun pins s σ H acc Q I zh=>by
 obtain ⟨B,F,sd,rs,n⟩:=zh
 unfold jCon at n
 split at n
 ·rename_i h
  show wpAny _ _ (eval (.Constant (.str x) k p1) X.env) _ _ s
  refine thn (zkP pins s σ H (fun y H1=>y=.str x∧H1=H) I ⟨rfl,rfl⟩) fun u s1 zh => ?_
  obtain ⟨y,H1,I1,r1,e1,e2⟩:=zh
  subst e1 e2
  obtain ⟨t1,rfl⟩:=r1
  exact ⟨x,t1,rfl,h,hr pins s1 σ H1 _ Q I1 ⟨B,F,sd,rs,n⟩⟩
 ·exact n.elim
theorem zdk (he:QE X E e fe)(hr:QJ X E es r):QJ X E (.FormattedValue e 114 none p2::es) (jFv zcA fe r):=fun pins s σ H acc Q I zh=>by
 obtain ⟨B,F,sd,rs,n⟩:=zh
 show wpAny _ _ (eval (.FormattedValue e 114 none p2) X.env) _ _ s
 refine wpAny_FormattedValue_repr (thn (he pins s σ H (fun y H1 => ∃ z:Str,y=.str z∧(reprText z).length≤sizeLine∧(acc++reprText z).length≤sizeLine∧tD X.K E (r (acc++reprText z)) σ H1 Q) I ⟨B,F,sd,rs,(Res.need_bind n).mono (fun d n1 y F1 H1 e1 i1 => ?_) fun _ _ q=>q⟩) fun u s1 ⟨y,H1,I1,r1,z,e1,l1,l2,q⟩ => ?_)
 ·cases d with
  | str z =>
   have n1:(if (reprText z).length≤sizeLine∧(acc++reprText z).length≤sizeLine then r (acc++reprText z) sd else .no).need (OkD X.K F H Q) (XW X.K E F H):=n1
   split at n1
   ·rename_i h
    exact ⟨z,IsD.str_iff.mp i1,h.1,h.2,B,F1,sd,rs.step e1,n1.mono (fun d q=>q.ext e1) fun _ _ q=>q.ext e1⟩
   ·exact n1.elim
  | _=>exact n1.elim
 ·subst e1
  obtain ⟨t1,rfl⟩:=r1
  refine wpAny_pyReprObj_str (wpAny_formatField_str ⟨_,_,rfl,l2,?_⟩ ⟨_,_,rfl,l2,?_⟩ l1) l1
  ·exact hr pins _ σ H1 _ Q (I1.tok _) q
  ·exact hr pins _ σ H1 _ Q ((I1.tok _).tok _) q
theorem zeF {a b:Expr}{f:FJ}(h:QJ X E (a::b::es) f):QE X E (.JoinedStr (a::b::es) pos) (f Str.empty):=fun pins s σ H Q I q=>wpAny_JoinedStr (h pins s σ H Str.empty Q I q)
end
end L2.DL
namespace L2
open PySem
theorem zba {N P:List Str}{sc:Scope}(a:autoParam (sc.kind=.function) zau._auto_1)(b:autoParam (sc.isCoroutine=false) zau._auto_1)(c:autoParam (sc.isGenerator=false) zau._auto_1)(d:N.Nodup:=by decide +kernel)(e:N.take P.length=P:=by rfl)
 (f:∀ x∈P,sc.names.lookup x=some .local∨sc.names.lookup x=some .cell:=by decide +kernel) (g:∀ y∈sc.names,y.2 ≠ .free:=by decide +kernel):FnScope N P sc:=⟨a,b,c,d,e,f,g⟩
theorem zb7 (N:List Str)(h:N.Nodup:=by decide +kernel):N.Nodup:=h
theorem pgn {X:Cx}{x:Str}{pos:Pos}(i:Nat)(hN:X.N.Nodup)(hi:autoParam (X.N[i]? = some x) zau._auto_1)(hx:Loc X.env.scope x:=by first|exact .inl rfl|exact .inr rfl)(hf:X.fn x=true∨X.env.scope.names.lookup x=some .local:=by first|exact .inl rfl|exact .inr rfl|assumption):PG X (.Name x pos) (zdG i):=zat hN hi hx hf
section
variable {p:List Value→Prop}
theorem us1 (h:∀ a,p [a]):∀ us:List Value,us.length=1→p us:=fun us e=>by
 obtain ⟨a,rfl⟩:=List.length_eq_one_iff.mp e
 exact h a
theorem us2 (h:∀ a b,p [a,b]):∀ us:List Value,us.length=2→p us:=fun us e=>by
 cases us with
 | nil=>exact absurd e (by decide)
 | cons a us=>exact us1 (p:=fun us=>p (a::us)) (fun b=>h a b) us (Nat.succ.inj e)
theorem us3 (h:∀ a b c,p [a,b,c]):∀ us:List Value,us.length=3→p us:=fun us e=>by
 cases us with
 | nil=>exact absurd e (by decide)
 | cons a us=>exact us2 (p:=fun us=>p (a::us)) (fun b c=>h a b c) us (Nat.succ.inj e)
theorem us4 (h:∀ a b c d,p [a,b,c,d]):∀ us:List Value,us.length=4→p us
 | [a,b,c,d],_=>h a b c d
theorem us5 (h:∀ a b c d e,p [a,b,c,d,e]):∀ us:List Value,us.length=5→p us
 | [a,b,c,d,e],_=>h a b c d e
end
end L2
namespace L2.DL
open PySem PySem.Spec PyProof.Rows
section
variable {X:Cx}{E:XK}{o e:Expr}{fo fa:FE}{apos cpos:Pos}
def ziU (fo fk:FE):FE:=fun sd=>(fo sd).bind fun d=>match d with
 | .dct ks ds=>(fk sd).bind fun k=>.ofO ((zb5 k).map fun q=>(valD ks ds q).getD .non)
 | _=>.no
@[simp] theorem ev_get1 (fo fk:FE)(sd:SD):ziU fo fk sd=(fo sd).bind fun d=>(znx d).bind fun o=>(fk sd).bind fun k=>.ofO ((zb5 k).map fun q=>(valD o.1 o.2 q).getD .non):=by
 unfold ziU
 cases fo sd with
 | ok d=>cases d<;>rfl
 | ex c fs=>rfl
 | no=>rfl
theorem znD (hu:X.A.units+1<cLine)(ho:QE X E o fo)(he:QE X E e fa)(mm:M1 X o "get" apos e cpos):QE X E (.Call (.Attribute o "get" apos) [e] [] cpos) (ziU fo fa):=PE.weak (zjx hu ho he mm) fun σ H Q zh=>by
 obtain ⟨B,F,sd,r,n⟩:=zh
 refine ⟨B,F,sd,r,(Res.need_bind n).mono (fun d n1 v F1 H1 e1 i1 => ?_) fun _ _ q=>q⟩
 cases d with
 | dct ks ds =>
  rw [IsD.dct_iff] at i1
  obtain ⟨p,xs,rfl,h1,h2,h3⟩:=i1
  have hp:=e1.fh _ _ h1
  refine ⟨p,rfl,.inl ⟨_,.inl hp⟩,B,F1,sd,r.step e1,(Res.need_bind n1).mono (fun k n2 w F2 H2 e2 i2 => ?_) fun _ _ q=>q.ext e1⟩
  obtain ⟨z,hz,q⟩:=Res.need_ofO n2
  obtain ⟨k',hk,hz⟩:=Option.map_eq_some_iff.mp hz
  subst hz
  obtain ⟨g1,g2⟩:=zdq k' h2 h3
  refine ⟨valV (ks.zip xs) k',?_,?_⟩
  ·rw [zcg hk i2]
   exact DGet.k (e2.hh _ _ hp)
  ·cases hv:valD ks ds k' with
   | none =>
    rw [hv] at q
    rw [g2 hv]
    exact q _ F2 H2 (e1.trans e2) (IsD.non_iff.mpr rfl)
   | some d =>
    rw [hv] at q
    obtain ⟨y,hy,iy⟩:=g1 d hv
    rw [hy]
    exact q _ F2 H2 (e1.trans e2) (IsD.same e2.ff _ _ iy)
 | _=>exact n1.elim
end
end L2.DL
namespace L2.ST
open PySem PySem.Spec PyProof.Rows
noncomputable def inK (k:Key)(D:List Key):Bool:=D.any fun x=>decide (x=k)
theorem inK_iff {k:Key}{D:List Key}:inK k D=true↔k∈D:=by
 unfold inK
 rw [List.any_eq_true]
 exact ⟨fun ⟨x,hx,e⟩=>by rw [← of_decide_eq_true e];exact hx,fun h=>⟨k,h,decide_eq_true rfl⟩⟩
def stepK (D:List Key)(k:Key):List Key:=if inK k D=true then D else D++[k]
def dedL (ks:List Key):List Key:=ks.foldl stepK []
theorem zhd (ks:List Key)(k:Key):dedL (ks++[k])=stepK (dedL ks) k:=by
 unfold dedL
 rw [List.foldl_append]
 rfl
theorem zcb (D:List Key)(k:Key):(stepK D k).length=if inK k D then D.length else D.length+1:=by
 unfold stepK
 cases h:inK k D
 ·rw [if_neg (by simp),if_neg (by simp),List.length_append];rfl
 ·rw [if_pos rfl,if_pos rfl]
theorem zhp (D:List Key)(k k':Key):inK k' (stepK D k)=(inK k' D||decide (k'=k)):=by
 unfold stepK
 by_cases h:inK k D=true
 ·rw [if_pos h]
  by_cases e:k'=k
  ·rw [e,h];rfl
  ·rw [decide_eq_false e,Bool.or_false]
 ·rw [if_neg h,Bool.eq_iff_iff,Bool.or_eq_true,inK_iff,inK_iff,decide_eq_true_eq,List.mem_append,List.mem_singleton]
theorem zeL:∀ (ks D:List Key),(ks.foldl stepK D).length≤D.length+ks.length
 | [],D=>Nat.le_refl _
 | k::ks,D=>by
  have h:=zeL ks (stepK D k)
  rw [zcb] at h
  rw [List.foldl_cons,List.length_cons]
  split at h<;>omega
theorem zfW (ks:List Key):(dedL ks).length≤ks.length:=by
 have:=zeL ks []
 rw [List.length_nil,Nat.zero_add] at this
 exact this
theorem zdf:∀ (ks D:List Key),(D++ks).Nodup→ks.foldl stepK D=D++ks
 | [],D,_=>(List.append_nil _).symm
 | k::ks,D,h=>by
  have hn:k∉D:=fun z=>by
   rw [List.nodup_append] at h
   exact h.2.2 k z k List.mem_cons_self rfl
  have e:stepK D k=D++[k]:=if_neg fun z=>hn (inK_iff.mp z)
  rw [List.foldl_cons,e,zdf ks (D++[k]) (by rw [List.append_assoc];exact h),List.append_assoc]
  rfl
theorem dedL_nodup {ks:List Key}(h:ks.Nodup):dedL ks=ks:=zdf ks [] h
theorem zk3 {k:Key}{v:Value}(h:zdJ k v=true):v.scannable=true:=by
 rcases zaK h with ⟨i,t,rfl,rfl⟩|⟨x,t,rfl,rfl⟩<;>rfl
abbrev HasK (prog:Program)(w:World)(h:Heap)(S:Addr)(D:List Key):Prop:=h.SetOf (zaN prog w) S (fun k=>inK k D) D.length
theorem HasK.congr {prog:Program}{w:World}{h:Heap}{S:Addr}{T:Key→Bool}{n:Nat}{D:List Key}(H:h.SetOf (zaN prog w) S T n)(e:∀ k,T k=inK k D)(en:n=D.length):HasK prog w h S D:=by
 have:T=fun k=>inK k D:=funext e
 subst this
 subst en
 exact H
section
variable {prog:Program}{w:World}{A:Around}{R:Result→Shared→Prop}{I:Addr}{fp wr:List Addr}{G:Array GenState→Array GenState→Prop}{n:Nat}{P:Nat→Value→Prop}{St:Nat→Shared→Prop}
theorem HasK.keep {hp hp':Heap}{S:Addr}{D:List Key}(H:HasK prog w hp S D)(k:∀ o,hp.get? S=some o→hp'.get? S=some o):HasK prog w hp' S D:=by
 obtain ⟨o,es,ep,t,ho,r⟩:=H
 exact ⟨o,es,ep,t,k _ ho,r⟩
theorem zhl {ks:List Key}(W:WalksS prog w A.in1 I fp wr G ks.length P St)(S:Addr)(hSf:S∉fp)
 (hval:∀ i v k,P i v→ks[i]? = some k→zdJ k v=true) (hn:ks.length≤999) :
 ∀ (k i:Nat) (s:Shared),ks.length-i=k→i≤ks.length→St i s→HasK prog w s.heap S (dedL (ks.take i)) →
  (∀ s',Moved (S::wr) G s s'→HasK prog w s'.heap S (dedL ks)→R (.ok (.ret .none)) s') →
  codeAny (model prog w) A (.builtin "set.update.loop" ⟨[.ref S,.ref I],[]⟩) R s:=by
 have hSw:S∉wr:=fun h=>hSf (W.sub _ h)
 have hsub:∀ b∈wr,b∈S::wr:=fun b hb=>List.mem_cons_of_mem _ hb
 intro k
 induction k with
 | zero =>
  intro i s hk hi hst H hR
  have hin:i=ks.length:=by omega
  subst hin
  rw [List.take_length] at H
  refine codeAny_builtin F.entry_set_update_loop ?_
  rw [Around.under_plainId F.plain_set_update_loop _]
  show wpAny _ A.in1 (pyNext (.ref I) >>= _) _ _ s
  refine wpAny_bind (W.done s _ _ hst fun s' hm => ?_)
  show wpAny _ A.in1 (ret Value.none) _ _ s'
  exact wpAny_pure (hR s' (hm.mono hsub) (H.keep fun o e=>hm.heap S _ hSw e))
 | succ k ih =>
  intro i s hk hi hst H hR
  have hlt:i<ks.length:=by omega
  have hki:ks[i]? = some ks[i]:=List.getElem?_eq_getElem hlt
  refine codeAny_builtin F.entry_set_update_loop ?_
  rw [Around.under_plainId F.plain_set_update_loop _]
  show wpAny _ A.in1 (pyNext (.ref I) >>= _) _ _ s
  refine wpAny_bind (W.item i s _ _ hlt hst fun v s' hP hst' hm => ?_)
  have hv:=hval i v _ hP hki
  have H':=H.keep (hp':=s'.heap) fun o e=>hm.heap S _ hSw e
  show wpAny _ A.in1 (holding [v] (setAdd S v) >>= _) _ _ s'
  refine wpAny_bind (wpAny_holding ?_)
  unfold setAdd
  refine wpAny_holding ?_
  refine wpAny_bind ((zaN prog w).pyHash (k:=ks[i]) hv ?_)
  have hl:=zfW (ks.take i)
  have ht:(ks.take i).length=i:=by rw [List.length_take];omega
  refine wpAny_setAddHashed_of (knd:=zaN prog w) (s:={ s' with toks:=s'.toks+1 }) hv (zk3 hv) H' (by unfold scanBound;omega) fun h' hsb H2 => ?_
  have e1:dedL (ks.take (i+1))=stepK (dedL (ks.take i)) ks[i]:=by
   rw [List.take_succ,hki]
   exact zhd _ _
  have H3:HasK prog w h' S (dedL (ks.take (i+1))):=by
   rw [e1]
   exact HasK.congr H2 (fun k'=>(zhp _ _ _).symm) (zcb _ _).symm
  refine wpAny_pure ⟨plainId_quiet F.plain_set_update_loop _,ih (i+1) _ (by omega) hlt (W.frame _ s' _ _ hst' (Nat.le_succ _) fun b hb o e => ?_) H3 fun s'' hm'' H'' => ?_⟩
  ·rw [hsb.2 b (fun h:b=S=>hSf (by rw [← h];exact hb))];exact e
  ·refine hR s'' (Moved.trans W.gtrans ((hm.mono hsub).then_heap (Nat.le_succ _) fun b o hb e => ?_) hm'') H''
   rw [hsb.2 b (fun h:b=S=>hb (by rw [h];exact List.mem_cons_self))];exact e
end
section
variable {prog:Program}{w:World}{A:Around}{E:Value→Shared→Prop}{s:Shared}
theorem zgL {hp:Heap}{S:Addr}{led:Bool}(ho:hp.get? S=some { cls:=.type "set",dict:=none,data:=.set #[] 0 (.fresh 0 0 led) }):HasK prog w hp S [] :=
 ⟨_,#[],0,_,ho,⟨rfl,rfl,rfl⟩,rfl,fun e he=>by simp at he,fun k=>by simp [inK],(by unfold scanBound;decide),rfl,rfl⟩
set_option maxRecDepth 100000 in
set_option maxHeartbeats 3200000 in
theorem zep {l:Addr}{items:Array Value}{ks:List Key}{Q:Value→Shared→Prop}(hh:A.handled=none)(hl:s.heap.IsList l items)(hsz:items.size=ks.length)
 (hval:∀ (i:Nat) (v:Value) (k:Key),items[i]? = some v→ks[i]? = some k→zdJ k v=true) (hn:ks.length≤999)
 (h:∀ (h':Heap) (tk:Nat),HasK prog w h' s.heap.objs.size (dedL ks)→(∀ b o,b<s.heap.objs.size→s.heap.get? b=some o→h'.get? b=some o)→Q (.ref s.heap.objs.size) { s with heap:=h',toks:=tk }) :
 wpAny (model prog w) A (call (.type "set") [.ref l]) Q E s:=by
 have cn:=fun A:Around=>zeQ (prog:=prog) (w:=w) (A:=A) (E:=E) (s:=s) (.ref l) (Q₁:=fun obj s₁=>obj=.ref s.heap.objs.size∧s₁={ s with heap:=s.heap.push { cls:=.type "set",dict:=none,data:=.set #[] 0 (.fresh 0 0 (ledW w)) } }) ⟨rfl,rfl⟩
 generalize ledW w=led at cn
 obtain ⟨c,tl,hmro⟩:=F.called_set.mro
 have hmade:=F.called_set.made
 have hsub:=F.called_set.sub
 refine wpAny_call (codeAny_of_tree ?_)
 show wpAny _ _ (callAny (.type "set") _) _ _ _
 refine wpAny_pure ⟨Code.quiet_builtin _ (by decide +kernel),codeAny_builtin F.entry_type_call ?_⟩
 rw [Around.under_plain (weight_type_call_type "set" [.ref l] []) rfl]
 have h1:=F.called_set.notType
 have h2:=F.called_set.canCreate
 have hct:=F.typeCall_set_1 (.ref l)
 repeat (any_goals (first|assumption|wp_step))
 refine codeAny_mono (cn _) fun r s₁ hr => ?_
 cases r with
 | error e=>exact hr
 | ok fl =>
  cases fl with
  | ret obj =>
   obtain ⟨rfl,rfl⟩:=hr
   generalize hno:({ cls:=.type "set",dict:=none,data:=.set #[] 0 (.fresh 0 0 led) }:Obj)=no at *
   have hS:(s.heap.push no).get? s.heap.objs.size=some no:=Heap.get?_push_size _ (by rw [← hno];rfl)
   have hT:Shared.TypeIs { s with heap:=s.heap.push no } (.ref s.heap.objs.size) "set" := ⟨_,hS,by rw [← hno]⟩
   have hli:=F.called_set.init.lookup
   have hbi:=F.called_set.init.bind (.ref s.heap.objs.size)
   repeat (any_goals (first|assumption|wp_step))
   refine codeAny_mono (codeAny_call_builtin (R:=wants (fun r s₂=>r=.none∧∃ h' tk,s₂={ s with heap:=h',toks:=tk }∧HasK prog w h' s.heap.objs.size (dedL ks) ∧
    (∀ b o,b<s.heap.objs.size→s.heap.get? b=some o→h'.get? b=some o)) E) F.called_set.init.plain F.entry_set_init (check_set_init_1 hT ?_)) fun r₂ s₂ hr₂ => ?_
   ·obtain ⟨ol,hol,hcl,nl,hdl⟩:=hl
    obtain ⟨ocls,odict,odata,oslots⟩:=ol
    simp only at hcl hdl
    subst hcl;subst hdl
    have hol':(s.heap.push no).get? l=some { cls:=.type "list",dict:=odict,data:=.seq items nl,slots:=oslots }:=Heap.get?_push_of_some _ hol
    have hsls:=F.sub_list_set
    have hslf:=F.sub_list_frozenset
    have hne:(Value.type "list" == Value.type "dict")=false:=by decide
    have hl1:(s.heap.push no).IsList l items:=⟨_,hol',rfl,nl,rfl⟩
    subst hno
    unfold Builtin.«set.__init__» noKeywords Builtin.Frozenset.updateFrom
    generalize hPI:pyIter=PI
    wp_walk
    subst hPI
    refine wpAny_pyIter_list hl1 ?_
    refine wpAny_bind (wpAny_runValue ?_)
    have hlS:l<s.heap.objs.size:=Heap.lt_size hol
    have hh3:A.in1.in1.in1.handled=none:=by simp [hh]
    generalize hno:({ cls:=.type "set",dict:=none,data:=.set #[] 0 (.fresh 0 0 led) }:Obj)=no at *
    have szp:(s.heap.push no).objs.size=s.heap.objs.size+1:=Heap.size_push ..
    have hneI:l≠(s.heap.push no).objs.size:=by rw [szp];exact Nat.ne_of_lt (Nat.lt_succ_of_lt hlS)
    have hSf:s.heap.objs.size ∉ [(s.heap.push no).objs.size,l]:=by
     simp only [List.mem_cons,List.not_mem_nil,or_false,not_or]
     exact ⟨by rw [szp];exact Nat.ne_of_lt (Nat.lt_succ_self _),Nat.ne_of_gt hlS⟩
    have W:=(Walks.list (prog:=prog) (w:=w) hh3 _ l hneI items).toS
    rw [hsz] at W
    refine zhl W s.heap.objs.size hSf (fun i v k hv hk=>hval i v k hv hk) hn (ks.length-0) 0 _ rfl (Nat.zero_le _)
     ⟨⟨_,Heap.get?_push_size _ rfl,rfl,rfl⟩,(hl1.push _)⟩ (zgL (by rw [hno];exact Heap.get?_push_of_some _ hS)) fun s' hm H' => ?_
    ·obtain ⟨h',g',d',tk',os'⟩:=s'
     have eg:g'=s.gens:=hm.gens
     have ed:d'=s.drawn:=hm.drawn
     have eo:os'=s.os:=hm.os
     subst eg;subst ed;subst eo
     show wpAny _ _ _ _ _ _
     refine wpAny_pure ?_
     show wpAny _ _ (ret Value.none) _ _ _
     refine wpAny_pure ⟨rfl,h',tk',rfl,H',fun b o hb e => ?_⟩
     exact hm.heap b o (by simp only [List.mem_cons,List.not_mem_nil,or_false,not_or];exact ⟨Nat.ne_of_lt hb,by rw [szp];exact Nat.ne_of_lt (Nat.lt_succ_of_lt hb)⟩) (Heap.get?_push_of_some _ (Heap.get?_push_of_some _ e))
   ·cases r₂ with
    | error e=>exact hr₂
    | ok fl₂ =>
     cases fl₂ with
     | ret r =>
      obtain ⟨rfl,h',tk,rfl,hS',hk'⟩:=hr₂
      repeat (any_goals (first|assumption|wp_step))
      exact h _ _ hS' hk'
     | _=>exact hr₂.elim
  | _=>exact hr.elim
end
def zky (X:Cx)(S:Addr)(n:Nat):HO:=.ext fun h => ∃ T,h.SetOf (zaN X.prog X.w) S T n
def zoQ (X:Cx):List V→Hp→VK→Prop:=fun xs H Q => ∃ a ks,xs=[.ref a]∧Rd H a (.lst (ks.map kV))∧ks.length≤999∧∀ S,H S=none→Q (.ref S) (upd H S (zky X S (dedL ks).length))
def znF (X:Cx):List V→Hp→VK→Prop:=fun xs H Q => ∃ S n,xs=[.ref S]∧H S=some (zky X S n)∧n≤999∧Q (.int n) H
section
variable {X:Cx}
theorem call_setK (hc:X.calm=true):zaJ X (.type "set") (zoQ X):=by
 intro pins s σ H xs us Q I rv h
 obtain ⟨a,ks,rfl,ha,hn,q⟩:=h
 obtain ⟨u,rfl,ru⟩:=zdt rv
 obtain rfl:u=Value.ref a:=ru
 obtain ⟨its,ri,pl,hz⟩:=I.list (.inl ha)
 have l2:=ri.length
 rw [List.length_map] at l2
 refine zep (I.ok.hd hc) pl.isList (ks:=ks) (by rw [List.size_toArray];omega) (fun i v k hv hk => ?_) hn fun h' tk H' kk => ?_
 ·obtain ⟨v',hv',rr⟩:=ri.get (i:=i) (x:=kV k) (by rw [List.getElem?_map,hk];rfl)
  rw [List.getElem?_toArray,hv'] at hv
  obtain rfl:=Option.some.inj hv
  exact zgP (P:=X.prog) (w:=X.w) rr
 ·refine ⟨.ref s.heap.objs.size,upd H s.heap.objs.size (zky X s.heap.objs.size (dedL ks).length),I.laid (t':=tk) (fun b o e=>kk b o (Heap.lt_size e) e) (Nat.le_refl _) ?_,rfl,q _ (I.hok.fresh (Nat.le_refl _))⟩
  obtain ⟨o,es,ep,t,ho,r⟩:=id H'
  refine ⟨⟨_,H'⟩,⟨_,ho⟩,fun h1 h2 z kp => ?_⟩
  obtain ⟨T,o,es,ep,t,ho,r⟩:=z
  exact ⟨T,o,es,ep,t,kp _ ho,r⟩
theorem call_lenK:zaJ X (.builtin "len") (znF X):=by
 intro pins s σ H xs us Q I rv h
 obtain ⟨S,n,rfl,hS,hn,q⟩:=h
 obtain ⟨u,rfl,ru⟩:=zdt rv
 obtain rfl:u=Value.ref S:=ru
 obtain ⟨⟨T,o,es,ep,t,ho,hex,hd,_,_,hb,hf,he⟩,_,_⟩:=(show zbh X.prog X.w H s.heap S (zky X S n) from I.hok S _ hS)
 exact call_len_set ho hex hd hf (by omega) ⟨.int n,H,I.tok _,⟨_,by rw [he]⟩,q⟩
end
end L2.ST
namespace L2.DL
open PySem PySem.Spec PyProof.Rows L2.ST
def zjs:List D→Option D
 | [.lst ds]=>(zbX zb5 ds).bind fun ks=>if ks.length≤999 then some (.int (dedL ks).length) else none
 | _=>none
theorem ze8 {K:PySem.W.Frag}{F:Hp}:∀ {ds:List D} {ks:List Key} {vs:List V},zbX zb5 ds=some ks→IsDs K F ds vs→vs=ks.map kV
 | [],ks,vs,h,i=>by
  rw [IsDs.nil_iff] at i
  obtain rfl:=Option.some.inj h
  exact i
 | d::ds,ks,vs,h,i=>by
  rw [IsDs.cons_iff] at i
  obtain ⟨x,r,rfl,h2,h3⟩:=i
  obtain ⟨k,hk,h⟩:=Option.bind_eq_some_iff.mp (show (zb5 d).bind (fun x=>(zbX zb5 ds).map fun xs=>x::xs)=some ks from h)
  obtain ⟨l,hl,rfl⟩:=Option.map_eq_some_iff.mp h
  rw [zcg hk h2,ze8 hl h3]
  rfl
section
variable {X:Cx}{E:XK}{fr:FA}{es:List Expr}{e:Expr}
theorem zoD (h:∀ {ta:TA},PA X es ta→PE X e (tCB (znF X) (zor (tCB (zoQ X) ta) tNil)))(ha:QA X E es fr):QE X E e (dBlt zjs fr):=PE.weak (h ha) fun σ H Q zh=>by
 obtain ⟨B,F,sd,r,n⟩:=zh
 refine ⟨B,F,sd,r,(Res.need_bind n).mono (fun ds n1 vs F1 H1 e1 i1 => ?_) fun _ _ q=>q⟩
 obtain ⟨z,hz,q⟩:=Res.need_ofO n1
 unfold zjs at hz
 split at hz
 ·obtain ⟨ks,h1,hz⟩:=Option.bind_eq_some_iff.mp hz
  split at hz
  ·rename_i hc
   obtain rfl:=Option.some.inj hz
   obtain ⟨v,rfl,h⟩:=zco i1
   rw [IsD.lst_iff] at h
   obtain ⟨a,ys,rfl,g1,g2⟩:=h
   obtain rfl:=ze8 h1 g2
   have hl:=zfW ks
   refine ⟨a,ks,rfl,g1.same e1.fh,hc,fun S hS=>⟨S,_,rfl,zam,by omega,?_⟩⟩
   exact q _ F1 _ (e1.trans (.keep e1.fh hS _)) (IsD.int_iff.mpr rfl)
  ·exact zqn hz
 ·exact zqn hz
end
end L2.DL
namespace L2
open PySem PySem.Spec PyProof.Rows
section
variable {X:Cx}{pins:List (Addr×Obj)}{σ : St}{H:Hp}{s:Shared}
theorem Inv.freeze {d:Addr}{o:Obj}{kvs:List (Key×V)}(I:Inv X pins σ H s)(h:H d=some (.dK kvs))(ho:s.heap.get? d=some o):Inv X pins σ (upd H d (.frz o (.dK kvs))) s:=by
 refine I.step (h':=s.heap) (g':=s.gens) (d':=s.drawn) (t':=s.toks) (ch:=[]) (fun b hb=>nomatch hb) (fun b o _ _ _ e _=>e) (fun b o _ _ _ e _=>⟨o.slots,e⟩) (fun b o _ _ n => ?_) (fun b o _ e=>⟨o,e⟩) (fun b xs e => ?_) (fun b o u e => ?_) (fun b ps e=>⟨#[],?_⟩) (fun m hm=>hm) (fun b u e => ?_) I.bare
 ·rw [zaj fun z=>by rw [z,h] at n;cases n];exact n
 ·rw [zaj fun z=>by rw [z,h] at e;cases e];exact e
 ·rw [zaj fun z=>by rw [z,h] at e;cases e];exact e
 ·rw [zaj (fun z=>by rw [z,h] at e;cases e),e];simp
 ·by_cases nb:b=d
  ·subst nb
   rw [zam] at e
   obtain rfl:=Option.some.inj e
   exact ⟨ho,(I.hok b _ h).stay (fun _ _ _ q=>q) (fun c q=>by rw [zaj fun z=>by rw [z,h] at q;cases q];exact q) fun c xs q=>by rw [zaj fun z=>by rw [z,h] at q;cases q];exact q⟩
  ·rw [zaj nb] at e
   exact (I.hok b u e).stay (fun _ _ _ q=>q) (fun c q=>by rw [zaj fun z=>by rw [z,h] at q;cases q];exact q) fun c xs q=>by rw [zaj fun z=>by rw [z,h] at q;cases q];exact q
end
def Itd (d:Addr)(o:Obj)(kvs:List (Key×V)):It :=
 ⟨fun i H=>H d=some (.frz o (.dK kvs))∧i<kvs.length,
  fun i H v H' => ∃ T k x,v=.ref T∧H T=none∧H'=upd H T (.tup [kV k,x])∧kvs[i]? = some (k,x),
  fun i H=>H d=some (.frz o (.dK kvs))∧kvs.length≤i⟩
noncomputable def zoG (it d:Addr)(n ep i:Nat)(h:Heap):Prop:=∃ ok ov,IsItemIter h it d i n ep ok ov
theorem KV.at {κ : Type}:∀ {l1:List (κ × V)} {l2:List (κ × Value)} {i:Nat} {a : κ × V},KV l1 l2→l1[i]? = some a→∃ v,l2[i]? = some (a.1,v)∧RelV a.2 v:=by
 intro l1 l2 i a hkv
 unfold KV at hkv
 induction hkv generalizing i with
 | nil=>intro e;simp at e
 | @cons p q _ _ hh tt ih =>
  cases i with
  | zero =>
   intro e1
   simp at e1
   subst e1
   exact ⟨q.2,by rw [hh.1];rfl,hh.2⟩
  | succ i =>
   intro e1
   obtain ⟨v,h1,h2⟩:=ih (by simpa using e1)
   exact ⟨v,by simpa using h1,h2⟩
theorem kV_of {k:Key}{v:Value}(h:zdJ k v=true):RelV (kV k) v:=by
 rcases zaK h with ⟨i,t,rfl,rfl⟩|⟨x,t,rfl,rfl⟩
 ·exact ⟨t,rfl⟩
 ·exact ⟨t,rfl⟩
theorem zkH {X:Cx}{pins:List (Addr×Obj)}{σ : St}{H:Hp}{s:Shared}{d:Addr}{o:Obj}{kvs:List (Key×V)}{ep:Nat}(hep:∀ es ep',o.data=.dict es ep'→ep'=ep)(I:Inv X pins σ H s)(h:H d=some (.frz o (.dK kvs))) :
 ∃ vs,KV kvs vs∧s.heap.DictAt (zaN X.prog X.w) d vs ep:=by
 obtain ⟨ho,_,_,vs,rel,o',es,ep',e1,e2,e3,r⟩:=(show zbh X.prog X.w H s.heap d (.frz o (.dK kvs)) from I.hok d _ h)
 rw [ho] at e1
 obtain rfl:=Option.some.inj e1
 have:=hep es ep' e3
 subst this
 exact ⟨vs,rel,o,es,ho,e2,e3,r⟩
theorem zhD:entryFor table "dict_itemiterator.__iter__" = some Builtin.«dict_keyiterator.__iter__» :=
 entryFor_alias (id' := "dict_keyiterator.__iter__") (by kernel_rfl) (by first|rfl|decide +kernel) (by decide +kernel) (by kernel_rfl)
theorem zg3 {P:Program}{w:World}{K:PySem.W.Frag}{elts:List Expr}{kx}{pos:Pos}(d it:Addr)(o:Obj)(kvs:List (Key×V))(ep:Nat)(hep:∀ es ep',o.data=.dict es ep'→ep'=ep):Turn P w K (.Tuple elts kx pos) (Itd d o kvs) [it] it (zoG it d kvs.length ep) where
 mem:=by simp
 obj:=fun i h st c hc=>by
  obtain ⟨ok,ov,he⟩:=st
  rw [List.mem_singleton.mp hc]
  exact ⟨_,he,fun v q=>by cases q⟩
 keep:=fun i h h' st kk=>by
  obtain ⟨ok,ov,he⟩:=st
  exact ⟨ok,ov,kk it (by simp) _ he⟩
 item:=by
  intro X hP hw hK hc i pins s σ H E I hf st hg
  subst hP hw hK
  obtain ⟨hd,hi⟩:=hg
  obtain ⟨vs,rel,hat⟩:=zkH hep I hd
  obtain ⟨ok,ov,he⟩:=st
  have hl:kvs.length=vs.length:=rel.length
  rw [hl] at he
  obtain ⟨v,hv,rv⟩:=KV.at rel (List.getElem?_eq_getElem hi)
  refine wpAny_pyNext_items_item he hat hv fun key h' hkey heo ht hz kk => ?_
  refine ⟨_,rfl,wpAny_letOwnedTupleGo_items (s:={ s with heap:=h' }) heo fun h2 b1 sb => ?_⟩
  have sb:Heap.SameBut it h' h2:=sb
  have lt:it≠s.heap.objs.size:=Nat.ne_of_lt (Heap.lt_size he)
  have I2:=I.paired (t':=s.toks) (h':=h2) (ch:=[it]) (kV_of hkey) rv hf (fun c hc=>by rw [List.mem_singleton.mp hc];exact lt) (sb.extBut _ _ (Ne.symm lt) ht) (fun c o hc q=>by
   have hc:c≠it:=fun z=>hc (by simp [z])
   exact sb.extBut c o hc (kk c o hc q))
  refine ⟨.ref s.heap.objs.size,_,I2,rfl,⟨_,_,_,rfl,I.hok.fresh (Nat.le_refl _),rfl,List.getElem?_eq_getElem hi⟩,⟨key,v,by rw [hl];exact b1⟩,fun c hc => ?_⟩
  rw [List.mem_singleton.mp hc]
  exact (zaj lt).trans (hf it (by simp)).1
 done:=by
  intro X hP hw hK hc i pins s σ H E I hf st hg
  subst hP hw hK
  obtain ⟨hd,hi⟩:=hg
  obtain ⟨vs,rel,hat⟩:=zkH hep I hd
  obtain ⟨ok,ov,he⟩:=st
  have hl:kvs.length=vs.length:=rel.length
  rw [hl] at he
  refine wpAny_pyNext_items_end (I.ok.hd hc) he hat (List.getElem?_eq_none (by omega)) fun h' eb=>⟨rfl,I.turnedL (t':=s.toks) (ch:=[it]) (fun c o hc q => ?_) fun c hc=>hf c hc⟩
  exact eb c o (fun z=>hc (by simp [z])) q
 self:=fun A i s Q E st h=>by
  obtain ⟨ok,ov,he⟩:=st
  have hT:s.TypeIs (.ref it) "dict_itemiterator" := ⟨_,he,rfl⟩
  refine wpAny_pyIter_slot hT PySem.F.slot_dict_itemiterator_iter (wpAny_call_entry PySem.F.slot_dict_itemiterator_iter hT zhD ?_ (PySem.F.args_dict_itemiterator_iter_1 _))
  show wpAny _ _ (ret (.ref it)) _ _ s
  exact wpAny_pure ⟨_,rfl, "dict_itemiterator",_,hT,PySem.F.slot_dict_itemiterator_next.lookup,h⟩
section
variable {X:Cx}
def rView:V→List V→Hp→VK→Prop:=fun x vs H Q => ∃ d kvs,x=.ref d∧vs=[]∧H d=some (.dK kvs)∧∀ p,H p=none→Q (.ref p) (upd H p (zhR p d))
def znb (R:It→Hp→Prop):VK:=fun x H2 => ∃ p d kvs,x=.ref p∧H2 p=some (zhR p d)∧H2 d=some (.dK kvs)∧∀ o,R (Itd d o kvs) (upd H2 d (.frz o (.dK kvs)))
def znA (K:PySem.W.Frag)(te:TE):TI:=fun σ H R=>tBM0 K "dict" rView te σ H (znb R)
theorem zjv {e:Expr}{te:TE}{apos cpos:Pos}{elts:List Expr}{kx}{tp:Pos}(he:PE X e te)
 (hbase:autoParam (attributeBase e "items" X.env (eval e X.env)=eval e X.env) zau._auto_1) (hline:autoParam ((apos.endLine == cpos.line)=true) zau._auto_1) :
 PI X (.Tuple elts kx tp) (.Call (.Attribute e "items" apos) [] [] cpos) (znA X.K te):=by
 intro pins s σ H R I h
 refine thn (zno PySem.F.plainAttrs_dict PySem.F.slot_dict_items PySem.F.type_dict_items zka he hbase hline pins s σ H _ I h) fun u s1 zh => ?_
 obtain ⟨x,H2,I1,r1,p,d,kvs,ex,hp,hd2,q⟩:=zh
 subst ex
 obtain rfl:u=Value.ref p:=r1
 obtain ⟨hview,_,_⟩:=(show zbh X.prog X.w _ s1.heap p (zhR p d) from I1.hok p _ hp)
 obtain ⟨_,_,vs,rel,o,es,ep,d1,d2,d3,dr⟩:=zmd I1.hok hd2
 have hat:s1.heap.DictAt (zaN X.prog X.w) d vs ep:=⟨o,es,d1,d2,d3,dr⟩
 have hl:kvs.length=vs.length:=rel.length
 have I2:=I1.freeze hd2 d1
 refine wpAny_pyIter_items hview hat ?_
 refine ⟨s1.heap.objs.size,[s1.heap.objs.size],_,_,_,rfl,I2.kept (t':=s1.toks) (fun b o e=>Heap.get?_push_of_some _ e),zg3 d s1.heap.objs.size o kvs ep (fun es' ep' z=>by rw [d3] at z;cases z;rfl),⟨_,_,by rw [hl];exact Heap.get?_push_size _ rfl⟩,fun c hc => ?_,q o⟩
 rw [List.mem_singleton.mp hc]
 exact I2.fpOk (Nat.le_refl _) (I2.hok.fresh (Nat.le_refl _))
end
end L2
namespace L2.DL
open PySem PySem.Spec PyProof.Rows
noncomputable def keyD:Key→D
 | .inl i=>.int i
 | .inr x=>.str x
def zeV (ks:List Key)(ds:List D):List D:=List.zipWith (fun k x=>D.tup [keyD k,x]) ks ds
def ziE:D→Res (List D)
 | .dct ks ds=>.ok (zeV ks ds)
 | _=>.no
def iIt (f:FE):FA:=fun sd=>(f sd).bind ziE
@[simp] theorem ev_iIt (f:FE)(sd:SD):iIt f sd=(f sd).bind ziE:=rfl
theorem zlf (K:PySem.W.Frag)(F:Hp)(k:Key):IsD K F (keyD k) (kV k):=by
 cases k with
 | inl i=>exact IsD.int_iff.mpr rfl
 | inr x=>exact IsD.str_iff.mpr rfl
theorem zgE {K:PySem.W.Frag}{F1:Hp}{d:Addr}{o:Obj}{ks:List Key}{ds:List D}{xs:List V}(h:F1 d=some (.frz o (.dK (ks.zip xs))))(hl:ks.length=xs.length)(i1:IsDs K F1 ds xs):Walk K F1 (Itd d o (ks.zip xs)) (zeV ks ds):=fun i F2 H2 s1 s2=>by
 have p1:=s2 _ _ (s1 _ _ h)
 have l1:=i1.length
 have lz:(ks.zip xs).length=ks.length:=by rw [List.length_zip];omega
 have li:(zeV ks ds).length=ks.length:=by unfold zeV;rw [List.length_zipWith];omega
 rw [li]
 refine ⟨fun hi=>⟨⟨p1,by omega⟩,fun v H3 yl => ?_⟩,fun hi=>⟨p1,by omega⟩⟩
 obtain ⟨T,k,x,rfl,hT,rfl,hk⟩:=yl
 have hd:i<ds.length:=by omega
 obtain ⟨x',hx,ix⟩:=i1.get (List.getElem?_eq_getElem hd)
 rw [List.getElem?_zip_eq_some] at hk
 obtain ⟨hk,hx2⟩:=hk
 have hk:ks[i]? = some k:=hk
 have hx2:xs[i]? = some x:=hx2
 rw [hx] at hx2
 cases  hx2
 have ea:=Ext.alloc s2 hT (.tup [kV k,x])
 refine ⟨.tup [keyD k,ds[i]],_,?_,ea,IsD.tup_iff.mpr ⟨T,_,rfl,.of zam,.mk (zlf K _ k) (.mk (IsD.same (s1.trans ea.ff) _ _ ix) .nil)⟩⟩
 unfold zeV
 rw [List.getElem?_zipWith,hk,List.getElem?_eq_getElem hd]
section
variable {X:Cx}{E:XK}{f:FE}{tp apos cpos:Pos}{elts:List Expr}{e:Expr}
theorem zkq {kx}(hn:QN X E e f)(hbase:autoParam (attributeBase e "items" X.env (eval e X.env)=eval e X.env) zau._auto_1)(hline:autoParam ((apos.endLine == cpos.line)=true) zau._auto_1) :
 QI X E (.Tuple elts kx tp) (.Call (.Attribute e "items" apos) [] [] cpos) (iIt f):=PI.weak (zjv hn hbase hline) fun σ H R zh=>by
 obtain ⟨B,F,sd,r,n⟩:=zh
 refine ⟨B,F,sd,r,(Res.need_bind n).mono (fun z n1 l F1 H1 e1 hl fl ow => ?_) fun _ _ q=>q⟩
 unfold ziE at n1
 split at n1
 ·rename_i ks ds
  obtain ⟨xs,h1,h2,h3⟩:=ow
  refine ⟨.inr (.inr (.inl ⟨rfl,.inl ⟨_,h1⟩⟩)),l,ks.zip xs,rfl,rfl,h1,fun p hp=>⟨p,l,ks.zip xs,rfl,zam,?_,fun o => ?_⟩⟩
  ·have hlp:l≠p:=fun z=>by rw [z,hp] at h1;exact zqn h1
   exact (zaj hlp).trans h1
  ·have fp:F1 p=none:=za8 e1.fh hp
   have Hp:H p=none:=za8 e1.hh hp
   have hlp:l≠p:=fun z=>by rw [z,hp] at h1;exact zqn h1
   refine n1 _ (upd F1 l (.frz o (.dK (ks.zip xs)))) _ ⟨e1.ff.trans (zbe fl _),fun b u q => ?_,fun b u q => ?_,fun b q1 q2 => ?_⟩ (zgE zam h2 (IsDs.same (zbe fl _) _ _ h3))
   ·by_cases z:b=l
    ·subst z
     rw [zam] at q ⊢
     exact q
    ·rw [zaj z] at q ⊢
     have:b≠p:=fun y=>by rw [y,fp] at q;exact zqn q
     rw [zaj this]
     exact e1.fh _ _ q
   ·have z:b≠l:=fun y=>by rw [y,hl] at q;exact zqn q
    have y:b≠p:=fun y=>by rw [y,Hp] at q;exact zqn q
    rw [zaj z,zaj y]
    exact e1.hh _ _ q
   ·have z:b≠l:=fun y=>q2 (by rw [y];exact hl)
    rw [zaj z]
    exact e1.new b q1 q2
 ·exact n1.elim
end
end L2.DL
namespace L2.DL
open PySem PySem.Spec PyProof.Rows
def aug1 (i:Nat)(sd:SD):Option (Option SV)→Res D→Res Out
 | some (some (.val (.int a))),r=>r.bind fun d=>match d with
  | .int b=>.ok (.next (sd.set i (some (.val (.int (a+b))))))
  | _=>.no
 | _,_=>.no
def sAug (i:Nat)(f:FE):FS:=fun sd=>aug1 i sd sd[i]? (f sd)
@[simp] theorem ev_aug (i:Nat)(f:FE)(sd:SD):sAug i f sd=aug1 i sd sd[i]? (f sd):=rfl
@[simp] theorem aug1_int (i:Nat)(sd:SD)(a b:Int):aug1 i sd (some (some (.val (.int a)))) (.ok (.int b))=.ok (.next (sd.set i (some (.val (.int (a+b)))))):=rfl
theorem zpl {X:Cx}{E:XK}{m:Option Bool}{e:Expr}{fe:FE}{pos:Pos}{i:Nat}{x:Str}{pos':Pos}(hN:X.N.Nodup)(hi:X.N[i]? = some x)(hx:Loc X.env.scope x)(he:QE X E e fe)
 (hf:X.fn x=true∨X.env.scope.names.lookup x=some .local:=by first|exact .inl rfl|exact .inr rfl):QS X E m (.AugAssign (.Name x pos') .Add e pos) (sAug i fe):=PS.weak (znK hN hi hx he zo4 hf) fun T σ H zh=>by
 obtain ⟨B,F,sd,r,n⟩:=zh
 unfold sAug at n
 generalize hq:sd[i]? = q at n
 cases q with
 | none=>exact False.elim n
 | some q=>cases q with
  | none=>exact False.elim n
  | some q=>cases q with
   | own p d=>exact False.elim n
   | val d=>cases d with
    | int a =>
     obtain ⟨v,h1,h2⟩:=r.val hq
     rw [IsD.int_iff] at h2
     subst h2
     have n:((fe sd).bind fun d=>match d with
      | .int b=>Res.ok (Out.next (sd.set i (some (.val (.int (a+b))))))
      | _=>.no).need _ _:=n
     refine ⟨_,h1,B,F,sd,r,(Res.need_bind n).mono (fun d n1 v F1 H1 e1 i1 => ?_) fun _ _ q=>q.ext r.ext⟩
     cases d with
     | int b =>
      rw [IsD.int_iff] at i1
      exact ⟨_,_,rfl,i1,n1 _ F1 H1 e1.ff ((r.step e1).setVal (IsD.int_iff.mpr rfl))⟩
     | _=>exact False.elim n1
    | _=>exact False.elim n
end L2.DL
namespace L2.DL
open PySem PySem.Spec PyProof.Rows
def zj9 (is:List Nat)(f:FE):FE:=fun sd=>(f (frzD is sd)).strict.bind fun d=>if zc3 d then .ok d else .no
@[simp] theorem ev_tmp0 (is:List Nat)(f:FE)(sd:SD):zj9 is f sd=(f (frzD is sd)).strict.bind fun d=>if zc3 d then .ok d else .no:=rfl
section
variable {X:Cx}{E:XK}{e:Expr}
theorem zpm {fe:FE}(is:List Nat)(h:QE X E e fe):QE X E e (zj9 is fe):=PE.weak h fun σ H Q zh=>by
 obtain ⟨B,F,sd,r,n⟩:=zh
 obtain ⟨F1,s1,r1⟩:=r.frz is
 refine ⟨B,F1,_,r1,(Res.need_strict (Res.need_bind n)).mono (fun d n1 v F2 H2 e2 i2 => ?_) fun c fs q=>q⟩
 split at n1
 ·rename_i hs
  exact n1 v F H2 (.grow r.ext.fh e2.hh) (i2.scal hs)
 ·exact n1.elim
end
end L2.DL
namespace L2
open PySem PySem.Spec PyProof.Rows Builtin Builtin.ObjectAttr Builtin.Getset_descriptor
section
variable {prog:Program}{w:World}{A:Around}{E:Value→Shared→Prop}{s:Shared}{K:PySem.W.Frag}{x C:Addr}{o:Obj}
structure ExcCl (K:PySem.W.Frag)(C:Addr):Prop where
 ga:PySem.W.findIn K (.ref C) "__getattribute__" = some (some (.builtin "BaseException.__getattribute__"))
 hook:PySem.W.findIn K (.ref C) "__getattr__" = some none
 cls:PySem.W.findIn K (.ref C) "__class__" = some (some (.builtin "object.__class__"))
 get:PySem.W.specialIn K (.builtin "object.__class__") "__get__" = some (some (.builtin "getset_descriptor.__get__"))
 sets:PySem.W.takesIn K (.builtin "object.__class__")=some true
 obj:PySem.W.mroIn K C (.type "object")=some true
 base:PySem.W.subIn K (.ref C) (.type "BaseException")=some true
 isC:PySem.W.hasDictIn K C=true
theorem ziZ {Q:Option Value→Shared→Prop}(c:ExcCl K C)(X:K.In s.heap)(ho:s.heap.get? x=some o)(hc:o.cls=.ref C)(h:Q (some (.ref C)) { s with toks:=s.toks+1 }):wpAny (model prog w) A (getAttr? (.ref x) "__class__") Q E s:=by
 obtain ⟨hh,g,d,t,os⟩:=s
 have L0:PySem.W.Looks (model prog w) hh (typeOf (.ref x)) (.ref C):=hc ▸ (PySem.W.Looks.ld ho).andThen .now
 have L1:=PySem.W.looks_findIn (M:=model prog w) X c.ga
 have L2:=PySem.W.looks_findIn (M:=model prog w) X c.hook
 have L3:=PySem.W.looks_findIn (M:=model prog w) X c.cls
 have L4:=PySem.W.looks_specialIn (M:=model prog w) X c.get
 have L5:=PySem.W.looks_takesIn (M:=model prog w) X c.sets
 have L6:=PySem.W.looks_subIn (M:=model prog w) X c.base
 have L7:=PySem.W.looks_mroIn (M:=model prog w) X c.obj
 unfold getAttr? getAttrBy? getAttrBy
 refine wpAny_bind (wpAny_mkText (wpAny_bind (wpAny_attempt (wpAny_holding (wpAny_bind (L0.at (wpAny_bind (L1.at ?_))))))))
 have e2:(onTheHeap (Value.ref C)&&Value.builtin "BaseException.__getattribute__" == Value.builtin "object.__getattribute__")=false:=by
  rw [show (Value.builtin "BaseException.__getattribute__" == Value.builtin "object.__getattribute__")=false by decide +kernel];rfl
 dsimp only
 rw [e2]
 simp only [Bool.false_eq_true,if_false]
 unfold getAttrByItsOwn hookBefore
 have e3:onTheHeap (Value.ref C)=true:=rfl
 rw [e3]
 simp only [if_true]
 refine wpAny_bind (L2.at ?_)
 refine wpAny_bind (wpAny_attempt (wpAny_holding ?_))
 unfold callGetattribute
 simp only [Bool.false_and,Bool.false_eq_true,if_false]
 unfold boundAndCalled
 refine wpAny_bind (wpAny_of_eq (F.excAttr_ValueError.ga.bind (.ref x)) ?_)
 dsimp only
 have cg:∀ {A':Around} {R:Result→Shared→Prop} (t':Nat),R (.ok (.ret (.ref C))) ⟨hh,g,d,t',os⟩→codeAny (model prog w) A' (.call (.builtin "getset_descriptor.__get__") ⟨[.builtin "object.__class__",.ref x,.ref C],[]⟩) R ⟨hh,g,d,t',os⟩:=fun {A' R} t' hR=>by
  refine codeAny_call_builtin PySem.W.KF.slot_gs.plain PySem.W.KF.entry_gs (PySem.W.KF.slot_gs.check _ _ _ _ _ _ _ _ PySem.W.KF.type_class (PySem.W.KF.args_gs _ _ _) ?_)
  unfold Builtin.«getset_descriptor.__get__» descrGet
  rw [PySem.W.dga_obj]
  refine wpAny_bind (wpAny_pure ?_)
  unfold descrGetter descrCheckInstance descrNameAndClass isInstance
  simp only [PySem.W.KF.owner_class]
  repeat lk
  refine ⟨Code.quiet_builtin _ (by decide +kernel),codeAny_builtin PySem.W.KF.entry_class ?_⟩
  unfold Builtin.«object.__class__» shownTypeOf
  repeat lk
  exact hR
 refine wpAny_call (codeAny_call_builtin F.excAttr_ValueError.ga.plain F.entry_bexc_ga ?_)
 have ck:builtinKind "BaseException.__getattribute__" = some .slot:=by decide +kernel
 have sp:splitId "BaseException.__getattribute__" = some ("BaseException", "__getattribute__"):=by decide +kernel
 have ha:=F.args_bexc_ga (.ref x) (.str "__class__" t)
 show wpAny _ _ (checkBuiltinCall "BaseException.__getattribute__" ⟨[.ref x,.str "__class__" t],[]⟩) _ _ _
 simp only [checkBuiltinCall,ck,sp]
 refine wpAny_bind (m:=isInstance (.ref x) (.type "BaseException")) (PySem.W.Looks.at (L0.andThen L6) ?_)
 rw [if_neg (by decide)]
 unfold argsOk at ha
 refine wpAny_of_eq (a:=()) ha ?_
 show wpAny _ _ (Builtin.«object.__getattribute__» ⟨[.ref x,.str "__class__" t],[]⟩) _ _ _
 have L8:PySem.W.Looks (model prog w) hh (Builtin.ObjectAttr.find (.ref x) (.ref C) "__class__") (.bind (.builtin "getset_descriptor.__get__") (.builtin "object.__class__")):=by
  intro A' Q' E' s' k q
  unfold Builtin.ObjectAttr.find
  refine wpAny_bind (L3 A' _ E' s' k (wpAny_bind (m:=Builtin.ObjectAttr.getOf _) (L4 A' _ E' s' k ?_)))
  refine wpAny_bind (wpAny_bind (L5 A' _ E' s' k (wpAny_pure ?_)))
  exact wpAny_bind (wpAny_rule (wpAny_pure q))
 unfold Builtin.«object.__getattribute__»
 repeat (first|with_reducible refine wpAny_call (cg _ ?_)|lk)
 exact h
theorem zfX (c:ExcCl K C):PySem.W.KitX K (.ref x) (.ref C) (fun h => ∃ o,h.get? x=some o∧o.cls=.ref C) where
 ty:=fun M h _ ⟨o,ho,hc⟩=>hc ▸ (PySem.W.Looks.ld ho).andThen .now
 it:=fun M h X _=>by
  refine zc1b (PySem.W.any_some c.isC) fun cd hcd _ => ?_
  unfold PySem.W.clsIn at hcd
  split at hcd
  ·rename_i ho
   intro A' Q' E' s' k q
   unfold isType loadHead
   exact wpAny_bind (wpAny_loadPart (k _ _ (X _ _ ho)) (wpAny_pure q))
  ·exact zqn hcd
 ne:=fun h tp dd its n sl X htp=>by
  refine zc1b (PySem.W.any_some c.isC) fun cd hcd _ => ?_
  refine Bool.eq_false_iff.mpr fun q => ?_
  have e:C=tp:=Value.ref.inj (beq_iff_eq.mp q)
  subst e
  unfold PySem.W.clsIn at hcd
  split at hcd
  ·rename_i ho
   have z:=(X _ _ ho).symm.trans htp
   cases z
  ·exact zqn hcd
 ca:=fun X ⟨o,ho,hc⟩ k=>ziZ c X ho hc k
structure NoSub (K:PySem.W.Frag)(C U:Addr):Prop where
 ne:Nat.beq C U=false
 sub:PySem.W.subIn K (.ref C) (.ref U)=some false
 ty:PySem.W.typeIn K (.ref U)=some (.type "type")
 dc:PySem.W.hasDictIn K U=true
theorem NoSub.one {K:PySem.W.Frag}{C U:Addr}(h:NoSub K C U):PySem.W.kitOne K (.ref C) (.ref U)=some false:=by
 refine zc1b (PySem.W.any_some h.dc) fun cd hcd _ => ?_
 have e:¬ (Value.ref C == Value.ref U)=true:=fun z=>by
  have z:C=U:=Value.ref.inj (beq_iff_eq.mp z)
  have:=h.ne
  rw [z,Nat.beq_refl] at this
  cases this
 unfold PySem.W.kitOne
 rw [if_neg e]
 show (if _ then _ else _)=_
 rw [if_pos (by rw [hcd,h.ty];rfl)]
 exact h.sub
end
end L2
namespace L2.DL
open PySem PySem.Spec PyProof.Rows
structure Ucl (K:PySem.W.Frag)(mg:Str→Option Value)(c:Str)(C:Addr):Prop where
 ns:PySem.W.nsIn K mainGlobals c=some (some (.ref C))
 mgc:mg c=some (.ref C)
noncomputable def zev (cs us:List Str):List D→Option D
 | [.exc c,.tup ds] => @ite _ (c∈cs∧ds=us.map .ucl) (Classical.propDecidable _) (some (.bl false)) none
 | _=>none
theorem zhQ {cs us:List Str}{c:Str}(h:c∈cs):zev cs us [.exc c,.tup (us.map .ucl)]=some (.bl false):=@if_pos _ (Classical.propDecidable _) ⟨h,rfl⟩ _ _ _
theorem zgs {K:PySem.W.Frag}{F:Hp}{C:Addr}:∀ {us:List Str} {vs:List V} {ws:List Value},IsDs K F (us.map D.ucl) vs→Vals vs ws→(∀ u∈us,∀ U,PySem.W.nsIn K mainGlobals u=some (some (.ref U))→PySem.W.kitOne K (.ref C) (.ref U)=some false)→PySem.W.kitAny K (.ref C) ws=some false
 | [],vs,ws,i,r,_=>by
  rw [List.map_nil,IsDs.nil_iff] at i
  subst i
  cases r
  rfl
 | u::us,vs,ws,i,r,h=>by
  rw [List.map_cons,IsDs.cons_iff] at i
  obtain ⟨v,r',rfl,h1,h2⟩:=i
  obtain ⟨U,rfl,hU⟩:=IsD.ucl_iff.mp h1
  cases r with
  | cons ra r =>
   obtain rfl:=(show _=Value.ref U from ra)
   have e:=h u List.mem_cons_self U hU
   have ih:=zgs h2 r fun w hw=>h w (List.mem_cons_of_mem _ hw)
   unfold PySem.W.kitAny
   rw [e]
   exact ih
noncomputable def zpo (cs us:List Str)(ds:List D)(z:D):Prop:=∃ c,c∈cs∧ds=[.exc c,.tup (us.map .ucl)]∧z=.bl false
theorem zgQ {cs us:List Str}{ds:List D}{z:D}(hz:zev cs us ds=some z):zpo cs us ds z:=by
 cases ds with
 | nil=>exact zqn hz
 | cons d ds =>
  cases d with
  | exc c =>
   cases ds with
   | nil=>exact zqn hz
   | cons e ds =>
    cases e with
    | tup es =>
     cases ds with
     | nil =>
      obtain ⟨⟨hm,rfl⟩,rfl⟩:=zck (c:=c∈cs∧es=us.map .ucl) hz
      exact ⟨_,hm,rfl,rfl⟩
     | cons _ _=>exact zqn hz
    | _=>exact zqn hz
  | _=>exact zqn hz
theorem zl2 {X:Cx}{cs us:List Str}(he:∀ c∈cs,∀ C,PySem.W.nsIn X.K mainGlobals c=some (some (.ref C))→ExcCl X.K C)
 (hn:∀ c∈cs,∀ C,PySem.W.nsIn X.K mainGlobals c=some (some (.ref C))→∀ u∈us,∀ U,PySem.W.nsIn X.K mainGlobals u=some (some (.ref U))→PySem.W.kitOne X.K (.ref C) (.ref U)=some false):zaJ X (.builtin "isinstance") (rDA X.K (zev cs us)):=by
 rintro pins s σ H xs ws Q I r ⟨F,ds,z,sF,id,hz,q⟩
 refine zc1c (zgQ hz) fun c hc zr2 zr3 => ?_
 obtain rfl:=zr2
 obtain rfl:=zr3
 refine zc2c (zgZ id) fun v1 v2 zr2 i1 i2 => ?_
 obtain rfl:=zr2
 refine zc2c r.two fun u1 u2 zr2 ra rb => ?_
 obtain rfl:=zr2
 refine zc2c (IsD.exc_iff.mp i1) fun a C zr2 hC hF => ?_
 obtain rfl:=zr2
 refine zc2c (IsD.tup_iff.mp i2) fun b ys zr2 t1 t2 => ?_
 obtain rfl:=zr2
 obtain rfl:u1=Value.ref a:=ra
 obtain rfl:u2=Value.ref b:=rb
 obtain ⟨⟨o,ho,hcl⟩,_⟩:=I.hok a _ (sF _ _ hF)
 refine zc0b ((show zbh X.prog X.w H s.heap b (.tup ys) from I.hok b _ (sF _ _ t1))) fun _ zz=>zc1b zz fun its rv zz=>zc1c zz fun ot h1 h2 zz=>zc1a zz fun n h3 => ?_
 obtain ⟨oc,od,oda,osl⟩:=ot
 simp only at h2 h3
 subst h2 h3
 exact PySem.W.kia_tup (zfX (he c hc C hC)) I.kIn ⟨o,ho,hcl⟩ h1 (zgs t2 rv fun u hu U hU=>hn c hc C hC u hu U hU) (fun z=>nomatch z) fun tk=>⟨.bl false,H,I.tok _,rfl,q _ F H (.refl sF) (IsD.bl_iff.mpr rfl)⟩
end L2.DL
namespace L2
open PySem PySem.Spec PyProof.Rows
theorem zfv:fillsNumberSlot (.type "tuple") "mul" = pure false :=
 PySem.fillsNumberSlot_seq (id := "tuple.__mul__") (r:=some (.builtin "tuple.__rmul__")) F.slot_tuple_mul.lookup (by decide +kernel) F.slot_tuple_rmul.lookup (by decide +kernel)
theorem zil:seqRepeat? (.type "tuple")=pure (some (.builtin "tuple.__mul__")):=by
 unfold seqRepeat?
 rw [PySem.seqSlot_of (T := "tuple") (name := "__mul__") F.slot_tuple_mul.lookup (by decide +kernel),PySem.seqSlot_of (T := "tuple") (name := "__rmul__") F.slot_tuple_rmul.lookup (by decide +kernel)]
 rfl
theorem zjw (l:Addr)(items:Array Value)(n:Nat)(x:Int)(u:Tok)(dd:Option Addr)(sl:Array (Option Value))(h1:¬ (x < -(2 ^ 63)||x ≥ 2 ^ 63)=true)(h2:¬ (items.isEmpty||x == 1)=true)(h3:¬ (decide (x≤0)||items.isEmpty)=true)(h4:¬ (items.size*x > (2 ^ 63-1) / 8))(h5:¬ Builtin.Tuple.tupleTooMany (items.size*x)=true)(hz:((List.replicate x.toNat items).foldl (· ++ ·) #[]).size≤sizeLine) :
 Meets (Builtin.«tuple.__mul__» ⟨[.ref l,.int x u],[]⟩) (fun _ R s=>s.heap.get? l=some ⟨.type "tuple",dd,.seq items n,sl⟩∧R (.ok (.ret (.ref s.heap.objs.size))) { s with heap:=s.heap.push { cls:=.type "tuple",data:=.seq ((List.replicate x.toNat items).foldl (· ++ ·) #[]) } }) :=
 .of_wp fun _ _ _ _ s h=>by
  obtain ⟨_,_,_,_,_⟩:=s;obtain ⟨hl,h⟩:=h
  wp_walk
  rw [if_neg h1]
  wp_walk
  rw [if_neg h4]
  wp_walk
  exact ⟨_,rfl,h⟩
theorem zjT (l:Addr)(items:Array Value)(n:Nat)(u:Tok)(dd:Option Addr)(sl:Array (Option Value)) :
 Meets (Builtin.«tuple.__mul__» ⟨[.ref l,.int 1 u],[]⟩) (fun _ R s=>s.heap.get? l=some ⟨.type "tuple",dd,.seq items n,sl⟩∧R (.ok (.ret (.ref l))) s) :=
 .of_wp fun _ _ _ _ s h=>by obtain ⟨_,_,_,_,_⟩:=s;obtain ⟨hl,h⟩:=h;wp_walk;exact ⟨_,rfl,h⟩
theorem zkp (a:Int)(t:Tok)(l:Addr)(items:Array Value)(n:Nat)(dd:Option Addr)(sl:Array (Option Value)) :
 Meets (Builtin.«int.__rmul__» ⟨[.int a t,.ref l],[]⟩) (fun _ R s=>s.heap.get? l=some ⟨.type "tuple",dd,.seq items n,sl⟩∧R (.ok (.ret .notImplemented)) s) :=
 .of_wp fun _ _ _ _ s h=>by obtain ⟨_,_,_,_,_⟩:=s;obtain ⟨hl,h⟩:=h;wp_walk;exact ⟨_,rfl,h⟩
section
variable {X:Cx}
def rRepT (K:PySem.W.Frag):R2:=fun x y H Q => ∃ l k xs,x=.ref l∧y=.int k∧SqT K H l xs∧1≤k∧k≤1000∧xs ≠ []∧xs.length≤1000∧(k=1→Q (.ref l) H)∧(k≠1→∀ p,H p=none→Q (.ref p) (upd H p (.tup (List.replicate k.toNat xs).flatten)))
theorem zlS:OpR X (binaryOp .Mult) (rRepT X.K):=by
 rintro pins s σ H x y v u Q I rx ry ⟨l,k,xs,hx,hy,hH,h1,h2,hn,hz,q1,q2⟩
 subst hx hy
 obtain rfl:v=Value.ref l:=rx
 obtain ⟨t,rfl⟩:=ry
 obtain ⟨its,r,p,_⟩:=I.tuple hH
 have hl:=r.length
 obtain ⟨⟨cls,dd,data,sl⟩,ho,hc,n,hd⟩:=id p
 simp only at hc hd
 subst hc hd
 have ne:¬ its.toArray.isEmpty=true:=fun z=>hn (List.length_eq_zero_iff.mp (by rw [hl];simpa using z))
 have fin:wpAny (model X.prog X.w) X.A (call (.builtin "tuple.__mul__") [.ref l,.int k t]) (EP X pins σ Q) X.xe s:=by
  by_cases k1:k=1
  ·subst k1
   exact call_meets F.slot_tuple_mul ⟨_,ho,rfl⟩ F.entry_tuple_mul (F.args_tuple_mul_2 _ _) (zjT l its.toArray n t dd sl) ⟨ho,.ref l,H,I,rfl,q1 rfl⟩
  ·have f0:List.foldl (fun x1 x2=>x1++x2) #[] (List.replicate k.toNat its.toArray)=(List.replicate k.toNat its).flatten.toArray:=by
    have:=zd4 its k.toNat []
    rw [List.nil_append] at this
    exact this
   have sz:its.toArray.size=xs.length:=by rw [List.size_toArray,hl]
   have pr:xs.length*k.toNat≤1000*1000:=Nat.mul_le_mul hz (by omega)
   have pi:(its.toArray.size:Int)*k=((xs.length*k.toNat:Nat):Int):=by rw [sz,Int.natCast_mul,Int.toNat_of_nonneg (by omega)]
   have lf:((List.replicate k.toNat its).flatten).length≤1000*1000:=by rw [zfB,← hl,Nat.mul_comm];exact pr
   refine call_meets F.slot_tuple_mul ⟨_,ho,rfl⟩ F.entry_tuple_mul (F.args_tuple_mul_2 _ _) (zjw l its.toArray n k t dd sl (by simp;omega) (by simp [ne,k1]) (by simp;exact ⟨by omega,by simpa using ne⟩) (by rw [pi];omega) (by rw [pi];unfold Builtin.Tuple.tupleTooMany;rw [decide_eq_true_iff,sizeLine_eq];generalize xs.length*k.toNat=m at pr;omega) (by rw [f0,List.size_toArray,sizeLine_eq];omega)) ⟨ho,?_⟩
   rw [f0]
   exact ⟨.ref s.heap.objs.size,_,I.laid (t':=s.toks) (o:=.tup (List.replicate k.toNat xs).flatten) (fun b ob q=>Heap.get?_push_of_some _ q) (Nat.le_refl _) ⟨⟨by rw [zfB,Nat.mul_comm,sizeLine_eq];omega,⟨_,Heap.get?_push_size _ rfl,rfl⟩⟩,_,r.rep k.toNat,IsTup.new _ _⟩,rfl,q2 k1 _ (I.hok.fresh (Nat.le_refl _))⟩
 exact wpAny_binaryOp_repeat_ref (T := "tuple") (U := "int") (by decide) ⟨_,ho,rfl⟩ (fun s'=>typeIs_int s' k t) zfv F.fills_int_mul F.slot_int_rmul zil F.slot_int_index.lookup
  (call_meets F.slot_int_rmul (typeIs_int s k t) F.entry_int_rmul (F.args_int_rmul_2 _ _) (zkp k t l its.toArray n dd sl) ⟨ho,rfl,⟨_,ho,rfl⟩,fin⟩)
end
end L2
namespace L2.DL
open PySem PySem.Spec PyProof.Rows
section
variable {X:Cx}{E:XK}{m:Option Bool}{pos:Pos}
def sAsg (f:FE)(tg:Tg):FS:=fun sd=>(f sd).bind fun d=>(zb1 tg d sd).bind fun sd'=>.ok (.next sd')
@[simp] theorem ev_asg (f:FE)(tg:Tg)(sd:SD):sAsg f tg sd=(f sd).bind fun d=>(zb1 tg d sd).bind fun sd'=>.ok (.next sd'):=rfl
theorem zgm {tg e:Expr}{t:Tg}{fe:FE}(he:QE X E e fe)(hg:QG X tg t)(hs:autoParam (swapsWithSole [tg] e pos.line X.env=pure false) zau._auto_1)(hw:autoParam (swappedStores [tg] e X.env=pure none) zau._auto_1)
 (h1:autoParam ((assignEach [tg] X.env).map (·.2)=[assign tg X.env]) zau._auto_1):QS X E m (.Assign [tg] e pos) (sAsg fe t):=PS.weak (zkM he hg hs hw h1) fun T σ H zh=>by
 obtain ⟨B,F,sd,r,n⟩:=zh
 refine ⟨B,F,sd,r,(Res.need_bind n).mono (fun d n1 v F1 H1 e1 i1 => ?_) fun _ _ q=>q.ext r.ext⟩
 exact zkz (r.step e1) i1 (Res.need_bind n1) fun sd' σ' p _ r'=>p σ' F1 H1 e1.ff r'
end
def SpDO (K:PySem.W.Frag)(j:Nat)(Fn:List D→Res D):Sp:=fun vs H Q _ => ∃ F ds d l,Same F H∧vs.length=ds.length∧ds[j]? = some d∧vs[j]? = some (.ref l)∧F l=none∧zcI K F H l d∧(∀ i e,i≠j→ds[i]? = some e→∃ v,vs[i]? = some v∧IsD K F e v)∧(Fn ds).need (OkD K F (delH H l) Q) (XW K E0 F (delH H l))
def zdF (n ar j:Nat)(g:FS)(ds:List D):Res D:=if ds.length=ar then (g (startO n j ds)).bind fun o=>match o with
 | .ret d=>.ok d
 | .next _=>.ok .non
 | _=>.no else .no
theorem zoc (n ar j:Nat)(g:FS)(ds:List D)(h:ds.length=ar):zdF n ar j g ds=(g (startO n j ds)).bind outV:=by
 unfold zdF
 rw [if_pos h]
 cases g (startO n j ds) with
 | ok o=>cases o<;>rfl
 | ex c fs=>rfl
 | no=>rfl
@[simp] theorem run_dO3 (n:Nat)(g:FS)(a b c:D):zdF n 3 0 g [a,b,c]=(g (some (.own false a)::some (.val b)::some (.val c)::List.replicate (n-3) none)).bind outV:=zoc n 3 0 g [a,b,c] rfl
section
variable {P:Program}{w:World}{K:PySem.W.Frag}{mg:Str→Option Value}{base:Heap}{x qual:Str}{st:Stmt}{f:Addr}{fd:FuncData}{N ps:List Str}{k j:Nat}
theorem zj0 {g:FS}(F:Fun K x qual st f fd)(S:FnScope N ps (zah st))
 (hb:∀ (cdv:Value) (A:Around) (outer:List Env) (s:Shared) (H:Hp) (E:XK),Room k (A.deeper (envOfC qual (zah st) s.heap.objs.size f cdv))→QSs (cxOf CX0 P w K mg base N qual (zah st) f cdv A outer s H E).nox E0 false (zbr st) g) :
 FnOk P w K mg base CX0 (k+1) f fd ps (SpDO K j (zdF N.length ps.length j g)):=by
 refine F.ok S (fun vs H Q E ⟨F,ds,d,l,_,hl,_,_,_,_,_,n⟩ => ?_) fun cdv A outer s H vs Q E hr ⟨F,ds,d,l,hs,hl,hd,hv,hf,ho,h,n⟩=>⟨_,hb cdv A outer s H E hr,?_⟩
 ·unfold zdF at n
  split at n
  ·rw [hl];assumption
  ·exact n.elim
 ·unfold zdF at n
  split at n
  ·refine ⟨⟨F,delH H l,fun _=>none⟩,F,_,RS.startO hs hl hd hv hf ho h,(Res.need_bind n).mono (fun o n1 => ?_) fun _ _ q=>q⟩
   cases o with
   | next sd=>exact fun σ F' H' _ r=>n1 .non F' H' r.ext (IsD.non_iff.mpr rfl)
   | ret d=>exact n1
   | brk sd=>exact n1.elim
   | cont sd=>exact n1.elim
  ·exact n.elim
end
section
variable {X:Cx}{pos:Pos}
def zf0 (i:Nat)(Fn:List D→Res D)(fr:FA):FE:=fun sd=>match sd[i]? with
 | some (some (.own _ d))=>(fr sd).bind fun ds=>Fn (d::ds)
 | _=>.no
@[simp] theorem ev_hand (i:Nat)(Fn:List D→Res D)(fr:FA)(sd:SD):zf0 i Fn fr sd=match sd[i]? with
 | some (some (.own _ d))=>(fr sd).bind fun ds=>Fn (d::ds)
 | _=>.no:=rfl
theorem zcd {name:Str}{k i:Nat}{ps:List Str}{Fn:List D→Res D}{p rpos:Pos}{e:Expr}{es:List Expr}{fr:FA}(c:za2 X.prog X.w X.K X.mg X.base name k ps (SpDO X.K 0 Fn))(hr:Room k X.A)(hg:Gl X name)(he0:PE X e (tVar i))(ha:QA X E0 es fr)
 (hdb:autoParam ((name == ("__debug__" : Str))=false) zav._auto_1) (he:starEach (e::es) X.env=(false,eval e X.env)::starEach es X.env:=by rfl) (hpl:(backTo pos (starEach es X.env)).any (·.1)=false:=by rfl) :
 QS X E0 false (.Return (some (.Call (.Name name p) (e::es) [] pos)) rpos) (sRet (zf0 i Fn fr)):=PS.weak (zgd (ziM c hr hg (zfu he0 ha he) hdb he hpl)) fun T σ H zh=>by
 obtain ⟨B,F,sd,r,n⟩:=zh
 have n:=Res.need_bind n
 unfold zf0 at n
 split at n
 ·rename_i d hi
  obtain ⟨l,h1,h2,h3,h4,_⟩:=r.own hi
  obtain ⟨o,ho⟩:=h4.has
  refine ⟨.ref l,h1,B,F,sd,r,(Res.need_bind n).mono (fun xs n2 vs F2 H2 e2 i2 => ?_) fun _ _ q=>q.ext r.ext⟩
  show SpDO X.K 0 Fn ((.ref l::vs)++[]) H2 _ E0
  rw [List.append_nil]
  have hf2:F2 l=none:=e2.new l h3 (by rw [ho];simp)
  have ed:Ext B.F0 B.H0 F2 (delH H2 l):=by
   have e:=r.ext.trans e2
   exact ⟨e.ff,zkl e.fh hf2,fun b u q=>by
    have z:b≠l:=fun z=>by rw [z,h2] at q;exact zqn q
    rw [zim z]
    exact e.hh _ _ q,e.new⟩
  refine ⟨F2,d::xs,d,l,e2.fh,by simp [i2.length],rfl,rfl,hf2,h4.ext e2.ff (fun u q=>e2.hh _ _ q),fun i e' hi' q => ?_,n2.mono (fun d' q v F3 H3 e3 i3 => ?_) fun cc fs q=>q.ext ed⟩
  ·cases i with
   | zero=>exact absurd rfl hi'
   | succ i =>
    obtain ⟨v,v1,v2⟩:=i2.get (i:=i) (by simpa using q)
    exact ⟨v,by simpa using v1,v2⟩
  ·exact q v F3 H3 (ed.trans e3) i3
 ·exact n.elim
noncomputable def zda:List Expr→Option (List D)
 | []=>some []
 | .Constant (.str x) _ _::r=>(zda r).map (D.str x :: ·)
 | .Constant (.int i) _ _::r=>(zda r).map (D.int i :: ·)
 | _=>none
noncomputable def ze7 (ds:List D):FA:=fun _=>.ok ds
@[simp] theorem ev_lits (ds:List D)(sd:SD):ze7 ds sd=.ok ds:=rfl
theorem zhJ {E:XK}:∀ {es:List Expr} {ds:List D},zda es=some ds→QA X E es (ze7 ds)
 | [],ds,h=>by
  cases h
  exact zaf
 | e::es,ds,h=>by
  unfold zda at h
  split at h
  ·rename_i hh
   cases hh
  ·rename_i x j p r hh
   cases hh
   cases q:zda es with
   | none=>rw [q] at h;cases h
   | some zs =>
    rw [q] at h
    cases h
    exact zaa zas (zhJ q)
  ·rename_i x j p r hh
   cases hh
   cases q:zda es with
   | none=>rw [q] at h;cases h
   | some zs =>
    rw [q] at h
    cases h
    exact zaa zad (zhJ q)
  ·cases h
structure QSB (X:Cx)(E:XK)(m:Option Bool)(st:Stmt)(g:FS):Prop where
 out:QS X E m st g
structure QEB (X:Cx)(E:XK)(e:Expr)(f:FE):Prop where
 out:QE X E e f
structure QAB (X:Cx)(E:XK)(es:List Expr)(f:FA):Prop where
 out:QA X E es f
structure QSsB (X:Cx)(E:XK)(m:Option Bool)(st:List Stmt)(g:FS):Prop where
 out:QSs X E m st g
section
variable {E:XK}{m:Option Bool}
theorem zdB {st:Stmt}{sts:List Stmt}{g1 g2:FS}(h1:QSB X E m st g1)(h2:QSsB X E m sts g2):QSsB X E m (st::sts) (sSeq g1 g2):=⟨zae h1.out h2.out⟩
theorem zhv {sts:List Stmt}{g:FS}(h:QSs X E m sts g):QSsB X E m sts g:=⟨h⟩
theorem zoI {st:Stmt}{g:FS}(h:QS X E m st g):QSB X E m st g:=⟨h⟩
theorem zmU {P:Program}{w:World}{K:PySem.W.Frag}{mg:Str→Option Value}{base:Heap}{x qual:Str}{st:Stmt}{f:Addr}{fd:FuncData}{N ps:List Str}{k:Nat}{g:FS}(F:Fun K x qual st f fd)(S:FnScope N ps (zah st))
 (hb:∀ (cdv:Value) (A:Around) (outer:List Env) (s:Shared) (H:Hp) (E:XK),Room k (A.deeper (envOfC qual (zah st) s.heap.objs.size f cdv))→QSsB (cxOf CX0 P w K mg base N qual (zah st) f cdv A outer s H E).nox E0 false (zbr st) g) :
 FnOk P w K mg base CX0 (k+1) f fd ps (SpD K (runD N.length ps.length g)):=fn_d F S fun cdv A outer s H E hr=>(hb cdv A outer s H E hr).out
theorem zcD {es:List Expr}{ds:List D}{p:Pos}(h:zda es=some ds):QEB X E (.List es p) (dLst (ze7 ds)):=⟨QN.qe (zaW (zhJ h))⟩
theorem zlV {es:List Expr}{fr:FA}{p:Pos}(h:QAB X E es fr):QEB X E (.List es p) (dLst fr):=⟨QN.qe (zaW h.out)⟩
theorem zlq:QAB X E [] dNil:=⟨zaf⟩
theorem zcU {es xs:List Expr}{p:Pos}{fe:FE}{fr:FA}(h:QEB X E (.List xs p) fe)(r:QAB X E es fr):QAB X E (.List xs p::es) (zab fe fr):=⟨zaa h.out r.out⟩
theorem zhu {i:Nat}{x:Str}{es:List Expr}{fe:FE}{pos' p:Pos}(hN:X.N.Nodup)(hi:X.N[i]? = some x)(hx:Loc X.env.scope x)(he:QEB X E (.List es p) fe)(hf:X.fn x=true∨X.env.scope.names.lookup x=some .local:=by first|exact .inl rfl|exact .inr rfl):QSB X E m (.Assign [.Name x pos'] (.List es p) pos) (sSet i fe):=⟨zan hN hi hx he.out rfl hf⟩
end
noncomputable def zht:D→D→Option D
 | .tup ds,.int k=>if 1≤k∧k≤1000∧ds ≠ []∧ds.length≤1000 then some (.tup (List.replicate k.toNat ds).flatten) else none
 | _,_=>none
theorem zj4 {ds:List D}{k:Int}(h1:1≤k)(h2:k≤1000)(h3:ds ≠ [])(h4:ds.length≤1000):zht (.tup ds) (.int k)=some (.tup (List.replicate k.toNat ds).flatten):=if_pos ⟨h1,h2,h3,h4⟩
theorem zkC:OpD X (binaryOp .Mult) zht:=OpR.weak zlS fun x y H Q zh=>by
 obtain ⟨F,d,e,z,sF,id,ie,hz,q⟩:=zh
 cases d with
 | tup ds =>
  cases e with
  | int k =>
   obtain ⟨⟨h1,h2,h3,h4⟩,rfl⟩:=zck (c:=1≤k∧k≤1000∧ds ≠ []∧ds.length≤1000) hz
   have id':=id
   rw [IsD.tup_iff] at id
   obtain ⟨l,xs,rfl,g1,g2⟩:=id
   have ll:=g2.length
   refine ⟨l,k,xs,rfl,IsD.int_iff.mp ie,(g1.same sF).sq,h1,h2,fun z=>h3 (List.length_eq_zero_iff.mp (by rw [← ll,z];rfl)),by omega,fun k1 => ?_,fun _ p hp => ?_⟩
   ·subst k1
    have e1:(List.replicate (1:Int).toNat ds).flatten=ds:=by
     show (List.replicate 1 ds).flatten=ds
     simp
    rw [e1] at q
    exact q _ F H (.refl sF) id'
   ·have ea:=Ext.alloc sF hp (.tup (List.replicate k.toNat xs).flatten)
    exact q _ _ _ ea (IsD.tup_iff.mpr ⟨p,_,rfl,.of zam,(IsDs.same ea.ff _ _ g2).rep k.toNat⟩)
  | _=>exact zqn hz
 | _=>exact zqn hz
noncomputable def zft (cs us:List Str):List D→Option D
 | [.exc c,.ucl u] => @ite _ (c∈cs∧u∈us) (Classical.propDecidable _) (some (.bl (decide (c=u)))) none
 | _=>none
theorem zcV {cs us:List Str}{c u:Str}(h:c∈cs)(h2:u∈us):zft cs us [.exc c,.ucl u]=some (.bl (decide (c=u))):=@if_pos _ (Classical.propDecidable _) ⟨h,h2⟩ _ _ _
theorem zh1 {cs us:List Str}{ds:List D}{z:D}(hz:zft cs us ds=some z):∃ c u,c∈cs∧u∈us∧ds=[.exc c,.ucl u]∧z=.bl (decide (c=u)):=by
 cases ds with
 | nil=>exact zqn hz
 | cons d ds =>
  cases d with
  | exc c =>
   cases ds with
   | nil=>exact zqn hz
   | cons e ds =>
    cases e with
    | ucl u =>
     cases ds with
     | nil =>
      obtain ⟨⟨hm,hu⟩,rfl⟩:=zck (c:=c∈cs∧u∈us) hz
      exact ⟨_,_,hm,hu,rfl,rfl⟩
     | cons _ _=>exact zqn hz
    | _=>exact zqn hz
  | _=>exact zqn hz
theorem zaR {K:PySem.W.Frag}{C:Addr}:PySem.W.kitOne K (.ref C) (.ref C)=some true:=by
 unfold PySem.W.kitOne
 rw [if_pos (beq_iff_eq.mpr rfl)]
theorem zgb {cs us:List Str}(he:∀ c∈cs,∀ C,PySem.W.nsIn X.K mainGlobals c=some (some (.ref C))→ExcCl X.K C)
 (hn:∀ c∈cs,∀ C,PySem.W.nsIn X.K mainGlobals c=some (some (.ref C))→∀ u∈us,∀ U,PySem.W.nsIn X.K mainGlobals u=some (some (.ref U))→PySem.W.kitOne X.K (.ref C) (.ref U)=some (decide (c=u))):zaJ X (.builtin "isinstance") (rDA X.K (zft cs us)):=by
 rintro pins s σ H xs ws Q I r ⟨F,ds,z,sF,id,hz,q⟩
 obtain ⟨c,u,hc,hu,rfl,rfl⟩:=zh1 hz
 obtain ⟨v1,v2,rfl,i1,i2⟩:=zgZ id
 obtain ⟨u1,u2,rfl,ra,rb⟩:=r.two
 obtain ⟨a,C,rfl,hC,hF⟩:=IsD.exc_iff.mp i1
 obtain ⟨U,rfl,hU⟩:=IsD.ucl_iff.mp i2
 obtain rfl:u1=Value.ref a:=ra
 obtain rfl:u2=Value.ref U:=rb
 obtain ⟨⟨o,ho,hcl⟩,_⟩:=I.hok a _ (sF _ _ hF)
 exact PySem.W.kia_one (zfX (he c hc C hC)) I.kIn ⟨o,ho,hcl⟩ (hn c hc C hC u hu U hU) (fun z=>nomatch z) fun tk=>⟨.bl _,H,I.tok _,rfl,q _ F H (.refl sF) (IsD.bl_iff.mpr rfl)⟩
end
end L2.DL
namespace L2.DL
open PySem PySem.Spec PyProof.Rows
section
variable {K:PySem.W.Frag}{B:Bs}{F H:Hp}{sd:SD}{hp:HP}{σ : St}
theorem zel {α : Type}{l:List α}{i:Nat}{a : α}(h:l[i]? = some a):l.set i a=l:=by
 apply List.ext_getElem?
 intro j
 by_cases z:i=j
 ·subst z
  rw [List.getElem?_set_self (List.getElem?_eq_some_iff.mp h).1,h]
 ·rw [List.getElem?_set_ne z]
end
end L2.DL
set_option maxHeartbeats 4000000
namespace My
open PySem L2 L2.DL
noncomputable def mixF (cell salt:Int):Int:=((cell % 2147483647+salt)*48271 % 2147483647)*((cell % 2147483647+salt)*48271 % 2147483647) % 2147483629
noncomputable def zlR (ns:List Int)(k:Int):Int:=ns.getD k.toNat 0
theorem zkD:plN 12 (.lst [])=true:=rfl
theorem zln (r:List Int):plN 12 (.lst (r.map D.int))=true:=by
 show (r.map D.int).all (plN 11)=true
 rw [List.all_map,List.all_eq_true]
 exact fun p _=>rfl
theorem zcS {α : Type}(f : α → D)(l:List α):sameD (.lst (l.map f)) (.lst [])=l.isEmpty:=by
 cases l with
 | nil=>exact zbK _
 | cons x r=>exact zcj.mpr fun h=>by injection h with h;(first|exact zqn h|exact zqb h|(obtain rfl:=Option.some.inj h)|cases h)
theorem zed {α : Type}{l:List α}{k:Nat}(h:k<l.length):atI l (k:Int)=l[k]? := by
 unfold atI ixN
 rw [if_pos (by omega),if_pos (by omega),Int.toNat_natCast]
 rfl
theorem zd8 {α : Type}{f : α → D}{l:List α}{i:Nat}{x:D}(h:(l.map f)[i]? = some x):∃ p,l[i]? = some p∧x=f p:=by
 rw [List.getElem?_map] at h
 cases q:l[i]? with
 | none=>rw [q] at h;(first|exact zqn h|exact zqb h|(obtain rfl:=Option.some.inj h)|cases h)
 | some p=>rw [q] at h;exact ⟨p,rfl,(Option.some.inj h).symm⟩
structure RowOk (n:Int)(r:List (Int×Int)):Prop where
 ne:r ≠ []
 once:Once r
 mem:∀ p∈r,0≤p.1∧p.1<n
 len:r.length≤12
def frD (f:List (List (Int×Int))):D:=.lst (f.map rwD)
@[simp] theorem gList_fr (f:List (List (Int×Int))):zbM [frD f]=some (frD f):=rfl
@[simp] theorem walkS_fr (f:List (List (Int×Int))):zg8 (frD f)=some (f.map rwD):=rfl
@[simp] theorem walkS_rw (r:List (Int×Int)):zg8 (rwD r)=some (r.map prD):=rfl
@[simp] theorem gLen_fr (f:List (List (Int×Int))):gLen [frD f]=some (.int f.length):=by show some (D.int (f.map rwD).length)=_;rw [List.length_map]
@[simp] theorem zlB (f:List (List (Int×Int))):gIsi [frD f,.ty "list"]=some (.bl true):=rfl
@[simp] theorem zk5 (f:List (Int×Int)):gIsi [rwD f,.ty "tuple"]=some (.bl true):=rfl
@[simp] theorem zkY (p:Int×Int):gIsi [prD p,.ty "tuple"]=some (.bl true):=rfl
@[simp] theorem gLen_pr (p:Int×Int):gLen [prD p]=some (.int 2):=rfl
@[simp] theorem gIx_pr0 (p:Int×Int):gIx (prD p) (.int 0)=some (.int p.1):=rfl
@[simp] theorem gIx_pr1 (p:Int×Int):gIx (prD p) (.int 1)=some (.int p.2):=rfl
theorem pl_rw (n:Nat)(r:List (Int×Int)):plN (n+3) (rwD r)=true:=by
 show (r.map prD).all (plN (n+2))=true
 rw [List.all_map,List.all_eq_true]
 exact fun p _=>rfl
structure FormOk (n:Int)(f:List (List (Int×Int))):Prop where
 ne:f ≠ []
 rows:∀ r∈f,RowOk n r
 len:f.length≤100
noncomputable def Rise (r:List (Int×Int)):Prop:=(r.map (·.1)).Pairwise (· < ·)
theorem zdh {α : Type}(l:List α){k:Int}(h0:0≤k):zbw l none (some k) none=l.take k.toNat:=by
 have e:sliceBounds none (some k) none l.length=(((0:Nat):Int),((min k.toNat l.length:Nat):Int),1):=by
  unfold sliceBounds
  simp only [Option.getD_none]
  simp
  omega
 unfold zbw
 rw [e]
 show (sliceRange _ _ 1).filterMap _=_
 have p:=pick_run l.toArray 0 (min k.toNat l.length-0)
 rw [sliceRange_one]
 have ep:(fun x:Nat=>l[x]?)=fun x:Nat=>l.toArray[x]? := by funext x;simp
 rw [ep,p]
 simp
theorem zhK {α : Type}(l:List α){k:Int}(h0:0≤k):zbw l (some k) none none=l.drop k.toNat:=by
 have e:sliceBounds (some k) none none l.length=(((min k.toNat l.length:Nat):Int),(l.length:Int),1):=by
  obtain ⟨j,rfl⟩:=Int.eq_ofNat_of_zero_le h0
  unfold sliceBounds
  simp only [Option.getD_none]
  simp
  rw [if_neg (Int.not_lt.mpr h0)]
  have e:min (j:Int) (l.length:Int)=((min j l.length:Nat):Int):=by
   rcases Nat.le_total j l.length with h|h
   ·rw [Nat.min_eq_left h,Int.min_eq_left (Int.ofNat_le.mpr h)]
   ·rw [Nat.min_eq_right h,Int.min_eq_right (Int.ofNat_le.mpr h)]
  rw [e]
  exact Int.max_eq_right (Int.natCast_nonneg _)
 unfold zbw
 rw [e]
 show (sliceRange _ _ 1).filterMap _=_
 have p:=pick_run l.toArray (min k.toNat l.length) (l.length-min k.toNat l.length)
 rw [sliceRange_one]
 have ep:(fun x:Nat=>l[x]?)=fun x:Nat=>l.toArray[x]? := by funext x;simp
 rw [ep,p]
 simp
 by_cases c:k.toNat≤l.length
 ·rw [Nat.min_eq_left c,List.take_of_length_le (by simp)]
 ·rw [Nat.min_eq_right (by omega),List.drop_eq_nil_of_le (Nat.le_refl _),List.drop_eq_nil_of_le (by omega)]
  exact List.take_nil
structure ThingsOk (ts:List Int):Prop where
 ne:ts ≠ []
 len:ts.length≤4
 rng:∀ t∈ts,0≤t∧t<12
 up:ts.Pairwise (· < ·)
theorem zhA {r:List (Int×Int)}(h:Rise r):Once r:=by
 unfold Rise at h
 unfold Once List.Nodup
 exact h.imp fun h e=>by omega
structure Over (f:List (List (Int×Int)))(hs:List Int):Prop where
 ne:f ≠ []
 rne:∀ r∈f,r ≠ []
 once:∀ r∈f,Once r
 bnd:∀ r∈f,∀ p∈r,0≤p.1∧p.1<(hs.length:Int)
structure RoundOk (n:Int)(fs:List (List (List (Int×Int)))):Prop where
 len:(fs.length:Int)=n
 low:1≤n
 most:n≤12
 forms:∀ f∈fs,FormOk n f
theorem RoundOk.over {n:Int}{fs:List (List (List (Int×Int)))}(R:RoundOk n fs){hs:List Int}(h:hs.length=fs.length):∀ f∈fs,Over f hs:=fun f hf=>⟨(R.forms f hf).ne,fun r hr=>((R.forms f hf).rows r hr).ne,fun r hr=>((R.forms f hf).rows r hr).once,fun r hr p hp=>by
 have:=((R.forms f hf).rows r hr).mem p hp
 have:=R.len
 omega⟩
def rdD (fs:List (List (List (Int×Int)))):D:=.lst (fs.map frD)
@[simp] theorem walkS_rd (fs:List (List (List (Int×Int)))):zg8 (rdD fs)=some (fs.map frD):=rfl
open L2.ST
structure PairsOk (ts:List Int)(r:List (Int×Int)):Prop where
 ne:r ≠ []
 len:r.length≤4
 mem:∀ p∈r,p.1∈ts
 up:r.Pairwise fun p q=>p.1<q.1
theorem zld {r:List (Int×Int)}(h:r.Pairwise fun p q=>p.1<q.1):Once r:=by
 unfold Once List.Nodup
 rw [List.pairwise_map]
 exact h.imp fun h e=>by omega
theorem PairsOk.row {ts:List Int}{r:List (Int×Int)}(T:ThingsOk ts)(P:PairsOk ts r):RowOk 12 r:=⟨P.ne,zld P.up,fun p hp=>T.rng _ (P.mem p hp),Nat.le_trans P.len (by omega)⟩
structure JRow (r:List (Int×Int)):Prop where
 ne:r ≠ []
 rise:Rise r
 bnd:∀ p∈r,0≤p.1∧p.1<12
theorem JRow.once {r:List (Int×Int)}(h:JRow r):Once r:=zhA h.rise
theorem JRow.len {r:List (Int×Int)}(h:JRow r):r.length≤12:=by
 have up:(r.map (·.1)).Pairwise (· < ·):=h.rise
 have key:∀ (l:List Int) (a:Int),l.Pairwise (· < ·)→(∀ x∈l,a≤x∧x<12)→(l.length:Int)≤max 0 (12-a):=by
  intro l
  induction l with
  | nil=>intro a _ _;simp;omega
  | cons x l ih =>
   intro a hp hb
   rw [List.pairwise_cons] at hp
   have h1:=hb x List.mem_cons_self
   have:=ih (x+1) hp.2 fun y hy=>⟨by have:=hp.1 y hy;omega,(hb y (List.mem_cons_of_mem _ hy)).2⟩
   rw [List.length_cons]
   omega
 have:=key _ 0 up fun x hx=>by
  refine zc1b (List.mem_map.mp hx) fun p hp zr2 => ?_
  obtain rfl:=zr2
  exact h.bnd p hp
 rw [List.length_map] at this
 omega
noncomputable def asc (x:Str):Prop:=x.cps.all (· < 128)=true
theorem zbG {x:Str}:asc x↔∀ c∈x.cps.toList,c<128:=by
 unfold asc
 rw [← Array.all_toList,List.all_eq_true]
 exact ⟨fun h c hc=>of_decide_eq_true (h c hc),fun h c hc=>decide_eq_true (h c hc)⟩
theorem zbF (a b:Str):(a++b).length=a.length+b.length:=Array.size_append
theorem zaO (a b:Str):(a++b).cps.toList=a.cps.toList++b.cps.toList:=Array.toList_append
theorem zmz {a b:Str}(ha:asc a)(hb:asc b):asc (a++b):=zbG.mpr fun c hc=>by
 rw [zaO] at hc
 rcases List.mem_append.mp hc with h|h
 ·exact zbG.mp ha c h
 ·exact zbG.mp hb c h
theorem zh7 {x:Str}{l u:Option Int}{c:Nat}(h:c∈(Txt.slice x l u).cps.toList):c∈x.cps.toList:=by
 unfold Txt.slice at h
 split at h
 ·exact h
 ·obtain ⟨i,_,hi⟩:=List.mem_filterMap.mp h
  exact Array.mem_toList_iff.mpr (Array.mem_of_getElem? hi)
theorem zhg {x:Str}{l u:Option Int}(h:asc x):asc (Txt.slice x l u):=zbG.mpr fun c hc=>zbG.mp h c (zh7 hc)
structure TxtOk (n:Nat)(x:Str):Prop where
 len:x.length≤n
 asc:asc x
theorem TxtOk.app {m n:Nat}{a b:Str}(ha:TxtOk m a)(hb:TxtOk n b):TxtOk (m+n) (a++b):=⟨by rw [zbF];have:=ha.len;have:=hb.len;omega,zmz ha.asc hb.asc⟩
theorem TxtOk.cut {n:Nat}{a:Str}(ha:TxtOk n a)(l u:Option Int):TxtOk n (Txt.slice a l u):=⟨Nat.le_trans (Txt.slice_le a l u) ha.len,zhg ha.asc⟩
theorem TxtOk.mono {m n:Nat}{a:Str}(ha:TxtOk m a)(h:m≤n):TxtOk n a:=⟨Nat.le_trans ha.len h,ha.asc⟩
theorem zow {c:Nat}(h:c<128):TxtOk 1 ⟨#[c]⟩:=⟨Nat.le_refl _,zbG.mpr fun d hd=>by rw [List.mem_singleton.mp hd];exact h⟩
theorem zaG {n:Nat}{x:Str}(h:(decide (x.length≤n)&&x.cps.all (· < 128))=true):TxtOk n x:=by
 rw [Bool.and_eq_true] at h
 exact ⟨of_decide_eq_true h.1,h.2⟩
theorem zaV {m n:Nat}{a b:Str}(ha:TxtOk m a)(hb:TxtOk n b)(h:m+n≤1000):gAdd (.str a) (.str b)=some (.str (a++b)):=if_pos (zbs (by have:=ha.len;have:=hb.len;omega))
theorem zjR {n:Nat}{a:Str}(ha:TxtOk n a)(h:n≤1000):gLen [.str a]=some (.int a.length):=if_pos (zbs (by have:=ha.len;omega))
theorem zja {n:Nat}{a:Str}{k:Int}(ha:TxtOk n a)(h:n≤1000)(k0:0≤k)(k1:k<(a.length:Int)):∃ c,gIx (.str a) (.int k)=some (.str ⟨#[c]⟩)∧a.cps.toList[k.toNat]? = some c∧c<128:=by
 have hl:k.toNat<a.cps.toList.length:=by
  rw [Array.length_toList]
  have:a.length=a.cps.size:=rfl
  omega
 refine ⟨a.cps.toList[k.toNat],?_,List.getElem?_eq_getElem hl,zbG.mp ha.asc _ (List.getElem_mem hl)⟩
 show (if a.length≤sizeLine then (atI a.cps.toList k).map fun c=>D.str ⟨#[c]⟩ else none)=_
 rw [if_pos (zbs (by have:=ha.len;omega))]
 have e:atI a.cps.toList k=some a.cps.toList[k.toNat]:=by
  unfold atI ixN
  rw [if_pos k0,if_pos (by rw [Array.length_toList];exact k1)]
  exact List.getElem?_eq_getElem hl
 rw [e]
 rfl
theorem zl4 {l:List D}{k:Int}(k0:0≤k)(k1:k<(l.length:Int)):∃ d∈l,atI l k=some d:=by
 have hl:k.toNat<l.length:=by omega
 refine ⟨l[k.toNat],List.getElem_mem hl,?_⟩
 unfold atI ixN
 rw [if_pos k0,if_pos k1]
 exact List.getElem?_eq_getElem hl
theorem zg2:TxtOk 26 "abcdefghijklmnopqrstuvwxyz" := zaG (by decide +kernel)
theorem zfh:(("abcdefghijklmnopqrstuvwxyz" : Str).length:Int)=26:=by decide +kernel
theorem zkh:∀ k:Fin 64,(Nat.ble (k.val:Int).natAbs.log2 1900=true)∧(decide ((toString (k.val:Int):Str).length≤2)&&(toString (k.val:Int):Str).cps.all (· < 128))=true:=by decide +kernel
noncomputable def letF (k:Nat):Str:=⟨#[97+k]⟩
def zcz (k:Nat):Str:=letF (k % 26)++letF (k / 26 % 26)
noncomputable def digF (k:Nat):Str:=(toString (k:Int):Str)
def nmF (q:Int)(base:Str)(k:Nat):Str:=if q=0 then "x" ++ base++digF k else if q=1 then "y" ++ digF k++base else if q=2 then "q" ++ base++zcz k else zcz k ++ "q" ++ base
theorem zdT:∀ k:Fin 26,(("abcdefghijklmnopqrstuvwxyz" : Str).cps.toList)[k.val]? = some (97+k.val):=by decide +kernel
theorem zcw {k:Int}(k0:0≤k)(k1:k<26):gIx (.str "abcdefghijklmnopqrstuvwxyz") (.int k)=some (.str (letF k.toNat)):=by
 obtain ⟨c,h1,h2,_⟩:=zja zg2 (by omega) k0 (by rw [zfh];exact k1)
 have h3:=zdT ⟨k.toNat,by omega⟩
 rw [h2] at h3
 rw [h1,Option.some.inj h3]
 rfl
theorem zbB {k:Nat}(h:k<64):gStr [.int (k:Int)]=some (.str (digF k))∧TxtOk 2 (digF k):=by
 obtain ⟨h1,h2⟩:=zkh ⟨k,h⟩
 exact ⟨if_pos h1,zaG h2⟩
theorem zdS {k:Nat}(h:k<26):TxtOk 1 (letF k):=zow (by omega)
theorem zhh (k:Nat):TxtOk 2 (zcz k):=(zdS (Nat.mod_lt _ (by omega))).app (zdS (Nat.mod_lt _ (by omega)))
theorem zl8 {q:Int}{base:Str}{k:Nat}(h:k<64)(hb:TxtOk 9 base):TxtOk 12 (nmF q base k):=by
 have okx:TxtOk 1 "x" := zaG (by decide +kernel)
 have oky:TxtOk 1 "y" := zaG (by decide +kernel)
 have okq:TxtOk 1 "q" := zaG (by decide +kernel)
 have ok:=(zbB h).2
 have oksp:=zhh k
 unfold nmF
 repeat' split
 ·exact ((okx.app hb).app ok).mono (by omega)
 ·exact ((oky.app ok).app hb).mono (by omega)
 ·exact ((okq.app hb).app oksp).mono (by omega)
 ·exact ((oksp.app okq).app hb).mono (by omega)
noncomputable def low (x:Str):Prop:=∀ c∈x.cps.toList,97≤c∧c<123
theorem zhw {a b:Str}(ha:low a)(hb:low b):low (a++b):=fun c hc=>by
 rw [zaO] at hc
 rcases List.mem_append.mp hc with h|h
 ·exact ha c h
 ·exact hb c h
theorem zfA {k:Nat}(h:k<26):low (letF k):=fun c hc=>by
 rw [List.mem_singleton.mp hc]
 omega
@[simp] theorem run_d5 (n:Nat)(g:FS)(a b c d e:D):runD n 5 g [a,b,c,d,e]=(g (some (.val a)::some (.val b)::some (.val c)::some (.val d)::some (.val e)::List.replicate (n-5) none)).bind outV:=zjF n 5 g [a,b,c,d,e] rfl
structure Pl where
 name:Str
 givens:List Str
 rows:List (Str×Str×List (Int×Int))
def rowD (r:Str×Str×List (Int×Int)):D:=.tup [.str r.1,.str r.2.1,rwD r.2.2]
def zai (p:Pl):D:=.tup [.str p.name,.lst (p.givens.map .str),.lst (p.rows.map rowD)]
def zaZ (p:Pl):D:=.ins "Plan" ["name", "givens", "rows"] [.str p.name,.lst (p.givens.map .str),.lst (p.rows.map rowD)]
def zbl (ps:List Pl):D:=.ins "Book" ["plans"] [.lst (ps.map zaZ)]
noncomputable def prtD (p:Str×Int):D:=.tup [.str p.1,.int p.2]
structure ItOk (ahead:Int)(its:List (Int×Int)):Prop where
 rng:∀ p∈its,0≤p.1∧p.1<ahead
 far:∀ p∈its,-1000000000000000000000000000000<p.2∧p.2<1000000000000000000000000000000
@[simp] theorem gIx_row0 (r:Str×Str×List (Int×Int)):gIx (rowD r) (.int 0)=some (.str r.1):=rfl
@[simp] theorem gIx_row1 (r:Str×Str×List (Int×Int)):gIx (rowD r) (.int 1)=some (.str r.2.1):=rfl
@[simp] theorem gIx_row2 (r:Str×Str×List (Int×Int)):gIx (rowD r) (.int 2)=some (rwD r.2.2):=rfl
@[simp] theorem zng (p:Pl):gIx (zai p) (.int 0)=some (.str p.name):=rfl
@[simp] theorem znr (p:Pl):gIx (zai p) (.int 1)=some (.lst (p.givens.map .str)):=rfl
@[simp] theorem zoj (p:Pl):gIx (zai p) (.int 2)=some (.lst (p.rows.map rowD)):=rfl
@[simp] theorem gIx_prt0 (p:Str×Int):gIx (prtD p) (.int 0)=some (.str p.1):=rfl
@[simp] theorem gIx_prt1 (p:Str×Int):gIx (prtD p) (.int 1)=some (.int p.2):=rfl
@[simp] theorem zoh (ps:List Pl):gFld "Book" "plans" (zbl ps)=some (.lst (ps.map zaZ)):=rfl
@[simp] theorem fld_name (p:Pl):gFld "Plan" "name" (zaZ p)=some (.str p.name):=rfl
@[simp] theorem zmF (p:Pl):gFld "Plan" "givens" (zaZ p)=some (.lst (p.givens.map .str)):=rfl
@[simp] theorem fld_rows (p:Pl):gFld "Plan" "rows" (zaZ p)=some (.lst (p.rows.map rowD)):=rfl
noncomputable def za6 (ps:List Pl):List (Str×Int):=ps.map fun p=>(p.name,(p.givens.length:Int))
noncomputable def zk2 (parts:List (Str×Int))(how:Str)(n:Nat):Prop:=how = "all" ∨ how = "first" ∨ (how,(n:Int))∈parts
structure RwOk (parts:List (Str×Int))(ahead:Int)(r:Str×Str×List (Int×Int)):Prop where
 how:zk2 parts r.2.1 r.2.2.length
 its:ItOk ahead r.2.2
 low:1≤r.2.2.length
 top:r.2.2.length≤40
theorem zdR {n:Nat}{x:Str}(h:asc x):plN (n+1) (.str x)=true:=by
 show PyData.strOk x=true
 unfold PyData.strOk
 rw [← Array.all_toList,List.all_eq_true]
 exact fun c hc=>decide_eq_true (Nat.lt_trans (zbG.mp h c hc) (by omega))
noncomputable def zfZ (parts:List (Str×Int)):Prop:=∀ p∈parts,TxtOk 12 p.1∧1≤p.2∧p.2≤12
theorem zlE (n:Nat){l:List (Str×Int)}(h:zfZ l):plN (n+3) (.lst (l.map prtD))=true:=by
 show (l.map prtD).all (plN (n+2))=true
 rw [List.all_eq_true]
 intro x hx
 obtain ⟨y,hy,rfl⟩:=List.mem_map.mp hx
 show [D.str y.1,D.int y.2].all (plN (n+1))=true
 rw [List.all_cons,zdR (h y hy).1.asc]
 rfl
theorem zmc {α : Type}{f : α → D}{l:List α}(h:plN 12 (.lst (l.map f))=true):gNe (.lst (l.map f)) (.lst [])=some (.bl (!l.isEmpty)):=by
 rw [zji h zkD,zcS]
theorem zlN {α : Type}{f : α → D}{l:List α}(h:plN 12 (.lst (l.map f))=true):gEq (.lst (l.map f)) (.lst [])=some (.bl l.isEmpty):=by
 rw [zkV h zkD,zcS]
theorem zkA {α : Type}{f : α → D}{l:List α}{k:Int}(k0:0≤k)(k1:k<(l.length:Int)):∃ x∈l,atI (l.map f) k=some (f x):=by
 obtain ⟨d,hd,e⟩:=zl4 (l:=l.map f) (k:=k) k0 (by rw [List.length_map];exact k1)
 obtain ⟨x,hx,rfl⟩:=List.mem_map.mp hd
 exact ⟨x,hx,e⟩
theorem zfg:((List.range 60).map fun k=>(digF k).cps.toList).Nodup:=by decide +kernel
theorem zfI:((List.range 60).map fun k=>(zcz k).cps.toList).Nodup:=by decide +kernel
theorem zbZ {α : Type}{f:Nat → α}{n:Nat}(h:((List.range n).map f).Nodup){a b:Nat}(ha:a<n)(hb:b<n)(e:f a=f b):a=b:=by
 have h:=List.pairwise_iff_getElem.mp (List.pairwise_map.mp h)
 rcases Nat.lt_trichotomy a b with z|z|z
 ·exact absurd (by rw [List.getElem_range,List.getElem_range];exact e) (h a b (by rw [List.length_range];exact ha) (by rw [List.length_range];exact hb) z)
 ·exact z
 ·exact absurd (by rw [List.getElem_range,List.getElem_range];exact e.symm) (h b a (by rw [List.length_range];exact hb) (by rw [List.length_range];exact ha) z)
theorem znX {q:Int}{base:Str}{a b:Nat}(ha:a<60)(hb:b<60)(e:nmF q base a=nmF q base b):a=b:=by
 have h:(nmF q base a).cps.toList=(nmF q base b).cps.toList:=by rw [e]
 unfold nmF at h
 split at h
 ·simp only [zaO,List.append_cancel_left_eq] at h
  exact zbZ zfg ha hb h
 ·split at h
  ·simp only [zaO,List.append_cancel_left_eq,List.append_cancel_right_eq] at h
   exact zbZ zfg ha hb h
  ·split at h
   ·simp only [zaO,List.append_cancel_left_eq] at h
    exact zbZ zfI ha hb h
   ·simp only [zaO,List.append_cancel_right_eq] at h
    exact zbZ zfI ha hb h
theorem zgr (q:Int)(base:Str){n:Nat}(h:n≤60):((List.range n).map (nmF q base)).Nodup:=by
 rw [List.nodup_iff_pairwise_ne,List.pairwise_map]
 refine List.Pairwise.imp_of_mem (fun {a b} ma mb hn e=>hn ?_) (List.nodup_iff_pairwise_ne.mp List.nodup_range)
 exact znX (by have:=List.mem_range.mp ma;omega) (by have:=List.mem_range.mp mb;omega) e
noncomputable def zcC (l:List Nat):Bool:=l[0]? == some 120||l[0]? == some 121||l[0]? == some 113||l[2]? == some 113
theorem zcX (q:Int)(base:Str)(k:Nat):zcC (nmF q base k).cps.toList=true:=by
 have hx:("x" : Str).cps.toList=[120]:=by decide +kernel
 have hy:("y" : Str).cps.toList=[121]:=by decide +kernel
 have hq:("q" : Str).cps.toList=[113]:=by decide +kernel
 unfold nmF zcC
 split
 ·simp [zaO,hx]
 ·split
  ·simp [zaO,hy]
  ·split
   ·simp [zaO,hq]
   ·have hs:(zcz k).cps.toList=[97+k % 26,97+k / 26 % 26]:=by
     unfold zcz
     rw [zaO]
     rfl
    simp [zaO,hq,hs]
theorem zjS {q:Int}{base w:Str}{k:Nat}(h:zcC w.cps.toList=false):nmF q base k≠w:=fun e=>by
 have:=zcX q base k
 rw [e,h] at this
 first|exact zqn this|exact zqb this|(obtain rfl:=Option.some.inj this)|cases this
theorem zlc (q:Int)(base:Str)(k:Nat):1≤(nmF q base k).length:=by
 have h:=zcX q base k
 have e:(nmF q base k).length=(nmF q base k).cps.toList.length:=rfl
 cases l:(nmF q base k).cps.toList with
 | nil=>rw [l] at h;(first|exact zqn h|exact zqb h|(obtain rfl:=Option.some.inj h)|cases h)
 | cons a r=>rw [e,l];simp
structure WB (ps:List Pl):Prop where
 l1:1≤ps.length
 l2:ps.length≤20
 nd:(ps.map (·.name)).Nodup
 ok:∀ p∈ps,TxtOk 12 p.name∧1≤p.name.length∧p.name ≠ "all" ∧ p.name ≠ "first"
 how:∀ (i:Nat) (p:Pl),ps[i]? = some p→∀ r∈p.rows,r.2.1 = "all" ∨ r.2.1 = "first" ∨ r.2.1∈(ps.take i).map (·.name)
 sz:∀ p∈ps,p.rows.length≤40∧p.givens.length≤12
@[simp] theorem ev_tmpN (is:List Nat)(f:FE)(sd:SD):zfC is f sd=(f (frzD is sd)).bare.bind fun d=>if zl1 d then .ok d else .no:=rfl
@[simp] theorem ev_make (c:Str)(names:List Str)(Fn:List D→Res (List D))(fa:FA)(sd:SD):ziY c names Fn fa sd=(fa sd).bind fun ds=>(Fn ds).bind fun es=>.ok (.ins c names es):=rfl
theorem ziS (l:List (Str×Int)):zl1 (.lst (l.map prtD))=true:=by
 show (l.map prtD).all zj1=true
 rw [List.all_eq_true]
 intro x hx
 obtain ⟨y,_,rfl⟩:=List.mem_map.mp hx
 rfl
@[simp] theorem zn7 (i j k:Nat)(r:Str×Str×List (Int×Int))(sd:SD):zb1 (.tup [i,j,k]) (rowD r) sd=.ok (((sd.set i (some (.val (.str r.1)))).set j (some (.val (.str r.2.1)))).set k (some (.val (rwD r.2.2)))):=rfl
@[simp] theorem zn0 (x:Str):zb5 (.str x)=some (.inr x):=rfl
noncomputable def dT (t:List (Str×Int)):D:=.dct (t.map fun p=>.inr p.1) (t.map fun p=>.int p.2)
noncomputable def lkT (t:List (Str×Int))(x:Str):Option Int:=(t.find? fun p=>decide (p.1=x)).map (·.2)
theorem zfn {a b:Str}:((Sum.inr a:Key)=.inr b)↔a=b:=⟨fun z=>by injection z,fun z=>by rw [z]⟩
theorem zjY:∀ (t:List (Str×Int)) (x:Str),valD (t.map fun p=>.inr p.1) (t.map fun p=>.int p.2) (.inr x)=(lkT t x).map .int
 | [],_=>rfl
 | p::t,x=>by
  rw [List.map_cons,List.map_cons]
  unfold valD lkT
  rw [List.find?_cons]
  by_cases h:p.1=x
  ·rw [if_pos (zfn.mpr h),decide_eq_true h]
   rfl
  ·rw [if_neg (fun z=>h (zfn.mp z)),decide_eq_false h]
   exact zjY t x
@[simp] theorem gIx_T (t:List (Str×Int))(x:Str):gIx (dT t) (.str x)=(lkT t x).map .int:=zjY t x
@[simp] theorem gIn_T (neg:Bool)(t:List (Str×Int))(x:Str):gIn neg (.str x) (dT t)=some (.bl (if neg then !(lkT t x).isSome else (lkT t x).isSome)):=by
 show some (D.bl (if neg then !(valD (t.map fun p=>.inr p.1) (t.map fun p=>.int p.2) (.inr x)).isSome else (valD (t.map fun p=>.inr p.1) (t.map fun p=>.int p.2) (.inr x)).isSome))=_
 rw [zjY,Option.isSome_map]
theorem zmQ (t:List (Str×Int))(x:Str):hasK (.inr x) (t.map fun p=>.inr p.1)=t.any fun p=>decide (p.1=x):=by
 unfold hasK
 rw [List.any_map]
 congr 1
 funext p
 exact decide_eq_decide.mpr zfn
theorem put_T {t:List (Str×Int)}{x:Str}(h:x∉t.map (·.1))(v:Int):D.dct (zfq (t.map fun p=>.inr p.1) (.inr x)) (zg9 (t.map fun p=>.inr p.1) (t.map fun p=>.int p.2) (.inr x) (.int v))=dT (t++[(x,v)]):=by
 have hk:hasK (.inr x) (t.map fun p=>.inr p.1)=false:=by
  rw [zmQ,List.any_eq_false]
  intro p hp z
  exact h (List.mem_map.mpr ⟨p,hp,of_decide_eq_true z⟩)
 unfold zfq zg9 dT
 rw [hk,if_neg (by simp),if_neg (by simp),List.map_append,List.map_append]
 rfl
theorem zfa {t:List (Str×Int)}{x:Str}:lkT t x=none↔x∉t.map (·.1):=by
 unfold lkT
 rw [Option.map_eq_none_iff,List.find?_eq_none]
 constructor
 ·intro h z
  obtain ⟨p,hp,e⟩:=List.mem_map.mp z
  exact h p hp (decide_eq_true e)
 ·intro h p hp z
  exact h (List.mem_map.mpr ⟨p,hp,of_decide_eq_true z⟩)
theorem zkK {a b:List (Str×Int)}{x:Str}(h:x∉a.map (·.1)):lkT (a++b) x=lkT b x:=by
 unfold lkT
 rw [List.find?_append,show a.find? (fun p=>decide (p.1=x))=none from Option.map_eq_none_iff.mp (zfa.mpr h)]
 rfl
theorem znO (x:Str)(v:Int)(b:List (Str×Int)):lkT ((x,v)::b) x=some v:=by
 unfold lkT
 rw [List.find?_cons,decide_eq_true rfl]
 rfl
noncomputable def isP (how:Str):Bool:=!(decide (how = "all")||decide (how = "first"))
def wt1 (t:List (Str×Int))(p:Pl):Int:=p.rows.length+((p.rows.filter fun r=>isP r.2.1).map fun r=>(lkT t r.2.1).getD 0).sum
def wtS (t:List (Str×Int))(p:Pl):List (Str×Int):=t++[(p.name,wt1 t p)]
def wtF (ps:List Pl):List (Str×Int):=ps.foldl wtS []
theorem zdc (ps:List Pl)(p:Pl):wtF (ps++[p])=wtF ps++[(p.name,wt1 (wtF ps) p)]:=by
 unfold wtF
 rw [List.foldl_append]
 rfl
theorem zhP:∀ (l:List Pl) (t:List (Str×Int)),∃ u,l.foldl wtS t=t++u
 | [],t=>⟨[],by simp⟩
 | p::l,t=>by
  obtain ⟨u,e⟩:=zhP l (wtS t p)
  exact ⟨(p.name,wt1 t p)::u,by rw [List.foldl_cons,e];unfold wtS;simp⟩
theorem zig:∀ (l:List Pl) (t:List (Str×Int)),(l.foldl wtS t).map (·.1)=t.map (·.1)++l.map (·.name)
 | [],t=>by simp
 | p::l,t=>by
  rw [List.foldl_cons,zig l]
  unfold wtS
  simp
theorem zcl (l:List Pl):(wtF l).map (·.1)=l.map (·.name):=by
 unfold wtF
 rw [zig]
 rfl
theorem WB.fresh {ps:List Pl}(W:WB ps){i:Nat}{p:Pl}(hi:ps[i]? = some p):p.name∉(wtF (ps.take i)).map (·.1):=by
 rw [zcl]
 intro z
 have hlt:i<ps.length:=(List.getElem?_eq_some_iff.mp hi).1
 obtain ⟨y,hy,e⟩:=List.mem_map.mp z
 obtain ⟨j,hj,ej⟩:=List.getElem_of_mem hy
 rw [List.length_take] at hj
 have nd:=List.pairwise_iff_getElem.mp (List.pairwise_map.mp W.nd) j i (by omega) hlt (by omega)
 rw [List.getElem_take] at ej
 apply nd
 rw [ej,e,(List.getElem?_eq_some_iff.mp hi).2]
theorem WB.at {ps:List Pl}(W:WB ps){i:Nat}{p:Pl}(hi:ps[i]? = some p):lkT (wtF ps) p.name=some (wt1 (wtF (ps.take i)) p):=by
 have hlt:i<ps.length:=(List.getElem?_eq_some_iff.mp hi).1
 have e:wtF ps=(ps.drop (i+1)).foldl wtS (wtF (ps.take i)++[(p.name,wt1 (wtF (ps.take i)) p)]):=by
  rw [← zdc]
  unfold wtF
  rw [← List.foldl_append]
  congr 1
  have tk:ps.take (i+1)=ps.take i++[p]:=by rw [List.take_succ,hi];rfl
  rw [← tk,List.take_append_drop]
 obtain ⟨u,hu⟩:=zhP (ps.drop (i+1)) (wtF (ps.take i)++[(p.name,wt1 (wtF (ps.take i)) p)])
 rw [e,hu,List.append_assoc,zkK (W.fresh hi)]
 exact znO _ _ _
theorem WB.part {ps:List Pl}(W:WB ps){i:Nat}{p:Pl}(hi:ps[i]? = some p){r:Str×Str×List (Int×Int)}(hr:r∈p.rows):(lkT (wtF (ps.take i)) r.2.1).isSome=isP r.2.1:=by
 have out:∀ w:Str,(∀ y∈ps,y.name≠w)→lkT (wtF (ps.take i)) w=none:=fun w hw=>zfa.mpr (by
  rw [zcl]
  intro z
  obtain ⟨y,hy,e⟩:=List.mem_map.mp z
  exact hw y (List.mem_of_mem_take hy) e)
 rcases W.how i p hi r hr with z|z|z
 ·rw [z,out "all" fun y hy=>(W.ok y hy).2.2.1]
  decide +kernel
 ·rw [z,out "first" fun y hy=>(W.ok y hy).2.2.2]
  decide +kernel
 ·have h1:(lkT (wtF (ps.take i)) r.2.1).isSome=true:=by
   cases h:lkT (wtF (ps.take i)) r.2.1 with
   | some v=>rfl
   | none=>exact absurd (by rw [zcl];exact z) (zfa.mp h)
  rw [h1]
  obtain ⟨y,hy,e⟩:=List.mem_map.mp z
  have ok:=W.ok y (List.mem_of_mem_take hy)
  unfold isP
  rw [← e,decide_eq_false ok.2.2.1,decide_eq_false ok.2.2.2]
  rfl
theorem WB.hasc {ps:List Pl}(W:WB ps){i:Nat}{p:Pl}(hi:ps[i]? = some p){r:Str×Str×List (Int×Int)}(hr:r∈p.rows):asc r.2.1:=by
 rcases W.how i p hi r hr with z|z|z
 ·rw [z];exact (zaG (n:=3) (by decide +kernel)).asc
 ·rw [z];exact (zaG (n:=5) (by decide +kernel)).asc
 ·obtain ⟨y,hy,e⟩:=List.mem_map.mp z
  rw [← e]
  exact (W.ok y (List.mem_of_mem_take hy)).1.asc
noncomputable def isL (c:Nat):Bool:=decide (97≤c)&&decide (c<123)
noncomputable def isG (c:Nat):Bool:=decide (48≤c)&&decide (c<58)
noncomputable def kept:List Str:=["plan", "given", "all", "first", "part"]
def zb4 (x:Str):Bool:=decide (1≤x.length)&&(decide (x.length≤12)&&((kept.all fun w => !decide (w=x))&&(isL (x.cps.toList.headD 0)&&x.cps.toList.all fun c=>isL c||isG c)))
def nmOk (x:Str):Prop:=TxtOk 12 x∧zb4 x=true
def chkC (x:Str):Bool:=decide (x.length≤12)&&x.cps.all (· < 128)&&zb4 x
theorem zeA {x:Str}(h:chkC x=true):nmOk x:=by
 unfold chkC at h
 rw [Bool.and_eq_true] at h
 exact ⟨zaG h.1,h.2⟩
theorem zej {l:List Str}(h:l.all chkC=true):∀ x∈l,nmOk x:=fun x hx=>zeA (List.all_eq_true.mp h x hx)
def okC (x:Str):Prop:=∀ c∈x.cps.toList,(isL c||isG c)=true
theorem zkF {c:Nat}(h:97≤c∧c<123):isL c=true:=by
 unfold isL
 rw [decide_eq_true h.1,decide_eq_true h.2]
 rfl
theorem zbE {x:Str}(h:low x):okC x:=fun c hc=>by rw [zkF (h c hc)];rfl
theorem zbY {a b:Str}(ha:okC a)(hb:okC b):okC (a++b):=fun c hc=>by
 rw [zaO] at hc
 rcases List.mem_append.mp hc with h|h
 ·exact ha c h
 ·exact hb c h
theorem zlZ:∀ k:Fin 60,((digF k.val).cps.toList.all fun c=>isL c||isG c)=true:=by decide +kernel
theorem zhn {k:Nat}(h:k<60):okC (digF k):=fun c hc=>List.all_eq_true.mp (zlZ ⟨k,h⟩) c hc
theorem zfM (k:Nat):low (zcz k):=zhw (zfA (Nat.mod_lt _ (by omega))) (zfA (Nat.mod_lt _ (by omega)))
theorem low_x:low "x" ∧ low "y" ∧ low "q" := by
 have h:∀ w:Str,(w.cps.toList.all isL)=true→low w:=fun w h c hc=>by
  have:=List.all_eq_true.mp h c hc
  unfold isL at this
  rw [Bool.and_eq_true,decide_eq_true_eq,decide_eq_true_eq] at this
  exact this
 exact ⟨h _ (by decide +kernel),h _ (by decide +kernel),h _ (by decide +kernel)⟩
theorem znl {q:Int}{base:Str}{k:Nat}(hk:k<60)(lb:low base):okC (nmF q base k):=by
 obtain ⟨hx,hy,hq⟩:=low_x
 unfold nmF
 repeat' split
 ·exact zbY (zbY (zbE hx) (zbE lb)) (zhn hk)
 ·exact zbY (zbY (zbE hy) (zhn hk)) (zbE lb)
 ·exact zbY (zbY (zbE hq) (zbE lb)) (zbE (zfM k))
 ·exact zbY (zbY (zbE (zfM k)) (zbE hq)) (zbE lb)
theorem zly (q:Int)(base:Str)(k:Nat):isL ((nmF q base k).cps.toList.headD 0)=true:=by
 have hx:("x" : Str).cps.toList=[120]:=by decide +kernel
 have hy:("y" : Str).cps.toList=[121]:=by decide +kernel
 have hq:("q" : Str).cps.toList=[113]:=by decide +kernel
 unfold nmF
 split
 ·rw [zaO,zaO,hx];rfl
 ·split
  ·rw [zaO,zaO,hy];rfl
  ·split
   ·rw [zaO,zaO,hq];rfl
   ·have hs:(zcz k).cps.toList=[97+k % 26,97+k / 26 % 26]:=by
     unfold zcz
     rw [zaO]
     rfl
    rw [zaO,zaO,hs]
    show isL (97+k % 26)=true
    exact zkF (by omega)
theorem ziI {q:Int}{base:Str}{k:Nat}(hk:k<60)(hb:TxtOk 9 base)(lb:low base):nmOk (nmF q base k):=by
 have h1:=zl8 (q:=q) (k:=k) (by omega) hb
 refine ⟨h1,?_⟩
 have h2:=zlc q base k
 have h3:=h1.len
 have h4:(kept.all fun w => !decide (w=nmF q base k))=true:=by
  rw [List.all_eq_true]
  intro w hw
  have hs:zcC w.cps.toList=false:=by
   have:(kept.all fun w => !zcC w.cps.toList)=true:=by decide +kernel
   have:=List.all_eq_true.mp this w hw
   simpa using this
  rw [decide_eq_false fun z=>zjS (q:=q) (base:=base) (k:=k) hs z.symm]
  rfl
 have h5:((nmF q base k).cps.toList.all fun c=>isL c||isG c)=true:=List.all_eq_true.mpr (znl hk lb)
 unfold zb4
 rw [decide_eq_true h2,decide_eq_true h3,h4,zly,h5]
 rfl
theorem nmOk.ne {x:Str}(h:nmOk x):1≤x.length∧x ≠ "all" ∧ x ≠ "first" := by
 have h:=h.2
 unfold zb4 at h
 rw [Bool.and_eq_true,Bool.and_eq_true,Bool.and_eq_true,decide_eq_true_eq] at h
 have k:=List.all_eq_true.mp h.2.2.1
 have ka:=k "all" (by decide +kernel)
 have kf:=k "first" (by decide +kernel)
 exact ⟨h.1,fun z=>by rw [z] at ka;simp at ka,fun z=>by rw [z] at kf;simp at kf⟩
structure PL (ahead:List Pl)(p:Pl):Prop where
 nm:nmOk p.name
 fresh:∀ q∈ahead,q.name≠p.name
 tn:∀ x∈p.givens++p.rows.map (·.1),nmOk x
 td:(p.givens++p.rows.map (·.1)).Nodup
 g1:1≤p.givens.length
 g2:p.givens.length≤12
 r1:1≤p.rows.length
 r2:p.rows.length≤40
 its:∀ (k:Nat) (r:Str×Str×List (Int×Int)),p.rows[k]? = some r→ItOk ((p.givens.length:Int)+k) r.2.2∧1≤r.2.2.length∧r.2.2.length≤40
 how:∀ r∈p.rows,zk2 (za6 ahead) r.2.1 r.2.2.length
 wt:wt1 (wtF ahead) p≤2000
noncomputable def LB (ps:List Pl):Prop:=∀ (i:Nat) (p:Pl),ps[i]? = some p→PL (ps.take i) p
theorem LB.mem {ps:List Pl}(h:LB ps){p:Pl}(hp:p∈ps):∃ i,PL (ps.take i) p:=by
 obtain ⟨i,hi⟩:=List.getElem?_of_mem hp
 exact ⟨i,h i p hi⟩
theorem LB.wb {ps:List Pl}(h:LB ps)(l1:1≤ps.length)(l2:ps.length≤20):WB ps:=by
 refine ⟨l1,l2,?_,fun p hp => ?_,fun i p hi r hr => ?_,fun p hp => ?_⟩
 ·rw [List.nodup_iff_pairwise_ne,List.pairwise_map,List.pairwise_iff_getElem]
  intro i j hi hj hij
  refine (h j ps[j] (List.getElem?_eq_getElem hj)).fresh ps[i] ?_
  exact List.mem_of_getElem? (i:=i) (by rw [List.getElem?_take,if_pos hij];exact List.getElem?_eq_getElem hi)
 ·obtain ⟨i,P⟩:=h.mem hp
  obtain ⟨a,b,c⟩:=P.nm.ne
  exact ⟨P.nm.1,a,b,c⟩
 ·rcases (h i p hi).how r hr with z|z|z
  ·exact .inl z
  ·exact .inr (.inl z)
  ·obtain ⟨y,hy,ey⟩:=List.mem_map.mp z
   exact .inr (.inr (List.mem_map.mpr ⟨y,hy,congrArg Prod.fst ey⟩))
 ·obtain ⟨i,P⟩:=h.mem hp
  exact ⟨P.r2,P.g2⟩
theorem zkS {α : Type}{f : α → Int}{M:Int}:∀ l:List α,(∀ x∈l,0≤f x∧f x≤M)→0≤(l.map f).sum∧(l.map f).sum≤l.length*M
 | [],_=>by simp
 | x::l,h=>by
  obtain ⟨a,b⟩:=zkS l fun y hy=>h y (List.mem_cons_of_mem _ hy)
  obtain ⟨c,d⟩:=h x List.mem_cons_self
  rw [List.map_cons,List.sum_cons,List.length_cons,Int.natCast_succ,Int.add_mul,Int.one_mul]
  omega
theorem lk_le {t:List (Str×Int)}{M:Int}(h0:0≤M)(h:∀ q∈t,0≤q.2∧q.2≤M)(x:Str):0≤(lkT t x).getD 0∧(lkT t x).getD 0≤M:=by
 unfold lkT
 cases e:t.find? fun p=>decide (p.1=x) with
 | none=>exact ⟨Int.le_refl _,h0⟩
 | some q=>exact h q (List.mem_of_find?_eq_some e)
theorem zkO {t:List (Str×Int)}{M:Int}(h0:0≤M)(h:∀ q∈t,0≤q.2∧q.2≤M)(p:Pl):0≤wt1 t p∧wt1 t p≤p.rows.length+p.rows.length*M:=by
 obtain ⟨a,b⟩:=zkS (f:=fun r:Str×Str×List (Int×Int)=>(lkT t r.2.1).getD 0) (M:=M) (p.rows.filter fun r=>isP r.2.1) fun r _=>lk_le h0 h r.2.1
 have l:(((p.rows.filter fun r=>isP r.2.1).length:Nat):Int)≤(p.rows.length:Int):=by
  have:=List.length_filter_le (fun r:Str×Str×List (Int×Int)=>isP r.2.1) p.rows
  omega
 have m:=Int.mul_le_mul_of_nonneg_right l h0
 unfold wt1
 omega
noncomputable def bnd:Nat→Int
 | 0=>0
 | n+1=>6+6*bnd n
theorem zjJ:∀ n,0≤bnd n
 | 0=>Int.le_refl _
 | n+1=>by have:=zjJ n;unfold bnd;omega
theorem znU (n:Nat):bnd n≤bnd (n+1):=by have:=zjJ n;show bnd n≤6+6*bnd n;omega
theorem zkJ {t:List (Str×Int)}{n:Nat}(h:∀ q∈t,0≤q.2∧q.2≤bnd n){p:Pl}(hp:p.rows.length≤6):0≤wt1 t p∧wt1 t p≤bnd (n+1):=by
 obtain ⟨a,b⟩:=zkO (zjJ n) h p
 have l:((p.rows.length:Nat):Int)≤6:=by omega
 have m:=Int.mul_le_mul_of_nonneg_right l (zjJ n)
 refine ⟨a,?_⟩
 show wt1 t p≤6+6*bnd n
 omega
theorem zk9 {ps:List Pl}(h:∀ p∈ps,p.rows.length≤6):∀ n,∀ q∈wtF (ps.take n),0≤q.2∧q.2≤bnd n
 | 0,q,hq=>by rw [List.take_zero] at hq;(first|exact zqn hq|exact zqb hq|(obtain rfl:=Option.some.inj hq)|cases hq)
 | n+1,q,hq=>by
  have ih:=zk9 h n
  cases hp:ps[n]? with
  | none =>
   have l:=List.getElem?_eq_none_iff.mp hp
   rw [List.take_of_length_le (show ps.length≤n+1 by omega)] at hq
   rw [List.take_of_length_le l] at ih
   obtain ⟨a,b⟩:=ih q hq
   have:=znU n
   exact ⟨a,by omega⟩
  | some p =>
   have tk:ps.take (n+1)=ps.take n++[p]:=by rw [List.take_succ,hp];rfl
   rw [tk,zdc] at hq
   rcases List.mem_append.mp hq with z|z
   ·obtain ⟨a,b⟩:=ih q z
    have:=znU n
    exact ⟨a,by omega⟩
   ·rw [List.mem_singleton.mp z]
    exact zkJ ih (h p (List.mem_of_getElem? hp))
theorem zdu {ps:List Pl}{p:Pl}(h:p∈ps):(p.name,(p.givens.length:Int))∈za6 ps:=List.mem_map.mpr ⟨p,h,rfl⟩
abbrev oneI:List (Int×Int):=[(0,0)]
theorem zmk (g:Nat)(k:Nat)(w:Int)(hg:1≤g)(h1 : -1000000000000000000000000000000<w)(h2:w<1000000000000000000000000000000):ItOk ((g:Int)+k) [(0,w)] :=
 ⟨fun p hp=>by rw [List.mem_singleton.mp hp];exact ⟨Int.le_refl _,by show (0:Int)<(g:Int)+k;omega⟩,fun p hp=>by rw [List.mem_singleton.mp hp];exact ⟨h1,h2⟩⟩
def grP (k:Nat):Pl:=⟨"t" ++ digF k,[("g" : Str)],[(("r" : Str),("first" : Str),[((0:Int),(k:Int))])]⟩
def hP2:Pl:=⟨"h2",[("g" : Str)],(List.range 40).map fun k=>("r" ++ digF k,("h1" : Str),oneI)⟩
theorem zhx {t:List (Str×Int)}{x:Str}(h:x∉t.map (·.1))(v:Int):lkT (t++[(x,v)]) x=some v:=by
 rw [zkK h]
 exact znO _ _ _
theorem zlJ {t:List (Str×Int)}{x y:Str}(h:y≠x)(v:Int):lkT (t++[(y,v)]) x=lkT t x:=by
 unfold lkT
 rw [List.find?_append]
 have : [(y,v)].find? (fun p=>decide (p.1=x))=none:=by
  rw [List.find?_cons,decide_eq_false h]
  rfl
 rw [this]
 cases t.find? (fun p=>decide (p.1=x))<;>rfl
theorem zlr {t:List (Str×Int)}{p:Pl}{ws:List Str}(h:(p.rows.filter fun r=>isP r.2.1).map (·.2.1)=ws):wt1 t p=p.rows.length+(ws.map fun w=>(lkT t w).getD 0).sum:=by
 unfold wt1
 rw [← h,List.map_map]
 rfl
theorem t_chk:∀ k:Fin 60,chkC ("t" ++ digF k.val)=true∧zcC ("t" ++ digF k.val).cps.toList=false:=by decide +kernel
theorem LB.plain {ps:List Pl}(h:LB ps):plN 12 (.lst (ps.map zai))=true:=by
 show (ps.map zai).all (plN 11)=true
 rw [List.all_eq_true]
 intro x hx
 obtain ⟨p,hp,rfl⟩:=List.mem_map.mp hx
 obtain ⟨i,P⟩:=h.mem hp
 have hasc:∀ r∈p.rows,asc r.1∧asc r.2.1:=fun r hr=>by
  refine ⟨(P.tn r.1 (List.mem_append_right _ (List.mem_map.mpr ⟨r,hr,rfl⟩))).1.asc,?_⟩
  rcases P.how r hr with z|z|z
  ·rw [z];exact (zaG (n:=3) (by decide +kernel)).asc
  ·rw [z];exact (zaG (n:=5) (by decide +kernel)).asc
  ·obtain ⟨y,hy,ey⟩:=List.mem_map.mp z
   obtain ⟨j,Q⟩:=h.mem (List.mem_of_mem_take hy)
   rw [← congrArg Prod.fst ey]
   exact Q.nm.1.asc
 have a1:plN 10 (.lst (p.givens.map .str))=true:=by
  show (p.givens.map D.str).all (plN 9)=true
  rw [List.all_eq_true]
  intro y hy
  obtain ⟨z,hz,rfl⟩:=List.mem_map.mp hy
  exact zdR (n:=8) (P.tn z (List.mem_append_left _ hz)).1.asc
 have a2:plN 10 (.lst (p.rows.map rowD))=true:=by
  show (p.rows.map rowD).all (plN 9)=true
  rw [List.all_eq_true]
  intro y hy
  obtain ⟨r,hr,rfl⟩:=List.mem_map.mp hy
  obtain ⟨b1,b2⟩:=hasc r hr
  show [D.str r.1,D.str r.2.1,rwD r.2.2].all (plN 8)=true
  rw [List.all_cons,List.all_cons,List.all_cons,zdR (n:=7) b1,zdR (n:=7) b2,pl_rw 5]
  rfl
 show [D.str p.name,D.lst (p.givens.map .str),D.lst (p.rows.map rowD)].all (plN 10)=true
 rw [List.all_cons,List.all_cons,List.all_cons,zdR (n:=9) P.nm.1.asc,a1,a2]
 rfl
noncomputable def resN (P:Prop)(c:Str):Res D:=@ite _ P (Classical.propDecidable P) (.ok .non) (.ex c [])
theorem zbC {P:Prop}(h:P)(c:Str):resN P c=.ok .non:=@if_pos _ (Classical.propDecidable P) h _ _ _
theorem zbv {P:Prop}(h:¬ P)(c:Str):resN P c=.ex c []:=@if_neg _ (Classical.propDecidable P) h _ _ _
structure Sn (p:Pl):Prop where
 nm:TxtOk 20 p.name
 gv:∀ x∈p.givens,TxtOk 20 x
 rn:∀ r∈p.rows,TxtOk 20 r.1
 rh:∀ r∈p.rows,TxtOk 20 r.2.1
 il:∀ r∈p.rows,r.2.2.length≤60
 gl:p.givens.length≤20
 rl:p.rows.length≤60
structure SnB (ps:List Pl):Prop where
 pl:∀ p∈ps,Sn p
 len:ps.length≤60
noncomputable def tns (p:Pl):List Str:=p.givens++p.rows.map (·.1)
def nms (xs:List Str):Prop:=(∀ x∈xs,zb4 x=true)∧xs.Nodup
def NmB (ps:List Pl):Prop:=nms (ps.map (·.name))∧∀ p∈ps,nms (tns p)
noncomputable def itB (ahead:Int)(its:List (Int×Int)):Prop:=(1≤its.length∧its.length≤40)∧ItOk ahead its
def IsB (p:Pl):Prop:=∀ (k:Nat) (r:Str×Str×List (Int×Int)),p.rows[k]? = some r→itB ((p.givens.length:Int)+k) r.2.2
def PlB (p:Pl):Prop:=(1≤p.givens.length∧p.givens.length≤12)∧(1≤p.rows.length∧p.rows.length≤40)∧IsB p
def PsB (ps:List Pl):Prop:=(1≤ps.length∧ps.length≤20)∧∀ p∈ps,PlB p
def ptB (t:List (Str×Int))(r:Str×Str×List (Int×Int)):Prop:=isP r.2.1=true→lkT t r.2.1=some (r.2.2.length:Int)
def PtB (ps:List Pl):Prop:=∀ (i:Nat) (p:Pl),ps[i]? = some p→∀ r∈p.rows,ptB (za6 (ps.take i)) r
theorem zmn {p:Pl}(S:Sn p):(tns p).length≤80:=by
 unfold tns
 rw [List.length_append,List.length_map]
 have:=S.gl
 have:=S.rl
 omega
theorem zhW {p:Pl}(S:Sn p):∀ x∈tns p,TxtOk 20 x:=fun x hx=>by
 rcases List.mem_append.mp hx with z|z
 ·exact S.gv x z
 ·obtain ⟨r,hr,rfl⟩:=List.mem_map.mp z
  exact S.rn r hr
theorem zmP {x:Str}(h:zb4 x=true):isP x=true:=by
 have k:(kept.all fun w => !decide (w=x))=true:=by
  unfold zb4 at h
  rw [Bool.and_eq_true,Bool.and_eq_true,Bool.and_eq_true] at h
  exact h.2.2.1
 have ka:=List.all_eq_true.mp k "all" (by decide +kernel)
 have kf:=List.all_eq_true.mp k "first" (by decide +kernel)
 unfold isP
 by_cases a:x = "all"
 ·rw [a] at ka;simp at ka
 ·by_cases f:x = "first"
  ·rw [f] at kf;simp at kf
  ·simp [a,f]
theorem zcb:∀ (ks acc:List Key),(ks.foldl L2.ST.stepK acc).length≤acc.length+ks.length∧((ks.foldl L2.ST.stepK acc).length=acc.length+ks.length→ks.Nodup∧∀ k∈ks,k∉acc)
 | [],acc=>⟨Nat.le_refl _,fun _=>⟨List.nodup_nil,fun _ h=>nomatch h⟩⟩
 | k::ks,acc=>by
  rw [List.foldl_cons,List.length_cons]
  obtain ⟨a,b⟩:=zcb ks (L2.ST.stepK acc k)
  by_cases h:k∈acc
  ·have e:L2.ST.stepK acc k=acc:=if_pos (L2.ST.inK_iff.mpr h)
   rw [e] at a ⊢
   exact ⟨by omega,fun z=>by omega⟩
  ·have e:L2.ST.stepK acc k=acc++[k]:=if_neg fun z=>h (L2.ST.inK_iff.mp z)
   rw [e] at a b ⊢
   rw [List.length_append,List.length_singleton] at a b
   refine ⟨by omega,fun z => ?_⟩
   obtain ⟨c,d⟩:=b (by omega)
   refine ⟨List.nodup_cons.mpr ⟨fun y=>d k y (List.mem_append_right _ (List.mem_singleton.mpr rfl)),c⟩,fun x hx => ?_⟩
   rcases List.mem_cons.mp hx with rfl|hx
   ·exact h
   ·exact fun y=>d x hx (List.mem_append_left _ y)
theorem ziJ {xs:List Str}(hl:xs.length≤999):∃ n:Nat,zjs [.lst (xs.map .str)]=some (.int n)∧(n=xs.length↔xs.Nodup):=by
 have e:zbX zb5 (xs.map .str)=some (xs.map Sum.inr):=zcB (f:=zb5) (g:=D.str) (k:=Sum.inr) (fun _=>rfl) xs
 have nd:xs.Nodup↔(xs.map (Sum.inr:Str→Key)).Nodup:=by
  rw [List.nodup_iff_pairwise_ne,List.nodup_iff_pairwise_ne,List.pairwise_map]
  exact ⟨List.Pairwise.imp fun {a b} n z=>n (by injection z),List.Pairwise.imp fun {a b} n z=>n (by rw [z])⟩
 refine ⟨(L2.ST.dedL (xs.map Sum.inr)).length,?_,fun z => ?_,fun z => ?_⟩
 ·show (zbX zb5 (xs.map .str)).bind _=_
  rw [e]
  show (if (xs.map (Sum.inr:Str→Key)).length≤999 then _ else _)=_
  rw [List.length_map,if_pos hl]
 ·refine nd.mpr ((zcb (xs.map Sum.inr) []).2 ?_).1
  rw [List.length_nil,Nat.zero_add,List.length_map]
  exact z
 ·rw [L2.ST.dedL_nodup (nd.mp z),List.length_map]
theorem zel {α : Type}{l:List α}{i:Nat}{x : α}(h:l[i]? = some x):l.set i x=l:=by
 apply List.ext_getElem?
 intro j
 by_cases e:i=j
 ·subst e
  rw [List.getElem?_set_self (List.getElem?_eq_some_iff.mp h).1,h]
 ·rw [List.getElem?_set_ne e]
theorem zeh {xs ys:List Str}(h:nms ys)(s:xs.Sublist ys):nms xs:=⟨fun x hx=>h.1 x (s.subset hx),s.nodup h.2⟩
theorem zc1 {xs ys:List Str}(hx:nms xs)(hy:nms ys)(d:∀ x∈xs,∀ y∈ys,x≠y):nms (xs++ys):=by
 refine ⟨fun x h=>(List.mem_append.mp h).elim (hx.1 x) (hy.1 x),?_⟩
 rw [List.nodup_append]
 exact ⟨hx.2,hy.2,fun a ha b hb=>d a ha b hb⟩
theorem zjh {ps:List Pl}{a:Nat}{p p':Pl}(h:ps[a]? = some p)(e:p'.name=p.name):(ps.set a p').map (·.name)=ps.map (·.name):=by
 rw [List.map_set]
 refine zel ?_
 rw [List.getElem?_map,h,e]
 rfl
theorem zf2 {ps:List Pl}{a:Nat}{p p':Pl}(N:NmB ps)(h:ps[a]? = some p)(e:p'.name=p.name)(t:nms (tns p')):NmB (ps.set a p'):=by
 refine ⟨by rw [zjh h e];exact N.1,fun q hq => ?_⟩
 rcases List.mem_or_eq_of_mem_set hq with z|z
 ·exact N.2 q z
 ·rw [z];exact t
theorem zd7 {ps:List Pl}{a:Nat}{p':Pl}(S:SnB ps)(s:Sn p'):SnB (ps.set a p'):=by
 refine ⟨fun q hq => ?_,by rw [List.length_set];exact S.len⟩
 rcases List.mem_or_eq_of_mem_set hq with z|z
 ·exact S.pl q z
 ·rw [z];exact s
theorem zaU {α : Type}{l:List α}{a:Nat}{x : α}(h:a<l.length):x∈l.set a x:=List.mem_of_getElem? (i:=a) (List.getElem?_set_self h)
theorem zf5 {ps qs:List Pl}(S:SnB ps)(T:∀ q∈qs,Sn q)(l:ps.length+qs.length≤60):SnB (ps++qs):=⟨fun p hp=>(List.mem_append.mp hp).elim (S.pl p) (T p),by rw [List.length_append];exact l⟩
def okX (c:Nat)(x:Str):Prop:=zcC x.cps.toList=true∨x.cps.toList.headD 0≠c
structure Fr (ps:List Pl):Prop where
 t:∀ p∈ps,okX 116 p.name
 u:∀ p∈ps,∀ x∈tns p,okX 117 x
 v:∀ p∈ps,∀ x∈tns p,okX 118 x
noncomputable def FrW (ps:List Pl):Prop:=∀ p∈ps,p.name ≠ "w0" ∧ p.name ≠ "none0"
theorem zi4 {c:Nat}{x y:Str}(h:okX c x)(h1:zcC y.cps.toList=false)(h2:y.cps.toList.headD 0=c):x≠y:=fun e=>by
 subst e
 rcases h with z|z
 ·rw [h1] at z;(first|exact zqn z|exact zqb z|(obtain rfl:=Option.some.inj z)|cases z)
 ·exact z h2
theorem zd1:∀ k:Fin 60,(chkC ("u" ++ digF k.val)=true∧zcC ("u" ++ digF k.val).cps.toList=false∧("u" ++ digF k.val).cps.toList.headD 0=117)∧(chkC ("v" ++ digF k.val)=true∧zcC ("v" ++ digF k.val).cps.toList=false∧("v" ++ digF k.val).cps.toList.headD 0=118)∧zcC ("t" ++ digF k.val).cps.toList=false∧("t" ++ digF k.val).cps.toList.headD 0=116:=by decide +kernel
theorem zd6 (a:Str){n:Nat}(h:n≤60):((List.range n).map fun k=>a++digF k).Nodup:=by
 rw [List.nodup_iff_pairwise_ne,List.pairwise_map]
 refine List.Pairwise.imp_of_mem (fun {x y} mx my hn e=>hn ?_) (List.nodup_iff_pairwise_ne.mp List.nodup_range)
 have e:(a++digF x).cps.toList=(a++digF y).cps.toList:=by rw [e]
 rw [zaO,zaO,List.append_cancel_left_eq] at e
 exact zbZ zfg (by have:=List.mem_range.mp mx;omega) (by have:=List.mem_range.mp my;omega) e
theorem nmOk.c {x:Str}(h:nmOk x):zb4 x=true:=h.2
theorem uN {n:Nat}(h:n≤60):nms ((List.range n).map fun k => "u" ++ digF k):=⟨fun x hx=>by
 obtain ⟨k,hk,rfl⟩:=List.mem_map.mp hx
 have hk:=List.mem_range.mp hk
 exact (zeA (zd1 ⟨k,by omega⟩).1.1).c,zd6 "u" h⟩
theorem vN {n:Nat}(h:n≤60):nms ((List.range n).map fun k => "v" ++ digF k):=⟨fun x hx=>by
 obtain ⟨k,hk,rfl⟩:=List.mem_map.mp hx
 have hk:=List.mem_range.mp hk
 exact (zeA (zd1 ⟨k,by omega⟩).2.1.1).c,zd6 "v" h⟩
theorem tN {n:Nat}(h:n≤60):nms ((List.range n).map fun k => "t" ++ digF k):=⟨fun x hx=>by
 obtain ⟨k,hk,rfl⟩:=List.mem_map.mp hx
 have hk:=List.mem_range.mp hk
 exact (zeA (t_chk ⟨k,by omega⟩).1).c,zd6 "t" h⟩
theorem zf6 {x:Str}(h:chkC x=true):TxtOk 20 x:=(zeA h).1.mono (by omega)
theorem zl7 {a:Str}(ha:TxtOk 5 a){k:Nat}(h:k<60):TxtOk 20 (a++digF k):=(ha.app (zbB (k:=k) (by omega)).2).mono (by omega)
theorem zpv {ps:List Pl}(L:LB ps)(W:WB ps):NmB ps:=by
 refine ⟨⟨fun x hx => ?_,W.nd⟩,fun p hp => ?_⟩
 ·obtain ⟨p,hp,rfl⟩:=List.mem_map.mp hx
  obtain ⟨i,P⟩:=L.mem hp
  exact P.nm.2
 ·obtain ⟨i,P⟩:=L.mem hp
  exact ⟨fun x hx=>(P.tn x hx).2,P.td⟩
theorem zmW {ps:List Pl}(L:LB ps)(l1:1≤ps.length)(l2:ps.length≤20):PsB ps:=by
 refine ⟨⟨l1,l2⟩,fun p hp => ?_⟩
 obtain ⟨i,P⟩:=L.mem hp
 exact ⟨⟨P.g1,P.g2⟩,⟨P.r1,P.r2⟩,fun k r hk=>⟨(P.its k r hk).2,(P.its k r hk).1⟩⟩
theorem zmy {parts:List (Str×Int)}{how:Str}{n:Nat}(h:zk2 parts how n)(hp:∀ q∈parts,TxtOk 12 q.1):TxtOk 20 how:=by
 rcases h with z|z|z
 ·rw [z];exact zaG (by decide +kernel)
 ·rw [z];exact zaG (by decide +kernel)
 ·exact (hp _ z).mono (by omega)
theorem zn6 {ps:List Pl}(L:LB ps)(l2:ps.length≤20):SnB ps:=by
 refine ⟨fun p hp => ?_,by omega⟩
 obtain ⟨i,P⟩:=L.mem hp
 refine ⟨P.nm.1.mono (by omega),fun x hx=>(P.tn x (List.mem_append_left _ hx)).1.mono (by omega),fun r hr=>(P.tn r.1 (List.mem_append_right _ (List.mem_map.mpr ⟨r,hr,rfl⟩))).1.mono (by omega),fun r hr=>zmy (P.how r hr) fun q hq => ?_,fun r hr => ?_,by have:=P.g2;omega,by have:=P.r2;omega⟩
 ·obtain ⟨y,hy,rfl⟩:=List.mem_map.mp hq
  obtain ⟨j,Q⟩:=L.mem (List.mem_of_mem_take hy)
  exact Q.nm.1
 ·obtain ⟨k,hk⟩:=List.getElem?_of_mem hr
  have:=(P.its k r hk).2.2
  omega
@[simp] theorem zmL (i j k:Nat)(p:Pl)(sd:SD):zb1 (.tup [i,j,k]) (zai p) sd=.ok (((sd.set i (some (.val (.str p.name)))).set j (some (.val (.lst (p.givens.map .str))))).set k (some (.val (.lst (p.rows.map rowD))))):=rfl
theorem zb9 {n:Nat}(c:Int)(h:1≤n):∃ a:Nat,gMod (.int c) (.int n)=some (.int a)∧a<n∧c % (n:Int)=a:=by
 have h1:=Int.emod_nonneg c (show (n:Int)≠0 by omega)
 have h2:=Int.emod_lt_of_pos c (show (0:Int)<(n:Int) by omega)
 refine ⟨(c % (n:Int)).toNat,?_,by omega,by omega⟩
 rw [zdg (by omega)]
 congr 2
 omega
theorem zcJ {n a:Nat}(h:a<n):ixN n (a:Int)=some a:=by
 unfold ixN
 rw [if_pos (by omega),if_pos (by omega),Int.toNat_natCast]
theorem zbn {α : Type}{f : α → D}{l:List α}{a:Nat}{x : α}(h:l[a]? = some x):atI (l.map f) (a:Int)=some (f x):=by
 rw [zed (by rw [List.length_map];exact (List.getElem?_eq_some_iff.mp h).1),List.getElem?_map,h]
 rfl
def I_Book:List D→Res (List D):=runI 2 2 (zab (dBlt zbM (zab (dVar 1) dNil)) dNil)
def I_Plan:List D→Res (List D):=runI 4 4 (zab (dVar 1) (zab (dBlt zbM (zab (dVar 2) dNil)) (zab (dBlt zbM (zab (dVar 3) dNil)) dNil)))
def zkg:FS:=(sRet (ziY "Book" ["plans"] I_Book (zab (zb2 [none] (iS (dVar 0)) (.one 0) (ziY "Plan" ["name", "givens", "rows"] I_Plan (zab (dOp gIx (dVar 0) (dC (.int 0))) (zab (dBlt zbM (zab (dOp gIx (dVar 0) (dC (.int 1))) dNil)) (zab (dBlt zbM (zab (dOp gIx (dVar 0) (dC (.int 2))) dNil)) dNil))))) dNil)))
def zgT:List D→Res D:=runN 1 1 zkg
theorem f_z20 {ps:List Pl}(h:ps.length≤60):zgT [.lst (ps.map zai)]=.ok (zbl ps):=by
 have key:mapE (.one 0) (ziY "Plan" ["name", "givens", "rows"] I_Plan (zab (dOp gIx (dVar 0) (dC (.int 0))) (zab (dBlt zbM (zab (dOp gIx (dVar 0) (dC (.int 1))) dNil)) (zab (dBlt zbM (zab (dOp gIx (dVar 0) (dC (.int 2))) dNil)) dNil)))) [none] (ps.map zai)=.ok (ps.map zaZ):=zcc fun p _=>by
  simp [I_Plan,runI,zbc,zaZ]
 have hz:=za0 (show ps.length≤1000 by omega)
 simp [zgT,zkg,key,hz,I_Book,runI,zbc,zbl]
def G_z0:FS:=(sSeq (sIf (dOrT (zbT (zap (zbN gLe gLe (dC (.int 1)) (dBlt gLen (zab (dVar 0) dNil)) (dC (.int 12))))) (dOrT (zap (dOp (gIn false) (dVar 0) (dC (.tup (List.map .str ["plan", "given", "all", "first", "part"]))))) (zap (dOp (gInS true) (dOp gIx (dVar 0) (dC (.int 0))) (dC (.str "abcdefghijklmnopqrstuvwxyz")))))) (sRet (dC (.bl false))) za9) (sRet (dBlt gAll (zab (zb2 [none] (iStr (dVar 0)) (.one 0) (dOrV (dOp (gInS false) (dVar 0) (dC (.str "abcdefghijklmnopqrstuvwxyz"))) (dOp (gInS false) (dVar 0) (dC (.str "0123456789"))))) dNil))))
def F_z0:List D→Res D:=runD 1 1 G_z0
def kB (x:Str):Bool:=(List.map D.str ["plan", "given", "all", "first", "part"]).any fun e=>sameD e (.str x)
noncomputable def LT:List Nat:=("abcdefghijklmnopqrstuvwxyz" : Str).cps.toList
noncomputable def FG:List Nat:=("0123456789" : Str).cps.toList
noncomputable def zew (x:Str):Bool:=decide (1≤x.length∧x.length≤12)&&(!kB x&&(decide (x.cps.toList.headD 0∈LT)&&x.cps.toList.all fun c=>decide (c∈LT)||decide (c∈FG)))
theorem zjy {n:Nat}{x:Str}(h:TxtOk n x):gIn false (.str x) (.tup (List.map D.str ["plan", "given", "all", "first", "part"]))=some (.bl (kB x)):=by
 have p:plN 12 (.str x)=true:=by
  show PyData.strOk x=true
  unfold PyData.strOk
  rw [← Array.all_toList,List.all_eq_true]
  exact fun c hc=>decide_eq_true (Nat.lt_trans (zbG.mp h.asc c hc) (by omega))
 have q:(List.map D.str ["plan", "given", "all", "first", "part"]).all (plN 12)=true:=by decide +kernel
 show (if plN 12 (.str x)&&(List.map D.str ["plan", "given", "all", "first", "part"]).all (plN 12) then some (D.bl (if false=true then _ else kB x)) else none)=_
 rw [p,q]
 rfl
theorem f_z0 {n:Nat}{x:Str}(h:TxtOk n x)(hn:n≤1000):F_z0 [.str x]=.ok (.bl (zew x)):=by
 have gl:=zjR h hn
 have gk:=zjy h
 have ha:ascB x=true:=h.asc
 unfold zew
 by_cases c:1≤x.length∧x.length≤12
 ·rw [decide_eq_true c,Bool.true_and]
  have c1:(1:Int)≤(x.length:Int):=by omega
  have c2:(x.length:Int)≤12:=by omega
  cases k:kB x with
  | true =>
   rw [k] at gk
   simp [F_z0,G_z0,gl,c1,c2] at gk ⊢
   simp [gk]
  | false =>
   rw [k] at gk
   obtain ⟨c0,hx,h0,_⟩:=zja (k:=0) h hn (by omega) (by omega)
   have hd:x.cps.toList.headD 0=c0:=by
    have h0:x.cps.toList[0]? = some c0:=h0
    cases l:x.cps.toList with
    | nil=>rw [l] at h0;(first|exact zqn h0|exact zqb h0|(obtain rfl:=Option.some.inj h0)|cases h0)
    | cons a l'=>rw [l] at h0;exact Option.some.inj h0
   have gi:=zee true c0 "abcdefghijklmnopqrstuvwxyz"
   rw [hd]
   have key:mapE (.one 0) (dOrV (dOp (gInS false) (dVar 0) (dC (.str "abcdefghijklmnopqrstuvwxyz"))) (dOp (gInS false) (dVar 0) (dC (.str "0123456789")))) [none] (chD x)=.ok ((x.cps.toList.map fun c=>decide (c∈LT)||decide (c∈FG)).map .bl):=by
    rw [List.map_map]
    refine zcc fun c _ => ?_
    have g1:=zee false c "abcdefghijklmnopqrstuvwxyz"
    have g2:=zee false c "0123456789"
    have g1:gInS false (.str ⟨#[c]⟩) (.str "abcdefghijklmnopqrstuvwxyz")=some (.bl (decide (c∈LT))):=g1
    have g2:gInS false (.str ⟨#[c]⟩) (.str "0123456789")=some (.bl (decide (c∈FG))):=g2
    cases p:decide (c∈LT) with
    | true=>rw [p] at g1;simp [g1,p]
    | false=>rw [p] at g1;simp [g1,g2,p]
   have ga:=zfL (x.cps.toList.map fun c=>decide (c∈LT)||decide (c∈FG))
   have ea:(x.cps.toList.map fun c=>decide (c∈LT)||decide (c∈FG)).all id=x.cps.toList.all fun c=>decide (c∈LT)||decide (c∈FG):=by rw [List.all_map];rfl
   rw [ea] at ga
   generalize (x.cps.toList.map fun c=>decide (c∈LT)||decide (c∈FG)).map D.bl=bs at key ga
   have lz:(chD x).length<sizeLine:=za0 (by unfold chD;rw [List.length_map,Array.length_toList];have:x.length=x.cps.size:=rfl;omega)
   have gi:gInS true (.str ⟨#[c0]⟩) (.str "abcdefghijklmnopqrstuvwxyz")=some (.bl (!decide (c0∈LT))):=gi
   cases p:decide (c0∈LT) with
   | true =>
    rw [p] at gi
    simp [F_z0,G_z0,gl,c1,c2] at gk hx ⊢
    simp [gk,hx,gi,ha,lz,key,ga]
   | false =>
    rw [p] at gi
    simp [F_z0,G_z0,gl,c1,c2] at gk hx ⊢
    simp [gk,hx,gi]
 ·rw [decide_eq_false c,Bool.false_and]
  have c3:¬ ((1:Int)≤(x.length:Int)∧(x.length:Int)≤12):=by omega
  by_cases c1:(1:Int)≤(x.length:Int)
  ·have c2:¬ (x.length:Int)≤12:=fun z=>c3 ⟨c1,z⟩
   simp [F_z0,G_z0,gl,c1,c2]
  ·simp [F_z0,G_z0,gl,c1]
def G_z3:FS:=(sRet (zm4 (dBlt gAll (zab (zb2 [none] (iS (dVar 0)) (.one 0) (zaC F_z0 (zab (dVar 0) dNil))) dNil)) (dOp gEq (dBlt zjs (zab (dVar 0) dNil)) (dBlt gLen (zab (dVar 0) dNil)))))
def F_z3:List D→Res D:=runD 1 1 G_z3
theorem zpa:∀ k:Fin 10,FG[k.val]? = some (48+k.val):=by decide +kernel
theorem zkN {c:Nat}(h:isL c=true):c∈LT:=by
 unfold isL at h
 rw [Bool.and_eq_true,decide_eq_true_eq,decide_eq_true_eq] at h
 have:=zdT ⟨c-97,by omega⟩
 rw [show 97+(c-97)=c by omega] at this
 exact List.mem_of_getElem? this
theorem znz {c:Nat}(h:isG c=true):c∈FG:=by
 unfold isG at h
 rw [Bool.and_eq_true,decide_eq_true_eq,decide_eq_true_eq] at h
 have:=zpa ⟨c-48,by omega⟩
 rw [show 48+(c-48)=c by omega] at this
 exact List.mem_of_getElem? this
theorem zjH {x:Str}(h:zb4 x=true):zew x=true:=by
 unfold zb4 at h
 rw [Bool.and_eq_true,Bool.and_eq_true,Bool.and_eq_true,Bool.and_eq_true,decide_eq_true_eq,decide_eq_true_eq] at h
 obtain ⟨h1,h2,h3,h4,h5⟩:=h
 have k:kB x=false:=by
  unfold kB
  rw [List.any_eq_false]
  intro d hd
  obtain ⟨w,hw,rfl⟩:=List.mem_map.mp hd
  have:=List.all_eq_true.mp h3 w hw
  rw [Bool.not_eq_true',decide_eq_false_iff_not] at this
  rw [Bool.not_eq_true,zcj]
  intro z
  injection z with z
  exact this z
 have a:(x.cps.toList.all fun c=>decide (c∈LT)||decide (c∈FG))=true:=by
  rw [List.all_eq_true] at h5 ⊢
  intro c hc
  rcases Bool.or_eq_true_iff.mp (h5 c hc) with z|z
  ·rw [decide_eq_true (zkN z)];rfl
  ·rw [decide_eq_true (znz z),Bool.or_true]
 unfold zew
 rw [decide_eq_true ⟨h1,h2⟩,k,decide_eq_true (zkN h4),a]
 rfl
def G_z2:FS:=(sSeq (sIf (zbT (zap (zc8 F_z3 (zab (zb2 [none] (iS (dUn (gFld "Book" "plans") (dVar 0))) (.one 0) (dUn (gFld "Plan" "name") (dVar 0))) dNil)))) (zbk "BadName" (dC (.str "a plan's name is no name or stands twice"))) za9) (sFor (iS (dUn (gFld "Book" "plans") (dVar 0))) (.one 1) (sIf (zbT (zap (zc8 F_z3 (zab (dOp gAdd (dUn (gFld "Plan" "givens") (dVar 1)) (zb2 [none,none,none] (iS (dUn (gFld "Plan" "rows") (dVar 1))) (.tup [0,1,2]) (dVar 0))) dNil)))) (zbk "BadName" (dC (.str "a thing's name is no name or stands twice in its plan"))) za9)))
def F_z2:List D→Res D:=runD 2 1 G_z2
def G_z9:FS:=(sRet (dOp (gIn true) (dVar 0) (dTup (zab (dC (.str "all")) (zab (dC (.str "first")) dNil)))))
def F_z9:List D→Res D:=runD 1 1 G_z9
theorem f_z9 {how:Str}(h:asc how):F_z9 [.str how]=.ok (.bl (isP how)):=by
 have p:plN 12 (.str how)=true:=zdR h
 have q : [D.str "all",D.str "first"].all (plN 12)=true:=by decide +kernel
 have g:gIn true (.str how) (.tup [.str "all",.str "first"])=some (.bl (isP how)):=by
  show (if plN 12 (.str how)&&[D.str "all",D.str "first"].all (plN 12) then some (D.bl (if true=true then !([D.str "all",D.str "first"].any fun e=>sameD e (.str how)) else _)) else none)=_
  rw [p,q]
  show some (D.bl (!([D.str "all",D.str "first"].any fun e=>sameD e (.str how))))=_
  unfold isP sameD
  congr 3
  have e1:decide (("all" : Str)=how)=decide (how = "all"):=decide_eq_decide.mpr eq_comm
  have e2:decide (("first" : Str)=how)=decide (how = "first"):=decide_eq_decide.mpr eq_comm
  simp [e1,e2]
 simp [F_z9,G_z9,g]
def G_z6:FS:=(sSeq (sOwn 1 zk1) (sFor (iS (dUn (gFld "Book" "plans") (dVar 0))) (.one 2) (sSeq (sFor (iS (dUn (gFld "Plan" "rows") (dVar 2))) (.tup [3,4,5]) (sIf (zeu (zap (zc8 F_z9 (zab (dVar 4) dNil))) (zap (dOp gNe (zj9 [1] (ziU (dVar 1) (dVar 4))) (dBlt gLen (zab (dVar 5) dNil))))) (zbk "BadPart" ((jFv zcA (dVar 3) (jCon " is made by no plan ahead that has as many given things as it has items" jNil)) Str.empty)) za9)) (zgK 1 (dUn (gFld "Plan" "name") (dVar 2)) (dBlt gLen (zab (dUn (gFld "Plan" "givens") (dVar 2)) dNil))))))
def F_z6:List D→Res D:=runD 6 1 G_z6
theorem zfO {ps:List Pl}(nd:(ps.map (·.name)).Nodup){x:Str}{n:Int}(h:(x,n)∈za6 ps):lkT (za6 ps) x=some n:=by
 unfold lkT
 cases e:(za6 ps).find? fun p=>decide (p.1=x) with
 | none=>exact absurd (decide_eq_true rfl) (List.find?_eq_none.mp e (x,n) h)
 | some q =>
  have e1:=of_decide_eq_true (List.find?_some (p:=fun p:Str×Int=>decide (p.1=x)) e)
  have e2:=List.mem_of_find?_eq_some e
  obtain ⟨a,ha,ea⟩:=List.mem_map.mp e2
  obtain ⟨b,hb,eb⟩:=List.mem_map.mp h
  have nm:a.name=b.name:=((congrArg Prod.fst ea).trans e1).trans (congrArg Prod.fst eb).symm
  have ab:a=b:=by
   obtain ⟨i,hi,ei⟩:=List.getElem_of_mem ha
   obtain ⟨j,hj,ej⟩:=List.getElem_of_mem hb
   have pw:=List.pairwise_iff_getElem.mp (List.pairwise_map.mp (List.nodup_iff_pairwise_ne.mp nd))
   rcases Nat.lt_trichotomy i j with z|z|z
   ·exact absurd (by rw [ei,ej];exact nm) (pw i j hi hj z)
   ·subst z;rw [← ei,← ej]
   ·exact absurd (by rw [ei,ej];exact nm.symm) (pw j i hj hi z)
  show some q.2=some n
  rw [← ea,ab]
  exact congrArg some (congrArg Prod.snd eb)
theorem zg0 (ps:List Pl):(za6 ps).map (·.1)=ps.map (·.name):=by
 unfold za6
 rw [List.map_map]
 rfl
def G_z5:FS:=(sSeq (sSet 1 (dBlt gLen (zab (dUn (gFld "Plan" "givens") (dVar 0)) dNil))) (sFor (iS (dUn (gFld "Plan" "rows") (dVar 0))) (.tup [2,3,4]) (sSeq (sIf (zbT (zap (zbN gLe gLe (dC (.int 1)) (dBlt gLen (zab (dVar 4) dNil)) (dC (.int 40))))) (zbk "BadPlan" ((jFv zcA (dVar 2) (jCon " has not 1 to 40 items" jNil)) Str.empty)) za9) (sSeq (sFor (iS (dVar 4)) (.tup [5,6]) (sSeq (sIf (zbT (zap (zbN gLe gLt (dC (.int 0)) (dVar 5) (dVar 1)))) (zbk "BadPlan" ((jCon "an item of " (jFv zcA (dVar 2) (jCon " is no thing ahead of it" jNil))) Str.empty)) za9) (sIf (zap (dOp gGe (dBlt gAbs (zab (dVar 6) dNil)) (dOp gPow (dC (.int 10)) (dC (.int 30))))) (zbk "BadPlan" ((jCon "a wait of " (jFv zcA (dVar 2) (jCon " has more than 30 figures" jNil))) Str.empty)) za9))) (sAug 1 (dC (.int 1)))))))
def F_z5:List D→Res D:=runD 7 1 G_z5
def G_z4:FS:=(sSeq (sIf (zbT (zap (zbN gLe gLe (dC (.int 1)) (dBlt gLen (zab (dUn (gFld "Book" "plans") (dVar 0)) dNil)) (dC (.int 20))))) (zbk "BadPlan" (dC (.str "a book has 1 to 20 plans"))) za9) (sFor (iS (dUn (gFld "Book" "plans") (dVar 0))) (.one 1) (sSeq (sIf (zbT (zap (zbN gLe gLe (dC (.int 1)) (dBlt gLen (zab (dUn (gFld "Plan" "givens") (dVar 1)) dNil)) (dC (.int 12))))) (zbk "BadPlan" (dC (.str "a plan has 1 to 12 given things"))) za9) (sSeq (sIf (zbT (zap (zbN gLe gLe (dC (.int 1)) (dBlt gLen (zab (dUn (gFld "Plan" "rows") (dVar 1)) dNil)) (dC (.int 40))))) (zbk "BadPlan" (dC (.str "a plan has 1 to 40 rows"))) za9) (zdw (zaC F_z5 (zab (dVar 1) dNil)))))))
def F_z4:List D→Res D:=runD 2 1 G_z4
def G_z8:FS:=(sSeq (sOwn 1 zk1) (sSeq (sFor (iS (dUn (gFld "Book" "plans") (dVar 0))) (.one 2) (sSeq (sOwn 3 (zfC [1] (zei [none,none,none,some 1] (iS (dUn (gFld "Plan" "rows") (dVar 2))) (.tup [0,1,2]) (zap (zaC F_z9 (zab (dVar 1) dNil))) (dOp gIx (dVar 3) (dVar 1))))) (zgK 1 (dUn (gFld "Plan" "name") (dVar 2)) (dOp gAdd (dBlt gLen (zab (dUn (gFld "Plan" "rows") (dVar 2)) dNil)) (dTmp [3] (dBlt gSum (zab (dVar 3) dNil))))))) (zcu 1)))
def F_z8:List D→Res D:=runN 4 1 G_z8
def G_z7:FS:=(sFor (iIt (zc8 F_z8 (zab (dVar 0) dNil))) (.tup [1,2]) (sIf (zap (dOp gGt (dVar 2) (dC (.int 2000)))) (zbk "TooLong" ((jCon "plan " (jFv zcA (dVar 1) (jCon " has a weight of more than 2000" jNil))) Str.empty)) za9))
def F_z7:List D→Res D:=runD 3 1 G_z7
def G_z1:FS:=(sSeq (zdw (zaC F_z2 (zab (dVar 0) dNil))) (sSeq (zdw (zaC F_z4 (zab (dVar 0) dNil))) (sSeq (zdw (zaC F_z6 (zab (dVar 0) dNil))) (zdw (zaC F_z7 (zab (dVar 0) dNil))))))
def F_z1:List D→Res D:=runD 1 1 G_z1
def zjp:FS:=(sSeq (sSet 2 (dC .non)) (sSeq (zfQ ["BadName", "BadPart", "BadPlan", "TooLong"] 3 (zdw (zgp F_z1 (zab (dVar 0) dNil))) (sSet 2 (dVar 3))) (sSeq (sOwn 4 (dLst (zab (dBlt (zft ["BadName", "BadPart", "BadPlan", "TooLong"] ["BadName", "BadPlan", "BadPart", "TooLong"]) (zab (dVar 2) (zab (dC (.ucl "BadName")) dNil))) (zab (dBlt (zft ["BadName", "BadPart", "BadPlan", "TooLong"] ["BadName", "BadPlan", "BadPart", "TooLong"]) (zab (dVar 2) (zab (dC (.ucl "BadPlan")) dNil))) (zab (dBlt (zft ["BadName", "BadPart", "BadPlan", "TooLong"] ["BadName", "BadPlan", "BadPart", "TooLong"]) (zab (dVar 2) (zab (dC (.ucl "BadPart")) dNil))) dNil))))) (sSeq (zbo 4 (dBlt (zft ["BadName", "BadPart", "BadPlan", "TooLong"] ["BadName", "BadPlan", "BadPart", "TooLong"]) (zab (dVar 2) (zab (dC (.ucl "TooLong")) dNil)))) (sSeq (sIf (dOrT (zap (dBlt (zev ["BadName", "BadPart", "BadPlan", "TooLong"] ["NoPlan", "TooMany", "Unlike", "BadRow", "NoName"]) (zab (dVar 2) (zab (dTup (zab (dC (.ucl "NoPlan")) (zab (dC (.ucl "TooMany")) (zab (dC (.ucl "Unlike")) (zab (dC (.ucl "BadRow")) (zab (dC (.ucl "NoName")) dNil)))))) dNil)))) (zbT (zap (dBlt (zjK ["BadName", "BadPart", "BadPlan", "TooLong"]) (zab (dVar 2) (zab (dC (.ty "ValueError")) dNil)))))) (sRet (dC (.bl false))) za9) (sRet (dTmp [4] (dOp gEqB (dVar 4) (zb2 [none,some 1] (iR1 (zab (dC (.int 4)) dNil)) (.one 0) (dOp gEq (dVar 0) (dVar 1)))))))))))
def zgI:List D→Res D:=runD 5 2 zjp
theorem zkE:∀ c∈LT,isL c=true:=by
 have h:(LT.all isL)=true:=by decide +kernel
 exact List.all_eq_true.mp h
theorem znP:∀ c∈FG,isG c=true:=by
 have h:(FG.all isG)=true:=by decide +kernel
 exact List.all_eq_true.mp h
theorem zjX {x:Str}(h:zew x=true):zb4 x=true:=by
 unfold zew at h
 rw [Bool.and_eq_true,Bool.and_eq_true,Bool.and_eq_true,decide_eq_true_eq,decide_eq_true_eq] at h
 obtain ⟨⟨h1,h2⟩,h3,h4,h5⟩:=h
 have k:(kept.all fun w => !decide (w=x))=true:=by
  rw [List.all_eq_true]
  intro w hw
  by_cases e:w=x
  ·subst e
   have:kB w=true:=by
    unfold kB
    rw [List.any_eq_true]
    exact ⟨.str w,List.mem_map.mpr ⟨w,hw,rfl⟩,zbK _⟩
   rw [this] at h3
   first|exact zqn h3|exact zqb h3|(obtain rfl:=Option.some.inj h3)|cases h3
  ·rw [decide_eq_false e]
   rfl
 have a:(x.cps.toList.all fun c=>isL c||isG c)=true:=by
  rw [List.all_eq_true] at h5 ⊢
  intro c hc
  rcases Bool.or_eq_true_iff.mp (h5 c hc) with z|z
  ·rw [zkE c (of_decide_eq_true z)];rfl
  ·rw [znP c (of_decide_eq_true z),Bool.or_true]
 unfold zb4
 rw [decide_eq_true h1,decide_eq_true h2,k,zkE _ h4,a]
 rfl
theorem zjI (x:Str):zew x=zb4 x:=by
 cases h:zb4 x with
 | true=>exact zjH h
 | false =>
  cases k:zew x with
  | false=>rfl
  | true=>rw [zjX k] at h;(first|exact zqn h|exact zqb h|(obtain rfl:=Option.some.inj h)|cases h)
theorem zie {xs:List Str}(h:∀ x∈xs,TxtOk 20 x)(hl:xs.length≤100):∃ b:Bool,F_z3 [.lst (xs.map .str)]=.ok (.bl b)∧(b=true↔nms xs):=by
 have key:mapE (.one 0) (zaC F_z0 (zab (dVar 0) dNil)) [none] (xs.map .str)=.ok ((xs.map zb4).map .bl):=by
  rw [List.map_map]
  exact zcc fun x hx=>by
   have:=f_z0 (h x hx) (by omega)
   rw [zjI] at this
   simp [this]
 have ga:=zfL (xs.map zb4)
 obtain ⟨n,gl,gn⟩:=ziJ (xs:=xs) (by omega)
 have hz:(xs.map D.str).length<sizeLine:=za0 (by rw [List.length_map];omega)
 have ln:gLen [.lst (xs.map .str)]=some (.int xs.length):=by rw [zks,List.length_map]
 obtain ⟨b,hb⟩:∃ b,(xs.map zb4).all id=b:=⟨_,rfl⟩
 have hb':b=true↔∀ x∈xs,zb4 x=true:=by
  rw [← hb,List.all_map,List.all_eq_true]
  rfl
 rw [hb] at ga
 generalize (xs.map zb4).map D.bl=bs at key ga
 generalize xs.map D.str=ds at key gl hz ln ⊢
 cases b with
 | false =>
  refine ⟨false,by simp [F_z3,G_z3,hz,key,ga],?_⟩
  constructor
  ·intro z
   first|exact zqn z|exact zqb z|(obtain rfl:=Option.some.inj z)|cases z
  ·intro z
   exact hb'.mpr z.1
 | true =>
  refine ⟨decide (n=xs.length),?_,?_⟩
  ·have e:decide ((n:Int)=(xs.length:Int))=decide (n=xs.length):=decide_eq_decide.mpr (by omega)
   simp [F_z3,G_z3,hz,key,ga,gl] at ln ⊢
   simp [ln]
   omega
  ·rw [decide_eq_true_iff,gn]
   exact ⟨fun z=>⟨hb'.mp rfl,z⟩,fun z=>z.2⟩
theorem zcF {ps:List Pl}(S:SnB ps):F_z2 [zbl ps]=resN (NmB ps) "BadName" := by
 have l2:=S.len
 have hz:=za0 (show ps.length≤1000 by omega)
 have k0:mapE (.one 0) (dUn (gFld "Plan" "name") (dVar 0)) [none] (ps.map zaZ)=.ok ((ps.map (·.name)).map .str):=by
  rw [List.map_map]
  exact zcc fun p _=>by simp
 obtain ⟨b,a0,hb⟩:=zie (xs:=ps.map (·.name)) (fun x hx=>by
  obtain ⟨p,hp,rfl⟩:=List.mem_map.mp hx
  exact (S.pl p hp).nm) (by rw [List.length_map];omega)
 generalize (ps.map (·.name)).map D.str=ns at k0 a0
 cases b with
 | false =>
  rw [zbv fun z=>by have:=hb.mpr z.1;cases this]
  simp [F_z2,G_z2,hz,k0,a0]
 | true =>
  have key:(forT (.one 1) (sIf (zbT (zap (zc8 F_z3 (zab (dOp gAdd (dUn (gFld "Plan" "givens") (dVar 1)) (zb2 [none,none,none] (iS (dUn (gFld "Plan" "rows") (dVar 1))) (.tup [0,1,2]) (dVar 0))) dNil)))) (zbk "BadName" (dC (.str "a thing's name is no name or stands twice in its plan"))) za9) (ps.map zaZ) [some (.val (zbl ps)),none]).bind outV=resN (NmB ps) "BadName" := by
   refine zbt (R:=fun z=>z.bind outV=resN (NmB ps) "BadName") (P:=fun i sd=>(∀ p∈ps.take i,nms (tns p))∧∃ u1:Option SV,sd=[some (.val (zbl ps)),u1]) ⟨fun p hp=>by simp at hp,none,rfl⟩ ?_ ?_
   ·rintro sd ⟨h,u1,rfl⟩
    rw [List.length_map,List.take_length] at h
    rw [zbC ⟨hb.mp rfl,h⟩]
    rfl
   ·rintro i x sd hx ⟨h,u1,rfl⟩
    obtain ⟨p,hp,rfl⟩:=zd8 hx
    have pm:=List.mem_of_getElem? hp
    have P:=S.pl p pm
    have hg:=P.gl
    have hr2:=P.rl
    have hr:=za0 (show p.rows.length≤1000 by omega)
    have k1:mapE (.tup [0,1,2]) (dVar 0) [none,none,none] (p.rows.map rowD)=.ok ((p.rows.map (·.1)).map .str):=by
     rw [List.map_map]
     exact zcc fun r _=>by simp
    have ga:gAdd (.lst (p.givens.map .str)) (.lst ((p.rows.map (·.1)).map .str))=some (.lst ((tns p).map .str)):=by
     unfold tns
     rw [List.map_append]
     exact if_pos (zbs (by rw [List.length_map,List.length_map,List.length_map];omega))
    obtain ⟨b1,a1,hb1⟩:=zie (zhW P) (by have:=zmn P;omega)
    generalize (tns p).map D.str=zs at ga a1
    generalize (p.rows.map (·.1)).map D.str=ys at k1 ga
    cases b1 with
    | true =>
     refine .inl ⟨[some (.val (zbl ps)),some (.val (zaZ p))],by simp [hr,k1,ga,a1],fun q hq => ?_,_,rfl⟩
     rw [List.take_succ,hp] at hq
     rcases List.mem_append.mp hq with z|z
     ·exact h q z
     ·rw [List.mem_singleton.mp z];exact hb1.mp rfl
    | false =>
     refine .inr ⟨"BadName",[],by simp [hr,k1,ga,a1],?_⟩
     rw [zbv fun z=>by have:=hb1.mpr (z.2 p pm);cases this]
     rfl
  simp [F_z2,G_z2,hz,k0,a0] at key ⊢
  simp [key]
theorem ziy {x:Str}(h:TxtOk 20 x):(reprText x).length≤400:=by
 have rl:=StrLaws.reprText_len x fun c hc=>Nat.lt_trans (zbG.mp h.asc c hc) (by decide)
 have:=h.len
 omega
theorem msgA {x c:Str}(h:TxtOk 20 x)(hc:c.length≤100){i:Nat}{sd:SD}(hs:dVar i sd=.ok (.str x)):∃ d,(jFv zcA (dVar i) (jCon c jNil)) Str.empty sd=.ok d:=by
 have r:=ziy h
 have l0:(Str.empty:Str).length=0:=rfl
 have a1:(reprText x).length≤sizeLine:=zbs (by omega)
 have a2:((Str.empty:Str)++reprText x).length≤sizeLine:=zbs (by rw [zbF];omega)
 have a3:((Str.empty:Str)++reprText x++c).length≤sizeLine:=zbs (by rw [zbF,zbF];omega)
 refine ⟨.str (Str.empty++reprText x++c),?_⟩
 unfold jFv
 rw [hs,Res.bind_ok]
 show (if (reprText x).length≤sizeLine∧((Str.empty:Str)++reprText x).length≤sizeLine then jCon c jNil ((Str.empty:Str)++reprText x) sd else .no)=_
 rw [if_pos ⟨a1,a2⟩]
 unfold jCon
 rw [if_pos a3]
 unfold jNil
 rw [if_pos a3]
theorem msgB {x a c:Str}(h:TxtOk 20 x)(ha:a.length≤100)(hc:c.length≤100){i:Nat}{sd:SD}(hs:dVar i sd=.ok (.str x)):∃ d,(jCon a (jFv zcA (dVar i) (jCon c jNil))) Str.empty sd=.ok d:=by
 have r:=ziy h
 have l0:(Str.empty:Str).length=0:=rfl
 have a0:((Str.empty:Str)++a).length≤sizeLine:=zbs (by rw [zbF];omega)
 have a1:(reprText x).length≤sizeLine:=zbs (by omega)
 have a2:((Str.empty:Str)++a++reprText x).length≤sizeLine:=zbs (by rw [zbF,zbF];omega)
 have a3:((Str.empty:Str)++a++reprText x++c).length≤sizeLine:=zbs (by rw [zbF,zbF,zbF];omega)
 refine ⟨.str (Str.empty++a++reprText x++c),?_⟩
 unfold jCon
 rw [if_pos a0]
 unfold jFv
 rw [hs,Res.bind_ok]
 show (if (reprText x).length≤sizeLine∧((Str.empty:Str)++a++reprText x).length≤sizeLine then (fun acc sd=>if (acc++c).length≤sizeLine then jNil (acc++c) sd else .no) ((Str.empty:Str)++a++reprText x) sd else .no)=_
 rw [if_pos ⟨a1,a2⟩]
 show (if ((Str.empty:Str)++a++reprText x++c).length≤sizeLine then _ else _)=_
 rw [if_pos a3]
 unfold jNil
 rw [if_pos a3]
theorem zgG {p:Pl}(S:Sn p):F_z5 [zaZ p]=resN (IsB p) "BadPlan" := by
 have pw:gPow (.int 10) (.int 30)=some (.int 1000000000000000000000000000000):=rfl
 have m1:(" has not 1 to 40 items" : Str).length≤100:=by decide +kernel
 have m2:("an item of " : Str).length≤100:=by decide +kernel
 have m3:(" is no thing ahead of it" : Str).length≤100:=by decide +kernel
 have m4:("a wait of " : Str).length≤100:=by decide +kernel
 have m5:(" has more than 30 figures" : Str).length≤100:=by decide +kernel
 obtain ⟨inner,hI⟩:∃ b,(sSeq (sIf (zbT (zap (zbN gLe gLt (dC (.int 0)) (dVar 5) (dVar 1)))) (zbk "BadPlan" ((jCon "an item of " (jFv zcA (dVar 2) (jCon " is no thing ahead of it" jNil))) Str.empty)) za9) (sIf (zap (dOp gGe (dBlt gAbs (zab (dVar 6) dNil)) (dOp gPow (dC (.int 10)) (dC (.int 30))))) (zbk "BadPlan" ((jCon "a wait of " (jFv zcA (dVar 2) (jCon " has more than 30 figures" jNil))) Str.empty)) za9))=b:=⟨_,rfl⟩
 have key:(forT (.tup [2,3,4]) (sSeq (sIf (zbT (zap (zbN gLe gLe (dC (.int 1)) (dBlt gLen (zab (dVar 4) dNil)) (dC (.int 40))))) (zbk "BadPlan" ((jFv zcA (dVar 2) (jCon " has not 1 to 40 items" jNil)) Str.empty)) za9) (sSeq (sFor (iS (dVar 4)) (.tup [5,6]) inner) (sAug 1 (dC (.int 1))))) (p.rows.map rowD) [some (.val (zaZ p)),some (.val (.int p.givens.length)),none,none,none,none,none]).bind outV=resN (IsB p) "BadPlan" := by
  refine zbt (R:=fun z=>z.bind outV=resN (IsB p) "BadPlan") (P:=fun i sd=>(∀ (k:Nat) (r:Str×Str×List (Int×Int)),k<i→p.rows[k]? = some r→itB ((p.givens.length:Int)+k) r.2.2)∧∃ u2 u3 u4 u5 u6:Option SV,sd=[some (.val (zaZ p)),some (.val (.int ((p.givens.length:Int)+i))),u2,u3,u4,u5,u6]) ⟨fun k r h=>by omega,none,none,none,none,none,by simp⟩ ?_ ?_
  ·rintro sd ⟨h,u2,u3,u4,u5,u6,rfl⟩
   rw [List.length_map] at h
   have ok:IsB p:=fun k r hk=>h k r (List.getElem?_eq_some_iff.mp hk).1 hk
   rw [zbC ok]
   rfl
  ·rintro i x sd hx ⟨h,u2,u3,u4,u5,u6,rfl⟩
   obtain ⟨r,hr,rfl⟩:=zd8 hx
   have rm:=List.mem_of_getElem? hr
   have tx:=S.rn r rm
   obtain ⟨g,hg⟩:∃ g:Int,(p.givens.length:Int)+i=g:=⟨_,rfl⟩
   rw [hg]
   have gl:gLen [rwD r.2.2]=some (.int r.2.2.length):=by show some (D.int (r.2.2.map prD).length)=_;rw [List.length_map]
   by_cases c:1≤r.2.2.length∧r.2.2.length≤40
   ·have c1:(1:Int)≤(r.2.2.length:Int):=by omega
    have c2:(r.2.2.length:Int)≤40:=by omega
    have inn:(∃ v5 v6:Option SV,forT (.tup [5,6]) inner (r.2.2.map prD) [some (.val (zaZ p)),some (.val (.int g)),some (.val (.str r.1)),some (.val (.str r.2.1)),some (.val (rwD r.2.2)),u5,u6]=.ok (.next [some (.val (zaZ p)),some (.val (.int g)),some (.val (.str r.1)),some (.val (.str r.2.1)),some (.val (rwD r.2.2)),v5,v6])∧ItOk g r.2.2)∨(forT (.tup [5,6]) inner (r.2.2.map prD) [some (.val (zaZ p)),some (.val (.int g)),some (.val (.str r.1)),some (.val (.str r.2.1)),some (.val (rwD r.2.2)),u5,u6]=.ex "BadPlan" []∧¬ ItOk g r.2.2):=by
     refine zbt (R:=fun z=>(∃ v5 v6:Option SV,z=.ok (.next [some (.val (zaZ p)),some (.val (.int g)),some (.val (.str r.1)),some (.val (.str r.2.1)),some (.val (rwD r.2.2)),v5,v6])∧ItOk g r.2.2)∨(z=.ex "BadPlan" []∧¬ ItOk g r.2.2)) (P:=fun j sd=>(∀ q∈r.2.2.take j,(0≤q.1∧q.1<g) ∧ -1000000000000000000000000000000<q.2∧q.2<1000000000000000000000000000000)∧∃ u5 u6:Option SV,sd=[some (.val (zaZ p)),some (.val (.int g)),some (.val (.str r.1)),some (.val (.str r.2.1)),some (.val (rwD r.2.2)),u5,u6]) ⟨fun q hq=>by simp at hq,u5,u6,rfl⟩ ?_ ?_
     ·rintro sd ⟨h,v5,v6,rfl⟩
      rw [List.length_map,List.take_length] at h
      exact .inl ⟨v5,v6,rfl,fun q hq=>(h q hq).1,fun q hq=>(h q hq).2⟩
     ·rintro j y sd hy ⟨h,v5,v6,rfl⟩
      obtain ⟨q,hq,rfl⟩:=zd8 hy
      have qm:q∈r.2.2:=List.mem_of_getElem? hq
      obtain ⟨d1,e1⟩:=msgB tx m2 m3 (i:=2) (sd:=[some (.val (zaZ p)),some (.val (.int g)),some (.val (.str r.1)),some (.val (.str r.2.1)),some (.val (rwD r.2.2)),some (.val (.int q.1)),some (.val (.int q.2))]) rfl
      obtain ⟨d2,e2⟩:=msgB tx m4 m5 (i:=2) (sd:=[some (.val (zaZ p)),some (.val (.int g)),some (.val (.str r.1)),some (.val (.str r.2.1)),some (.val (rwD r.2.2)),some (.val (.int q.1)),some (.val (.int q.2))]) rfl
      subst hI
      generalize jCon "an item of " _=j1 at e1 ⊢
      generalize jCon "a wait of " _=j2 at e2 ⊢
      by_cases a:0≤q.1∧q.1<g
      ·obtain ⟨a1,a2⟩:=a
       by_cases b : -1000000000000000000000000000000<q.2∧q.2<1000000000000000000000000000000
       ·have ab:¬ (1000000000000000000000000000000:Int)≤(if q.2<0 then -q.2 else q.2):=by split<;>omega
        refine .inl ⟨[some (.val (zaZ p)),some (.val (.int g)),some (.val (.str r.1)),some (.val (.str r.2.1)),some (.val (rwD r.2.2)),some (.val (.int q.1)),some (.val (.int q.2))],by simp [a1,a2,pw,ab],fun z hz => ?_,_,_,rfl⟩
        rw [List.take_succ,hq] at hz
        rcases List.mem_append.mp hz with y|y
        ·exact h z y
        ·rw [List.mem_singleton.mp y];exact ⟨⟨a1,a2⟩,b⟩
       ·have ab:(1000000000000000000000000000000:Int)≤(if q.2<0 then -q.2 else q.2):=by split<;>omega
        exact .inr ⟨"BadPlan",[],by simp [a1,a2,pw,ab,e2],.inr ⟨rfl,fun z=>b (z.far q qm)⟩⟩
      ·refine .inr ⟨"BadPlan",[],?_,.inr ⟨rfl,fun z=>a (z.rng q qm)⟩⟩
       by_cases a1:0≤q.1
       ·have a2:¬ q.1<g:=fun z=>a ⟨a1,z⟩
        simp [a1,a2,e1]
       ·simp [a1,e1]
    rcases inn with ⟨v5,v6,e2,ok⟩|⟨e2,no⟩
    ·have eg:g+1=(p.givens.length:Int)+((i+1:Nat):Int):=by omega
     refine .inl ⟨[some (.val (zaZ p)),some (.val (.int (g+1))),some (.val (.str r.1)),some (.val (.str r.2.1)),some (.val (rwD r.2.2)),v5,v6],by simp [gl,c1,c2,e2],fun k z hk hz => ?_,_,_,_,_,_,by rw [eg]⟩
     by_cases ki:k<i
     ·exact h k z ki hz
     ·have:k=i:=by omega
      subst this
      rw [hr] at hz
      first|exact zqn hz|exact zqb hz|(obtain rfl:=Option.some.inj hz)|cases hz
      exact ⟨c,by rw [hg];exact ok⟩
    ·refine .inr ⟨"BadPlan",[],by simp [gl,c1,c2,e2],?_⟩
     rw [zbv fun z=>no (by rw [← hg];exact (z i r hr).2)]
     rfl
   ·obtain ⟨d1,e1⟩:=msgA tx m1 (i:=2) (sd:=[some (.val (zaZ p)),some (.val (.int g)),some (.val (.str r.1)),some (.val (.str r.2.1)),some (.val (rwD r.2.2)),u5,u6]) rfl
    generalize jFv zcA _ _=j1 at e1 ⊢
    refine .inr ⟨"BadPlan",[],?_,?_⟩
    ·by_cases c1:(1:Int)≤(r.2.2.length:Int)
     ·have c2:¬ (r.2.2.length:Int)≤40:=fun z=>c ⟨by omega,by omega⟩
      simp [gl,c1,c2,e1]
     ·simp [gl,c1,e1]
    ·rw [zbv fun z=>c (z i r hr).1]
     rfl
 subst hI
 simp [F_z5,G_z5] at key ⊢
 simp [key]
theorem zdU {ps:List Pl}(S:SnB ps):F_z4 [zbl ps]=resN (PsB ps) "BadPlan" := by
 by_cases c:1≤ps.length∧ps.length≤20
 ·have b1:(1:Int)≤(ps.length:Int):=by omega
  have b2:(ps.length:Int)≤20:=by omega
  have key:(forT (.one 1) (sSeq (sIf (zbT (zap (zbN gLe gLe (dC (.int 1)) (dBlt gLen (zab (dUn (gFld "Plan" "givens") (dVar 1)) dNil)) (dC (.int 12))))) (zbk "BadPlan" (dC (.str "a plan has 1 to 12 given things"))) za9) (sSeq (sIf (zbT (zap (zbN gLe gLe (dC (.int 1)) (dBlt gLen (zab (dUn (gFld "Plan" "rows") (dVar 1)) dNil)) (dC (.int 40))))) (zbk "BadPlan" (dC (.str "a plan has 1 to 40 rows"))) za9) (zdw (zaC F_z5 (zab (dVar 1) dNil))))) (ps.map zaZ) [some (.val (zbl ps)),none]).bind outV=resN (PsB ps) "BadPlan" := by
   refine zbt (R:=fun z=>z.bind outV=resN (PsB ps) "BadPlan") (P:=fun i sd=>(∀ p∈ps.take i,PlB p)∧∃ u1:Option SV,sd=[some (.val (zbl ps)),u1]) ⟨fun p hp=>by simp at hp,none,rfl⟩ ?_ ?_
   ·rintro sd ⟨h,u1,rfl⟩
    rw [List.length_map,List.take_length] at h
    rw [zbC ⟨c,h⟩]
    rfl
   ·rintro i x sd hx ⟨h,u1,rfl⟩
    obtain ⟨p,hp,rfl⟩:=zd8 hx
    have pm:=List.mem_of_getElem? hp
    have fi:=zgG (S.pl p pm)
    by_cases g:1≤p.givens.length∧p.givens.length≤12
    ·have a1:(1:Int)≤(p.givens.length:Int):=by omega
     have a2:(p.givens.length:Int)≤12:=by omega
     by_cases r:1≤p.rows.length∧p.rows.length≤40
     ·have a3:(1:Int)≤(p.rows.length:Int):=by omega
      have a4:(p.rows.length:Int)≤40:=by omega
      by_cases ib:IsB p
      ·rw [zbC ib] at fi
       refine .inl ⟨[some (.val (zbl ps)),some (.val (zaZ p))],by simp [a1,a2,a3,a4,fi],fun q hq => ?_,_,rfl⟩
       rw [List.take_succ,hp] at hq
       rcases List.mem_append.mp hq with z|z
       ·exact h q z
       ·rw [List.mem_singleton.mp z];exact ⟨g,r,ib⟩
      ·rw [zbv ib] at fi
       refine .inr ⟨"BadPlan",[],by simp [a1,a2,a3,a4,fi],?_⟩
       rw [zbv fun z=>ib (z.2 p pm).2.2]
       rfl
     ·refine .inr ⟨"BadPlan",[],?_,?_⟩
      ·by_cases a3:(1:Int)≤(p.rows.length:Int)
       ·have a4:¬ (p.rows.length:Int)≤40:=fun z=>r ⟨by omega,by omega⟩
        simp [a1,a2,a3,a4]
       ·simp [a1,a2,a3]
      ·rw [zbv fun z=>r (z.2 p pm).2.1]
       rfl
    ·refine .inr ⟨"BadPlan",[],?_,?_⟩
     ·by_cases a1:(1:Int)≤(p.givens.length:Int)
      ·have a2:¬ (p.givens.length:Int)≤12:=fun z=>g ⟨by omega,by omega⟩
       simp [a1,a2]
      ·simp [a1]
     ·rw [zbv fun z=>g (z.2 p pm).1]
      rfl
  simp [F_z4,G_z4] at key ⊢
  simp [b1,b2,key]
 ·rw [zbv fun z=>c z.1]
  by_cases b1:(1:Int)≤(ps.length:Int)
  ·have b2:¬ (ps.length:Int)≤20:=fun z=>c ⟨by omega,by omega⟩
   simp [F_z4,G_z4,b1,b2]
  ·simp [F_z4,G_z4,b1]
theorem zgC {ps:List Pl}(S:SnB ps)(nd:(ps.map (·.name)).Nodup):F_z6 [zbl ps]=resN (PtB ps) "BadPart" := by
 have mA:(" is made by no plan ahead that has as many given things as it has items" : Str).length≤100:=by decide +kernel
 obtain ⟨inner,hI⟩:∃ b,(sIf (zeu (zap (zc8 F_z9 (zab (dVar 4) dNil))) (zap (dOp gNe (zj9 [1] (ziU (dVar 1) (dVar 4))) (dBlt gLen (zab (dVar 5) dNil))))) (zbk "BadPart" ((jFv zcA (dVar 3) (jCon " is made by no plan ahead that has as many given things as it has items" jNil)) Str.empty)) za9)=b:=⟨_,rfl⟩
 have key:(forT (.one 2) (sSeq (sFor (iS (dUn (gFld "Plan" "rows") (dVar 2))) (.tup [3,4,5]) inner) (zgK 1 (dUn (gFld "Plan" "name") (dVar 2)) (dBlt gLen (zab (dUn (gFld "Plan" "givens") (dVar 2)) dNil)))) (ps.map zaZ) [some (.val (zbl ps)),some (.own false (.dct [] [])),none,none,none,none]).bind outV=resN (PtB ps) "BadPart" := by
  refine zbt (R:=fun z=>z.bind outV=resN (PtB ps) "BadPart") (P:=fun i sd=>(∀ (k:Nat) (p:Pl),k<i→ps[k]? = some p→∀ r∈p.rows,ptB (za6 (ps.take k)) r)∧∃ u2 u3 u4 u5:Option SV,sd=[some (.val (zbl ps)),some (.own false (dT (za6 (ps.take i)))),u2,u3,u4,u5]) ⟨fun k p h=>by omega,none,none,none,none,rfl⟩ ?_ ?_
  ·rintro sd ⟨h,u2,u3,u4,u5,rfl⟩
   rw [List.length_map] at h
   have ok:PtB ps:=fun k p hk=>h k p (List.getElem?_eq_some_iff.mp hk).1 hk
   rw [zbC ok]
   rfl
  ·rintro i x sd hx ⟨h,u2,u3,u4,u5,rfl⟩
   obtain ⟨p,hp,rfl⟩:=zd8 hx
   have pm:=List.mem_of_getElem? hp
   have P:=S.pl p pm
   have il:=(List.getElem?_eq_some_iff.mp hp).1
   have l2:=S.len
   obtain ⟨t,ht⟩:∃ t,za6 (ps.take i)=t:=⟨_,rfl⟩
   have fr:p.name∉t.map (·.1):=by
    rw [← ht,zg0]
    intro z
    obtain ⟨y,hy,ey⟩:=List.mem_map.mp z
    obtain ⟨j,hj,ej⟩:=List.getElem_of_mem hy
    have pw:=List.pairwise_iff_getElem.mp (List.pairwise_map.mp (List.nodup_iff_pairwise_ne.mp nd))
    have hj':j<i:=by rw [List.length_take] at hj;omega
    have:=pw j i (by omega) il hj'
    rw [List.getElem_take] at ej
    rw [List.getElem?_eq_getElem il] at hp
    first|exact zqn hp|exact zqb hp|(obtain rfl:=Option.some.inj hp)|cases hp
    rw [ej] at this
    exact this ey
   have tl:t.length≤60:=by
    rw [← ht]
    unfold za6
    rw [List.length_map,List.length_take]
    omega
   rw [ht]
   have inn:(∃ v3 v4 v5:Option SV,forT (.tup [3,4,5]) inner (p.rows.map rowD) [some (.val (zbl ps)),some (.own false (dT t)),some (.val (zaZ p)),u3,u4,u5]=.ok (.next [some (.val (zbl ps)),some (.own false (dT t)),some (.val (zaZ p)),v3,v4,v5])∧∀ r∈p.rows,ptB t r)∨(forT (.tup [3,4,5]) inner (p.rows.map rowD) [some (.val (zbl ps)),some (.own false (dT t)),some (.val (zaZ p)),u3,u4,u5]=.ex "BadPart" []∧¬ ∀ r∈p.rows,ptB t r):=by
    refine zbt (R:=fun z=>(∃ v3 v4 v5:Option SV,z=.ok (.next [some (.val (zbl ps)),some (.own false (dT t)),some (.val (zaZ p)),v3,v4,v5])∧∀ r∈p.rows,ptB t r)∨(z=.ex "BadPart" []∧¬ ∀ r∈p.rows,ptB t r)) (P:=fun j sd=>(∀ r∈p.rows.take j,ptB t r)∧∃ u3 u4 u5:Option SV,sd=[some (.val (zbl ps)),some (.own false (dT t)),some (.val (zaZ p)),u3,u4,u5]) ⟨fun q hq=>by simp at hq,u3,u4,u5,rfl⟩ ?_ ?_
    ·rintro sd ⟨h,v3,v4,v5,rfl⟩
     rw [List.length_map,List.take_length] at h
     exact .inl ⟨v3,v4,v5,rfl,h⟩
    ·rintro j y sd hy ⟨h,v3,v4,v5,rfl⟩
     obtain ⟨r,hr,rfl⟩:=zd8 hy
     have rm:r∈p.rows:=List.mem_of_getElem? hr
     have fi:=f_z9 (P.rh r rm).asc
     have gl:gLen [rwD r.2.2]=some (.int r.2.2.length):=by show some (D.int (r.2.2.map prD).length)=_;rw [List.length_map]
     have v:=zjY t r.2.1
     have dt:znx (dT t)=.ok (t.map fun p=>.inr p.1,t.map fun p=>.int p.2):=rfl
     have step:ptB t r→∀ q∈p.rows.take (j+1),ptB t q:=fun hq q qm=>by
      rw [List.take_succ,hr] at qm
      rcases List.mem_append.mp qm with z|z
      ·exact h q z
      ·rw [List.mem_singleton.mp z];exact hq
     obtain ⟨d1,e1⟩:=msgA (P.rn r rm) mA (i:=3) (sd:=[some (.val (zbl ps)),some (.own false (dT t)),some (.val (zaZ p)),some (.val (.str r.1)),some (.val (.str r.2.1)),some (.val (rwD r.2.2))]) rfl
     subst hI
     generalize jFv zcA _ _=j1 at e1 ⊢
     cases q:isP r.2.1 with
     | false =>
      rw [q] at fi
      exact .inl ⟨[some (.val (zbl ps)),some (.own false (dT t)),some (.val (zaZ p)),some (.val (.str r.1)),some (.val (.str r.2.1)),some (.val (rwD r.2.2))],by simp [fi],step (fun z=>nomatch q.symm.trans z),_,_,_,rfl⟩
     | true =>
      rw [q] at fi
      cases k:lkT t r.2.1 with
      | none =>
       rw [k] at v
       have gn:gNe .non (.int r.2.2.length)=some (.bl true):=by
        have z:sameD .non (.int r.2.2.length)=false:=by
         rw [zcj]
         intro z
         first|exact zqn z|exact zqb z|(obtain rfl:=Option.some.inj z)|cases z
        rw [zji rfl rfl,z]
        rfl
       exact .inr ⟨"BadPart",[],by simp [fi,gl,dt,v,zc3,gn,e1],.inr ⟨rfl,fun z=>by have:=z r rm q;rw [k] at this;cases this⟩⟩
      | some n =>
       rw [k] at v
       by_cases en:n=(r.2.2.length:Int)
       ·subst en
        exact .inl ⟨[some (.val (zbl ps)),some (.own false (dT t)),some (.val (zaZ p)),some (.val (.str r.1)),some (.val (.str r.2.1)),some (.val (rwD r.2.2))],by simp [fi,gl,dt,v,zc3],step (fun _=>k),_,_,_,rfl⟩
       ·exact .inr ⟨"BadPart",[],by simp [fi,gl,dt,v,zc3,en,e1],.inr ⟨rfl,fun z=>by have:=z r rm q;rw [k] at this;exact en (Option.some.inj this)⟩⟩
   rcases inn with ⟨v3,v4,v5,e2,ok⟩|⟨e2,no⟩
   ·have pt:=put_T fr (p.givens.length:Int)
    have lz:=za0 (show t.length≤1000 by omega)
    have tk:za6 (ps.take (i+1))=t++[(p.name,(p.givens.length:Int))]:=by
     rw [List.take_succ,hp,← ht]
     unfold za6
     rw [List.map_append]
     rfl
    have gk:ownK (some (some (.own false (dT t))))=.ok (t.map fun p=>.inr p.1,t.map fun p=>.int p.2):=rfl
    refine .inl ⟨[some (.val (zbl ps)),some (.own false (dT (t++[(p.name,(p.givens.length:Int))]))),some (.val (zaZ p)),v3,v4,v5],?_,fun k z hk hz => ?_,_,_,_,_,by rw [tk]⟩
    ·rw [← pt]
     simp [e2,gk,lz]
    ·by_cases ki:k<i
     ·exact h k z ki hz
     ·have:k=i:=by omega
      subst this
      rw [hp] at hz
      first|exact zqn hz|exact zqb hz|(obtain rfl:=Option.some.inj hz)|cases hz
      rw [ht]
      exact ok
   ·refine .inr ⟨"BadPart",[],by simp [e2],?_⟩
    rw [zbv fun z=>no (by rw [← ht];exact z i p hp)]
    rfl
 subst hI
 simp [F_z6,G_z6,zk1] at key ⊢
 simp [key]
noncomputable def zb8 (g:Nat):Str:=if g=0 then "BadName" else if g=1 then "BadPlan" else if g=2 then "BadPart" else "TooLong"
theorem zpp {ps:List Pl}(S:SnB ps)(n:¬ NmB ps):F_z1 [zbl ps]=.ex (zb8 0) []:=by
 have a:=zcF S
 rw [zbv n] at a
 simp [F_z1,G_z1,a,zb8]
theorem znZ {ps:List Pl}(S:SnB ps)(n:NmB ps)(p:¬ PsB ps):F_z1 [zbl ps]=.ex (zb8 1) []:=by
 have a:=zcF S
 have b:=zdU S
 rw [zbC n] at a
 rw [zbv p] at b
 simp [F_z1,G_z1,a,b,zb8]
theorem zpD {ps:List Pl}(S:SnB ps)(n:NmB ps)(p:PsB ps)(q:¬ PtB ps):F_z1 [zbl ps]=.ex (zb8 2) []:=by
 have a:=zcF S
 have b:=zdU S
 have c:=zgC S n.1.2
 rw [zbC n] at a
 rw [zbC p] at b
 rw [zbv q] at c
 simp [F_z1,G_z1,a,b,c,zb8]
theorem f_z31 {b:D}{g:Nat}(hg:g<4)(h:F_z1 [b]=.ex (zb8 g) []):zgI [b,.int g]=.ok (.bl true):=by
 have r4:zbm [.int 4]=.ok (zax 0 4):=zaA (by omega) (by omega)
 have z4:4<sizeLine:=za0 (by omega)
 have z3:3<sizeLine:=za0 (by omega)
 have key:mapE (.one 0) (dOp gEq (dVar 0) (dVar 1)) [none,some (.val (.int g))] (zax 0 4)=.ok (((List.range 4).map fun k:Nat=>decide (k=g)).map .bl):=by
  rw [List.map_map]
  exact zbj fun i _=>by
   have e:decide ((i:Int)=(g:Int))=decide (i=g):=decide_eq_decide.mpr (by omega)
   simp [e]
 have cs:zb8 g∈(["BadName", "BadPart", "BadPlan", "TooLong"]:List Str):=by
  unfold zb8
  split
  ·decide +kernel
  ·split
   ·decide +kernel
   ·split<;>decide +kernel
 have i1:=zcV (us:=["BadName", "BadPlan", "BadPart", "TooLong"]) (u := "BadName") cs (by decide +kernel)
 have i2:=zcV (us:=["BadName", "BadPlan", "BadPart", "TooLong"]) (u := "BadPlan") cs (by decide +kernel)
 have i3:=zcV (us:=["BadName", "BadPlan", "BadPart", "TooLong"]) (u := "BadPart") cs (by decide +kernel)
 have i4:=zcV (us:=["BadName", "BadPlan", "BadPart", "TooLong"]) (u := "TooLong") cs (by decide +kernel)
 have iv:=ziX cs
 have it:zev ["BadName", "BadPart", "BadPlan", "TooLong"] ["NoPlan", "TooMany", "Unlike", "BadRow", "NoName"] [.exc (zb8 g),.tup [.ucl "NoPlan",.ucl "TooMany",.ucl "Unlike",.ucl "BadRow",.ucl "NoName"]]=some (.bl false):=zhQ (us:=["NoPlan", "TooMany", "Unlike", "BadRow", "NoName"]) cs
 have eb : [D.bl (decide (zb8 g = "BadName")),.bl (decide (zb8 g = "BadPlan")),.bl (decide (zb8 g = "BadPart")),.bl (decide (zb8 g = "TooLong"))]=((List.range 4).map fun k:Nat=>decide (k=g)).map .bl:=by
  have:g=0∨g=1∨g=2∨g=3:=by omega
  rcases this with rfl|rfl|rfl|rfl<;>rfl
 have ge:=zjV ((List.range 4).map fun k:Nat=>decide (k=g)) ((List.range 4).map fun k:Nat=>decide (k=g))
 rw [show (((List.range 4).map fun k:Nat=>decide (k=g)) == ((List.range 4).map fun k:Nat=>decide (k=g)))=true by simp] at ge
 rw [← eb] at ge key
 generalize decide (zb8 g = "BadName")=d1 at *
 generalize decide (zb8 g = "BadPlan")=d2 at *
 generalize decide (zb8 g = "BadPart")=d3 at *
 generalize decide (zb8 g = "TooLong")=d4 at *
 generalize zb8 g=c at *
 simp [zgI,zjp,h,cs,i1,i2,i3,i4,iv,it,r4,z3,z4,key,zaD,ge,zc3,zfF]
def zeM:FS:=(sSeq (sIf (zap (dOp gLt (dVar 0) (dC (.int 4)))) (sRet (dC (.int 0))) za9) (sSeq (sIf (dOrT (zap (dOp gLt (dVar 0) (dC (.int 13)))) (zap (dOp gEq (dVar 0) (dC (.int 16))))) (sRet (dC (.int 1))) za9) (sSeq (sIf (zap (dOp gLt (dVar 0) (dC (.int 15)))) (sRet (dC (.int 2))) za9) (sRet (dC (.int 3))))))
def zdC:List D→Res D:=runD 1 1 zeM
noncomputable def grpN (k:Nat):Nat:=if k<4 then 0 else if k<13∨k=16 then 1 else if k<15 then 2 else 3
theorem zo1 (k:Nat):grpN k<4:=by
 unfold grpN
 split
 ·omega
 ·split
  ·omega
  ·split<;>omega
theorem f_z30 (k:Nat):zdC [.int k]=.ok (.int (grpN k)):=by
 unfold grpN
 by_cases a:k<4
 ·have a':(k:Int)<4:=by omega
  simp [zdC,zeM,a,a']
 ·have a':¬ (k:Int)<4:=by omega
  by_cases b:k<13
  ·have b':(k:Int)<13:=by omega
   simp [zdC,zeM,a,a',b,b']
  ·have b':¬ (k:Int)<13:=by omega
   by_cases d:k=16
   ·subst d
    simp [zdC,zeM]
   ·have d':¬ (k:Int)=16:=by omega
    by_cases e:k<15
    ·have e':(k:Int)<15:=by omega
     simp [zdC,zeM,a,a',b,b',d,d',e,e']
    ·have e':¬ (k:Int)<15:=by omega
     simp [zdC,zeM,a,a',b,b',d,d',e,e']
def zh8:FS:=(sSeq (sIf (zap (dOp gLt (dVar 1) (dBlt gLen (zab (dVar 0) dNil)))) (sRet (dOp gIx (dVar 0) (dVar 1))) za9) (sRet (dC (.int 0))))
def zfm:List D→Res D:=runD 2 2 zh8
theorem f_z10 (ns:List Int)(k:Nat):zfm [.scr ns,.int k]=.ok (.int (zlR ns k)):=by
 unfold zlR
 rw [Int.toNat_natCast]
 by_cases h:k<ns.length
 ·have e:atI ns (k:Int)=some ns[k]:=by rw [zed h];exact List.getElem?_eq_getElem h
  have e2:ns.getD k 0=ns[k]:=by rw [List.getD_eq_getElem?_getD,List.getElem?_eq_getElem h];rfl
  rw [e2]
  simp [zfm,zh8,h,e]
 ·have e2:ns.getD k 0=0:=by rw [List.getD_eq_getElem?_getD,List.getElem?_eq_none (by omega)];rfl
  rw [e2]
  simp [zfm,zh8,h]
def zjq:FS:=(sSeq (sSet 2 (dOp gMod (dOp gMul (dOp gAdd (dOp gMod (dVar 0) (dC (.int 2147483647))) (dVar 1)) (dC (.int 48271))) (dC (.int 2147483647)))) (sRet (dOp gMod (dOp gMul (dVar 2) (dVar 2)) (dC (.int 2147483629)))))
def zbU:List D→Res D:=runD 3 2 zjq
@[simp] theorem f_z11 (c s:Int):zbU [.int c,.int s]=.ok (.int (mixF c s)):=by
 have h1:zds (c % 2147483647+s) 48271=true:=zct (by omega) (by omega)
 have h2:zds ((c % 2147483647+s)*48271 % 2147483647) ((c % 2147483647+s)*48271 % 2147483647)=true:=zct (by omega) (by omega)
 simp [zbU,zjq,zcy h1,zcy h2,mixF]
def zjM:FS:=(sSeq (sSet 2 (dC (.str "abcdefghijklmnopqrstuvwxyz"))) (sSeq (sSet 3 (dC (.str ""))) (sSeq (sFor (iR1 (zab (dOp gMod (dOp zaQ (dVar 0) (dC (.int 4))) (dC (.int 10))) dNil)) (.one 4) (sSet 3 (dOp gAdd (dVar 3) (dOp gIx (dVar 2) (dOp gMod (zaC zbU (zab (dVar 0) (zab (dOp gAdd (dC (.int 7)) (dVar 4)) dNil))) (dC (.int 26))))))) (sSeq (sOwn 5 (dLst dNil)) (sSeq (sFor (iR1 (zab (dVar 1) dNil)) (.one 4) (sSeq (sSet 6 (dOp gAdd (dOp gIx (dVar 2) (dOp gMod (dVar 4) (dC (.int 26)))) (dOp gIx (dVar 2) (dOp gMod (dOp zaQ (dVar 4) (dC (.int 26))) (dC (.int 26)))))) (sSeq (sSet 7 (dLst (zab (dOp gAdd (dOp gAdd (dC (.str "x")) (dVar 3)) (dBlt gStr (zab (dVar 4) dNil))) (zab (dOp gAdd (dOp gAdd (dC (.str "y")) (dBlt gStr (zab (dVar 4) dNil))) (dVar 3)) (zab (dOp gAdd (dOp gAdd (dC (.str "q")) (dVar 3)) (dVar 6)) (zab (dOp gAdd (dOp gAdd (dVar 6) (dC (.str "q"))) (dVar 3)) dNil)))))) (zbo 5 (dOp gIx (dVar 7) (dOp gMod (dVar 0) (dC (.int 4)))))))) (zcu 5))))))
def zex:List D→Res D:=runN 8 2 zjM
theorem zcO (cell:Int){many:Nat}(h:many≤60):∃ base,TxtOk 9 base∧low base∧zex [.int cell,.int many]=.ok (.lst (((List.range many).map (nmF (cell % 4) base)).map .str)):=by
 obtain ⟨m,hm,m0,m10⟩:∃ m:Int,cell / 4 % 10=m∧0≤m∧m<10:=⟨_,rfl,by omega,by omega⟩
 have r1:zbm [.int m]=.ok (zax 0 m.toNat):=zaA (by omega) (by omega)
 have r2:zbm [.int many]=.ok (zax 0 many):=by rw [zaA (by omega) (by omega),Int.toNat_natCast]
 obtain ⟨sd1,e1,base,u4,hsd1,hb,lb⟩:=zcG (tg:=.one 4) (b:=sSet 3 (dOp gAdd (dVar 3) (dOp gIx (dVar 2) (dOp gMod (zaC zbU (zab (dVar 0) (zab (dOp gAdd (dC (.int 7)) (dVar 4)) dNil))) (dC (.int 26)))))) (ds:=zax 0 m.toNat) (sd:=[some (.val (.int cell)),some (.val (.int many)),some (.val (.str "abcdefghijklmnopqrstuvwxyz")),some (.val (.str "")),none,none,none,none])
  (P:=fun i sd => ∃ (base:Str) (u4:Option SV),sd=[some (.val (.int cell)),some (.val (.int many)),some (.val (.str "abcdefghijklmnopqrstuvwxyz")),some (.val (.str base)),u4,none,none,none]∧TxtOk i base∧low base) ⟨"",none,rfl,zaG (by decide +kernel),fun _ h=>nomatch h⟩ (by
   rintro i x sd hx ⟨base,u4,rfl,hb,lb⟩
   obtain ⟨rfl,hi⟩:=zc5 hx
   obtain ⟨y,hy⟩:∃ y,mixF cell (7+(0+(i:Int))) % 26=y:=⟨_,rfl⟩
   have hc:=zcw (k:=y) (by omega) (by omega)
   have lk:y.toNat<26:=by omega
   have ga:=zaV hb (zdS lk) (by omega)
   exact ⟨[some (.val (.int cell)),some (.val (.int many)),some (.val (.str "abcdefghijklmnopqrstuvwxyz")),some (.val (.str (base++letF y.toNat))),some (.val (.int (0+(i:Int)))),none,none,none],by simp at hy ⊢;simp [hy,hc,ga],_,_,rfl,hb.app (zdS lk),zhw lb (zfA lk)⟩)
 rw [zaD] at hb
 have hb:TxtOk 9 base:=hb.mono (by omega)
 obtain ⟨q,hq,q0,q4⟩:∃ q:Int,cell % 4=q∧0≤q∧q<4:=⟨_,rfl,by omega,by omega⟩
 have okx:TxtOk 1 "x" := zaG (by decide +kernel)
 have oky:TxtOk 1 "y" := zaG (by decide +kernel)
 have okq:TxtOk 1 "q" := zaG (by decide +kernel)
 obtain ⟨sd2,e2,w4,w6,w7,hsd2⟩:=zcG (tg:=.one 4) (b:=(sSeq (sSet 6 (dOp gAdd (dOp gIx (dVar 2) (dOp gMod (dVar 4) (dC (.int 26)))) (dOp gIx (dVar 2) (dOp gMod (dOp zaQ (dVar 4) (dC (.int 26))) (dC (.int 26)))))) (sSeq (sSet 7 (dLst (zab (dOp gAdd (dOp gAdd (dC (.str "x")) (dVar 3)) (dBlt gStr (zab (dVar 4) dNil))) (zab (dOp gAdd (dOp gAdd (dC (.str "y")) (dBlt gStr (zab (dVar 4) dNil))) (dVar 3)) (zab (dOp gAdd (dOp gAdd (dC (.str "q")) (dVar 3)) (dVar 6)) (zab (dOp gAdd (dOp gAdd (dVar 6) (dC (.str "q"))) (dVar 3)) dNil)))))) (zbo 5 (dOp gIx (dVar 7) (dOp gMod (dVar 0) (dC (.int 4)))))))) (ds:=zax 0 many) (sd:=[some (.val (.int cell)),some (.val (.int many)),some (.val (.str "abcdefghijklmnopqrstuvwxyz")),some (.val (.str base)),u4,some (.own false (.lst [])),none,none])
  (P:=fun i sd => ∃ (w4 w6 w7:Option SV),sd=[some (.val (.int cell)),some (.val (.int many)),some (.val (.str "abcdefghijklmnopqrstuvwxyz")),some (.val (.str base)),w4,some (.own false (.lst (((List.range i).map (nmF q base)).map .str))),w6,w7]) ⟨u4,none,none,rfl⟩ (by
   rintro i x sd hx ⟨w4,w6,w7,rfl⟩
   obtain ⟨rfl,hi⟩:=zc5 hx
   have eI:(0+(i:Int))=(i:Int):=by omega
   have hc1:=zcw (k:=(i:Int) % 26) (by omega) (by omega)
   have hc2:=zcw (k:=(i:Int) / 26 % 26) (by omega) (by omega)
   rw [show ((i:Int) % 26).toNat=i % 26 by omega] at hc1
   rw [show ((i:Int) / 26 % 26).toNat=i / 26 % 26 by omega] at hc2
   obtain ⟨hsk,ok⟩:=zbB (k:=i) (by omega)
   have l1:TxtOk 1 (letF (i % 26)):=zdS (Nat.mod_lt _ (by omega))
   have l2:TxtOk 1 (letF (i / 26 % 26)):=zdS (Nat.mod_lt _ (by omega))
   have sp:gAdd (.str (letF (i % 26))) (.str (letF (i / 26 % 26)))=some (.str (zcz i)):=zaV l1 l2 (by omega)
   have oksp:=zhh i
   have a1:=zaV okx hb (by omega)
   have a2:=zaV (okx.app hb) ok (by omega)
   have b1:=zaV oky ok (by omega)
   have b2:=zaV (oky.app ok) hb (by omega)
   have d1:=zaV okq hb (by omega)
   have d2:=zaV (okq.app hb) oksp (by omega)
   have e1:=zaV oksp okq (by omega)
   have e2:=zaV (oksp.app okq) hb (by omega)
   have hx:atI [D.str ("x" ++ base++digF i),D.str ("y" ++ digF i++base),D.str ("q" ++ base++zcz i),D.str (zcz i ++ "q" ++ base)] q=some (.str (nmF q base i)):=by
    have:q=0∨q=1∨q=2∨q=3:=by omega
    rcases this with rfl|rfl|rfl|rfl<;>rfl
   have hz:=za0 (show ((List.range i).map (nmF q base)).length≤1000 by rw [List.length_map,List.length_range];omega)
   rw [List.length_map,List.length_range] at hz
   refine ⟨[some (.val (.int cell)),some (.val (.int many)),some (.val (.str "abcdefghijklmnopqrstuvwxyz")),some (.val (.str base)),some (.val (.int (i:Int))),some (.own false (.lst (((List.range (i+1)).map (nmF q base)).map .str))),some (.val (.str (zcz i))),some (.val (.lst [D.str ("x" ++ base++digF i),D.str ("y" ++ digF i++base),D.str ("q" ++ base++zcz i),D.str (zcz i ++ "q" ++ base)]))],?_,_,_,_,rfl⟩
   rw [List.range_succ]
   simp [hc1,hc2,sp,hsk,a1,a2,b1,b2,d1,d2,e1,e2,hq,hx,hz])
 rw [zaD] at hsd2
 subst hsd1
 subst hsd2
 refine ⟨base,hb,lb,?_⟩
 rw [hq]
 simp [zex,zjM,hm,r1,r2,e1,e2]
def zeI:FS:=(sSeq (sSet 2 (zaC zbU (zab (dVar 0) (zab (dVar 1) dNil)))) (sSeq (sIf (zap (dOp gGt (dOp gMod (dVar 2) (dC (.int 4))) (dC (.int 0)))) (sRet (dOp gSub (dOp gMod (dOp zaQ (dVar 2) (dC (.int 4))) (dC (.int 5))) (dC (.int 2)))) za9) (sSeq (sSet 3 (dOp gMod (dOp gMul (dOp zaQ (dVar 0) (dC (.int 7))) (dOp gAdd (dVar 1) (dC (.int 2)))) (dOp gPow (dC (.int 10)) (dC (.int 30))))) (sSeq (sIf (zap (dOp gEq (dOp gMod (dOp zaQ (dVar 2) (dC (.int 20))) (dC (.int 3))) (dC (.int 0)))) (sSet 3 (dOp gSub (dOp gPow (dC (.int 10)) (dC (.int 30))) (dC (.int 1)))) za9) (sSeq (sIf (zap (dOp gEq (dOp gMod (dOp zaQ (dVar 2) (dC (.int 60))) (dC (.int 2))) (dC (.int 0)))) (sRet (dVar 3)) za9) (sRet (dUn gNeg (dVar 3))))))))
def zdI:List D→Res D:=runD 4 2 zeI
theorem f_z13 {c s:Int}(h1 : -1000000≤s)(h2:s≤1000000):∃ w:Int,zdI [.int c,.int s]=.ok (.int w) ∧ -1000000000000000000000000000000<w∧w<1000000000000000000000000000000:=by
 have h3:zds (c / 7) (s+2)=true:=zct (by omega) (by omega)
 have h4:gPow (.int 10) (.int 30)=some (.int 1000000000000000000000000000000):=rfl
 obtain ⟨x,hx⟩:∃ x:Int,c / 7*(s+2)=x:=⟨_,rfl⟩
 have h5:=zcy h3
 rw [hx] at h5
 by_cases c1:0<mixF c s % 4
 ·exact ⟨mixF c s / 4 % 5-2,by simp [zdI,zeI,c1],by omega,by omega⟩
 ·by_cases c2:mixF c s / 20 % 3=0<;>by_cases c3:mixF c s / 60 % 2=0
  ·exact ⟨999999999999999999999999999999,by simp [zdI,zeI,c1,c2,c3,h5,h4],by omega,by omega⟩
  ·exact ⟨-999999999999999999999999999999,by simp [zdI,zeI,c1,c2,c3,h5,h4],by omega,by omega⟩
  ·exact ⟨x % 1000000000000000000000000000000,by simp [zdI,zeI,c1,c2,c3,h5,h4],by omega,by omega⟩
  ·exact ⟨-(x % 1000000000000000000000000000000),by simp [zdI,zeI,c1,c2,c3,h5,h4],by omega,by omega⟩
def zkm:FS:=(sSeq (sOwn 3 (dLst dNil)) (sSeq (sFor (iR1 (zab (dVar 1) dNil)) (.one 4) (zbo 3 (dTup (zab (dOp gMod (zaC zbU (zab (dVar 0) (zab (dOp gAdd (dC (.int 101)) (dVar 4)) dNil))) (dVar 2)) (zab (zaC zdI (zab (dOp gAdd (dOp zaQ (dVar 0) (dOp gAdd (dVar 4) (dC (.int 1)))) (dVar 4)) (zab (dOp gAdd (dC (.int 151)) (dVar 4)) dNil))) dNil))))) (fun sd=>(sRet (dBlt zdx (zab (dVar 3) dNil))) (frzD [3] sd))))
def zeY:List D→Res D:=runD 5 3 zkm
theorem zoy {cell ahead:Int}{count:Nat}(h:count≤60)(ha:1≤ahead):∃ its:List (Int×Int),zeY [.int cell,.int count,.int ahead]=.ok (rwD its)∧its.length=count∧ItOk ahead its:=by
 have r1:zbm [.int count]=.ok (zax 0 count):=by rw [zaA (by omega) (by omega),Int.toNat_natCast]
 obtain ⟨sd1,e1,its,u4,hsd1,hl,ok⟩:=zcG (tg:=.one 4) (b:=zbo 3 (dTup (zab (dOp gMod (zaC zbU (zab (dVar 0) (zab (dOp gAdd (dC (.int 101)) (dVar 4)) dNil))) (dVar 2)) (zab (zaC zdI (zab (dOp gAdd (dOp zaQ (dVar 0) (dOp gAdd (dVar 4) (dC (.int 1)))) (dVar 4)) (zab (dOp gAdd (dC (.int 151)) (dVar 4)) dNil))) dNil)))) (ds:=zax 0 count) (sd:=[some (.val (.int cell)),some (.val (.int count)),some (.val (.int ahead)),some (.own false (.lst [])),none])
  (P:=fun i sd => ∃ (its:List (Int×Int)) (u4:Option SV),sd=[some (.val (.int cell)),some (.val (.int count)),some (.val (.int ahead)),some (.own false (.lst (its.map prD))),u4]∧its.length=i∧ItOk ahead its) ⟨[],none,rfl,rfl,fun _ h=>(nomatch h),fun _ h=>nomatch h⟩ (by
   rintro i x sd hx ⟨its,u4,rfl,hl,ok⟩
   obtain ⟨rfl,hi⟩:=zc5 hx
   obtain ⟨w,hw,w1,w2⟩:=f_z13 (c:=cell / ((0+(i:Int))+1)+(0+(i:Int))) (s:=151+(0+(i:Int))) (by omega) (by omega)
   obtain ⟨t,ht⟩:∃ t,mixF cell (101+(0+(i:Int))) % ahead=t:=⟨_,rfl⟩
   have t0:0≤t:=by rw [← ht];exact Int.emod_nonneg _ (by omega)
   have t1:t<ahead:=by rw [← ht];exact Int.emod_lt_of_pos _ (by omega)
   have gm:=zdg (i:=mixF cell (101+(0+(i:Int)))) (j:=ahead) (by omega)
   rw [ht] at gm
   have gf:=zkj (i:=cell) (j:=(0+(i:Int))+1) (by omega) (by omega)
   have hz:=za0 (show its.length≤1000 by omega)
   refine ⟨[some (.val (.int cell)),some (.val (.int count)),some (.val (.int ahead)),some (.own false (.lst ((its++[(t,w)]).map prD))),some (.val (.int (0+(i:Int))))],?_,_,_,rfl,by simp [hl],⟨fun p hp => ?_,fun p hp => ?_⟩⟩
   ·simp only [Int.zero_add] at gm gf hw ⊢
    simp [gm,gf,hw,hz,prD]
   ·rcases List.mem_append.mp hp with z|z
    ·exact ok.rng p z
    ·rw [List.mem_singleton.mp z];exact ⟨t0,t1⟩
   ·rcases List.mem_append.mp hp with z|z
    ·exact ok.far p z
    ·rw [List.mem_singleton.mp z];exact ⟨w1,w2⟩)
 rw [zaD] at hl
 subst hsd1
 refine ⟨its,?_,hl,ok⟩
 simp [zeY,zkm,r1,e1]
 rfl
def zdK:FS:=(sSeq (sSet 5 (zaC zbU (zab (dVar 0) (zab (dC (.int 23)) dNil)))) (sSeq (sIf (zeu (zap (dOp gNe (dVar 3) (dLst dNil))) (zap (dOp gEq (dOp gMod (dVar 5) (dC (.int 3))) (dC (.int 0))))) (sSeq (sSet 6 (dOp gIx (dVar 3) (dOp gMod (dOp zaQ (dVar 5) (dC (.int 3))) (dBlt gLen (zab (dVar 3) dNil))))) (sRet (dTup (zab (dVar 1) (zab (dOp gIx (dVar 6) (dC (.int 0))) (zab (zaC zeY (zab (dVar 0) (zab (dOp gIx (dVar 6) (dC (.int 1))) (zab (dVar 2) dNil)))) dNil)))))) za9) (sSeq (sSet 7 (dOp gAdd (dC (.int 1)) (dOp gMod (dOp zaQ (dVar 5) (dC (.int 3))) (dC (.int 4))))) (sSeq (sIf (zeu (zap (dVar 4)) (zap (dOp gEq (dOp gMod (dOp zaQ (dVar 5) (dC (.int 12))) (dC (.int 3))) (dC (.int 0))))) (sSet 7 (dC (.int 40))) za9) (sRet (dTup (zab (dVar 1) (zab (dOp gIx (dLst (zab (dC (.str "all")) (zab (dC (.str "first")) dNil))) (dOp gMod (dOp zaQ (dVar 5) (dC (.int 100))) (dC (.int 2)))) (zab (zaC zeY (zab (dVar 0) (zab (dVar 7) (zab (dVar 2) dNil)))) dNil)))))))))
def zcE:List D→Res D:=runD 8 5 zdK
theorem f_z17 {cell ahead:Int}{name:Str}{parts:List (Str×Int)}{wide:Bool}(ha:1≤ahead)(hp:zfZ parts):∃ how its,zcE [.int cell,.str name,.int ahead,.lst (parts.map prtD),.bl wide]=.ok (rowD (name,how,its))∧RwOk parts ahead (name,how,its):=by
 obtain ⟨m,hm⟩:∃ m,mixF cell 23=m:=⟨_,rfl⟩
 have gn:=zmc (zlE 9 hp)
 have plain:∀ count:Nat,1≤count→count≤40→∃ how its,atI [D.str "all",D.str "first"] (m / 100 % 2)=some (.str how)∧zeY [.int cell,.int count,.int ahead]=.ok (rwD its)∧RwOk parts ahead (name,how,its):=fun count c1 c2=>by
  obtain ⟨its,h1,h2,h3⟩:=zoy (cell:=cell) (ahead:=ahead) (count:=count) (by omega) ha
  have:m / 100 % 2=0∨m / 100 % 2=1:=by omega
  rcases this with z|z
  ·exact ⟨"all",its,by rw [z];rfl,h1,⟨.inl rfl,h3,by show 1≤its.length;omega,by show its.length≤40;omega⟩⟩
  ·exact ⟨"first",its,by rw [z];rfl,h1,⟨.inr (.inl rfl),h3,by show 1≤its.length;omega,by show its.length≤40;omega⟩⟩
 by_cases c1:parts.isEmpty=false∧m % 3=0
 ·obtain ⟨c0,c1⟩:=c1
  have hl:1≤parts.length:=by
   cases parts with
   | nil=>first|exact zqn c0|exact zqb c0|(obtain rfl:=Option.some.inj c0)|cases c0
   | cons a l=>simp
  obtain ⟨k,hk⟩:∃ k,m / 3 % (parts.length:Int)=k:=⟨_,rfl⟩
  have k0:0≤k:=by rw [← hk];exact Int.emod_nonneg _ (by omega)
  have k1:k<(parts.length:Int):=by rw [← hk];exact Int.emod_lt_of_pos _ (by omega)
  have gm:=zdg (i:=m / 3) (j:=(parts.length:Int)) (by omega)
  rw [hk] at gm
  obtain ⟨p,pm,pe⟩:=zkA (f:=prtD) k0 k1
  obtain ⟨_,p1,p2⟩:=hp p pm
  obtain ⟨n,hn⟩:∃ n:Nat,p.2=(n:Int):=⟨p.2.toNat,by omega⟩
  obtain ⟨its,h1,h2,h3⟩:=zoy (cell:=cell) (ahead:=ahead) (count:=n) (by omega) ha
  refine ⟨p.1,its,?_,⟨.inr (.inr ?_),h3,by show 1≤its.length;omega,by show its.length≤40;omega⟩⟩
  ·rw [← hn] at h1
   rw [c0] at gn
   simp [zcE,zdK,hm,c1] at gn ⊢
   simp [gn,gm,pe,h1,rowD]
  ·show (p.1,(its.length:Int))∈parts
   rw [h2,← hn]
   exact pm
 ·obtain ⟨n,hn,n1,n2⟩:∃ n:Nat,1+m / 3 % 4=(n:Int)∧1≤n∧n≤4:=⟨(1+m / 3 % 4).toNat,by omega,by omega,by omega⟩
  obtain ⟨how,its,ha,hi,ok⟩:=plain n n1 (by omega)
  obtain ⟨how4,its4,ha4,hi4,ok4⟩:=plain 40 (by omega) (by omega)
  have hi4:zeY [.int cell,.int 40,.int ahead]=.ok (rwD its4):=hi4
  have main:∀ (c:Bool),gNe (.lst (parts.map prtD)) (.lst [])=some (.bl c)→¬ (c=true∧m % 3=0)→∃ how its,zcE [.int cell,.str name,.int ahead,.lst (parts.map prtD),.bl wide]=.ok (rowD (name,how,its))∧RwOk parts ahead (name,how,its):=fun c gc nc=>by
   cases c with
   | false =>
    cases wide with
    | false=>exact ⟨how,its,by simp [zcE,zdK,hm,gc,hn,ha,hi,rowD],ok⟩
    | true =>
     by_cases c2:m / 12 % 3=0
     ·exact ⟨how4,its4,by simp [zcE,zdK,hm,gc,hn,c2,ha4,hi4,rowD],ok4⟩
     ·exact ⟨how,its,by simp [zcE,zdK,hm,gc,hn,c2,ha,hi,rowD],ok⟩
   | true =>
    have c3:¬ m % 3=0:=fun z=>nc ⟨rfl,z⟩
    cases wide with
    | false=>exact ⟨how,its,by simp [zcE,zdK,hm,gc,hn,c3,ha,hi,rowD],ok⟩
    | true =>
     by_cases c2:m / 12 % 3=0
     ·exact ⟨how4,its4,by simp [zcE,zdK,hm,gc,hn,c2,c3,ha4,hi4,rowD],ok4⟩
     ·exact ⟨how,its,by simp [zcE,zdK,hm,gc,hn,c2,c3,ha,hi,rowD],ok⟩
  exact main _ gn (by rintro ⟨z1,z2⟩;exact c1 ⟨by simpa using z1,z2⟩)
def zhC:FS:=(sSeq (sSet 5 (dOp gIx (dVar 0) (dOp gMod (dOp gMul (dC (.int 7)) (dVar 1)) (dBlt gLen (zab (dVar 0) dNil))))) (sSeq (sSet 6 (dOp gAdd (dC (.int 1)) (dOp gMod (zaC zbU (zab (dVar 5) (zab (dC (.int 31)) dNil))) (dC (.int 4))))) (sSeq (sSet 7 (dOp gAdd (dC (.int 1)) (dOp gMod (zaC zbU (zab (dVar 5) (zab (dC (.int 37)) dNil))) (dC (.int 6))))) (sSeq (sIf (zap (dVar 4)) (sSeq (sSet 6 (dOp gIx (dLst (zab (dC (.int 12)) (zab (dC (.int 11)) (zab (dC (.int 1)) dNil)))) (dOp gMod (zaC zbU (zab (dVar 5) (zab (dC (.int 41)) dNil))) (dC (.int 3))))) (sSet 7 (dOp gIx (dLst (zab (dC (.int 40)) (zab (dC (.int 39)) (zab (dC (.int 7)) dNil)))) (dOp gMod (zaC zbU (zab (dVar 5) (zab (dC (.int 43)) dNil))) (dC (.int 3)))))) za9) (sSeq (sSet 8 (zaC zex (zab (dOp zaQ (dVar 5) (dC (.int 5))) (zab (dOp gAdd (dVar 6) (dVar 7)) dNil)))) (sSeq (sOwn 9 (dLst dNil)) (sSeq (sFor (iR1 (zab (dVar 7) dNil)) (.one 10) (sSeq (sSet 11 (dOp gAdd (dOp gIx (dVar 0) (dOp gMod (dOp gAdd (dOp gAdd (dOp gMul (dC (.int 7)) (dVar 1)) (dVar 10)) (dC (.int 1))) (dBlt gLen (zab (dVar 0) dNil)))) (dOp gMul (dC (.int 13)) (dVar 10)))) (zbo 9 (zaC zcE (zab (dVar 11) (zab (dOp gIx (dVar 8) (dOp gAdd (dVar 6) (dVar 10))) (zab (dOp gAdd (dVar 6) (dVar 10)) (zab (dVar 3) (zab (dVar 4) dNil))))))))) (fun sd=>(sRet (dTup (zab (dVar 2) (zab (dSl (dVar 8) zbd (zcK (dVar 6)) zbd) (zab (dVar 9) dNil))))) (frzD [9] sd)))))))))
def zf3:List D→Res D:=runD 12 5 zhC
structure PlOk (parts:List (Str×Int))(p:Pl):Prop where
 g1:1≤p.givens.length
 g2:p.givens.length≤12
 r1:1≤p.rows.length
 r2:p.rows.length≤40
 rows:∀ (k:Nat) (r:Str×Str×List (Int×Int)),p.rows[k]? = some r→RwOk parts ((p.givens.length:Int)+k) r
 names:∃ (q:Int) (base:Str),TxtOk 9 base∧low base∧p.givens++p.rows.map (·.1)=(List.range (p.givens.length+p.rows.length)).map (nmF q base)
theorem f_z18 {pool:List Int}{at_:Nat}{name:Str}{parts:List (Str×Int)}{wide:Bool}(h1:1≤pool.length)(h2:pool.length≤24)(ha:at_≤100)(hp:zfZ parts):∃ p:Pl,zf3 [.lst (pool.map .int),.int at_,.str name,.lst (parts.map prtD),.bl wide]=.ok (zai p)∧p.name=name∧PlOk parts p∧(wide=false→p.rows.length≤6):=by
 have ixp:∀ k:Int,∃ c:Int,gMod (.int k) (.int (pool.length:Int))=some (.int (k % (pool.length:Int)))∧atI (pool.map D.int) (k % (pool.length:Int))=some (.int c):=fun k=>by
  obtain ⟨c,_,e⟩:=zkA (f:=D.int) (l:=pool) (k:=k % (pool.length:Int)) (Int.emod_nonneg _ (by omega)) (Int.emod_lt_of_pos _ (by omega))
  exact ⟨c,zdg (by omega),e⟩
 have mul7:gMul (.int 7) (.int (at_:Int))=some (.int (7*(at_:Int))):=zcy (zct (by omega) (by omega))
 obtain ⟨cell,gm0,gi0⟩:=ixp (7*(at_:Int))
 obtain ⟨g,r,hg,g1,g2,r1,r2,r3⟩:∃ g r:Nat,((if wide=true then atI [D.int 12,D.int 11,D.int 1] (mixF cell 41 % 3) else some (.int (1+mixF cell 31 % 4)))=some (.int (g:Int))∧(if wide=true then atI [D.int 40,D.int 39,D.int 7] (mixF cell 43 % 3) else some (.int (1+mixF cell 37 % 6)))=some (.int (r:Int)))∧1≤g∧g≤12∧1≤r∧r≤40∧(wide=false→r≤6):=by
  cases wide with
  | false=>exact ⟨(1+mixF cell 31 % 4).toNat,(1+mixF cell 37 % 6).toNat,⟨by simp;omega,by simp;omega⟩,by omega,by omega,by omega,by omega,fun _=>by omega⟩
  | true =>
   have a3:mixF cell 41 % 3=0∨mixF cell 41 % 3=1∨mixF cell 41 % 3=2:=by omega
   have b3:mixF cell 43 % 3=0∨mixF cell 43 % 3=1∨mixF cell 43 % 3=2:=by omega
   obtain ⟨g,hg,g1,g2⟩:∃ g:Nat,atI [D.int 12,D.int 11,D.int 1] (mixF cell 41 % 3)=some (.int (g:Int))∧1≤g∧g≤12:=by
    rcases a3 with z|z|z
    ·exact ⟨12,by rw [z];rfl,by omega,by omega⟩
    ·exact ⟨11,by rw [z];rfl,by omega,by omega⟩
    ·exact ⟨1,by rw [z];rfl,by omega,by omega⟩
   obtain ⟨r,hr,r1,r2⟩:∃ r:Nat,atI [D.int 40,D.int 39,D.int 7] (mixF cell 43 % 3)=some (.int (r:Int))∧1≤r∧r≤40:=by
    rcases b3 with z|z|z
    ·exact ⟨40,by rw [z];rfl,by omega,by omega⟩
    ·exact ⟨39,by rw [z];rfl,by omega,by omega⟩
    ·exact ⟨7,by rw [z];rfl,by omega,by omega⟩
   exact ⟨g,r,⟨hg,hr⟩,g1,g2,r1,r2,fun z=>nomatch z⟩
 obtain ⟨base,bk,bl,fn⟩:=zcO (cell / 5) (many:=g+r) (by omega)
 obtain ⟨q,hq⟩:∃ q,cell / 5 % 4=q:=⟨_,rfl⟩
 rw [hq] at fn
 have r0:zbm [.int r]=.ok (zax 0 r):=by rw [zaA (by omega) (by omega),Int.toNat_natCast]
 obtain ⟨ns,hns⟩:∃ ns,(List.range (g+r)).map (nmF q base)=ns:=⟨_,rfl⟩
 have nl:ns.length=g+r:=by rw [← hns,List.length_map,List.length_range]
 have nat_:∀ k:Nat,k<g+r→ns[k]? = some (nmF q base k):=fun k hk=>by rw [← hns,List.getElem?_map,List.getElem?_range hk];rfl
 rw [hns] at fn
 obtain ⟨sd1,e1,rows,u10,u11,hsd1,hl,ok,hn⟩:=zcG (tg:=.one 10) (b:=(sSeq (sSet 11 (dOp gAdd (dOp gIx (dVar 0) (dOp gMod (dOp gAdd (dOp gAdd (dOp gMul (dC (.int 7)) (dVar 1)) (dVar 10)) (dC (.int 1))) (dBlt gLen (zab (dVar 0) dNil)))) (dOp gMul (dC (.int 13)) (dVar 10)))) (zbo 9 (zaC zcE (zab (dVar 11) (zab (dOp gIx (dVar 8) (dOp gAdd (dVar 6) (dVar 10))) (zab (dOp gAdd (dVar 6) (dVar 10)) (zab (dVar 3) (zab (dVar 4) dNil))))))))) (ds:=zax 0 r)
  (sd:=[some (.val (.lst (pool.map .int))),some (.val (.int at_)),some (.val (.str name)),some (.val (.lst (parts.map prtD))),some (.val (.bl wide)),some (.val (.int cell)),some (.val (.int g)),some (.val (.int r)),some (.val (.lst (ns.map .str))),some (.own false (.lst [])),none,none])
  (P:=fun i sd => ∃ (rows:List (Str×Str×List (Int×Int))) (u10 u11:Option SV),sd=[some (.val (.lst (pool.map .int))),some (.val (.int at_)),some (.val (.str name)),some (.val (.lst (parts.map prtD))),some (.val (.bl wide)),some (.val (.int cell)),some (.val (.int g)),some (.val (.int r)),some (.val (.lst (ns.map .str))),some (.own false (.lst (rows.map rowD))),u10,u11]∧rows.length=i∧(∀ (k:Nat) x,rows[k]? = some x→RwOk parts ((g:Int)+k) x)∧rows.map (·.1)=(ns.drop g).take i) ⟨[],none,none,rfl,rfl,fun k x h=>by simp at h,by simp⟩ (by
   rintro i x sd hx ⟨rows,u10,u11,rfl,hl,ok,hn⟩
   obtain ⟨rfl,hi⟩:=zc5 hx
   have eI:(0+(i:Int))=(i:Int):=by omega
   obtain ⟨c,gm,gi⟩:=ixp (7*(at_:Int)+(i:Int)+1)
   have m13:gMul (.int 13) (.int (i:Int))=some (.int (13*(i:Int))):=zcy (zct (by omega) (by omega))
   have nx:atI (ns.map D.str) ((g:Int)+(i:Int))=some (.str (nmF q base (g+i))):=by
    rw [show ((g:Int)+(i:Int))=((g+i:Nat):Int) by omega,zed (by rw [List.length_map];omega),List.getElem?_map,nat_ _ (by omega)]
    rfl
   obtain ⟨how,its,hm,rk⟩:=f_z17 (cell:=c+13*(i:Int)) (ahead:=(g:Int)+(i:Int)) (name:=nmF q base (g+i)) (parts:=parts) (wide:=wide) (by omega) hp
   have hz:=za0 (show rows.length≤1000 by omega)
   refine ⟨[some (.val (.lst (pool.map .int))),some (.val (.int at_)),some (.val (.str name)),some (.val (.lst (parts.map prtD))),some (.val (.bl wide)),some (.val (.int cell)),some (.val (.int g)),some (.val (.int r)),some (.val (.lst (ns.map .str))),some (.own false (.lst ((rows++[(nmF q base (g+i),how,its)]).map rowD))),some (.val (.int (i:Int))),some (.val (.int (c+13*(i:Int))))],?_,_,_,_,rfl,by simp [hl],fun k x hk => ?_,?_⟩
   ·simp [mul7,gm,gi,m13,nx,hm,hz]
   ·by_cases z:k<rows.length
    ·rw [List.getElem?_append_left z] at hk
     exact ok k x hk
    ·rw [List.getElem?_append_right (by omega)] at hk
     have kz:k-rows.length=0:=by
      cases e:k-rows.length with
      | zero=>rfl
      | succ j=>rw [e] at hk;simp at hk
     rw [kz] at hk
     first|exact zqn hk|exact zqb hk|(obtain rfl:=Option.some.inj hk)|cases hk
     have:k=i:=by omega
     rw [this]
     exact rk
   ·rw [List.map_append,hn]
    have hd:(ns.drop g)[i]? = some (nmF q base (g+i)):=by rw [List.getElem?_drop];exact nat_ _ (by omega)
    rw [List.take_succ,hd]
    rfl)
 rw [zaD] at hl hn
 subst hsd1
 have hs:zbw (ns.map D.str) none (some (g:Int)) none=(ns.take g).map D.str:=by
  rw [zdh _ (by omega),List.map_take,Int.toNat_natCast]
 refine ⟨⟨name,ns.take g,rows⟩,?_,rfl,⟨by show 1≤(ns.take g).length;rw [List.length_take];omega,by show (ns.take g).length≤12;rw [List.length_take];omega,by show 1≤rows.length;omega,by show rows.length≤40;omega,fun k x hk => ?_,⟨q,base,bk,bl,?_⟩⟩,fun z=>by have:=r3 z;show rows.length≤6;omega⟩
 ·have fn':zex [.int (cell / 5),.int ((g:Int)+(r:Int))]=.ok (.lst (ns.map .str)):=by rw [← fn];congr 3
  cases wide with
  | false =>
   obtain ⟨ha1,ha2⟩:=hg
   simp at ha1 ha2
   simp [zf3,zhC,mul7,gm0,gi0,ha1,ha2,fn',r0,e1,hs,zai]
  | true =>
   obtain ⟨ha1,ha2⟩:=hg
   simp at ha1 ha2
   simp [zf3,zhC,mul7,gm0,gi0,ha1,ha2,fn',r0,e1,hs,zai]
 ·show RwOk parts (((ns.take g).length:Int)+k) x
  rw [List.length_take,Nat.min_eq_left (by omega)]
  exact ok k x hk
 ·show ns.take g++rows.map (·.1)=_
  rw [hn,List.take_of_length_le (l:=ns.drop g) (i:=r) (by rw [List.length_drop];omega),List.take_append_drop,← hns]
  congr 2
  show g+r=(((List.range (g+r)).map (nmF q base)).take g).length+rows.length
  rw [List.length_take,List.length_map,List.length_range]
  omega
def zkb:FS:=(sSeq (sSet 3 (dBlt zjL (zab (dVar 2) (zab (dBlt zjW (zab (dC (.int 0)) (zab (dOp gSub (dBlt gLen (zab (dVar 0) dNil)) (dVar 1)) dNil))) dNil)))) (sRet (zb2 [none,some 0,some 1,some 2] (iR1 (zab (dVar 3) dNil)) (.one 0) (dBlt gSum (zab (dSl (dVar 1) (zcK (dOp gAdd (dVar 2) (dVar 0))) zbd (zcK (dVar 3))) dNil)))))
def zf7:List D→Res D:=runN 4 3 zkb
theorem zcP {ns:List Int}(h:ns.length≤63){a most:Int}(a0:0≤a)(a1:a≤100)(m0:1≤most)(m1:most≤60):∃ cs:List Int,(cs.length:Int)≤most∧zf7 [.scr ns,.int a,.int most]=.ok (.lst (cs.map .int)):=by
 obtain ⟨m,hm,em⟩:∃ m:Nat,(m:Int)≤most∧(if (if a<(ns.length:Int) then (ns.length:Int)-a else 0)<most then (if a<(ns.length:Int) then (ns.length:Int)-a else 0) else most)=(m:Int):=by
  refine ⟨(if (if a<(ns.length:Int) then (ns.length:Int)-a else 0)<most then (if a<(ns.length:Int) then (ns.length:Int)-a else 0) else most).toNat,?_,?_⟩<;>(repeat' split)<;>omega
 have r1:zbm [.int (m:Int)]=.ok (zax 0 m):=by
  rw [zaA (by omega) (by omega),Int.toNat_natCast]
 have key:mapE (.one 0) (dBlt gSum (zab (dSl (dVar 1) (zcK (dOp gAdd (dVar 2) (dVar 0))) zbd (zcK (dVar 3))) dNil)) [none,some (.val (.scr ns)),some (.val (.int a)),some (.val (.int most))] (zax 0 m)=.ok ((List.range m).map fun k:Nat=>.int (zbw ns (some (a+(k:Int))) none (some most)).sum):=zbj fun i hi=>by
  have gs:=zmt (ds:=ns) (lo:=some (a+(i:Int))) (hi:=none) (c:=most) (by omega)
  simp [gs]
 refine ⟨(List.range m).map fun k:Nat=>(zbw ns (some (a+(k:Int))) none (some most)).sum,by simpa using hm,?_⟩
 rw [List.map_map]
 have lz:=za0 (show m≤1000 by omega)
 simp [zf7,zkb,em,r1,key,zaD,lz]
def zjk:FS:=(sSeq (sSet 2 (zaC zf7 (zab (dVar 0) (zab (dVar 1) (zab (dC (.int 24)) dNil))))) (sSeq (sIf (zap (dOp gEq (dVar 2) (dLst dNil))) (sRet (dLst (zab (dBlt gLen (zab (dVar 0) dNil)) dNil))) za9) (sRet (dVar 2))))
def zgX:List D→Res D:=runD 3 2 zjk
theorem f_z15 {ns:List Int}(h:ns.length≤63):∃ pool:List Int,zgX [.scr ns,.int 1]=.ok (.lst (pool.map .int))∧1≤pool.length∧pool.length≤24:=by
 obtain ⟨cs,h1,h2⟩:=zcP h (a:=1) (most:=24) (by omega) (by omega) (by omega) (by omega)
 have ge:=zlN (zln cs)
 cases c:cs.isEmpty with
 | true =>
  rw [c] at ge
  exact ⟨[(ns.length:Int)],by simp [zgX,zjk,h2,ge],by simp,by simp⟩
 | false =>
  rw [c] at ge
  refine ⟨cs,by simp [zgX,zjk,h2,ge],?_,by omega⟩
  cases cs with
  | nil=>first|exact zqn c|exact zqb c|(obtain rfl:=Option.some.inj c)|cases c
  | cons a l=>simp
def ziG:FS:=(sSeq (sSet 2 (zaC zgX (zab (dVar 0) (zab (dVar 1) dNil)))) (sSeq (sSet 3 (zaC zfm (zab (dVar 0) (zab (dC (.int 0)) dNil)))) (sSeq (sSet 4 (dOp gEq (dOp gMod (dVar 3) (dC (.int 5))) (dC (.int 1)))) (sSeq (sSet 5 (dOp gAdd (dC (.int 1)) (dOp gMod (dOp zaQ (dVar 3) (dC (.int 5))) (dC (.int 4))))) (sSeq (sIf (zap (dVar 4)) (sSet 5 (dC (.int 1))) za9) (sSeq (sSet 6 (zaC zex (zab (dOp zaQ (dVar 3) (dC (.int 20))) (zab (dVar 5) dNil)))) (sSeq (sOwn 7 (dLst dNil)) (sSeq (sFor (iR1 (zab (dVar 5) dNil)) (.one 8) (sSeq (sOwn 9 (zfC [7] (zb2 [none] (iS (dVar 7)) (.one 0) (dTup (zab (dOp gIx (dVar 0) (dC (.int 0))) (zab (dBlt gLen (zab (dOp gIx (dVar 0) (dC (.int 1))) dNil)) dNil)))))) (fun sd=>(zbo 7 (zaC zf3 (zab (dVar 2) (zab (dVar 8) (zab (dOp gIx (dVar 6) (dVar 8)) (zab (dVar 9) (zab (dVar 4) dNil))))))) (frzD [9] sd)))) (zcu 7)))))))))
def zgH:List D→Res D:=runN 10 2 ziG
structure BkOk (ps:List Pl):Prop where
 l1:1≤ps.length
 l2:ps.length≤4
 pls:∀ (i:Nat) (p:Pl),ps[i]? = some p→PlOk (za6 (ps.take i)) p
 few:ps.length=1∨∀ p∈ps,p.rows.length≤6
 names:∃ (q:Int) (base:Str),TxtOk 9 base∧low base∧ps.map (·.name)=(List.range ps.length).map (nmF q base)
theorem f_z19 {ns:List Int}(h:ns.length≤63):∃ ps:List Pl,zgH [.scr ns,.int 1]=.ok (.lst (ps.map zai))∧BkOk ps:=by
 obtain ⟨pool,hp,p1,p2⟩:=f_z15 h
 have hc:=f_z10 ns 0
 obtain ⟨fst,hf⟩:∃ c,zlR ns 0=c:=⟨_,rfl⟩
 have hc:zfm [.scr ns,.int 0]=.ok (.int fst):=by rw [← hf];exact hc
 obtain ⟨wide,hw⟩:∃ b:Bool,decide (fst % 5=1)=b:=⟨_,rfl⟩
 obtain ⟨many,hm,m1,m2,m3⟩:∃ m:Nat,(if wide=true then (1:Int) else 1+fst / 5 % 4)=(m:Int)∧1≤m∧m≤4∧(wide=true→m=1):=by
  cases wide with
  | true=>exact ⟨1,rfl,by omega,by omega,fun _=>rfl⟩
  | false=>exact ⟨(1+fst / 5 % 4).toNat,by simp;omega,by omega,by omega,fun z=>nomatch z⟩
 obtain ⟨base,bk,bl,fn⟩:=zcO (fst / 20) (many:=many) (by omega)
 obtain ⟨q,hq⟩:∃ q,fst / 20 % 4=q:=⟨_,rfl⟩
 rw [hq] at fn
 obtain ⟨nm,hnm⟩:∃ nm,(List.range many).map (nmF q base)=nm:=⟨_,rfl⟩
 have nl:nm.length=many:=by rw [← hnm,List.length_map,List.length_range]
 have nat_:∀ k:Nat,k<many→nm[k]? = some (nmF q base k):=fun k hk=>by rw [← hnm,List.getElem?_map,List.getElem?_range hk];rfl
 rw [hnm] at fn
 have r0:zbm [.int many]=.ok (zax 0 many):=by rw [zaA (by omega) (by omega),Int.toNat_natCast]
 obtain ⟨sd1,e1,ps,u8,u9,hsd1,hl,ok,hn,fw⟩:=zcG (tg:=.one 8) (b:=(sSeq (sOwn 9 (zfC [7] (zb2 [none] (iS (dVar 7)) (.one 0) (dTup (zab (dOp gIx (dVar 0) (dC (.int 0))) (zab (dBlt gLen (zab (dOp gIx (dVar 0) (dC (.int 1))) dNil)) dNil)))))) (fun sd=>(zbo 7 (zaC zf3 (zab (dVar 2) (zab (dVar 8) (zab (dOp gIx (dVar 6) (dVar 8)) (zab (dVar 9) (zab (dVar 4) dNil))))))) (frzD [9] sd)))) (ds:=zax 0 many)
  (sd:=[some (.val (.scr ns)),some (.val (.int 1)),some (.val (.lst (pool.map .int))),some (.val (.int fst)),some (.val (.bl wide)),some (.val (.int many)),some (.val (.lst (nm.map .str))),some (.own false (.lst [])),none,none])
  (P:=fun i sd => ∃ (ps:List Pl) (u8 u9:Option SV),sd=[some (.val (.scr ns)),some (.val (.int 1)),some (.val (.lst (pool.map .int))),some (.val (.int fst)),some (.val (.bl wide)),some (.val (.int many)),some (.val (.lst (nm.map .str))),some (.own false (.lst (ps.map zai))),u8,u9]∧ps.length=i∧(∀ (k:Nat) p,ps[k]? = some p→PlOk (za6 (ps.take k)) p)∧ps.map (·.name)=nm.take i∧∀ p∈ps,wide=false→p.rows.length≤6) ⟨[],none,none,rfl,rfl,fun k x h=>by simp at h,by simp,fun _ h=>nomatch h⟩ (by
   rintro i x sd hx ⟨ps,u8,u9,rfl,hl,ok,hn,fw⟩
   obtain ⟨rfl,hi⟩:=zc5 hx
   have eI:(0+(i:Int))=(i:Int):=by omega
   have mem:∀ p∈ps,TxtOk 12 p.name∧1≤p.givens.length∧p.givens.length≤12:=fun p hp=>by
    obtain ⟨k,hk,e⟩:=List.getElem_of_mem hp
    have ok1:=ok k p (by rw [List.getElem?_eq_getElem hk,e])
    have hm:p.name∈nm.take i:=by rw [← hn];exact List.mem_map.mpr ⟨p,hp,rfl⟩
    have hm:=List.mem_of_mem_take hm
    rw [← hnm] at hm
    obtain ⟨j,hj,ej⟩:=List.mem_map.mp hm
    refine ⟨?_,ok1.g1,ok1.g2⟩
    rw [← ej]
    exact zl8 (by have:=List.mem_range.mp hj;omega) bk
   have po:zfZ (za6 ps):=fun p hp=>by
    obtain ⟨y,hy,rfl⟩:=List.mem_map.mp hp
    obtain ⟨a,b,c⟩:=mem y hy
    exact ⟨a,by show (1:Int)≤(y.givens.length:Int);omega,by show (y.givens.length:Int)≤12;omega⟩
   have key:mapE (.one 0) (dTup (zab (dOp gIx (dVar 0) (dC (.int 0))) (zab (dBlt gLen (zab (dOp gIx (dVar 0) (dC (.int 1))) dNil)) dNil))) [none] (ps.map zai)=.ok ((za6 ps).map prtD):=by
    unfold za6
    rw [List.map_map]
    exact zcc fun p _=>by simp [prtD]
   obtain ⟨p,hp,pn,pk,pf⟩:=f_z18 (at_:=i) (name:=nmF q base i) (parts:=za6 ps) (wide:=wide) p1 p2 (by omega) po
   have nx:atI (nm.map D.str) (i:Int)=some (.str (nmF q base i)):=by
    rw [zed (by rw [List.length_map];omega),List.getElem?_map,nat_ _ (by omega)]
    rfl
   have hz:=za0 (show ps.length≤1000 by omega)
   have fl:=ziS (za6 ps)
   refine ⟨[some (.val (.scr ns)),some (.val (.int 1)),some (.val (.lst (pool.map .int))),some (.val (.int fst)),some (.val (.bl wide)),some (.val (.int many)),some (.val (.lst (nm.map .str))),some (.own false (.lst ((ps++[p]).map zai))),some (.val (.int (i:Int))),some (.val (.lst ((za6 ps).map prtD)))],?_,_,_,_,rfl,by simp [hl],fun k x hk => ?_,?_,fun x hx z=>(List.mem_append.mp hx).elim (fun y=>fw x y z) fun y=>by rw [List.mem_singleton.mp y];exact pf z⟩
   ·simp [key,hz,fl,nx,hp]
   ·by_cases z:k<ps.length
    ·rw [List.getElem?_append_left z] at hk
     rw [List.take_append_of_le_length (by omega)]
     exact ok k x hk
    ·rw [List.getElem?_append_right (by omega)] at hk
     have kz:k-ps.length=0:=by
      cases e:k-ps.length with
      | zero=>rfl
      | succ j=>rw [e] at hk;simp at hk
     rw [kz] at hk
     first|exact zqn hk|exact zqb hk|(obtain rfl:=Option.some.inj hk)|cases hk
     have:k=ps.length:=by omega
     rw [this,List.take_left']
     ·exact pk
     ·rfl
   ·rw [List.map_append,hn,List.take_succ,nat_ _ (by omega)]
    show _++[p.name]=_
    rw [pn]
    rfl)
 rw [zaD] at hl hn
 subst hsd1
 have few:ps.length=1∨∀ p∈ps,p.rows.length≤6:=by
  by_cases w:wide=false
  ·exact .inr fun p hp=>fw p hp w
  ·exact .inl (by rw [hl];exact m3 (by simpa using w))
 refine ⟨ps,?_,⟨by omega,by omega,ok,few,q,base,bk,bl,?_⟩⟩
 ·cases wide with
  | true =>
   have hm:(1:Int)=(many:Int):=hm
   simp at hw
   simp [zgH,ziG,hp,hc,hw,fn,r0,e1,← hm] at fn r0 e1 ⊢
   simp [fn,r0,e1]
  | false =>
   have hm:1+fst / 5 % 4=(many:Int):=hm
   simp at hw
   simp [zgH,ziG,hp,hc,hw,hm,fn,r0] at e1 ⊢
   simp [e1]
 ·rw [hn,List.take_of_length_le (by omega),← hnm,hl]
theorem bk_wb {ps:List Pl}(B:BkOk ps):WB ps:=by
 obtain ⟨q,base,bk,bl,e⟩:=B.names
 have l2:=B.l2
 have mem:∀ p∈ps,∃ k,k<ps.length∧p.name=nmF q base k:=fun p hp=>by
  have hm:p.name∈ps.map (·.name):=List.mem_map.mpr ⟨p,hp,rfl⟩
  rw [e] at hm
  obtain ⟨k,hk,ek⟩:=List.mem_map.mp hm
  exact ⟨k,List.mem_range.mp hk,ek.symm⟩
 refine ⟨B.l1,by omega,by rw [e];exact zgr q base (by omega),fun p hp => ?_,fun i p hi r hr => ?_,fun p hp => ?_⟩
 ·obtain ⟨k,hk,ek⟩:=mem p hp
  rw [ek]
  exact ⟨zl8 (by omega) bk,zlc _ _ _,zjS (by decide +kernel),zjS (by decide +kernel)⟩
 ·obtain ⟨k,hk⟩:=List.getElem?_of_mem hr
  rcases ((B.pls i p hi).rows k r hk).how with z|z|z
  ·exact .inl z
  ·exact .inr (.inl z)
  ·obtain ⟨y,hy,ey⟩:=List.mem_map.mp z
   refine .inr (.inr (List.mem_map.mpr ⟨y,hy,?_⟩))
   exact congrArg Prod.fst ey
 ·obtain ⟨i,hi⟩:=List.getElem?_of_mem hp
  exact ⟨(B.pls i p hi).r2,(B.pls i p hi).g2⟩
def zjA:FS:=(sSeq (sSet 2 (zb2 [none] (iR1 (zab (dOp gSub (dVar 1) (dBlt gLen (zab (dVar 0) dNil))) dNil)) (.one 0) (dTup (zab (dOp gAdd (dC (.str "t")) (dBlt gStr (zab (dVar 0) dNil))) (zab (dLst (zab (dC (.str "g")) dNil)) (zab (dLst (zab (dTup (zab (dC (.str "r")) (zab (dC (.str "first")) (zab (dTup (zab (dTup (zab (dC (.int 0)) (zab (dVar 0) dNil))) dNil)) dNil)))) dNil)) dNil)))))) (sRet (dOp gAdd (dVar 0) (dVar 2))))
def zfk:List D→Res D:=runD 3 2 zjA
def zdW:FS:=(sSeq (sSet 3 (dOp gMod (dVar 2) (dTmp [0] (dBlt gLen (zab (dVar 0) dNil))))) (sSeq (sAsg (zbA 0 (dVar 3)) (.tup [4,5,6])) (sSeq (sIf (zeu (zap (dOp gEq (dVar 1) (dC (.int 4)))) (zap (dOp gEq (dOp gMod (dOp zaQ (dVar 2) (dC (.int 5))) (dC (.int 2))) (dC (.int 0))))) (sRet (dLst dNil)) za9) (sSeq (sIf (zap (dOp gEq (dVar 1) (dC (.int 4)))) (fun sd=>(sRet (zaC zfk (zab (dVar 0) (zab (dOp gAdd (dC (.int 21)) (dOp gMod (dOp zaQ (dVar 2) (dC (.int 10))) (dC (.int 5)))) dNil)))) (frzD [0] sd)) za9) (sSeq (sIf (zap (dOp gEq (dVar 1) (dC (.int 5)))) (sSet 5 (dLst dNil)) za9) (sSeq (sIf (zap (dOp gEq (dVar 1) (dC (.int 6)))) (sSet 5 (dOp gAdd (dVar 5) (zb2 [none] (iR1 (zab (dOp gSub (dC (.int 13)) (dBlt gLen (zab (dVar 5) dNil))) dNil)) (.one 0) (dOp gAdd (dC (.str "u")) (dBlt gStr (zab (dVar 0) dNil)))))) za9) (sSeq (sIf (zap (dOp gEq (dVar 1) (dC (.int 7)))) (sSet 6 (dLst dNil)) za9) (sSeq (sIf (zap (dOp gEq (dVar 1) (dC (.int 8)))) (sSet 6 (dOp gAdd (dVar 6) (zb2 [none] (iR1 (zab (dOp gSub (dC (.int 41)) (dBlt gLen (zab (dVar 6) dNil))) dNil)) (.one 0) (dTup (zab (dOp gAdd (dC (.str "v")) (dBlt gStr (zab (dVar 0) dNil))) (zab (dC (.str "all")) (zab (dTup (zab (dTup (zab (dC (.int 0)) (zab (dC (.int 0)) dNil))) dNil)) dNil))))))) za9) (sSeq (zcT 0 (dVar 3) (dTup (zab (dVar 4) (zab (dVar 5) (zab (dVar 6) dNil))))) (fun sd=>(sRet (dVar 0)) (frzD [0] sd)))))))))))
def zcY:List D→Res D:=zdF 7 3 0 zdW
theorem zhj {ps:List Pl}{m:Nat}(h:ps.length≤m)(hm:m≤40):zfk [.lst (ps.map zai),.int m]=.ok (.lst ((ps++(List.range (m-ps.length)).map grP).map zai)):=by
 obtain ⟨n,hn⟩:∃ n,m-ps.length=n:=⟨_,rfl⟩
 rw [hn]
 have e0:(m:Int)-(ps.length:Int)=(n:Int):=by omega
 have r0:zbm [.int n]=.ok (zax 0 n):=by rw [zaA (by omega) (by omega),Int.toNat_natCast]
 have okt:TxtOk 1 "t" := zaG (by decide +kernel)
 have key:mapE (.one 0) (dTup (zab (dOp gAdd (dC (.str "t")) (dBlt gStr (zab (dVar 0) dNil))) (zab (dLst (zab (dC (.str "g")) dNil)) (zab (dLst (zab (dTup (zab (dC (.str "r")) (zab (dC (.str "first")) (zab (dTup (zab (dTup (zab (dC (.int 0)) (zab (dVar 0) dNil))) dNil)) dNil)))) dNil)) dNil)))) [none] (zax 0 n)=.ok ((List.range n).map fun k=>zai (grP k)):=zbj fun i hi=>by
  obtain ⟨gk,ok⟩:=zbB (k:=i) (by omega)
  have ga:=zaV okt ok (by omega)
  simp [gk,ga,zai,grP,rowD,rwD,prD]
 have hz:(zax 0 n).length<sizeLine:=za0 (by rw [zaD];omega)
 obtain ⟨ys,hys⟩:∃ ys,((List.range n).map fun k=>zai (grP k))=ys:=⟨_,rfl⟩
 have hl:ys.length=n:=by rw [← hys,List.length_map,List.length_range]
 have ga:gAdd (.lst (ps.map zai)) (.lst ys)=some (.lst (ps.map zai++ys)):=if_pos (zbs (by rw [List.length_map];omega))
 rw [hys] at key
 have ef:(ps++(List.range n).map grP).map zai=ps.map zai++ys:=by rw [List.map_append,← hys,List.map_map];rfl
 rw [ef]
 simp [zfk,zjA,e0,r0,hz,key,ga]
theorem gr_sn {k:Nat}(h:k<60):Sn (grP k):=by
 have one:∀ r∈(grP k).rows,r=(("r" : Str),("first" : Str),[((0:Int),(k:Int))]):=fun r hr=>List.mem_singleton.mp hr
 refine ⟨zl7 (zaG (by decide +kernel)) h,fun x hx => ?_,fun r hr => ?_,fun r hr => ?_,fun r hr => ?_,(by decide:1≤20),(by decide:1≤60)⟩
 ·rw [List.mem_singleton.mp hx];exact zaG (by decide +kernel)
 ·rw [one r hr];show TxtOk 20 "r";exact zaG (by decide +kernel)
 ·rw [one r hr];show TxtOk 20 "first";exact zaG (by decide +kernel)
 ·rw [one r hr];show 1≤60;decide
theorem zn2 (k:Nat):nms (tns (grP k)):=by
 have e:tns (grP k)=[("g" : Str),("r" : Str)]:=rfl
 rw [e]
 exact ⟨fun x hx=>(zej (l:=["g", "r"]) (by decide +kernel) x hx).2,by decide +kernel⟩
theorem zes {ps:List Pl}(S:SnB ps)(N:NmB ps)(F:Fr ps)(l:ps.length≤20){m:Nat}(h1:20<m)(h2:m≤40):SnB (ps++(List.range (m-ps.length)).map grP)∧NmB (ps++(List.range (m-ps.length)).map grP)∧¬ PsB (ps++(List.range (m-ps.length)).map grP)∧∀ p∈ps++(List.range (m-ps.length)).map grP,p∈ps∨tns p ≠ []:=by
 obtain ⟨n,hn⟩:∃ n,m-ps.length=n:=⟨_,rfl⟩
 rw [hn]
 have nm:((List.range n).map grP).map (·.name)=(List.range n).map fun k => "t" ++ digF k:=by
  rw [List.map_map]
  rfl
 refine ⟨zf5 S (fun q hq => ?_) (by rw [List.length_map,List.length_range];omega),⟨?_,fun p hp => ?_⟩,fun z => ?_,fun p hp => ?_⟩
 ·obtain ⟨k,hk,rfl⟩:=List.mem_map.mp hq
  exact gr_sn (by have:=List.mem_range.mp hk;omega)
 ·rw [List.map_append,nm]
  refine zc1 N.1 (tN (by omega)) fun x hx y hy => ?_
  obtain ⟨p,hp,rfl⟩:=List.mem_map.mp hx
  obtain ⟨k,hk,rfl⟩:=List.mem_map.mp hy
  have hk:=List.mem_range.mp hk
  have u:=(zd1 ⟨k,by omega⟩).2.2
  exact zi4 (F.t p hp) u.1 u.2
 ·rcases List.mem_append.mp hp with z|z
  ·exact N.2 p z
  ·obtain ⟨k,_,rfl⟩:=List.mem_map.mp z
   exact zn2 k
 ·have:=z.1.2
  rw [List.length_append,List.length_map,List.length_range] at this
  omega
 ·rcases List.mem_append.mp hp with z|z
  ·exact .inl z
  ·obtain ⟨k,_,rfl⟩:=List.mem_map.mp z
   exact .inr (by intro e;(first|exact zqn e|exact zqb e|(obtain rfl:=Option.some.inj e)|cases e))
theorem f_z26 {ps:List Pl}(S:SnB ps)(N:NmB ps)(B:PsB ps)(F:Fr ps){kind:Nat}(h1:4≤kind)(h2:kind<9)(c:Int):∃ ps',zcY [.lst (ps.map zai),.int kind,.int c]=.ok (.lst (ps'.map zai))∧SnB ps'∧NmB ps'∧¬ PsB ps'∧(kind≠4→ps'.length=ps.length)∧∀ p∈ps',tns p ≠ []:=by
 obtain ⟨⟨n1,n20⟩,pb⟩:=B
 obtain ⟨a,gm,ha,_⟩:=zb9 (n:=ps.length) c (by omega)
 obtain ⟨p,hp⟩:∃ p,ps[a]? = some p:=⟨ps[a],List.getElem?_eq_getElem ha⟩
 have pm:=List.mem_of_getElem? hp
 have P:=S.pl p pm
 obtain ⟨⟨g1,g2⟩,⟨r1,r2⟩,_⟩:=pb p pm
 have nt:=N.2 p pm
 have full:∀ q∈ps,tns q ≠ []:=fun q hq z=>by
  have:=(pb q hq).1.1
  unfold tns at z
  rw [List.append_eq_nil_iff] at z
  rw [z.1] at this
  exact absurd this (by decide)
 have ga:=zbn (f:=zai) hp
 have ix:ixN ps.length (a:Int)=some a:=zcJ ha
 by_cases k4:kind=4
 ·subst k4
  by_cases e:c / 5 % 2=0
  ·refine ⟨[],?_,⟨fun _ h=>(nomatch h),by simp⟩,⟨⟨fun _ h=>(nomatch h),List.nodup_nil⟩,fun _ h=>nomatch h⟩,fun z=>absurd z.1.1 (by show ¬ 1≤0;decide),fun z=>absurd rfl z,fun _ h=>nomatch h⟩
   have lPT:(ps.map zai).length=ps.length:=List.length_map _
   generalize ps.map zai=PT at ga lPT ⊢
   simp [zcY,zdW,lPT,gm,ga,e]
  ·obtain ⟨m,hm,m1,m2⟩:∃ m:Nat,(21:Int)+c / 10 % 5=(m:Int)∧21≤m∧m≤25:=⟨(21+c / 10 % 5).toNat,by omega,by omega,by omega⟩
   obtain ⟨s1,s2,s3,s4⟩:=zes S N F n20 (m:=m) (by omega) (by omega)
   have fg:=zhj (ps:=ps) (m:=m) (by omega) (by omega)
   refine ⟨_,?_,s1,s2,s3,fun z=>absurd rfl z,fun q hq=>(s4 q hq).elim (full q) id⟩
   have lPT:(ps.map zai).length=ps.length:=List.length_map _
   generalize (ps++(List.range (m-ps.length)).map grP).map zai=out at fg ⊢
   generalize ps.map zai=PT at ga fg lPT ⊢
   simp [zcY,zdW,lPT,gm,ga,e,hm,fg]
 ·have key:∀ p':Pl,p'.name=p.name→Sn p'→nms (tns p')→tns p' ≠ []→¬ PlB p'→SnB (ps.set a p')∧NmB (ps.set a p')∧¬ PsB (ps.set a p')∧(kind≠4→(ps.set a p').length=ps.length)∧∀ q∈ps.set a p',tns q ≠ []:=fun p' e s t ne no =>
   ⟨zd7 S s,zf2 N hp e t,fun z=>no (z.2 p' (zaU ha)),fun _=>List.length_set,fun q hq=>by
    rcases List.mem_or_eq_of_mem_set hq with z|z
    ·exact full q z
    ·rw [z];exact ne⟩
  obtain ⟨PT,hPT⟩:∃ z,ps.map zai=z:=⟨_,rfl⟩
  have lPT:PT.length=ps.length:=by rw [← hPT,List.length_map]
  rw [hPT] at ga ⊢
  have setE:∀ q:Pl,PT.set a (zai q)=(ps.set a q).map zai:=fun q=>by rw [← hPT,List.map_set]
  have gL:(p.givens.map D.str).length=p.givens.length:=List.length_map _
  have rL:(p.rows.map rowD).length=p.rows.length:=List.length_map _
  rcases (show kind=5∨kind=6∨kind=7∨kind=8 by omega) with rfl|rfl|rfl|rfl
  ·refine ⟨ps.set a ⟨p.name,[],p.rows⟩,?_,key _ rfl ⟨P.nm,fun _ h=>(nomatch h),P.rn,P.rh,P.il,by simp,P.rl⟩ (zeh nt (List.sublist_append_right _ _)) (fun z => ?_) fun z=>absurd z.1.1 (by show ¬ 1≤0;decide)⟩
   ·rw [← setE]
    have e:D.tup [.str p.name,.lst [],.lst (p.rows.map rowD)]=zai ⟨p.name,[],p.rows⟩:=rfl
    simp [zcY,zdW,lPT,gm,ga,ix,e]
   ·have z:p.rows.map (·.1)=[]:=z
    rw [List.map_eq_nil_iff.mp z] at r1
    exact absurd r1 (by decide)
  ·obtain ⟨n,hn,nn⟩:∃ n:Nat,(13:Int)-(p.givens.length:Int)=(n:Int)∧n=13-p.givens.length:=⟨13-p.givens.length,by omega,rfl⟩
   have r0:zbm [.int n]=.ok (zax 0 n):=by rw [zaA (by omega) (by omega),Int.toNat_natCast]
   have oku:TxtOk 1 "u" := zaG (by decide +kernel)
   have mk:mapE (.one 0) (dOp gAdd (dC (.str "u")) (dBlt gStr (zab (dVar 0) dNil))) [none] (zax 0 n)=.ok (((List.range n).map fun k => "u" ++ digF k).map .str):=by
    rw [List.map_map]
    refine zbj fun i hi => ?_
    obtain ⟨gk,ok⟩:=zbB (k:=i) (by omega)
    have ga:=zaV oku ok (by omega)
    simp [gk,ga]
   obtain ⟨us,hus⟩:∃ us,((List.range n).map fun k => "u" ++ digF k)=us:=⟨_,rfl⟩
   have ul:us.length=n:=by rw [← hus,List.length_map,List.length_range]
   have un:nms us:=by rw [← hus];exact uN (by omega)
   have ut:∀ x∈us,TxtOk 20 x∧∀ y∈tns p,y≠x:=fun x hx=>by
    rw [← hus] at hx
    obtain ⟨k,hk,rfl⟩:=List.mem_map.mp hx
    have hk:=List.mem_range.mp hk
    have u:=(zd1 ⟨k,by omega⟩).1
    exact ⟨zf6 u.1,fun y hy=>zi4 (F.u p pm y hy) u.2.1 u.2.2⟩
   rw [hus] at mk
   have gd:gAdd (.lst (p.givens.map .str)) (.lst (us.map .str))=some (.lst ((p.givens++us).map .str)):=by
    rw [List.map_append]
    exact if_pos (zbs (by rw [List.length_map,List.length_map];omega))
   have hz:(zax 0 n).length<sizeLine:=za0 (by rw [zaD];omega)
   have ntg:nms p.givens:=zeh nt (List.sublist_append_left _ _)
   have ntr:nms (p.rows.map (·.1)):=zeh nt (List.sublist_append_right _ _)
   refine ⟨ps.set a ⟨p.name,p.givens++us,p.rows⟩,?_,key _ rfl ⟨P.nm,fun x hx=>(List.mem_append.mp hx).elim (P.gv x) fun z=>(ut x z).1,P.rn,P.rh,P.il,by show (p.givens++us).length≤20;rw [List.length_append];omega,P.rl⟩ ?_ (fun z => ?_) fun z => ?_⟩
   ·rw [← setE]
    have e:D.tup [.str p.name,.lst ((p.givens++us).map .str),.lst (p.rows.map rowD)]=zai ⟨p.name,p.givens++us,p.rows⟩:=rfl
    generalize (p.givens++us).map D.str=gu at gd e
    generalize us.map D.str=ud at mk gd
    simp [zcY,zdW,lPT,gm,ga,ix,hn,r0,hz,mk,gd,e]
   ·show nms ((p.givens++us)++p.rows.map (·.1))
    refine zc1 (zc1 ntg un fun x hx y hy=>(ut y hy).2 x (List.mem_append_left _ hx)) ntr fun x hx y hy => ?_
    rcases List.mem_append.mp hx with z|z
    ·have:=nt.2
     unfold tns at this
     rw [List.nodup_append] at this
     exact this.2.2 x z y hy
    ·exact fun e=>(ut x z).2 y (List.mem_append_right _ hy) e.symm
   ·have z:(p.givens++us)++p.rows.map (·.1)=[]:=z
    rw [List.append_eq_nil_iff,List.append_eq_nil_iff] at z
    rw [z.1.1] at g1
    exact absurd g1 (by decide)
   ·have z:(p.givens++us).length≤12:=z.1.2
    rw [List.length_append] at z
    omega
  ·refine ⟨ps.set a ⟨p.name,p.givens,[]⟩,?_,key _ rfl ⟨P.nm,P.gv,fun _ h=>(nomatch h),fun _ h=>(nomatch h),fun _ h=>(nomatch h),P.gl,by simp⟩ ?_ (fun z => ?_) fun z=>absurd z.2.1.1 (by show ¬ 1≤0;decide)⟩
   ·rw [← setE]
    have e:D.tup [.str p.name,.lst (p.givens.map .str),.lst []]=zai ⟨p.name,p.givens,[]⟩:=rfl
    simp [zcY,zdW,lPT,gm,ga,ix,e]
   ·show nms (p.givens++[])
    rw [List.append_nil]
    exact zeh nt (List.sublist_append_left _ _)
   ·have z:p.givens++[]=[]:=z
    rw [List.append_nil] at z
    rw [z] at g1
    exact absurd g1 (by decide)
  ·obtain ⟨n,hn,nn⟩:∃ n:Nat,(41:Int)-(p.rows.length:Int)=(n:Int)∧n=41-p.rows.length:=⟨41-p.rows.length,by omega,rfl⟩
   have r0:zbm [.int n]=.ok (zax 0 n):=by rw [zaA (by omega) (by omega),Int.toNat_natCast]
   have okv:TxtOk 1 "v" := zaG (by decide +kernel)
   have mk:mapE (.one 0) (dTup (zab (dOp gAdd (dC (.str "v")) (dBlt gStr (zab (dVar 0) dNil))) (zab (dC (.str "all")) (zab (dTup (zab (dTup (zab (dC (.int 0)) (zab (dC (.int 0)) dNil))) dNil)) dNil)))) [none] (zax 0 n)=.ok (((List.range n).map fun k=>("v" ++ digF k,("all" : Str),oneI)).map rowD):=by
    rw [List.map_map]
    refine zbj fun i hi => ?_
    obtain ⟨gk,ok⟩:=zbB (k:=i) (by omega)
    have ga:=zaV okv ok (by omega)
    have e:D.tup [.tup [.int 0,.int 0]]=rwD oneI:=rfl
    simp [gk,ga,e,rowD]
   obtain ⟨vs,hvs⟩:∃ vs,((List.range n).map fun k=>("v" ++ digF k,("all" : Str),oneI))=vs:=⟨_,rfl⟩
   have vl:vs.length=n:=by rw [← hvs,List.length_map,List.length_range]
   have en:vs.map (·.1)=(List.range n).map fun k => "v" ++ digF k:=by
    rw [← hvs,List.map_map]
    rfl
   have vn:nms (vs.map (·.1)):=by rw [en];exact vN (by omega)
   have vt:∀ r∈vs,TxtOk 20 r.1∧TxtOk 20 r.2.1∧r.2.2.length≤60∧∀ y∈tns p,y≠r.1:=fun r hr=>by
    rw [← hvs] at hr
    obtain ⟨k,hk,rfl⟩:=List.mem_map.mp hr
    have hk:=List.mem_range.mp hk
    have u:=(zd1 ⟨k,by omega⟩).2.1
    exact ⟨zf6 u.1,(show TxtOk 20 "all" from zaG (by decide +kernel)),(by decide:1≤60),fun y hy=>zi4 (F.v p pm y hy) u.2.1 u.2.2⟩
   rw [hvs] at mk
   have gd:gAdd (.lst (p.rows.map rowD)) (.lst (vs.map rowD))=some (.lst ((p.rows++vs).map rowD)):=by
    rw [List.map_append]
    exact if_pos (zbs (by rw [List.length_map,List.length_map];omega))
   have hz:(zax 0 n).length<sizeLine:=za0 (by rw [zaD];omega)
   have cut:∀ r∈p.rows++vs,TxtOk 20 r.1∧TxtOk 20 r.2.1∧r.2.2.length≤60:=fun r hr=>(List.mem_append.mp hr).elim (fun z=>⟨P.rn r z,P.rh r z,P.il r z⟩) fun z=>⟨(vt r z).1,(vt r z).2.1,(vt r z).2.2.1⟩
   refine ⟨ps.set a ⟨p.name,p.givens,p.rows++vs⟩,?_,key _ rfl ⟨P.nm,P.gv,fun r hr=>(cut r hr).1,fun r hr=>(cut r hr).2.1,fun r hr=>(cut r hr).2.2,P.gl,by show (p.rows++vs).length≤60;rw [List.length_append];omega⟩ ?_ (fun z => ?_) fun z => ?_⟩
   ·rw [← setE]
    have e:D.tup [.str p.name,.lst (p.givens.map .str),.lst ((p.rows++vs).map rowD)]=zai ⟨p.name,p.givens,p.rows++vs⟩:=rfl
    generalize (p.rows++vs).map rowD=gu at gd e
    generalize vs.map rowD=ud at mk gd
    simp [zcY,zdW,lPT,gm,ga,ix,hn,r0,hz,mk,gd,e]
   ·show nms (p.givens++(p.rows++vs).map (·.1))
    rw [List.map_append,← List.append_assoc]
    refine zc1 nt vn fun x hx y hy => ?_
    obtain ⟨r,hr,rfl⟩:=List.mem_map.mp hy
    exact (vt r hr).2.2.2 x hx
   ·have z:p.givens++(p.rows++vs).map (·.1)=[]:=z
    rw [List.append_eq_nil_iff] at z
    rw [z.1] at g1
    exact absurd g1 (by decide)
   ·have z:(p.rows++vs).length≤40:=z.2.1.2
    rw [List.length_append] at z
    omega
def zkd:FS:=(sSeq (sSet 1 (dTup (zab (dTup (zab (dC (.int 0)) (zab (dC (.int 0)) dNil))) dNil))) (sSeq (sSet 2 (zb2 [none,some 1] (iR1 (zab (dOp gSub (dC (.int 40)) (dVar 0)) dNil)) (.one 0) (dTup (zab (dOp gAdd (dC (.str "r")) (dBlt gStr (zab (dVar 0) dNil))) (zab (dC (.str "all")) (zab (dVar 1) dNil)))))) (sSeq (sSet 3 (zb2 [none,some 1] (iR1 (zab (dC (.int 40)) dNil)) (.one 0) (dTup (zab (dOp gAdd (dC (.str "r")) (dBlt gStr (zab (dVar 0) dNil))) (zab (dC (.str "h1")) (zab (dVar 1) dNil)))))) (sSeq (sOwn 4 (dOp zf8 (dLst (zab (dTup (zab (dC (.str "r0")) (zab (dC (.str "h2")) (zab (dVar 1) dNil)))) dNil)) (zb2 [none,some 1] (iR1 (zab (dOp gAdd (dC (.int 8)) (dOp gMul (dC (.int 2)) (dVar 0))) dNil)) (.one 0) (dTup (zab (dOp gAdd (dC (.str "r")) (dBlt gStr (zab (dOp gAdd (dVar 0) (dC (.int 1))) dNil))) (zab (dC (.str "h1")) (zab (dVar 1) dNil))))))) (sSeq (sFor (iR1 (zab (dOp gMul (dC (.int 31)) (dOp gSub (dC (.int 1)) (dVar 0))) dNil)) (.one 5) (zbo 4 (dTup (zab (dOp gAdd (dC (.str "s")) (dBlt gStr (zab (dVar 5) dNil))) (zab (dC (.str "first")) (zab (dVar 1) dNil)))))) (fun sd=>(sRet (dLst (zab (dTup (zab (dC (.str "h1")) (zab (dLst (zab (dC (.str "g")) dNil)) (zab (dVar 2) dNil)))) (zab (dTup (zab (dC (.str "h2")) (zab (dLst (zab (dC (.str "g")) dNil)) (zab (dVar 3) dNil)))) (zab (dTup (zab (dC (.str "h3")) (zab (dLst (zab (dC (.str "g")) dNil)) (zab (dVar 4) dNil)))) dNil))))) (frzD [4] sd)))))))
def zgy:List D→Res D:=runN 6 1 zkd
def zfs:FS:=(sSeq (sSet 3 (dOp gMod (dVar 2) (dTmp [0] (dBlt gLen (zab (dVar 0) dNil))))) (sSeq (sAsg (zbA 0 (dVar 3)) (.tup [4,5,6])) (sSeq (sSet 7 (dOp gMod (dOp zaQ (dVar 2) (dC (.int 7))) (dBlt gLen (zab (dVar 6) dNil)))) (sSeq (sSet 8 (dOp gIx (dVar 6) (dVar 7))) (sSeq (sOwn 9 (dBlt zbM (zab (dOp gIx (dVar 8) (dC (.int 2))) dNil))) (sSeq (sSet 10 (dOp gMod (dOp zaQ (dVar 2) (dC (.int 77))) (dTmp [9] (dBlt gLen (zab (dVar 9) dNil))))) (sSeq (sIf (zap (dOp gEq (dVar 1) (dC (.int 9)))) (sOwn 9 (dLst dNil)) za9) (sSeq (sIf (zap (dOp gEq (dVar 1) (dC (.int 10)))) (fun sd=>(sOwn 9 (dOp zf8 (dVar 9) (dOp gRep (dLst (zab (dTup (zab (dC (.int 0)) (zab (dC (.int 0)) dNil))) dNil)) (dOp gSub (dC (.int 41)) (dBlt gLen (zab (dVar 9) dNil)))))) (frzD [9] sd)) za9) (sSeq (sIf (zap (dOp gEq (dVar 1) (dC (.int 11)))) (sSeq (sSet 11 (dOp gAdd (dBlt gLen (zab (dVar 5) dNil)) (dVar 7))) (zcT 9 (dVar 10) (dTup (zab (dOp gIx (dLst (zab (dVar 11) (zab (dOp gAdd (dVar 11) (dC (.int 1))) (zab (dUn gNeg (dC (.int 1))) (zab (dOp gAdd (dVar 11) (dC (.int 40))) dNil))))) (dOp gMod (dOp zaQ (dVar 2) (dC (.int 700))) (dC (.int 4)))) (zab (dOp gIx (zbA 9 (dVar 10)) (dC (.int 1))) dNil))))) za9) (sSeq (sIf (zap (dOp gEq (dVar 1) (dC (.int 12)))) (sSeq (sSet 12 (dOp gAdd (dOp gPow (dC (.int 10)) (dC (.int 30))) (dOp gIx (dLst (zab (dC (.int 0)) (zab (dC (.int 1)) (zab (dOp gMod (dOp zaQ (dVar 2) (dC (.int 700))) (dOp gPow (dC (.int 10)) (dC (.int 40)))) dNil)))) (dOp gMod (dVar 2) (dC (.int 3)))))) (zcT 9 (dVar 10) (dTup (zab (dOp gIx (zbA 9 (dVar 10)) (dC (.int 0))) (zab (dOp gIx (dLst (zab (dVar 12) (zab (dUn gNeg (dVar 12)) dNil))) (dOp gMod (dOp zaQ (dVar 2) (dC (.int 9))) (dC (.int 2)))) dNil))))) za9) (sSeq (fun sd=>(zcT 0 (dVar 3) (dTup (zab (dVar 4) (zab (dVar 5) (zab (dOp gAdd (dOp gAdd (dSl (dVar 6) zbd (zcK (dVar 7)) zbd) (dLst (zab (dTup (zab (dOp gIx (dVar 8) (dC (.int 0))) (zab (dOp gIx (dVar 8) (dC (.int 1))) (zab (dBlt zdx (zab (dVar 9) dNil)) dNil)))) dNil))) (dSl (dVar 6) (zcK (dOp gAdd (dVar 7) (dC (.int 1)))) zbd zbd)) dNil))))) (frzD [9] sd)) (fun sd=>(sRet (dVar 0)) (frzD [0] sd)))))))))))))
def zdp:List D→Res D:=zdF 13 3 0 zfs
noncomputable def rowP (p:Pl)(y:Nat)(r:Str×Str×List (Int×Int)):Pl:=⟨p.name,p.givens,p.rows.set y r⟩
theorem ziA {α : Type}{l:List α}{y:Nat}(h:y<l.length)(x : α):l.take y++[x]++l.drop (y+1)=l.set y x:=by
 rw [List.set_eq_take_append_cons_drop,if_pos h,List.append_assoc]
 rfl
theorem zgl {p:Pl}{y:Nat}{r r':Str×Str×List (Int×Int)}(h:p.rows[y]? = some r)(e:r'.1=r.1):tns (rowP p y r')=tns p:=by
 unfold tns rowP
 show p.givens++(p.rows.set y r').map (·.1)=_
 rw [List.map_set,zel]
 rw [List.getElem?_map,h,e]
 rfl
theorem zje {p:Pl}{y:Nat}{r':Str×Str×List (Int×Int)}(S:Sn p)(h1:TxtOk 20 r'.1)(h2:TxtOk 20 r'.2.1)(h3:r'.2.2.length≤60):Sn (rowP p y r'):=by
 have key:∀ r∈p.rows.set y r',TxtOk 20 r.1∧TxtOk 20 r.2.1∧r.2.2.length≤60:=fun r hr=>by
  rcases List.mem_or_eq_of_mem_set hr with z|z
  ·exact ⟨S.rn r z,S.rh r z,S.il r z⟩
  ·rw [z];exact ⟨h1,h2,h3⟩
 exact ⟨S.nm,S.gv,fun r hr=>(key r hr).1,fun r hr=>(key r hr).2.1,fun r hr=>(key r hr).2.2,S.gl,by show (p.rows.set y r').length≤60;rw [List.length_set];exact S.rl⟩
theorem zcf {p:Pl}{y:Nat}{r':Str×Str×List (Int×Int)}(hy:y<p.rows.length)(rl:p.rows.length≤60) :
 ∃ d1 d2,gSl (.lst (p.rows.map rowD)) none (some (y:Int)) none=some (.lst d1)∧gSl (.lst (p.rows.map rowD)) (some ((y:Int)+1)) none none=some (.lst d2)∧∃ d3,gAdd (.lst d1) (.lst [rowD r'])=some (.lst d3)∧gAdd (.lst d3) (.lst d2)=some (.lst ((rowP p y r').rows.map rowD)):=by
 refine ⟨(p.rows.take y).map rowD,(p.rows.drop (y+1)).map rowD,?_,?_,((p.rows.take y)++[r']).map rowD,?_,?_⟩
 ·rw [zbz,zdh _ (by omega),← List.map_take,Int.toNat_natCast]
 ·rw [zbz,zhK _ (by omega),← List.map_drop]
  rw [show ((y:Int)+1).toNat=y+1 by omega]
 ·rw [List.map_append]
  have hs:((p.rows.take y).map rowD).length+[rowD r'].length≤1000:=by
   rw [List.length_map,List.length_take]
   show min y p.rows.length+1≤1000
   omega
  exact if_pos (zbs hs)
 ·show _=some (D.lst ((p.rows.set y r').map rowD))
  have e:(p.rows.set y r').map rowD=(p.rows.take y++[r']).map rowD++(p.rows.drop (y+1)).map rowD:=by rw [← List.map_append,ziA hy]
  rw [e]
  have hs:((p.rows.take y++[r']).map rowD).length+((p.rows.drop (y+1)).map rowD).length≤1000:=by
   rw [List.length_map,List.length_map,List.length_append,List.length_take,List.length_drop]
   show min y p.rows.length+1+(p.rows.length-(y+1))≤1000
   omega
  exact if_pos (zbs hs)
theorem zfl {α : Type}(x : α):∀ n:Nat,(List.replicate n [x]).flatten=List.replicate n x
 | 0=>rfl
 | n+1=>by rw [List.replicate_succ,List.flatten_cons,zfl x n,List.replicate_succ];rfl
theorem zi2 {its:List (Int×Int)}{s:Nat}{q:Int×Int}:(its.map prD).set s (.tup [.int q.1,.int q.2])=(its.set s q).map prD:=by
 rw [List.map_set]
 rfl
theorem f_z27 {ps:List Pl}(S:SnB ps)(N:NmB ps)(B:PsB ps){kind:Nat}(h1:9≤kind)(h2:kind<13)(c:Int):∃ ps',zdp [.lst (ps.map zai),.int kind,.int c]=.ok (.lst (ps'.map zai))∧SnB ps'∧NmB ps'∧¬ PsB ps'∧ps'.length=ps.length∧∀ p∈ps',tns p ≠ []:=by
 obtain ⟨⟨n1,n20⟩,pb⟩:=B
 obtain ⟨a,gm,ha,_⟩:=zb9 (n:=ps.length) c (by omega)
 obtain ⟨p,hp⟩:∃ p,ps[a]? = some p:=⟨ps[a],List.getElem?_eq_getElem ha⟩
 have pm:=List.mem_of_getElem? hp
 have P:=S.pl p pm
 obtain ⟨⟨g1,g2⟩,⟨r1,r2⟩,ib⟩:=pb p pm
 have nt:=N.2 p pm
 have full:∀ q∈ps,tns q ≠ []:=fun q hq z=>by
  have:=(pb q hq).1.1
  unfold tns at z
  rw [List.append_eq_nil_iff] at z
  rw [z.1] at this
  exact absurd this (by decide)
 have ga:=zbn (f:=zai) hp
 have ix:ixN ps.length (a:Int)=some a:=zcJ ha
 obtain ⟨y,gy,hy,_⟩:=zb9 (n:=p.rows.length) (c / 7) r1
 obtain ⟨r,hr⟩:∃ r,p.rows[y]? = some r:=⟨p.rows[y],List.getElem?_eq_getElem hy⟩
 have rm:=List.mem_of_getElem? hr
 obtain ⟨⟨i1,i2⟩,io⟩:=ib y r hr
 have gr:=zbn (f:=rowD) hr
 obtain ⟨x,gx,hx,_⟩:=zb9 (n:=r.2.2.length) (c / 77) i1
 obtain ⟨q,hq⟩:∃ q,r.2.2[x]? = some q:=⟨r.2.2[x],List.getElem?_eq_getElem hx⟩
 have gq:=zbn (f:=prD) hq
 have ixx:ixN r.2.2.length (x:Int)=some x:=zcJ hx
 obtain ⟨PT,hPT⟩:∃ z,ps.map zai=z:=⟨_,rfl⟩
 have lPT:PT.length=ps.length:=by rw [← hPT,List.length_map]
 rw [hPT] at ga ⊢
 have gli:zbM [rwD r.2.2]=some (.lst (r.2.2.map prD)):=rfl
 have gtu:∀ its:List (Int×Int),zdx [.lst (its.map prD)]=some (rwD its):=fun its=>rfl
 have lI:(r.2.2.map prD).length=r.2.2.length:=List.length_map _
 have lR:(p.rows.map rowD).length=p.rows.length:=List.length_map _
 have key:∀ its:List (Int×Int),its.length≤60→¬ itB ((p.givens.length:Int)+y) its→SnB (ps.set a (rowP p y (r.1,r.2.1,its)))∧NmB (ps.set a (rowP p y (r.1,r.2.1,its)))∧¬ PsB (ps.set a (rowP p y (r.1,r.2.1,its)))∧(ps.set a (rowP p y (r.1,r.2.1,its))).length=ps.length∧∀ q∈ps.set a (rowP p y (r.1,r.2.1,its)),tns q ≠ []:=fun its il no=>by
  have et:=zgl (r':=(r.1,r.2.1,its)) hr rfl
  refine ⟨zd7 S (zje P (P.rn r rm) (P.rh r rm) il),zf2 N hp rfl (by rw [et];exact nt),fun z=>no ?_,List.length_set,fun q hq => ?_⟩
  ·have:=(z.2 _ (zaU (x:=rowP p y (r.1,r.2.1,its)) ha)).2.2 y (r.1,r.2.1,its) (by show (p.rows.set y _)[y]? = _;rw [List.getElem?_set_self hy])
   exact this
  ·rcases List.mem_or_eq_of_mem_set hq with z|z
   ·exact full q z
   ·rw [z,et];exact full p pm
 have setE:∀ q:Pl,PT.set a (zai q)=(ps.set a q).map zai:=fun q=>by rw [← hPT,List.map_set]
 have go:∀ its:List (Int×Int),its.length≤60→¬ itB ((p.givens.length:Int)+y) its→zdp [.lst PT,.int kind,.int c]=.ok (.lst (PT.set a (zai (rowP p y (r.1,r.2.1,its)))))→∃ ps',zdp [.lst PT,.int kind,.int c]=.ok (.lst (ps'.map zai))∧SnB ps'∧NmB ps'∧¬ PsB ps'∧ps'.length=ps.length∧∀ p∈ps',tns p ≠ []:=fun its il no e =>
  ⟨ps.set a (rowP p y (r.1,r.2.1,its)),by rw [e,setE],key its il no⟩
 have pe:∀ its:List (Int×Int),D.tup [.str p.name,.lst (p.givens.map .str),.lst ((rowP p y (r.1,r.2.1,its)).rows.map rowD)]=zai (rowP p y (r.1,r.2.1,its)):=fun its=>rfl
 have re:∀ its:List (Int×Int),D.tup [.str r.1,.str r.2.1,rwD its]=rowD (r.1,r.2.1,its):=fun its=>rfl
 rcases (show kind=9∨kind=10∨kind=11∨kind=12 by omega) with rfl|rfl|rfl|rfl
 ·refine go [] (by simp) (fun z=>absurd z.1.1 (by show ¬ 1≤0;decide)) ?_
  obtain ⟨d1,d2,s1,s2,d3,s3,s4⟩:=zcf (r':=(r.1,r.2.1,[])) hy (by omega)
  have t:=gtu []
  have e1:=pe []
  have e2:=re []
  have t:zdx [.lst []]=some (rwD []):=t
  generalize zai (rowP p y (r.1,r.2.1,[]))=pd at e1 ⊢
  generalize (rowP p y (r.1,r.2.1,[])).rows.map rowD=rd at s4 e1
  generalize rowD (r.1,r.2.1,[])=r1d at s3 e2
  generalize rwD []=i0 at t e2
  simp [-zbz,zdp,zfs,lPT,gm,ga,ix,gy,gr,gli,lI,lR,gx,t,e2,s1,s2,s3,s4,e1]
 ·obtain ⟨n,hn,nn⟩:∃ n:Nat,(41:Int)-(r.2.2.length:Int)=(n:Int)∧n=41-r.2.2.length:=⟨41-r.2.2.length,by omega,rfl⟩
  obtain ⟨its,hits⟩:∃ its,r.2.2++List.replicate n ((0:Int),(0:Int))=its:=⟨_,rfl⟩
  have il:its.length=41:=by rw [← hits,List.length_append,List.length_replicate];omega
  refine go its (by omega) (fun z=>absurd z.1.2 (by omega)) ?_
  obtain ⟨d1,d2,s1,s2,d3,s3,s4⟩:=zcf (r':=(r.1,r.2.1,its)) hy (by omega)
  have t:=gtu its
  have e1:=pe its
  have e2:=re its
  have rp:=zlG (ds:=[D.tup [.int 0,.int 0]]) (k:=(n:Int)) (by simp) (by omega) (by omega)
  rw [Int.toNat_natCast,zfl] at rp
  have ad:zf8 (.lst (r.2.2.map prD)) (.lst (List.replicate n (D.tup [.int 0,.int 0])))=some (.lst (its.map prD)):=by
   rw [← hits,List.map_append,List.map_replicate]
   exact if_pos (zbs (by rw [List.length_map,List.length_replicate];omega))
  generalize zai (rowP p y (r.1,r.2.1,its))=pd at e1 ⊢
  generalize (rowP p y (r.1,r.2.1,its)).rows.map rowD=rd at s4 e1
  generalize rowD (r.1,r.2.1,its)=r1d at s3 e2
  generalize rwD its=i0 at t e2
  generalize its.map prD=it1 at t ad
  generalize List.replicate n (D.tup [.int 0,.int 0])=rpl at rp ad
  generalize r.2.2.map prD=it0 at gli lI ad
  simp [-zbz,zdp,zfs,lPT,gm,ga,ix,gy,gr,gli,lI,lR,gx,hn,rp,ad,t,e2,s1,s2,s3,s4,e1]
 ·obtain ⟨v,hv,vb⟩:∃ v:Int,atI [D.int ((p.givens.length:Int)+y),.int ((p.givens.length:Int)+y+1),.int (-1),.int ((p.givens.length:Int)+y+40)] (c / 700 % 4)=some (.int v)∧¬ (0≤v∧v<(p.givens.length:Int)+y):=by
   have:c / 700 % 4=0∨c / 700 % 4=1∨c / 700 % 4=2∨c / 700 % 4=3:=by omega
   rcases this with z|z|z|z<;>rw [z]
   ·exact ⟨_,rfl,by omega⟩
   ·exact ⟨_,rfl,by omega⟩
   ·exact ⟨_,rfl,by omega⟩
   ·exact ⟨_,rfl,by omega⟩
  obtain ⟨its,hits⟩:∃ its,r.2.2.set x (v,q.2)=its:=⟨_,rfl⟩
  have vm:(v,q.2)∈its:=by rw [← hits];exact zaU hx
  have il:its.length≤60:=by rw [← hits,List.length_set];omega
  refine go its il (fun z=>vb (z.2.rng _ vm)) ?_
  obtain ⟨d1,d2,s1,s2,d3,s3,s4⟩:=zcf (r':=(r.1,r.2.1,its)) hy (by omega)
  have t:=gtu its
  have e1:=pe its
  have e2:=re its
  have st:(r.2.2.map prD).set x (.tup [.int v,.int q.2])=its.map prD:=by rw [← hits];exact zi2 (q:=(v,q.2))
  have q1:gIx (prD q) (.int 1)=some (.int q.2):=rfl
  generalize zai (rowP p y (r.1,r.2.1,its))=pd at e1 ⊢
  generalize (rowP p y (r.1,r.2.1,its)).rows.map rowD=rd at s4 e1
  generalize rowD (r.1,r.2.1,its)=r1d at s3 e2
  generalize rwD its=i0 at t e2
  generalize its.map prD=it1 at t st
  generalize r.2.2.map prD=it0 at gli lI st gq
  generalize prD q=qd at gq q1
  simp [-zbz,zdp,zfs,lPT,gm,ga,ix,gy,gr,gli,lI,lR,gx,hv,gq,q1,ixx,st,t,e2,s1,s2,s3,s4,e1]
 ·have p30:gPow (.int 10) (.int 30)=some (.int 1000000000000000000000000000000):=rfl
  have p40:gPow (.int 10) (.int 40)=some (.int 10000000000000000000000000000000000000000):=rfl
  have m40:gMod (.int (c / 700)) (.int 10000000000000000000000000000000000000000)=some (.int (c / 700 % 10000000000000000000000000000000000000000)):=zdg (by omega)
  have n40:=Int.emod_nonneg (c / 700) (show (10000000000000000000000000000000000000000:Int)≠0 by omega)
  generalize c / 700 % 10000000000000000000000000000000000000000=big at m40 n40
  obtain ⟨w,hw,w0⟩:∃ w:Int,atI [D.int 0,.int 1,.int big] (c % 3)=some (.int w)∧0≤w:=by
   have:c % 3=0∨c % 3=1∨c % 3=2:=by omega
   rcases this with z|z|z<;>rw [z]
   ·exact ⟨_,rfl,by omega⟩
   ·exact ⟨_,rfl,by omega⟩
   ·exact ⟨_,rfl,n40⟩
  obtain ⟨far,hf⟩:∃ f:Int,1000000000000000000000000000000+w=f:=⟨_,rfl⟩
  obtain ⟨v,hv,vb⟩:∃ v:Int,atI [D.int far,.int (-far)] (c / 9 % 2)=some (.int v)∧¬ (-1000000000000000000000000000000<v∧v<1000000000000000000000000000000):=by
   have:c / 9 % 2=0∨c / 9 % 2=1:=by omega
   rcases this with z|z<;>rw [z]
   ·exact ⟨_,rfl,by omega⟩
   ·exact ⟨_,rfl,by omega⟩
  obtain ⟨its,hits⟩:∃ its,r.2.2.set x (q.1,v)=its:=⟨_,rfl⟩
  have vm:(q.1,v)∈its:=by rw [← hits];exact zaU hx
  have il:its.length≤60:=by rw [← hits,List.length_set];omega
  refine go its il (fun z=>vb (z.2.far _ vm)) ?_
  obtain ⟨d1,d2,s1,s2,d3,s3,s4⟩:=zcf (r':=(r.1,r.2.1,its)) hy (by omega)
  have t:=gtu its
  have e1:=pe its
  have e2:=re its
  have st:(r.2.2.map prD).set x (.tup [.int q.1,.int v])=its.map prD:=by rw [← hits];exact zi2 (q:=(q.1,v))
  have q1:gIx (prD q) (.int 0)=some (.int q.1):=rfl
  generalize zai (rowP p y (r.1,r.2.1,its))=pd at e1 ⊢
  generalize (rowP p y (r.1,r.2.1,its)).rows.map rowD=rd at s4 e1
  generalize rowD (r.1,r.2.1,its)=r1d at s3 e2
  generalize rwD its=i0 at t e2
  generalize its.map prD=it1 at t st
  generalize r.2.2.map prD=it0 at gli lI st gq
  generalize prD q=qd at gq q1
  simp [-zbz,zdp,zfs,lPT,gm,ga,ix,gy,gr,gli,lI,lR,gx,p30,p40,m40,hw,hf,hv,gq,q1,ixx,st,t,e2,s1,s2,s3,s4,e1]
def zjt:FS:=(sSeq (sSet 1 (dLst (ze7 [.str "",.str "plan",.str "given",.str "all",.str "first",.str "part",.str "1a",.str "a23456789012b",.str "a b",.str "aB",.str "a-",.str " a",.str "a "]))) (sRet (dOp gIx (dVar 1) (dOp gMod (dVar 0) (dBlt gLen (zab (dVar 1) dNil))))))
def zgD:List D→Res D:=runD 2 1 zjt
noncomputable def badL:List Str:=["", "plan", "given", "all", "first", "part", "1a", "a23456789012b", "a b", "aB", "a-", " a", "a "]
theorem zli:(badL.all fun x => !zb4 x&&(decide (x.length≤20)&&x.cps.all (· < 128)))=true:=by decide +kernel
theorem znL (c:Int):∃ x:Str,zgD [.int c]=.ok (.str x)∧zb4 x=false∧TxtOk 20 x:=by
 obtain ⟨a,hm,ha,_⟩:=zb9 (n:=13) c (by omega)
 have hl:badL.length=13:=by decide +kernel
 obtain ⟨x,hx⟩:∃ x,badL[a]? = some x:=⟨badL[a]'(by omega),List.getElem?_eq_getElem (by omega)⟩
 have g:=zbn (f:=D.str) hx
 have k:=List.all_eq_true.mp zli x (List.mem_of_getElem? hx)
 rw [Bool.and_eq_true,Bool.not_eq_true'] at k
 refine ⟨x,?_,k.1,zaG k.2⟩
 have hm:gMod (.int c) (.int 13)=some (.int a):=hm
 have g:atI [D.str "",D.str "plan",D.str "given",D.str "all",D.str "first",D.str "part",D.str "1a",D.str "a23456789012b",D.str "a b",D.str "aB",D.str "a-",D.str " a",D.str "a "] (a:Int)=some (.str x):=g
 simp [zgD,zjt] at hm ⊢
 simp [hm,g]
def zec:FS:=(sSeq (sSet 3 (dOp gMod (dVar 2) (dTmp [0] (dBlt gLen (zab (dVar 0) dNil))))) (sSeq (sAsg (zbA 0 (dVar 3)) (.tup [4,5,6])) (sSeq (sSet 7 (dOp gAdd (dBlt gLen (zab (dVar 5) dNil)) (dBlt gLen (zab (dVar 6) dNil)))) (sSeq (sIf (zap (dOp gEq (dVar 1) (dC (.int 0)))) (sSeq (zcT 0 (dVar 3) (dTup (zab (zaC zgD (zab (dOp zaQ (dVar 2) (dC (.int 7))) dNil)) (zab (dVar 5) (zab (dVar 6) dNil))))) (fun sd=>(sRet (dVar 0)) (frzD [0] sd))) za9) (sSeq (sIf (zap (dOp gEq (dVar 1) (dC (.int 1)))) (fun sd=>(sRet (dOp gAdd (dVar 0) (dLst (zab (dTup (zab (dVar 4) (zab (dVar 5) (zab (dVar 6) dNil)))) dNil)))) (frzD [0] sd)) za9) (sSeq (sOwn 8 (dOp zf8 (dVar 5) (zb2 [none] (iS (dVar 6)) (.one 0) (dOp gIx (dVar 0) (dC (.int 0)))))) (sSeq (sSet 9 (dOp gMod (dOp zaQ (dVar 2) (dC (.int 7))) (dVar 7))) (sSeq (sIf (dOrT (zap (dOp gEq (dVar 1) (dC (.int 2)))) (zap (dOp gEq (dVar 7) (dC (.int 1))))) (zcT 8 (dVar 9) (zaC zgD (zab (dOp zaQ (dVar 2) (dC (.int 91))) dNil))) (zcT 8 (dVar 9) (zbA 8 (dOp gMod (dOp gAdd (dOp gAdd (dVar 9) (dC (.int 1))) (dOp gMod (dOp zaQ (dVar 2) (dC (.int 91))) (dOp gSub (dVar 7) (dC (.int 1))))) (dVar 7))))) (sSeq (fun sd=>(sSet 10 (zb2 [none,some 5,some 6,some 8] (iR1 (zab (dBlt gLen (zab (dVar 6) dNil)) dNil)) (.one 0) (dTup (zab (dOp gIx (dVar 3) (dOp gAdd (dBlt gLen (zab (dVar 1) dNil)) (dVar 0))) (zab (dOp gIx (dOp gIx (dVar 2) (dVar 0)) (dC (.int 1))) (zab (dOp gIx (dOp gIx (dVar 2) (dVar 0)) (dC (.int 2))) dNil)))))) (frzD [8] sd)) (sSeq (fun sd=>(zcT 0 (dVar 3) (dTup (zab (dVar 4) (zab (dSl (dVar 8) zbd (zcK (dBlt gLen (zab (dVar 5) dNil))) zbd) (zab (dVar 10) dNil))))) (frzD [8] sd)) (fun sd=>(sRet (dVar 0)) (frzD [0] sd))))))))))))
def zdA:List D→Res D:=zdF 11 3 0 zec
theorem zgM {ys:List Str}{g r:Nat}(h:ys.length=g+r):ys.take g++(List.range r).map (fun k=>ys.getD (g+k) "")=ys:=by
 apply List.ext_getElem?
 intro i
 by_cases hi:i<g
 ·rw [List.getElem?_append_left (by rw [List.length_take];omega),List.getElem?_take,if_pos hi]
 ·rw [List.getElem?_append_right (by rw [List.length_take];omega),List.length_take,Nat.min_eq_left (by omega),List.getElem?_map]
  by_cases hr:i-g<r
  ·rw [List.getElem?_range hr]
   show some (ys.getD (g+(i-g)) "")=_
   rw [List.getD_eq_getElem?_getD,show g+(i-g)=i by omega,List.getElem?_eq_getElem (by omega)]
   rfl
  ·rw [List.getElem?_eq_none (by rw [List.length_range];omega),List.getElem?_eq_none (by omega)]
   rfl
noncomputable def renP (p:Pl)(ys:List Str):Pl:=⟨p.name,ys.take p.givens.length,(List.range p.rows.length).map fun k=>(ys.getD (p.givens.length+k) "",(p.rows.getD k default).2.1,(p.rows.getD k default).2.2)⟩
theorem zmB {p:Pl}{ys:List Str}(h:ys.length=(tns p).length):tns (renP p ys)=ys:=by
 have hl:ys.length=p.givens.length+p.rows.length:=by
  rw [h]
  unfold tns
  rw [List.length_append,List.length_map]
 unfold tns renP
 rw [List.map_map]
 exact zgM hl
theorem znp {p:Pl}{ys:List Str}(S:Sn p)(h:ys.length=(tns p).length)(ok:∀ y∈ys,TxtOk 20 y):Sn (renP p ys):=by
 have hl:ys.length=p.givens.length+p.rows.length:=by
  rw [h]
  unfold tns
  rw [List.length_append,List.length_map]
 have rows:∀ r∈(renP p ys).rows,∃ q∈p.rows,TxtOk 20 r.1∧r.2=q.2:=fun r hr=>by
  obtain ⟨k,hk,rfl⟩:=List.mem_map.mp hr
  have hk:=List.mem_range.mp hk
  refine ⟨p.rows[k],List.getElem_mem hk,?_,?_⟩
  ·show TxtOk 20 (ys.getD (p.givens.length+k) "")
   rw [List.getD_eq_getElem?_getD,List.getElem?_eq_getElem (by omega)]
   exact ok _ (List.getElem_mem _)
  ·show ((p.rows.getD k default).2.1,(p.rows.getD k default).2.2)=_
   rw [List.getD_eq_getElem?_getD,List.getElem?_eq_getElem hk]
   rfl
 have gl:=S.gl
 have rl:=S.rl
 refine ⟨S.nm,fun x hx=>ok x (List.mem_of_mem_take hx),fun r hr => ?_,fun r hr => ?_,fun r hr => ?_,?_,?_⟩
 ·obtain ⟨q,hq,a,b⟩:=rows r hr
  exact a
 ·obtain ⟨q,hq,a,b⟩:=rows r hr
  rw [b];exact S.rh q hq
 ·obtain ⟨q,hq,a,b⟩:=rows r hr
  rw [b];exact S.il q hq
 ·show (ys.take p.givens.length).length≤20
  rw [List.length_take];omega
 ·show ((List.range p.rows.length).map _).length≤60
  rw [List.length_map,List.length_range];exact rl
theorem f_z25 {ps:List Pl}(S:SnB ps)(l:ps.length≤30)(ne:ps ≠ [])(tn:∀ p∈ps,tns p ≠ []){kind:Nat}(hk:kind<4)(c:Int):∃ ps',zdA [.lst (ps.map zai),.int kind,.int c]=.ok (.lst (ps'.map zai))∧SnB ps'∧¬ NmB ps':=by
 have n1:=List.length_pos_iff.mpr ne
 obtain ⟨a,gm,ha,_⟩:=zb9 (n:=ps.length) c (by omega)
 obtain ⟨p,hp⟩:∃ p,ps[a]? = some p:=⟨ps[a],List.getElem?_eq_getElem ha⟩
 have pm:=List.mem_of_getElem? hp
 have P:=S.pl p pm
 have gl:=P.gl
 have rl:=P.rl
 have ga:=zbn (f:=zai) hp
 have ix:ixN ps.length (a:Int)=some a:=zcJ ha
 obtain ⟨PT,hPT⟩:∃ z,ps.map zai=z:=⟨_,rfl⟩
 have lPT:PT.length=ps.length:=by rw [← hPT,List.length_map]
 rw [hPT] at ga ⊢
 have setE:∀ q:Pl,PT.set a (zai q)=(ps.set a q).map zai:=fun q=>by rw [← hPT,List.map_set]
 rcases (show kind=0∨kind=1∨kind=2∨kind=3 by omega) with rfl|rfl|hk2
 ·obtain ⟨b,fb,bn,bt⟩:=znL (c / 7)
  refine ⟨ps.set a ⟨b,p.givens,p.rows⟩,?_,zd7 S ⟨bt,P.gv,P.rn,P.rh,P.il,P.gl,P.rl⟩,fun N => ?_⟩
  ·rw [← setE]
   have e:D.tup [.str b,.lst (p.givens.map .str),.lst (p.rows.map rowD)]=zai ⟨b,p.givens,p.rows⟩:=rfl
   simp [zdA,zec,lPT,gm,ga,fb,ix,e]
  ·have:=N.1.1 b (List.mem_map.mpr ⟨_,zaU ha,rfl⟩)
   rw [bn] at this
   first|exact zqn this|exact zqb this|(obtain rfl:=Option.some.inj this)|cases this
 ·refine ⟨ps++[p],?_,zf5 S (fun q hq=>by rw [List.mem_singleton.mp hq];exact P) (by rw [List.length_singleton];omega),fun N => ?_⟩
  ·have gd:gAdd (.lst PT) (.lst [zai p])=some (.lst ((ps++[p]).map zai)):=by
    rw [List.map_append,hPT]
    exact if_pos (zbs (by rw [List.length_singleton];omega))
   have e:D.tup [.str p.name,.lst (p.givens.map .str),.lst (p.rows.map rowD)]=zai p:=rfl
   simp [zdA,zec,lPT,gm,ga,e,gd]
  ·have nd:=N.1.2
   rw [List.map_append,List.nodup_append] at nd
   exact nd.2.2 p.name (List.mem_map.mpr ⟨p,pm,rfl⟩) p.name (List.mem_singleton.mpr rfl) rfl
 ·have m1:=List.length_pos_iff.mpr (tn p pm)
  have tl:(tns p).length=p.givens.length+p.rows.length:=by
   unfold tns
   rw [List.length_append,List.length_map]
  obtain ⟨y,gy,hy,ey⟩:=zb9 (n:=(tns p).length) (c / 7) (by omega)
  have k0:mapE (.one 0) (dOp gIx (dVar 0) (dC (.int 0))) [none] (p.rows.map rowD)=.ok ((p.rows.map (·.1)).map .str):=by
   rw [List.map_map]
   exact zcc fun r _=>by simp
  have gn:zf8 (.lst (p.givens.map .str)) (.lst ((p.rows.map (·.1)).map .str))=some (.lst ((tns p).map .str)):=by
   unfold tns
   rw [List.map_append]
   exact if_pos (zbs (by rw [List.length_map,List.length_map,List.length_map];omega))
  generalize (p.rows.map (·.1)).map D.str=rn at k0 gn
  have hz:=za0 (show p.rows.length≤1000 by omega)
  have many:(p.givens.length:Int)+(p.rows.length:Int)=((tns p).length:Int):=by rw [tl];omega
  have fin:∀ z:Str,TxtOk 20 z→(z=z→True)→∀ ys:List Str,ys=(tns p).set y z→ys.length=(tns p).length∧(∀ q∈ys,TxtOk 20 q):=fun z hz _ ys e=>by
   subst e
   refine ⟨List.length_set,fun q hq => ?_⟩
   rcases List.mem_or_eq_of_mem_set hq with w|w
   ·exact zhW P q w
   ·rw [w];exact hz
  have made:∀ ys:List Str,ys.length=(tns p).length→mapE (.one 0) (dTup (zab (dOp gIx (dVar 3) (dOp gAdd (dBlt gLen (zab (dVar 1) dNil)) (dVar 0))) (zab (dOp gIx (dOp gIx (dVar 2) (dVar 0)) (dC (.int 1))) (zab (dOp gIx (dOp gIx (dVar 2) (dVar 0)) (dC (.int 2))) dNil)))) [none,some (.val (.lst (p.givens.map .str))),some (.val (.lst (p.rows.map rowD))),some (.val (.lst (ys.map .str)))] (zax 0 p.rows.length)=.ok ((renP p ys).rows.map rowD):=fun ys hl=>by
   show _=Res.ok (((List.range p.rows.length).map _).map rowD)
   rw [List.map_map]
   refine zbj fun i hi => ?_
   have e1:ys[p.givens.length+i]? = some (ys.getD (p.givens.length+i) ""):=by
    rw [List.getD_eq_getElem?_getD,List.getElem?_eq_getElem (by omega)]
    rfl
   have e2:p.rows[i]? = some (p.rows.getD i default):=by
    rw [List.getD_eq_getElem?_getD,List.getElem?_eq_getElem hi]
    rfl
   show _=Res.ok (rowD (ys.getD (p.givens.length+i) "",(p.rows.getD i default).2.1,(p.rows.getD i default).2.2))
   generalize ys.getD (p.givens.length+i) "" = x at e1
   generalize p.rows.getD i default=r at e2
   have a1:=zbn (f:=D.str) e1
   have a2:=zbn (f:=rowD) e2
   rw [Int.natCast_add] at a1
   have e:D.tup [.str x,.str r.2.1,rwD r.2.2]=rowD (x,r.2.1,r.2.2):=rfl
   simp [a1,a2,e]
  have sl:∀ ys:List Str,gSl (.lst (ys.map .str)) none (some (p.givens.length:Int)) none=some (.lst ((renP p ys).givens.map .str)):=fun ys=>by
   rw [zbz,zdh _ (by omega),← List.map_take,Int.toNat_natCast]
   rfl
  have r0:zbm [.int (p.rows.length:Int)]=.ok (zax 0 p.rows.length):=by rw [zaA (by omega) (by omega),Int.toNat_natCast]
  have ixy:ixN (tns p).length (y:Int)=some y:=zcJ hy
  have setN:∀ z:Str,((tns p).map D.str).set y (.str z)=((tns p).set y z).map .str:=fun z=>by rw [List.map_set]
  have eP:∀ ys:List Str,D.tup [.str p.name,.lst ((renP p ys).givens.map .str),.lst ((renP p ys).rows.map rowD)]=zai (renP p ys):=fun ys=>rfl
  have ends:∀ ys:List Str,ys.length=(tns p).length→(∀ q∈ys,TxtOk 20 q)→¬ nms ys→SnB (ps.set a (renP p ys))∧¬ NmB (ps.set a (renP p ys)):=fun ys hl ok no=>by
   refine ⟨zd7 S (znp P hl ok),fun N=>no ?_⟩
   have:=N.2 _ (zaU (x:=renP p ys) ha)
   rw [zmB hl] at this
   exact this
  by_cases cb:kind=2∨(tns p).length=1
  ·obtain ⟨b,fb,bn,bt⟩:=znL (c / 91)
   obtain ⟨hl,ok⟩:=fin b bt (fun _=>trivial) _ rfl
   obtain ⟨s1,s2⟩:=ends ((tns p).set y b) hl ok fun N=>by
    have:=N.1 b (zaU hy)
    rw [bn] at this
    first|exact zqn this|exact zqb this|(obtain rfl:=Option.some.inj this)|cases this
   refine ⟨ps.set a (renP p ((tns p).set y b)),?_,s1,s2⟩
   have m:=made _ hl
   have s:=sl ((tns p).set y b)
   have e:=eP ((tns p).set y b)
   have sN:=setN b
   have sE:=setE (renP p ((tns p).set y b))
   have ln:((tns p).map D.str).length=(tns p).length:=List.length_map _
   rw [← sE]
   generalize zai (renP p ((tns p).set y b))=pd at e ⊢
   generalize (renP p ((tns p).set y b)).rows.map rowD=rd at m e
   generalize (renP p ((tns p).set y b)).givens.map D.str=gd at s e
   generalize ((tns p).set y b).map D.str=nd at m s sN
   generalize (tns p).map D.str=n0 at gn sN ln
   rcases cb with rfl|c1
   ·simp [zdA,zec,lPT,gm,ga,ix,many,k0,hz,gn,gy,ixy,ln,fb,sN,r0,m,zaD,s,e]
   ·rcases hk2 with rfl|rfl
    ·simp [zdA,zec,lPT,gm,ga,ix,many,k0,hz,gn,gy,ixy,ln,fb,sN,r0,m,zaD,s,e]
    ·rw [c1] at ln many gy ixy
     have y0:y=0:=by omega
     subst y0
     have ix0:ixN 1 (0:Int)=some 0:=rfl
     simp [ix0,zdA,zec,lPT,gm,ga,ix,many,k0,hz,gn,gy,ixy,ln,fb,sN,r0,m,zaD,s,e]
  ·have c3:kind=3:=by omega
   have cl:2≤(tns p).length:=by omega
   subst c3
   obtain ⟨w,gw,hw,ew⟩:=zb9 (n:=(tns p).length-1) (c / 91) (by omega)
   obtain ⟨x,gx,hx,ex⟩:=zb9 (n:=(tns p).length) ((y:Int)+1+w) (by omega)
   have xy:x≠y:=by
    by_cases q:(y:Int)+1+w<((tns p).length:Int)
    ·rw [Int.emod_eq_of_lt (by omega) q] at ex
     omega
    ·have e:(y:Int)+1+w=((y:Int)+1+w-(tns p).length)+(tns p).length*1:=by omega
     rw [e,Int.add_mul_emod_self_left,Int.emod_eq_of_lt (by omega) (by omega)] at ex
     omega
   obtain ⟨z,hz'⟩:∃ z,(tns p)[x]? = some z:=⟨(tns p)[x],List.getElem?_eq_getElem hx⟩
   have zm:=List.mem_of_getElem? hz'
   obtain ⟨hl,ok⟩:=fin z (zhW P z zm) (fun _=>trivial) _ rfl
   obtain ⟨s1,s2⟩:=ends ((tns p).set y z) hl ok fun N=>by
    have pw:=List.pairwise_iff_getElem.mp (List.nodup_iff_pairwise_ne.mp N.2)
    have ex:((tns p).set y z)[x]'(by rw [List.length_set];exact hx)=z:=by
     rw [List.getElem_set_ne (Ne.symm xy)]
     rw [List.getElem?_eq_getElem hx] at hz'
     exact Option.some.inj hz'
    have ey:((tns p).set y z)[y]'(by rw [List.length_set];exact hy)=z:=List.getElem_set_self _
    rcases Nat.lt_or_gt_of_ne xy with q|q
    ·exact pw x y (by rw [List.length_set];exact hx) (by rw [List.length_set];exact hy) q (by rw [ex,ey])
    ·exact pw y x (by rw [List.length_set];exact hy) (by rw [List.length_set];exact hx) q (by rw [ex,ey])
   refine ⟨ps.set a (renP p ((tns p).set y z)),?_,s1,s2⟩
   have m:=made _ hl
   have s:=sl ((tns p).set y z)
   have e:=eP ((tns p).set y z)
   have sN:=setN z
   have sE:=setE (renP p ((tns p).set y z))
   have ln:((tns p).map D.str).length=(tns p).length:=List.length_map _
   have at_:=zbn (f:=D.str) hz'
   have m1':((tns p).length:Int)-1=(((tns p).length-1:Nat):Int):=by omega
   have ne1:¬ ((tns p).length:Int)=1:=by omega
   rw [← sE]
   generalize zai (renP p ((tns p).set y z))=pd at e ⊢
   generalize (renP p ((tns p).set y z)).rows.map rowD=rd at m e
   generalize (renP p ((tns p).set y z)).givens.map D.str=gd at s e
   generalize ((tns p).set y z).map D.str=nd at m s sN
   generalize (tns p).map D.str=n0 at gn sN ln at_
   simp [zdA,zec,lPT,gm,ga,ix,many,k0,hz,gn,gy,ixy,ln,m1',ne1,gw,gx,at_,sN,r0,m,zaD,s,e]
def zfo:FS:=(sSeq (sSet 3 (dOp gMod (dVar 2) (dTmp [0] (dBlt gLen (zab (dVar 0) dNil))))) (sSeq (sAsg (zbA 0 (dVar 3)) (.tup [4,5,6])) (sSeq (sSet 7 (dOp gMod (dOp zaQ (dVar 2) (dC (.int 7))) (dBlt gLen (zab (dVar 6) dNil)))) (sSeq (sSet 8 (dOp gIx (dVar 6) (dVar 7))) (sSeq (sSet 9 (dOp gIx (dLst (zab (dVar 4) (zab (dOp gIx (zbA 0 (dUn gNeg (dC (.int 1)))) (dC (.int 0))) (zab (dC (.str "none0")) (zab (dC (.str "All")) (zab (dC (.str "")) (zab (dC (.str "first ")) dNil))))))) (dOp gMod (dOp zaQ (dVar 2) (dC (.int 70))) (dC (.int 6))))) (sSeq (sSet 10 (dOp gIx (dVar 8) (dC (.int 2)))) (sSeq (sIf (zeu (zap (dOp gEq (dVar 1) (dC (.int 14)))) (zap (dOp gEq (dVar 3) (dC (.int 0))))) (sSeq (sSet 11 (dOp zht (dTup (zab (dTup (zab (dC (.int 0)) (zab (dC (.int 0)) dNil))) dNil)) (dOp gAdd (dBlt gLen (zab (dVar 5) dNil)) (dC (.int 1))))) (fun sd=>(sRet (dOp gAdd (dVar 0) (dLst (zab (dTup (zab (dC (.str "w0")) (zab (dLst (zab (dC (.str "g")) dNil)) (zab (dLst (zab (dTup (zab (dC (.str "r")) (zab (dVar 4) (zab (dVar 11) dNil)))) dNil)) dNil)))) dNil)))) (frzD [0] sd))) za9) (sSeq (sIf (zap (dOp gEq (dVar 1) (dC (.int 14)))) (sSeq (sSet 9 (dOp gIx (zbA 0 (dC (.int 0))) (dC (.int 0)))) (sSeq (sSet 12 (dOp gAdd (dBlt gLen (zab (dOp gIx (zbA 0 (dC (.int 0))) (dC (.int 1))) dNil)) (dOp gIx (dLst (zab (dC (.int 1)) (zab (dUn gNeg (dC (.int 1))) (zab (dC (.int 2)) dNil)))) (dOp gMod (dOp zaQ (dVar 2) (dC (.int 70))) (dC (.int 3)))))) (sSeq (sIf (zap (dOp gEq (dVar 12) (dC (.int 0)))) (sSet 12 (dC (.int 2))) za9) (sSet 10 (dOp zht (dTup (zab (dTup (zab (dC (.int 0)) (zab (dC (.int 0)) dNil))) dNil)) (dVar 12)))))) za9) (sSeq (zcT 0 (dVar 3) (dTup (zab (dVar 4) (zab (dVar 5) (zab (dOp gAdd (dOp gAdd (dSl (dVar 6) zbd (zcK (dVar 7)) zbd) (dLst (zab (dTup (zab (dOp gIx (dVar 8) (dC (.int 0))) (zab (dVar 9) (zab (dVar 10) dNil)))) dNil))) (dSl (dVar 6) (zcK (dOp gAdd (dVar 7) (dC (.int 1)))) zbd zbd)) dNil))))) (fun sd=>(sRet (dVar 0)) (frzD [0] sd)))))))))))
def zdi:List D→Res D:=zdF 13 3 0 zfo
theorem lk_no {qs:List Pl}{h:Str}(n:h∉qs.map (·.name)):lkT (za6 qs) h=none:=by
 unfold lkT
 cases e:(za6 qs).find? fun p=>decide (p.1=h) with
 | none=>rfl
 | some q =>
  have e1:=of_decide_eq_true (List.find?_some (p:=fun p:Str×Int=>decide (p.1=h)) e)
  obtain ⟨a,ha,ea⟩:=List.mem_map.mp (List.mem_of_find?_eq_some e)
  exact absurd (List.mem_map.mpr ⟨a,ha,(congrArg Prod.fst ea).trans e1⟩) n
theorem ze9 {ps:List Pl}(nd:(ps.map (·.name)).Nodup){a j:Nat}{q:Pl}(h:ps[j]? = some q)(l:a≤j):q.name∉(ps.take a).map (·.name):=fun z=>by
 obtain ⟨y,hy,ey⟩:=List.mem_map.mp z
 obtain ⟨i,hi,ei⟩:=List.getElem_of_mem hy
 have hj:=(List.getElem?_eq_some_iff.mp h).1
 have pw:=List.pairwise_iff_getElem.mp (List.pairwise_map.mp (List.nodup_iff_pairwise_ne.mp nd))
 have hi':i<a:=by rw [List.length_take] at hi;omega
 have:=pw i j (by omega) hj (by omega)
 rw [List.getElem_take] at ei
 rw [List.getElem?_eq_getElem hj] at h
 first|exact zqn h|exact zqb h|(obtain rfl:=Option.some.inj h)|cases h
 rw [ei] at this
 exact this ey
theorem zmh {ps:List Pl}{a:Nat}{p':Pl}(B:PsB ps)(h:PlB p'):PsB (ps.set a p'):=by
 refine ⟨by rw [List.length_set];exact B.1,fun q hq => ?_⟩
 rcases List.mem_or_eq_of_mem_set hq with z|z
 ·exact B.2 q z
 ·rw [z];exact h
theorem zpA {ps:List Pl}{a:Nat}{p p':Pl}(F:Fr ps)(hp:p∈ps)(e:p'.name=p.name)(t:tns p'=tns p):Fr (ps.set a p'):=by
 refine ⟨fun q hq => ?_,fun q hq => ?_,fun q hq => ?_⟩
 ·rcases List.mem_or_eq_of_mem_set hq with z|z
  ·exact F.t q z
  ·rw [z,e];exact F.t p hp
 ·rcases List.mem_or_eq_of_mem_set hq with z|z
  ·exact F.u q z
  ·rw [z,t];exact F.u p hp
 ·rcases List.mem_or_eq_of_mem_set hq with z|z
  ·exact F.v q z
  ·rw [z,t];exact F.v p hp
theorem zdQ {n:Nat}{ah:Int}(h:0<ah):ItOk ah (List.replicate n ((0:Int),(0:Int))) :=
 ⟨fun p hp=>by rw [(List.mem_replicate.mp hp).2];exact ⟨Int.le_refl _,h⟩,fun p hp=>by rw [(List.mem_replicate.mp hp).2];exact ⟨by show (-1000000000000000000000000000000:Int)<0;omega,by show (0:Int)<1000000000000000000000000000000;omega⟩⟩
theorem zgj {n:Nat}(h1:1≤n)(h2:n≤100):zht (.tup [.tup [.int 0,.int 0]]) (.int n)=some (rwD (List.replicate n ((0:Int),(0:Int)))):=by
 rw [zj4 (by omega) (by omega) (by simp) (by simp),Int.toNat_natCast,zfl]
 unfold rwD
 rw [List.map_replicate]
 rfl
theorem zjN {p:Pl}{y:Nat}{r':Str×Str×List (Int×Int)}(h:PlB p)(i:itB ((p.givens.length:Int)+y) r'.2.2):PlB (rowP p y r'):=by
 refine ⟨h.1,by show 1≤(p.rows.set y r').length∧_;rw [show (rowP p y r').rows=p.rows.set y r' from rfl,List.length_set];exact h.2.1,fun k r hk => ?_⟩
 have hk:(p.rows.set y r')[k]? = some r:=hk
 by_cases e:y=k
 ·subst e
  have hl:y<p.rows.length:=by
   have:=(List.getElem?_eq_some_iff.mp hk).1
   rwa [List.length_set] at this
  rw [List.getElem?_set_self hl] at hk
  first|exact zqn hk|exact zqb hk|(obtain rfl:=Option.some.inj hk)|cases hk
  exact i
 ·rw [List.getElem?_set_ne e] at hk
  exact h.2.2 k r hk
noncomputable def w0P (x:Str)(n:Nat):Pl:=⟨"w0",[("g" : Str)],[(("r" : Str),x,List.replicate n ((0:Int),(0:Int)))]⟩
theorem zo7 {l:List Str}(hl:l.length=6)(c:Int):∃ x∈l,∃ a:Nat,a<6∧c % 6=a∧l[a]? = some x:=by
 obtain ⟨a,_,ha,ea⟩:=zb9 (n:=6) c (by omega)
 exact ⟨l[a]'(by omega),List.getElem_mem _,a,ha,ea,List.getElem?_eq_getElem (by omega)⟩
theorem f_z28 {ps:List Pl}(S:SnB ps)(N:NmB ps)(B:PsB ps)(W:FrW ps)(l10:ps.length≤10){kind:Nat}(h1:13≤kind)(h2:kind<15)(c:Int):∃ ps',zdi [.lst (ps.map zai),.int kind,.int c]=.ok (.lst (ps'.map zai))∧SnB ps'∧NmB ps'∧PsB ps'∧¬ PtB ps'∧(Fr ps→Fr ps')∧ps'.length≤ps.length+1:=by
 have Bs:=B
 obtain ⟨⟨n1,n20⟩,pb⟩:=B
 obtain ⟨a,gm,ha,_⟩:=zb9 (n:=ps.length) c (by omega)
 obtain ⟨p,hp⟩:∃ p,ps[a]? = some p:=⟨ps[a],List.getElem?_eq_getElem ha⟩
 have pm:=List.mem_of_getElem? hp
 have P:=S.pl p pm
 have pbp:=pb p pm
 obtain ⟨⟨g1,g2⟩,⟨r1,r2⟩,ib⟩:=pbp
 have nt:=N.2 p pm
 have ga:=zbn (f:=zai) hp
 have ix:ixN ps.length (a:Int)=some a:=zcJ ha
 obtain ⟨y,gy,hy,_⟩:=zb9 (n:=p.rows.length) (c / 7) r1
 obtain ⟨r,hr⟩:∃ r,p.rows[y]? = some r:=⟨p.rows[y],List.getElem?_eq_getElem hy⟩
 have rm:=List.mem_of_getElem? hr
 have ibr:=ib y r hr
 have gr:=zbn (f:=rowD) hr
 obtain ⟨z,hzl⟩:∃ z,ps[ps.length-1]? = some z:=⟨ps[ps.length-1],List.getElem?_eq_getElem (by omega)⟩
 have zm:=List.mem_of_getElem? hzl
 have gz:atI (ps.map zai) (-1)=some (zai z):=by
  unfold atI ixN
  rw [if_neg (by omega),if_pos (by rw [List.length_map];omega)]
  show (ps.map zai)[((-1:Int)+((ps.map zai).length:Int)).toNat]? = _
  rw [List.length_map,show ((-1:Int)+(ps.length:Int)).toNat=ps.length-1 by omega,List.getElem?_map,hzl]
  rfl
 obtain ⟨p0,hp0⟩:∃ q,ps[0]? = some q:=⟨ps[0],List.getElem?_eq_getElem (by omega)⟩
 have p0m:=List.mem_of_getElem? hp0
 have g0:atI (ps.map zai) 0=some (zai p0):=zbn (a:=0) (f:=zai) hp0
 obtain ⟨PT,hPT⟩:∃ z,ps.map zai=z:=⟨_,rfl⟩
 have lPT:PT.length=ps.length:=by rw [← hPT,List.length_map]
 rw [hPT] at ga gz g0 ⊢
 have setE:∀ q:Pl,PT.set a (zai q)=(ps.set a q).map zai:=fun q=>by rw [← hPT,List.map_set]
 have lR:(p.rows.map rowD).length=p.rows.length:=List.length_map _
 have pe:∀ r':Str×Str×List (Int×Int),D.tup [.str p.name,.lst (p.givens.map .str),.lst ((rowP p y r').rows.map rowD)]=zai (rowP p y r'):=fun _=>rfl
 have re:∀ (h:Str) (its:List (Int×Int)),D.tup [.str r.1,.str h,rwD its]=rowD (r.1,h,its):=fun _ _=>rfl
 have nmx:∀ q∈ps,zb4 q.name=true∧TxtOk 20 q.name∧isP q.name=true:=fun q hq=>by
  have:=N.1.1 q.name (List.mem_map.mpr ⟨q,hq,rfl⟩)
  exact ⟨this,(S.pl q hq).nm,zmP this⟩
 obtain ⟨h,hm6,b6,hb6,eb6,hat6⟩:=zo7 (l:=[p.name,z.name, "none0", "All", "", "first "]) rfl (c / 70)
 have gh:atI [D.str p.name,.str z.name,.str "none0",.str "All",.str "",.str "first "] (c / 70 % 6)=some (.str h):=by
  rw [eb6]
  exact zbn (f:=D.str) hat6
 have hh:TxtOk 20 h∧isP h=true∧h∉(ps.take a).map (·.name):=by
  have bad:∀ w:Str,zb4 w=false→w∉(ps.take a).map (·.name):=fun w hw hm=>by
   obtain ⟨q,hq,e⟩:=List.mem_map.mp hm
   have:=(nmx q (List.mem_of_mem_take hq)).1
   rw [e,hw] at this
   first|exact zqn this|exact zqb this|(obtain rfl:=Option.some.inj this)|cases this
  have:h=p.name∨h=z.name∨h = "none0" ∨ h = "All" ∨ h = "" ∨ h = "first " := by simpa using hm6
  rcases this with e|e|e|e|e|e<;>subst e
  ·exact ⟨P.nm,(nmx p pm).2.2,ze9 N.1.2 hp (Nat.le_refl _)⟩
  ·exact ⟨(nmx z zm).2.1,(nmx z zm).2.2,ze9 N.1.2 hzl (by omega)⟩
  ·refine ⟨zaG (by decide +kernel),by decide +kernel,fun hm => ?_⟩
   obtain ⟨q,hq,e⟩:=List.mem_map.mp hm
   exact (W q (List.mem_of_mem_take hq)).2 e
  ·exact ⟨zaG (by decide +kernel),by decide +kernel,bad _ (by decide +kernel)⟩
  ·exact ⟨zaG (by decide +kernel),by decide +kernel,bad _ (by decide +kernel)⟩
  ·exact ⟨zaG (by decide +kernel),by decide +kernel,bad _ (by decide +kernel)⟩
 have key:∀ (w:Str) (its:List (Int×Int)),TxtOk 20 w→its.length≤60→itB ((p.givens.length:Int)+y) its→isP w=true→lkT (za6 (ps.take a)) w≠some (its.length:Int)→zdi [.lst PT,.int kind,.int c]=.ok (.lst (PT.set a (zai (rowP p y (r.1,w,its))))) →
  ∃ ps',zdi [.lst PT,.int kind,.int c]=.ok (.lst (ps'.map zai))∧SnB ps'∧NmB ps'∧PsB ps'∧¬ PtB ps'∧(Fr ps→Fr ps')∧ps'.length≤ps.length+1:=fun w its tw il ok ip lk e=>by
  have et:=zgl (r':=(r.1,w,its)) hr rfl
  refine ⟨ps.set a (rowP p y (r.1,w,its)),by rw [e,setE],zd7 S (zje P (P.rn r rm) tw il),zf2 N hp rfl (by rw [et];exact nt),zmh Bs (zjN (pb p pm) ok),fun q=>lk ?_,fun F=>zpA F pm rfl et,by rw [List.length_set];omega⟩
  have tk:(ps.set a (rowP p y (r.1,w,its))).take a=ps.take a:=by
   rw [List.take_set,List.set_eq_of_length_le (by rw [List.length_take];omega)]
  have:=q a (rowP p y (r.1,w,its)) (List.getElem?_set_self ha) (r.1,w,its) (zaU hy) ip
  rw [tk] at this
  exact this
 rcases (show kind=13∨kind=14 by omega) with rfl|rfl
 ·refine key h r.2.2 hh.1 (P.il r rm) ibr hh.2.1 (by rw [lk_no hh.2.2];intro e;(first|exact zqn e|exact zqb e|(obtain rfl:=Option.some.inj e)|cases e)) ?_
  obtain ⟨d1,d2,s1,s2,d3,s3,s4⟩:=zcf (r':=(r.1,h,r.2.2)) hy (by omega)
  have e1:=pe (r.1,h,r.2.2)
  have e2:=re h r.2.2
  generalize zai (rowP p y (r.1,h,r.2.2))=pd at e1 ⊢
  generalize (rowP p y (r.1,h,r.2.2)).rows.map rowD=rd at s4 e1
  generalize rowD (r.1,h,r.2.2)=r1d at s3 e2
  simp [-zbz,zdi,zfo,lPT,gm,ga,ix,gy,gr,gz,gh,s1,s2,s3,s4,e1,e2]
 ·by_cases a0:a=0
  ·subst a0
   have ew:=zgj (n:=p.givens.length+1) (by omega) (by omega)
   have n1':(((p.givens.length+1:Nat)):Int)=(p.givens.length:Int)+1:=by omega
   rw [n1'] at ew
   have lk:lkT (za6 ps) p.name=some (p.givens.length:Int):=zfO N.1.2 (List.mem_map.mpr ⟨p,pm,rfl⟩)
   have wr:∀ q∈(w0P p.name (p.givens.length+1)).rows,q=(("r" : Str),p.name,List.replicate (p.givens.length+1) ((0:Int),(0:Int))):=fun q hq=>List.mem_singleton.mp hq
   have tw:tns (w0P p.name (p.givens.length+1))=[("g" : Str),("r" : Str)]:=rfl
   refine ⟨ps++[w0P p.name (p.givens.length+1)],?_,zf5 S (fun q hq => ?_) (by rw [List.length_singleton];omega),⟨?_,fun q hq => ?_⟩,⟨by rw [List.length_append,List.length_singleton];omega,fun q hq => ?_⟩,fun q => ?_,fun F=>⟨fun q hq => ?_,fun q hq => ?_,fun q hq => ?_⟩,by rw [List.length_append,List.length_singleton];omega⟩
   ·have e:D.tup [.str "w0",.lst [.str "g"],.lst [.tup [.str "r",.str p.name,rwD (List.replicate (p.givens.length+1) ((0:Int),(0:Int)))]]]=zai (w0P p.name (p.givens.length+1)):=rfl
    have gd:gAdd (.lst PT) (.lst [zai (w0P p.name (p.givens.length+1))])=some (.lst ((ps++[w0P p.name (p.givens.length+1)]).map zai)):=by
     rw [List.map_append,hPT]
     exact if_pos (zbs (by rw [List.length_singleton];omega))
    generalize (ps++[w0P p.name (p.givens.length+1)]).map zai=out at gd ⊢
    generalize zai (w0P p.name (p.givens.length+1))=wd at e gd
    generalize rwD (List.replicate (p.givens.length+1) ((0:Int),(0:Int)))=wi at e ew
    have gm:gMod (.int c) (.int (ps.length:Int))=some (.int 0):=gm
    have ga:atI PT 0=some (zai p):=ga
    simp [zdi,zfo,lPT,gm,ga,gy,gr,gz,gh,ew,e,gd]
   ·rw [List.mem_singleton.mp hq]
    refine ⟨(show TxtOk 20 "w0" from zaG (by decide +kernel)),fun x hx => ?_,fun q hq => ?_,fun q hq => ?_,fun q hq => ?_,(by decide:1≤20),(by decide:1≤60)⟩
    ·rw [List.mem_singleton.mp hx];exact zaG (by decide +kernel)
    ·rw [wr q hq];show TxtOk 20 "r";exact zaG (by decide +kernel)
    ·rw [wr q hq];exact P.nm
    ·rw [wr q hq];show (List.replicate (p.givens.length+1) ((0:Int),(0:Int))).length≤60;rw [List.length_replicate];omega
   ·rw [List.map_append]
    refine zc1 N.1 ⟨fun x hx => ?_,by simp⟩ fun x hx y hy => ?_
    ·rw [List.mem_singleton.mp hx];exact (by decide +kernel:zb4 "w0" = true)
    ·obtain ⟨q,hq,rfl⟩:=List.mem_map.mp hx
     rw [List.mem_singleton.mp hy]
     exact (W q hq).1
   ·rcases List.mem_append.mp hq with z|z
    ·exact N.2 q z
    ·rw [List.mem_singleton.mp z,tw]
     exact ⟨fun x hx=>(zej (l:=["g", "r"]) (by decide +kernel) x hx).2,by decide +kernel⟩
   ·rcases List.mem_append.mp hq with z|z
    ·exact pb q z
    ·rw [List.mem_singleton.mp z]
     refine ⟨⟨Nat.le_refl _,(by decide:1≤12)⟩,⟨Nat.le_refl _,(by decide:1≤40)⟩,fun k q hk => ?_⟩
     rw [wr q (List.mem_of_getElem? hk)]
     refine ⟨?_,zdQ (by show (0:Int)<((1:Nat):Int)+k;omega)⟩
     show 1≤(List.replicate (p.givens.length+1) ((0:Int),(0:Int))).length∧(List.replicate (p.givens.length+1) ((0:Int),(0:Int))).length≤40
     rw [List.length_replicate]
     omega
   ·have:=q ps.length (w0P p.name (p.givens.length+1)) (by rw [List.getElem?_append_right (Nat.le_refl _),Nat.sub_self];rfl) _ (List.mem_singleton.mpr rfl) (nmx p pm).2.2
    rw [List.take_left' rfl,lk] at this
    have this:(p.givens.length:Int)=((List.replicate (p.givens.length+1) ((0:Int),(0:Int))).length:Int):=Option.some.inj this
    rw [List.length_replicate] at this
    omega
   ·rcases List.mem_append.mp hq with z|z
    ·exact F.t q z
    ·rw [List.mem_singleton.mp z];exact .inr (by show ("w0" : Str).cps.toList.headD 0≠116;decide +kernel)
   ·rcases List.mem_append.mp hq with z|z
    ·exact F.u q z
    ·rw [List.mem_singleton.mp z,tw]
     intro x hx
     have:x = "g" ∨ x = "r" := by simpa using hx
     rcases this with e|e<;>subst e<;>exact .inr (by decide +kernel)
   ·rcases List.mem_append.mp hq with z|z
    ·exact F.v q z
    ·rw [List.mem_singleton.mp z,tw]
     intro x hx
     have:x = "g" ∨ x = "r" := by simpa using hx
     rcases this with e|e<;>subst e<;>exact .inr (by decide +kernel)
  ·obtain ⟨⟨g01,g02⟩,_⟩:=pb p0 p0m
   obtain ⟨v,hv,vb⟩:∃ v:Int,atI [D.int 1,.int (-1),.int 2] (c / 70 % 3)=some (.int v)∧(v=1∨v = -1∨v=2):=by
    have:c / 70 % 3=0∨c / 70 % 3=1∨c / 70 % 3=2:=by omega
    rcases this with z|z|z<;>rw [z]
    ·exact ⟨_,rfl,by omega⟩
    ·exact ⟨_,rfl,by omega⟩
    ·exact ⟨_,rfl,by omega⟩
   obtain ⟨n,hn,n1,n2,n3⟩:∃ n:Nat,(if (p0.givens.length:Int)+v=0 then (2:Int) else (p0.givens.length:Int)+v)=n∧1≤n∧n≤14∧(n:Int)≠p0.givens.length:=by
    by_cases q:(p0.givens.length:Int)+v=0
    ·exact ⟨2,by rw [if_pos q];rfl,by omega,by omega,by omega⟩
    ·exact ⟨((p0.givens.length:Int)+v).toNat,by rw [if_neg q];omega,by omega,by omega,by omega⟩
   have ew:=zgj n1 (by omega)
   have lk:lkT (za6 (ps.take a)) p0.name=some (p0.givens.length:Int):=by
    have nd:((ps.take a).map (·.name)).Nodup:=by
     rw [List.map_take]
     exact List.Sublist.nodup (List.take_sublist _ _) N.1.2
    refine zfO nd (List.mem_map.mpr ⟨p0,?_,rfl⟩)
    exact List.mem_of_getElem? (i:=0) (by rw [List.getElem?_take,if_pos (by omega)];exact hp0)
   have ll:(List.replicate n ((0:Int),(0:Int))).length=n:=List.length_replicate
   refine key p0.name (List.replicate n ((0:Int),(0:Int))) (nmx p0 p0m).2.1 (by rw [ll];omega) ⟨by rw [ll];omega,zdQ (by omega)⟩ (nmx p0 p0m).2.2 (by rw [lk,ll];intro e;exact n3 (Option.some.inj e).symm) ?_
   obtain ⟨d1,d2,s1,s2,d3,s3,s4⟩:=zcf (r':=(r.1,p0.name,List.replicate n ((0:Int),(0:Int)))) hy (by omega)
   have e1:=pe (r.1,p0.name,List.replicate n ((0:Int),(0:Int)))
   have e2:=re p0.name (List.replicate n ((0:Int),(0:Int)))
   generalize zai (rowP p y (r.1,p0.name,List.replicate n ((0:Int),(0:Int))))=pd at e1 ⊢
   generalize (rowP p y (r.1,p0.name,List.replicate n ((0:Int),(0:Int)))).rows.map rowD=rd at s4 e1
   generalize rowD (r.1,p0.name,List.replicate n ((0:Int),(0:Int)))=r1d at s3 e2
   generalize rwD (List.replicate n ((0:Int),(0:Int)))=wi at ew e2
   by_cases q:(p0.givens.length:Int)+v=0
   ·rw [if_pos q] at hn
    rw [← hn] at ew
    simp [-zbz,zdi,zfo,lPT,gm,ga,ix,gy,gr,gz,gh,a0,g0,hv,q,ew,s1,s2,s3,s4,e1,e2]
   ·rw [if_neg q] at hn
    rw [← hn] at ew
    simp [-zbz,zdi,zfo,lPT,gm,ga,ix,gy,gr,gz,gh,a0,g0,hv,q,ew,s1,s2,s3,s4,e1,e2]
def zdH:FS:=(sSeq (fun sd=>(sOwn 0 (zb2 [none] (iS (dVar 0)) (.one 0) (dTup (zab (dOp gIx (dVar 0) (dC (.int 0))) (zab (dBlt zbM (zab (dOp gIx (dVar 0) (dC (.int 1))) dNil)) (zab (dBlt zbM (zab (dOp gIx (dVar 0) (dC (.int 2))) dNil)) dNil)))))) (frzD [0] sd)) (sSeq (sIf (zap (dOp gLt (dVar 1) (dC (.int 4)))) (sRet (zf0 0 zdA (zab (dVar 1) (zab (dVar 2) dNil)))) za9) (sSeq (sIf (zap (dOp gLt (dVar 1) (dC (.int 9)))) (sRet (zf0 0 zcY (zab (dVar 1) (zab (dVar 2) dNil)))) za9) (sSeq (sIf (zap (dOp gLt (dVar 1) (dC (.int 13)))) (sRet (zf0 0 zdp (zab (dVar 1) (zab (dVar 2) dNil)))) za9) (sSeq (sIf (zap (dOp gLt (dVar 1) (dC (.int 15)))) (sRet (zf0 0 zdi (zab (dVar 1) (zab (dVar 2) dNil)))) za9) (sSeq (sIf (zap (dOp gEq (dVar 1) (dC (.int 16)))) (fun sd=>(sRet (zaC zfk (zab (dVar 0) (zab (dOp gAdd (dC (.int 21)) (dOp gMod (dVar 2) (dC (.int 5)))) dNil)))) (frzD [0] sd)) za9) (sSeq (sIf (zap (dOp gEq (dOp gMod (dVar 2) (dC (.int 2))) (dC (.int 1)))) (fun sd=>(sRet (dOp gAdd (zaC zgy (zab (dC (.int 1)) dNil)) (dVar 0))) (frzD [0] sd)) za9) (fun sd=>(sRet (dOp gAdd (dVar 0) (zaC zgy (zab (dC (.int 1)) dNil)))) (frzD [0] sd)))))))))
def zbf:List D→Res D:=runD 3 3 zdH
theorem bk_lb {ps:List Pl}(B:BkOk ps):LB ps:=fun i p hi=>by
 have W:=bk_wb B
 obtain ⟨q,base,bk,bl,e⟩:=B.names
 have l2:=B.l2
 have il:=(List.getElem?_eq_some_iff.mp hi).1
 have K:=B.pls i p hi
 have g2:=K.g2
 have r2:=K.r2
 obtain ⟨q',base',bk',bl',e'⟩:=K.names
 have nm:p.name∈ps.map (·.name):=List.mem_map.mpr ⟨p,List.mem_of_getElem? hi,rfl⟩
 rw [e] at nm
 obtain ⟨k,hk,ek⟩:=List.mem_map.mp nm
 have hk:=List.mem_range.mp hk
 refine ⟨by rw [← ek];exact ziI (by omega) bk bl,fun y hy z => ?_,fun x hx => ?_,by rw [e'];exact zgr q' base' (by omega),K.g1,g2,K.r1,r2,fun k r hk => ?_,fun r hr => ?_,?_⟩
 ·have:=W.fresh hi
  rw [zcl] at this
  exact this (List.mem_map.mpr ⟨y,hy,z⟩)
 ·rw [e'] at hx
  obtain ⟨k,hk,rfl⟩:=List.mem_map.mp hx
  have:=List.mem_range.mp hk
  exact ziI (by omega) bk' bl'
 ·have R:=K.rows k r hk
  exact ⟨R.its,R.low,R.top⟩
 ·obtain ⟨k,hk⟩:=List.getElem?_of_mem hr
  exact (K.rows k r hk).how
 ·rcases B.few with z|z
  ·have:i=0:=by omega
   subst this
   rw [List.take_zero]
   obtain ⟨_,b⟩:=zkO (t:=wtF []) (M:=0) (Int.le_refl _) (fun _ h=>nomatch h) p
   omega
  ·obtain ⟨_,b⟩:=zkJ (zk9 z i) (z p (List.mem_of_getElem? hi))
   have:i=0∨i=1∨i=2∨i=3:=by omega
   rcases this with rfl|rfl|rfl|rfl
   ·exact Int.le_trans b (show bnd 1≤2000 by decide +kernel)
   ·exact Int.le_trans b (show bnd 2≤2000 by decide +kernel)
   ·exact Int.le_trans b (show bnd 3≤2000 by decide +kernel)
   ·exact Int.le_trans b (show bnd 4≤2000 by decide +kernel)
theorem zhZ {ps:List Pl}(B:BkOk ps){w:Str}(h:zcC w.cps.toList=false):∀ p∈ps,p.name≠w:=fun p hp=>by
 obtain ⟨q,base,bk,bl,e⟩:=B.names
 have nm:p.name∈ps.map (·.name):=List.mem_map.mpr ⟨p,hp,rfl⟩
 rw [e] at nm
 obtain ⟨k,hk,ek⟩:=List.mem_map.mp nm
 rw [← ek]
 exact zjS h
def kP1:Pl:=⟨"h1",[("g" : Str)],(List.range 39).map fun k=>("r" ++ digF k,("all" : Str),oneI)⟩
def kP3:Pl:=⟨"h3",[("g" : Str)],(("r0" : Str),("h2" : Str),oneI)::(List.range 10).map fun k=>("r" ++ digF (k+1),("h1" : Str),oneI)⟩
theorem zlT:zgy [.int 1]=.ok (.lst ([kP1,hP2,kP3].map zai)):=by
 have okr:TxtOk 1 "r" := zaG (by decide +kernel)
 have r40:zbm [.int 40]=.ok (zax 0 40):=zaA (by omega) (by omega)
 have r39:zbm [.int 39]=.ok (zax 0 39):=zaA (by omega) (by omega)
 have r10:zbm [.int 10]=.ok (zax 0 10):=zaA (by omega) (by omega)
 have r0:zbm [.int 0]=.ok []:=zaA (by omega) (by omega)
 have m2:gMul (.int 2) (.int 1)=some (.int 2):=zcy (zct (by omega) (by omega))
 have m31:gMul (.int 31) (.int 0)=some (.int 0):=zcy (zct (by omega) (by omega))
 have z40:(zax 0 40).length<sizeLine:=za0 (by rw [zaD];omega)
 have z39:(zax 0 39).length<sizeLine:=za0 (by rw [zaD];omega)
 have z10:(zax 0 10).length<sizeLine:=za0 (by rw [zaD];omega)
 have it:D.tup [.tup [.int 0,.int 0]]=rwD oneI:=rfl
 have key:∀ (n:Nat) (how:Str),n≤40→mapE (.one 0) (dTup (zab (dOp gAdd (dC (.str "r")) (dBlt gStr (zab (dVar 0) dNil))) (zab (dC (.str how)) (zab (dVar 1) dNil)))) [none,some (.val (rwD oneI))] (zax 0 n)=.ok (((List.range n).map fun k=>("r" ++ digF k,how,oneI)).map rowD):=fun n how hn=>by
  rw [List.map_map]
  refine zbj fun i hi => ?_
  obtain ⟨gk,ok⟩:=zbB (k:=i) (by omega)
  have ga:=zaV okr ok (by omega)
  simp [gk,ga,rowD]
 have key8:mapE (.one 0) (dTup (zab (dOp gAdd (dC (.str "r")) (dBlt gStr (zab (dOp gAdd (dVar 0) (dC (.int 1))) dNil))) (zab (dC (.str "h1")) (zab (dVar 1) dNil)))) [none,some (.val (rwD oneI))] (zax 0 10)=.ok (((List.range 10).map fun k=>("r" ++ digF (k+1),("h1" : Str),oneI)).map rowD):=by
  rw [List.map_map]
  refine zbj fun i hi => ?_
  obtain ⟨gk,ok⟩:=zbB (k:=i+1) (by omega)
  have ga:=zaV okr ok (by omega)
  rw [show (((i+1:Nat)):Int)=(i:Int)+1 by omega] at gk
  simp [gk,ga,rowD]
 obtain ⟨y1,h1⟩:∃ y,((List.range 39).map fun k=>("r" ++ digF k,("all" : Str),oneI)).map rowD=y:=⟨_,rfl⟩
 obtain ⟨y2,h2⟩:∃ y,((List.range 40).map fun k=>("r" ++ digF k,("h1" : Str),oneI)).map rowD=y:=⟨_,rfl⟩
 obtain ⟨y3,h3⟩:∃ y,((List.range 10).map fun k=>("r" ++ digF (k+1),("h1" : Str),oneI)).map rowD=y:=⟨_,rfl⟩
 have k1:=key 39 "all" (by omega)
 have k2:=key 40 "h1" (by omega)
 rw [h1] at k1
 rw [h2] at k2
 rw [h3] at key8
 have l3:y3.length=10:=by rw [← h3,List.length_map,List.length_map,List.length_range]
 have ga3:zf8 (.lst [.tup [.str "r0",.str "h2",rwD oneI]]) (.lst y3)=some (.lst (.tup [.str "r0",.str "h2",rwD oneI]::y3)):=if_pos (zbs (by rw [List.length_singleton];omega))
 have f1:zai kP1=.tup [.str "h1",.lst [.str "g"],.lst y1]:=by rw [← h1];rfl
 have f2:zai hP2=.tup [.str "h2",.lst [.str "g"],.lst y2]:=by rw [← h2];rfl
 have f3:zai kP3=.tup [.str "h3",.lst [.str "g"],.lst (.tup [.str "r0",.str "h2",rwD oneI]::y3)]:=by rw [← h3];rfl
 rw [List.map_cons,List.map_cons,List.map_cons,List.map_nil,f1,f2,f3]
 have fe:∀ b sd,forT (.one 5) b [] sd=.ok (.next sd):=fun _ _=>rfl
 simp [zgy,zkd,r40,r39,r10,r0,m2,m31,it,z40,z39,z10,k1,k2,key8,ga3,fe]
structure Hv (p:Pl):Prop where
 sn:Sn p
 tn:nms (tns p)
 pl:PlB p
 uv:∀ x∈tns p,okX 117 x∧okX 118 x
 t:okX 116 p.name
theorem zmx {p:Pl}(g:p.givens=[("g" : Str)])(nm:chkC p.name=true)(tn:(tns p).all chkC=true)(td:(tns p).Nodup)(r1:1≤p.rows.length)(r2:p.rows.length≤40)(it:∀ r∈p.rows,r.2.2=oneI)(hw:(p.rows.all fun r=>decide (r.2.1.length≤20)&&r.2.1.cps.all (· < 128))=true)
 (hd:((tns p).all fun x=>decide (x.cps.toList.headD 0≠117)&&decide (x.cps.toList.headD 0≠118))=true) (ht:p.name.cps.toList.headD 0≠116):Hv p:=by
 have ok:=zej tn
 have gl:p.givens.length=1:=by rw [g];rfl
 refine ⟨⟨zf6 nm,fun x hx=>(ok x (List.mem_append_left _ hx)).1.mono (by omega),fun r hr=>(ok r.1 (List.mem_append_right _ (List.mem_map.mpr ⟨r,hr,rfl⟩))).1.mono (by omega),fun r hr=>zaG (List.all_eq_true.mp hw r hr),fun r hr => ?_,by omega,by omega⟩,⟨fun x hx=>(ok x hx).2,td⟩,⟨by omega,⟨r1,r2⟩,fun k r hk => ?_⟩,fun x hx => ?_,.inr ht⟩
 ·rw [it r hr];exact (by decide:1≤60)
 ·rw [it r (List.mem_of_getElem? hk),gl]
  exact ⟨⟨Nat.le_refl _,(by decide:1≤40)⟩,zmk 1 k 0 (by omega) (by omega) (by omega)⟩
 ·have:=List.all_eq_true.mp hd x hx
  rw [Bool.and_eq_true,decide_eq_true_eq,decide_eq_true_eq] at this
  exact ⟨.inr this.1,.inr this.2⟩
theorem zdN:∀ p ∈ [kP1,hP2,kP3],Hv p:=by
 have a1:Hv kP1:=zmx rfl (by decide +kernel) (by decide +kernel) (by decide +kernel) (by decide +kernel) (by decide +kernel) (fun r hr=>by obtain ⟨k,_,rfl⟩:=List.mem_map.mp hr;rfl) (by decide +kernel) (by decide +kernel) (by decide +kernel)
 have a2:Hv hP2:=zmx rfl (by decide +kernel) (by decide +kernel) (by decide +kernel) (by decide +kernel) (by decide +kernel) (fun r hr=>by obtain ⟨k,_,rfl⟩:=List.mem_map.mp hr;rfl) (by decide +kernel) (by decide +kernel) (by decide +kernel)
 have a3:Hv kP3:=zmx rfl (by decide +kernel) (by decide +kernel) (by decide +kernel) (by decide +kernel) (by decide +kernel) (fun r hr=>by
  rcases List.mem_cons.mp hr with rfl|hr
  ·rfl
  ·obtain ⟨k,_,rfl⟩:=List.mem_map.mp hr;rfl) (by decide +kernel) (by decide +kernel) (by decide +kernel)
 intro p hp
 have:p=kP1∨p=hP2∨p=kP3:=by simpa using hp
 rcases this with rfl|rfl|rfl
 ·exact a1
 ·exact a2
 ·exact a3
def zdV (qs:List Pl):Prop:=∀ (i:Nat) (p:Pl),qs[i]? = some p→∀ r∈p.rows,zk2 (za6 (qs.take i)) r.2.1 r.2.2.length
theorem zhX {a b:List Pl}(ha:zdV a)(hb:zdV b):zdV (a++b):=fun i p hi r hr=>by
 by_cases h:i<a.length
 ·rw [List.getElem?_append_left h] at hi
  rw [List.take_append_of_le_length (by omega)]
  exact ha i p hi r hr
 ·rw [List.getElem?_append_right (by omega)] at hi
  have e:(a++b).take i=a++b.take (i-a.length):=by rw [List.take_append,List.take_of_length_le (by omega)]
  rw [e]
  rcases hb _ p hi r hr with z|z|z
  ·exact .inl z
  ·exact .inr (.inl z)
  ·refine .inr (.inr ?_)
   unfold za6 at z ⊢
   rw [List.map_append]
   exact List.mem_append_right _ z
theorem zlb:zdV [kP1,hP2,kP3]:=fun i p hi r hr=>by
 have:i=0∨i=1∨i=2:=by
  have:=(List.getElem?_eq_some_iff.mp hi).1
  simp at this
  omega
 rcases this with rfl|rfl|rfl
 ·first|exact zqn hi|exact zqb hi|(obtain rfl:=Option.some.inj hi)|cases hi
  obtain ⟨k,_,rfl⟩:=List.mem_map.mp hr
  exact .inl rfl
 ·first|exact zqn hi|exact zqb hi|(obtain rfl:=Option.some.inj hi)|cases hi
  obtain ⟨k,_,rfl⟩:=List.mem_map.mp hr
  exact .inr (.inr (zdu (p:=kP1) (by simp)))
 ·first|exact zqn hi|exact zqb hi|(obtain rfl:=Option.some.inj hi)|cases hi
  rcases List.mem_cons.mp hr with rfl|hr
  ·exact .inr (.inr (zdu (p:=hP2) (by simp)))
  ·obtain ⟨k,_,rfl⟩:=List.mem_map.mp hr
   exact .inr (.inr (zdu (p:=kP1) (by simp)))
theorem zfY {q:Str×Int}:∀ (b:List Pl) (t:List (Str×Int)),q∈t→q∈b.foldl wtS t
 | [],_,h=>h
 | p::b,t,h=>zfY b _ (List.mem_append_left _ h)
theorem wt_hv:((wtF [kP1,hP2,kP3]).any fun q=>decide (2000<q.2))=true:=by decide +kernel
structure Bk (ps:List Pl):Prop where
 s:SnB ps
 n:NmB ps
 b:PsB ps
 h:zdV ps
 f:Fr ps
 w:FrW ps
theorem zh4 {ps:List Pl}(K:Bk ps)(l:ps.length≤4)(hn:∀ p∈ps,p.name ≠ "h1" ∧ p.name ≠ "h2" ∧ p.name ≠ "h3"){qs:List Pl}(hq:qs=[kP1,hP2,kP3]++ps∨qs=ps++[kP1,hP2,kP3]):Bk qs∧(¬ ∀ q∈wtF qs,q.2≤2000)∧qs.length=ps.length+3:=by
 have hm:∀ {p:Pl},p∈qs↔p∈ps∨p ∈ [kP1,hP2,kP3]:=fun {p}=>by
  rcases hq with rfl|rfl
  ·rw [List.mem_append];exact Or.comm
  ·rw [List.mem_append]
 have hl:qs.length=ps.length+3:=by
  rcases hq with rfl|rfl
  ·rw [List.length_append,Nat.add_comm];rfl
  ·rw [List.length_append];rfl
 have nh:nms ([kP1,hP2,kP3].map (·.name)):=by
  have e : [kP1,hP2,kP3].map (·.name)=[("h1" : Str), "h2", "h3"]:=rfl
  rw [e]
  exact ⟨fun x hx=>(zej (l:=["h1", "h2", "h3"]) (by decide +kernel) x hx).2,by decide +kernel⟩
 have dis:∀ x∈ps.map (·.name),∀ y ∈ [kP1,hP2,kP3].map (·.name),x≠y:=fun x hx y hy=>by
  obtain ⟨p,hp,rfl⟩:=List.mem_map.mp hx
  obtain ⟨a,b,c⟩:=hn p hp
  have:y = "h1" ∨ y = "h2" ∨ y = "h3" := by
   have e : [kP1,hP2,kP3].map (·.name)=[("h1" : Str), "h2", "h3"]:=rfl
   rw [e] at hy
   simpa using hy
  rcases this with rfl|rfl|rfl
  ·exact a
  ·exact b
  ·exact c
 have H:zdV qs:=by
  rcases hq with rfl|rfl
  ·exact zhX zlb K.h
  ·exact zhX K.h zlb
 have S:SnB qs:=⟨fun p hp=>(hm.mp hp).elim (K.s.pl p) fun z=>(zdN p z).sn,by omega⟩
 have N:NmB qs:=by
  refine ⟨?_,fun p hp=>(hm.mp hp).elim (K.n.2 p) fun z=>(zdN p z).tn⟩
  rcases hq with rfl|rfl
  ·rw [List.map_append];exact zc1 nh K.n.1 fun x hx y hy=>(dis y hy x hx).symm
  ·rw [List.map_append];exact zc1 K.n.1 nh dis
 have B:PsB qs:=⟨by omega,fun p hp=>(hm.mp hp).elim (K.b.2 p) fun z=>(zdN p z).pl⟩
 refine ⟨⟨S,N,B,H,⟨fun p hp=>(hm.mp hp).elim (K.f.t p) fun z=>(zdN p z).t,fun p hp=>(hm.mp hp).elim (K.f.u p) fun z x hx=>((zdN p z).uv x hx).1,fun p hp=>(hm.mp hp).elim (K.f.v p) fun z x hx=>((zdN p z).uv x hx).2⟩,fun p hp=>(hm.mp hp).elim (K.w p) fun z => ?_⟩,fun z => ?_,hl⟩
 ·have:p=kP1∨p=hP2∨p=kP3:=by simpa using z
  rcases this with rfl|rfl|rfl<;>exact ⟨by decide +kernel,by decide +kernel⟩
 ·rcases hq with rfl|rfl
  ·obtain ⟨q,hq,hd⟩:=List.any_eq_true.mp wt_hv
   have:=z q (by
    unfold wtF
    rw [List.foldl_append]
    exact zfY ps _ hq)
   have:=of_decide_eq_true hd
   omega
  ·have n1:("h1" : Str)∉(wtF ps).map (·.1):=by
    rw [zcl]
    intro z
    obtain ⟨p,hp,e⟩:=List.mem_map.mp z
    exact (hn p hp).1 e
   have w1:wt1 (wtF ps) kP1=39:=by
    rw [zlr (ws:=[]) (by decide +kernel),List.map_nil,show kP1.rows.length=39 by decide +kernel]
    rfl
   have t1:wtF (ps++[kP1])=wtF ps++[(("h1" : Str),(39:Int))]:=by rw [zdc,w1];rfl
   have k1:lkT (wtF (ps++[kP1])) "h1" = some 39:=by rw [t1];exact zhx n1 _
   have w2:wt1 (wtF (ps++[kP1])) hP2=1600:=by
    rw [zlr (ws:=List.replicate 40 "h1") (by decide +kernel),List.map_replicate,k1]
    decide +kernel
   have n2:("h2" : Str)∉(wtF (ps++[kP1])).map (·.1):=by
    rw [zcl]
    intro z
    obtain ⟨p,hp,e⟩:=List.mem_map.mp z
    rcases List.mem_append.mp hp with y|y
    ·exact (hn p y).2.1 e
    ·rw [List.mem_singleton.mp y] at e
     exact absurd e (by decide +kernel)
   have t2:wtF (ps++[kP1]++[hP2])=wtF (ps++[kP1])++[(("h2" : Str),(1600:Int))]:=by rw [zdc,w2];rfl
   have k2:lkT (wtF (ps++[kP1]++[hP2])) "h2" = some 1600:=by rw [t2];exact zhx n2 _
   have k3:lkT (wtF (ps++[kP1]++[hP2])) "h1" = some 39:=by rw [t2,zlJ (by decide +kernel)];exact k1
   have w3:wt1 (wtF (ps++[kP1]++[hP2])) kP3=2001:=by
    rw [zlr (ws := "h2" :: List.replicate 10 "h1") (by decide +kernel),List.map_cons,List.map_replicate,k2,k3]
    decide +kernel
   have t3:wtF (ps++[kP1,hP2,kP3])=wtF (ps++[kP1]++[hP2])++[(("h3" : Str),(2001:Int))]:=by
    have e:ps++[kP1,hP2,kP3]=ps++[kP1]++[hP2]++[kP3]:=by simp
    rw [e,zdc,w3]
    rfl
   have:=z (("h3" : Str),(2001:Int)) (by rw [t3];exact List.mem_append_right _ (List.mem_singleton.mpr rfl))
   have this:(2001:Int)≤2000:=this
   omega
theorem zcM {ps:List Pl}(l:ps.length≤60):mapE (.one 0) (dTup (zab (dOp gIx (dVar 0) (dC (.int 0))) (zab (dBlt zbM (zab (dOp gIx (dVar 0) (dC (.int 1))) dNil)) (zab (dBlt zbM (zab (dOp gIx (dVar 0) (dC (.int 2))) dNil)) dNil)))) [none] (ps.map zai)=.ok (ps.map zai):=zcc fun p _=>by
 have e:D.tup [.str p.name,.lst (p.givens.map .str),.lst (p.rows.map rowD)]=zai p:=rfl
 simp [e]
theorem sp_0 {ps:List Pl}{kind:Nat}{c:Int}{d:D}(l:ps.length≤60)(hk:kind<4)(h:zdA [.lst (ps.map zai),.int kind,.int c]=.ok d):zbf [.lst (ps.map zai),.int kind,.int c]=.ok d:=by
 have cp:=zcM l
 have hz:=za0 (show ps.length≤1000 by omega)
 have lPT:(ps.map zai).length=ps.length:=List.length_map _
 have k1:(kind:Int)<4:=by omega
 generalize ps.map zai=PT at cp h lPT ⊢
 simp [zbf,zdH,lPT,hz,cp,k1,h]
theorem sp_1 {ps:List Pl}{kind:Nat}{c:Int}{d:D}(l:ps.length≤60)(hk:4≤kind)(hk2:kind<9)(h:zcY [.lst (ps.map zai),.int kind,.int c]=.ok d):zbf [.lst (ps.map zai),.int kind,.int c]=.ok d:=by
 have cp:=zcM l
 have hz:=za0 (show ps.length≤1000 by omega)
 have lPT:(ps.map zai).length=ps.length:=List.length_map _
 have k1:¬ (kind:Int)<4:=by omega
 have k2:(kind:Int)<9:=by omega
 generalize ps.map zai=PT at cp h lPT ⊢
 simp [zbf,zdH,lPT,hz,cp,k1,k2,h]
theorem sp_2 {ps:List Pl}{kind:Nat}{c:Int}{d:D}(l:ps.length≤60)(hk:9≤kind)(hk2:kind<13)(h:zdp [.lst (ps.map zai),.int kind,.int c]=.ok d):zbf [.lst (ps.map zai),.int kind,.int c]=.ok d:=by
 have cp:=zcM l
 have hz:=za0 (show ps.length≤1000 by omega)
 have lPT:(ps.map zai).length=ps.length:=List.length_map _
 have k1:¬ (kind:Int)<4:=by omega
 have k2:¬ (kind:Int)<9:=by omega
 have k3:(kind:Int)<13:=by omega
 generalize ps.map zai=PT at cp h lPT ⊢
 simp [zbf,zdH,lPT,hz,cp,k1,k2,k3,h]
theorem sp_3 {ps:List Pl}{kind:Nat}{c:Int}{d:D}(l:ps.length≤60)(hk:13≤kind)(hk2:kind<15)(h:zdi [.lst (ps.map zai),.int kind,.int c]=.ok d):zbf [.lst (ps.map zai),.int kind,.int c]=.ok d:=by
 have cp:=zcM l
 have hz:=za0 (show ps.length≤1000 by omega)
 have lPT:(ps.map zai).length=ps.length:=List.length_map _
 have k1:¬ (kind:Int)<4:=by omega
 have k2:¬ (kind:Int)<9:=by omega
 have k3:¬ (kind:Int)<13:=by omega
 have k4:(kind:Int)<15:=by omega
 generalize ps.map zai=PT at cp h lPT ⊢
 simp [zbf,zdH,lPT,hz,cp,k1,k2,k3,k4,h]
theorem sp_4 {ps:List Pl}{c:Int}(l:ps.length≤20):∃ m:Nat,20<m∧m≤25∧zbf [.lst (ps.map zai),.int 16,.int c]=.ok (.lst ((ps++(List.range (m-ps.length)).map grP).map zai)):=by
 obtain ⟨m,hm,m1,m2⟩:∃ m:Nat,(21:Int)+c % 5=(m:Int)∧21≤m∧m≤25:=⟨(21+c % 5).toNat,by omega,by omega,by omega⟩
 have fg:=zhj (ps:=ps) (m:=m) (by omega) (by omega)
 refine ⟨m,by omega,m2,?_⟩
 have cp:=zcM (ps:=ps) (by omega)
 have hz:=za0 (show ps.length≤1000 by omega)
 have lPT:(ps.map zai).length=ps.length:=List.length_map _
 generalize (ps++(List.range (m-ps.length)).map grP).map zai=out at fg ⊢
 generalize ps.map zai=PT at cp fg lPT ⊢
 simp [zbf,zdH,lPT,hz,cp,hm,fg]
theorem sp_5 {ps:List Pl}{c:Int}(l:ps.length≤20):∃ qs,(qs=[kP1,hP2,kP3]++ps∨qs=ps++[kP1,hP2,kP3])∧zbf [.lst (ps.map zai),.int 15,.int c]=.ok (.lst (qs.map zai)):=by
 have cp:=zcM (ps:=ps) (by omega)
 have hz:=za0 (show ps.length≤1000 by omega)
 have lPT:(ps.map zai).length=ps.length:=List.length_map _
 have fh:=zlT
 have lH:([kP1,hP2,kP3].map zai).length=3:=rfl
 have a1:gAdd (.lst ([kP1,hP2,kP3].map zai)) (.lst (ps.map zai))=some (.lst (([kP1,hP2,kP3]++ps).map zai)):=by
  rw [List.map_append]
  exact if_pos (zbs (by rw [lPT,lH];omega))
 have a2:gAdd (.lst (ps.map zai)) (.lst ([kP1,hP2,kP3].map zai))=some (.lst ((ps++[kP1,hP2,kP3]).map zai)):=by
  rw [List.map_append]
  exact if_pos (zbs (by rw [lPT,lH];omega))
 by_cases e:c % 2=1
 ·refine ⟨_,.inl rfl,?_⟩
  generalize ([kP1,hP2,kP3]++ps).map zai=out at a1 ⊢
  generalize [kP1,hP2,kP3].map zai=HD at fh a1
  generalize ps.map zai=PT at cp a1 lPT ⊢
  simp [zbf,zdH,lPT,hz,cp,e,fh,a1]
 ·refine ⟨_,.inr rfl,?_⟩
  generalize (ps++[kP1,hP2,kP3]).map zai=out at a2 ⊢
  generalize [kP1,hP2,kP3].map zai=HD at fh a2
  generalize ps.map zai=PT at cp a2 lPT ⊢
  simp [zbf,zdH,lPT,hz,cp,e,fh,a2]
theorem zjZ {ps:List Pl}(B:BkOk ps):(∀ p∈ps,zcC p.name.cps.toList=true)∧∀ p∈ps,∀ x∈tns p,zcC x.cps.toList=true:=by
 refine ⟨fun p hp => ?_,fun p hp x hx => ?_⟩
 ·obtain ⟨q,base,bk,bl,e⟩:=B.names
  have nm:p.name∈ps.map (·.name):=List.mem_map.mpr ⟨p,hp,rfl⟩
  rw [e] at nm
  obtain ⟨k,hk,ek⟩:=List.mem_map.mp nm
  rw [← ek]
  exact zcX q base k
 ·obtain ⟨i,hi⟩:=List.getElem?_of_mem hp
  obtain ⟨q,base,bk,bl,e⟩:=(B.pls i p hi).names
  have hx:x∈p.givens++p.rows.map (·.1):=hx
  rw [e] at hx
  obtain ⟨k,hk,ek⟩:=List.mem_map.mp hx
  rw [← ek]
  exact zcX q base k
theorem bk_bk {ps:List Pl}(B:BkOk ps):Bk ps∧(∀ p∈ps,p.name ≠ "h1" ∧ p.name ≠ "h2" ∧ p.name ≠ "h3"):=by
 have L:=bk_lb B
 have l1:=B.l1
 have l2:=B.l2
 have W:=L.wb l1 (by omega)
 obtain ⟨s1,s2⟩:=zjZ B
 refine ⟨⟨zn6 L (by omega),zpv L W,zmW L l1 (by omega),fun i p hi r hr=>(L i p hi).how r hr,⟨fun p hp=>.inl (s1 p hp),fun p hp x hx=>.inl (s2 p hp x hx),fun p hp x hx=>.inl (s2 p hp x hx)⟩,fun p hp=>⟨zhZ B (by decide +kernel) p hp,zhZ B (by decide +kernel) p hp⟩⟩,fun p hp=>⟨zhZ B (by decide +kernel) p hp,zhZ B (by decide +kernel) p hp,zhZ B (by decide +kernel) p hp⟩⟩
theorem zfr {ps:List Pl}(B:PsB ps):ps ≠ []∧∀ p∈ps,tns p ≠ []:=by
 refine ⟨fun z => ?_,fun p hp z => ?_⟩
 ·have:=B.1.1
  rw [z] at this
  exact absurd this (by decide)
 ·have:=(B.2 p hp).1.1
  unfold tns at z
  rw [List.append_eq_nil_iff] at z
  rw [z.1] at this
  exact absurd this (by decide)
theorem zga {ps:List Pl}(K:SnB ps)(N:NmB ps)(B:PsB ps)(F:Fr ps){kind:Nat}(h:(4≤kind∧kind<13)∨kind=16)(c:Int):∃ ps',zbf [.lst (ps.map zai),.int kind,.int c]=.ok (.lst (ps'.map zai))∧SnB ps'∧NmB ps'∧¬ PsB ps'∧(kind≠4→ps' ≠ []∧ps'.length≤30)∧∀ p∈ps',tns p ≠ []:=by
 have l1:=B.1.1
 have l2:=B.1.2
 have ne:∀ {qs:List Pl},1≤qs.length→qs ≠ []:=fun {qs} h z=>by rw [z] at h;exact absurd h (by decide)
 rcases h with ⟨h1,h2⟩|rfl
 ·by_cases h9:kind<9
  ·obtain ⟨qs,e,s,n,p,q,t⟩:=f_z26 K N B F h1 h9 c
   exact ⟨qs,sp_1 (by omega) h1 h9 e,s,n,p,fun z=>⟨ne (by rw [q z];exact l1),by rw [q z];omega⟩,t⟩
  ·obtain ⟨qs,e,s,n,p,q,t⟩:=f_z27 K N B (by omega) h2 c
   exact ⟨qs,sp_2 (by omega) (by omega) h2 e,s,n,p,fun z=>⟨ne (by rw [q];exact l1),by rw [q];omega⟩,t⟩
 ·obtain ⟨m,m1,m2,e⟩:=sp_4 (ps:=ps) (c:=c) l2
  obtain ⟨s,n,p,t⟩:=zes K N F l2 m1 (by omega)
  refine ⟨_,e,s,n,p,fun _=>⟨ne (by rw [List.length_append];omega),by rw [List.length_append,List.length_map,List.length_range];omega⟩,fun q hq=>(t q hq).elim ((zfr B).2 q) id⟩
theorem zkc {ps:List Pl}(S:SnB ps)(l:ps.length≤30)(ne:ps ≠ [])(tn:∀ p∈ps,tns p ≠ []){kind:Nat}(hk:kind<4)(c:Int):∃ ps',zbf [.lst (ps.map zai),.int kind,.int c]=.ok (.lst (ps'.map zai))∧SnB ps'∧¬ NmB ps':=by
 obtain ⟨qs,e,s,n⟩:=f_z25 S l ne tn hk c
 exact ⟨qs,sp_0 (by omega) hk e,s,n⟩
theorem zem {ps:List Pl}(S:SnB ps)(N:NmB ps)(B:PsB ps)(W:FrW ps)(l10:ps.length≤10){kind:Nat}(h1:13≤kind)(h2:kind<15)(c:Int):∃ ps',zbf [.lst (ps.map zai),.int kind,.int c]=.ok (.lst (ps'.map zai))∧SnB ps'∧NmB ps'∧PsB ps'∧¬ PtB ps'∧(Fr ps→Fr ps')∧ps'.length≤ps.length+1:=by
 obtain ⟨qs,e,r⟩:=f_z28 S N B W l10 h1 h2 c
 exact ⟨qs,sp_3 (by omega) h1 h2 e,r⟩
def zke:FS:=(sSeq (sSet 1 (zaC zgH (zab (dVar 0) (zab (dC (.int 1)) dNil)))) (sSeq (sSet 2 (dLst (zab (dLst (ze7 [.int 0,.int 1,.int 2,.int 3])) (zab (dLst (ze7 [.int 5,.int 6,.int 7,.int 8,.int 9,.int 10,.int 11,.int 12,.int 16])) (zab (dLst (ze7 [.int 13,.int 14])) (zab (dLst (ze7 [.int 15])) dNil)))))) (sSeq (sFor (iS (dOp gAdd (dLst (zab (dBlt gLen (zab (dVar 0) dNil)) dNil)) (zaC zf7 (zab (dVar 0) (zab (dC (.int 0)) (zab (dC (.int 10)) dNil)))))) (.one 3) (sSeq (sSet 4 (dOp gMod (dVar 3) (dC (.int 3)))) (sSeq (sSet 5 (dOp gAdd (dOp gAdd (dVar 4) (dC (.int 1))) (dOp gMod (dOp zaQ (dVar 3) (dC (.int 3))) (dOp gSub (dC (.int 3)) (dVar 4))))) (sSeq (sSet 6 (dOp gIx (dOp gIx (dVar 2) (dVar 4)) (dOp gMod (dOp zaQ (dVar 3) (dC (.int 9))) (dBlt gLen (zab (dOp gIx (dVar 2) (dVar 4)) dNil))))) (sSeq (sSet 7 (dOp gIx (dOp gIx (dVar 2) (dVar 5)) (dOp gMod (dOp zaQ (dVar 3) (dC (.int 72))) (dBlt gLen (zab (dOp gIx (dVar 2) (dVar 5)) dNil))))) (sSeq (sSet 8 (zaC zbf (zab (zaC zbf (zab (dVar 1) (zab (dVar 7) (zab (dOp zaQ (dVar 3) (dC (.int 5))) dNil)))) (zab (dVar 6) (zab (dOp zaQ (dVar 3) (dC (.int 16))) dNil))))) (sIf (zbT (zap (zaC zgI (zab (zaC zgT (zab (dVar 8) dNil)) (zab (zaC zdC (zab (dVar 6) dNil)) dNil))))) (sRet (dC (.bl false))) za9))))))) (sRet (dC (.bl true))))))
def zfD:List D→Res D:=runD 9 1 zke
noncomputable def kL (f:Nat):List Nat:=if f=0 then [0,1,2,3] else if f=1 then [5,6,7,8,9,10,11,12,16] else if f=2 then [13,14] else [15]
theorem zfV {f k:Nat}(h:k∈kL f):(f=0→k<4)∧(f=1→(5≤k∧k<13)∨k=16)∧(f=2→13≤k∧k<15)∧(f=3→k=15):=by
 refine ⟨fun e => ?_,fun e => ?_,fun e => ?_,fun e => ?_⟩
 ·subst e
  have:k=0∨k=1∨k=2∨k=3:=by simpa [kL] using h
  omega
 ·subst e
  have:k=5∨k=6∨k=7∨k=8∨k=9∨k=10∨k=11∨k=12∨k=16:=by simpa [kL] using h
  omega
 ·subst e
  have:k=13∨k=14:=by simpa [kL] using h
  omega
 ·subst e
  simpa [kL] using h
theorem zgR {ps:List Pl}(K:Bk ps)(l:ps.length≤4)(hn:∀ p∈ps,p.name ≠ "h1" ∧ p.name ≠ "h2" ∧ p.name ≠ "h3"){f g one other:Nat}(fg:f<g)(g3:g<4)(ho:one∈kL f)(hr:other∈kL g)(c d:Int) :
 ∃ qs rs:List Pl,zbf [.lst (ps.map zai),.int other,.int c]=.ok (.lst (qs.map zai))∧zbf [.lst (qs.map zai),.int one,.int d]=.ok (.lst (rs.map zai))∧rs.length≤60∧F_z1 [zbl rs]=.ex (zb8 (grpN one)) []:=by
 obtain ⟨o0,o1,o2,_⟩:=zfV ho
 obtain ⟨_,r1,r2,r3⟩:=zfV hr
 have heavy:other=15→∃ qs,zbf [.lst (ps.map zai),.int other,.int c]=.ok (.lst (qs.map zai))∧Bk qs∧qs.length≤7:=fun e=>by
  subst e
  obtain ⟨qs,hq,e⟩:=sp_5 (ps:=ps) (c:=c) (by omega)
  obtain ⟨Q,_,ql⟩:=zh4 K l hn hq
  exact ⟨qs,e,Q,by omega⟩
 have fin0:∀ qs:List Pl,one<4→zbf [.lst (ps.map zai),.int other,.int c]=.ok (.lst (qs.map zai))→SnB qs→qs.length≤30→qs ≠ []→(∀ p∈qs,tns p ≠ [])→∃ qs rs:List Pl,zbf [.lst (ps.map zai),.int other,.int c]=.ok (.lst (qs.map zai))∧zbf [.lst (qs.map zai),.int one,.int d]=.ok (.lst (rs.map zai))∧rs.length≤60∧F_z1 [zbl rs]=.ex (zb8 (grpN one)) []:=fun qs o e s ql ne tn=>by
  obtain ⟨rs,e2,s2,n2⟩:=zkc s ql ne tn o d
  have g:grpN one=0:=if_pos o
  exact ⟨qs,rs,e,e2,s2.len,by rw [g];exact zpp s2 n2⟩
 have fin1:∀ qs:List Pl,((5≤one∧one<13)∨one=16)→zbf [.lst (ps.map zai),.int other,.int c]=.ok (.lst (qs.map zai))→SnB qs→NmB qs→PsB qs→Fr qs→∃ qs rs:List Pl,zbf [.lst (ps.map zai),.int other,.int c]=.ok (.lst (qs.map zai))∧zbf [.lst (qs.map zai),.int one,.int d]=.ok (.lst (rs.map zai))∧rs.length≤60∧F_z1 [zbl rs]=.ex (zb8 (grpN one)) []:=fun qs o e s n b fr=>by
  obtain ⟨rs,e2,s2,n2,p2,_⟩:=zga s n b fr (kind:=one) (by omega) d
  have g:grpN one=1:=by unfold grpN;rw [if_neg (by omega),if_pos (by omega)]
  exact ⟨qs,rs,e,e2,s2.len,by rw [g];exact znZ s2 n2 p2⟩
 rcases (show f=0∨f=1∨f=2 by omega) with rfl|rfl|rfl
 ·rcases (show g=1∨g=2∨g=3 by omega) with rfl|rfl|rfl
  ·obtain ⟨qs,e,s,n,p,q,t⟩:=zga K.s K.n K.b K.f (kind:=other) (by have:=r1 rfl;omega) c
   obtain ⟨ne,ql⟩:=q (by have:=r1 rfl;omega)
   exact fin0 qs (o0 rfl) e s ql ne t
  ·obtain ⟨qs,e,s,n,p,q,_,ql⟩:=zem K.s K.n K.b K.w (by omega) (kind:=other) (r2 rfl).1 (r2 rfl).2 c
   obtain ⟨ne,t⟩:=zfr p
   exact fin0 qs (o0 rfl) e s (by omega) ne t
  ·obtain ⟨qs,e,Q,ql⟩:=heavy (r3 rfl)
   obtain ⟨ne,t⟩:=zfr Q.b
   exact fin0 qs (o0 rfl) e Q.s (by omega) ne t
 ·rcases (show g=2∨g=3 by omega) with rfl|rfl
  ·obtain ⟨qs,e,s,n,p,q,fr,ql⟩:=zem K.s K.n K.b K.w (by omega) (kind:=other) (r2 rfl).1 (r2 rfl).2 c
   exact fin1 qs (o1 rfl) e s n p (fr K.f)
  ·obtain ⟨qs,e,Q,ql⟩:=heavy (r3 rfl)
   exact fin1 qs (o1 rfl) e Q.s Q.n Q.b Q.f
 ·have g3':g=3:=by omega
  subst g3'
  obtain ⟨qs,e,Q,ql⟩:=heavy (r3 rfl)
  obtain ⟨rs,e2,s2,n2,p2,q2,_⟩:=zem Q.s Q.n Q.b Q.w (by omega) (kind:=one) (o2 rfl).1 (o2 rfl).2 d
  have g:grpN one=2:=by have:=o2 rfl;unfold grpN;rw [if_neg (by omega),if_neg (by omega),if_pos (by omega)]
  exact ⟨qs,rs,e,e2,s2.len,by rw [g];exact zpD s2 n2 p2 q2⟩
noncomputable def kD (f:Nat):List D:=(kL f).map fun n:Nat=>D.int n
theorem kD_at (f:Nat)(hf:f<4):atI [D.lst (kD 0),.lst (kD 1),.lst (kD 2),.lst (kD 3)] (f:Int)=some (.lst (kD f)):=by
 rcases (show f=0∨f=1∨f=2∨f=3 by omega) with rfl|rfl|rfl|rfl<;>rfl
theorem zn5 (f:Nat):1≤(kL f).length:=by
 unfold kL
 split
 ·decide
 ·split
  ·decide
  ·split<;>decide
theorem zk4 (f:Nat)(c:Int):∃ a k:Nat,gMod (.int c) (.int ((kL f).length:Nat))=some (.int a)∧atI (kD f) (a:Int)=some (.int k)∧k∈kL f:=by
 obtain ⟨a,gm,ha,_⟩:=zb9 (n:=(kL f).length) c (zn5 f)
 obtain ⟨k,hk⟩:∃ k,(kL f)[a]? = some k:=⟨(kL f)[a],List.getElem?_eq_getElem ha⟩
 exact ⟨a,k,gm,zbn (f:=fun n:Nat=>D.int n) hk,List.mem_of_getElem? hk⟩
theorem law_true (ns:List Int)(h:ns.length≤63):zfD [.scr ns]=.ok (.bl true):=by
 obtain ⟨ps,e1,B⟩:=f_z19 h
 have l1:=B.l1
 have l2:=B.l2
 obtain ⟨K,hn⟩:=bk_bk B
 refine zc1b (zcP h (a:=0) (most:=10) (by omega) (by omega) (by omega) (by omega)) fun cs hcs ftu => ?_
 have ga:gAdd (.lst [.int (ns.length:Int)]) (.lst (cs.map .int))=some (.lst (((ns.length:Int)::cs).map .int)):=by
  rw [List.map_cons]
  exact if_pos (zbs (by rw [List.length_map,List.length_singleton];omega))
 have two:=fun (f g one other:Nat) (fg:f<g) (g3:g<4) (ho:one∈kL f) (hr:other∈kL g) (c d:Int)=>zgR K l2 hn fg g3 ho hr c d
 generalize hPT:ps.map zai=PT at e1 two
 have kk:∀ f:Nat,f<4→atI [D.lst (kD 0),.lst (kD 1),.lst (kD 2),.lst (kD 3)] (f:Int)=some (.lst (kD f)):=kD_at
 have kll:∀ f:Nat,(kD f).length=(kL f).length:=fun f=>List.length_map _
 have ek : [D.lst [.int 0,.int 1,.int 2,.int 3],.lst [.int 5,.int 6,.int 7,.int 8,.int 9,.int 10,.int 11,.int 12,.int 16],.lst [.int 13,.int 14],.lst [.int 15]]=[D.lst (kD 0),.lst (kD 1),.lst (kD 2),.lst (kD 3)]:=rfl
 obtain ⟨KD,hKD⟩:∃ z,[D.lst (kD 0),.lst (kD 1),.lst (kD 2),.lst (kD 3)]=z:=⟨_,rfl⟩
 have kz:KD.length≤1000:=by rw [← hKD];decide
 rw [hKD] at kk ek
 obtain ⟨sd1,e2,u3,u4,u5,u6,u7,u8,hsd1⟩:=zcG (tg:=.one 3) (b:=(sSeq (sSet 4 (dOp gMod (dVar 3) (dC (.int 3)))) (sSeq (sSet 5 (dOp gAdd (dOp gAdd (dVar 4) (dC (.int 1))) (dOp gMod (dOp zaQ (dVar 3) (dC (.int 3))) (dOp gSub (dC (.int 3)) (dVar 4))))) (sSeq (sSet 6 (dOp gIx (dOp gIx (dVar 2) (dVar 4)) (dOp gMod (dOp zaQ (dVar 3) (dC (.int 9))) (dBlt gLen (zab (dOp gIx (dVar 2) (dVar 4)) dNil))))) (sSeq (sSet 7 (dOp gIx (dOp gIx (dVar 2) (dVar 5)) (dOp gMod (dOp zaQ (dVar 3) (dC (.int 72))) (dBlt gLen (zab (dOp gIx (dVar 2) (dVar 5)) dNil))))) (sSeq (sSet 8 (zaC zbf (zab (zaC zbf (zab (dVar 1) (zab (dVar 7) (zab (dOp zaQ (dVar 3) (dC (.int 5))) dNil)))) (zab (dVar 6) (zab (dOp zaQ (dVar 3) (dC (.int 16))) dNil))))) (sIf (zbT (zap (zaC zgI (zab (zaC zgT (zab (dVar 8) dNil)) (zab (zaC zdC (zab (dVar 6) dNil)) dNil))))) (sRet (dC (.bl false))) za9))))))) (ds:=((ns.length:Int)::cs).map .int)
  (sd:=[some (.val (.scr ns)),some (.val (.lst PT)),some (.val (.lst KD)),none,none,none,none,none,none])
  (P:=fun _ sd => ∃ u3 u4 u5 u6 u7 u8:Option SV,sd=[some (.val (.scr ns)),some (.val (.lst PT)),some (.val (.lst KD)),u3,u4,u5,u6,u7,u8]) ⟨none,none,none,none,none,none,rfl⟩ (by
   rintro i x sd hx ⟨u3,u4,u5,u6,u7,u8,rfl⟩
   obtain ⟨cell,_,rfl⟩:=zd8 hx
   obtain ⟨f,hf,f3⟩:∃ f:Nat,cell % 3=(f:Int)∧f<3:=⟨(cell % 3).toNat,by omega,by omega⟩
   obtain ⟨w,gw,hw,_⟩:=zb9 (n:=3-f) (cell / 3) (by omega)
   have h3:(3:Int)-(f:Int)=((3-f:Nat):Int):=by omega
   obtain ⟨g,hg,g1,g3⟩:∃ g:Nat,(f:Int)+1+(w:Int)=(g:Int)∧f<g∧g<4:=⟨f+1+w,by omega,by omega,by omega⟩
   obtain ⟨a,one,ga1,aa1,m1⟩:=zk4 f (cell / 9)
   obtain ⟨b,other,gb1,ab1,m2⟩:=zk4 g (cell / 72)
   obtain ⟨qs,rs,es,es2,rl,lk⟩:=two f g one other g1 g3 m1 m2 (cell / 5) (cell / 16)
   have kf:=kk f (by omega)
   have kg:=kk g g3
   have lf:=kll f
   have lg:=kll g
   have bq:=f_z20 (ps:=rs) rl
   have fc:=f_z31 (zo1 one) lk
   have fgp:=f_z30 one
   generalize zbl rs=bd at bq fc
   generalize rs.map zai=rd at es2 bq
   generalize qs.map zai=qd at es es2
   generalize kD f=KF at kf lf aa1
   generalize kD g=KG at kg lg ab1
   refine ⟨[some (.val (.scr ns)),some (.val (.lst PT)),some (.val (.lst KD)),some (.val (.int cell)),some (.val (.int f)),some (.val (.int g)),some (.val (.int one)),some (.val (.int other)),some (.val (.lst rd))],?_,_,_,_,_,_,_,rfl⟩
   simp [hf,h3,gw,hg,kf,kg,lf,lg,ga1,aa1,gb1,ab1,es,es2,bq,fgp,fc])
 subst hsd1
 generalize ((ns.length:Int)::cs).map D.int=cd at ga e2
 simp [zfD,zke,e1,ek,kz,ftu,ga,e2]
end My
set_option maxHeartbeats 4000000
namespace My
open PySem L2 L2.DL
noncomputable def top (i:Nat):Stmt:=PySem.Challenge.pw_allfirst_k47_the_first_fault_is_told.main.body.getD i (.Pass ⟨0,0,0,0⟩)
structure Mg (mg:Str→Option Value):Prop where
 ValueError_:mg "ValueError" = none
 abs_:mg "abs" = none
 all_:mg "all" = none
 isinstance_:mg "isinstance" = none
 len_:mg "len" = none
 list_:mg "list" = none
 max_:mg "max" = none
 min_:mg "min" = none
 range_:mg "range" = none
 set_:mg "set" = none
 str_:mg "str" = none
 sum_:mg "sum" = none
 tuple_:mg "tuple" = none
section
variable {P:Program}{w:World}{K:PySem.W.Frag}{mg:Str→Option Value}{base:Heap}{f:Addr}{fd:FuncData}
abbrev zeS:Stmt:=zii (top 13) 0
theorem zlw:FnScope ["self", "plans"] ["self", "plans"] (zah zeS):=zba
theorem zmi {C:Addr}(F:Fun K "__init__" "Book.__init__" zeS f fd)(m:Mg mg)(k:ClsD K mg "Book" C ["plans"]):FnOk P w K mg base CX0 1 f fd ["self", "plans"] (SpI K "Book" ["plans"] I_Book):=by
 have sc:=zlw
 refine fn_i (k:=0) (N:=["plans"]) (ps:=["self", "plans"]) (g:=(zab (dBlt zbM (zab (dVar 1) dNil)) dNil)) F sc (by decide) (by decide) fun cdv A outer s H E hr => ?_
 exact (zef k (by decide) (pv 0) (QN.qe (zb0 (x := "list") zcR rfl m.list_ zbV (zaa (zac (pv 1)) zaf))) zkR)
abbrev zeX:Stmt:=zii (top 12) 0
theorem zlX:FnScope ["self", "name", "givens", "rows"] ["self", "name", "givens", "rows"] (zah zeX):=zba
theorem zme {C:Addr}(F:Fun K "__init__" "Plan.__init__" zeX f fd)(m:Mg mg)(k:ClsD K mg "Plan" C ["name", "givens", "rows"]):FnOk P w K mg base CX0 1 f fd ["self", "name", "givens", "rows"] (SpI K "Plan" ["name", "givens", "rows"] I_Plan):=by
 have sc:=zlX
 refine fn_i (k:=0) (N:=["name", "givens", "rows"]) (ps:=["self", "name", "givens", "rows"]) (g:=(zab (dVar 1) (zab (dBlt zbM (zab (dVar 2) dNil)) (zab (dBlt zbM (zab (dVar 3) dNil)) dNil)))) F sc (by decide) (by decide) fun cdv A outer s H E hr => ?_
 exact (zef k (by decide) (pv 0) (zac (pv 1)) (zef k (by decide) (pv 0) (QN.qe (zb0 (x := "list") zcR rfl m.list_ zbV (zaa (zac (pv 2)) zaf))) (zef k (by decide) (pv 0) (QN.qe (zb0 (x := "list") zcR rfl m.list_ zbV (zaa (zac (pv 3)) zaf))) zkR)))
abbrev zm0:Stmt:=top 39
theorem zp2:FnScope ["plans"] ["plans"] (zah zm0):=zba
theorem znc {k:Nat}(F:Fun K "_law_book" "_law_book" zm0 f fd)(m:Mg mg)  (zeS:MkD P w K mg base "Book" ["plans"] 1 ["self", "plans"] I_Book)(zeX:MkD P w K mg base "Plan" ["name", "givens", "rows"] 1 ["self", "name", "givens", "rows"] I_Plan)(h2:2≤k):FnOk P w K mg base CX0 (k+1) f fd ["plans"] (SpN K zgT):=by
 have sc:=zp2
 refine fn_n (N:=["plans"]) (ps:=["plans"]) (g:=zkg) F sc fun cdv A outer s H E hr => ?_
 unfold zkg
 exact (zag (zf9 (zkZ zeS (hr.mono h2) rfl (zaa (QN.qe (zca ["plan"] [none] rfl rfl (zb3 (zac (pv 0))) (fun _ _ _ _ _=>(zaS (pgn 0 (zb7 ["plan"])))) (fun _ _ _ _ _=>(QN.qe (zkZ zeX (hr.mono h2) rfl (zaa (zaB (zay hr) (zac (pv 0)) zad (fun _ _=>rfl) (fun _ _=>rfl)) (zaa (QN.qe (zb0 (x := "list") zcR rfl m.list_ zbV (zaa (zaB (zay hr) (zac (pv 0)) zad (fun _ _=>rfl) (fun _ _=>rfl)) zaf))) (zaa (QN.qe (zb0 (x := "list") zcR rfl m.list_ zbV (zaa (zaB (zay hr) (zac (pv 0)) zad (fun _ _=>rfl) (fun _ _=>rfl)) zaf))) zaf)))))))) zaf))))
abbrev s_z0:Stmt:=top 18
theorem sc_z0:FnScope ["text"] ["text"] (zah s_z0):=zba
theorem ok_z0 {k:Nat}(F:Fun K "is_name" "is_name" s_z0 f fd)(m:Mg mg)  {t_FIGURES:Tok}(w_FIGURES:mg "FIGURES" = some (.str "0123456789" t_FIGURES))(y_KEPT_WORDS:KTup K mg "KEPT_WORDS" ["plan", "given", "all", "first", "part"]){t_LETTERS:Tok}(w_LETTERS:mg "LETTERS" = some (.str "abcdefghijklmnopqrstuvwxyz" t_LETTERS)):FnOk P w K mg base CX0 (k+1) f fd ["text"] (SpD K F_z0):=by
 have sc:=sc_z0
 refine fn_d (N:=["text"]) (ps:=["text"]) (g:=G_z0) F sc fun cdv A outer s H E hr => ?_
 unfold G_z0
 exact (zae (zaM (QW.qt (ziR (zcp (zcm o_le o_le zad (zal (x := "len") zaT rfl m.len_ za3 (zaa (zac (pv 0)) zaf)) zad)) (ziR (znJ (ws:=["plan", "given", "all", "first", "part"]) hr.units y_KEPT_WORDS rfl (zac (pv 0))) (zfN (za5 zp6 (zaB (zay hr) (zac (pv 0)) zad (fun _ _=>rfl) (fun _ _=>rfl)) (zfe w_LETTERS rfl) rfl))))) (zag (za7 zkn)) zao) (zag (za7 (zal (x := "all") (zoH rfl) rfl m.all_ zk6 (zaa (QN.qe (zca ["sign"] [none] rfl rfl (zn1 (zac (pv 0))) (fun _ _ _ _ _=>(zaS (pgn 0 (zb7 ["sign"])))) (fun _ _ _ _ _=>(q_or (zgU zkX (zac (pv 0)) (zfe w_LETTERS rfl) rfl) (znw (zgU zkX (zac (pv 0)) (zfe w_FIGURES rfl) rfl)))))) zaf)))))
abbrev s_z3:Stmt:=top 21
theorem sc_z3:FnScope ["texts"] ["texts"] (zah s_z3):=zba
theorem ok_z3 {k:Nat}(F:Fun K "are_names" "are_names" s_z3 f fd)(m:Mg mg)(c_z0:za2 P w K mg base "is_name" k ["text"] (SpD K F_z0)):FnOk P w K mg base CX0 (k+1) f fd ["texts"] (SpD K F_z3):=by
 have sc:=sc_z3
 refine fn_d (N:=["texts"]) (ps:=["texts"]) (g:=G_z3) F sc fun cdv A outer s H E hr => ?_
 unfold G_z3
 exact (zag (za7 (q_and (zal (x := "all") (zoH rfl) rfl m.all_ zk6 (zaa (QN.qe (zca ["text"] [none] rfl rfl (zb3 (zac (pv 0))) (fun _ _ _ _ _=>(zaS (pgn 0 (zb7 ["text"])))) (fun _ _ _ _ _=>(q_fn c_z0 hr rfl (zaa (zac (pv 0)) zaf))))) zaf)) (znw (zgU (o_eq hr.units) (zoD (fun h=>zgc L2.ST.call_lenK rfl m.len_ za3 (zfu (zdm (L2.ST.call_setK rfl) rfl m.set_ L2.bt_set h) zkW)) (zaa (zac (pv 0)) zaf)) (zal (x := "len") zaT rfl m.len_ za3 (zaa (zac (pv 0)) zaf)) (za1 _))))))
abbrev s_z2:Stmt:=top 20
theorem sc_z2:FnScope ["book", "plan"] ["book"] (zah s_z2):=zba
theorem ok_z2 {k:Nat}(F:Fun K "look_at_names" "look_at_names" s_z2 f fd)(m:Mg mg)(c_z3:za2 P w K mg base "are_names" k ["texts"] (SpD K F_z3)){C_BadName:Addr}(x_BadName:Exc K mg "BadName" C_BadName){D_Book:Addr}(k_Book:ClsD K mg "Book" D_Book ["plans"]){D_Plan:Addr}(k_Plan:ClsD K mg "Plan" D_Plan ["name", "givens", "rows"]):FnOk P w K mg base (CXE P w) (k+1) f fd ["book"] (SpDX K F_z2):=by
 have sc:=sc_z2
 refine zha (N:=["book", "plan"]) (ps:=["book"]) (g:=G_z2) F sc fun cdv A outer s H E hr => ?_
 unfold G_z2
 exact (zae (zaM (zcp (zcr (zlj c_z3 hr rfl (zaa (QN.qe (zca ["plan"] [none] rfl rfl (zb3 (zbP k_Book (by decide) (zac (pv 0)))) (fun _ _ _ _ _=>(zaS (pgn 0 (zb7 ["plan"])))) (fun _ _ _ _ _=>(zbP k_Plan (by decide) (zac (pv 0)))))) zaf)))) (zag (zby zaX x_BadName rfl rfl zas)) zao) (zag (zb6 zbx rfl (zb3 (zbP k_Book (by decide) (zac (pv 0)))) (zaS (zat (i:=1) sc.nd rfl (.inl rfl))) (zag (zaM (zcp (zcr (zlj c_z3 hr rfl (zaa (q_op zaz (zbP k_Plan (by decide) (zac (pv 1))) (QN.qe (zca ["name", "how", "items"] [none,none,none] rfl rfl (zb3 (zbP k_Plan (by decide) (zac (pv 1)))) (fun _ _ _ _ _=>(zcs [0,1,2] (zcq rfl (zar (pgn 0 (zb7 ["name", "how", "items"])) (zar (pgn 1 (zb7 ["name", "how", "items"])) (zar (pgn 2 (zb7 ["name", "how", "items"])) zbI)))))) (fun _ _ _ _ _=>(zac (pv 0)))))) zaf)))) (zag (zby zaX x_BadName rfl rfl zas)) zao)))))
abbrev s_z9:Stmt:=top 27
theorem sc_z9:FnScope ["how"] ["how"] (zah s_z9):=zba
theorem ok_z9 {k:Nat}(F:Fun K "is_part" "is_part" s_z9 f fd)(m:Mg mg)  : FnOk P w K mg base CX0 (k+1) f fd ["how"] (SpD K F_z9):=by
 have sc:=sc_z9
 refine fn_d (N:=["how"]) (ps:=["how"]) (g:=G_z9) F sc fun cdv A outer s H E hr => ?_
 unfold G_z9
 exact (zag (za7 (zm2 hr.units (zac (pv 0)) (zaP (zaa zas (zaa zas zaf))))))
abbrev s_z6:Stmt:=top 24
theorem sc_z6:FnScope ["book", "givens", "plan", "name", "how", "items"] ["book"] (zah s_z6):=zba
theorem ok_z6 {k:Nat}(F:Fun K "look_at_parts" "look_at_parts" s_z6 f fd)(m:Mg mg)(c_z9:za2 P w K mg base "is_part" k ["how"] (SpD K F_z9)){C_BadPart:Addr}(x_BadPart:Exc K mg "BadPart" C_BadPart){D_Book:Addr}(k_Book:ClsD K mg "Book" D_Book ["plans"]){D_Plan:Addr}(k_Plan:ClsD K mg "Plan" D_Plan ["name", "givens", "rows"]):FnOk P w K mg base (CXE P w) (k+1) f fd ["book"] (SpDX K F_z6):=by
 have sc:=sc_z6
 refine zha (N:=["book", "givens", "plan", "name", "how", "items"]) (ps:=["book"]) (g:=G_z6) F sc fun cdv A outer s H E hr => ?_
 unfold G_z6
 exact (zae (zbS (i:=1) sc.nd rfl (.inl rfl) zk7) (zag (zb6 zbx rfl (zb3 (zbP k_Book (by decide) (zac (pv 0)))) (zaS (zat (i:=2) sc.nd rfl (.inl rfl))) (zae (zb6 zbx rfl (zb3 (zbP k_Plan (by decide) (zac (pv 2)))) (zcs [3,4,5] (zcq rfl (zar (zat (i:=3) sc.nd rfl (.inl rfl)) (zar (zat (i:=4) sc.nd rfl (.inl rfl)) (zar (zat (i:=5) sc.nd rfl (.inl rfl)) zbI))))) (zag (zaM (QW.qt (zeC (zcr (zlj c_z9 hr rfl (zaa (zac (pv 4)) zaf))) (zdy (za5 (o_ne hr.units) (zpm [1] (znD (zay hr) (zac (pv 1)) (zac (pv 4)) ⟨rfl,rfl,rfl,rfl⟩)) (zal (x := "len") zaT rfl m.len_ za3 (zaa (zac (pv 5)) zaf)) (za1 _))))) (zag (zby zaX x_BadPart rfl rfl (zeF (zdk (zac (pv 3)) (zcQ zeR))))) zao))) (zag (ziv (zay hr) (pv 1) (zbP k_Plan (by decide) (zac (pv 2))) (zal (x := "len") zaT rfl m.len_ za3 (zaa (zbP k_Plan (by decide) (zac (pv 2))) zaf))))))))
abbrev s_z5:Stmt:=top 23
theorem sc_z5:FnScope ["plan", "ahead", "name", "how", "items", "thing", "wait"] ["plan"] (zah s_z5):=zba
theorem ok_z5 {k:Nat}(F:Fun K "look_at_items" "look_at_items" s_z5 f fd)(m:Mg mg)  {C_BadPlan:Addr}(x_BadPlan:Exc K mg "BadPlan" C_BadPlan){D_Plan:Addr}(k_Plan:ClsD K mg "Plan" D_Plan ["name", "givens", "rows"]):FnOk P w K mg base (CXE P w) (k+1) f fd ["plan"] (SpDX K F_z5):=by
 have sc:=sc_z5
 refine zha (N:=["plan", "ahead", "name", "how", "items", "thing", "wait"]) (ps:=["plan"]) (g:=G_z5) F sc fun cdv A outer s H E hr => ?_
 unfold G_z5
 exact (zae (zan (i:=1) sc.nd rfl (.inl rfl) (zal (x := "len") zaT rfl m.len_ za3 (zaa (zbP k_Plan (by decide) (zac (pv 0))) zaf))) (zag (zb6 zbx rfl (zb3 (zbP k_Plan (by decide) (zac (pv 0)))) (zcs [2,3,4] (zcq rfl (zar (zat (i:=2) sc.nd rfl (.inl rfl)) (zar (zat (i:=3) sc.nd rfl (.inl rfl)) (zar (zat (i:=4) sc.nd rfl (.inl rfl)) zbI))))) (zae (zaM (zcp (zcm o_le o_le zad (zal (x := "len") zaT rfl m.len_ za3 (zaa (zac (pv 4)) zaf)) zad)) (zag (zby zaX x_BadPlan rfl rfl (zeF (zdk (zac (pv 2)) (zcQ zeR))))) zao) (zae (zb6 zbx rfl (zb3 (zac (pv 4))) (zcs [5,6] (zcq rfl (zar (zat (i:=5) sc.nd rfl (.inl rfl)) (zar (zat (i:=6) sc.nd rfl (.inl rfl)) zbI)))) (zae (zaM (zcp (zcm o_le o_lt zad (zac (pv 5)) (zac (pv 1)))) (zag (zby zaX x_BadPlan rfl rfl (zeF (zcQ (zdk (zac (pv 2)) (zcQ zeR)))))) zao) (zag (zaM (za5 o_ge (zal (x := "abs") b_abs rfl m.abs_ znv (zaa (zac (pv 6)) zaf)) (q_op zi7 zad zad) (za1 _)) (zag (zby zaX x_BadPlan rfl rfl (zeF (zcQ (zdk (zac (pv 2)) (zcQ zeR)))))) zao)))) (zag (zpl (i:=1) sc.nd rfl (.inl rfl) zad)))))))
abbrev s_z4:Stmt:=top 22
theorem sc_z4:FnScope ["book", "plan"] ["book"] (zah s_z4):=zba
theorem ok_z4 {k:Nat}(F:Fun K "look_at_plans" "look_at_plans" s_z4 f fd)(m:Mg mg)(c_z5:zbg P w K mg base "look_at_items" k ["plan"] (SpDX K F_z5)){C_BadPlan:Addr}(x_BadPlan:Exc K mg "BadPlan" C_BadPlan){D_Book:Addr}(k_Book:ClsD K mg "Book" D_Book ["plans"]){D_Plan:Addr}(k_Plan:ClsD K mg "Plan" D_Plan ["name", "givens", "rows"]):FnOk P w K mg base (CXE P w) (k+1) f fd ["book"] (SpDX K F_z4):=by
 have sc:=sc_z4
 refine zha (N:=["book", "plan"]) (ps:=["book"]) (g:=G_z4) F sc fun cdv A outer s H E hr => ?_
 unfold G_z4
 exact (zae (zaM (zcp (zcm o_le o_le zad (zal (x := "len") zaT rfl m.len_ za3 (zaa (zbP k_Book (by decide) (zac (pv 0))) zaf)) zad)) (zag (zby zaX x_BadPlan rfl rfl zas)) zao) (zag (zb6 zbx rfl (zb3 (zbP k_Book (by decide) (zac (pv 0)))) (zaS (zat (i:=1) sc.nd rfl (.inl rfl))) (zae (zaM (zcp (zcm o_le o_le zad (zal (x := "len") zaT rfl m.len_ za3 (zaa (zbP k_Plan (by decide) (zac (pv 1))) zaf)) zad)) (zag (zby zaX x_BadPlan rfl rfl zas)) zao) (zae (zaM (zcp (zcm o_le o_le zad (zal (x := "len") zaT rfl m.len_ za3 (zaa (zbP k_Plan (by decide) (zac (pv 1))) zaf)) zad)) (zag (zby zaX x_BadPlan rfl rfl zas)) zao) (zag (zdn (zit c_z5 zbO hr rfl (zaa (zac (pv 1)) zaf)))))))))
abbrev s_z8:Stmt:=top 26
theorem sc_z8:FnScope ["book", "told", "plan", "parts"] ["book"] (zah s_z8):=zba
theorem ok_z8 {k:Nat}(F:Fun K "weights" "weights" s_z8 f fd)(m:Mg mg)(c_z9:za2 P w K mg base "is_part" k ["how"] (SpD K F_z9)){D_Book:Addr}(k_Book:ClsD K mg "Book" D_Book ["plans"]){D_Plan:Addr}(k_Plan:ClsD K mg "Plan" D_Plan ["name", "givens", "rows"]):FnOk P w K mg base CX0 (k+1) f fd ["book"] (SpN K F_z8):=by
 have sc:=sc_z8
 refine fn_n (N:=["book", "told", "plan", "parts"]) (ps:=["book"]) (g:=G_z8) F sc fun cdv A outer s H E hr => ?_
 unfold G_z8
 exact (zae (zbS (i:=1) sc.nd rfl (.inr rfl) zk7) (zae (zb6 PassesOwn.never rfl (zb3 (zbP k_Book (by decide) (zac (pv 0)))) (zaS (zat (i:=2) sc.nd rfl (.inl rfl))) (zae (zeb [1] ["name", "how", "items", "told"] [none,none,none,some 1] sc.nd rfl (.inl rfl) rfl rfl (zb3 (zbP k_Plan (by decide) (zac (pv 2)))) (fun _ _ _ _ _=>(zcs [0,1,2] (zcq rfl (zar (pgn 0 (zb7 ["name", "how", "items", "told"])) (zar (pgn 1 (zb7 ["name", "how", "items", "told"])) (zar (pgn 2 (zb7 ["name", "how", "items", "told"])) zbI)))))) (fun _ _ _ _ _=>(zcr (q_fn c_z9 hr rfl (zaa (zac (pv 1)) zaf)))) (fun _ _ _ _ _=>(zaB (zay hr) (zac (pv 3)) (zac (pv 1)) (fun _ _=>rfl) (fun _ _=>rfl)))) (zag (ziv (zay hr) (pv 1) (zbP k_Plan (by decide) (zac (pv 2))) (q_op zaz (zal (x := "len") zaT rfl m.len_ za3 (zaa (zbP k_Plan (by decide) (zac (pv 2))) zaf)) (zfE [3] (zal (x := "sum") (zni rfl) rfl m.sum_ zkT (zaa (zac (pv 3)) zaf)))))))) (zag (zdr (pv 1)))))
abbrev s_z7:Stmt:=top 25
theorem sc_z7:FnScope ["book", "name", "own"] ["book"] (zah s_z7):=zba
theorem ok_z7 {k:Nat}(F:Fun K "look_at_weights" "look_at_weights" s_z7 f fd)(m:Mg mg)(c_z8:za2 P w K mg base "weights" k ["book"] (SpN K F_z8)){C_TooLong:Addr}(x_TooLong:Exc K mg "TooLong" C_TooLong):FnOk P w K mg base (CXE P w) (k+1) f fd ["book"] (SpDX K F_z7):=by
 have sc:=sc_z7
 refine zha (N:=["book", "name", "own"]) (ps:=["book"]) (g:=G_z7) F sc fun cdv A outer s H E hr => ?_
 unfold G_z7
 exact (zag (zb6 zbx rfl (zkq (zmM c_z8 hr rfl (zaa (zac (pv 0)) zaf))) (zcs [1,2] (zcq rfl (zar (zat (i:=1) sc.nd rfl (.inl rfl)) (zar (zat (i:=2) sc.nd rfl (.inl rfl)) zbI)))) (zag (zaM (za5 o_gt (zac (pv 2)) zad (za1 _)) (zag (zby zaX x_TooLong rfl rfl (zeF (zcQ (zdk (zac (pv 1)) (zcQ zeR)))))) zao))))
abbrev s_z1:Stmt:=top 19
theorem sc_z1:FnScope ["book"] ["book"] (zah s_z1):=zba
theorem ok_z1 {k:Nat}(F:Fun K "looked" "looked" s_z1 f fd)(m:Mg mg)(c_z2:zbg P w K mg base "look_at_names" k ["book"] (SpDX K F_z2))(c_z6:zbg P w K mg base "look_at_parts" k ["book"] (SpDX K F_z6))(c_z4:zbg P w K mg base "look_at_plans" k ["book"] (SpDX K F_z4))(c_z7:zbg P w K mg base "look_at_weights" k ["book"] (SpDX K F_z7)):FnOk P w K mg base (CXE P w) (k+1) f fd ["book"] (SpDX K F_z1):=by
 have sc:=sc_z1
 refine zha (N:=["book"]) (ps:=["book"]) (g:=G_z1) F sc fun cdv A outer s H E hr => ?_
 unfold G_z1
 exact (zae (zdn (zit c_z2 zbO hr rfl (zaa (zac (pv 0)) zaf))) (zae (zdn (zit c_z4 zbO hr rfl (zaa (zac (pv 0)) zaf))) (zae (zdn (zit c_z6 zbO hr rfl (zaa (zac (pv 0)) zaf))) (zag (zdn (zit c_z7 zbO hr rfl (zaa (zac (pv 0)) zaf)))))))
abbrev zlI:Stmt:=top 50
theorem zoe:FnScope ["book", "group", "caught", "e", "marks"] ["book", "group"] (zah zlI):=zba
theorem zne {k:Nat}(F:Fun K "_law_caught" "_law_caught" zlI f fd)(m:Mg mg)(c_z1:zbg P w K mg base "looked" k ["book"] (SpDX K F_z1)){C_AllError:Addr}(x_AllError:Exc K mg "AllError" C_AllError){C_BadName:Addr}(x_BadName:Exc K mg "BadName" C_BadName){C_BadPart:Addr}(x_BadPart:Exc K mg "BadPart" C_BadPart){C_BadPlan:Addr}(x_BadPlan:Exc K mg "BadPlan" C_BadPlan){C_TooLong:Addr}(x_TooLong:Exc K mg "TooLong" C_TooLong){U_BadName:Addr}(o_BadName:Ucl K mg "BadName" U_BadName){U_BadPart:Addr}(o_BadPart:Ucl K mg "BadPart" U_BadPart){U_BadPlan:Addr}(o_BadPlan:Ucl K mg "BadPlan" U_BadPlan){U_BadRow:Addr}(o_BadRow:Ucl K mg "BadRow" U_BadRow){U_NoName:Addr}(o_NoName:Ucl K mg "NoName" U_NoName){U_NoPlan:Addr}(o_NoPlan:Ucl K mg "NoPlan" U_NoPlan){U_TooLong:Addr}(o_TooLong:Ucl K mg "TooLong" U_TooLong){U_TooMany:Addr}(o_TooMany:Ucl K mg "TooMany" U_TooMany){U_Unlike:Addr}(o_Unlike:Ucl K mg "Unlike" U_Unlike)(e_BadName:ExcCl K C_BadName)(e_BadPart:ExcCl K C_BadPart)(e_BadPlan:ExcCl K C_BadPlan)(e_TooLong:ExcCl K C_TooLong)(n_BadName_BadPart:NoSub K C_BadName U_BadPart)(n_BadName_BadPlan:NoSub K C_BadName U_BadPlan)(n_BadName_BadRow:NoSub K C_BadName U_BadRow)(n_BadName_NoName:NoSub K C_BadName U_NoName)(n_BadName_NoPlan:NoSub K C_BadName U_NoPlan)(n_BadName_TooLong:NoSub K C_BadName U_TooLong)(n_BadName_TooMany:NoSub K C_BadName U_TooMany)(n_BadName_Unlike:NoSub K C_BadName U_Unlike)(n_BadPart_BadName:NoSub K C_BadPart U_BadName)(n_BadPart_BadPlan:NoSub K C_BadPart U_BadPlan)(n_BadPart_BadRow:NoSub K C_BadPart U_BadRow)(n_BadPart_NoName:NoSub K C_BadPart U_NoName)(n_BadPart_NoPlan:NoSub K C_BadPart U_NoPlan)(n_BadPart_TooLong:NoSub K C_BadPart U_TooLong)(n_BadPart_TooMany:NoSub K C_BadPart U_TooMany)(n_BadPart_Unlike:NoSub K C_BadPart U_Unlike)(n_BadPlan_BadName:NoSub K C_BadPlan U_BadName)(n_BadPlan_BadPart:NoSub K C_BadPlan U_BadPart)(n_BadPlan_BadRow:NoSub K C_BadPlan U_BadRow)(n_BadPlan_NoName:NoSub K C_BadPlan U_NoName)(n_BadPlan_NoPlan:NoSub K C_BadPlan U_NoPlan)(n_BadPlan_TooLong:NoSub K C_BadPlan U_TooLong)(n_BadPlan_TooMany:NoSub K C_BadPlan U_TooMany)(n_BadPlan_Unlike:NoSub K C_BadPlan U_Unlike)(n_TooLong_BadName:NoSub K C_TooLong U_BadName)(n_TooLong_BadPart:NoSub K C_TooLong U_BadPart)(n_TooLong_BadPlan:NoSub K C_TooLong U_BadPlan)(n_TooLong_BadRow:NoSub K C_TooLong U_BadRow)(n_TooLong_NoName:NoSub K C_TooLong U_NoName)(n_TooLong_NoPlan:NoSub K C_TooLong U_NoPlan)(n_TooLong_TooMany:NoSub K C_TooLong U_TooMany)(n_TooLong_Unlike:NoSub K C_TooLong U_Unlike)(u_BadName_AllError:PySem.W.subIn K (.ref C_BadName) (.ref C_AllError)=some true)(u_BadPart_AllError:PySem.W.subIn K (.ref C_BadPart) (.ref C_AllError)=some true)(u_BadPlan_AllError:PySem.W.subIn K (.ref C_BadPlan) (.ref C_AllError)=some true)(u_TooLong_AllError:PySem.W.subIn K (.ref C_TooLong) (.ref C_AllError)=some true)(v_BadName:PySem.W.subIn K (.ref C_BadName) (.type "ValueError")=some true)(v_BadPart:PySem.W.subIn K (.ref C_BadPart) (.type "ValueError")=some true)(v_BadPlan:PySem.W.subIn K (.ref C_BadPlan) (.type "ValueError")=some true)(v_TooLong:PySem.W.subIn K (.ref C_TooLong) (.type "ValueError")=some true):FnOk P w K mg base CX0 (k+1) f fd ["book", "group"] (SpD K zgI):=by
 have sc:=zoe
 refine fn_d (N:=["book", "group", "caught", "e", "marks"]) (ps:=["book", "group"]) (g:=zjp) F sc fun cdv A outer s H E hr => ?_
 unfold zjp
 exact (zae (zan (i:=2) sc.nd rfl (.inl rfl) zpk) (zae (zkf (j:=3) (cs:=["BadName", "BadPart", "BadPlan", "TooLong"]) rfl rfl rfl (zlk c_z1 hr rfl (zaa (zac (pv 0)) zaf)) x_AllError rfl sc.nd rfl rfl (fun _=>(zag (zan (i:=2) sc.nd rfl (.inl rfl) (zac (pv 3))))) (fun c' h=>by rcases List.mem_cons.mp h with rfl|h;(exact ⟨_,x_BadName.ns,u_BadName_AllError⟩);rcases List.mem_cons.mp h with rfl|h;(exact ⟨_,x_BadPart.ns,u_BadPart_AllError⟩);rcases List.mem_cons.mp h with rfl|h;(exact ⟨_,x_BadPlan.ns,u_BadPlan_AllError⟩);rcases List.mem_cons.mp h with rfl|h;(exact ⟨_,x_TooLong.ns,u_TooLong_AllError⟩);(first|exact zqn h|exact zqb h|(obtain rfl:=Option.some.inj h)|cases h))) (zae (zbS (i:=4) sc.nd rfl (.inl rfl) (zaW (zaa (zal (x := "isinstance") (zgb (cs:=["BadName", "BadPart", "BadPlan", "TooLong"]) (us:=["BadName", "BadPlan", "BadPart", "TooLong"]) (fun c' h C hC=>by rcases List.mem_cons.mp h with rfl|h;(have hC:=x_BadName.ns.symm.trans hC;cases hC;exact e_BadName);rcases List.mem_cons.mp h with rfl|h;(have hC:=x_BadPart.ns.symm.trans hC;cases hC;exact e_BadPart);rcases List.mem_cons.mp h with rfl|h;(have hC:=x_BadPlan.ns.symm.trans hC;cases hC;exact e_BadPlan);rcases List.mem_cons.mp h with rfl|h;(have hC:=x_TooLong.ns.symm.trans hC;cases hC;exact e_TooLong);(first|exact zqn h|exact zqb h|(obtain rfl:=Option.some.inj h)|cases h)) (fun c' h C hC u hu U hU=>by rcases List.mem_cons.mp h with rfl|h;(have hC:=x_BadName.ns.symm.trans hC;cases hC;rcases List.mem_cons.mp hu with rfl|hu;(have hU:=o_BadName.ns.symm.trans hU;cases hU;(have hz:=x_BadName.ns.symm.trans o_BadName.ns;cases hz;exact zaR));rcases List.mem_cons.mp hu with rfl|hu;(have hU:=o_BadPlan.ns.symm.trans hU;cases hU;exact n_BadName_BadPlan.one);rcases List.mem_cons.mp hu with rfl|hu;(have hU:=o_BadPart.ns.symm.trans hU;cases hU;exact n_BadName_BadPart.one);rcases List.mem_cons.mp hu with rfl|hu;(have hU:=o_TooLong.ns.symm.trans hU;cases hU;exact n_BadName_TooLong.one);(first|exact zqn hu|exact zqb hu|(obtain rfl:=Option.some.inj hu)|cases hu));rcases List.mem_cons.mp h with rfl|h;(have hC:=x_BadPart.ns.symm.trans hC;cases hC;rcases List.mem_cons.mp hu with rfl|hu;(have hU:=o_BadName.ns.symm.trans hU;cases hU;exact n_BadPart_BadName.one);rcases List.mem_cons.mp hu with rfl|hu;(have hU:=o_BadPlan.ns.symm.trans hU;cases hU;exact n_BadPart_BadPlan.one);rcases List.mem_cons.mp hu with rfl|hu;(have hU:=o_BadPart.ns.symm.trans hU;cases hU;(have hz:=x_BadPart.ns.symm.trans o_BadPart.ns;cases hz;exact zaR));rcases List.mem_cons.mp hu with rfl|hu;(have hU:=o_TooLong.ns.symm.trans hU;cases hU;exact n_BadPart_TooLong.one);(first|exact zqn hu|exact zqb hu|(obtain rfl:=Option.some.inj hu)|cases hu));rcases List.mem_cons.mp h with rfl|h;(have hC:=x_BadPlan.ns.symm.trans hC;cases hC;rcases List.mem_cons.mp hu with rfl|hu;(have hU:=o_BadName.ns.symm.trans hU;cases hU;exact n_BadPlan_BadName.one);rcases List.mem_cons.mp hu with rfl|hu;(have hU:=o_BadPlan.ns.symm.trans hU;cases hU;(have hz:=x_BadPlan.ns.symm.trans o_BadPlan.ns;cases hz;exact zaR));rcases List.mem_cons.mp hu with rfl|hu;(have hU:=o_BadPart.ns.symm.trans hU;cases hU;exact n_BadPlan_BadPart.one);rcases List.mem_cons.mp hu with rfl|hu;(have hU:=o_TooLong.ns.symm.trans hU;cases hU;exact n_BadPlan_TooLong.one);(first|exact zqn hu|exact zqb hu|(obtain rfl:=Option.some.inj hu)|cases hu));rcases List.mem_cons.mp h with rfl|h;(have hC:=x_TooLong.ns.symm.trans hC;cases hC;rcases List.mem_cons.mp hu with rfl|hu;(have hU:=o_BadName.ns.symm.trans hU;cases hU;exact n_TooLong_BadName.one);rcases List.mem_cons.mp hu with rfl|hu;(have hU:=o_BadPlan.ns.symm.trans hU;cases hU;exact n_TooLong_BadPlan.one);rcases List.mem_cons.mp hu with rfl|hu;(have hU:=o_BadPart.ns.symm.trans hU;cases hU;exact n_TooLong_BadPart.one);rcases List.mem_cons.mp hu with rfl|hu;(have hU:=o_TooLong.ns.symm.trans hU;cases hU;(have hz:=x_TooLong.ns.symm.trans o_TooLong.ns;cases hz;exact zaR));(first|exact zqn hu|exact zqb hu|(obtain rfl:=Option.some.inj hu)|cases hu));(first|exact zqn h|exact zqb h|(obtain rfl:=Option.some.inj h)|cases h))) rfl m.isinstance_ zbb (zaa (zac (pv 2)) (zaa (zc7 o_BadName.ns o_BadName.mgc rfl) zaf))) (zaa (zal (x := "isinstance") (zgb (cs:=["BadName", "BadPart", "BadPlan", "TooLong"]) (us:=["BadName", "BadPlan", "BadPart", "TooLong"]) (fun c' h C hC=>by rcases List.mem_cons.mp h with rfl|h;(have hC:=x_BadName.ns.symm.trans hC;cases hC;exact e_BadName);rcases List.mem_cons.mp h with rfl|h;(have hC:=x_BadPart.ns.symm.trans hC;cases hC;exact e_BadPart);rcases List.mem_cons.mp h with rfl|h;(have hC:=x_BadPlan.ns.symm.trans hC;cases hC;exact e_BadPlan);rcases List.mem_cons.mp h with rfl|h;(have hC:=x_TooLong.ns.symm.trans hC;cases hC;exact e_TooLong);(first|exact zqn h|exact zqb h|(obtain rfl:=Option.some.inj h)|cases h)) (fun c' h C hC u hu U hU=>by rcases List.mem_cons.mp h with rfl|h;(have hC:=x_BadName.ns.symm.trans hC;cases hC;rcases List.mem_cons.mp hu with rfl|hu;(have hU:=o_BadName.ns.symm.trans hU;cases hU;(have hz:=x_BadName.ns.symm.trans o_BadName.ns;cases hz;exact zaR));rcases List.mem_cons.mp hu with rfl|hu;(have hU:=o_BadPlan.ns.symm.trans hU;cases hU;exact n_BadName_BadPlan.one);rcases List.mem_cons.mp hu with rfl|hu;(have hU:=o_BadPart.ns.symm.trans hU;cases hU;exact n_BadName_BadPart.one);rcases List.mem_cons.mp hu with rfl|hu;(have hU:=o_TooLong.ns.symm.trans hU;cases hU;exact n_BadName_TooLong.one);(first|exact zqn hu|exact zqb hu|(obtain rfl:=Option.some.inj hu)|cases hu));rcases List.mem_cons.mp h with rfl|h;(have hC:=x_BadPart.ns.symm.trans hC;cases hC;rcases List.mem_cons.mp hu with rfl|hu;(have hU:=o_BadName.ns.symm.trans hU;cases hU;exact n_BadPart_BadName.one);rcases List.mem_cons.mp hu with rfl|hu;(have hU:=o_BadPlan.ns.symm.trans hU;cases hU;exact n_BadPart_BadPlan.one);rcases List.mem_cons.mp hu with rfl|hu;(have hU:=o_BadPart.ns.symm.trans hU;cases hU;(have hz:=x_BadPart.ns.symm.trans o_BadPart.ns;cases hz;exact zaR));rcases List.mem_cons.mp hu with rfl|hu;(have hU:=o_TooLong.ns.symm.trans hU;cases hU;exact n_BadPart_TooLong.one);(first|exact zqn hu|exact zqb hu|(obtain rfl:=Option.some.inj hu)|cases hu));rcases List.mem_cons.mp h with rfl|h;(have hC:=x_BadPlan.ns.symm.trans hC;cases hC;rcases List.mem_cons.mp hu with rfl|hu;(have hU:=o_BadName.ns.symm.trans hU;cases hU;exact n_BadPlan_BadName.one);rcases List.mem_cons.mp hu with rfl|hu;(have hU:=o_BadPlan.ns.symm.trans hU;cases hU;(have hz:=x_BadPlan.ns.symm.trans o_BadPlan.ns;cases hz;exact zaR));rcases List.mem_cons.mp hu with rfl|hu;(have hU:=o_BadPart.ns.symm.trans hU;cases hU;exact n_BadPlan_BadPart.one);rcases List.mem_cons.mp hu with rfl|hu;(have hU:=o_TooLong.ns.symm.trans hU;cases hU;exact n_BadPlan_TooLong.one);(first|exact zqn hu|exact zqb hu|(obtain rfl:=Option.some.inj hu)|cases hu));rcases List.mem_cons.mp h with rfl|h;(have hC:=x_TooLong.ns.symm.trans hC;cases hC;rcases List.mem_cons.mp hu with rfl|hu;(have hU:=o_BadName.ns.symm.trans hU;cases hU;exact n_TooLong_BadName.one);rcases List.mem_cons.mp hu with rfl|hu;(have hU:=o_BadPlan.ns.symm.trans hU;cases hU;exact n_TooLong_BadPlan.one);rcases List.mem_cons.mp hu with rfl|hu;(have hU:=o_BadPart.ns.symm.trans hU;cases hU;exact n_TooLong_BadPart.one);rcases List.mem_cons.mp hu with rfl|hu;(have hU:=o_TooLong.ns.symm.trans hU;cases hU;(have hz:=x_TooLong.ns.symm.trans o_TooLong.ns;cases hz;exact zaR));(first|exact zqn hu|exact zqb hu|(obtain rfl:=Option.some.inj hu)|cases hu));(first|exact zqn h|exact zqb h|(obtain rfl:=Option.some.inj h)|cases h))) rfl m.isinstance_ zbb (zaa (zac (pv 2)) (zaa (zc7 o_BadPlan.ns o_BadPlan.mgc rfl) zaf))) (zaa (zal (x := "isinstance") (zgb (cs:=["BadName", "BadPart", "BadPlan", "TooLong"]) (us:=["BadName", "BadPlan", "BadPart", "TooLong"]) (fun c' h C hC=>by rcases List.mem_cons.mp h with rfl|h;(have hC:=x_BadName.ns.symm.trans hC;cases hC;exact e_BadName);rcases List.mem_cons.mp h with rfl|h;(have hC:=x_BadPart.ns.symm.trans hC;cases hC;exact e_BadPart);rcases List.mem_cons.mp h with rfl|h;(have hC:=x_BadPlan.ns.symm.trans hC;cases hC;exact e_BadPlan);rcases List.mem_cons.mp h with rfl|h;(have hC:=x_TooLong.ns.symm.trans hC;cases hC;exact e_TooLong);(first|exact zqn h|exact zqb h|(obtain rfl:=Option.some.inj h)|cases h)) (fun c' h C hC u hu U hU=>by rcases List.mem_cons.mp h with rfl|h;(have hC:=x_BadName.ns.symm.trans hC;cases hC;rcases List.mem_cons.mp hu with rfl|hu;(have hU:=o_BadName.ns.symm.trans hU;cases hU;(have hz:=x_BadName.ns.symm.trans o_BadName.ns;cases hz;exact zaR));rcases List.mem_cons.mp hu with rfl|hu;(have hU:=o_BadPlan.ns.symm.trans hU;cases hU;exact n_BadName_BadPlan.one);rcases List.mem_cons.mp hu with rfl|hu;(have hU:=o_BadPart.ns.symm.trans hU;cases hU;exact n_BadName_BadPart.one);rcases List.mem_cons.mp hu with rfl|hu;(have hU:=o_TooLong.ns.symm.trans hU;cases hU;exact n_BadName_TooLong.one);(first|exact zqn hu|exact zqb hu|(obtain rfl:=Option.some.inj hu)|cases hu));rcases List.mem_cons.mp h with rfl|h;(have hC:=x_BadPart.ns.symm.trans hC;cases hC;rcases List.mem_cons.mp hu with rfl|hu;(have hU:=o_BadName.ns.symm.trans hU;cases hU;exact n_BadPart_BadName.one);rcases List.mem_cons.mp hu with rfl|hu;(have hU:=o_BadPlan.ns.symm.trans hU;cases hU;exact n_BadPart_BadPlan.one);rcases List.mem_cons.mp hu with rfl|hu;(have hU:=o_BadPart.ns.symm.trans hU;cases hU;(have hz:=x_BadPart.ns.symm.trans o_BadPart.ns;cases hz;exact zaR));rcases List.mem_cons.mp hu with rfl|hu;(have hU:=o_TooLong.ns.symm.trans hU;cases hU;exact n_BadPart_TooLong.one);(first|exact zqn hu|exact zqb hu|(obtain rfl:=Option.some.inj hu)|cases hu));rcases List.mem_cons.mp h with rfl|h;(have hC:=x_BadPlan.ns.symm.trans hC;cases hC;rcases List.mem_cons.mp hu with rfl|hu;(have hU:=o_BadName.ns.symm.trans hU;cases hU;exact n_BadPlan_BadName.one);rcases List.mem_cons.mp hu with rfl|hu;(have hU:=o_BadPlan.ns.symm.trans hU;cases hU;(have hz:=x_BadPlan.ns.symm.trans o_BadPlan.ns;cases hz;exact zaR));rcases List.mem_cons.mp hu with rfl|hu;(have hU:=o_BadPart.ns.symm.trans hU;cases hU;exact n_BadPlan_BadPart.one);rcases List.mem_cons.mp hu with rfl|hu;(have hU:=o_TooLong.ns.symm.trans hU;cases hU;exact n_BadPlan_TooLong.one);(first|exact zqn hu|exact zqb hu|(obtain rfl:=Option.some.inj hu)|cases hu));rcases List.mem_cons.mp h with rfl|h;(have hC:=x_TooLong.ns.symm.trans hC;cases hC;rcases List.mem_cons.mp hu with rfl|hu;(have hU:=o_BadName.ns.symm.trans hU;cases hU;exact n_TooLong_BadName.one);rcases List.mem_cons.mp hu with rfl|hu;(have hU:=o_BadPlan.ns.symm.trans hU;cases hU;exact n_TooLong_BadPlan.one);rcases List.mem_cons.mp hu with rfl|hu;(have hU:=o_BadPart.ns.symm.trans hU;cases hU;exact n_TooLong_BadPart.one);rcases List.mem_cons.mp hu with rfl|hu;(have hU:=o_TooLong.ns.symm.trans hU;cases hU;(have hz:=x_TooLong.ns.symm.trans o_TooLong.ns;cases hz;exact zaR));(first|exact zqn hu|exact zqb hu|(obtain rfl:=Option.some.inj hu)|cases hu));(first|exact zqn h|exact zqb h|(obtain rfl:=Option.some.inj h)|cases h))) rfl m.isinstance_ zbb (zaa (zac (pv 2)) (zaa (zc7 o_BadPart.ns o_BadPart.mgc rfl) zaf))) zaf))))) (zae (zbL (pv 4) (zal (x := "isinstance") (zgb (cs:=["BadName", "BadPart", "BadPlan", "TooLong"]) (us:=["BadName", "BadPlan", "BadPart", "TooLong"]) (fun c' h C hC=>by rcases List.mem_cons.mp h with rfl|h;(have hC:=x_BadName.ns.symm.trans hC;cases hC;exact e_BadName);rcases List.mem_cons.mp h with rfl|h;(have hC:=x_BadPart.ns.symm.trans hC;cases hC;exact e_BadPart);rcases List.mem_cons.mp h with rfl|h;(have hC:=x_BadPlan.ns.symm.trans hC;cases hC;exact e_BadPlan);rcases List.mem_cons.mp h with rfl|h;(have hC:=x_TooLong.ns.symm.trans hC;cases hC;exact e_TooLong);(first|exact zqn h|exact zqb h|(obtain rfl:=Option.some.inj h)|cases h)) (fun c' h C hC u hu U hU=>by rcases List.mem_cons.mp h with rfl|h;(have hC:=x_BadName.ns.symm.trans hC;cases hC;rcases List.mem_cons.mp hu with rfl|hu;(have hU:=o_BadName.ns.symm.trans hU;cases hU;(have hz:=x_BadName.ns.symm.trans o_BadName.ns;cases hz;exact zaR));rcases List.mem_cons.mp hu with rfl|hu;(have hU:=o_BadPlan.ns.symm.trans hU;cases hU;exact n_BadName_BadPlan.one);rcases List.mem_cons.mp hu with rfl|hu;(have hU:=o_BadPart.ns.symm.trans hU;cases hU;exact n_BadName_BadPart.one);rcases List.mem_cons.mp hu with rfl|hu;(have hU:=o_TooLong.ns.symm.trans hU;cases hU;exact n_BadName_TooLong.one);(first|exact zqn hu|exact zqb hu|(obtain rfl:=Option.some.inj hu)|cases hu));rcases List.mem_cons.mp h with rfl|h;(have hC:=x_BadPart.ns.symm.trans hC;cases hC;rcases List.mem_cons.mp hu with rfl|hu;(have hU:=o_BadName.ns.symm.trans hU;cases hU;exact n_BadPart_BadName.one);rcases List.mem_cons.mp hu with rfl|hu;(have hU:=o_BadPlan.ns.symm.trans hU;cases hU;exact n_BadPart_BadPlan.one);rcases List.mem_cons.mp hu with rfl|hu;(have hU:=o_BadPart.ns.symm.trans hU;cases hU;(have hz:=x_BadPart.ns.symm.trans o_BadPart.ns;cases hz;exact zaR));rcases List.mem_cons.mp hu with rfl|hu;(have hU:=o_TooLong.ns.symm.trans hU;cases hU;exact n_BadPart_TooLong.one);(first|exact zqn hu|exact zqb hu|(obtain rfl:=Option.some.inj hu)|cases hu));rcases List.mem_cons.mp h with rfl|h;(have hC:=x_BadPlan.ns.symm.trans hC;cases hC;rcases List.mem_cons.mp hu with rfl|hu;(have hU:=o_BadName.ns.symm.trans hU;cases hU;exact n_BadPlan_BadName.one);rcases List.mem_cons.mp hu with rfl|hu;(have hU:=o_BadPlan.ns.symm.trans hU;cases hU;(have hz:=x_BadPlan.ns.symm.trans o_BadPlan.ns;cases hz;exact zaR));rcases List.mem_cons.mp hu with rfl|hu;(have hU:=o_BadPart.ns.symm.trans hU;cases hU;exact n_BadPlan_BadPart.one);rcases List.mem_cons.mp hu with rfl|hu;(have hU:=o_TooLong.ns.symm.trans hU;cases hU;exact n_BadPlan_TooLong.one);(first|exact zqn hu|exact zqb hu|(obtain rfl:=Option.some.inj hu)|cases hu));rcases List.mem_cons.mp h with rfl|h;(have hC:=x_TooLong.ns.symm.trans hC;cases hC;rcases List.mem_cons.mp hu with rfl|hu;(have hU:=o_BadName.ns.symm.trans hU;cases hU;exact n_TooLong_BadName.one);rcases List.mem_cons.mp hu with rfl|hu;(have hU:=o_BadPlan.ns.symm.trans hU;cases hU;exact n_TooLong_BadPlan.one);rcases List.mem_cons.mp hu with rfl|hu;(have hU:=o_BadPart.ns.symm.trans hU;cases hU;exact n_TooLong_BadPart.one);rcases List.mem_cons.mp hu with rfl|hu;(have hU:=o_TooLong.ns.symm.trans hU;cases hU;(have hz:=x_TooLong.ns.symm.trans o_TooLong.ns;cases hz;exact zaR));(first|exact zqn hu|exact zqb hu|(obtain rfl:=Option.some.inj hu)|cases hu));(first|exact zqn h|exact zqb h|(obtain rfl:=Option.some.inj h)|cases h))) rfl m.isinstance_ zbb (zaa (zac (pv 2)) (zaa (zc7 o_TooLong.ns o_TooLong.mgc rfl) zaf))) (fun h1 h2=>zgB PySem.F.plainAttrs_list PySem.F.slot_list_append PySem.F.type_list_append zbJ h1 h2)) (zae (zaM (QW.qt (ziR (zcr (zal (x := "isinstance") (zl2 (cs:=["BadName", "BadPart", "BadPlan", "TooLong"]) (us:=["NoPlan", "TooMany", "Unlike", "BadRow", "NoName"]) (fun c' h C hC=>by rcases List.mem_cons.mp h with rfl|h;(have hC:=x_BadName.ns.symm.trans hC;cases hC;exact e_BadName);rcases List.mem_cons.mp h with rfl|h;(have hC:=x_BadPart.ns.symm.trans hC;cases hC;exact e_BadPart);rcases List.mem_cons.mp h with rfl|h;(have hC:=x_BadPlan.ns.symm.trans hC;cases hC;exact e_BadPlan);rcases List.mem_cons.mp h with rfl|h;(have hC:=x_TooLong.ns.symm.trans hC;cases hC;exact e_TooLong);(first|exact zqn h|exact zqb h|(obtain rfl:=Option.some.inj h)|cases h)) (fun c' h C hC u hu U hU=>by rcases List.mem_cons.mp h with rfl|h;(have hC:=x_BadName.ns.symm.trans hC;cases hC;rcases List.mem_cons.mp hu with rfl|hu;(have hU:=o_NoPlan.ns.symm.trans hU;cases hU;exact n_BadName_NoPlan.one);rcases List.mem_cons.mp hu with rfl|hu;(have hU:=o_TooMany.ns.symm.trans hU;cases hU;exact n_BadName_TooMany.one);rcases List.mem_cons.mp hu with rfl|hu;(have hU:=o_Unlike.ns.symm.trans hU;cases hU;exact n_BadName_Unlike.one);rcases List.mem_cons.mp hu with rfl|hu;(have hU:=o_BadRow.ns.symm.trans hU;cases hU;exact n_BadName_BadRow.one);rcases List.mem_cons.mp hu with rfl|hu;(have hU:=o_NoName.ns.symm.trans hU;cases hU;exact n_BadName_NoName.one);(first|exact zqn hu|exact zqb hu|(obtain rfl:=Option.some.inj hu)|cases hu));rcases List.mem_cons.mp h with rfl|h;(have hC:=x_BadPart.ns.symm.trans hC;cases hC;rcases List.mem_cons.mp hu with rfl|hu;(have hU:=o_NoPlan.ns.symm.trans hU;cases hU;exact n_BadPart_NoPlan.one);rcases List.mem_cons.mp hu with rfl|hu;(have hU:=o_TooMany.ns.symm.trans hU;cases hU;exact n_BadPart_TooMany.one);rcases List.mem_cons.mp hu with rfl|hu;(have hU:=o_Unlike.ns.symm.trans hU;cases hU;exact n_BadPart_Unlike.one);rcases List.mem_cons.mp hu with rfl|hu;(have hU:=o_BadRow.ns.symm.trans hU;cases hU;exact n_BadPart_BadRow.one);rcases List.mem_cons.mp hu with rfl|hu;(have hU:=o_NoName.ns.symm.trans hU;cases hU;exact n_BadPart_NoName.one);(first|exact zqn hu|exact zqb hu|(obtain rfl:=Option.some.inj hu)|cases hu));rcases List.mem_cons.mp h with rfl|h;(have hC:=x_BadPlan.ns.symm.trans hC;cases hC;rcases List.mem_cons.mp hu with rfl|hu;(have hU:=o_NoPlan.ns.symm.trans hU;cases hU;exact n_BadPlan_NoPlan.one);rcases List.mem_cons.mp hu with rfl|hu;(have hU:=o_TooMany.ns.symm.trans hU;cases hU;exact n_BadPlan_TooMany.one);rcases List.mem_cons.mp hu with rfl|hu;(have hU:=o_Unlike.ns.symm.trans hU;cases hU;exact n_BadPlan_Unlike.one);rcases List.mem_cons.mp hu with rfl|hu;(have hU:=o_BadRow.ns.symm.trans hU;cases hU;exact n_BadPlan_BadRow.one);rcases List.mem_cons.mp hu with rfl|hu;(have hU:=o_NoName.ns.symm.trans hU;cases hU;exact n_BadPlan_NoName.one);(first|exact zqn hu|exact zqb hu|(obtain rfl:=Option.some.inj hu)|cases hu));rcases List.mem_cons.mp h with rfl|h;(have hC:=x_TooLong.ns.symm.trans hC;cases hC;rcases List.mem_cons.mp hu with rfl|hu;(have hU:=o_NoPlan.ns.symm.trans hU;cases hU;exact n_TooLong_NoPlan.one);rcases List.mem_cons.mp hu with rfl|hu;(have hU:=o_TooMany.ns.symm.trans hU;cases hU;exact n_TooLong_TooMany.one);rcases List.mem_cons.mp hu with rfl|hu;(have hU:=o_Unlike.ns.symm.trans hU;cases hU;exact n_TooLong_Unlike.one);rcases List.mem_cons.mp hu with rfl|hu;(have hU:=o_BadRow.ns.symm.trans hU;cases hU;exact n_TooLong_BadRow.one);rcases List.mem_cons.mp hu with rfl|hu;(have hU:=o_NoName.ns.symm.trans hU;cases hU;exact n_TooLong_NoName.one);(first|exact zqn hu|exact zqb hu|(obtain rfl:=Option.some.inj hu)|cases hu));(first|exact zqn h|exact zqb h|(obtain rfl:=Option.some.inj h)|cases h))) rfl m.isinstance_ zbb (zaa (zac (pv 2)) (zaa (zaP (zaa (zc7 o_NoPlan.ns o_NoPlan.mgc rfl) (zaa (zc7 o_TooMany.ns o_TooMany.mgc rfl) (zaa (zc7 o_Unlike.ns o_Unlike.mgc rfl) (zaa (zc7 o_BadRow.ns o_BadRow.mgc rfl) (zaa (zc7 o_NoName.ns o_NoName.mgc rfl) zaf)))))) zaf)))) (zfN (zcp (zcr (zal (x := "isinstance") (zpd (cs:=["BadName", "BadPart", "BadPlan", "TooLong"]) (fun c' h C hC=>by rcases List.mem_cons.mp h with rfl|h;(have hC:=x_BadName.ns.symm.trans hC;cases hC;exact v_BadName);rcases List.mem_cons.mp h with rfl|h;(have hC:=x_BadPart.ns.symm.trans hC;cases hC;exact v_BadPart);rcases List.mem_cons.mp h with rfl|h;(have hC:=x_BadPlan.ns.symm.trans hC;cases hC;exact v_BadPlan);rcases List.mem_cons.mp h with rfl|h;(have hC:=x_TooLong.ns.symm.trans hC;cases hC;exact v_TooLong);(first|exact zqn h|exact zqb h|(obtain rfl:=Option.some.inj h)|cases h))) rfl m.isinstance_ zbb (zaa (zac (pv 2)) (zaa (qc_ty (n := "ValueError") (x := "ValueError") rfl m.ValueError_ zea rfl) zaf)))))))) (zag (za7 zkn)) zao) (zag (za7 (zfE [4] (zgU (o_eqB hr.units) (zac (pv 4)) (QN.qe (zca ["k", "group"] [none,some 1] rfl rfl (zaL rfl m.range_ (zaa zad zaf)) (fun _ _ _ _ _=>(zaS (pgn 0 (zb7 ["k", "group"])))) (fun _ _ _ _ _=>(zgU (o_eq hr.units) (zac (pv 0)) (zac (pv 1)) (za1 _))))) (za1 _))))))))))
abbrev zlY:Stmt:=top 49
theorem zoa:FnScope ["kind"] ["kind"] (zah zlY):=zba
theorem zny {k:Nat}(F:Fun K "_law_group" "_law_group" zlY f fd)(m:Mg mg)  : FnOk P w K mg base CX0 (k+1) f fd ["kind"] (SpD K zdC):=by
 have sc:=zoa
 refine fn_d (N:=["kind"]) (ps:=["kind"]) (g:=zeM) F sc fun cdv A outer s H E hr => ?_
 unfold zeM
 exact (zae (zaM (za5 o_lt (zac (pv 0)) zad (za1 _)) (zag (za7 zad)) zao) (zae (zaM (QW.qt (ziR (za5 o_lt (zac (pv 0)) zad (za1 _)) (zfN (za5 (o_eq hr.units) (zac (pv 0)) zad (za1 _))))) (zag (za7 zad)) zao) (zae (zaM (za5 o_lt (zac (pv 0)) zad (za1 _)) (zag (za7 zad)) zao) (zag (za7 zad)))))
abbrev zm1:Stmt:=top 29
theorem zoN:FnScope ["script", "k"] ["script", "k"] (zah zm1):=zba
theorem zol {k:Nat}(F:Fun K "_law_cell_at" "_law_cell_at" zm1 f fd)(m:Mg mg)  : FnOk P w K mg base CX0 (k+1) f fd ["script", "k"] (SpD K zfm):=by
 have sc:=zoN
 refine fn_d (N:=["script", "k"]) (ps:=["script", "k"]) (g:=zh8) F sc fun cdv A outer s H E hr => ?_
 unfold zh8
 exact (zae (zaM (za5 o_lt (zac (pv 1)) (zal (x := "len") zaT rfl m.len_ za3 (zaa (zac (pv 0)) zaf)) (za1 _)) (zag (za7 (zaB (zay hr) (zac (pv 0)) (zac (pv 1)) (fun _ _=>rfl) (fun _ _=>rfl)))) zao) (zag (za7 zad)))
abbrev zmm:Stmt:=top 30
theorem zo6:FnScope ["cell", "salt", "mixed"] ["cell", "salt"] (zah zmm):=zba
theorem zp3 {k:Nat}(F:Fun K "_law_mixed" "_law_mixed" zmm f fd)(m:Mg mg)  : FnOk P w K mg base CX0 (k+1) f fd ["cell", "salt"] (SpD K zbU):=by
 have sc:=zo6
 refine fn_d (N:=["cell", "salt", "mixed"]) (ps:=["cell", "salt"]) (g:=zjq) F sc fun cdv A outer s H E hr => ?_
 unfold zjq
 exact (zae (zan (i:=2) sc.nd rfl (.inl rfl) (q_op zaE (q_op zeE (q_op zaz (q_op zaE (zac (pv 0)) zad) (zac (pv 1))) zad) zad)) (zag (za7 (q_op zaE (q_op zeE (zac (pv 2)) (zac (pv 2))) zad))))
abbrev zmb:Stmt:=top 33
theorem zo5:FnScope ["cell", "many", "letters", "base", "k", "names", "spot", "made"] ["cell", "many"] (zah zmb):=zba
theorem zmS {k:Nat}(F:Fun K "_law_names" "_law_names" zmb f fd)(m:Mg mg)(c_z11:za2 P w K mg base "_law_mixed" k ["cell", "salt"] (SpD K zbU)):FnOk P w K mg base CX0 (k+1) f fd ["cell", "many"] (SpN K zex):=by
 have sc:=zo5
 refine fn_n (N:=["cell", "many", "letters", "base", "k", "names", "spot", "made"]) (ps:=["cell", "many"]) (g:=zjM) F sc fun cdv A outer s H E hr => ?_
 unfold zjM
 exact (zae (zan (i:=2) sc.nd rfl (.inl rfl) zas) (zae (zan (i:=3) sc.nd rfl (.inl rfl) zas) (zae (zb6 PassesOwn.never rfl (zaL rfl m.range_ (zaa (q_op zaE (q_op zaH (zac (pv 0)) zad) zad) zaf)) (zaS (zat (i:=4) sc.nd rfl (.inl rfl))) (zag (zan (i:=3) sc.nd rfl (.inl rfl) (q_op zaz (zac (pv 3)) (zaB (zay hr) (zac (pv 2)) (q_op zaE (q_fn c_z11 hr rfl (zaa (zac (pv 0)) (zaa (q_op zaz zad (zac (pv 4))) zaf))) zad) (fun _ _=>rfl) (fun _ _=>rfl)))))) (zae (zbS (i:=5) sc.nd rfl (.inl rfl) (zaW zaf)) (zae (zb6 PassesOwn.never rfl (zaL rfl m.range_ (zaa (zac (pv 1)) zaf)) (zaS (zat (i:=4) sc.nd rfl (.inl rfl))) (zae (zan (i:=6) sc.nd rfl (.inl rfl) (q_op zaz (zaB (zay hr) (zac (pv 2)) (q_op zaE (zac (pv 4)) zad) (fun _ _=>rfl) (fun _ _=>rfl)) (zaB (zay hr) (zac (pv 2)) (q_op zaE (q_op zaH (zac (pv 4)) zad) zad) (fun _ _=>rfl) (fun _ _=>rfl)))) (zae (zan (i:=7) sc.nd rfl (.inl rfl) (QN.qe (zaW (zaa (q_op zaz (q_op zaz zas (zac (pv 3))) (zbq (x := "str") zdZ rfl m.str_ zc6 (zaa (zac (pv 4)) zaf))) (zaa (q_op zaz (q_op zaz zas (zbq (x := "str") zdZ rfl m.str_ zc6 (zaa (zac (pv 4)) zaf))) (zac (pv 3))) (zaa (q_op zaz (q_op zaz zas (zac (pv 3))) (zac (pv 6))) (zaa (q_op zaz (q_op zaz (zac (pv 6)) zas) (zac (pv 3))) zaf))))))) (zag (zbL (pv 5) (zaB (zay hr) (zac (pv 7)) (q_op zaE (zac (pv 0)) zad) (fun _ _=>rfl) (fun _ _=>rfl)) (fun h1 h2=>zgB PySem.F.plainAttrs_list PySem.F.slot_list_append PySem.F.type_list_append zbJ h1 h2)))))) (zag (zdr (pv 5))))))))
abbrev zlD:Stmt:=top 32
theorem zp8:FnScope ["cell", "salt", "mixed", "size"] ["cell", "salt"] (zah zlD):=zba
theorem zof {k:Nat}(F:Fun K "_law_far_wait" "_law_far_wait" zlD f fd)(m:Mg mg)(c_z11:za2 P w K mg base "_law_mixed" k ["cell", "salt"] (SpD K zbU)):FnOk P w K mg base CX0 (k+1) f fd ["cell", "salt"] (SpD K zdI):=by
 have sc:=zp8
 refine fn_d (N:=["cell", "salt", "mixed", "size"]) (ps:=["cell", "salt"]) (g:=zeI) F sc fun cdv A outer s H E hr => ?_
 unfold zeI
 exact (zae (zan (i:=2) sc.nd rfl (.inl rfl) (q_fn c_z11 hr rfl (zaa (zac (pv 0)) (zaa (zac (pv 1)) zaf)))) (zae (zaM (za5 o_gt (q_op zaE (zac (pv 2)) zad) zad (za1 _)) (zag (za7 (q_op zd5 (q_op zaE (q_op zaH (zac (pv 2)) zad) zad) zad))) zao) (zae (zan (i:=3) sc.nd rfl (.inl rfl) (q_op zaE (q_op zeE (q_op zaH (zac (pv 0)) zad) (q_op zaz (zac (pv 1)) zad)) (q_op zi7 zad zad))) (zae (zaM (za5 (o_eq hr.units) (q_op zaE (q_op zaH (zac (pv 2)) zad) zad) zad (za1 _)) (zag (zan (i:=3) sc.nd rfl (.inl rfl) (q_op zd5 (q_op zi7 zad zad) zad))) zao) (zae (zaM (za5 (o_eq hr.units) (q_op zaE (q_op zaH (zac (pv 2)) zad) zad) zad (za1 _)) (zag (za7 (zac (pv 3)))) zao) (zag (za7 (q_un zic (zac (pv 3))))))))))
abbrev zlm:Stmt:=top 35
theorem znn:FnScope ["cell", "count", "ahead", "items", "k"] ["cell", "count", "ahead"] (zah zlm):=zba
theorem zpj {k:Nat}(F:Fun K "_law_items" "_law_items" zlm f fd)(m:Mg mg)(c_z13:za2 P w K mg base "_law_far_wait" k ["cell", "salt"] (SpD K zdI))(c_z11:za2 P w K mg base "_law_mixed" k ["cell", "salt"] (SpD K zbU)):FnOk P w K mg base CX0 (k+1) f fd ["cell", "count", "ahead"] (SpD K zeY):=by
 have sc:=znn
 refine fn_d (N:=["cell", "count", "ahead", "items", "k"]) (ps:=["cell", "count", "ahead"]) (g:=zkm) F sc fun cdv A outer s H E hr => ?_
 unfold zkm
 exact (zae (zbS (i:=3) sc.nd rfl (.inl rfl) (zaW zaf)) (zae (zb6 PassesOwn.never rfl (zaL rfl m.range_ (zaa (zac (pv 1)) zaf)) (zaS (zat (i:=4) sc.nd rfl (.inl rfl))) (zag (zbL (pv 3) (zaP (zaa (q_op zaE (q_fn c_z11 hr rfl (zaa (zac (pv 0)) (zaa (q_op zaz zad (zac (pv 4))) zaf))) (zac (pv 2))) (zaa (q_fn c_z13 hr rfl (zaa (q_op zaz (q_op zaH (zac (pv 0)) (q_op zaz (zac (pv 4)) zad)) (zac (pv 4))) (zaa (q_op zaz zad (zac (pv 4))) zaf))) zaf))) (fun h1 h2=>zgB PySem.F.plainAttrs_list PySem.F.slot_list_append PySem.F.type_list_append zbJ h1 h2)))) (zag (zbi [3] (za7 (zbq (x := "tuple") zh2 rfl m.tuple_ zfS (zaa (zac (pv 3)) zaf)))))))
abbrev zms:Stmt:=top 36
theorem zmN:FnScope ["cell", "name", "ahead", "parts", "wide", "mixed", "part", "count"] ["cell", "name", "ahead", "parts", "wide"] (zah zms):=zba
theorem zpt {k:Nat}(F:Fun K "_law_made" "_law_made" zms f fd)(m:Mg mg)(c_z16:za2 P w K mg base "_law_items" k ["cell", "count", "ahead"] (SpD K zeY))(c_z11:za2 P w K mg base "_law_mixed" k ["cell", "salt"] (SpD K zbU)):FnOk P w K mg base CX0 (k+1) f fd ["cell", "name", "ahead", "parts", "wide"] (SpD K zcE):=by
 have sc:=zmN
 refine fn_d (N:=["cell", "name", "ahead", "parts", "wide", "mixed", "part", "count"]) (ps:=["cell", "name", "ahead", "parts", "wide"]) (g:=zdK) F sc fun cdv A outer s H E hr => ?_
 unfold zdK
 exact (zae (zan (i:=5) sc.nd rfl (.inl rfl) (q_fn c_z11 hr rfl (zaa (zac (pv 0)) (zaa zad zaf)))) (zae (zaM (QW.qt (zeC (za5 (o_ne hr.units) (zac (pv 3)) (QN.qe (zaW zaf)) (za1 _)) (zdy (za5 (o_eq hr.units) (q_op zaE (zac (pv 5)) zad) zad (za1 _))))) (zae (zan (i:=6) sc.nd rfl (.inl rfl) (zaB (zay hr) (zac (pv 3)) (q_op zaE (q_op zaH (zac (pv 5)) zad) (zal (x := "len") zaT rfl m.len_ za3 (zaa (zac (pv 3)) zaf))) (fun _ _=>rfl) (fun _ _=>rfl))) (zag (za7 (zaP (zaa (zac (pv 1)) (zaa (zaB (zay hr) (zac (pv 6)) zad (fun _ _=>rfl) (fun _ _=>rfl)) (zaa (q_fn c_z16 hr rfl (zaa (zac (pv 0)) (zaa (zaB (zay hr) (zac (pv 6)) zad (fun _ _=>rfl) (fun _ _=>rfl)) (zaa (zac (pv 2)) zaf)))) zaf))))))) zao) (zae (zan (i:=7) sc.nd rfl (.inl rfl) (q_op zaz zad (q_op zaE (q_op zaH (zac (pv 5)) zad) zad))) (zae (zaM (QW.qt (zeC (zcr (zac (pv 4))) (zdy (za5 (o_eq hr.units) (q_op zaE (q_op zaH (zac (pv 5)) zad) zad) zad (za1 _))))) (zag (zan (i:=7) sc.nd rfl (.inl rfl) zad)) zao) (zag (za7 (zaP (zaa (zac (pv 1)) (zaa (zaB (zay hr) (QN.qe (zaW (zaa zas (zaa zas zaf)))) (q_op zaE (q_op zaH (zac (pv 5)) zad) zad) (fun _ _=>rfl) (fun _ _=>rfl)) (zaa (q_fn c_z16 hr rfl (zaa (zac (pv 0)) (zaa (zac (pv 7)) (zaa (zac (pv 2)) zaf)))) zaf))))))))))
abbrev zlH:Stmt:=top 37
theorem zoK:FnScope ["pool", "at", "name", "parts", "wide", "cell", "givens", "rows", "names", "made", "k", "word"] ["pool", "at", "name", "parts", "wide"] (zah zlH):=zba
theorem zmT {k:Nat}(F:Fun K "_law_plan" "_law_plan" zlH f fd)(m:Mg mg)(c_z17:za2 P w K mg base "_law_made" k ["cell", "name", "ahead", "parts", "wide"] (SpD K zcE))(c_z11:za2 P w K mg base "_law_mixed" k ["cell", "salt"] (SpD K zbU))(c_z14:za2 P w K mg base "_law_names" k ["cell", "many"] (SpN K zex)):FnOk P w K mg base CX0 (k+1) f fd ["pool", "at", "name", "parts", "wide"] (SpD K zf3):=by
 have sc:=zoK
 refine fn_d (N:=["pool", "at", "name", "parts", "wide", "cell", "givens", "rows", "names", "made", "k", "word"]) (ps:=["pool", "at", "name", "parts", "wide"]) (g:=zhC) F sc fun cdv A outer s H E hr => ?_
 unfold zhC
 exact (zae (zan (i:=5) sc.nd rfl (.inl rfl) (zaB (zay hr) (zac (pv 0)) (q_op zaE (q_op zeE zad (zac (pv 1))) (zal (x := "len") zaT rfl m.len_ za3 (zaa (zac (pv 0)) zaf))) (fun _ _=>rfl) (fun _ _=>rfl))) (zae (zan (i:=6) sc.nd rfl (.inl rfl) (q_op zaz zad (q_op zaE (q_fn c_z11 hr rfl (zaa (zac (pv 5)) (zaa zad zaf))) zad))) (zae (zan (i:=7) sc.nd rfl (.inl rfl) (q_op zaz zad (q_op zaE (q_fn c_z11 hr rfl (zaa (zac (pv 5)) (zaa zad zaf))) zad))) (zae (zaM (zcr (zac (pv 4))) (zae (zan (i:=6) sc.nd rfl (.inl rfl) (zaB (zay hr) (QN.qe (zaW (zaa zad (zaa zad (zaa zad zaf))))) (q_op zaE (q_fn c_z11 hr rfl (zaa (zac (pv 5)) (zaa zad zaf))) zad) (fun _ _=>rfl) (fun _ _=>rfl))) (zag (zan (i:=7) sc.nd rfl (.inl rfl) (zaB (zay hr) (QN.qe (zaW (zaa zad (zaa zad (zaa zad zaf))))) (q_op zaE (q_fn c_z11 hr rfl (zaa (zac (pv 5)) (zaa zad zaf))) zad) (fun _ _=>rfl) (fun _ _=>rfl))))) zao) (zae (zan (i:=8) sc.nd rfl (.inl rfl) (QN.qe (zeJ c_z14 hr rfl (zaa (q_op zaH (zac (pv 5)) zad) (zaa (q_op zaz (zac (pv 6)) (zac (pv 7))) zaf))))) (zae (zbS (i:=9) sc.nd rfl (.inl rfl) (zaW zaf)) (zae (zb6 PassesOwn.never rfl (zaL rfl m.range_ (zaa (zac (pv 7)) zaf)) (zaS (zat (i:=10) sc.nd rfl (.inl rfl))) (zae (zan (i:=11) sc.nd rfl (.inl rfl) (q_op zaz (zaB (zay hr) (zac (pv 0)) (q_op zaE (q_op zaz (q_op zaz (q_op zeE zad (zac (pv 1))) (zac (pv 10))) zad) (zal (x := "len") zaT rfl m.len_ za3 (zaa (zac (pv 0)) zaf))) (fun _ _=>rfl) (fun _ _=>rfl)) (q_op zeE zad (zac (pv 10))))) (zag (zbL (pv 9) (q_fn c_z17 hr rfl (zaa (zac (pv 11)) (zaa (zaB (zay hr) (zac (pv 8)) (q_op zaz (zac (pv 6)) (zac (pv 10))) (fun _ _=>rfl) (fun _ _=>rfl)) (zaa (q_op zaz (zac (pv 6)) (zac (pv 10))) (zaa (zac (pv 3)) (zaa (zac (pv 4)) zaf)))))) (fun h1 h2=>zgB PySem.F.plainAttrs_list PySem.F.slot_list_append PySem.F.type_list_append zbJ h1 h2))))) (zag (zbi [9] (za7 (zaP (zaa (zac (pv 2)) (zaa (QN.qe (zc0 (zac (pv 8)) zbu (zbW (zac (pv 6))) zbu)) (zaa (zac (pv 9)) zaf))))))))))))))
abbrev zm6:Stmt:=top 31
theorem zpc:FnScope ["script", "start", "most", "many"] ["script", "start", "most"] (zah zm6):=zba
theorem zpb {k:Nat}(F:Fun K "_law_turns" "_law_turns" zm6 f fd)(m:Mg mg)  : FnOk P w K mg base CX0 (k+1) f fd ["script", "start", "most"] (SpN K zf7):=by
 have sc:=zpc
 refine fn_n (N:=["script", "start", "most", "many"]) (ps:=["script", "start", "most"]) (g:=zkb) F sc fun cdv A outer s H E hr => ?_
 unfold zkb
 exact (zae (zan (i:=3) sc.nd rfl (.inl rfl) (zal (x := "min") (znH rfl) rfl m.min_ zmZ (zaa (zac (pv 2)) (zaa (zal (x := "max") (znY rfl) rfl m.max_ zmY (zaa zad (zaa (q_op zd5 (zal (x := "len") zaT rfl m.len_ za3 (zaa (zac (pv 0)) zaf)) (zac (pv 1))) zaf))) zaf)))) (zag (zf9 (zca ["k", "script", "start", "most"] [none,some 0,some 1,some 2] rfl rfl (zaL rfl m.range_ (zaa (zac (pv 3)) zaf)) (fun _ _ _ _ _=>(zaS (pgn 0 (zb7 ["k", "script", "start", "most"])))) (fun _ _ _ _ _=>(zal (x := "sum") (zni rfl) rfl m.sum_ zkT (zaa (QN.qe (zc0 (zac (pv 1)) (zbW (q_op zaz (zac (pv 2)) (zac (pv 0)))) zbu (zbW (zac (pv 3))))) zaf)))))))
abbrev zlC:Stmt:=top 34
theorem zox:FnScope ["script", "start", "pool"] ["script", "start"] (zah zlC):=zba
theorem zoz {k:Nat}(F:Fun K "_law_pool" "_law_pool" zlC f fd)(m:Mg mg)(c_z12:za2 P w K mg base "_law_turns" k ["script", "start", "most"] (SpN K zf7)):FnOk P w K mg base CX0 (k+1) f fd ["script", "start"] (SpD K zgX):=by
 have sc:=zox
 refine fn_d (N:=["script", "start", "pool"]) (ps:=["script", "start"]) (g:=zjk) F sc fun cdv A outer s H E hr => ?_
 unfold zjk
 exact (zae (zan (i:=2) sc.nd rfl (.inl rfl) (QN.qe (zeJ c_z12 hr rfl (zaa (zac (pv 0)) (zaa (zac (pv 1)) (zaa zad zaf)))))) (zae (zaM (za5 (o_eq hr.units) (zac (pv 2)) (QN.qe (zaW zaf)) (za1 _)) (zag (za7 (QN.qe (zaW (zaa (zal (x := "len") zaT rfl m.len_ za3 (zaa (zac (pv 0)) zaf)) zaf))))) zao) (zag (za7 (zac (pv 2))))))
abbrev zle:Stmt:=top 38
theorem zon:FnScope ["script", "start", "pool", "first", "wide", "many", "names", "plans", "at", "parts"] ["script", "start"] (zah zle):=zba
theorem zpg {k:Nat}(F:Fun K "_law_parts" "_law_parts" zle f fd)(m:Mg mg)(c_z10:za2 P w K mg base "_law_cell_at" k ["script", "k"] (SpD K zfm))(c_z14:za2 P w K mg base "_law_names" k ["cell", "many"] (SpN K zex))(c_z18:za2 P w K mg base "_law_plan" k ["pool", "at", "name", "parts", "wide"] (SpD K zf3))(c_z15:za2 P w K mg base "_law_pool" k ["script", "start"] (SpD K zgX)):FnOk P w K mg base CX0 (k+1) f fd ["script", "start"] (SpN K zgH):=by
 have sc:=zon
 refine fn_n (N:=["script", "start", "pool", "first", "wide", "many", "names", "plans", "at", "parts"]) (ps:=["script", "start"]) (g:=ziG) F sc fun cdv A outer s H E hr => ?_
 unfold ziG
 exact (zae (zan (i:=2) sc.nd rfl (.inl rfl) (q_fn c_z15 hr rfl (zaa (zac (pv 0)) (zaa (zac (pv 1)) zaf)))) (zae (zan (i:=3) sc.nd rfl (.inl rfl) (q_fn c_z10 hr rfl (zaa (zac (pv 0)) (zaa zad zaf)))) (zae (zan (i:=4) sc.nd rfl (.inl rfl) (zgU (o_eq hr.units) (q_op zaE (zac (pv 3)) zad) zad (za1 _))) (zae (zan (i:=5) sc.nd rfl (.inl rfl) (q_op zaz zad (q_op zaE (q_op zaH (zac (pv 3)) zad) zad))) (zae (zaM (zcr (zac (pv 4))) (zag (zan (i:=5) sc.nd rfl (.inl rfl) zad)) zao) (zae (zan (i:=6) sc.nd rfl (.inl rfl) (QN.qe (zeJ c_z14 hr rfl (zaa (q_op zaH (zac (pv 3)) zad) (zaa (zac (pv 5)) zaf))))) (zae (zbS (i:=7) sc.nd rfl (.inl rfl) (zaW zaf)) (zae (zb6 PassesOwn.never rfl (zaL rfl m.range_ (zaa (zac (pv 5)) zaf)) (zaS (zat (i:=8) sc.nd rfl (.inl rfl))) (zae (zfp [7] ["plan"] [none] sc.nd rfl (.inl rfl) rfl rfl (zb3 (zac (pv 7))) (fun _ _ _ _ _=>(zaS (pgn 0 (zb7 ["plan"])))) (fun _ _ _ _ _=>(zaP (zaa (zaB (zay hr) (zac (pv 0)) zad (fun _ _=>rfl) (fun _ _=>rfl)) (zaa (zal (x := "len") zaT rfl m.len_ za3 (zaa (zaB (zay hr) (zac (pv 0)) zad (fun _ _=>rfl) (fun _ _=>rfl)) zaf)) zaf))))) (zag (zbi [9] (zbL (pv 7) (q_fn c_z18 hr rfl (zaa (zac (pv 2)) (zaa (zac (pv 8)) (zaa (zaB (zay hr) (zac (pv 6)) (zac (pv 8)) (fun _ _=>rfl) (fun _ _=>rfl)) (zaa (zac (pv 9)) (zaa (zac (pv 4)) zaf)))))) (fun h1 h2=>zgB PySem.F.plainAttrs_list PySem.F.slot_list_append PySem.F.type_list_append zbJ h1 h2)))))) (zag (zdr (pv 7)))))))))))
abbrev zl3:Stmt:=top 42
theorem zoi:FnScope ["plans", "count", "more"] ["plans", "count"] (zah zl3):=zba
theorem znu {k:Nat}(F:Fun K "_law_grown" "_law_grown" zl3 f fd)(m:Mg mg)  : FnOk P w K mg base CX0 (k+1) f fd ["plans", "count"] (SpD K zfk):=by
 have sc:=zoi
 refine fn_d (N:=["plans", "count", "more"]) (ps:=["plans", "count"]) (g:=zjA) F sc fun cdv A outer s H E hr => ?_
 unfold zjA
 exact (zae (zce ["k"] [none] sc.nd rfl (.inl rfl) rfl rfl (zaL rfl m.range_ (zaa (q_op zd5 (zac (pv 1)) (zal (x := "len") zaT rfl m.len_ za3 (zaa (zac (pv 0)) zaf))) zaf)) (fun _ _ _ _ _=>(zaS (pgn 0 (zb7 ["k"])))) (fun _ _ _ _ _=>(zaP (zaa (q_op zaz zas (zbq (x := "str") zdZ rfl m.str_ zc6 (zaa (zac (pv 0)) zaf))) (zaa (QN.qe (zaW (zaa zas zaf))) (zaa (QN.qe (zaW (zaa (zaP (zaa zas (zaa zas (zaa (zaP (zaa (zaP (zaa zad (zaa (zac (pv 0)) zaf))) zaf)) zaf)))) zaf))) zaf)))))) (zag (za7 (q_op zaz (zac (pv 0)) (zac (pv 2))))))
abbrev zlv:Stmt:=top 45
theorem zpz:FnScope ["plans", "kind", "cell", "at", "name", "givens", "rows"] ["plans", "kind", "cell"] (zah zlv):=zba
theorem zpx {k:Nat}(F:Fun K "_law_count_spoiled" "_law_count_spoiled" zlv f fd)(m:Mg mg)(c_z23:za2 P w K mg base "_law_grown" k ["plans", "count"] (SpD K zfk)):FnOk P w K mg base CX0 (k+1) f fd ["plans", "kind", "cell"] (SpDO K 0 zcY):=by
 have sc:=zpz
 refine zj0 (j:=0) (N:=["plans", "kind", "cell", "at", "name", "givens", "rows"]) (ps:=["plans", "kind", "cell"]) (g:=zdW) F sc fun cdv A outer s H E hr => ?_
 unfold zdW
 exact (zae (zan (i:=3) sc.nd rfl (.inl rfl) (q_op zaE (zac (pv 2)) (zfE [0] (zal (x := "len") zaT rfl m.len_ za3 (zaa (zac (pv 0)) zaf))))) (zae (zgm (zbH (zay hr) (pv 0) (zac (pv 3)) (fun _ _=>rfl) (fun _ _=>rfl)) (zcs [4,5,6] (zcq rfl (zar (zat (i:=4) sc.nd rfl (.inl rfl)) (zar (zat (i:=5) sc.nd rfl (.inl rfl)) (zar (zat (i:=6) sc.nd rfl (.inl rfl)) zbI)))))) (zae (zaM (QW.qt (zeC (za5 (o_eq hr.units) (zac (pv 1)) zad (za1 _)) (zdy (za5 (o_eq hr.units) (q_op zaE (q_op zaH (zac (pv 2)) zad) zad) zad (za1 _))))) (zag (za7 (QN.qe (zaW zaf)))) zao) (zae (zaM (za5 (o_eq hr.units) (zac (pv 1)) zad (za1 _)) (zag (zbi [0] (za7 (q_fn c_z23 hr rfl (zaa (zac (pv 0)) (zaa (q_op zaz zad (q_op zaE (q_op zaH (zac (pv 2)) zad) zad)) zaf)))))) zao) (zae (zaM (za5 (o_eq hr.units) (zac (pv 1)) zad (za1 _)) (zag (zan (i:=5) sc.nd rfl (.inl rfl) (QN.qe (zaW zaf)))) zao) (zae (zaM (za5 (o_eq hr.units) (zac (pv 1)) zad (za1 _)) (zag (zan (i:=5) sc.nd rfl (.inl rfl) (q_op zaz (zac (pv 5)) (QN.qe (zca ["k"] [none] rfl rfl (zaL rfl m.range_ (zaa (q_op zd5 zad (zal (x := "len") zaT rfl m.len_ za3 (zaa (zac (pv 5)) zaf))) zaf)) (fun _ _ _ _ _=>(zaS (pgn 0 (zb7 ["k"])))) (fun _ _ _ _ _=>(q_op zaz zas (zbq (x := "str") zdZ rfl m.str_ zc6 (zaa (zac (pv 0)) zaf))))))))) zao) (zae (zaM (za5 (o_eq hr.units) (zac (pv 1)) zad (za1 _)) (zag (zan (i:=6) sc.nd rfl (.inl rfl) (QN.qe (zaW zaf)))) zao) (zae (zaM (za5 (o_eq hr.units) (zac (pv 1)) zad (za1 _)) (zag (zan (i:=6) sc.nd rfl (.inl rfl) (q_op zaz (zac (pv 6)) (QN.qe (zca ["k"] [none] rfl rfl (zaL rfl m.range_ (zaa (q_op zd5 zad (zal (x := "len") zaT rfl m.len_ za3 (zaa (zac (pv 6)) zaf))) zaf)) (fun _ _ _ _ _=>(zaS (pgn 0 (zb7 ["k"])))) (fun _ _ _ _ _=>(zaP (zaa (q_op zaz zas (zbq (x := "str") zdZ rfl m.str_ zc6 (zaa (zac (pv 0)) zaf))) (zaa zas (zaa (zaP (zaa (zaP (zaa zad (zaa zad zaf))) zaf)) zaf)))))))))) zao) (zae (zbQ (pv 0) (zac (pv 3)) (zaP (zaa (zac (pv 4)) (zaa (zac (pv 5)) (zaa (zac (pv 6)) zaf))))) (zag (zbi [0] (za7 (zac (pv 0))))))))))))))
abbrev zmv:Stmt:=top 41
theorem zp4:FnScope ["more", "item", "one", "two", "three", "k"] ["more"] (zah zmv):=zba
theorem zn3 {k:Nat}(F:Fun K "_law_heavy" "_law_heavy" zmv f fd)(m:Mg mg)  : FnOk P w K mg base CX0 (k+1) f fd ["more"] (SpN K zgy):=by
 have sc:=zp4
 refine fn_n (N:=["more", "item", "one", "two", "three", "k"]) (ps:=["more"]) (g:=zkd) F sc fun cdv A outer s H E hr => ?_
 unfold zkd
 exact (zae (zan (i:=1) sc.nd rfl (.inr rfl) (zaP (zaa (zaP (zaa zad (zaa zad zaf))) zaf))) (zae (zce ["k", "item"] [none,some 1] sc.nd rfl (.inl rfl) rfl rfl (zaL rfl m.range_ (zaa (q_op zd5 zad (zac (pv 0))) zaf)) (fun _ _ _ _ _=>(zaS (pgn 0 (zb7 ["k", "item"])))) (fun _ _ _ _ _=>(zaP (zaa (q_op zaz zas (zbq (x := "str") zdZ rfl m.str_ zc6 (zaa (zac (pv 0)) zaf))) (zaa zas (zaa (zac (pv 1)) zaf)))))) (zae (zce ["k", "item"] [none,some 1] sc.nd rfl (.inl rfl) rfl rfl (zaL rfl m.range_ (zaa zad zaf)) (fun _ _ _ _ _=>(zaS (pgn 0 (zb7 ["k", "item"])))) (fun _ _ _ _ _=>(zaP (zaa (q_op zaz zas (zbq (x := "str") zdZ rfl m.str_ zc6 (zaa (zac (pv 0)) zaf))) (zaa zas (zaa (zac (pv 1)) zaf)))))) (zae (zbS (i:=4) sc.nd rfl (.inl rfl) (zjn zjj (QN.qe (zaW (zaa (zaP (zaa zas (zaa zas (zaa (zac (pv 1)) zaf)))) zaf))) (QN.qe (zca ["k", "item"] [none,some 1] rfl rfl (zaL rfl m.range_ (zaa (q_op zaz zad (q_op zeE zad (zac (pv 0)))) zaf)) (fun _ _ _ _ _=>(zaS (pgn 0 (zb7 ["k", "item"])))) (fun _ _ _ _ _=>(zaP (zaa (q_op zaz zas (zbq (x := "str") zdZ rfl m.str_ zc6 (zaa (q_op zaz (zac (pv 0)) zad) zaf))) (zaa zas (zaa (zac (pv 1)) zaf))))))))) (zae (zb6 PassesOwn.never rfl (zaL rfl m.range_ (zaa (q_op zeE zad (q_op zd5 zad (zac (pv 0)))) zaf)) (zaS (zat (i:=5) sc.nd rfl (.inl rfl))) (zag (zbL (pv 4) (zaP (zaa (q_op zaz zas (zbq (x := "str") zdZ rfl m.str_ zc6 (zaa (zac (pv 5)) zaf))) (zaa zas (zaa (zac (pv 1)) zaf)))) (fun h1 h2=>zgB PySem.F.plainAttrs_list PySem.F.slot_list_append PySem.F.type_list_append zbJ h1 h2)))) (zag (zbi [4] (zf9 (zaW (zaa (zaP (zaa zas (zaa (QN.qe (zaW (zaa zas zaf))) (zaa (zac (pv 2)) zaf)))) (zaa (zaP (zaa zas (zaa (QN.qe (zaW (zaa zas zaf))) (zaa (zac (pv 3)) zaf)))) (zaa (zaP (zaa zas (zaa (QN.qe (zaW (zaa zas zaf))) (zaa (zac (pv 4)) zaf)))) zaf))))))))))))
abbrev zmC:Stmt:=top 46
theorem zom:FnScope ["plans", "kind", "cell", "at", "name", "givens", "rows", "place", "row", "items", "spot", "own", "far"] ["plans", "kind", "cell"] (zah zmC):=zba
theorem zod {k:Nat}(F:Fun K "_law_item_spoiled" "_law_item_spoiled" zmC f fd)(m:Mg mg)  : FnOk P w K mg base CX0 (k+1) f fd ["plans", "kind", "cell"] (SpDO K 0 zdp):=by
 have sc:=zom
 refine zj0 (j:=0) (N:=["plans", "kind", "cell", "at", "name", "givens", "rows", "place", "row", "items", "spot", "own", "far"]) (ps:=["plans", "kind", "cell"]) (g:=zfs) F sc fun cdv A outer s H E hr => ?_
 unfold zfs
 exact (zae (zan (i:=3) sc.nd rfl (.inl rfl) (q_op zaE (zac (pv 2)) (zfE [0] (zal (x := "len") zaT rfl m.len_ za3 (zaa (zac (pv 0)) zaf))))) (zae (zgm (zbH (zay hr) (pv 0) (zac (pv 3)) (fun _ _=>rfl) (fun _ _=>rfl)) (zcs [4,5,6] (zcq rfl (zar (zat (i:=4) sc.nd rfl (.inl rfl)) (zar (zat (i:=5) sc.nd rfl (.inl rfl)) (zar (zat (i:=6) sc.nd rfl (.inl rfl)) zbI)))))) (zae (zan (i:=7) sc.nd rfl (.inl rfl) (q_op zaE (q_op zaH (zac (pv 2)) zad) (zal (x := "len") zaT rfl m.len_ za3 (zaa (zac (pv 6)) zaf)))) (zae (zan (i:=8) sc.nd rfl (.inl rfl) (zaB (zay hr) (zac (pv 6)) (zac (pv 7)) (fun _ _=>rfl) (fun _ _=>rfl))) (zae (zbS (i:=9) sc.nd rfl (.inl rfl) (zb0 (x := "list") zcR rfl m.list_ zbV (zaa (zaB (zay hr) (zac (pv 8)) zad (fun _ _=>rfl) (fun _ _=>rfl)) zaf))) (zae (zan (i:=10) sc.nd rfl (.inl rfl) (q_op zaE (q_op zaH (zac (pv 2)) zad) (zfE [9] (zal (x := "len") zaT rfl m.len_ za3 (zaa (zac (pv 9)) zaf))))) (zae (zaM (za5 (o_eq hr.units) (zac (pv 1)) zad (za1 _)) (zag (zbS (i:=9) sc.nd rfl (.inl rfl) (zaW zaf))) zao) (zae (zaM (za5 (o_eq hr.units) (zac (pv 1)) zad (za1 _)) (zag (zbi [9] (zbS (i:=9) sc.nd rfl (.inl rfl) (zjn zjj (zac (pv 9)) (QN.qe (zjn o_rep (QN.qe (zaW (zaa (zaP (zaa zad (zaa zad zaf))) zaf))) (q_op zd5 zad (zal (x := "len") zaT rfl m.len_ za3 (zaa (zac (pv 9)) zaf))))))))) zao) (zae (zaM (za5 (o_eq hr.units) (zac (pv 1)) zad (za1 _)) (zae (zan (i:=11) sc.nd rfl (.inl rfl) (q_op zaz (zal (x := "len") zaT rfl m.len_ za3 (zaa (zac (pv 5)) zaf)) (zac (pv 7)))) (zag (zbQ (pv 9) (zac (pv 10)) (zaP (zaa (zaB (zay hr) (QN.qe (zaW (zaa (zac (pv 11)) (zaa (q_op zaz (zac (pv 11)) zad) (zaa (q_un zic zad) (zaa (q_op zaz (zac (pv 11)) zad) zaf)))))) (q_op zaE (q_op zaH (zac (pv 2)) zad) zad) (fun _ _=>rfl) (fun _ _=>rfl)) (zaa (zaB (zay hr) (zbH (zay hr) (pv 9) (zac (pv 10)) (fun _ _=>rfl) (fun _ _=>rfl)) zad (fun _ _=>rfl) (fun _ _=>rfl)) zaf)))))) zao) (zae (zaM (za5 (o_eq hr.units) (zac (pv 1)) zad (za1 _)) (zae (zan (i:=12) sc.nd rfl (.inl rfl) (q_op zaz (q_op zi7 zad zad) (zaB (zay hr) (QN.qe (zaW (zaa zad (zaa zad (zaa (q_op zaE (q_op zaH (zac (pv 2)) zad) (q_op zi7 zad zad)) zaf))))) (q_op zaE (zac (pv 2)) zad) (fun _ _=>rfl) (fun _ _=>rfl)))) (zag (zbQ (pv 9) (zac (pv 10)) (zaP (zaa (zaB (zay hr) (zbH (zay hr) (pv 9) (zac (pv 10)) (fun _ _=>rfl) (fun _ _=>rfl)) zad (fun _ _=>rfl) (fun _ _=>rfl)) (zaa (zaB (zay hr) (QN.qe (zaW (zaa (zac (pv 12)) (zaa (q_un zic (zac (pv 12))) zaf)))) (q_op zaE (q_op zaH (zac (pv 2)) zad) zad) (fun _ _=>rfl) (fun _ _=>rfl)) zaf)))))) zao) (zae (zbi [9] (zbQ (pv 0) (zac (pv 3)) (zaP (zaa (zac (pv 4)) (zaa (zac (pv 5)) (zaa (q_op zaz (q_op zaz (QN.qe (zc0 (zac (pv 6)) zbu (zbW (zac (pv 7))) zbu)) (QN.qe (zaW (zaa (zaP (zaa (zaB (zay hr) (zac (pv 8)) zad (fun _ _=>rfl) (fun _ _=>rfl)) (zaa (zaB (zay hr) (zac (pv 8)) zad (fun _ _=>rfl) (fun _ _=>rfl)) (zaa (zbq (x := "tuple") zh2 rfl m.tuple_ zfS (zaa (zac (pv 9)) zaf)) zaf)))) zaf)))) (QN.qe (zc0 (zac (pv 6)) (zbW (q_op zaz (zac (pv 7)) zad)) zbu zbu))) zaf)))))) (zag (zbi [0] (za7 (zac (pv 0))))))))))))))))
abbrev zlh:Stmt:=top 43
theorem zov:FnScope ["cell", "bad"] ["cell"] (zah zlh):=zba
theorem znd {k:Nat}(F:Fun K "_law_bad_name" "_law_bad_name" zlh f fd)(m:Mg mg)  : FnOk P w K mg base CX0 (k+1) f fd ["cell"] (SpD K zgD):=by
 have sc:=zov
 refine zmU (N:=["cell", "bad"]) (ps:=["cell"]) (g:=zjt) F sc fun cdv A outer s H E hr => ?_
 unfold zjt
 exact (zdB (zhu (i:=1) sc.nd rfl (.inl rfl) (zcD (ds:=[.str "",.str "plan",.str "given",.str "all",.str "first",.str "part",.str "1a",.str "a23456789012b",.str "a b",.str "aB",.str "a-",.str " a",.str "a "]) rfl)) (zhv (zag (za7 (zaB (zay hr) (zac (pv 1)) (q_op zaE (zac (pv 0)) (zal (x := "len") zaT rfl m.len_ za3 (zaa (zac (pv 1)) zaf))) (fun _ _=>rfl) (fun _ _=>rfl))))))
abbrev zlt:Stmt:=top 44
theorem zos:FnScope ["plans", "kind", "cell", "at", "name", "givens", "rows", "many", "names", "place", "made"] ["plans", "kind", "cell"] (zah zlt):=zba
theorem zmO {k:Nat}(F:Fun K "_law_name_spoiled" "_law_name_spoiled" zlt f fd)(m:Mg mg)(c_z24:za2 P w K mg base "_law_bad_name" k ["cell"] (SpD K zgD)):FnOk P w K mg base CX0 (k+1) f fd ["plans", "kind", "cell"] (SpDO K 0 zdA):=by
 have sc:=zos
 refine zj0 (j:=0) (N:=["plans", "kind", "cell", "at", "name", "givens", "rows", "many", "names", "place", "made"]) (ps:=["plans", "kind", "cell"]) (g:=zec) F sc fun cdv A outer s H E hr => ?_
 unfold zec
 exact (zae (zan (i:=3) sc.nd rfl (.inl rfl) (q_op zaE (zac (pv 2)) (zfE [0] (zal (x := "len") zaT rfl m.len_ za3 (zaa (zac (pv 0)) zaf))))) (zae (zgm (zbH (zay hr) (pv 0) (zac (pv 3)) (fun _ _=>rfl) (fun _ _=>rfl)) (zcs [4,5,6] (zcq rfl (zar (zat (i:=4) sc.nd rfl (.inl rfl)) (zar (zat (i:=5) sc.nd rfl (.inr rfl)) (zar (zat (i:=6) sc.nd rfl (.inr rfl)) zbI)))))) (zae (zan (i:=7) sc.nd rfl (.inl rfl) (q_op zaz (zal (x := "len") zaT rfl m.len_ za3 (zaa (zac (pv 5)) zaf)) (zal (x := "len") zaT rfl m.len_ za3 (zaa (zac (pv 6)) zaf)))) (zae (zaM (za5 (o_eq hr.units) (zac (pv 1)) zad (za1 _)) (zae (zbQ (pv 0) (zac (pv 3)) (zaP (zaa (q_fn c_z24 hr rfl (zaa (q_op zaH (zac (pv 2)) zad) zaf)) (zaa (zac (pv 5)) (zaa (zac (pv 6)) zaf))))) (zag (zbi [0] (za7 (zac (pv 0)))))) zao) (zae (zaM (za5 (o_eq hr.units) (zac (pv 1)) zad (za1 _)) (zag (zbi [0] (za7 (q_op zaz (zac (pv 0)) (QN.qe (zaW (zaa (zaP (zaa (zac (pv 4)) (zaa (zac (pv 5)) (zaa (zac (pv 6)) zaf)))) zaf))))))) zao) (zae (zbS (i:=8) sc.nd rfl (.inr rfl) (zjn zjj (zac (pv 5)) (QN.qe (zca ["row"] [none] rfl rfl (zb3 (zac (pv 6))) (fun _ _ _ _ _=>(zaS (pgn 0 (zb7 ["row"])))) (fun _ _ _ _ _=>(zaB (zay hr) (zac (pv 0)) zad (fun _ _=>rfl) (fun _ _=>rfl))))))) (zae (zan (i:=9) sc.nd rfl (.inl rfl) (q_op zaE (q_op zaH (zac (pv 2)) zad) (zac (pv 7)))) (zae (zaM (QW.qt (ziR (za5 (o_eq hr.units) (zac (pv 1)) zad (za1 _)) (zfN (za5 (o_eq hr.units) (zac (pv 7)) zad (za1 _))))) (zag (zbQ (pv 8) (zac (pv 9)) (q_fn c_z24 hr rfl (zaa (q_op zaH (zac (pv 2)) zad) zaf)))) (zag (zbQ (pv 8) (zac (pv 9)) (zbH (zay hr) (pv 8) (q_op zaE (q_op zaz (q_op zaz (zac (pv 9)) zad) (q_op zaE (q_op zaH (zac (pv 2)) zad) (q_op zd5 (zac (pv 7)) zad))) (zac (pv 7))) (fun _ _=>rfl) (fun _ _=>rfl))))) (zae (zbi [8] (zce ["k", "givens", "rows", "names"] [none,some 5,some 6,some 8] sc.nd rfl (.inl rfl) rfl rfl (zaL rfl m.range_ (zaa (zal (x := "len") zaT rfl m.len_ za3 (zaa (zac (pv 6)) zaf)) zaf)) (fun _ _ _ _ _=>(zaS (pgn 0 (zb7 ["k", "givens", "rows", "names"])))) (fun _ _ _ _ _=>(zaP (zaa (zaB (zay hr) (zac (pv 3)) (q_op zaz (zal (x := "len") zaT rfl m.len_ za3 (zaa (zac (pv 1)) zaf)) (zac (pv 0))) (fun _ _=>rfl) (fun _ _=>rfl)) (zaa (zaB (zay hr) (zaB (zay hr) (zac (pv 2)) (zac (pv 0)) (fun _ _=>rfl) (fun _ _=>rfl)) zad (fun _ _=>rfl) (fun _ _=>rfl)) (zaa (zaB (zay hr) (zaB (zay hr) (zac (pv 2)) (zac (pv 0)) (fun _ _=>rfl) (fun _ _=>rfl)) zad (fun _ _=>rfl) (fun _ _=>rfl)) zaf))))))) (zae (zbi [8] (zbQ (pv 0) (zac (pv 3)) (zaP (zaa (zac (pv 4)) (zaa (QN.qe (zc0 (zac (pv 8)) zbu (zbW (zal (x := "len") zaT rfl m.len_ za3 (zaa (zac (pv 5)) zaf))) zbu)) (zaa (zac (pv 10)) zaf)))))) (zag (zbi [0] (za7 (zac (pv 0)))))))))))))))
abbrev zlg:Stmt:=top 47
theorem znt:FnScope ["plans", "kind", "cell", "at", "name", "givens", "rows", "place", "row", "how", "items", "wrong", "count"] ["plans", "kind", "cell"] (zah zlg):=zba
theorem znh {k:Nat}(F:Fun K "_law_part_spoiled" "_law_part_spoiled" zlg f fd)(m:Mg mg)  : FnOk P w K mg base CX0 (k+1) f fd ["plans", "kind", "cell"] (SpDO K 0 zdi):=by
 have sc:=znt
 refine zj0 (j:=0) (N:=["plans", "kind", "cell", "at", "name", "givens", "rows", "place", "row", "how", "items", "wrong", "count"]) (ps:=["plans", "kind", "cell"]) (g:=zfo) F sc fun cdv A outer s H E hr => ?_
 unfold zfo
 exact (zae (zan (i:=3) sc.nd rfl (.inl rfl) (q_op zaE (zac (pv 2)) (zfE [0] (zal (x := "len") zaT rfl m.len_ za3 (zaa (zac (pv 0)) zaf))))) (zae (zgm (zbH (zay hr) (pv 0) (zac (pv 3)) (fun _ _=>rfl) (fun _ _=>rfl)) (zcs [4,5,6] (zcq rfl (zar (zat (i:=4) sc.nd rfl (.inl rfl)) (zar (zat (i:=5) sc.nd rfl (.inl rfl)) (zar (zat (i:=6) sc.nd rfl (.inl rfl)) zbI)))))) (zae (zan (i:=7) sc.nd rfl (.inl rfl) (q_op zaE (q_op zaH (zac (pv 2)) zad) (zal (x := "len") zaT rfl m.len_ za3 (zaa (zac (pv 6)) zaf)))) (zae (zan (i:=8) sc.nd rfl (.inl rfl) (zaB (zay hr) (zac (pv 6)) (zac (pv 7)) (fun _ _=>rfl) (fun _ _=>rfl))) (zae (zan (i:=9) sc.nd rfl (.inl rfl) (zaB (zay hr) (QN.qe (zaW (zaa (zac (pv 4)) (zaa (zaB (zay hr) (zbH (zay hr) (pv 0) (q_un zic zad) (fun _ _=>rfl) (fun _ _=>rfl)) zad (fun _ _=>rfl) (fun _ _=>rfl)) (zaa zas (zaa zas (zaa zas (zaa zas zaf)))))))) (q_op zaE (q_op zaH (zac (pv 2)) zad) zad) (fun _ _=>rfl) (fun _ _=>rfl))) (zae (zan (i:=10) sc.nd rfl (.inl rfl) (zaB (zay hr) (zac (pv 8)) zad (fun _ _=>rfl) (fun _ _=>rfl))) (zae (zaM (QW.qt (zeC (za5 (o_eq hr.units) (zac (pv 1)) zad (za1 _)) (zdy (za5 (o_eq hr.units) (zac (pv 3)) zad (za1 _))))) (zae (zan (i:=11) sc.nd rfl (.inl rfl) (q_op zkC (zaP (zaa (zaP (zaa zad (zaa zad zaf))) zaf)) (q_op zaz (zal (x := "len") zaT rfl m.len_ za3 (zaa (zac (pv 5)) zaf)) zad))) (zag (zbi [0] (za7 (q_op zaz (zac (pv 0)) (QN.qe (zaW (zaa (zaP (zaa zas (zaa (QN.qe (zaW (zaa zas zaf))) (zaa (QN.qe (zaW (zaa (zaP (zaa zas (zaa (zac (pv 4)) (zaa (zac (pv 11)) zaf)))) zaf))) zaf)))) zaf)))))))) zao) (zae (zaM (za5 (o_eq hr.units) (zac (pv 1)) zad (za1 _)) (zae (zan (i:=9) sc.nd rfl (.inl rfl) (zaB (zay hr) (zbH (zay hr) (pv 0) zad (fun _ _=>rfl) (fun _ _=>rfl)) zad (fun _ _=>rfl) (fun _ _=>rfl))) (zae (zan (i:=12) sc.nd rfl (.inl rfl) (q_op zaz (zal (x := "len") zaT rfl m.len_ za3 (zaa (zaB (zay hr) (zbH (zay hr) (pv 0) zad (fun _ _=>rfl) (fun _ _=>rfl)) zad (fun _ _=>rfl) (fun _ _=>rfl)) zaf)) (zaB (zay hr) (QN.qe (zaW (zaa zad (zaa (q_un zic zad) (zaa zad zaf))))) (q_op zaE (q_op zaH (zac (pv 2)) zad) zad) (fun _ _=>rfl) (fun _ _=>rfl)))) (zae (zaM (za5 (o_eq hr.units) (zac (pv 12)) zad (za1 _)) (zag (zan (i:=12) sc.nd rfl (.inl rfl) zad)) zao) (zag (zan (i:=10) sc.nd rfl (.inl rfl) (q_op zkC (zaP (zaa (zaP (zaa zad (zaa zad zaf))) zaf)) (zac (pv 12)))))))) zao) (zae (zbQ (pv 0) (zac (pv 3)) (zaP (zaa (zac (pv 4)) (zaa (zac (pv 5)) (zaa (q_op zaz (q_op zaz (QN.qe (zc0 (zac (pv 6)) zbu (zbW (zac (pv 7))) zbu)) (QN.qe (zaW (zaa (zaP (zaa (zaB (zay hr) (zac (pv 8)) zad (fun _ _=>rfl) (fun _ _=>rfl)) (zaa (zac (pv 9)) (zaa (zac (pv 10)) zaf)))) zaf)))) (QN.qe (zc0 (zac (pv 6)) (zbW (q_op zaz (zac (pv 7)) zad)) zbu zbu))) zaf))))) (zag (zbi [0] (za7 (zac (pv 0))))))))))))))
abbrev zm7:Stmt:=top 48
theorem zoW:FnScope ["plans", "kind", "cell"] ["plans", "kind", "cell"] (zah zm7):=zba
theorem zoO {k:Nat}(F:Fun K "_law_spoiled" "_law_spoiled" zm7 f fd)(m:Mg mg)(c_z26:za2 P w K mg base "_law_count_spoiled" k ["plans", "kind", "cell"] (SpDO K 0 zcY))(c_z23:za2 P w K mg base "_law_grown" k ["plans", "count"] (SpD K zfk))(c_z22:za2 P w K mg base "_law_heavy" k ["more"] (SpN K zgy))(c_z27:za2 P w K mg base "_law_item_spoiled" k ["plans", "kind", "cell"] (SpDO K 0 zdp))(c_z25:za2 P w K mg base "_law_name_spoiled" k ["plans", "kind", "cell"] (SpDO K 0 zdA))(c_z28:za2 P w K mg base "_law_part_spoiled" k ["plans", "kind", "cell"] (SpDO K 0 zdi)):FnOk P w K mg base CX0 (k+1) f fd ["plans", "kind", "cell"] (SpD K zbf):=by
 have sc:=zoW
 refine fn_d (N:=["plans", "kind", "cell"]) (ps:=["plans", "kind", "cell"]) (g:=zdH) F sc fun cdv A outer s H E hr => ?_
 unfold zdH
 exact (zae (zbi [0] (zgF ["plan"] [none] sc.nd rfl (.inl rfl) rfl rfl (zb3 (zac (pv 0))) (fun _ _ _ _ _=>(zaS (pgn 0 (zb7 ["plan"])))) (fun _ _ _ _ _=>(zaP (zaa (zaB (zay hr) (zac (pv 0)) zad (fun _ _=>rfl) (fun _ _=>rfl)) (zaa (QN.qe (zb0 (x := "list") zcR rfl m.list_ zbV (zaa (zaB (zay hr) (zac (pv 0)) zad (fun _ _=>rfl) (fun _ _=>rfl)) zaf))) (zaa (QN.qe (zb0 (x := "list") zcR rfl m.list_ zbV (zaa (zaB (zay hr) (zac (pv 0)) zad (fun _ _=>rfl) (fun _ _=>rfl)) zaf))) zaf))))))) (zae (zaM (za5 o_lt (zac (pv 1)) zad (za1 _)) (zag (zcd c_z25 hr rfl (pv 0) (zaa (zac (pv 1)) (zaa (zac (pv 2)) zaf)))) zao) (zae (zaM (za5 o_lt (zac (pv 1)) zad (za1 _)) (zag (zcd c_z26 hr rfl (pv 0) (zaa (zac (pv 1)) (zaa (zac (pv 2)) zaf)))) zao) (zae (zaM (za5 o_lt (zac (pv 1)) zad (za1 _)) (zag (zcd c_z27 hr rfl (pv 0) (zaa (zac (pv 1)) (zaa (zac (pv 2)) zaf)))) zao) (zae (zaM (za5 o_lt (zac (pv 1)) zad (za1 _)) (zag (zcd c_z28 hr rfl (pv 0) (zaa (zac (pv 1)) (zaa (zac (pv 2)) zaf)))) zao) (zae (zaM (za5 (o_eq hr.units) (zac (pv 1)) zad (za1 _)) (zag (zbi [0] (za7 (q_fn c_z23 hr rfl (zaa (zac (pv 0)) (zaa (q_op zaz zad (q_op zaE (zac (pv 2)) zad)) zaf)))))) zao) (zae (zaM (za5 (o_eq hr.units) (q_op zaE (zac (pv 2)) zad) zad (za1 _)) (zag (zbi [0] (za7 (q_op zaz (QN.qe (zeJ c_z22 hr rfl (zaa zad zaf))) (zac (pv 0)))))) zao) (zag (zbi [0] (za7 (q_op zaz (zac (pv 0)) (QN.qe (zeJ c_z22 hr rfl (zaa zad zaf))))))))))))))
abbrev zmg:Stmt:=top 51
theorem zoP:FnScope ["script", "plans", "kinds", "cell", "first", "later", "one", "other", "twice"] ["script"] (zah zmg):=zba
theorem zpr {k:Nat}(F:Fun K "law" "law" zmg f fd)(m:Mg mg)(c_z20:za2 P w K mg base "_law_book" k ["plans"] (SpN K zgT))(c_z31:za2 P w K mg base "_law_caught" k ["book", "group"] (SpD K zgI))(c_z30:za2 P w K mg base "_law_group" k ["kind"] (SpD K zdC))(c_z19:za2 P w K mg base "_law_parts" k ["script", "start"] (SpN K zgH))(c_z29:za2 P w K mg base "_law_spoiled" k ["plans", "kind", "cell"] (SpD K zbf))(c_z12:za2 P w K mg base "_law_turns" k ["script", "start", "most"] (SpN K zf7)):FnOk P w K mg base CX0 (k+1) f fd ["script"] (SpD K zfD):=by
 have sc:=zoP
 refine zmU (N:=["script", "plans", "kinds", "cell", "first", "later", "one", "other", "twice"]) (ps:=["script"]) (g:=zke) F sc fun cdv A outer s H E hr => ?_
 unfold zke
 exact (zdB (zoI (zan (i:=1) sc.nd rfl (.inl rfl) (QN.qe (zeJ c_z19 hr rfl (zaa (zac (pv 0)) (zaa zad zaf)))))) (zdB (zhu (i:=2) sc.nd rfl (.inl rfl) (zlV (zcU (zcD (ds:=[.int 0,.int 1,.int 2,.int 3]) rfl) (zcU (zcD (ds:=[.int 5,.int 6,.int 7,.int 8,.int 9,.int 10,.int 11,.int 12,.int 16]) rfl) (zcU (zcD (ds:=[.int 13,.int 14]) rfl) (zcU (zcD (ds:=[.int 15]) rfl) zlq)))))) (zhv (zae (zb6 PassesOwn.never rfl (zb3 (q_op zaz (QN.qe (zaW (zaa (zal (x := "len") zaT rfl m.len_ za3 (zaa (zac (pv 0)) zaf)) zaf))) (QN.qe (zeJ c_z12 hr rfl (zaa (zac (pv 0)) (zaa zad (zaa zad zaf))))))) (zaS (zat (i:=3) sc.nd rfl (.inl rfl))) (zae (zan (i:=4) sc.nd rfl (.inl rfl) (q_op zaE (zac (pv 3)) zad)) (zae (zan (i:=5) sc.nd rfl (.inl rfl) (q_op zaz (q_op zaz (zac (pv 4)) zad) (q_op zaE (q_op zaH (zac (pv 3)) zad) (q_op zd5 zad (zac (pv 4)))))) (zae (zan (i:=6) sc.nd rfl (.inl rfl) (zaB (zay hr) (zaB (zay hr) (zac (pv 2)) (zac (pv 4)) (fun _ _=>rfl) (fun _ _=>rfl)) (q_op zaE (q_op zaH (zac (pv 3)) zad) (zal (x := "len") zaT rfl m.len_ za3 (zaa (zaB (zay hr) (zac (pv 2)) (zac (pv 4)) (fun _ _=>rfl) (fun _ _=>rfl)) zaf))) (fun _ _=>rfl) (fun _ _=>rfl))) (zae (zan (i:=7) sc.nd rfl (.inl rfl) (zaB (zay hr) (zaB (zay hr) (zac (pv 2)) (zac (pv 5)) (fun _ _=>rfl) (fun _ _=>rfl)) (q_op zaE (q_op zaH (zac (pv 3)) zad) (zal (x := "len") zaT rfl m.len_ za3 (zaa (zaB (zay hr) (zac (pv 2)) (zac (pv 5)) (fun _ _=>rfl) (fun _ _=>rfl)) zaf))) (fun _ _=>rfl) (fun _ _=>rfl))) (zae (zan (i:=8) sc.nd rfl (.inl rfl) (q_fn c_z29 hr rfl (zaa (q_fn c_z29 hr rfl (zaa (zac (pv 1)) (zaa (zac (pv 7)) (zaa (q_op zaH (zac (pv 3)) zad) zaf)))) (zaa (zac (pv 6)) (zaa (q_op zaH (zac (pv 3)) zad) zaf))))) (zag (zaM (zcp (zcr (q_fn c_z31 hr rfl (zaa (QN.qe (zeJ c_z20 hr rfl (zaa (zac (pv 8)) zaf))) (zaa (q_fn c_z30 hr rfl (zaa (zac (pv 6)) zaf)) zaf))))) (zag (za7 zkn)) zao)))))))) (zag (za7 zkn))))))
end
def zgi (K:PySem.W.Frag):Sp:=fun vs H Q _ => ∃ (a:Addr) (ns:List Int),vs=[.ref a]∧SqL K H a (ns.map V.int)∧ns.length≤63∧∀ H',Q (.bl true) H'
theorem zml (K:PySem.W.Frag)(vs:List V)(H:Hp)(Q:VK)(E:XK)(h:zgi K vs H Q E):SpD K zfD vs H Q E:=by
 refine zc2d h fun a ns zr2 hS hl q => ?_
 obtain rfl:=zr2
 refine ⟨H,[.scr ns],Same.refl _,IsDs.mk (IsD.scr_iff.mpr ⟨a,rfl,hS⟩) .nil,?_⟩
 rw [law_true ns hl]
 intro v F' H' e i
 rw [IsD.bl_iff.mp i]
 exact q H'
theorem all_mk {l:PySem.W.OpenLaw}{w:World}{K:PySem.W.Frag}{h:Heap}{mg:Str→Option Value}{fa:Addr}(X:K.In h)(G:h.Ns mainGlobals mg)(hfa:mg "law" = some (.ref fa))
 {C_AllError:Addr}
 {C_BadName:Addr}
 {C_BadPart:Addr}
 {C_BadPlan:Addr}
 {C_TooLong:Addr}
 {U_BadName:Addr}
 {U_BadPart:Addr}
 {U_BadPlan:Addr}
 {U_BadRow:Addr}
 {U_NoName:Addr}
 {U_NoPlan:Addr}
 {U_TooLong:Addr}
 {U_TooMany:Addr}
 {U_Unlike:Addr}
 {t_FIGURES:Tok}
 {p_KEPT_WORDS:Addr} {dd_KEPT_WORDS:Option Addr} {n_KEPT_WORDS:Nat} {sl_KEPT_WORDS:Array (Option Value)} {t0_KEPT_WORDS t1_KEPT_WORDS t2_KEPT_WORDS t3_KEPT_WORDS t4_KEPT_WORDS:Tok}
 {t_LETTERS:Tok}
 (d_z20:zaY K "_law_book" zm0)
 (d_z0:zaY K "is_name" s_z0)
 (d_z3:zaY K "are_names" s_z3)
 (d_z2:zaY K "look_at_names" s_z2)
 (d_z9:zaY K "is_part" s_z9)
 (d_z6:zaY K "look_at_parts" s_z6)
 (d_z5:zaY K "look_at_items" s_z5)
 (d_z4:zaY K "look_at_plans" s_z4)
 (d_z8:zaY K "weights" s_z8)
 (d_z7:zaY K "look_at_weights" s_z7)
 (d_z1:zaY K "looked" s_z1)
 (d_z31:zaY K "_law_caught" zlI)
 (d_z30:zaY K "_law_group" zlY)
 (d_z10:zaY K "_law_cell_at" zm1)
 (d_z11:zaY K "_law_mixed" zmm)
 (d_z14:zaY K "_law_names" zmb)
 (d_z13:zaY K "_law_far_wait" zlD)
 (d_z16:zaY K "_law_items" zlm)
 (d_z17:zaY K "_law_made" zms)
 (d_z18:zaY K "_law_plan" zlH)
 (d_z12:zaY K "_law_turns" zm6)
 (d_z15:zaY K "_law_pool" zlC)
 (d_z19:zaY K "_law_parts" zle)
 (d_z23:zaY K "_law_grown" zl3)
 (d_z26:zaY K "_law_count_spoiled" zlv)
 (d_z22:zaY K "_law_heavy" zmv)
 (d_z27:zaY K "_law_item_spoiled" zmC)
 (d_z24:zaY K "_law_bad_name" zlh)
 (d_z25:zaY K "_law_name_spoiled" zlt)
 (d_z28:zaY K "_law_part_spoiled" zlg)
 (d_z29:zaY K "_law_spoiled" zm7)
 (d_law:zaY K "law" zmg)
 (a_AllError:PySem.W.nsIn K mainGlobals "AllError" = some (some (.ref C_AllError))) (q_AllError:PySem.W.excIn K C_AllError [.type "ValueError",.type "Exception",.type "BaseException",.type "object"] "ValueError.__new__" = true)
 (a_BadName:PySem.W.nsIn K mainGlobals "BadName" = some (some (.ref C_BadName))) (q_BadName:PySem.W.excIn K C_BadName [.type "ValueError",.type "Exception",.type "BaseException",.type "object"] "ValueError.__new__" = true)
 (a_BadPart:PySem.W.nsIn K mainGlobals "BadPart" = some (some (.ref C_BadPart))) (q_BadPart:PySem.W.excIn K C_BadPart [.type "ValueError",.type "Exception",.type "BaseException",.type "object"] "ValueError.__new__" = true)
 (a_BadPlan:PySem.W.nsIn K mainGlobals "BadPlan" = some (some (.ref C_BadPlan))) (q_BadPlan:PySem.W.excIn K C_BadPlan [.type "ValueError",.type "Exception",.type "BaseException",.type "object"] "ValueError.__new__" = true)
 (a_TooLong:PySem.W.nsIn K mainGlobals "TooLong" = some (some (.ref C_TooLong))) (q_TooLong:PySem.W.excIn K C_TooLong [.type "ValueError",.type "Exception",.type "BaseException",.type "object"] "ValueError.__new__" = true)
 (b_BadName:PySem.W.nsIn K mainGlobals "BadName" = some (some (.ref U_BadName)))
 (b_BadPart:PySem.W.nsIn K mainGlobals "BadPart" = some (some (.ref U_BadPart)))
 (b_BadPlan:PySem.W.nsIn K mainGlobals "BadPlan" = some (some (.ref U_BadPlan)))
 (b_BadRow:PySem.W.nsIn K mainGlobals "BadRow" = some (some (.ref U_BadRow)))
 (b_NoName:PySem.W.nsIn K mainGlobals "NoName" = some (some (.ref U_NoName)))
 (b_NoPlan:PySem.W.nsIn K mainGlobals "NoPlan" = some (some (.ref U_NoPlan)))
 (b_TooLong:PySem.W.nsIn K mainGlobals "TooLong" = some (some (.ref U_TooLong)))
 (b_TooMany:PySem.W.nsIn K mainGlobals "TooMany" = some (some (.ref U_TooMany)))
 (b_Unlike:PySem.W.nsIn K mainGlobals "Unlike" = some (some (.ref U_Unlike)))
 (e_BadName:ExcCl K C_BadName)
 (e_BadPart:ExcCl K C_BadPart)
 (e_BadPlan:ExcCl K C_BadPlan)
 (e_TooLong:ExcCl K C_TooLong)
 (n_BadName_BadPart:NoSub K C_BadName U_BadPart)
 (n_BadName_BadPlan:NoSub K C_BadName U_BadPlan)
 (n_BadName_BadRow:NoSub K C_BadName U_BadRow)
 (n_BadName_NoName:NoSub K C_BadName U_NoName)
 (n_BadName_NoPlan:NoSub K C_BadName U_NoPlan)
 (n_BadName_TooLong:NoSub K C_BadName U_TooLong)
 (n_BadName_TooMany:NoSub K C_BadName U_TooMany)
 (n_BadName_Unlike:NoSub K C_BadName U_Unlike)
 (n_BadPart_BadName:NoSub K C_BadPart U_BadName)
 (n_BadPart_BadPlan:NoSub K C_BadPart U_BadPlan)
 (n_BadPart_BadRow:NoSub K C_BadPart U_BadRow)
 (n_BadPart_NoName:NoSub K C_BadPart U_NoName)
 (n_BadPart_NoPlan:NoSub K C_BadPart U_NoPlan)
 (n_BadPart_TooLong:NoSub K C_BadPart U_TooLong)
 (n_BadPart_TooMany:NoSub K C_BadPart U_TooMany)
 (n_BadPart_Unlike:NoSub K C_BadPart U_Unlike)
 (n_BadPlan_BadName:NoSub K C_BadPlan U_BadName)
 (n_BadPlan_BadPart:NoSub K C_BadPlan U_BadPart)
 (n_BadPlan_BadRow:NoSub K C_BadPlan U_BadRow)
 (n_BadPlan_NoName:NoSub K C_BadPlan U_NoName)
 (n_BadPlan_NoPlan:NoSub K C_BadPlan U_NoPlan)
 (n_BadPlan_TooLong:NoSub K C_BadPlan U_TooLong)
 (n_BadPlan_TooMany:NoSub K C_BadPlan U_TooMany)
 (n_BadPlan_Unlike:NoSub K C_BadPlan U_Unlike)
 (n_TooLong_BadName:NoSub K C_TooLong U_BadName)
 (n_TooLong_BadPart:NoSub K C_TooLong U_BadPart)
 (n_TooLong_BadPlan:NoSub K C_TooLong U_BadPlan)
 (n_TooLong_BadRow:NoSub K C_TooLong U_BadRow)
 (n_TooLong_NoName:NoSub K C_TooLong U_NoName)
 (n_TooLong_NoPlan:NoSub K C_TooLong U_NoPlan)
 (n_TooLong_TooMany:NoSub K C_TooLong U_TooMany)
 (n_TooLong_Unlike:NoSub K C_TooLong U_Unlike)
 (u_BadName_AllError:PySem.W.subIn K (.ref C_BadName) (.ref C_AllError)=some true)
 (u_BadPart_AllError:PySem.W.subIn K (.ref C_BadPart) (.ref C_AllError)=some true)
 (u_BadPlan_AllError:PySem.W.subIn K (.ref C_BadPlan) (.ref C_AllError)=some true)
 (u_TooLong_AllError:PySem.W.subIn K (.ref C_TooLong) (.ref C_AllError)=some true)
 (v_BadName:PySem.W.subIn K (.ref C_BadName) (.type "ValueError")=some true)
 (v_BadPart:PySem.W.subIn K (.ref C_BadPart) (.type "ValueError")=some true)
 (v_BadPlan:PySem.W.subIn K (.ref C_BadPlan) (.type "ValueError")=some true)
 (v_TooLong:PySem.W.subIn K (.ref C_TooLong) (.type "ValueError")=some true)
 (g_FIGURES:PySem.W.nsIn K mainGlobals "FIGURES" = some (some (.str "0123456789" t_FIGURES)))
 (g_KEPT_WORDS:PySem.W.nsIn K mainGlobals "KEPT_WORDS" = some (some (.ref p_KEPT_WORDS))) (h_KEPT_WORDS:K.lookup p_KEPT_WORDS=some ⟨.type "tuple",dd_KEPT_WORDS,.seq #[.str "plan" t0_KEPT_WORDS,.str "given" t1_KEPT_WORDS,.str "all" t2_KEPT_WORDS,.str "first" t3_KEPT_WORDS,.str "part" t4_KEPT_WORDS] n_KEPT_WORDS,sl_KEPT_WORDS⟩)
 (g_LETTERS:PySem.W.nsIn K mainGlobals "LETTERS" = some (some (.str "abcdefghijklmnopqrstuvwxyz" t_LETTERS)))
 (l_Book:zoJ K "Book" "Book.__init__" ["plans"] zeS)
 (l_Plan:zoJ K "Plan" "Plan.__init__" ["name", "givens", "rows"] zeX)
 (z_ValueError:PySem.W.nsIn K mainGlobals "ValueError" = some none)
 (z_abs:PySem.W.nsIn K mainGlobals "abs" = some none)
 (z_all:PySem.W.nsIn K mainGlobals "all" = some none)
 (z_isinstance:PySem.W.nsIn K mainGlobals "isinstance" = some none)
 (z_len:PySem.W.nsIn K mainGlobals "len" = some none)
 (z_list:PySem.W.nsIn K mainGlobals "list" = some none)
 (z_max:PySem.W.nsIn K mainGlobals "max" = some none)
 (z_min:PySem.W.nsIn K mainGlobals "min" = some none)
 (z_range:PySem.W.nsIn K mainGlobals "range" = some none)
 (z_set:PySem.W.nsIn K mainGlobals "set" = some none)
 (z_str:PySem.W.nsIn K mainGlobals "str" = some none)
 (z_sum:PySem.W.nsIn K mainGlobals "sum" = some none)
 (z_tuple:PySem.W.nsIn K mainGlobals "tuple" = some none) :
 ∃ fd:FuncData,(∀ (s:Shared) (v:Value),BindsTo s fd ⟨[v],[]⟩ [("script",v)])∧∀ base:Heap,K.In base→base.Ns mainGlobals mg→FnOk l.prog w K mg base CX0 7 fa fd ["script"] (zgi K):=by
 refine zc2b d_law fun f_law fd_law a_law zfD => ?_
 have e:=hfa.symm.trans (PySem.W.mg_of X G a_law)
 first|exact zqn e|exact zqb e|(obtain rfl:=Option.some.inj e)|cases e
 have m:Mg mg:=⟨PySem.W.mg_none_of X G z_ValueError,PySem.W.mg_none_of X G z_abs,PySem.W.mg_none_of X G z_all,PySem.W.mg_none_of X G z_isinstance,PySem.W.mg_none_of X G z_len,PySem.W.mg_none_of X G z_list,PySem.W.mg_none_of X G z_max,PySem.W.mg_none_of X G z_min,PySem.W.mg_none_of X G z_range,PySem.W.mg_none_of X G z_set,PySem.W.mg_none_of X G z_str,PySem.W.mg_none_of X G z_sum,PySem.W.mg_none_of X G z_tuple⟩
 have x_AllError:Exc K mg "AllError" C_AllError:=⟨a_AllError,PySem.W.mg_of X G a_AllError,q_AllError⟩
 have x_BadName:Exc K mg "BadName" C_BadName:=⟨a_BadName,PySem.W.mg_of X G a_BadName,q_BadName⟩
 have x_BadPart:Exc K mg "BadPart" C_BadPart:=⟨a_BadPart,PySem.W.mg_of X G a_BadPart,q_BadPart⟩
 have x_BadPlan:Exc K mg "BadPlan" C_BadPlan:=⟨a_BadPlan,PySem.W.mg_of X G a_BadPlan,q_BadPlan⟩
 have x_TooLong:Exc K mg "TooLong" C_TooLong:=⟨a_TooLong,PySem.W.mg_of X G a_TooLong,q_TooLong⟩
 have o_BadName:Ucl K mg "BadName" U_BadName:=⟨b_BadName,PySem.W.mg_of X G b_BadName⟩
 have o_BadPart:Ucl K mg "BadPart" U_BadPart:=⟨b_BadPart,PySem.W.mg_of X G b_BadPart⟩
 have o_BadPlan:Ucl K mg "BadPlan" U_BadPlan:=⟨b_BadPlan,PySem.W.mg_of X G b_BadPlan⟩
 have o_BadRow:Ucl K mg "BadRow" U_BadRow:=⟨b_BadRow,PySem.W.mg_of X G b_BadRow⟩
 have o_NoName:Ucl K mg "NoName" U_NoName:=⟨b_NoName,PySem.W.mg_of X G b_NoName⟩
 have o_NoPlan:Ucl K mg "NoPlan" U_NoPlan:=⟨b_NoPlan,PySem.W.mg_of X G b_NoPlan⟩
 have o_TooLong:Ucl K mg "TooLong" U_TooLong:=⟨b_TooLong,PySem.W.mg_of X G b_TooLong⟩
 have o_TooMany:Ucl K mg "TooMany" U_TooMany:=⟨b_TooMany,PySem.W.mg_of X G b_TooMany⟩
 have o_Unlike:Ucl K mg "Unlike" U_Unlike:=⟨b_Unlike,PySem.W.mg_of X G b_Unlike⟩
 have w_FIGURES:=PySem.W.mg_of X G g_FIGURES
 have y_KEPT_WORDS:KTup K mg "KEPT_WORDS" ["plan", "given", "all", "first", "part"]:=⟨_,PySem.W.mg_of X G g_KEPT_WORDS,fun H=>.inr ⟨_,_,_,h_KEPT_WORDS,rfl,rfl,by show 5≤sizeLine;decide,.cons ⟨_,rfl⟩ (.cons ⟨_,rfl⟩ (.cons ⟨_,rfl⟩ (.cons ⟨_,rfl⟩ (.cons ⟨_,rfl⟩ .nil))))⟩⟩
 have w_LETTERS:=PySem.W.mg_of X G g_LETTERS
 obtain ⟨D_Book,fI_Book,fdI_Book,l1_Book,l2_Book,l3_Book,l4_Book,l5_Book⟩:=l_Book
 have k_Book:ClsD K mg "Book" D_Book ["plans"]:=⟨l1_Book,PySem.W.mg_of X G l1_Book,l2_Book,l3_Book⟩
 obtain ⟨D_Plan,fI_Plan,fdI_Plan,l1_Plan,l2_Plan,l3_Plan,l4_Plan,l5_Plan⟩:=l_Plan
 have k_Plan:ClsD K mg "Plan" D_Plan ["name", "givens", "rows"]:=⟨l1_Plan,PySem.W.mg_of X G l1_Plan,l2_Plan,l3_Plan⟩
 refine ⟨fd_law,(by obtain ⟨_,_,_,_,_,_,_,_,_,rfl,_,_⟩:=id zfD.ex;exact fun s v=>.of_eq rfl),fun base _ _ => ?_⟩
 have j_Book:MkD l.prog w K mg base "Book" ["plans"] 1 ["self", "plans"] My.I_Book:=⟨_,_,_,k_Book,l4_Book,zmi l5_Book m k_Book,l5_Book.binds fun _ _ _ _ _ _=>us2 fun _ _=>rfl⟩
 have j_Plan:MkD l.prog w K mg base "Plan" ["name", "givens", "rows"] 1 ["self", "name", "givens", "rows"] My.I_Plan:=⟨_,_,_,k_Plan,l4_Plan,zme l5_Plan m k_Plan,l5_Plan.binds fun _ _ _ _ _ _=>us4 fun _ _ _ _=>rfl⟩
 have C_z20:=d_z20.callee (P:=l.prog) (w:=w) (base:=base) X G (fun F=>znc (k:=2) F m j_Book j_Plan (by decide)) fun _ _ _ _ _ _=>us1 fun _=>rfl
 have C_z0:=d_z0.callee (P:=l.prog) (w:=w) (base:=base) X G (fun F=>ok_z0 (k:=0) F m w_FIGURES y_KEPT_WORDS w_LETTERS) fun _ _ _ _ _ _=>us1 fun _=>rfl
 have C_z3:=d_z3.callee (P:=l.prog) (w:=w) (base:=base) X G (fun F=>ok_z3 (k:=1) F m (C_z0.mono (by decide))) fun _ _ _ _ _ _=>us1 fun _=>rfl
 have C_z2:=d_z2.calleeX (P:=l.prog) (w:=w) (base:=base) X G (fun F=>ok_z2 (k:=2) F m (C_z3.mono (by decide)) x_BadName k_Book k_Plan) fun _ _ _ _ _ _=>us1 fun _=>rfl
 have C_z9:=d_z9.callee (P:=l.prog) (w:=w) (base:=base) X G (fun F=>ok_z9 (k:=0) F m ) fun _ _ _ _ _ _=>us1 fun _=>rfl
 have C_z6:=d_z6.calleeX (P:=l.prog) (w:=w) (base:=base) X G (fun F=>ok_z6 (k:=1) F m (C_z9.mono (by decide)) x_BadPart k_Book k_Plan) fun _ _ _ _ _ _=>us1 fun _=>rfl
 have C_z5:=d_z5.calleeX (P:=l.prog) (w:=w) (base:=base) X G (fun F=>ok_z5 (k:=0) F m x_BadPlan k_Plan) fun _ _ _ _ _ _=>us1 fun _=>rfl
 have C_z4:=d_z4.calleeX (P:=l.prog) (w:=w) (base:=base) X G (fun F=>ok_z4 (k:=1) F m (C_z5.mono (by decide)) x_BadPlan k_Book k_Plan) fun _ _ _ _ _ _=>us1 fun _=>rfl
 have C_z8:=d_z8.callee (P:=l.prog) (w:=w) (base:=base) X G (fun F=>ok_z8 (k:=1) F m (C_z9.mono (by decide)) k_Book k_Plan) fun _ _ _ _ _ _=>us1 fun _=>rfl
 have C_z7:=d_z7.calleeX (P:=l.prog) (w:=w) (base:=base) X G (fun F=>ok_z7 (k:=2) F m (C_z8.mono (by decide)) x_TooLong) fun _ _ _ _ _ _=>us1 fun _=>rfl
 have C_z1:=d_z1.calleeX (P:=l.prog) (w:=w) (base:=base) X G (fun F=>ok_z1 (k:=3) F m (C_z2.mono (by decide)) (C_z6.mono (by decide)) (C_z4.mono (by decide)) (C_z7.mono (by decide))) fun _ _ _ _ _ _=>us1 fun _=>rfl
 have C_z31:=d_z31.callee (P:=l.prog) (w:=w) (base:=base) X G (fun F=>zne (k:=4) F m (C_z1.mono (by decide)) x_AllError x_BadName x_BadPart x_BadPlan x_TooLong o_BadName o_BadPart o_BadPlan o_BadRow o_NoName o_NoPlan o_TooLong o_TooMany o_Unlike e_BadName e_BadPart e_BadPlan e_TooLong n_BadName_BadPart n_BadName_BadPlan n_BadName_BadRow n_BadName_NoName n_BadName_NoPlan n_BadName_TooLong n_BadName_TooMany n_BadName_Unlike n_BadPart_BadName n_BadPart_BadPlan n_BadPart_BadRow n_BadPart_NoName n_BadPart_NoPlan n_BadPart_TooLong n_BadPart_TooMany n_BadPart_Unlike n_BadPlan_BadName n_BadPlan_BadPart n_BadPlan_BadRow n_BadPlan_NoName n_BadPlan_NoPlan n_BadPlan_TooLong n_BadPlan_TooMany n_BadPlan_Unlike n_TooLong_BadName n_TooLong_BadPart n_TooLong_BadPlan n_TooLong_BadRow n_TooLong_NoName n_TooLong_NoPlan n_TooLong_TooMany n_TooLong_Unlike u_BadName_AllError u_BadPart_AllError u_BadPlan_AllError u_TooLong_AllError v_BadName v_BadPart v_BadPlan v_TooLong) fun _ _ _ _ _ _=>us2 fun _ _=>rfl
 have C_z30:=d_z30.callee (P:=l.prog) (w:=w) (base:=base) X G (fun F=>zny (k:=0) F m ) fun _ _ _ _ _ _=>us1 fun _=>rfl
 have C_z10:=d_z10.callee (P:=l.prog) (w:=w) (base:=base) X G (fun F=>zol (k:=0) F m ) fun _ _ _ _ _ _=>us2 fun _ _=>rfl
 have C_z11:=d_z11.callee (P:=l.prog) (w:=w) (base:=base) X G (fun F=>zp3 (k:=0) F m ) fun _ _ _ _ _ _=>us2 fun _ _=>rfl
 have C_z14:=d_z14.callee (P:=l.prog) (w:=w) (base:=base) X G (fun F=>zmS (k:=1) F m (C_z11.mono (by decide))) fun _ _ _ _ _ _=>us2 fun _ _=>rfl
 have C_z13:=d_z13.callee (P:=l.prog) (w:=w) (base:=base) X G (fun F=>zof (k:=1) F m (C_z11.mono (by decide))) fun _ _ _ _ _ _=>us2 fun _ _=>rfl
 have C_z16:=d_z16.callee (P:=l.prog) (w:=w) (base:=base) X G (fun F=>zpj (k:=2) F m (C_z13.mono (by decide)) (C_z11.mono (by decide))) fun _ _ _ _ _ _=>us3 fun _ _ _=>rfl
 have C_z17:=d_z17.callee (P:=l.prog) (w:=w) (base:=base) X G (fun F=>zpt (k:=3) F m (C_z16.mono (by decide)) (C_z11.mono (by decide))) fun _ _ _ _ _ _=>us5 fun _ _ _ _ _=>rfl
 have C_z18:=d_z18.callee (P:=l.prog) (w:=w) (base:=base) X G (fun F=>zmT (k:=4) F m (C_z17.mono (by decide)) (C_z11.mono (by decide)) (C_z14.mono (by decide))) fun _ _ _ _ _ _=>us5 fun _ _ _ _ _=>rfl
 have C_z12:=d_z12.callee (P:=l.prog) (w:=w) (base:=base) X G (fun F=>zpb (k:=0) F m ) fun _ _ _ _ _ _=>us3 fun _ _ _=>rfl
 have C_z15:=d_z15.callee (P:=l.prog) (w:=w) (base:=base) X G (fun F=>zoz (k:=1) F m (C_z12.mono (by decide))) fun _ _ _ _ _ _=>us2 fun _ _=>rfl
 have C_z19:=d_z19.callee (P:=l.prog) (w:=w) (base:=base) X G (fun F=>zpg (k:=5) F m (C_z10.mono (by decide)) (C_z14.mono (by decide)) (C_z18.mono (by decide)) (C_z15.mono (by decide))) fun _ _ _ _ _ _=>us2 fun _ _=>rfl
 have C_z23:=d_z23.callee (P:=l.prog) (w:=w) (base:=base) X G (fun F=>znu (k:=0) F m ) fun _ _ _ _ _ _=>us2 fun _ _=>rfl
 have C_z26:=d_z26.callee (P:=l.prog) (w:=w) (base:=base) X G (fun F=>zpx (k:=1) F m (C_z23.mono (by decide))) fun _ _ _ _ _ _=>us3 fun _ _ _=>rfl
 have C_z22:=d_z22.callee (P:=l.prog) (w:=w) (base:=base) X G (fun F=>zn3 (k:=0) F m ) fun _ _ _ _ _ _=>us1 fun _=>rfl
 have C_z27:=d_z27.callee (P:=l.prog) (w:=w) (base:=base) X G (fun F=>zod (k:=0) F m ) fun _ _ _ _ _ _=>us3 fun _ _ _=>rfl
 have C_z24:=d_z24.callee (P:=l.prog) (w:=w) (base:=base) X G (fun F=>znd (k:=0) F m ) fun _ _ _ _ _ _=>us1 fun _=>rfl
 have C_z25:=d_z25.callee (P:=l.prog) (w:=w) (base:=base) X G (fun F=>zmO (k:=1) F m (C_z24.mono (by decide))) fun _ _ _ _ _ _=>us3 fun _ _ _=>rfl
 have C_z28:=d_z28.callee (P:=l.prog) (w:=w) (base:=base) X G (fun F=>znh (k:=0) F m ) fun _ _ _ _ _ _=>us3 fun _ _ _=>rfl
 have C_z29:=d_z29.callee (P:=l.prog) (w:=w) (base:=base) X G (fun F=>zoO (k:=2) F m (C_z26.mono (by decide)) (C_z23.mono (by decide)) (C_z22.mono (by decide)) (C_z27.mono (by decide)) (C_z25.mono (by decide)) (C_z28.mono (by decide))) fun _ _ _ _ _ _=>us3 fun _ _ _=>rfl
 exact ((zpr (k:=6) (P:=l.prog) (w:=w) (base:=base) zfD m (C_z20.mono (by decide)) (C_z31.mono (by decide)) (C_z30.mono (by decide)) (C_z19.mono (by decide)) (C_z29.mono (by decide)) (C_z12.mono (by decide))).mono (by decide)).imp (zml K)
theorem walk {l:PySem.W.OpenLaw}{q:Program}{loose:List Str}{XP:(Str→Option Value)→Heap→Prop}{YP:World→Heap→Prop}{d:DefRec}{K:Params→PySem.W.Frag}(hn:l.most=some 63)(hdf:d.params.defaults=[])
 (hY:∀ (w:World) (h:Heap),YP w h→(K w.params).In h)
 (F:∀ (w:World) (mg:Str→Option Value) (fa:Addr) (h:Heap),(K w.params).In h→h.Ns mainGlobals mg→mg d.name=some (.ref fa) →
  ∃ fd:FuncData,(∀ (s:Shared) (u:Value),BindsTo s fd ⟨[u],[]⟩ [("script",u)])∧∀ base:Heap,(K w.params).In base→base.Ns mainGlobals mg→FnOk l.prog w (K w.params) mg base CX0 7 fa fd ["script"] (zgi (K w.params))) :
 PySem.W.WalkO q loose XP YP l.row.toRowW d [] (fun f vs=>PySem.call f vs) :=
 L2.walk_of (n:=63) (k:=7) (x := "script") (CX:=fun _=>CX0) (sp:=fun w=>zgi (K w.params)) hn (by decide) hdf ⟨rfl,by decide,by decide⟩ hY F (fun _ _ a ns hl _ hS=>⟨a,ns,rfl,hS,hl,fun _=>rfl⟩) fun _ _ _ _ _ z=>z
end My
open PySem PySem.W PyProof.Rows
def PySem.W.Fast.tw15819777608901755142:=()
def PySem.W.Fast.tw14431600210382698530:=()
def PySem.W.Fast.tw16195644298684049169:=()
def PySem.W.Fast.tw18233811784025010183:=()
def PySem.W.Fast.tw15086997332490438013:=()
def PySem.W.Fast.tw7326181473544085585:=()
def PySem.W.Fast.tw11077369727021665094:=()
def PySem.W.Fast.tw11128576692559824864:=()
def PySem.W.Fast.tw13222948596882633674:=()
def PySem.W.Fast.tw5847713797805824027:=()
def PySem.W.Fast.tw9822373692967418461:=()
def PySem.W.Fast.tw2506920347145157420:=()
def PySem.W.Fast.tw6650459476677719210:=()
def PySem.W.Fast.tw8026942517755391358:=()
def PySem.W.Fast.tw16735318848558311544:=()
def PySem.W.Fast.tw9399061111662414775:=()
def PySem.W.Fast.tw271946544045662426:=()
def PySem.W.Fast.tw10556354071979365676:=()
def PySem.W.Fast.tw16765005930737786296:=()
def PySem.W.Fast.tw8292832988503613148:=()
def PySem.W.Fast.tw17329072260396315851:=()
def PySem.W.Fast.tw16418047052465460143:=()
def PySem.W.Fast.tw18171156642459357556:=()
def PySem.W.Fast.tw7081319191267937950:=()
def PySem.W.Fast.tw2771110129053252151:=()
def PySem.W.Fast.tw3879506532753133457:=()
def PySem.W.Fast.tw14147475619198832514:=()
def PySem.W.Fast.tw16509503128175900585:=()
def PySem.W.Fast.tw7938900574186392720:=()
def PySem.W.Fast.tw6084403501770679275:=()
def PySem.W.Fast.tw15785798396683056411:=()
def PySem.W.Fast.tw14363053009975772570:=()
def PySem.W.Fast.tw2117372557795582318:=()
def PySem.W.Fast.tw10665145838968632895:=()
def PySem.W.Fast.tw12242452270018560586:=()
def PySem.W.Fast.tw11407952520880608778:=()
def PySem.W.Fast.tw10828954518061106612:=()
def PySem.W.Fast.tw15737331240672111693:=()
def PySem.W.Fast.tw2993429659374623948:=()
def PySem.W.Fast.tw11511597695088027980:=()
def PySem.W.Fast.tw10753982692577313450:=()
def PySem.W.Fast.tw4664065366210166340:=()
def PySem.W.Fast.tw9838494345231020551:=()
def PySem.W.Fast.tw11266898405128126304:=()
def PySem.W.Fast.tw13515907733235779813:=()
def PySem.W.Fast.tw9922689898166429345:=()
def PySem.W.Fast.tw17502578563475790861:=()
def PySem.W.Fast.tw8428286243460787454:=()
def PySem.W.Fast.tw1052900500603454246:=()
def PySem.W.Fast.tw17283156475054632437:=()
def PySem.W.Fast.tw17524120826060740805:=()
def PySem.W.Fast.tw6952059979240380356:=()
def PySem.W.Fast.tw8737929831788414293:=()
def PySem.W.Fast.tw3711854964975945497:=()
def PySem.W.Fast.tw13450778046994216113:=()
def PySem.W.Fast.tw4502719654719574066:=()
def PySem.W.Fast.tw10738799078188660631:=()
def PySem.W.Fast.tw1373594314750609909:=()
def PySem.W.Fast.tw5097467591738520012:=()
def PySem.W.Fast.tw18084334801498339330:=()
def PySem.W.Fast.tw2903187933360688156:=()
def PySem.W.Fast.tw7737290415753576837:=()
def PySem.W.Fast.tw5221396894434002828:=()
def PySem.W.Fast.tw16033408106079437470:=()
def PySem.W.Fast.tw12783473396880616807:=()
def PySem.W.Fast.tw9912866150808469623:=()
def PySem.W.Fast.tw12644217117990404726:=()
def PySem.W.Fast.tw9953520854892690709:=()
def PySem.W.Fast.tw16592165413972249719:=()
def PySem.W.Fast.tw1545971457458782864:=()
def PySem.W.Fast.tw11760535639939670025:=()
def PySem.W.Fast.tw10366985008572758760:=()
def PySem.W.Fast.tw14913008113849380912:=()
def PySem.W.Fast.tw14013864165494081727:=()
def PySem.W.Fast.tw16326140000022628916:=()
def PySem.W.Fast.tw191646565980310758:=()
def PySem.W.Fast.tw5931127769755082133:=()
def PySem.W.Fast.tw3588791675878287229:=()
def PySem.W.Fast.tw11733678067203247947:=()
def PySem.W.Fast.tw8743015585380818258:=()
def PySem.W.Fast.tw14166441586397611663:=()
def PySem.W.Fast.tw15819865634865829465:=()
def PySem.W.Fast.tw11295673278505451217:=()
def PySem.W.Fast.tw13172729247086278327:=()
def PySem.W.Fast.tw7122910307566825585:=()
def PySem.W.Fast.tw893912436704147904:=()
def PySem.W.Fast.tw9735005890791401675:=()
def PySem.W.Fast.tw9449959908917620305:=()
def PySem.W.Fast.tw5546932441489670358:=()
def PySem.W.Fast.tw8688804930194930901:=()
def PySem.W.Fast.tw553246227946580950:=()
def PySem.W.Fast.tw3132418435013566118:=()
def PySem.W.Fast.tw2015601726447920518:=()
def PySem.W.Fast.tw18307930708986507991:=()
def PySem.W.Fast.tw16875866437002165570:=()
def PySem.W.Fast.tw1755028215112141387:=()
def PySem.W.Fast.tw12841828745140279363:=()
def PySem.W.Fast.tw5213015461488072170:=()
def PySem.W.Fast.tw2822846004384081211:=()
def PySem.W.Fast.tw9386727853980274611:=()
def PySem.W.Fast.tw7833943323617006398:=()
def PySem.W.Fast.tw745102158694076178:=()
def PySem.W.Fast.tw14943664106108733481:=()
set_option maxRecDepth 100000 in
set_option maxHeartbeats 0 in
theorem PySem.Challenge.cw_allfirst_k47_the_first_fault_is_told_holds : PySem.Challenge.rw_allfirst_k47_the_first_fault_is_told.Holds := by
 w_on;o_law;k_head;(case hw=>w_witness2)
 k_fill
 refine My.walk (l:=PySem.Challenge.rw_allfirst_k47_the_first_fault_is_told) rfl rfl (fun w h Y=>PySem.W.kIn_of Y) ?F
 case F =>
  intro w mg fa h KX G hmg
  refine' My.all_mk KX G hmg ?d_z20 ?d_z0 ?d_z3 ?d_z2 ?d_z9 ?d_z6 ?d_z5 ?d_z4 ?d_z8 ?d_z7 ?d_z1 ?d_z31 ?d_z30 ?d_z10 ?d_z11 ?d_z14 ?d_z13 ?d_z16 ?d_z17 ?d_z18 ?d_z12 ?d_z15 ?d_z19 ?d_z23 ?d_z26 ?d_z22 ?d_z27 ?d_z24 ?d_z25 ?d_z28 ?d_z29 ?d_law ?a_AllError ?q_AllError ?a_BadName ?q_BadName ?a_BadPart ?q_BadPart ?a_BadPlan ?q_BadPlan ?a_TooLong ?q_TooLong ?b_BadName ?b_BadPart ?b_BadPlan ?b_BadRow ?b_NoName ?b_NoPlan ?b_TooLong ?b_TooMany ?b_Unlike ?e_BadName ?e_BadPart ?e_BadPlan ?e_TooLong ?n_BadName_BadPart ?n_BadName_BadPlan ?n_BadName_BadRow ?n_BadName_NoName ?n_BadName_NoPlan ?n_BadName_TooLong ?n_BadName_TooMany ?n_BadName_Unlike ?n_BadPart_BadName ?n_BadPart_BadPlan ?n_BadPart_BadRow ?n_BadPart_NoName ?n_BadPart_NoPlan ?n_BadPart_TooLong ?n_BadPart_TooMany ?n_BadPart_Unlike ?n_BadPlan_BadName ?n_BadPlan_BadPart ?n_BadPlan_BadRow ?n_BadPlan_NoName ?n_BadPlan_NoPlan ?n_BadPlan_TooLong ?n_BadPlan_TooMany ?n_BadPlan_Unlike ?n_TooLong_BadName ?n_TooLong_BadPart ?n_TooLong_BadPlan ?n_TooLong_BadRow ?n_TooLong_NoName ?n_TooLong_NoPlan ?n_TooLong_TooMany ?n_TooLong_Unlike ?u_BadName_AllError ?u_BadPart_AllError ?u_BadPlan_AllError ?u_TooLong_AllError ?v_BadName ?v_BadPart ?v_BadPlan ?v_TooLong ?g_FIGURES ?g_KEPT_WORDS ?h_KEPT_WORDS ?g_LETTERS ?l_Book ?l_Plan ?z_ValueError ?z_abs ?z_all ?z_isinstance ?z_len ?z_list ?z_max ?z_min ?z_range ?z_set ?z_str ?z_sum ?z_tuple
  (case d_z20|d_z0|d_z3|d_z2|d_z9|d_z6|d_z5|d_z4|d_z8|d_z7|d_z1|d_z31|d_z30|d_z10|d_z11|d_z14|d_z13|d_z16|d_z17|d_z18|d_z12|d_z15|d_z19|d_z23|d_z26|d_z22|d_z27|d_z24|d_z25|d_z28|d_z29|d_law=>refine' ⟨_,_,?a,L2.fun_mk ?l ?c ?k⟩;(case a=>k_is);(case l=>k_is);(case c=>k_is);(case k=>k_is))
  (case a_AllError=>k_is)
  (case q_AllError=>k_exc)
  (case a_BadName=>k_is)
  (case q_BadName=>k_exc)
  (case a_BadPart=>k_is)
  (case q_BadPart=>k_exc)
  (case a_BadPlan=>k_is)
  (case q_BadPlan=>k_exc)
  (case a_TooLong=>k_is)
  (case q_TooLong=>k_exc)
  (case b_BadName|b_BadPart|b_BadPlan|b_BadRow|b_NoName|b_NoPlan|b_TooLong|b_TooMany|b_Unlike=>k_is)
  (case e_BadName=>refine' ⟨?e0,?e1,?e2,?e3,?e4,?e5,?e6,?e7⟩;(case e0=>k_is);(case e1=>k_is);(case e2=>k_is);(case e3=>k_is);(case e4=>k_is);(case e5=>k_is);(case e6=>k_is);(case e7=>k_is))
  (case e_BadPart=>refine' ⟨?e0,?e1,?e2,?e3,?e4,?e5,?e6,?e7⟩;(case e0=>k_is);(case e1=>k_is);(case e2=>k_is);(case e3=>k_is);(case e4=>k_is);(case e5=>k_is);(case e6=>k_is);(case e7=>k_is))
  (case e_BadPlan=>refine' ⟨?e0,?e1,?e2,?e3,?e4,?e5,?e6,?e7⟩;(case e0=>k_is);(case e1=>k_is);(case e2=>k_is);(case e3=>k_is);(case e4=>k_is);(case e5=>k_is);(case e6=>k_is);(case e7=>k_is))
  (case e_TooLong=>refine' ⟨?e0,?e1,?e2,?e3,?e4,?e5,?e6,?e7⟩;(case e0=>k_is);(case e1=>k_is);(case e2=>k_is);(case e3=>k_is);(case e4=>k_is);(case e5=>k_is);(case e6=>k_is);(case e7=>k_is))
  (case n_BadName_BadPart=>refine' ⟨?n0,?n1,?n2,?n3⟩;(case n0=>rfl);(case n1=>k_is);(case n2=>k_is);(case n3=>k_is))
  (case n_BadName_BadPlan=>refine' ⟨?n0,?n1,?n2,?n3⟩;(case n0=>rfl);(case n1=>k_is);(case n2=>k_is);(case n3=>k_is))
  (case n_BadName_BadRow=>refine' ⟨?n0,?n1,?n2,?n3⟩;(case n0=>rfl);(case n1=>k_is);(case n2=>k_is);(case n3=>k_is))
  (case n_BadName_NoName=>refine' ⟨?n0,?n1,?n2,?n3⟩;(case n0=>rfl);(case n1=>k_is);(case n2=>k_is);(case n3=>k_is))
  (case n_BadName_NoPlan=>refine' ⟨?n0,?n1,?n2,?n3⟩;(case n0=>rfl);(case n1=>k_is);(case n2=>k_is);(case n3=>k_is))
  (case n_BadName_TooLong=>refine' ⟨?n0,?n1,?n2,?n3⟩;(case n0=>rfl);(case n1=>k_is);(case n2=>k_is);(case n3=>k_is))
  (case n_BadName_TooMany=>refine' ⟨?n0,?n1,?n2,?n3⟩;(case n0=>rfl);(case n1=>k_is);(case n2=>k_is);(case n3=>k_is))
  (case n_BadName_Unlike=>refine' ⟨?n0,?n1,?n2,?n3⟩;(case n0=>rfl);(case n1=>k_is);(case n2=>k_is);(case n3=>k_is))
  (case n_BadPart_BadName=>refine' ⟨?n0,?n1,?n2,?n3⟩;(case n0=>rfl);(case n1=>k_is);(case n2=>k_is);(case n3=>k_is))
  (case n_BadPart_BadPlan=>refine' ⟨?n0,?n1,?n2,?n3⟩;(case n0=>rfl);(case n1=>k_is);(case n2=>k_is);(case n3=>k_is))
  (case n_BadPart_BadRow=>refine' ⟨?n0,?n1,?n2,?n3⟩;(case n0=>rfl);(case n1=>k_is);(case n2=>k_is);(case n3=>k_is))
  (case n_BadPart_NoName=>refine' ⟨?n0,?n1,?n2,?n3⟩;(case n0=>rfl);(case n1=>k_is);(case n2=>k_is);(case n3=>k_is))
  (case n_BadPart_NoPlan=>refine' ⟨?n0,?n1,?n2,?n3⟩;(case n0=>rfl);(case n1=>k_is);(case n2=>k_is);(case n3=>k_is))
  (case n_BadPart_TooLong=>refine' ⟨?n0,?n1,?n2,?n3⟩;(case n0=>rfl);(case n1=>k_is);(case n2=>k_is);(case n3=>k_is))
  (case n_BadPart_TooMany=>refine' ⟨?n0,?n1,?n2,?n3⟩;(case n0=>rfl);(case n1=>k_is);(case n2=>k_is);(case n3=>k_is))
  (case n_BadPart_Unlike=>refine' ⟨?n0,?n1,?n2,?n3⟩;(case n0=>rfl);(case n1=>k_is);(case n2=>k_is);(case n3=>k_is))
  (case n_BadPlan_BadName=>refine' ⟨?n0,?n1,?n2,?n3⟩;(case n0=>rfl);(case n1=>k_is);(case n2=>k_is);(case n3=>k_is))
  (case n_BadPlan_BadPart=>refine' ⟨?n0,?n1,?n2,?n3⟩;(case n0=>rfl);(case n1=>k_is);(case n2=>k_is);(case n3=>k_is))
  (case n_BadPlan_BadRow=>refine' ⟨?n0,?n1,?n2,?n3⟩;(case n0=>rfl);(case n1=>k_is);(case n2=>k_is);(case n3=>k_is))
  (case n_BadPlan_NoName=>refine' ⟨?n0,?n1,?n2,?n3⟩;(case n0=>rfl);(case n1=>k_is);(case n2=>k_is);(case n3=>k_is))
  (case n_BadPlan_NoPlan=>refine' ⟨?n0,?n1,?n2,?n3⟩;(case n0=>rfl);(case n1=>k_is);(case n2=>k_is);(case n3=>k_is))
  (case n_BadPlan_TooLong=>refine' ⟨?n0,?n1,?n2,?n3⟩;(case n0=>rfl);(case n1=>k_is);(case n2=>k_is);(case n3=>k_is))
  (case n_BadPlan_TooMany=>refine' ⟨?n0,?n1,?n2,?n3⟩;(case n0=>rfl);(case n1=>k_is);(case n2=>k_is);(case n3=>k_is))
  (case n_BadPlan_Unlike=>refine' ⟨?n0,?n1,?n2,?n3⟩;(case n0=>rfl);(case n1=>k_is);(case n2=>k_is);(case n3=>k_is))
  (case n_TooLong_BadName=>refine' ⟨?n0,?n1,?n2,?n3⟩;(case n0=>rfl);(case n1=>k_is);(case n2=>k_is);(case n3=>k_is))
  (case n_TooLong_BadPart=>refine' ⟨?n0,?n1,?n2,?n3⟩;(case n0=>rfl);(case n1=>k_is);(case n2=>k_is);(case n3=>k_is))
  (case n_TooLong_BadPlan=>refine' ⟨?n0,?n1,?n2,?n3⟩;(case n0=>rfl);(case n1=>k_is);(case n2=>k_is);(case n3=>k_is))
  (case n_TooLong_BadRow=>refine' ⟨?n0,?n1,?n2,?n3⟩;(case n0=>rfl);(case n1=>k_is);(case n2=>k_is);(case n3=>k_is))
  (case n_TooLong_NoName=>refine' ⟨?n0,?n1,?n2,?n3⟩;(case n0=>rfl);(case n1=>k_is);(case n2=>k_is);(case n3=>k_is))
  (case n_TooLong_NoPlan=>refine' ⟨?n0,?n1,?n2,?n3⟩;(case n0=>rfl);(case n1=>k_is);(case n2=>k_is);(case n3=>k_is))
  (case n_TooLong_TooMany=>refine' ⟨?n0,?n1,?n2,?n3⟩;(case n0=>rfl);(case n1=>k_is);(case n2=>k_is);(case n3=>k_is))
  (case n_TooLong_Unlike=>refine' ⟨?n0,?n1,?n2,?n3⟩;(case n0=>rfl);(case n1=>k_is);(case n2=>k_is);(case n3=>k_is))
  (case u_BadName_AllError|u_BadPart_AllError|u_BadPlan_AllError|u_TooLong_AllError|v_BadName|v_BadPart|v_BadPlan|v_TooLong|g_FIGURES|g_KEPT_WORDS|h_KEPT_WORDS|g_LETTERS=>k_is)
  (case l_Book=>refine' ⟨_,_,_,?ua,⟨?up,?uh,?uo,?us⟩,List.forall_mem_cons.mpr ⟨?uf0,List.forall_mem_nil _⟩,⟨?um,?ui,?un,?ue⟩,L2.fun_mk ?ul ?uc ?uk⟩;(case ua=>k_is);(case ui=>k_is);(case ul=>k_is);(case uc=>k_is);(case uk=>k_is);(case up=>k_is);(case uh=>k_is);(case uo=>k_is);(case us=>k_is);(case um=>k_is);(case un=>k_is);(case ue=>k_is);(case uf0=>show PySem.W.findIn _ _ _=_;k_is))
  (case l_Plan=>refine' ⟨_,_,_,?ua,⟨?up,?uh,?uo,?us⟩,List.forall_mem_cons.mpr ⟨?uf0,List.forall_mem_cons.mpr ⟨?uf1,List.forall_mem_cons.mpr ⟨?uf2,List.forall_mem_nil _⟩⟩⟩,⟨?um,?ui,?un,?ue⟩,L2.fun_mk ?ul ?uc ?uk⟩;(case ua=>k_is);(case ui=>k_is);(case ul=>k_is);(case uc=>k_is);(case uk=>k_is);(case up=>k_is);(case uh=>k_is);(case uo=>k_is);(case us=>k_is);(case um=>k_is);(case un=>k_is);(case ue=>k_is);(case uf0=>show PySem.W.findIn _ _ _=_;k_is);(case uf1=>show PySem.W.findIn _ _ _=_;k_is);(case uf2=>show PySem.W.findIn _ _ _=_;k_is))
  (case z_ValueError|z_abs|z_all|z_isinstance|z_len|z_list|z_max|z_min|z_range|z_set|z_str|z_sum|z_tuple=>k_is)
