import PyProof.Rows.All
import Wide.All
import OpenK.AllK
import Wide.FinOn
import Lean
import PyProof.EqAt
import PyProof.EqKinds
import PyProof.TupleCall
import PyProof.P3Eq
import PyProof.NeData
import PySem.Challenge.RW_allfirst_k34_who_holds_it_up
set_option Elab.async false
set_option linter.all false
set_option maxRecDepth 100000
set_option bootstrap.genMatcherCode false
set_option compiler.extract_closed false
set_option genSizeOf false
noncomputable section
local macro_rules | `(tactic| omega) => `(tactic| lia)
theorem zau (_:True=True:=by rfl):True:=trivial
theorem zav (_:True:=by decide):True:=trivial
theorem zaw (_:Nat->True=True:=by intro _;rfl):True:=trivial
theorem zc0b {p0 p1:Prop}{P:Prop}(h:p0/\p1)(k:p0->p1->P):P:=by
 obtain ⟨h0,h1⟩:=h;exact k h0 h1
theorem zc0c {p0 p1 p2:Prop}{P:Prop}(h:p0/\p1/\p2)(k:p0->p1->p2->P):P:=by
 obtain ⟨h0,h1,h2⟩:=h;exact k h0 h1 h2
theorem zc0d {p0 p1 p2 p3:Prop}{P:Prop}(h:p0/\p1/\p2/\p3)(k:p0->p1->p2->p3->P):P:=by
 obtain ⟨h0,h1,h2,h3⟩:=h;exact k h0 h1 h2 h3
theorem zc0e {p0 p1 p2 p3 p4:Prop}{P:Prop}(h:p0/\p1/\p2/\p3/\p4)(k:p0->p1->p2->p3->p4->P):P:=by
 obtain ⟨h0,h1,h2,h3,h4⟩:=h;exact k h0 h1 h2 h3 h4
theorem zc1a.{u0}{α0:Sort u0}{p0:α0->Prop}{P:Prop}(h:∃ a0,p0 a0)(k:∀ a0,p0 a0->P):P:=by
 obtain ⟨a0,h0⟩:=h;exact k a0 h0
theorem zc1b.{u0}{α0:Sort u0}{p0 p1:α0->Prop}{P:Prop}(h:∃ a0,p0 a0/\p1 a0)(k:∀ a0,p0 a0->p1 a0->P):P:=by
 obtain ⟨a0,h0,h1⟩:=h;exact k a0 h0 h1
theorem zc1c.{u0}{α0:Sort u0}{p0 p1 p2:α0->Prop}{P:Prop}(h:∃ a0,p0 a0/\p1 a0/\p2 a0)(k:∀ a0,p0 a0->p1 a0->p2 a0->P):P:=by
 obtain ⟨a0,h0,h1,h2⟩:=h;exact k a0 h0 h1 h2
theorem zc1d.{u0}{α0:Sort u0}{p0 p1 p2 p3:α0->Prop}{P:Prop}(h:∃ a0,p0 a0/\p1 a0/\p2 a0/\p3 a0)(k:∀ a0,p0 a0->p1 a0->p2 a0->p3 a0->P):P:=by
 obtain ⟨a0,h0,h1,h2,h3⟩:=h;exact k a0 h0 h1 h2 h3
theorem zc1e.{u0}{α0:Sort u0}{p0 p1 p2 p3 p4:α0->Prop}{P:Prop}(h:∃ a0,p0 a0/\p1 a0/\p2 a0/\p3 a0/\p4 a0)(k:∀ a0,p0 a0->p1 a0->p2 a0->p3 a0->p4 a0->P):P:=by
 obtain ⟨a0,h0,h1,h2,h3,h4⟩:=h;exact k a0 h0 h1 h2 h3 h4
theorem zc2a.{u0,u1}{α0:Sort u0}{α1:Sort u1}{p0:α0 -> α1->Prop}{P:Prop}(h:∃ a0 a1,p0 a0 a1)(k:∀ a0 a1,p0 a0 a1->P):P:=by
 obtain ⟨a0,a1,h0⟩:=h;exact k a0 a1 h0
theorem zc2b.{u0,u1}{α0:Sort u0}{α1:Sort u1}{p0 p1:α0 -> α1->Prop}{P:Prop}(h:∃ a0 a1,p0 a0 a1/\p1 a0 a1)(k:∀ a0 a1,p0 a0 a1->p1 a0 a1->P):P:=by
 obtain ⟨a0,a1,h0,h1⟩:=h;exact k a0 a1 h0 h1
theorem zc2c.{u0,u1}{α0:Sort u0}{α1:Sort u1}{p0 p1 p2:α0 -> α1->Prop}{P:Prop}(h:∃ a0 a1,p0 a0 a1/\p1 a0 a1/\p2 a0 a1)(k:∀ a0 a1,p0 a0 a1->p1 a0 a1->p2 a0 a1->P):P:=by
 obtain ⟨a0,a1,h0,h1,h2⟩:=h;exact k a0 a1 h0 h1 h2
theorem zc2d.{u0,u1}{α0:Sort u0}{α1:Sort u1}{p0 p1 p2 p3:α0 -> α1->Prop}{P:Prop}(h:∃ a0 a1,p0 a0 a1/\p1 a0 a1/\p2 a0 a1/\p3 a0 a1)(k:∀ a0 a1,p0 a0 a1->p1 a0 a1->p2 a0 a1->p3 a0 a1->P):P:=by
 obtain ⟨a0,a1,h0,h1,h2,h3⟩:=h;exact k a0 a1 h0 h1 h2 h3
theorem zc3a.{u0,u1,u2}{α0:Sort u0}{α1:Sort u1}{α2:Sort u2}{p0:α0 -> α1 -> α2->Prop}{P:Prop}(h:∃ a0 a1 a2,p0 a0 a1 a2)(k:∀ a0 a1 a2,p0 a0 a1 a2->P):P:=by
 obtain ⟨a0,a1,a2,h0⟩:=h;exact k a0 a1 a2 h0
theorem zc3b.{u0,u1,u2}{α0:Sort u0}{α1:Sort u1}{α2:Sort u2}{p0 p1:α0 -> α1 -> α2->Prop}{P:Prop}(h:∃ a0 a1 a2,p0 a0 a1 a2/\p1 a0 a1 a2)(k:∀ a0 a1 a2,p0 a0 a1 a2->p1 a0 a1 a2->P):P:=by
 obtain ⟨a0,a1,a2,h0,h1⟩:=h;exact k a0 a1 a2 h0 h1
theorem zc3c.{u0,u1,u2}{α0:Sort u0}{α1:Sort u1}{α2:Sort u2}{p0 p1 p2:α0 -> α1 -> α2->Prop}{P:Prop}(h:∃ a0 a1 a2,p0 a0 a1 a2/\p1 a0 a1 a2/\p2 a0 a1 a2)(k:∀ a0 a1 a2,p0 a0 a1 a2->p1 a0 a1 a2->p2 a0 a1 a2->P):P:=by
 obtain ⟨a0,a1,a2,h0,h1,h2⟩:=h;exact k a0 a1 a2 h0 h1 h2
theorem zc4a.{u0,u1,u2,u3}{α0:Sort u0}{α1:Sort u1}{α2:Sort u2}{α3:Sort u3}{p0:α0 -> α1 -> α2 -> α3->Prop}{P:Prop}(h:∃ a0 a1 a2 a3,p0 a0 a1 a2 a3)(k:∀ a0 a1 a2 a3,p0 a0 a1 a2 a3->P):P:=by
 obtain ⟨a0,a1,a2,a3,h0⟩:=h;exact k a0 a1 a2 a3 h0
open PySem PySem.Spec PyProof.Rows
theorem Zqi.{u} {α:Type u}{a b:α}(h:some a=some b):a=b:=Option.some.inj h
theorem Zqg.{u} {α:Type u}{l:List α}{i:Nat}(h:i<l.length):l[i]? = some l[i]:=List.getElem?_eq_getElem h
theorem Zqs.{u} {α:Type u}{a:α}{l:List α}:a∈a::l:=List.mem_cons_self
theorem Zqm.{u} {α:Type u}(y:α){a:α}{l:List α}(h:a∈l):a∈y::l:=List.mem_cons_of_mem y h
theorem Zql.{u,v} {α:Type u}{β:Type v}{l:List α}(f:α->β):(l.map f).length=l.length:=List.length_map f
namespace L2
abbrev Key:=Sum Int Str
noncomputable def zi4:Key->Value->Bool
 | .inl k,v=>Value.isInt k v
 | .inr x,v=>Value.isStrOf x v
noncomputable def keyH (w:World):Key->Int
 | .inl k=>hashInt k
 | .inr x=>hashStr w x
theorem zaL:∀ {k:Key} {v:Value},zi4 k v=true->(∃ i t,k=Sum.inl i/\v=Value.int i t)\/(∃ x t,k=Sum.inr x/\v=Value.str x t)
 | .inl i,v,h=>by
  obtain ⟨t,e⟩:=Value.isInt_shape (k:=i) (v:=v) h;exact .inl ⟨i,t,rfl,e⟩
 | .inr x,v,h=>by
  obtain ⟨t,e⟩:=Value.isStrOf_shape (x:=x) (v:=v) h;exact .inr ⟨x,t,rfl,e⟩
theorem zhB (i:Int)(t:Tok):zi4 (.inl i) (.int i t)=true:=by simp [zi4,Value.isInt]
theorem zkI (x:Str)(t:Tok):zi4 (.inr x) (.str x t)=true:=by simp [zi4,Value.isStrOf]
theorem zty (a b:Int):decide ((Sum.inl a:Key)=Sum.inl b)=(a == b):=by
 by_cases e:a=b
 ·subst e;simp -iota
 ·have h:¬ (Sum.inl a:Key)=Sum.inl b:=fun q=>e (Sum.inl.inj q);rw [decide_eq_false h];exact (beq_eq_false_iff_ne.mpr e).symm
theorem zsT (a b:Str):decide ((Sum.inr a:Key)=Sum.inr b)=decide (a=b):=by
 by_cases e:a=b
 ·subst e;simp -iota
 ·have h:¬ (Sum.inr a:Key)=Sum.inr b:=fun q=>e (Sum.inr.inj q);rw [decide_eq_false h,decide_eq_false e]
theorem zt0 (a:Int)(b:Str):decide ((Sum.inl a:Key)=Sum.inr b)=false:=decide_eq_false (fun q=>nomatch q)
theorem zt2 (a:Str)(b:Int):decide ((Sum.inr a:Key)=Sum.inl b)=false:=decide_eq_false (fun q=>nomatch q)
def zaM (prog:Program)(w:World):PySem.KeyKind prog w Key where
 is:=zi4
 hash:=keyH w
 inj:=fun v a b ha hb=>by
  rcases zaL ha with ⟨i,t,rfl,rfl⟩|⟨x,t,rfl,rfl⟩
  ·rcases zaL hb with ⟨j,u,rfl,e⟩|⟨y,u,rfl,e⟩
   ·injection e with e1 _;rw [e1]
   ·exact nomatch e
  ·rcases zaL hb with ⟨j,u,rfl,e⟩|⟨y,u,rfl,e⟩
   ·exact nomatch e
   ·injection e with e1 _;rw [e1]
 byValue:=fun k v h=>by
  rcases zaL h with ⟨i,t,rfl,rfl⟩|⟨x,t,rfl,rfl⟩<;>rfl
 pyHash:=fun hv h=>by
  rcases zaL hv with ⟨i,t,rfl,rfl⟩|⟨x,t,rfl,rfl⟩
  ·exact wpAny_pyHash_int h
  ·exact wpAny_pyHash_str h
 eqBool:=fun hu hv h=>by
  rcases zaL hu with ⟨i,t,rfl,rfl⟩|⟨x,t,rfl,rfl⟩
  ·rcases zaL hv with ⟨j,u,rfl,rfl⟩|⟨y,u,rfl,rfl⟩
   ·rw [zty] at h;exact wpAny_eqBool_int h
   ·rw [zt0] at h;exact SeqAt.EqAt.int_str i t y u _ _ _ _ h
  ·rcases zaL hv with ⟨j,u,rfl,rfl⟩|⟨y,u,rfl,rfl⟩
   ·rw [zt2] at h;exact SeqAt.EqAt.str_int x t j u _ _ _ _ h
   ·rw [zsT] at h;exact wpAny_eqBool_str h
 «strs»:=fun k x t v h=>by
  rcases zaL h with ⟨i,u,rfl,e⟩|⟨y,u,rfl,e⟩
  ·exact nomatch e
  ·injection e with e1 _
   subst e1;cases v<;>rfl
theorem ziv (prog:Program)(w:World)(i:Int)(t:Tok):(zaM prog w).is (.inl i) (.int i t)=true:=zhB i t
theorem ziy (prog:Program)(w:World)(x:Str)(t:Tok):(zaM prog w).is (.inr x) (.str x t)=true:=zkI x t
inductive V where
 |non|bl (b:Bool)|int (i:Int)|str (x:Str)|byt (b:Array UInt8)|flt (b:UInt64)|ref (a:Addr)|ty (n:String)
 deriving DecidableEq
noncomputable def RelV:V->Value->Prop
 | .non,u=>u=Value.none
 | .bl b,u=>u=Value.bool b
 | .int i,u=>∃ t,u=Value.int i t
 | .str x,u=>∃ t,u=Value.str x t
 | .byt b,u=>∃ t,u=Value.bytes b t
 | .flt b,u=>∃ t,u=Value.float b t
 | .ref a,u=>u=Value.ref a
 | .ty n,u=>u=Value.type n
abbrev Vals:List V->List Value->Prop:=Paired RelV
theorem Vals.length {xs:List V}{us:List Value}(r:Vals xs us):xs.length=us.length:=Paired.length r
theorem Vals.get:∀ {xs:List V} {us:List Value} {i:Nat} {x:V},Vals xs us->xs[i]? = some x->∃ u,us[i]? = some u/\RelV x u
 |_,_,_,_,.nil,e=>by simp -iota at e
 |_,_,0,_,.cons r _,e=>by simp -iota at e;subst e;exact ⟨_,rfl,r⟩
 |_,_,i+1,x,.cons _ t,e=>by
  refine zc1b (Vals.get (i:=i) (x:=x) t (by simpa -iota using e)) fun u h1 h2=>?_;exact ⟨u,by simpa -iota using h1,h2⟩
theorem Vals.set {x:V}{u:Value}(r:RelV x u):∀ {xs:List V} {us:List Value} (i:Nat),Vals xs us->Vals (xs.set i x) (us.set i u)
 |_,_,_,.nil=>.nil
 |_,_,0,.cons _ t=>.cons r t
 |_,_,i+1,.cons q t=>.cons q (Vals.set r i t)
theorem Vals.append:∀ {xs ys:List V} {us ws:List Value},Vals xs us->Vals ys ws->Vals (xs++ys) (us++ws):=fun h s=>by
 induction h with
 |nil=>exact s
 |cons r _ ih=>exact .cons r ih
theorem Vals.none_of:∀ {xs:List V} {us:List Value} {i:Nat},Vals xs us->xs[i]? = none->us[i]? = none:=fun {xs us i} r e=>by
 have h1:=r.length;have h2:xs.length<=i:=List.getElem?_eq_none_iff.mp e;exact List.getElem?_eq_none_iff.mpr (by omega)
def RelO:Option V->Option Value->Prop
 |some v,some u=>RelV v u
 |none,none=>True
 |_,_=>False
def KV {κ : Type}:List (κ × V)->List (κ × Value)->Prop:=Paired fun (p:κ × V) (q:κ × Value)=>p.1=q.1/\RelV p.2 q.2
noncomputable def kV:Key->V
 | .inl i=>.int i
 | .inr x=>.str x
inductive HO where
 |lst (xs:List V)
 |tup (xs:List V)
 |dK (kvs:List (Key×V))|dT (kvs:List (List Key×V))
 |set (S:Int->Bool) (n:Nat)
 |ins (C dx:Addr) (fs:List (Str×V))
 |own (x:Addr)
 |xd (fs:List (Str×V))
 |met (f x:Addr)
 |rng (lo hi:Int)
 |frz (o:Obj) (u:HO)
 |tbl (ps:Array Value)
 |ext (φ : Heap->Prop)
abbrev Hp:=Addr->Option HO
noncomputable def upd (H:Hp)(a:Addr)(o:HO):Hp:=fun b=>if b=a then some o else H b
theorem zao {H:Hp}{a:Addr}{o:HO}:upd H a o a=some o:=by unfold upd;rw [if_pos rfl]
theorem za9 {H:Hp}{a b:Addr}{o:HO}(h:b≠a):upd H a o b=H b:=by unfold upd;rw [if_neg h]
theorem ne_of {H:Hp}{a b:Addr}{o u:HO}(h:H a=some o)(h':H b=some u)(d:o≠u):a≠b:=by
 intro e;subst e;rw [h] at h';exact d (Zqi h')
theorem zb5 {H:Hp}{a b:Addr}{o:HO}(h:H a=some o)(h':H b=none):a≠b:=by
 intro e;subst e;rw [h] at h';cases h'
section
variable (P:Program)(w:World)
def zbc (H:Hp)(h:Heap)(a:Addr):HO->Prop
 | .lst xs=>xs.length<=sizeLine/\∃ (its:List Value) (n:Nat),Vals xs its/\h.get? a=some { cls:=.type "list",data:=.seq its.toArray n }
 | .tup xs=>(xs.length<=sizeLine/\∃ o,h.get? a=some o/\o.dict=none)/\∃ its:List Value,Vals xs its/\IsTup h a its.toArray
 | .dK kvs=>kvs.length<=sizeLine/\(a == sysModules)=false/\∃ vs,KV kvs vs/\h.DictOf (zaM P w) a vs
 | .dT kvs=>kvs.length<=sizeLine/\(a == sysModules)=false/\∃ xs:List (List Key×Addr×Value),
  Paired (fun (p:List Key×V) (q:List Key×Addr×Value)=>p.1=q.1/\H q.2.1=some (.tup (p.1.map kV))/\RelV p.2 q.2.2) kvs xs /\
  ∃ o es ep,h.get? a=some o/\o.ExactDict/\o.data=.dict es ep/\es.toList=xs.map (entryOfKey (tupleKind (zaM P w)))/\(xs.map (·.1)).Nodup
 | .set S n=>h.SetOf (intKind P w) a S n
 | .ins C dx fs=>H dx=some (.own a)/\fs.length<=1000/\dx≠a/\h.get? a=some (W.instObj C dx) /\
  ∃ mA,h.Ns1 dx mA/\(∀ f,RelO (fs.lookup f) (mA f))/\PySem.Within mA (fs.map (·.1))
 | .own _=>∃ o,h.get? a=some o
 | .xd fs=>∃ mA,h.Ns1 a mA/\∀ f,RelO (fs.lookup f) (mA f)
 | .rng lo hi=>∃ t u v,h.get? a=some { cls:=.type "range",data:=.fields #[.int lo t,.int hi u,.int 1 v] }
 | .frz o u=>h.get? a=some o/\zbc H h a u
 | .tbl ps=>h.get? a=some { cls:=.none,data:=.fields ps }
 | .met f x=>h.get? a=some (W.methodObj (.ref f) (.ref x))
 | .ext φ => φ h/\(∃ o,h.get? a=some o)/\∀ h1 h2:Heap,φ h1->(∀ o,h1.get? a=some o->h2.get? a=some o) -> φ h2
def HOk (H:Hp)(h:Heap):Prop:=∀ a o,H a=some o->zbc P w H h a o
end
section
variable {P:Program}{w:World}{H H':Hp}{h h':Heap}{a:Addr}{o:HO}
theorem zbc.lt (x:zbc P w H h a o):a<h.objs.size:=by
 cases o with
 |lst xs=>obtain ⟨_,_,_,_,e⟩:=x;exact Heap.lt_size e
 |tup xs=>obtain ⟨_,_,_,p⟩:=x;exact p.lt
 |dK kvs=>obtain ⟨_,_,_,_,o,_,_,e,_⟩:=x;exact Heap.lt_size e
 |dT kvs=>obtain ⟨_,_,_,_,o,_,_,e,_⟩:=x;exact Heap.lt_size e
 |set S n=>obtain ⟨o,_,_,_,e,_⟩:=x;exact Heap.lt_size e
 |ins C dx fs=>obtain ⟨_,_,_,e,_⟩:=x;exact Heap.lt_size e
 |own y=>obtain ⟨_,e⟩:=x;exact Heap.lt_size e
 |xd fs=>obtain ⟨_,⟨_,_,_,e,_⟩,_⟩:=x;exact Heap.lt_size e
 |rng lo hi=>obtain ⟨_,_,_,e⟩:=x;exact Heap.lt_size e
 |frz ob u=>obtain ⟨e,_⟩:=x;exact Heap.lt_size e
 |tbl ps=>exact Heap.lt_size (show h.get? a=some _ from x)
 |met f y=>exact Heap.lt_size (show h.get? a=some _ from x)
 |ext φ => obtain ⟨_,⟨_,e⟩,_⟩:=x;exact Heap.lt_size e
theorem Paired.mapP {α β : Type}{F G:α -> β -> Prop}:∀ {l₁:List α} {l₂:List β},Paired F l₁ l₂->(∀ a b,F a b->G a b)->Paired G l₁ l₂:=fun h f=>by
 induction h with
 |nil=>exact .nil
 |cons r _ ih=>exact .cons (f _ _ r) ih
theorem zbc.stay (x:zbc P w H h a o)(k:∀ b u,(b=a\/H b=some (.own a))->h.get? b=some u->h'.get? b=some u)
 (ho:∀ b,H b=some (.own a)->H' b=some (.own a)) (ht:∀ b xs,H b=some (.tup xs)->H' b=some (.tup xs)):zbc P w H' h' a o:=by
 induction o with
 |lst xs=>obtain ⟨z,its,n,r,e⟩:=x;exact ⟨z,its,n,r,k _ _ (.inl rfl) e⟩
 |tup xs=>obtain ⟨⟨z,od,ed,dd⟩,its,r,ob,e,c⟩:=x;exact ⟨⟨z,od,k _ _ (.inl rfl) ed,dd⟩,its,r,ob,k _ _ (.inl rfl) e,c⟩
 |dK kvs=>obtain ⟨z,y,vs,r,ob,es,ep,e,c⟩:=x;exact ⟨z,y,vs,r,ob,es,ep,k _ _ (.inl rfl) e,c⟩
 |dT kvs =>
  refine zc0c x fun z y zz=>zc1b zz fun xs r zz=>zc3b zz fun ob es ep e c=>?_;exact ⟨z,y,xs,Paired.mapP r fun p q z=>⟨z.1,ht _ _ z.2.1,z.2.2⟩,ob,es,ep,k _ _ (.inl rfl) e,c⟩
 |set S n=>obtain ⟨ob,es,ep,t,e,c⟩:=x;exact ⟨ob,es,ep,t,k _ _ (.inl rfl) e,c⟩
 |ins C dx fs =>
  refine zc0e x fun d z ne e zz=>zc1b zz fun mA zr5 r=>?_;obtain ⟨od,es,ep,e2,c⟩:=zr5;exact ⟨ho _ d,z,ne,k _ _ (.inl rfl) e,mA,⟨od,es,ep,k _ _ (.inr d) e2,c⟩,r⟩
 |own y=>obtain ⟨ob,e⟩:=x;exact ⟨ob,k _ _ (.inl rfl) e⟩
 |xd fs=>obtain ⟨mA,⟨od,es,ep,e,c⟩,r⟩:=x;exact ⟨mA,⟨od,es,ep,k _ _ (.inl rfl) e,c⟩,r⟩
 |rng lo hi=>obtain ⟨t,u,v,e⟩:=x;exact ⟨t,u,v,k _ _ (.inl rfl) e⟩
 |frz ob u ih=>obtain ⟨e,q⟩:=x;exact ⟨k _ _ (.inl rfl) e,ih q⟩
 |tbl ps =>
  have e:h.get? a=some { cls:=.none,data:=.fields ps }:=x;show h'.get? a=some { cls:=.none,data:=.fields ps };exact k a _ (.inl rfl) e
 |met f y =>
  have e:h.get? a=some (W.methodObj (.ref f) (.ref y)):=x;show h'.get? a=some (W.methodObj (.ref f) (.ref y));exact k a _ (.inl rfl) e
 |ext φ => obtain ⟨p,⟨o,e⟩,st⟩:=x;exact ⟨st _ _ p fun o q=>k _ _ (.inl rfl) q,⟨o,k _ _ (.inl rfl) e⟩,st⟩
theorem HOk.lt (x:HOk P w H h)(e:H a=some o):a<h.objs.size:=(x a o e).lt
theorem HOk.fresh (x:HOk P w H h)(e:h.objs.size<=a):H a=none:=by
 cases q:H a with
 |none=>rfl
 |some u=>exact absurd (Nat.lt_of_lt_of_le (x.lt q) e) (Nat.lt_irrefl _)
theorem HOk.kept (x:HOk P w H h)(k:∀ b u,h.get? b=some u->h'.get? b=some u):HOk P w H h':=fun a o e =>
 (x a o e).stay (fun b u _ q=>k b u q) (fun _ q=>q) fun _ _ q=>q
theorem HOk.laid (x:HOk P w H h)(k:∀ b u,h.get? b=some u->h'.get? b=some u)(hp:h.objs.size<=a)(new:zbc P w (upd H a o) h' a o):HOk P w (upd H a o) h':=fun b u e=>by
 have hn:=x.fresh hp;by_cases hb:b=a
 ·subst hb;rw [zao] at e;cases e;exact new
 ·rw [za9 hb] at e;exact (x b u e).stay (fun c v _ q=>k c v q) (fun c q=>by rw [za9 (zb5 q hn)];exact q) fun c xs q=>by rw [za9 (zb5 q hn)];exact q
end
noncomputable def Rd (H:Hp)(a:Addr)(u:HO):Prop:=H a=some u\/∃ o,H a=some (.frz o u)
theorem Rd.ok {P:Program}{w:World}{H:Hp}{h:Heap}{a:Addr}{u:HO}(r:Rd H a u)(x:HOk P w H h):zbc P w H h a u:=by
 rcases r with r|⟨o,r⟩
 ·exact x a u r
 ·obtain ⟨_,q⟩:=x a _ r;exact q
noncomputable def Mut:Option HO->Prop
 |some (.lst _)=>True
 |some (.dK _)=>True
 |some (.dT _)=>True
 |some (.set _ _)=>True
 |some (.ins _ _ _)=>True
 |some (.ext _)=>True
 |_=>False
section
variable {P:Program}{w:World}{H:Hp}{h h':Heap}{x e:Addr}{o':HO}
theorem HOk.write (ok:HOk P w H h)(mu:Mut (H x))(he:e=x\/H e=some (.own x))(k:∀ b u,b≠e->h.get? b=some u->h'.get? b=some u)(heo:∃ u,h'.get? e=some u)
 (new:zbc P w (upd H x o') h' x o'):HOk P w (upd H x o') h':=fun b u q=>by
 have nown:∀ c y,H c=some (.own y)->c≠x:=fun c y r z=>by subst z;rw [r] at mu;exact mu
 have ntup:∀ c xs,H c=some (.tup xs)->c≠x:=fun c xs r z=>by subst z;rw [r] at mu;exact mu
 by_cases hb:b=x
 ·subst hb;rw [zao] at q;cases q;exact new
 ·rw [za9 hb] at q;by_cases hbe:b=e
  ·have q':H b=some (.own x):=by
    rcases he with z|z
    ·exact absurd (hbe.trans z) hb
    ·rw [hbe];exact z
   rw [q] at q';cases q';obtain ⟨v,hv⟩:=heo;exact ⟨v,by rw [hbe];exact hv⟩
  ·refine (ok b u q).stay (fun c v hc r=>k c v ?_ r) (fun c r=>by rw [za9 (nown c b r)];exact r) fun c xs r=>by rw [za9 (ntup c xs r)];exact r
   rcases hc with rfl|hc
   ·exact hbe
   ·rintro rfl;rcases he with z|z
    ·exact nown c b hc z
    ·rw [hc] at z;cases z;exact hb rfl
end
structure Un (fs ex:List Addr)(H H':Hp)(h h':Heap):Prop where
 keep:∀ b o,h.get? b=some o->H b=none->b∉fs->b∉ex->h'.get? b=some o
 slot:∀ b o,h.get? b=some o->H b=none->b∈fs->b∉ex->∃ sl,h'.get? b=some { o with slots:=sl }
 free:∀ b o,h.get? b=some o->H b=none->b∉ex->H' b=none
 there:∀ b o,h.get? b=some o->b∉ex->∃ o',h'.get? b=some o'
 tups:∀ b xs,H b=some (.tup xs)->H' b=some (.tup xs)
 frzs:∀ b o u,H b=some (.frz o u)->H' b=some (.frz o u)
 tbls:∀ b ps,H b=some (.tbl ps)->∃ more,H' b=some (.tbl (ps++more))
section
variable {fs fs' ex ex':List Addr}{H H1 H2:Hp}{h h1 h2 h':Heap}{a x e:Addr}{o:HO}
theorem Un.any (u:Un fs ex H H1 h h1){b:Addr}{ob:Obj}(q:h.get? b=some ob)(n:H b=none)(hx:b∉ex):∃ sl,h1.get? b=some { ob with slots:=sl }:=by
 by_cases hb:b∈fs
 ·exact u.slot b ob q n hb hx
 ·exact ⟨ob.slots,u.keep b ob q n hb hx⟩
theorem Un.kept (k:∀ b u,h.get? b=some u->h'.get? b=some u):Un fs ex H H h h' :=
 ⟨fun b ob q _ _ _=>k b ob q,fun b ob q _ _ _=>⟨ob.slots,k b ob q⟩,fun _ _ _ n _=>n,fun b ob q _=>⟨ob,k b ob q⟩,fun _ _ q=>q,fun _ _ _ q=>q,fun _ ps q=>⟨#[],by rw [q];simp -iota⟩⟩
theorem Un.refl:Un fs ex H H h h:=Un.kept fun _ _ q=>q
theorem Un.laid (k:∀ b u,h.get? b=some u->h'.get? b=some u)(hp:h.objs.size<=a)(hn:H a=none):Un fs ex H (upd H a o) h h' where
 keep:=fun b u q _ _ _=>k b u q
 slot:=fun b u q _ _ _=>⟨u.slots,k b u q⟩
 free:=fun b u q n _=>by rw [za9 (Nat.ne_of_lt (Nat.lt_of_lt_of_le (Heap.lt_size q) hp))];exact n
 there:=fun b u q _=>⟨u,k b u q⟩
 tups:=fun b xs q=>by rw [za9 (zb5 q hn)];exact q
 frzs:=fun b u xs q=>by rw [za9 (zb5 q hn)];exact q
 tbls:=fun b ps q=>⟨#[],by rw [za9 (zb5 q hn),q];simp -iota⟩
theorem Un.write (mu:Mut (H x))(he:e=x\/H e=some (.own x))(k:∀ b u,b≠e->h.get? b=some u->h'.get? b=some u)(heo:∃ u,h'.get? e=some u):Un fs ex H (upd H x o) h h':=by
 have hx:∀ b,H b=none->b≠x:=fun b n z=>by subst z;rw [n] at mu;exact mu
 have hb:∀ b,H b=none->b≠e:=fun b n z=>by
  subst z;rcases he with r|r
  ·exact hx b n r
  ·rw [n] at r;cases r
 have hm:∀ b u,H b=some u->¬ Mut (some u)->b≠x:=fun b u q nm z=>by subst z;rw [q] at mu;exact nm mu
 refine ⟨fun b u q n _ _=>k b u (hb b n) q,fun b u q n _ _=>⟨u.slots,k b u (hb b n) q⟩,fun b u q n _=>by rw [za9 (hx b n)];exact n,fun b u q _=>?_,
  fun b xs q=>by rw [za9 (hm b _ q fun z=>z)];exact q,fun b u xs q=>by rw [za9 (hm b _ q fun z=>z)];exact q,fun b ps q=>⟨#[],by rw [za9 (hm b _ q fun z=>z),q];simp -iota⟩⟩
 by_cases hbe:b=e
 ·subst hbe;exact heo
 ·exact ⟨u,k b u hbe q⟩
end
noncomputable def trk (h:Heap)(H:Hp):List Addr:=(List.range h.objs.size).filter fun a=>(H a).isSome
def hidT (h:Heap)(H:Hp):Heap:=W.hideAll h (trk h H)
theorem zmL (h:Heap)(H:Hp):(hidT h H).objs.size=h.objs.size:=W.hideAll_size _ _
theorem zok {h:Heap}{H:Hp}{b:Addr}{o:Obj}(e:h.get? b=some o)(n:H b=none):(hidT h H).get? b=some o :=
 W.hideAll_get _ e fun hm=>by
  have q:(H b).isSome=true:=(List.mem_filter.mp hm).2;rw [n] at q;simp -iota at q
theorem zpv {h:Heap}{H:Hp}{b:Addr}{o:Obj}(e:(hidT h H).get? b=some o):h.get? b=some o/\H b=none:=by
 have e':h.get? b=some o:=W.of_hideAll (trk h H) e;refine ⟨e',?_⟩;cases q:H b with
 |none=>rfl
 |some x =>
  have hm:b∈trk h H:=List.mem_filter.mpr ⟨List.mem_range.mpr (Heap.lt_size e'),by simp -iota [q]⟩;have z:(hidT h H).get? b=none:=W.hideAll_none (trk h H) hm;rw [z] at e;cases e
structure Mod (K:W.Frag)(mg:Str->Option Value)(base:Heap):Prop where
 kin:K.In base
 glob:base.Ns mainGlobals mg
 blt:∃ mb,base.Ns builtinsNs mb/\∀ x:Str,x ≠ "__name__" -> mb x=bootBuiltins x
 nolimit:base.NoLimit
structure Cx where
 prog:Program
 w:World
 K:W.Frag
 mg:Str->Option Value
 base:Heap
 A:Around
 N:List Str
 s₀:Shared
 H₀:Hp
 env:Env
 outer:List Env
 stack:List Env
 ex:List Addr
 fn:Str->Bool
 calm:Bool
 pn:List (Addr×Obj)
 xe:Value->Shared->Prop
noncomputable def frs (l:List Env):List Addr:=l.filterMap (·.frame)
abbrev Cx.fs (X:Cx):List Addr:=frs X.outer
noncomputable def Vis (sc:Scope)(x:Str):Prop:=sc.names.lookup x=some .local\/sc.names.lookup x=some .cell\/sc.names.lookup x=some .free
noncomputable def Loc (sc:Scope)(x:Str):Prop:=sc.names.lookup x=some .local\/sc.names.lookup x=some .cell
noncomputable def Look (env:Env)(h:Heap)(m:Str->Option Value)(x:Str)(u:Value):Prop :=
 (env.kindOf x=some .local/\m x=some u)\/((env.kindOf x=some .cell\/env.kindOf x=some .free)/\∃ c,env.cells.lookup x=some c/\h.IsCell c (some u))
structure Cx.Ok (X:Cx):Prop where
 mod:Mod X.K X.mg X.base
 kind:X.env.scope.kind=.function
 glob:X.env.globals=mainGlobals
 blt:X.env.builtins=builtinsNs
 above:X.s₀.heap.objs.size<=X.env.locals
 inj:∀ x y c,X.env.cells.lookup x=some c->X.env.cells.lookup y=some c->x=y
 has:∀ x,(X.env.kindOf x=some .cell\/X.env.kindOf x=some .free)->∃ c,X.env.cells.lookup x=some c
 cab:∀ x c,X.fn x=true->X.env.cells.lookup x=some c->X.s₀.heap.objs.size<=c
 hd:X.calm=true->X.A.handled=none
 frames:X.A.frames=some X.stack
 stk:X.stack=X.outer\/(X.stack=X.env::X.outer/\X.env.frame=some X.env.locals)
 exf:∀ b∈X.ex,b≠X.env.locals/\∀ x c,X.env.cells.lookup x=some c->c≠b
 bs:∀ b o,X.base.get? b=some o->X.s₀.heap.get? b=some o/\X.H₀ b=none
 bsz:X.base.objs.size<=X.s₀.heap.objs.size
 noex:∀ b o,X.base.get? b=some o->b∉X.ex
 exfs:∀ b∈X.ex,b∉X.fs
 funs:X.s₀.heap.FunFrames X.base X.outer
 frf:∀ b∈X.fs,X.H₀ b=none
structure Inv (X:Cx)(pins:List (Addr×Obj))(σ : List (Option V))(H:Hp)(s:Shared):Prop where
 ok:X.Ok
 os:s.os=X.s₀.os
 bare:AllBare s.gens
 base:Un X.fs X.ex X.H₀ H X.s₀.heap s.heap
 loc:∃ m,s.heap.Ns X.env.locals m/\∀ (i:Nat) (x:Str) (v:V),X.N[i]? = some x -> σ[i]? = some (some v)->Vis X.env.scope x->∃ u,RelV v u/\Look X.env s.heap m x u
 cell:∀ x c,X.env.cells.lookup x=some c->∃ v,s.heap.IsCell c v
 free:H X.env.locals=none
 freeC:∀ x c,X.env.cells.lookup x=some c->H c=none
 pin:∀ p∈X.pn++pins,s.heap.get? p.1=some p.2/\H p.1=none/\p.1≠X.env.locals/\p.1∉X.fs/\∀ v,p.2.data ≠ .cell v
 hok:HOk X.prog X.w H s.heap
 len:σ.length=X.N.length
section
variable {X:Cx}{pins:List (Addr×Obj)}{σ : List (Option V)}{H H':Hp}{s:Shared}{h':Heap}
theorem Cx.Ok.nofr (ok:X.Ok){b:Addr}{o:Obj}(e:X.base.get? b=some o):b∉X.fs:=fun hb=>by
 have:=(ok.funs.mem hb).1;rw [e] at this;cases this
theorem Inv.bs (I:Inv X pins σ H s):∀ b o,X.base.get? b=some o->s.heap.get? b=some o/\H b=none:=fun b o e =>
 ⟨I.base.keep b o (I.ok.bs b o e).1 (I.ok.bs b o e).2 (I.ok.nofr e) (I.ok.noex b o e),I.base.free b o (I.ok.bs b o e).1 (I.ok.bs b o e).2 (I.ok.noex b o e)⟩
theorem Inv.bk (I:Inv X pins σ H s):∀ b o,X.base.get? b=some o->s.heap.get? b=some o:=fun b o e=>(I.bs b o e).1
theorem Inv.mod (I:Inv X pins σ H s):Mod X.K X.mg X.base:=I.ok.mod
theorem Inv.kIn (I:Inv X pins σ H s):X.K.In s.heap:=I.ok.mod.kin.keeps I.bk
theorem Inv.lt (I:Inv X pins σ H s):X.env.locals<s.heap.objs.size:=let ⟨_,hn,_⟩:=I.loc;hn.lt
theorem Inv.sz (I:Inv X pins σ H s):X.s₀.heap.objs.size<=s.heap.objs.size:=Nat.le_trans I.ok.above (Nat.le_of_lt I.lt)
theorem Inv.nofs (I:Inv X pins σ H s){a:Addr}(h:s.heap.objs.size<=a):a∉X.fs:=fun hb=>by
 refine zc0b (I.ok.funs.mem hb) fun _ zz=>zc1b zz fun o ho _=>?_;exact absurd (Nat.lt_of_lt_of_le (Heap.lt_size ho) (Nat.le_trans I.sz h)) (Nat.lt_irrefl _)
theorem Inv.cne (I:Inv X pins σ H s):∀ x c,X.env.cells.lookup x=some c->c≠X.env.locals:=fun x c e z=>by
 refine zc2b (I.cell x c e) fun v o ho hd=>?_;refine zc1b I.loc fun m zr1 _=>?_;obtain ⟨o',es,ep,ho',hd',_⟩:=zr1;rw [z,ho'] at ho;cases ho;rw [hd'] at hd;cases hd
theorem Inv.funs (I:Inv X pins σ H s):s.heap.FunFrames X.base X.outer:=by
 have all:∀ (l:List Env),(∀ b∈frs l,b∈X.fs)->X.s₀.heap.FunFrames X.base l->s.heap.FunFrames X.base l:=by
  intro l
  induction l with
  |nil=>intro _ _;trivial
  |cons env r ih =>
   intro hs hl;refine zc0c hl fun hk zr1 hr=>?_;obtain ⟨L,o,hf,hn,ho,hd⟩:=zr1;have hL:L∈X.fs:=hs L (by unfold frs;rw [List.filterMap_cons,hf];exact Zqs);obtain ⟨sl,e⟩:=I.base.slot L o ho (I.ok.frf L hL) hL fun z=>I.ok.exfs L z hL;exact ⟨hk,⟨L,_,hf,hn,e,hd⟩,ih (fun b hb=>hs b (by unfold frs;rw [List.filterMap_cons,hf];exact Zqm _ hb)) hr⟩
 exact all X.outer (fun _ hb=>hb) I.ok.funs
theorem Inv.stack (I:Inv X pins σ H s):s.heap.FunFrames X.base X.stack:=by
 rcases I.ok.stk with e|⟨e,hf⟩
 ·rw [e];exact I.funs
 ·rw [e];refine zc1b I.loc fun m hn _=>?_;refine .cons (by rw [I.ok.kind];decide) hf hn ?_ I.funs;exact Heap.get?_none_of_le (Nat.le_trans I.ok.bsz I.ok.above)
theorem Inv.stkSub (I:Inv X pins σ H s):∀ b∈frs X.stack,b∈X.env.locals::X.fs:=fun b hb=>by
 rcases I.ok.stk with e|⟨e,hf⟩
 ·rw [e] at hb;exact Zqm _ hb
 ·rw [e] at hb;unfold frs at hb;rw [List.filterMap_cons,hf] at hb;exact hb
theorem Inv.stkFree (I:Inv X pins σ H s):∀ b∈frs X.stack,H b=none:=fun b hb=>by
 rcases List.mem_cons.mp (I.stkSub b hb) with e|hb
 ·rw [e];exact I.free
 ·refine zc0b (I.ok.funs.mem hb) fun _ zz=>zc1b zz fun o ho _=>?_;exact I.base.free b o ho (I.ok.frf b hb) fun z=>I.ok.exfs b z hb
theorem Inv.step {g':Array GenState}{t':Nat}{d':Drawn}{ch:List Addr}(I:Inv X pins σ H s)
 (hch:∀ b∈ch,(b∈X.ex\/X.s₀.heap.objs.size<=b)/\b≠X.env.locals/\(∀ x c,X.env.cells.lookup x=some c->c≠b)/\∀ p∈X.pn++pins,p.1≠b)
 (keep:∀ b o,b≠X.env.locals->b∉X.fs->b∉ch->s.heap.get? b=some o->H b=none->h'.get? b=some o)
 (slot:∀ b o,b≠X.env.locals->b∈X.fs->b∉ch->s.heap.get? b=some o->H b=none->∃ sl,h'.get? b=some { o with slots:=sl }) (free:∀ b o,b∉ch->s.heap.get? b=some o->H b=none->H' b=none)
 (there:∀ b o,b∉ch->s.heap.get? b=some o->∃ o',h'.get? b=some o')
 (tups:∀ b xs,H b=some (.tup xs)->H' b=some (.tup xs)) (frzs:∀ b o u,H b=some (.frz o u)->H' b=some (.frz o u)) (tbls:∀ b ps,H b=some (.tbl ps)->∃ more,H' b=some (.tbl (ps++more)))
 (ns:∀ m,s.heap.Ns X.env.locals m->h'.Ns X.env.locals m) (hok:HOk X.prog X.w H' h') (hg:AllBare g') :
 Inv X pins σ H' { s with heap:=h',gens:=g',drawn:=d',toks:=t' }:=by
 have neL:∀ b o,X.s₀.heap.get? b=some o->b≠X.env.locals:=fun b o e=>Nat.ne_of_lt (Nat.lt_of_lt_of_le (Heap.lt_size e) I.ok.above);have neC:∀ b o,X.s₀.heap.get? b=some o->b∉X.ex->b∉ch:=fun b o e hx hb=>by
  rcases (hch b hb).1 with z|z
  ·exact hx z
  ·exact absurd (Nat.lt_of_lt_of_le (Heap.lt_size e) z) (Nat.lt_irrefl _)
 have cellK:∀ x c,X.env.cells.lookup x=some c->∀ v,s.heap.IsCell c v->h'.IsCell c v:=fun x c e v zh=>by
  refine zc1b zh fun o ho hd=>?_;have nch:c∉ch:=fun z=>(hch c z).2.2.1 x c e rfl;by_cases hc:c∈X.fs
  ·obtain ⟨sl,q⟩:=slot c o (I.cne x c e) hc nch ho (I.freeC x c e);exact ⟨_,q,hd⟩
  ·exact ⟨o,keep c o (I.cne x c e) hc nch ho (I.freeC x c e),hd⟩
 refine ⟨I.ok,I.os,hg,⟨fun b o e n hb hx=>?_,fun b o e n hb hx=>?_,fun b o e n hx=>?_,fun b o e hx=>?_,fun b xs e=>tups b xs (I.base.tups b xs e),fun b o xs e=>frzs b o xs (I.base.frzs b o xs e),fun b ps e=>?_⟩,?_,fun x c e=>?_,?_,fun x c e=>?_,fun p hp=>?_,hok,I.len⟩
 ·exact keep b o (neL b o e) hb (neC b o e hx) (I.base.keep b o e n hb hx) (I.base.free b o e n hx)
 ·obtain ⟨sl,e1⟩:=I.base.slot b o e n hb hx;obtain ⟨sl',e2⟩:=slot b _ (neL b o e) hb (neC b o e hx) e1 (I.base.free b o e n hx);exact ⟨sl',e2⟩
 ·obtain ⟨o',e1⟩:=I.base.there b o e hx;exact free b o' (neC b o e hx) e1 (I.base.free b o e n hx)
 ·obtain ⟨o',e1⟩:=I.base.there b o e hx;exact there b o' (neC b o e hx) e1
 ·obtain ⟨m1,e1⟩:=I.base.tbls b ps e;obtain ⟨m2,e2⟩:=tbls b _ e1;exact ⟨m1++m2,by rw [e2,Array.append_assoc]⟩
 ·refine zc1b I.loc fun m hn hl=>?_;refine ⟨m,ns m hn,fun i x v e1 e2 e3=>?_⟩;refine zc1b (hl i x v e1 e2 e3) fun u r l=>?_;refine ⟨u,r,?_⟩;rcases l with l|⟨k,c,e,z⟩
  ·exact .inl l
  ·exact .inr ⟨k,c,e,cellK x c e _ z⟩
 ·obtain ⟨v,z⟩:=I.cell x c e;exact ⟨v,cellK x c e v z⟩
 ·refine zc1b I.loc fun m zr1 _=>?_;obtain ⟨o,_,_,ho,_⟩:=zr1;exact free _ o (fun z=>(hch _ z).2.1 rfl) ho I.free
 ·refine zc2b (I.cell x c e) fun v o ho hd=>?_;exact free c o (fun z=>(hch c z).2.2.1 x c e rfl) ho (I.freeC x c e)
 ·refine zc0e (I.pin p hp) fun e n ne nf d=>?_;have nch:p.1∉ch:=fun z=>(hch p.1 z).2.2.2 p hp rfl;exact ⟨keep p.1 p.2 ne nf nch e n,free p.1 p.2 nch e n,ne,nf,d⟩
theorem Inv.un {t':Nat}(I:Inv X pins σ H s)(u:Un X.fs [] H H' s.heap h')(hok:HOk X.prog X.w H' h'):Inv X pins σ H' { s with heap:=h',toks:=t' }:=by
 refine zc1b (id I.loc) fun m zr1 _=>?_;obtain ⟨o,es,ep,ho,r⟩:=zr1;obtain ⟨sl,hL⟩:=u.any ho I.free (by simp -iota);exact I.step (g':=s.gens) (d':=s.drawn) (ch:=[]) (fun _ z=>nomatch z) (fun b o _ hb _ e n=>u.keep b o e n hb (by simp -iota)) (fun b o _ hb _ e n=>u.slot b o e n hb (by simp -iota)) (fun b o _ e n=>u.free b o e n (by simp -iota)) (fun b o _ e=>u.there b o e (by simp -iota)) u.tups u.frzs u.tbls (fun m' hm=>by
  refine zc3b hm fun o' es' ep' ho' r'=>?_;rw [ho] at ho';cases ho';exact ⟨_,es',ep',hL,r'⟩) hok I.bare
theorem Inv.call {g':Array GenState}{t':Nat}{d':Drawn}{ch:List Addr}(I:Inv X pins σ H s)(u:Un (frs X.stack) ch H H' s.heap h')(hok:HOk X.prog X.w H' h')(hg:AllBare g')
 (hch:∀ b∈ch,(b∈X.ex\/X.s₀.heap.objs.size<=b)/\b≠X.env.locals/\(∀ x c,X.env.cells.lookup x=some c->c≠b)/\∀ p∈X.pn++pins,p.1≠b) :
 Inv X pins σ H' { s with heap:=h',gens:=g',drawn:=d',toks:=t' }:=by
 refine zc1b (id I.loc) fun m zr1 _=>?_;obtain ⟨o,es,ep,ho,r⟩:=zr1;obtain ⟨sl,hL⟩:=u.any ho I.free fun z=>(hch _ z).2.1 rfl;exact I.step (ch:=ch) hch (fun b o hL hb hc e n=>u.keep b o e n (fun z=>(List.mem_cons.mp (I.stkSub b z)).elim hL hb) hc) (fun b o _ _ hc e n=>u.any e n hc) (fun b o hc e n=>u.free b o e n hc) (fun b o hc e=>u.there b o e hc) u.tups u.frzs u.tbls (fun m' hm=>by
  refine zc3b hm fun o' es' ep' ho' r'=>?_;rw [ho] at ho';cases ho';exact ⟨_,es',ep',hL,r'⟩) hok hg
theorem Inv.turned {t':Nat}{it:Addr}(I:Inv X pins σ H s)(k:∀ b o,b≠it->s.heap.get? b=some o->h'.get? b=some o)(hn:H it=none)(hL:it≠X.env.locals)
 (h1:it∈X.ex\/X.s₀.heap.objs.size<=it) (h2:∀ x c,X.env.cells.lookup x=some c->c≠it) (h3:∀ p∈X.pn++pins,p.1≠it):Inv X pins σ H { s with heap:=h',toks:=t' }:=by
 have nit:∀ b u,H b=some u->b≠it:=fun b u e z=>by rw [z,hn] at e;cases e
 refine I.step (g':=s.gens) (d':=s.drawn) (ch:=[it]) (fun b hb=>?_) (fun b o _ _ hc e _=>k b o (fun z=>hc (by simp -iota [z])) e) (fun b o _ _ hc e _=>⟨o.slots,k b o (fun z=>hc (by simp -iota [z])) e⟩) (fun _ _ _ _ n=>n)
  (fun b o hc e=>⟨o,k b o (fun z=>hc (by simp -iota [z])) e⟩) (fun _ _ e=>e) (fun _ _ _ e=>e) (fun b ps e=>⟨#[],by rw [e];simp -iota⟩) (fun m hm=>?_) (fun b u e=>?_) I.bare
 ·have e:b=it:=by simpa -iota using hb
  subst e;exact ⟨h1,hL,h2,h3⟩
 ·refine zc3b hm fun o es ep ho r=>?_;exact ⟨o,es,ep,k _ o (Ne.symm hL) ho,r⟩
 ·refine (I.hok b u e).stay (fun c v hc q=>k c v ?_ q) (fun _ q=>q) fun _ _ q=>q;rcases hc with z|z
  ·rw [z];exact nit b u e
  ·exact nit c _ z
theorem Inv.tok (I:Inv X pins σ H s)(t:Nat):Inv X pins σ H { s with toks:=t }:=I.un (h':=s.heap) (t':=t) Un.refl I.hok
theorem Inv.kept {t':Nat}(I:Inv X pins σ H s)(k:∀ b u,s.heap.get? b=some u->h'.get? b=some u):Inv X pins σ H { s with heap:=h',toks:=t' }:=I.un (Un.kept k) (I.hok.kept k)
theorem Inv.laid {a:Addr}{o:HO}{t':Nat}(I:Inv X pins σ H s)(k:∀ b u,s.heap.get? b=some u->h'.get? b=some u)(hp:s.heap.objs.size<=a)(new:zbc X.prog X.w (upd H a o) h' a o) :
 Inv X pins σ (upd H a o) { s with heap:=h',toks:=t' }:=I.un (Un.laid k hp (I.hok.fresh hp)) (I.hok.laid k hp new)
theorem Inv.write {x e:Addr}{o:HO}{t':Nat}(I:Inv X pins σ H s)(mu:Mut (H x))(he:e=x\/H e=some (.own x))(k:∀ b u,b≠e->s.heap.get? b=some u->h'.get? b=some u)(heo:∃ u,h'.get? e=some u)
 (new:zbc X.prog X.w (upd H x o) h' x o):Inv X pins σ (upd H x o) { s with heap:=h',toks:=t' }:=I.un (Un.write mu he k heo) (I.hok.write mu he k heo new)
theorem Inv.pins_of {pins':List (Addr×Obj)}(I:Inv X pins σ H s)(h:∀ p∈pins',s.heap.get? p.1=some p.2/\H p.1=none/\p.1≠X.env.locals/\p.1∉X.fs/\∀ v,p.2.data ≠ .cell v):Inv X pins' σ H s :=
 ⟨I.ok,I.os,I.bare,I.base,I.loc,I.cell,I.free,I.freeC,fun p hp=>(List.mem_append.mp hp).elim (fun z=>I.pin p (List.mem_append_left _ z)) (h p),I.hok,I.len⟩
theorem zjf {N:List Str}(hN:N.Nodup){i j:Nat}{x:Str}(a:N[i]? = some x)(b:N[j]? = some x):i=j:=by
 obtain ⟨h1,e1⟩:=List.getElem?_eq_some_iff.mp a;obtain ⟨h2,e2⟩:=List.getElem?_eq_some_iff.mp b;exact (List.getElem_inj hN).mp (e1.trans e2.symm)
theorem zkL {M:Model}{A:Around}{E:Value->Shared->Prop}{i:Nat}{x:Str}{v:V}{u:Value}{Q:Unit->Shared->Prop}(I:Inv X pins σ H s)(hN:X.N.Nodup)(hi:X.N[i]? = some x)(hx:Loc X.env.scope x)(r:RelV v u)
 (h:∀ s',Inv X pins (σ.set i (some v)) H s'->(∃ a,Heap.SameBut a s.heap s'.heap/\(a=X.env.locals\/X.env.cells.lookup x=some a))->Q () s') (hf:X.fn x=true\/X.env.scope.names.lookup x=some .local:=by first|exact .inl rfl|exact .inr rfl|assumption):wpAny M A (storeName X.env x u) Q E s:=by
 refine zc1b (id I.loc) fun m hn hl=>?_;have hcls:(X.env.scope.kind == .class||(X.env.scope.kind == .module&&X.env.locals != X.env.globals))=false:=by rw [I.ok.kind];rfl
 have hiσ : i < σ.length:=by rw [I.len];exact (List.getElem?_eq_some_iff.mp hi).1
 have cne:=I.cne;have tracked:∀ {a:Addr} {h':Heap},(∃ o,s.heap.get? a=some o/\H a=none)->Heap.SameBut a s.heap h'->HOk X.prog X.w H h':=fun {a h'} ha hs b ob e=>by
  refine zc1b ha fun _ _ hfree=>?_;refine (I.hok b ob e).stay (fun c w' hc q=>(hs.2 c ?_).trans q) (fun _ q=>q) fun _ _ q=>q;rintro rfl;rcases hc with rfl|hc
  ·rw [hfree] at e;cases e
  ·rw [hfree] at hc;cases hc
 rcases hx with hk|hk
 ·refine wpAny_storeName_local hk hn (fun h' hn' hs=>?_) hcls;refine zc3b (id hn) fun oL _ _ hoL _=>?_;refine h _ ⟨I.ok,I.os,I.bare,⟨fun b o e n hb hx=>?_,fun b o e n hb hx=>?_,I.base.free,fun b o e hx=>?_,I.base.tups,I.base.frzs,I.base.tbls⟩,⟨_,hn',fun j y v' e1 e2 e3=>?_⟩,fun y c e=>?_,I.free,I.freeC,fun p hp=>?_,tracked ⟨oL,hoL,I.free⟩ hs,by simpa -iota using I.len⟩ ⟨_,hs,.inl rfl⟩
  ·exact (hs.2 b (Nat.ne_of_lt (Nat.lt_of_lt_of_le (Heap.lt_size e) I.ok.above))).trans (I.base.keep b o e n hb hx)
  ·obtain ⟨sl,e1⟩:=I.base.slot b o e n hb hx;exact ⟨sl,(hs.2 b (Nat.ne_of_lt (Nat.lt_of_lt_of_le (Heap.lt_size e) I.ok.above))).trans e1⟩
  ·obtain ⟨o',e1⟩:=I.base.there b o e hx;exact ⟨o',(hs.2 b (Nat.ne_of_lt (Nat.lt_of_lt_of_le (Heap.lt_size e) I.ok.above))).trans e1⟩
  ·by_cases hj:j=i
   ·subst hj;rw [hi] at e1;cases e1;rw [List.getElem?_set_self hiσ] at e2;cases e2;exact ⟨u,r,.inl ⟨hk,by simp -iota⟩⟩
   ·rw [List.getElem?_set_ne (Ne.symm hj)] at e2;refine zc1b (hl j y v' e1 e2 e3) fun u' r' q=>?_;refine ⟨u',r',?_⟩;rcases q with ⟨k,e⟩|⟨k,c,e,z⟩
    ·refine .inl ⟨k,?_⟩;have:y≠x:=fun e=>hj (zjf hN e1 (e ▸ hi));simp -iota [this,e]
    ·exact .inr ⟨k,c,e,z.sameBut hs (cne y c e)⟩
  ·obtain ⟨w',z⟩:=I.cell y c e;exact ⟨w',z.sameBut hs (cne y c e)⟩
  ·refine zc0e (I.pin p hp) fun e n ne nf d=>?_;exact ⟨(hs.2 p.1 ne).trans e,n,ne,nf,d⟩
 ·have hfn:X.fn x=true:=by
   rcases hf with z|z
   ·exact z
   ·rw [z] at hk;cases hk
  obtain ⟨c,hc⟩:=I.ok.has x (.inl hk);obtain ⟨w',z⟩:=I.cell x c hc;refine wpAny_storeName_cell I.ok.kind hk hc z (fun h' hc' hs=>?_);refine zc1b (id z) fun oc hoc hocd=>?_;refine h { s with heap:=h' } ⟨I.ok,I.os,I.bare,⟨fun b o e n hb hx=>?_,fun b o e n hb hx=>?_,I.base.free,fun b o e hx=>?_,I.base.tups,I.base.frzs,I.base.tbls⟩,⟨m,hn.sameBut hs (Ne.symm (cne x c hc)),fun j y v' e1 e2 e3=>?_⟩,fun y c' e=>?_,I.free,I.freeC,fun p hp=>?_,tracked ⟨oc,hoc,I.freeC x c hc⟩ hs,by simpa -iota using I.len⟩ ⟨c,hs,.inr hc⟩
  ·exact (hs.2 b (Nat.ne_of_lt (Nat.lt_of_lt_of_le (Heap.lt_size e) (I.ok.cab x c hfn hc)))).trans (I.base.keep b o e n hb hx)
  ·obtain ⟨sl,e1⟩:=I.base.slot b o e n hb hx;exact ⟨sl,(hs.2 b (Nat.ne_of_lt (Nat.lt_of_lt_of_le (Heap.lt_size e) (I.ok.cab x c hfn hc)))).trans e1⟩
  ·obtain ⟨o',e1⟩:=I.base.there b o e hx;exact ⟨o',(hs.2 b (Nat.ne_of_lt (Nat.lt_of_lt_of_le (Heap.lt_size e) (I.ok.cab x c hfn hc)))).trans e1⟩
  ·by_cases hj:j=i
   ·subst hj;rw [hi] at e1;cases e1;rw [List.getElem?_set_self hiσ] at e2;cases e2;exact ⟨u,r,.inr ⟨.inl hk,c,hc,hc'⟩⟩
   ·rw [List.getElem?_set_ne (Ne.symm hj)] at e2;refine zc1b (hl j y v' e1 e2 e3) fun u' r' q=>?_;refine ⟨u',r',?_⟩;rcases q with q|⟨k,c',e,z'⟩
    ·exact .inl q
    ·refine .inr ⟨k,c',e,z'.sameBut hs ?_⟩;rintro rfl;exact hj (zjf hN e1 (I.ok.inj _ _ _ e hc ▸ hi))
  ·by_cases hcc:c'=c
   ·subst hcc;exact ⟨_,hc'⟩
   ·obtain ⟨w2,z2⟩:=I.cell y c' e;exact ⟨w2,z2.sameBut hs hcc⟩
  ·refine zc0e (I.pin p hp) fun e n ne nf d=>?_;refine ⟨(hs.2 p.1 ?_).trans e,n,ne,nf,d⟩;intro q;rw [q,hoc] at e;have q':oc=p.2:=Zqi e;exact d w' (by rw [<- q'];exact hocd)
theorem zg4 {M:Model}{A:Around}{E:Value->Shared->Prop}{i:Nat}{x:Str}{v:V}{u:Value}{Q:Unit->Shared->Prop}(I:Inv X pins σ H s)(hN:X.N.Nodup)(hi:X.N[i]? = some x)(hx:Loc X.env.scope x)(r:RelV v u)
 (h:∀ s',Inv X pins (σ.set i (some v)) H s'->Q () s') (hf:X.fn x=true\/X.env.scope.names.lookup x=some .local:=by first|exact .inl rfl|exact .inr rfl|assumption):wpAny M A (storeName X.env x u) Q E s :=
 zkL I hN hi hx r (fun s' I' _=>h s' I') hf
theorem Inv.call' {s':Shared}{ch:List Addr}(I:Inv X pins σ H s)(ho:s'.os=s.os)(u:Un (frs X.stack) ch H H' s.heap s'.heap)(hok:HOk X.prog X.w H' s'.heap)(hg:AllBare s'.gens)
 (hch:∀ b∈ch,(b∈X.ex\/X.s₀.heap.objs.size<=b)/\b≠X.env.locals/\(∀ x c,X.env.cells.lookup x=some c->c≠b)/\∀ p∈X.pn++pins,p.1≠b):Inv X pins σ H' s':=by
 obtain ⟨h',g',d',t',o'⟩:=s';have e:o'=s.os:=ho;subst e;exact I.call (g':=g') (t':=t') (d':=d') u hok hg hch
end
abbrev XK:=Value->Option Addr->Hp->Prop
abbrev St:=List (Option V)
abbrev VK:=V->Hp->Prop
abbrev TE:=St->Hp->VK->Prop
abbrev TT:=St->Hp->(Bool->Hp->Prop)->Prop
abbrev TA:=St->Hp->(List V->Hp->Prop)->Prop
structure Ends where
 nx:St->Hp->Prop
 rt:VK
 bk:St->Hp->Prop:=fun _ _=>False
 ct:St->Hp->Prop:=fun _ _=>False
abbrev TS:=Ends->St->Hp->Prop
def EP (X:Cx)(pins:List (Addr×Obj))(σ : St)(Q:VK)(u:Value)(s':Shared):Prop:=∃ v H',Inv X pins σ H' s'/\RelV v u/\Q v H'
noncomputable def TP (X:Cx)(pins:List (Addr×Obj))(σ : St)(Q:Bool->Hp->Prop)(b:Bool)(s':Shared):Prop:=∃ H',Inv X pins σ H' s'/\Q b H'
noncomputable def AP (X:Cx)(pins:List (Addr×Obj))(σ : St)(Q:List V->Hp->Prop)(us:List Value)(s':Shared):Prop:=∃ vs H',Inv X pins σ H' s'/\Vals vs us/\Q vs H'
def SP (X:Cx)(pins:List (Addr×Obj))(D:Ends)(f:Flow)(s':Shared):Prop :=
 match f with
 | .next=>∃ σ' H',Inv X pins σ' H' s'/\D.nx σ' H'
 | .brk=>∃ σ' H',Inv X pins σ' H' s'/\D.bk σ' H'
 | .cont=>∃ σ' H',Inv X pins σ' H' s'/\D.ct σ' H'
 | .ret u=>∃ v σ' H',Inv X pins σ' H' s'/\RelV v u/\D.rt v H'
noncomputable def PE (X:Cx)(e:Expr)(t:TE):Prop :=
 ∀ (pins:List (Addr×Obj)) (s:Shared) (σ : St) (H:Hp) (Q:VK),Inv X pins σ H s->t σ H Q->wpAny (model X.prog X.w) X.A (eval e X.env) (EP X pins σ Q) X.xe s
noncomputable def PT (X:Cx)(e:Expr)(t:TT):Prop :=
 ∀ (pins:List (Addr×Obj)) (s:Shared) (σ : St) (H:Hp) (Q:Bool->Hp->Prop),Inv X pins σ H s->t σ H Q->wpAny (model X.prog X.w) X.A (isTrue e X.env (eval e X.env)) (TP X pins σ Q) X.xe s
noncomputable def PW (X:Cx)(e:Expr)(t:TT):Prop :=
 ∀ (whole:Sem Value) (pins:List (Addr×Obj)) (s:Shared) (σ : St) (H:Hp) (Q:Bool->Hp->Prop),Inv X pins σ H s->t σ H Q->wpAny (model X.prog X.w) X.A (isTrue e X.env whole) (TP X pins σ Q) X.xe s
theorem PW.pt {X:Cx}{e:Expr}{t:TT}(h:PW X e t):PT X e t:=h _
noncomputable def PA (X:Cx)(es:List Expr)(t:TA):Prop :=
 ∀ (pos:Pos) (pins:List (Addr×Obj)) (s:Shared) (σ : St) (H:Hp) (Q:List V->Hp->Prop),Inv X pins σ H s->t σ H Q->wpAny (model X.prog X.w) X.A (spliced (backTo pos (starEach es X.env))) (AP X pins σ Q) X.xe s
noncomputable def PS (X:Cx)(st:Stmt)(t:TS):Prop :=
 ∀ (pins:List (Addr×Obj)) (s:Shared) (σ : St) (H:Hp) (D:Ends),Inv X pins σ H s->t D σ H->wpAny (model X.prog X.w) X.A (exec st X.env) (SP X pins D) X.xe s
noncomputable def PSs (X:Cx)(st:List Stmt)(t:TS):Prop :=
 ∀ (pins:List (Addr×Obj)) (s:Shared) (σ : St) (H:Hp) (D:Ends),Inv X pins σ H s->t D σ H->wpAny (model X.prog X.w) X.A (execs st X.env) (SP X pins D) X.xe s
theorem thn {α : Type}{t:Sem α}{Q Q' : α -> Shared->Prop}{M:Model}{A:Around}{E:Value->Shared->Prop}{s:Shared}(h:wpAny M A t Q E s)(hQ:∀ a s,Q a s->Q' a s):wpAny M A t Q' E s:=wpAny_mono h hQ fun _ _ x=>x
section
variable {X:Cx}
noncomputable def tVar (i:Nat):TE:=fun σ H Q=>∃ v,σ[i]? = some (some v)/\Q v H
noncomputable def tC (v:V):TE:=fun _ H Q=>Q v H
theorem zrE {i:Nat}{x:Str}{pos:Pos}(hN:X.N[i]? = some x)(hv:Vis X.env.scope x)(hd:autoParam ((x == ("__debug__" : Str))=false) zav._auto_1)(hcd:autoParam ((x == ("__classdict__" : Str))=false) zav._auto_1):PE X (.Name x pos) (tVar i):=by
 intro pins s σ H Q I h;refine zc1b h fun v e h=>?_;refine zc1b I.loc fun m hn hl=>?_;refine zc1b (hl i x v hN e hv) fun u r l=>?_;have fin:EP X pins σ Q u s:=⟨v,H,I,r,h⟩;rcases l with ⟨hk,hm⟩|⟨hk,c,hc,hcell⟩
 ·exact wpAny_Name (wpAny_loadName_local I.ok.kind hk hn hm fin) hd
 ·rcases hk with hk|hk
  ·exact wpAny_Name (wpAny_loadName_cell I.ok.kind hk hc hcell fin) hd
  ·exact wpAny_Name (wpAny_loadName_free I.ok.kind hk hc hcell fin hcd) hd
theorem zrs {i j pos}:PE X (.Constant (.int i) j pos) (tC (.int i)):=fun _ _ _ H _ I h=>wpAny_Constant_int ⟨.int i,H,I.tok _,⟨_,rfl⟩,h⟩
theorem pe_bl {b j pos}:PE X (.Constant (.bool b) j pos) (tC (.bl b)):=fun _ _ _ H _ I h=>Constant_bool ⟨.bl b,H,I,rfl,h⟩
theorem ztv {j pos}:PE X (.Constant .none j pos) (tC .non):=fun _ _ _ H _ I h=>Constant_none ⟨.non,H,I,rfl,h⟩
theorem zrD {x j pos}:PE X (.Constant (.str x) j pos) (tC (.str x)):=fun _ _ _ H _ I h=>Calls.Constant_str ⟨.str x,H,I.tok _,⟨_,rfl⟩,h⟩
noncomputable def Gl (X:Cx)(x:Str):Prop:=X.env.kindOf x=some .globalImplicit
theorem zgA {E:Value->Shared->Prop}{pins:List (Addr×Obj)}{s:Shared}{σ : St}{H:Hp}{x:Str}{u:Value}{pos:Pos}{Q:Value->Shared->Prop}(I:Inv X pins σ H s)(hg:Gl X x)(hm:X.mg x=some u)(h:Q u s)
 (hd:autoParam ((x == ("__debug__" : Str))=false) zav._auto_1):wpAny (model X.prog X.w) X.A (eval (.Name x pos) X.env) Q E s :=
 Calls.Name_function_global I.ok.kind hg (Calls.loadGlobal_global (by rw [I.ok.glob];exact I.mod.glob.keeps I.bk) hm h) hd
theorem zfP {E:Value->Shared->Prop}{pins:List (Addr×Obj)}{s:Shared}{σ : St}{H:Hp}{x:Str}{u:Value}{pos:Pos}{Q:Value->Shared->Prop}(I:Inv X pins σ H s)(hg:Gl X x)(hm:X.mg x=none)(hv:bootBuiltins x=some u)(h:Q u s)
 (hn:autoParam (x ≠ "__name__") zav._auto_1) (hd:autoParam ((x == ("__debug__" : Str))=false) zav._auto_1):wpAny (model X.prog X.w) X.A (eval (.Name x pos) X.env) Q E s:=by
 refine zc1b I.mod.blt fun mb h1 h2=>?_;exact Calls.Name_function_global I.ok.kind hg (Calls.loadGlobal_builtin (by rw [I.ok.glob];exact I.mod.glob.keeps I.bk) hm (by rw [I.ok.blt];exact h1.keeps I.bk) ((h2 x hn).trans hv) h) hd
theorem zqH {x:Str}{v:V}{u:Value}{pos:Pos}(hg:Gl X x)(hm:X.mg x=none)(hv:bootBuiltins x=some u)(r:RelV v u)(hn:autoParam (x ≠ "__name__") zav._auto_1)(hd:autoParam ((x == ("__debug__" : Str))=false) zav._auto_1):PE X (.Name x pos) (tC v) :=
 fun _ _ _ H _ I h=>zfP I hg hm hv ⟨v,H,I,r,h⟩ hn hd
variable {a b:Expr}{ta tb:TE}{pos:Pos}
noncomputable def PC (X:Cx)(op:CmpOp)(a b:Expr)(t:TE):Prop :=
 ∀ (pins:List (Addr×Obj)) (s:Shared) (σ : St) (H:Hp) (Q:VK),Inv X pins σ H s->t σ H Q ->
  wpAny (model X.prog X.w) X.A (eval a X.env) (fun v s₁=>wpAny (model X.prog X.w) X.A (eval b X.env) (fun u s₂=>wpAny (model X.prog X.w) X.A (compareOp op v u) (EP X pins σ Q) X.xe s₂) X.xe s₁) X.xe s
theorem ziP (b:Expr){op:CmpOp}(h:op ≠ .In)(h2:op ≠ .NotIn):behindInMarks op b=false:=by
 have e1:(op == CmpOp.In)=false:=by cases op<;>first|rfl|exact absurd rfl h
 have e2:(op == CmpOp.NotIn)=false:=by cases op<;>first|rfl|exact absurd rfl h2
 cases b<;>first|rfl|(show (_&&(_||_)&&_)=false;rw [e1,e2,Bool.or_self,Bool.and_false,Bool.false_and])
noncomputable def tIsN (ta:TE):TE:=fun σ H Q=>ta σ H fun x H1=>Q (.bl (decide (x=.non))) H1
theorem RelV.none_iff {x:V}{v:Value}(r:RelV x v):(v == Value.none)=decide (x=.non):=by
 cases x with
 |non=>cases r;rfl
 |bl _=>cases r;rfl
 |int _=>obtain ⟨t,rfl⟩:=r;rfl
 |str _=>obtain ⟨t,rfl⟩:=r;rfl
 |byt _=>obtain ⟨t,rfl⟩:=r;rfl
 |flt _=>obtain ⟨t,rfl⟩:=r;rfl
 |ref _=>cases r;rfl
 |ty _=>cases r;rfl
theorem zrS {j pos'}(ha:PE X a ta):PC X .Is a (.Constant .none j pos') (tIsN ta):=by
 intro pins s σ H Q I h;refine thn (ha pins s σ H _ I h) fun v s1 zh=>?_;refine zc2c zh fun x H1 I1 r1 q1=>?_;exact Constant_none (is_none_gen ⟨.bl _,H1,I1,by rw [r1.none_iff];rfl,q1⟩)
noncomputable def tB (t:TE):TT:=fun σ H Q=>t σ H fun x H1=>∃ c,x=.bl c/\Q c H1
theorem zs6 {op:CmpOp}{t:TE}(h:PC X op a b t)(h1:behindInMarks op b=false:=by first|exact ziP _ (by decide) (by decide)|rfl):PE X (.Compare a [op] [b] pos) t:=fun pins s σ H Q I hw=>wpAny_Compare1 (h pins s σ H Q I hw) h1
theorem zk0 {op:CmpOp}{t:TE}(h:PC X op a b t)(h1:behindInMarks op b=false:=by first|exact ziP _ (by decide) (by decide)|rfl):PT X (.Compare a [op] [b] pos) (tB t):=by
 intro pins s σ H Q I hw;refine wpAny_isTrue_Compare1 (thn (h pins s σ H _ I hw) fun v s1 h1=>thn h1 fun u s2 h2=>thn h2 fun c s3 ⟨x,H1,I1,r1,q1⟩=>?_) h1;refine zc1b q1 fun d zr1 q=>?_;subst zr1;cases r1;exact wpAny_truthy_bool ⟨H1,I1,q⟩
theorem ztg {e:Expr}{t:TE}(h:PE X e t)(he:autoParam (∀ whole,isTrue e X.env whole=(do let v <- whole;standAt e.pos;holding [v] (truthy v))) zaw._auto_1):PT X e (tB t):=by
 intro pins s σ H Q I hw;refine isTrue_plain (thn (h pins s σ H _ I hw) fun v s1 ⟨x,H1,I1,r1,q1⟩=>?_) (he _);refine zc1b q1 fun d zr1 q=>?_;subst zr1;cases r1;exact wpAny_truthy_bool ⟨H1,I1,q⟩
variable {tA tB':TT}{rest:List Expr}
noncomputable def tAnd (t u:TT):TT:=fun σ H Q=>t σ H fun c H1=>if c=true then u σ H1 Q else Q false H1
noncomputable def tOr (t u:TT):TT:=fun σ H Q=>t σ H fun c H1=>if c=true then Q true H1 else u σ H1 Q
noncomputable def tNot (t:TT):TT:=fun σ H Q=>t σ H fun c H1=>Q (!c) H1
theorem zq6 (ha:PT X a tA):PW X (.BoolOp .And [a] pos) tA:=by
 intro wh pins s σ H Q I h;refine isTrue_and (thn (ha pins s σ H Q I h) fun c s1 e=>?_);cases c with
 |true=>exact isTrue_and_nil e
 |false=>exact e
theorem ztA (ha:PT X a tA):PW X (.BoolOp .Or [a] pos) tA:=by
 intro wh pins s σ H Q I h;refine isTrue_or (thn (ha pins s σ H Q I h) fun c s1 e=>?_);cases c with
 |false=>exact isTrue_or_nil e
 |true=>exact e
theorem zrO (ha:PT X a tA)(hb:PW X (.BoolOp .And (b::rest) pos) tB'):PW X (.BoolOp .And (a::b::rest) pos) (tAnd tA tB'):=by
 intro wh pins s σ H Q I h;refine isTrue_and (thn (ha pins s σ H _ I h) fun c s1 zh=>?_);refine zc1b zh fun H1 I1 q1=>?_;cases c with
 |true=>exact hb wh pins s1 σ H1 Q I1 q1
 |false=>exact ⟨H1,I1,q1⟩
theorem pw_or (ha:PT X a tA)(hb:PW X (.BoolOp .Or (b::rest) pos) tB'):PW X (.BoolOp .Or (a::b::rest) pos) (tOr tA tB'):=by
 intro wh pins s σ H Q I h;refine isTrue_or (thn (ha pins s σ H _ I h) fun c s1 zh=>?_);refine zc1b zh fun H1 I1 q1=>?_;cases c with
 |true=>exact ⟨H1,I1,q1⟩
 |false=>exact hb wh pins s1 σ H1 Q I1 q1
theorem zsz (ha:PT X a tA):PT X (.UnaryOp .Not a pos) (tNot tA):=by
 intro pins s σ H Q I h;exact isTrue_not (ha pins s σ H (fun c H1=>Q (!c) H1) I h)
noncomputable def tAndV (ta tb:TE):TE:=fun σ H Q=>ta σ H fun x H1=>∃ c,x=.bl c/\if c=true then tb σ H1 Q else Q (.bl false) H1
noncomputable def tNotV (ta:TE):TE:=fun σ H Q=>ta σ H fun x H1=>∃ c,x=.bl c/\Q (.bl (!c)) H1
theorem zsc {op}{t:TE}(h:PE X a t):PE X (.BoolOp op [a] pos) t:=fun pins s σ H Q I hw=>BoolOp_one (h pins s σ H Q I hw)
theorem zti (ha:PE X a ta)(hb:PE X (.BoolOp .And (b::rest) pos) tb):PE X (.BoolOp .And (a::b::rest) pos) (tAndV ta tb):=by
 intro pins s σ H Q I h;refine BoolOp_and (thn (ha pins s σ H _ I h) fun v s1 zh=>?_);obtain ⟨x,H1,I1,r1,q1⟩:=zh;obtain ⟨c,rfl,q1⟩:=q1;cases r1;refine wpAny_truthy_bool ?_;cases c with
 |true=>exact hb pins s1 σ H1 Q I1 q1
 |false=>exact ⟨.bl false,H1,I1,rfl,q1⟩
theorem zry (ha:PE X a ta):PE X (.UnaryOp .Not a pos) (tNotV ta):=by
 intro pins s σ H Q I h;refine UnaryOp_ (thn (ha pins s σ H _ I h) fun v s1 zh=>?_);obtain ⟨x,H1,I1,r1,q1⟩:=zh;obtain ⟨c,rfl,q1⟩:=q1;cases r1;exact not_of (wpAny_truthy_bool ⟨.bl (!c),H1,I1,rfl,q1⟩)
end
noncomputable def SqL (K:W.Frag)(H:Hp)(a:Addr)(xs:List V):Prop :=
 Rd H a (.lst xs) \/
  ∃ (o:Obj) (its:Array Value) (n:Nat),K.lookup a=some o/\o.cls=.type "list" /\ o.dict=none/\o.data=.seq its n/\its.size<=sizeLine/\Vals xs its.toList
noncomputable def SqT (K:W.Frag)(H:Hp)(a:Addr)(xs:List V):Prop :=
 Rd H a (.tup xs) \/
  ∃ (o:Obj) (its:Array Value) (n:Nat),K.lookup a=some o/\o.cls=.type "tuple" /\ o.data=.seq its n/\its.size<=sizeLine/\Vals xs its.toList
noncomputable def absV:Value->Option V
 | .none=>some .non
 | .bool b=>some (.bl b)
 | .int i _=>some (.int i)
 | .str x _=>some (.str x)
 | .bytes b _=>some (.byt b)
 | .float b _=>some (.flt b)
 | .ref a=>some (.ref a)
 | .type n=>some (.ty n)
 |_=>none
theorem RelV.abs {x:V}{u:Value}(r:RelV x u):absV u=some x:=by
 cases x with
 |non=>cases r;rfl
 |bl _=>cases r;rfl
 |int _=>obtain ⟨t,rfl⟩:=r;rfl
 |str _=>obtain ⟨t,rfl⟩:=r;rfl
 |byt _=>obtain ⟨t,rfl⟩:=r;rfl
 |flt _=>obtain ⟨t,rfl⟩:=r;rfl
 |ref _=>cases r;rfl
 |ty _=>cases r;rfl
theorem RelV.inj {x y:V}{u:Value}(r:RelV x u)(q:RelV y u):x=y:=Zqi (r.abs.symm.trans q.abs)
theorem Vals.inj:∀ {xs ys:List V} {us:List Value},Vals xs us->Vals ys us->xs=ys:=fun {xs ys us} g h=>by
 induction g generalizing ys with
 |nil=>cases h;rfl
 |cons r _ ih =>
  cases h with
  |cons r' t'=>rw [r.inj r',ih t']
section
variable {X:Cx}{pins:List (Addr×Obj)}{σ : St}{H:Hp}{s:Shared}{a:Addr}{xs ys:List V}
theorem SqL.of {K:W.Frag}(h:H a=some (.lst xs)):SqL K H a xs:=.inl (.inl h)
theorem SqT.of {K:W.Frag}(h:H a=some (.tup xs)):SqT K H a xs:=.inl (.inl h)
theorem Inv.list (I:Inv X pins σ H s)(h:SqL X.K H a xs):∃ its:List Value,Vals xs its/\PlainL s.heap a its.toArray/\xs.length<=sizeLine:=by
 rcases h with h|⟨o,its,n,hk,hc,hd,hs,hz,r⟩
 ·refine zc0b (h.ok I.hok) fun z zz=>zc2b zz fun its n r e=>?_;exact ⟨its,r,⟨_,n,e,rfl,rfl,rfl⟩,z⟩
 ·refine ⟨its.toList,r,⟨o,n,I.kIn a o hk,hc,hd,by simpa -iota using hs⟩,?_⟩;have e:=r.length;simp -iota only [Array.length_toList] at e;omega
theorem Inv.tuple (I:Inv X pins σ H s)(h:SqT X.K H a xs):∃ its:List Value,Vals xs its/\IsTup s.heap a its.toArray/\xs.length<=sizeLine:=by
 rcases h with h|⟨o,its,n,hk,hc,hs,hz,r⟩
 ·obtain ⟨z,its,r,p⟩:=h.ok I.hok;exact ⟨its,r,p,z.1⟩
 ·refine ⟨its.toList,r,⟨o,I.kIn a o hk,hc,n,by simpa -iota using hs⟩,?_⟩;have e:=r.length;simp -iota only [Array.length_toList] at e;omega
theorem Inv.list_inj (I:Inv X pins σ H s)(h:SqL X.K H a xs)(h':SqL X.K H a ys):xs=ys:=by
 refine zc1c (I.list h) fun its r zr2 _=>?_;obtain ⟨o,n,e,_,_,d⟩:=zr2;refine zc1c (I.list h') fun its' r' zr2 _=>?_;obtain ⟨o',n',e',_,_,d'⟩:=zr2;rw [e] at e';cases e';rw [d] at d';injection d' with d1 _
 have:its=its':=by simpa -iota using congrArg Array.toList d1
 subst this;exact r.inj r'
theorem Inv.tuple_inj (I:Inv X pins σ H s)(h:SqT X.K H a xs)(h':SqT X.K H a ys):xs=ys:=by
 refine zc1c (I.tuple h) fun its r zr2 _=>?_;obtain ⟨o,e,_,n,d⟩:=zr2;refine zc1c (I.tuple h') fun its' r' zr2 _=>?_;obtain ⟨o',e',_,n',d'⟩:=zr2;rw [e] at e';cases e';rw [d] at d';injection d' with d1 _
 have:its=its':=by simpa -iota using congrArg Array.toList d1
 subst this;exact r.inj r'
end
abbrev Cx.wish (X:Cx)(E:Value->Shared->Prop):Cx:={ X with xe:=E }
abbrev Cx.nox (X:Cx):Cx:=X.wish fun _ _=>False
theorem Cx.Ok.wish {X:Cx}(ok:X.Ok)(E:Value->Shared->Prop):(X.wish E).Ok :=
 ⟨ok.mod,ok.kind,ok.glob,ok.blt,ok.above,ok.inj,ok.has,ok.cab,ok.hd,ok.frames,ok.stk,ok.exf,ok.bs,ok.bsz,ok.noex,ok.exfs,ok.funs,ok.frf⟩
theorem Cx.Ok.unwish {X:Cx}{E:Value->Shared->Prop}(ok:(X.wish E).Ok):X.Ok :=
 ⟨ok.mod,ok.kind,ok.glob,ok.blt,ok.above,ok.inj,ok.has,ok.cab,ok.hd,ok.frames,ok.stk,ok.exf,ok.bs,ok.bsz,ok.noex,ok.exfs,ok.funs,ok.frf⟩
section
variable {X:Cx}{pins:List (Addr×Obj)}{σ : St}{H:Hp}{s:Shared}{E:Value->Shared->Prop}
theorem Inv.wish (I:Inv X pins σ H s)(E:Value->Shared->Prop):Inv (X.wish E) pins σ H s:=⟨I.ok.wish E,I.os,I.bare,I.base,I.loc,I.cell,I.free,I.freeC,I.pin,I.hok,I.len⟩
theorem Inv.unwish (I:Inv (X.wish E) pins σ H s):Inv X pins σ H s:=⟨I.ok.unwish,I.os,I.bare,I.base,I.loc,I.cell,I.free,I.freeC,I.pin,I.hok,I.len⟩
theorem SP.unwish {D:Ends}{f:Flow}{s':Shared}(h:SP (X.wish E) pins D f s'):SP X pins D f s':=by
 cases f with
 |next=>obtain ⟨σ',H',I,q⟩:=h;exact ⟨σ',H',I.unwish,q⟩
 |brk=>obtain ⟨σ',H',I,q⟩:=h;exact ⟨σ',H',I.unwish,q⟩
 |cont=>obtain ⟨σ',H',I,q⟩:=h;exact ⟨σ',H',I.unwish,q⟩
 |ret u=>obtain ⟨v,σ',H',I,r,q⟩:=h;exact ⟨v,σ',H',I.unwish,r,q⟩
theorem PSs.nox {st:List Stmt}{t:TS}(h:PSs X.nox st t):PSs X st t:=fun pins s σ H D I hw =>
 wpAny_mono (h pins s σ H D (I.wish _) hw) (fun _ _ q=>q.unwish) fun _ _ z=>False.elim z
end
section
variable {X:Cx}{st:Stmt}{rest:List Stmt}{t u:TS}{e:Expr}{te:TE}{pos:Pos}
noncomputable def tNext:TS:=fun D σ H=>D.nx σ H
noncomputable def tSeq (t u:TS):TS:=fun D σ H=>t { D with nx:=u D } σ H
theorem zpF:PSs X [] tNext:=fun _ _ σ H _ I h=>wpAny_execs_nil ⟨σ,H,I,h⟩
theorem zom (h1:PS X st t)(h2:PSs X rest u):PSs X (st::rest) (tSeq t u):=by
 intro pins s σ H D I h;refine wpAny_execs_cons (thn (h1 pins s σ H { D with nx:=u D } I h) fun f s1 q=>?_);cases f with
 |next =>
  refine zc2b q fun σ' H' I' q=>?_;exact h2 pins s1 σ' H' D I' q
 |ret v=>exact q
 |brk=>exact q
 |cont=>exact q
theorem zpV (h1:PS X st t):PSs X [st] t:=by
 intro pins s σ H D I h;refine wpAny_execs_cons (thn (h1 pins s σ H D I h) fun f s1 q=>?_);cases f with
 |next=>exact wpAny_execs_nil q
 |ret v=>exact q
 |brk=>exact q
 |cont=>exact q
noncomputable def zt6:TS:=fun D σ H=>D.bk σ H
theorem zo0:PS X (.Break pos) zt6:=fun _ _ σ H _ I h=>wpAny_Break ⟨σ,H,I,h⟩
theorem Inv.quiet {pins:List (Addr×Obj)}{σ : St}{H:Hp}{s:Shared}(I:Inv X pins σ H s):interactive X.env=false:=by simp -iota [interactive,I.ok.kind]
noncomputable def tDrop (te:TE):TS:=fun D σ H=>te σ H fun _ H1=>D.nx σ H1
theorem zmd (he:PE X e te)(hs:autoParam (swapsWith e none pos.line X.env=pure false) zau._auto_1):PS X (.Expr e pos) (tDrop te):=by
 intro pins s σ H D I h;exact wpAny_Expr_any (thn (he pins s σ H _ I h) (by rintro v s1 ⟨x,H1,I1,r1,q1⟩;exact ⟨σ,H1,I1,q1⟩)) I.quiet hs
noncomputable def tRet (te:TE):TS:=fun D σ H=>te σ H D.rt
theorem zlH (he:PE X e te):PS X (.Return (some e) pos) (tRet te):=by
 intro pins s σ H D I h;exact wpAny_Return_some (thn (he pins s σ H _ I h) (by rintro v s1 ⟨x,H1,I1,r1,q1⟩;exact ⟨x,σ,H1,I1,r1,q1⟩))
noncomputable def tIfS (c:TT)(t u:TS):TS:=fun D σ H=>c σ H fun b H1=>if b=true then t D σ H1 else u D σ H1
theorem ps_if {c:Expr}{a b:List Stmt}{tc:TT}(hc:PT X c tc)(ha:PSs X a t)(hb:PSs X b u):PS X (.If c a b pos) (tIfS tc t u):=by
 intro pins s σ H D I h;refine wpAny_If (thn (hc pins s σ H _ I h) fun d s1 zh=>?_);refine zc1b zh fun H1 I1 q1=>?_;cases d with
 |true=>exact ha pins s1 σ H1 D I1 q1
 |false=>exact hb pins s1 σ H1 D I1 q1
end
abbrev TG:=V->St->Hp->(St->Hp->Prop)->Prop
abbrev TGs:=List V->St->Hp->(St->Hp->Prop)->Prop
def PG (X:Cx)(target:Expr)(t:TG):Prop :=
 ∀ (pins:List (Addr×Obj)) (s:Shared) (σ : St) (H:Hp) (v:V) (u:Value) (Q:St->Hp->Prop),Inv X pins σ H s->RelV v u->t v σ H Q ->
  wpAny (model X.prog X.w) X.A (assign target X.env u) (fun _ s'=>∃ σ' H',Inv X pins σ' H' s'/\Q σ' H') X.xe s
noncomputable def PGs (X:Cx)(ts:List Expr)(t:TGs):Prop :=
 ∀ (pins:List (Addr×Obj)) (s:Shared) (σ : St) (H:Hp) (vs:List V) (us:List Value) (Q:St->Hp->Prop),Inv X pins σ H s->Vals vs us->t vs σ H Q ->
  wpAny (model X.prog X.w) X.A (assignInOrder ((assignEach ts X.env).map (·.2)) us) (fun _ s'=>∃ σ' H',Inv X pins σ' H' s'/\Q σ' H') X.xe s
abbrev TSet:=V->V->V->Hp->(Hp->Prop)->Prop
def PSet (X:Cx)(t:TSet):Prop :=
 ∀ (pins:List (Addr×Obj)) (s:Shared) (σ : St) (H:Hp) (o i v:V) (ov iv u:Value) (Q:Hp->Prop),Inv X pins σ H s->RelV o ov->RelV i iv->RelV v u->t o i v H Q ->
  wpAny (model X.prog X.w) X.A (setItem ov iv u) (fun _ s'=>∃ H',Inv X pins σ H' s'/\Q H') X.xe s
section
variable {X:Cx}{pos:Pos}
noncomputable def zgH (i:Nat):TG:=fun v σ H Q=>Q (σ.set i (some v)) H
theorem zaF {i:Nat}{x:Str}(hN:X.N.Nodup)(hi:X.N[i]? = some x)(hx:Loc X.env.scope x)(hf:X.fn x=true\/X.env.scope.names.lookup x=some .local:=by first|exact .inl rfl|exact .inr rfl|assumption):PG X (.Name x pos) (zgH i):=by
 intro pins s σ H v u Q I r h;exact wpAny_assign_Name (zg4 I hN hi hx r (fun s' I'=>⟨_,H,I',h⟩) hf)
noncomputable def gNil:TGs:=fun vs σ H Q=>vs=[]/\Q σ H
noncomputable def zrv (t:TG)(u:TGs):TGs:=fun vs σ H Q=>∃ v r,vs=v::r/\t v σ H fun σ' H'=>u r σ' H' Q
theorem zcZ:PGs X [] gNil:=by
 intro pins s σ H vs us Q I r h;obtain ⟨e,h⟩:=h;subst e;cases r;exact assignInOrder_nil ⟨σ,H,I,h⟩
theorem zbe {e:Expr}{es:List Expr}{t:TG}{u:TGs}(h1:PG X e t)(h2:PGs X es u)
 (hs:autoParam ((assignEach (e::es) X.env).map (·.2)=assign e X.env::(assignEach es X.env).map (·.2)) zau._auto_1):PGs X (e::es) (zrv t u):=by
 intro pins s σ H vs us Q I r h;obtain ⟨v,vr,e1,h⟩:=h;subst e1;cases r with
 |cons r rr =>
  rw [hs];refine assignInOrder_cons (thn (h1 pins s σ H _ _ _ I r h) fun _ s1 zh=>?_);obtain ⟨σ1,H1,I1,q1⟩:=zh;exact h2 pins s1 σ1 H1 _ _ Q I1 rr q1
def gTup (K:W.Frag)(n:Nat)(t:TGs):TG:=fun v σ H Q=>∃ a xs,v=.ref a/\SqT K H a xs/\xs.length=n/\t xs σ H Q
theorem zeX {es:List Expr}{k:Nat}{t:TGs}{n:Nat}(hc:X.calm=true)(h:PGs X es t)
 (hn:autoParam ((assignEach es X.env).length=n) zau._auto_1) (hst:autoParam ((assignEach es X.env).findIdx? (·.1)=none) zau._auto_1):PG X (.Tuple es k pos) (gTup X.K n t):=by
 intro pins s σ H v u Q I r hw;obtain ⟨a,xs,e1,hq,hl,hw⟩:=hw;subst e1;cases r;obtain ⟨its,rv,ht,hz⟩:=I.tuple hq;refine assign_Tuple_tuple (I.ok.hd hc) ht (by simp -iota [hn,<- hl,rv.length]) hst fun h' hx=>?_;have I1:Inv X pins σ H { s with heap:=h' }:=I.kept (t':=s.toks) fun b o e=>hx b o (Nat.ne_of_lt (Heap.lt_size e)) e;exact h pins _ σ H xs _ Q I1 (by simpa -iota using rv) hw
noncomputable def gSub (to ti:TE)(t:TSet):TG:=fun v σ H Q=>to σ H fun o H1=>ti σ H1 fun i H2=>t o i v H2 fun H3=>Q σ H3
theorem zrw {o i:Expr}{to ti:TE}{t:TSet}(ho:PE X o to)(hi:PE X i ti)(hs:PSet X t)
 (ha:∀ v,assign (.Subscript o i pos) X.env v=(do
  let ov <- holding [v] (eval o X.env)
  let iv <- holding [v,ov] (eval i X.env)
  standAt pos
  holding [v,ov,iv] (setItem ov iv v)
  release [v,ov,iv] []):=by intro _;rfl):PG X (.Subscript o i pos) (gSub to ti t):=by
 intro pins s σ H v u Q I r h;rw [ha];refine wpAny_bind (wpAny_holding (thn (ho pins s σ H _ I h) fun ov s1 zh=>?_));refine zc2c zh fun x H1 I1 r1 q1=>?_;refine wpAny_bind (wpAny_holding (thn (hi pins s1 σ H1 _ I1 q1) fun iv s2 zh=>?_));refine zc2c zh fun y H2 I2 r2 q2=>?_;refine wpAny_bind (wpAny_standAt (wpAny_bind (wpAny_holding (thn (hs pins s2 σ H2 x y v ov iv u _ I2 r1 r2 r q2) fun _ s3 zh=>?_))));refine zc1b zh fun H3 I3 q3=>?_;exact wpAny_release ⟨σ,H3,I3,q3⟩
noncomputable def tAsg (te:TE)(g:TG):TS:=fun D σ H=>te σ H fun x H1=>g x σ H1 D.nx
theorem ztw {tg e:Expr}{te:TE}{g:TG}(he:PE X e te)(hg:PG X tg g)(hs:autoParam (swapsWithSole [tg] e pos.line X.env=pure false) zau._auto_1)(hw:autoParam (swappedStores [tg] e X.env=pure none) zau._auto_1)
 (h1:autoParam ((assignEach [tg] X.env).map (·.2)=[assign tg X.env]) zau._auto_1):PS X (.Assign [tg] e pos) (tAsg te g):=by
 intro pins s σ H D I h;refine wpAny_Assign_stores (thn (he pins s σ H _ I h) fun v s1 ⟨x,H1,I1,r1,q1⟩=>?_) hs hw;rw [h1];exact thn (hg pins s1 σ H1 x v _ I1 r1 q1) fun _ s2 q=>q
theorem zph {i:Nat}{x:Str}{e:Expr}{te:TE}{pos':Pos}(hN:X.N.Nodup)(hi:X.N[i]? = some x)(hx:Loc X.env.scope x)(he:PE X e te)(hs:autoParam (swapsWith e (some (.Name x pos')) pos.line X.env=pure false) zau._auto_1)(hf:X.fn x=true\/X.env.scope.names.lookup x=some .local:=by first|exact .inl rfl|exact .inr rfl|assumption) :
 PS X (.Assign [.Name x pos'] e pos) (tAsg te (zgH i)):=by
 intro pins s σ H D I h;refine wpAny_Assign_Name (thn (he pins s σ H _ I h) fun v s1 ⟨y,H1,I1,r1,q1⟩=>?_) hs;exact zg4 I1 hN hi hx r1 (fun s2 I2=>⟨_,H1,I2,q1⟩) hf
end
section
variable {X:Cx}{pos:Pos}
end
structure It where
 go:Nat->Hp->Prop
 yld:Nat->Hp->V->Hp->Prop
 stop:Nat->Hp->Prop
noncomputable def FpOk (X:Cx)(pins:List (Addr×Obj))(H:Hp)(b:Addr):Prop :=
 H b=none/\b≠X.env.locals/\b∉X.fs/\(b∈X.ex\/X.s₀.heap.objs.size<=b)/\(∀ x c,X.env.cells.lookup x=some c->c≠b)/\∀ p∈X.pn++pins,p.1≠b
theorem Inv.fpOk {X:Cx}{pins:List (Addr×Obj)}{σ : St}{H H':Hp}{s:Shared}{b:Addr}(I:Inv X pins σ H s)(hb:s.heap.objs.size<=b)(hn:H' b=none):FpOk X pins H' b:=by
 refine ⟨hn,Nat.ne_of_gt (Nat.lt_of_lt_of_le I.lt hb),I.nofs hb,.inr (Nat.le_trans I.sz hb),fun x c e z=>?_,fun p hp z=>?_⟩
 ·obtain ⟨v,q⟩:=I.cell x c e;exact absurd (Nat.lt_of_lt_of_le q.lt (by rw [z];exact hb)) (Nat.lt_irrefl _)
 ·exact absurd (Nat.lt_of_lt_of_le (Heap.lt_size (I.pin p hp).1) (by rw [z];exact hb)) (Nat.lt_irrefl _)
structure Turn (P:Program)(w:World)(K:W.Frag)(tg:Expr)(J:It)(fp:List Addr)(it:Addr)(tn:Nat->Heap->Prop):Prop where
 mem:it∈fp
 obj:∀ i h,tn i h->∀ b∈fp,∃ o,h.get? b=some o/\∀ v,o.data ≠ .cell v
 keep:∀ i h h',tn i h->(∀ b∈fp,∀ o,h.get? b=some o->h'.get? b=some o)->tn i h'
 item:∀ (X:Cx),X.prog=P->X.w=w->X.K=K->X.calm=true->∀ (i:Nat) (pins:List (Addr×Obj)) (s:Shared) (σ : St) (H:Hp) (E:Value->Shared->Prop),Inv X pins σ H s->(∀ b∈fp,FpOk X pins H b)->tn i s.heap->J.go i H ->
  wpAny (model P w) X.A (pyNext (.ref it)) (fun r s1=>∃ u,r=some u /\
   wpAny (model P w) X.A (letOwnedTupleGo tg (.ref it) u) (fun _ s2=>∃ x H',Inv X pins σ H' s2/\RelV x u/\J.yld i H x H'/\tn (i+1) s2.heap/\∀ b∈fp,H' b=none) E s1) E s
 done:∀ (X:Cx),X.prog=P->X.w=w->X.K=K->X.calm=true->∀ (i:Nat) (pins:List (Addr×Obj)) (s:Shared) (σ : St) (H:Hp) (E:Value->Shared->Prop),Inv X pins σ H s->(∀ b∈fp,FpOk X pins H b)->tn i s.heap->J.stop i H ->
  wpAny (model P w) X.A (pyNext (.ref it)) (fun r s1=>r=none/\Inv X pins σ H s1) E s
 self:∀ (A:Around) (i:Nat) (s:Shared) (Q:Value->Shared->Prop) (E:Value->Shared->Prop),tn i s.heap->Q (.ref it) s->wpAny (model P w) A (pyIter (.ref it)) Q E s
abbrev TI:=St->Hp->(It->Hp->Prop)->Prop
def PIE (X:Cx)(pins:List (Addr×Obj))(σ : St)(tg:Expr)(R:It->Hp->Prop)(itv:Value)(s2:Shared):Prop :=
 ∃ (it:Addr) (fp:List Addr) (tn:Nat->Heap->Prop) (J:It) (H':Hp),itv=.ref it/\Inv X pins σ H' s2/\Turn X.prog X.w X.K tg J fp it tn/\tn 0 s2.heap/\(∀ b∈fp,FpOk X pins H' b)/\R J H'
def PI (X:Cx)(tg iter:Expr)(wi:TI):Prop :=
 ∀ (pins:List (Addr×Obj)) (s:Shared) (σ : St) (H:Hp) (R:It->Hp->Prop),Inv X pins σ H s->wi σ H R ->
  wpAny (model X.prog X.w) X.A (eval iter X.env) (fun v s1=>wpAny (model X.prog X.w) X.A (pyIter v) (PIE X pins σ tg R) X.xe s1) X.xe s
theorem zqL {M:Model}{A:Around}{E:Value->Shared->Prop}{s:Shared}{tg:Expr}{it:Addr}{u:Value}{o:Obj}{n:String}{vs:Array Value}{Q:Unit->Shared->Prop}(ho:s.heap.get? it=some o)(hc:o.cls=.type n)(hd:o.data=.fields vs)
 (hn : ["enumerate", "zip", "dict_itemiterator", "dict_reverseitemiterator", "odict_iterator", "itertools.zip_longest", "itertools.pairwise"].contains n=false) (hQ:Q () s):wpAny M A (letOwnedTupleGo tg (.ref it) u) Q E s:=by
 unfold letOwnedTupleGo;cases tg<;>first
  |exact wpAny_pure hQ
  | (cases u<;>first
   |exact wpAny_pure hQ
   | (
    refine wpAny_bind (wpAny_load ho ?_);rw [hc,hd];show wpAny M A (if (["enumerate", "zip", "dict_itemiterator", "dict_reverseitemiterator", "odict_iterator", "itertools.zip_longest", "itertools.pairwise"].contains n&&vs[0]? == some (rawInt _))=true then _ else _) Q E s;rw [if_neg (by intro h;rw [hn,Bool.false_and] at h;cases h)];exact wpAny_pure hQ))
def Itl (K:W.Frag)(a:Addr):It :=
 ⟨fun i H=>∃ xs x,SqL K H a xs/\xs[i]? = some x,fun i H x H'=>H'=H/\∀ xs,SqL K H a xs->xs[i]? = some x,fun i H=>∃ xs,SqL K H a xs/\xs.length<=i⟩
def Itt (K:W.Frag)(a:Addr):It :=
 ⟨fun i H=>∃ xs x,SqT K H a xs/\xs[i]? = some x,fun i H x H'=>H'=H/\∀ xs,SqT K H a xs->xs[i]? = some x,fun i H=>∃ xs,SqT K H a xs/\xs.length<=i⟩
noncomputable def Itr (lo:Int)(n:Nat):It:=⟨fun i _=>i<n,fun i H x H'=>H'=H/\x=.int (lo+i),fun i _=>n<=i⟩
theorem zmT {P:Program}{w:World}{K:W.Frag}{tg:Expr}(a it:Addr):Turn P w K tg (Itl K a) [it] it (fun i h=>h.IsListIter it a i) where
 mem:=by simp -iota
 obj:=fun i h st b hb=>by
  have e:b=it:=by simpa -iota using hb
  subst e;refine zc1c st fun o e c d=>?_;exact ⟨o,e,fun v z=>by rw [d] at z;cases z⟩
 keep:=fun i h h' st k=>st.at fun o e=>k it (by simp -iota) o e
 item:=by
  intro X hP hw hK hc i pins s σ H E I hf st hg;subst hP hw hK;refine zc2b hg fun xs x hq hx=>?_;refine zc1c (I.list hq) fun its rv p hz=>?_;refine zc1b (rv.get hx) fun u hu ru=>?_;refine zc0e (hf it (by simp -iota)) fun f0 f1 f2 f3 zz=>zc0b zz fun f4 f5=>?_;refine wpAny_pyNext_list_item st p.isList (x:=u) (by simpa -iota using hu) fun h' st' sb=>?_;have I1:Inv X pins σ H { s with heap:=h' }:=I.turned (t':=s.toks) (fun b o hb e=>(sb.2 b hb).trans e) f0 f1 f3 f4 f5;refine zc1c (id st') fun o e c d=>?_;exact ⟨u,rfl,zqL (s:={ s with heap:=h' }) e c d (by decide) ⟨x,H,I1,ru,⟨rfl,fun ys hy=>by rw [I.list_inj hy hq];exact hx⟩,st',fun b hb=>(hf b hb).1⟩⟩
 done:=by
  intro X hP hw hK hc i pins s σ H E I hf st hg;subst hP hw hK;refine zc1b hg fun xs hq hx=>?_;refine zc1c (I.list hq) fun its rv p hz=>?_;refine zc0e (hf it (by simp -iota)) fun f0 f1 f2 f3 zz=>zc0b zz fun f4 f5=>?_;have hl:=rv.length;exact wpAny_pyNext_list_end (I.ok.hd hc) st p.isList (by simp -iota;omega) fun h' eb=>⟨rfl,I.turned (t':=s.toks) (fun b o hb e=>eb b o hb e) f0 f1 f3 f4 f5⟩
 self:=fun _ _ _ _ _ st h=>wpAny_pyIter_listiter st h
theorem zjF {P:Program}{w:World}{K:W.Frag}{tg:Expr}(a it:Addr):Turn P w K tg (Itt K a) [it] it (fun i h=>h.IsTupleIter it a i) where
 mem:=by simp -iota
 obj:=fun i h st b hb=>by
  have e:b=it:=by simpa -iota using hb
  subst e;refine zc1c st fun o e c d=>?_;exact ⟨o,e,fun v z=>by rw [d] at z;cases z⟩
 keep:=fun i h h' st k=>st.at fun o e=>k it (by simp -iota) o e
 item:=by
  intro X hP hw hK hc i pins s σ H E I hf st hg;subst hP hw hK;refine zc2b hg fun xs x hq hx=>?_;refine zc1c (I.tuple hq) fun its rv p hz=>?_;refine zc1b (rv.get hx) fun u hu ru=>?_;refine zc0e (hf it (by simp -iota)) fun f0 f1 f2 f3 zz=>zc0b zz fun f4 f5=>?_;refine wpAny_pyNext_tuple_item st (show s.heap.IsTuple a its.toArray from p) (x:=u) (by simpa -iota using hu) fun h' st' sb=>?_;have I1:Inv X pins σ H { s with heap:=h' }:=I.turned (t':=s.toks) (fun b o hb e=>(sb.2 b hb).trans e) f0 f1 f3 f4 f5;refine zc1c (id st') fun o e c d=>?_;exact ⟨u,rfl,zqL (s:={ s with heap:=h' }) e c d (by decide) ⟨x,H,I1,ru,⟨rfl,fun ys hy=>by rw [I.tuple_inj hy hq];exact hx⟩,st',fun b hb=>(hf b hb).1⟩⟩
 done:=by
  intro X hP hw hK hc i pins s σ H E I hf st hg;subst hP hw hK;refine zc1b hg fun xs hq hx=>?_;refine zc1c (I.tuple hq) fun its rv p hz=>?_;refine zc0e (hf it (by simp -iota)) fun f0 f1 f2 f3 zz=>zc0b zz fun f4 f5=>?_;have hl:=rv.length;exact wpAny_pyNext_tuple_end (I.ok.hd hc) st (show s.heap.IsTuple a its.toArray from p) (by simp -iota;omega) fun h' eb=>⟨rfl,I.turned (t':=s.toks) (fun b o hb e=>eb b o hb e) f0 f1 f3 f4 f5⟩
 self:=fun _ _ _ _ _ st h=>wpAny_pyIter_tupleiter st h
theorem zkj {P:Program}{w:World}{K:PySem.W.Frag}{tg:Expr}(it:Addr)(lo:Int)(n:Nat):Turn P w K tg (Itr lo n) [it] it (fun i h=>IsRangeIter h it (lo+(i:Nat)*1) ((n:Int)-(i:Nat)) 1) where
 mem:=by simp -iota
 obj:=fun i h st b hb=>by
  have e:b=it:=by simpa -iota using hb
  subst e;exact ⟨_,st,fun v z=>by
   have z':Data.fields _=Data.cell v:=z;cases z'⟩
 keep:=fun i h h' st k=>k it (by simp -iota) _ st
 item:=by
  intro X hP hw hK hc i pins s σ H E I hf st hg;subst hP hw hK;refine zc0e (hf it (by simp -iota)) fun f0 f1 f2 f3 zz=>zc0b zz fun f4 f5=>?_;have W:=Walks.range (prog:=X.prog) (w:=X.w) (I.ok.hd hc) it lo 1 n;refine W.item i s _ _ hg st fun v h' tk hv st' kk=>?_;obtain ⟨t,rfl⟩:=hv;have I1:Inv X pins σ H { s with heap:=h',toks:=tk }:=I.turned (fun b o hb e=>kk b o (by simpa -iota using hb) e) f0 f1 f3 f4 f5;refine ⟨_,rfl,zqL (s:={ s with heap:=h',toks:=tk }) (n := "range_iterator") st' rfl rfl (by decide) ⟨.int (lo+i),H,I1,⟨t,?_⟩,⟨rfl,rfl⟩,st',fun b hb=>(hf b hb).1⟩⟩;rw [Int.mul_one]
 done:=by
  intro X hP hw hK hc i pins s σ H E I hf st hg;subst hP hw hK;refine zc0e (hf it (by simp -iota)) fun f0 f1 f2 f3 zz=>zc0b zz fun f4 f5=>?_;exact wpAny_pyNext_range_end (I.ok.hd hc) st (by have:n<=i:=hg;omega) fun h' eb=>⟨rfl,I.turned (t':=s.toks) (fun b o hb e=>eb b o hb e) f0 f1 f3 f4 f5⟩
 self:=fun _ _ _ _ _ st h=>wpAny_pyIter_rangeiter st h
section
variable {X:Cx}{tg:Expr}
def iList (K:W.Frag)(tl:TE):TI:=fun σ H R=>tl σ H fun x H1=>∃ a,x=.ref a/\(∃ xs,SqL K H1 a xs)/\R (Itl K a) H1
def iTup (K:W.Frag)(tl:TE):TI:=fun σ H R=>tl σ H fun x H1=>∃ a,x=.ref a/\(∃ xs,SqT K H1 a xs)/\R (Itt K a) H1
theorem zqY {l:Expr}{tl:TE}(hl:PE X l tl):PI X tg l (iList X.K tl):=by
 intro pins s σ H R I h;refine thn (hl pins s σ H _ I h) fun v s1 zh=>?_;refine zc2c zh fun x H1 I1 r1 q1=>?_;refine zc1c q1 fun a e zr2 q=>?_;obtain ⟨xs,hq⟩:=zr2;subst e;cases r1;refine zc1c (I1.list hq) fun its rv p hz=>?_;refine wpAny_pyIter_list p.isList ?_;refine ⟨s1.heap.objs.size,[s1.heap.objs.size],_,_,H1,rfl,I1.kept (t':=s1.toks) fun b o e=>Heap.get?_push_of_some _ e,zmT a _,⟨_,Heap.get?_push_size _ rfl,rfl,rfl⟩,fun b hb=>?_,q⟩;have e:b=s1.heap.objs.size:=by simpa -iota using hb
 subst e;exact I1.fpOk (Nat.le_refl _) (I1.hok.fresh (Nat.le_refl _))
theorem zrR {l:Expr}{tl:TE}(hl:PE X l tl):PI X tg l (iTup X.K tl):=by
 intro pins s σ H R I h;refine thn (hl pins s σ H _ I h) fun v s1 zh=>?_;refine zc2c zh fun x H1 I1 r1 q1=>?_;refine zc1c q1 fun a e zr2 q=>?_;obtain ⟨xs,hq⟩:=zr2;subst e;cases r1;refine zc1c (I1.tuple hq) fun its rv p hz=>?_;refine wpAny_pyIter_tuple (show s1.heap.IsTuple a its.toArray from p) ?_;refine ⟨s1.heap.objs.size,[s1.heap.objs.size],_,_,H1,rfl,I1.kept (t':=s1.toks) fun b o e=>Heap.get?_push_of_some _ e,zjF a _,⟨_,Heap.get?_push_size _ rfl,rfl,rfl⟩,fun b hb=>?_,q⟩;have e:b=s1.heap.objs.size:=by simpa -iota using hb
 subst e;exact I1.fpOk (Nat.le_refl _) (I1.hok.fresh (Nat.le_refl _))
theorem zot {pins:List (Addr×Obj)}{σ : St}{H:Hp}{s:Shared}{R:It->Hp->Prop}{E:Value->Shared->Prop}{lo hi:Int}{t u v:Tok}{tk:Nat}(I:Inv X pins σ H s)(h1 : -(2 ^ 62)<=lo)(h2:lo<2 ^ 62)(h3 : -(2 ^ 62)<=hi)(h4:hi<2 ^ 62)
 (q:R (Itr lo (hi-lo).toNat) H):wpAny (model X.prog X.w) X.A (pyIter (.ref s.heap.objs.size)) (PIE X pins σ tg R) E { s with heap:=s.heap.push { cls:=.type "range",data:=.fields #[.int lo t,.int hi u,.int 1 v] },toks:=tk }:=by
 refine wpAny_pyIter_range (IsRange.new ..) (small_one h1 h2 h3 h4) ?_;have I1:Inv X pins σ H { s with heap:=s.heap.push { cls:=.type "range",data:=.fields #[.int lo t,.int hi u,.int 1 v] },toks:=tk }:=I.kept fun b o e=>Heap.get?_push_of_some _ e;refine ⟨(s.heap.push { cls:=.type "range",data:=.fields #[.int lo t,.int hi u,.int 1 v] }).objs.size,[(s.heap.push { cls:=.type "range",data:=.fields #[.int lo t,.int hi u,.int 1 v] }).objs.size],_,_,H,rfl,
  I1.kept (t':=tk) fun b o e=>Heap.get?_push_of_some _ e,zkj _ lo (hi-lo).toNat,?_,fun b hb=>?_,q⟩
 ·have e1:lo+((0:Nat):Int)*1=lo:=by simp -iota
  have e2:(((hi-lo).toNat:Nat):Int)-((0:Nat):Int)=Builtin.Range.rangeSize lo hi 1:=by rw [rangeSize_one];split<;>omega
  show IsRangeIter _ _ (lo+((0:Nat):Int)*1) ((((hi-lo).toNat:Nat):Int)-((0:Nat):Int)) 1;rw [e1,e2];exact Heap.get?_push_size _ rfl
 ·have e:b=(s.heap.push { cls:=.type "range",data:=.fields #[.int lo t,.int hi u,.int 1 v] }).objs.size:=by simpa -iota using hb
  subst e;exact I1.fpOk (Nat.le_refl _) (I1.hok.fresh (Nat.le_refl _))
def iRng1 (ta:TA):TI:=fun σ H R=>ta σ H fun vs H1=>∃ j:Int,vs=[.int j] /\ -(2 ^ 62)<=j/\j<2 ^ 62/\R (Itr 0 j.toNat) H1
theorem zm2 {a:Expr}{ta:TA}{p pos:Pos}(hg:Gl X "range")(hm:X.mg "range" = none)(ha:PA X [a] ta)(hs:autoParam (starEach [a] X.env=[(false,eval a X.env)]) zau._auto_1):PI X tg (.Call (.Name "range" p) [a] [] pos) (iRng1 ta):=by
 intro pins s σ H R I h;refine Call_ (zfP I hg hm boot_range (PyProof.Rows.callWith_type1 (thn (ha pos pins s σ H _ I h) fun us s1 ⟨vs,H1,I1,r1,q1⟩=>?_) hs rfl));obtain ⟨j,e,q1,q2,q⟩:=q1;subst e;cases r1 with
 |cons r rr =>
  cases rr;obtain ⟨t,rfl⟩:=r;exact call_range_1 (zot I1 (by omega) (by omega) q1 q2 (by simpa -iota using q))
noncomputable def tFor (wi:TI)(g:TG)(tb:TS):TS:=fun D σ H=>wi σ H fun J H1=>∃ W:Nat->Nat->St->Hp->Prop,(∃ m,W 0 m σ H1)/\∀ i m σ H,W i m σ H ->
 (J.stop i H/\D.nx σ H)\/(J.go i H/\∃ N:St->Hp->Prop,(∀ σ' H',N σ' H'->∃ m',m'<m/\W (i+1) m' σ' H')/\∀ x H',J.yld i H x H'->g x σ H' fun σ2 H2=>tb { D with nx:=N,ct:=N,bk:=D.nx } σ2 H2)
noncomputable def zhm (fp:List Addr)(h:Heap):List (Addr×Obj):=fp.filterMap fun b=>(h.get? b).map fun o=>(b,o)
theorem zc8 {fp:List Addr}{h:Heap}{b:Addr}{o:Obj}(hb:b∈fp)(e:h.get? b=some o):(b,o)∈zhm fp h:=List.mem_filterMap.mpr ⟨b,hb,by rw [e];rfl⟩
theorem zl3 {fp:List Addr}{h:Heap}{p:Addr×Obj}(hp:p∈zhm fp h):p.1∈fp/\h.get? p.1=some p.2:=by
 refine zc1b (List.mem_filterMap.mp hp) fun b hb e=>?_;cases q:h.get? b with
 |none=>rw [q] at e;cases e
 |some o =>
  rw [q] at e;have e':(b,o)=p:=Zqi e;subst e';exact ⟨hb,q⟩
theorem Inv.pinned {pins:List (Addr×Obj)}{σ : St}{H:Hp}{s:Shared}{fp:List Addr}(I:Inv X pins σ H s)(hf:∀ b∈fp,FpOk X pins H b)(ho:∀ b∈fp,∃ o,s.heap.get? b=some o/\∀ v,o.data ≠ .cell v):Inv X (pins++zhm fp s.heap) σ H s :=
 I.pins_of fun p hp=>(List.mem_append.mp hp).elim (fun z=>I.pin p (List.mem_append_right _ z)) fun z=>by
  obtain ⟨hb,e⟩:=zl3 z;refine zc0d (hf p.1 hb) fun f0 f1 f2 _=>?_;refine zc1b (ho p.1 hb) fun o e' d=>?_;rw [e] at e';cases e';exact ⟨e,f0,f1,f2,d⟩
theorem Inv.unpinned {pins pl:List (Addr×Obj)}{σ : St}{H:Hp}{s:Shared}(I:Inv X (pins++pl) σ H s):Inv X pins σ H s:=I.pins_of fun p hp=>I.pin p (List.mem_append_right _ (List.mem_append_left _ hp))
theorem zsE {iter:Expr}{body:List Stmt}{wi:TI}{g:TG}{tb:TS}{pos:Pos}(hp:PassesOwn (model X.prog X.w) X.A X.env X.xe)(hc:X.calm=true)(hi:PI X tg iter wi)(hg:PG X tg g)(hb:PSs X body tb)
 (hs:autoParam (∀ x,foldedSetIterable iter X.env x=pure x) zaw._auto_1):PS X (.For tg iter body [] pos) (tFor wi g tb):=by
 intro pins s σ H D I h;refine wpAny_For (thn (hi pins s σ H _ I h) fun v s1 h1=>thn h1 fun itv s2 h2=>?_) hs;refine zc4a h2 fun it fp tn J zz=>zc1a zz fun H2 zz=>zc0e zz fun e I2 T st2 zz=>zc0b zz fun f2 zz=>zc1b zz fun W zr11 turn=>?_;obtain ⟨m0,w0⟩:=zr11;subst e;have stat:∀ {H':Hp},(∀ b∈fp,H' b=none)->∀ b∈fp,FpOk X pins H' b:=fun hn b hb=>⟨hn b hb,(f2 b hb).2⟩;refine codeAny_forLoop_any (fun n s'=>∃ i σ' H',Inv X pins σ' H' s'/\tn i s'.heap/\(∀ b∈fp,H' b=none)/\W i n σ' H') ?_ m0 ⟨0,σ,H2,I2,st2,fun b hb=>(f2 b hb).1,w0⟩;rintro n s3 ⟨i,σ3,H3,I3,st3,fr3,w3⟩;rcases turn i n σ3 H3 w3 with ⟨stop,qn⟩|⟨go,N,hN,step⟩
 ·refine wpAny_passesOwn hp (thn (T.done X rfl rfl rfl hc i pins s3 σ3 H3 X.xe I3 (stat fr3) st3 stop) fun r s4 zh=>?_);obtain ⟨hr,I4⟩:=zh;subst hr;exact wpAny_execs_nil ⟨σ3,H3,I4,qn⟩
 ·refine wpAny_passesOwn hp (thn (T.item X rfl rfl rfl hc i pins s3 σ3 H3 X.xe I3 (stat fr3) st3 go) fun r s4 zh=>?_);refine zc1b zh fun u hr h4=>?_;subst hr;refine wpAny_passesOwn hp (thn h4 fun _ s5 zh=>?_);refine zc2a zh fun x H5 zz=>zc0e zz fun I5 r5 y5 st5 fr5=>?_;have I5':=I5.pinned (stat fr5) (T.obj _ _ st5);refine wpAny_passesOwn hp (thn (hg _ s5 σ3 H5 x u _ I5' r5 (step x H5 y5)) fun _ s6 zh=>?_);refine zc2b zh fun σ6 H6 I6 q6=>?_;refine wpAny_passesOwn hp (thn (hb _ s6 σ6 H6 _ I6 q6) fun f s7 q7=>?_);have again:∀ {σ7:St} {H7:Hp},Inv X (pins++zhm fp s5.heap) σ7 H7 s7->N σ7 H7->∃ m,m<n/\∃ i σ' H',Inv X pins σ' H' s7/\tn i s7.heap/\(∀ b∈fp,H' b=none)/\W i m σ' H':=fun {σ7 H7} I7 n7=>by
   refine zc1b (hN σ7 H7 n7) fun m' hm w7=>?_;refine ⟨m',hm,i+1,σ7,H7,I7.unpinned,T.keep _ _ _ st5 fun b hb o e=>(I7.pin (b,o) (List.mem_append_right _ (List.mem_append_right _ (zc8 hb e)))).1,fun b hb=>?_,w7⟩;refine zc1b (T.obj _ _ st5 b hb) fun o e d=>?_;exact (I7.pin (b,o) (List.mem_append_right _ (List.mem_append_right _ (zc8 hb e)))).2.1
  cases f with
  |next=>obtain ⟨σ7,H7,I7,n7⟩:=q7;exact again I7 n7
  |cont=>obtain ⟨σ7,H7,I7,n7⟩:=q7;exact again I7 n7
  |brk=>obtain ⟨σ7,H7,I7,q7⟩:=q7;exact ⟨σ7,H7,I7.unpinned,q7⟩
  |ret v=>obtain ⟨x7,σ7,H7,I7,r7,q7⟩:=q7;exact ⟨x7,σ7,H7,I7.unpinned,r7,q7⟩
end
abbrev R2:=V->V->Hp->VK->Prop
def OpR (X:Cx)(f:Value->Value->Sem Value)(r:R2):Prop :=
 ∀ (pins:List (Addr×Obj)) (s:Shared) (σ : St) (H:Hp) (x y:V) (v u:Value) (Q:VK),Inv X pins σ H s->RelV x v->RelV y u->r x y H Q ->
  wpAny (model X.prog X.w) X.A (f v u) (EP X pins σ Q) X.xe s
def UnR (X:Cx)(f:Value->Sem Value)(r:V->Hp->VK->Prop):Prop :=
 ∀ (pins:List (Addr×Obj)) (s:Shared) (σ : St) (H:Hp) (x:V) (v:Value) (Q:VK),Inv X pins σ H s->RelV x v->r x H Q ->
  wpAny (model X.prog X.w) X.A (f v) (EP X pins σ Q) X.xe s
noncomputable def zat (X:Cx)(f:Value)(r:List V->Hp->VK->Prop):Prop :=
 ∀ (pins:List (Addr×Obj)) (s:Shared) (σ : St) (H:Hp) (xs:List V) (us:List Value) (Q:VK),Inv X pins σ H s->Vals xs us->r xs H Q ->
  wpAny (model X.prog X.w) X.A (call f us) (EP X pins σ Q) X.xe s
noncomputable def tOp (r:R2)(ta tb:TE):TE:=fun σ H Q=>ta σ H fun x H1=>tb σ H1 fun y H2=>r x y H2 Q
noncomputable def tUn (r:V->Hp->VK->Prop)(ta:TE):TE:=fun σ H Q=>ta σ H fun x H1=>r x H1 Q
noncomputable def rI (C:Int->Int->Prop)(g:Int->Int->V):R2:=fun x y H Q=>∃ i j,x=.int i/\y=.int j/\C i j/\Q (g i j) H
noncomputable def rI0 (g:Int->Int->V):R2:=fun x y H Q=>∃ i j,x=.int i/\y=.int j/\Q (g i j) H
noncomputable def rU (g:Int->V):V->Hp->VK->Prop:=fun x H Q=>∃ i,x=.int i/\Q (g i) H
section
variable {X:Cx}{a b c:Expr}{ta tb tc:TE}{pos:Pos}
theorem binT (ha:PE X a ta)(hb:PE X b tb){pins:List (Addr×Obj)}{s:Shared}{σ : St}{H:Hp}{R:V->V->Hp->Prop}(I:Inv X pins σ H s)
 (h:ta σ H fun x H1=>tb σ H1 fun y H2=>R x y H2) {Q:Value->Shared->Prop} {f:Value->Value->Sem Value}
 (hf:∀ v u s2 x y H2,Inv X pins σ H2 s2->RelV x v->RelV y u->R x y H2->wpAny (model X.prog X.w) X.A (f v u) Q X.xe s2) :
 wpAny (model X.prog X.w) X.A (eval a X.env) (fun v s₁=>wpAny (model X.prog X.w) X.A (eval b X.env) (fun u s₂=>wpAny (model X.prog X.w) X.A (f v u) Q X.xe s₂) X.xe s₁) X.xe s:=by
 refine thn (ha pins s σ H _ I h) fun v s1 zh=>?_;refine zc2c zh fun x H1 I1 r1 q1=>?_;refine thn (hb pins s1 σ H1 _ I1 q1) fun u s2 zh=>?_;refine zc2c zh fun y H2 I2 r2 q2=>?_;exact hf v u s2 x y H2 I2 r1 r2 q2
theorem zt1 {op:Operator}{r:R2}(ho:OpR X (binaryOp op) r)(ha:PE X a ta)(hb:PE X b tb):PE X (.BinOp a op b pos) (tOp r ta tb):=by
 intro pins s σ H Q I h;exact wpAny_BinOp (binT ha hb I h fun v u s2 x y H2 I2 rx ry q=>ho pins s2 σ H2 x y v u Q I2 rx ry q)
theorem pe_un {op:UnaryOp}{r:V->Hp->VK->Prop}(ho:UnR X (unaryOp op) r)(ha:PE X a ta):PE X (.UnaryOp op a pos) (tUn r ta):=by
 intro pins s σ H Q I h;exact UnaryOp_ (thn (ha pins s σ H _ I h) (by rintro v s1 ⟨x,H1,I1,r1,q1⟩;exact ho pins s1 σ H1 x v Q I1 r1 q1))
theorem opI {f:Value->Value->Sem Value}{C:Int->Int->Prop}{g:Int->Int->Int}
 (rule:∀ (i j:Int) (t u:Tok) (s:Shared) (Q:Value->Shared->Prop) (E:Value->Shared->Prop),C i j->Q (.int (g i j) s.toks) { s with toks:=s.toks+1 }->wpAny (model X.prog X.w) X.A (f (.int i t) (.int j u)) Q E s) :
 OpR X f (rI C fun i j=>.int (g i j)):=by
 intro pins s σ H x y v u Q I rx ry h;refine zc2d h fun i j zr2 zr3 hc q=>?_;subst zr2;subst zr3;obtain ⟨t,rfl⟩:=rx;obtain ⟨t',rfl⟩:=ry;exact rule i j t t' s _ _ hc ⟨.int (g i j),H,I.tok _,⟨_,rfl⟩,q⟩
theorem opI0 {f:Value->Value->Sem Value}{g:Int->Int->Int}
 (rule:∀ (i j:Int) (t u:Tok) (s:Shared) (Q:Value->Shared->Prop) (E:Value->Shared->Prop),Q (.int (g i j) s.toks) { s with toks:=s.toks+1 }->wpAny (model X.prog X.w) X.A (f (.int i t) (.int j u)) Q E s) :
 OpR X f (rI0 fun i j=>.int (g i j)):=by
 intro pins s σ H x y v u Q I rx ry h;refine zc2c h fun i j zr2 zr3 q=>?_;subst zr2;subst zr3;obtain ⟨t,rfl⟩:=rx;obtain ⟨t',rfl⟩:=ry;exact rule i j t t' s _ _ ⟨.int (g i j),H,I.tok _,⟨_,rfl⟩,q⟩
theorem opB0 {f:Value->Value->Sem Value}{g:Int->Int->Bool}
 (rule:∀ (i j:Int) (t u:Tok) (s:Shared) (Q:Value->Shared->Prop) (E:Value->Shared->Prop),Q (.bool (g i j)) s->wpAny (model X.prog X.w) X.A (f (.int i t) (.int j u)) Q E s) :
 OpR X f (rI0 fun i j=>.bl (g i j)):=by
 intro pins s σ H x y v u Q I rx ry h;refine zc2c h fun i j zr2 zr3 q=>?_;subst zr2;subst zr3;obtain ⟨t,rfl⟩:=rx;obtain ⟨t',rfl⟩:=ry;exact rule i j t t' s _ _ ⟨.bl (g i j),H,I,rfl,q⟩
noncomputable def CDiv (i j:Int):Prop:=0<j/\j<1073741824
noncomputable def CPow (i j:Int):Prop:=0<=j/\j<=1000000/\i.natAbs<2 ^ 64
theorem zsr:OpR X (binaryOp .Add) (rI0 fun i j=>.int (i+j)):=opI0 fun _ _ _ _ _ _ _ q=>add_int q
theorem zt9:OpR X (binaryOp .Sub) (rI0 fun i j=>.int (i-j)):=opI0 fun _ _ _ _ _ _ _ q=>sub_int q
theorem zqg:OpR X (binaryOp .FloorDiv) (rI CDiv fun i j=>.int (i / j)):=opI fun i j _ _ _ _ _ hc q=>by
 have h1:(0:Int)<j:=hc.1;have h2:j<1073741824:=hc.2;exact floordiv_int (by omega) (by rw [Int.fdiv_eq_ediv_of_nonneg i (by omega)];exact q) (.inl (PyProof.noPylong_small (by omega)))
theorem ztO:OpR X (binaryOp .Mod) (rI (fun _ j=>0<j) fun i j=>.int (i % j)):=opI fun i j _ _ _ _ _ hc q=>by
 have h1:(0:Int)<j:=hc;exact mod_int' (by omega) (by rw [Int.fmod_eq_emod_of_nonneg i (by omega)];exact q)
theorem zsR:OpR X (binaryOp .Pow) (rI CPow fun i j=>.int (i ^ j.toNat)):=opI fun _ _ _ _ _ _ _ hc q=>pow_int_small hc.1 hc.2.1 hc.2.2 q
theorem unI {f:Value->Sem Value}{g:Int->Int}
 (rule:∀ (i:Int) (t:Tok) (s:Shared) (Q:Value->Shared->Prop) (E:Value->Shared->Prop),Q (.int (g i) s.toks) { s with toks:=s.toks+1 }->wpAny (model X.prog X.w) X.A (f (.int i t)) Q E s) :
 UnR X f (rU fun i=>.int (g i)):=by
 intro pins s σ H x v Q I rx h;refine zc1b h fun i zr1 q=>?_;subst zr1;obtain ⟨t,rfl⟩:=rx;exact rule i t s _ _ ⟨.int (g i),H,I.tok _,⟨_,rfl⟩,q⟩
theorem zsn:UnR X (unaryOp .USub) (rU fun i=>.int (-i)):=unI fun _ _ _ _ _ q=>neg_int q
end
noncomputable def scal:V->V->Bool
 | .non,.non=>true | .non,.int _=>true | .int _,.non=>true | .non,.bl _=>true | .bl _,.non=>true | .non,.str _=>true | .str _,.non=>true
 | .int _,.int _=>true | .bl _,.bl _=>true | .str _,.str _=>true | .byt _,.byt _=>true
 | .int _,.str _=>true | .str _,.int _=>true | .bl _,.str _=>true | .str _,.bl _=>true
 |_,_=>false
def rEq:R2:=fun x y H Q=>scal x y=true/\Q (.bl (decide (x=y))) H
def rNe:R2:=fun x y H Q=>scal x y=true/\Q (.bl (!decide (x=y))) H
theorem zl0 {i j:Int}:decide (V.int i=V.int j)=(i == j):=by
 rw [Bool.eq_iff_iff];simp -iota
theorem zoX {i j:Bool}:decide (V.bl i=V.bl j)=(i == j):=by
 rw [Bool.eq_iff_iff];simp -iota
theorem zkS {i j:Str}:decide (V.str i=V.str j)=(i == j):=by
 rw [Bool.eq_iff_iff];simp -iota
theorem zlV {i j:Array UInt8}:decide (V.byt i=V.byt j)=(i.toList == j.toList):=by
 rw [Bool.eq_iff_iff];cases i;cases j;simp -iota
section
variable {X:Cx}{a b c:Expr}{ta tb tc:TE}{pos:Pos}
theorem zaJ {pins:List (Addr×Obj)}{σ : St}{H:Hp}{s:Shared}{Q:VK}{k k':Bool}(I:Inv X pins σ H s)(q:Q (.bl k) H)(e:k=k'):EP X pins σ Q (.bool k') s:=by
 subst e;exact ⟨.bl k,H,I,rfl,q⟩
theorem op_eq:OpR X (compareOp .Eq) rEq:=by
 intro pins s σ H x y v u Q I rx ry h;obtain ⟨hs,q⟩:=h;cases x with
 |non =>
  cases rx;cases y with
  |non=>cases ry;exact PySem.EqNone.eq_none_none (zaJ I q (by simp -iota))
  |bl j=>cases ry;exact PySem.EqNone.eq_none_bool (zaJ I q (by simp -iota))
  |int j=>obtain ⟨t',rfl⟩:=ry;exact PySem.EqNone.eq_none_int (zaJ I q (by simp -iota))
  |str j=>obtain ⟨t',rfl⟩:=ry;exact PySem.EqNone.eq_none_str (zaJ I q (by simp -iota))
  |_=>exact absurd (show false=true from hs) Bool.false_ne_true
 |bl i =>
  cases rx;cases y with
  |non=>cases ry;exact PySem.EqNone.eq_bool_none (zaJ I q (by simp -iota))
  |bl j=>cases ry;exact eq_bool (zaJ I q zoX)
  |str j=>obtain ⟨t',rfl⟩:=ry;exact PySem.EqMixed.eq_bool_str (zaJ I q (by simp -iota))
  |_=>exact absurd (show false=true from hs) Bool.false_ne_true
 |int i =>
  obtain ⟨t,rfl⟩:=rx;cases y with
  |non=>cases ry;exact PySem.EqNone.eq_int_none (zaJ I q (by simp -iota))
  |int j=>obtain ⟨t',rfl⟩:=ry;exact eq_int (zaJ I q zl0)
  |str j=>obtain ⟨t',rfl⟩:=ry;exact PySem.EqMixed.eq_int_str (zaJ I q (by simp -iota))
  |_=>exact absurd (show false=true from hs) Bool.false_ne_true
 |str i =>
  obtain ⟨t,rfl⟩:=rx;cases y with
  |non=>cases ry;exact PySem.EqNone.eq_str_none (zaJ I q (by simp -iota))
  |bl j=>cases ry;exact PySem.EqMixed.eq_str_bool (zaJ I q (by simp -iota))
  |int j=>obtain ⟨t',rfl⟩:=ry;exact PySem.EqMixed.eq_str_int (zaJ I q (by simp -iota))
  |str j=>obtain ⟨t',rfl⟩:=ry;exact eq_str (zaJ I q zkS)
  |_=>exact absurd (show false=true from hs) Bool.false_ne_true
 |byt i =>
  obtain ⟨t,rfl⟩:=rx;cases y with
  |byt j=>obtain ⟨t',rfl⟩:=ry;exact W.eq_bytes (zaJ I q zlV)
  |_=>exact absurd (show false=true from hs) Bool.false_ne_true
 |_=>cases y<;>exact absurd (show false=true from hs) Bool.false_ne_true
theorem op_ne:OpR X (compareOp .NotEq) rNe:=by
 intro pins s σ H x y v u Q I rx ry h;obtain ⟨hs,q⟩:=h;cases x with
 |non =>
  cases rx;cases y with
  |non=>cases ry;exact PySem.EqNone.ne_none_none (zaJ I q (by simp -iota))
  |bl j=>cases ry;exact PySem.EqNone.ne_none_bool (zaJ I q (by simp -iota))
  |int j=>obtain ⟨t',rfl⟩:=ry;exact PySem.EqNone.ne_none_int (zaJ I q (by simp -iota))
  |str j=>obtain ⟨t',rfl⟩:=ry;exact PySem.EqNone.ne_none_str (zaJ I q (by simp -iota))
  |_=>exact absurd (show false=true from hs) Bool.false_ne_true
 |bl i =>
  cases rx;cases y with
  |non=>cases ry;exact PySem.EqNone.ne_bool_none (zaJ I q (by simp -iota))
  |bl j=>cases ry;exact ne_bool (zaJ I q (congrArg not zoX))
  |str j=>obtain ⟨t',rfl⟩:=ry;exact PySem.EqMixed.ne_bool_str (zaJ I q (by simp -iota))
  |_=>exact absurd (show false=true from hs) Bool.false_ne_true
 |int i =>
  obtain ⟨t,rfl⟩:=rx;cases y with
  |non=>cases ry;exact PySem.EqNone.ne_int_none (zaJ I q (by simp -iota))
  |int j=>obtain ⟨t',rfl⟩:=ry;exact ne_int (zaJ I q (congrArg not zl0))
  |str j=>obtain ⟨t',rfl⟩:=ry;exact PySem.EqMixed.ne_int_str (zaJ I q (by simp -iota))
  |_=>exact absurd (show false=true from hs) Bool.false_ne_true
 |str i =>
  obtain ⟨t,rfl⟩:=rx;cases y with
  |non=>cases ry;exact PySem.EqNone.ne_str_none (zaJ I q (by simp -iota))
  |bl j=>cases ry;exact PySem.EqMixed.ne_str_bool (zaJ I q (by simp -iota))
  |int j=>obtain ⟨t',rfl⟩:=ry;exact PySem.EqMixed.ne_str_int (zaJ I q (by simp -iota))
  |str j=>obtain ⟨t',rfl⟩:=ry;exact ne_str (zaJ I q (congrArg not zkS))
  |_=>exact absurd (show false=true from hs) Bool.false_ne_true
 |byt i =>
  obtain ⟨t,rfl⟩:=rx;cases y with
  |byt j=>obtain ⟨t',rfl⟩:=ry;exact W.ne_bytes (zaJ I q (congrArg not zlV))
  |_=>exact absurd (show false=true from hs) Bool.false_ne_true
 |_=>cases y<;>exact absurd (show false=true from hs) Bool.false_ne_true
theorem op_lt:OpR X (compareOp .Lt) (rI0 fun i j=>.bl (decide (i<j))):=opB0 fun _ _ _ _ _ _ _ q=>lt_int q
theorem op_gt:OpR X (compareOp .Gt) (rI0 fun i j=>.bl (decide (j<i))):=opB0 fun _ _ _ _ _ _ _ q=>gt_int q
theorem zaO (b:Expr){op:CmpOp}(h:autoParam (op ≠ .In) zav._auto_1)(h2:autoParam (op ≠ .NotIn) zav._auto_1):behindInMarks op b=false:=by
 have e1:(op == CmpOp.In)=false:=by cases op<;>first|rfl|exact absurd rfl h
 have e2:(op == CmpOp.NotIn)=false:=by cases op<;>first|rfl|exact absurd rfl h2
 cases b<;>first|rfl|(show (_&&(_||_)&&_)=false;rw [e1,e2,Bool.or_self,Bool.and_false,Bool.false_and])
theorem zkE {op:CmpOp}{r:R2}(ho:OpR X (compareOp op) r)(ha:PE X a ta)(hb:PE X b tb)(hm:behindInMarks op b=false):PE X (.Compare a [op] [b] pos) (tOp r ta tb):=by
 intro pins s σ H Q I h;exact wpAny_Compare1 (binT ha hb I h fun v u s2 x y H2 I2 rx ry q=>ho pins s2 σ H2 x y v u Q I2 rx ry q) hm
noncomputable def tTest (t:TE):TT:=fun σ H Q=>t σ H fun x H'=>∃ k,x=.bl k/\Q k H'
theorem zix {op:CmpOp}{r:R2}(ho:OpR X (compareOp op) r)(ha:PE X a ta)(hb:PE X b tb)(hm:behindInMarks op b=false):PT X (.Compare a [op] [b] pos) (tTest (tOp r ta tb)):=by
 intro pins s σ H Q I h;refine wpAny_isTrue_Compare1 (thn (ha pins s σ H _ I h) fun v s1 ⟨x,H1,I1,r1,q1⟩=>thn (hb pins s1 σ H1 _ I1 q1) fun u s2 ⟨y,H2,I2,r2,q2⟩ =>
  thn (ho pins s2 σ H2 x y v u _ I2 r1 r2 q2) fun c s3 ⟨z,H3,I3,r3,k,e,q3⟩=>?_) hm
 subst e;cases r3;exact wpAny_truthy_bool ⟨H3,I3,q3⟩
theorem zfT:(sizeLine:Nat)<2 ^ 63:=by rw [sizeLine_eq];decide
theorem zjW:OpR X (binaryOp .Add) (fun x y H Q=>∃ i j,x=.str i/\y=.str j/\i.length+j.length<=sizeLine/\Q (.str (i++j)) H):=by
 intro pins s σ H x y v u Q I rx ry h;refine zc2d h fun i j zr2 zr3 hz q=>?_;subst zr2;subst zr3;obtain ⟨t,rfl⟩:=rx;obtain ⟨t',rfl⟩:=ry;exact add_str (fun t' tk=>⟨.str (i++j),H,I.tok _,⟨_,rfl⟩,q⟩) hz
theorem zcn {x:V}{us:List Value}(r:Vals [x] us):∃ u,us=[u]/\RelV x u:=by
 cases r with
 |cons r1 r2=>cases r2;exact ⟨_,rfl,r1⟩
theorem zmN {x y:V}{us:List Value}(r:Vals [x,y] us):∃ u w',us=[u,w']/\RelV x u/\RelV y w':=by
 cases r with
 |cons r1 r2 =>
  cases r2 with
  |cons r3 r4=>cases r4;exact ⟨_,_,rfl,r1,r3⟩
theorem zmf (hc:X.calm=true):zat X (.builtin "max") (fun xs H Q=>∃ i j,xs=[.int i,.int j]/\Q (.int (if j > i then j else i)) H):=by
 intro pins s σ H xs us Q I r h;refine zc2b h fun i j zr2 q=>?_;subst zr2;refine zc2c (zmN r) fun u w' zr2 zr3 zr4=>?_;subst zr2;obtain ⟨t,rfl⟩:=zr3;obtain ⟨t',rfl⟩:=zr4;refine max_two_ints (I.ok.hd hc) fun h' tk k=>⟨_,H,I.kept k,?_,q⟩;by_cases hj:j > i
 ·rw [if_pos hj,if_pos hj];exact ⟨_,rfl⟩
 ·rw [if_neg hj,if_neg hj];exact ⟨_,rfl⟩
theorem zmz (hc:X.calm=true):zat X (.builtin "min") (fun xs H Q=>∃ i j,xs=[.int i,.int j]/\Q (.int (if j<i then j else i)) H):=by
 intro pins s σ H xs us Q I r h;refine zc2b h fun i j zr2 q=>?_;subst zr2;refine zc2c (zmN r) fun u w' zr2 zr3 zr4=>?_;subst zr2;obtain ⟨t,rfl⟩:=zr3;obtain ⟨t',rfl⟩:=zr4;refine min_two_ints (I.ok.hd hc) fun h' tk k=>⟨_,H,I.kept k,?_,q⟩;by_cases hj:j<i
 ·rw [if_pos hj,if_pos hj];exact ⟨_,rfl⟩
 ·rw [if_neg hj,if_neg hj];exact ⟨_,rfl⟩
theorem zkB:zat X (.type "int") (fun xs H Q=>(∃ i,xs=[.int i]/\Q (.int i) H)\/∃ k,xs=[.bl k]/\Q (.int (if k then 1 else 0)) H):=by
 intro pins s σ H xs us Q I r h;rcases h with ⟨i,rfl,q⟩|⟨k,rfl,q⟩
 ·refine zc1b (zcn r) fun u zr1 zz=>zc1a zz fun t zr3=>?_;subst zr1;subst zr3;exact call_int_int ⟨.int i,H,I,⟨_,rfl⟩,q⟩
 ·refine zc1b (zcn r) fun u zr1 r1=>?_;subst zr1;cases r1;exact call_int_bool ⟨.int (if k then 1 else 0),H,I.tok _,⟨_,rfl⟩,q⟩
end
structure ObjM (h:Heap)(x dx C:Addr)(mA:Str->Option Value):Prop where
 obj:h.get? x=some (W.instObj C dx)
 ns:h.Ns1 dx mA
 ne:dx≠x
theorem zkN {h:Heap}{dx:Addr}{mA:Str->Option Value}(n:h.Ns1 dx mA):∃ od,h.get? dx=some od/\∀ name,W.lookIn name od=some (mA name):=by
 refine zc3a n fun o es ep zz=>zc0e zz fun ho hd hk _ hm=>?_;refine ⟨o,ho,fun name=>?_⟩;have e:=hm name;unfold nsFind findBy at e;rw [<- Array.find?_toList] at e;unfold W.lookIn;rw [hd];dsimp only
 split
 ·rename_i y q;rw [q] at e;exact congrArg some e
 ·rename_i q;rw [q] at e;have a:es.toList.any (·.refKey)=false:=by
   rw [List.any_eq_false];intro y hy;refine zc2a (hk y (Array.mem_toList_iff.mp hy)) fun z t hkey=>?_;simp -iota [DictEntry.refKey,hkey]
  have a':¬ es.toList.any (·.refKey)=true:=by rw [a];exact Bool.false_ne_true
  rw [if_neg a'];exact congrArg some e
theorem ObjM.look {h:Heap}{x dx C:Addr}{mA:Str->Option Value}(I:ObjM h x dx C mA):∃ od,W.InstAt h x (W.instObj C dx) C (some od)/\∀ name,W.lookIn name od=some (mA name) :=
 let ⟨od,ho,hl⟩:=zkN I.ns
 ⟨od,⟨I.obj,rfl,rfl,ho⟩,hl⟩
section
variable {prog:Program}{w:World}{A:Around}{E:Value->Shared->Prop}{s:Shared}{K:W.Frag}{x dx C f:Addr}{mA:Str->Option Value}{name:Str}{v:Value}
end
theorem RelO.some_of {v:V}{o:Option Value}(r:RelO (some v) o):∃ u,o=some u/\RelV v u:=by
 cases o with
 |none=>exact (show False from r).elim
 |some u=>exact ⟨u,rfl,r⟩
section
variable {P:Program}{w:World}{H H':Hp}{h h':Heap}{a C dx:Addr}{fs fs':List (Str×V)}
theorem zq9 (hok:HOk P w H h)(e:H a=some (.ins C dx fs)):∃ mA,ObjM h a dx C mA/\(∀ f,RelO (fs.lookup f) (mA f))/\PySem.Within mA (fs.map (·.1))/\fs.length<=1000/\H dx=some (.own a):=by
 refine zc0e ((show zbc P w H h a (.ins C dx fs) from hok a _ e)) fun d z ne ob zz=>zc1c zz fun mA n r q=>?_;exact ⟨mA,⟨ob,n,ne⟩,r,q,z,d⟩
end
structure Cls (K:W.Frag)(C:Addr):Prop where
 pg:W.plainGet K C Str.empty=true
 hd:W.hasDictIn K C=true
 po:W.plainOver K C=true
 sa:W.findIn K (.ref C) "__setattr__" = some (some (.builtin "object.__setattr__"))
theorem Cls.get {K:W.Frag}{C:Addr}(c:Cls K C)(f:Str):W.plainGet K C f=true:=c.pg
section
variable {X:Cx}{pins:List (Addr×Obj)}{σ : St}{H:Hp}{s:Shared}{a C dx:Addr}{fs:List (Str×V)}{f:Str}{v:V}{A:Around}{E:Value->Shared->Prop}
end
section
variable {X:Cx}{o e value:Expr}{f:Str}{pos pos' tpos:Pos}{ta tv:TE}
end
section
variable {X:Cx}{pins:List (Addr×Obj)}{σ : St}{H:Hp}{s:Shared}{A:Around}{E:Value->Shared->Prop}{Q:Value->Shared->Prop}{c:Value}{b:Bool}
inductive TyOf (K:W.Frag)(H:Hp):V->Value->Prop where
 |non:TyOf K H .non (.type "NoneType")
 |bl (x:Bool):TyOf K H (.bl x) (.type "bool")
 |int (i:Int):TyOf K H (.int i) (.type "int")
 |str (x:Str):TyOf K H (.str x) (.type "str")
 |flt (x:UInt64):TyOf K H (.flt x) (.type "float")
 |lst {a:Addr} {xs:List V} (e:H a=some (.lst xs)):TyOf K H (.ref a) (.type "list")
 |frz {a:Addr} {o:Obj} {xs:List V} (e:H a=some (.frz o (.lst xs))):TyOf K H (.ref a) (.type "list")
 |tup {a:Addr} {xs:List V} (e:H a=some (.tup xs)):TyOf K H (.ref a) (.type "tuple")
 |dK {a:Addr} {kvs:List (Key×V)} (e:H a=some (.dK kvs)):TyOf K H (.ref a) (.type "dict")
 |dT {a:Addr} {kvs:List (List Key×V)} (e:H a=some (.dT kvs)):TyOf K H (.ref a) (.type "dict")
 |ins {a C dx:Addr} {fs:List (Str×V)} (e:H a=some (.ins C dx fs)) (cl:Cls K C) (ha:W.findIn K (.ref C) "__class__" = some (some (.builtin "object.__class__")))
  (hn:W.specialIn K (.builtin "object.__class__") "__get__" = some (some (.builtin "getset_descriptor.__get__"))) (htk:W.takesIn K (.builtin "object.__class__")=some true)
  (hm:W.mroIn K C (.type "object")=some true):TyOf K H (.ref a) (.ref C)
theorem zln {x:V}{u t:Value}(I:Inv X pins σ H s)(rx:RelV x u)(ty:TyOf X.K H x t)(e:W.kitOne X.K t c=some b)(h:∀ tk,Q (.bool b) { s with toks:=tk }) :
 wpAny (model X.prog X.w) A (call (.builtin "isinstance") [u,c]) Q E s:=by
 cases ty with
 |non=>cases (show u=Value.none from rx);exact W.kia_one W.kitx_none I.kIn True.intro e (fun z=>nomatch z) h
 |bl y=>cases (show u=Value.bool y from rx);exact W.kia_one W.kitx_bool I.kIn True.intro e (fun z=>nomatch z) h
 |int i=>obtain ⟨t,q⟩:=(show ∃ t,u=Value.int i t from rx);cases q;exact W.kia_one W.kitx_int I.kIn True.intro e (fun z=>nomatch z) h
 |str y=>obtain ⟨t,q⟩:=(show ∃ t,u=Value.str y t from rx);cases q;exact W.kia_one W.kitx_str I.kIn True.intro e (fun z=>nomatch z) h
 |flt y=>obtain ⟨t,q⟩:=(show ∃ t,u=Value.float y t from rx);cases q;exact W.kia_one W.kitx_float I.kIn True.intro e (fun z=>nomatch z) h
 | @lst a xs ea =>
  cases (show u=Value.ref a from rx);refine zc0b ((show zbc X.prog X.w H s.heap a (.lst xs) from I.hok a _ ea)) fun _ zz=>zc2b zz fun _ n _ h1=>?_;exact W.kia_one W.kitx_list I.kIn ⟨_,h1,rfl⟩ e (fun z=>nomatch z) h
 | @frz a ob xs ea =>
  cases (show u=Value.ref a from rx);refine zc0c ((show zbc X.prog X.w H s.heap a (.frz ob (.lst xs)) from I.hok a _ ea)) fun _ _ zz=>zc2b zz fun _ n _ h1=>?_;exact W.kia_one W.kitx_list I.kIn ⟨_,h1,rfl⟩ e (fun z=>nomatch z) h
 | @tup a xs ea =>
  cases (show u=Value.ref a from rx);refine zc0b ((show zbc X.prog X.w H s.heap a (.tup xs) from I.hok a _ ea)) fun _ zz=>zc1b zz fun _ _ p=>?_;refine zc1c p fun o h1 h2 _=>?_;exact W.kia_one W.kitx_tuple I.kIn ⟨o,h1,h2⟩ e (fun z=>nomatch z) h
 | @dK a kvs ea =>
  cases (show u=Value.ref a from rx);refine zc0c ((show zbc X.prog X.w H s.heap a (.dK kvs) from I.hok a _ ea)) fun _ _ zz=>zc1b zz fun vs _ p=>?_;refine zc3c p fun o es ep h1 h2 _=>?_;exact W.kia_one W.kitx_dict I.kIn ⟨o,h1,h2.1⟩ e (fun z=>nomatch z) h
 | @dT a kvs ea =>
  cases (show u=Value.ref a from rx);refine zc0c ((show zbc X.prog X.w H s.heap a (.dT kvs) from I.hok a _ ea)) fun _ _ zz=>zc1b zz fun xs _ zz=>zc3c zz fun o es ep h1 h2 _=>?_;exact W.kia_one W.kitx_dict I.kIn ⟨o,h1,h2.1⟩ e (fun z=>nomatch z) h
 | @ins a C dx fs ea cl ha hn htk hm =>
  cases (show u=Value.ref a from rx);refine zc1b (zq9 I.hok ea) fun mA O _=>?_;refine zc1b O.look fun od J _=>?_;exact W.kia_one (W.kitx_own (cl.get _) cl.hd ha hn htk hm) I.kIn J e (fun z=>nomatch z) h
end
structure Room (k:Nat)(A:Around):Prop where
 hd:A.handled=none
 dp:A.depth+3*k+5<recursionLimit
 un:A.units+16*k+200<cLine
theorem Room.mono {j k:Nat}{A:Around}(r:Room k A)(h:j<=k):Room j A:=⟨r.hd,by have:=r.dp;omega,by have:=r.un;omega⟩
theorem Room.deeper {k:Nat}{A:Around}(r:Room (k+1) A)(env:Env):Room k (A.deeper env) :=
 ⟨r.hd,by have:=r.dp;show A.depth+1+3*k+5<_;omega,by have:=r.un;show A.units+3+16*k+200<_;omega⟩
theorem Room.depth {k:Nat}{A:Around}(r:Room k A):A.depth<recursionLimit:=by have:=r.dp;omega
theorem Room.units {k:Nat}{A:Around}(r:Room k A):A.units+64<cLine:=by have:=r.un;omega
noncomputable def tNil:TA:=fun _ H Q=>Q [] H
noncomputable def zpR (ta:TE)(tr:TA):TA:=fun σ H Q=>ta σ H fun x H1=>tr σ H1 fun xs H2=>Q (x::xs) H2
section
variable {X:Cx}{e:Expr}{es:List Expr}{te:TE}{t:TA}{pos:Pos}
theorem ziI:PA X [] tNil:=fun _ _ _ _ H Q I h=>Calls.spliced_nil ⟨[],H,I,.nil,h⟩
theorem zgC (ha:PE X e te)(hr:PA X es t)(hs:autoParam (starEach (e::es) X.env=(false,eval e X.env)::starEach es X.env) zau._auto_1):PA X (e::es) (zpR te t):=by
 intro pos pins s σ H Q I h;rw [hs];show wpAny _ _ (spliced ((false,eval e X.env)::backTo pos (starEach es X.env))) _ _ s;refine Calls.spliced_cons (thn (ha pins s σ H _ I h) fun u s1 zh=>?_);refine zc2c zh fun x H1 I1 r1 q1=>?_;exact thn (hr pos pins s1 σ H1 _ I1 q1) (by rintro us s2 ⟨xs,H2,I2,r2,q2⟩;exact ⟨x::xs,H2,I2,.cons r1 r2,q2⟩)
def tTup (t:TA):TE:=fun σ H Q=>t σ H fun xs H1=>xs.length<=sizeLine/\∀ p,H1 p=none->Q (.ref p) (upd H1 p (.tup xs))
def tLst (t:TA):TE:=fun σ H Q=>t σ H fun xs H1=>xs.length<=sizeLine/\∀ p,H1 p=none->Q (.ref p) (upd H1 p (.lst xs))
theorem ztt {x1}(h:PA X es t):PE X (.Tuple es x1 pos) (tTup t):=by
 intro pins s σ H Q I hq;refine wpAny_Tuple_spliced (thn (h pos pins s σ H _ I hq) fun us s1 ⟨xs,H1,I1,r,z,q⟩=>⟨by rw [<- r.length];exact z,?_⟩);have hf:H1 s1.heap.objs.size=none:=I1.hok.fresh (Nat.le_refl _);refine ⟨.ref s1.heap.objs.size,upd H1 s1.heap.objs.size (.tup xs),I1.laid (t':=s1.toks) (fun b u e=>Heap.get?_push_of_some _ e) (Nat.le_refl _) ?_,rfl,q _ hf⟩;exact ⟨⟨z,⟨_,Heap.get?_push_size _ rfl,rfl⟩⟩,us,r,⟨_,Heap.get?_push_size _ rfl,rfl,_,rfl⟩⟩
theorem zrK (h:PA X es t):PE X (.List es pos) (tLst t):=by
 intro pins s σ H Q I hq;refine wpAny_List_spliced (thn (h pos pins s σ H _ I hq) fun us s1 ⟨xs,H1,I1,r,z,q⟩=>⟨by rw [<- r.length];exact z,?_⟩);have hf:H1 s1.heap.objs.size=none:=I1.hok.fresh (Nat.le_refl _);refine ⟨.ref s1.heap.objs.size,upd H1 s1.heap.objs.size (.lst xs),I1.laid (t':=s1.toks) (fun b u e=>Heap.get?_push_of_some _ e) (Nat.le_refl _) ?_,rfl,q _ hf⟩;exact ⟨z,us,0,r,Heap.get?_push_size _ rfl⟩
end
abbrev Sp:=List V->Hp->VK->XK->Prop
abbrev CXT:=List Env->Hp->Shared->XK->Value->Shared->Prop
structure Env0 (P:Program)(w:World)(K:W.Frag)(mg:Str->Option Value)(base:Heap)(A:Around)(outer:List Env)(s:Shared)(H:Hp):Prop where
 frames:A.frames=some outer
 mod:Mod K mg base
 bs:∀ b o,base.get? b=some o->s.heap.get? b=some o/\H b=none
 bsz:base.objs.size<=s.heap.objs.size
 funs:s.heap.FunFrames base outer
 frf:∀ b∈frs outer,H b=none
 hok:HOk P w H s.heap
 bare:AllBare s.gens
def CE (outer:List Env)(P:Program)(w:World)(H:Hp)(s:Shared)(Q:VK)(u:Value)(s':Shared):Prop :=
 ∃ v H',s'.os=s.os/\AllBare s'.gens/\Un (frs outer) [] H H' s.heap s'.heap/\HOk P w H' s'.heap/\RelV v u/\Q v H'
noncomputable def CR (CX:CXT)(outer:List Env)(P:Program)(w:World)(H:Hp)(s:Shared)(Q:VK)(E:XK)(r:Result)(s':Shared):Prop :=
 match r with
 | .ok (.ret u)=>CE outer P w H s Q u s'
 | .ok _=>False
 | .error e=>CX outer H s E e s'
structure FnOk (P:Program)(w:World)(K:W.Frag)(mg:Str->Option Value)(base:Heap)(CX:CXT)(k:Nat)(f:Addr)(fd:FuncData)(ps:List Str)(sp:Sp):Prop where
 len:∀ vs H Q E,sp vs H Q E->vs.length=ps.length
 run:∀ (A:Around) (outer:List Env) (s:Shared) (H:Hp) (args:Args) (us:List Value) (vs:List V) (Q:VK) (E:XK),Room k A->Env0 P w K mg base A outer s H->BindsTo s fd args (ps.zip us)->Vals vs us->sp vs H Q E ->
  codeAny (model P w) A (.call (.ref f) args) (CR CX outer P w H s Q E) s
theorem FnOk.mono {P:Program}{w:World}{K:W.Frag}{mg:Str->Option Value}{base:Heap}{CX:CXT}{j k:Nat}{f:Addr}{fd:FuncData}{ps:List Str}{sp:Sp}(F:FnOk P w K mg base CX j f fd ps sp)(h:j<=k) :
 FnOk P w K mg base CX k f fd ps sp:=⟨F.len,fun A outer s H args us vs Q E hr=>F.run A outer s H args us vs Q E (hr.mono h)⟩
theorem FnOk.imp {P:Program}{w:World}{K:W.Frag}{mg:Str->Option Value}{base:Heap}{CX:CXT}{k:Nat}{f:Addr}{fd:FuncData}{ps:List Str}{sp sp':Sp}(F:FnOk P w K mg base CX k f fd ps sp)
 (h:∀ vs H Q E,sp' vs H Q E->sp vs H Q E):FnOk P w K mg base CX k f fd ps sp' :=
 ⟨fun vs H Q E q=>F.len vs H Q E (h _ _ _ _ q),fun A outer s H args us vs Q E hr he hb hv hs=>F.run A outer s H args us vs Q E hr he hb hv (h _ _ _ _ hs)⟩
section
variable {X:Cx}{pins:List (Addr×Obj)}{σ : St}{H:Hp}{s s':Shared}
theorem Inv.env0 (I:Inv X pins σ H s):Env0 X.prog X.w X.K X.mg X.base X.A X.stack s H :=
 ⟨I.ok.frames,I.ok.mod,I.bs,Nat.le_trans I.ok.bsz I.sz,I.stack,I.stkFree,I.hok,I.bare⟩
theorem Inv.after {Q:VK}{u:Value}(I:Inv X pins σ H s)(h:CE X.stack X.prog X.w H s Q u s'):EP X pins σ Q u s':=by
 refine zc2a h fun v H' zz=>zc0e zz fun os bare un hok zz=>zc0b zz fun r q=>?_;obtain ⟨hh,g,d,t,os'⟩:=s';obtain rfl:os'=s.os:=os;exact ⟨v,H',I.call (h':=hh) (g':=g) (d':=d) (t':=t) (ch:=[]) un hok bare (fun b z=>absurd z (by simp -iota)),r,q⟩
end
noncomputable def zqJ (sp:Sp)(dvs:List V)(E:XK)(t:TA):TE:=fun σ H Q=>t σ H fun vs H1=>sp (vs++dvs) H1 Q E
noncomputable def zia (K:W.Frag)(fd:FuncData)(ps:List Str)(ds:List Value):Prop :=
 ∀ (s:Shared) (us:List Value),K.In s.heap->(us++ds).length=ps.length->BindsTo s fd ⟨us,[]⟩ (ps.zip (us++ds))
theorem zia.all {K:W.Frag}{fd:FuncData}{ps:List Str}(h:∀ us:List Value,us.length=ps.length->bindArgs fd ⟨us,[]⟩=pure (ps.zip us)):zia K fd ps []:=fun s us _ hl=>by
 rw [List.append_nil] at hl ⊢;exact .of_eq (h us hl)
noncomputable def zjr (CX:CXT)(X:Cx)(E:XK):Prop:=∀ (pins:List (Addr×Obj)) (σ : St) (H:Hp) (s:Shared) (e:Value) (s':Shared),Inv X pins σ H s->CX X.stack H s E e s'->X.xe e s'
section
variable {X:Cx}{CX:CXT}{k:Nat}{f C:Addr}{fd:FuncData}{ps:List Str}{sp:Sp}{dvs:List V}{ds:List Value}{E:XK}{x m:Str}{p pos apos:Pos}{e o:Expr}{es:List Expr}{ta:TE}{t:TA}
theorem zsq {pins:List (Addr×Obj)}{σ : St}{H:Hp}{s:Shared}{Q:VK}{us:List Value}{vs:List V}(F:FnOk X.prog X.w X.K X.mg X.base CX k f fd ps sp)(hr:Room k X.A)(hb:zia X.K fd ps ds)(hd:Vals dvs ds)(hx:zjr CX X E)
 (I:Inv X pins σ H s) (r:Vals vs us) (h:sp (vs++dvs) H Q E):wpAny (model X.prog X.w) X.A (call (.ref f) us) (EP X pins σ Q) X.xe s:=by
 have r2:Vals (vs++dvs) (us++ds):=r.append hd;have hl:(us++ds).length=ps.length:=by rw [<- r2.length];exact F.len _ _ _ _ h
 refine wpAny_call (codeAny_mono (F.run X.A X.stack s H ⟨us,[]⟩ (us++ds) (vs++dvs) Q E hr I.env0 (hb s us I.kIn hl) r2 h) fun r s' hq=>?_);cases r with
 |error e=>exact hx pins σ H s e s' I hq
 |ok fl =>
  cases fl with
  |ret u=>exact I.after hq
  |next=>exact False.elim hq
  |brk=>exact False.elim hq
  |cont=>exact False.elim hq
theorem zmv (F:FnOk X.prog X.w X.K X.mg X.base CX k f fd ps sp)(hr:Room k X.A)(hg:Gl X x)(hm:X.mg x=some (.ref f))(hk:W.keepIn X.K (.ref f)=true)(hb:zia X.K fd ps ds)(hd:Vals dvs ds)(hx:zjr CX X E)
 (ha:PA X (e::es) t) (hdb:autoParam ((x == ("__debug__" : Str))=false) zav._auto_1) (he:starEach (e::es) X.env=(false,eval e X.env)::starEach es X.env:=by rfl) (hpl:(backTo pos (starEach es X.env)).any (·.1)=false:=by rfl) :
 PE X (.Call (.Name x p) (e::es) [] pos) (zqJ sp dvs E t):=by
 intro pins s σ H Q I h;refine wpAny_Call_Name_kw (zgA I hg hm ?_ hdb);refine W.callWith_K (h₀:=X.base) I.ok.mod.kin hk (thn (ha pos pins s σ H _ I h) fun us s1 ⟨vs,H1,I1,r,q⟩=>⟨I1.kIn,?_⟩) he hpl;exact zsq F hr hb hd hx I1 r q
end
section
variable {X:Cx}{CX:CXT}{k:Nat}{f C:Addr}{fd:FuncData}{ps ks:List Str}{sp:Sp}{E:XK}{x m:Str}{p pos apos kpos:Pos}{e o:Expr}{es:List Expr}{kws:List Keyword}{te ta:TE}{t tk:TA}{nm:Option Str}
variable {g:List Value->List Value->List Value}{gV:List V->List V->List V}
end
structure FnScope (N P:List Str)(sc:Scope):Prop where
 kind:sc.kind=.function
 co:sc.isCoroutine=false
 gen:sc.isGenerator=false
 nd:N.Nodup
 pre:N.take P.length=P
 par:∀ x∈P,sc.names.lookup x=some .local\/sc.names.lookup x=some .cell
 nofree:∀ y∈sc.names,y.2 ≠ .free
theorem zgZ {kindOf:Str->Option NameKind}{x:Str}:∀ {binds:List (Str×Value)} {m:Str->Option Value},(∀ v,(x,v)∉binds)->bindL kindOf binds m x=m x
 | [],_,_=>rfl
 | (n,v)::r,m,h=>by
  unfold bindL;rw [zgZ fun w hw=>h w (Zqm _ hw)]
  split
  ·have:x≠n:=by rintro rfl;exact h v Zqs
   simp -iota [this]
  ·rfl
theorem zhL {kindOf:Str->Option NameKind}{x:Str}:∀ {binds:List (Str×Value)} {m:Str->Option Value},(∀ v,(x,v)∉binds)->bindC kindOf binds m x=m x
 | [],_,_=>rfl
 | (n,v)::r,m,h=>by
  unfold bindC;rw [zhL fun w hw=>h w (Zqm _ hw)]
  split
  ·rfl
  ·have:x≠n:=by rintro rfl;exact h v Zqs
   simp -iota [this]
theorem zhY {kindOf:Str->Option NameKind}{x:Str}{v:Value}:∀ {P:List Str} {vs:List Value} {i:Nat} {m:Str->Option Value},P.Nodup->P[i]? = some x->vs[i]? = some v->kindOf x=some .local ->
 bindL kindOf (P.zip vs) m x=some v
 | [],_,_,_,_,h,_,_=>by simp -iota at h
 |_::_,[],_,_,_,_,h,_=>by simp -iota at h
 |p::P,w::vs,0,m,nd,h1,h2,hk=>by
  simp -iota at h1 h2;subst h1;subst h2;show bindL kindOf ((p,w)::P.zip vs) m p=_;unfold bindL;rw [zgZ fun v hv=>(List.nodup_cons.mp nd).1 (List.of_mem_zip hv).1,if_pos hk];simp -iota
 |p::P,w::vs,i+1,m,nd,h1,h2,hk=>by
  show bindL kindOf ((p,w)::P.zip vs) m x=_;unfold bindL;exact zhY (i:=i) (List.nodup_cons.mp nd).2 (by simpa -iota using h1) (by simpa -iota using h2) hk
theorem zhT {kindOf:Str->Option NameKind}{x:Str}{v:Value}:∀ {P:List Str} {vs:List Value} {i:Nat} {m:Str->Option Value},P.Nodup->P[i]? = some x->vs[i]? = some v->kindOf x≠some .local ->
 bindC kindOf (P.zip vs) m x=some v
 | [],_,_,_,_,h,_,_=>by simp -iota at h
 |_::_,[],_,_,_,_,h,_=>by simp -iota at h
 |p::P,w::vs,0,m,nd,h1,h2,hk=>by
  simp -iota at h1 h2;subst h1;subst h2;show bindC kindOf ((p,w)::P.zip vs) m p=_;unfold bindC;rw [zhL fun v hv=>(List.nodup_cons.mp nd).1 (List.of_mem_zip hv).1,if_neg hk];simp -iota
 |p::P,w::vs,i+1,m,nd,h1,h2,hk=>by
  show bindC kindOf ((p,w)::P.zip vs) m x=_;unfold bindC;exact zhT (i:=i) (List.nodup_cons.mp nd).2 (by simpa -iota using h1) (by simpa -iota using h2) hk
noncomputable def start (N:List Str)(vs:List V):St:=vs.map some++List.replicate (N.length-vs.length) none
noncomputable def cxOf (CX:CXT)(P:Program)(w:World)(K:W.Frag)(mg:Str->Option Value)(base:Heap)(N:List Str)(qual:Str)(scope:Scope)(f:Addr)(cd:Value)(A:Around)(outer:List Env)(s:Shared)(H:Hp)(E:XK):Cx where
 prog:=P
 w:=w
 K:=K
 mg:=mg
 base:=base
 A:=A.deeper (envOfC qual scope s.heap.objs.size f cd)
 N:=N
 s₀:=s
 H₀:=H
 env:=envOfC qual scope s.heap.objs.size f cd
 outer:=outer
 stack:=envOfC qual scope s.heap.objs.size f cd::outer
 ex:=[]
 calm:=true
 fn:=fun _=>true
 pn:=[]
 xe:=fun e s'=>wpAny (model P w) (A.deeper (envOfC qual scope s.heap.objs.size f cd)) (leaving (envOfC qual scope s.heap.objs.size f cd) e) (fun _ s''=>CX outer H s E e s'') (fun e' s''=>CX outer H s E e' s'') s'
theorem zjb {sc:Scope}{n:Nat}{x:Str}(h:sc.names.lookup x=some .cell):∃ c,(cellsFrom n sc.names []).lookup x=some c:=by
 have q:=W.cellsFrom_some sc.names n [] (.inl h);exact Option.isSome_iff_exists.mp q
theorem zkR {CX:CXT}{P:Program}{w:World}{K:W.Frag}{mg:Str->Option Value}{base:Heap}{N ps:List Str}{qual:Str}{scope:Scope}{f:Addr}{cd:Value}{A:Around}{outer:List Env}{s s1:Shared}{H:Hp}{E:XK}{us:List Value}{vs:List V}
 (S:FnScope N ps scope) (hd:A.handled=none) (e0:Env0 P w K mg base A outer s H) (hl:vs.length=ps.length) (r:Vals vs us)
 (x:InCallC s s.heap.objs.size (bindL (envOfC qual scope s.heap.objs.size f cd).kindOf (ps.zip us) fun _=>none) (cellsFrom (s.heap.objs.size+1) scope.names []) (bindC (envOfC qual scope s.heap.objs.size f cd).kindOf (ps.zip us) fun _=>none) s1) :
 Inv (cxOf CX P w K mg base N qual scope f cd A outer s H E) [] (start N vs) H s1:=by
 have hpl:ps.length<=N.length:=by have:=congrArg List.length S.pre;rw [List.length_take] at this;omega
 refine zc2b x.done fun h1 tk zr2 hk=>?_;subst zr2;have noA:∀ b:Addr,b∉(cxOf CX P w K mg base N qual scope f cd A outer s H E).ex:=fun b z=>absurd (show b∈([]:List Addr) from z) (by simp -iota);refine ⟨⟨e0.mod,S.kind,rfl,rfl,Nat.le_refl _,fun y z c h1 h2=>?_,fun y hy=>?_,fun y c _ h=>?_,fun _=>hd,Around.frames_deeper e0.frames,.inr ⟨rfl,rfl⟩,fun b z=>absurd z (noA b),e0.bs,e0.bsz,fun b _ _=>noA b,fun b z=>absurd z (noA b),e0.funs,e0.frf⟩,
  rfl,e0.bare,Un.kept hk,⟨_,x.toInCall.ns,fun i y v h1 h2 h3=>?_⟩,fun y c h=>⟨_,x.cell y c h⟩,e0.hok.fresh (Nat.le_refl _),fun y c h=>?_,fun p hp=>absurd (show p∈([]:List (Addr×Obj)) from hp) (by simp -iota),e0.hok.kept hk,?_⟩
 ·exact name_of_addr x.apart (PySem.mem_of_lookup h1) (PySem.mem_of_lookup h2)
 ·have hy:scope.names.lookup y=some .cell\/scope.names.lookup y=some .free:=hy;rcases hy with hy|hy
  ·exact zjb hy
  ·exact absurd rfl (S.nofree _ (PySem.mem_of_lookup hy))
 ·exact Nat.le_of_lt (x.above y c (PySem.mem_of_lookup h))
 ·have hi:i<vs.length:=by
   unfold start at h2;by_cases hi:i<vs.length
   ·exact hi
   ·rw [List.getElem?_append_right (by simpa -iota using hi)] at h2;rw [List.getElem?_replicate] at h2
    split at h2<;>cases h2
  have ha:vs[i]? = some v:=by
   unfold start at h2;rw [List.getElem?_append_left (by simpa -iota using hi),List.getElem?_map] at h2;cases e:vs[i]? with
   |none=>rw [e] at h2;cases h2
   |some a=>rw [e] at h2;cases h2;rfl
  refine zc1b (r.get ha) fun u hu rv=>?_;have hp:ps[i]? = some y:=by
   rw [<- S.pre,List.getElem?_take_of_lt (by omega)];exact h1
  have ndP:ps.Nodup:=by rw [<- S.pre];exact S.nd.sublist (List.take_sublist _ _)
  refine ⟨u,rv,?_⟩;rcases S.par y (List.mem_of_getElem? hp) with k|k
  ·exact .inl ⟨k,zhY ndP hp hu k⟩
  ·obtain ⟨c,e⟩:=zjb (n:=s.heap.objs.size+1) k;refine .inr ⟨.inl k,c,e,?_⟩;have q:=x.cell y c e;rw [zhT ndP hp hu (by show scope.names.lookup y≠_;rw [k];decide)] at q;exact q
 ·exact e0.hok.fresh (Nat.le_of_lt (x.above y c (PySem.mem_of_lookup h)))
 ·unfold start;show _=N.length;rw [List.length_append,Zql,List.length_replicate];omega
theorem zr8 {CX:CXT}{P:Program}{w:World}{K:W.Frag}{mg:Str->Option Value}{base:Heap}{k:Nat}{f:Addr}{name qual:Str}{params:Arguments}{body:List Stmt}{scope:Scope}{dV kV doc pm cdv ct oc:Value}{an od:Option Addr}
 {osl:Array (Option Value)} {N ps:List Str} {sp:Sp} (lk:K.lookup f=some ⟨oc,od,.func (W.fnOf name qual params body scope dV kV doc pm an cdv ct),osl⟩) (hcd:W.codeIn K cdv qual=true) (S:FnScope N ps scope)
 (len:∀ vs H Q E,sp vs H Q E->vs.length=ps.length)
 (hbody:∀ (A:Around) (outer:List Env) (s:Shared) (H:Hp) (vs:List V) (Q:VK) (E:XK),Room k (A.deeper (envOfC qual scope s.heap.objs.size f cdv))->sp vs H Q E ->
  ∃ t,PSs (cxOf CX P w K mg base N qual scope f cdv A outer s H E) body t/\t { nx:=fun _ H'=>Q .non H',rt:=Q } (start N vs) H) :
 FnOk P w K mg base CX (k+1) f (W.fnOf name qual params body scope dV kV doc pm an cdv ct) ps sp:=by
 refine ⟨len,fun A outer s H args us vs Q E hr e0 hb r hsp=>?_⟩;have hl:=len _ _ _ _ hsp;have KX:K.In s.heap:=e0.mod.kin.keeps fun b o e=>(e0.bs b o e).1;have lim:s.heap.NoLimit:=e0.mod.nolimit.keeps fun b o e=>(e0.bs b o e).1;have hkind:∀ y∈ps.zip us,scope.names.lookup y.1=some .local\/(scope.names.lookup y.1=some .cell/\((cellsFrom (s.heap.objs.size+1) scope.names []).lookup y.1).isSome=true):=fun ⟨n,v⟩ hy=>by
  rcases S.par n (List.of_mem_zip hy).1 with q|q
  ·exact .inl q
  ·exact .inr ⟨q,W.cellsFrom_some _ _ _ (.inl q)⟩
 refine codeAny_call_function hr.depth (KX _ _ lk) rfl S.co S.gen rfl (W.codeRec_of KX hcd) (hb _ _ _ _ ?_);refine wpAny_newFunctionEnv_cells S.kind hkind fun env he s1 x=>?_;subst he;refine ⟨lim.keeps x.toInCall.keep,codeAny_func ?_⟩;refine zc1b (hbody A outer s H vs Q E (hr.deeper _) hsp) fun t ht hq=>?_;have I:Inv (cxOf CX P w K mg base N qual scope f cdv A outer s H E) [] (start N vs) H s1:=zkR S hr.hd e0 hl r x;refine wpAny_mono (ht [] s1 (start N vs) H _ I hq) (fun fl s' hs=>?_) fun e s' hs=>hs;have fin:∀ {σ':St} {H':Hp} {v:V} {u:Value},Inv (cxOf CX P w K mg base N qual scope f cdv A outer s H E) [] σ' H' s'->RelV v u->Q v H'->CE outer P w H s Q u s' :=
  fun {σ' H' v u} J rv q=>⟨v,H',J.os,J.bare,J.base,J.hok,rv,q⟩
 cases fl with
 |ret u =>
  refine zc3c hs fun v σ' H' J rv q=>?_;exact fin J rv q
 |next =>
  refine zc2b hs fun σ' H' J q=>?_;exact fin (v:=V.non) (u:=Value.none) J rfl q
 |brk =>
  refine zc2b hs fun _ _ _ q=>?_;exact False.elim q
 |cont =>
  refine zc2b hs fun _ _ _ q=>?_;exact False.elim q
section
variable {X:Cx}{x:Str}{p pos:Pos}{e:Expr}{es:List Expr}{t:TA}{id T:String}{r:List V->Hp->VK->Prop}
noncomputable def tCB (r:List V->Hp->VK->Prop)(t:TA):TE:=fun σ H Q=>t σ H fun vs H1=>r vs H1 Q
theorem zez (hc:zat X (.builtin id) r)(hg:Gl X x)(hm:X.mg x=none)(hv:bootBuiltins x=some (.builtin id))(ha:PA X (e::es) t)(hn:autoParam (x ≠ "__name__") zav._auto_1)(hdb:autoParam ((x == ("__debug__" : Str))=false) zav._auto_1)
 (he:autoParam (starEach (e::es) X.env=(false,eval e X.env)::starEach es X.env) zau._auto_1) (hpl:autoParam ((backTo pos (starEach es X.env)).any (·.1)=false) zau._auto_1):PE X (.Call (.Name x p) (e::es) [] pos) (tCB r t):=by
 intro pins s σ H Q I h;refine wpAny_Call_Name_kw (zfP I hg hm hv ?_ hn hdb);exact PyProof.Rows.callWith_builtin1 (thn (ha pos pins s σ H _ I h) (by rintro us s1 ⟨vs,H1,I1,r1,q1⟩;exact hc pins s1 σ H1 vs us Q I1 r1 q1)) he hpl
theorem zeW (hc:zat X (.type T) r)(hg:Gl X x)(hm:X.mg x=none)(hv:bootBuiltins x=some (.type T))(ha:PA X (e::es) t)(hn:autoParam (x ≠ "__name__") zav._auto_1)(hdb:autoParam ((x == ("__debug__" : Str))=false) zav._auto_1)
 (he:autoParam (starEach (e::es) X.env=(false,eval e X.env)::starEach es X.env) zau._auto_1) (hpl:autoParam ((backTo pos (starEach es X.env)).any (·.1)=false) zau._auto_1):PE X (.Call (.Name x p) (e::es) [] pos) (tCB r t):=by
 intro pins s σ H Q I h;refine wpAny_Call_Name_kw (zfP I hg hm hv ?_ hn hdb);exact PyProof.Rows.callWith_type1 (thn (ha pos pins s σ H _ I h) (by rintro us s1 ⟨vs,H1,I1,r1,q1⟩;exact hc pins s1 σ H1 vs us Q I1 r1 q1)) he hpl
end
end L2
namespace HT
open PySem PyProof.Rows
noncomputable def lexLt:List Int->List Int->Bool
 | [],[]=>false
 | [],_::_=>true
 |_::_,[]=>false
 |x::xs,y::ys=>if x=y then lexLt xs ys else decide (x<y)
theorem lexLt_cons (x y:Int)(xs ys:List Int):lexLt (x::xs) (y::ys)=if x=y then lexLt xs ys else decide (x<y):=rfl
theorem lexLt_nil_nil:lexLt [] []=false:=rfl
theorem zf2 (y:Int)(ys:List Int):lexLt [] (y::ys)=true:=rfl
theorem zfB (x:Int)(xs:List Int):lexLt (x::xs) []=false:=rfl
theorem znj (A:Around)(s:Shared)(a:Int)(t:Tok)(c:Int)(u:Tok):∃ e,SeqAt.EqAt A s (.int a t) (.int c u) e/\(e=true↔a=c) :=
 ⟨(a == c),SeqAt.EqAt.int_int a t c u,by simp -iota⟩
theorem zn5 (A:Around)(s:Shared)(a:Int)(t:Tok)(c:Int)(u:Tok)(prog:Program)(w:World)(E:Value->Shared->Prop)(Q:Value->Shared->Prop)(h:Q (.bool (decide (a<c))) s) :
 wpAny (model prog w) A (richCompare .Lt (.int a t) (.int c u)) Q E s :=
 (PyProof.Rows.lt_int h:wpAny (model prog w) A (compareOp .Lt (.int a t) (.int c u)) Q E s)
section
open PySem.SeqAt
open PySem.AutoSeq1 (wpAny_loadPart')
open PySem.MeetsSeq PySem.MeetsSeq2 PySem.MeetsSeq3
theorem zgl (l b:Addr)(items items2:Array Value)(n n2:Nat)(dd dd2:Option Addr)(sl sl2:Array (Option Value))(ns ms:List Int)(hi:IntsAre items.toList ns)(hj:IntsAre items2.toList ms) :
 Meets (Builtin.«tuple.__lt__» ⟨[.ref l,.ref b],[]⟩)
  (fun _ R s=>s.heap.get? l=some { cls:=.type "tuple",dict:=dd,data:=.seq items n,slots:=sl }/\s.heap.get? b=some { cls:=.type "tuple",dict:=dd2,data:=.seq items2 n2,slots:=sl2 } /\
   R (.ok (.ret (.bool (lexLt ns ms)))) s) :=
 .of_wp fun prog w A R s h=>by
  obtain ⟨hp,g,d,tk,os⟩:=s;obtain ⟨hl,hb,h⟩:=h;have f2:=AutoSeq1.sub_tuple_tuple;have z1:items.size=ns.length:=by rw [<- hi.length];simp -iota
  have z2:items2.size=ms.length:=by rw [<- hj.length];simp -iota
  wp_walk using wpAny_loadPart' hl,wpAny_loadPart' hb,wpAny_forIn_list _ (fun rest b s'=>b.1=none/\s'=⟨hp,g,d,tk,os⟩/\∃ (vs ws:List Value) (ns' ms':List Int),rest=vs.zip ws /\
   IntsAre vs ns'/\IntsAre ws ms'/\ns'.length+items2.size=ms'.length+items.size/\R (.ok (.ret (.bool (lexLt ns' ms')))) ⟨hp,g,d,tk,os⟩) _
  case turn =>
   rintro ⟨y,x⟩ rest b s' ⟨hb',rfl,vs,ws,ns',ms',hz,hvi,hwi,hlen,hR⟩;cases hvi with
   |nil=>rw [List.zip_nil_left] at hz;cases hz
   |cons a t hvi' =>
    cases hwi with
    |nil=>rw [List.zip_nil_right] at hz;cases hz
    |cons c u hwi' =>
     rw [List.zip_cons_cons] at hz;injection hz with hyx hrest
     injection hyx with hy hx
     subst hy hx;rw [lexLt_cons] at hR;simp -iota only [List.length_cons] at hlen;refine zc1b (znj A.in1 ⟨hp,g,d,tk,os⟩ a t c u) fun e he hiff=>?_;refine wpAny_bind (he prog w _ _ ?_);cases e with
     |true =>
      rw [if_pos (hiff.mp rfl)] at hR
      wp_walk
      exact ⟨rfl,rfl,_,_,_,_,hrest,hvi',hwi',by omega,hR⟩
     |false =>
      rw [if_neg (fun q=>absurd (hiff.mpr q) Bool.false_ne_true)] at hR;have hri:=zn5 A.in1 ⟨hp,g,d,tk,os⟩ a t c u prog w
      wp_walk using hri
      exact ⟨_,rfl,by simpa -iota using hR⟩
  case fin =>
   rintro ⟨b1,b2⟩ s' ⟨hb',rfl,vs,ws,ns',ms',hz,hvi,hwi,hlen,hR⟩;simp -iota only at hb';subst hb';have hv:lexLt ns' ms'=decide (items.size<items2.size):=by
    cases hvi with
    |nil =>
     cases hwi with
     |nil =>
      simp -iota only [List.length_nil] at hlen;rw [lexLt_nil_nil];exact (decide_eq_false (by omega)).symm
     |cons c u hw =>
      simp -iota only [List.length_nil,List.length_cons] at hlen;rw [zf2];exact (decide_eq_true (by omega)).symm
    |cons a t hv =>
     cases hwi with
     |nil =>
      simp -iota only [List.length_nil,List.length_cons] at hlen;rw [zfB];exact (decide_eq_false (by omega)).symm
     |cons c u hw =>
      rw [List.zip_cons_cons] at hz;cases hz
   rw [hv] at hR
   wp_walk
   exact ⟨_,rfl,by simpa -iota [Builtin.Tuple.tupleCompareSizes] using hR⟩
  case h =>
   exact ⟨rfl,rfl,items.toList,items2.toList,ns,ms,rfl,hi,hj,by omega,h⟩
end
section
variable {prog:Program}{w:World}{A:Around}{E:Value->Shared->Prop}{s:Shared}
theorem lt_tupInts {l b:Addr}{items items2:Array Value}{ns ms:List Int}{Q:Value->Shared->Prop}(hl:IsTup s.heap l items)(hb:IsTup s.heap b items2)(hi:IntsAre items.toList ns)(hj:IntsAre items2.toList ms)
 (hu:A.units<cLine) (h:Q (.bool (lexLt ns ms)) s):wpAny (model prog w) A (compareOp .Lt (.ref l) (.ref b)) Q E s:=by
 refine zc1c (id hl) fun zr0 ho hc zz=>zc1a zz fun n hd=>?_;obtain ⟨cls,dd,data,sl⟩:=zr0;refine zc1c (id hb) fun zr0 ho2 hc2 zz=>zc1a zz fun n2 hd2=>?_;obtain ⟨cls2,dd2,data2,sl2⟩:=zr0;simp -iota only at hc hd hc2 hd2;subst hc hd hc2 hd2;exact richCompare_meets_room (op:=.Lt) ⟨_,ho,rfl⟩ ⟨_,ho2,rfl⟩ PySem.F.slot_tuple_lt PySem.F.entry_tuple_lt (PySem.F.args_tuple_lt_2 _ _) (zgl l b items items2 n n2 dd dd2 sl sl2 ns ms hi hj)
  ⟨ho,ho2,show Value.bool (lexLt ns ms)≠Value.notImplemented/\Q (.bool (lexLt ns ms)) s from ⟨(fun x=>nomatch x),h⟩⟩ hu
theorem cat_tup {t b:Addr}{vs ws:List Value}{Q:Value->Shared->Prop}(ht:IsTup s.heap t vs.toArray)(hb:IsTup s.heap b ws.toArray)(hv:vs ≠ [])
 (h1:ws=[]->Q (.ref t) s) (h2:ws ≠ []->Q (.ref s.heap.objs.size) { s with heap:=s.heap.push { cls:=.type "tuple",data:=.seq (vs++ws).toArray } })
 (hsz:vs.length+ws.length<=sizeLine):wpAny (model prog w) A (binaryOp .Add (.ref t) (.ref b)) Q E s:=by
 refine zc1c (id ht) fun zr0 ho hc zz=>zc1a zz fun n hd=>?_;obtain ⟨cls,dd,data,sl⟩:=zr0;refine zc1c (id hb) fun zr0 ho2 hc2 zz=>zc1a zz fun n2 hd2=>?_;obtain ⟨cls2,dd2,data2,sl2⟩:=zr0;simp -iota only at hc hd hc2 hd2;subst hc hd hc2 hd2;have e:vs.toArray++ws.toArray=(vs++ws).toArray:=by simp -iota
 by_cases hw:ws=[]
 ·exact concat_meets ⟨_,ho,rfl⟩ ⟨_,ho2,rfl⟩ noFill_tuple_add seq_tuple_add PySem.F.slot_tuple_add PySem.F.entry_tuple_add (PySem.F.args_tuple_add_2 _ _)
   (tuple_addW1 t b vs.toArray ws.toArray n n2 dd dd2 sl sl2 (by simpa -iota using hv) (by simp -iota [hw])) ⟨ho,ho2,h1 hw⟩
 ·refine concat_meets ⟨_,ho,rfl⟩ ⟨_,ho2,rfl⟩ noFill_tuple_add seq_tuple_add PySem.F.slot_tuple_add PySem.F.entry_tuple_add (PySem.F.args_tuple_add_2 _ _)
   (tuple_addW2 t b vs.toArray ws.toArray n n2 dd dd2 sl sl2 (by simpa -iota using hv) (by simpa -iota using hw) (by rw [List.size_toArray,List.size_toArray];exact hsz)) ⟨ho,ho2,?_⟩
  rw [e];exact h2 hw
end
end HT
namespace L2
abbrev TO:=St->Hp->(Option Int->Hp->Prop)->Prop
noncomputable def PO (X:Cx)(e:Option Expr)(t:TO):Prop :=
 ∀ (pins:List (Addr×Obj)) (s:Shared) (σ : St) (H:Hp) (Q:Option Int->Hp->Prop),Inv X pins σ H s->t σ H Q ->
  wpAny (model X.prog X.w) X.A (evalPart e X.env) (fun u s'=>∃ o H',Inv X pins σ H' s'/\IsPart u o/\Q o H') X.xe s
noncomputable def zqP:TO:=fun _ H Q=>Q none H
noncomputable def tPart (t:TE):TO:=fun σ H Q=>t σ H fun x H1=>∃ i,x=.int i/\Q (some i) H1
theorem zeb {ns:List Int}:∀ {us:List Value},Vals (ns.map V.int) us->IntsAre us ns:=by
 induction ns with
 |nil=>intro us r;rw [List.map_nil] at r;cases r;exact .nil
 |cons n ns ih =>
  intro us r;rw [List.map_cons] at r;cases r with
  |cons r1 r2 =>
   obtain ⟨t,e⟩:=r1;subst e;exact .cons n t (ih r2)
section
variable {X:Cx}{e:Expr}{te:TE}{lo hi:Option Expr}{tl th:TO}{pos p2:Pos}
theorem zqD:PO X none zqP:=by
 intro pins s σ H Q I h;rw [evalPart_none];exact wpAny_pure ⟨none,H,I,.none,h⟩
theorem zql (h:PE X e te):PO X (some e) (tPart te):=by
 intro pins s σ H Q I hw;rw [evalPart_some];refine thn (h pins s σ H _ I hw) fun u s1 zh=>?_;refine zc2c zh fun x H1 I1 r1 q1=>?_;refine zc1b q1 fun i zr1 q=>?_;subst zr1;obtain ⟨t,rfl⟩:=r1;exact ⟨some i,H1,I1,.int i t,q⟩
def rCatT (K:W.Frag):R2:=fun x y H Q=>∃ a b xs ys,x=.ref a/\y=.ref b/\SqT K H a xs/\SqT K H b ys/\xs ≠ []/\xs.length+ys.length<=sizeLine /\
 (ys=[]->Q (.ref a) H)/\(ys ≠ []->∀ p,H p=none->Q (.ref p) (upd H p (.tup (xs++ys))))
theorem Vals.nil_iff {xs:List V}{us:List Value}(r:Vals xs us):us=[]↔xs=[]:=by
 cases r with
 |nil=>simp -iota
 |cons _ _=>simp -iota
theorem zkO:OpR X (binaryOp .Add) (rCatT X.K):=by
 intro pins s σ H x y v u Q I rx ry h;refine zc4a h fun a b xs ys zz=>zc0e zz fun zr4 zr5 ha hb zz=>zc0d zz fun hx hz q1 q2=>?_;subst zr4;subst zr5;cases rx;cases ry;refine zc1c (I.tuple ha) fun its r1 p1 _=>?_;refine zc1c (I.tuple hb) fun its2 r2 p2 _=>?_;refine HT.cat_tup p1 p2 (fun z=>hx (r1.nil_iff.mp z)) (fun z=>⟨.ref a,H,I,rfl,q1 (r2.nil_iff.mp z)⟩) (fun z=>?_) (by rw [<- r1.length,<- r2.length];exact hz);refine ⟨.ref s.heap.objs.size,_,I.laid (t':=s.toks) (o:=.tup (xs++ys)) (fun b ob q=>Heap.get?_push_of_some _ q) (Nat.le_refl _) ?_,rfl,q2 (fun w=>z (r2.nil_iff.mpr w)) _ (I.hok.fresh (Nat.le_refl _))⟩;exact ⟨⟨by rw [List.length_append];exact hz,⟨_,Heap.get?_push_size _ rfl,rfl⟩⟩,_,r1.append r2,IsTup.new _ _⟩
end
noncomputable def ixN (n:Nat)(i:Int):Option Nat:=if 0<=i then (if i<n then some i.toNat else none) else if -(n:Int)<=i then some (i+n).toNat else none
def atI {α : Type}(xs:List α)(i:Int):Option α := (ixN xs.length i).bind fun j=>xs[j]?
theorem zld {n:Nat}{i:Int}{j:Nat}(h:ixN n i=some j):seqIndex? i n=some j/\j<n /\ -(n:Int)<=i/\i<n:=by
 unfold ixN at h;by_cases h0:0<=i
 ·rw [if_pos h0] at h;by_cases h1:i<n
  ·rw [if_pos h1] at h;have e:i.toNat=j:=Zqi h;exact ⟨by rw [seqIndex_of h0 h1,e],by omega,by omega,h1⟩
  ·rw [if_neg h1] at h;cases h
 ·rw [if_neg h0] at h;by_cases h1 : -(n:Int)<=i
  ·rw [if_pos h1] at h;have e:(i+n).toNat=j:=Zqi h;exact ⟨by rw [seqIndex_neg (by omega) h1,e],by omega,h1,by omega⟩
  ·rw [if_neg h1] at h;cases h
theorem zih {α : Type}{xs:List α}{i:Int}{v:α}(h:atI xs i=some v):∃ j,seqIndex? i xs.length=some j/\xs[j]? = some v/\j<xs.length /\ -(xs.length:Int)<=i/\i<xs.length:=by
 unfold atI at h;cases e:ixN xs.length i with
 |none=>rw [e] at h;cases h
 |some j =>
  rw [e] at h;refine zc0d (zld e) fun h1 h2 h3 h4=>?_;exact ⟨j,h1,h,h2,h3,h4⟩
noncomputable def ziA (b:Expr):Prop:=∀ o i,subscripted b false o i=operate [o,i] (getItem o i)
def IxR (X:Cx)(r:R2):Prop :=
 ∀ (value slice:Expr) (pins:List (Addr×Obj)) (s:Shared) (σ : St) (H:Hp) (x y:V) (v u:Value) (Q:VK),Inv X pins σ H s->RelV x v->RelV y u->r x y H Q ->
  subscripted slice false v u=operate [v,u] (getItem v u)->wpAny (model X.prog X.w) X.A (subscriptTail value slice v u) (EP X pins σ Q) X.xe s
def MtR (X:Cx)(id:String)(r:V->List V->Hp->VK->Prop):Prop :=
 ∀ (pins:List (Addr×Obj)) (s:Shared) (σ : St) (H:Hp) (x:V) (xs:List V) (v:Value) (us:List Value) (Q:VK),Inv X pins σ H s->RelV x v->Vals xs us->r x xs H Q ->
  wpAny (model X.prog X.w) X.A (call (.builtin id) (v::us)) (EP X pins σ Q) X.xe s
section
variable {X:Cx}{a b:Expr}{ta tb:TE}{pos:Pos}
theorem IxR.or {r r':R2}(h:IxR X r)(h':IxR X r'):IxR X (fun x y H Q=>r x y H Q\/r' x y H Q):=by
 intro value slice pins s σ H x y v u Q I rx ry q hs;rcases q with q|q
 ·exact h value slice pins s σ H x y v u Q I rx ry q hs
 ·exact h' value slice pins s σ H x y v u Q I rx ry q hs
theorem zsb {r:R2}(hr:IxR X r)(ha:PE X a ta)(hb:PE X b tb)(hs:ziA b):PE X (.Subscript a b pos) (tOp r ta tb):=by
 intro pins s σ H Q I h;exact Subscript_ (binT ha hb I h fun v u s2 x y H2 I2 rx ry q=>hr a b pins s2 σ H2 x y v u Q I2 rx ry q (hs _ _))
def rIxL (K:W.Frag):R2:=fun x y H Q=>∃ p xs i v,x=.ref p/\y=.int i/\SqL K H p xs/\atI xs i=some v/\Q v H
def rIxT (K:W.Frag):R2:=fun x y H Q=>∃ p xs i v,x=.ref p/\y=.int i/\SqT K H p xs/\atI xs i=some v/\Q v H
def rIxS:R2:=fun x y H Q=>∃ z i c,x=.str z/\y=.int i/\z.length<=sizeLine/\atI z.cps.toList i=some c/\Q (.str ⟨#[c]⟩) H
theorem zmW:IxR X (rIxL X.K):=by
 intro value slice pins s σ H x y v u Q I rx ry h hs;refine zc4a h fun p xs i z zz=>zc0e zz fun zr4 zr5 hq he q=>?_;subst zr4;subst zr5;cases rx;obtain ⟨t,rfl⟩:=ry;refine zc1c (I.list hq) fun its r pl hz=>?_;refine zc1e (zih he) fun j h1 h2 h3 h4 h5=>?_;refine zc1b (r.get h2) fun w ew rw'=>?_;have hl:=r.length;have hn:=zfT;have fin:EP X pins σ Q w s:=⟨z,H,I,rw',q⟩;by_cases h0:0<=i
 ·have hj:i.toNat=j:=by
   rw [seqIndex_of h0 h5] at h1;exact Zqi h1
  exact item_listR pl.isList h0 (by omega) (by rw [hj];simpa -iota using ew) fin hs
 ·have hj:(i+(its.toArray.size:Int)).toNat=j:=by
   rw [seqIndex_neg (by omega) h4] at h1;rw [List.size_toArray,<- hl];exact Zqi h1
  exact subscriptTail_builtinR (x:=w) pl.isList.typeIs slot_list_getitem.lookup
   (wpAny_getItem_list_neg (Q:=fun r s'=>r=w/\EP X pins σ Q r s') pl.isList (by omega) (by rw [List.size_toArray]<;>omega) (by omega) (by rw [hj];simpa -iota using ew) ⟨rfl,fin⟩) hs
theorem zsV:IxR X (rIxT X.K):=by
 intro value slice pins s σ H x y v u Q I rx ry h hs;refine zc4a h fun p xs i z zz=>zc0e zz fun zr4 zr5 hq he q=>?_;subst zr4;subst zr5;cases rx;obtain ⟨t,rfl⟩:=ry;refine zc1c (I.tuple hq) fun its r pl hz=>?_;refine zc1e (zih he) fun j h1 h2 h3 h4 h5=>?_;refine zc1b (r.get h2) fun w ew rw'=>?_;have hl:=r.length;have hn:=zfT;have fin:EP X pins σ Q w s:=⟨z,H,I,rw',q⟩;exact subscriptTail_builtinR (x:=w) pl.typeIs slot_tuple_getitem.lookup
  (getItem_tuple (j:=j) (Q:=fun r s'=>r=w/\EP X pins σ Q r s') pl (by omega) (by omega) (by rw [List.size_toArray,<- hl];exact h1) (by simpa -iota using ew) ⟨rfl,fin⟩) hs
theorem zt8:IxR X rIxS:=by
 intro value slice pins s σ H x y v u Q I rx ry h hs;refine zc3a h fun z i c zz=>zc0e zz fun zr3 zr4 hz he q=>?_;subst zr3;subst zr4;obtain ⟨t,rfl⟩:=rx;obtain ⟨t',rfl⟩:=ry;refine zc1e (zih he) fun j h1 h2 h3 h4 h5=>?_;have hl:z.cps.toList.length=z.length:=by simp -iota [Str.length]
 rw [hl] at h1 h4 h5;have hn:=zfT;exact tail_any (typeIs_str s z t) slot_str_getitem.lookup (getItem_str (c:=c) (by
  have e1:decide (i < -(2 ^ 63:Int))=false:=decide_eq_false (by omega);have e2:decide (i ≥ 2 ^ 63)=false:=decide_eq_false (by omega);rw [e1,e2,Bool.or_false]) (by rw [h1];simpa -iota using h2) ⟨.str ⟨#[c]⟩,H,I.tok _,⟨_,rfl⟩,q⟩) hs
def rIx (K:W.Frag):R2:=fun x y H Q=>rIxL K x y H Q\/rIxT K x y H Q\/rIxS x y H Q
theorem zsO:IxR X (rIx X.K):=zmW.or (zsV.or zt8)
theorem zjB (its:List Value)(n j:Nat)(u:Value):Obj.mapSeq (·.setIfInBounds j u) { cls:=.type "list",data:=.seq its.toArray n }={ cls:=.type "list",data:=.seq (its.set j u).toArray n }:=by
 simp [Obj.mapSeq]
theorem Inv.lst {pins:List (Addr×Obj)}{σ : St}{H:Hp}{s:Shared}{p:Addr}{xs:List V}(I:Inv X pins σ H s)(h:H p=some (.lst xs)) :
 ∃ (its:List Value) (n:Nat),Vals xs its/\s.heap.get? p=some { cls:=.type "list",data:=.seq its.toArray n }/\xs.length<=sizeLine:=by
 refine zc0b (I.hok p _ h) fun z zz=>zc2b zz fun its n r e=>?_;exact ⟨its,n,r,e,z⟩
theorem Inv.lstUpd {pins:List (Addr×Obj)}{σ : St}{H:Hp}{s:Shared}{p:Addr}{xs ys:List V}{its its':List Value}{n n':Nat}{f:Obj->Obj}(I:Inv X pins σ H s)(h:H p=some (.lst xs))
 (ho:s.heap.get? p=some { cls:=.type "list",data:=.seq its.toArray n }) (hf:f { cls:=.type "list",data:=.seq its.toArray n }={ cls:=.type "list",data:=.seq its'.toArray n' }) (r:Vals ys its') (hz:ys.length<=sizeLine) (t:Nat) :
 Inv X pins σ (upd H p (.lst ys)) { s with heap:=s.heap.update p f,toks:=t }:=by
 have e:(s.heap.update p f).get? p=some { cls:=.type "list",data:=.seq its'.toArray n' }:=by
  rw [Heap.get?_update_self f ho (by rw [hf]<;>rfl),hf]
 refine I.write (x:=p) (e:=p) (by rw [h];trivial) (.inl rfl) (fun b u hb q=>(Heap.get?_update_other _ _ (Ne.symm hb)).trans q) ⟨_,e⟩ ?_;exact ⟨hz,its',n',r,e⟩
def rSetL:V->V->V->Hp->(Hp->Prop)->Prop:=fun o i v H Q=>∃ p xs k j,o=.ref p/\i=.int k/\H p=some (.lst xs)/\ixN xs.length k=some j/\Q (upd H p (.lst (xs.set j v)))
theorem zoe:PSet X rSetL:=by
 intro pins s σ H o i v ov iv u Q I ro ri rv h;refine zc4a h fun p xs k j zz=>zc0e zz fun zr4 zr5 hp hj q=>?_;subst zr4;subst zr5;cases ro;obtain ⟨t,rfl⟩:=ri;refine zc2c (I.lst hp) fun its n r ho hz=>?_;refine zc0d (zld hj) fun h1 h2 h3 h4=>?_;have hl:=r.length;have hn:=zfT;have I':Inv X pins σ (upd H p (.lst (xs.set j v))) { s with heap:=s.heap.update p (Obj.mapSeq (·.setIfInBounds j u)) } :=
  I.lstUpd hp ho (zjB its n j u) (r.set rv j) (by rw [List.length_set];exact hz) s.toks
 by_cases h0:0<=k
 ·have hk:k.toNat=j:=by
   rw [seqIndex_of h0 h4] at h1;exact Zqi h1
  exact W.ki_setAt ho h0 (by omega) (by rw [List.size_toArray,<- hl];exact h4) (by rw [hk];exact ⟨_,I',q⟩)
 ·have hk:(k+(its.toArray.size:Int)).toNat=j:=by
   rw [seqIndex_neg (by omega) h3] at h1;rw [List.size_toArray,<- hl];exact Zqi h1
  exact W.ki_setBack ho (by omega) (by rw [List.size_toArray,<- hl];exact h3) (by omega) (by rw [hk];exact ⟨_,I',q⟩)
theorem zhD:zat X (.builtin "len") (fun xs H Q=>∃ p ys,xs=[.ref p]/\(SqL X.K H p ys\/SqT X.K H p ys)/\Q (.int ys.length) H):=by
 intro pins s σ H xs us Q I r h;refine zc2c h fun p ys zr2 hq q=>?_;subst zr2;refine zc1b (zcn r) fun u zr1 rx=>?_;subst zr1;cases rx;have hn:=zfT;rcases hq with hq|hq
 ·refine zc1c (I.list hq) fun its r' pl hz=>?_;have hlen:=r'.length;exact Calls.call_len_list pl.isList (by simp -iota only [List.size_toArray]<;>omega) ⟨.int ys.length,H,I.tok _,⟨s.toks+1,by rw [List.size_toArray,hlen]⟩,q⟩
 ·refine zc1c (I.tuple hq) fun its r' pl hz=>?_;have hlen:=r'.length;exact len_tuple pl (by simp -iota only [List.size_toArray]<;>omega) ⟨.int ys.length,H,I.tok _,⟨s.toks+1,by rw [List.size_toArray,hlen]⟩,q⟩
theorem zhe:zat X (.builtin "len") (fun xs H Q=>∃ z,xs=[.str z]/\z.length<=sizeLine/\Q (.int z.length) H):=by
 intro pins s σ H xs us Q I r h;obtain ⟨z,rfl,hz,q⟩:=h;obtain ⟨u,rfl,t,rfl⟩:=zcn r;have hn:=zfT;exact len_str (by omega) ⟨.int z.length,H,I.tok _,⟨_,rfl⟩,q⟩
theorem zat.or {f:Value}{r r':List V->Hp->VK->Prop}(h:zat X f r)(h':zat X f r'):zat X f (fun xs H Q=>r xs H Q\/r' xs H Q):=by
 intro pins s σ H xs us Q I rs q;rcases q with q|q
 ·exact h pins s σ H xs us Q I rs q
 ·exact h' pins s σ H xs us Q I rs q
theorem zh8:zat X (.type "list") (fun xs H Q=>∃ p ys,xs=[.ref p]/\(SqL X.K H p ys\/SqT X.K H p ys)/\∀ l,H l=none->Q (.ref l) (upd H l (.lst ys))):=by
 intro pins s σ H xs us Q I r h;refine zc2c h fun p ys zr2 hq q=>?_;subst zr2;refine zc1b (zcn r) fun u zr1 rx=>?_;subst zr1;cases rx;have fin:∀ (its:List Value),Vals ys its->ys.length<=sizeLine->∀ (h':Heap) (c':Nat),(∀ b o',s.heap.get? b=some o'->h'.get? b=some o') ->
  h'.get? s.heap.objs.size=some { cls:=.type "list",dict:=none,data:=.seq its.toArray c',slots:=#[] }->EP X pins σ Q (.ref s.heap.objs.size) { s with heap:=h' }:=fun its r' hz h' c' kp e =>
  ⟨.ref s.heap.objs.size,_,I.laid (t':=s.toks) kp (Nat.le_refl _) (show zbc X.prog X.w _ h' _ (.lst ys) from ⟨hz,its,c',r',e⟩),rfl,q _ (I.hok.fresh (Nat.le_refl _))⟩
 rcases hq with hq|hq
 ·refine zc1c (I.list hq) fun its r' pl hz=>?_;have hlen:=r'.length;refine zc1c pl.isList fun o ho hc zz=>zc1a zz fun n hd=>?_;exact call_list_seq p (.inl rfl) ho hc hd (fun h' c' kp e=>fin its r' hz h' c' kp e) (by simp -iota only [List.size_toArray]<;>omega)
 ·refine zc1c (I.tuple hq) fun its r' pl hz=>?_;have hlen:=r'.length;refine zc1c pl fun o ho hc zz=>zc1a zz fun n hd=>?_;exact call_list_seq p (.inr rfl) ho hc hd (fun h' c' kp e=>fin its r' hz h' c' kp e) (by simp -iota only [List.size_toArray]<;>omega)
theorem zg9:zat X (.type "tuple") (fun xs H Q=>∃ p ys,xs=[.ref p]/\((SqL X.K H p ys/\∀ l,H l=none->Q (.ref l) (upd H l (.tup ys)))\/(SqT X.K H p ys/\Q (.ref p) H))):=by
 intro pins s σ H xs us Q I r h;obtain ⟨p,ys,rfl,h⟩:=h;obtain ⟨u,rfl,rx⟩:=zcn r;cases rx;rcases h with ⟨hq,q⟩|⟨hq,q⟩
 ·obtain ⟨its,r',pl,hz⟩:=I.list hq;have hlen:=r'.length;refine call_tuple_list pl.isList (fun h' kp=>?_) (by simp -iota only [List.size_toArray]<;>omega);have I1:Inv X pins σ H { s with heap:=h' }:=I.kept (t':=s.toks) kp;have I2:Inv X pins σ (upd H h'.objs.size (.tup ys)) { s with heap:=h'.push { cls:=.type "tuple",data:=.seq its.toArray } } :=
   I1.laid (t':=s.toks) (fun b o e=>Heap.get?_push_of_some _ e) (Nat.le_refl _) (show zbc X.prog X.w _ _ _ (.tup ys) from ⟨⟨hz,⟨_,Heap.get?_push_size _ rfl,rfl⟩⟩,its,r',IsTup.new _ _⟩)
  exact ⟨.ref h'.objs.size,_,I2,rfl,q _ (I1.hok.fresh (Nat.le_refl _))⟩
 ·obtain ⟨its,r',pl,hz⟩:=I.tuple hq;exact call_tuple_same pl ⟨.ref p,H,I,rfl,q⟩
def tyV (K:W.Frag)(T:String)(x:V)(H:Hp):Prop:=match x with
 | .str _=>T = "str"
 | .int _=>T = "int"
 | .ref p=>(T = "list" /\ ∃ xs,SqL K H p xs)\/(T = "tuple" /\ ∃ o,K.lookup p=some o/\o.cls=.type "tuple" /\ o.dict=none) \/
  (T = "dict" /\ ((∃ kvs,H p=some (.dK kvs))\/∃ kvs,H p=some (.dT kvs)))\/(T = "set" /\ ∃ S n,H p=some (.set S n))
 |_=>False
theorem zpo {pins:List (Addr×Obj)}{σ : St}{H:Hp}{s:Shared}{T:String}{x:V}{v:Value}(I:Inv X pins σ H s)(r:RelV x v)(ty:tyV X.K T x H) :
 s.TypeIs v T/\∀ a,v=.ref a->∃ ob,s.heap.get? a=some ob/\ob.dict=none:=by
 cases x with
 |str z =>
  obtain ⟨t,rfl⟩:=r;cases (show T = "str" from ty);exact ⟨typeIs_str s z t,fun _ e=>nomatch e⟩
 |int i =>
  obtain ⟨t,rfl⟩:=r;cases (show T = "int" from ty);exact ⟨typeIs_int s i t,fun _ e=>nomatch e⟩
 |ref p =>
  cases r;rcases ty with ⟨rfl,xs,hq⟩|⟨rfl,o,hk,hc,hd⟩|⟨rfl,hk⟩|⟨rfl,S,n,hk⟩
  ·refine zc1c (I.list hq) fun its _ pl _=>?_;refine ⟨pl.isList.typeIs,fun a e=>?_⟩;cases e;refine zc2d pl fun o n e c hd _=>?_;exact ⟨o,e,hd⟩
  ·refine ⟨⟨o,I.kIn p o hk,hc⟩,fun a e=>?_⟩;cases e;exact ⟨o,I.kIn _ o hk,hd⟩
  ·have z:∃ o,s.heap.get? p=some o/\o.ExactDict:=by
    rcases hk with ⟨kvs,hk⟩|⟨kvs,hk⟩
    ·refine zc0c (I.hok p _ hk) fun _ _ zz=>zc1b zz fun _ _ zz=>zc3c zz fun o _ _ e ex _=>?_;exact ⟨o,e,ex⟩
    ·refine zc0c (I.hok p _ hk) fun _ _ zz=>zc1b zz fun _ _ zz=>zc3c zz fun o _ _ e ex _=>?_;exact ⟨o,e,ex⟩
   refine zc1b z fun o e ex=>?_;refine ⟨⟨o,e,ex.1⟩,fun a e2=>?_⟩;cases e2;exact ⟨o,e,ex.2.1⟩
  ·refine zc4a (I.hok p _ hk) fun o _ _ _ zz=>zc0c zz fun e ex _=>?_;refine ⟨⟨o,e,ex.1⟩,fun a e2=>?_⟩;cases e2;exact ⟨o,e,ex.2.1⟩
 |_=>exact False.elim ty
def tBM0 (K:W.Frag)(T:String)(r:V->List V->Hp->VK->Prop)(to:TE):TE:=fun σ H Q=>to σ H fun x H1=>tyV K T x H1/\r x [] H1 Q
def tBM (K:W.Frag)(T:String)(r:V->List V->Hp->VK->Prop)(to:TE)(t:TA):TE:=fun σ H Q=>to σ H fun x H1=>tyV K T x H1/\t σ H1 fun xs H2=>r x xs H2 Q
variable {o e:Expr}{es:List Expr}{to:TE}{t:TA}{name:Str}{apos cpos:Pos}{T id:String}{r:V->List V->Hp->VK->Prop}
theorem zrt (pa:PlainAttrs T)(slot:Slot T name id)(hty:typeOf (.builtin id)=pure (.type "method_descriptor"))(hm:MtR X id r)(ho:PE X o to)
 (hbase:autoParam (attributeBase o name X.env (eval o X.env)=eval o X.env) zau._auto_1) (hline:autoParam ((apos.endLine == cpos.line)=true) zau._auto_1):PE X (.Call (.Attribute o name apos) [] [] cpos) (tBM0 X.K T r to):=by
 intro pins s σ H Q I h;refine wpAny_Call_method0_late hbase hline (thn (ho pins s σ H _ I h) fun v s1 zh=>?_);refine zc2d zh fun x H1 I1 r1 ty q1=>?_;obtain ⟨h1,h2⟩:=zpo I1 r1 ty;exact ⟨T,id,pa,slot,hty,h1,h2,Calls.callWith_builtin rfl (PySem.evalArgs_none (hm pins s1 σ H1 x [] v [] Q I1 r1 .nil q1))⟩
theorem zdK (pa:PlainAttrs T)(slot:Slot T name id)(hty:typeOf (.builtin id)=pure (.type "method_descriptor"))(hm:MtR X id r)(ho:PE X o to)(ha:PA X (e::es) t)
 (hbase:autoParam (attributeBase o name X.env (eval o X.env)=eval o X.env) zau._auto_1)
 (hfew:((backTo cpos (starEach (e::es) X.env)).all (fun x => !x.1)&&(backToKw cpos (keywordEach [] X.env)).all (fun x=>x.1.isSome)
  && decide ((e::es).length+([]:List Keyword).length+(if ([]:List Keyword).isEmpty then 0 else 1)<30))=true:=by rfl)
 (hline:autoParam ((apos.endLine == cpos.line)=true) zau._auto_1) (hs:autoParam (starEach (e::es) X.env=(false,eval e X.env)::starEach es X.env) zau._auto_1) (hplain:autoParam ((backTo cpos (starEach es X.env)).any (·.1)=false) zau._auto_1) :
 PE X (.Call (.Attribute o name apos) (e::es) [] cpos) (tBM X.K T r to t):=by
 intro pins s σ H Q I h;refine wpAny_Call_method_late hbase hfew hline rfl (thn (ho pins s σ H _ I h) fun v s1 zh=>?_);refine zc2d zh fun x H1 I1 r1 ty q1=>?_;obtain ⟨h1,h2⟩:=zpo I1 r1 ty;refine ⟨T,id,pa,slot,hty,h1,h2,?_⟩;have hA:=ha cpos pins s1 σ H1 _ I1 q1;rw [hs] at hA ⊢;refine Calls.callWith_builtin (by show (false||(backTo cpos (starEach es X.env)).any (·.1))=false;rw [hplain]<;>rfl) (Calls.evalArgs_plain ?_);exact thn hA (by rintro us s2 ⟨vs,H2,I2,r2,q2⟩;exact hm pins s2 σ H2 x vs v us Q I2 r1 r2 q2)
end
def MtM (X:Cx)(id:String)(r:V->List V->Hp->VK->Prop):Prop :=
 ∀ (pins:List (Addr×Obj)) (s:Shared) (σ : St) (H:Hp) (x:V) (xs:List V) (v:Value) (us:List Value) (Q:VK),Inv X pins σ H s->RelV x v->Vals xs us->r x xs H Q ->
  wpAny (model X.prog X.w) X.A (call (.builtin id) (v::us)) (EP X pins σ Q) X.xe s
theorem Vals.one:∀ {x:V} {us:List Value},Vals [x] us->∃ u,us=[u]/\RelV x u:=fun h=>by
 cases h with
 |cons r t=>cases t;exact ⟨_,rfl,r⟩
theorem Vals.zero:∀ {us:List Value},Vals [] us->us=[]
 |_,.nil=>rfl
section
variable {X:Cx}{pins:List (Addr×Obj)}{σ : St}{H:Hp}{s:Shared}{l b:Addr}{xs ys zs:List V}
theorem Inv.lset {its its':List Value}{n:Nat}{f:Array Value->Array Value}{t':Nat}(I:Inv X pins σ H s)(hH:H l=some (.lst xs))
 (e:s.heap.get? l=some { cls:=.type "list",data:=.seq its.toArray n }) (hf:f its.toArray=its'.toArray) (hv:Vals ys its') (hz:ys.length<=sizeLine) :
 Inv X pins σ (upd H l (.lst ys)) { s with heap:=s.heap.update l (Obj.mapSeq f),toks:=t' }:=by
 have q:=PySem.IsL.update e f;rw [hf] at q;refine I.write (x:=l) (e:=l) (by rw [hH];exact trivial) (.inl rfl) (fun b' u hb hu=>(Heap.get?_update_other s.heap (Obj.mapSeq f) (Ne.symm hb)).trans hu) ⟨_,q⟩ ?_;exact ⟨hz,its',_,hv,q⟩
theorem Inv.lnew {its:List Value}{t':Nat}(I:Inv X pins σ H s)(hv:Vals ys its)(hz:ys.length<=sizeLine) :
 Inv X pins σ (upd H s.heap.objs.size (.lst ys)) { s with heap:=s.heap.push { cls:=.type "list",data:=.seq its.toArray },toks:=t' } :=
 I.laid (fun _ _ q=>Heap.get?_push_of_some _ q) (Nat.le_refl _) ⟨hz,its,0,hv,Heap.get?_push_size _ rfl⟩
theorem Inv.fresh (I:Inv X pins σ H s):H s.heap.objs.size=none:=I.hok.fresh (Nat.le_refl _)
theorem Inv.lstM (I:Inv X pins σ H s)(hH:H l=some (.lst xs)):xs.length<=sizeLine/\∃ (its:List Value) (n:Nat),Vals xs its/\xs.length=its.length/\s.heap.get? l=some { cls:=.type "list",data:=.seq its.toArray n }:=by
 refine zc0b (I.hok l _ hH) fun z zz=>zc2b zz fun its n r e=>?_;exact ⟨z,its,n,r,r.length,e⟩
theorem zn0 {n:Nat}(h:n<=sizeLine):Builtin.List.listTooLong n=false:=by
 unfold Builtin.List.listTooLong;exact decide_eq_false (by omega)
end
section
variable {X:Cx}
def zkW:V->List V->Hp->VK->Prop:=fun x vs H Q=>∃ l xs y,x=.ref l/\vs=[y]/\H l=some (.lst xs)/\xs.length<sizeLine/\Q .non (upd H l (.lst (xs++[y])))
theorem zaX:MtM X "list.append" zkW:=by
 intro pins s σ H x vs v us Q I rx rv h;obtain ⟨l,xs,y,rfl,rfl,hH,hz,q⟩:=h;cases rx;obtain ⟨u,rfl,ru⟩:=rv.one;obtain ⟨z,its,n,r,hl,e⟩:=I.lstM hH;refine call_meets F.slot_list_append ⟨_,e,rfl⟩ F.entry_list_append (F.args_list_append_2 _ _) (PySem.list_append l its.toArray n u (by rw [List.size_toArray];omega)) ⟨e,?_⟩;refine ⟨.non,_,I.lset (its':=its++[u]) hH e (by simp -iota) (r.append (.cons ru .nil)) ?_,rfl,q⟩;rw [List.length_append,List.length_singleton];omega
def zkX:V->List V->Hp->VK->Prop:=fun x vs H Q=>∃ l b xs zs,x=.ref l/\vs=[.ref b]/\H l=some (.lst xs)/\H b=some (.lst zs)/\xs.length+zs.length<=sizeLine/\Q .non (upd H l (.lst (xs++zs)))
theorem zmF:MtM X "list.extend" zkX:=by
 intro pins s σ H x vs v us Q I rx rv h;refine zc4a h fun l b xs zs zz=>zc0e zz fun zr4 zr5 hH hB zz=>zc0b zz fun hz q=>?_;subst zr4;subst zr5;cases rx;refine zc1b rv.one fun u zr1 ru=>?_;subst zr1;cases ru;refine zc0b (I.lstM hH) fun z zz=>zc2c zz fun its n r hl e=>?_;refine zc0b (I.lstM hB) fun z2 zz=>zc2c zz fun its2 n2 r2 hl2 e2=>?_;have hsz:its.toArray.size+its2.toArray.size<=sizeLine:=by rw [List.size_toArray,List.size_toArray];omega
 have hlong:¬ (!its.toArray.isEmpty&&Builtin.List.listTooLong (its.toArray.size+its2.toArray.size))=true:=by
  rw [zn0 hsz,Bool.and_false];exact Bool.false_ne_true
 refine call_meets F.slot_list_extend ⟨_,e,rfl⟩ F.entry_list_extend (F.args_list_extend_2 _ _)
  (AutoSeq1.list_extend_list_list_0 l its.toArray n b its2.toArray n2 hlong (by rw [List.size_toArray];omega) (by omega)) ⟨e,e2,?_⟩
 refine ⟨.non,_,I.lset (its':=its++its2) hH e (by simp -iota) (r.append r2) ?_,rfl,q⟩;rw [List.length_append];omega
end
section
variable {prog:Program}{w:World}{A:Around}{E:Value->Shared->Prop}{s:Shared}
set_option maxRecDepth 100000 in
end
section
variable {X:Cx}
end
section
variable {κ : Type}[DecidableEq κ]
noncomputable def valV (kvs:List (κ × V))(k:κ):Option V:=(kvs.find? fun kv=>decide (kv.1=k)).map (·.2)
noncomputable def putK (kvs:List (κ × V))(k:κ)(v:V):List (κ × V) :=
 if (kvs.any fun kv=>decide (kv.1=k))=true then kvs.map (fun kv=>if kv.1=k then (kv.1,v) else kv) else kvs++[(k,v)]
theorem zgB {p:κ × V}{r:List (κ × V)}{k:κ}(e:p.1=k):valV (p::r) k=some p.2:=by simp -iota [valV,List.find?_cons,e]
theorem zgr {p:κ × V}{r:List (κ × V)}{k:κ}(e:¬ p.1=k):valV (p::r) k=valV r k:=by simp -iota [valV,List.find?_cons,e]
theorem zjh (k:κ):∀ kvs:List (κ × V),(kvs.any fun kv=>decide (kv.1=k))=(valV kvs k).isSome
 | []=>rfl
 |p::r=>by
  rw [List.any_cons];by_cases e:p.1=k
  ·simp -iota only [zgB e,decide_eq_true e,Bool.true_or,Option.isSome_some]
  ·rw [zgr e,decide_eq_false e,Bool.false_or];exact zjh k r
theorem zdd (kvs:List (κ × V))(k:κ)(v:V):(putK kvs k v).length<=kvs.length+1:=by
 unfold putK
 split
 ·rw [Zql];omega
 ·rw [List.length_append,List.length_cons,List.length_nil];omega
theorem RelO.isSome_eq {o:Option V}{u:Option Value}(r:RelO o u):o.isSome=u.isSome:=by
 cases o with
 |none=>cases u with
  |none=>rfl
  |some _=>exact (show False from r).elim
 |some _=>cases u with
  |none=>exact (show False from r).elim
  |some _=>rfl
theorem RelO.getD {o:Option V}{u:Option Value}{d:V}{d':Value}(r:RelO o u)(rd:RelV d d'):RelV (o.getD d) (u.getD d'):=by
 cases o with
 |none=>cases u with
  |none=>exact rd
  |some _=>exact (show False from r).elim
 |some _=>cases u with
  |none=>exact (show False from r).elim
  |some _=>exact r
theorem KV.val {kvs:List (κ × V)}{vs:List (κ × Value)}(r:KV kvs vs)(k:κ):RelO (valV kvs k) (valueAt vs k):=by
 unfold KV at r
 induction r with
 |nil=>exact True.intro
 | @cons p q ps qs h t ih =>
  obtain ⟨h1,h2⟩:=h;by_cases e:p.1=k
  ·have e':q.1=k:=h1.symm.trans e;have b:valueAt (q::qs) k=some q.2:=by simp -iota [valueAt,List.find?_cons,e']
   rw [zgB e,b];exact h2
  ·have e':¬ q.1=k:=fun z=>e (h1.trans z);have b:valueAt (q::qs) k=valueAt qs k:=by simp -iota [valueAt,List.find?_cons,e']
   rw [zgr e,b];exact ih
theorem KV.any {kvs:List (κ × V)}{vs:List (κ × Value)}(r:KV kvs vs)(k:κ):(kvs.any fun kv=>decide (kv.1=k))=vs.any fun kv=>decide (kv.1=k):=by
 unfold KV at r
 induction r with
 |nil=>rfl
 |cons h t ih=>rw [List.any_cons,List.any_cons,ih,h.1]
theorem KV.repl {kvs:List (κ × V)}{vs:List (κ × Value)}(r:KV kvs vs)(k:κ){y:V}{u:Value}(ry:RelV y u) :
 KV (kvs.map fun kv=>if kv.1=k then (kv.1,y) else kv) (vs.map fun kv=>if kv.1=k then (kv.1,u) else kv):=by
 unfold KV at r ⊢
 induction r with
 |nil=>exact .nil
 | @cons p q ps qs h t ih =>
  rw [List.map_cons,List.map_cons];refine .cons ?_ ih;obtain ⟨h1,h2⟩:=h;by_cases e:p.1=k
  ·rw [if_pos e,if_pos (h1.symm.trans e)];exact ⟨h1,ry⟩
  ·rw [if_neg e,if_neg (fun z=>e (h1.trans z))];exact ⟨h1,h2⟩
theorem KV.put {kvs:List (κ × V)}{vs:List (κ × Value)}(r:KV kvs vs)(k:κ){y:V}{u:Value}(ry:RelV y u):KV (putK kvs k y) (stored vs k u):=by
 unfold putK stored;rw [r.any k];by_cases e:(vs.any fun kv=>decide (kv.1=k))=true
 ·rw [if_pos e,if_pos e];exact r.repl k ry
 ·rw [if_neg e,if_neg e];exact Paired.snoc r ⟨rfl,ry⟩
theorem KV.length {kvs:List (κ × V)}{vs:List (κ × Value)}(r:KV kvs vs):kvs.length=vs.length:=Paired.length r
end
theorem zkt {P:Program}{w:World}{k:Key}{u:Value}(r:RelV (kV k) u):(zaM P w).is k u=true:=by
 cases k with
 |inl i=>obtain ⟨t,e⟩:=(show ∃ t,u=Value.int i t from r);subst e;exact ziv P w i t
 |inr x=>obtain ⟨t,e⟩:=(show ∃ t,u=Value.str x t from r);subst e;exact ziy P w x t
theorem zhG {P:Program}{w:World}:∀ {ks:List Key} {us:List Value},Vals (ks.map kV) us->ItemsAre (zaM P w) ks us
 | [],_,r=>by rw [List.map_nil] at r;cases r;exact .nil
 |k::ks,_,r=>by
  rw [List.map_cons] at r;cases r with
  |cons h t=>exact .cons (zkt h) (zhG t)
abbrev KT (H:Hp):List (List Key×V)->List (List Key×Addr×Value)->Prop:=Paired fun p q=>p.1=q.1/\H q.2.1=some (.tup (p.1.map kV))/\RelV p.2 q.2.2
theorem KT.val {H:Hp}{kvs:List (List Key×V)}{xs:List (List Key×Addr×Value)}(r:KT H kvs xs)(k:List Key):RelO (valV kvs k) ((atKey xs k).map (·.2)):=by
 induction r with
 |nil=>exact True.intro
 | @cons p q ps qs h t ih =>
  refine zc0c h fun h1 _ h2=>?_;by_cases e:p.1=k
  ·have e':q.1=k:=h1.symm.trans e;have b:atKey (q::qs) k=some q.2:=by simp -iota [atKey,List.find?_cons,e']
   rw [zgB e,b];exact h2
  ·have e':¬ q.1=k:=fun z=>e (h1.trans z);have b:atKey (q::qs) k=atKey qs k:=by simp -iota [atKey,List.find?_cons,e']
   rw [zgr e,b];exact ih
theorem KT.repl {H:Hp}{kvs:List (List Key×V)}{xs:List (List Key×Addr×Value)}(r:KT H kvs xs)(k:List Key){y:V}{u:Value}(ry:RelV y u) :
 KT H (kvs.map fun kv=>if kv.1=k then (kv.1,y) else kv) (xs.map (putAt k u)):=by
 induction r with
 |nil=>exact .nil
 | @cons p q ps qs h t ih =>
  rw [List.map_cons,List.map_cons];refine .cons ?_ ih;refine zc0c h fun h1 h2 h3=>?_;unfold putAt;by_cases e:p.1=k
  ·rw [if_pos e,if_pos (h1.symm.trans e)];exact ⟨h1,h2,ry⟩
  ·rw [if_neg e,if_neg (fun z=>e (h1.trans z))];exact ⟨h1,h2,h3⟩
theorem KT.put {H:Hp}{kvs:List (List Key×V)}{xs:List (List Key×Addr×Value)}(r:KT H kvs xs)(k:List Key){b:Addr}{y:V}{u:Value}(hb:H b=some (.tup (k.map kV)))(ry:RelV y u) :
 KT H (putK kvs k y) (storedH xs k b u):=by
 have e:(kvs.any fun kv=>decide (kv.1=k))=(atKey xs k).isSome:=by
  rw [zjh,(r.val k).isSome_eq,Option.isSome_map]
 unfold putK storedH;rw [e];by_cases q:(atKey xs k).isSome=true
 ·rw [if_pos q,if_pos q];exact r.repl k ry
 ·rw [if_neg q,if_neg q];exact Paired.snoc r ⟨rfl,hb,ry⟩
theorem KT.keeps {H H':Hp}{kvs:List (List Key×V)}{xs:List (List Key×Addr×Value)}(r:KT H kvs xs)(ht:∀ b ys,H b=some (.tup ys)->H' b=some (.tup ys)):KT H' kvs xs :=
 Paired.mapP r fun _ _ z=>⟨z.1,ht _ _ z.2.1,z.2.2⟩
section
variable {P:Program}{w:World}{H:Hp}{h:Heap}{a:Addr}
theorem zsX {u:HO}(ok:HOk P w H h)(e:Rd H a u):zbc P w H h a u:=e.ok ok
theorem zh7 {kvs:List (Key×V)}(ok:HOk P w H h)(e:Rd H a (.dK kvs)):kvs.length<=sizeLine/\(a == sysModules)=false/\∃ vs,KV kvs vs/\h.DictOf (zaM P w) a vs :=
 show zbc P w H h a (.dK kvs) from zsX ok e
theorem zp1 {kvs:List (Key×V)}(ok:HOk P w H h)(e:H a=some (.dK kvs)):kvs.length<=sizeLine/\(a == sysModules)=false/\∃ vs,KV kvs vs/\h.DictOf (zaM P w) a vs:=zh7 ok (.inl e)
theorem zge {ks:List Key}(ok:HOk P w H h)(e:H a=some (.tup (ks.map kV))):(tupleKind (zaM P w)).is h ks a:=by
 refine zc0b ((show zbc P w H h a (.tup (ks.map kV)) from ok a _ e)) fun _ zz=>zc1b zz fun its r zz=>zc1c zz fun o h1 h2 zz=>zc1a zz fun n h3=>?_;exact ⟨o,its.toArray,n,h1,h2,h3,by simpa -iota using zhG r⟩
theorem zin {kvs:List (List Key×V)}(ok:HOk P w H h)(e:Rd H a (.dT kvs)):kvs.length<=sizeLine/\(a == sysModules)=false /\
 ∃ xs,KT H kvs xs/\h.DictOfH (tupleKind (zaM P w)) a xs:=by
 refine zc0c ((show zbc P w H h a (.dT kvs) from zsX ok e)) fun z y zz=>zc1b zz fun xs r zz=>zc3a zz fun o es ep zz=>zc0e zz fun h1 h2 h3 h4 h5=>?_;refine ⟨z,y,xs,r,o,es,ep,h1,h2,h3,h4,fun x hx=>?_,h5⟩;have all:∀ {l:List (List Key×V)} {m:List (List Key×Addr×Value)},KT H l m->∀ x∈m,(tupleKind (zaM P w)).is h x.1 x.2.1:=by
  intro l m q
  induction q with
  |nil=>intro x hx;exact nomatch hx
  | @cons p q ps qs hq t ih =>
   intro x hx;rcases List.mem_cons.mp hx with e|hx
   ·subst e;exact zge ok (by rw [<- hq.1];exact hq.2.1)
   ·exact ih x hx
 exact all r x hx
theorem dt_of {kvs:List (List Key×V)}(ok:HOk P w H h)(e:H a=some (.dT kvs)):kvs.length<=sizeLine/\(a == sysModules)=false /\
 ∃ xs,KT H kvs xs/\h.DictOfH (tupleKind (zaM P w)) a xs:=zin ok (.inl e)
end
def DGet (H:Hp)(a:Addr)(y:V)(r:Option V):Prop :=
 (∃ kvs k,Rd H a (.dK kvs)/\y=kV k/\r=valV kvs k)\/∃ kvs k b,Rd H a (.dT kvs)/\y=.ref b/\H b=some (.tup (k.map kV))/\r=valV kvs k
def DPut (H:Hp)(a:Addr)(y v:V)(H':Hp):Prop :=
 (∃ kvs k,H a=some (.dK kvs)/\y=kV k/\kvs.length<sizeLine/\H'=upd H a (.dK (putK kvs k v))) \/
 ∃ kvs k b,H a=some (.dT kvs)/\y=.ref b/\H b=some (.tup (k.map kV))/\kvs.length<sizeLine/\H'=upd H a (.dT (putK kvs k v))
theorem DGet.k {H:Hp}{a:Addr}{kvs:List (Key×V)}{k:Key}(e:H a=some (.dK kvs)):DGet H a (kV k) (valV kvs k):=.inl ⟨kvs,k,.inl e,rfl,rfl⟩
theorem DPut.k {H:Hp}{a:Addr}{kvs:List (Key×V)}{k:Key}{v:V}(e:H a=some (.dK kvs))(hl:kvs.length<sizeLine):DPut H a (kV k) v (upd H a (.dK (putK kvs k v))):=.inl ⟨kvs,k,e,rfl,hl,rfl⟩
section
variable {X:Cx}{pins:List (Addr×Obj)}{σ : St}{H:Hp}{s:Shared}{a:Addr}{y v:V}{u r:Value}{o:Option V}{A:Around}{E:Value->Shared->Prop}
theorem Inv.big (I:Inv X pins σ H s):sysModules<s.heap.objs.size:=by
 have h:mainGlobals<s.heap.objs.size:=(I.mod.glob.keeps I.bk).lt;exact Nat.lt_trans (by decide) h
theorem zkT {Q:Value->Shared->Prop}(hu:A.units+1<cLine)(I:Inv X pins σ H s)(g:DGet H a y (some v))(ry:RelV y u)(h:∀ w' s',Inv X pins σ H s'->RelV v w'->Q w' s') :
 wpAny (model X.prog X.w) A (getItem (.ref a) u) Q E s:=by
 rcases g with ⟨kvs,k,e,ey,l⟩|⟨kvs,k,b,e,ey,eb,l⟩
 ·subst ey;refine zc0c (zh7 I.hok e) fun z hd zz=>zc1b zz fun vs rel dd=>?_;refine zc1b (RelO.some_of (v:=v) (o:=valueAt vs k) (by rw [l];exact rel.val k)) fun w' hw rw'=>?_;exact wpAny_getItem_of (zkt ry) dd.mapOf hw (h w' _ (I.tok _) rw')
 ·subst ey;cases (show u=Value.ref b from ry);refine zc0c (zin I.hok e) fun z hd zz=>zc1b zz fun xs rel dd=>?_;refine zc1b (RelO.some_of (v:=v) (o:=(atKey xs k).map (·.2)) (by rw [l];exact rel.val k)) fun w' hw rw'=>?_;refine zc1b (Option.map_eq_some_iff.mp hw) fun p hp hp2=>?_;refine wpAny_getItem_heap (tupleKind_room_in1 hu) (zge I.hok eb) dd hp ?_;rw [hp2];exact h w' _ (I.tok _) rw'
theorem d_in {Q:Value->Shared->Prop}(hu:A.units+1<cLine)(I:Inv X pins σ H s)(g:DGet H a y o)(ry:RelV y u)(h:∀ s',Inv X pins σ H s'->Q (.bool o.isSome) s') :
 wpAny (model X.prog X.w) A (compareOp .In u (.ref a)) Q E s:=by
 rcases g with ⟨kvs,k,e,ey,l⟩|⟨kvs,k,b,e,ey,eb,l⟩
 ·subst ey;refine zc0c (zh7 I.hok e) fun z hd zz=>zc1b zz fun vs rel dd=>?_;refine wpAny_in_of (zkt ry) hd dd.mapOf ?_;rw [<- (rel.val k).isSome_eq,<- l];exact h _ (I.tok _)
 ·subst ey;cases (show u=Value.ref b from ry);refine zc0c (zin I.hok e) fun z hd zz=>zc1b zz fun xs rel dd=>?_;refine wpAny_in_heap (tupleKind_room_in1 hu) (zge I.hok eb) hd dd ?_;have q:=(rel.val k).isSome_eq;rw [Option.isSome_map] at q;rw [<- q,<- l];exact h _ (I.tok _)
theorem zp8 {Q:Value->Shared->Prop}(hu:A.units+1<cLine)(I:Inv X pins σ H s)(g:DGet H a y o)(ry:RelV y u)(h:∀ s',Inv X pins σ H s'->Q (.bool (!o.isSome)) s') :
 wpAny (model X.prog X.w) A (compareOp .NotIn u (.ref a)) Q E s:=by
 rcases g with ⟨kvs,k,e,ey,l⟩|⟨kvs,k,b,e,ey,eb,l⟩
 ·subst ey;refine zc0c (zh7 I.hok e) fun z hd zz=>zc1b zz fun vs rel dd=>?_;refine wpAny_notIn_of (zkt ry) hd dd.mapOf ?_;rw [<- (rel.val k).isSome_eq,<- l];exact h _ (I.tok _)
 ·subst ey;cases (show u=Value.ref b from ry);refine zc0c (zin I.hok e) fun z hd zz=>zc1b zz fun xs rel dd=>?_;refine wpAny_notIn_heap (tupleKind_room_in1 hu) (zge I.hok eb) hd dd ?_;have q:=(rel.val k).isSome_eq;rw [Option.isSome_map] at q;rw [<- q,<- l];exact h _ (I.tok _)
theorem zkA {h':Heap}{t':Nat}{ob:HO}(I:Inv X pins σ H s)(mu:Mut (H a))(hs:Heap.SameBut a s.heap h')(he:∃ q,h'.get? a=some q)(new:zbc X.prog X.w (upd H a ob) h' a ob) :
 Inv X pins σ (upd H a ob) { s with heap:=h',toks:=t' } :=
 I.write (x:=a) (e:=a) mu (.inl rfl) (fun b q hb z=>(hs.2 b hb).trans z) he new
theorem zoO {P:Program}{w:World}{H':Hp}{h':Heap}{kvs:List (Key×V)}{vs:List (Key×Value)}(z:kvs.length<=sizeLine)(hd:(a == sysModules)=false)(rel:KV kvs vs)(dd:h'.DictOf (zaM P w) a vs) :
 zbc P w H' h' a (.dK kvs):=⟨z,hd,vs,rel,dd⟩
theorem zm6 {H':Hp}{Q:Unit->Shared->Prop}(hu:A.units+1<cLine)(I:Inv X pins σ H s)(g:DPut H a y v H')(ry:RelV y u)(rv:RelV v r)(h:∀ s',Inv X pins σ H' s'->Q () s') :
 wpAny (model X.prog X.w) A (setItem (.ref a) u r) Q E s:=by
 rcases g with ⟨kvs,k,e,ey,l,eH⟩|⟨kvs,k,b,e,ey,eb,l,eH⟩
 ·subst ey eH;refine zc0c (zp1 I.hok e) fun z hd zz=>zc1b zz fun vs rel dd=>?_;have hz:vs.length<=sizeLine:=by rw [<- rel.length];exact z
  have hl:(putK kvs k v).length<=sizeLine:=by have:=zdd kvs k v;omega
  refine wpAny_setItem_pairs (hsz:=hz) (zkt ry) dd fun h' dd' hs=>h _ ?_;have he:∃ q,h'.get? a=some q:=let ⟨q,_,_,hq,_⟩:=dd';⟨q,hq⟩
  exact zkA I (by rw [e];exact True.intro) hs he (zoO hl hd (rel.put k rv) dd')
 ·subst ey eH;cases (show u=Value.ref b from ry);refine zc0c (dt_of I.hok e) fun z hd zz=>zc1b zz fun xs rel dd=>?_;have hz:xs.length<=sizeLine:=by rw [<- Paired.length rel];exact z
  have hl:(putK kvs k v).length<=sizeLine:=by have:=zdd kvs k v;omega
  refine wpAny_setItem_heap (hsz:=hz) (tupleKind_room_in1 hu) (zge I.hok eb) dd fun h' dd' hs=>h _ ?_;refine zc3a dd' fun q es ep zz=>zc0e zz fun hq h2 h3 h4 zz=>zc0b zz fun _ h5=>?_;refine zkA I (by rw [e];exact True.intro) hs ⟨q,hq⟩ ⟨hl,hd,_,(rel.put k eb rv).keeps fun c ys ec=>?_,q,es,ep,hq,h2,h3,h4,h5⟩;rw [za9 (ne_of ec e (fun z=>nomatch z))];exact ec
end
section
variable {X:Cx}{pins:List (Addr×Obj)}{σ : St}{H:Hp}{s:Shared}{a:Addr}{kvs:List (Key×V)}{k:Key}{u:Value}{A:Around}{E:Value->Shared->Prop}
theorem d_len {Q:Value->Shared->Prop}(I:Inv X pins σ H s)(e:Rd H a (.dK kvs))(h:∀ t s',Inv X pins σ H s'->Q (.int kvs.length t) s'):wpAny (model X.prog X.w) A (call (.builtin "len") [.ref a]) Q E s:=by
 obtain ⟨z,hd,vs,rel,dd⟩:=zh7 I.hok e;refine call_len_dict hd dd (by rw [<- rel.length];rw [sizeLine_eq] at z;omega) ?_;rw [<- rel.length];exact h _ _ (I.tok _)
end
noncomputable def NoSl (i:Expr):Prop:=∀ ov iv,subscripted i false ov iv=operate [ov,iv] (getItem ov iv)
theorem zpt {prog:Program}{w:World}{A:Around}{E:Value->Shared->Prop}{s:Shared}{env:Env}{value slice:Expr}{pos:Pos}{T id:String}{Q:Value->Shared->Prop}
 (hl:typeLookup (.type T) "__getitem__" = pure (some (.builtin id))) (hs:NoSl slice)
 (h:wpAny (model prog w) A (eval value env) (fun o s₁=>wpAny (model prog w) A (eval slice env) (fun i s₂=>s₂.TypeIs o T/\wpAny (model prog w) A (getItem o i) Q E s₂) E s₁) E s) :
 wpAny (model prog w) A (eval (.Subscript value slice pos) env) Q E s:=by
 refine Subscript_ (wpAny_mono h (fun o s₁ h₁=>wpAny_mono h₁ (fun i s₂ h₂=>?_) fun _ _ x=>x) fun _ _ x=>x);obtain ⟨hT,h₂⟩:=h₂;unfold subscriptTail;refine wpAny_bind ?_;rw [getitemInPython_of_ne hT.not_modules];refine wpAny_bind (wpAny_specialOf hT hl ?_);have fin:wpAny (model prog w) A (subscripted slice false o i) (fun r s₃=>wpAny (model prog w) A (letTemporaryGo value o r >>= fun _=>pure r) Q E s₃) E s₂:=by
  rw [hs o i];exact wpAny_operating (wpAny_mono h₂ (fun r s₃ h₃=>wpAny_bind (wpAny_letTemporaryGo (wpAny_pure h₃))) fun _ _ x=>x)
 first
  |exact wpAny_pure (wpAny_bind fin)
  |exact wpAny_bind (wpAny_pure (wpAny_bind fin))
  |exact wpAny_bind fin
theorem zi2 {X:Cx}{pins:List (Addr×Obj)}{σ : St}{H:Hp}{s:Shared}{a:Addr}{y:V}{o:Option V}(I:Inv X pins σ H s)(g:DGet H a y o):s.TypeIs (.ref a) "dict" := by
 rcases g with ⟨kvs,k,e,_,_⟩|⟨kvs,k,b,e,_,_,_⟩
 ·refine zc0c (zh7 I.hok e) fun _ _ zz=>zc1b zz fun vs _ dd=>?_;exact dd.typeIs
 ·refine zc0c (zin I.hok e) fun _ _ zz=>zc1b zz fun xs _ dd=>?_;exact dd.typeIs
def tDGet (td ty:TE):TE:=fun σ H Q=>td σ H fun x H1=>ty σ H1 fun y H2=>∃ a v,x=.ref a/\DGet H2 a y (some v)/\Q v H2
def tDIn (ty td:TE):TE:=fun σ H Q=>ty σ H fun y H1=>td σ H1 fun x H2=>∃ a o,x=.ref a/\DGet H2 a y o/\Q (.bl o.isSome) H2
def zpH (ty td:TE):TE:=fun σ H Q=>ty σ H fun y H1=>td σ H1 fun x H2=>∃ a o,x=.ref a/\DGet H2 a y o/\Q (.bl (!o.isSome)) H2
def sDPut (td ty tv:TE):TS:=fun D σ H=>tv σ H fun v H1=>td σ H1 fun x H2=>ty σ H2 fun y H3=>∃ a H4,x=.ref a/\DPut H3 a y v H4/\D.nx σ H4
section
variable {X:Cx}{o i e value:Expr}{pos pos' tpos:Pos}{td ty tv:TE}
theorem zmG (hu:X.A.units+1<cLine)(ho:PE X o td)(hi:PE X i ty)(hs:NoSl i):PE X (.Subscript o i pos) (tDGet td ty):=by
 intro pins s σ H Q I h;refine zpt PySem.F.slot_dict_getitem.lookup hs (thn (ho pins s σ H _ I h) fun u s1 ⟨x,H1,I1,rx,q1⟩=>thn (hi pins s1 σ H1 _ I1 q1) fun iv s2 zh=>?_);refine zc2c zh fun y H2 I2 ry zz=>zc2c zz fun a v ex g q2=>?_;subst ex;obtain rfl:u=Value.ref a:=rx;exact ⟨zi2 I2 g,zkT hu I2 g ry fun w' s3 I3 rw'=>⟨v,H2,I3,rw',q2⟩⟩
theorem zpj (hu:X.A.units+1<cLine)(hi:PE X i ty)(ho:PE X o td):PC X .In i o (tDIn ty td):=by
 intro pins s σ H Q I h;refine thn (hi pins s σ H _ I h) fun iv s1 ⟨y,H1,I1,ry,q1⟩=>thn (ho pins s1 σ H1 _ I1 q1) fun u s2 zh=>?_;refine zc2c zh fun x H2 I2 rx zz=>zc2c zz fun a ov ex g q2=>?_;subst ex;obtain rfl:u=Value.ref a:=rx;exact d_in hu I2 g ry fun s3 I3=>⟨.bl ov.isSome,H2,I3,rfl,q2⟩
theorem zma (hu:X.A.units+1<cLine)(hi:PE X i ty)(ho:PE X o td):PC X .NotIn i o (zpH ty td):=by
 intro pins s σ H Q I h;refine thn (hi pins s σ H _ I h) fun iv s1 ⟨y,H1,I1,ry,q1⟩=>thn (ho pins s1 σ H1 _ I1 q1) fun u s2 zh=>?_;refine zc2c zh fun x H2 I2 rx zz=>zc2c zz fun a ov ex g q2=>?_;subst ex;obtain rfl:u=Value.ref a:=rx;exact zp8 hu I2 g ry fun s3 I3=>⟨.bl (!ov.isSome),H2,I3,rfl,q2⟩
theorem zqM (hu:X.A.units+1<cLine)(ho:PE X o td)(hi:PE X i ty)(hv:PE X value tv)(hs:swapsWith value (some (.Subscript o i pos')) pos.line X.env=pure false) :
 PS X (.Assign [.Subscript o i pos'] value pos) (sDPut td ty tv):=by
 intro pins s σ H D I h;refine wpAny_Assign_Subscript (thn (hv pins s σ H _ I h) fun r s1 ⟨v,H1,I1,rv,q1⟩=>thn (ho pins s1 σ H1 _ I1 q1) fun u s2 ⟨x,H2,I2,rx,q2⟩=>thn (hi pins s2 σ H2 _ I2 q2) fun iv s3 ⟨y,H3,I3,ry,a,H4,ex,g,q3⟩=>?_) hs;subst ex;obtain rfl:u=Value.ref a:=rx;exact zm6 hu I3 g ry rv fun s4 I4=>⟨σ,H4,I4,q3⟩
end
section
variable {X:Cx}{pos:Pos}
end
def zfe (kvs more:List (Key×V)):List (Key×V):=more.foldl (fun acc kv=>putK acc kv.1 kv.2) kvs
theorem KV.merge:∀ {more:List (Key×V)} {rs:List (Key×Value)} {kvs:List (Key×V)} {vs:List (Key×Value)},KV more rs->KV kvs vs->KV (zfe kvs more) (merged vs rs):=by
 intro more rs kvs vs r;unfold KV at r
 induction r generalizing kvs vs with
 |nil=>intro q;exact q
 | @cons p q ps qs h t ih =>
  intro r0;have e:KV (putK kvs p.1 p.2) (stored vs q.1 q.2):=by
   have:=r0.put p.1 h.2;rw [<- h.1];exact this
  exact ih e
theorem zdD:∀ (more kvs:List (Key×V)),(zfe kvs more).length<=kvs.length+more.length
 | [],kvs=>by show kvs.length<=kvs.length+0;omega
 |p::r,kvs=>by
  have h1:=zdD r (putK kvs p.1 p.2);have h2:=zdd kvs p.1 p.2;show (zfe (putK kvs p.1 p.2) r).length<=_;rw [List.length_cons];omega
structure M2 (X:Cx)(o:Expr)(m:Str)(apos:Pos)(e f:Expr)(cpos:Pos):Prop where
 base:attributeBase o m X.env (eval o X.env)=eval o X.env
 few:((backTo cpos (starEach [e,f] X.env)).all (fun x => !x.1)&&(backToKw cpos (keywordEach [] X.env)).all (fun x=>x.1.isSome)
  && decide (([e,f]:List Expr).length+([]:List Keyword).length+(if ([]:List Keyword).isEmpty then 0 else 1)<30))=true
 line:(apos.endLine == cpos.line)=true
 trees:backTo cpos (starEach [e,f] X.env)=[(false,eval e X.env),(false,eval f X.env)]
noncomputable def IsD (H:Hp)(a:Addr):Prop:=(∃ kvs,Rd H a (.dK kvs))\/∃ kvs,Rd H a (.dT kvs)
theorem ztG {X:Cx}{pins:List (Addr×Obj)}{σ : St}{H:Hp}{s:Shared}{a:Addr}(I:Inv X pins σ H s)(d:IsD H a) :
 s.TypeIs (.ref a) "dict" /\ (∀ b,Value.ref a=.ref b->∃ ob,s.heap.get? b=some ob/\ob.dict=none)/\(a == sysModules)=false:=by
 rcases d with ⟨kvs,e⟩|⟨kvs,e⟩
 ·refine zc0c (zh7 I.hok e) fun _ hd zz=>zc1b zz fun vs _ dd=>?_;refine ⟨dd.typeIs,fun b q=>?_,hd⟩;cases q;refine zc3c dd fun ob _ _ h1 h2 _=>?_;exact ⟨ob,h1,h2.2.1⟩
 ·refine zc0c (zin I.hok e) fun _ hd zz=>zc1b zz fun xs _ dd=>?_;refine ⟨dd.typeIs,fun b q=>?_,hd⟩;cases q;refine zc3c dd fun ob _ _ h1 h2 _=>?_;exact ⟨ob,h1,h2.2.1⟩
section
variable {X:Cx}{pins:List (Addr×Obj)}{σ : St}{H:Hp}{s:Shared}{a:Addr}{y d:V}{u r:Value}{o:Option V}{A:Around}{E:Value->Shared->Prop}
theorem zsP {Q:Value->Shared->Prop}(hu:A.units+1<cLine)(I:Inv X pins σ H s)(g:DGet H a y o)(ry:RelV y u)(rd:RelV d r)(h:∀ w' s',Inv X pins σ H s'->RelV (o.getD d) w'->Q w' s') :
 wpAny (model X.prog X.w) A (call (.builtin "dict.get") [.ref a,u,r]) Q E s:=by
 rcases g with ⟨kvs,k,e,ey,l⟩|⟨kvs,k,b,e,ey,eb,l⟩
 ·subst ey;refine zc0c (zh7 I.hok e) fun z hd zz=>zc1b zz fun vs rel dd=>?_;refine call_meetsIn PySem.F.slot_dict_get dd.typeIs PySem.F.entry_dict_get (PySem.F.args_dict_get_3 _ _ _) (meets_dict_get_default (zaM X.prog X.w) a (zkt ry) hd r) ⟨_,dd.mapOf,h _ _ (I.tok _) ?_⟩;rw [l];exact (rel.val k).getD rd
 ·subst ey;cases (show u=Value.ref b from ry);refine zc0c (zin I.hok e) fun z hd zz=>zc1b zz fun xs rel dd=>?_;refine call_meetsIn PySem.F.slot_dict_get dd.typeIs PySem.F.entry_dict_get (PySem.F.args_dict_get_3 _ _ _) (meetsH_dict_get_default (tupleKind (zaM X.prog X.w)) a b hd r) ⟨tupleKind_room_in1 hu,k,xs,zge I.hok eb,dd,h _ _ (I.tok _) ?_⟩;rw [l];exact (rel.val k).getD rd
end
def ztC (td ty tx:TE):TE:=fun σ H Q=>td σ H fun x H1=>∃ a,x=.ref a/\IsD H1 a/\ty σ H1 fun y H2=>tx σ H2 fun z H3=>∃ o,DGet H3 a y o/\Q (o.getD z) H3
section
variable {X:Cx}{o e f:Expr}{apos cpos:Pos}{td ty tx:TE}
theorem zoJ (hu:X.A.units+1<cLine)(ho:PE X o td)(he:PE X e ty)(hf:PE X f tx)(m:M2 X o "get" apos e f cpos):PE X (.Call (.Attribute o "get" apos) [e,f] [] cpos) (ztC td ty tx):=by
 intro pins s σ H Q I h;refine wpAny_Call_method m.base m.few m.line PySem.F.plainAttrs_dict PySem.F.slot_dict_get PySem.F.type_dict_get (thn (ho pins s σ H _ I h) fun u s1 zh=>?_);refine zc2c zh fun x H1 I1 rx zz=>zc1c zz fun a ex d q1=>?_;subst ex;obtain rfl:u=Value.ref a:=rx;refine zc0c (ztG I1 d) fun t1 t2 _=>?_;refine ⟨t1,t2,?_⟩;rw [m.trees];refine Calls.callWith_builtin rfl (Calls.evalArgs_plain (Calls.spliced_cons (thn (he pins s1 σ H1 _ I1 q1) fun iv s2 ⟨y,H2,I2,ry,q2⟩ =>
  Calls.spliced_cons (thn (hf pins s2 σ H2 _ I2 q2) fun fv s3 ⟨z,H3,I3,rz,ov,g,q3⟩=>Calls.spliced_nil ?_))))
 exact zsP hu I3 g ry rz fun w' s4 I4 rw'=>⟨_,H3,I4,rw',q3⟩
end
section
variable {X:Cx}{pins:List (Addr×Obj)}{σ : St}{H:Hp}{s:Shared}{a:Addr}{kvs:List (Key×V)}{A:Around}{E:Value->Shared->Prop}
end
section
variable {X:Cx}{pins:List (Addr×Obj)}{σ : St}{H:Hp}{s:Shared}{a:Addr}{y:V}{u:Value}{A:Around}{E:Value->Shared->Prop}
end
end L2
namespace Att
open PySem PySem.W PySem.Calls PyProof.Rows
theorem zeN {P:Params}{h:Heap}:∀ (ns:List Int) (vs:List Value),WellAll P h vs (ns.map WData.int)->IntsAre vs ns:=by
 intro ns
 induction ns with
 |nil =>
  intro vs w;rw [List.map_nil] at w;cases w;exact .nil
 |cons n ns ih =>
  intro vs w;rw [List.map_cons] at w;cases w with
  |cons a b =>
   cases a;exact .cons _ _ (ih _ b)
theorem zkG {l:OpenLaw}{n:Nat}(hn:l.most=some n){P:Params}{h:Heap}{args:List WData}{vals:List Value}
 (hpre:l.row.toRowW.claim.pre args=true) (hwl:WellAll P h vals args) :
 ∃ a vs ns,vals=[Value.ref a]/\args=[WData.list (ns.map WData.int)]/\h.get? a=some { cls:=.type "list",data:=.seq vs.toArray }/\IntsAre vs ns/\ns.length<=n:=by
 have hsh:WShape.hasAll [] args [.list .int]=true:=(pre_splitW hpre).1;have hc:l.pre.holds [] { args:=args }=true:=(pre_splitW hpre).2;refine zc2c (hasAllW_cons hsh) fun d r zr2 h1 h2=>?_;subst zr2;obtain rfl:=hasAllW_nil h2;refine zc1b (hasW_list h1) fun xs zr1 h3=>?_;subst zr1;obtain ⟨ns,rfl⟩:=items_int h3;have hlen:ns.length<=n:=by
  unfold OpenLaw.pre at hc;have h4:(WTm.not (.lt (.lit (.int (n:Int))) (.len (.arg 0)))).holds [] { args:=[.list (ns.map .int)] }=true:=by
   have h4:=(holds_andW hc).1;rw [hn] at h4;exact h4
  have h5:=condW_of h4 (w_not (w_lt w_lit (w_len_list (w_arg rfl))));rw [Zql] at h5;refine Nat.le_of_not_lt fun q=>?_;have q':(n:Int)<((ns.length:Nat):Int):=by omega
  first
   | (rw [decide_eq_true q'] at h5;exact absurd h5 (by decide))
   | (simp -iota at h5;omega)
 cases hwl with
 |cons w1 w2 =>
  cases w2;cases w1 with
  |list ho hall=>exact ⟨_,_,ns,rfl,rfl,ho,zeN ns _ hall,hlen⟩
theorem zmu (l:OpenLaw)(args:List WData):l.row.toRowW.claim.post args (.bool true) args=true :=
 postW_of (r:=l.row.toRowW) (X:=(true == true))
  (show WShape.has [] (.bool true) .bool=true by first|rfl|decide|simp -iota [WShape.has,WShape.arms,WShape.armsAll])
  (show (WTm.eq .res (.lit (.bool true))).value [] { args:=args,res:=some (.bool true),after:=args }=some (.bool (true == true)) from w_eq_bool (w_res rfl) w_lit) rfl
theorem attach_call {l:OpenLaw}{n:Nat}{q:Program}{loose:List Str}{XP:(Str->Option Value)->Heap->Prop}{YP:World->Heap->Prop}{d:DefRec}
 (hn:l.most=some n) (hdf:d.params.defaults=[])
 (call:∀ (w:World) (s₀ s₁:Shared) (mg mb:Str->Option Value) (fa:Addr) (o:Obj) (pm cd doc:Value) (a:Addr) (vs:List Value) (ns:List Int),
  Ground q loose [] XP w s₀ mg mb s₁.heap->YP w s₁.heap ->
  s₁.heap.get? fa=some o->o.data=.func (docDef d.name d.params d.body d.scope pm cd doc)->s₁.heap.CodeRec cd d.name->mg d.name=some (.ref fa) ->
  s₁.heap.get? a=some { cls:=.type "list",data:=.seq vs.toArray }->IntsAre vs ns->ns.length<=n->s₁.gens = #[] ->
  codeAny (model l.prog w) callerA (.call (.ref fa) ⟨[.ref a],[]⟩) (fun r s'=>r=.ok (.ret (.bool true))/\OldK s₁.heap s'.heap/\s'.os=s₁.os/\AllBare s'.gens) s₁) :
 WalkO q loose XP YP l.row.toRowW d [] (fun f vs=>PySem.call f vs):=by
 intro w s₀ s₁ mg mb G Y fa o pm cd doc dV kV ho hd hcd hD hmg hg args vals as hpre hlay hrd hwl hlo;obtain rfl:dV=.none:=Dflts.none hD hdf;obtain rfl:kV=.none:=Dflts.noKw hD;refine zc3a (zkG hn hpre hwl) fun a vs ns zz=>zc0e zz fun zr3 zr4 hobj hints hlen=>?_;subst zr3;subst zr4;refine enter_call (codeAny_mono (call w s₀ s₁ mg mb fa o pm cd doc a vs ns G Y ho (fd_plain hd) hcd hmg hobj hints hlen hg) fun r s' hq=>?_);refine zc0d hq fun zr0 h2 h3 h4=>?_;subst zr0;exact ⟨.inl ⟨.bool true,.bool true,[],rfl,fun _=>rfl,.bool true,zmu l _,fun _=>⟨List.Pairwise.nil,fun _ hm=>(nomatch hm)⟩⟩,h2,h3,h4⟩
section
variable {prog:Program}{w:World}{A:Around}{E:Value->Shared->Prop}{s:Shared}{K:Frag}
end
end Att
namespace L2
theorem zm3:∀ {vs:List Value} {ns:List Int},IntsAre vs ns->Vals (ns.map V.int) vs:=fun h=>by
 induction h with
 |nil=>exact .nil
 |cons n t _ ih=>exact .cons ⟨t,rfl⟩ ih
noncomputable def Only (H:Hp):Prop:=∀ b,H b=none\/∃ o xs,H b=some (.frz o (.lst xs))
theorem zo7 {P:Program}{w:World}{K:W.Frag}{mg mb:Str->Option Value}{CX:CXT}{k:Nat}{fa a:Addr}{fd:FuncData}{x:Str}{sp:Sp}{s₁:Shared}{vs:List Value}{ns:List Int}
 (KX:K.In s₁.heap) (hns:s₁.heap.Ns mainGlobals mg) (hb:s₁.heap.Ns builtinsNs mb) (hbb:∀ x:Str,x ≠ "__name__" -> mb x=bootBuiltins x) (hlim:s₁.heap.NoLimit) (hg:s₁.gens = #[])
 (ha:s₁.heap.get? a=some { cls:=.type "list",data:=.seq vs.toArray }) (hi:IntsAre vs ns) (hl:ns.length<=sizeLine) (hr:Room k callerA)
 (F:∀ base:Heap,K.In base->base.Ns mainGlobals mg->FnOk P w K mg base CX k fa fd [x] sp) (hbind:∀ (s:Shared) (u:Value),BindsTo s fd ⟨[u],[]⟩ [(x,u)])
 (hsp:∀ H:Hp,Only H->SqL K H a (ns.map V.int)->sp [.ref a] H (fun v _=>v=.bl true) fun _ _ _=>False)
 (hCX:∀ H e s',CX [] H s₁ (fun _ _ _=>False) e s'->False) :
 codeAny (model P w) callerA (.call (.ref fa) ⟨[.ref a],[]⟩) (fun r s'=>r=.ok (.ret (.bool true))/\OldK s₁.heap s'.heap/\s'.os=s₁.os/\AllBare s'.gens) s₁:=by
 have rv:=zm3 hi;have lenV:=hi.length;have core:∀ H:Hp,Only H->SqL K H a (ns.map V.int)->HOk P w H s₁.heap->(∀ b,H b≠none->b=a)->(H a≠none->K.lookup a=none) ->
  codeAny (model P w) callerA (.call (.ref fa) ⟨[.ref a],[]⟩) (fun r s'=>r=.ok (.ret (.bool true))/\OldK s₁.heap s'.heap/\s'.os=s₁.os/\AllBare s'.gens) s₁:=by
  intro H hO hS hok hA hK;have base_of:∀ {b:Addr} {o:Obj},s₁.heap.get? b=some o->H b=none->(hidT s₁.heap H).get? b=some o:=fun e n=>zok e n;have noA:∀ {b:Addr} {o:Obj} {es:Array DictEntry} {ep:Nat},s₁.heap.get? b=some o->o.data=.dict es ep->H b=none:=fun {b o es ep} e d=>by
   cases q:H b with
   |none=>rfl
   |some u =>
    have e':b=a:=hA b (by rw [q];simp -iota);subst e';rw [ha] at e;cases e;have d':Data.seq vs.toArray _=Data.dict es ep:=d;cases d'
  have nsK:∀ {b:Addr} {m:Str->Option Value},s₁.heap.Ns b m->(hidT s₁.heap H).Ns b m:=fun {b m} ⟨o,es,ep,e,d,r⟩=>⟨o,es,ep,base_of e (noA e d),d,r⟩;have hKb:K.In (hidT s₁.heap H):=fun b o e=>base_of (KX b o e) (by
   cases q:H b with
   |none=>rfl
   |some u =>
    have e':b=a:=hA b (by rw [q];simp -iota);subst e';rw [hK (by rw [q];simp -iota)] at e;cases e)
  have hM:Mod K mg (hidT s₁.heap H):=⟨hKb,nsK hns,⟨mb,nsK hb,hbb⟩,let ⟨mc,h1,h2⟩:=hlim;⟨mc,nsK h1,h2⟩⟩;have e0:Env0 P w K mg (hidT s₁.heap H) callerA [] s₁ H:=⟨rfl,hM,fun b o e=>zpv e,Nat.le_of_eq (zmL _ _),trivial,fun b hb=>absurd (show b∈([]:List Addr) from hb) (by simp -iota),hok,.of_eq hg⟩;refine codeAny_mono ((F _ hKb (nsK hns)).run callerA [] s₁ H ⟨[.ref a],[]⟩ [.ref a] [.ref a] _ _ hr e0 (hbind s₁ (.ref a)) (.cons rfl .nil) (hsp H hO hS)) fun r s' h=>?_;cases r with
  |error e=>exact (hCX H e s' h).elim
  |ok fl =>
   cases fl with
   |next=>exact False.elim h
   |brk=>exact False.elim h
   |cont=>exact False.elim h
   |ret u =>
    refine zc2a h fun v H' zz=>zc0e zz fun os bare un hok' zz=>zc0b zz fun r' q=>?_;have q':v=.bl true:=q;subst q';obtain rfl:u=Value.bool true:=r';refine ⟨rfl,OldK.of_keep fun b o e=>?_,os,bare⟩;cases q:H b with
    |none=>exact un.keep b o e q (by intro z;exact absurd (show b∈([]:List Addr) from z) (by simp -iota)) (by simp -iota)
    |some u =>
     rcases hO b with z|⟨ob,xs,z⟩
     ·rw [q] at z;cases z
     ·have z2:=un.frzs b ob _ z;obtain ⟨e1,_⟩:=hok b _ z;obtain ⟨e2,_⟩:=hok' b _ z2;rw [e] at e1;cases e1;exact e2
 cases hk:K.lookup a with
 |some o =>
  have e:=KX a o hk;rw [ha] at e;cases e;refine core (fun _=>none) (fun _=>.inl rfl) (.inr ⟨_,vs.toArray,_,hk,rfl,rfl,rfl,by rw [List.size_toArray,lenV];exact hl,by simpa -iota using rv⟩) (fun b u z=>by have z':(none:Option HO)=some u:=z;cases z') (fun b z=>absurd rfl z) fun z=>absurd rfl z
 |none =>
  refine core (fun b=>if b=a then some (.frz { cls:=.type "list",data:=.seq vs.toArray } (.lst (ns.map V.int))) else none) (fun b=>?_) (.inl (.inr ⟨{ cls:=.type "list",data:=.seq vs.toArray },if_pos rfl⟩)) (fun b u z=>?_) (fun b z=>?_) fun _=>hk
  ·by_cases hb:b=a
   ·exact .inr ⟨_,_,if_pos hb⟩
   ·exact .inl (if_neg hb)
  ·by_cases hb:b=a
   ·have z':=(if_pos hb).symm.trans z;cases z';subst hb;exact ⟨ha,by rw [Zql];exact hl,vs,_,rv,ha⟩
   ·have z':=(if_neg hb).symm.trans z;cases z'
  ·by_cases hb:b=a
   ·exact hb
   ·exact absurd (if_neg hb) z
theorem walk_of {l:W.OpenLaw}{n k:Nat}{q:Program}{loose:List Str}{XP:(Str->Option Value)->Heap->Prop}{YP:World->Heap->Prop}{d:DefRec}{K:Params->W.Frag}{CX:World->CXT}{sp:World->Sp}{x:Str}
 (hn:l.most=some n) (hn2:n<=sizeLine) (hdf:d.params.defaults=[]) (hr:Room k callerA)
 (hY:∀ (w:World) (h:Heap),YP w h->(K w.params).In h)
 (F:∀ (w:World) (mg:Str->Option Value) (fa:Addr) (h:Heap),(K w.params).In h->h.Ns mainGlobals mg->mg d.name=some (.ref fa) ->
  ∃ fd:FuncData,(∀ (s:Shared) (u:Value),BindsTo s fd ⟨[u],[]⟩ [(x,u)]) /\
   ∀ base:Heap,(K w.params).In base->base.Ns mainGlobals mg->FnOk l.prog w (K w.params) mg base (CX w) k fa fd [x] (sp w))
 (hsp:∀ (w:World) (H:Hp) (a:Addr) (ns:List Int),ns.length<=n->Only H->SqL (K w.params) H a (ns.map V.int)->sp w [.ref a] H (fun v _=>v=.bl true) fun _ _ _=>False)
 (hCX:∀ (w:World) (H:Hp) (s:Shared) (e:Value) (s':Shared),CX w [] H s (fun _ _ _=>False) e s'->False) :
 W.WalkO q loose XP YP l.row.toRowW d [] (fun f vs=>PySem.call f vs):=by
 refine Att.attach_call hn hdf fun w s₀ s₁ mg mb fa o pm cd doc a vs ns G Y ho hd hcd hmg hobj hints hlen hg=>?_;have KX:=hY w _ Y;refine zc1b (F w mg fa _ KX G.T.g hmg) fun fd hb hF=>?_;exact zo7 KX G.T.g G.T.b G.T.builtins G.T.nolimit hg hobj hints (Nat.le_trans hlen hn2) hr hF hb (fun H hO hS=>hsp w H a ns hlen hO hS) fun H e s'=>hCX w H s₁ e s'
noncomputable def zdZ (s:Stmt):Arguments:=match s with
 | .FunctionDef _ a _ _ _ _ _ _ _ _=>a
 |_=>{ posonlyargs:=[],args:=[],vararg:=none,kwonlyargs:=[],kw_defaults:=[],kwarg:=none,defaults:=[] }
noncomputable def zbE (s:Stmt):List Stmt:=match s with
 | .FunctionDef _ _ b _ _ _ _ _ _ _=>b
 |_=>[]
noncomputable def zag (s:Stmt):Scope:=match s with
 | .FunctionDef _ _ _ _ _ _ sc _ _ _=>sc
 |_=>{ kind:=.function,names:=[],isGenerator:=false,isCoroutine:=false }
abbrev CX0:CXT:=fun _ _ _ _ _ _=>False
abbrev E0:XK:=fun _ _ _=>False
theorem pass0 {X:Cx}:zjr CX0 X E0:=fun _ _ _ _ _ _ _ h=>h.elim
structure Fun (K:W.Frag)(x qual:Str)(st:Stmt)(f:Addr)(fd:FuncData):Prop where
 ex:∃ (oc:Value) (od:Option Addr) (kV doc pm:Value) (an:Option Addr) (cdv ct:Value) (osl:Array (Option Value)),
  fd=W.fnOf x qual (zdZ st) (zbE st) (zag st) .none kV doc pm an cdv ct/\K.lookup f=some ⟨oc,od,.func fd,osl⟩/\W.codeIn K cdv qual=true
 kp:W.keepIn K (.ref f)=true
section
variable {P:Program}{w:World}{K:W.Frag}{mg:Str->Option Value}{base:Heap}
theorem Fun.ok {x qual:Str}{st:Stmt}{f:Addr}{fd:FuncData}{N ps:List Str}{k:Nat}{sp:Sp}(F:Fun K x qual st f fd)(S:FnScope N ps (zag st))(len:∀ vs H Q E,sp vs H Q E->vs.length=ps.length)
 (hbody:∀ (cdv:Value) (A:Around) (outer:List Env) (s:Shared) (H:Hp) (vs:List V) (Q:VK) (E:XK),Room k (A.deeper (envOfC qual (zag st) s.heap.objs.size f cdv))->sp vs H Q E ->
  ∃ t,PSs (cxOf CX0 P w K mg base N qual (zag st) f cdv A outer s H E).nox (zbE st) t/\t { nx:=fun _ H'=>Q .non H',rt:=Q } (start N vs) H):FnOk P w K mg base CX0 (k+1) f fd ps sp:=by
 refine zc4a F.ex fun oc od kV doc zz=>zc4a zz fun pm an cdv ct zz=>zc1c zz fun osl zr9 lk hcd=>?_;subst zr9;refine zr8 lk hcd S len fun A outer s H vs Q E hr hsp=>?_;refine zc1b (hbody cdv A outer s H vs Q E hr hsp) fun t h q=>?_;exact ⟨t,h.nox,q⟩
theorem Fun.binds {x qual:Str}{st:Stmt}{f:Addr}{fd:FuncData}{ps:List Str}(F:Fun K x qual st f fd)
 (h:∀ (kV doc pm:Value) (an:Option Addr) (cdv ct:Value) (us:List Value),us.length=ps.length->bindArgs (W.fnOf x qual (zdZ st) (zbE st) (zag st) .none kV doc pm an cdv ct) ⟨us,[]⟩=pure (ps.zip us)):zia K fd ps []:=by
 refine zc4a F.ex fun oc od kV doc zz=>zc4a zz fun pm an cdv ct zz=>zc1c zz fun osl zr9 lk hcd=>?_;subst zr9;exact .all (h kV doc pm an cdv ct)
theorem fun_mk {x qual:Str}{st:Stmt}{f:Addr}{oc:Value}{od an:Option Addr}{osl:Array (Option Value)}{kV doc pm cdv ct:Value}(l:K.lookup f=some ⟨oc,od,.func (W.fnOf x qual (zdZ st) (zbE st) (zag st) .none kV doc pm an cdv ct),osl⟩)
 (c:W.codeIn K cdv qual=true) (k:W.keepIn K (.ref f)=true):Fun K x qual st f (W.fnOf x qual (zdZ st) (zbE st) (zag st) .none kV doc pm an cdv ct):=⟨⟨oc,od,kV,doc,pm,an,cdv,ct,osl,rfl,l,c⟩,k⟩
end
theorem zbz {A:Around}{k:Nat}(hr:Room k A):A.units+1<cLine:=Nat.lt_of_le_of_lt (Nat.add_le_add_left (by decide:1<=64) _) hr.units
theorem zhj {n:Nat}(h:n<=1000):n<sizeLine:=Nat.lt_of_le_of_lt h (by decide)
section
variable {X:Cx}
theorem pv (i:Nat){x:Str}{pos:Pos}(hN:autoParam (X.N[i]? = some x) zau._auto_1)(hv:Vis X.env.scope x:=by first|exact Or.inl rfl|exact Or.inr (Or.inl rfl)|exact Or.inr (Or.inr rfl))(hd:(x == ("__debug__" : Str))=false:=by decide)
 (hcd:autoParam ((x == ("__classdict__" : Str))=false) zav._auto_1):PE X (.Name x pos) (tVar i):=zrE hN hv hd hcd
end
noncomputable def Same (H H':Hp):Prop:=∀ b o,H b=some o->H' b=some o
theorem Same.refl (H:Hp):Same H H:=fun _ _ h=>h
theorem Same.trans {H H1 H2:Hp}(a:Same H H1)(b:Same H1 H2):Same H H2:=fun c o h=>b c o (a c o h)
theorem Same.free {H H':Hp}(e:Same H H'){l:Addr}(h:H' l=Option.none):H l=Option.none:=by
 cases q:H l with
 |none=>rfl
 |some o =>
  rw [e l o q] at h;cases h
theorem Same.seq {K:W.Frag}{H H':Hp}{a:Addr}{xs:List V}(e:Same H H')(h:SqL K H a xs):SqL K H' a xs:=by
 rcases h with (h|⟨o,h⟩)|h
 ·exact .inl (.inl (e _ _ h))
 ·exact .inl (.inr ⟨o,e _ _ h⟩)
 ·exact .inr h
section
variable {X:Cx}
theorem zmY:zat X (.builtin "len") (fun xs H Q=>∃ a kvs,xs=[V.ref a]/\H a=some (.dK kvs)/\Q (.int kvs.length) H):=by
 intro pins s σ H xs us Q I r h;refine zc2c h fun a kvs zr2 ha q=>?_;subst zr2;refine zc1b (zcn r) fun u zr1 ru=>?_;subst zr1;cases ru;exact d_len I (.inl ha) fun t s' I'=>⟨.int kvs.length,H,I',⟨t,rfl⟩,q⟩
end
section
variable {κ : Type}[DecidableEq κ]
end
end L2
theorem zqn {P:Prop}{α : Type}{z:α}(h:none=some z):P:=by cases  h
theorem zqb {P:Prop}(h:false=true):P:=by cases  h
namespace L2
theorem zfw (env:Env):∀ (names:List (Str×NameKind)) (acc:List (Str×Addr)),(∀ y∈names,y.2=.free->∃ c,env.cells.lookup y.1=some c) ->
 ∃ cl,(forIn names acc fun (x:Str×NameKind) (r:List (Str×Addr))=>(match x with
  | (name,kind)=>if (kind == NameKind.free)=true then do let a <- cellOf env name;pure (ForInStep.yield ((name,a)::r)) else pure (ForInStep.yield r):Sem (ForInStep (List (Str×Addr)))))=(pure cl:Sem (List (Str×Addr))) /\
  (∀ x c,cl.lookup x=some c->env.cells.lookup x=some c\/acc.lookup x=some c)/\(∀ x c,acc.lookup x=some c->∃ c',cl.lookup x=some c')/\∀ y∈names,y.2=.free->∃ c,cl.lookup y.1=some c
 | [],acc,_=>⟨acc,rfl,fun _ _ h=>.inr h,fun x c h=>⟨c,h⟩,fun _ h=>nomatch h⟩
 | (n,k)::r,acc,h=>by
  rw [List.forIn_cons];cases hk:(k == NameKind.free) with
  |true =>
   have hk':k=.free:=by cases k<;>first|rfl|(exact absurd hk (by decide))
   obtain ⟨c,hc⟩:=h (n,k) Zqs hk';refine zc1d (zfw env r ((n,c)::acc) fun y hy=>h y (Zqm _ hy)) fun cl e h1 h2 h3=>?_;refine ⟨cl,?_,fun x c' hx=>?_,fun x c' hx=>?_,fun y hy hf=>?_⟩
   ·simp only [hk,if_true,cellOf,hc];exact e
   ·rcases h1 x c' hx with q|q
    ·exact .inl q
    ·rw [List.lookup_cons] at q;cases hb:x == n with
     |true =>
      rw [hb] at q;cases q;have:x=n:=by simpa using hb
      subst this;exact .inl hc
     |false=>rw [hb] at q;exact .inr q
   ·cases hb:x == n with
    |true=>exact h2 x c (by rw [List.lookup_cons,hb])
    |false=>exact h2 x c' (by rw [List.lookup_cons,hb];exact hx)
   ·rcases List.mem_cons.mp hy with rfl|hy
    ·exact h2 n c (by rw [List.lookup_cons,beq_self_eq_true])
    ·exact h3 y hy hf
  |false =>
   refine zc1d (zfw env r acc fun y hy=>h y (Zqm _ hy)) fun cl e h1 h2 h3=>?_;refine ⟨cl,?_,h1,h2,fun y hy hf=>?_⟩
   ·simp only [hk,Bool.false_eq_true,if_false];exact e
   ·rcases List.mem_cons.mp hy with rfl|hy
    ·rw [show k=.free from hf] at hk;exact absurd hk (by decide)
    ·exact h3 y hy hf
theorem zqt (env:Env)(scope:Scope)(h:∀ y∈scope.names,y.2=.free->∃ c,env.cells.lookup y.1=some c) :
 ∃ cl,closureFor scope env=pure cl/\(∀ x c,cl.lookup x=some c->env.cells.lookup x=some c)/\∀ y∈scope.names,y.2=.free->∃ c,cl.lookup y.1=some c:=by
 refine zc1d (zfw env scope.names [] h) fun cl e h1 _ h3=>?_;refine ⟨cl,?_,fun x c hx=>(h1 x c hx).elim id (fun q=>by simp at q),h3⟩;simp only [closureFor]
 first
 | (rw [e];rfl)
 |exact (congrArg (· >>= fun cs=>pure cs) e)
theorem zbU {env:Env}{x:Str}:∀ {names:List (Str×NameKind)},
 (names.lookup x=some .free->(names.map fun (n,k)=>if (k == NameKind.free&&env.scope.kind == .function&&env.kindOf n == some .cell) then (n,NameKind.cell) else (n,k)).lookup x=some .cell\/(names.map fun (n,k)=>if (k == NameKind.free&&env.scope.kind == .function&&env.kindOf n == some .cell) then (n,NameKind.cell) else (n,k)).lookup x=some .free) /\
 ((∀ y∈names,y.2 ≠ .cell)->∀ k',(names.map fun (n,k)=>if (k == NameKind.free&&env.scope.kind == .function&&env.kindOf n == some .cell) then (n,NameKind.cell) else (n,k)).lookup x=some k'->(k'=.cell\/k'=.free)->names.lookup x=some .free)
 | []=>⟨fun h=>by simp at h,fun _ _ h=>by simp at h⟩
 | (n,k)::r=>by
  obtain ⟨ih1,ih2⟩:=@zbU env x r;simp only [List.map_cons];cases hx:x == n with
  |true =>
   refine ⟨fun h=>?_,fun hc k' h hk'=>?_⟩
   ·simp only [List.lookup_cons,hx] at h;obtain rfl:=Zqi h;by_cases hc:(NameKind.free == NameKind.free&&env.scope.kind == .function&&env.kindOf n == some .cell)=true
    ·rw [if_pos hc];simp [List.lookup_cons,hx]
    ·rw [if_neg hc];simp [List.lookup_cons,hx]
   ·rw [List.lookup_cons,hx];have nc:=hc (n,k) Zqs;by_cases hq:(k == NameKind.free&&env.scope.kind == .function&&env.kindOf n == some .cell)=true
    ·have:k=.free:=by
      cases k<;>first|rfl|(simp at hq)
     rw [this]
    ·rw [if_neg hq] at h;simp only [List.lookup_cons,hx] at h;have h:k=k':=by simpa using h
     subst h;rcases hk' with z|z
     ·exact absurd z nc
     ·rw [z]
  |false =>
   refine ⟨fun h=>?_,fun hc k' h hk'=>?_⟩
   ·simp only [List.lookup_cons,hx] at h
    split<;>simp only [List.lookup_cons,hx]<;>exact ih1 h
   ·rw [List.lookup_cons,hx];refine ih2 (fun y hy=>hc y (Zqm _ hy)) k' ?_ hk'
    split at h<;>simp only [List.lookup_cons,hx] at h<;>exact h
noncomputable def za0 (X:Cx)(scope:Scope)(N:List Str)(cl:List (Str×Addr))(C:Addr)(s:Shared)(H:Hp)(ex:List Addr):Cx where
 prog:=X.prog
 w:=X.w
 K:=X.K
 mg:=X.mg
 base:=X.base
 A:=X.A
 N:=N
 s₀:=s
 H₀:=H
 env:=compEnvC scope cl C X.env
 outer:=X.stack
 stack:=X.stack
 ex:=ex
 fn:=fun _=>false
 calm:=X.calm
 pn:=[]
 xe:=fun _ _=>False
noncomputable def zis (cap:List (Option Nat))(σ : St):St:=cap.map fun o=>o.bind fun j=>(σ[j]?).join
structure CompOk (X:Cx)(scope:Scope)(N:List Str)(cap:List (Option Nat)):Prop where
 kind:scope.kind=.function
 loc:∀ y∈scope.names,y.2=.local->scope.names.lookup y.1=some .local
 cell:∀ y∈scope.names,y.2 ≠ .cell
 free:∀ y∈scope.names,y.2=.free->X.env.kindOf y.1=some .cell\/X.env.kindOf y.1=some .free
 len:cap.length=N.length
 cap:∀ (i j:Nat) (x:Str),cap[i]? = some (some j)->N[i]? = some x->X.N[j]? = some x/\scope.names.lookup x=some .free
noncomputable def zb2 (scope:Scope)(env:Env)(N' N:List Str)(cap:List (Option Nat)):Bool :=
 decide (scope.kind=.function)&&scope.names.all (fun y => !decide (y.2=.local)||decide (scope.names.lookup y.1=some .local))&&scope.names.all (fun y => !decide (y.2=.cell)) &&
 scope.names.all (fun y => !decide (y.2=.free)||(decide (env.kindOf y.1=some .cell)||decide (env.kindOf y.1=some .free)))&&decide (cap.length=N'.length) &&
 (N'.zip cap).all (fun p=>match p.2 with|none=>true|some j=>decide (N[j]? = some p.1)&&decide (scope.names.lookup p.1=some .free))
theorem CompOk.of {X:Cx}{scope:Scope}{N:List Str}{cap:List (Option Nat)}(h:zb2 scope X.env N X.N cap=true):CompOk X scope N cap:=by
 unfold zb2 at h;simp only [Bool.and_eq_true,List.all_eq_true,decide_eq_true_eq,Bool.or_eq_true,Bool.not_eq_true',decide_eq_false_iff_not] at h;obtain ⟨⟨⟨⟨⟨h1,h2⟩,h3⟩,h4⟩,h5⟩,h6⟩:=h;refine ⟨h1,fun y hy hl=>?_,fun y hy=>h3 y hy,fun y hy hf=>?_,h5,fun i j x e1 e2=>?_⟩
 ·rcases h2 y hy with z|z
  ·exact absurd hl z
  ·exact z
 ·rcases h4 y hy with z|z
  ·exact absurd hf z
  ·exact z
 ·have hm:(x,some j)∈N.zip cap:=by
   refine List.mem_of_getElem? (i:=i) ?_;rw [List.getElem?_zip_eq_some];exact ⟨e2,e1⟩
  have q:=h6 (x,some j) hm;simpa using q
section
variable {X:Cx}{scope:Scope}{N:List Str}{cap:List (Option Nat)}{pins:List (Addr×Obj)}{σ : St}{H:Hp}{s:Shared}{cl:List (Str×Addr)}{C D:Addr}{fp:List Addr}
theorem zo8 {h1:Heap}{tk:Nat}{m:Str->Option Value}(ok:CompOk X scope N cap)(I:Inv X pins σ H s)(hf:∀ b∈fp,FpOk X pins H b)(hlt:∀ b∈fp,b<s.heap.objs.size)
 (hcl1:∀ x c,cl.lookup x=some c->X.env.cells.lookup x=some c) (hcl2:∀ y∈scope.names,y.2=.free->∃ c,cl.lookup y.1=some c)
 (hC:s.heap.objs.size<=C) (old:∀ b o,s.heap.get? b=some o->h1.get? b=some o) (hns:h1.Ns C m) :
 Inv (za0 X scope N cl C s H fp) [] (zis cap σ) H { s with heap:=h1,toks:=tk }:=by
 have kf:∀ x,(za0 X scope N cl C s H fp).env.kindOf x=some .cell\/(za0 X scope N cl C s H fp).env.kindOf x=some .free->scope.names.lookup x=some .free:=fun x h=>by
  rcases h with h|h
  ·exact (zbU (env:=X.env) (x:=x) (names:=scope.names)).2 ok.cell _ h (.inl rfl)
  ·exact (zbU (env:=X.env) (x:=x) (names:=scope.names)).2 ok.cell _ h (.inr rfl)
 refine ⟨⟨I.ok.mod,ok.kind,I.ok.glob,I.ok.blt,hC,fun x y c e1 e2=>I.ok.inj x y c (hcl1 x c e1) (hcl1 y c e2),fun x h=>?_,(fun x c z=>Bool.noConfusion z),I.ok.hd,I.ok.frames,.inl rfl,fun b hb=>⟨?_,fun x c e=>?_⟩,I.bs,Nat.le_trans I.ok.bsz I.sz,
  fun b o e hb=>?_,fun b hb z=>?_,I.stack,I.stkFree⟩,rfl,I.bare,Un.kept old,⟨m,hns,fun i x v e1 e2 e3=>?_⟩,fun x c e=>?_,I.hok.fresh hC,fun x c e=>I.freeC x c (hcl1 x c e),fun p hp=>absurd hp (by show ¬ p∈([]:List (Addr×Obj))++[];simp),I.hok.kept old,?_⟩
 ·have q:=kf x h;exact hcl2 (x,.free) (PySem.mem_of_lookup q) rfl
 ·exact Nat.ne_of_lt (Nat.lt_of_lt_of_le (hlt b hb) hC)
 ·exact (hf b hb).2.2.2.2.1 x c (hcl1 x c e)
 ·rcases (hf b hb).2.2.2.1 with z|z
  ·exact I.ok.noex b o e z
  ·exact absurd (Nat.lt_of_lt_of_le (Heap.lt_size e) (Nat.le_trans I.ok.bsz z)) (Nat.lt_irrefl _)
 ·rcases List.mem_cons.mp (I.stkSub b z) with q|q
  ·exact (hf b hb).2.1 q
  ·exact (hf b hb).2.2.1 q
 ·have e1:N[i]? = some x:=e1;have hc:∃ j,cap[i]? = some (some j) /\ σ[j]? = some (some v):=by
   have e2:(cap.map fun o=>o.bind fun j=>(σ[j]?).join)[i]? = some (some v):=e2;rw [List.getElem?_map] at e2;cases q:cap[i]? with
   |none=>rw [q] at e2;exact zqn e2
   |some o =>
    rw [q] at e2;cases o with
    |none=>cases e2
    |some j =>
     have e2:some ((σ[j]?).join)=some (some v):=e2;cases q2:σ[j]? with
     |none=>rw [q2] at e2;cases e2
     |some w=>rw [q2] at e2;exact ⟨j,rfl,by cases e2;exact q2⟩
  refine zc1b hc fun j c1 c2=>?_;obtain ⟨n1,n2⟩:=ok.cap i j x c1 e1;refine zc1b I.loc fun m0 _ hl=>?_;have fr:=ok.free (x,.free) (PySem.mem_of_lookup n2) rfl;refine zc1b (hl j x v n1 c2 (fr.elim (fun z=>.inr (.inl z)) fun z=>.inr (.inr z))) fun u r l=>?_;refine ⟨u,r,.inr ⟨(zbU (env:=X.env) (x:=x) (names:=scope.names)).1 n2,?_⟩⟩;rcases l with ⟨k,_⟩|⟨_,c,ec,z⟩
  ·have k:X.env.kindOf x=some .local:=k;rcases fr with f|f<;>· rw [k] at f;cases f
  ·obtain ⟨c',e'⟩:=hcl2 (x,.free) (PySem.mem_of_lookup n2) rfl;have e'':=hcl1 x c' e';rw [ec] at e'';obtain rfl:=Zqi e'';exact ⟨c,e',z.keeps old⟩
 ·obtain ⟨v,z⟩:=I.cell x c (hcl1 x c e);exact ⟨v,z.keeps old⟩
 ·show (cap.map _).length=N.length;rw [Zql];exact ok.len
theorem zne {σ':St}{H':Hp}{s':Shared}{ys:List V}{its:List Value}{k:Nat}{h':Heap}{Q:VK}(I:Inv X pins σ H s)(hf:∀ b∈fp,FpOk X pins H b)(hC:s.heap.objs.size<=C)(hD:s.heap.objs.size<=D)(hDC:D≠C)
 (J:Inv (za0 X scope N cl C s H fp) [] σ' H' s') (hd:s'.heap.get? D=some { cls:=.type "list",data:=.seq its.toArray k }) (hn:H' D=none) (rv:Vals ys its) (hz:ys.length<=sizeLine) (hs:Heap.SameBut C s'.heap h')
 (q:Q (.ref D) (upd H' D (.lst ys))):EP X pins σ Q (.ref D) { s' with heap:=h' }:=by
 have nC:∀ b o,s.heap.get? b=some o->b≠C:=fun b o e=>Nat.ne_of_lt (Nat.lt_of_lt_of_le (Heap.lt_size e) hC);have nD:∀ b o,s.heap.get? b=some o->b≠D:=fun b o e=>Nat.ne_of_lt (Nat.lt_of_lt_of_le (Heap.lt_size e) hD);have tD:∀ b u,H' b=some u->b≠D:=fun b u e z=>by rw [z,hn] at e;exact zqn e
 have tC:∀ b u,H' b=some u->b≠C:=fun b u e z=>by
  have:=J.free;rw [z] at e;rw [show H' C=none from this] at e;exact zqn e
 have B:Un (frs X.stack) fp H H' s.heap s'.heap:=J.base;refine ⟨.ref D,upd H' D (.lst ys),I.call' (s':={ s' with heap:=h' }) (ch:=fp) J.os ?_ ?_ J.bare (fun b hb=>⟨(hf b hb).2.2.2.1,(hf b hb).2.1,(hf b hb).2.2.2.2.1,(hf b hb).2.2.2.2.2⟩),rfl,q⟩
 ·refine ⟨fun b o e n hb hx=>(hs.2 b (nC b o e)).trans (B.keep b o e n hb hx),fun b o e n hb hx=>?_,fun b o e n hx=>?_,fun b o e hx=>?_,fun b xs e=>?_,fun b o u e=>?_,fun b ps e=>?_⟩
  ·obtain ⟨sl,z⟩:=B.slot b o e n hb hx;exact ⟨sl,(hs.2 b (nC b o e)).trans z⟩
  ·rw [za9 (nD b o e)];exact B.free b o e n hx
  ·obtain ⟨o',z⟩:=B.there b o e hx;exact ⟨o',(hs.2 b (nC b o e)).trans z⟩
  ·have z:=B.tups b xs e;rw [za9 (tD b _ z)];exact z
  ·have z:=B.frzs b o u e;rw [za9 (tD b _ z)];exact z
  ·obtain ⟨more,z⟩:=B.tbls b ps e;exact ⟨more,by rw [za9 (tD b _ z)];exact z⟩
 ·intro b u e;by_cases hb:b=D
  ·subst hb;rw [zao] at e;obtain rfl:=Zqi e;exact ⟨hz,its,k,rv,(hs.2 b hDC).trans hd⟩
  ·rw [za9 hb] at e;refine (J.hok b u e).stay (fun c v hc z=>(hs.2 c ?_).trans z) (fun c z=>by rw [za9 (tD c _ z)];exact z) (fun c xs z=>by rw [za9 (tD c _ z)];exact z);rcases hc with hc|hc
   ·rw [hc];exact tC b u e
   ·exact tC c _ hc
end
def compR (cap:List (Option Nat))(g:TG)(te:TE)(σ : St)(Q:VK):It->Hp->Prop:=fun J H1=>∃ W:Nat->Nat->List V->St->Hp->Prop,(∃ m,W 0 m [] (zis cap σ) H1)/\∀ i m ys σ' H',W i m ys σ' H'->ys.length<sizeLine /\
 (
  (J.stop i H'/\∀ D,H' D=none->Q (.ref D) (upd H' D (.lst ys))) \/
  (J.go i H'/\∀ x H2,J.yld i H' x H2->g x σ' H2 fun σ2 H3=>te σ2 H3 fun y H4=>∃ m',m'<m/\W (i+1) m' (ys++[y]) σ2 H4))
def znS (cap:List (Option Nat))(wi:TI)(g:TG)(te:TE):TE:=fun σ H Q=>wi σ H (compR cap g te σ Q)
def zqi (cap:List (Option Nat))(g:TG)(tt:TT)(te:TE)(σ : St)(Q:VK):It->Hp->Prop:=fun J H1=>∃ W:Nat->Nat->List V->St->Hp->Prop,(∃ m,W 0 m [] (zis cap σ) H1)/\∀ i m ys σ' H',W i m ys σ' H'->ys.length<sizeLine /\
 (
  (J.stop i H'/\∀ D,H' D=none->Q (.ref D) (upd H' D (.lst ys))) \/
  (J.go i H'/\∀ x H2,J.yld i H' x H2->g x σ' H2 fun σ2 H3=>tt σ2 H3 fun b H4=>if b=true then te σ2 H4 (fun y H5=>∃ m',m'<m/\W (i+1) m' (ys++[y]) σ2 H5) else ∃ m',m'<m/\W (i+1) m' ys σ2 H4))
def ze6 (cap:List (Option Nat))(wi:TI)(g:TG)(tt:TT)(te:TE):TE:=fun σ H Q=>wi σ H (zqi cap g tt te σ Q)
section
variable {X:Cx}{tg iter elt c:Expr}{scope:Scope}{pos:Pos}{wi:TI}{g:TG}{te:TE}{tt:TT}
noncomputable def zfp (X:Cx)(pins:List (Addr×Obj))(σ : St)(Q:VK)(use:Option (Value->Sem Unit))(R:Value->Shared->Prop):Prop :=
 ∀ (C D:Addr) (m:Str->Option Value) (s5:Shared) (r:Flow),s5.heap.Ns C m->¬ C=X.env.locals->C∉X.fs->X.s₀.heap.objs.size<=C->(∀ x c,X.env.cells.lookup x=some c->c≠C)->(∀ p∈X.pn++pins,p.1≠C) ->
  (∀ h',Heap.SameBut C s5.heap h'->EP X pins σ (fun v H'=>H' C=none/\Q v H') (.ref D) { s5 with heap:=h' })->compPost (model X.prog X.w) X.A X.xe use R (.ref D) C (.ok r) s5
theorem zju {pins:List (Addr×Obj)}{σ : St}{Q:VK}:zfp X pins σ Q none (EP X pins σ Q):=fun C D m s5 r hm _ _ _ _ _ k=>⟨m,hm,fun h' hs'=>by
 refine zc2d (k h' hs') fun v H' I' rv _ q=>?_;exact ⟨v,H',I',rv,q⟩⟩
noncomputable def TurnI (X:Cx)(tg elt:Expr)(it acc:Value)(env:Env)(R:Result->Shared->Prop)(I:Nat->Shared->Prop)(test:(Bool->Shared->Prop)->Shared->Prop)(n:Nat)(s:Shared):Prop :=
 let E:Value->Shared->Prop:=notedBy (model X.prog X.w) X.A env fun e s'=>R (.error e) s'
 wpAny (model X.prog X.w) X.A (pyNext it) (fun r s1=>match r with
  |none=>R (.ok .next) s1
  |some v=>wpAny (model X.prog X.w) X.A (letOwnedTupleGo tg it v) (fun _ s2=>wpAny (model X.prog X.w) X.A (assign tg env v) (fun _ s3=>test (fun ok s4=>if ok=true then wpAny (model X.prog X.w) X.A (eval elt env) (fun x s5=>wpAny (model X.prog X.w) X.A (call (.builtin "list.append") [acc,x]) (fun _ s6=>∃ m,m<n/\I m s6) E s5) E s4 else ∃ m,m<n/\I m s4) s3) E s2) E s1) E s
theorem ziJ {ifs:List Expr}(N:List Str){test:Env->(Result->Shared->Prop)->(Bool->Shared->Prop)->Shared->Prop}
 (lp:∀ {it acc:Value} {env:Env} {R:Result->Shared->Prop} {s:Shared} (I:Nat->Shared->Prop),(∀ n s,I n s->TurnI X tg elt it acc env R I (test env R) n s)->∀ n,I n s->codeAny (model X.prog X.w) X.A (.compLoop (.ListComp elt [⟨tg,iter,ifs,0⟩] scope pos) 0 it acc env) R s)
 (ht:∀ cl C s H ex {pins:List (Addr×Obj)} {s7:Shared} {σ7:St} {H7:Hp} {R:Result->Shared->Prop} {q:Bool->Hp->Prop} {Q:Bool->Shared->Prop},Inv (za0 X scope N cl C s H ex) pins σ7 H7 s7->tt σ7 H7 q->(∀ b s8 H8,Inv (za0 X scope N cl C s H ex) pins σ7 H8 s8->q b H8->Q b s8)->test (compEnvC scope cl C X.env) R Q s7)
 (cap:List (Option Nat)) (hc:X.calm=true) (okB:zb2 scope X.env N X.N cap=true) (hi:PI X tg iter wi) (hg:∀ cl C s H ex,PG (za0 X scope N cl C s H ex) tg g) (he:∀ cl C s H ex,PE (za0 X scope N cl C s H ex) elt te)
 (hs:∀ x,foldedSetIterable iter X.env x=pure x) {use:Option (Value->Sem Unit)} {R:Value->Shared->Prop} {fpos:Pos} {pins:List (Addr×Obj)} {s:Shared} {σ : St} {H:Hp} {Q:VK} (I:Inv X pins σ H s) (h:ze6 cap wi g tt te σ H Q) (fin:zfp X pins σ Q use R) :
 wpAny (model X.prog X.w) X.A (comprehension (.ListComp elt [⟨tg,iter,ifs,0⟩] scope pos) scope X.env fpos (newList []) false (eval iter X.env) use) R X.xe s:=by
 have ok:=CompOk.of okB;obtain ⟨cl,hcl,hcl1,hcl2⟩:=zqt X.env scope fun y hy hf=>I.ok.has y.1 (ok.free y hy hf);refine wpAny_comprehension_free (use:=use) rfl hs hcl ok.kind ok.loc (thn (hi pins s σ H _ I h) fun xv s1 h1=>thn h1 fun itv s2 h2=>?_);obtain ⟨it,fp,tn,J,H2,e,I2,T,st2,f2,W,⟨m0,w0⟩,turn⟩:=h2;subst e;have hlt:∀ b∈fp,b<s2.heap.objs.size:=fun b hb=>let ⟨_,e,_⟩:=T.obj _ _ st2 b hb;Heap.lt_size e
 refine wpAny_newObj_type (wpAny_newFunctionEnv ok.cell (by intro y hy;simp at hy) (fun g1 hns1 hsb1=>?_) ok.kind);dsimp only at hns1 hsb1 ⊢;generalize hP:s2.heap.push { cls:=.type "list",dict:=none,data:=.seq ([]:List Value).toArray }=P2 at hns1 hsb1 ⊢;have hC:P2.objs.size=s2.heap.objs.size+1:=by rw [<- hP,Heap.size_push]
 have hDC:s2.heap.objs.size≠P2.objs.size:=by rw [hC];exact Nat.ne_of_lt (Nat.lt_succ_self _)
 have hCle:s2.heap.objs.size<=P2.objs.size:=by rw [hC];exact Nat.le_succ _
 have below:∀ b,b<s2.heap.objs.size->b≠P2.objs.size/\b≠s2.heap.objs.size:=fun b hb=>⟨by rw [hC];exact Nat.ne_of_lt (Nat.lt_succ_of_lt hb),Nat.ne_of_lt hb⟩;have old:∀ b o,s2.heap.get? b=some o->g1.get? b=some o:=fun b o e=>hsb1.extBut b o (below b (Heap.lt_size e)).1 (Heap.get?_push_of_some _ (hP ▸ Heap.get?_push_of_some _ e));have hacc:g1.get? s2.heap.objs.size=some { cls:=.type "list",data:=.seq ([]:List Value).toArray 0 }:=hsb1.extBut _ _ hDC (Heap.get?_push_of_some _ (hP ▸ Heap.get?_push_size _ rfl));have stat:∀ {H':Hp} {pl:List (Addr×Obj)},(∀ b∈fp,H' b=none)->(∀ p∈pl,p.1∉fp)->∀ b∈fp,FpOk (za0 X scope N cl P2.objs.size s2 H2 fp) pl H' b:=fun {H' pl} hn hp b hb=>by
  refine ⟨hn b hb,(below b (hlt b hb)).1,fun z=>?_,.inl hb,fun x c e=>(f2 b hb).2.2.2.2.1 x c (hcl1 x c e),fun p hq z=>?_⟩
  ·rcases List.mem_cons.mp (I2.stkSub b z) with q|q
   ·exact (f2 b hb).2.1 q
   ·exact (f2 b hb).2.2.1 q
  ·have hq:p∈([]:List (Addr×Obj))++pl:=hq;rw [List.nil_append] at hq;exact hp p hq (by rw [z];exact hb)
 have nD:s2.heap.objs.size∉fp:=fun z=>absurd (hlt _ z) (Nat.lt_irrefl _);have loop:∀ s3:Shared,s3={ s2 with heap:=g1,toks:=s2.toks+([]:List (Str×Value)).length } ->
  codeAny (model X.prog X.w) X.A (.compLoop (.ListComp elt [⟨tg,iter,ifs,0⟩] scope pos) 0 (.ref it) (.ref s2.heap.objs.size) (compEnvC scope cl P2.objs.size X.env))
   (compPost (model X.prog X.w) X.A X.xe use R (.ref s2.heap.objs.size) P2.objs.size) s3:=by
  rintro s3 rfl;have I0:=zo8 (tk:=s2.toks+([]:List (Str×Value)).length) ok I2 f2 hlt hcl1 hcl2 hCle old hns1;refine lp (fun n s'=>∃ i ys its k σ' H',Inv (za0 X scope N cl P2.objs.size s2 H2 fp) [] σ' H' s'/\tn i s'.heap/\(∀ b∈fp,H' b=none)/\s'.heap.get? s2.heap.objs.size=some { cls:=.type "list",data:=.seq (List.toArray its) k } /\
   H' s2.heap.objs.size=none/\Vals ys its/\W i n ys σ' H') ?_ m0
   ⟨0,[],[],0,zis cap σ,H2,I0,T.keep _ _ _ st2 (fun b _ o e=>old b o e),fun b hb=>(f2 b hb).1,hacc,I2.hok.fresh (Nat.le_refl _),.nil,w0⟩
  rintro n s4 ⟨i,ys,its,k,σ4,H4,I4,st4,fr4,hd4,hn4,rv4,w4⟩;obtain ⟨hz,tn4⟩:=turn i n ys σ4 H4 w4;have J4:Inv (za0 X scope N cl P2.objs.size s2 H2 fp) [(s2.heap.objs.size,{ cls:=.type "list",data:=.seq its.toArray k })] σ4 H4 s4:=I4.pins_of fun p hp=>by
   have e:=List.mem_singleton.mp hp;subst e;refine ⟨hd4,hn4,hDC,?_,fun v z=>by cases z⟩;exact fun z=>absurd (Nat.lt_of_lt_of_le (by
    rcases List.mem_cons.mp (I2.stkSub _ z) with q|q
    ·exact Nat.lt_of_le_of_lt (Nat.le_of_eq q) I2.lt
    ·obtain ⟨_,o,ho,_⟩:=I2.ok.funs.mem q;exact Nat.lt_of_lt_of_le (Heap.lt_size ho) I2.sz) (Nat.le_refl s2.heap.objs.size)) (Nat.lt_irrefl _)
  have np:∀ p ∈ [(s2.heap.objs.size,({ cls:=.type "list",data:=.seq its.toArray k }:Obj))],p.1∉fp:=fun p hp=>by
   have e:=List.mem_singleton.mp hp;subst e;exact nD
  rcases tn4 with ⟨stop,qn⟩|⟨go,step⟩
  ·refine wpAny_mono (T.done (za0 X scope N cl P2.objs.size s2 H2 fp) rfl rfl rfl hc i _ s4 σ4 H4 (fun _ _=>False) J4 (stat fr4 np) st4 stop) (fun r s5 h5=>?_) fun _ _ f=>f.elim;obtain ⟨rfl,I5⟩:=h5;obtain ⟨m,hm,_⟩:=id I5.loc;have p5:=I5.pin (s2.heap.objs.size,_) (List.mem_append_right _ Zqs);refine fin _ _ m _ _ hm (Nat.ne_of_gt (Nat.lt_of_lt_of_le I2.lt hCle)) (I2.nofs hCle) (Nat.le_trans I2.sz hCle) (fun x c e z=>?_) (fun p hp z=>?_) fun h' hs'=>zne I2 f2 hCle (Nat.le_refl _) hDC (I5.pins_of fun p hp=>nomatch hp) p5.1 p5.2.1 rv4 (Nat.le_of_lt hz) hs' ⟨by rw [za9 (Ne.symm hDC)];exact I5.free,qn _ p5.2.1⟩
   ·obtain ⟨v,o,ho,hd⟩:=I2.cell x c e;have:=Heap.lt_size ho;rw [z] at this;exact absurd (Nat.lt_of_lt_of_le this hCle) (Nat.lt_irrefl _)
   ·have:=Heap.lt_size (I2.pin p hp).1;rw [z] at this;exact absurd (Nat.lt_of_lt_of_le this hCle) (Nat.lt_irrefl _)
  ·refine wpAny_mono (T.item (za0 X scope N cl P2.objs.size s2 H2 fp) rfl rfl rfl hc i _ s4 σ4 H4 (fun _ _=>False) J4 (stat fr4 np) st4 go) (fun r s5 h5=>?_) fun _ _ f=>f.elim;obtain ⟨u,rfl,h5⟩:=h5;refine wpAny_mono h5 (fun _ s6 h6=>?_) fun _ _ f=>f.elim;obtain ⟨x,H6,I6,r6,y6,st6,fr6⟩:=h6;have I6':=I6.pinned (stat fr6 np) (T.obj _ _ st6);refine wpAny_mono (hg cl P2.objs.size s2 H2 fp _ s6 σ4 H6 x u _ I6' r6 (step x H6 y6)) (fun _ s7 h7=>?_) fun _ _ f=>f.elim;obtain ⟨σ7,H7,I7,q7⟩:=h7;refine ht cl P2.objs.size s2 H2 fp I7 q7 fun bv s8 H8 I8 q8=>?_;have keepT:∀ (H9:Hp) (s9:Shared) (σ9:St),Inv (za0 X scope N cl P2.objs.size s2 H2 fp) ([(s2.heap.objs.size,{ cls:=.type "list",data:=.seq its.toArray k })]++zhm fp s6.heap) σ9 H9 s9->(∀ b∈fp,∀ o,s6.heap.get? b=some o->s9.heap.get? b=some o)/\∀ b∈fp,H9 b=none:=fun H9 s9 σ9 I9=>by
    refine ⟨fun b hb o e=>(I9.pin (b,o) (List.mem_append_right _ (List.mem_append_right _ (zc8 hb e)))).1,fun b hb=>?_⟩;obtain ⟨o,e,d⟩:=T.obj _ _ st6 b hb;exact (I9.pin (b,o) (List.mem_append_right _ (List.mem_append_right _ (zc8 hb e)))).2.1
   have p8:=I8.pin (s2.heap.objs.size,_) (List.mem_append_right _ (List.mem_append_left _ Zqs));cases bv with
   |false =>
    rw [if_neg (by simp)] at q8 ⊢;obtain ⟨m',hm',w8⟩:=q8;obtain ⟨z1,z2⟩:=keepT _ _ _ I8;exact ⟨m',hm',i+1,ys,its,k,σ7,H8,I8.pins_of (fun p hp=>nomatch hp),T.keep _ _ _ st6 z1,z2,p8.1,p8.2.1,rv4,w8⟩
   |true =>
    rw [if_pos rfl] at q8 ⊢;refine wpAny_mono (he cl P2.objs.size s2 H2 fp _ s8 σ7 H8 _ I8 q8) (fun yv s9 h9=>?_) fun _ _ f=>f.elim;obtain ⟨y,H9,I9,ry,m',hm',w9⟩:=h9;have p9:=I9.pin (s2.heap.objs.size,_) (List.mem_append_right _ (List.mem_append_left _ Zqs));have hl:=rv4.length;refine append_at (hsz:=by show its.toArray.size<=sizeLine;rw [List.size_toArray,<- hl];exact Nat.le_of_lt hz) p9.1 fun h10 hs10 hd10=>?_;have I10:Inv (za0 X scope N cl P2.objs.size s2 H2 fp) [] σ7 H9 { s9 with heap:=h10 }:=(I9.pins_of (pins':=[]) fun p hp=>nomatch hp).turned (t':=s9.toks) (it:=s2.heap.objs.size) (fun b o hb e=>(hs10.2 b hb).trans e) p9.2.1 hDC (.inr (Nat.le_refl _))
     (fun x c e z=>by
      obtain ⟨v,o,ho,hd⟩:=I9.cell x c e;rw [z,p9.1] at ho;cases ho;cases hd) (fun p hp=>absurd hp (by show ¬ p∈([]:List (Addr×Obj))++[];simp))
    obtain ⟨z1,z2⟩:=keepT _ _ _ I9;refine ⟨m',hm',i+1,ys++[y],its++[yv],k+1,σ7,H9,I10,T.keep _ _ _ st6 (fun b hb o e=>?_),z2,?_,p9.2.1,Vals.append rv4 (.cons ry .nil),w9⟩
    ·have hb':b≠s2.heap.objs.size:=fun z=>nD (by rw [<- z];exact hb);exact (hs10.2 b hb').trans (z1 b hb o e)
    ·refine hd10.trans ?_;simp
 exact codeAny_compStart_list (loop _ rfl) (T.self _ 0 _ _ _ (T.keep _ _ _ st2 (fun b _ o e=>old b o e)) (loop _ rfl))
theorem zlx (N:List Str)(cap:List (Option Nat))(hc:X.calm=true)(okB:zb2 scope X.env N X.N cap=true)(hi:PI X tg iter wi)(hg:∀ cl C s H ex,PG (za0 X scope N cl C s H ex) tg g)(he:∀ cl C s H ex,PE (za0 X scope N cl C s H ex) elt te)
 (hs:∀ x,foldedSetIterable iter X.env x=pure x) {use:Option (Value->Sem Unit)} {R:Value->Shared->Prop} {fpos:Pos} {pins:List (Addr×Obj)} {s:Shared} {σ : St} {H:Hp} {Q:VK} (I:Inv X pins σ H s) (h:znS cap wi g te σ H Q) (fin:zfp X pins σ Q use R) :
 wpAny (model X.prog X.w) X.A (comprehension (.ListComp elt [⟨tg,iter,[],0⟩] scope pos) scope X.env fpos (newList []) false (eval iter X.env) use) R X.xe s :=
 ziJ (tt:=fun _ H q=>q true H) (test:=fun _ _ Q s=>Q true s) N (fun I turn n h=>W.kcp_loop I turn n h) (fun _ _ _ _ _ _ _ _ _ _ _ _ I q k=>k true _ _ I q) cap hc okB hi hg he hs I h fin
theorem zqy (N:List Str)(cap:List (Option Nat))(hc:X.calm=true)(okB:zb2 scope X.env N X.N cap=true)(hi:PI X tg iter wi)(hg:∀ cl C s H ex,PG (za0 X scope N cl C s H ex) tg g)(he:∀ cl C s H ex,PE (za0 X scope N cl C s H ex) elt te)
 (hs:autoParam (∀ x,foldedSetIterable iter X.env x=pure x) zaw._auto_1):PE X (.ListComp elt [⟨tg,iter,[],0⟩] scope pos) (znS cap wi g te):=by
 intro pins s σ H Q I h;rw [eval_ListComp];exact zlx N cap hc okB hi hg he hs I h zju
end
mutual
noncomputable def Is (H:Hp):PyData->V->Prop
 | .none,v=>v=.non
 | .bool b,v=>v=.bl b
 | .int i,v=>v=.int i
 | .str x,v=>v=.str x
 | .list ds,v=>∃ a xs,v=.ref a/\H a=some (.lst xs)/\zas H ds xs
 | .tuple ds,v=>∃ a xs,v=.ref a/\H a=some (.tup xs)/\zas H ds xs
 | .dict _,_=>False
noncomputable def zas (H:Hp):List PyData->List V->Prop
 | [],xs=>xs=[]
 |d::ds,xs=>∃ x r,xs=x::r/\Is H d x/\zas H ds r
end
mutual
theorem Is.same {H H':Hp}(e:Same H H'):∀ (d:PyData) (v:V),Is H d v->Is H' d v
 | .none,_,h=>by unfold Is at h ⊢;exact h
 | .bool _,_,h=>by unfold Is at h ⊢;exact h
 | .int _,_,h=>by unfold Is at h ⊢;exact h
 | .str _,_,h=>by unfold Is at h ⊢;exact h
 | .list ds,v,h=>by
  unfold Is at h ⊢;refine zc2c h fun a xs h1 h2 h3=>?_;exact ⟨a,xs,h1,e _ _ h2,zas.same e ds xs h3⟩
 | .tuple ds,v,h=>by
  unfold Is at h ⊢;refine zc2c h fun a xs h1 h2 h3=>?_;exact ⟨a,xs,h1,e _ _ h2,zas.same e ds xs h3⟩
 | .dict _,_,h=>by unfold Is at h;exact h.elim
theorem zas.same {H H':Hp}(e:Same H H'):∀ (ds:List PyData) (xs:List V),zas H ds xs->zas H' ds xs
 | [],_,h=>by unfold zas at h ⊢;exact h
 |d::ds,xs,h=>by
  unfold zas at h ⊢;refine zc2c h fun x r h1 h2 h3=>?_;exact ⟨x,r,h1,Is.same e d x h2,zas.same e ds r h3⟩
end
theorem zas.length {H:Hp}:∀ {ds:List PyData} {xs:List V},zas H ds xs->xs.length=ds.length
 | [],_,h=>by unfold zas at h;subst h;rfl
 |d::ds,xs,h=>by
  unfold zas at h;refine zc2c h fun x r zr2 _ h3=>?_;subst zr2;rw [List.length_cons,List.length_cons,zas.length h3]
theorem zas.get {H:Hp}:∀ {ds:List PyData} {xs:List V} {i:Nat} {d:PyData},zas H ds xs->ds[i]? = some d->∃ x,xs[i]? = some x/\Is H d x
 | [],_,_,_,_,e=>by simp at e
 |d::ds,xs,0,d',h,e=>by
  unfold zas at h;refine zc2c h fun x r zr2 h2 _=>?_;subst zr2;simp at e;subst e;exact ⟨x,rfl,h2⟩
 |d::ds,xs,i+1,d',h,e=>by
  unfold zas at h;refine zc2c h fun x r zr2 _ h3=>?_;subst zr2;refine zc1b (zas.get (i:=i) h3 (by simpa using e)) fun y h4 h5=>?_;exact ⟨y,by simpa using h4,h5⟩
theorem zfK {H:Hp}:∀ (ns:List Int),zas H (ns.map PyData.int) (ns.map V.int)
 | []=>by show zas H [] [];unfold zas;rfl
 |n::ns=>by
  show zas H (PyData.int n::ns.map PyData.int) (V.int n::ns.map V.int);unfold zas;exact ⟨_,_,rfl,by unfold Is;rfl,zfK ns⟩
theorem zcT {H:Hp}:∀ {ns:List Int} {xs:List V},zas H (ns.map PyData.int) xs->xs=ns.map V.int
 | [],_,h=>by
  have h:zas H [] _:=h;unfold zas at h;exact h
 |n::ns,xs,h=>by
  have h:zas H (PyData.int n::ns.map PyData.int) xs:=h;unfold zas at h;obtain ⟨x,r,rfl,h2,h3⟩:=h;unfold Is at h2;rw [h2,zcT h3];rfl
theorem Is.list_iff {H:Hp}{ds:List PyData}{v:V}:Is H (.list ds) v↔∃ a xs,v=.ref a/\H a=some (.lst xs)/\zas H ds xs:=by unfold Is;exact Iff.rfl
theorem Is.tuple_iff {H:Hp}{ds:List PyData}{v:V}:Is H (.tuple ds) v↔∃ a xs,v=.ref a/\H a=some (.tup xs)/\zas H ds xs:=by unfold Is;exact Iff.rfl
mutual
noncomputable def zaT:PyData->Bool
 | .int _=>true
 | .list xs=>zbi xs
 | .tuple xs=>zbi xs
 | .none=>false
 | .bool _=>false
 | .str _=>false
 | .dict _=>false
noncomputable def zbi:List PyData->Bool
 | []=>true
 |x::xs=>zaT x&&zbi xs
end
mutual
theorem zeF:∀ d:PyData,zaT d=true->d.canLay0=true
 | .int _,_=>by unfold PyData.canLay0;rfl
 | .list xs,h=>by unfold zaT at h;unfold PyData.canLay0;exact zcx xs h
 | .tuple xs,h=>by unfold zaT at h;unfold PyData.canLay0;exact zcx xs h
 | .none,h=>by unfold zaT at h;exact zqb h
 | .bool _,h=>by unfold zaT at h;exact zqb h
 | .str _,h=>by unfold zaT at h;exact zqb h
 | .dict _,h=>by unfold zaT at h;exact zqb h
theorem zcx:∀ xs:List PyData,zbi xs=true->PyData.canLayAll0 xs=true
 | [],_=>by unfold PyData.canLayAll0;rfl
 |x::xs,h=>by
  unfold zbi at h;obtain ⟨h1,h2⟩:=Bool.and_eq_true_iff.mp h;unfold PyData.canLayAll0;rw [zeF x h1,zcx xs h2];rfl
end
mutual
theorem zit:∀ d e:PyData,zaT d=true->zaT e=true->(PyData.eqv d e=true↔d=e)
 | .int i,.int j,_,_=>by unfold PyData.eqv;simp
 | .int i,.list ys,_,_=>by unfold PyData.eqv;simp
 | .int i,.tuple ys,_,_=>by unfold PyData.eqv;simp
 | .list xs,.int j,_,_=>by unfold PyData.eqv;simp
 | .list xs,.list ys,h1,h2=>by
  unfold zaT at h1 h2;have q:=zdG xs ys h1 h2;unfold PyData.eqv;rw [q];simp
 | .list xs,.tuple ys,_,_=>by unfold PyData.eqv;simp
 | .tuple xs,.int j,_,_=>by unfold PyData.eqv;simp
 | .tuple xs,.list ys,_,_=>by unfold PyData.eqv;simp
 | .tuple xs,.tuple ys,h1,h2=>by
  unfold zaT at h1 h2;have q:=zdG xs ys h1 h2;unfold PyData.eqv;rw [q];simp
 | .none,_,h,_=>by unfold zaT at h;exact zqb h
 | .bool _,_,h,_=>by unfold zaT at h;exact zqb h
 | .str _,_,h,_=>by unfold zaT at h;exact zqb h
 | .dict _,_,h,_=>by unfold zaT at h;exact zqb h
 |_,.none,_,h=>by unfold zaT at h;exact zqb h
 |_,.bool _,_,h=>by unfold zaT at h;exact zqb h
 |_,.str _,_,h=>by unfold zaT at h;exact zqb h
 |_,.dict _,_,h=>by unfold zaT at h;exact zqb h
theorem zdG:∀ xs ys:List PyData,zbi xs=true->zbi ys=true->(PyData.eqvAll xs ys=true↔xs=ys)
 | [],[],_,_=>by unfold PyData.eqvAll;simp
 | [],y::ys,_,_=>by unfold PyData.eqvAll;simp
 |x::xs,[],_,_=>by unfold PyData.eqvAll;simp
 |x::xs,y::ys,h1,h2=>by
  unfold zbi at h1 h2;obtain ⟨a1,a2⟩:=Bool.and_eq_true_iff.mp h1;obtain ⟨b1,b2⟩:=Bool.and_eq_true_iff.mp h2;unfold PyData.eqvAll;rw [Bool.and_eq_true_iff,zit x y a1 b1,zdG xs ys a2 b2];simp
end
theorem zsU {d e:PyData}(h1:zaT d=true)(h2:zaT e=true)(h:d≠e):PyData.eqv d e=false:=by
 cases q:PyData.eqv d e with
 |false=>rfl
 |true=>exact absurd ((zit d e h1 h2).mp q) h
theorem zoA {d:PyData}(h1:zaT d=true):PyData.eqv d d=true:=(zit d d h1 h1).mpr rfl
section
variable {X:Cx}
noncomputable def maxI:List Int->Int
 | []=>0
 |x::r=>r.foldl max x
noncomputable def minI:List Int->Int
 | []=>0
 |x::r=>r.foldl min x
theorem zel:∀ (r:List Int) (x:Int),x<=r.foldl max x/\(∀ y∈r,y<=r.foldl max x)/\(r.foldl max x=x\/r.foldl max x∈r)
 | [],x=>⟨Int.le_refl _,(fun _ h=>nomatch h),.inl rfl⟩
 |y::r,x=>by
  refine zc0c (zel r (max x y)) fun h1 h2 h3=>?_;show x<=r.foldl max (max x y)/\(∀ z∈y::r,z<=r.foldl max (max x y))/\(r.foldl max (max x y)=x\/r.foldl max (max x y)∈y::r);refine ⟨by omega,fun z hz=>?_,?_⟩
  ·rcases List.mem_cons.mp hz with rfl|hz
   ·omega
   ·exact h2 z hz
  ·rcases h3 with h3|h3
   ·by_cases hxy:x<=y
    ·right;rw [h3,Int.max_eq_right hxy];exact Zqs
    ·left;rw [h3,Int.max_eq_left (by omega)]
   ·right;exact Zqm _ h3
theorem zc0 {l:List Int}(h:l ≠ []):maxI l∈l/\∀ y∈l,y<=maxI l:=by
 cases l with
 |nil=>exact absurd rfl h
 |cons x r =>
  refine zc0c (zel r x) fun h1 h2 h3=>?_;refine ⟨?_,fun y hy=>?_⟩
  ·rcases h3 with h3|h3
   ·show r.foldl max x∈x::r;rw [h3];exact Zqs
   ·exact Zqm _ h3
  ·rcases List.mem_cons.mp hy with rfl|hy
   ·exact h1
   ·exact h2 y hy
theorem zmB {l:List Int}{M:Int}(h1:M∈l)(h2:∀ y∈l,y<=M):M=maxI l:=by
 obtain ⟨q1,q2⟩:=zc0 (l:=l) (by intro e;rw [e] at h1;cases h1);have a:=q2 M h1;have b:=h2 _ q1;omega
theorem zek:∀ (r:List Int) (x:Int),r.foldl min x<=x/\(∀ y∈r,r.foldl min x<=y)/\(r.foldl min x=x\/r.foldl min x∈r)
 | [],x=>⟨Int.le_refl _,(fun _ h=>nomatch h),.inl rfl⟩
 |y::r,x=>by
  refine zc0c (zek r (min x y)) fun h1 h2 h3=>?_;show r.foldl min (min x y)<=x/\(∀ z∈y::r,r.foldl min (min x y)<=z)/\(r.foldl min (min x y)=x\/r.foldl min (min x y)∈y::r);refine ⟨by omega,fun z hz=>?_,?_⟩
  ·rcases List.mem_cons.mp hz with rfl|hz
   ·omega
   ·exact h2 z hz
  ·rcases h3 with h3|h3
   ·by_cases hxy:x<=y
    ·left;rw [h3,Int.min_eq_left hxy]
    ·right;rw [h3,Int.min_eq_right (by omega)];exact Zqs
   ·right;exact Zqm _ h3
theorem zgM {l:List Int}(h:l ≠ []):minI l∈l/\∀ y∈l,minI l<=y:=by
 cases l with
 |nil=>exact absurd rfl h
 |cons x r =>
  refine zc0c (zek r x) fun h1 h2 h3=>?_;refine ⟨?_,fun y hy=>?_⟩
  ·rcases h3 with h3|h3
   ·show r.foldl min x∈x::r;rw [h3];exact Zqs
   ·exact Zqm _ h3
  ·rcases List.mem_cons.mp hy with rfl|hy
   ·exact h1
   ·exact h2 y hy
theorem zqj {l:List Int}{M:Int}(h1:M∈l)(h2:∀ y∈l,M<=y):M=minI l:=by
 obtain ⟨q1,q2⟩:=zgM (l:=l) (by intro e;rw [e] at h1;cases h1);have a:=q2 M h1;have b:=h2 _ q1;omega
theorem zmr (hc:X.calm=true):zat X (.builtin "max") (fun xs H Q=>∃ a ns,xs=[.ref a]/\SqL X.K H a (ns.map V.int)/\ns ≠ []/\Q (.int (maxI ns)) H):=by
 intro pins s σ H xs us Q I r h;refine zc2d h fun a ns zr2 hl hne q=>?_;subst zr2;refine zc1b (zcn r) fun u zr1 ru=>?_;subst zr1;obtain rfl:u=Value.ref a:=ru;refine zc1c (I.list hl) fun its rv p hz=>?_;have hi:IntsAre its ns:=zeb rv;obtain ⟨ys,e⟩:=hi.allInts.items;have hns:ns=ys.toList.map (·.1):=by
  rw [<- hi.numsOf,<- nums_intItems,<- e]
 have hsz:0<ys.size:=by
  have h3:0<ns.length:=List.length_pos_iff.mpr hne;rw [hns,Zql,Array.length_toList] at h3;exact h3
 have hl':=p.isList;rw [e] at hl';refine max_intList (I.ok.hd hc) hl' hsz fun v h' tk hv hk=>?_;obtain ⟨t,rfl⟩:=intItems_at hv;obtain ⟨h1,h2⟩:=argBest_gt (numAt ys) (ys.size-1);refine ⟨.int (maxI ns),H,I.kept hk,⟨t,?_⟩,q⟩
 congr 1
 refine zmB ?_ fun b hb=>?_
 ·rw [hns,numAt_eq];exact PySem.getD_mem (by rw [Zql,Array.length_toList];omega)
 ·rw [hns] at hb;refine zc1b (PySem.mem_getD hb) fun j hj zr2=>?_;subst zr2;rw [Zql,Array.length_toList] at hj;rw [<- numAt_eq];exact h2 j (by omega)
theorem zlZ (hc:X.calm=true):zat X (.builtin "min") (fun xs H Q=>∃ a ns,xs=[.ref a]/\SqL X.K H a (ns.map V.int)/\ns ≠ []/\Q (.int (minI ns)) H):=by
 intro pins s σ H xs us Q I r h;refine zc2d h fun a ns zr2 hl hne q=>?_;subst zr2;refine zc1b (zcn r) fun u zr1 ru=>?_;subst zr1;obtain rfl:u=Value.ref a:=ru;refine zc1c (I.list hl) fun its rv p hz=>?_;have hi:IntsAre its ns:=zeb rv;obtain ⟨ys,e⟩:=hi.allInts.items;have hns:ns=ys.toList.map (·.1):=by
  rw [<- hi.numsOf,<- nums_intItems,<- e]
 have hsz:0<ys.size:=by
  have h3:0<ns.length:=List.length_pos_iff.mpr hne;rw [hns,Zql,Array.length_toList] at h3;exact h3
 have hl':=p.isList;rw [e] at hl';refine min_intList (I.ok.hd hc) hl' hsz fun v h' tk hv hk=>?_;obtain ⟨t,rfl⟩:=intItems_at hv;obtain ⟨h1,h2⟩:=argBest_lt (numAt ys) (ys.size-1);refine ⟨.int (minI ns),H,I.kept hk,⟨t,?_⟩,q⟩
 congr 1
 refine zqj ?_ fun b hb=>?_
 ·rw [hns,numAt_eq];exact PySem.getD_mem (by rw [Zql,Array.length_toList];omega)
 ·rw [hns] at hb;refine zc1b (PySem.mem_getD hb) fun j hj zr2=>?_;subst zr2;rw [Zql,Array.length_toList] at hj;rw [<- numAt_eq];exact h2 j (by omega)
theorem znm:zat X (.builtin "isinstance") (fun xs H Q=>∃ x n t b,xs=[x,.ty n]/\TyOf X.K H x t/\W.kitOne X.K t (.type n)=some b/\Q (.bl b) H):=by
 intro pins s σ H xs us Q I r h;refine zc4a h fun x n t b zz=>zc0d zz fun zr4 ty e q=>?_;subst zr4;refine zc2c (zmN r) fun u w' zr2 rx rn=>?_;subst zr2;obtain rfl:w'=Value.type n:=rn;exact zln I rx ty e fun tk=>⟨.bl b,H,I.tok tk,rfl,q⟩
def zar (P:Program)(w:World)(K:W.Frag)(mg:Str->Option Value)(base:Heap)(name:Str)(k:Nat)(ps:List Str)(sp:Sp):Prop :=
 ∃ f fd,FnOk P w K mg base CX0 k f fd ps sp/\zia K fd ps []/\W.keepIn K (.ref f)=true/\mg name=some (.ref f)
theorem zar.mono {P:Program}{w:World}{K:W.Frag}{mg:Str->Option Value}{base:Heap}{name:Str}{j k:Nat}{ps:List Str}{sp:Sp}(c:zar P w K mg base name j ps sp)(h:j<=k):zar P w K mg base name k ps sp:=by
 refine zc2b c fun f fd F r=>?_;exact ⟨f,fd,F.mono h,r⟩
theorem zq0 {name:Str}{k:Nat}{ps:List Str}{sp:Sp}{p pos:Pos}{e:Expr}{es:List Expr}{t:TA}(c:zar X.prog X.w X.K X.mg X.base name k ps sp)(hr:Room k X.A)(hg:Gl X name)(ha:PA X (e::es) t)
 (hdb:autoParam ((name == ("__debug__" : Str))=false) zav._auto_1) (he:starEach (e::es) X.env=(false,eval e X.env)::starEach es X.env:=by rfl) (hpl:(backTo pos (starEach es X.env)).any (·.1)=false:=by rfl) :
 PE X (.Call (.Name name p) (e::es) [] pos) (zqJ sp [] E0 t):=by
 refine zc2d c fun f fd F b hk hm=>?_;exact zmv F hr hg hm hk b .nil pass0 ha hdb he hpl
end
theorem zbv {H:Hp}{p:Addr}(h:H p=none)(o:HO):Same H (upd H p o):=fun b u q=>by rw [za9 (zb5 q h)];exact q
theorem zc3 {n:Nat}(h:n<=1000):n<=sizeLine:=Nat.le_of_lt (zhj h)
noncomputable def pD (p:Int×Int):PyData:=.tuple [.int p.1,.int p.2]
noncomputable def rD (r:List (Int×Int)):PyData:=.tuple (r.map pD)
theorem zgz {H:Hp}{p:Int×Int}{v:V}:Is H (pD p) v↔∃ a,v=.ref a/\H a=some (.tup [.int p.1,.int p.2]):=by
 unfold pD;rw [Is.tuple_iff];constructor
 ·rintro ⟨a,xs,h1,h2,h3⟩;have e:xs=[.int p.1,.int p.2]:=zcT (ns:=[p.1,p.2]) h3;subst e;exact ⟨a,h1,h2⟩
 ·rintro ⟨a,h1,h2⟩;exact ⟨a,_,h1,h2,zfK [p.1,p.2]⟩
theorem zjm {H H':Hp}{l:Addr}(o:HO)(s:Same H H')(h:H l=none):Same H (upd H' l o):=fun b u e=>by
 rw [za9 (zb5 e h)];exact s b u e
theorem zfN:∀ ns:List Int,zbi (ns.map PyData.int)=true
 | []=>by show zbi []=true;unfold zbi;rfl
 |n::ns=>by
  show zbi (PyData.int n::ns.map PyData.int)=true;unfold zbi;rw [zfN ns];unfold zaT;rfl
theorem zdh (p:Int×Int):zaT (pD p)=true:=by unfold pD zaT;exact zfN [p.1,p.2]
theorem zgd:∀ ns:List Int,PyData.depthAll (ns.map PyData.int)=0
 | []=>by show PyData.depthAll []=0;unfold PyData.depthAll;rfl
 |n::ns=>by
  show PyData.depthAll (PyData.int n::ns.map PyData.int)=0;unfold PyData.depthAll;rw [zgd ns];unfold PyData.depth;rfl
section
variable {X:Cx}{pos:Pos}
end
theorem zd8:bootBuiltins "len" = some (.builtin "len"):=boot_len
theorem ziF:bootBuiltins "max" = some (.builtin "max"):=boot_max
theorem zmi:bootBuiltins "min" = some (.builtin "min"):=boot_min
theorem zbJ:bootBuiltins "isinstance" = some (.builtin "isinstance"):=boot_isinstance
theorem zce:bootBuiltins "sorted" = some (.builtin "sorted"):=boot_sorted
theorem zrx:bootBuiltins "sum" = some (.builtin "sum"):=boot_sum
theorem zpm:bootBuiltins "int" = some (.type "int"):=boot_int
theorem zqr:bootBuiltins "bool" = some (.type "bool"):=boot_bool
theorem zi3:bootBuiltins "list" = some (.type "list"):=boot_list
theorem zcE:bootBuiltins "tuple" = some (.type "tuple"):=boot_tuple
theorem zfq:bootBuiltins "dict" = some (.type "dict"):=boot_dict
theorem bt_set:bootBuiltins "set" = some (.type "set"):=boot_set
theorem zfj:entryFor table "dict.update.loop" = some Builtin.«dict.update.loop»:=entryFor_of_tree (by kernel_rfl)
theorem zci:plainId "dict.update.loop" = true:=by decide +kernel
section
variable {prog:Program}{w:World}{K:Type}[DecidableEq K]{knd:KeyKind prog w K}
theorem dloop (knd:KeyKind prog w K)(it t d:Addr)(items:Array Value)(ps:List (K×Value))(h0:Heap)(hlen:items.size=ps.length)
 (hit:∀ (j:Nat) k v,ps[j]? = some (k,v)->∃ ta key,items[j]? = some (.ref ta)/\h0.IsTuple ta #[key,v]/\knd.is k key=true/\ta≠it/\ta≠d)
 (ht0:h0.IsTuple t items) (n1:t≠it) (n2:t≠d) (n3:d≠it) (m:Nat) :
 ∀ i:Nat,ps.length-i=m->∀ (A:Around) (R:Result->Shared->Prop) (s:Shared) (kvs:List (K×Value)),A.handled=none->s.heap.IsTupleIter it t i->(∀ b o,b≠it->b≠d->h0.get? b=some o->s.heap.get? b=some o) ->
  s.heap.DictOf knd d kvs->kvs.length+(ps.length-i)<=sizeLine ->
  (∀ h' tk,h'.DictOf knd d (merged kvs (ps.drop i))->(∀ b o,b≠it->b≠d->h0.get? b=some o->h'.get? b=some o)->R (.ok (.ret .none)) { s with heap:=h',toks:=tk }) ->
  wpAny (model prog w) A.in1 (Builtin.«dict.update.loop» ⟨[.ref d,.ref it,rawInt i,.none],[]⟩) (fun fin s'=>match fin with | .done f=>R (.ok f) s' | .again c'=>c'.quiet=true/\codeAny (model prog w) A c' R s') (fun e s'=>R (.error e) s') s:=by
 induction m with
 |zero =>
  intro i hm A R s kvs hh st keep hD hz hR;have hx:items[i]? = none:=by rw [Array.getElem?_eq_none_iff];omega
  have ht:s.heap.IsTuple t items:=by
   refine zc1b ht0 fun o ho r=>?_;exact ⟨o,keep t o n1 n2 ho,r⟩
  unfold Builtin.«dict.update.loop»;refine wpAny_bind (wpAny_pyNext_tuple_end hh st ht hx fun h' eb=>?_);have hd0:ps.drop i=[]:=List.drop_eq_nil_of_le (by omega);rw [hd0] at hR;have hD':h'.DictOf knd d kvs:=by
   refine zc3b hD fun o es ep ho r=>?_;exact ⟨o,es,ep,eb d o n3 ho,r⟩
  have fin:=hR h' s.toks hD' (fun b o h1 h2 e=>eb b o h1 (keep b o h1 h2 e));unfold Builtin.Dict.addKeywords;exact wpAny_bind (wpAny_pure (wpAny_pure fin))
 |succ m ih =>
  intro i hm A R s kvs hh st keep hD hz hR;have hlt:i<ps.length:=by omega
  obtain ⟨kv,hkv⟩:∃ kv,ps[i]? = some kv:=⟨_,Zqg hlt⟩;refine zc2a (hit i kv.1 kv.2 hkv) fun ta key zz=>zc0e zz fun hx hta hkey a1 a2=>?_;have ht:s.heap.IsTuple t items:=by
   refine zc1b ht0 fun o ho r=>?_;exact ⟨o,keep t o n1 n2 ho,r⟩
  unfold Builtin.«dict.update.loop»;refine wpAny_bind (wpAny_pyNext_tuple_item st ht hx fun h1 st1 sb1=>?_);refine zc1c hta fun ot hot hoc zz=>zc1a zz fun nn hod=>?_;have hot1:h1.get? ta=some ot:=(sb1.2 ta a1).trans (keep ta ot a1 a2 hot);have hD1:h1.DictOf knd d kvs:=by
   refine zc3b hD fun o es ep ho r=>?_;exact ⟨o,es,ep,(sb1.2 d n3).trans ho,r⟩
  dsimp only;refine wpAny_bind (wpAny_holding (wpAny_bind (wpAny_tryCatch ?_)));unfold Builtin.Dict.pairItems;refine wpAny_bind (wpAny_typeOf (T := "tuple") ⟨ot,hot1,hoc⟩ ?_);rw [if_pos (by decide)];refine wpAny_bind (wpAny_seqItems hot1 hod (wpAny_pure ?_));show wpAny _ _ (holding [key,kv.2] (dictSet d key kv.2)) _ _ _;refine wpAny_holding (wpAny_dictSet_pairs hkey hD1 (fun h2 hD2 sb2=>?_) (by omega));have hc:((i:Int)+1)=((i+1:Nat):Int):=by push_cast;rfl
  refine wpAny_pure ?_;rw [hc];have st2:h2.IsTupleIter it t (i+1):=by
   refine zc1b st1 fun o ho r=>?_;exact ⟨o,(sb2.2 it (Ne.symm n3)).trans ho,r⟩
  have k2:∀ b o,b≠it->b≠d->h0.get? b=some o->h2.get? b=some o:=fun b o b1 b2 e=>(sb2.2 b b2).trans ((sb1.2 b b1).trans (keep b o b1 b2 e));have z2:(stored kvs kv.1 kv.2).length+(ps.length-(i+1))<=sizeLine:=by
   have:(stored kvs kv.1 kv.2).length<=kvs.length+1:=by
    unfold stored
    split
    ·rw [Zql];omega
    ·rw [List.length_append,List.length_singleton];omega
   omega
  have e:merged kvs (ps.drop i)=merged (stored kvs kv.1 kv.2) (ps.drop (i+1)):=by
   rw [List.drop_eq_getElem_cons hlt];have:ps[i]=kv:=by
    have:=Zqg hlt;rw [this] at hkv;exact Zqi hkv
   rw [this];rfl
  exact ⟨plainId_quiet zci _,codeAny_builtin zfj (by
   rw [Around.under_plainId zci _];exact ih (i+1) (by omega) A R { s with heap:=h2,toks:=s.toks+1 } (stored kvs kv.1 kv.2) hh st2 k2 hD2 z2 fun h' tk hD' kk=>hR h' tk (by rw [e];exact hD') kk)⟩
end
theorem zf4:typeLookup (.type "tuple") "keys" = pure none:=by rw [typeLookup_type,builtinLookup_eq_fast];kernel_rfl
theorem zdf {prog:Program}{w:World}{A:Around}{E:Value->Shared->Prop}{s:Shared}{a:Addr}{o:Obj}{xs:Array Value}{k:Nat}{name:Str}{Q:Option Value->Shared->Prop}
 (hx:s.heap.get? a=some o) (hc:o.cls=.type "tuple") (hdat:o.data=.seq xs k) (hd:o.dict=none) (hmiss:typeLookup (.type "tuple") name=pure none) (hname:(["__module__", "__name__", "__qualname__", "__doc__", "__annotations__"]:List Str).contains name=false) (hA:A.handled=none)
 (h:∀ h' tk,(∀ b o,s.heap.get? b=some o->h'.get? b=some o)->Q none { s with heap:=h',toks:=tk }) (hsz:name.length+100<=sizeLine:=by size_fits) :
 wpAny (model prog w) A (getAttr? (.ref a) name) Q E s:=by
 obtain ⟨c,dct,dat,sl⟩:=o;simp only at hc hdat hd;subst hc hdat hd;obtain ⟨hp,g,d,tk,os⟩:=s;have hT:∀ tk',(⟨hp,g,d,tk',os⟩:Shared).TypeIs (.ref a) "tuple" := fun _=>⟨_,hx,rfl⟩;have f1:=sub_AttributeError;have f3:=F.slot_tuple_getattribute.lookup;have f4:=F.slot_tuple_getattribute.bind (.ref a);have f5:=am_tuple_getattr_none;unfold getAttr? getAttrBy? getAttrBy
 repeat (any_goals (first|assumption|exact hT _|((with_reducible show wpAny _ _ (call (Value.builtin "tuple.__getattribute__") _ _) _ _ _);refine call_meets F.slot_tuple_getattribute (hT _) am_entry_tuple_getattribute (F.args_tuple_getattribute_2 _ _) (meets_getattribute_miss_tuple a xs k sl name _ hmiss hname hsz) ⟨hx,hA,fun h' tk' e hx'=>?_⟩)|wp_step))
 refine zc2a hx'.there fun t' u' he=>?_;show wpAny _ _ (getattributeRaised _ _ _ _ _ _ _) _ _ _;unfold getattributeRaised
 repeat (any_goals (first|assumption|wp_step))
 exact h _ _ hx'.of.keeps
section
variable {prog:Program}{w:World}{K:Type}[DecidableEq K]{A:Around}{E:Value->Shared->Prop}{s:Shared}
theorem zg1 (knd:KeyKind prog w K){t:Addr}{o:Obj}{items:Array Value}{n:Nat}{ps:List (K×Value)}{Q:Value->Shared->Prop}(hA:A.handled=none)(ho:s.heap.get? t=some o)(hc:o.cls=.type "tuple")(hdat:o.data=.seq items n)(hd:o.dict=none)
 (hlen:items.size=ps.length) (hit:∀ (j:Nat) k v,ps[j]? = some (k,v)->∃ ta key,items[j]? = some (.ref ta)/\s.heap.IsTuple ta #[key,v]/\knd.is k key=true) (hz:ps.length<=sizeLine)
 (h:∀ h' tk,h'.DictOf knd s.heap.objs.size (merged [] ps)->(∀ b u,s.heap.get? b=some u->h'.get? b=some u)->Q (.ref s.heap.objs.size) { s with heap:=h',toks:=tk }) :
 wpAny (model prog w) A (call (.type "dict") [.ref t]) Q E s:=by
 refine callType_codes (Q₁:=fun obj s₁=>obj=.ref s.heap.objs.size/\s₁={ s with heap:=s.heap.push { cls:=.type "dict",data:=.dict #[] } }) F.kt_called_dict (F.kt_typeCall_dict_1 _) F.entry_dict_init (kt_code_dict_new _ ⟨rfl,rfl⟩) ?_;rintro obj s₁ ⟨rfl,rfl⟩;have hnew:(s.heap.push { cls:=.type "dict",data:=.dict #[] }).DictOf knd s.heap.objs.size []:=Heap.DictOf.new s.heap;refine ⟨hnew.typeIs,F.args_dict_init_2 _ _,?_⟩;have ho1:(s.heap.push { cls:=.type "dict",data:=.dict #[] }).get? t=some o:=Heap.get?_push_of_some _ ho;unfold Builtin.«dict.__init__»;refine wpAny_bind ?_;unfold Builtin.Dict.selfAndRest;refine wpAny_bind (wpAny_notOrdered_dict hnew.typeIs ?_);show wpAny _ _ (pure (s.heap.objs.size,[Value.ref t])) _ _ _;refine wpAny_pure ?_;show wpAny _ _ (Builtin.Dict.updateFrom "dict.__init__" s.heap.objs.size (.ref t) [] .none) _ _ _;unfold Builtin.Dict.updateFrom;refine wpAny_bind (wpAny_typeOf (T := "tuple") ⟨o,ho1,hc⟩ ?_);rw [if_pos (by decide)];refine wpAny_bind (zdf ho1 hc hdat hd zf4 (by decide +kernel) hA (fun h2 tk2 k2=>?_) (by decide));rw [if_pos (by rfl)];have ht2:h2.IsTuple t items:=⟨o,k2 _ _ ho1,hc,n,hdat⟩;have lt:s.heap.objs.size<h2.objs.size:=by
  refine zc3b hnew fun od _ _ e _=>?_;exact Heap.lt_size (k2 _ _ e)
 have D2:h2.DictOf knd s.heap.objs.size []:=by
  refine zc3b hnew fun od es ep e r=>?_;exact ⟨od,es,ep,k2 _ _ e,r⟩
 refine wpAny_bind (wpAny_rule ?_);refine wpAny_bind (wpAny_pyIter_tuple ht2 ?_);have lt0:∀ b u,s.heap.get? b=some u->b≠s.heap.objs.size/\b≠h2.objs.size:=fun b u e=>by
  have z:=Heap.lt_size e;exact ⟨Nat.ne_of_lt z,Nat.ne_of_lt (Nat.lt_trans z lt)⟩
 have up:∀ b u,s.heap.get? b=some u->h2.get? b=some u:=fun b u e=>k2 b u (Heap.get?_push_of_some _ e);have hit2:∀ (j:Nat) k v,ps[j]? = some (k,v)->∃ ta key,items[j]? = some (.ref ta)/\h2.IsTuple ta #[key,v]/\knd.is k key=true/\ta≠h2.objs.size/\ta≠s.heap.objs.size:=fun j k v e=>by
  refine zc2c (hit j k v e) fun ta key a1 zr3 a4=>?_;obtain ⟨oa,a2,a3⟩:=zr3;exact ⟨ta,key,a1,⟨oa,up _ _ a2,a3⟩,a4,(lt0 ta oa a2).2,(lt0 ta oa a2).1⟩
 refine wpAny_pure ⟨plainId_quiet zci _,codeAny_builtin zfj ?_⟩;rw [Around.under_plainId zci _];refine dloop knd h2.objs.size t s.heap.objs.size items ps h2 hlen hit2 ht2 (lt0 t o ho).2 (lt0 t o ho).1 (Nat.ne_of_lt lt) ps.length 0 (by simp) A.in1 _ _ [] hA ⟨_,Heap.get?_push_size _ rfl,rfl,rfl⟩ (fun b u _ _ e=>Heap.get?_push_of_some _ e) ?_ (by simpa using hz) ?_
 ·refine zc3b D2 fun od es ep e r=>?_;exact ⟨od,es,ep,Heap.get?_push_of_some _ e,r⟩
 ·intro h' tk hD' kk;exact ⟨rfl,h h' tk hD' fun b u e=>kk b u (lt0 b u e).2 (lt0 b u e).1 (up b u e)⟩
end
noncomputable def kvR (r:List (Int×Int)):List (Key×V):=r.map fun p=>(Sum.inl p.1,V.int p.2)
def zl9 (r:List (Int×Int)):List (Key×V):=zfe [] (kvR r)
theorem zcS {H:Hp}{P:Program}{w:World}{h:Heap}(ok:HOk P w H h):∀ {r:List (Int×Int)} {xs:List V} {us:List Value},zas H (r.map pD) xs->Vals xs us ->
 ∃ ps:List (Key×Value),KV (kvR r) ps/\us.length=ps.length/\∀ (j:Nat) k v,ps[j]? = some (k,v)->∃ ta key,us[j]? = some (.ref ta)/\h.IsTuple ta #[key,v]/\(zaM P w).is k key=true
 | [],xs,us,ha,r=>by
  have ha:zas H [] xs:=ha;unfold zas at ha;subst ha;cases r;exact ⟨[],.nil,rfl,fun j k v e=>by simp at e⟩
 |p::r,xs,us,ha,rv=>by
  have ha:zas H (pD p::r.map pD) xs:=ha;unfold zas at ha;refine zc2c ha fun x ys zr2 h1 h2=>?_;subst zr2;cases rv with
  | @cons _ u _ us' r1 r2 =>
   refine zc1c (zcS ok h2 r2) fun ps k1 k2 k3=>?_;refine zc1b (zgz.mp h1) fun a zr1 ht=>?_;subst zr1;obtain rfl:u=Value.ref a:=r1;refine zc0b ((show zbc P w H h a (.tup [.int p.1,.int p.2]) from ok a _ ht)) fun _ zz=>zc1b zz fun its ri zz=>zc1c zz fun o e1 e2 zz=>zc1a zz fun n e3=>?_;refine zc2c (zmN ri) fun u1 u2 zr2 q1 q2=>?_;subst zr2;obtain ⟨t1,rfl⟩:=(show ∃ t,u1=Value.int p.1 t from q1);refine ⟨(Sum.inl p.1,u2)::ps,.cons ⟨rfl,q2⟩ k1,by rw [List.length_cons,List.length_cons,k2],fun j k v e=>?_⟩;cases j with
   |zero =>
    have e:some ((Sum.inl p.1:Key),u2)=some (k,v):=e;cases e;exact ⟨a,.int p.1 t1,rfl,⟨o,e1,e2,n,e3⟩,zhB p.1 t1⟩
   |succ j =>
    exact k3 j k v (by simpa using e)
section
variable {X:Cx}
theorem zjV (hc:X.calm=true):zat X (.type "dict") (fun xs H Q=>∃ a r,xs=[.ref a]/\Is H (rD r) (.ref a)/\r.length<=100/\∀ p,H p=none->Q (.ref p) (upd H p (.dK (zl9 r)))):=by
 intro pins s σ H xs us Q I rv h;refine zc2d h fun a r zr2 hr hz q=>?_;subst zr2;refine zc1b (zcn rv) fun u zr1 ru=>?_;subst zr1;obtain rfl:u=Value.ref a:=ru;unfold rD at hr;rw [Is.tuple_iff] at hr;refine zc2c hr fun a' xs ea ht hA=>?_;cases ea;refine zc0b ((show zbc X.prog X.w H s.heap a (.tup xs) from I.hok a _ ht)) fun zr0 zz=>zc1b zz fun its ri zz=>zc1c zz fun o e1 e2 zz=>zc1a zz fun n e3=>?_;obtain ⟨hl,od,e0,d0⟩:=zr0;rw [e0] at e1;obtain rfl:=Zqi e1;refine zc1c (zcS I.hok hA ri) fun ps k1 k2 k3=>?_;have lk:=k1.length;have lr:(kvR r).length=r.length:=Zql _;refine zg1 (zaM X.prog X.w) (I.ok.hd hc) e0 e2 e3 d0 (by rw [List.size_toArray];exact k2) (fun j k v e=>?_) (by rw [<- lk,lr];exact zc3 (by omega)) fun h' tk hD hk=>?_
 ·refine zc2c (k3 j k v e) fun ta key b1 b2 b3=>?_;exact ⟨ta,key,by simpa using b1,b2,b3⟩
 ·refine ⟨.ref s.heap.objs.size,upd H s.heap.objs.size (.dK (zl9 r)),I.laid (a:=s.heap.objs.size) (o:=.dK (zl9 r)) (t':=tk) hk (Nat.le_refl _) ?_,rfl,q _ (I.hok.fresh (Nat.le_refl _))⟩;refine zoO ?_ (beq_eq_false_iff_ne.mpr (Ne.symm (Nat.ne_of_lt I.big))) (KV.merge k1 .nil) hD;have z:=zdD (kvR r) [];rw [List.length_nil,lr] at z;exact zc3 (by unfold zl9;omega)
end
noncomputable def zam:List (Int×Int)->Int->Option Int
 | [],_=>none
 |p::r,t=>match zam r t with
  |some w=>some w
  |none=>if p.1=t then some p.2 else none
theorem zgT (r s:List (Int×Int))(t:Int):zam (r++s) t=match zam s t with|some w=>some w|none=>zam r t:=by
 induction r with
 |nil=>simp [zam];cases zam s t<;>rfl
 |cons p r ih =>
  rw [List.cons_append,zam,ih];cases zam s t with
  |none=>rw [zam]
  |some w=>rfl
theorem za3 {r:List (Int×Int)}{t w:Int}(h:zam r t=some w):(t,w)∈r:=by
 induction r with
 |nil=>simp [zam] at h
 |cons p r ih =>
  rw [zam] at h;cases q:zam r t with
  |some v =>
   rw [q] at h;obtain rfl:=Zqi h;exact Zqm _ (ih q)
  |none =>
   rw [q] at h;by_cases e:p.1=t
   ·rw [if_pos e] at h;obtain rfl:=Zqi h;subst e;exact Zqs
   ·rw [if_neg e] at h;exact zqn h
theorem zga {r:List (Int×Int)}{t:Int}(h:zam r t=none):∀ w,(t,w)∉r:=by
 induction r with
 |nil=>intro w hw;cases hw
 |cons p r ih =>
  intro w hw;rw [zam] at h;cases q:zam r t with
  |some v=>rw [q] at h;cases h
  |none =>
   rw [q] at h;rcases List.mem_cons.mp hw with e|e
   ·rw [if_pos (by rw [<- e])] at h;cases h
   ·exact ih q w e
noncomputable def Once (r:List (Int×Int)):Prop:=(r.map (·.1)).Nodup
theorem Once.eq {r:List (Int×Int)}(h:Once r){t v w:Int}(h1:(t,v)∈r)(h2:(t,w)∈r):v=w:=by
 induction r with
 |nil=>cases h1
 |cons p r ih =>
  obtain ⟨n1,n2⟩:=List.nodup_cons.mp (show (p.1::r.map (·.1)).Nodup from h);rcases List.mem_cons.mp h1 with e1|e1<;>rcases List.mem_cons.mp h2 with e2|e2
  ·rw [<- e1] at e2;cases e2;rfl
  ·exact absurd (List.mem_map.mpr ⟨(t,w),e2,by rw [<- e1]⟩) n1
  ·exact absurd (List.mem_map.mpr ⟨(t,v),e1,by rw [<- e2]⟩) n1
  ·exact ih n2 e1 e2
theorem Once.look {r:List (Int×Int)}(h:Once r){t w:Int}(hm:(t,w)∈r):zam r t=some w:=by
 cases q:zam r t with
 |none=>exact absurd hm (zga q w)
 |some v=>rw [h.eq (za3 q) hm]
def okAt (o:List (Int×Int))(p:Int×Int):Bool:=match zam o p.1 with
 |some w=>decide (p.2<=w)
 |none=>false
def zai (r o:List (Int×Int)):Bool:=r.all (okAt o)
theorem zhX {r:List (Int×Int)}{t w:Int}(h:Once r)(hl:∀ p∈r,p.1<t):Once (r++[(t,w)]):=by
 unfold Once at h ⊢;rw [List.map_append,List.nodup_append];refine ⟨h,by simp,?_⟩;intro a ha b hb;refine zc1b (List.mem_map.mp ha) fun p hp zr2=>?_;subst zr2;have:=hl p hp;simp at hb;subst hb;omega
theorem zco {r o:List (Int×Int)}{i:Nat}{p:Int×Int}(hp:r[i]? = some p)(h:okAt o p=false):zai r o=false:=by
 unfold zai;rw [List.all_eq_false];exact ⟨p,List.mem_of_getElem? hp,by rw [h];simp⟩
theorem zaW {α : Type}{r:List α}{i:Nat}{p:α}(hp:r[i]? = some p):r.take (i+1)=r.take i++[p]:=by
 rw [List.take_succ,hp];rfl
theorem zfD {r o:List (Int×Int)}{i:Nat}{p:Int×Int}(hp:r[i]? = some p)(h:zai (r.take i) o=true)(h1:okAt o p=true):zai (r.take (i+1)) o=true:=by
 rw [zaW hp];unfold zai at h ⊢;rw [List.all_append,h,List.all_cons,h1];rfl
open PySem PyProof.Rows
theorem zoR {l r k x:Nat}(h:l<r)(gap:r-l<=k-x):∃ m,(l+r) / 2=m/\l<=m/\m<r/\m-l<=k-(x+1)/\r-(m+1)<=k-(x+1):=by
 have a:l<=(l+r) / 2:=by omega
 have b:(l+r) / 2<r:=by omega
 generalize (l+r) / 2=m at a b ⊢;exact ⟨m,rfl,a,b,Nat.le_pred_of_lt (Nat.lt_of_lt_of_le (Nat.sub_lt_sub_right a b) gap),Nat.pred_le_pred (Nat.le_trans (Nat.sub_le_sub_left a r) gap)⟩
structure Wk (lt:Nat->Nat->Bool):Prop where
 asy:∀ i j,lt i j=true->lt j i=false
 neg:∀ i j k,lt i k=true->lt i j=true\/lt j k=true
noncomputable def Bef (lt:Nat->Nat->Bool)(i j:Nat):Prop:=lt i j=true\/(lt j i=false/\i<j)
section
variable {lt:Nat->Nat->Bool}(W:Wk lt)
include W
theorem Bef.no {i j:Nat}(h:Bef lt i j):lt j i=false:=by
 rcases h with h|h
 ·exact W.asy _ _ h
 ·exact h.1
theorem Bef.trans {i j k:Nat}(h1:Bef lt i j)(h2:Bef lt j k):Bef lt i k:=by
 have n1:=Bef.no W h1;have n2:=Bef.no W h2;have n3:lt k i=false:=by
  cases q:lt k i with
  |false=>rfl
  |true =>
   rcases W.neg k j i q with z|z
   ·rw [n2] at z;exact zqb z
   ·rw [n1] at z;exact zqb z
 rcases h1 with a|a
 ·rcases W.neg i k j a with z|z
  ·exact .inl z
  ·rw [n2] at z;exact zqb z
 ·rcases h2 with b|b
  ·rcases W.neg j i k b with z|z
   ·rw [a.1] at z;exact zqb z
   ·exact .inl z
  ·exact .inr ⟨n3,by omega⟩
end
theorem zha:∀ {n:Nat},2<=n->n<64->minRun' n n 0=n
 | 0,h,_=>by omega
 |f+1,_,h=>by
  rw [minRun'_succ,if_pos h]
noncomputable def gx (ix:Array Nat)(k:Nat):Nat:=(ix[k]?).getD 0
theorem zpd {ix:Array Nat}{k:Nat}(h:k<ix.size):ix[k]? = some (gx ix k):=by
 unfold gx;rw [Array.getElem?_eq_getElem h];rfl
theorem zd9 {ix:Array Nat}{src d:Nat}(hs:src<ix.size)(hd:d<=src)(k:Nat):gx (bubble ix src d) k=if k=src-d then gx ix src else if src-d<k/\k<=src then gx ix (k-1) else gx ix k:=by
 unfold gx;rw [getElem?_bubble hs d hd k]
 repeat' split
 all_goals rfl
theorem zba {ix:Array Nat}{i j:Nat}(hj:j<=ix.size)(k:Nat):gx (mirror ix i j ((j-i) / 2)) k=if i<=k/\k<j then gx ix (i+j-1-k) else gx ix k:=by
 unfold gx;rw [getElem?_mirror_all hj k]
 split
 all_goals rfl
theorem znK {α β : Type}(f:α -> β)(xs:Array α)(i j:Nat):(xs.map f).swapIfInBounds i j=(xs.swapIfInBounds i j).map f:=by
 apply Array.ext_getElem?;intro k;by_cases hi:i<xs.size
 ·by_cases hj:j<xs.size
  ·rw [getElem?_swapIB (by simpa -iota using hi) (by simpa -iota using hj),Array.getElem?_map,Array.getElem?_map,Array.getElem?_map,Array.getElem?_map,getElem?_swapIB hi hj]
   repeat' split
   all_goals rfl
  ·rw [Array.swapIfInBounds_def,Array.swapIfInBounds_def,dif_pos (by simpa -iota using hi),dif_neg (by simpa -iota using hj),dif_pos hi,dif_neg hj]
 ·rw [Array.swapIfInBounds_def,Array.swapIfInBounds_def,dif_neg (by simpa -iota using hi),dif_neg hi]
theorem zfh {α β γ : Type}(f:α -> β)(p q:γ -> Nat):∀ (l:List γ) (xs:Array α),l.foldl (fun a k=>a.swapIfInBounds (p k) (q k)) (xs.map f)=(l.foldl (fun a k=>a.swapIfInBounds (p k) (q k)) xs).map f
 | [],xs=>rfl
 |k::l,xs=>by
  rw [List.foldl_cons,List.foldl_cons,znK,zfh f p q l]
theorem zkr {α β : Type}(f:α -> β)(xs:Array α)(src d:Nat):bubble (xs.map f) src d=(bubble xs src d).map f:=zfh f _ _ _ xs
theorem zcI {α β : Type}(f:α -> β)(xs:Array α)(i j d:Nat):mirror (xs.map f) i j d=(mirror xs i j d).map f:=zfh f _ _ _ xs
structure Pl (n:Nat)(ix:Array Nat)(k:Nat):Prop where
 size:ix.size=n
 perm:ix.Perm (Array.range n)
 pre:∀ a,a<k->gx ix a<k
 suf:∀ a,k<=a->a<n->gx ix a=a
theorem Pl.lt {n k a:Nat}{ix:Array Nat}(h:Pl n ix k)(hk:k<=n)(ha:a<n):gx ix a<n:=by
 by_cases c:a<k
 ·exact Nat.lt_of_lt_of_le (h.pre a c) hk
 ·rw [h.suf a (by omega) ha];exact ha
theorem Pl.succ {n k:Nat}{ix:Array Nat}(h:Pl n ix k)(hk:k<n):Pl n ix (k+1):=by
 refine ⟨h.size,h.perm,fun a ha=>?_,fun a h1 h2=>h.suf a (by omega) h2⟩;by_cases c:a<k
 ·have:=h.pre a c;omega
 ·have:a=k:=by omega
  subst this;rw [h.suf a (Nat.le_refl _) hk];omega
theorem Pl.rev {n k i:Nat}{ix:Array Nat}(h:Pl n ix k)(hk:k<=n)(hi:i<=k):Pl n (mirror ix i k ((k-i) / 2)) k:=by
 have hz:k<=ix.size:=by rw [h.size];exact hk
 refine ⟨by rw [mirror_size];exact h.size,(mirror_perm _ _ _ _).trans h.perm,fun a ha=>?_,fun a h1 h2=>?_⟩
 ·rw [zba hz]
  split
  ·exact h.pre _ (by omega (config:={}))
  ·exact h.pre a ha
 ·rw [zba hz,if_neg (by omega (config:={}))];exact h.suf a h1 h2
def Up (lt:Nat->Nat->Bool)(ix:Array Nat)(k:Nat):Prop:=∀ a b,a<b->b<k->Bef lt (gx ix a) (gx ix b)
def Dn (lt:Nat->Nat->Bool)(ix:Array Nat)(k:Nat):Prop:=∀ a b,a<b->b<k->Bef lt (gx ix b) (gx ix a)
structure SB (it:Nat->Keyed)(kind:SortKind)(ix:Array Nat)(st:SortSt):Prop where
 arr:arrOf st=ix.map it
 kd:kindOf st=kind
 fl:failedOf st=none
 pd:pendingOf st = #[]
noncomputable def Orc (prog:Program)(w:World)(A:Around)(s:Shared)(kind:SortKind)(it:Nat->Keyed)(lt:Nat->Nat->Bool)(n:Nat):Prop :=
 ∀ i j,i<n->j<n->∀ (E:Value->Shared->Prop) (Q:Bool->Shared->Prop),Q (lt i j) s->wpAny (model prog w) A (keyLt' kind (it i).1 (it j).1) Q E s
section
variable {prog:Program}{w:World}{A:Around}{E:Value->Shared->Prop}{s:Shared}{kind:SortKind}{it:Nat->Keyed}{lt:Nat->Nat->Bool}{n:Nat}{ix:Array Nat}{st:SortSt}
theorem zl1 {a b k:Nat}{Q:Option Bool->SortSt->Prop}(O:Orc prog w A s kind it lt n)(B:SB it kind ix st)(L:Pl n ix k)(hk:k<=n)(ha:a<n)(hb:b<n)(h:Q (some (lt (gx ix a) (gx ix b))) st) :
 wpS (model prog w) A E s (ltAt' a b) Q st:=by
 have e1:(arrOf st)[a]? = some (it (gx ix a)):=by rw [B.arr,Array.getElem?_map,zpd (by rw [L.size];exact ha)];rfl
 have e2:(arrOf st)[b]? = some (it (gx ix b)):=by rw [B.arr,Array.getElem?_map,zpd (by rw [L.size];exact hb)];rfl
 rw [ltAt'_eq];have go:wpS (model prog w) A E s (lt' (it (gx ix a)) (it (gx ix b))) Q st:=by
  rw [lt'_eq];refine wpS_bind (wpS_get ?_);rw [B.kd];exact wpS_bind (wpS_lift (wpAny_attempt (O _ _ (L.lt hk ha) (L.lt hk hb) _ _ ⟨rfl,wpS_pure h⟩)))
 refine wpS_bind (wpS_get ?_);show wpS _ _ _ _ (elem' (arrOf st) a >>= fun x=>elem' (arrOf st) b >>= fun y=>lt' x y) Q st;rw [elem'_eq,elem'_eq,e1,e2];exact wpS_bind (wpS_pure (wpS_bind (wpS_pure go)))
theorem SB.set {jx:Array Nat}(B:SB it kind ix st){xs:Array Keyed}(e:xs=jx.map it):SB it kind jx (setArr st xs):=⟨e,B.kd,B.fl,B.pd⟩
variable (W:Wk lt)(O:Orc prog w A s kind it lt n)
include W O
theorem ztz {ok:Nat}{Q:Bool->SortSt->Prop}(hok:ok<=n)(h1:1<=ok)(B:SB it kind ix st)(L:Pl n ix ok)(U:Up lt ix ok)
 (h:∀ jx st',SB it kind jx st'->Pl n jx n->Up lt jx n->Q true st'):wpS (model prog w) A E s (binarySort' 0 n ok) Q st:=by
 rw [binarySort'_eq];simp only [Nat.zero_add];have hm:max ok 1=ok:=by omega
 rw [hm];refine wpS_bind (wpS_mono (wpS_forRange (I:=fun k c st'=>c=(none,())/\∃ jx,SB it kind jx st'/\Pl n jx k/\Up lt jx k) (Q:=fun c st'=>c=(none,())/\∃ jx,SB it kind jx st'/\Pl n jx n/\Up lt jx n) ?_ ?_ ⟨rfl,ix,B,L,U⟩) ?_)
 ·rintro k c sk hk1 hk2 ⟨rfl,jx,Bk,Lk,Uk⟩;have ek:gx jx k=k:=Lk.suf k (Nat.le_refl _) hk2;refine wpS_bind (wpS_mono (wpS_forRange (I:=fun x c sx=>sx=sk/\∃ l r,c=(none,l,r)/\l<=r/\r<=k/\r-l<=k-x/\(∀ i,i<l->lt k (gx jx i)=false)/\(∀ i,r<=i->i<k->lt k (gx jx i)=true))
   (Q:=fun c sx=>sx=sk/\∃ l r,c=(none,l,r)/\l<=k/\(∀ i,i<l->lt k (gx jx i)=false)/\(∀ i,l<=i->i<k->lt k (gx jx i)=true)) ?_ ?_ ⟨rfl,0,k,rfl,by omega,by omega,by omega,fun i hi=>by omega,fun i a b=>by omega⟩) ?_)
  ·rintro x c sx _ hx ⟨rfl,l,r,rfl,lr,rk,gap,lo,hi⟩;dsimp only;by_cases ge:l ≥ r
   ·rw [if_pos ge];have e:l=r:=by omega
    subst e;exact wpS_pure ⟨rfl,l,l,rfl,rk,lo,hi⟩
   ·rw [if_neg ge];refine zc1e (zoR (Nat.lt_of_not_le ge) gap) fun m hm m1 m2 m3 m4=>?_;rw [hm];have mk:=Nat.lt_of_lt_of_le m2 rk;refine wpS_bind (zl1 O Bk Lk (Nat.le_of_lt hk2) hk2 (Nat.lt_trans mk hk2) ?_);rw [ek];cases q:lt k (gx jx m) with
    |true =>
     simp only [if_true];refine wpS_pure ⟨rfl,l,m,rfl,m1,Nat.le_of_lt mk,m3,lo,fun i a b=>?_⟩;by_cases im:i=m
     ·rw [im];exact q
     ·rcases W.neg k (gx jx i) _ q with z|z
      ·exact z
      ·rw [Bef.no W (Uk m i (Nat.lt_of_le_of_ne a (Ne.symm im)) b)] at z;exact zqb z
    |false =>
     simp only [Bool.false_eq_true,if_false];refine wpS_pure ⟨rfl,m+1,r,rfl,m2,rk,m4,fun i a=>?_,hi⟩;by_cases im:i=m
     ·rw [im];exact q
     ·cases z:lt k (gx jx i) with
      |false=>rfl
      |true =>
       rcases W.neg k (gx jx m) _ z with y|y
       ·rw [q] at y;exact zqb y
       ·rw [Bef.no W (Uk i m (Nat.lt_of_le_of_ne (Nat.le_of_lt_succ a) im) mk)] at y;exact zqb y
  ·rintro c sx ⟨rfl,l,r,rfl,lr,rk,gap,lo,hi⟩;have e:l=r:=by omega
   subst e;exact ⟨rfl,l,l,rfl,rk,lo,hi⟩
  ·rintro c sx ⟨rfl,l,r,rfl,lk,lo,hi⟩;show wpS _ _ _ _ (moveDown' k l >>= fun _=>pure (ForInStep.yield (none,()))) _ _;rw [moveDown'_eq];have hs:k<jx.size:=by rw [Lk.size];exact hk2
   refine wpS_bind (wpS_modify (wpS_pure ⟨rfl,bubble jx k (k-l),Bk.set (by rw [Bk.arr,zkr]),⟨by rw [bubble_size];exact Lk.size,(bubble_perm _ _ _).trans Lk.perm,fun a ha=>?_,fun a a1 a2=>?_⟩,fun a b ab bk=>?_⟩))
   ·rw [zd9 hs (by omega)]
    repeat' split
    ·rw [ek];omega
    ·have:=Lk.pre (a-1) (by omega);omega
    ·by_cases c:a<k
     ·have:=Lk.pre a c;omega
     ·have:a=k:=by omega
      subst this;rw [ek];omega
   ·rw [zd9 hs (by omega),if_neg (by omega),if_neg (by omega)];exact Lk.suf a (by omega) a2
   ·rw [zd9 hs (by omega),zd9 hs (by omega),show k-(k-l)=l by omega,ek]
    repeat' split
    all_goals first
     | (exfalso;omega)
     |exact Uk _ _ (by omega) (by omega)
     |exact .inl (hi _ (by omega) (by omega))
     |exact .inr ⟨lo _ (by omega),Lk.pre _ (by omega)⟩
 ·rintro c sk ⟨rfl,jx,b1,b2,b3⟩;have e:max ok n=n:=by omega
  rw [e] at b2 b3;exact ⟨rfl,jx,b1,b2,b3⟩
 ·rintro c sk ⟨rfl,jx,b1,b2,b3⟩;exact wpS_pure (h jx sk b1 b2 b3)
theorem zoW {a:Nat}{Q:AscSt->SortSt->Prop}(ha:1<=a)(han:a<=n)(B:SB it kind ix st)(L:Pl n ix a)(U:Up lt ix a)
 (h:∀ m,a<=m->m<=n->Pl n ix m->Up lt ix m->(m=n\/lt m (gx ix (m-1))=true)->Q (none,m) st):wpS (model prog w) A E s (ascLoop a n) Q st:=by
 unfold ascLoop;refine wpS_forRange (I:=fun x c sx=>sx=st/\c=(none,x)/\Pl n ix x/\Up lt ix x) ?_ ?_ ⟨rfl,rfl,L,U⟩
 ·rintro x c sx ax xn ⟨rfl,rfl,Lx,Ux⟩;dsimp only;refine wpS_bind (zl1 O B Lx (by omega) xn (by omega) ?_);have ex:gx ix x=x:=Lx.suf x (Nat.le_refl _) xn;rw [ex];cases q:lt x (gx ix (x-1)) with
  |true =>
   simp only [if_true];exact wpS_pure (h x ax (by omega) Lx Ux (.inr q))
  |false =>
   simp only [Bool.false_eq_true,if_false];refine wpS_pure ⟨rfl,rfl,Lx.succ xn,fun i j ij jx=>?_⟩;have last:Bef lt (gx ix (x-1)) x:=.inr ⟨q,Lx.pre _ (by omega)⟩;by_cases c:j<x
   ·exact Ux i j ij c
   ·have e:j=x:=by omega
    subst e;rw [ex];by_cases d:i=j-1
    ·rw [d];exact last
    ·exact Bef.trans W (Ux i (j-1) (by omega) (by omega)) last
 ·rintro c sx ⟨rfl,rfl,Lx,Ux⟩;have e:max a n=n:=by omega
  rw [e] at Lx Ux ⊢;exact h n han (Nat.le_refl _) Lx Ux (.inl rfl)
theorem zl7 {m:Nat}{Q:Option Nat->SortSt->Prop}(h1:1<=m)(hm:m<=n)(B:SB it kind ix st)(L:Pl n ix m)(D:Dn lt ix m)
 (h:∀ k jx st',SB it kind jx st'->1<=k->k<=n->Pl n jx k->Up lt jx k->Q (some k) st'):wpS (model prog w) A E s (tail3 m n) Q st:=by
 unfold tail3;have hz:m<=ix.size:=by rw [L.size];exact hm
 refine wpS_bind (wpS_reverse ?_);have B':SB it kind (mirror ix 0 m ((m-0) / 2)) (setArr st (mirror (arrOf st) 0 m ((m-0) / 2))):=B.set (by rw [B.arr,zcI]);refine wpS_bind (zoW W O h1 hm B' (L.rev hm (Nat.zero_le _)) (fun a b ab bm=>?_) fun k k1 k2 Lk Uk _=>wpS_pure (h k _ _ B' (by omega) k2 Lk Uk));rw [zba hz,zba hz,if_pos (by omega),if_pos (by omega)];exact D _ _ (by omega) (by omega)
structure Eqs (lt:Nat->Nat->Bool)(ix:Array Nat)(x q:Nat):Prop where
 le:q+1<=x
 out:∀ a b,a<b->b<x->a<x-(q+1)->lt (gx ix b) (gx ix a)=true\/(b<x-(q+1)/\Bef lt (gx ix b) (gx ix a))
 same:∀ a b,x-(q+1)<=a->a<x->x-(q+1)<=b->b<x->lt (gx ix a) (gx ix b)=false
 rise:∀ a b,x-(q+1)<=a->a<b->b<x->gx ix a<gx ix b
omit O in
theorem Eqs.down {x q:Nat}(h:Eqs lt ix x q)(hz:x<=ix.size):Dn lt (mirror ix (x-(q+1)) x ((x-(x-(q+1))) / 2)) x:=by
 intro a b ab bx;have le:=h.le;rw [zba hz,zba hz];by_cases ca:x-(q+1)<=a
 ·rw [if_pos (by omega (config:={})),if_pos (by omega (config:={}))];exact .inr ⟨h.same _ _ (by omega (config:={})) (by omega (config:={})) (by omega (config:={})) (by omega (config:={})),h.rise _ _ (by omega (config:={})) (by omega (config:={})) (by omega (config:={}))⟩
 ·rw [if_neg (show ¬ (x-(q+1)<=a/\a<x) by omega (config:={}))]
  split
  ·rcases h.out a (x-(q+1)+x-1-b) (by omega (config:={})) (by omega (config:={})) (by omega (config:={})) with z|z
   ·exact .inl z
   ·exact z.2
  ·rcases h.out a b ab bx (by omega (config:={})) with z|z
   ·exact .inl z
   ·exact z.2
omit O in
theorem Eqs.down0 {x:Nat}(h:Eqs lt ix x 0):Dn lt ix x:=by
 intro a b ab bx;have le:=h.le;rcases h.out a b ab bx (by omega) with z|z
 ·exact .inl z
 ·exact z.2
omit O in
theorem Eqs.of_down {x:Nat}(hx:1<=x)(D:Dn lt ix x)(top:∀ a,a<x-1->lt (gx ix (x-1)) (gx ix a)=true):Eqs lt ix x 0:=by
 refine ⟨by omega,fun a b ab bx ax=>?_,fun a b a1 a2 b1 b2=>?_,fun a b a1 ab bx=>by omega⟩
 ·by_cases c:b=x-1
  ·rw [c];exact .inl (top a (by omega))
  ·exact .inr ⟨by omega,D a b ab bx⟩
 ·have e1:a=x-1:=by omega
  have e2:b=x-1:=by omega
  rw [e1,e2];cases z:lt (gx ix (x-1)) (gx ix (x-1)) with
  |false=>rfl
  |true=>have:=W.asy _ _ z;rw [z] at this;cases this
omit O in
theorem Eqs.less {x:Nat}(hx:1<=x)(D:Dn lt ix x)(hl:lt (gx ix x) (gx ix (x-1))=true):Eqs lt ix (x+1) 0:=by
 have top:∀ a,a<x->lt (gx ix x) (gx ix a)=true:=fun a ax=>by
  by_cases c:a=x-1
  ·rw [c];exact hl
  ·rcases W.neg _ (gx ix a) _ hl with z|z
   ·exact z
   ·rw [Bef.no W (D a (x-1) (by omega) (by omega))] at z;exact zqb z
 refine Eqs.of_down W (by omega) (fun a b ab bx=>?_) fun a ax=>by
  rw [show x+1-1=x by omega];exact top a (by omega)
 by_cases c:b<x
 ·exact D a b ab c
 ·have e:b=x:=by omega
  rw [e];exact .inl (top a (by omega))
omit O in
theorem Eqs.more {x q:Nat}(h:Eqs lt ix x q)(hx:gx ix x=x)(pre:∀ a,a<x->gx ix a<x)(n1:lt (gx ix x) (gx ix (x-1))=false)(n2:lt (gx ix (x-1)) (gx ix x)=false):Eqs lt ix (x+1) (q+1):=by
 have le:=h.le;have up:∀ k,lt (gx ix (x-1)) k=true->lt (gx ix x) k=true:=fun k z=>by
  rcases W.neg _ (gx ix x) _ z with y|y
  ·rw [n2] at y;exact zqb y
  ·exact y
 have dn:∀ k,lt k (gx ix x)=true->lt k (gx ix (x-1))=true:=fun k z=>by
  rcases W.neg _ (gx ix (x-1)) _ z with y|y
  ·exact y
  ·rw [n2] at y;exact zqb y
 have up':∀ k,lt (gx ix x) k=true->lt (gx ix (x-1)) k=true:=fun k z=>by
  rcases W.neg _ (gx ix (x-1)) _ z with y|y
  ·rw [n1] at y;exact zqb y
  ·exact y
 refine ⟨by omega,fun a b ab bx ax=>?_,fun a b a1 a2 b1 b2=>?_,fun a b a1 ab bx=>?_⟩
 ·by_cases c:b=x
  ·rw [c];rcases h.out a (x-1) (by omega) (by omega) (by omega) with z|z
   ·exact .inl (up _ z)
   ·omega
  ·rcases h.out a b ab (by omega) (by omega) with z|z
   ·exact .inl z
   ·exact .inr ⟨by omega,z.2⟩
 ·by_cases ca:a=x
  ·by_cases cb:b=x
   ·rw [ca,cb];cases z:lt (gx ix x) (gx ix x) with
    |false=>rfl
    |true=>have:=W.asy _ _ z;rw [z] at this;cases this
   ·rw [ca];cases z:lt (gx ix x) (gx ix b) with
    |false=>rfl
    |true =>
     have y:=up' _ z;rw [h.same (x-1) b (by omega) (by omega) (by omega) (by omega)] at y;exact zqb y
  ·by_cases cb:b=x
   ·rw [cb];cases z:lt (gx ix a) (gx ix x) with
    |false=>rfl
    |true =>
     have y:=dn _ z;rw [h.same a (x-1) (by omega) (by omega) (by omega) (by omega)] at y;exact zqb y
   ·exact h.same a b (by omega) (by omega) (by omega) (by omega)
 ·by_cases cb:b=x
  ·rw [cb,hx];exact pre a (by omega)
  ·exact h.rise a b (by omega) ab (by omega)
theorem zqV {m:Nat}{Q:DescSt->SortSt->Prop}(h1:1<=m)(hm:m<=n)(B:SB it kind ix st)(L:Pl n ix m)(X:Eqs lt ix m 0)
 (h:∀ k q jx st',SB it kind jx st'->m<=k->k<=n->Pl n jx k->Eqs lt jx k q->Q (none,k,q) st'):wpS (model prog w) A E s (descLoop m n) Q st:=by
 unfold descLoop;refine wpS_forRange (I:=fun x c sx=>∃ q jx,c=(none,x,q)/\SB it kind jx sx/\Pl n jx x/\Eqs lt jx x q) ?_ ?_ ⟨0,ix,rfl,B,L,X⟩
 ·rintro x c sx mx xn ⟨q,jx,rfl,Bx,Lx,Ex⟩;dsimp only;have hz:x<=jx.size:=by rw [Lx.size];omega
  have ex:gx jx x=x:=Lx.suf x (Nat.le_refl _) xn;refine wpS_bind (zl1 O Bx Lx (by omega) xn (by omega) ?_);cases z:lt (gx jx x) (gx jx (x-1)) with
  |true =>
   simp only [if_true];by_cases hq:q > 0
   ·rw [if_pos hq];refine wpS_bind (wpS_reverse (wpS_pure ⟨0,mirror jx (x-(q+1)) x ((x-(x-(q+1))) / 2),rfl,Bx.set (by rw [Bx.arr,zcI]),(Lx.rev (by omega) (by omega)).succ xn,Eqs.less W (by omega) (Ex.down W hz) ?_⟩));rw [zba hz,zba hz,if_neg (show ¬ (x-(q+1)<=x/\x<x) by omega)];have le:=Ex.le;rw [if_pos (by omega)];rcases W.neg _ (gx jx (x-(q+1)+x-1-(x-1))) _ z with y|y
    ·exact y
    ·rw [Ex.same _ _ (by omega) (by omega) (by omega) (by omega)] at y;exact zqb y
   ·rw [if_neg hq];have q0:q=0:=by omega
    subst q0;exact wpS_pure ⟨0,jx,rfl,Bx,Lx.succ xn,Eqs.less W (by omega) (Ex.down0 W) z⟩
  |false =>
   simp only [Bool.false_eq_true,if_false];refine wpS_bind (zl1 O Bx Lx (by omega) (by omega) xn ?_);cases y:lt (gx jx (x-1)) (gx jx x) with
   |true =>
    simp only [if_true];exact wpS_pure (h x q jx sx Bx mx (by omega) Lx Ex)
   |false =>
    simp only [Bool.false_eq_true,if_false];exact wpS_pure ⟨q+1,jx,rfl,Bx,Lx.succ xn,Ex.more W ex Lx.pre z y⟩
 ·rintro c sx ⟨q,jx,rfl,Bx,Lx,Ex⟩;have e:max m n=n:=by omega
  rw [e] at Lx Ex ⊢;exact h n q jx sx Bx hm (Nat.le_refl _) Lx Ex
theorem zj2 {m:Nat}{Q:Option Nat->SortSt->Prop}(hm:m+1<=n)(B:SB it kind ix st)(L:Pl n ix (m+1))(X:Eqs lt ix (m+1) 0)
 (h:∀ k jx st',SB it kind jx st'->1<=k->k<=n->Pl n jx k->Up lt jx k->Q (some k) st'):wpS (model prog w) A E s (descPart m n) Q st:=by
 unfold descPart;refine wpS_bind (wpS_lift (wpAny_rule ⟨rfl,?_⟩));refine wpS_bind (zqV W O (by omega) hm B L X fun k q jx sx Bx k1 k2 Lx Ex=>?_);dsimp only;have hz:k<=jx.size:=by rw [Lx.size];exact k2
 by_cases hq:q > 0
 ·rw [if_pos hq];have le:=Ex.le;exact wpS_bind (wpS_reverse (zl7 W O (by omega) k2 (Bx.set (by rw [Bx.arr,zcI])) (Lx.rev k2 (by omega)) (Ex.down W hz) h))
 ·rw [if_neg hq];have q0:q=0:=by omega
  subst q0;exact zl7 W O (by omega) k2 Bx Lx (Ex.down0 W) h
theorem zng {Q:Option Nat->SortSt->Prop}(h1:1<=n)(B:SB it kind ix st)(L:Pl n ix 1)
 (h:∀ k jx st',SB it kind jx st'->1<=k->k<=n->Pl n jx k->Up lt jx k->Q (some k) st'):wpS (model prog w) A E s (countRun' 0 n) Q st:=by
 rw [countRun0_eq];refine wpS_bind (zoW W O (Nat.le_refl 1) h1 B L (fun a b ab b1=>by omega) fun m m1 m2 Lm Um why=>?_);dsimp only;by_cases mn:m=n
 ·rw [if_pos (by simpa using mn)];exact wpS_pure (h m ix st B m1 m2 Lm Um)
 ·rw [if_neg (by simpa using mn)];have hl:lt m (gx ix (m-1))=true:=why.resolve_left mn;have em:gx ix m=m:=Lm.suf m (Nat.le_refl _) (by omega);have hz:m<=ix.size:=by rw [Lm.size];exact m2
  by_cases gt:m > 1
  ·rw [if_pos gt];refine wpS_bind (zl1 O B Lm m2 (by omega) (by omega) ?_);cases rose:lt (gx ix 0) (gx ix (m-1)) with
   |true =>
    simp only [if_true];exact wpS_pure (h m ix st B m1 m2 Lm Um)
   |false =>
    simp only [Bool.false_eq_true,if_false];have flat:∀ a b,a<m->b<m->lt (gx ix a) (gx ix b)=false:=fun a b am bm=>by
     cases z:lt (gx ix a) (gx ix b) with
     |false=>rfl
     |true =>
      rcases W.neg _ (gx ix 0) _ z with y|y
      ·by_cases a0:a=0
       ·rw [a0] at y;have:=W.asy _ _ y;rw [y] at this;cases this
       ·rw [Bef.no W (Um 0 a (by omega) am)] at y;exact zqb y
      ·rcases W.neg _ (gx ix (m-1)) _ y with u|u
       ·rw [rose] at u;exact zqb u
       ·by_cases bm':b=m-1
        ·rw [bm'] at u;have:=W.asy _ _ u;rw [u] at this;cases this
        ·rw [Bef.no W (Um b (m-1) (by omega) (by omega))] at u;exact zqb u
    have rise:∀ a b,a<b->b<m->gx ix a<gx ix b:=fun a b ab bm=>by
     rcases Um a b ab bm with z|z
     ·rw [flat a b (by omega) bm] at z;exact zqb z
     ·exact z.2
    have D:Dn lt (mirror ix 0 m ((m-0) / 2)) m:=fun a b ab bm=>by
     rw [zba hz,zba hz,if_pos (by omega),if_pos (by omega)];exact .inr ⟨flat _ _ (by omega) (by omega),rise _ _ (by omega) (by omega)⟩
    refine wpS_bind (wpS_reverse (zj2 W O (by omega) (B.set (by rw [B.arr,zcI])) ((Lm.rev m2 (Nat.zero_le _)).succ (by omega)) (Eqs.less W m1 D ?_) h));rw [zba hz,zba hz,if_neg (show ¬ (0<=m/\m<m) by omega),if_pos (by omega),em];rcases W.neg _ (gx ix (0+m-1-(m-1))) _ hl with z|z
    ·exact z
    ·rw [flat _ _ (by omega) (by omega)] at z;exact zqb z
  ·rw [if_neg gt];have e1:m=1:=by omega
   subst e1;refine zj2 W O (by omega) B (Lm.succ (by omega)) (Eqs.less W (Nat.le_refl 1) (fun a b ab b1=>by omega) ?_) h;rw [em];exact hl
theorem zkD {Q:Unit->SortSt->Prop}(B:SB it kind ix st)(L:Pl n ix 1)(h2:2<=n)(h64:n<64)
 (h:∀ jx st',arrOf st'=jx.map it->failedOf st'=none->Pl n jx n->Up lt jx n->Q () st'):wpS (model prog w) A E s sortRuns' Q st:=by
 have Fin:∀ st',∀ jx,SB it kind jx st'->Pl n jx n->Up lt jx n->∃ jx,arrOf (setPending st' ((pendingOf st').push (0,n,0)))=jx.map it/\failedOf (setPending st' ((pendingOf st').push (0,n,0)))=none/\pendingOf (setPending st' ((pendingOf st').push (0,n,0))) = #[(0,n,0)]/\Pl n jx n/\Up lt jx n :=
  fun st' jx b p u=>⟨jx,b.arr,b.fl,by show (pendingOf st').push _=_;rw [b.pd];rfl,p,u⟩
 rw [sortRuns'_eq];refine wpS_bind (wpS_get ?_);dsimp only;have sz:(arrOf st).size=n:=by rw [B.arr,Array.size_map];exact L.size
 have mr:=zha h2 h64;simp -iota only [sz,mr];refine wpS_bind (wpS_mono (wpS_forRange (I:=fun x c sx=>(x=0/\c=(none,0)/\SB it kind ix sx)\/(1<=x/\c=(none,n)/\∃ jx,arrOf sx=jx.map it/\failedOf sx=none/\pendingOf sx = #[(0,n,0)]/\Pl n jx n/\Up lt jx n))
  (Q:=fun c sx=>c=(none,n)/\∃ jx,arrOf sx=jx.map it/\failedOf sx=none/\pendingOf sx = #[(0,n,0)]/\Pl n jx n/\Up lt jx n) ?_ ?_ (.inl ⟨rfl,rfl,B⟩)) ?_)
 ·rintro x c sx _ xn (⟨rfl,rfl,Bx⟩|⟨x1,rfl,D⟩)
  ·dsimp only;rw [if_neg (by omega)];simp -iota only [Nat.sub_zero,Nat.min_self,Nat.zero_add];refine wpS_bind (zng W O (by omega) Bx L fun m jx s2 B2 m1 m2 L2 U2=>?_);dsimp only;by_cases mn:m<n
   ·rw [if_pos mn];refine wpS_bind (wpS_lift (wpAny_rule ⟨rfl,?_⟩));refine wpS_bind (ztz W O m2 m1 B2 L2 U2 fun kx s3 B3 L3 U3=>?_);simp -iota only [Bool.not_true,Bool.false_eq_true,if_false];refine wpS_bind (wpS_get ?_);rw [show (pendingOf s3).back? = none by rw [B3.pd];rfl];dsimp only;exact wpS_bind (wpS_modify (wpS_pure (.inr ⟨by omega,rfl,Fin s3 kx B3 L3 U3⟩)))
   ·rw [if_neg mn];have e:m=n:=by omega
    subst e;refine wpS_bind (wpS_get ?_);rw [show (pendingOf s2).back? = none by rw [B2.pd];rfl];dsimp only;exact wpS_bind (wpS_modify (wpS_pure (.inr ⟨by omega,rfl,Fin s2 jx B2 L2 U2⟩)))
  ·dsimp only;rw [if_pos (Nat.le_refl _)];exact wpS_pure ⟨rfl,D⟩
 ·rintro c sx (⟨x0,_,_⟩|⟨_,rfl,D⟩)
  ·omega
  ·exact ⟨rfl,D⟩
 ·rintro c sx ⟨rfl,jx,d1,d2,d3,d4,d5⟩;dsimp only;refine wpS_bind (wpS_mono (wpS_forRange (I:=fun _ c sy=>sy=sx/\c=(none,())) (Q:=fun c sy=>sy=sx/\c=(none,())) ?_ (fun _ _ z=>z) ⟨rfl,rfl⟩) ?_)
  ·rintro x c sy _ _ ⟨rfl,rfl⟩;refine wpS_bind (wpS_get ?_);rw [if_pos (by rw [d3];exact Nat.le_refl 1)];exact wpS_pure ⟨rfl,rfl⟩
  ·rintro c sy ⟨rfl,rfl⟩;exact wpS_pure (h jx _ d1 d2 d4 d5)
end
noncomputable def nthV (vs:List Value)(i:Nat):Value:=vs.getD i .none
theorem zeG (vs:List Value):vs.toArray.zip vs.toArray=(Array.range vs.length).map fun i=>(nthV vs i,nthV vs i):=by
 apply Array.ext_getElem?;intro k;rw [Array.getElem?_map];by_cases h:k<vs.length
 ·rw [Array.getElem?_range,if_pos h];have e:nthV vs k=vs[k]:=by unfold nthV;rw [List.getD_eq_getElem?_getD,Zqg h];rfl
  simp [Array.getElem?_zip_eq_some,h,e]
 ·rw [Array.getElem?_range,if_neg h,Array.getElem?_eq_none (by simp;omega)];rfl
theorem zjo {n k:Nat}(h:k<n):gx (Array.range n) k=k:=by
 unfold gx;rw [Array.getElem?_range,if_pos h];rfl
theorem zes (n k:Nat)(hk:k<=n):Pl n (Array.range n) k:=by
 refine ⟨Array.size_range,Array.Perm.refl _,fun a ha=>?_,fun a _ h=>zjo h⟩;rw [zjo (by omega)];exact ha
section
variable {prog:Program}{w:World}{A:Around}{E:Value->Shared->Prop}{s:Shared}{lt:Nat->Nat->Bool}
def Keys (prog:Program)(w:World)(A:Around)(s:Shared)(vs:List Value)(lt:Nat->Nat->Bool):Prop :=
 ∃ kind,(∀ (E:Value->Shared->Prop) (Q:SortKind->Shared->Prop),Q kind s->wpAny (model prog w) A (keyKind' vs.toArray) Q E s)/\Orc prog w A s kind (fun i=>(nthV vs i,nthV vs i)) lt vs.length
theorem zfV {a:Addr}{vs:List Value}{n:Nat}{P:Fin->Shared->Prop}(W:Wk lt)(ho:s.heap.get? a=some (seqObj "list" vs.toArray n))(h64:vs.length<64)
 (hk:∀ h',(∀ b o,b≠a->s.heap.get? b=some o->h'.get? b=some o)->2<=vs.length->Keys prog w A { s with heap:=h' } vs lt)
 (h:∀ jx,Pl vs.length jx vs.length->Up lt jx vs.length->P (.done (.ret .none)) { s with heap:=sortedHeap s.heap a vs (jx.map (nthV vs)) }) :
 wpAny (model prog w) A (Builtin.«list.sort» ⟨[.ref a],[]⟩) P E s:=by
 rw [list_sort_plain];have la:a<s.heap.objs.size:=Heap.lt_size ho;obtain ⟨c1,g1⟩:∃ c1,(s.heap.update a (Obj.mapSeq fun _ => #[])).get? a=some (seqObj "list" #[] c1):=⟨_,get?_update_seq ho (fun _ => #[])⟩;refine wpAny_bind (listItems_at ho rfl (wpAny_bind (listUpdate_at ho rfl (wpAny_bind (seqEpoch_at g1 rfl (wpAny_bind (wpAny_newTuple (wpAny_bind (wpAny_newList (wpAny_holding ?_))))))))));have ne1:∀ b,b<s.heap.objs.size->b≠(s.heap.update a (Obj.mapSeq fun _ => #[])).objs.size:=fun b hb=>by
  rw [Heap.size_update];exact Nat.ne_of_lt hb
 have ne2:∀ b,b<s.heap.objs.size->b≠((s.heap.update a (Obj.mapSeq fun _ => #[])).push (seqObj "tuple" vs.toArray 0)).objs.size:=fun b hb=>by
  rw [size_push',Heap.size_update];exact Nat.ne_of_lt (Nat.lt_succ_of_lt hb)
 have g6:(((s.heap.update a (Obj.mapSeq fun _ => #[])).push (seqObj "tuple" vs.toArray 0)).push (seqObj "list" #[] 0)).get? a=some (seqObj "list" #[] c1):=by
  rw [Heap.get?_push_ne _ _ _ (ne2 a la),Heap.get?_push_ne _ _ _ (ne1 a la)];exact g1
 have kp:∀ b o,b≠a->s.heap.get? b=some o->(((s.heap.update a (Obj.mapSeq fun _ => #[])).push (seqObj "tuple" vs.toArray 0)).push (seqObj "list" #[] 0)).get? b=some o:=fun b o hb e=>by
  rw [Heap.get?_push_ne _ _ _ (ne2 b (Heap.lt_size e)),Heap.get?_push_ne _ _ _ (ne1 b (Heap.lt_size e)),Heap.get?_update_ne _ _ _ _ hb];exact e
 have ms:∀ (jx:Array Nat),(jx.map fun i=>(nthV vs i,nthV vs i)).map (·.2)=jx.map (nthV vs):=fun jx=>by
  rw [Array.map_map];rfl
 show wpAny (model prog w) A _ P E { s with heap:=((s.heap.update a (Obj.mapSeq fun _ => #[])).push (seqObj "tuple" vs.toArray 0)).push (seqObj "list" #[] 0) };dsimp only;have sz:vs.toArray.size=vs.length:=by simp
 by_cases few:vs.toArray.size<2
 ·rw [if_pos few,if_pos few];refine wpAny_bind (wpAny_pure ?_);rw [StateT.run_pure];refine wpAny_bind (wpAny_pure ?_);dsimp only;refine wpAny_bind (seqEpoch_at g6 rfl (wpAny_bind (listUpdate_at g6 rfl ?_ (hsz2:=by rw [Array.size_map,zeG,Array.size_map,Array.size_range,sizeLine_eq];omega))));simp only [bne_self_eq_false,Bool.false_eq_true,if_false];have fin:=h (Array.range vs.length) (zes _ _ (Nat.le_refl _)) fun i j ij jn=>by omega
  rw [<- ms,<- zeG] at fin;exact wpAny_pure fin
 ·rw [if_neg few,if_neg few];refine zc1b (hk _ kp (by omega)) fun kind k1 k2=>?_;refine wpAny_bind (k1 _ _ ?_);refine wpAny_bind (wpAny_mono (zkD W k2 (ix:=Array.range vs.length) (st:=SortSt.mk' kind (vs.toArray.zip vs.toArray) #[] 7 none) (Q:=fun _ st'=>∃ jx,arrOf st'=jx.map (fun i=>(nthV vs i,nthV vs i))/\failedOf st'=none/\Pl vs.length jx vs.length/\Up lt jx vs.length)
   ⟨zeG vs,rfl,rfl,rfl⟩ (zes _ _ (by omega)) (by omega) h64 fun jx st' a1 a2 a3 a4=>⟨jx,a1,a2,a3,a4⟩) ?_ fun _ _ e=>e)
  rintro ⟨⟨⟩,st'⟩ s' ⟨rfl,jx,q1,q2,q3,q4⟩;dsimp only;refine wpAny_bind (seqEpoch_at g6 rfl (wpAny_bind (listUpdate_at g6 rfl ?_ (hsz2:=by
   rw [Array.size_map,q1,Array.size_map,q3.size,sizeLine_eq];omega))))
  rw [q2];simp only [bne_self_eq_false,Bool.false_eq_true,if_false];have fin:=h jx q3 q4;rw [<- ms,<- q1] at fin;exact wpAny_pure fin
theorem zeZ {x:Value}{Q:Value->Shared->Prop}(W:Wk lt)
 (hc:wpAny (model prog w) A.in1 (collect x) (fun vs s1=>vs.length<64/\(∀ h',(∀ b o,s1.heap.get? b=some o->h'.get? b=some o)->2<=vs.length->Keys prog w A.in1.in1 { s1 with heap:=h' } vs lt) /\
  ∀ jx h' l,Pl vs.length jx vs.length->Up lt jx vs.length->(∀ b o,s1.heap.get? b=some o->h'.get? b=some o)->s1.heap.objs.size<=l->(∃ e,h'.get? l=some (seqObj "list" (jx.map (nthV vs)) e))->Q (.ref l) { s1 with heap:=h' }) E s) :
 wpAny (model prog w) A (call (.builtin "sorted") [x]) Q E s:=by
 refine Calls.call_function_entry kind_sorted plain_sorted entry_sorted (args_sorted1 _) ?_;unfold Builtin.«sorted»;refine wpAny_bind (m:=checkCount "sorted" 1 1 _) (wpAny_pure (wpAny_bind (wpAny_mono hc (fun vs s1 z=>?_) fun _ _ e=>e)));obtain ⟨h64,hk,hq⟩:=z;have gl:(s1.heap.push (seqObj "list" vs.toArray 0)).get? s1.heap.objs.size=some (seqObj "list" vs.toArray 0):=Heap.get?_push_size _ rfl;have nl:∀ b o,s1.heap.get? b=some o->b≠s1.heap.objs.size:=fun b o e=>Nat.ne_of_lt (Heap.lt_size e);refine wpAny_bind (wpAny_newList (wpAny_bind (wpAny_holding (wpAny_call_entry slot_list_sort ⟨_,gl,rfl⟩ entry_list_sort (zfV (s:={ s1 with heap:=s1.heap.push (seqObj "list" vs.toArray 0) }) W gl h64 (fun h' kp=>hk h' fun b o e=>kp b o (nl b o e) (Heap.get?_push_of_some _ e)) fun jx p u=>⟨_,rfl,wpAny_pure ⟨_,rfl,?_⟩⟩) (args_list_sort _)))));refine hq jx _ _ p u (fun b o e=>?_) (Nat.le_refl _) (sortedHeap_at gl);rw [sortedHeap_old (nl b o e) (by rw [size_push'];exact Nat.lt_succ_of_lt (Heap.lt_size e))];exact Heap.get?_push_of_some _ e
end
structure Tot {α : Type}(ltb:α -> α -> Bool):Prop where
 asy:∀ a b,ltb a b=true->ltb b a=false
 neg:∀ a b c,ltb a c=true->ltb a b=true\/ltb b c=true
 tot:∀ a b,ltb a b=false->ltb b a=false->a=b
theorem Tot.irr {α : Type}{ltb:α -> α -> Bool}(T:Tot ltb)(a:α):ltb a a=false:=by
 cases q:ltb a a with
 |false=>rfl
 |true=>have:=T.asy _ _ q;rw [q] at this;cases this
theorem Tot.wk {α : Type}{ltb:α -> α -> Bool}(T:Tot ltb)(f:Nat -> α):Wk fun i j=>ltb (f i) (f j):=⟨fun i j=>T.asy _ _,fun i j k=>T.neg _ _ _⟩
noncomputable def pltB (p q:Int×Int):Bool:=decide (p.1<q.1)||(decide (p.1=q.1)&&decide (p.2<q.2))
theorem zb6 {p q:Int×Int}:pltB p q=true↔p.1<q.1\/(p.1=q.1/\p.2<q.2):=by
 unfold pltB;simp
theorem zdY {p q:Int×Int}:pltB p q=false↔¬ (p.1<q.1\/(p.1=q.1/\p.2<q.2)):=by
 rw [<- zb6];simp
theorem zcj:Tot pltB:=by
 refine ⟨fun a b h=>?_,fun a b c h=>?_,fun a b h1 h2=>?_⟩
 ·rw [zb6] at h;rw [zdY];omega
 ·rw [zb6] at h;rw [zb6,zb6];omega
 ·rw [zdY] at h1 h2;exact Prod.ext (by omega) (by omega)
def rltB:List (Int×Int)->List (Int×Int)->Bool
 | [],[]=>false
 | [],_::_=>true
 |_::_,[]=>false
 |p::r,q::s=>if p=q then rltB r s else pltB p q
theorem zb9 (p q:Int×Int)(r s:List (Int×Int)):rltB (p::r) (q::s)=if p=q then rltB r s else pltB p q:=rfl
theorem zmb:∀ a b:List (Int×Int),rltB a b=true->rltB b a=false
 | [],[],h=>by exact zqb h
 | [],_::_,_=>rfl
 |_::_,[],h=>by exact zqb h
 |p::r,q::s,h=>by
  rw [zb9] at h ⊢;by_cases e:p=q
  ·rw [if_pos e] at h;rw [if_pos e.symm];exact zmb r s h
  ·rw [if_neg e] at h;rw [if_neg (fun z=>e z.symm)];exact zcj.asy _ _ h
theorem zmH:∀ a b c:List (Int×Int),rltB a c=true->rltB a b=true\/rltB b c=true
 | [],[],c,h=>.inr h
 | [],_::_,_,_=>.inl rfl
 |_::_,_,[],h=>by exact zqb h
 |p::r,[],q::s,_=>.inr rfl
 |p::r,x::t,q::s,h=>by
  rw [zb9] at h;rw [zb9,zb9];by_cases e:p=q
  ·rw [if_pos e] at h;by_cases e1:p=x
   ·rw [if_pos e1,if_pos (e1.symm.trans e)];exact zmH r t s h
   ·rw [if_neg e1,if_neg (fun z=>e1 (e.trans z.symm))];cases z:pltB p x with
    |true=>exact .inl rfl
    |false =>
     right;rw [<- e];cases y:pltB x p with
     |true=>rfl
     |false=>exact absurd (zcj.tot _ _ z y) e1
  ·rw [if_neg e] at h;by_cases e1:p=x
   ·rw [if_pos e1,if_neg (fun z=>e (e1.trans z))];right;rw [<- e1];exact h
   ·rw [if_neg e1];by_cases e2:x=q
    ·left;rw [e2];exact h
    ·rw [if_neg e2];exact zcj.neg _ _ _ h
theorem zlE:∀ a b:List (Int×Int),rltB a b=false->rltB b a=false->a=b
 | [],[],_,_=>rfl
 | [],_::_,h,_=>by cases h
 |_::_,[],_,h=>by cases h
 |p::r,q::s,h1,h2=>by
  rw [zb9] at h1 h2;by_cases e:p=q
  ·rw [if_pos e] at h1;rw [if_pos e.symm] at h2;rw [e,zlE r s h1 h2]
  ·rw [if_neg e] at h1;rw [if_neg (fun z=>e z.symm)] at h2;exact absurd (zcj.tot _ _ h1 h2) e
theorem zaC:Tot rltB:=⟨zmb,zmH,zlE⟩
section
variable {α : Type}(ltb:α -> α -> Bool)
noncomputable def insB (x:α):List α -> List α
 | []=>[x]
 |y::r=>if ltb x y=true then x::y::r else y::insB x r
def zaE:List α -> List α
 | []=>[]
 |x::r=>insB ltb x (zaE r)
noncomputable def Sd (l:List α):Prop:=l.Pairwise fun a b=>ltb b a=false
variable {ltb}
theorem ze7 (x:α):∀ l:List α,(insB ltb x l).Perm (x::l)
 | []=>List.Perm.refl _
 |y::r=>by
  unfold insB
  split
  ·exact List.Perm.refl _
  ·exact ((ze7 x r).cons y).trans (List.Perm.swap x y r)
theorem zal:∀ l:List α,(zaE ltb l).Perm l
 | []=>List.Perm.refl _
 |x::r=>(ze7 x _).trans ((zal r).cons x)
theorem zlJ (T:Tot ltb)(x:α):∀ l:List α,Sd ltb l->Sd ltb (insB ltb x l)
 | [],_=>List.pairwise_singleton _ _
 |y::r,h=>by
  obtain ⟨h1,h2⟩:=List.pairwise_cons.mp h;unfold insB
  split
  ·rename_i c;refine List.pairwise_cons.mpr ⟨fun z hz=>?_,h⟩;rcases List.mem_cons.mp hz with e|e
   ·rw [e];exact T.asy _ _ c
   ·cases q:ltb z x with
    |false=>rfl
    |true =>
     have n1:=h1 z e;rcases T.neg x z y c with u|u
     ·rw [T.asy _ _ u] at q;exact zqb q
     ·rw [n1] at u;exact zqb u
  ·rename_i c;refine List.pairwise_cons.mpr ⟨fun z hz=>?_,zlJ T x r h2⟩;rcases List.mem_cons.mp ((ze7 x r).mem_iff.mp hz) with e|e
   ·rw [e];cases q:ltb x y with
    |false=>rfl
    |true=>exact absurd q c
   ·exact h1 z e
theorem zbV (T:Tot ltb):∀ l:List α,Sd ltb (zaE ltb l)
 | []=>List.Pairwise.nil
 |x::r=>zlJ T x _ (zbV T r)
theorem zjg (T:Tot ltb):∀ {a b:List α},a.Perm b->Sd ltb a->Sd ltb b->a=b
 | [],b,p,_,_=>p.nil_eq
 |x::r,b,p,ha,hb=>by
  cases b with
  |nil=>exact absurd p.length_eq (by simp)
  |cons y t =>
   obtain ⟨a1,a2⟩:=List.pairwise_cons.mp ha;obtain ⟨b1,b2⟩:=List.pairwise_cons.mp hb;have e:x=y:=by
    rcases List.mem_cons.mp (p.mem_iff.mp Zqs) with z|z
    ·exact z
    ·rcases List.mem_cons.mp (p.mem_iff.mpr Zqs) with u|u
     ·exact u.symm
     ·exact T.tot _ _ (b1 x z) (a1 y u)
   subst e;rw [zjg T p.cons_inv a2 b2]
theorem zbG (T:Tot ltb){l:List α}{d:α}{jx:Array Nat}(p:Pl l.length jx l.length)(u:Up (fun i j=>ltb (l.getD i d) (l.getD j d)) jx l.length):jx.toList.map (fun i=>l.getD i d)=zaE ltb l:=by
 refine zjg T ?_ ?_ (zbV T l)
 ·refine List.Perm.trans ?_ (zal l).symm;have q:jx.toList.Perm (List.range l.length):=by
   have:=Array.perm_iff_toList_perm.mp p.perm;simpa using this
  refine (q.map _).trans (List.Perm.of_eq ?_);apply List.ext_getElem
  ·simp
  ·intro i h1 h2;simp [h2]
 ·refine List.pairwise_iff_getElem.mpr fun a b ha hb ab=>?_;rw [List.getElem_map,List.getElem_map];have sz:jx.toList.length=l.length:=by rw [Array.length_toList,p.size]
  rw [Zql] at ha hb;have ea:jx.toList[a]=gx jx a:=by
   unfold gx;rw [Array.getElem?_eq_getElem (by rw [p.size];omega)];simp
  have eb:jx.toList[b]=gx jx b:=by
   unfold gx;rw [Array.getElem?_eq_getElem (by rw [p.size];omega)];simp
  rw [ea,eb];exact Bef.no (T.wk fun i=>l.getD i d) (u a b ab (by omega))
end
theorem zap {α : Type}{l:List α}{i:Nat}{d x:α}(h:l[i]? = some x):l.getD i d=x:=by
 rw [List.getD_eq_getElem?_getD,h];rfl
noncomputable def zda (h:Heap)(vs:List Value)(ps:List (Int×Int)):Prop:=vs.length=ps.length/\∀ (i:Nat) p,ps[i]? = some p->∃ a o n t u,vs[i]? = some (.ref a)/\h.get? a=some o/\o.cls=.type "tuple" /\ o.data=.seq #[.int p.1 t,.int p.2 u] n
section
variable {prog:Program}{w:World}{A:Around}{s:Shared}
theorem zee {h:Heap}:∀ {vs:List Value} {ps:List (Int×Int)},zda h vs ps->∃ fs,W.KatTups h vs fs/\fs.length=vs.length/\∀ v∈fs,∃ k t,v=Value.int k t
 | [],ps,q=>⟨[],.nil,rfl,fun v hv=>nomatch hv⟩
 |v::vs,[],q=>by have:=q.1;simp at this
 |v::vs,p::ps,q=>by
  refine zc4a (q.2 0 p rfl) fun a o n t zz=>zc1d zz fun u e1 e2 e3 e4=>?_;have e1:some v=some (Value.ref a):=e1;obtain rfl:=Zqi e1;refine zc1c (zee (h:=h) (vs:=vs) (ps:=ps) ⟨by have:=q.1;simpa using this,fun i p hp=>q.2 (i+1) p hp⟩) fun fs k1 k2 k3=>?_;refine ⟨.int p.1 t::fs,.cons e2 e3 e4 rfl k1,by simp [k2],fun v hv=>?_⟩;rcases List.mem_cons.mp hv with z|z
  ·exact ⟨p.1,t,z⟩
  ·exact k3 v z
theorem zjJ {vs:List Value}{ps:List (Int×Int)}(q:zda s.heap vs ps)(h2:2<=vs.length):Keys prog w A s vs fun i j=>pltB (ps.getD i (0,0)) (ps.getD j (0,0)):=by
 refine zc1c (zee q) fun fs k1 k2 k3=>?_;refine ⟨tuples' (Value.type "int" != Value.type "tuple"),fun E Q h=>W.kat_kind (T:=Value.type "int") k1 (by omega) (fun v hv=>?_) rfl h,fun i j hi hj E Q h=>?_⟩
 ·refine zc2a (k3 v hv) fun k t zr2=>?_;subst zr2;exact W.Looks.of_pure rfl
 ·have l1:=q.1;obtain ⟨p,hp⟩:∃ p,ps[i]? = some p:=⟨_,Zqg (by omega)⟩;obtain ⟨p',hp'⟩:∃ p,ps[j]? = some p:=⟨_,Zqg (by omega)⟩;refine zc4a (q.2 i p hp) fun a o n t zz=>zc1d zz fun u e1 e2 e3 e4=>?_;refine zc4a (q.2 j p' hp') fun a' o' n' t' zz=>zc1d zz fun u' f1 f2 f3 f4=>?_;dsimp only at h;rw [zap hp,zap hp'] at h;show wpAny (model prog w) A (keyLt' _ (nthV vs i) (nthV vs j)) Q E s;unfold nthV;rw [zap e1,zap f1];refine W.kat_lt e2 e4 f2 f4 ?_;refine W.kat_cons (PySem.SeqAt.EqAt.int_int p.1 t p'.1 t' prog w _ _ ?_);by_cases c:p.1=p'.1
  ·rw [show (p.1 == p'.1)=true by simpa using c];refine W.kat_yes (W.kat_cons (PySem.SeqAt.EqAt.int_int p.2 u p'.2 u' prog w _ _ ?_));by_cases d:p.2=p'.2
   ·rw [show (p.2 == p'.2)=true by simpa using d];refine W.kat_yes (W.kat_nil ?_);have z:pltB p p'=false:=by rw [zdY];omega
    rw [z] at h;exact h
   ·rw [show (p.2 == p'.2)=false by simpa using d];refine W.kat_no (W.kat_one _ _ (lt_int ?_));have z:pltB p p'=decide (p.2<p'.2):=by
     by_cases g:p.2<p'.2
     ·rw [decide_eq_true g,zb6];omega
     ·rw [decide_eq_false g,zdY];omega
    rw [z] at h;exact h
  ·rw [show (p.1 == p'.1)=false by simpa using c];refine W.kat_no (oneLt_int ?_);have z:pltB p p'=decide (p.1<p'.1):=by
    by_cases g:p.1<p'.1
    ·rw [decide_eq_true g,zb6];omega
    ·rw [decide_eq_false g,zdY];omega
   rw [z] at h;exact h
structure RowAt (h:Heap)(v:Value)(r:List (Int×Int))(a:Addr)(o:Obj)(us:List Value)(n:Nat):Prop where
 isv:v=.ref a
 get:h.get? a=some o
 cls:o.cls=.type "tuple"
 dat:o.data=.seq us.toArray n
 prs:zda h us r
theorem zm9 {P:Program}{H:Hp}{h:Heap}{r:List (Int×Int)}{x:V}{v:Value}(ok:HOk P w H h)(hr:Is H (rD r) x)(rv:RelV x v):∃ a o us n,RowAt h v r a o us n:=by
 unfold rD at hr;rw [Is.tuple_iff] at hr;refine zc2c hr fun a xs zr2 ht ha=>?_;subst zr2;obtain rfl:v=Value.ref a:=rv;refine zc0b ((show zbc P w H h a (.tup xs) from ok a _ ht)) fun _ zz=>zc1b zz fun its ri zz=>zc1c zz fun o e1 e2 zz=>zc1a zz fun n e3=>?_;refine ⟨a,o,its,n,rfl,e1,e2,e3,?_,fun i p hp=>?_⟩
 ·have l1:=ha.length;have l2:=ri.length;rw [Zql] at l1;omega
 ·refine zc1b (ha.get (i:=i) (d:=pD p) (by rw [List.getElem?_map,hp];rfl)) fun x hx hi=>?_;refine zc1b (ri.get hx) fun u hu ru=>?_;refine zc1b (zgz.mp hi) fun b zr1 hb=>?_;subst zr1;obtain rfl:u=Value.ref b:=ru;refine zc0b ((show zbc P w H h b (.tup [.int p.1,.int p.2]) from ok b _ hb)) fun _ zz=>zc1b zz fun its2 r2 zz=>zc1c zz fun o2 g1 g2 zz=>zc1a zz fun n2 g3=>?_;refine zc2c (zmN r2) fun u1 u2 zr2 q1 q2=>?_;subst zr2;obtain ⟨t1,rfl⟩:=(show ∃ t,u1=Value.int p.1 t from q1);obtain ⟨t2,rfl⟩:=(show ∃ t,u2=Value.int p.2 t from q2);exact ⟨b,o2,n2,t1,t2,hu,g1,g2,g3⟩
theorem zh2 (hu:A.units+4<cLine){fin:Bool}{E:Value->Shared->Prop}{Q:Bool->Shared->Prop}:∀ {r r':List (Int×Int)} {us us':List Value} (i:Nat),zda s.heap us r->zda s.heap us' r' ->
 fin=decide (r.length<r'.length)->Q (rltB r r') s->W.KatLex prog w A false fin Q (us.zip us') i s
 | [],[],us,us',i,q,q',hf,h=>by
  obtain rfl:us=[]:=List.length_eq_zero_iff.mp q.1;refine W.kat_nil ?_;rw [hf];exact h
 | [],p::r',us,us',i,q,q',hf,h=>by
  obtain rfl:us=[]:=List.length_eq_zero_iff.mp q.1;refine W.kat_nil ?_;rw [hf,decide_eq_true (by simp)];exact h
 |p::r,[],us,us',i,q,q',hf,h=>by
  obtain rfl:us'=[]:=List.length_eq_zero_iff.mp q'.1;rw [List.zip_nil_right];refine W.kat_nil ?_;rw [hf,decide_eq_false (by simp)];exact h
 |p::r,p'::r',us,us',i,q,q',hf,h=>by
  refine zc4a (q.2 0 p rfl) fun a o n t zz=>zc1d zz fun u e1 e2 e3 e4=>?_;refine zc4a (q'.2 0 p' rfl) fun a' o' n' t' zz=>zc1d zz fun u' f1 f2 f3 f4=>?_;cases us with
  |nil=>exact zqn e1
  |cons v us =>
   cases us' with
   |nil=>exact zqn f1
   |cons v' us' =>
    have e1:some v=some (Value.ref a):=e1;have f1:some v'=some (Value.ref a'):=f1;obtain rfl:=Zqi e1;obtain rfl:=Zqi f1;have R1:Reads s.heap (.ref a) (pD p) _:=.tuple e2 e3 e4 (.cons (.int p.1 t) (.cons (.int p.2 u) .nil));have R2:Reads s.heap (.ref a') (pD p') _:=.tuple f2 f3 f4 (.cons (.int p'.1 t') (.cons (.int p'.2 u') .nil));have dp:∀ z:Int×Int,(pD z).depth=1:=fun z=>by
     unfold pD PyData.depth;show PyData.depthAll ([z.1,z.2].map PyData.int)+1=1;rw [zgd]
    rw [List.zip_cons_cons];refine W.kat_cons (PySem.SeqAt.eqAt_reads _ _ A s _ _ _ _ R1 R2 (zeF _ (zdh p)) (zeF _ (zdh p')) (by rw [dp,dp];omega) prog w _ _ ?_);rw [zb9] at h;by_cases c:p=p'
    ·subst c;rw [zoA (zdh p)];rw [if_pos rfl] at h;refine W.kat_yes (zh2 hu (E:=E) (i+1) ⟨by have:=q.1;simpa using this,fun i z hz=>q.2 (i+1) z hz⟩ ⟨by have:=q'.1;simpa using this,fun i z hz=>q'.2 (i+1) z hz⟩ (by rw [hf];simp) h)
    ·rw [if_neg c] at h;have ne:pD p≠pD p':=fun z=>c (by
      unfold pD at z;injection z with z
      injection z with z1 z
      injection z with z2 z
      injection z1 with z1
      injection z2 with z2
      exact Prod.ext z1 z2)
     rw [zsU (zdh p) (zdh p') ne];refine W.kat_no ?_;rw [Bool.false_and];have I1:IntsAre (#[Value.int p.1 t,Value.int p.2 u]:Array Value).toList [p.1,p.2]:=.cons _ _ (.cons _ _ .nil);have I2:IntsAre (#[Value.int p'.1 t',Value.int p'.2 u']:Array Value).toList [p'.1,p'.2]:=.cons _ _ (.cons _ _ .nil);refine W.kat_one _ _ (HT.lt_tupInts ⟨o,e2,e3,n,e4⟩ ⟨o',f2,f3,n',f4⟩ I1 I2 (by omega) ?_);have z:HT.lexLt [p.1,p.2] [p'.1,p'.2]=pltB p p':=by
      rw [HT.lexLt_cons,HT.lexLt_cons,HT.lexLt_nil_nil];unfold pltB;by_cases g:p.1=p'.1
      ·have g2:¬ p.2=p'.2:=fun z=>c (Prod.ext g z);simp [g,g2]
      ·simp [g]
     rw [z];exact h
theorem zhg {P:Program}{H:Hp}{rs:List (List (Int×Int))}{xs:List V}{vs:List Value}(hu:A.units+4<cLine)(ok:HOk P w H s.heap)(ha:zas H (rs.map rD) xs)(rv:Vals xs vs)(hne:∀ r∈rs,r ≠ [])(h2:2<=vs.length) :
 Keys prog w A s vs fun i j=>rltB (rs.getD i []) (rs.getD j []):=by
 have l1:=ha.length;have l2:=rv.length;rw [Zql] at l1;have at_:∀ (i:Nat) r,rs[i]? = some r->∃ v a o us n,vs[i]? = some v/\RowAt s.heap v r a o us n:=fun i r hr=>by
  refine zc1b (ha.get (i:=i) (d:=rD r) (by rw [List.getElem?_map,hr];rfl)) fun x hx hi=>?_;refine zc1b (rv.get hx) fun v hv ru=>?_;refine zc4a (zm9 ok hi ru) fun a o us n R=>?_;exact ⟨v,a,o,us,n,hv,R⟩
 have firsts:∀ (vs:List Value) (rs:List (List (Int×Int))),vs.length=rs.length->(∀ r∈rs,r ≠ [])->(∀ (i:Nat) r,rs[i]? = some r->∃ v a o us n,vs[i]? = some v/\RowAt s.heap v r a o us n)->∃ fs,W.KatTups s.heap vs fs/\fs.length=vs.length/\∀ v∈fs,∃ b ob,v=Value.ref b/\s.heap.get? b=some ob/\ob.cls=.type "tuple" := by
  intro vs
  induction vs with
  |nil=>exact fun _ _ _ _=>⟨[],.nil,rfl,fun v hv=>nomatch hv⟩
  |cons v vs ih =>
   intro rs hl hne hat;cases rs with
   |nil=>simp at hl
   |cons r rs =>
    refine zc4a (hat 0 r rfl) fun v' a o us zz=>zc1b zz fun n e1 R=>?_;have e1:some v=some v':=e1;obtain rfl:=Zqi e1;refine zc1c (ih rs (by simpa using hl) (fun r hr=>hne r (Zqm _ hr)) fun i r hr=>hat (i+1) r hr) fun fs k1 k2 k3=>?_;cases r with
    |nil=>exact absurd rfl (hne [] Zqs)
    |cons p r =>
     refine zc4a (R.prs.2 0 p rfl) fun b ob nb t zz=>zc1d zz fun u g1 g2 g3 g4=>?_;obtain rfl:v=Value.ref a:=R.isv;refine ⟨.ref b::fs,.cons R.get R.cls R.dat (by simpa using g1) k1,by simp [k2],fun z hz=>?_⟩;rcases List.mem_cons.mp hz with y|y
     ·exact ⟨b,ob,y,g2,g3⟩
     ·exact k3 z y
 refine zc1c (firsts vs rs (by omega) hne at_) fun fs k1 k2 k3=>?_;refine ⟨tuples' (Value.type "tuple" != Value.type "tuple"),fun E Q h=>W.kat_kind (T:=Value.type "tuple") k1 (by omega) (fun v hv=>?_) rfl h,fun i j hi hj E Q h=>?_⟩
 ·refine zc2c (k3 v hv) fun b ob zr2 g1 g2=>?_;subst zr2;rw [<- g2];exact (W.Looks.ld g1).andThen .now
 ·obtain ⟨r,hr⟩:∃ r,rs[i]? = some r:=⟨_,Zqg (by omega)⟩;obtain ⟨r',hr'⟩:∃ r,rs[j]? = some r:=⟨_,Zqg (by omega)⟩;refine zc4a (at_ i r hr) fun v a o us zz=>zc1b zz fun n e1 R=>?_;refine zc4a (at_ j r' hr') fun v' a' o' us' zz=>zc1b zz fun n' f1 R'=>?_;dsimp only at h;rw [zap hr,zap hr'] at h;show wpAny (model prog w) A (keyLt' _ (nthV vs i) (nthV vs j)) Q E s;unfold nthV;rw [zap e1,zap f1,R.isv,R'.isv];refine W.kat_lt R.get R.dat R'.get R'.dat ?_;exact zh2 hu (E:=E) 0 R.prs R'.prs (by rw [List.size_toArray,List.size_toArray,R.prs.1,R'.prs.1]) h
end
section
variable {X:Cx}{tg iter elt c:Expr}{scope:Scope}{pos:Pos}{wi:TI}{g:TG}{te:TE}{tt:TT}
theorem zhK (N:List Str)(cap:List (Option Nat))(hc:X.calm=true)(okB:zb2 scope X.env N X.N cap=true)(hi:PI X tg iter wi)(hg:∀ cl C s H ex,PG (za0 X scope N cl C s H ex) tg g)(ht:∀ cl C s H ex,PT (za0 X scope N cl C s H ex) c tt)(he:∀ cl C s H ex,PE (za0 X scope N cl C s H ex) elt te)
 (hs:∀ x,foldedSetIterable iter X.env x=pure x) {use:Option (Value->Sem Unit)} {R:Value->Shared->Prop} {fpos:Pos} {pins:List (Addr×Obj)} {s:Shared} {σ : St} {H:Hp} {Q:VK} (I:Inv X pins σ H s) (h:ze6 cap wi g tt te σ H Q) (fin:zfp X pins σ Q use R) :
 wpAny (model X.prog X.w) X.A (comprehension (.ListComp elt [⟨tg,iter,[c],0⟩] scope pos) scope X.env fpos (newList []) false (eval iter X.env) use) R X.xe s :=
 ziJ (test:=fun env R Q s=>wpAny (model X.prog X.w) X.A (isTrue c env (eval c env)) Q (notedBy (model X.prog X.w) X.A env fun e s'=>R (.error e) s') s) N (fun I turn n h=>W.kct_loop I turn n h)
  (fun cl C s H ex _ _ _ _ _ _ _ I q k=>wpAny_mono (ht cl C s H ex _ _ _ _ _ I q) (fun b s8 z=>by obtain ⟨H8,I8,q8⟩:=z;exact k b s8 H8 I8 q8) fun _ _ f=>f.elim) cap hc okB hi hg he hs I h fin
theorem zly (N:List Str)(cap:List (Option Nat))(hc:X.calm=true)(okB:zb2 scope X.env N X.N cap=true)(hi:PI X tg iter wi)(hg:∀ cl C s H ex,PG (za0 X scope N cl C s H ex) tg g)(ht:∀ cl C s H ex,PT (za0 X scope N cl C s H ex) c tt)(he:∀ cl C s H ex,PE (za0 X scope N cl C s H ex) elt te)
 (hs:autoParam (∀ x,foldedSetIterable iter X.env x=pure x) zaw._auto_1):PE X (.ListComp elt [⟨tg,iter,[c],0⟩] scope pos) (ze6 cap wi g tt te):=by
 intro pins s σ H Q I h;rw [eval_ListComp];exact zhK N cap hc okB hi hg ht he hs I h zju
end
theorem zkl {L:List (Addr×HO)}{b:Addr}{u:HO}(h:L.lookup b=some u):(b,u)∈L:=by
 induction L with
 |nil=>exact zqn h
 |cons p r ih =>
  rw [List.lookup_cons] at h;cases c:b == p.1 with
  |true =>
   rw [c] at h;have e:b=p.1:=by simpa using c
   have h:some p.2=some u:=h;obtain rfl:=Zqi h;subst e;exact Zqs
  |false =>
   rw [c] at h;exact Zqm _ (ih h)
noncomputable def newH (H:Hp)(L:List (Addr×HO)):Hp:=fun b=>match L.lookup b with
 |some o=>some o
 |none=>H b
theorem zeu {H:Hp}{L:List (Addr×HO)}{b:Addr}(h:∀ p∈L,p.1≠b):newH H L b=H b:=by
 unfold newH;have e:L.lookup b=none:=by
  induction L with
  |nil=>rfl
  |cons p r ih =>
   rw [List.lookup_cons];have:(b == p.1)=false:=by
    have:=h p Zqs;simp;exact fun z=>this z.symm
   rw [this];exact ih fun q hq=>h q (Zqm _ hq)
 rw [e]
theorem zjt {H:Hp}{L:List (Addr×HO)}(nd:(L.map (·.1)).Nodup){a:Addr}{o:HO}(h:(a,o)∈L):newH H L a=some o:=by
 unfold newH;have e:L.lookup a=some o:=by
  induction L with
  |nil=>cases h
  |cons p r ih =>
   obtain ⟨n1,n2⟩:=List.nodup_cons.mp (show (p.1::r.map (·.1)).Nodup from nd);rw [List.lookup_cons];rcases List.mem_cons.mp h with z|z
   ·rw [<- z,beq_self_eq_true]
   ·have:(a == p.1)=false:=by
     simp;intro y;exact n1 (List.mem_map.mpr ⟨(a,o),z,y⟩)
    rw [this];exact ih n2 z
 rw [e]
theorem zgQ {H:Hp}{L:List (Addr×HO)}{b:Addr}{u:HO}(h:newH H L b=some u):(b,u)∈L\/((∀ p∈L,p.1≠b)/\H b=some u):=by
 unfold newH at h;cases e:L.lookup b with
 |some o =>
  rw [e] at h;obtain rfl:=Zqi h;exact .inl (zkl e)
 |none =>
  rw [e] at h;refine .inr ⟨fun p hp z=>?_,h⟩;have:(b == p.1)=true:=by simp [z]
  have q:(L.lookup b).isSome=true:=by
   clear h
   induction L with
   |nil=>cases hp
   |cons q r ih =>
    rw [List.lookup_cons];cases c:b == q.1 with
    |true=>rfl
    |false =>
     rcases List.mem_cons.mp hp with y|y
     ·rw [y] at this;rw [this] at c;cases c
     ·rw [List.lookup_cons,c] at e;exact ih e y
  rw [e] at q;exact zqb q
theorem Inv.laidMany {X:Cx}{pins:List (Addr×Obj)}{σ : St}{H:Hp}{s:Shared}{h':Heap}{t':Nat}{L:List (Addr×HO)}(I:Inv X pins σ H s)(k:∀ b u,s.heap.get? b=some u->h'.get? b=some u)(hp:∀ p∈L,s.heap.objs.size<=p.1)
 (ok:∀ p∈L,zbc X.prog X.w (newH H L) h' p.1 p.2):Inv X pins σ (newH H L) { s with heap:=h',toks:=t' }:=by
 have old:∀ b u,s.heap.get? b=some u->∀ p∈L,p.1≠b:=fun b u e p hq z=>absurd (Nat.lt_of_lt_of_le (Heap.lt_size e) (by rw [<- z];exact hp p hq)) (Nat.lt_irrefl _);have oldH:∀ b u,H b=some u->newH H L b=some u:=fun b u e=>by
  rw [zeu fun p hq z=>absurd (Nat.lt_of_lt_of_le (I.hok.lt e) (by rw [<- z];exact hp p hq)) (Nat.lt_irrefl _)];exact e
 refine I.un ⟨fun b u q _ _ _=>k b u q,fun b u q _ _ _=>⟨u.slots,k b u q⟩,fun b u q n _=>by rw [zeu (old b u q)];exact n,fun b u q _=>⟨u,k b u q⟩,fun b xs q=>oldH b _ q,fun b u xs q=>oldH b _ q,fun b ps q=>⟨#[],by rw [oldH b _ q];simp⟩⟩ fun b u e=>?_;rcases zgQ e with z|⟨z,e'⟩
 ·exact ok (b,u) z
 ·exact (I.hok b u e').stay (fun c v _ q=>k c v q) (fun c q=>oldH c _ q) fun c xs q=>oldH c _ q
theorem zgO {H:Hp}{f:Nat->PyData}{g:Nat->V}:∀ {L:List Nat},(∀ i∈L,Is H (f i) (g i))->zas H (L.map f) (L.map g)
 | [],_=>by show zas H [] [];unfold zas;rfl
 |i::L,h=>by
  show zas H (f i::L.map f) (g i::L.map g);unfold zas;exact ⟨_,_,rfl,h i Zqs,zgO fun j hj=>h j (Zqm _ hj)⟩
theorem zcg {g:Nat->V}{u:Nat->Value}:∀ {L:List Nat},(∀ i∈L,RelV (g i) (u i))->Vals (L.map g) (L.map u)
 | [],_=>.nil
 |i::L,h=>.cons (h i Zqs) (zcg fun j hj=>h j (Zqm _ hj))
theorem Pl.mem {n:Nat}{jx:Array Nat}(p:Pl n jx n){i:Nat}(h:i∈jx.toList):i<n:=by
 have q:=(Array.perm_iff_toList_perm.mp p.perm).mem_iff.mp h;simpa using q
theorem Pl.len {n k:Nat}{jx:Array Nat}(p:Pl n jx k):jx.toList.length=n:=by rw [Array.length_toList,p.size]
section
variable {X:Cx}
theorem zfi (hu:X.A.units+64<cLine):zat X (.builtin "sorted") (fun xs H Q=>∃ a ys rs,xs=[.ref a]/\Rd H a (.lst ys)/\zas H (rs.map rD) ys/\(∀ r∈rs,r ≠ [])/\rs.length<64 /\
 ∀ (l:Addr) (ix:List Nat),H l=none->(∀ i∈ix,i<rs.length)->ix.map (fun i=>rs.getD i [])=zaE rltB rs->Q (.ref l) (upd H l (.lst (ix.map fun i=>ys.getD i .non)))):=by
 intro pins s σ H xs us Q I rv h;obtain ⟨a,ys,rs,rfl,ha,hA,hne,h64,q⟩:=h;obtain ⟨u,rfl,ru⟩:=zcn rv;obtain rfl:u=Value.ref a:=ru;obtain ⟨its,ri,pl,hz⟩:=I.list (.inl ha);have l1:=hA.length;have l2:=ri.length;rw [Zql] at l1;have lw:its.length=rs.length:=by omega
 have up:∀ b o,s.heap.get? b=some o->((s.heap.push (seqObj "list" #[] 0)).update s.heap.objs.size (Obj.mapSeq (· ++ its.toArray))).get? b=some o:=fun b o e=>by
  rw [Heap.get?_update_ne _ _ _ _ (Nat.ne_of_lt (Heap.lt_size e)),Heap.get?_push_ne _ _ _ (Nat.ne_of_lt (Heap.lt_size e))];exact e
 refine zeZ (zaC.wk fun i=>rs.getD i []) (collect_list pl.isList ⟨by omega,fun h' kp h2=>zhg (by show X.A.units+1+1+4<cLine;omega) (I.hok.kept fun b o e=>kp b o (up b o e)) hA ri hne h2,fun jx h' l p u kp hl gl=>?_⟩ (by rw [lw];exact zc3 (by omega)));obtain ⟨e,gl⟩:=gl;rw [lw] at p u;have szl:s.heap.objs.size<=l:=by
  have:((s.heap.push (seqObj "list" #[] 0)).update s.heap.objs.size (Obj.mapSeq (· ++ its.toArray))).objs.size=s.heap.objs.size+1:=by rw [Heap.size_update,size_push']
  have hl:((s.heap.push (seqObj "list" #[] 0)).update s.heap.objs.size (Obj.mapSeq (· ++ its.toArray))).objs.size<=l:=hl;omega
 have at_:∀ i∈jx.toList,∃ x v,ys[i]? = some x/\its[i]? = some v/\RelV x v/\Is H (rD (rs.getD i [])) x:=fun i hi=>by
  have hn:=p.mem hi;obtain ⟨x,hx,hr⟩:=hA.get (i:=i) (d:=rD (rs.getD i [])) (by
   rw [List.getElem?_map,Zqg hn,zap (Zqg hn)];rfl)
  obtain ⟨v,hv,rr⟩:=ri.get hx;exact ⟨x,v,hx,hv,rr,hr⟩
 refine ⟨.ref l,upd H l (.lst (jx.toList.map fun i=>ys.getD i .non)),I.laid (a:=l) (o:=.lst (jx.toList.map fun i=>ys.getD i .non)) (t':=s.toks) (fun b o e=>kp b o (up b o e)) szl ⟨?_,jx.toList.map (nthV its),e,?_,?_⟩,rfl,q l jx.toList (I.hok.fresh szl) (fun i hi=>p.mem hi) (zbG zaC p u)⟩
 ·rw [Zql,p.len];exact zc3 (by omega)
 ·refine zcg fun i hi=>?_;obtain ⟨x,v,hx,hv,rr,_⟩:=at_ i hi;unfold nthV;rw [zap hx,zap hv];exact rr
 ·rw [gl]
  congr 3
  apply Array.ext';simp
noncomputable def zhE (vw d:Addr):HO:=.ext fun h=>h.IsItemsView vw d
theorem zob:MtR X "dict.items" (fun x vs H Q=>∃ d kvs,x=.ref d/\vs=[]/\H d=some (.dK kvs)/\∀ p,H p=none->Q (.ref p) (upd H p (zhE p d))):=by
 intro pins s σ H x vs v us Q I rx rv h;refine zc2d h fun d kvs zr2 zr3 hd q=>?_;subst zr2;subst zr3;obtain rfl:v=Value.ref d:=rx;obtain rfl:us=[]:=Vals.zero rv;refine zc0c (zp1 I.hok hd) fun z lo zz=>zc1b zz fun ws rel dd=>?_;refine call_meetsIn PySem.F.slot_dict_items dd.typeIs PySem.F.entry_dict_items (PySem.F.args_dict_items_1 _) (meets_dict_items (zaM X.prog X.w) d lo) ⟨⟨ws,dd⟩,?_⟩;refine ⟨.ref s.heap.objs.size,upd H s.heap.objs.size (zhE s.heap.objs.size d),I.laid (t':=s.toks) (fun b o e=>Heap.get?_push_of_some _ e) (Nat.le_refl _) ?_,rfl,q _ (I.hok.fresh (Nat.le_refl _))⟩;exact ⟨⟨_,Heap.get?_push_size _ rfl,rfl,rfl⟩,⟨_,Heap.get?_push_size _ rfl⟩,fun h1 h2 z kk=>by
  refine zc1b z fun o e r=>?_;exact ⟨o,kk o e,r⟩⟩
theorem zeo (hc:X.calm=true):zat X (.builtin "sorted") (fun xs H Q=>∃ vw d r,xs=[.ref vw]/\H vw=some (zhE vw d)/\H d=some (.dK (kvR r))/\r ≠ []/\r.length<64 /\
 ∀ l L,(∀ p∈L,H p.1=none)->(L.map (·.1)).Nodup->(∀ G,Is (newH G L) (.list ((zaE pltB r).map pD)) (.ref l))->Q (.ref l) (newH H L)):=by
 intro pins s σ H xs us Q I rv h;refine zc3a h fun vw d r zz=>zc0e zz fun zr3 hv hd hne zz=>zc0b zz fun h64 q=>?_;subst zr3;refine zc1b (zcn rv) fun u zr1 ru=>?_;subst zr1;obtain rfl:u=Value.ref vw:=ru;refine zc0c ((show zbc X.prog X.w H s.heap vw (zhE vw d) from I.hok vw _ hv)) fun hview _ _=>?_;refine zc0c (zp1 I.hok hd) fun z lo zz=>zc1b zz fun ws rel zz=>zc3a zz fun od es ep zz=>zc0e zz fun d1 d2 d3 d4 zz=>zc0b zz fun d5 d6=>?_;have lk:=rel.length;have lr:(kvR r).length=r.length:=Zql _;have hat:s.heap.DictAt (zaM X.prog X.w) d ws ep:=⟨od,es,d1,d2,d3,d4,d5,d6⟩;refine zeZ (zcj.wk fun i=>r.getD i (0,0)) (W.kdx_collect (knd:=zaM X.prog X.w) (I.ok.hd hc) hview hat (by rw [<- lk,lr];exact zc3 (by omega)) fun h1 tk as kp1 la G=>?_);have lv:(as.map Value.ref).length=r.length:=by rw [Zql];omega
 have pa:∀ h',(∀ b o,h1.get? b=some o->h'.get? b=some o)->zda h' (as.map Value.ref) r:=fun h' kp=>by
  refine ⟨lv,fun i p hp=>?_⟩;have hi:i<as.length:=by
   have:=(List.getElem?_eq_some_iff.mp hp).1;omega
  refine zc3c (G.pairs i as[i] (Zqg hi)) fun key k x g1 g2 g3=>?_;have kv:KV (kvR r) ws:=rel;have hk:(kvR r)[i]? = some (Sum.inl p.1,V.int p.2):=by unfold kvR;rw [List.getElem?_map,hp];rfl
  have both:∀ {l1:List (Key×V)} {l2:List (Key×Value)} {i:Nat} {a:Key×V} {b:Key×Value},KV l1 l2->l1[i]? = some a->l2[i]? = some b->a.1=b.1/\RelV a.2 b.2:=by
   intro l1 l2 i a b hkv;unfold KV at hkv
   induction hkv generalizing i with
   |nil=>intro e;simp at e
   |cons hh tt ih =>
    cases i with
    |zero =>
     intro e1 e2;simp at e1 e2;subst e1 e2;exact hh
    |succ i =>
     intro e1 e2;exact ih (by simpa using e1) (by simpa using e2)
  obtain ⟨b1,b2⟩:=both kv hk g1;have b1:(Sum.inl p.1:Key)=k:=b1;subst b1;obtain ⟨t1,rfl⟩:=(show ∃ t,x=Value.int p.2 t from b2);obtain ⟨t0,rfl⟩:∃ t,key=Value.int p.1 t:=by
   rcases zaL (show zi4 (Sum.inl p.1) key=true from g2) with ⟨i0,t,e1,e2⟩|⟨x0,t,e1,e2⟩
   ·cases e1;exact ⟨t,e2⟩
   ·cases e1
  exact ⟨as[i],_,_,t0,t1,by rw [List.getElem?_map,Zqg hi];rfl,kp _ _ g3,rfl,rfl⟩
 refine ⟨by omega,fun h' kp h2=>zjJ (pa h' kp) h2,fun jx h' l p u kp hl gl=>?_⟩;obtain ⟨e,gl⟩:=gl;rw [lv] at p u;have kk:∀ b o,s.heap.get? b=some o->h'.get? b=some o:=fun b o e=>kp b o (kp1 b o e);have asl:∀ a∈as,s.heap.objs.size<a:=G.above;have ash:∀ a∈as,a<l:=fun a ha=>Nat.lt_of_lt_of_le (G.there ha) hl;have szl:s.heap.objs.size<=l:=by
  cases as with
  |nil=>exact absurd (List.length_eq_zero_iff.mp (by rw [<- lv];rfl)) hne
  |cons a as'=>exact Nat.le_of_lt (Nat.lt_trans (asl a Zqs) (ash a Zqs))
 obtain ⟨L,hL⟩:∃ L:List (Addr×HO),L=(l,.lst (jx.toList.map fun i=>V.ref (as.getD i 0)))::(as.zip r).map fun z=>(z.1,HO.tup [.int z.2.1,.int z.2.2]):=⟨_,rfl⟩;have keysL:L.map (·.1)=l::as:=by
  rw [hL,List.map_cons,List.map_map];show l::(as.zip r).map (fun z=>z.1)=_;rw [List.map_fst_zip (by omega)]
 have nd:(L.map (·.1)).Nodup:=by
  rw [keysL];refine List.nodup_cons.mpr ⟨fun m=>Nat.lt_irrefl _ (ash l m),?_⟩;exact G.rise.imp fun hlt=>Nat.ne_of_lt hlt
 have inL:∀ p∈L,s.heap.objs.size<=p.1:=fun p hp=>by
  have:p.1∈L.map (·.1):=List.mem_map.mpr ⟨p,hp,rfl⟩;rw [keysL] at this;rcases List.mem_cons.mp this with z|z
  ·rw [z];exact szl
  ·exact Nat.le_of_lt (asl _ z)
 have tupAt:∀ (G:Hp) (i:Nat) p,r[i]? = some p->newH G L (as.getD i 0)=some (.tup [.int p.1,.int p.2]):=fun G i p hp=>by
  have hi:i<as.length:=by
   have:=(List.getElem?_eq_some_iff.mp hp).1;omega
  refine zjt nd ?_;rw [hL];refine Zqm _ (List.mem_map.mpr ⟨(as[i],p),?_,by rw [zap (Zqg hi)]⟩);refine List.mem_of_getElem? (i:=i) ?_;rw [List.getElem?_zip_eq_some];exact ⟨Zqg hi,hp⟩
 refine ⟨.ref l,newH H L,I.laidMany (t':=tk) kk inL fun y hy=>?_,rfl,q l L (fun p hp=>I.hok.fresh (inL p hp)) nd fun G'=>?_⟩
 ·rw [hL] at hy;rcases List.mem_cons.mp hy with z'|z'
  ·rw [z'];refine ⟨?_,jx.toList.map (nthV (as.map Value.ref)),e,?_,?_⟩
   ·rw [Zql,p.len];exact zc3 (by omega)
   ·refine zcg fun i hi=>?_;have hn:=p.mem hi;have hi':i<as.length:=by omega
    unfold nthV;rw [zap (Zqg hi'),zap (x:=Value.ref as[i]) (by rw [List.getElem?_map,Zqg hi'];rfl)];rfl
   ·rw [gl]
    congr 3
    apply Array.ext';simp
  ·refine zc1b (List.mem_map.mp z') fun zr0 hm zr2=>?_;obtain ⟨a,p'⟩:=zr0;subst zr2;obtain ⟨i,hi⟩:=List.mem_iff_getElem?.mp hm;rw [List.getElem?_zip_eq_some] at hi;obtain ⟨i1,i2⟩:=hi;refine zc4a ((pa h' kp).2 i p' i2) fun a' o' n' t' zz=>zc1d zz fun u' f1 f2 f3 f4=>?_;rw [List.getElem?_map,i1] at f1;cases f1;refine zc3c (G.pairs i a i1) fun key k x g1 g2 g3=>?_;have g3':=kp _ _ g3;rw [g3'] at f2;obtain rfl:=Zqi f2;exact ⟨⟨(by show 2<=sizeLine;decide),_,g3',rfl⟩,[.int p'.1 t',.int p'.2 u'],.cons ⟨t',rfl⟩ (.cons ⟨u',rfl⟩ .nil),_,g3',rfl,n',f4⟩
 ·rw [Is.list_iff];refine ⟨l,_,rfl,zjt nd (by rw [hL];exact Zqs),?_⟩;rw [<- zbG zcj p u,List.map_map];refine zgO fun i hi=>?_;have hn:=p.mem hi;refine zgz.mpr ⟨as.getD i 0,rfl,?_⟩;have:=tupAt G' i (r.getD i (0,0)) (by rw [zap (Zqg hn)];exact Zqg hn);exact this
end
noncomputable def putR (r:List (Int×Int))(t w:Int):List (Int×Int):=if (r.any fun p=>decide (p.1=t))=true then r.map (fun p=>if p.1=t then (p.1,w) else p) else r++[(t,w)]
theorem zkF {a b:Int}:decide ((Sum.inl a:Key)=Sum.inl b)=decide (a=b):=by
 by_cases h:a=b
 ·rw [h,decide_eq_true rfl,decide_eq_true rfl]
 ·rw [decide_eq_false h,decide_eq_false (fun z=>h (by injection z))]
theorem znh (r:List (Int×Int))(t w:Int):putK (kvR r) (Sum.inl t) (V.int w)=kvR (putR r t w):=by
 have e:((kvR r).any fun kv=>decide (kv.1=Sum.inl t))=r.any fun p=>decide (p.1=t):=by
  unfold kvR;rw [List.any_map]
  congr 1
  funext p
  exact zkF
 unfold putK putR;rw [e]
 split
 ·unfold kvR;rw [List.map_map,List.map_map];apply List.map_congr_left;intro p _;by_cases c:p.1=t
  ·simp [c]
  ·have c':¬ (Sum.inl p.1:Key)=Sum.inl t:=fun z=>c (by injection z);simp [c]
 ·unfold kvR;rw [List.map_append];rfl
theorem zbL (p:Int×Int)(r:List (Int×Int))(t:Int):zam (p::r) t=match zam r t with|some w=>some w|none=>if p.1=t then some p.2 else none:=rfl
theorem zkP (r:List (Int×Int))(t w j:Int):zam (r.map fun p=>if p.1=t then (p.1,w) else p) j=(zam r j).map fun x=>if j=t then w else x:=by
 induction r with
 |nil=>rfl
 |cons p r ih =>
  rw [List.map_cons,zbL,zbL,ih];cases q:zam r j with
  |some x=>rfl
  |none =>
   dsimp only [Option.map];by_cases c:p.1=t
   ·rw [if_pos c];by_cases d:p.1=j
    ·rw [if_pos d,if_pos d];show some w=some (if j=t then w else p.2);rw [if_pos (d.symm.trans c)]
    ·rw [if_neg d,if_neg d]
   ·rw [if_neg c];by_cases d:p.1=j
    ·rw [if_pos d];show some p.2=some (if j=t then w else p.2);rw [if_neg (fun z=>c (d.trans z))]
    ·rw [if_neg d]
theorem znZ (r:List (Int×Int))(t:Int):(r.any fun p=>decide (p.1=t))=(zam r t).isSome:=by
 cases q:zam r t with
 |none =>
  rw [Option.isSome_none,List.any_eq_false];rintro ⟨a,b⟩ hm;by_cases e:a=t
  ·subst e;exact absurd hm (zga q b)
  ·simp [e]
 |some w =>
  rw [Option.isSome_some,List.any_eq_true];exact ⟨_,za3 q,by simp⟩
theorem zkZ (r:List (Int×Int))(t w j:Int):zam (putR r t w) j=if j=t then some w else zam r j:=by
 unfold putR;rw [znZ];by_cases a:(zam r t).isSome=true
 ·rw [if_pos a,zkP];by_cases e:j=t
  ·rw [if_pos e,e];obtain ⟨x,hx⟩:=Option.isSome_iff_exists.mp a;rw [hx];simp
  ·rw [if_neg e];cases zam r j with
   |none=>rfl
   |some x=>simp [e]
 ·rw [if_neg a,zgT];have n:zam r t=none:=by
   cases q:zam r t with
   |none=>rfl
   |some x=>rw [q] at a;exact absurd rfl a
  rw [zbL];show (match (if t=j then some w else none) with|some w=>some w|none=>zam r j)=_;by_cases e:j=t
  ·rw [if_pos e,if_pos e.symm]
  ·rw [if_neg e,if_neg (fun z=>e z.symm)]
theorem zoh (r:List (Int×Int))(t w:Int):(putR r t w).map (·.1)=if (r.any fun p=>decide (p.1=t))=true then r.map (·.1) else r.map (·.1)++[t]:=by
 unfold putR
 split
 ·rw [List.map_map];apply List.map_congr_left;intro p _;by_cases c:p.1=t
  ·simp [c]
  ·simp [c]
 ·rw [List.map_append];rfl
theorem zmj {r:List (Int×Int)}{t w:Int}(h:Once r):Once (putR r t w):=by
 unfold Once;rw [zoh]
 split
 ·exact h
 ·rename_i c;unfold Once at h;rw [List.nodup_append];refine ⟨h,by simp,fun a ha b hb=>?_⟩;simp at hb;subst hb;rintro rfl;refine zc1b (List.mem_map.mp ha) fun p hp e=>?_;exact c (List.any_eq_true.mpr ⟨p,hp,by simp [e]⟩)
theorem znW (r:List (Int×Int))(t w:Int):(putR r t w).length<=r.length+1:=by
 unfold putR
 split
 ·rw [Zql];omega
 ·rw [List.length_append];exact Nat.le_refl _
theorem zh9:∀ (r acc:List (Int×Int)),zfe (kvR acc) (kvR r)=kvR (r.foldl (fun a p=>putR a p.1 p.2) acc)
 | [],acc=>rfl
 |p::r,acc=>by
  have e:zfe (kvR acc) (kvR (p::r))=zfe (putK (kvR acc) (Sum.inl p.1) (V.int p.2)) (kvR r):=rfl;rw [e,znh,zh9 r];rfl
theorem zho:∀ (r acc:List (Int×Int)),Once (acc++r)->r.foldl (fun a p=>putR a p.1 p.2) acc=acc++r
 | [],acc,_=>by simp
 |p::r,acc,h=>by
  have hn:(acc.any fun q=>decide (q.1=p.1))=false:=by
   rw [List.any_eq_false];intro q hq;simp;intro e;unfold Once at h;rw [List.map_append,List.nodup_append] at h;exact h.2.2 q.1 (List.mem_map.mpr ⟨q,hq,rfl⟩) p.1 (by simp) e
  have e:putR acc p.1 p.2=acc++[p]:=by
   unfold putR;rw [hn];simp
  rw [List.foldl_cons,e,zho r (acc++[p]) (by rw [List.append_assoc];exact h),List.append_assoc];rfl
noncomputable def jw:Option Int->Option Int->Option Int
 |none,b=>b
 |some x,none=>some x
 |some x,some y=>some (if x > y then x else y)
def zbK (acc:List (Int×Int))(p:Int×Int):List (Int×Int):=putR acc p.1 (if (zam acc p.1).getD p.2 > p.2 then (zam acc p.1).getD p.2 else p.2)
def zbr (r o:List (Int×Int)):List (Int×Int):=o.foldl zbK r
theorem zgp (acc:List (Int×Int))(p:Int×Int)(t:Int):zam (zbK acc p) t=if t=p.1 then jw (zam acc t) (some p.2) else zam acc t:=by
 unfold zbK;rw [zkZ];by_cases e:t=p.1
 ·rw [if_pos e,if_pos e,e];cases zam acc p.1 with
  |none=>simp [jw]
  |some x=>simp [jw]
 ·rw [if_neg e,if_neg e]
theorem zc7 (t:Int):∀ (o r:List (Int×Int)),Once o->zam (zbr r o) t=jw (zam r t) (zam o t)
 | [],r,_=>by
  show zam r t=jw (zam r t) none;cases zam r t<;>rfl
 |p::o,r,h=>by
  obtain ⟨h1,h2⟩:=List.nodup_cons.mp (show (p.1::o.map (·.1)).Nodup from h);have e:zbr r (p::o)=zbr (zbK r p) o:=rfl;rw [e,zc7 t o _ h2,zgp,zbL];by_cases c:t=p.1
  ·have n:zam o t=none:=by
    cases q:zam o t with
    |none=>rfl
    |some w=>exact absurd (List.mem_map.mpr ⟨_,za3 q,c⟩) h1
   rw [if_pos c,n];dsimp only;rw [if_pos c.symm];cases jw (zam r t) (some p.2)<;>rfl
  ·rw [if_neg c];cases zam o t with
   |some w=>rfl
   |none =>
    dsimp only;rw [if_neg (fun z=>c z.symm)]
theorem zcF:∀ (o r:List (Int×Int)),Once r->Once (zbr r o)
 | [],r,h=>h
 |p::o,r,h=>zcF o _ (zmj h)
theorem zfa:∀ (o r:List (Int×Int)),(zbr r o).length<=r.length+o.length
 | [],r=>Nat.le_refl _
 |p::o,r=>by
  have a:=zfa o (zbK r p);have b:(zbK r p).length<=r.length+1:=znW _ _ _;show (zbr (zbK r p) o).length<=_;rw [List.length_cons];omega
theorem zjw {r o:List (Int×Int)}(h:r ≠ [])(wo:Once o):zbr r o ≠ []:=by
 intro z;cases r with
 |nil=>exact h rfl
 |cons p r =>
  have q:=zc7 p.1 o (p::r) wo;rw [z] at q;have:∃ x,zam (p::r) p.1=some x:=by
   rw [zbL];cases zam r p.1 with
   |some x=>exact ⟨x,rfl⟩
   |none=>exact ⟨p.2,if_pos rfl⟩
  obtain ⟨x,hx⟩:=this;rw [hx] at q;cases hq:zam o p.1 with
  |none=>rw [hq] at q;exact zqn q
  |some y=>rw [hq] at q;exact zqn q
theorem ziO {r:List (Int×Int)}(h:Once r){t w:Int}:(t,w)∈r↔zam r t=some w:=⟨fun m=>h.look m,za3⟩
theorem zb0 {α : Type}{ltb:α -> α -> Bool}(T:Tot ltb):∀ {a b:List α},a.Pairwise (fun x y=>ltb x y=true)->b.Pairwise (fun x y=>ltb x y=true)->(∀ x,x∈a↔x∈b)->a=b
 | [],[],_,_,_=>rfl
 | [],y::b,_,_,h=>by
  have z:y∈([]:List α):=(h y).mpr Zqs;cases z
 |x::a,[],_,_,h=>by
  have z:x∈([]:List α):=(h x).mp Zqs;cases z
 |x::a,y::b,ha,hb,h=>by
  obtain ⟨a1,a2⟩:=List.pairwise_cons.mp ha;obtain ⟨b1,b2⟩:=List.pairwise_cons.mp hb;have e:x=y:=by
   rcases List.mem_cons.mp ((h x).mp Zqs) with z|z
   ·exact z
   ·rcases List.mem_cons.mp ((h y).mpr Zqs) with u|u
    ·exact u.symm
    ·have:=T.asy _ _ (b1 x z);rw [a1 y u] at this;cases this
  subst e
  congr 1
  refine zb0 T a2 b2 fun z=>⟨fun hz=>?_,fun hz=>?_⟩
  ·rcases List.mem_cons.mp ((h z).mp (Zqm _ hz)) with u|u
   ·rw [u] at hz;have:=a1 x hz;rw [T.irr] at this;exact zqb this
   ·exact u
  ·rcases List.mem_cons.mp ((h z).mpr (Zqm _ hz)) with u|u
   ·rw [u] at hz;have:=b1 x hz;rw [T.irr] at this;exact zqb this
   ·exact u
theorem zef {α β : Type}(f:α -> β):∀ {l:List α},(l.map f).Nodup->l.Nodup
 | [],_=>List.nodup_nil
 |x::r,h=>by
  rw [List.map_cons,List.nodup_cons] at h;exact List.nodup_cons.mpr ⟨fun m=>h.1 (List.mem_map_of_mem m),zef f h.2⟩
theorem zgS {r:List (Int×Int)}(h:Once r):(zaE pltB r).Pairwise fun x y=>pltB x y=true:=by
 have hp:=zal (ltb:=pltB) r;have nd:(zaE pltB r).Nodup:=hp.nodup_iff.mpr (zef (fun p:Int×Int=>p.1) h);have sd:=zbV zcj r;have both:(zaE pltB r).Pairwise fun x y=>pltB y x=false/\x≠y:=List.Pairwise.and sd nd;refine both.imp fun {x y} z=>?_;cases q:pltB x y with
 |true=>rfl
 |false=>exact absurd (zcj.tot _ _ q z.1) z.2
end L2
namespace L2.DL
theorem zgv {c:Prop}{_:Decidable c}{α : Type}{a z:α}(h:(if c then some a else none)=some z):c/\a=z:=by
 by_cases q:c
 ·rw [if_pos q] at h;exact ⟨q,Zqi h⟩
 ·rw [if_neg q] at h;exact zqn h
inductive D where
 |non|bl (b:Bool)|int (i:Int)|str (x:Str)|ty (n:String)|scr (ns:List Int)
 |tup (ds:List D)|lst (ds:List D)|dct (ks:List Key) (ds:List D)|ins (c:Str) (fs:List Str) (ds:List D)
 |exc (c:Str)|ucl (c:Str)
inductive Res (α : Type) where
 |ok (a:α)|ex (c:Str) (fs:List D)|no
noncomputable def Res.bind {α β : Type}(r:Res α)(g:α -> Res β):Res β := match r with
 | .ok a=>g a
 | .ex c fs=>.ex c fs
 | .no=>.no
noncomputable def Res.need {α : Type}(r:Res α)(p:α -> Prop)(q:Str->List D->Prop):Prop:=match r with
 | .ok a=>p a
 | .ex c fs=>q c fs
 | .no=>False
@[simp] theorem Res.bind_ok {α β : Type}(a:α)(g:α -> Res β):(Res.ok a).bind g=g a:=rfl
@[simp] theorem Res.bind_ex {α β : Type}(c:Str)(fs:List D)(g:α -> Res β):(Res.ex c fs:Res α).bind g=.ex c fs:=rfl
@[simp] theorem Res.bind_no {α β : Type}(g:α -> Res β):(Res.no:Res α).bind g=.no:=rfl
theorem Res.need_bind {α β : Type}{r:Res α}{g:α -> Res β}{p:β -> Prop}{q:Str->List D->Prop}(h:(r.bind g).need p q):r.need (fun a=>(g a).need p q) q:=by
 cases r<;>exact h
theorem Res.need.mono {α : Type}{r:Res α}{p p' : α -> Prop}{q q':Str->List D->Prop}(h:r.need p q)(hp:∀ a,p a->p' a)(hq:∀ c fs,q c fs->q' c fs):r.need p' q':=by
 cases r with
 |ok a=>exact hp a h
 |ex c fs=>exact hq c fs h
 |no=>exact h
theorem Res.need.monoE {α : Type}{r:Res α}{p p' : α -> Prop}{q q':Str->List D->Prop}(h:r.need p q)(hp:∀ a,r=.ok a->p a->p' a)(hq:∀ c fs,q c fs->q' c fs):r.need p' q':=by
 cases r with
 |ok a=>exact hp a rfl h
 |ex c fs=>exact hq c fs h
 |no=>exact h
noncomputable def ExcO (C x:Addr):HO:=.ext fun h=>∃ o,h.get? x=some o/\o.cls=.ref C
noncomputable def TupD (_:W.Frag)(H:Hp)(a:Addr)(xs:List V):Prop:=H a=some (.tup xs)
theorem TupD.same {K:W.Frag}{H H':Hp}{a:Addr}{xs:List V}(e:Same H H')(h:TupD K H a xs):TupD K H' a xs:=e _ _ h
theorem TupD.of {K:W.Frag}{H:Hp}{a:Addr}{xs:List V}(h:H a=some (.tup xs)):TupD K H a xs:=h
theorem TupD.sq {K:W.Frag}{H:Hp}{a:Addr}{xs:List V}(h:TupD K H a xs):SqT K H a xs:=SqT.of h
noncomputable def LstD (_:W.Frag)(H:Hp)(a:Addr)(xs:List V):Prop:=Rd H a (.lst xs)
theorem LstD.same {K:W.Frag}{H H':Hp}{a:Addr}{xs:List V}(e:Same H H')(h:LstD K H a xs):LstD K H' a xs:=h.imp (fun q=>e _ _ q) (by rintro ⟨o,q⟩;exact ⟨o,e _ _ q⟩)
theorem LstD.of {K:W.Frag}{H:Hp}{a:Addr}{xs:List V}(h:H a=some (.lst xs)):LstD K H a xs:=.inl h
theorem LstD.sq {K:W.Frag}{H:Hp}{a:Addr}{xs:List V}(h:LstD K H a xs):SqL K H a xs:=.inl h
section
variable (K:W.Frag)
mutual
noncomputable def IsD (H:Hp):D->V->Prop
 | .non,v=>v=.non
 | .bl b,v=>v=.bl b
 | .int i,v=>v=.int i
 | .str x,v=>v=.str x
 | .ty n,v=>v=.ty n
 | .scr ns,v=>∃ a,v=.ref a/\SqL K H a (ns.map V.int)
 | .tup ds,v=>∃ a xs,v=.ref a/\TupD K H a xs/\IsDs H ds xs
 | .lst ds,v=>∃ a xs,v=.ref a/\LstD K H a xs/\IsDs H ds xs
 | .dct ks ds,v=>∃ a xs,v=.ref a/\H a=some (.dK (ks.zip xs))/\ks.length=xs.length/\IsDs H ds xs
 | .ins c fs ds,v=>∃ a C dx xs,v=.ref a/\W.nsIn K mainGlobals c=some (some (.ref C))/\H a=some (.ins C dx (fs.zip xs))/\fs.length=xs.length/\IsDs H ds xs
 | .exc c,v=>∃ a C,v=.ref a/\W.nsIn K mainGlobals c=some (some (.ref C))/\H a=some (ExcO C a)
 | .ucl c,v=>∃ C,v=.ref C/\W.nsIn K mainGlobals c=some (some (.ref C))
noncomputable def IsDs (H:Hp):List D->List V->Prop
 | [],xs=>xs=[]
 |d::ds,xs=>∃ x r,xs=x::r/\IsD H d x/\IsDs H ds r
end
end
section
variable {K:W.Frag}{H H':Hp}
theorem IsD.non_iff {v:V}:IsD K H .non v↔v=.non:=.rfl
theorem IsD.bl_iff {b:Bool}{v:V}:IsD K H (.bl b) v↔v=.bl b:=.rfl
theorem IsD.int_iff {i:Int}{v:V}:IsD K H (.int i) v↔v=.int i:=.rfl
theorem IsD.str_iff {x:Str}{v:V}:IsD K H (.str x) v↔v=.str x:=.rfl
theorem IsD.ty_iff {n:String}{v:V}:IsD K H (.ty n) v↔v=.ty n:=.rfl
theorem IsD.scr_iff {ns:List Int}{v:V}:IsD K H (.scr ns) v↔∃ a,v=.ref a/\SqL K H a (ns.map V.int):=.rfl
theorem IsD.tup_iff {ds:List D}{v:V}:IsD K H (.tup ds) v↔∃ a xs,v=.ref a/\TupD K H a xs/\IsDs K H ds xs:=.rfl
theorem IsD.lst_iff {ds:List D}{v:V}:IsD K H (.lst ds) v↔∃ a xs,v=.ref a/\LstD K H a xs/\IsDs K H ds xs:=.rfl
theorem IsD.dct_iff {ks:List Key}{ds:List D}{v:V}:IsD K H (.dct ks ds) v↔∃ a xs,v=.ref a/\H a=some (.dK (ks.zip xs))/\ks.length=xs.length/\IsDs K H ds xs:=.rfl
theorem IsD.ins_iff {c:Str}{fs:List Str}{ds:List D}{v:V}:IsD K H (.ins c fs ds) v↔∃ a C dx xs,v=.ref a/\W.nsIn K mainGlobals c=some (some (.ref C))/\H a=some (.ins C dx (fs.zip xs))/\fs.length=xs.length/\IsDs K H ds xs:=.rfl
theorem IsD.exc_iff {c:Str}{v:V}:IsD K H (.exc c) v↔∃ a C,v=.ref a/\W.nsIn K mainGlobals c=some (some (.ref C))/\H a=some (ExcO C a):=.rfl
theorem IsD.ucl_iff {c:Str}{v:V}:IsD K H (.ucl c) v↔∃ C,v=.ref C/\W.nsIn K mainGlobals c=some (some (.ref C)):=.rfl
theorem IsDs.nil_iff {xs:List V}:IsDs K H [] xs↔xs=[]:=.rfl
theorem IsDs.cons_iff {d:D}{ds:List D}{xs:List V}:IsDs K H (d::ds) xs↔∃ x r,xs=x::r/\IsD K H d x/\IsDs K H ds r:=.rfl
mutual
theorem IsD.same (e:Same H H'):∀ (d:D) (v:V),IsD K H d v->IsD K H' d v
 | .non,_,h=>h
 | .bl _,_,h=>h
 | .int _,_,h=>h
 | .str _,_,h=>h
 | .ty _,_,h=>h
 | .scr _,_,h=>by
  refine zc1b (IsD.scr_iff.mp h) fun a h1 h2=>?_;exact IsD.scr_iff.mpr ⟨a,h1,Same.seq e h2⟩
 | .tup ds,_,h=>by
  refine zc2c (IsD.tup_iff.mp h) fun a xs h1 h2 h3=>?_;exact IsD.tup_iff.mpr ⟨a,xs,h1,h2.same e,IsDs.same e ds xs h3⟩
 | .lst ds,_,h=>by
  refine zc2c (IsD.lst_iff.mp h) fun a xs h1 h2 h3=>?_;exact IsD.lst_iff.mpr ⟨a,xs,h1,h2.same e,IsDs.same e ds xs h3⟩
 | .dct ks ds,_,h=>by
  refine zc2d (IsD.dct_iff.mp h) fun a xs h1 h2 h4 h3=>?_;exact IsD.dct_iff.mpr ⟨a,xs,h1,e _ _ h2,h4,IsDs.same e ds xs h3⟩
 | .ins c fs ds,_,h=>by
  refine zc4a (IsD.ins_iff.mp h) fun a C dx xs zz=>zc0e zz fun h1 h5 h2 h4 h3=>?_;exact IsD.ins_iff.mpr ⟨a,C,dx,xs,h1,h5,e _ _ h2,h4,IsDs.same e ds xs h3⟩
 | .exc _,_,h=>by
  refine zc2c (IsD.exc_iff.mp h) fun a C h1 h2 h3=>?_;exact IsD.exc_iff.mpr ⟨a,C,h1,h2,e _ _ h3⟩
 | .ucl _,_,h=>h
theorem IsDs.same (e:Same H H'):∀ (ds:List D) (xs:List V),IsDs K H ds xs->IsDs K H' ds xs
 | [],_,h=>h
 |d::ds,_,h=>by
  refine zc2c (IsDs.cons_iff.mp h) fun x r h1 h2 h3=>?_;exact IsDs.cons_iff.mpr ⟨x,r,h1,IsD.same e d x h2,IsDs.same e ds r h3⟩
end
theorem IsDs.mk {d:D}{ds:List D}{x:V}{xs:List V}(h:IsD K H d x)(r:IsDs K H ds xs):IsDs K H (d::ds) (x::xs):=IsDs.cons_iff.mpr ⟨x,xs,rfl,h,r⟩
theorem IsDs.nil:IsDs K H [] []:=IsDs.nil_iff.mpr rfl
theorem IsDs.length:∀ {ds:List D} {xs:List V},IsDs K H ds xs->xs.length=ds.length
 | [],xs,h=>by rw [IsDs.nil_iff] at h;subst h;rfl
 |d::ds,xs,h=>by
  rw [IsDs.cons_iff] at h;obtain ⟨x,r,rfl,_,h3⟩:=h;rw [List.length_cons,List.length_cons,IsDs.length h3]
theorem IsDs.get:∀ {ds:List D} {xs:List V} {i:Nat} {d:D},IsDs K H ds xs->ds[i]? = some d->∃ x,xs[i]? = some x/\IsD K H d x
 | [],_,_,_,_,e=>by exact zqn e
 |d::ds,xs,i,e,h,q=>by
  rw [IsDs.cons_iff] at h;refine zc2c h fun x r zr2 h2 h3=>?_;subst zr2;cases i with
  |zero=>cases q;exact ⟨x,rfl,h2⟩
  |succ i=>exact IsDs.get (i:=i) h3 q
theorem IsDs.getV {ds:List D}{xs:List V}{i:Nat}{x:V}(h:IsDs K H ds xs)(q:xs[i]? = some x):∃ d,ds[i]? = some d/\IsD K H d x:=by
 have hl:=h.length;have hi:i<ds.length:=by rw [<- hl];exact (List.getElem?_eq_some_iff.mp q).1
 refine zc1b (h.get (Zqg hi)) fun y h1 h2=>?_;rw [q] at h1;obtain rfl:=Zqi h1;exact ⟨_,Zqg hi,h2⟩
theorem IsDs.append:∀ {ds es:List D} {xs ys:List V},IsDs K H ds xs->IsDs K H es ys->IsDs K H (ds++es) (xs++ys)
 | [],_,xs,_,h,h'=>by rw [IsDs.nil_iff] at h;subst h;exact h'
 |d::ds,_,xs,_,h,h'=>by
  rw [IsDs.cons_iff] at h;refine zc2c h fun x r zr2 h2 h3=>?_;subst zr2;exact IsDs.mk h2 (IsDs.append h3 h')
theorem IsDs.snoc {ds:List D}{xs:List V}{d:D}{x:V}(h:IsDs K H ds xs)(h':IsD K H d x):IsDs K H (ds++[d]) (xs++[x]):=h.append (.mk h' .nil)
theorem IsDs.set:∀ (n:Nat) {ds:List D} {xs:List V} {d:D} {x:V},IsDs K H ds xs->IsD K H d x->IsDs K H (ds.set n d) (xs.set n x)
 |_,[],xs,_,_,h,_=>by rw [IsDs.nil_iff] at h;subst h;exact .nil
 | 0,d::ds,xs,_,_,h,q=>by
  rw [IsDs.cons_iff] at h;refine zc2c h fun x r zr2 h2 h3=>?_;subst zr2;exact IsDs.mk q h3
 |n+1,d::ds,xs,_,_,h,q=>by
  rw [IsDs.cons_iff] at h;refine zc2c h fun x r zr2 h2 h3=>?_;subst zr2;exact IsDs.mk h2 (IsDs.set n h3 q)
theorem IsDs.ints:∀ (ns:List Int),IsDs K H (ns.map D.int) (ns.map V.int)
 | []=>.nil
 |n::ns=>.mk (IsD.int_iff.mpr rfl) (IsDs.ints ns)
theorem IsDs.ints_iff:∀ {ns:List Int} {xs:List V},IsDs K H (ns.map D.int) xs->xs=ns.map V.int
 | [],_,h=>IsDs.nil_iff.mp h
 |n::ns,xs,h=>by
  rw [List.map_cons,IsDs.cons_iff] at h;obtain ⟨x,r,rfl,h2,h3⟩:=h;rw [IsD.int_iff] at h2;rw [h2,IsDs.ints_iff h3];rfl
end
structure Ext (F H F' H':Hp):Prop where
 ff:Same F F'
 fh:Same F' H'
 hh:Same H H'
 new:∀ a,F a=none->H a≠none->F' a=none
theorem Ext.refl {F H:Hp}(h:Same F H):Ext F H F H:=⟨.refl _,h,.refl _,fun _ e _=>e⟩
theorem Ext.trans {F H F1 H1 F2 H2:Hp}(a:Ext F H F1 H1)(b:Ext F1 H1 F2 H2):Ext F H F2 H2 :=
 ⟨a.ff.trans b.ff,b.fh,a.hh.trans b.hh,fun x e n=>b.new x (a.new x e n) (by
  cases q:H x with
  |none=>exact absurd q n
  |some o=>rw [a.hh _ _ q];simp)⟩
theorem za4 {F H:Hp}{p:Addr}(h:Same F H)(hp:H p=none):F p=none:=h.free hp
theorem Ext.alloc {F H:Hp}{p:Addr}(h:Same F H)(hp:H p=none)(o:HO):Ext F H (upd F p o) (upd H p o) :=
 ⟨zbv (h.free hp) o,fun b u e=>by
  by_cases q:b=p
  ·subst q;rw [zao] at e ⊢;exact e
  ·rw [za9 q] at e ⊢;exact h _ _ e,zbv hp o,fun a e n=>by
  have q:a≠p:=fun z=>n (by rw [z];exact hp);rw [za9 q];exact e⟩
theorem Ext.keep {F H:Hp}{p:Addr}(h:Same F H)(hp:H p=none)(o:HO):Ext F H F (upd H p o) :=
 ⟨.refl _,h.trans (zbv hp o),zbv hp o,fun _ e _=>e⟩
theorem Ext.grow {F H H':Hp}(h:Same F H)(hh:Same H H'):Ext F H F H':=⟨.refl _,h.trans hh,hh,fun _ e _=>e⟩
inductive SV where
 |val (d:D)|own (p:Bool) (d:D)
structure Bs where
 F0:Hp
 H0:Hp
 pa:Nat->Option (Addr×List V)
abbrev SD:=List (Option SV)
def zeB (K:W.Frag)(F H:Hp)(l:Addr):D->Prop
 | .lst ds=>∃ xs,H l=some (.lst xs)/\IsDs K F ds xs
 | .dct ks ds=>∃ xs,H l=some (.dK (ks.zip xs))/\ks.length=xs.length/\IsDs K F ds xs
 | .ins c fs ds=>∃ C dx xs,W.nsIn K mainGlobals c=some (some (.ref C))/\H l=some (.ins C dx (fs.zip xs))/\fs.length=xs.length/\IsDs K F ds xs
 |_=>False
theorem zeB.has {K:W.Frag}{F H:Hp}{l:Addr}{d:D}(h:zeB K F H l d):∃ o,H l=some o:=by
 cases d with
 |lst ds=>obtain ⟨xs,e,_⟩:=h;exact ⟨_,e⟩
 |dct ks ds=>obtain ⟨xs,e,_⟩:=h;exact ⟨_,e⟩
 |ins c fs ds=>obtain ⟨C,dx,xs,_,e,_⟩:=h;exact ⟨_,e⟩
 |_=>exact False.elim h
theorem zeB.ext {K:W.Frag}{F H F' H':Hp}{l:Addr}{d:D}(h:zeB K F H l d)(ff:Same F F')(hh:∀ o,H l=some o->H' l=some o):zeB K F' H' l d:=by
 cases d with
 |lst ds=>obtain ⟨xs,e,q⟩:=h;exact ⟨xs,hh _ e,IsDs.same ff _ _ q⟩
 |dct ks ds=>obtain ⟨xs,e,z,q⟩:=h;exact ⟨xs,hh _ e,z,IsDs.same ff _ _ q⟩
 |ins c fs ds=>obtain ⟨C,dx,xs,k,e,z,q⟩:=h;exact ⟨C,dx,xs,k,hh _ e,z,IsDs.same ff _ _ q⟩
 |_=>exact False.elim h
theorem zeB.frz {K:W.Frag}{F H:Hp}{l:Addr}{d:D}{o:HO}(h:zeB K F H l d)(e:H l=Option.some o)(n:F l=none):IsD K (upd F l o) d (.ref l):=by
 cases d with
 |lst ds =>
  refine zc1b h fun xs e' q=>?_;rw [e] at e';obtain rfl:=Zqi e';exact IsD.lst_iff.mpr ⟨l,xs,rfl,.of zao,IsDs.same (zbv n _) _ _ q⟩
 |dct ks ds =>
  refine zc1c h fun xs e' z q=>?_;rw [e] at e';obtain rfl:=Zqi e';exact IsD.dct_iff.mpr ⟨l,xs,rfl,zao,z,IsDs.same (zbv n _) _ _ q⟩
 |ins c fs ds =>
  refine zc3a h fun C dx xs zz=>zc0d zz fun k e' z q=>?_;rw [e] at e';obtain rfl:=Zqi e';exact IsD.ins_iff.mpr ⟨l,C,dx,xs,rfl,k,zao,z,IsDs.same (zbv n _) _ _ q⟩
 |_=>exact False.elim h
noncomputable def zox (H:Hp)(l:Addr)(o:Option (Addr×List V)):Prop:=∃ xs,o=some (l,xs)/\H l=some (.lst xs)
structure RS (K:W.Frag)(B:Bs)(F H:Hp)(sd:SD)(σ : St):Prop where
 ext:Ext B.F0 B.H0 F H
 len:σ.length=sd.length
 val:∀ {i:Nat} {d:D},sd[i]? = some (some (.val d))->∃ v,σ[i]? = some (some v)/\IsD K F d v
 own:∀ {i:Nat} {p:Bool} {d:D},sd[i]? = some (some (.own p d))->∃ l,σ[i]? = some (some (.ref l))/\B.H0 l=none/\F l=none/\zeB K F H l d/\(p=true->zox H l (B.pa i))
 apart:∀ {i j:Nat} {p q:Bool} {d e:D} {l:Addr},i≠j->sd[i]? = some (some (.own p d))->sd[j]? = some (some (.own q e)) -> σ[i]? = some (some (.ref l)) -> σ[j]? ≠ some (some (.ref l))
section
variable {K:W.Frag}{B:Bs}{F H F' H':Hp}{sd:SD}{σ : St}
theorem zox.mono {l:Addr}{o:Option (Addr×List V)}(h:zox H l o)(k:∀ u,H l=some u->H' l=some u):zox H' l o:=let ⟨xs,h1,h2⟩:=h;⟨xs,h1,k _ h2⟩
theorem RS.step (r:RS K B F H sd σ)(e:Ext F H F' H'):RS K B F' H' sd σ where
 ext:=r.ext.trans e
 len:=r.len
 val:=fun h=>let ⟨v,h1,h2⟩:=r.val h;⟨v,h1,IsD.same e.ff _ _ h2⟩
 own:=fun h=>by
  refine zc1e (r.own h) fun l h1 h2 h3 h4 h5=>?_;obtain ⟨o,ho⟩:=h4.has;exact ⟨l,h1,h2,e.new l h3 (by rw [ho];simp),h4.ext e.ff fun o q=>e.hh _ _ q,fun p=>(h5 p).mono fun u q=>e.hh _ _ q⟩
 apart:=r.apart
theorem zay {α : Type}{l:List α}{i j:Nat}{a:α}(h:i≠j):(l.set i a)[j]? = l[j]? := List.getElem?_set_ne h
theorem zaB {α : Type}{l:List α}{i:Nat}{a b:α}(h:(l.set i a)[i]? = some b):b=a/\i<l.length:=by
 have hi:i<l.length:=by
  have:=(List.getElem?_eq_some_iff.mp h).1
  rwa [List.length_set] at this
 rw [List.getElem?_set_self hi] at h;exact ⟨(Zqi h).symm,hi⟩
theorem RS.setVal {i:Nat}{d:D}{v:V}(r:RS K B F H sd σ)(h:IsD K F d v):RS K B F H (sd.set i (some (.val d))) (σ.set i (some v)) where
 ext:=r.ext
 len:=by rw [List.length_set,List.length_set,r.len]
 val:=fun {j e} q=>by
  by_cases z:i=j
  ·subst z;obtain ⟨e1,hi⟩:=zaB q;cases e1;exact ⟨v,List.getElem?_set_self (by rw [r.len];exact hi),h⟩
  ·rw [zay z] at q ⊢;exact r.val q
 own:=fun {j p e} q=>by
  by_cases z:i=j
  ·subst z;obtain ⟨e1,_⟩:=zaB q;cases e1
  ·rw [zay z] at q ⊢;exact r.own q
 apart:=fun {j k p1 p2 d1 d2 l} n q1 q2 q3=>by
  have z1:i≠j:=fun z=>by subst z;obtain ⟨e1,_⟩:=zaB q1;cases e1
  have z2:i≠k:=fun z=>by subst z;obtain ⟨e1,_⟩:=zaB q2;cases e1
  rw [zay z1] at q1 q3;rw [zay z2] at q2 ⊢;exact r.apart n q1 q2 q3
theorem RS.setOwn {i:Nat}{d:D}{l:Addr}(r:RS K B F H sd σ)(h0:B.H0 l=none)(hf:F l=none)(h:zeB K F H l d)(fr:∀ (j:Nat) (p:Bool) (e:D),sd[j]? = some (some (SV.own p e)) -> σ[j]? ≠ some (some (.ref l))) :
 RS K B F H (sd.set i (some (.own false d))) (σ.set i (some (.ref l))) where
 ext:=r.ext
 len:=by rw [List.length_set,List.length_set,r.len]
 val:=fun {j e} q=>by
  by_cases z:i=j
  ·subst z;obtain ⟨e1,_⟩:=zaB q;cases e1
  ·rw [zay z] at q ⊢;exact r.val q
 own:=fun {j p e} q=>by
  by_cases z:i=j
  ·subst z;obtain ⟨e1,hi⟩:=zaB q;cases e1;exact ⟨l,List.getElem?_set_self (by rw [r.len];exact hi),h0,hf,h,fun z=>by cases z⟩
  ·rw [zay z] at q ⊢;exact r.own q
 apart:=fun {j k p1 p2 d1 d2 m} n q1 q2 q3=>by
  by_cases z1:i=j
  ·subst z1;obtain ⟨_,hi⟩:=zaB q1;rw [zay n] at q2 ⊢;rw [List.getElem?_set_self (by rw [r.len];exact hi)] at q3;cases q3;exact fr k p2 d2 q2
  ·rw [zay z1] at q1 q3;by_cases z2:i=k
   ·subst z2;obtain ⟨_,hi⟩:=zaB q2;rw [List.getElem?_set_self (by rw [r.len];exact hi)];intro e;cases e;exact fr j p1 d1 q1 q3
   ·rw [zay z2] at q2 ⊢;exact r.apart n q1 q2 q3
theorem RS.chg {i:Nat}{p:Bool}{d d':D}{l:Addr}{o:HO}(r:RS K B F H sd σ)(hi:sd[i]? = some (some (.own p d)))(hl:σ[i]? = some (some (.ref l)))(h:zeB K F (upd H l o) l d') :
 RS K B F (upd H l o) (sd.set i (some (.own false d'))) σ := by
 refine zc1e (r.own hi) fun l' e1 h0 hf _ _=>?_;rw [hl] at e1;cases e1;have hil:i<sd.length:=(List.getElem?_eq_some_iff.mp hi).1;refine ⟨⟨r.ext.ff,zjm o r.ext.fh hf,zjm o r.ext.hh h0,r.ext.new⟩,by rw [List.length_set,r.len],fun {j e} q=>?_,fun {j p e} q=>?_,fun {j k p1 p2 d1 d2 m} n q1 q2 q3=>?_⟩
 ·by_cases z:i=j
  ·subst z;obtain ⟨e1,_⟩:=zaB q;cases e1
  ·rw [zay z] at q;exact r.val q
 ·by_cases z:i=j
  ·subst z;obtain ⟨e1,_⟩:=zaB q;cases e1;exact ⟨l,hl,h0,hf,h,fun z=>by cases z⟩
  ·rw [zay z] at q;refine zc1e (r.own q) fun m m1 m2 m3 m4 m5=>?_;have ne:m≠l:=fun e=>r.apart z hi q hl (by rw [<- e];exact m1);exact ⟨m,m1,m2,m3,m4.ext (.refl _) fun u q'=>by rw [za9 ne];exact q',fun p=>(m5 p).mono fun u q'=>by rw [za9 ne];exact q'⟩
 ·have g:∀ {j:Nat} {p:Bool} {e:D},(sd.set i (some (.own false d')))[j]? = some (some (.own p e))->∃ p' e',sd[j]? = some (some (.own p' e')):=fun {j p e} q=>by
   by_cases z:i=j
   ·subst z;exact ⟨_,d,hi⟩
   ·rw [zay z] at q;exact ⟨p,e,q⟩
  refine zc2a (g q1) fun _ _ p1=>?_;refine zc2a (g q2) fun _ _ p2=>?_;exact r.apart n p1 p2 q3
theorem RS.frz1 {i:Nat}{p:Bool}{d:D}(r:RS K B F H sd σ)(hi:sd[i]? = some (some (.own p d))):∃ F',Same F F'/\RS K B F' H (sd.set i (some (.val d))) σ := by
 refine zc1e (r.own hi) fun l hl h0 hf ho _=>?_;obtain ⟨o,e⟩:=ho.has;have hil:i<sd.length:=(List.getElem?_eq_some_iff.mp hi).1;have sF:Same F (upd F l o):=zbv hf o;refine ⟨upd F l o,sF,⟨r.ext.ff.trans sF,fun b u q=>?_,r.ext.hh,fun a q1 q2=>?_⟩,by rw [List.length_set,r.len],fun {j x} q=>?_,fun {j p x} q=>?_,fun {j k p1 p2 d1 d2 m} n q1 q2 q3=>?_⟩
 ·by_cases z:b=l
  ·subst z;rw [zao] at q;cases q;exact e
  ·rw [za9 z] at q;exact r.ext.fh _ _ q
 ·have z:a≠l:=fun z=>q2 (by rw [z];exact h0);rw [za9 z];exact r.ext.new a q1 q2
 ·by_cases z:i=j
  ·subst z;obtain ⟨e1,_⟩:=zaB q;cases e1;exact ⟨_,hl,ho.frz e hf⟩
  ·rw [zay z] at q;refine zc1b (r.val q) fun v v1 v2=>?_;exact ⟨v,v1,IsD.same sF _ _ v2⟩
 ·by_cases z:i=j
  ·subst z;obtain ⟨e1,_⟩:=zaB q;cases e1
  ·rw [zay z] at q;refine zc1e (r.own q) fun m m1 m2 m3 m4 m5=>?_;have ne:m≠l:=fun e=>r.apart z hi q hl (by rw [<- e];exact m1);exact ⟨m,m1,m2,by rw [za9 ne];exact m3,m4.ext sF fun u q'=>q',m5⟩
 ·have z1:i≠j:=fun z=>by subst z;obtain ⟨e1,_⟩:=zaB q1;cases e1
  have z2:i≠k:=fun z=>by subst z;obtain ⟨e1,_⟩:=zaB q2;cases e1
  rw [zay z1] at q1;rw [zay z2] at q2;exact r.apart n q1 q2 q3
noncomputable def frzD:List Nat->SD->SD
 | [],sd=>sd
 |i::is,sd=>frzD is (match sd[i]? with
  |some (some (.own _ d))=>sd.set i (some (.val d))
  |_=>sd)
theorem RS.frz:∀ (is:List Nat) {F:Hp} {sd:SD},RS K B F H sd σ -> ∃ F',Same F F'/\RS K B F' H (frzD is sd) σ
 | [],F,sd,r=>⟨F,.refl _,r⟩
 |i::is,F,sd,r=>by
  unfold frzD
  split
  ·rename_i p d h;refine zc1b (r.frz1 h) fun F1 s1 r1=>?_;refine zc1b (RS.frz is r1) fun F2 s2 r2=>?_;exact ⟨F2,s1.trans s2,r2⟩
  ·exact RS.frz is r
end
def ExcIs (K:W.Frag)(F H:Hp)(c:Str)(fs:List D)(cv:Value)(a:Option Addr):Prop :=
 ∃ C,cv=.ref C/\W.nsIn K mainGlobals c=some (some (.ref C))/\(fs=[]\/∃ p n d x,fs=[d]/\a=some p/\H p=some (.xd [(n,x)])/\IsD K F d x)
def XW (K:W.Frag)(E:XK)(F H:Hp)(c:Str)(fs:List D):Prop:=∀ cv a F' H',Ext F H F' H'->ExcIs K F' H' c fs cv a->E cv a H'
theorem XW.ext {K:W.Frag}{E:XK}{F H F' H':Hp}{c:Str}{fs:List D}(h:XW K E F H c fs)(e:Ext F H F' H'):XW K E F' H' c fs:=fun cv a F2 H2 e2 q=>h cv a F2 H2 (e.trans e2) q
abbrev FE:=SD->Res D
abbrev FT:=SD->Res Bool
abbrev FA:=SD->Res (List D)
def OkD (K:W.Frag)(F H:Hp)(Q:VK)(d:D):Prop:=∀ v F' H',Ext F H F' H'->IsD K F' d v->Q v H'
noncomputable def OkB (F H:Hp)(Q:Bool->Hp->Prop)(b:Bool):Prop:=∀ F' H',Ext F H F' H'->Q b H'
def OkA (K:W.Frag)(F H:Hp)(Q:List V->Hp->Prop)(ds:List D):Prop:=∀ vs F' H',Ext F H F' H'->IsDs K F' ds vs->Q vs H'
def OkN (K:W.Frag)(F H:Hp)(Q:VK)(d:D):Prop:=∀ l F' H',Ext F H F' H'->H l=none->F' l=none->zeB K F' H' l d->Q (.ref l) H'
def tD (K:W.Frag)(E:XK)(f:FE):TE:=fun σ H Q=>∃ B F sd,RS K B F H sd σ /\ (f sd).need (OkD K F H Q) (XW K E F H)
def tDT (K:W.Frag)(E:XK)(f:FT):TT:=fun σ H Q=>∃ B F sd,RS K B F H sd σ /\ (f sd).need (OkB F H Q) (XW K E F H)
def tDA (K:W.Frag)(E:XK)(f:FA):TA:=fun σ H Q=>∃ B F sd,RS K B F H sd σ /\ (f sd).need (OkA K F H Q) (XW K E F H)
def tDN (K:W.Frag)(E:XK)(f:FE):TE:=fun σ H Q=>∃ B F sd,RS K B F H sd σ /\ (f sd).need (OkN K F H Q) (XW K E F H)
abbrev QE (X:Cx)(E:XK)(e:Expr)(f:FE):Prop:=PE X e (tD X.K E f)
abbrev QT (X:Cx)(E:XK)(e:Expr)(f:FT):Prop:=PT X e (tDT X.K E f)
abbrev QW (X:Cx)(E:XK)(e:Expr)(f:FT):Prop:=PW X e (tDT X.K E f)
abbrev QA (X:Cx)(E:XK)(es:List Expr)(f:FA):Prop:=PA X es (tDA X.K E f)
abbrev QN (X:Cx)(E:XK)(e:Expr)(f:FE):Prop:=PE X e (tDN X.K E f)
theorem PE.weak {X:Cx}{e:Expr}{t t':TE}(h:PE X e t)(w:∀ σ H Q,t' σ H Q->t σ H Q):PE X e t':=fun pins s σ H Q I q=>h pins s σ H Q I (w _ _ _ q)
theorem PT.weak {X:Cx}{e:Expr}{t t':TT}(h:PT X e t)(w:∀ σ H Q,t' σ H Q->t σ H Q):PT X e t':=fun pins s σ H Q I q=>h pins s σ H Q I (w _ _ _ q)
theorem PW.weak {X:Cx}{e:Expr}{t t':TT}(h:PW X e t)(w:∀ σ H Q,t' σ H Q->t σ H Q):PW X e t':=fun whole pins s σ H Q I q=>h whole pins s σ H Q I (w _ _ _ q)
theorem PA.weak {X:Cx}{e:List Expr}{t t':TA}(h:PA X e t)(w:∀ σ H Q,t' σ H Q->t σ H Q):PA X e t':=fun pos pins s σ H Q I q=>h pos pins s σ H Q I (w _ _ _ q)
theorem PS.weak {X:Cx}{e:Stmt}{t t':TS}(h:PS X e t)(w:∀ D σ H,t' D σ H->t D σ H):PS X e t':=fun pins s σ H D I q=>h pins s σ H D I (w _ _ _ q)
theorem PSs.weak {X:Cx}{e:List Stmt}{t t':TS}(h:PSs X e t)(w:∀ D σ H,t' D σ H->t D σ H):PSs X e t':=fun pins s σ H D I q=>h pins s σ H D I (w _ _ _ q)
theorem PI.weak {X:Cx}{tg e:Expr}{t t':TI}(h:PI X tg e t)(w:∀ σ H R,t' σ H R->t σ H R):PI X tg e t':=fun pins s σ H R I q=>h pins s σ H R I (w _ _ _ q)
section
variable {K:W.Frag}{E:XK}{F H F' H':Hp}
theorem OkD.ext {Q:VK}{d:D}(h:OkD K F H Q d)(e:Ext F H F' H'):OkD K F' H' Q d:=fun v F2 H2 e2 q=>h v F2 H2 (e.trans e2) q
theorem OkB.ext {Q:Bool->Hp->Prop}{b:Bool}(h:OkB F H Q b)(e:Ext F H F' H'):OkB F' H' Q b:=fun F2 H2 e2=>h F2 H2 (e.trans e2)
theorem OkN.ext {Q:VK}{d:D}(h:OkN K F H Q d)(e:Ext F H F' H'):OkN K F' H' Q d:=fun l F2 H2 e2 q=>h l F2 H2 (e.trans e2) (za4 e.hh q)
theorem zpU {Q:VK}{r:Res D}(h:r.need (OkD K F H Q) (XW K E F H))(e:Ext F H F' H'):r.need (OkD K F' H' Q) (XW K E F' H'):=h.mono (fun _ q=>q.ext e) fun _ _ q=>q.ext e
theorem zta {Q:Bool->Hp->Prop}{r:Res Bool}(h:r.need (OkB F H Q) (XW K E F H))(e:Ext F H F' H'):r.need (OkB F' H' Q) (XW K E F' H'):=h.mono (fun _ q=>q.ext e) fun _ _ q=>q.ext e
theorem zps {Q:VK}{r:Res D}(h:r.need (OkN K F H Q) (XW K E F H))(e:Ext F H F' H'):r.need (OkN K F' H' Q) (XW K E F' H'):=h.mono (fun _ q=>q.ext e) fun _ _ q=>q.ext e
theorem OkD.new {Q:VK}{d:D}(h:OkD K F H Q d):OkN K F H Q d:=fun l F' H' e n n' o=>by
 obtain ⟨u,hu⟩:=o.has;refine h (.ref l) (upd F' l u) H' ⟨e.ff.trans (zbv n' u),fun b v q=>?_,e.hh,fun a q1 q2=>?_⟩ (o.frz hu n')
 ·by_cases z:b=l
  ·subst z;rw [zao] at q;cases q;exact hu
  ·rw [za9 z] at q;exact e.fh _ _ q
 ·have z:a≠l:=fun z=>q2 (by rw [z];exact n);rw [za9 z];exact e.new a q1 q2
end
section
variable {X:Cx}{E:XK}
theorem QN.qe {e:Expr}{f:FE}(h:QN X E e f):QE X E e f:=PE.weak h (by rintro σ H Q ⟨B,F,sd,r,n⟩;exact ⟨B,F,sd,r,n.mono (fun _ q=>q.new) fun _ _ q=>q⟩)
noncomputable def dVar (i:Nat):FE:=fun sd=>match sd[i]? with
 |some (some (.val d))=>.ok d
 |_=>.no
noncomputable def dC (d:D):FE:=fun _=>.ok d
theorem zac {i:Nat}{e:Expr}(h:PE X e (tVar i)):QE X E e (dVar i):=PE.weak h fun σ H Q zh=>by
 refine zc3b zh fun B F sd r n=>?_;unfold dVar at n
 split at n
 ·rename_i d q;refine zc1b (r.val q) fun v h1 h2=>?_;exact ⟨v,h1,n v F H (.refl r.ext.fh) h2⟩
 ·exact n.elim
theorem zgn {e:Expr}{v:V}{d:D}(h:PE X e (tC v))(i:∀ F,IsD X.K F d v):QE X E e (dC d):=PE.weak h (by rintro σ H Q ⟨B,F,sd,r,n⟩;exact n v F H (.refl r.ext.fh) (i F))
theorem zah {i j pos}:QE X E (.Constant (.int i) j pos) (dC (.int i)):=zgn zrs fun _=>IsD.int_iff.mpr rfl
theorem zcL {b j pos}:QE X E (.Constant (.bool b) j pos) (dC (.bl b)):=zgn pe_bl fun _=>IsD.bl_iff.mpr rfl
theorem zs0 {j pos}:QE X E (.Constant .none j pos) (dC .non):=zgn ztv fun _=>IsD.non_iff.mpr rfl
noncomputable def Res.ofO {α : Type}:Option α -> Res α
 |some a=>.ok a
 |none=>.no
@[simp] theorem Res.ofO_some {α : Type}(a:α):Res.ofO (some a)=.ok a:=rfl
@[simp] theorem Res.ofO_none {α : Type}:Res.ofO (none:Option α)=.no:=rfl
theorem Res.need_ofO {α : Type}{o:Option α}{p:α -> Prop}{q:Str->List D->Prop}(h:(Res.ofO o).need p q):∃ a,o=some a/\p a:=by
 cases o with
 |none=>exact h.elim
 |some a=>exact ⟨a,rfl,h⟩
def dOp (g:D->D->Option D)(fa fb:FE):FE:=fun sd=>(fa sd).bind fun x=>(fb sd).bind fun y=>.ofO (g x y)
def dUn (g:D->Option D)(fa:FE):FE:=fun sd=>(fa sd).bind fun x=>.ofO (g x)
def rD2 (K:W.Frag)(g:D->D->Option D):R2:=fun v w H Q=>∃ F d e z,Same F H/\IsD K F d v/\IsD K F e w/\g d e=some z/\OkD K F H Q z
def rD2N (K:W.Frag)(g:D->D->Option D):R2:=fun v w H Q=>∃ F d e z,Same F H/\IsD K F d v/\IsD K F e w/\g d e=some z/\OkN K F H Q z
def rD1 (K:W.Frag)(g:D->Option D):V->Hp->VK->Prop:=fun v H Q=>∃ F d z,Same F H/\IsD K F d v/\g d=some z/\OkD K F H Q z
def rDA (K:W.Frag)(g:List D->Option D):List V->Hp->VK->Prop:=fun vs H Q=>∃ F ds z,Same F H/\IsDs K F ds vs/\g ds=some z/\OkD K F H Q z
def rDAN (K:W.Frag)(g:List D->Option D):List V->Hp->VK->Prop:=fun vs H Q=>∃ F ds z,Same F H/\IsDs K F ds vs/\g ds=some z/\OkN K F H Q z
theorem zlT {K:W.Frag}{g:D->D->Option D}{fa fb:FE}{σ : St}{H:Hp}{Q:VK}(h:tD K E (dOp g fa fb) σ H Q):tOp (rD2 K g) (tD K E fa) (tD K E fb) σ H Q:=by
 refine zc3b h fun B F sd r n=>?_;refine ⟨B,F,sd,r,(Res.need_bind n).mono (fun x n1 v F1 H1 e1 i1=>?_) fun _ _ q=>q⟩;refine ⟨B,F1,sd,r.step e1,(Res.need_bind n1).mono (fun y n2 w F2 H2 e2 i2=>?_) fun _ _ q=>q.ext e1⟩;refine zc1b (Res.need_ofO n2) fun z hz q=>?_;exact ⟨F2,x,y,z,e2.fh,IsD.same e2.ff _ _ i1,i2,hz,q.ext (e1.trans e2)⟩
theorem zsk {K:W.Frag}{g:D->D->Option D}{fa fb:FE}{σ : St}{H:Hp}{Q:VK}(h:tDN K E (dOp g fa fb) σ H Q):tOp (rD2N K g) (tD K E fa) (tD K E fb) σ H Q:=by
 refine zc3b h fun B F sd r n=>?_;refine ⟨B,F,sd,r,(Res.need_bind n).mono (fun x n1 v F1 H1 e1 i1=>?_) fun _ _ q=>q⟩;refine ⟨B,F1,sd,r.step e1,(Res.need_bind n1).mono (fun y n2 w F2 H2 e2 i2=>?_) fun _ _ q=>q.ext e1⟩;refine zc1b (Res.need_ofO n2) fun z hz q=>?_;exact ⟨F2,x,y,z,e2.fh,IsD.same e2.ff _ _ i1,i2,hz,q.ext (e1.trans e2)⟩
theorem tD_un {K:W.Frag}{g:D->Option D}{fa:FE}{σ : St}{H:Hp}{Q:VK}(h:tD K E (dUn g fa) σ H Q):tUn (rD1 K g) (tD K E fa) σ H Q:=by
 refine zc3b h fun B F sd r n=>?_;refine ⟨B,F,sd,r,(Res.need_bind n).mono (fun x n1 v F1 H1 e1 i1=>?_) fun _ _ q=>q⟩;refine zc1b (Res.need_ofO n1) fun z hz q=>?_;exact ⟨F1,x,z,e1.fh,i1,hz,q.ext e1⟩
abbrev OpD (X:Cx)(f:Value->Value->Sem Value)(g:D->D->Option D):Prop:=OpR X f (rD2 X.K g)
abbrev OpDN (X:Cx)(f:Value->Value->Sem Value)(g:D->D->Option D):Prop:=OpR X f (rD2N X.K g)
theorem OpR.weak {f:Value->Value->Sem Value}{r r':R2}(h:OpR X f r)(w:∀ x y H Q,r' x y H Q->r x y H Q):OpR X f r':=fun pins s σ H x y v u Q I rx ry q=>h pins s σ H x y v u Q I rx ry (w _ _ _ _ q)
theorem UnR.weak {f:Value->Sem Value}{r r':V->Hp->VK->Prop}(h:UnR X f r)(w:∀ x H Q,r' x H Q->r x H Q):UnR X f r':=fun pins s σ H x v Q I rx q=>h pins s σ H x v Q I rx (w _ _ _ q)
theorem zat.weak {f:Value}{r r':List V->Hp->VK->Prop}(h:zat X f r)(w:∀ x H Q,r' x H Q->r x H Q):zat X f r':=fun pins s σ H x v Q I rx q=>h pins s σ H x v Q I rx (w _ _ _ q)
theorem IxR.weak {r r':R2}(h:IxR X r)(w:∀ x y H Q,r' x y H Q->r x y H Q):IxR X r':=fun value slice pins s σ H x y v u Q I rx ry q e=>h value slice pins s σ H x y v u Q I rx ry (w _ _ _ _ q) e
variable {a b:Expr}{fa fb:FE}{pos:Pos}
theorem q_op {op:Operator}{g:D->D->Option D}(ho:OpD X (binaryOp op) g)(ha:QE X E a fa)(hb:QE X E b fb):QE X E (.BinOp a op b pos) (dOp g fa fb):=PE.weak (zt1 ho ha hb) fun _ _ _ h=>zlT h
theorem q_opN {op:Operator}{g:D->D->Option D}(ho:OpDN X (binaryOp op) g)(ha:QE X E a fa)(hb:QE X E b fb):QN X E (.BinOp a op b pos) (dOp g fa fb):=PE.weak (zt1 ho ha hb) fun _ _ _ h=>zsk h
theorem q_un {op:UnaryOp}{g:D->Option D}(ho:UnR X (unaryOp op) (rD1 X.K g))(ha:QE X E a fa):QE X E (.UnaryOp op a pos) (dUn g fa):=PE.weak (pe_un ho ha) fun _ _ _ h=>tD_un h
theorem zsd {op:CmpOp}{g:D->D->Option D}(ho:OpD X (compareOp op) g)(ha:QE X E a fa)(hb:QE X E b fb)(hm:behindInMarks op b=false):QE X E (.Compare a [op] [b] pos) (dOp g fa fb):=PE.weak (zkE ho ha hb hm) fun _ _ _ h=>zlT h
def zaq (fa:FE):FT:=fun sd=>(fa sd).bind fun x=>match x with
 | .bl b=>.ok b
 |_=>.no
theorem zch {K:W.Frag}{σ : St}{H:Hp}{Q:Bool->Hp->Prop}(h:tDT K E (zaq fa) σ H Q):tD K E fa σ H (fun x H'=>∃ k,x=.bl k/\Q k H'):=by
 refine zc3b h fun B F sd r n=>?_;refine ⟨B,F,sd,r,(Res.need_bind n).mono (fun x n1 v F1 H1 e1 i1=>?_) fun _ _ q=>q⟩;cases x with
 |bl k=>exact ⟨k,IsD.bl_iff.mp i1,n1 F1 H1 e1⟩
 |_=>exact n1.elim
theorem zaY {op:CmpOp}{g:D->D->Option D}(ho:OpD X (compareOp op) g)(ha:QE X E a fa)(hb:QE X E b fb)(hm:behindInMarks op b=false):QT X E (.Compare a [op] [b] pos) (zaq (dOp g fa fb)) :=
 PT.weak (zix ho ha hb hm) fun σ H Q h=>by
  have h:=zch h;exact zlT h
theorem zbN (ha:QE X E a fa)(he:autoParam (∀ whole,isTrue a X.env whole=(do let v <- whole;standAt a.pos;holding [v] (truthy v))) zaw._auto_1):QT X E a (zaq fa):=PT.weak (ztg ha he) fun σ H Q q=>zch q
def zbT (f:FT):FT:=fun sd=>(f sd).bind fun b=>.ok (!b)
def zhf (f g:FT):FT:=fun sd=>(f sd).bind fun b=>if b then g sd else .ok false
def dOrT (f g:FT):FT:=fun sd=>(f sd).bind fun b=>if b then .ok true else g sd
variable {f g:FT}{rest:List Expr}
theorem zcP (ha:QT X E a f):QT X E (.UnaryOp .Not a pos) (zbT f):=PT.weak (zsz ha) fun σ H Q ⟨B,F,sd,r,n⟩ =>
 ⟨B,F,sd,r,(Res.need_bind n).mono (fun _ q=>q) fun _ _ q=>q⟩
theorem zfx (ha:QT X E a f):QW X E (.BoolOp .And [a] pos) f:=zq6 ha
theorem zhO (ha:QT X E a f):QW X E (.BoolOp .Or [a] pos) f:=ztA ha
theorem zhu (ha:QT X E a f)(hb:QW X E (.BoolOp .And (b::rest) pos) g):QW X E (.BoolOp .And (a::b::rest) pos) (zhf f g):=PW.weak (zrO ha hb) fun σ H Q zh=>by
 refine zc3b zh fun B F sd r n=>?_;refine ⟨B,F,sd,r,(Res.need_bind n).mono (fun k n1 F1 H1 e1=>?_) fun _ _ q=>q⟩;cases k with
 |true=>exact ⟨B,F1,sd,r.step e1,zta n1 e1⟩
 |false=>exact n1 F1 H1 e1
theorem zlO (ha:QT X E a f)(hb:QW X E (.BoolOp .Or (b::rest) pos) g):QW X E (.BoolOp .Or (a::b::rest) pos) (dOrT f g):=PW.weak (pw_or ha hb) fun σ H Q zh=>by
 refine zc3b zh fun B F sd r n=>?_;refine ⟨B,F,sd,r,(Res.need_bind n).mono (fun k n1 F1 H1 e1=>?_) fun _ _ q=>q⟩;cases k with
 |true=>exact n1 F1 H1 e1
 |false=>exact ⟨B,F1,sd,r.step e1,zta n1 e1⟩
theorem QW.qt {e:Expr}(h:QW X E e f):QT X E e f:=PW.pt h
def zj3 (fa fb:FE):FE:=fun sd=>(zaq fa sd).bind fun b=>if b then fb sd else .ok (.bl false)
def zqh (fa:FE):FE:=fun sd=>(zaq fa sd).bind fun b=>.ok (.bl !b)
theorem ztK {op}(h:QE X E a fa):QE X E (.BoolOp op [a] pos) fa:=zsc h
theorem zsL (ha:QE X E a fa)(hb:QE X E (.BoolOp .And (b::rest) pos) fb):QE X E (.BoolOp .And (a::b::rest) pos) (zj3 fa fb):=PE.weak (zti ha hb) fun σ H Q zh=>by
 obtain ⟨B,F,sd,r,n⟩:=zh;refine zch (K:=X.K) (E:=E) (Q:=fun c H1=>if c=true then tD X.K E fb σ H1 Q else Q (.bl false) H1) ⟨B,F,sd,r,(Res.need_bind n).mono (fun k n1 F1 H1 e1=>?_) fun _ _ q=>q⟩;cases k with
 |true=>exact ⟨B,F1,sd,r.step e1,zpU n1 e1⟩
 |false=>exact n1 _ F1 H1 e1 (IsD.bl_iff.mpr rfl)
theorem q_not (ha:QE X E a fa):QE X E (.UnaryOp .Not a pos) (zqh fa):=PE.weak (zry ha) fun σ H Q zh=>by
 refine zc3b zh fun B F sd r n=>?_;refine zch (K:=X.K) (E:=E) (Q:=fun c H1=>Q (.bl (!c)) H1) ⟨B,F,sd,r,(Res.need_bind n).mono (fun k n1 F1 H1 e1=>?_) fun _ _ q=>q⟩;exact n1 _ F1 H1 e1 (IsD.bl_iff.mpr rfl)
noncomputable def dNil:FA:=fun _=>.ok []
def zab (fa:FE)(fr:FA):FA:=fun sd=>(fa sd).bind fun x=>(fr sd).bind fun xs=>.ok (x::xs)
theorem zad:QA X E [] dNil:=PA.weak ziI (by rintro σ H Q ⟨B,F,sd,r,n⟩;exact n [] F H (.refl r.ext.fh) .nil)
theorem zaa {e:Expr}{es:List Expr}{fe:FE}{fr:FA}(ha:QE X E e fe)(hr:QA X E es fr)(hs:autoParam (starEach (e::es) X.env=(false,eval e X.env)::starEach es X.env) zau._auto_1):QA X E (e::es) (zab fe fr) :=
 PA.weak (zgC ha hr hs) fun σ H Q zh=>by
  refine zc3b zh fun B F sd r n=>?_;refine ⟨B,F,sd,r,(Res.need_bind n).mono (fun x n1 v F1 H1 e1 i1=>?_) fun _ _ q=>q⟩;refine ⟨B,F1,sd,r.step e1,(Res.need_bind n1).mono (fun xs n2 vs F2 H2 e2 i2=>?_) fun _ _ q=>q.ext e1⟩;exact n2 _ F2 H2 (e1.trans e2) (.mk (IsD.same e2.ff _ _ i1) i2)
def dLst (fr:FA):FE:=fun sd=>(fr sd).bind fun xs=>if xs.length<=1000 then .ok (.lst xs) else .no
def dTup (fr:FA):FE:=fun sd=>(fr sd).bind fun xs=>if xs.length<=1000 then .ok (.tup xs) else .no
theorem zbZ {es:List Expr}{fr:FA}(h:QA X E es fr):QN X E (.List es pos) (dLst fr):=PE.weak (zrK h) fun σ H Q zh=>by
 refine zc3b zh fun B F sd r n=>?_;refine ⟨B,F,sd,r,(Res.need_bind n).mono (fun xs n1 vs F1 H1 e1 i1=>?_) fun _ _ q=>q⟩
 split at n1
 ·rename_i hl;have hz:=i1.length;refine ⟨zc3 (by omega),fun p hp=>?_⟩;exact n1 p F1 (upd H1 p (.lst vs)) (e1.trans (.keep e1.fh hp _)) (za4 e1.hh hp) (za4 e1.fh hp) ⟨vs,zao,i1⟩
 ·exact n1.elim
theorem zeV {es:List Expr}{x1}{fr:FA}(h:QA X E es fr):QE X E (.Tuple es x1 pos) (dTup fr):=PE.weak (ztt h) fun σ H Q zh=>by
 refine zc3b zh fun B F sd r n=>?_;refine ⟨B,F,sd,r,(Res.need_bind n).mono (fun xs n1 vs F1 H1 e1 i1=>?_) fun _ _ q=>q⟩
 split at n1
 ·rename_i hl;have hz:=i1.length;refine ⟨zc3 (by omega),fun p hp=>?_⟩;have ea:=Ext.alloc e1.fh hp (.tup vs);exact n1 _ _ _ (e1.trans ea) (IsD.tup_iff.mpr ⟨p,vs,rfl,.of zao,IsDs.same ea.ff _ _ i1⟩)
 ·exact n1.elim
def SpD (K:W.Frag)(Fn:List D->Res D):Sp:=fun vs H Q _=>∃ F ds,Same F H/\IsDs K F ds vs/\(Fn ds).need (OkD K F H Q) (XW K E0 F H)
def SpN (K:W.Frag)(Fn:List D->Res D):Sp:=fun vs H Q _=>∃ F ds,Same F H/\IsDs K F ds vs/\(Fn ds).need (OkN K F H Q) (XW K E0 F H)
def zan (Fn:List D->Res D)(fr:FA):FE:=fun sd=>(fr sd).bind Fn
theorem q_fn {name:Str}{k:Nat}{ps:List Str}{Fn:List D->Res D}{p:Pos}{e:Expr}{es:List Expr}{fr:FA}(c:zar X.prog X.w X.K X.mg X.base name k ps (SpD X.K Fn))(hr:Room k X.A)(hg:Gl X name)(ha:QA X E0 (e::es) fr)
 (hdb:autoParam ((name == ("__debug__" : Str))=false) zav._auto_1) (he:starEach (e::es) X.env=(false,eval e X.env)::starEach es X.env:=by rfl) (hpl:(backTo pos (starEach es X.env)).any (·.1)=false:=by rfl) :
 QE X E0 (.Call (.Name name p) (e::es) [] pos) (zan Fn fr):=PE.weak (zq0 c hr hg ha hdb he hpl) fun σ H Q zh=>by
 refine zc3b zh fun B F sd r n=>?_;refine ⟨B,F,sd,r,(Res.need_bind n).mono (fun xs n1 vs F1 H1 e1 i1=>?_) fun _ _ q=>q⟩;show SpD X.K Fn (vs++[]) H1 Q E0;rw [List.append_nil];exact ⟨F1,xs,e1.fh,i1,zpU n1 e1⟩
theorem zdm {name:Str}{k:Nat}{ps:List Str}{Fn:List D->Res D}{p:Pos}{e:Expr}{es:List Expr}{fr:FA}(c:zar X.prog X.w X.K X.mg X.base name k ps (SpN X.K Fn))(hr:Room k X.A)(hg:Gl X name)(ha:QA X E0 (e::es) fr)
 (hdb:autoParam ((name == ("__debug__" : Str))=false) zav._auto_1) (he:starEach (e::es) X.env=(false,eval e X.env)::starEach es X.env:=by rfl) (hpl:(backTo pos (starEach es X.env)).any (·.1)=false:=by rfl) :
 QN X E0 (.Call (.Name name p) (e::es) [] pos) (zan Fn fr):=PE.weak (zq0 c hr hg ha hdb he hpl) fun σ H Q zh=>by
 refine zc3b zh fun B F sd r n=>?_;refine ⟨B,F,sd,r,(Res.need_bind n).mono (fun xs n1 vs F1 H1 e1 i1=>?_) fun _ _ q=>q⟩;show SpN X.K Fn (vs++[]) H1 Q E0;rw [List.append_nil];exact ⟨F1,xs,e1.fh,i1,zps n1 e1⟩
def dBlt (g:List D->Option D)(fr:FA):FE:=fun sd=>(fr sd).bind fun xs=>.ofO (g xs)
theorem za7 {id:String}{x:Str}{p:Pos}{e:Expr}{es:List Expr}{g:List D->Option D}{fr:FA}(hc:zat X (.builtin id) (rDA X.K g))(hg:Gl X x)(hm:X.mg x=none)(hv:bootBuiltins x=some (.builtin id))(ha:QA X E (e::es) fr)(hn:autoParam (x ≠ "__name__") zav._auto_1)(hdb:autoParam ((x == ("__debug__" : Str))=false) zav._auto_1)
 (he:autoParam (starEach (e::es) X.env=(false,eval e X.env)::starEach es X.env) zau._auto_1) (hpl:autoParam ((backTo pos (starEach es X.env)).any (·.1)=false) zau._auto_1):QE X E (.Call (.Name x p) (e::es) [] pos) (dBlt g fr) :=
 PE.weak (zez hc hg hm hv ha hn hdb he hpl) fun σ H Q zh=>by
  refine zc3b zh fun B F sd r n=>?_;refine ⟨B,F,sd,r,(Res.need_bind n).mono (fun xs n1 vs F1 H1 e1 i1=>?_) fun _ _ q=>q⟩;refine zc1b (Res.need_ofO n1) fun z hz q=>?_;exact ⟨F1,xs,z,e1.fh,i1,hz,q.ext e1⟩
theorem zev {id:String}{x:Str}{p:Pos}{e:Expr}{es:List Expr}{g:List D->Option D}{fr:FA}(hc:zat X (.builtin id) (rDAN X.K g))(hg:Gl X x)(hm:X.mg x=none)(hv:bootBuiltins x=some (.builtin id))(ha:QA X E (e::es) fr)(hn:autoParam (x ≠ "__name__") zav._auto_1)(hdb:autoParam ((x == ("__debug__" : Str))=false) zav._auto_1)
 (he:autoParam (starEach (e::es) X.env=(false,eval e X.env)::starEach es X.env) zau._auto_1) (hpl:autoParam ((backTo pos (starEach es X.env)).any (·.1)=false) zau._auto_1):QN X E (.Call (.Name x p) (e::es) [] pos) (dBlt g fr) :=
 PE.weak (zez hc hg hm hv ha hn hdb he hpl) fun σ H Q zh=>by
  refine zc3b zh fun B F sd r n=>?_;refine ⟨B,F,sd,r,(Res.need_bind n).mono (fun xs n1 vs F1 H1 e1 i1=>?_) fun _ _ q=>q⟩;refine zc1b (Res.need_ofO n1) fun z hz q=>?_;exact ⟨F1,xs,z,e1.fh,i1,hz,q.ext e1⟩
theorem zcA {T:String}{x:Str}{p:Pos}{e:Expr}{es:List Expr}{g:List D->Option D}{fr:FA}(hc:zat X (.type T) (rDA X.K g))(hg:Gl X x)(hm:X.mg x=none)(hv:bootBuiltins x=some (.type T))(ha:QA X E (e::es) fr)(hn:autoParam (x ≠ "__name__") zav._auto_1)(hdb:autoParam ((x == ("__debug__" : Str))=false) zav._auto_1)
 (he:autoParam (starEach (e::es) X.env=(false,eval e X.env)::starEach es X.env) zau._auto_1) (hpl:autoParam ((backTo pos (starEach es X.env)).any (·.1)=false) zau._auto_1):QE X E (.Call (.Name x p) (e::es) [] pos) (dBlt g fr) :=
 PE.weak (zeW hc hg hm hv ha hn hdb he hpl) fun σ H Q zh=>by
  refine zc3b zh fun B F sd r n=>?_;refine ⟨B,F,sd,r,(Res.need_bind n).mono (fun xs n1 vs F1 H1 e1 i1=>?_) fun _ _ q=>q⟩;refine zc1b (Res.need_ofO n1) fun z hz q=>?_;exact ⟨F1,xs,z,e1.fh,i1,hz,q.ext e1⟩
theorem zbM {T:String}{x:Str}{p:Pos}{e:Expr}{es:List Expr}{g:List D->Option D}{fr:FA}(hc:zat X (.type T) (rDAN X.K g))(hg:Gl X x)(hm:X.mg x=none)(hv:bootBuiltins x=some (.type T))(ha:QA X E (e::es) fr)(hn:autoParam (x ≠ "__name__") zav._auto_1)(hdb:autoParam ((x == ("__debug__" : Str))=false) zav._auto_1)
 (he:autoParam (starEach (e::es) X.env=(false,eval e X.env)::starEach es X.env) zau._auto_1) (hpl:autoParam ((backTo pos (starEach es X.env)).any (·.1)=false) zau._auto_1):QN X E (.Call (.Name x p) (e::es) [] pos) (dBlt g fr) :=
 PE.weak (zeW hc hg hm hv ha hn hdb he hpl) fun σ H Q zh=>by
  refine zc3b zh fun B F sd r n=>?_;refine ⟨B,F,sd,r,(Res.need_bind n).mono (fun xs n1 vs F1 H1 e1 i1=>?_) fun _ _ q=>q⟩;refine zc1b (Res.need_ofO n1) fun z hz q=>?_;exact ⟨F1,xs,z,e1.fh,i1,hz,q.ext e1⟩
noncomputable def zhw:D->Bool
 | .tup _=>false
 | .lst _=>false
 | .dct _ _=>false
 | .ins _ _ _=>false
 | .exc _=>false
 | .scr _=>false
 |_=>true
theorem IsD.scal {K:W.Frag}{F F':Hp}{d:D}{v:V}(s:zhw d=true)(h:IsD K F d v):IsD K F' d v:=by
 cases d with
 |tup _=>exact zqb s
 |lst _=>exact zqb s
 |dct _ _=>exact zqb s
 |ins _ _ _=>exact zqb s
 |exc _=>exact zqb s
 |scr _=>exact zqb s
 |_=>exact h
noncomputable def Res.bare {α : Type}(r:Res α):Res α := match r with
 | .ok a=>.ok a
 | .ex c []=>.ex c []
 |_=>.no
theorem Res.need_bare {α : Type}{K:W.Frag}{F H F1:Hp}{r:Res α}{p:α -> Prop}(sF:Same F H)(h:r.bare.need p (XW K E0 F H)):r.need p (XW K E0 F1 H):=by
 cases r with
 |ok a=>exact h
 |no=>exact h
 |ex c fs =>
  cases fs with
  |nil=>exact fun cv a F2 H2 e2 ⟨C,h1,h2,_⟩=>h cv none F H2 (.grow sF e2.hh) ⟨C,h1,h2,.inl rfl⟩
  |cons d r=>exact h.elim
def dTmp (is:List Nat)(f:FE):FE:=fun sd=>(f (frzD is sd)).bare.bind fun d=>if zhw d then .ok d else .no
def zjU (is:List Nat)(f:FT):FT:=fun sd=>(f (frzD is sd)).bare
theorem zoc {e:Expr}{fe:FE}(is:List Nat)(h:QE X E0 e fe):QE X E0 e (dTmp is fe):=PE.weak h fun σ H Q zh=>by
 refine zc3b zh fun B F sd r n=>?_;refine zc1b (r.frz is) fun F1 s1 r1=>?_;refine ⟨B,F1,_,r1,(Res.need_bare r.ext.fh (Res.need_bind n)).mono (fun d n1 v F2 H2 e2 i2=>?_) fun c fs q=>q⟩
 split at n1
 ·rename_i hs;exact n1 v F H2 (.grow r.ext.fh e2.hh) (i2.scal hs)
 ·exact n1.elim
theorem ziM {e:Expr}{fe:FT}(is:List Nat)(h:QT X E0 e fe):QT X E0 e (zjU is fe):=PT.weak h fun σ H Q zh=>by
 refine zc3b zh fun B F sd r n=>?_;refine zc1b (r.frz is) fun F1 s1 r1=>?_;refine ⟨B,F1,_,r1,(Res.need_bare r.ext.fh n).mono (fun d n1 F2 H2 e2=>?_) fun c fs q=>q⟩;exact n1 F H2 (.grow r.ext.fh e2.hh)
end
inductive Out where
 |next (sd:SD)|ret (d:D)|brk (sd:SD)|cont (sd:SD)
def OkM (K:W.Frag)(F H:Hp)(Q:VK)(d:D):Prop:=if zhw d=true then OkD K F H Q d else OkN K F H Q d
def RetOk (K:W.Frag)(m:Option Bool)(B:Bs)(Q:VK)(d:D):Prop:=match m with
 |some true=>OkN K B.F0 B.H0 Q d
 |some false=>OkD K B.F0 B.H0 Q d
 |none=>OkM K B.F0 B.H0 Q d
def zem (K:W.Frag)(m:Option Bool)(B:Bs)(F:Hp)(T:Ends):Out->Prop
 | .next sd=>∀ σ F' H',Same F F'->RS K B F' H' sd σ -> T.nx σ H'
 | .brk sd=>∀ σ F' H',Same F F'->RS K B F' H' sd σ -> T.bk σ H'
 | .cont sd=>∀ σ F' H',Same F F'->RS K B F' H' sd σ -> T.ct σ H'
 | .ret d=>RetOk K m B T.rt d
abbrev FS:=SD->Res Out
def tDS (K:W.Frag)(E:XK)(m:Option Bool)(g:FS):TS:=fun T σ H=>∃ B F sd,RS K B F H sd σ /\ (g sd).need (zem K m B F T) (XW K E B.F0 B.H0)
abbrev QS (X:Cx)(E:XK)(m:Option Bool)(st:Stmt)(g:FS):Prop:=PS X st (tDS X.K E m g)
abbrev QSs (X:Cx)(E:XK)(m:Option Bool)(st:List Stmt)(g:FS):Prop:=PSs X st (tDS X.K E m g)
section
variable {K:W.Frag}{E:XK}{m:Option Bool}{B:Bs}{F F' H:Hp}{T:Ends}
theorem zem.mono {o:Out}(h:zem K m B F T o)(e:Same F F'):zem K m B F' T o:=by
 cases o with
 |next sd=>exact fun σ F2 H2 s r=>h σ F2 H2 (e.trans s) r
 |brk sd=>exact fun σ F2 H2 s r=>h σ F2 H2 (e.trans s) r
 |cont sd=>exact fun σ F2 H2 s r=>h σ F2 H2 (e.trans s) r
 |ret d=>exact h
end
section
variable {X:Cx}{E:XK}{m:Option Bool}{st:Stmt}{sts:List Stmt}{g g1 g2:FS}{pos:Pos}
noncomputable def zaR:FS:=fun sd=>.ok (.next sd)
def sSeq (g1 g2:FS):FS:=fun sd=>(g1 sd).bind fun o=>match o with
 | .next sd'=>g2 sd'
 |o=>.ok o
theorem za8:QSs X E m [] zaR:=PSs.weak zpF (by rintro T σ H ⟨B,F,sd,r,n⟩;exact n σ F H (.refl _) r)
theorem zaf (h:QS X E m st g):QSs X E m [st] g:=zpV h
theorem zae (h1:QS X E m st g1)(h2:QSs X E m sts g2):QSs X E m (st::sts) (sSeq g1 g2):=PSs.weak (zom h1 h2) fun T σ H zh=>by
 refine zc3b zh fun B F sd r n=>?_;refine ⟨B,F,sd,r,(Res.need_bind n).mono (fun o n1=>?_) fun _ _ q=>q⟩;cases o with
 |next sd'=>exact fun σ' F' H' s r'=>⟨B,F',sd',r',n1.mono (fun o q=>q.mono s) fun _ _ q=>q⟩
 |ret d=>exact n1
 |brk sd'=>exact n1
 |cont sd'=>exact n1
theorem zfg (is:List Nat)(h:QS X E m st g):QS X E m st (fun sd=>g (frzD is sd)):=PS.weak h fun T σ H zh=>by
 refine zc3b zh fun B F sd r n=>?_;refine zc1b (r.frz is) fun F1 s1 r1=>?_;exact ⟨B,F1,_,r1,n.mono (fun _ q=>q.mono s1) fun _ _ q=>q⟩
noncomputable def sBrk:FS:=fun sd=>.ok (.brk sd)
theorem zov:QS X E m (.Break pos) sBrk:=PS.weak zo0 (by rintro T σ H ⟨B,F,sd,r,n⟩;exact n σ F H (.refl _) r)
variable {e:Expr}{fe:FE}
def sSet (i:Nat)(f:FE):FS:=fun sd=>(f sd).bind fun d=>.ok (.next (sd.set i (some (.val d))))
def sOwn (i:Nat)(f:FE):FS:=fun sd=>(f sd).bind fun d=>.ok (.next (sd.set i (some (.own false d))))
theorem zaI {i:Nat}{x:Str}{pos':Pos}(hN:X.N.Nodup)(hi:X.N[i]? = some x)(hx:Loc X.env.scope x)(he:QE X E e fe)(hs:autoParam (swapsWith e (some (.Name x pos')) pos.line X.env=pure false) zau._auto_1)
 (hf:X.fn x=true\/X.env.scope.names.lookup x=some .local:=by first|exact .inl rfl|exact .inr rfl):QS X E m (.Assign [.Name x pos'] e pos) (sSet i fe):=PS.weak (zph hN hi hx he hs hf) fun T σ H zh=>by
 refine zc3b zh fun B F sd r n=>?_;refine ⟨B,F,sd,r,(Res.need_bind n).mono (fun d n1 v F1 H1 e1 i1=>?_) fun _ _ q=>q.ext r.ext⟩;exact n1 _ F1 H1 e1.ff ((r.step e1).setVal i1)
theorem zcs {i:Nat}{x:Str}{pos':Pos}(hN:X.N.Nodup)(hi:X.N[i]? = some x)(hx:Loc X.env.scope x)(he:QN X E e fe)(hs:autoParam (swapsWith e (some (.Name x pos')) pos.line X.env=pure false) zau._auto_1)
 (hf:X.fn x=true\/X.env.scope.names.lookup x=some .local:=by first|exact .inl rfl|exact .inr rfl):QS X E m (.Assign [.Name x pos'] e pos) (sOwn i fe):=PS.weak (zph hN hi hx he hs hf) fun T σ H zh=>by
 refine zc3b zh fun B F sd r n=>?_;refine ⟨B,F,sd,r,(Res.need_bind n).mono (fun d n1 l F1 H1 e1 h1 h2 h3=>?_) fun _ _ q=>q.ext r.ext⟩;refine n1 _ F1 H1 e1.ff ((r.step e1).setOwn (za4 r.ext.hh h1) h2 h3 fun j p d' q1 q2=>?_);refine zc1e (r.own q1) fun l' p1 _ _ p4 _=>?_;rw [p1] at q2;cases q2;obtain ⟨o,ho⟩:=p4.has;rw [h1] at ho;exact zqn ho
def sRet (f:FE):FS:=fun sd=>(f sd).bind fun d=>.ok (.ret d)
theorem zaH (he:QE X E e fe):QS X E false (.Return (some e) pos) (sRet fe):=PS.weak (zlH he) fun T σ H zh=>by
 refine zc3b zh fun B F sd r n=>?_;refine ⟨B,F,sd,r,(Res.need_bind n).mono (fun d n1 v F1 H1 e1 i1=>?_) fun _ _ q=>q.ext r.ext⟩;exact n1 v F1 H1 (r.ext.trans e1) i1
theorem zbD (he:QN X E e fe):QS X E true (.Return (some e) pos) (sRet fe):=PS.weak (zlH he) fun T σ H zh=>by
 refine zc3b zh fun B F sd r n=>?_;refine ⟨B,F,sd,r,(Res.need_bind n).mono (fun d n1 l F1 H1 e1 h1 h2 h3=>?_) fun _ _ q=>q.ext r.ext⟩;exact n1 l F1 H1 (r.ext.trans e1) (za4 r.ext.hh h1) h2 h3
noncomputable def zcb (i:Nat):FS:=fun sd=>match sd[i]? with
 |some (some (.own _ d))=>.ok (.ret d)
 |_=>.no
theorem zc2 {i:Nat}(he:PE X e (tVar i)):QS X E true (.Return (some e) pos) (zcb i):=PS.weak (zlH he) fun T σ H zh=>by
 refine zc3b zh fun B F sd r n=>?_;unfold zcb at n
 split at n
 ·rename_i d q;refine zc1e (r.own q) fun l h1 h2 h3 h4 _=>?_;exact ⟨.ref l,h1,n l F H r.ext h2 h3 h4⟩
 ·exact n.elim
def znT (f:FE):FS:=fun sd=>(f sd).bind fun _=>.ok (.next sd)
def sIf (c:FT)(g1 g2:FS):FS:=fun sd=>(c sd).bind fun b=>if b then g1 sd else g2 sd
theorem zbs {c:Expr}{a b:List Stmt}{fc:FT}(hc:QT X E c fc)(ha:QSs X E m a g1)(hb:QSs X E m b g2):QS X E m (.If c a b pos) (sIf fc g1 g2):=PS.weak (ps_if hc ha hb) fun T σ H zh=>by
 refine zc3b zh fun B F sd r n=>?_;refine ⟨B,F,sd,r,(Res.need_bind n).mono (fun b n1 F1 H1 e1=>?_) fun _ _ q=>q.ext r.ext⟩;cases b with
 |true=>exact ⟨B,F1,sd,r.step e1,n1.mono (fun _ q=>q.mono e1.ff) fun _ _ q=>q⟩
 |false=>exact ⟨B,F1,sd,r.step e1,n1.mono (fun _ q=>q.mono e1.ff) fun _ _ q=>q⟩
def zaN (i:Nat)(f:FE):FS:=fun sd=>match sd[i]? with
 |some (some (.own false (.lst ds)))=>(f sd).bind fun d=>if ds.length<sizeLine then .ok (.next (sd.set i (some (.own false (.lst (ds++[d])))))) else .no
 |_=>.no
theorem zaZ {i:Nat}{o:Expr}{apos cpos:Pos}(ho:PE X o (tVar i))(he:QE X E e fe)
 (hp:∀ {to:TE} {t:TA},PE X o to->PA X [e] t->PE X (.Call (.Attribute o "append" apos) [e] [] cpos) (tBM X.K "list" zkW to t))
 (hs:autoParam (swapsWith (.Call (.Attribute o "append" apos) [e] [] cpos) none pos.line X.env=pure false) zau._auto_1)
 (hst:autoParam (starEach [e] X.env=(false,eval e X.env)::starEach [] X.env) zau._auto_1):QS X E m (.Expr (.Call (.Attribute o "append" apos) [e] [] cpos) pos) (zaN i fe) :=
 PS.weak (zmd (hp ho (zaa he zad hst)) hs) fun T σ H zh=>by
  obtain ⟨B,F,sd,r,n⟩:=zh;unfold zaN at n
  split at n
  ·rename_i ds hi;obtain ⟨l,h1,h2,h3,⟨xs,h4,h5⟩,_⟩:=r.own hi;refine ⟨.ref l,h1,.inl ⟨rfl,xs,SqL.of h4⟩,B,F,sd,r,?_⟩;unfold zab dNil;show ((fe sd).bind fun x=>.ok [x]).need _ _;have n2:=Res.need_bind n;cases q:fe sd with
   |no=>rw [q] at n2;exact n2
   |ex c fs=>rw [q] at n2;exact n2.ext r.ext
   |ok d =>
    rw [q] at n2;intro vs F1 H1 e1 i1;rw [IsDs.cons_iff] at i1;obtain ⟨v,w,rfl,i2,i3⟩:=i1;rw [IsDs.nil_iff] at i3;subst i3;have n3:(if ds.length<sizeLine then Res.ok (Out.next (sd.set i (some (.own false (.lst (ds++[d])))))) else .no).need (zem X.K m B F T) (XW X.K E B.F0 B.H0):=n2
    split at n3
    ·rename_i hz;have hl:=h5.length;refine ⟨l,xs,v,rfl,rfl,e1.hh _ _ h4,by omega,?_⟩;have r1:=r.step e1;exact n3 σ F1 _ e1.ff (r1.chg hi h1 ⟨xs++[v],zao,(IsDs.same e1.ff _ _ h5).snoc i2⟩)
    ·exact n3.elim
  ·exact n.elim
def zea (i:Nat)(f:FE):FS:=fun sd=>match sd[i]? with
 |some (some (.own false (.lst ds)))=>(f sd).bind fun d=>match d with
  | .lst es=>if ds.length+es.length<=sizeLine then .ok (.next (sd.set i (some (.own false (.lst (ds++es)))))) else .no
  |_=>.no
 |_=>.no
theorem zkJ {i:Nat}{o:Expr}{apos cpos:Pos}(ho:PE X o (tVar i))(he:QN X E e fe)
 (hp:∀ {to:TE} {t:TA},PE X o to->PA X [e] t->PE X (.Call (.Attribute o "extend" apos) [e] [] cpos) (tBM X.K "list" zkX to t))
 (hs:autoParam (swapsWith (.Call (.Attribute o "extend" apos) [e] [] cpos) none pos.line X.env=pure false) zau._auto_1)
 (hst:autoParam (starEach [e] X.env=(false,eval e X.env)::starEach [] X.env) zau._auto_1):QS X E m (.Expr (.Call (.Attribute o "extend" apos) [e] [] cpos) pos) (zea i fe) :=
 PS.weak (zmd (hp ho (zgC he ziI hst)) hs) fun T σ H zh=>by
  refine zc3b zh fun B F sd r n=>?_;unfold zea at n
  split at n
  ·rename_i ds hi;refine zc1e (r.own hi) fun l h1 h2 h3 zr4 _=>?_;obtain ⟨xs,h4,h5⟩:=zr4;refine ⟨.ref l,h1,.inl ⟨rfl,xs,SqL.of h4⟩,B,F,sd,r,(Res.need_bind n).mono (fun d n1 b F1 H1 e1 i1 i2 i3=>?_) fun _ _ q=>q.ext r.ext⟩;cases d with
   |lst es =>
    refine zc1b i3 fun ys g1 g2=>?_;have n3:(if ds.length+es.length<=sizeLine then Res.ok (Out.next (sd.set i (some (.own false (.lst (ds++es)))))) else .no).need (zem X.K m B F T) (XW X.K E B.F0 B.H0):=n1
    split at n3
    ·rename_i hz;have hl:=h5.length;have hl2:=g2.length;refine ⟨l,b,xs,ys,rfl,rfl,e1.hh _ _ h4,g1,by omega,?_⟩;have r1:=r.step e1;exact n3 σ F1 _ e1.ff (r1.chg hi h1 ⟨xs++ys,zao,(IsDs.same e1.ff _ _ h5).append g2⟩)
    ·exact n3.elim
   |_=>exact n1.elim
  ·exact n.elim
inductive Tg where
 |one (i:Nat)|tup (is:List Nat)
noncomputable def setAll:List Nat->List D->SD->SD
 |i::is,d::ds,sd=>setAll is ds (sd.set i (some (.val d)))
 |_,_,sd=>sd
def zbB:Tg->D->SD->Res SD
 | .one i,d,sd=>.ok (sd.set i (some (.val d)))
 | .tup is,.tup ds,sd=>if ds.length=is.length then .ok (setAll is ds sd) else .no
 |_,_,_=>.no
noncomputable def zgs:List Nat->List V->St->St
 |i::is,v::vs,σ => zgs is vs (σ.set i (some v))
 |_,_,σ => σ
theorem RS.setAll {K:W.Frag}{B:Bs}{F H:Hp}:∀ {is:List Nat} {ds:List D} {vs:List V} {sd:SD} {σ : St},RS K B F H sd σ -> IsDs K F ds vs->RS K B F H (setAll is ds sd) (zgs is vs σ)
 | [],ds,vs,sd,σ,r,_=>r
 |i::is,[],vs,sd,σ,r,h=>by
  rw [IsDs.nil_iff] at h;subst h;exact r
 |i::is,d::ds,vs,sd,σ,r,h=>by
  rw [IsDs.cons_iff] at h;refine zc2c h fun v w zr2 h1 h2=>?_;subst zr2;exact RS.setAll (is:=is) (ds:=ds) (vs:=w) (r.setVal (i:=i) h1) h2
theorem RS.forget {K:W.Frag}{B:Bs}{F H:Hp}{sd sd':SD}{σ : St}(r:RS K B F H sd σ)(hl:sd'.length=sd.length)(h:∀ (i:Nat) (x:SV),sd'[i]? = some (some x)->sd[i]? = some (some x)):RS K B F H sd' σ :=
 ⟨r.ext,by rw [r.len,hl],fun q=>r.val (h _ _ q),fun q=>r.own (h _ _ q),fun n q1 q2 q3=>r.apart n (h _ _ q1) (h _ _ q2) q3⟩
def gT:Tg->W.Frag->TG
 | .one i,_=>zgH i
 | .tup is,K=>fun v σ H Q=>∃ a xs,v=.ref a/\SqT K H a xs/\xs.length=is.length/\Q (zgs is xs σ) H
theorem zpK {K:W.Frag}{tg:Tg}{B:Bs}{F H:Hp}{sd:SD}{σ : St}{d:D}{v:V}{p:SD->Prop}{q:Str->List D->Prop}{Q:St->Hp->Prop}(r:RS K B F H sd σ)(hi:IsD K F d v)(n:(zbB tg d sd).need p q)
 (h:∀ sd' σ',p sd'->zbB tg d sd=.ok sd'->RS K B F H sd' σ'->Q σ' H):gT tg K v σ H Q:=by
 cases tg with
 |one i=>exact h _ _ n rfl (r.setVal hi)
 |tup is =>
  cases d with
  |tup ds =>
   rw [IsD.tup_iff] at hi;refine zc2c hi fun a xs zr2 h1 h2=>?_;subst zr2;have eb:zbB (.tup is) (.tup ds) sd=if ds.length=is.length then .ok (setAll is ds sd) else .no:=rfl
   by_cases hl:ds.length=is.length
   ·rw [if_pos hl] at eb;rw [eb] at n;exact ⟨a,xs,rfl,(h1.same r.ext.fh).sq,by rw [h2.length,hl],h _ _ n eb (r.setAll h2)⟩
   ·rw [if_neg hl] at eb;rw [eb] at n;exact n.elim
  |_=>exact n.elim
abbrev QG (X:Cx)(e:Expr)(tg:Tg):Prop:=PG X e (gT tg X.K)
def Walk (K:W.Frag)(F1:Hp)(J:It)(ds:List D):Prop:=∀ (i:Nat) (F2 H2:Hp),Same F1 F2->Same F2 H2 ->
 (i<ds.length->J.go i H2/\∀ x H3,J.yld i H2 x H3->∃ d F3,ds[i]? = some d/\Ext F2 H2 F3 H3/\IsD K F3 d x)/\(ds.length<=i->J.stop i H2)
def tDI (K:W.Frag)(E:XK)(f:FA):TI:=fun σ H R=>∃ B F sd,RS K B F H sd σ /\ (f sd).need (fun ds=>∀ J F' H',Ext F H F' H'->Walk K F' J ds->R J H') (XW K E F H)
abbrev QI (X:Cx)(E:XK)(tg iter:Expr)(f:FA):Prop:=PI X tg iter (tDI X.K E f)
def forD (b:D->FS):List D->FS
 | [],sd=>.ok (.next sd)
 |x::xs,sd=>(b x sd).bind fun o=>match o with
  | .next sd'=>forD b xs sd'
  | .cont sd'=>forD b xs sd'
  | .brk sd'=>.ok (.next sd')
  | .ret d=>.ok (.ret d)
def sFor (it:FA)(tg:Tg)(b:FS):FS:=fun sd=>(it sd).bind fun ds=>forD (fun x sd=>(zbB tg x sd).bind b) ds sd
theorem zbp {tg iter:Expr}{body:List Stmt}{fi:FA}{t:Tg}(hp:PassesOwn (model X.prog X.w) X.A X.env X.xe)(hc:X.calm=true)(hi:QI X E tg iter fi)(hg:QG X tg t)(hb:QSs X E m body g)
 (hss:autoParam (∀ x,foldedSetIterable iter X.env x=pure x) zaw._auto_1):QS X E m (.For tg iter body [] pos) (sFor fi t g):=PS.weak (zsE hp hc hi hg hb hss) fun T σ H zh=>by
 refine zc3b zh fun B F sd r n=>?_;refine ⟨B,F,sd,r,(Res.need_bind n).mono (fun ds n1 J F1 H1 e1 wk=>?_) fun _ _ q=>q.ext r.ext⟩;refine ⟨fun i k σ H=>k=ds.length-i/\i<=ds.length/\∃ F2 sd,Same F1 F2/\RS X.K B F2 H sd σ /\ (forD (fun x sd=>(zbB t x sd).bind g) (ds.drop i) sd).need (zem X.K m B F2 T) (XW X.K E B.F0 B.H0),
  ⟨ds.length,rfl,Nat.zero_le _,F1,sd,.refl _,r.step e1,n1.mono (fun _ q=>q.mono e1.ff) fun _ _ q=>q⟩,?_⟩
 rintro i k σ2 H2 ⟨rfl,hi,F2,sd2,s2,r2,n2⟩;obtain ⟨w1,w2⟩:=wk i F2 H2 s2 r2.ext.fh;by_cases hlt:i<ds.length
 ·obtain ⟨go,yl⟩:=w1 hlt;refine .inr ⟨go,fun σ' H'=>∃ F3 sd3,Same F1 F3/\RS X.K B F3 H' sd3 σ'/\(forD (fun x sd=>(zbB t x sd).bind g) (ds.drop (i+1)) sd3).need (zem X.K m B F3 T) (XW X.K E B.F0 B.H0),
   fun σ' H' ⟨F3,sd3,q1,q2,q3⟩=>⟨ds.length-(i+1),by omega,rfl,hlt,F3,sd3,q1,q2,q3⟩,fun x H3 y=>?_⟩
  refine zc2c (yl x H3 y) fun d F3 hd e3 i3=>?_;rw [List.drop_eq_getElem_cons hlt] at n2;have hd':ds[i]=d:=by rw [Zqg hlt] at hd;exact Zqi hd
  rw [hd'] at n2;have r3:=r2.step e3;unfold forD at n2;have n3:=Res.need_bind (Res.need_bind n2);refine zpK r3 i3 n3 fun sd' σ' n4 _ r4=>?_;refine ⟨B,F3,sd',r4,n4.mono (fun o n5=>?_) fun _ _ q=>q⟩;cases o with
  |next sd5=>exact fun σ5 F5 H5 s5 r5=>⟨F5,sd5,(s2.trans e3.ff).trans s5,r5,n5.mono (fun _ q=>q.mono (e3.ff.trans s5)) fun _ _ q=>q⟩
  |cont sd5=>exact fun σ5 F5 H5 s5 r5=>⟨F5,sd5,(s2.trans e3.ff).trans s5,r5,n5.mono (fun _ q=>q.mono (e3.ff.trans s5)) fun _ _ q=>q⟩
  |brk sd5=>exact fun σ5 F5 H5 s5 r5=>n5 σ5 F5 H5 (e3.ff.trans s5) r5
  |ret d=>exact n5
 ·have he:i=ds.length:=by omega
  refine .inl ⟨w2 (by omega),?_⟩;subst he;rw [List.drop_length] at n2;exact n2 σ2 F2 H2 (.refl _) r2
def mapD {α β : Type}(f:α -> Res β):List α -> Res (List β)
 | []=>.ok []
 |x::xs=>(f x).bind fun y=>(mapD f xs).bind fun ys=>.ok (y::ys)
def capD (cap:List (Option Nat))(sd:SD):SD:=cap.map fun o=>o.bind fun j=>match sd[j]? with
 |some (some (.val d))=>some (.val d)
 |_=>none
noncomputable def zd6 (sd:SD)(i:Nat):Bool:=match sd[i]? with
 |some none=>true
 |_=>false
def zeK (sd:SD):Tg->Bool
 | .one i=>zd6 sd i
 | .tup is=>is.all (zd6 sd)
def zaP (cap:List (Option Nat))(it:FA)(tg:Tg)(f:FE):FE:=fun sd=>(it sd).bind fun ds=>if zeK (capD cap sd) tg=true/\ds.length<sizeLine then
 (mapD (fun x=>(zbB tg x (capD cap sd)).bind f) ds).bind fun ys=>.ok (.lst ys) else .no
theorem RS.cap {K:W.Frag}{B:Bs}{F H:Hp}{sd:SD}{σ : St}(cap:List (Option Nat))(r:RS K B F H sd σ):RS K B F H (capD cap sd) (zis cap σ):=by
 have key:∀ {i:Nat} {x:SV},(capD cap sd)[i]? = some (some x)->∃ j d,cap[i]? = some (some j)/\sd[j]? = some (some (.val d))/\x=.val d:=fun {i x} q=>by
  unfold capD at q;rw [List.getElem?_map] at q;cases hc:cap[i]? with
  |none=>rw [hc] at q;exact zqn q
  |some o =>
   rw [hc] at q;cases o with
   |none=>cases q
   |some j =>
    have q:(match sd[j]? with
     |some (some (.val d))=>some (SV.val d)
     |_=>none)=some x:=Zqi q
    split at q
    ·rename_i d hd;exact ⟨j,d,rfl,hd,(Zqi q).symm⟩
    ·exact zqn q
 refine ⟨r.ext,by unfold capD zis;rw [Zql,Zql],fun {i d} q=>?_,fun {i p d} q=>?_,fun {i j p p' d e l} _ q=>?_⟩
 ·refine zc2c (key q) fun j d' h1 h2 h3=>?_;cases h3;refine zc1b (r.val h2) fun v v1 v2=>?_;refine ⟨v,?_,v2⟩;unfold zis;rw [List.getElem?_map,h1];show some (Option.bind (some j) fun j=>(σ[j]?).join)=_;rw [Option.bind_some,v1];rfl
 ·refine zc2c (key q) fun j d' h1 h2 h3=>?_;cases h3
 ·refine zc2c (key q) fun j d' h1 h2 h3=>?_;cases h3
theorem zdc:∀ (is:List Nat) (ds:List D) (sd0 sd:SD),is.all (zd6 sd0)=true->sd.length=sd0.length->(∀ (i:Nat) (x:SV),sd0[i]? = some (some x)->sd[i]? = some (some x)) ->
 (setAll is ds sd).length=sd0.length/\∀ (i:Nat) (x:SV),sd0[i]? = some (some x)->(setAll is ds sd)[i]? = some (some x)
 | [],ds,sd0,sd,_,hl,h=>⟨hl,h⟩
 |i::is,[],sd0,sd,_,hl,h=>⟨hl,h⟩
 |i::is,d::ds,sd0,sd,hn,hl,h=>by
  rw [List.all_cons,Bool.and_eq_true] at hn;refine zdc is ds sd0 (sd.set i (some (.val d))) hn.2 (by rw [List.length_set,hl]) fun j x q=>?_;have ne:i≠j:=fun z=>by
   subst z;have:=hn.1;unfold zd6 at this;rw [q] at this;exact zqb this
  rw [zay ne];exact h j x q
theorem zfZ {tg:Tg}{sd0 sd:SD}{d:D}(hn:zeK sd0 tg=true)(h:zbB tg d sd0=.ok sd):sd0.length=sd.length/\∀ (i:Nat) (x:SV),sd0[i]? = some (some x)->sd[i]? = some (some x):=by
 cases tg with
 |one i =>
  cases h;have:=zdc [i] [d] sd0 sd0 (by rw [List.all_cons,List.all_nil,Bool.and_true];exact hn) rfl fun _ _ q=>q;exact ⟨this.1.symm,this.2⟩
 |tup is =>
  cases d with
  |tup ds =>
   have eb:zbB (.tup is) (.tup ds) sd0=if ds.length=is.length then .ok (setAll is ds sd0) else .no:=rfl
   rw [eb] at h
   split at h
   ·cases h;have:=zdc is ds sd0 sd0 hn rfl fun _ _ q=>q;exact ⟨this.1.symm,this.2⟩
   ·cases h
  |_=>cases h
theorem zm0 {α β : Type}{f:α -> Res β}{xs:List α}{i:Nat}{x:α}{p:List β -> Prop}{q:Str->List D->Prop}(hx:xs[i]? = some x)(h:(mapD f (xs.drop i)).need p q):(f x).need (fun y=>(mapD f (xs.drop (i+1))).need (fun ys=>p (y::ys)) q) q:=by
 have hlt:i<xs.length:=(List.getElem?_eq_some_iff.mp hx).1;rw [List.drop_eq_getElem_cons hlt] at h;have e:xs[i]=x:=by rw [Zqg hlt] at hx;exact Zqi hx
 rw [e] at h;unfold mapD at h;refine (Res.need_bind h).mono (fun y h1=>?_) fun _ _ z=>z;exact (Res.need_bind h1).mono (fun ys h2=>h2) fun _ _ z=>z
theorem ziG {K:W.Frag}{t:Tg}{fi:FA}{f:FE}{cap:List (Option Nat)}{σ : St}{H:Hp}{Q:VK}(hh:tDN K E (zaP cap fi t f) σ H Q):znS cap (tDI K E fi) (gT t K) (tD K E f) σ H Q:=by
 refine zc3b hh fun B F sd r n=>?_;refine ⟨B,F,sd,r,(Res.need_bind n).mono (fun ds n1 J F1 H1 e1 wk=>?_) fun _ _ q=>q⟩
 split at n1
 ·rename_i hh;obtain ⟨hn,hz⟩:=hh;refine ⟨fun i k ys σ H2=>k=ds.length-i/\i<=ds.length/\∃ F2 es,Ext F1 H1 F2 H2/\RS K B F2 H2 (capD cap sd) σ /\ IsDs K F2 es ys/\es.length=i /\
   (mapD (fun x=>(zbB t x (capD cap sd)).bind f) (ds.drop i)).need (fun rs=>OkN K F2 H2 Q (.lst (es++rs))) (XW K E F2 H2),⟨ds.length,rfl,Nat.zero_le _,F1,[],.refl e1.fh,(r.step e1).cap cap,.nil,rfl,?_⟩,?_⟩
  ·exact (Res.need_bind n1).mono (fun rs q=>(show OkN K F H Q (.lst rs) from q).ext e1) fun _ _ q=>q.ext e1
  rintro i k ys σ2 H2 ⟨rfl,hi,F2,es,e2,r2,i2,hl,n2⟩;have ly:=i2.length;refine ⟨by omega,?_⟩;obtain ⟨w1,w2⟩:=wk i F2 H2 e2.ff e2.fh;by_cases hlt:i<ds.length
  ·obtain ⟨go,yl⟩:=w1 hlt;refine .inr ⟨go,fun x H3 y=>?_⟩;refine zc2c (yl x H3 y) fun d F3 hd e3 i3=>?_;have n3:=zm0 hd n2;have r3:=r2.step e3;refine zpK (K:=K) r3 i3 (Res.need_bind n3) fun sd' σ' n4 hb r4=>?_;obtain ⟨b1,b2⟩:=zfZ hn hb;refine ⟨B,F3,sd',r4,n4.mono (fun y n5 v F4 H4 e4 i4=>?_) fun _ _ q=>q.ext e3⟩;refine ⟨ds.length-(i+1),by omega,rfl,hlt,F4,es++[y],(e2.trans e3).trans e4,(r4.step e4).forget b1 b2,(IsDs.same (e3.ff.trans e4.ff) _ _ i2).snoc i4,by rw [List.length_append,hl];rfl,?_⟩;refine n5.mono (fun rs q=>?_) fun _ _ q=>q.ext (e3.trans e4);rw [List.append_assoc];exact q.ext (e3.trans e4)
  ·have he:i=ds.length:=by omega
   subst he;refine .inl ⟨w2 (Nat.le_refl _),fun D hD=>?_⟩;rw [List.drop_length] at n2;have q:OkN K F2 H2 Q (.lst (es++[])):=n2;rw [List.append_nil] at q;exact q D F2 _ (.keep r2.ext.fh hD _) hD (za4 r2.ext.fh hD) ⟨ys,zao,i2⟩
 ·exact n1.elim
theorem zbA {tg iter elt:Expr}{scope:Scope}{t:Tg}{fi:FA}{f:FE}(N:List Str)(cap:List (Option Nat))(hc:X.calm=true)(okB:zb2 scope X.env N X.N cap=true)(hi:QI X E tg iter fi)
 (hg:∀ cl C s H ex,QG (za0 X scope N cl C s H ex) tg t) (he:∀ cl C s H ex,QE (za0 X scope N cl C s H ex) E elt f) (hs:autoParam (∀ x,foldedSetIterable iter X.env x=pure x) zaw._auto_1) :
 QN X E (.ListComp elt [⟨tg,iter,[],0⟩] scope pos) (zaP cap fi t f):=PE.weak (zqy (g:=gT t X.K) (te:=tD X.K E f) N cap hc okB hi hg he hs) fun _ _ _ h=>ziG h
noncomputable def zcR (n:Nat)(ds:List D):SD:=ds.map (fun d=>some (.val d))++List.replicate (n-ds.length) none
def runD (n ar:Nat)(g:FS)(ds:List D):Res D:=if ds.length=ar then (g (zcR n ds)).bind fun o=>match o with
 | .ret d=>.ok d
 | .next _=>.ok .non
 |_=>.no else .no
def runN (n ar:Nat)(g:FS)(ds:List D):Res D:=if ds.length=ar then (g (zcR n ds)).bind fun o=>match o with
 | .ret d=>.ok d
 |_=>.no else .no
theorem RS.start {K:W.Frag}{F H:Hp}{N:List Str}{ds:List D}{vs:List V}(s:Same F H)(h:IsDs K F ds vs):RS K ⟨F,H,fun _=>none⟩ F H (zcR N.length ds) (start N vs):=by
 have key:∀ {i:Nat} {x:SV},(zcR N.length ds)[i]? = some (some x)->∃ d,ds[i]? = some d/\x=.val d:=fun {i x} q=>by
  unfold zcR at q;by_cases hi:i<ds.length
  ·rw [List.getElem?_append_left (by rw [Zql];exact hi),List.getElem?_map,Zqg hi] at q;exact ⟨ds[i],Zqg hi,(Zqi (Zqi q)).symm⟩
  ·rw [List.getElem?_append_right (by rw [Zql];omega),List.getElem?_replicate] at q
   split at q<;>(first|exact zqn q|cases q)
 refine ⟨.refl s,by unfold zcR L2.start;simp [h.length],fun {i d} q=>?_,fun {i p d} q=>?_,fun {i j p p' d e l} _ q=>?_⟩
 ·refine zc1b (key q) fun d' h1 h2=>?_;cases h2;refine zc1b (h.get h1) fun v v1 v2=>?_;refine ⟨v,?_,v2⟩;unfold L2.start;rw [List.getElem?_append_left (by rw [Zql];exact (List.getElem?_eq_some_iff.mp v1).1),List.getElem?_map,v1];rfl
 ·refine zc1b (key q) fun _ _ h2=>?_;cases h2
 ·refine zc1b (key q) fun _ _ h2=>?_;cases h2
section
variable {P:Program}{w:World}{K:W.Frag}{mg:Str->Option Value}{base:Heap}{x qual:Str}{f:Addr}{fd:FuncData}{N ps:List Str}{k:Nat}
theorem fn_d {g:FS}(F:Fun K x qual st f fd)(S:FnScope N ps (zag st))
 (hb:∀ (cdv:Value) (A:Around) (outer:List Env) (s:Shared) (H:Hp) (E:XK),Room k (A.deeper (envOfC qual (zag st) s.heap.objs.size f cdv))->QSs (cxOf CX0 P w K mg base N qual (zag st) f cdv A outer s H E).nox E0 false (zbE st) g) :
 FnOk P w K mg base CX0 (k+1) f fd ps (SpD K (runD N.length ps.length g)):=by
 refine F.ok S (fun vs H Q E ⟨F,ds,_,h,n⟩=>?_) fun cdv A outer s H vs Q E hr ⟨F,ds,hs,h,n⟩=>⟨_,hb cdv A outer s H E hr,?_⟩
 ·unfold runD at n
  split at n
  ·rw [h.length];assumption
  ·exact n.elim
 ·unfold runD at n
  split at n
  ·refine ⟨⟨F,H,fun _=>none⟩,F,_,RS.start hs h,(Res.need_bind n).mono (fun o n1=>?_) fun _ _ q=>q⟩;cases o with
   |next sd=>exact fun σ F' H' _ r=>n1 .non F' H' r.ext (IsD.non_iff.mpr rfl)
   |ret d=>exact n1
   |brk sd=>exact n1.elim
   |cont sd=>exact n1.elim
  ·exact n.elim
theorem fn_n {g:FS}(F:Fun K x qual st f fd)(S:FnScope N ps (zag st))
 (hb:∀ (cdv:Value) (A:Around) (outer:List Env) (s:Shared) (H:Hp) (E:XK),Room k (A.deeper (envOfC qual (zag st) s.heap.objs.size f cdv))->QSs (cxOf CX0 P w K mg base N qual (zag st) f cdv A outer s H E).nox E0 true (zbE st) g) :
 FnOk P w K mg base CX0 (k+1) f fd ps (SpN K (runN N.length ps.length g)):=by
 refine F.ok S (fun vs H Q E ⟨F,ds,_,h,n⟩=>?_) fun cdv A outer s H vs Q E hr ⟨F,ds,hs,h,n⟩=>⟨_,hb cdv A outer s H E hr,?_⟩
 ·unfold runN at n
  split at n
  ·rw [h.length];assumption
  ·exact n.elim
 ·unfold runN at n
  split at n
  ·refine ⟨⟨F,H,fun _=>none⟩,F,_,RS.start hs h,(Res.need_bind n).mono (fun o n1=>?_) fun _ _ q=>q⟩;cases o with
   |next sd=>exact n1.elim
   |ret d=>exact n1
   |brk sd=>exact n1.elim
   |cont sd=>exact n1.elim
  ·exact n.elim
end
end
noncomputable def prD (p:Int×Int):D:=.tup [.int p.1,.int p.2]
def rwD (r:List (Int×Int)):D:=.tup (r.map prD)
noncomputable def zhn:D->Option (Int×Int)
 | .tup [.int i,.int j]=>some (i,j)
 |_=>none
def zb3 {α : Type}(f:D->Option α):List D->Option (List α)
 | []=>some []
 |d::ds=>(f d).bind fun x=>(zb3 f ds).map fun xs=>x::xs
def zdo:D->Option (List (Int×Int))
 | .tup ds=>zb3 zhn ds
 |_=>none
noncomputable def zjL:D->Option Int
 | .int i=>some i
 |_=>none
theorem zbQ {α β : Type}{f:D->Option α}{g:β -> D}{k:β -> α}(h:∀ x,f (g x)=some (k x)):∀ l:List β,zb3 f (l.map g)=some (l.map k)
 | []=>rfl
 |x::r=>by rw [List.map_cons];unfold zb3;rw [h,zbQ h r];rfl
theorem zbS {α : Type}{f:D->Option α}{g:α -> D}(h:∀ d x,f d=some x->d=g x):∀ {ds:List D} {l:List α},zb3 f ds=some l->ds=l.map g
 | [],l,e=>by cases e;rfl
 |d::ds,l,e=>by
  unfold zb3 at e;cases h1:f d with
  |none=>rw [h1] at e;exact zqn e
  |some x =>
   cases h2:zb3 f ds with
   |none=>rw [h1,h2] at e;exact zqn e
   |some xs =>
    rw [h1,h2] at e;obtain rfl:=Zqi e;rw [List.map_cons,<- h d x h1,<- zbS h h2]
theorem zlP (p:Int×Int):zhn (prD p)=some p:=rfl
theorem zki {d:D}{p:Int×Int}(h:zhn d=some p):d=prD p:=by
 cases d with
 |tup ds =>
  cases ds with
  |nil=>exact zqn h
  |cons x ds =>
   cases x with
   |int i =>
    cases ds with
    |nil=>exact zqn h
    |cons y ds =>
     cases y with
     |int j =>
      cases ds with
      |nil=>obtain rfl:=Zqi h;rfl
      |cons _ _=>exact zqn h
     |_=>exact zqn h
   |_=>exact zqn h
 |_=>exact zqn h
theorem zdl (r:List (Int×Int)):zdo (rwD r)=some r:=by
 show zb3 zhn (r.map prD)=some r;rw [zbQ (k:=id) zlP,List.map_id]
theorem zhF {d:D}{r:List (Int×Int)}(h:zdo d=some r):d=rwD r:=by
 cases d with
 |tup ds=>unfold rwD;rw [<- zbS (fun _ _=>zki) (show zb3 zhn ds=some r from h)]
 |_=>exact zqn h
theorem zmw {d:D}{i:Int}(h:zjL d=some i):d=.int i:=by
 cases d with
 |int j=>cases h;rfl
 |_=>exact zqn h
theorem zjO {ds:List D}{l:List Int}(h:zb3 zjL ds=some l):ds=l.map D.int:=zbS (fun _ _=>zmw) h
theorem zjT (l:List Int):zb3 zjL (l.map D.int)=some l:=by
 have h:=zbQ (f:=zjL) (g:=D.int) (k:=fun i:Int=>i) (fun _=>rfl) l;rw [h,List.map_id']
theorem zdL (l:List (List (Int×Int))):zb3 zdo (l.map rwD)=some l:=by rw [zbQ (k:=id) zdl,List.map_id]
theorem zdU {ds:List D}{l:List (List (Int×Int))}(h:zb3 zdo ds=some l):ds=l.map rwD:=zbS (fun _ _=>zhF) h
section
variable {K:W.Frag}{H:Hp}
theorem zoZ {p:Int×Int}{v:V}:IsD K H (prD p) v↔Is H (pD p) v:=by
 rw [zgz];unfold prD;rw [IsD.tup_iff];constructor
 ·rintro ⟨a,xs,rfl,h1,h2⟩;have:xs=[p.1,p.2].map V.int:=IsDs.ints_iff (ns:=[p.1,p.2]) h2;subst this;exact ⟨a,rfl,h1⟩
 ·rintro ⟨a,rfl,h1⟩;exact ⟨a,_,rfl,h1,IsDs.ints [p.1,p.2]⟩
theorem zeP:∀ {r:List (Int×Int)} {xs:List V},IsDs K H (r.map prD) xs↔zas H (r.map pD) xs
 | [],xs=>by rw [List.map_nil,List.map_nil,IsDs.nil_iff];unfold zas;exact Iff.rfl
 |p::r,xs=>by
  rw [List.map_cons,List.map_cons,IsDs.cons_iff];constructor
  ·rintro ⟨x,w,rfl,h1,h2⟩;unfold zas;exact ⟨x,w,rfl,zoZ.mp h1,zeP.mp h2⟩
  ·intro h;unfold zas at h;refine zc2c h fun x w e h1 h2=>?_;exact ⟨x,w,e,zoZ.mpr h1,zeP.mpr h2⟩
theorem zp0 {r:List (Int×Int)}{v:V}:IsD K H (rwD r) v↔Is H (rD r) v:=by
 unfold rwD rD;rw [IsD.tup_iff,Is.tuple_iff];constructor
 ·rintro ⟨a,xs,e,h1,h2⟩;exact ⟨a,xs,e,h1,zeP.mp h2⟩
 ·rintro ⟨a,xs,e,h1,h2⟩;exact ⟨a,xs,e,h1,zeP.mpr h2⟩
theorem zcO:∀ {r:List (List (Int×Int))} {xs:List V},IsDs K H (r.map rwD) xs↔zas H (r.map rD) xs
 | [],xs=>by rw [List.map_nil,List.map_nil,IsDs.nil_iff];unfold zas;exact Iff.rfl
 |p::r,xs=>by
  rw [List.map_cons,List.map_cons,IsDs.cons_iff];constructor
  ·rintro ⟨x,w,rfl,h1,h2⟩;unfold zas;exact ⟨x,w,rfl,zp0.mp h1,zcO.mp h2⟩
  ·intro h;unfold zas at h;refine zc2c h fun x w e h1 h2=>?_;exact ⟨x,w,e,zp0.mpr h1,zcO.mpr h2⟩
end
section
variable {X:Cx}{E:XK}
noncomputable def gI (f:Int->Int->D):D->D->Option D
 | .int i,.int j=>some (f i j)
 |_,_=>none
noncomputable def gIc (c:Int->Int->Bool)(f:Int->Int->D):D->D->Option D
 | .int i,.int j=>if c i j then some (f i j) else none
 |_,_=>none
theorem zpw {h:Value->Value->Sem Value}{f:Int->Int->D}{g:Int->Int->V}(o:OpR X h (rI0 g))(hg:∀ i j F,IsD X.K F (f i j) (g i j)):OpD X h (gI f):=OpR.weak o fun x y H Q zh=>by
 obtain ⟨F,d,e,z,sF,id,ie,hz,q⟩:=zh;cases d with
 |int i =>
  cases e with
  |int j=>cases hz;exact ⟨i,j,IsD.int_iff.mp id,IsD.int_iff.mp ie,q _ F H (.refl sF) (hg i j F)⟩
  |_=>exact zqn hz
 |_=>exact zqn hz
theorem ziE {h:Value->Value->Sem Value}{C:Int->Int->Prop}{c:Int->Int->Bool}{f:Int->Int->D}{g:Int->Int->V}(o:OpR X h (rI C g))(hc:∀ i j,c i j=true->C i j)(hg:∀ i j F,IsD X.K F (f i j) (g i j)):OpD X h (gIc c f):=OpR.weak o fun x y H Q zh=>by
 obtain ⟨F,d,e,z,sF,id,ie,hz,q⟩:=zh;cases d with
 |int i =>
  cases e with
  |int j =>
   have hz:(if c i j then some (f i j) else none)=some z:=hz
   split at hz
   ·rename_i hcc;cases hz;exact ⟨i,j,IsD.int_iff.mp id,IsD.int_iff.mp ie,hc i j hcc,q _ F H (.refl sF) (hg i j F)⟩
   ·exact zqn hz
  |_=>exact zqn hz
 |_=>exact zqn hz
theorem isI (i:Int)(F:Hp):IsD X.K F (.int i) (.int i):=IsD.int_iff.mpr rfl
theorem isB (b:Bool)(F:Hp):IsD X.K F (.bl b) (.bl b):=IsD.bl_iff.mpr rfl
noncomputable def gSub:=gI fun i j=>.int (i-j)
noncomputable def bigB:Nat:=10715086071862673209484250490600018105614048117055336074437503883703510511249361224931983788156958581275946729175531468251871452856923140435984577574698574803934567774824230985421074605062371141877954182153046474983581941267398767559165543946077062914571196477686542167660429831652624386837205668069376
def zeJ (i j:Int):Bool:=(Nat.blt i.natAbs 18446744073709551616||Nat.blt j.natAbs 18446744073709551616)||(Nat.blt i.natAbs bigB&&Nat.blt j.natAbs bigB)
theorem zjy {k:Int}(h:k.natAbs<bigB):Builtin.Int.intBits k<=2 ^ 20:=by
 have e:bigB<=2 ^ 1000:=Nat.le_of_ble_eq_true rfl;have hn:k.natAbs<2 ^ 1000:=Nat.lt_of_lt_of_le h e;unfold Builtin.Int.intBits
 split
 ·exact Nat.zero_le _
 ·have l:k.natAbs.log2<1000:=by
   rcases Nat.eq_zero_or_pos k.natAbs with h0|hp
   ·rw [h0];decide
   ·exact (Nat.log2_lt (Nat.ne_of_gt hp)).mpr hn
  have e:(2:Nat) ^ 20=1048576:=by decide
  omega
theorem zoC {i j:Int}(h:zeJ i j=true):IntMulOk i j:=by
 unfold zeJ at h;rw [Bool.or_eq_true,Bool.or_eq_true,Bool.and_eq_true,Nat.blt_eq,Nat.blt_eq,Nat.blt_eq,Nat.blt_eq] at h;rcases h with (h|h)|⟨h1,h2⟩
 ·exact .of_left (intBits_le_64 (by omega) (by omega))
 ·exact .of_right (intBits_le_64 (by omega) (by omega))
 ·exact .of_bits (zjy h1) (zjy h2)
theorem zp5:OpR X (binaryOp .Mult) (rI (fun i j=>zeJ i j=true) fun i j=>.int (i*j)):=opI fun _ _ _ _ _ _ _ hc q=>mul_int q (zoC hc)
def gMul:=gIc zeJ fun i j=>.int (i*j)
def zhd:=gIc (fun _ j=>Nat.blt 0 j.toNat&&Nat.blt j.toNat 1073741824) fun i j=>.int (i / j)
def gMod:=gIc (fun _ j=>Nat.blt 0 j.toNat) fun i j=>.int (i % j)
def gPow:=gIc (fun i j=>Nat.ble (-j).toNat 0&&(Nat.ble j.toNat 1000000&&Nat.blt i.natAbs 18446744073709551616)) fun i j=>.int (i ^ j.toNat)
noncomputable def gLt:=gI fun i j=>.bl (decide (i<j))
noncomputable def gGt:=gI fun i j=>.bl (decide (j<i))
theorem zqo:OpD X (binaryOp .Sub) gSub:=zpw zt9 fun _ _ F=>isI _ F
theorem zlh:OpD X (binaryOp .Mult) gMul:=ziE zp5 (fun i j h=>h) fun _ _ F=>isI _ F
theorem zgb:OpD X (binaryOp .FloorDiv) zhd:=ziE zqg (fun i j h=>by rw [Bool.and_eq_true,Nat.blt_eq,Nat.blt_eq] at h;unfold CDiv;omega) fun _ _ F=>isI _ F
theorem zcl:OpD X (binaryOp .Mod) gMod:=ziE ztO (fun i j h=>by rw [Nat.blt_eq] at h;omega) fun _ _ F=>isI _ F
theorem o_pow:OpD X (binaryOp .Pow) gPow:=ziE zsR (fun i j h=>by rw [Bool.and_eq_true,Bool.and_eq_true,Nat.ble_eq,Nat.ble_eq,Nat.blt_eq] at h;unfold CPow;omega) fun _ _ F=>isI _ F
theorem o_lt:OpD X (compareOp .Lt) gLt:=zpw op_lt fun _ _ F=>isB _ F
theorem o_gt:OpD X (compareOp .Gt) gGt:=zpw op_gt fun _ _ F=>isB _ F
noncomputable def gNeg:D->Option D
 | .int i=>some (.int (-i))
 |_=>none
theorem ztI:UnR X (unaryOp .USub) (rD1 X.K gNeg):=UnR.weak zsn fun x H Q zh=>by
 obtain ⟨F,d,z,sF,id,hz,q⟩:=zh;cases d with
 |int i=>cases hz;exact ⟨i,IsD.int_iff.mp id,q _ F H (.refl sF) (isI _ F)⟩
 |_=>exact zqn hz
noncomputable def gAdd:D->D->Option D
 | .int i,.int j=>some (.int (i+j))
 | .str x,.str y=>if x.length+y.length<=sizeLine then some (.str (x++y)) else none
 | .tup a,.tup b=>if a ≠ []/\b ≠ []/\a.length+b.length<=sizeLine then some (.tup (a++b)) else none
 | .lst a,.lst b=>if a.length+b.length<=sizeLine then some (.lst (a++b)) else none
 |_,_=>none
def rCat' (K:W.Frag):R2:=fun x y H Q=>∃ l b xs zs,x=.ref l/\y=.ref b/\LstD K H l xs/\LstD K H b zs/\xs.length+zs.length<=sizeLine/\∀ p,H p=none->Q (.ref p) (upd H p (.lst (xs++zs)))
theorem zmQ:OpR X (binaryOp .Add) (rCat' X.K):=by
 intro pins s σ H x y v u Q I rx ry h;refine zc4a h fun l b xs zs zz=>zc0e zz fun zr4 zr5 hl hb zz=>zc0b zz fun hz q=>?_;subst zr4;subst zr5;obtain rfl:v=Value.ref l:=rx;obtain rfl:u=Value.ref b:=ry;refine zc0b (hl.ok I.hok) fun _ zz=>zc2b zz fun its n r1 e1=>?_;refine zc0b (hb.ok I.hok) fun _ zz=>zc2b zz fun its2 n2 r2 e2=>?_;have hl1:=r1.length;have hl2:=r2.length;refine PySem.P.add_list e1 e2 ?_ (by rw [List.size_toArray,List.size_toArray];omega);have ea:its.toArray++its2.toArray=(its++its2).toArray:=by simp
 rw [ea];exact ⟨.ref _,_,I.lnew (t':=s.toks) (r1.append r2) (by rw [List.length_append];omega),rfl,q _ I.fresh⟩
theorem zcv:OpD X (binaryOp .Add) gAdd:=by
 rintro pins s σ H x y v u Q I rx ry ⟨F,d,e,z,sF,id,ie,hz,q⟩;cases d with
 |int i =>
  cases e with
  |int j=>cases hz;exact zsr pins s σ H x y v u Q I rx ry ⟨i,j,IsD.int_iff.mp id,IsD.int_iff.mp ie,q _ F H (.refl sF) (isI _ F)⟩
  |_=>exact zqn hz
 |str a =>
  cases e with
  |str b =>
   have hz:(if a.length+b.length<=sizeLine then some (D.str (a++b)) else none)=some z:=hz
   split at hz
   ·rename_i hl;cases hz;exact zjW pins s σ H x y v u Q I rx ry ⟨a,b,IsD.str_iff.mp id,IsD.str_iff.mp ie,hl,q _ F H (.refl sF) (IsD.str_iff.mpr rfl)⟩
   ·exact zqn hz
  |_=>exact zqn hz
 |tup a =>
  cases e with
  |tup b =>
   have hz:(if a ≠ []/\b ≠ []/\a.length+b.length<=sizeLine then some (D.tup (a++b)) else none)=some z:=hz
   split at hz
   ·rename_i hl;obtain rfl:=Zqi hz;rw [IsD.tup_iff] at id ie;obtain ⟨la,xs,rfl,h1,h2⟩:=id;obtain ⟨lb,ys,rfl,h3,h4⟩:=ie;have l1:=h2.length;have l2:=h4.length;have x0:xs ≠ []:=fun z=>hl.1 (List.length_eq_zero_iff.mp (by rw [<- l1,z];rfl));have y0:ys ≠ []:=fun z=>hl.2.1 (List.length_eq_zero_iff.mp (by rw [<- l2,z];rfl));refine zkO pins s σ H _ _ v u Q I rx ry ⟨la,lb,xs,ys,rfl,rfl,(h1.same sF).sq,(h3.same sF).sq,x0,by have:=hl.2.2;omega,fun z=>absurd z y0,fun _ p hp=>?_⟩;have ea:=Ext.alloc sF hp (.tup (xs++ys));exact q _ _ _ ea (IsD.tup_iff.mpr ⟨p,_,rfl,.of zao,IsDs.same ea.ff _ _ (h2.append h4)⟩)
   ·exact zqn hz
  |_=>exact zqn hz
 |lst a =>
  cases e with
  |lst b =>
   have hz:(if a.length+b.length<=sizeLine then some (D.lst (a++b)) else none)=some z:=hz
   split at hz
   ·rename_i hl;obtain rfl:=Zqi hz;rw [IsD.lst_iff] at id ie;obtain ⟨la,xs,rfl,h1,h2⟩:=id;obtain ⟨lb,ys,rfl,h3,h4⟩:=ie;have l1:=h2.length;have l2:=h4.length;refine zmQ pins s σ H _ _ v u Q I rx ry ⟨la,lb,xs,ys,rfl,rfl,h1.same sF,h3.same sF,by omega,fun p hp=>?_⟩;have ea:=Ext.alloc sF hp (.lst (xs++ys));exact q _ _ _ ea (IsD.lst_iff.mpr ⟨p,_,rfl,.of zao,IsDs.same ea.ff _ _ (h2.append h4)⟩)
   ·exact zqn hz
  |_=>exact zqn hz
 |_=>exact zqn hz
mutual
noncomputable def toPy:D->PyData
 | .non=>.none
 | .bl b=>.bool b
 | .int i=>.int i
 | .str x=>.str x
 | .tup ds=>.tuple (zf7 ds)
 | .lst ds=>.list (zf7 ds)
 | .ty _=>.none
 | .scr _=>.none
 | .dct _ _=>.none
 | .ins _ _ _=>.none
 | .exc _=>.none
 | .ucl _=>.none
noncomputable def zf7:List D->List PyData
 | []=>[]
 |d::ds=>toPy d::zf7 ds
end
noncomputable def plN:Nat->D->Bool
 | 0,_=>false
 |_+1,.int _=>true
 |_+1,.str x=>PyData.strOk x
 |_+1,.non=>true
 |n+1,.tup ds=>ds.all (plN n)
 |n+1,.lst ds=>ds.all (plN n)
 |_+1,_=>false
theorem zfJ:∀ (n:Nat) (d:D),plN n d=true->(toPy d).canLay0=true/\(toPy d).depth<=n:=fun n=>by
 induction n with
 |zero=>intro _ h;exact zqb h
 |succ n ihn =>
  intro d h;have all:∀ ds:List D,ds.all (plN n)=true->PyData.canLayAll0 (zf7 ds)=true/\PyData.depthAll (zf7 ds)<=n:=by
   intro ds
   induction ds with
   |nil=>intro _;exact ⟨rfl,Nat.zero_le _⟩
   |cons d ds ih =>
    intro h;rw [List.all_cons,Bool.and_eq_true] at h;obtain ⟨h1,h2⟩:=ihn d h.1;obtain ⟨h3,h4⟩:=ih h.2;exact ⟨Bool.and_eq_true_iff.mpr ⟨h1,h3⟩,Nat.max_le.mpr ⟨h2,h4⟩⟩
  cases d with
  |int i=>exact ⟨rfl,Nat.zero_le _⟩
  |str i=>exact ⟨h,Nat.zero_le _⟩
  |non=>exact ⟨rfl,Nat.zero_le _⟩
  |tup ds=>exact ⟨(all ds h).1,Nat.succ_le_succ (all ds h).2⟩
  |lst ds=>exact ⟨(all ds h).1,Nat.succ_le_succ (all ds h).2⟩
  |_=>exact zqb h
theorem D.ne {d e:D}(h:(d.ctorIdx == e.ctorIdx)=false):¬ d=e:=fun q=>by
 rw [q,beq_self_eq_true] at h;cases  h
theorem zl2:∀ (n:Nat) (d e:D),plN n d=true->plN n e=true->(PyData.eqv (toPy d) (toPy e)=true↔d=e):=fun n=>by
 induction n with
 |zero=>intro _ _ h;exact zqb h
 |succ n ihn =>
  intro d e h h';have all:∀ ds es:List D,ds.all (plN n)=true->es.all (plN n)=true->(PyData.eqvAll (zf7 ds) (zf7 es)=true↔ds=es):=by
   intro ds
   induction ds with
   |nil =>
    intro es _ _;cases es with
    |nil=>exact iff_of_true rfl rfl
    |cons e es=>exact iff_of_false Bool.false_ne_true (fun q=>List.cons_ne_nil _ _ q.symm)
   |cons d ds ih =>
    intro es h1 h2;cases es with
    |nil=>exact iff_of_false Bool.false_ne_true (List.cons_ne_nil _ _)
    |cons e es =>
     rw [List.all_cons,Bool.and_eq_true] at h1 h2;show (PyData.eqv (toPy d) (toPy e)&&PyData.eqvAll (zf7 ds) (zf7 es))=true↔_;rw [Bool.and_eq_true_iff,ihn d e h1.1 h2.1,ih es h1.2 h2.2,List.cons.injEq]
  cases d with
  |int i =>
   cases e with
   |int j=>exact ⟨fun q=>congrArg D.int (beq_iff_eq.mp q),fun q=>beq_iff_eq.mpr (D.int.inj q)⟩
   |str _=>exact iff_of_false Bool.false_ne_true (D.ne rfl)
   |non=>exact iff_of_false Bool.false_ne_true (D.ne rfl)
   |tup _=>exact iff_of_false Bool.false_ne_true (D.ne rfl)
   |lst _=>exact iff_of_false Bool.false_ne_true (D.ne rfl)
   |_=>exact zqb h'
  |str i =>
   cases e with
   |str j=>exact ⟨fun q=>congrArg D.str (of_decide_eq_true q),fun q=>decide_eq_true (D.str.inj q)⟩
   |int _=>exact iff_of_false Bool.false_ne_true (D.ne rfl)
   |non=>exact iff_of_false Bool.false_ne_true (D.ne rfl)
   |tup _=>exact iff_of_false Bool.false_ne_true (D.ne rfl)
   |lst _=>exact iff_of_false Bool.false_ne_true (D.ne rfl)
   |_=>exact zqb h'
  |non =>
   cases e with
   |non=>exact iff_of_true rfl rfl
   |int _=>exact iff_of_false Bool.false_ne_true (D.ne rfl)
   |str _=>exact iff_of_false Bool.false_ne_true (D.ne rfl)
   |tup _=>exact iff_of_false Bool.false_ne_true (D.ne rfl)
   |lst _=>exact iff_of_false Bool.false_ne_true (D.ne rfl)
   |_=>exact zqb h'
  |tup ds =>
   cases e with
   |tup es=>exact (all ds es h h').trans ⟨fun q=>congrArg D.tup q,fun q=>D.tup.inj q⟩
   |int _=>exact iff_of_false Bool.false_ne_true (D.ne rfl)
   |str _=>exact iff_of_false Bool.false_ne_true (D.ne rfl)
   |non=>exact iff_of_false Bool.false_ne_true (D.ne rfl)
   |lst _=>exact iff_of_false Bool.false_ne_true (D.ne rfl)
   |_=>exact zqb h'
  |lst ds =>
   cases e with
   |lst es=>exact (all ds es h h').trans ⟨fun q=>congrArg D.lst q,fun q=>D.lst.inj q⟩
   |int _=>exact iff_of_false Bool.false_ne_true (D.ne rfl)
   |str _=>exact iff_of_false Bool.false_ne_true (D.ne rfl)
   |non=>exact iff_of_false Bool.false_ne_true (D.ne rfl)
   |tup _=>exact iff_of_false Bool.false_ne_true (D.ne rfl)
   |_=>exact zqb h'
  |_=>exact zqb h
theorem zcq {P:Program}{w:World}{K:W.Frag}{H:Hp}{h:Heap}(ok:HOk P w H h):∀ (n:Nat) (d:D) (v:V) (u:Value),plN n d=true->IsD K H d v->RelV v u->∃ as,Reads h u (toPy d) as
 | 0,_,_,_,p,_,_=>by exact zqb p
 |n+1,d,v,u,p,q,r=>by
  have all:∀ (ds:List D) (xs:List V) (us:List Value),ds.all (plN n)=true->IsDs K H ds xs->Vals xs us->∃ as,ReadsAll h us (zf7 ds) as:=by
   intro ds
   induction ds with
   |nil =>
    intro xs us _ h1 h2;rw [IsDs.nil_iff] at h1;subst h1;cases h2;exact ⟨_,.nil⟩
   |cons d ds ih =>
    intro xs us hp h1 h2;rw [List.all_cons,Bool.and_eq_true] at hp;rw [IsDs.cons_iff] at h1;refine zc2c h1 fun x rs zr2 h3 h4=>?_;subst zr2;cases h2 with
    |cons r1 r2 =>
     obtain ⟨as,ra⟩:=zcq ok n d x _ hp.1 h3 r1;obtain ⟨bs,rb⟩:=ih rs _ hp.2 h4 r2;exact ⟨_,.cons ra rb⟩
  cases d with
  |int i =>
   rw [IsD.int_iff] at q;subst q;obtain ⟨t,rfl⟩:=(show ∃ t,u=Value.int i t from r);exact ⟨_,.int i t⟩
  |str x =>
   rw [IsD.str_iff] at q;subst q;obtain ⟨t,rfl⟩:=(show ∃ t,u=Value.str x t from r);exact ⟨_,.str x t⟩
  |non =>
   rw [IsD.non_iff] at q;subst q;obtain rfl:u=Value.none:=r;exact ⟨_,.none⟩
  |tup ds =>
   rw [IsD.tup_iff] at q;refine zc2c q fun a xs zr2 h2 h3=>?_;subst zr2;obtain rfl:u=Value.ref a:=r;refine zc0b ((show zbc P w H h a (.tup xs) from ok a _ h2)) fun _ zz=>zc1b zz fun its rv zz=>zc1c zz fun o e c zz=>zc1a zz fun n' dt=>?_;obtain ⟨as,ra⟩:=all ds xs its p h3 rv;exact ⟨_,.tuple e c dt (by simpa using ra)⟩
  |lst ds =>
   rw [IsD.lst_iff] at q;refine zc2c q fun a xs zr2 h2 h3=>?_;subst zr2;obtain rfl:u=Value.ref a:=r;refine zc0b (h2.ok ok) fun _ zz=>zc2b zz fun its n' rv e=>?_;obtain ⟨as,ra⟩:=all ds xs its p h3 rv;exact ⟨_,.list e rfl rfl (by simpa using ra)⟩
  |_=>exact zqb p
noncomputable section
open Classical
noncomputable def zbl (d e:D):Bool:=decide (d=e)
theorem zaK (d:D):zbl d d=true:=decide_eq_true rfl
theorem zds {d e:D}:zbl d e=true↔d=e:=decide_eq_true_iff
theorem zdC {d e:D}:zbl d e=false↔d≠e:=decide_eq_false_iff_not
def gEq:D->D->Option D
 | .bl a,.bl b=>some (.bl (a == b))
 |d,e=>if plN 12 d&&plN 12 e then some (.bl (zbl d e)) else none
def gNe:D->D->Option D
 | .bl a,.bl b=>some (.bl (a != b))
 |d,e=>if plN 12 d&&plN 12 e then some (.bl (!zbl d e)) else none
end
theorem zeO {d e:D}(h1:plN 12 d=true)(h2:plN 12 e=true):gEq d e=some (.bl (zbl d e)):=by
 unfold gEq
 split
 ·exact zqb h1
 ·rw [h1,h2];rfl
theorem zfF {d e:D}(h1:plN 12 d=true)(h2:plN 12 e=true):gNe d e=some (.bl (!zbl d e)):=by
 unfold gNe
 split
 ·exact zqb h1
 ·rw [h1,h2];rfl
theorem zp3 (i j:Int):gEq (.int i) (.int j)=some (.bl (decide (i=j))):=by
 rw [zeO rfl rfl]
 congr 2
 by_cases h:i=j
 ·rw [decide_eq_true h,h,zaK]
 ·rw [decide_eq_false h,zdC.mpr fun z=>h (by injection z)]
theorem o_eq (hu:X.A.units+64<cLine):OpD X (compareOp .Eq) gEq:=by
 rintro pins s σ H x y v u Q I rx ry ⟨F,d,e,z,sF,id,ie,hz,q⟩;unfold gEq at hz
 split at hz
 ·rename_i a b;obtain rfl:=Zqi hz;refine op_eq pins s σ H x y v u Q I rx ry ⟨?_,?_⟩
  ·rw [IsD.bl_iff.mp id,IsD.bl_iff.mp ie];rfl
  ·rw [IsD.bl_iff.mp id,IsD.bl_iff.mp ie];refine q _ F H (.refl sF) ?_;rw [IsD.bl_iff];cases a<;>cases b<;>rfl
 ·split at hz
  ·rename_i hp;rw [Bool.and_eq_true] at hp;obtain rfl:=Zqi hz;obtain ⟨as,ra⟩:=zcq I.hok 12 d x v hp.1 (IsD.same sF _ _ id) rx;obtain ⟨bs,rb⟩:=zcq I.hok 12 e y u hp.2 (IsD.same sF _ _ ie) ry;obtain ⟨l1,z1⟩:=zfJ 12 d hp.1;obtain ⟨l2,z2⟩:=zfJ 12 e hp.2;refine PySem.SeqAt.compareEq_reads ra rb l1 l2 (by omega) ?_;have hb:PyData.eqv (toPy d) (toPy e)=zbl d e:=Bool.eq_iff_iff.mpr ((zl2 12 d e hp.1 hp.2).trans zds.symm);rw [hb];exact ⟨.bl _,H,I,rfl,q _ F H (.refl sF) (isB _ F)⟩
  ·exact zqn hz
theorem o_ne (hu:X.A.units+64<cLine):OpD X (compareOp .NotEq) gNe:=by
 rintro pins s σ H x y v u Q I rx ry ⟨F,d,e,z,sF,id,ie,hz,q⟩;unfold gNe at hz
 split at hz
 ·rename_i a b;obtain rfl:=Zqi hz;refine op_ne pins s σ H x y v u Q I rx ry ⟨?_,?_⟩
  ·rw [IsD.bl_iff.mp id,IsD.bl_iff.mp ie];rfl
  ·rw [IsD.bl_iff.mp id,IsD.bl_iff.mp ie];refine q _ F H (.refl sF) ?_;rw [IsD.bl_iff];cases a<;>cases b<;>rfl
 ·split at hz
  ·rename_i hp;rw [Bool.and_eq_true] at hp;obtain rfl:=Zqi hz;obtain ⟨as,ra⟩:=zcq I.hok 12 d x v hp.1 (IsD.same sF _ _ id) rx;obtain ⟨bs,rb⟩:=zcq I.hok 12 e y u hp.2 (IsD.same sF _ _ ie) ry;obtain ⟨l1,z1⟩:=zfJ 12 d hp.1;obtain ⟨l2,z2⟩:=zfJ 12 e hp.2;refine PySem.SeqAt.compareNe_reads ra rb l1 l2 (by omega) ?_;have hb:PyData.eqv (toPy d) (toPy e)=zbl d e:=Bool.eq_iff_iff.mpr ((zl2 12 d e hp.1 hp.2).trans zds.symm);rw [hb];exact ⟨.bl _,H,I,rfl,q _ F H (.refl sF) (isB _ F)⟩
  ·exact zqn hz
end
theorem PE.or {X:Cx}{e:Expr}{t t':TE}(h:PE X e t)(h':PE X e t'):PE X e (fun σ H Q=>t σ H Q\/t' σ H Q):=fun pins s σ H Q I q=>q.elim (h pins s σ H Q I) (h' pins s σ H Q I)
theorem PT.or {X:Cx}{e:Expr}{t t':TT}(h:PT X e t)(h':PT X e t'):PT X e (fun σ H Q=>t σ H Q\/t' σ H Q):=fun pins s σ H Q I q=>q.elim (h pins s σ H Q I) (h' pins s σ H Q I)
noncomputable def zdi:D->Option Key
 | .int i=>some (.inl i)
 | .str x=>some (.inr x)
 |_=>none
theorem zdA {K:W.Frag}{H:Hp}{d:D}{k:Key}{v:V}(h:zdi d=some k)(i:IsD K H d v):v=kV k:=by
 cases d with
 |int j=>cases h;exact IsD.int_iff.mp i
 |str x=>cases h;exact IsD.str_iff.mp i
 |_=>exact zqn h
noncomputable def valD:List Key->List D->Key->Option D
 |k::ks,d::ds,q=>if k=q then some d else valD ks ds q
 |_,_,_=>none
theorem zk3 (k q:Key)(v:V)(r:List (Key×V)):valV ((k,v)::r) q=if k=q then some v else valV r q:=by
 unfold valV;rw [List.find?_cons];by_cases h:k=q
 ·rw [if_pos h,decide_eq_true h];rfl
 ·rw [if_neg h,decide_eq_false h]
theorem zhp {k q:Key}{ks:List Key}{d:D}{ds:List D}:valD (k::ks) (d::ds) q=if k=q then some d else valD ks ds q:=rfl
theorem zfz {K:W.Frag}{H:Hp}(q:Key):∀ {ks:List Key} {ds:List D} {xs:List V},ks.length=xs.length->IsDs K H ds xs ->
 (∀ d,valD ks ds q=some d->∃ x,valV (ks.zip xs) q=some x/\IsD K H d x)/\(valD ks ds q=none->valV (ks.zip xs) q=none)
 | [],ds,xs,hl,h=>by
  have:xs=[]:=List.length_eq_zero_iff.mp hl.symm;subst this;refine ⟨fun d e=>?_,fun _=>rfl⟩;cases ds<;>exact zqn e
 |k::ks,[],xs,hl,h=>by
  rw [IsDs.nil_iff] at h;subst h;cases hl
 |k::ks,d::ds,xs,hl,h=>by
  rw [IsDs.cons_iff] at h;refine zc2c h fun x r zr2 h1 h2=>?_;subst zr2;have ih:=zfz q (ks:=ks) (Nat.succ.inj hl) h2;rw [List.zip_cons_cons,zk3];rw [zhp];by_cases hk:k=q
  ·rw [if_pos hk,if_pos hk];exact ⟨fun d' e=>by cases e;exact ⟨x,rfl,h1⟩,fun e=>by cases e⟩
  ·rw [if_neg hk,if_neg hk];exact ih
noncomputable def chgD:List Key->List D->Key->D->List D
 |k::ks,d::ds,q,v=>(if k=q then v else d)::chgD ks ds q v
 |_,_,_,_=>[]
noncomputable def chgV:List Key->List V->Key->V->List V
 |k::ks,d::ds,q,v=>(if k=q then v else d)::chgV ks ds q v
 |_,_,_,_=>[]
theorem zgW {k q:Key}{ks:List Key}{d v:D}{ds:List D}:chgD (k::ks) (d::ds) q v=(if k=q then v else d)::chgD ks ds q v:=rfl
theorem zmc {k q:Key}{ks:List Key}{d v:V}{ds:List V}:chgV (k::ks) (d::ds) q v=(if k=q then v else d)::chgV ks ds q v:=rfl
theorem zpc {K:W.Frag}{H:Hp}{q:Key}{d:D}{v:V}(hv:IsD K H d v):∀ {ks:List Key} {ds:List D} {xs:List V},ks.length=xs.length->IsDs K H ds xs->IsDs K H (chgD ks ds q d) (chgV ks xs q v)/\(chgV ks xs q v).length=ks.length /\
 (ks.zip xs).map (fun kv=>if kv.1=q then (kv.1,v) else kv)=ks.zip (chgV ks xs q v)
 | [],ds,xs,hl,h=>by
  have:xs=[]:=List.length_eq_zero_iff.mp hl.symm;subst this;refine ⟨?_,rfl,rfl⟩;cases ds<;>exact .nil
 |k::ks,[],xs,hl,h=>by
  rw [IsDs.nil_iff] at h;subst h;cases hl
 |k::ks,d'::ds,xs,hl,h=>by
  rw [IsDs.cons_iff] at h;refine zc2c h fun x r zr2 h1 h2=>?_;subst zr2;refine zc0c (zpc (q:=q) hv (ks:=ks) (Nat.succ.inj hl) h2) fun i1 i2 i3=>?_;rw [zgW,zmc];refine ⟨IsDs.mk ?_ i1,by rw [List.length_cons,i2];rfl,?_⟩
  ·by_cases hk:k=q
   ·rw [if_pos hk,if_pos hk];exact hv
   ·rw [if_neg hk,if_neg hk];exact h1
  ·rw [List.zip_cons_cons,List.map_cons,i3,List.zip_cons_cons];by_cases hk:k=q
   ·rw [if_pos hk,if_pos hk]
   ·rw [if_neg hk,if_neg hk]
noncomputable def hasK (q:Key)(ks:List Key):Bool:=ks.any fun k=>decide (k=q)
theorem znb (q:Key):∀ {ks:List Key} {xs:List V},ks.length=xs.length->((ks.zip xs).any fun kv=>decide (kv.1=q))=hasK q ks
 | [],xs,_=>rfl
 |k::ks,[],h=>by cases h
 |k::ks,x::xs,h=>by
  rw [List.zip_cons_cons,List.any_cons,znb q (Nat.succ.inj h)];rfl
def zi8 (ks:List Key)(q:Key):List Key:=if hasK q ks=true then ks else ks++[q]
def zjK (ks:List Key)(ds:List D)(q:Key)(v:D):List D:=if hasK q ks=true then chgD ks ds q v else ds++[v]
theorem zpz {K:W.Frag}{H:Hp}{q:Key}{d:D}{v:V}{ks:List Key}{ds:List D}{xs:List V}(hl:ks.length=xs.length)(h:IsDs K H ds xs)(hv:IsD K H d v) :
 ∃ ys,putK (ks.zip xs) q v=(zi8 ks q).zip ys/\(zi8 ks q).length=ys.length/\IsDs K H (zjK ks ds q d) ys:=by
 unfold putK zi8 zjK;rw [znb q hl];by_cases hm:hasK q ks=true
 ·rw [if_pos hm,if_pos hm,if_pos hm];refine zc0c (zpc (q:=q) hv hl h) fun h1 h2 h3=>?_;exact ⟨_,h3,h2.symm,h1⟩
 ·rw [if_neg hm,if_neg hm,if_neg hm];exact ⟨xs++[v],by rw [List.zip_append hl];rfl,by simp [hl],h.snoc hv⟩
section
variable {X:Cx}{E:XK}{m:Option Bool}{a b o i e:Expr}{fa fb fo fi fv:FE}{pos pos' apos cpos:Pos}
theorem zk6 {K:W.Frag}{H:Hp}{ds:List D}{xs:List V}{k:Int}{d:D}(h:IsDs K H ds xs)(e:atI ds k=some d):∃ x,atI xs k=some x/\IsD K H d x:=by
 unfold atI at e ⊢;rw [h.length];cases hj:ixN ds.length k with
 |none=>rw [hj] at e;exact zqn e
 |some j =>
  rw [hj] at e;exact h.get e
def gIx:D->D->Option D
 | .lst ds,.int k=>atI ds k
 | .tup ds,.int k=>atI ds k
 | .scr ns,.int k=>(atI ns k).map .int
 | .str x,.int k=>if x.length<=sizeLine then (atI x.cps.toList k).map fun c=>.str ⟨#[c]⟩ else none
 | .dct ks ds,k=>(zdi k).bind fun q=>valD ks ds q
 |_,_=>none
theorem zpT:IxR X (rD2 X.K fun d e=>match d with
 | .dct _ _=>none
 |d=>gIx d e):=IxR.weak zsO fun x y H Q ⟨F,d,e,z,sF,id,ie,hz,q⟩=>by
 cases d with
 |lst ds =>
  cases e with
  |int k =>
   rw [IsD.lst_iff] at id;refine zc2c id fun p xs zr2 h1 h2=>?_;subst zr2;refine zc1b (zk6 h2 (show atI ds k=some z from hz)) fun x hx i2=>?_;exact .inl ⟨p,xs,k,x,rfl,IsD.int_iff.mp ie,(h1.same sF).sq,hx,q _ F H (.refl sF) i2⟩
  |_=>exact zqn hz
 |tup ds =>
  cases e with
  |int k =>
   rw [IsD.tup_iff] at id;refine zc2c id fun p xs zr2 h1 h2=>?_;subst zr2;refine zc1b (zk6 h2 (show atI ds k=some z from hz)) fun x hx i2=>?_;exact .inr (.inl ⟨p,xs,k,x,rfl,IsD.int_iff.mp ie,(h1.same sF).sq,hx,q _ F H (.refl sF) i2⟩)
  |_=>exact zqn hz
 |scr ns =>
  cases e with
  |int k =>
   rw [IsD.scr_iff] at id;refine zc1b id fun p zr1 h1=>?_;subst zr1;refine zc1b (Option.map_eq_some_iff.mp (show (atI ns k).map D.int=some z from hz)) fun j hj hz=>?_;subst hz;refine .inl ⟨p,_,k,.int j,rfl,IsD.int_iff.mp ie,Same.seq sF h1,?_,q _ F H (.refl sF) (isI _ F)⟩;unfold atI at hj ⊢;rw [Zql];cases hx:ixN ns.length k with
   |none=>rw [hx] at hj;exact zqn hj
   |some i=>rw [hx] at hj;show (ns.map V.int)[i]? = _;rw [List.getElem?_map,show ns[i]? = some j from hj];rfl
  |_=>exact zqn hz
 |str t =>
  cases e with
  |int k =>
   have hz:(if t.length<=sizeLine then (atI t.cps.toList k).map fun c=>D.str ⟨#[c]⟩ else none)=some z:=hz
   split at hz
   ·rename_i hl;cases hc:atI t.cps.toList k with
    |none=>rw [hc] at hz;exact zqn hz
    |some c =>
     rw [hc] at hz;obtain rfl:=Zqi hz;exact .inr (.inr ⟨t,k,c,IsD.str_iff.mp id,IsD.int_iff.mp ie,hl,hc,q _ F H (.refl sF) (IsD.str_iff.mpr rfl)⟩)
   ·exact zqn hz
  |_=>exact zqn hz
 |_=>exact zqn hz
theorem zbP (hu:X.A.units+1<cLine)(ha:QE X E a fa)(hb:QE X E b fb)(hs:ziA b)(hs2:NoSl b):QE X E (.Subscript a b pos) (dOp gIx fa fb) :=
 PE.weak (PE.or (zmG hu ha hb hs2) (zsb (zpT) ha hb hs)) fun σ H Q h=>by
  refine zc3b h fun B F sd r n=>?_;by_cases hd:∃ ks ds,fa sd=.ok (.dct ks ds)
  ·refine zc2a hd fun ks ds hd=>?_;refine .inl ⟨B,F,sd,r,(Res.need_bind n).monoE (fun x hx n1 v F1 H1 e1 i1=>?_) fun _ _ q=>q⟩;rw [hd] at hx;cases hx;refine ⟨B,F1,sd,r.step e1,(Res.need_bind n1).mono (fun y n2 w F2 H2 e2 i2=>?_) fun _ _ q=>q.ext e1⟩;refine zc1b (Res.need_ofO n2) fun z hz q=>?_;refine zc1b (Option.bind_eq_some_iff.mp (show (zdi y).bind (fun q=>valD ks ds q)=some z from hz)) fun k hk hz=>?_;rw [IsD.dct_iff] at i1;refine zc2d i1 fun p xs zr2 h1 h2 h3=>?_;subst zr2;refine zc1b ((zfz k h2 h3).1 z hz) fun x hx ix=>?_;refine ⟨p,x,rfl,?_,q x F2 H2 (e1.trans e2) (IsD.same e2.ff _ _ ix)⟩;rw [zdA hk i2,<- hx];exact DGet.k (e2.hh _ _ (e1.fh _ _ h1))
  ·refine .inr (zlT ⟨B,F,sd,r,?_⟩);unfold dOp at n ⊢;cases hx:fa sd with
   |ok d =>
    rw [hx] at n;cases d with
    |dct ks ds=>exact absurd ⟨ks,ds,hx⟩ hd
    |_=>exact n
   |no=>rw [hx] at n;exact n
   |ex c fs=>rw [hx] at n;exact n
def gIn (neg:Bool):D->D->Option D
 |k,.dct ks ds=>(zdi k).map fun q=>.bl (if neg then !(valD ks ds q).isSome else (valD ks ds q).isSome)
 |d,.lst ds=>if plN 12 d&&ds.all (plN 12) then some (.bl (if neg then !ds.any (fun e=>zbl e d) else ds.any fun e=>zbl e d)) else none
 |d,.tup ds=>if plN 12 d&&ds.all (plN 12) then some (.bl (if neg then !ds.any (fun e=>zbl e d) else ds.any fun e=>zbl e d)) else none
 |_,_=>none
theorem zoP {K:W.Frag}{H:Hp}:∀ (n:Nat) (d e:D) (v:V),plN n d=true->plN n e=true->IsD K H d v->IsD K H e v->d=e
 | 0,_,_,_,h,_,_,_=>by exact zqb h
 |n+1,d,e,v,hd,he,h1,h2=>by
  have all:∀ (ds es:List D) (xs:List V),ds.all (plN n)=true->es.all (plN n)=true->IsDs K H ds xs->IsDs K H es xs->ds=es:=by
   intro ds
   induction ds with
   |nil =>
    intro es xs _ _ h1 h2;rw [IsDs.nil_iff] at h1;subst h1;have:=h2.length;exact (List.length_eq_zero_iff.mp this.symm).symm
   |cons d ds ih =>
    intro es xs p1 p2 h1 h2;rw [List.all_cons,Bool.and_eq_true] at p1;rw [IsDs.cons_iff] at h1;refine zc2c h1 fun x r zr2 h3 h4=>?_;subst zr2;cases es with
    |nil=>rw [IsDs.nil_iff] at h2;cases h2
    |cons e es =>
     rw [List.all_cons,Bool.and_eq_true] at p2;rw [IsDs.cons_iff] at h2;refine zc2c h2 fun x' r' e' h5 h6=>?_;cases e';rw [zoP n d e x p1.1 p2.1 h3 h5,ih es r p1.2 p2.2 h4 h6]
  have ne:∀ {a:Addr} {xs ys:List V},TupD K H a xs->LstD K H a ys->False:=fun {a xs ys} q1 q2=>by
   rcases q2 with q2|⟨o,q2⟩
   ·rw [q1] at q2;cases q2
   ·rw [q1] at q2;cases q2
  cases d with
  |int i =>
   rw [IsD.int_iff] at h1;subst h1;cases e with
   |int j=>rw [IsD.int_iff] at h2;cases h2;rfl
   |str j=>rw [IsD.str_iff] at h2;cases h2
   |non=>rw [IsD.non_iff] at h2;cases h2
   |tup es=>rw [IsD.tup_iff] at h2;obtain ⟨_,_,z,_⟩:=h2;cases z
   |lst es=>rw [IsD.lst_iff] at h2;obtain ⟨_,_,z,_⟩:=h2;cases z
   |_=>exact zqb he
  |str i =>
   rw [IsD.str_iff] at h1;subst h1;cases e with
   |int j=>rw [IsD.int_iff] at h2;cases h2
   |str j=>rw [IsD.str_iff] at h2;cases h2;rfl
   |non=>rw [IsD.non_iff] at h2;cases h2
   |tup es=>rw [IsD.tup_iff] at h2;obtain ⟨_,_,z,_⟩:=h2;cases z
   |lst es=>rw [IsD.lst_iff] at h2;obtain ⟨_,_,z,_⟩:=h2;cases z
   |_=>exact zqb he
  |non =>
   rw [IsD.non_iff] at h1;subst h1;cases e with
   |int j=>rw [IsD.int_iff] at h2;cases h2
   |str j=>rw [IsD.str_iff] at h2;cases h2
   |non=>rfl
   |tup es=>rw [IsD.tup_iff] at h2;obtain ⟨_,_,z,_⟩:=h2;cases z
   |lst es=>rw [IsD.lst_iff] at h2;obtain ⟨_,_,z,_⟩:=h2;cases z
   |_=>exact zqb he
  |tup ds =>
   rw [IsD.tup_iff] at h1;refine zc2c h1 fun a xs zr2 q1 q2=>?_;subst zr2;cases e with
   |int j=>rw [IsD.int_iff] at h2;cases h2
   |str j=>rw [IsD.str_iff] at h2;cases h2
   |non=>rw [IsD.non_iff] at h2;cases h2
   |tup es =>
    rw [IsD.tup_iff] at h2;refine zc2c h2 fun a' xs' e' q3 q4=>?_;cases e';have q1':H a=some (.tup xs):=q1;rw [show H a=some (.tup xs') from q3] at q1';cases q1';rw [all ds es _ hd he q2 q4]
   |lst es =>
    rw [IsD.lst_iff] at h2;refine zc2c h2 fun a' xs' e' q3 q4=>?_;cases e';exact (ne q1 q3).elim
   |_=>exact zqb he
  |lst ds =>
   rw [IsD.lst_iff] at h1;refine zc2c h1 fun a xs zr2 q1 q2=>?_;subst zr2;cases e with
   |int j=>rw [IsD.int_iff] at h2;cases h2
   |str j=>rw [IsD.str_iff] at h2;cases h2
   |non=>rw [IsD.non_iff] at h2;cases h2
   |tup es =>
    rw [IsD.tup_iff] at h2;refine zc2c h2 fun a' xs' e' q3 q4=>?_;cases e';exact (ne q3 q1).elim
   |lst es =>
    rw [IsD.lst_iff] at h2;refine zc2c h2 fun a' xs' e' q3 q4=>?_;cases e';have:xs=xs':=by
     rcases q1 with q1|⟨_,q1⟩<;>rcases q3 with q3|⟨_,q3⟩<;>rw [q1] at q3<;>cases q3<;>rfl
    subst this;rw [all ds es _ hd he q2 q4]
   |_=>exact zqb he
  |_=>exact zqb hd
def ValIs (K:W.Frag)(H:Hp)(d:D)(u:Value):Prop:=∃ v,RelV v u/\IsD K H d v
def eqTo (K:W.Frag)(H:Hp)(d:D)(u:Value):Bool:=@decide (ValIs K H d u) (Classical.propDecidable _)
theorem zk5 {K:W.Frag}{H:Hp}{d e:D}{v:V}{u:Value}(hd:plN 12 d=true)(he:plN 12 e=true)(h:IsD K H e v)(r:RelV v u):eqTo K H d u=zbl e d:=by
 unfold eqTo;by_cases q:e=d
 ·rw [q,zaK];exact @decide_eq_true _ (Classical.propDecidable _) ⟨v,r,q ▸ h⟩
 ·rw [zdC.mpr q];refine @decide_eq_false _ (Classical.propDecidable _) fun ⟨v',r',h'⟩=>q ?_;rw [r'.inj r] at h';exact zoP 12 e d v he hd h h'
theorem zoU {P:Program}{w:World}{K:W.Frag}{A:Around}{s:Shared}{H:Hp}(hu:A.units+60<cLine)(ok:HOk P w H s.heap){d:D}{x:V}{v:Value}(hp:plN 12 d=true)(hx:IsD K H d x)(rx:RelV x v) :
 ∀ {ds:List D} {xs:List V} {us:List Value},ds.all (plN 12)=true->IsDs K H ds xs->Vals xs us->us.map (eqTo K H d)=ds.map (fun e=>zbl e d)/\∀ u∈us,SeqAt.EqAt A s u v (eqTo K H d u):=by
 intro ds
 induction ds with
 |nil =>
  intro xs us _ h1 h2;rw [IsDs.nil_iff] at h1;subst h1;cases h2;exact ⟨rfl,fun u hu=>nomatch hu⟩
 |cons e ds ih =>
  intro xs us hq h1 h2;rw [List.all_cons,Bool.and_eq_true] at hq;rw [IsDs.cons_iff] at h1;refine zc2c h1 fun y rs zr2 h3 h4=>?_;subst zr2;cases h2 with
  |cons r1 r2 =>
   obtain ⟨i1,i2⟩:=ih hq.2 h4 r2;obtain ⟨as,ra⟩:=zcq ok 12 e y _ hq.1 h3 r1;obtain ⟨cs,rb⟩:=zcq ok 12 d x v hp hx rx;obtain ⟨l1,z1⟩:=zfJ 12 e hq.1;obtain ⟨l2,z2⟩:=zfJ 12 d hp;have es:=zk5 hp hq.1 h3 r1;refine ⟨by rw [List.map_cons,List.map_cons,i1,es],fun u hm=>?_⟩;rcases List.mem_cons.mp hm with hm|hm
   ·subst hm;rw [es,<- (Bool.eq_iff_iff.mpr ((zl2 12 e d hq.1 hp).trans zds.symm):PyData.eqv (toPy e) (toPy d)=zbl e d)];exact SeqAt.eqAt_reads (toPy e) (toPy d) A s _ v as cs ra rb l1 l2 (by omega)
   ·exact i2 u hm
theorem zer {α : Type}{f:α -> Bool}{l:List α}:l.any f=(l.map f).any id:=by rw [List.any_map];rfl
theorem zkQ (hu:X.A.units+64<cLine)(neg:Bool):OpR X (compareOp (if neg then .NotIn else .In)) (rD2 X.K fun d e=>match e with
 | .dct _ _=>none
 |e=>gIn neg d e):=by
 rintro pins s σ H x y v u Q I rx ry ⟨F,d,e,z,sF,id,ie,hz,q⟩;have id':=IsD.same sF _ _ id;cases e with
 |lst ds =>
  have hz:(if plN 12 d&&ds.all (plN 12) then some (D.bl (if neg then !ds.any (fun e=>zbl e d) else ds.any fun e=>zbl e d)) else none)=some z:=hz
  split at hz
  ·rename_i hp;rw [Bool.and_eq_true] at hp;obtain rfl:=Zqi hz;rw [IsD.lst_iff] at ie;refine zc2c ie fun p xs zr2 h1 h2=>?_;subst zr2;obtain rfl:u=Value.ref p:=ry;refine zc1c (I.list (h1.same sF).sq) fun its ri pl hl=>?_;obtain ⟨k1,k2⟩:=zoU (A:=X.A.in1) (by show X.A.units+1+60<cLine;omega) I.hok hp.1 id' rx hp.2 (IsDs.same sF _ _ h2) ri;have ea:its.toArray.any (eqTo X.K H d)=ds.any (fun e=>zbl e d):=by
    rw [show its.toArray.any (eqTo X.K H d)=its.any (eqTo X.K H d) by simp,zer,k1,<- zer]
   cases neg with
   |true =>
    refine SeqAt.notIn_listAt (eqTo X.K H d) pl.isList (fun w hw=>k2 w (by simpa using hw)) ⟨.bl _,H,I,rfl,?_⟩;rw [ea];exact q _ F H (.refl sF) (isB _ F)
   |false =>
    refine SeqAt.in_listAt (eqTo X.K H d) pl.isList (fun w hw=>k2 w (by simpa using hw)) ⟨.bl _,H,I,rfl,?_⟩;rw [ea];exact q _ F H (.refl sF) (isB _ F)
  ·exact zqn hz
 |tup ds =>
  have hz:(if plN 12 d&&ds.all (plN 12) then some (D.bl (if neg then !ds.any (fun e=>zbl e d) else ds.any fun e=>zbl e d)) else none)=some z:=hz
  split at hz
  ·rename_i hp;rw [Bool.and_eq_true] at hp;obtain rfl:=Zqi hz;rw [IsD.tup_iff] at ie;refine zc2c ie fun p xs zr2 h1 h2=>?_;subst zr2;obtain rfl:u=Value.ref p:=ry;refine zc1c (I.tuple (h1.same sF).sq) fun its ri pl hl=>?_;obtain ⟨k1,k2⟩:=zoU (A:=X.A.in1) (by show X.A.units+1+60<cLine;omega) I.hok hp.1 id' rx hp.2 (IsDs.same sF _ _ h2) ri;have ea:its.toArray.any (eqTo X.K H d)=ds.any (fun e=>zbl e d):=by
    rw [show its.toArray.any (eqTo X.K H d)=its.any (eqTo X.K H d) by simp,zer,k1,<- zer]
   cases neg with
   |true =>
    refine SeqAt.notIn_tupleAt (eqTo X.K H d) pl (fun w hw=>k2 w (by simpa using hw)) ⟨.bl _,H,I,rfl,?_⟩;rw [ea];exact q _ F H (.refl sF) (isB _ F)
   |false =>
    refine SeqAt.in_tupleAt (eqTo X.K H d) pl (fun w hw=>k2 w (by simpa using hw)) ⟨.bl _,H,I,rfl,?_⟩;rw [ea];exact q _ F H (.refl sF) (isB _ F)
  ·exact zqn hz
 |_=>exact zqn hz
theorem zpZ {K:W.Frag}{neg:Bool}{σ : St}{H:Hp}{Q:VK}(h:tD K E (dOp (gIn neg) fa fb) σ H Q) :
 (fun σ H Q=>tD K E fa σ H fun y H1=>tD K E fb σ H1 fun x H2=>∃ a o,x=.ref a/\DGet H2 a y o/\Q (.bl (if neg then !o.isSome else o.isSome)) H2) σ H Q\/tOp (rD2 K fun d e=>match e with
 | .dct _ _=>none
 |e=>gIn neg d e) (tD K E fa) (tD K E fb) σ H Q:=by
 refine zc3b h fun B F sd r n=>?_;by_cases hd:∃ ks ds,fb sd=.ok (.dct ks ds)
 ·refine zc2a hd fun ks ds hd=>?_;refine .inl ⟨B,F,sd,r,(Res.need_bind n).mono (fun x n1 v F1 H1 e1 i1=>?_) fun _ _ q=>q⟩;refine ⟨B,F1,sd,r.step e1,(Res.need_bind n1).monoE (fun y hy n2 w F2 H2 e2 i2=>?_) fun _ _ q=>q.ext e1⟩;rw [hd] at hy;cases hy;refine zc1b (Res.need_ofO n2) fun z hz q=>?_;refine zc1b (Option.map_eq_some_iff.mp (show (zdi x).map (fun q=>D.bl (if neg then !(valD ks ds q).isSome else (valD ks ds q).isSome))=some z from hz)) fun k hk hz=>?_;subst hz;rw [IsD.dct_iff] at i2;refine zc2d i2 fun p xs zr2 h1 h2 h3=>?_;subst zr2;obtain ⟨g1,g2⟩:=zfz k h2 h3;refine ⟨p,valV (ks.zip xs) k,rfl,?_,?_⟩
  ·rw [zdA hk i1];exact DGet.k (e2.fh _ _ h1)
  ·have es:(valV (ks.zip xs) k).isSome=(valD ks ds k).isSome:=by
    cases hv:valD ks ds k with
    |none=>rw [g2 hv];rfl
    |some d=>obtain ⟨x,hx,_⟩:=g1 d hv;rw [hx];rfl
   rw [es];exact q _ F2 H2 (e1.trans e2) (IsD.bl_iff.mpr rfl)
 ·refine .inr (zlT ⟨B,F,sd,r,?_⟩);unfold dOp at n ⊢;cases hx:fa sd with
  |ok d =>
   rw [hx] at n;cases hy:fb sd with
   |ok e =>
    rw [hy] at n;cases e with
    |dct ks ds=>exact absurd ⟨ks,ds,hy⟩ hd
    |_=>exact n
   |no=>rw [hy] at n;exact n
   |ex c fs=>rw [hy] at n;exact n
  |no=>rw [hx] at n;exact n
  |ex c fs=>rw [hx] at n;exact n
theorem q_in (hu:X.A.units+64<cLine)(ha:QE X E a fa)(hb:QE X E b fb)(hm:autoParam (behindInMarks .In b=false) zau._auto_1):QE X E (.Compare a [.In] [b] pos) (dOp (gIn false) fa fb) :=
 PE.weak (PE.or (zs6 (zpj (by omega) ha hb) hm) (zkE (zkQ hu false) ha hb hm)) fun σ H Q h=>zpZ h
theorem qt_in (hu:X.A.units+64<cLine)(ha:QE X E a fa)(hb:QE X E b fb)(hm:autoParam (behindInMarks .In b=false) zau._auto_1):QT X E (.Compare a [.In] [b] pos) (zaq (dOp (gIn false) fa fb)) :=
 PT.weak (PT.or (zk0 (zpj (by omega) ha hb) hm) (zix (zkQ hu false) ha hb hm)) fun σ H Q h=>zpZ (zch h)
theorem zet (hu:X.A.units+64<cLine)(ha:QE X E a fa)(hb:QE X E b fb)(hm:autoParam (behindInMarks .NotIn b=false) zau._auto_1):QT X E (.Compare a [.NotIn] [b] pos) (zaq (dOp (gIn true) fa fb)) :=
 PT.weak (PT.or (zk0 (zma (by omega) ha hb) hm) (zix (zkQ hu true) ha hb hm)) fun σ H Q h=>zpZ (zch h)
end
section
variable {X:Cx}{E:XK}{m:Option Bool}{a b o i e f tg:Expr}{fa fb fo fi fv:FE}{fr:FA}{pos pos' apos cpos p:Pos}
theorem zbH {K:W.Frag}{H:Hp}{d:D}{vs:List V}(h:IsDs K H [d] vs):∃ v,vs=[v]/\IsD K H d v:=by
 rw [IsDs.cons_iff] at h;refine zc2c h fun v r zr2 h1 h2=>?_;subst zr2;rw [IsDs.nil_iff] at h2;subst h2;exact ⟨v,rfl,h1⟩
theorem zqQ {K:W.Frag}{H:Hp}{d e:D}{vs:List V}(h:IsDs K H [d,e] vs):∃ v w,vs=[v,w]/\IsD K H d v/\IsD K H e w:=by
 rw [IsDs.cons_iff] at h;refine zc2c h fun v r zr2 h1 h2=>?_;subst zr2;refine zc1b (zbH h2) fun w zr1 h3=>?_;subst zr1;exact ⟨v,w,rfl,h1,h3⟩
noncomputable def gLen:List D->Option D
 | [.lst ds]=>some (.int ds.length)
 | [.tup ds]=>some (.int ds.length)
 | [.dct ks _]=>some (.int ks.length)
 | [.scr ns]=>some (.int ns.length)
 | [.str x]=>if x.length<=sizeLine then some (.int x.length) else none
 |_=>none
noncomputable def LenP (ds:List D)(z:D):Prop:=(∃ es,ds=[.lst es]/\z=.int es.length)\/(∃ es,ds=[.tup es]/\z=.int es.length)\/(∃ ks es,ds=[.dct ks es]/\z=.int ks.length)\/(∃ ns,ds=[.scr ns]/\z=.int ns.length)\/∃ x,x.length<=sizeLine/\ds=[.str x]/\z=.int x.length
theorem zny {ds:List D}{z:D}(hz:gLen ds=some z):LenP ds z:=by
 cases ds with
 |nil=>exact zqn hz
 |cons d ds =>
  cases ds with
  |nil =>
   cases d with
   |lst ds=>exact .inl ⟨_,rfl,(Zqi hz).symm⟩
   |tup ds=>exact .inr (.inl ⟨_,rfl,(Zqi hz).symm⟩)
   |dct ks ds=>exact .inr (.inr (.inl ⟨_,_,rfl,(Zqi hz).symm⟩))
   |scr ns=>exact .inr (.inr (.inr (.inl ⟨_,rfl,(Zqi hz).symm⟩)))
   |str x=>exact let q:=zgv hz;.inr (.inr (.inr (.inr ⟨_,q.1,rfl,q.2.symm⟩)))
   |_=>exact zqn hz
  |cons e ds=>cases d<;>exact zqn hz
theorem zgG:zat X (.builtin "len") (rDA X.K gLen):=zat.weak (zat.or zhD (zat.or zmY zhe)) fun xs H Q zh=>by
 obtain ⟨F,ds,z,sF,id,hz,q⟩:=zh;rcases zny hz with ⟨es,rfl,rfl⟩|⟨es,rfl,rfl⟩|⟨ks,es,rfl,rfl⟩|⟨ns,rfl,rfl⟩|⟨x,hl,rfl,rfl⟩
 ·obtain ⟨v,rfl,h⟩:=zbH id;rw [IsD.lst_iff] at h;obtain ⟨a,ys,rfl,h1,h2⟩:=h;rw [<- h2.length] at q;exact .inl ⟨a,ys,rfl,.inl (h1.same sF).sq,q _ F H (.refl sF) (isI _ F)⟩
 ·obtain ⟨v,rfl,h⟩:=zbH id;rw [IsD.tup_iff] at h;obtain ⟨a,ys,rfl,h1,h2⟩:=h;rw [<- h2.length] at q;exact .inl ⟨a,ys,rfl,.inr (h1.same sF).sq,q _ F H (.refl sF) (isI _ F)⟩
 ·obtain ⟨v,rfl,h⟩:=zbH id;rw [IsD.dct_iff] at h;obtain ⟨a,ys,rfl,h1,h2,h3⟩:=h;refine .inr (.inl ⟨a,_,rfl,sF _ _ h1,?_⟩);rw [List.length_zip,<- h2,Nat.min_self];exact q _ F H (.refl sF) (isI _ F)
 ·obtain ⟨v,rfl,h⟩:=zbH id;rw [IsD.scr_iff] at h;obtain ⟨a,rfl,h1⟩:=h;refine .inl ⟨a,_,rfl,.inl (Same.seq sF h1),?_⟩;rw [Zql];exact q _ F H (.refl sF) (isI _ F)
 ·obtain ⟨v,rfl,h⟩:=zbH id;rw [IsD.str_iff] at h;subst h;exact .inr (.inr ⟨_,rfl,hl,q _ F H (.refl sF) (isI _ F)⟩)
noncomputable def zmE:List D->Option D
 | [.int i,.int j]=>some (.int (if j > i then j else i))
 |_=>none
noncomputable def zoy:List D->Option D
 | [.int i,.int j]=>some (.int (if j<i then j else i))
 |_=>none
noncomputable def zsa (ds:List D):Prop:=∃ i j,ds=[.int i,.int j]
theorem zoN {ds:List D}{z:D}(hz:zmE ds=some z):zsa ds:=by
 cases ds with
 |nil=>exact zqn hz
 |cons d ds =>
  cases ds with
  |nil=>cases d<;>exact zqn hz
  |cons e ds =>
   cases d with
   |int i =>
    cases e with
    |int j =>
     cases ds with
     |nil=>exact ⟨_,_,rfl⟩
     |cons _ _=>exact zqn hz
    |_=>exact zqn hz
   |_=>exact zqn hz
theorem zpS {ds:List D}{z:D}(hz:zoy ds=some z):zsa ds:=by
 cases ds with
 |nil=>exact zqn hz
 |cons d ds =>
  cases ds with
  |nil=>cases d<;>exact zqn hz
  |cons e ds =>
   cases d with
   |int i =>
    cases e with
    |int j =>
     cases ds with
     |nil=>exact ⟨_,_,rfl⟩
     |cons _ _=>exact zqn hz
    |_=>exact zqn hz
   |_=>exact zqn hz
theorem zoV (hc:X.calm=true):zat X (.builtin "max") (rDA X.K zmE):=zat.weak (zmf hc) fun xs H Q zh=>by
 refine zc3a zh fun F ds z zz=>zc0d zz fun sF id hz q=>?_;refine zc2a (zoN hz) fun i j zr2=>?_;subst zr2;obtain rfl:=Zqi hz;refine zc2c (zqQ id) fun v w zr2 h1 h2=>?_;subst zr2;exact ⟨_,_,by rw [IsD.int_iff.mp h1,IsD.int_iff.mp h2],q _ F H (.refl sF) (isI _ F)⟩
theorem zsI (hc:X.calm=true):zat X (.builtin "min") (rDA X.K zoy):=zat.weak (zmz hc) fun xs H Q zh=>by
 refine zc3a zh fun F ds z zz=>zc0d zz fun sF id hz q=>?_;refine zc2a (zpS hz) fun i j zr2=>?_;subst zr2;obtain rfl:=Zqi hz;refine zc2c (zqQ id) fun v w zr2 h1 h2=>?_;subst zr2;exact ⟨_,_,by rw [IsD.int_iff.mp h1,IsD.int_iff.mp h2],q _ F H (.refl sF) (isI _ F)⟩
def zei:D->Option (List Int)
 | .lst ds=>zb3 zjL ds
 |_=>none
theorem zfr {K:W.Frag}{H:Hp}{d:D}{ns:List Int}{v:V}(h:zei d=some ns)(i:IsD K H d v):∃ a,v=.ref a/\LstD K H a (ns.map V.int):=by
 cases d with
 |lst ds =>
  rw [IsD.lst_iff] at i;refine zc2c i fun a xs zr2 h1 h2=>?_;subst zr2;rw [zjO (show zb3 zjL ds=some ns from h)] at h2;rw [IsDs.ints_iff h2] at h1;exact ⟨a,rfl,h1⟩
 |_=>exact zqn h
theorem zdI (ns:List Int):zei (.lst (ns.map D.int))=some ns:=zjT ns
def ziz:List D->Option D
 | [d]=>(zei d).bind fun ns=>if ns=[] then none else some (.int (maxI ns))
 |_=>none
def zjX:List D->Option D
 | [d]=>(zei d).bind fun ns=>if ns=[] then none else some (.int (minI ns))
 |_=>none
theorem zpb (hc:X.calm=true):zat X (.builtin "max") (rDA X.K ziz):=zat.weak (zmr hc) fun xs H Q zh=>by
 refine zc3a zh fun F ds z zz=>zc0d zz fun sF id hz q=>?_;unfold ziz at hz
 split at hz
 ·refine zc1b (Option.bind_eq_some_iff.mp hz) fun ns h1 hz=>?_
  split at hz
  ·exact zqn hz
  ·rename_i hn;obtain rfl:=Zqi hz;refine zc1b (zbH id) fun v zr1 h=>?_;subst zr1;refine zc1b (zfr h1 h) fun a zr1 h2=>?_;subst zr1;exact ⟨a,ns,rfl,(h2.same sF).sq,hn,q _ F H (.refl sF) (isI _ F)⟩
 ·exact zqn hz
theorem zpn (hc:X.calm=true):zat X (.builtin "min") (rDA X.K zjX):=zat.weak (zlZ hc) fun xs H Q zh=>by
 refine zc3a zh fun F ds z zz=>zc0d zz fun sF id hz q=>?_;unfold zjX at hz
 split at hz
 ·refine zc1b (Option.bind_eq_some_iff.mp hz) fun ns h1 hz=>?_
  split at hz
  ·exact zqn hz
  ·rename_i hn;obtain rfl:=Zqi hz;refine zc1b (zbH id) fun v zr1 h=>?_;subst zr1;refine zc1b (zfr h1 h) fun a zr1 h2=>?_;subst zr1;exact ⟨a,ns,rfl,(h2.same sF).sq,hn,q _ F H (.refl sF) (isI _ F)⟩
 ·exact zqn hz
noncomputable def tyN:D->Option String
 | .non=>some "NoneType"
 | .bl _=>some "bool"
 | .int _=>some "int"
 | .str _=>some "str"
 | .lst _=>some "list"
 | .tup _=>some "tuple"
 | .dct _ _=>some "dict"
 |_=>none
noncomputable def tyIn (t n:String):Bool:=(t == n)||(t == "bool" && n == "int")
noncomputable def zf1 (t n:String):Bool:=["NoneType", "bool", "int", "str", "list", "tuple", "dict"].contains t&&["bool", "int", "str", "list", "tuple", "dict"].contains n
theorem zqw (K:W.Frag)(t n:String)(h:zf1 t n=true):W.kitOne K (.type t) (.type n)=some (tyIn t n):=by
 unfold zf1 at h;rw [Bool.and_eq_true,List.contains_iff_mem,List.contains_iff_mem] at h;obtain ⟨h1,h2⟩:=h;simp only [List.mem_cons,List.not_mem_nil,or_false] at h1 h2;rcases h1 with rfl|rfl|rfl|rfl|rfl|rfl|rfl<;>rcases h2 with rfl|rfl|rfl|rfl|rfl|rfl<;>first|rfl|kernel_rfl
def gIsi:List D->Option D
 | [d,.ty n]=>(tyN d).bind fun t=>if zf1 t n then some (.bl (tyIn t n)) else none
 |_=>none
theorem zsf {K:W.Frag}{H:Hp}{d:D}{v:V}{t:String}(h:tyN d=some t)(i:IsD K H d v):TyOf K H v (.type t):=by
 cases d with
 |non=>cases h;rw [IsD.non_iff.mp i];exact .non
 |bl b=>cases h;rw [IsD.bl_iff.mp i];exact .bl b
 |int j=>cases h;rw [IsD.int_iff.mp i];exact .int j
 |str x=>cases h;rw [IsD.str_iff.mp i];exact .str x
 |lst ds =>
  obtain rfl:=Zqi h;rw [IsD.lst_iff] at i;refine zc2c i fun a xs zr2 h1 _=>?_;subst zr2;rcases h1 with h1|⟨o,h1⟩
  ·exact .lst h1
  ·exact .frz h1
 |tup ds =>
  obtain rfl:=Zqi h;rw [IsD.tup_iff] at i;refine zc2c i fun a xs zr2 h1 _=>?_;subst zr2;exact .tup h1
 |dct ks ds =>
  obtain rfl:=Zqi h;rw [IsD.dct_iff] at i;refine zc2c i fun a xs zr2 h1 _=>?_;subst zr2;exact .dK h1
 |ty n=>exact zqn h
 |scr n=>exact zqn h
 |ins C fs ds=>exact zqn h
 |exc c=>exact zqn h
 |ucl c=>exact zqn h
def IsiP (ds:List D)(z:D):Prop:=∃ d n t,ds=[d,.ty n]/\tyN d=some t/\zf1 t n=true/\z=.bl (tyIn t n)
theorem zn6 {ds:List D}{z:D}(hz:gIsi ds=some z):IsiP ds z:=by
 cases ds with
 |nil=>exact zqn hz
 |cons d ds =>
  cases ds with
  |nil=>exact zqn hz
  |cons e ds =>
   cases ds with
   |nil =>
    cases e with
    |ty n =>
     refine zc1b (Option.bind_eq_some_iff.mp (show (tyN d).bind (fun t=>if zf1 t n then some (D.bl (tyIn t n)) else none)=some z from hz)) fun t h1 hz=>?_;exact ⟨d,n,t,rfl,h1,(zgv hz).1,(zgv hz).2.symm⟩
    |_=>exact zqn hz
   |cons _ _=>cases e<;>exact zqn hz
theorem znL:zat X (.builtin "isinstance") (rDA X.K gIsi):=zat.weak znm fun xs H Q zh=>by
 refine zc3a zh fun F ds z zz=>zc0d zz fun sF id hz q=>?_;refine zc3a (zn6 hz) fun d n t zz=>zc0d zz fun zr3 h1 hk zr6=>?_;subst zr3;subst zr6;refine zc2c (zqQ id) fun v w zr2 h2 h3=>?_;subst zr2;exact ⟨v,_,_,_,by rw [IsD.ty_iff.mp h3],zsf h1 (IsD.same sF _ _ h2),zqw _ _ _ hk,q _ F H (.refl sF) (isB _ F)⟩
theorem zoH {n:String}{x:Str}{u:Value}(hg:Gl X x)(hm:X.mg x=none)(hv:bootBuiltins x=some u)(r:RelV (.ty n) u)(hn:autoParam (x ≠ "__name__") zav._auto_1)(hd:autoParam ((x == ("__debug__" : Str))=false) zav._auto_1):QE X E (.Name x pos) (dC (.ty n)) :=
 zgn (zqH (v:=.ty n) hg hm hv r hn hd) fun _=>IsD.ty_iff.mpr rfl
noncomputable def zhV:List D->Option D
 | [.lst ds]=>some (.lst ds)
 | [.tup ds]=>some (.lst ds)
 | [.scr ns]=>some (.lst (ns.map .int))
 |_=>none
noncomputable def ListP (ds:List D)(z:D):Prop:=(∃ es,ds=[.lst es]/\z=.lst es)\/(∃ es,ds=[.tup es]/\z=.lst es)\/∃ ns,ds=[.scr ns]/\z=.lst (ns.map .int)
theorem zm7 {ds:List D}{z:D}(hz:zhV ds=some z):ListP ds z:=by
 cases ds with
 |nil=>exact zqn hz
 |cons d ds =>
  cases ds with
  |nil =>
   cases d with
   |lst ds=>exact .inl ⟨_,rfl,(Zqi hz).symm⟩
   |tup ds=>exact .inr (.inl ⟨_,rfl,(Zqi hz).symm⟩)
   |scr ns=>exact .inr (.inr ⟨_,rfl,(Zqi hz).symm⟩)
   |_=>exact zqn hz
  |cons e ds=>cases d<;>exact zqn hz
theorem zoT:zat X (.type "list") (rDAN X.K zhV):=zat.weak zh8 fun xs H Q zh=>by
 obtain ⟨F,ds,z,sF,id,hz,q⟩:=zh;have fin:∀ {es:List D} {ys:List V},IsDs X.K F es ys->OkN X.K F H Q (.lst es)->∀ l,H l=none->Q (.ref l) (upd H l (.lst ys)):=fun {es ys} h q l hl =>
  q l F _ (.keep sF hl _) hl (za4 sF hl) ⟨ys,zao,h⟩
 rcases zm7 hz with ⟨es,rfl,rfl⟩|⟨es,rfl,rfl⟩|⟨ns,rfl,rfl⟩
 ·obtain ⟨v,rfl,h⟩:=zbH id;rw [IsD.lst_iff] at h;obtain ⟨a,ys,rfl,h1,h2⟩:=h;exact ⟨a,ys,rfl,.inl (h1.same sF).sq,fin h2 q⟩
 ·obtain ⟨v,rfl,h⟩:=zbH id;rw [IsD.tup_iff] at h;obtain ⟨a,ys,rfl,h1,h2⟩:=h;exact ⟨a,ys,rfl,.inr (h1.same sF).sq,fin h2 q⟩
 ·obtain ⟨v,rfl,h⟩:=zbH id;rw [IsD.scr_iff] at h;obtain ⟨a,rfl,h1⟩:=h;exact ⟨a,_,rfl,.inl (Same.seq sF h1),fin (IsDs.ints _) q⟩
noncomputable def zcU:List D->Option D
 | [.lst ds]=>some (.tup ds)
 | [.tup ds]=>some (.tup ds)
 |_=>none
noncomputable def TupP (ds:List D)(z:D):Prop:=(∃ es,ds=[.lst es]/\z=.tup es)\/∃ es,ds=[.tup es]/\z=.tup es
theorem zkn {ds:List D}{z:D}(hz:zcU ds=some z):TupP ds z:=by
 cases ds with
 |nil=>exact zqn hz
 |cons d ds =>
  cases ds with
  |nil =>
   cases d with
   |lst ds=>exact .inl ⟨_,rfl,(Zqi hz).symm⟩
   |tup ds=>exact .inr ⟨_,rfl,(Zqi hz).symm⟩
   |_=>exact zqn hz
  |cons e ds=>cases d<;>exact zqn hz
theorem zeR:zat X (.type "tuple") (rDA X.K zcU):=zat.weak zg9 fun xs H Q zh=>by
 refine zc3a zh fun F ds z zz=>zc0d zz fun sF id hz q=>?_;rcases zkn hz with ⟨es,rfl,rfl⟩|⟨es,rfl,rfl⟩
 ·refine zc1b (zbH id) fun v zr1 h=>?_;subst zr1;rw [IsD.lst_iff] at h;refine zc2c h fun a ys zr2 h1 h2=>?_;subst zr2;refine ⟨a,ys,rfl,.inl ⟨(h1.same sF).sq,fun l hl=>?_⟩⟩;have ea:=Ext.alloc sF hl (.tup ys);exact q _ _ _ ea (IsD.tup_iff.mpr ⟨l,ys,rfl,.of zao,IsDs.same ea.ff _ _ h2⟩)
 ·refine zc1b (zbH id) fun v zr1 h=>?_;subst zr1;have h':=h;rw [IsD.tup_iff] at h;refine zc2c h fun a ys zr2 h1 h2=>?_;subst zr2;exact ⟨a,ys,rfl,.inr ⟨(h1.same sF).sq,q _ F H (.refl sF) h'⟩⟩
noncomputable def dcR (r:List (Int×Int)):D:=.dct (r.map fun p=>.inl p.1) (r.map fun p=>.int p.2)
def zkq (r:List (Int×Int)):List (Int×Int):=r.foldl (fun a p=>putR a p.1 p.2) []
theorem zqC (r:List (Int×Int)):zl9 r=kvR (zkq r):=zh9 r []
theorem zfX {r:List (Int×Int)}(h:Once r):zkq r=r:=by
 have:=zho r [] (by simpa using h);unfold zkq;simpa using this
theorem zk7 (r:List (Int×Int)):kvR r=(r.map fun p=>(Sum.inl p.1:Key)).zip (r.map fun p=>V.int p.2):=by
 unfold kvR
 induction r with
 |nil=>rfl
 |cons p r ih=>rw [List.map_cons,ih];rfl
theorem znX (K:W.Frag)(F:Hp)(r:List (Int×Int)):IsDs K F (r.map fun p=>D.int p.2) (r.map fun p=>V.int p.2):=by
 have:=IsDs.ints (K:=K) (H:=F) (r.map (·.2));rw [List.map_map,List.map_map] at this;exact this
def zdE:List D->Option D
 | [d]=>(zdo d).bind fun r=>if r.length<=100 then some (dcR (zkq r)) else none
 |_=>none
theorem zgV (hc:X.calm=true):zat X (.type "dict") (rDAN X.K zdE):=zat.weak (zjV hc) fun xs H Q zh=>by
 refine zc3a zh fun F ds z zz=>zc0d zz fun sF id hz q=>?_;unfold zdE at hz
 split at hz
 ·refine zc1b (Option.bind_eq_some_iff.mp hz) fun r h1 hz=>?_
  split at hz
  ·rename_i hl;obtain rfl:=Zqi hz;refine zc1b (zbH id) fun v zr1 h=>?_;subst zr1;rw [zhF h1,zp0] at h;have h':=Is.same sF _ _ h;refine zc2b ((show ∃ a xs,v=.ref a/\_ by unfold rD at h;rw [Is.tuple_iff] at h;exact h)) fun a ys e _=>?_;subst e;refine ⟨a,r,rfl,h',hl,fun p hp=>?_⟩;refine q p F _ (.keep sF hp _) hp (za4 sF hp) ⟨(zkq r).map fun p=>V.int p.2,?_,by simp,znX _ _ _⟩;rw [zao,zqC,zk7]
  ·exact zqn hz
 ·exact zqn hz
def zkf (fo fk fx:FE):FE:=fun sd=>(fo sd).bind fun d=>match d with
 | .dct ks ds=>(fk sd).bind fun k=>(fx sd).bind fun x=>.ofO ((zdi k).map fun q=>(valD ks ds q).getD x)
 |_=>.no
theorem zpf (hu:X.A.units+1<cLine)(ho:QE X E o fo)(he:QE X E e fa)(hf:QE X E f fb)(mm:M2 X o "get" apos e f cpos):QE X E (.Call (.Attribute o "get" apos) [e,f] [] cpos) (zkf fo fa fb):=PE.weak (zoJ hu ho he hf mm) fun σ H Q zh=>by
 refine zc3b zh fun B F sd r n=>?_;refine ⟨B,F,sd,r,(Res.need_bind n).mono (fun d n1 v F1 H1 e1 i1=>?_) fun _ _ q=>q⟩;cases d with
 |dct ks ds =>
  rw [IsD.dct_iff] at i1;refine zc2d i1 fun p xs zr2 h1 h2 h3=>?_;subst zr2;have hp:=e1.fh _ _ h1;refine ⟨p,rfl,.inl ⟨_,.inl hp⟩,B,F1,sd,r.step e1,(Res.need_bind n1).mono (fun k n2 w F2 H2 e2 i2=>?_) fun _ _ q=>q.ext e1⟩;refine ⟨B,F2,sd,(r.step e1).step e2,(Res.need_bind n2).mono (fun x n3 u F3 H3 e3 i3=>?_) fun _ _ q=>q.ext (e1.trans e2)⟩;refine zc1b (Res.need_ofO n3) fun z hz q=>?_;refine zc1b (Option.map_eq_some_iff.mp hz) fun k' hk hz=>?_;subst hz;obtain ⟨g1,g2⟩:=zfz k' h2 h3;refine ⟨valV (ks.zip xs) k',?_,?_⟩
  ·rw [zdA hk i2];exact DGet.k (e3.hh _ _ (e2.hh _ _ hp))
  ·cases hv:valD ks ds k' with
   |none =>
    rw [hv] at q;rw [g2 hv];exact q _ F3 H3 ((e1.trans e2).trans e3) i3
   |some d =>
    rw [hv] at q;refine zc1b (g1 d hv) fun y hy iy=>?_;rw [hy];exact q _ F3 H3 ((e1.trans e2).trans e3) (IsD.same (e2.ff.trans e3.ff) _ _ iy)
 |_=>exact n1.elim
def zm4 (i:Nat)(fk fv:FE):FS:=fun sd=>(fv sd).bind fun v=>match sd[i]? with
 |some (some (.own false (.dct ks ds)))=>(fk sd).bind fun k=>match zdi k with
  |some q=>if ks.length<sizeLine then .ok (.next (sd.set i (some (.own false (.dct (zi8 ks q) (zjK ks ds q v)))))) else .no
  |none=>.no
 |_=>.no
theorem zqS {j:Nat}(hu:X.A.units+1<cLine)(ho:PE X o (tVar j))(hi:QE X E i fi)(hv:QE X E e fv)(hs:autoParam (swapsWith e (some (.Subscript o i pos')) pos.line X.env=pure false) zau._auto_1) :
 QS X E m (.Assign [.Subscript o i pos'] e pos) (zm4 j fi fv):=PS.weak (zqM hu ho hi hv hs) fun T σ H zh=>by
 refine zc3b zh fun B F sd r n=>?_;refine ⟨B,F,sd,r,(Res.need_bind n).mono (fun d n1 v F1 H1 e1 i1=>?_) fun _ _ q=>q.ext r.ext⟩
 split at n1
 ·rename_i ks ds hj;refine zc1e ((r.step e1).own hj) fun l h1 h2 h3 zr4 _=>?_;obtain ⟨xs,h4,h5,h6⟩:=zr4;refine ⟨.ref l,h1,B,F1,sd,r.step e1,(Res.need_bind n1).mono (fun k n2 w F2 H2 e2 i2=>?_) fun _ _ q=>q.ext (r.step e1).ext⟩
  split at n2
  ·rename_i q hk
   split at n2
   ·rename_i hz;refine zc1c (zpz (K:=X.K) (q:=q) h5 (IsDs.same e2.ff _ _ h6) (IsD.same e2.ff _ _ i1)) fun ys y1 y2 y3=>?_;have hH:=e2.hh _ _ h4;refine ⟨l,_,rfl,(by rw [zdA hk i2];exact DPut.k hH (by rw [List.length_zip];omega)),?_⟩;exact n2 σ F2 _ (e1.ff.trans e2.ff) (((r.step e1).step e2).chg hj h1 ⟨ys,by rw [zao,y1],y2,y3⟩)
   ·exact n2.elim
  ·exact n2.elim
 ·exact n1.elim
noncomputable def walkL:D->Option (List D)
 | .lst ds=>some ds
 | .scr ns=>some (ns.map .int)
 |_=>none
noncomputable def walkT:D->Option (List D)
 | .tup ds=>some ds
 |_=>none
def iL (f:FE):FA:=fun sd=>(f sd).bind fun d=>.ofO (walkL d)
def iT (f:FE):FA:=fun sd=>(f sd).bind fun d=>.ofO (walkT d)
theorem zdS {K:W.Frag}{F1:Hp}{J:It}{ds:List D}{xs:List V}{S:Hp->Prop}(h:IsDs K F1 ds xs)(sm:∀ F H,Same F1 F->Same F H->S H)(g:∀ i H x,S H->xs[i]? = some x->J.go i H)(st:∀ i H,S H->xs.length<=i->J.stop i H)
 (yl:∀ i H x H',S H->J.yld i H x H'->H'=H/\xs[i]? = some x):Walk K F1 J ds:=fun i F2 H2 s1 s2=>by
 have hS:=sm F2 H2 s1 s2;refine ⟨fun hi=>?_,fun hi=>st i H2 hS (by rw [h.length];exact hi)⟩;refine zc1b (h.get (Zqg hi)) fun x hx _=>?_;refine ⟨g i H2 x hS hx,fun y H3 hy=>?_⟩;obtain ⟨rfl,hy'⟩:=yl i H2 y H3 hS hy;refine zc1b (h.getV hy') fun d hd id=>?_;exact ⟨d,F2,hd,.refl s2,IsD.same s1 _ _ id⟩
theorem zpx (h:QE X E e fa):QI X E tg e (iL fa):=PI.weak (zqY h) fun σ H R zh=>by
 refine zc3b zh fun B F sd r n=>?_;refine ⟨B,F,sd,r,(Res.need_bind n).mono (fun d n1 v F1 H1 e1 i1=>?_) fun _ _ q=>q⟩;refine zc1b (Res.need_ofO n1) fun ds hz q=>?_;cases d with
 |lst es =>
  obtain rfl:=Zqi hz;rw [IsD.lst_iff] at i1;refine zc2c i1 fun a xs zr2 h1 h2=>?_;subst zr2;refine ⟨a,rfl,⟨xs,(h1.same e1.fh).sq⟩,q _ F1 H1 e1 (zdS (S:=fun H=>SqL X.K H a xs) h2 (fun F H s1 s2=>((h1.same s1).same s2).sq) (fun i H x hS hx=>⟨xs,x,hS,hx⟩) (fun i H hS hi=>⟨xs,hS,hi⟩) fun i H x H' hS hy=>⟨hy.1,hy.2 xs hS⟩)⟩
 |scr ns =>
  obtain rfl:=Zqi hz;rw [IsD.scr_iff] at i1;refine zc1b i1 fun a zr1 h1=>?_;subst zr1;refine ⟨a,rfl,⟨_,Same.seq e1.fh h1⟩,q _ F1 H1 e1 (zdS (S:=fun H=>SqL X.K H a (ns.map V.int)) (IsDs.ints ns) (fun F H s1 s2=>Same.seq s2 (Same.seq s1 h1)) (fun i H x hS hx=>⟨_,x,hS,hx⟩) (fun i H hS hi=>⟨_,hS,hi⟩) fun i H x H' hS hy=>⟨hy.1,hy.2 _ hS⟩)⟩
 |_=>exact zqn hz
theorem ztx (h:QE X E e fa):QI X E tg e (iT fa):=PI.weak (zrR h) fun σ H R zh=>by
 refine zc3b zh fun B F sd r n=>?_;refine ⟨B,F,sd,r,(Res.need_bind n).mono (fun d n1 v F1 H1 e1 i1=>?_) fun _ _ q=>q⟩;refine zc1b (Res.need_ofO n1) fun ds hz q=>?_;cases d with
 |tup es =>
  obtain rfl:=Zqi hz;rw [IsD.tup_iff] at i1;refine zc2c i1 fun a xs zr2 h1 h2=>?_;subst zr2;refine ⟨a,rfl,⟨xs,(h1.same e1.fh).sq⟩,q _ F1 H1 e1 (zdS (S:=fun H=>SqT X.K H a xs) h2 (fun F H s1 s2=>((h1.same s1).same s2).sq) (fun i H x hS hx=>⟨xs,x,hS,hx⟩) (fun i H hS hi=>⟨xs,hS,hi⟩) fun i H x H' hS hy=>⟨hy.1,hy.2 xs hS⟩)⟩
 |_=>exact zqn hz
noncomputable def PIor {X:Cx}{tg e:Expr}{t t':TI}(h:PI X tg e t)(h':PI X tg e t'):PI X tg e (fun σ H R=>t σ H R\/t' σ H R):=fun pins s σ H R I q=>q.elim (h pins s σ H R I) (h' pins s σ H R I)
noncomputable def zfC:D->Option (List D)
 | .lst ds=>some ds
 | .scr ns=>some (ns.map .int)
 | .tup ds=>some ds
 |_=>none
def iS (f:FE):FA:=fun sd=>(f sd).bind fun d=>.ofO (zfC d)
theorem za5 (h:QE X E e fa):QI X E tg e (iS fa):=PI.weak (PIor (zpx (E:=E) h) (ztx (E:=E) h)) fun σ H R zh=>by
 refine zc3b zh fun B F sd r n=>?_;by_cases hd:∃ ds,fa sd=.ok (.tup ds)
 ·obtain ⟨ds,hd⟩:=hd;refine .inr ⟨B,F,sd,r,?_⟩;unfold iS at n;unfold iT;rw [hd] at n ⊢;exact n
 ·refine .inl ⟨B,F,sd,r,?_⟩;unfold iS at n;unfold iL;cases hx:fa sd with
  |ok d =>
   rw [hx] at n;cases d with
   |tup ds=>exact absurd ⟨ds,hx⟩ hd
   |_=>exact n
  |no=>rw [hx] at n;exact n
  |ex c fs=>rw [hx] at n;exact n
noncomputable def zaD (lo:Int)(n:Nat):List D:=(List.range n).map fun k:Nat=>.int (lo+k)
noncomputable def zjN (j:Int):Bool:=Nat.ble j.toNat 1000000000&&Nat.ble (-j).toNat 1000000000
theorem zja {j:Int}(h:zjN j=true) : -(2 ^ 62)<=j/\j<2 ^ 62:=by
 unfold zjN at h;rw [Bool.and_eq_true,Nat.ble_eq,Nat.ble_eq] at h;omega
theorem znr {j:Int}(h1 : -1000000000<=j)(h2:j<=1000000000):zjN j=true:=by
 unfold zjN;rw [Bool.and_eq_true,Nat.ble_eq,Nat.ble_eq];omega
def iR1 (fr:FA):FA:=fun sd=>(fr sd).bind fun ds=>match ds with
 | [.int j]=>if zjN j then .ok (zaD 0 j.toNat) else .no
 |_=>.no
theorem zj4 {K:W.Frag}{F1:Hp}(lo:Int)(n:Nat):Walk K F1 (Itr lo n) (zaD lo n):=fun i F2 H2 s1 s2=>by
 have hl:(zaD lo n).length=n:=by unfold zaD;rw [Zql,List.length_range]
 rw [hl];refine ⟨fun hi=>⟨hi,fun x H3 hy=>?_⟩,fun hi=>hi⟩;obtain ⟨rfl,rfl⟩:=hy;refine ⟨.int (lo+i),F2,?_,.refl s2,IsD.int_iff.mpr rfl⟩;unfold zaD;rw [List.getElem?_map,List.getElem?_range hi];rfl
theorem zbm {a:Expr}(hg:Gl X "range")(hm:X.mg "range" = none)(ha:QA X E [a] fr)(hs:autoParam (starEach [a] X.env=[(false,eval a X.env)]) zau._auto_1):QI X E tg (.Call (.Name "range" p) [a] [] pos) (iR1 fr):=PI.weak (zm2 hg hm ha hs) fun σ H R zh=>by
 refine zc3b zh fun B F sd r n=>?_;refine ⟨B,F,sd,r,(Res.need_bind n).mono (fun ds n1 vs F1 H1 e1 i1=>?_) fun _ _ q=>q⟩
 split at n1
 ·split at n1
  ·rename_i j hj;refine zc1b (zbH i1) fun v zr1 h=>?_;subst zr1;rw [IsD.int_iff.mp h];exact ⟨j,rfl,(zja hj).1,(zja hj).2,n1 _ F1 H1 e1 (zj4 0 _)⟩
  ·exact n1.elim
 ·exact n1.elim
end
section
variable {X:Cx}{E:XK}{m:Option Bool}{a b o i e f tg:Expr}{fa fb fo fi fv:FE}{fr:FA}{pos pos' apos cpos p:Pos}
theorem PG.weak {e:Expr}{t t':TG}(h:PG X e t)(w:∀ v σ H Q,t' v σ H Q->t v σ H Q):PG X e t':=fun pins s σ H v u Q I r q=>h pins s σ H v u Q I r (w _ _ _ _ q)
def zmX:List Nat->TGs
 | []=>gNil
 |i::is=>zrv (zgH i) (zmX is)
theorem zh0:∀ {is:List Nat} {xs:List V} {σ : St} {H:Hp} {Q:St->Hp->Prop},xs.length=is.length->Q (zgs is xs σ) H->zmX is xs σ H Q
 | [],xs,σ,H,Q,hl,q=>⟨List.length_eq_zero_iff.mp hl,q⟩
 |i::is,[],σ,H,Q,hl,q=>by cases hl
 |i::is,x::xs,σ,H,Q,hl,q=>⟨x,xs,rfl,zh0 (is:=is) (xs:=xs) (Nat.succ.inj hl) q⟩
theorem za1 {i:Nat}{e:Expr}(h:PG X e (zgH i)):QG X e (.one i):=h
theorem zfd (is:List Nat){e:Expr}(h:PG X e (gTup X.K is.length (zmX is))):QG X e (.tup is):=PG.weak h (by rintro v σ H Q ⟨a,xs,e,h1,h2,q⟩;exact ⟨a,xs,e,h1,h2,zh0 h2 q⟩)
def zcK (tg:Tg)(c:FT)(f:FE)(sd:SD):List D->Res (List D)
 | []=>.ok []
 |x::xs=>(zbB tg x sd).bind fun s=>(c s).bind fun b=>if b then (f s).bind fun y=>(zcK tg c f sd xs).bind fun ys=>.ok (y::ys) else zcK tg c f sd xs
def zbC (cap:List (Option Nat))(it:FA)(tg:Tg)(c:FT)(f:FE):FE:=fun sd=>(it sd).bind fun ds=>if zeK (capD cap sd) tg=true/\ds.length<sizeLine then
 (zcK tg c f (capD cap sd) ds).bind fun ys=>.ok (.lst ys) else .no
theorem zfR {K:W.Frag}{t:Tg}{fi:FA}{fc:FT}{f:FE}{cap:List (Option Nat)}{σ : St}{H:Hp}{Q:VK}(hh:tDN K E (zbC cap fi t fc f) σ H Q):ze6 cap (tDI K E fi) (gT t K) (tDT K E fc) (tD K E f) σ H Q:=by
 refine zc3b hh fun B F sd r n=>?_;refine ⟨B,F,sd,r,(Res.need_bind n).mono (fun ds n1 J F1 H1 e1 wk=>?_) fun _ _ q=>q⟩
 split at n1
 ·rename_i hh;obtain ⟨hn,hz⟩:=hh;refine ⟨fun i k ys σ H2=>k=ds.length-i/\i<=ds.length/\∃ F2 es,Ext F1 H1 F2 H2/\RS K B F2 H2 (capD cap sd) σ /\ IsDs K F2 es ys/\es.length<=i /\
   (zcK t fc f (capD cap sd) (ds.drop i)).need (fun rs=>OkN K F2 H2 Q (.lst (es++rs))) (XW K E F2 H2),⟨ds.length,rfl,Nat.zero_le _,F1,[],.refl e1.fh,(r.step e1).cap cap,.nil,Nat.le_refl _,?_⟩,?_⟩
  ·exact (Res.need_bind n1).mono (fun rs q=>(show OkN K F H Q (.lst rs) from q).ext e1) fun _ _ q=>q.ext e1
  rintro i k ys σ2 H2 ⟨rfl,hi,F2,es,e2,r2,i2,hl,n2⟩;have ly:=i2.length;refine ⟨by omega,?_⟩;obtain ⟨w1,w2⟩:=wk i F2 H2 e2.ff e2.fh;by_cases hlt:i<ds.length
  ·obtain ⟨go,yl⟩:=w1 hlt;refine .inr ⟨go,fun x H3 y=>?_⟩;refine zc2c (yl x H3 y) fun d F3 hd e3 i3=>?_;rw [List.drop_eq_getElem_cons hlt] at n2;have hd':ds[i]=d:=by rw [Zqg hlt] at hd;exact Zqi hd
   rw [hd'] at n2;unfold zcK at n2;have r3:=r2.step e3;refine zpK (K:=K) r3 i3 (Res.need_bind n2) fun sd' σ' n4 hb r4=>?_;obtain ⟨b1,b2⟩:=zfZ hn hb;refine ⟨B,F3,sd',r4,(Res.need_bind n4).mono (fun b n5 F4 H4 e4=>?_) fun _ _ q=>q.ext e3⟩;cases b with
   |true =>
    refine ⟨B,F4,sd',r4.step e4,(Res.need_bind n5).mono (fun y n6 v F5 H5 e5 i5=>?_) fun _ _ q=>q.ext (e3.trans e4)⟩;refine ⟨ds.length-(i+1),by omega,rfl,hlt,F5,es++[y],((e2.trans e3).trans e4).trans e5,((r4.step e4).step e5).forget b1 b2,(IsDs.same ((e3.ff.trans e4.ff).trans e5.ff) _ _ i2).snoc i5,by rw [List.length_append];exact Nat.succ_le_succ hl,?_⟩;refine (Res.need_bind n6).mono (fun rs q=>?_) fun _ _ q=>q.ext ((e3.trans e4).trans e5);rw [List.append_assoc];exact (show OkN K F2 H2 Q (.lst (es++y::rs)) from q).ext ((e3.trans e4).trans e5)
   |false =>
    refine ⟨ds.length-(i+1),by omega,rfl,hlt,F4,es,(e2.trans e3).trans e4,(r4.step e4).forget b1 b2,IsDs.same (e3.ff.trans e4.ff) _ _ i2,Nat.le_succ_of_le hl,?_⟩;exact (show (zcK t fc f (capD cap sd) (ds.drop (i+1))).need _ _ from n5).mono (fun rs q=>q.ext (e3.trans e4)) fun _ _ q=>q.ext (e3.trans e4)
  ·have he:i=ds.length:=by omega
   subst he;refine .inl ⟨w2 (Nat.le_refl _),fun D hD=>?_⟩;rw [List.drop_length] at n2;have q:OkN K F2 H2 Q (.lst (es++[])):=n2;rw [List.append_nil] at q;exact q D F2 _ (.keep r2.ext.fh hD _) hD (za4 r2.ext.fh hD) ⟨ys,zao,i2⟩
 ·exact n1.elim
theorem zdr {tg iter elt c:Expr}{scope:Scope}{t:Tg}{fi:FA}{fc:FT}{f:FE}(N:List Str)(cap:List (Option Nat))(hc:X.calm=true)(okB:zb2 scope X.env N X.N cap=true)(hi:QI X E tg iter fi)
 (hg:∀ cl C s H ex,QG (za0 X scope N cl C s H ex) tg t) (ht:∀ cl C s H ex,QT (za0 X scope N cl C s H ex) E c fc) (he:∀ cl C s H ex,QE (za0 X scope N cl C s H ex) E elt f) (hs:autoParam (∀ x,foldedSetIterable iter X.env x=pure x) zaw._auto_1) :
 QN X E (.ListComp elt [⟨tg,iter,[c],0⟩] scope pos) (zbC cap fi t fc f):=PE.weak (zly (g:=gT t X.K) (tt:=tDT X.K E fc) (te:=tD X.K E f) N cap hc okB hi hg ht he hs) fun _ _ _ h=>zfR h
noncomputable def zdb:List Key->List D->Option (List (Int×Int))
 | .inl k::ks,.int v::ds=>(zdb ks ds).map fun r=>(k,v)::r
 | [],[]=>some []
 |_,_=>none
noncomputable def zt7 (ks:List Key)(ds:List D)(r:List (Int×Int)):Prop:=ks=r.map (fun p=>.inl p.1)/\ds=r.map fun p=>.int p.2
theorem zie {ks:List Key}{ds:List D}{r:List (Int×Int)}(h:zdb ks ds=some r):zt7 ks ds r:=by
 induction ks generalizing ds r with
 |nil =>
  cases ds with
  |nil=>obtain rfl:=Zqi h;exact ⟨rfl,rfl⟩
  |cons _ _=>exact zqn h
 |cons k ks ih =>
  cases k with
  |inr _=>exact zqn h
  |inl k =>
   cases ds with
   |nil=>exact zqn h
   |cons d ds =>
    cases d with
    |int v =>
     refine zc1b (Option.map_eq_some_iff.mp (show (zdb ks ds).map (fun r=>(k,v)::r)=some r from h)) fun r' h1 h2=>?_;subst h2;exact ⟨congrArg (Sum.inl k :: ·) (ih h1).1,congrArg (D.int v :: ·) (ih h1).2⟩
    |_=>exact zqn h
theorem zil (r:List (Int×Int)):zdb (r.map fun p=>.inl p.1) (r.map fun p=>.int p.2)=some r:=by
 induction r with
 |nil=>rfl
 |cons p r ih=>exact congrArg (Option.map fun r=>(p.1,p.2)::r) ih
theorem Ext.many {F H:Hp}{L:List (Addr×HO)}(s:Same F H)(fr:∀ p∈L,H p.1=none):Ext F H (newH F L) (newH H L):=by
 have old:∀ {G:Hp} {b:Addr},H b≠none->newH G L b=G b:=fun {G b} hb=>zeu fun p hp z=>hb (by rw [<- z];exact fr p hp);have ne:∀ {b:Addr} {o:HO},H b=some o->H b≠none:=fun {b o} e z=>by rw [e] at z;cases z
 refine ⟨fun b o e=>by rw [old (ne (s _ _ e))];exact e,fun b o e=>?_,fun b o e=>by rw [old (ne e)];exact e,fun a e n=>by rw [old n];exact e⟩;rcases zgQ e with h|⟨h1,h2⟩
 ·unfold newH at e ⊢
  split at e
  ·exact e
  ·exact s _ _ e
 ·rw [zeu h1];exact s _ _ h2
def zdH:D->Option D
 | .dct ks ds=>(zdb ks ds).bind fun r=>if r ≠ []/\r.length<64 then some (.lst ((zaE pltB r).map prD)) else none
 |_=>none
def zdW (fo:FE):FE:=fun sd=>(fo sd).bind fun d=>.ofO (zdH d)
theorem zir {e:Expr}(h:∀ {to:TE},PE X o to->PE X e (tCB (fun xs H Q=>∃ vw d r,xs=[.ref vw]/\H vw=some (zhE vw d)/\H d=some (.dK (kvR r))/\r ≠ []/\r.length<64/\∀ l L,(∀ p∈L,H p.1=none)->(L.map (·.1)).Nodup->(∀ G,Is (newH G L) (.list ((zaE pltB r).map pD)) (.ref l))->Q (.ref l) (newH H L))
 (zpR (tBM0 X.K "dict" (fun x vs H Q=>∃ d kvs,x=.ref d/\vs=[]/\H d=some (.dK kvs)/\∀ p,H p=none->Q (.ref p) (upd H p (zhE p d))) to) tNil))) (ho:QE X E o fo):QE X E e (zdW fo):=PE.weak (h ho) fun σ H Q zh=>by
 refine zc3b zh fun B F sd r n=>?_;refine ⟨B,F,sd,r,(Res.need_bind n).mono (fun d n1 v F1 H1 e1 i1=>?_) fun _ _ q=>q⟩;refine zc1b (Res.need_ofO n1) fun z hz q=>?_;cases d with
 |dct ks ds =>
  refine zc1b (Option.bind_eq_some_iff.mp (show (zdb ks ds).bind (fun r=>if r ≠ []/\r.length<64 then some (D.lst ((zaE pltB r).map prD)) else none)=some z from hz)) fun rr h1 h2=>?_
  split at h2
  ·rename_i hc;obtain rfl:=Zqi h2;obtain ⟨k1,k2⟩:=zie h1;rw [IsD.dct_iff] at i1;refine zc2d i1 fun d xs zr2 g1 g2 g3=>?_;subst zr2;have ex:xs=rr.map fun p=>V.int p.2:=by
    have g3':=g3;rw [k2] at g3';have:=IsDs.ints_iff (ns:=rr.map (·.2)) (by rw [List.map_map];exact g3');rw [this,List.map_map];rfl
   have hd:F1 d=some (.dK (kvR rr)):=by rw [g1,k1,ex,<- zk7]
   have hd':=e1.fh _ _ hd;refine ⟨.inr (.inr (.inl ⟨rfl,.inl ⟨_,hd'⟩⟩)),d,_,rfl,rfl,hd',fun vw hvw=>?_⟩;have sn:=zbv hvw (zhE vw d);refine ⟨vw,d,rr,rfl,zao,sn _ _ hd',hc.1,hc.2,fun l L fr nd hl=>?_⟩;have ek:Ext F1 H1 F1 (upd H1 vw (zhE vw d)):=.keep e1.fh hvw _;have en:=Ext.many ek.fh fr;refine q _ _ _ (e1.trans (ek.trans en)) ?_;refine zc2c (Is.list_iff.mp (hl F1)) fun l' ys e' g4 g5=>?_;exact IsD.lst_iff.mpr ⟨l',ys,e',.of g4,zeP.mpr g5⟩
  ·exact zqn h2
 |_=>exact zqn hz
end
section
variable {P:Program}{w:World}{K:W.Frag}{mg:Str->Option Value}{base:Heap}{f:Addr}{fd:FuncData}{ps:List Str}{k:Nat}
end
section
variable {X:Cx}{E:XK}{m:Option Bool}{a b o i e f tg:Expr}{fa fb fo fi fv:FE}{fr:FA}{pos pos' apos cpos p:Pos}
noncomputable def gIsN (neg:Bool):D->Option D
 | .non=>some (.bl (!neg))
 |_=>some (.bl neg)
noncomputable def zsW:D->Bool
 | .non=>true
 |_=>false
theorem zo5 {K:W.Frag}{H:Hp}{d:D}{v:V}(h:IsD K H d v):decide (v=.non)=zsW d:=by
 cases d with
 |non=>rw [IsD.non_iff.mp h];rfl
 |bl b=>rw [IsD.bl_iff.mp h];rfl
 |int b=>rw [IsD.int_iff.mp h];rfl
 |str b=>rw [IsD.str_iff.mp h];rfl
 |ty b=>rw [IsD.ty_iff.mp h];rfl
 |scr b=>obtain ⟨a,rfl,_⟩:=IsD.scr_iff.mp h;rfl
 |tup b=>obtain ⟨a,_,rfl,_⟩:=IsD.tup_iff.mp h;rfl
 |lst b=>obtain ⟨a,_,rfl,_⟩:=IsD.lst_iff.mp h;rfl
 |dct b c=>obtain ⟨a,_,rfl,_⟩:=IsD.dct_iff.mp h;rfl
 |ins b c d=>obtain ⟨a,_,_,_,rfl,_⟩:=IsD.ins_iff.mp h;rfl
 |exc b=>obtain ⟨a,_,rfl,_⟩:=IsD.exc_iff.mp h;rfl
 |ucl b=>obtain ⟨a,rfl,_⟩:=IsD.ucl_iff.mp h;rfl
theorem zs4 {K:W.Frag}{σ : St}{H:Hp}{Q:VK}(h:tD K E (dUn (gIsN false) fa) σ H Q):tIsN (tD K E fa) σ H Q:=by
 obtain ⟨B,F,sd,r,n⟩:=h;refine ⟨B,F,sd,r,(Res.need_bind n).mono (fun x n1 v F1 H1 e1 i1=>?_) fun _ _ q=>q⟩;show Q (V.bl (decide (v=V.non))) H1;rw [zo5 i1];cases x<;>exact n1 _ F1 H1 e1 (IsD.bl_iff.mpr rfl)
theorem zsh {j pos'}(ha:QE X E a fa):QT X E (.Compare a [.Is] [.Constant .none j pos'] pos) (zaq (dUn (gIsN false) fa)):=PT.weak (zk0 (zrS ha)) fun _ _ _ h=>zs4 (zch h)
def zfW (i:Nat)(fb:FE):FE:=fun sd=>match sd[i]? with
 |some (some (.own _ d))=>(fb sd).bind fun y=>.ofO (gIx d y)
 |_=>.no
theorem zlY {i:Nat}(hu:X.A.units+1<cLine)(ha:PE X a (tVar i))(hb:QE X E b fb)(hs:ziA b)(hs2:NoSl b):QE X E (.Subscript a b pos) (zfW i fb) :=
 PE.weak (PE.or (zmG hu ha hb hs2) (zsb zmW ha hb hs)) fun σ H Q zh=>by
  refine zc3b zh fun B F sd r n=>?_;unfold zfW at n
  split at n
  ·rename_i p d hi;refine zc1e (r.own hi) fun l h1 h2 h3 h4 _=>?_;cases d with
   |lst ds =>
    refine zc1b h4 fun xs g1 g2=>?_;refine .inr ⟨.ref l,h1,B,F,sd,r,(Res.need_bind n).mono (fun y n1 w F1 H1 e1 i1=>?_) fun _ _ q=>q⟩;refine zc1b (Res.need_ofO n1) fun z hz q=>?_;cases y with
    |int k =>
     refine zc1b (zk6 g2 (show atI ds k=some z from hz)) fun x hx ix=>?_;exact ⟨l,xs,k,x,rfl,IsD.int_iff.mp i1,SqL.of (e1.hh _ _ g1),hx,q _ F1 H1 e1 (IsD.same e1.ff _ _ ix)⟩
    |_=>exact zqn hz
   |dct ks ds =>
    refine zc1c h4 fun xs g1 g2 g3=>?_;refine .inl ⟨.ref l,h1,B,F,sd,r,(Res.need_bind n).mono (fun y n1 w F1 H1 e1 i1=>?_) fun _ _ q=>q⟩;refine zc1b (Res.need_ofO n1) fun z hz q=>?_;refine zc1b (Option.bind_eq_some_iff.mp (show (zdi y).bind (fun q=>valD ks ds q)=some z from hz)) fun k hk hz=>?_;refine zc1b ((zfz k g2 g3).1 z hz) fun x hx ix=>?_;refine ⟨l,x,rfl,?_,q x F1 H1 e1 (IsD.same e1.ff _ _ ix)⟩;rw [zdA hk i1,<- hx];exact DGet.k (e1.hh _ _ g1)
   |ins c fs ds =>
    refine .inr ⟨.ref l,h1,B,F,sd,r,(Res.need_bind n).mono (fun y n1 w F1 H1 e1 i1=>?_) fun _ _ q=>q⟩;refine zc1b (Res.need_ofO n1) fun z hz q=>?_;cases y<;>exact zqn hz
   |_=>exact h4.elim
  ·exact n.elim
end
end L2.DL
namespace L2
section
variable {X:Cx}{tg iter elt c:Expr}{scope:Scope}{pos:Pos}{wi:TI}{g:TG}{te:TE}{tt:TT}
theorem zlt {y:Str}{py:Pos}{iy:Nat}{pins:List (Addr×Obj)}{σ : St}{DD:Ends}(hNN:X.N.Nodup)(hiy:X.N[iy]? = some y)(hyy:Loc X.env.scope y)(hyf:X.fn y=true\/X.env.scope.names.lookup y=some .local) :
 zfp X pins σ (fun v H'=>DD.nx (σ.set iy (some v)) H') (some (assign (.Name y py) X.env)) (fun _ s'=>SP X pins DD .next s'):=fun C D m s5 r hm nC nF sz cC pC k=>by
 refine zc2d (k s5.heap ⟨rfl,fun _ _=>rfl⟩) fun v5 H5 K5 rv5 fC q5=>?_;refine zc3c (id hm) fun oC esC epC hoC hdC hrC=>?_;have KP:Inv X (pins++[(C,oC)]) σ H5 { s5 with heap:=s5.heap }:=K5.pins_of fun p hp=>by
  rcases List.mem_append.mp hp with hp|hp
  ·exact K5.pin p (List.mem_append_right _ hp)
  ·have e:=List.mem_singleton.mp hp;subst e;exact ⟨hoC,fC,nC,nF,fun v z=>by rw [show oC.data=_ from z] at hdC;cases hdC⟩
 refine wpAny_assign_Name (zg4 KP hNN hiy hyy rv5 (fun s6 I6=>?_) hyf);have p6:=I6.pin (C,oC) (List.mem_append_right _ (List.mem_append_right _ Zqs));refine ⟨m,⟨oC,esC,epC,p6.1,hdC,hrC⟩,fun h' hs'=>⟨_,H5,?_,q5⟩⟩;exact (I6.pins_of (pins':=pins) fun p hp=>I6.pin p (List.mem_append_right _ (List.mem_append_left _ hp))).turned (t':=s6.toks) (it:=C) (fun b o hb e=>(hs'.2 b hb).trans e) fC nC (.inr sz) cC pC
theorem zks {y:Str}{py spos:Pos}{iy:Nat}(hsw:swapsWith (.ListComp elt [⟨tg,iter,[],0⟩] scope pos) (some (.Name y py)) spos.line X.env=pure true)(hNN:X.N.Nodup)(hiy:X.N[iy]? = some y)(hyy:Loc X.env.scope y)(hyf:X.fn y=true\/X.env.scope.names.lookup y=some .local)(N:List Str)(cap:List (Option Nat))(hc:X.calm=true)(okB:zb2 scope X.env N X.N cap=true)(hi:PI X tg iter wi)(hg:∀ cl C s H ex,PG (za0 X scope N cl C s H ex) tg g)(he:∀ cl C s H ex,PE (za0 X scope N cl C s H ex) elt te)
 (hs:autoParam (∀ x,foldedSetIterable iter X.env x=pure x) zaw._auto_1):PS X (.Assign [.Name y py] (.ListComp elt [⟨tg,iter,[],0⟩] scope pos) spos) (tAsg (znS cap wi g te) (zgH iy)):=by
 intro pins s σ H DD I h;rw [exec_Assign_Name_used _ _ _ _ hsw];refine wpAny_bind (wpAny_standAt (wpAny_bind ?_));refine wpAny_bind (wpAny_mono (zlx (use:=some (assign (.Name y py) X.env)) (R:=fun _ s'=>SP X pins DD .next s') N cap hc okB hi hg he hs I h (zlt hNN hiy hyy hyf)) (fun _ s' hq=>wpAny_pure (wpAny_pure hq)) fun _ _ e=>e)
theorem zhU {y:Str}{py spos:Pos}{iy:Nat}(hsw:swapsWith (.ListComp elt [⟨tg,iter,[c],0⟩] scope pos) (some (.Name y py)) spos.line X.env=pure true)(hNN:X.N.Nodup)(hiy:X.N[iy]? = some y)(hyy:Loc X.env.scope y)(hyf:X.fn y=true\/X.env.scope.names.lookup y=some .local)(N:List Str)(cap:List (Option Nat))(hc:X.calm=true)(okB:zb2 scope X.env N X.N cap=true)(hi:PI X tg iter wi)(hg:∀ cl C s H ex,PG (za0 X scope N cl C s H ex) tg g)(ht:∀ cl C s H ex,PT (za0 X scope N cl C s H ex) c tt)(he:∀ cl C s H ex,PE (za0 X scope N cl C s H ex) elt te)
 (hs:autoParam (∀ x,foldedSetIterable iter X.env x=pure x) zaw._auto_1):PS X (.Assign [.Name y py] (.ListComp elt [⟨tg,iter,[c],0⟩] scope pos) spos) (tAsg (ze6 cap wi g tt te) (zgH iy)):=by
 intro pins s σ H DD I h;rw [exec_Assign_Name_used _ _ _ _ hsw];refine wpAny_bind (wpAny_standAt (wpAny_bind ?_));refine wpAny_bind (wpAny_mono (zhK (use:=some (assign (.Name y py) X.env)) (R:=fun _ s'=>SP X pins DD .next s') N cap hc okB hi hg ht he hs I h (zlt hNN hiy hyy hyf)) (fun _ s' hq=>wpAny_pure (wpAny_pure hq)) fun _ _ e=>e)
end
end L2
namespace L2.DL
section
variable {X:Cx}{E:XK}{m:Option Bool}{tg iter elt c:Expr}{scope:Scope}{pos spos py:Pos}{y:Str}{iy:Nat}{t:Tg}{fi:FA}{fc:FT}{f:FE}
theorem zmn {K:W.Frag}{te:TE}{i:Nat}{fe:FE}(w:∀ σ H Q,tDN K E fe σ H Q->te σ H Q){T:Ends}{σ : St}{H:Hp}(h:tDS K E m (sSet i fe) T σ H):tAsg te (zgH i) T σ H:=w _ _ _ (by
 obtain ⟨B,F,sd,r,n⟩:=h;refine ⟨B,F,sd,r,(Res.need_bind n).mono (fun d n1=>OkD.new fun v F1 H1 e1 i1=>?_) fun _ _ q=>q.ext r.ext⟩;exact n1 _ F1 H1 e1.ff ((r.step e1).setVal i1))
theorem zdX (N:List Str)(cap:List (Option Nat))(hNN:X.N.Nodup)(hiy:X.N[iy]? = some y)(hyy:Loc X.env.scope y)(hc:X.calm=true)(okB:zb2 scope X.env N X.N cap=true)(hi:QI X E tg iter fi)
 (hg:∀ cl C s H ex,QG (za0 X scope N cl C s H ex) tg t) (he:∀ cl C s H ex,QE (za0 X scope N cl C s H ex) E elt f) (hsw:autoParam (swapsWith (.ListComp elt [⟨tg,iter,[],0⟩] scope pos) (some (.Name y py)) spos.line X.env=pure true) zau._auto_1)
 (hyf:X.fn y=true\/X.env.scope.names.lookup y=some .local:=by first|exact .inl rfl|exact .inr rfl) (hs:∀ x,foldedSetIterable iter X.env x=pure x:=by intro _;rfl) :
 QS X E m (.Assign [.Name y py] (.ListComp elt [⟨tg,iter,[],0⟩] scope pos) spos) (sSet iy (zaP cap fi t f)):=by
 have hh:=zks (g:=gT t X.K) (te:=tD X.K E f) hsw hNN hiy hyy hyf N cap hc okB hi hg he hs;exact PS.weak hh fun T σ H h=>zmn (fun _ _ _ q=>ziG q) h
theorem zeh (N:List Str)(cap:List (Option Nat))(hNN:X.N.Nodup)(hiy:X.N[iy]? = some y)(hyy:Loc X.env.scope y)(hc:X.calm=true)(okB:zb2 scope X.env N X.N cap=true)(hi:QI X E tg iter fi)
 (hg:∀ cl C s H ex,QG (za0 X scope N cl C s H ex) tg t) (ht:∀ cl C s H ex,QT (za0 X scope N cl C s H ex) E c fc) (he:∀ cl C s H ex,QE (za0 X scope N cl C s H ex) E elt f) (hsw:autoParam (swapsWith (.ListComp elt [⟨tg,iter,[c],0⟩] scope pos) (some (.Name y py)) spos.line X.env=pure true) zau._auto_1)
 (hyf:X.fn y=true\/X.env.scope.names.lookup y=some .local:=by first|exact .inl rfl|exact .inr rfl) (hs:∀ x,foldedSetIterable iter X.env x=pure x:=by intro _;rfl) :
 QS X E m (.Assign [.Name y py] (.ListComp elt [⟨tg,iter,[c],0⟩] scope pos) spos) (sSet iy (zbC cap fi t fc f)):=by
 have hh:=zhU (g:=gT t X.K) (tt:=tDT X.K E fc) (te:=tD X.K E f) hsw hNN hiy hyy hyf N cap hc okB hi hg ht he hs;exact PS.weak hh fun T σ H h=>zmn (fun _ _ _ q=>zfR q) h
end
noncomputable def zt4:Option (Option SV)->Res D
 |some (some (.val d))=>.ok d
 |_=>.no
@[simp] theorem ztu (d:D):zt4 (some (some (.val d)))=.ok d:=rfl
@[simp] theorem ev_var (i:Nat)(sd:SD):dVar i sd=zt4 sd[i]? := rfl
@[simp] theorem ev_C (d:D)(sd:SD):dC d sd=.ok d:=rfl
@[simp] theorem ev_op (g:D->D->Option D)(fa fb:FE)(sd:SD):dOp g fa fb sd=(fa sd).bind fun x=>(fb sd).bind fun y=>.ofO (g x y):=rfl
@[simp] theorem ev_un (g:D->Option D)(fa:FE)(sd:SD):dUn g fa sd=(fa sd).bind fun x=>.ofO (g x):=rfl
noncomputable def bOf:D->Res Bool
 | .bl b=>.ok b
 |_=>.no
@[simp] theorem bOf_bl (b:Bool):bOf (.bl b)=.ok b:=rfl
@[simp] theorem ev_bool (fa:FE)(sd:SD):zaq fa sd=(fa sd).bind bOf:=by
 unfold zaq;cases fa sd with
 |ok d=>cases d<;>rfl
 |ex c fs=>rfl
 |no=>rfl
@[simp] theorem ev_notT (f:FT)(sd:SD):zbT f sd=(f sd).bind fun b=>.ok (!b):=rfl
@[simp] theorem ev_andT (f g:FT)(sd:SD):zhf f g sd=(f sd).bind fun b=>if b then g sd else .ok false:=rfl
@[simp] theorem ev_orT (f g:FT)(sd:SD):dOrT f g sd=(f sd).bind fun b=>if b then .ok true else g sd:=rfl
@[simp] theorem ev_andV (fa fb:FE)(sd:SD):zj3 fa fb sd=(zaq fa sd).bind fun b=>if b then fb sd else .ok (.bl false):=rfl
@[simp] theorem ev_notV (fa:FE)(sd:SD):zqh fa sd=(zaq fa sd).bind fun b=>.ok (.bl !b):=rfl
@[simp] theorem ev_nil (sd:SD):dNil sd=.ok []:=rfl
@[simp] theorem ev_cons (fa:FE)(fr:FA)(sd:SD):zab fa fr sd=(fa sd).bind fun x=>(fr sd).bind fun xs=>.ok (x::xs):=rfl
@[simp] theorem ev_lst (fr:FA)(sd:SD):dLst fr sd=(fr sd).bind fun xs=>if xs.length<=1000 then .ok (.lst xs) else .no:=rfl
@[simp] theorem ev_tup (fr:FA)(sd:SD):dTup fr sd=(fr sd).bind fun xs=>if xs.length<=1000 then .ok (.tup xs) else .no:=rfl
@[simp] theorem ev_call (Fn:List D->Res D)(fr:FA)(sd:SD):zan Fn fr sd=(fr sd).bind Fn:=rfl
@[simp] theorem ev_blt (g:List D->Option D)(fr:FA)(sd:SD):dBlt g fr sd=(fr sd).bind fun xs=>.ofO (g xs):=rfl
@[simp] theorem bare_ok {α : Type}(a:α):(Res.ok a).bare=.ok a:=rfl
@[simp] theorem ev_tmp (is:List Nat)(f:FE)(sd:SD):dTmp is f sd=(f (frzD is sd)).bare.bind fun d=>if zhw d then .ok d else .no:=rfl
@[simp] theorem ev_tmpT (is:List Nat)(f:FT)(sd:SD):zjU is f sd=(f (frzD is sd)).bare:=rfl
@[simp] theorem scal_int (i:Int):zhw (.int i)=true:=rfl
@[simp] theorem scal_bl (i:Bool):zhw (.bl i)=true:=rfl
@[simp] theorem frzD_nil (sd:SD):frzD [] sd=sd:=rfl
noncomputable def frz1 (i:Nat)(sd:SD):Option (Option SV)->SD
 |some (some (.own _ d))=>sd.set i (some (.val d))
 |_=>sd
@[simp] theorem frz1_own (i:Nat)(sd:SD)(p:Bool)(d:D):frz1 i sd (some (some (.own p d)))=sd.set i (some (.val d)):=rfl
@[simp] theorem zrG (i:Nat)(is:List Nat)(sd:SD):frzD (i::is) sd=frzD is (frz1 i sd sd[i]?):=by
 show frzD is _=frzD is _
 congr 1
noncomputable def seqK (g:FS):Out->Res Out
 | .next sd=>g sd
 |o=>.ok o
@[simp] theorem ztF (g:FS)(sd:SD):seqK g (.next sd)=g sd:=rfl
@[simp] theorem seqK_ret (g:FS)(d:D):seqK g (.ret d)=.ok (.ret d):=rfl
@[simp] theorem seqK_brk (g:FS)(d:SD):seqK g (.brk d)=.ok (.brk d):=rfl
@[simp] theorem ev_seq (g1 g2:FS)(sd:SD):sSeq g1 g2 sd=(g1 sd).bind (seqK g2):=by
 unfold sSeq;cases g1 sd with
 |ok o=>cases o<;>rfl
 |ex c fs=>rfl
 |no=>rfl
@[simp] theorem ev_next (sd:SD):zaR sd=.ok (.next sd):=rfl
@[simp] theorem ev_brk (sd:SD):sBrk sd=.ok (.brk sd):=rfl
@[simp] theorem ev_set (i:Nat)(f:FE)(sd:SD):sSet i f sd=(f sd).bind fun d=>.ok (.next (sd.set i (some (.val d)))):=rfl
@[simp] theorem ev_own (i:Nat)(f:FE)(sd:SD):sOwn i f sd=(f sd).bind fun d=>.ok (.next (sd.set i (some (.own false d)))):=rfl
@[simp] theorem ev_ret (f:FE)(sd:SD):sRet f sd=(f sd).bind fun d=>.ok (.ret d):=rfl
noncomputable def ownV:Option (Option SV)->Res D
 |some (some (.own _ d))=>.ok d
 |_=>.no
@[simp] theorem ownV_own (p:Bool)(d:D):ownV (some (some (.own p d)))=.ok d:=rfl
@[simp] theorem ztm (i:Nat)(sd:SD):zcb i sd=(ownV sd[i]?).bind fun d=>.ok (.ret d):=by
 unfold zcb;cases sd[i]? with
 |none=>rfl
 |some o =>
  cases o with
  |none=>rfl
  |some v=>cases v<;>rfl
@[simp] theorem ev_drop (f:FE)(sd:SD):znT f sd=(f sd).bind fun _=>.ok (.next sd):=rfl
@[simp] theorem ev_ifS (c:FT)(g1 g2:FS)(sd:SD):sIf c g1 g2 sd=(c sd).bind fun b=>if b then g1 sd else g2 sd:=rfl
noncomputable def ownL:Option (Option SV)->Res (List D)
 |some (some (.own false (.lst ds)))=>.ok ds
 |_=>.no
@[simp] theorem ownL_own (ds:List D):ownL (some (some (.own false (.lst ds))))=.ok ds:=rfl
@[simp] theorem ztL (i:Nat)(f:FE)(sd:SD):zaN i f sd=(ownL sd[i]?).bind fun ds=>(f sd).bind fun d=>if ds.length<sizeLine then .ok (.next (sd.set i (some (.own false (.lst (ds++[d])))))) else .no:=by
 unfold zaN;cases sd[i]? with
 |none=>rfl
 |some o =>
  cases o with
  |none=>rfl
  |some v =>
   cases v with
   |val d=>rfl
   |own p d=>cases p<;>cases d<;>rfl
noncomputable def ztr:D->Res (List D)
 | .lst es=>.ok es
 |_=>.no
@[simp] theorem ztq (es:List D):ztr (.lst es)=.ok es:=rfl
@[simp] theorem ztn (i:Nat)(f:FE)(sd:SD):zea i f sd=(ownL sd[i]?).bind fun ds=>(f sd).bind fun d=>(ztr d).bind fun es=>if ds.length+es.length<=sizeLine then .ok (.next (sd.set i (some (.own false (.lst (ds++es)))))) else .no:=by
 unfold zea;cases sd[i]? with
 |none=>rfl
 |some o =>
  cases o with
  |none=>rfl
  |some v =>
   cases v with
   |val d=>rfl
   |own p d =>
    cases p with
    |true=>cases d<;>rfl
    |false =>
     cases d with
     |lst ds =>
      show (f sd).bind _=(f sd).bind _;cases f sd with
      |ok x=>cases x<;>rfl
      |ex c fs=>rfl
      |no=>rfl
     |_=>rfl
noncomputable def ownK:Option (Option SV)->Res (List Key×List D)
 |some (some (.own false (.dct ks ds)))=>.ok (ks,ds)
 |_=>.no
@[simp] theorem ownK_own (ks:List Key)(ds:List D):ownK (some (some (.own false (.dct ks ds))))=.ok (ks,ds):=rfl
@[simp] theorem ev_dput (i:Nat)(fk fv:FE)(sd:SD):zm4 i fk fv sd=(fv sd).bind fun v=>(ownK sd[i]?).bind fun o=>(fk sd).bind fun k=>(Res.ofO (zdi k)).bind fun q=>if o.1.length<sizeLine then .ok (.next (sd.set i (some (.own false (.dct (zi8 o.1 q) (zjK o.1 o.2 q v)))))) else .no:=by
 unfold zm4;cases fv sd with
 |ok v =>
  show (match sd[i]? with
   |some (some (.own false (.dct ks ds)))=>_
   |_=>_)=(ownK sd[i]?).bind _
  cases sd[i]? with
  |none=>rfl
  |some o =>
   cases o with
   |none=>rfl
   |some w =>
    cases w with
    |val d=>rfl
    |own p d =>
     cases p with
     |true=>cases d<;>rfl
     |false =>
      cases d with
      |dct ks ds =>
       show (fk sd).bind _=(fk sd).bind _;cases fk sd with
       |ok k=>show (match zdi k with|some q=>_|none=>_)=(Res.ofO (zdi k)).bind _;cases zdi k<;>rfl
       |ex c fs=>rfl
       |no=>rfl
      |_=>rfl
 |ex c fs=>rfl
 |no=>rfl
noncomputable def outV:Out->Res D
 | .ret d=>.ok d
 | .next _=>.ok .non
 |_=>.no
@[simp] theorem outV_ret (d:D):outV (.ret d)=.ok d:=rfl
theorem zqN (n ar:Nat)(g:FS)(ds:List D)(h:ds.length=ar):runD n ar g ds=(g (zcR n ds)).bind outV:=by
 unfold runD;rw [if_pos h];cases g (zcR n ds) with
 |ok o=>cases o<;>rfl
 |ex c fs=>rfl
 |no=>rfl
noncomputable def outN:Out->Res D
 | .ret d=>.ok d
 |_=>.no
@[simp] theorem outN_ret (d:D):outN (.ret d)=.ok d:=rfl
theorem znk (n ar:Nat)(g:FS)(ds:List D)(h:ds.length=ar):runN n ar g ds=(g (zcR n ds)).bind outN:=by
 unfold runN;rw [if_pos h];cases g (zcR n ds) with
 |ok o=>cases o<;>rfl
 |ex c fs=>rfl
 |no=>rfl
@[simp] theorem run_d1 (n:Nat)(g:FS)(a:D):runD n 1 g [a]=(g (some (.val a)::List.replicate (n-1) none)).bind outV:=zqN n 1 g [a] rfl
@[simp] theorem run_d2 (n:Nat)(g:FS)(a b:D):runD n 2 g [a,b]=(g (some (.val a)::some (.val b)::List.replicate (n-2) none)).bind outV:=zqN n 2 g [a,b] rfl
@[simp] theorem run_d3 (n:Nat)(g:FS)(a b c:D):runD n 3 g [a,b,c]=(g (some (.val a)::some (.val b)::some (.val c)::List.replicate (n-3) none)).bind outV:=zqN n 3 g [a,b,c] rfl
@[simp] theorem run_n1 (n:Nat)(g:FS)(a:D):runN n 1 g [a]=(g (some (.val a)::List.replicate (n-1) none)).bind outN:=znk n 1 g [a] rfl
@[simp] theorem run_n2 (n:Nat)(g:FS)(a b:D):runN n 2 g [a,b]=(g (some (.val a)::some (.val b)::List.replicate (n-2) none)).bind outN:=znk n 2 g [a,b] rfl
@[simp] theorem run_n3 (n:Nat)(g:FS)(a b c:D):runN n 3 g [a,b,c]=(g (some (.val a)::some (.val b)::some (.val c)::List.replicate (n-3) none)).bind outN:=znk n 3 g [a,b,c] rfl
@[simp] theorem run_n4 (n:Nat)(g:FS)(a b c d:D):runN n 4 g [a,b,c,d]=(g (some (.val a)::some (.val b)::some (.val c)::some (.val d)::List.replicate (n-4) none)).bind outN:=znk n 4 g [a,b,c,d] rfl
@[simp] theorem gAdd_int (i j:Int):gAdd (.int i) (.int j)=some (.int (i+j)):=rfl
@[simp] theorem gSub_int (i j:Int):gSub (.int i) (.int j)=some (.int (i-j)):=rfl
@[simp] theorem gNeg_int (i:Int):gNeg (.int i)=some (.int (-i)):=rfl
@[simp] theorem gLt_int (i j:Int):gLt (.int i) (.int j)=some (.bl (decide (i<j))):=rfl
@[simp] theorem gGt_int (i j:Int):gGt (.int i) (.int j)=some (.bl (decide (j<i))):=rfl
@[simp] theorem gEq_int' (i j:Int):gEq (.int i) (.int j)=some (.bl (decide (i=j))):=zp3 i j
theorem zcV {i j:Int}(h:zeJ i j=true):gMul (.int i) (.int j)=some (.int (i*j)):=by
 show (if zeJ i j then _ else _)=_;rw [if_pos h]
theorem zec {i j:Int}(h1 : -18446744073709551616<j)(h2:j<18446744073709551616):zeJ i j=true:=by
 unfold zeJ;rw [Bool.or_eq_true,Bool.or_eq_true,Nat.blt_eq,Nat.blt_eq];exact .inl (by omega)
@[simp] theorem zmD {i j:Int}(h:0<j):gMod (.int i) (.int j)=some (.int (i % j)):=by
 show (if Nat.blt 0 j.toNat then _ else _)=_;rw [if_pos (by rw [Nat.blt_eq];omega)]
@[simp] theorem gFdiv_ok {i j:Int}(h:0<j)(h2:j<1073741824):zhd (.int i) (.int j)=some (.int (i / j)):=by
 show (if Nat.blt 0 j.toNat&&Nat.blt j.toNat 1073741824 then _ else _)=_;rw [if_pos (by rw [Bool.and_eq_true,Nat.blt_eq,Nat.blt_eq];omega)]
@[simp] theorem gLen_lst (ds:List D):gLen [.lst ds]=some (.int ds.length):=rfl
@[simp] theorem gLen_scr (ns:List Int):gLen [.scr ns]=some (.int ns.length):=rfl
@[simp] theorem zrC (i j:Int):zmE [.int i,.int j]=some (.int (if j > i then j else i)):=rfl
@[simp] theorem zsx (i j:Int):zoy [.int i,.int j]=some (.int (if j<i then j else i)):=rfl
@[simp] theorem zrB (ds:List D):zhV [.lst ds]=some (.lst ds):=rfl
@[simp] theorem zro (ds:List D):zcU [.lst ds]=some (.tup ds):=rfl
@[simp] theorem gIx_lst (ds:List D)(k:Int):gIx (.lst ds) (.int k)=atI ds k:=rfl
@[simp] theorem gIx_tup (ds:List D)(k:Int):gIx (.tup ds) (.int k)=atI ds k:=rfl
@[simp] theorem gIx_scr (ns:List Int)(k:Int):gIx (.scr ns) (.int k)=(atI ns k).map .int:=rfl
@[simp] theorem gIx_dct (ks:List Key)(ds:List D)(k:Int):gIx (.dct ks ds) (.int k)=valD ks ds (.inl k):=rfl
@[simp] theorem gIn_dct (neg:Bool)(ks:List Key)(ds:List D)(k:Int):gIn neg (.int k) (.dct ks ds)=some (.bl (if neg then !(valD ks ds (.inl k)).isSome else (valD ks ds (.inl k)).isSome)):=rfl
@[simp] theorem zsi (k:Int):zdi (.int k)=some (.inl k):=rfl
@[simp] theorem zdu {r:List (Int×Int)}(h:r.length<=100)(o:Once r):zdE [rwD r]=some (dcR r):=by
 unfold zdE;show (zdo (rwD r)).bind _=_;rw [zdl];show (if r.length<=100 then some (dcR (zkq r)) else none)=_;rw [if_pos h,zfX o]
theorem zgc {ns:List Int}(h:ns ≠ []):ziz [.lst (ns.map .int)]=some (.int (maxI ns)):=by
 unfold ziz;show (zei _).bind _=_;rw [zdI];show (if ns=[] then none else some (D.int (maxI ns)))=_;rw [if_neg h]
theorem zfO {ns:List Int}(h:ns ≠ []):zjX [.lst (ns.map .int)]=some (.int (minI ns)):=by
 unfold zjX;show (zei _).bind _=_;rw [zdI];show (if ns=[] then none else some (D.int (minI ns)))=_;rw [if_neg h]
theorem zc9:∀ {r:List (Int×Int)},Once r->∀ t:Int,valD (r.map fun p=>.inl p.1) (r.map fun p=>.int p.2) (.inl t)=(zam r t).map .int
 | [],_,t=>rfl
 |p::r,o,t=>by
  have o':Once r:=by unfold Once at o ⊢;rw [List.map_cons,List.nodup_cons] at o;exact o.2
  have n:p.1∉r.map (·.1):=by unfold Once at o;rw [List.map_cons,List.nodup_cons] at o;exact o.1
  rw [List.map_cons,List.map_cons];rw [zhp];rw [zbL];by_cases h:p.1=t
  ·rw [if_pos (by rw [h])];cases q:zam r t with
   |none=>rw [if_pos h];rfl
   |some w=>exact absurd (List.mem_map.mpr ⟨(t,w),za3 q,h.symm⟩) n
  ·rw [if_neg (fun z=>h (by injection z)),zc9 o' t];cases zam r t with
   |none=>rw [if_neg h]
   |some w=>rfl
noncomputable def zp6:D->Res (List Key×List D)
 | .dct ks ds=>.ok (ks,ds)
 |_=>.no
@[simp] theorem zso (ks:List Key)(ds:List D):zp6 (.dct ks ds)=.ok (ks,ds):=rfl
@[simp] theorem ev_get2 (fo fk fx:FE)(sd:SD):zkf fo fk fx sd=(fo sd).bind fun d=>(zp6 d).bind fun o=>(fk sd).bind fun k=>(fx sd).bind fun x=>.ofO ((zdi k).map fun q=>(valD o.1 o.2 q).getD x):=by
 unfold zkf;cases fo sd with
 |ok d=>cases d<;>rfl
 |ex c fs=>rfl
 |no=>rfl
theorem zo2 (r:List (Int×Int))(t:Int):hasK (.inl t) (r.map fun p=>.inl p.1)=r.any fun p=>decide (p.1=t):=by
 unfold hasK;rw [List.any_map]
 congr 1
 funext p
 exact zkF
theorem zqE (r:List (Int×Int))(t w:Int):D.dct (zi8 (r.map fun p=>.inl p.1) (.inl t)) (zjK (r.map fun p=>.inl p.1) (r.map fun p=>.int p.2) (.inl t) (.int w))=dcR (putR r t w):=by
 unfold zi8 zjK dcR putR;rw [zo2];have ch:∀ r:List (Int×Int),chgD (r.map fun p=>.inl p.1) (r.map fun p=>.int p.2) (.inl t) (.int w)=(r.map fun p=>if p.1=t then (p.1,w) else p).map fun p=>D.int p.2:=by
  intro r
  induction r with
  |nil=>rfl
  |cons p r ih =>
   rw [List.map_cons,List.map_cons,List.map_cons,List.map_cons];rw [zgW];rw [ih];by_cases h:p.1=t
   ·rw [if_pos (by rw [h]),if_pos h]
   ·rw [if_neg (fun z=>h (by injection z)),if_neg h]
 have ck:∀ r:List (Int×Int),(r.map fun p=>if p.1=t then (p.1,w) else p).map (fun p=>(Sum.inl p.1:Key))=r.map fun p=>.inl p.1:=by
  intro r;rw [List.map_map]
  congr 1
  funext p
  show (Sum.inl (if p.1=t then (p.1,w) else p).1:Key)=_;by_cases h:p.1=t
  ·rw [if_pos h]
  ·rw [if_neg h]
 by_cases q:(r.any fun p=>decide (p.1=t))=true
 ·rw [if_pos q,if_pos q,if_pos q,ch,ck]
 ·rw [if_neg q,if_neg q,if_neg q,List.map_append,List.map_append];rfl
@[simp] theorem zpg (fo:FE)(sd:SD):zdW fo sd=(fo sd).bind fun d=>.ofO (zdH d):=rfl
theorem zfA {r:List (Int×Int)}(h:r ≠ [])(hl:r.length<64):zdH (dcR r)=some (.lst ((zaE pltB r).map prD)):=by
 show (zdb _ _).bind _=_;rw [zil];exact if_pos ⟨h,hl⟩
@[simp] theorem ev_iS (f:FE)(sd:SD):iS f sd=(f sd).bind fun d=>.ofO (zfC d):=rfl
@[simp] theorem ztD (ds:List D):zfC (.lst ds)=some ds:=rfl
@[simp] theorem zs5 (ds:List D):zfC (.tup ds)=some ds:=rfl
def zcc:List D->Res (List D)
 | [.int j]=>if zjN j then .ok (zaD 0 j.toNat) else .no
 |_=>.no
@[simp] theorem ev_iR1 (fr:FA)(sd:SD):iR1 fr sd=(fr sd).bind zcc:=by
 unfold iR1;cases fr sd with
 |ok ds=>show (match ds with|[.int j]=>_|_=>_)=zcc ds;unfold zcc;rfl
 |ex c fs=>rfl
 |no=>rfl
theorem zbj {j:Int}(h1 : -1000000000<=j)(h2:j<=1000000000):zcc [.int j]=.ok (zaD 0 j.toNat):=if_pos (znr h1 h2)
theorem zcB {lo:Int}{n i:Nat}{x:D}(h:(zaD lo n)[i]? = some x):x=.int (lo+i)/\i<n:=by
 unfold zaD at h;rw [List.getElem?_map] at h;by_cases hi:i<n
 ·rw [List.getElem?_range hi] at h;exact ⟨(Zqi h).symm,hi⟩
 ·rw [List.getElem?_eq_none (by rw [List.length_range];omega)] at h;exact zqn h
theorem zbx (lo:Int)(n:Nat):(zaD lo n).length=n:=by unfold zaD;rw [Zql,List.length_range]
def forT (tg:Tg)(b:FS)(ds:List D)(sd:SD):Res Out:=forD (fun x sd=>(zbB tg x sd).bind b) ds sd
@[simp] theorem ev_for (it:FA)(tg:Tg)(b:FS)(sd:SD):sFor it tg b sd=(it sd).bind fun ds=>forT tg b ds sd:=rfl
@[simp] theorem zs7 (i:Nat)(d:D)(sd:SD):zbB (.one i) d sd=.ok (sd.set i (some (.val d))):=rfl
@[simp] theorem zs9 (i j:Nat)(a b:D)(sd:SD):zbB (.tup [i,j]) (.tup [a,b]) sd=.ok ((sd.set i (some (.val a))).set j (some (.val b))):=rfl
@[simp] theorem zrq (i j:Nat)(p:Int×Int)(sd:SD):zbB (.tup [i,j]) (prD p) sd=.ok ((sd.set i (some (.val (.int p.1)))).set j (some (.val (.int p.2)))):=rfl
theorem zbn {tg:Tg}{b:FS}{ds:List D}{sd:SD}(P:Nat->SD->Prop)(h0:P 0 sd)(hs:∀ (i:Nat) (x:D) (sd:SD),ds[i]? = some x->P i sd->∃ sd',(zbB tg x sd).bind b=.ok (.next sd')/\P (i+1) sd'):∃ sd',forT tg b ds sd=.ok (.next sd')/\P ds.length sd':=by
 have key:∀ (k i:Nat) (sd:SD),ds.length-i=k->i<=ds.length->P i sd->∃ sd',forT tg b (ds.drop i) sd=.ok (.next sd')/\P ds.length sd':=by
  intro k
  induction k with
  |zero =>
   intro i sd e hi p;have:i=ds.length:=by omega
   subst this;rw [List.drop_length];exact ⟨sd,rfl,p⟩
  |succ k ih =>
   intro i sd e hi p;have hlt:i<ds.length:=by omega
   rw [List.drop_eq_getElem_cons hlt];refine zc1b (hs i ds[i] sd (Zqg hlt) p) fun sd' h1 h2=>?_;refine zc1b (ih (i+1) sd' (by omega) hlt h2) fun sd2 h3 h4=>?_;refine ⟨sd2,?_,h4⟩;unfold forT forD;rw [h1];exact h3
 have:=key ds.length 0 sd (by omega) (Nat.zero_le _) h0
 rwa [List.drop_zero] at this
theorem zew {tg:Tg}{b:FS}{ds:List D}{sd:SD}(R:Res Out->Prop)(P:Nat->SD->Prop)(h0:P 0 sd)(he:∀ sd,P ds.length sd->R (.ok (.next sd)))
 (hs:∀ (i:Nat) (x:D) (sd:SD),ds[i]? = some x->P i sd->(∃ sd',((zbB tg x sd).bind b=.ok (.next sd')\/(zbB tg x sd).bind b=.ok (.cont sd'))/\P (i+1) sd')\/(∃ sd',(zbB tg x sd).bind b=.ok (.brk sd')/\R (.ok (.next sd')))\/∃ d,(zbB tg x sd).bind b=.ok (.ret d)/\R (.ok (.ret d))):R (forT tg b ds sd):=by
 have key:∀ (k i:Nat) (sd:SD),ds.length-i=k->i<=ds.length->P i sd->R (forT tg b (ds.drop i) sd):=by
  intro k
  induction k with
  |zero =>
   intro i sd e hi p;have:i=ds.length:=by omega
   subst this;rw [List.drop_length];exact he sd p
  |succ k ih =>
   intro i sd e hi p;have hlt:i<ds.length:=by omega
   rw [List.drop_eq_getElem_cons hlt];unfold forT forD;rcases hs i ds[i] sd (Zqg hlt) p with ⟨sd',h1|h1,h2⟩|⟨sd',h1,h2⟩|⟨d,h1,h2⟩
   ·rw [h1];exact ih (i+1) sd' (by omega) hlt h2
   ·rw [h1];exact ih (i+1) sd' (by omega) hlt h2
   ·rw [h1];exact h2
   ·rw [h1];exact h2
 have:=key ds.length 0 sd (by omega) (Nat.zero_le _) h0
 rwa [List.drop_zero] at this
theorem zj0 {α β γ : Type}{f:α -> Res β}{k:γ -> α}{g:γ -> β}{xs:List γ}(h:∀ x∈xs,f (k x)=.ok (g x)):mapD f (xs.map k)=.ok (xs.map g):=by
 induction xs with
 |nil=>rfl
 |cons x xs ih =>
  rw [List.map_cons];unfold mapD;rw [h x Zqs,ih fun y hy=>h y (Zqm _ hy)];rfl
def mapE (tg:Tg)(f:FE)(c:SD)(ds:List D):Res (List D):=mapD (fun x=>(zbB tg x c).bind f) ds
@[simp] theorem ev_comp (cap:List (Option Nat))(it:FA)(tg:Tg)(f:FE)(sd:SD):zaP cap it tg f sd=(it sd).bind fun ds=>if zeK (capD cap sd) tg=true/\ds.length<sizeLine then (mapE tg f (capD cap sd) ds).bind fun ys=>.ok (.lst ys) else .no:=rfl
noncomputable def capV:Option (Option SV)->Option SV
 |some (some (.val d))=>some (.val d)
 |_=>none
@[simp] theorem capV_val (d:D):capV (some (some (.val d)))=some (.val d):=rfl
@[simp] theorem capD_nil (sd:SD):capD [] sd=[]:=rfl
@[simp] theorem capD_n (cap:List (Option Nat))(sd:SD):capD (none::cap) sd=none::capD cap sd:=rfl
@[simp] theorem capD_s (j:Nat)(cap:List (Option Nat))(sd:SD):capD (some j::cap) sd=capV sd[j]? :: capD cap sd:=rfl
@[simp] theorem zrm (sd:SD)(i:Nat):zeK sd (.one i)=zd6 sd i:=rfl
@[simp] theorem zrp (sd:SD)(is:List Nat):zeK sd (.tup is)=is.all (zd6 sd):=rfl
@[simp] theorem noneAt_0 (sd:SD):zd6 (none::sd) 0=true:=rfl
@[simp] theorem noneAt_s (o:Option SV)(sd:SD)(i:Nat):zd6 (o::sd) (i+1)=zd6 sd i:=rfl
theorem zbk {α : Type}{tg:Tg}{f:FE}{c:SD}{k:α -> D}{g:α -> D}{xs:List α}(h:∀ x∈xs,(zbB tg (k x) c).bind f=.ok (g x)):mapE tg f c (xs.map k)=.ok (xs.map g):=zj0 h
theorem zcH {tg:Tg}{f:FE}{c:SD}{lo:Int}{n:Nat}{g:Nat->D}(h:∀ i,i<n->(zbB tg (.int (lo+i)) c).bind f=.ok (g i)):mapE tg f c (zaD lo n)=.ok ((List.range n).map g):=zj0 fun i hi=>h i (List.mem_range.mp hi)
@[simp] theorem zrT (cap:List (Option Nat))(it:FA)(tg:Tg)(c:FT)(f:FE)(sd:SD):zbC cap it tg c f sd=(it sd).bind fun ds=>if zeK (capD cap sd) tg=true/\ds.length<sizeLine then (zcK tg c f (capD cap sd) ds).bind fun ys=>.ok (.lst ys) else .no:=rfl
theorem zcm {α : Type}{tg:Tg}{c:FT}{f:FE}{sd:SD}{k:α -> D}{s:α -> SD}{p:α -> Bool}{g:α -> D}{xs:List α}(h1:∀ x∈xs,zbB tg (k x) sd=.ok (s x))(h2:∀ x∈xs,c (s x)=.ok (p x))(h3:∀ x∈xs,p x=true->f (s x)=.ok (g x)) :
 zcK tg c f sd (xs.map k)=.ok ((xs.filter p).map g):=by
 induction xs with
 |nil=>rfl
 |cons x xs ih =>
  have ih:=ih (fun y hy=>h1 y (Zqm _ hy)) (fun y hy=>h2 y (Zqm _ hy)) (fun y hy=>h3 y (Zqm _ hy));rw [List.map_cons,List.filter_cons];unfold zcK;rw [h1 x Zqs,Res.bind_ok,h2 x Zqs,Res.bind_ok];cases q:p x with
  |true =>
   rw [if_pos rfl,if_pos rfl,h3 x Zqs q,Res.bind_ok,ih];rfl
  |false =>
   rw [if_neg (by simp),if_neg (by simp),ih]
theorem zaj {n:Nat}(h:n<=1000):n<sizeLine:=zhj h
@[simp] theorem zpl (i:Int):gIsi [.int i,.ty "bool"]=some (.bl false):=rfl
@[simp] theorem zqT (i:Int):gIsi [.int i,.ty "int"]=some (.bl true):=rfl
noncomputable def zaQ {α : Type}(xs:List α)(lo hi st:Option Int):List α := (sliceRange (sliceBounds lo hi st xs.length).1 (sliceBounds lo hi st xs.length).2.1 (sliceBounds lo hi st xs.length).2.2).filterMap (xs[·]?)
theorem ziT (its:List Value)(lo hi st:Option Int):slicePick its.toArray lo hi st=(zaQ its lo hi st).toArray:=by
 unfold slicePick zaQ;rw [List.size_toArray]
 congr 2
 funext i
 simp
theorem zlR {xs:List V}{its:List Value}(r:Vals xs its)(lo hi st:Option Int):Vals (zaQ xs lo hi st) (zaQ its lo hi st):=by
 unfold zaQ;rw [r.length];generalize sliceRange _ _ _=ix
 induction ix with
 |nil=>exact .nil
 |cons i ix ih =>
  rw [List.filterMap_cons,List.filterMap_cons];cases hx:xs[i]? with
  |none=>rw [r.none_of hx];exact ih
  |some x =>
   refine zc1b (r.get hx) fun u hu ru=>?_;rw [hu];exact .cons ru ih
theorem zp4 {K:W.Frag}{H:Hp}{ds:List D}{xs:List V}(r:IsDs K H ds xs)(lo hi st:Option Int):IsDs K H (zaQ ds lo hi st) (zaQ xs lo hi st):=by
 unfold zaQ;rw [r.length];generalize sliceRange _ _ _=ix
 induction ix with
 |nil=>exact .nil
 |cons i ix ih =>
  rw [List.filterMap_cons,List.filterMap_cons];cases hx:ds[i]? with
  |none =>
   have hn:xs[i]? = none:=List.getElem?_eq_none_iff.mpr (by rw [r.length];exact List.getElem?_eq_none_iff.mp hx);rw [hn];exact ih
  |some x =>
   refine zc1b (r.get hx) fun u hu ru=>?_;rw [hu];exact .mk ru ih
theorem zgk {α β : Type}(f:α -> β)(xs:List α)(lo hi st:Option Int):zaQ (xs.map f) lo hi st=(zaQ xs lo hi st).map f:=by
 unfold zaQ;rw [Zql];generalize sliceRange _ _ _=ix
 induction ix with
 |nil=>rfl
 |cons i ix ih =>
  rw [List.filterMap_cons,List.filterMap_cons,List.getElem?_map];cases xs[i]? with
  |none=>exact ih
  |some x=>show f x::_=_;rw [ih];rfl
theorem zg5 {α : Type}{xs:List α}{lo hi st:Option Int}{x:α}(h:x∈zaQ xs lo hi st):x∈xs:=by
 unfold zaQ at h;refine zc1b (List.mem_filterMap.mp h) fun i _ hi=>?_;exact List.mem_of_getElem? hi
theorem zgq {α : Type}(xs:List α)(lo hi st:Option Int):(zaQ xs lo hi st).length<=xs.length:=by
 have h:=slicePick_size_le (xs.map fun _=>Value.none).toArray lo hi st;rw [ziT,List.size_toArray,List.size_toArray,zgk,Zql,Zql] at h;exact h
section
variable {X:Cx}{E:XK}{m:Option Bool}{a b o i e f tg:Expr}{fa fb fo fi fv fe:FE}{fr:FA}{pos pos' apos cpos p p2:Pos}{lo hi st:Option Expr}
abbrev FO:=SD->Res (Option Int)
def tDO (K:W.Frag)(E:XK)(f:FO):TO:=fun σ H Q=>∃ B F sd,RS K B F H sd σ /\ (f sd).need (fun o=>∀ F' H',Ext F H F' H'->Q o H') (XW K E F H)
noncomputable def zb4:FO:=fun _=>.ok none
def zdQ (f:FE):FO:=fun sd=>(f sd).bind fun d=>match d with
 | .int i=>.ok (some i)
 |_=>.no
abbrev QO (X:Cx)(E:XK)(e:Option Expr)(f:FO):Prop:=PO X e (tDO X.K E f)
theorem PO.weak {e:Option Expr}{t t':TO}(h:PO X e t)(w:∀ σ H Q,t' σ H Q->t σ H Q):PO X e t':=fun pins s σ H Q I q=>h pins s σ H Q I (w _ _ _ q)
theorem zdT:QO X E none zb4:=PO.weak zqD (by rintro σ H Q ⟨B,F,sd,r,n⟩;exact n F H (.refl r.ext.fh))
theorem zdN (h:QE X E e fe):QO X E (some e) (zdQ fe):=PO.weak (zql h) fun σ H Q zh=>by
 refine zc3b zh fun B F sd r n=>?_;refine ⟨B,F,sd,r,(Res.need_bind n).mono (fun d n1 v F1 H1 e1 i1=>?_) fun _ _ q=>q⟩;cases d with
 |int i=>exact ⟨i,IsD.int_iff.mp i1,n1 F1 H1 e1⟩
 |_=>exact n1.elim
def rSl3 (K:W.Frag):V->Option Int->Option Int->Option Int->Hp->VK->Prop:=fun x lo hi st H Q=>∃ a xs,x=.ref a/\SqL K H a xs/\st≠some 0/\∀ p,H p=none->Q (.ref p) (upd H p (.lst (zaQ xs lo hi st)))
noncomputable def tSl3 (r:V->Option Int->Option Int->Option Int->Hp->VK->Prop)(te:TE)(tl th ts:TO):TE:=fun σ H Q=>te σ H fun x H1=>tl σ H1 fun l H2=>th σ H2 fun u H3=>ts σ H3 fun c H4=>r x l u c H4 Q
theorem zmZ {te:TE}{tl th ts:TO}(he:PE X e te)(hl:PO X lo tl)(hu:PO X hi th)(hs:PO X st ts):PE X (.Subscript e (.Slice lo hi st p2) pos) (tSl3 (rSl3 X.K) te tl th ts):=by
 intro pins s σ H Q I h;refine Subscript_ (thn (he pins s σ H _ I h) fun v s1 zh=>?_);refine zc2c zh fun x H1 I1 r1 q1=>?_;refine wpAny_Slice (thn (hl pins s1 σ H1 _ I1 q1) fun vl s2 ⟨l,H2,I2,pl,q2⟩=>thn (hu pins s2 σ H2 _ I2 q2) fun vu s3 ⟨u,H3,I3,pu,q3⟩=>thn (hs pins s3 σ H3 _ I3 q3) fun vs s4 zh=>?_);refine zc2c zh fun c H4 I4 ps q4=>?_;refine zc2d q4 fun a xs zr2 hx h0 q=>?_;subst zr2;obtain rfl:v=Value.ref a:=r1;have I5:Inv X pins σ H4 { s4 with heap:=s4.heap.push { cls:=.type "slice",data:=.fields #[vl,vu,vs] } }:=I4.kept (t':=s4.toks) fun b ob q=>Heap.get?_push_of_some _ q;refine zc1c (I5.list hx) fun its r ht hz=>?_;have hlen:=r.length;show wpAny (model X.prog X.w) X.A (subscriptTail e (.Slice lo hi st p2) (.ref a) (.ref s4.heap.objs.size)) (EP X pins σ Q) X.xe { s4 with heap:=s4.heap.push { cls:=.type "slice",data:=.fields #[vl,vu,vs] } }
 suffices fin:wpAny (model X.prog X.w) X.A (getItem (.ref a) (.ref s4.heap.objs.size)) (EP X pins σ Q) X.xe { s4 with heap:=s4.heap.push { cls:=.type "slice",data:=.fields #[vl,vu,vs] } } by
  cases st with
  |none=>exact tail_any (ops:=[.ref s4.heap.objs.size,.ref a]) ht.isList.typeIs slot_list_getitem.lookup fin (by with_unfolding_all rfl)
  |some c=>exact tail_any (ops:=[.ref a,.ref s4.heap.objs.size]) ht.isList.typeIs slot_list_getitem.lookup fin (by with_unfolding_all rfl)
 refine wpAny_getItem_list_slice ht.isList (Heap.IsSliceOf.new ..) pl pu ps h0 ?_ (by rw [List.size_toArray]<;>omega);rw [ziT];refine ⟨.ref _,_,I5.laid (t':=s4.toks) (o:=.lst (zaQ xs l u c)) (fun b ob q=>Heap.get?_push_of_some _ q) (Nat.le_refl _) ?_,rfl,q _ (I5.hok.fresh (Nat.le_refl _))⟩;exact ⟨Nat.le_trans (zgq xs l u c) hz,_,0,zlR r l u c,Heap.get?_push_size _ rfl⟩
def gSl:D->Option Int->Option Int->Option Int->Option D
 | .lst ds,lo,hi,st=>if st=some 0 then none else some (.lst (zaQ ds lo hi st))
 | .scr ns,lo,hi,st=>if st=some 0 then none else some (.lst ((zaQ ns lo hi st).map .int))
 |_,_,_,_=>none
def dSl (fe:FE)(fl fh fs:FO):FE:=fun sd=>(fe sd).bind fun d=>(fl sd).bind fun l=>(fh sd).bind fun h=>(fs sd).bind fun c=>.ofO (gSl d l h c)
theorem zgu {fl fh fs:FO}(he:QE X E e fe)(hl:QO X E lo fl)(hu:QO X E hi fh)(hs:QO X E st fs):QN X E (.Subscript e (.Slice lo hi st p2) pos) (dSl fe fl fh fs):=PE.weak (zmZ he hl hu hs) fun σ H Q zh=>by
 refine zc3b zh fun B F sd r n=>?_;refine ⟨B,F,sd,r,(Res.need_bind n).mono (fun d n1 v F1 H1 e1 i1=>?_) fun _ _ q=>q⟩;refine ⟨B,F1,sd,r.step e1,(Res.need_bind n1).mono (fun l n2 F2 H2 e2=>?_) fun _ _ q=>q.ext e1⟩;refine ⟨B,F2,sd,(r.step e1).step e2,(Res.need_bind n2).mono (fun h n3 F3 H3 e3=>?_) fun _ _ q=>q.ext (e1.trans e2)⟩;refine ⟨B,F3,sd,((r.step e1).step e2).step e3,(Res.need_bind n3).mono (fun c n4 F4 H4 e4=>?_) fun _ _ q=>q.ext ((e1.trans e2).trans e3)⟩;refine zc1b (Res.need_ofO n4) fun z hz q=>?_;have e14:=((e2.trans e3).trans e4);have eA:=e1.trans e14;cases d with
 |lst ds =>
  have hz:(if c=some 0 then none else some (D.lst (zaQ ds l h c)))=some z:=hz
  split at hz
  ·exact zqn hz
  ·rename_i h0;obtain rfl:=Zqi hz;rw [IsD.lst_iff] at i1;refine zc2c i1 fun a xs zr2 h1 h2=>?_;subst zr2;exact ⟨a,xs,rfl,((h1.same e14.ff).same e14.fh).sq,h0,fun p hp=>q p F4 _ (eA.trans (.keep e4.fh hp _)) (za4 eA.hh hp) (za4 e4.fh hp) ⟨_,zao,zp4 (IsDs.same e14.ff _ _ h2) l h c⟩⟩
 |scr ns =>
  have hz:(if c=some 0 then none else some (D.lst ((zaQ ns l h c).map .int)))=some z:=hz
  split at hz
  ·exact zqn hz
  ·rename_i h0;obtain rfl:=Zqi hz;rw [IsD.scr_iff] at i1;refine zc1b i1 fun a zr1 h1=>?_;subst zr1;refine ⟨a,_,rfl,Same.seq e14.fh (Same.seq e14.ff h1),h0,fun p hp=>q p F4 _ (eA.trans (.keep e4.fh hp _)) (za4 eA.hh hp) (za4 e4.fh hp) ⟨_,zao,?_⟩⟩;rw [zgk];exact IsDs.ints _
 |_=>exact zqn hz
@[simp] theorem ev_sl (fe:FE)(fl fh fs:FO)(sd:SD):dSl fe fl fh fs sd=(fe sd).bind fun d=>(fl sd).bind fun l=>(fh sd).bind fun h=>(fs sd).bind fun c=>.ofO (gSl d l h c):=rfl
@[simp] theorem ztf (sd:SD):zb4 sd=.ok none:=rfl
noncomputable def zlj:D->Res (Option Int)
 | .int i=>.ok (some i)
 |_=>.no
@[simp] theorem zrn (i:Int):zlj (.int i)=.ok (some i):=rfl
@[simp] theorem ev_part (f:FE)(sd:SD):zdQ f sd=(f sd).bind zlj:=by
 unfold zdQ;cases f sd with
 |ok d=>cases d<;>rfl
 |ex c fs=>rfl
 |no=>rfl
@[simp] theorem gSl_lst0 (ds:List D)(lo hi:Option Int):gSl (.lst ds) lo hi none=some (.lst (zaQ ds lo hi none)):=rfl
theorem zqU {ds:List D}{lo hi:Option Int}{c:Int}(h:c≠0):gSl (.lst ds) lo hi (some c)=some (.lst (zaQ ds lo hi (some c))):=if_neg fun z=>h (Zqi z)
theorem zpQ {ds:List Int}{lo hi:Option Int}{c:Int}(h:c≠0):gSl (.scr ds) lo hi (some c)=some (.lst ((zaQ ds lo hi (some c)).map .int)):=if_neg fun z=>h (Zqi z)
def zos (i:Nat)(fk fv:FE):FS:=fun sd=>(fv sd).bind fun v=>match sd[i]? with
 |some (some (.own false (.lst ds)))=>(fk sd).bind fun k=>match k with
  | .int k=>match ixN ds.length k with
   |some j=>.ok (.next (sd.set i (some (.own false (.lst (ds.set j v))))))
   |none=>.no
  |_=>.no
 |_=>.no
theorem zqv {j:Nat}(ho:PE X o (tVar j))(hi:QE X E i fi)(hv:QE X E e fv)(ha:∀ v,assign (.Subscript o i pos') X.env v=(do
 let ov <- holding [v] (eval o X.env)
 let iv <- holding [v,ov] (eval i X.env)
 standAt pos'
 holding [v,ov,iv] (setItem ov iv v)
 release [v,ov,iv] []):=by intro _;rfl) (hs:swapsWithSole [.Subscript o i pos'] e pos.line X.env=pure false:=by rfl) (hw:swappedStores [.Subscript o i pos'] e X.env=pure none:=by rfl)
 (h1:autoParam ((assignEach [.Subscript o i pos'] X.env).map (·.2)=[assign (.Subscript o i pos') X.env]) zau._auto_1):QS X E m (.Assign [.Subscript o i pos'] e pos) (zos j fi fv):=PS.weak (ztw hv (zrw ho hi zoe ha) hs hw h1) fun T σ H zh=>by
 refine zc3b zh fun B F sd r n=>?_;refine ⟨B,F,sd,r,(Res.need_bind n).mono (fun d n1 v F1 H1 e1 i1=>?_) fun _ _ q=>q.ext r.ext⟩
 split at n1
 ·rename_i ds hj;refine zc1e ((r.step e1).own hj) fun l h1 h2 h3 zr4 _=>?_;obtain ⟨xs,h4,h5⟩:=zr4;refine ⟨.ref l,h1,B,F1,sd,r.step e1,(Res.need_bind n1).mono (fun k n2 w F2 H2 e2 i2=>?_) fun _ _ q=>q.ext (r.step e1).ext⟩
  split at n2
  ·rename_i k
   split at n2
   ·rename_i q hk;have hH:=e2.hh _ _ h4;have hl:=h5.length;refine ⟨l,xs,k,q,rfl,IsD.int_iff.mp i2,hH,by rw [hl];exact hk,?_⟩;exact n2 σ F2 _ (e1.ff.trans e2.ff) (((r.step e1).step e2).chg hj h1 ⟨_,zao,(IsDs.same e2.ff _ _ h5).set q (IsD.same e2.ff _ _ i1)⟩)
   ·exact n2.elim
  ·exact n2.elim
 ·exact n1.elim
@[simp] theorem ev_lput (i:Nat)(fk fv:FE)(sd:SD):zos i fk fv sd=(fv sd).bind fun v=>(ownL sd[i]?).bind fun ds=>(fk sd).bind fun k=>(zlj k).bind fun k=>(Res.ofO (ixN ds.length (k.getD 0))).bind fun j=>.ok (.next (sd.set i (some (.own false (.lst (ds.set j v)))))):=by
 unfold zos;cases fv sd with
 |ok v =>
  show (match sd[i]? with
   |some (some (.own false (.lst ds)))=>_
   |_=>_)=(ownL sd[i]?).bind _
  cases sd[i]? with
  |none=>rfl
  |some o =>
   cases o with
   |none=>rfl
   |some w =>
    cases w with
    |val d=>rfl
    |own p d =>
     cases p with
     |true=>cases d<;>rfl
     |false =>
      cases d with
      |lst ds =>
       show (fk sd).bind _=(fk sd).bind _;cases fk sd with
       |ok k =>
        cases k with
        |int k=>show (match ixN ds.length k with|some j=>_|none=>_)=(Res.ofO (ixN ds.length k)).bind _;cases ixN ds.length k<;>rfl
        |_=>rfl
       |ex c fs=>rfl
       |no=>rfl
      |_=>rfl
 |ex c fs=>rfl
 |no=>rfl
@[simp] theorem ev_ixOwn (i:Nat)(fb:FE)(sd:SD):zfW i fb sd=(ownV sd[i]?).bind fun d=>(fb sd).bind fun y=>.ofO (gIx d y):=by
 unfold zfW;cases sd[i]? with
 |none=>rfl
 |some o =>
  cases o with
  |none=>rfl
  |some v=>cases v<;>rfl
@[simp] theorem gIsN_non (neg:Bool):gIsN neg .non=some (.bl (!neg)):=rfl
@[simp] theorem gIsN_int (neg:Bool)(i:Int):gIsN neg (.int i)=some (.bl neg):=rfl
def zbw:List D->Option D
 | [.lst ds]=>(zb3 zdo ds).bind fun rs=>if (∀ r∈rs,r ≠ [])/\rs.length<64 then some (.lst ((zaE rltB rs).map rwD)) else none
 |_=>none
theorem zdJ (hu:X.A.units+64<cLine):zat X (.builtin "sorted") (rDAN X.K zbw):=zat.weak (zfi hu) fun xs H Q zh=>by
 refine zc3a zh fun F ds z zz=>zc0d zz fun sF id hz q=>?_;unfold zbw at hz
 split at hz
 ·refine zc1b (Option.bind_eq_some_iff.mp hz) fun rs h1 hz=>?_
  split at hz
  ·rename_i hc;obtain rfl:=Zqi hz;refine zc1b (zbH id) fun v zr1 h=>?_;subst zr1;rw [zdU h1,IsD.lst_iff] at h;refine zc2c h fun a ys zr2 g1 g2=>?_;subst zr2;refine ⟨a,ys,rs,rfl,g1.same sF,zcO.mp (IsDs.same sF _ _ g2),hc.1,hc.2,fun l ix hl hix he=>?_⟩;have hk:H l=none:=hl;refine q l F _ (.keep sF hl _) hl (za4 sF hl) ⟨_,zao,?_⟩;rw [<- he,List.map_map];have hy:=g2.length;rw [Zql] at hy;clear he
   induction ix with
   |nil=>exact .nil
   |cons i ix ih =>
    rw [List.map_cons,List.map_cons];have hi:=hix i Zqs;refine zc1b (g2.get (i:=i) (d:=rwD (rs.getD i [])) (by rw [List.getElem?_map,Zqg hi,zap (Zqg hi)];rfl)) fun x hx ixx=>?_;rw [zap hx];exact .mk ixx (ih fun j hj=>hix j (Zqm _ hj))
  ·exact zqn hz
 ·exact zqn hz
end
end L2.DL
namespace L2
section
variable {X:Cx}
theorem zk9 (hc:X.calm=true):zat X (.builtin "sum") (fun xs H Q=>∃ (a:Addr) (ns:List Int),xs=[.ref a]/\SqL X.K H a (ns.map V.int)/\Q (.int ns.sum) H):=by
 intro pins s σ H xs us Q I r h;refine zc2c h fun a ns zr2 hl q=>?_;subst zr2;refine zc1b (zcn r) fun u zr1 ru=>?_;subst zr1;obtain rfl:u=Value.ref a:=ru;refine zc1c (I.list hl) fun its rv p hz=>?_;have hi:IntsAre its ns:=zeb rv;obtain ⟨ys,e⟩:=hi.allInts.items;have hns:ns=ys.toList.map (·.1):=by
  rw [<- hi.numsOf,<- nums_intItems,<- e]
 have hl':=p.isList;rw [e] at hl';refine sum_intListG (I.ok.hd hc) hl' fun h' tk t' hk=>?_;refine ⟨.int ns.sum,H,I.kept hk,⟨t',?_⟩,q⟩;rw [preSum_eq,List.take_of_length_le (by simp),<- hns]
theorem zjd {bs:List Bool}{its:List Value}(r:Vals (bs.map V.bl) its)(i:Nat)(v:Value)(h:its.toArray[i]? = some v):v=.bool (bs.getD i false):=by
 have h':its[i]? = some v:=by simpa using h
 have hi:i<its.length:=(List.getElem?_eq_some_iff.mp h').1;have hl:=r.length;rw [Zql] at hl;have hb:bs[i]? = some bs[i]:=Zqg (by omega);refine zc1b (r.get (i:=i) (x:=.bl bs[i]) (by rw [List.getElem?_map,hb];rfl)) fun u hu ru=>?_;rw [h'] at hu;obtain rfl:=Zqi hu;rw [show v=Value.bool bs[i] from ru,List.getD_eq_getElem?_getD,hb];rfl
theorem zlv (bs:List Bool):(List.range bs.length).all (fun i=>bs.getD i false)=bs.all id:=by
 apply Bool.eq_iff_iff.mpr;rw [List.all_eq_true,List.all_eq_true];constructor
 ·intro h b hb;obtain ⟨i,hi,rfl⟩:=List.getElem_of_mem hb;have:=h i (List.mem_range.mpr hi);rw [List.getD_eq_getElem?_getD,Zqg hi] at this;exact this
 ·intro h i hi;have hi:=List.mem_range.mp hi;rw [List.getD_eq_getElem?_getD,Zqg hi];exact h _ (List.getElem_mem hi)
theorem zmC (bs:List Bool):(List.range bs.length).any (fun i=>bs.getD i false)=bs.any id:=by
 apply Bool.eq_iff_iff.mpr;rw [List.any_eq_true,List.any_eq_true];constructor
 ·rintro ⟨i,hi,h⟩;have hi:=List.mem_range.mp hi;rw [List.getD_eq_getElem?_getD,Zqg hi] at h;exact ⟨_,List.getElem_mem hi,h⟩
 ·rintro ⟨b,hb,h⟩;obtain ⟨i,hi,rfl⟩:=List.getElem_of_mem hb;refine ⟨i,List.mem_range.mpr hi,?_⟩;rw [List.getD_eq_getElem?_getD,Zqg hi];exact h
theorem zmK (hc:X.calm=true):zat X (.builtin "all") (fun xs H Q=>∃ (a:Addr) (bs:List Bool),xs=[.ref a]/\SqL X.K H a (bs.map V.bl)/\Q (.bl (bs.all id)) H):=by
 intro pins s σ H xs us Q I r h;refine zc2c h fun a bs zr2 hl q=>?_;subst zr2;refine zc1b (zcn r) fun u zr1 ru=>?_;subst zr1;obtain rfl:u=Value.ref a:=ru;refine zc1c (I.list hl) fun its rv p hz=>?_;have hlt:a<s.heap.objs.size:=by obtain ⟨_,e,_⟩:=p.isList;exact Heap.lt_size e
 have hlen:=rv.length;rw [Zql] at hlen;refine call_all_walk (wpAny_pyIter_list p.isList ⟨_,_,_,_,_,_,fun i=>bs.getD i false,rfl,Walks.list (A:=X.A.in1) (I.ok.hd hc) s.heap.objs.size a (Nat.ne_of_lt hlt) its.toArray,⟨⟨_,Heap.get?_push_size _ rfl,rfl,rfl⟩,p.isList.push _⟩,?_,fun h' tk hk=>?_⟩)
 ·intro i v s' Q' E' hP hQ;have hv:=zjd rv i v hP;subst hv;exact wpAny_of_eq rfl hQ
 ·rw [List.size_toArray,<- hlen,zlv];refine ⟨.bl _,H,I.kept (t':=tk) fun b o e=>hk b o ?_ (Heap.get?_push_of_some _ e),rfl,q⟩;intro hm;have e':=List.mem_singleton.mp hm;rw [e'] at e;exact Nat.lt_irrefl _ (Heap.lt_size e)
theorem zmg (hc:X.calm=true):zat X (.builtin "any") (fun xs H Q=>∃ (a:Addr) (bs:List Bool),xs=[.ref a]/\SqL X.K H a (bs.map V.bl)/\Q (.bl (bs.any id)) H):=by
 intro pins s σ H xs us Q I r h;refine zc2c h fun a bs zr2 hl q=>?_;subst zr2;refine zc1b (zcn r) fun u zr1 ru=>?_;subst zr1;obtain rfl:u=Value.ref a:=ru;refine zc1c (I.list hl) fun its rv p hz=>?_;have hlt:a<s.heap.objs.size:=by obtain ⟨_,e,_⟩:=p.isList;exact Heap.lt_size e
 have hlen:=rv.length;rw [Zql] at hlen;refine call_any_walk (wpAny_pyIter_list p.isList ⟨_,_,_,_,_,_,fun i=>bs.getD i false,rfl,Walks.list (A:=X.A.in1) (I.ok.hd hc) s.heap.objs.size a (Nat.ne_of_lt hlt) its.toArray,⟨⟨_,Heap.get?_push_size _ rfl,rfl,rfl⟩,p.isList.push _⟩,?_,fun h' tk hk=>?_⟩)
 ·intro i v s' Q' E' hP hQ;have hv:=zjd rv i v hP;subst hv;exact wpAny_of_eq rfl hQ
 ·rw [List.size_toArray,<- hlen,zmC];refine ⟨.bl _,H,I.kept (t':=tk) fun b o e=>hk b o ?_ (Heap.get?_push_of_some _ e),rfl,q⟩;intro hm;have e':=List.mem_singleton.mp hm;rw [e'] at e;exact Nat.lt_irrefl _ (Heap.lt_size e)
theorem zol:OpR X (binaryOp .Add) (fun x y H Q=>∃ a b ys,x=.ref a/\y=.ref b/\SqT X.K H a []/\SqT X.K H b ys/\Q (.ref b) H):=by
 intro pins s σ H x y v u Q I rx ry h;refine zc3a h fun a b ys zz=>zc0e zz fun zr3 zr4 ha hb q=>?_;subst zr3;subst zr4;obtain rfl:v=Value.ref a:=rx;obtain rfl:u=Value.ref b:=ry;refine zc1c (I.tuple ha) fun its r1 p1 _=>?_;refine zc1c (I.tuple hb) fun its2 r2 p2 _=>?_;have e0:its=[]:=r1.nil_iff.mpr rfl;subst e0;refine zc1c (id p1) fun zr0 ho hc zz=>zc1a zz fun n hd=>?_;obtain ⟨cls,dd,data,sl⟩:=zr0;refine zc1c (id p2) fun zr0 ho2 hc2 zz=>zc1a zz fun n2 hd2=>?_;obtain ⟨cls2,dd2,data2,sl2⟩:=zr0;simp only at hc hd hc2 hd2;subst hc hd hc2 hd2;exact concat_meets ⟨_,ho,rfl⟩ ⟨_,ho2,rfl⟩ noFill_tuple_add seq_tuple_add PySem.F.slot_tuple_add PySem.F.entry_tuple_add (PySem.F.args_tuple_add_2 _ _)
  (tuple_addW0 a b #[] its2.toArray n n2 dd dd2 sl sl2 rfl) ⟨ho,ho2,.ref b,H,I,rfl,q⟩
end
end L2
namespace L2.DL
noncomputable def blOf:D->Option Bool
 | .bl i=>some i
 |_=>none
theorem zoE {d:D}{i:Bool}(h:blOf d=some i):d=.bl i:=by
 cases d with
 |bl j=>cases h;rfl
 |_=>exact zqn h
theorem IsDs.bls_iff {K:W.Frag}{H:Hp}:∀ {bs:List Bool} {xs:List V},IsDs K H (bs.map D.bl) xs->xs=bs.map V.bl
 | [],_,h=>IsDs.nil_iff.mp h
 |b::bs,_,h=>by
  rw [List.map_cons,IsDs.cons_iff] at h;obtain ⟨x,r,rfl,h1,h2⟩:=h;rw [IsD.bl_iff.mp h1,IsDs.bls_iff h2];rfl
def zkx:D->Option (List Bool)
 | .lst ds=>zb3 blOf ds
 |_=>none
theorem ziV {K:W.Frag}{H:Hp}{d:D}{ns:List Bool}{v:V}(h:zkx d=some ns)(i:IsD K H d v):∃ a,v=.ref a/\LstD K H a (ns.map V.bl):=by
 cases d with
 |lst ds =>
  rw [IsD.lst_iff] at i;refine zc2c i fun a xs zr2 h1 h2=>?_;subst zr2;rw [zbS (fun _ _=>zoE) (show zb3 blOf ds=some ns from h)] at h2;rw [IsDs.bls_iff h2] at h1;exact ⟨a,rfl,h1⟩
 |_=>exact zqn h
theorem zhq (ns:List Bool):zkx (.lst (ns.map D.bl))=some ns:=by
 have h:=zbQ (f:=blOf) (g:=D.bl) (k:=fun i:Bool=>i) (fun _=>rfl) ns;rw [List.map_id'] at h;exact h
def gSum:List D->Option D
 | [d]=>(zei d).bind fun ns=>some (.int ns.sum)
 |_=>none
def gAll:List D->Option D
 | [d]=>(zkx d).bind fun ns=>some (.bl (ns.all id))
 |_=>none
def gAny:List D->Option D
 | [d]=>(zkx d).bind fun ns=>some (.bl (ns.any id))
 |_=>none
section
variable {X:Cx}{E:XK}{m:Option Bool}{a b o i e f tg:Expr}{fa fb fo fi fv fe:FE}{fr:FA}{pos pos' apos cpos p p2:Pos}{lo hi st:Option Expr}
theorem b_sum (hc:X.calm=true):zat X (.builtin "sum") (rDA X.K gSum):=zat.weak (zk9 hc) fun xs H Q zh=>by
 refine zc3a zh fun F ds z zz=>zc0d zz fun sF id hz q=>?_;unfold gSum at hz
 split at hz
 ·refine zc1b (Option.bind_eq_some_iff.mp hz) fun ns h1 hz=>?_;obtain rfl:=Zqi hz;refine zc1b (zbH id) fun v zr1 h=>?_;subst zr1;refine zc1b (zfr h1 h) fun a zr1 h2=>?_;subst zr1;exact ⟨a,ns,rfl,(h2.same sF).sq,q _ F H (.refl sF) (isI _ F)⟩
 ·exact zqn hz
theorem zns (hc:X.calm=true):zat X (.builtin "all") (rDA X.K gAll):=zat.weak (zmK hc) fun xs H Q zh=>by
 refine zc3a zh fun F ds z zz=>zc0d zz fun sF id hz q=>?_;unfold gAll at hz
 split at hz
 ·refine zc1b (Option.bind_eq_some_iff.mp hz) fun ns h1 hz=>?_;obtain rfl:=Zqi hz;refine zc1b (zbH id) fun v zr1 h=>?_;subst zr1;refine zc1b (ziV h1 h) fun a zr1 h2=>?_;subst zr1;exact ⟨a,ns,rfl,(h2.same sF).sq,q _ F H (.refl sF) (isB _ F)⟩
 ·exact zqn hz
theorem zru (hc:X.calm=true):zat X (.builtin "any") (rDA X.K gAny):=zat.weak (zmg hc) fun xs H Q zh=>by
 refine zc3a zh fun F ds z zz=>zc0d zz fun sF id hz q=>?_;unfold gAny at hz
 split at hz
 ·refine zc1b (Option.bind_eq_some_iff.mp hz) fun ns h1 hz=>?_;obtain rfl:=Zqi hz;refine zc1b (zbH id) fun v zr1 h=>?_;subst zr1;refine zc1b (ziV h1 h) fun a zr1 h2=>?_;subst zr1;exact ⟨a,ns,rfl,(h2.same sF).sq,q _ F H (.refl sF) (isB _ F)⟩
 ·exact zqn hz
noncomputable def zjI:D->D->Option D
 | .tup a,.tup b=>if a.length+b.length<=sizeLine then some (.tup (a++b)) else none
 |_,_=>none
theorem zrr:OpD X (binaryOp .Add) zjI:=by
 rintro pins s σ H x y v u Q I rx ry ⟨F,d,e,z,sF,id,ie,hz,q⟩;cases d with
 |tup a =>
  cases e with
  |tup b =>
   have hz:(if a.length+b.length<=sizeLine then some (D.tup (a++b)) else none)=some z:=hz
   split at hz
   ·rename_i hl;obtain rfl:=Zqi hz;have id':=id;have ie':=ie;rw [IsD.tup_iff] at id ie;refine zc2c id fun la xs zr2 h1 h2=>?_;subst zr2;refine zc2c ie fun lb ys zr2 h3 h4=>?_;subst zr2;have l1:=h2.length;have l2:=h4.length;by_cases x0:xs=[]
    ·subst x0;have ea:a=[]:=List.length_eq_zero_iff.mp (by rw [<- l1];rfl);subst ea;exact zol pins s σ H _ _ v u Q I rx ry ⟨la,lb,ys,rfl,rfl,(h1.same sF).sq,(h3.same sF).sq,q _ F H (.refl sF) ie'⟩
    ·refine zkO pins s σ H _ _ v u Q I rx ry ⟨la,lb,xs,ys,rfl,rfl,(h1.same sF).sq,(h3.same sF).sq,x0,by omega,fun z=>?_,fun _ p hp=>?_⟩
     ·subst z;have eb:b=[]:=List.length_eq_zero_iff.mp (by rw [<- l2];rfl);subst eb;rw [List.append_nil] at q;exact q _ F H (.refl sF) id'
     ·have ea:=Ext.alloc sF hp (.tup (xs++ys));exact q _ _ _ ea (IsD.tup_iff.mpr ⟨p,_,rfl,.of zao,(IsDs.same ea.ff _ _ h2).append (IsDs.same ea.ff _ _ h4)⟩)
   ·exact zqn hz
  |_=>exact zqn hz
 |_=>exact zqn hz
end
@[simp] theorem zsu (ns:List Int):gSum [.lst (ns.map .int)]=some (.int ns.sum):=by
 show (zei _).bind _=_;rw [zdI];rfl
theorem zey (ns:List Bool):gAll [.lst (ns.map .bl)]=some (.bl (ns.all id)):=by
 show (zkx _).bind _=_;rw [zhq];rfl
theorem zje (ns:List Bool):gAny [.lst (ns.map .bl)]=some (.bl (ns.any id)):=by
 show (zkx _).bind _=_;rw [zhq];rfl
theorem znD {a b:List D}(h:a.length+b.length<=1000):zjI (.tup a) (.tup b)=some (.tup (a++b)):=if_pos (zc3 h)
end L2.DL
namespace L2
theorem ziY:bootBuiltins "all" = some (.builtin "all"):=boot_all
theorem zpp:bootBuiltins "any" = some (.builtin "any"):=boot_any
end L2
namespace L2.DL
end L2.DL
namespace L2
section
variable {X:Cx}{pins:List (Addr×Obj)}{σ : St}{H:Hp}{s:Shared}{h':Heap}
end
section
variable {X:Cx}
end
end L2
namespace L2.DL
section
variable {X:Cx}{E:XK}{fr:FA}{p pos tp:Pos}{elts:List Expr}
noncomputable def gInt:List D->Option D
 | [.int i]=>some (.int i)
 | [.bl b]=>some (.int (if b then 1 else 0))
 |_=>none
@[simp] theorem gInt_bl (b:Bool):gInt [.bl b]=some (.int (if b then 1 else 0)):=rfl
noncomputable def IntP (ds:List D)(z:D):Prop:=(∃ i,ds=[.int i]/\z=.int i)\/∃ b,ds=[.bl b]/\z=.int (if b then 1 else 0)
theorem zoB {ds:List D}{z:D}(hz:gInt ds=some z):IntP ds z:=by
 cases ds with
 |nil=>exact zqn hz
 |cons d ds =>
  cases ds with
  |nil =>
   cases d with
   |int i=>exact .inl ⟨_,rfl,(Zqi hz).symm⟩
   |bl b=>exact .inr ⟨_,rfl,(Zqi hz).symm⟩
   |_=>exact zqn hz
  |cons _ _=>cases d<;>exact zqn hz
theorem b_int:zat X (.type "int") (rDA X.K gInt):=zat.weak zkB fun xs H Q zh=>by
 refine zc3a zh fun F ds z zz=>zc0d zz fun sF id hz q=>?_;rcases zoB hz with ⟨i,rfl,rfl⟩|⟨b,rfl,rfl⟩
 ·refine zc1b (zbH id) fun v zr1 h=>?_;subst zr1;exact .inl ⟨_,by rw [IsD.int_iff.mp h],q _ F H (.refl sF) (isI _ F)⟩
 ·refine zc1b (zbH id) fun v zr1 h=>?_;subst zr1;exact .inr ⟨_,by rw [IsD.bl_iff.mp h],q _ F H (.refl sF) (isI _ F)⟩
end
end L2.DL
namespace L2.ST
open PySem
noncomputable def itF:Nat->Nat->Nat
 | 0,z=>z
 |n+1,z=>itF n (5*z+1)
theorem zk8 (a b z:Nat):itF (a+b) z=itF b (itF a z):=by
 induction a generalizing z with
 |zero=>rw [Nat.zero_add];rfl
 |succ a ih=>rw [Nat.succ_add];exact ih _
theorem zmO (n z d:Nat):itF n (z+d)=itF n z+5 ^ n*d:=by
 induction n generalizing z d with
 |zero=>simp [itF]
 |succ n ih =>
  show itF n (5*(z+d)+1)=itF n (5*z+1)+5 ^ (n+1)*d;have e:5*(z+d)+1=(5*z+1)+5*d:=by omega
  rw [e,ih,Nat.pow_succ,Nat.mul_assoc]
theorem pow5 (n:Nat):5 ^ n % 4=1:=by
 induction n with
 |zero=>rfl
 |succ n ih=>rw [Nat.pow_succ];omega
theorem zla (k z:Nat):∃ u,itF (2 ^ k) z=z+2 ^ k*(2*u+1):=by
 induction k generalizing z with
 |zero=>exact ⟨2*z,by show 5*z+1=z+1*(2*(2*z)+1);omega⟩
 |succ k ih =>
  obtain ⟨u,hu⟩:=ih z;have e:2 ^ (k+1)=2 ^ k+2 ^ k:=by rw [Nat.pow_succ];omega
  rw [e,zk8,hu,zmO,hu];have h5:=pow5 (2 ^ k);obtain ⟨v,hv⟩:∃ v,5 ^ (2 ^ k)=4*v+1:=⟨5 ^ (2 ^ k) / 4,by omega⟩;rw [hv];generalize 2 ^ k=m;refine ⟨2*u*(2*v+1) / 2+v,?_⟩;have:2*u*(2*v+1) / 2=u*(2*v+1):=by rw [Nat.mul_assoc,Nat.mul_div_cancel_left _ (by omega)]
  rw [this]
  grind
theorem zqF (m n z:Nat):itF n z % m=itF n (z % m) % m:=by
 have h:=zmO n (z % m) (m*(z / m));rw [Nat.mod_add_div] at h;rw [h,<- Nat.mul_assoc,Nat.mul_comm _ m,Nat.mul_assoc,Nat.add_mul_mod_self_left]
theorem zeU:∀ (k x y:Nat),y<2 ^ k->∃ q,q<2 ^ k/\itF q x % 2 ^ k=y
 | 0,x,y,h=>⟨0,by decide,by rw [Nat.pow_zero] at *;omega⟩
 |k+1,x,y,h=>by
  have e:2 ^ (k+1)=2*2 ^ k:=by rw [Nat.pow_succ];omega
  have hp:0<2 ^ k:=Nat.two_pow_pos k;refine zc1b (zeU k x (y % 2 ^ k) (Nat.mod_lt _ hp)) fun q hq hm=>?_;rw [e] at h ⊢;by_cases c:itF q x % (2*2 ^ k)=y
  ·exact ⟨q,by omega,c⟩
  ·refine ⟨q+2 ^ k,by omega,?_⟩;rw [zk8];obtain ⟨u,hu⟩:=zla k (itF q x);rw [hu];generalize itF q x=w at *;generalize 2 ^ k=m at *;have e2:w+m*(2*u+1)=(w+m)+(2*m)*u:=by grind
   rw [e2,Nat.add_mul_mod_self_left];have d1:=Nat.div_add_mod w m;have d2:=Nat.div_add_mod y m;have d3:=Nat.div_add_mod w (2*m);have l3:=Nat.mod_lt w (show 0<2*m by omega);rw [hm] at d1;have r3:w % (2*m) % m=y % m:=by rw [Nat.mod_mul_left_mod];exact hm
   have a1:w % (2*m)<m\/m<=w % (2*m):=by omega
   have a2:y<m\/m<=y:=by omega
   have s1:∀ t,t<2*m->m<=t->t % m=t-m:=fun t h1 h2=>by
    rw [Nat.mod_eq_sub_mod h2,Nat.mod_eq_of_lt (by omega)]
   rw [Nat.add_mod,Nat.mod_eq_of_lt (show m<2*m by omega)];generalize w % (2*m)=t at *;rcases a1 with a1|a1<;>rcases a2 with a2|a2
   ·rw [Nat.mod_eq_of_lt a1,Nat.mod_eq_of_lt a2] at r3;exact absurd r3 c
   ·rw [Nat.mod_eq_of_lt a1,s1 y h a2] at r3;rw [Nat.mod_eq_of_lt (by omega)];omega
   ·rw [Nat.mod_eq_of_lt a2,s1 t l3 a1] at r3;rw [Nat.mod_eq_sub_mod (by omega),Nat.mod_eq_of_lt (by omega)];omega
   ·rw [s1 t l3 a1,s1 y h a2] at r3;exact absurd (by omega) c
noncomputable def za2 (t:SetTable):Nat->SetTable.Probe->SetTable.Probe
 | 0,p=>p
 |n+1,p=>za2 t n (t.advance p)
theorem zcy (t:SetTable)(a b:Nat)(p:SetTable.Probe):za2 t (a+b) p=za2 t b (za2 t a p):=by
 induction a generalizing p with
 |zero=>rw [Nat.zero_add];rfl
 |succ a ih=>rw [Nat.succ_add];exact ih _
theorem zjQ (t:SetTable)(n:Nat)(p:SetTable.Probe):za2 t (n+1) p=t.advance (za2 t n p):=zcy t n 1 p
noncomputable def zdR (mask i pert:Nat):SetTable.Probe:={ j:=i,more:=SetTable.runEnd mask i-i,i:=i,perturb:=pert,dummy:=none }
noncomputable def runs (mask:Nat):Nat->Nat×Nat->Nat×Nat
 | 0,s=>s
 |n+1,s=>runs mask n (SetTable.leap mask s.1 s.2)
theorem zqA (mask i:Nat):SetTable.runEnd mask i-i<=9:=by
 unfold SetTable.runEnd
 split<;>omega
theorem zlN (t:SetTable)(m:Nat):∀ (p:SetTable.Probe),p.more=m->p.dummy=none->za2 t (m+1) p=zdR t.mask (SetTable.leap t.mask p.i p.perturb).1 (SetTable.leap t.mask p.i p.perturb).2:=by
 induction m with
 |zero =>
  intro p hm hd;show t.advance p=_;unfold SetTable.advance;rw [if_neg (by omega)];unfold zdR;rw [hd]
 |succ m ih =>
  intro p hm hd;have h:=ih { p with j:=p.j+1,more:=p.more-1 } (by show p.more-1=m;omega) hd;show za2 t (m+1) (t.advance p)=_;have ha:t.advance p={ p with j:=p.j+1,more:=p.more-1 }:=by
   unfold SetTable.advance;rw [if_pos (by omega)]
  rw [ha,h]
theorem zoQ (t:SetTable):∀ (r i pert:Nat),∃ n,n<=10*r/\za2 t n (zdR t.mask i pert)=zdR t.mask (runs t.mask r (i,pert)).1 (runs t.mask r (i,pert)).2
 | 0,i,pert=>⟨0,Nat.le_refl _,rfl⟩
 |r+1,i,pert=>by
  have h1:=zlN t (SetTable.runEnd t.mask i-i) (zdR t.mask i pert) rfl rfl;refine zc1b (zoQ t r (SetTable.leap t.mask i pert).1 (SetTable.leap t.mask i pert).2) fun n hn h2=>?_;have hl:=zqA t.mask i;refine ⟨(SetTable.runEnd t.mask i-i+1)+n,by omega,?_⟩;rw [zcy,h1];exact h2
theorem ziD (mask a b:Nat)(s:Nat×Nat):runs mask (a+b) s=runs mask b (runs mask a s):=by
 induction a generalizing s with
 |zero=>rw [Nat.zero_add];rfl
 |succ a ih=>rw [Nat.succ_add];exact ih _
theorem zft (mask:Nat):∀ (r:Nat) (s:Nat×Nat),(runs mask r s).2=s.2 / 32 ^ r
 | 0,s=>by show s.2=_;rw [Nat.pow_zero,Nat.div_one]
 |r+1,s=>by
  show (runs mask r (SetTable.leap mask s.1 s.2)).2=_;rw [zft mask r];show s.2 / 32 / 32 ^ r=_;rw [Nat.div_div_eq_div_mul,Nat.pow_succ,Nat.mul_comm 32]
theorem ze4 (mask:Nat):∀ (r i:Nat),i<mask+1->runs mask r (i,0)=(itF r i % (mask+1),0)
 | 0,i,h=>by
  show (i,0)=(i % (mask+1),0);rw [Nat.mod_eq_of_lt h]
 |r+1,i,h=>by
  show runs mask r ((i*5+1+0 / 32) % (mask+1),0 / 32)=(itF r (5*i+1) % (mask+1),0);rw [Nat.zero_div,Nat.add_zero,ze4 mask r _ (Nat.mod_lt _ (by omega)),<- zqF,Nat.mul_comm i 5]
theorem zlf (mask r:Nat)(s:Nat×Nat)(h:s.1<mask+1):(runs mask r s).1<mask+1:=by
 induction r generalizing s with
 |zero=>exact h
 |succ r ih=>exact ih _ (Nat.mod_lt _ (by omega))
theorem cover {t:SetTable}{k:Nat}(hk:t.mask+1=2 ^ k)(h:Int){y:Nat}(hy:y<=t.mask):∃ n,n<10*SetTable.turns t.mask/\(za2 t n (t.probeStart h)).j=y:=by
 have hs:t.probeStart h=zdR t.mask (SetTable.bits h % (t.mask+1)) (SetTable.bits h):=rfl;have hb:SetTable.bits h<2 ^ 64:=by
  unfold SetTable.bits;have:=Int.emod_lt_of_pos h (show (0:Int)<2 ^ 64 by decide);have:=Int.emod_nonneg h (show (2 ^ 64:Int)≠0 by decide);omega
 have hl:=zlf t.mask 13 (SetTable.bits h % (t.mask+1),SetTable.bits h) (Nat.mod_lt _ (by omega));have hp:(runs t.mask 13 (SetTable.bits h % (t.mask+1),SetTable.bits h)).2=0:=by
  rw [zft];exact Nat.div_eq_of_lt (Nat.lt_of_lt_of_le hb (by decide))
 refine zc1b (zeU k (runs t.mask 13 (SetTable.bits h % (t.mask+1),SetTable.bits h)).1 y (by omega)) fun q hq e=>?_;have hr:runs t.mask (13+q) (SetTable.bits h % (t.mask+1),SetTable.bits h)=(y,0):=by
  rw [ziD];generalize hR:runs t.mask 13 (SetTable.bits h % (t.mask+1),SetTable.bits h)=s at *;obtain ⟨s1,s2⟩:=s;simp only at hp hl e;rw [hp,ze4 t.mask q s1 hl,hk,e]
 refine zc1b (zoQ t (13+q) (SetTable.bits h % (t.mask+1)) (SetTable.bits h)) fun n hn e2=>?_;refine ⟨n,by unfold SetTable.turns;omega,?_⟩;rw [hs,e2,hr];rfl
theorem zhl {t:SetTable}{p:SetTable.Probe}(h:p.dummy=none):(t.advance p).dummy=none:=by
 unfold SetTable.advance
 split
 ·exact h
 ·exact h
theorem zkv {t:SetTable}{p:SetTable.Probe}(h:p.dummy=none)(n:Nat):(za2 t n p).dummy=none:=by
 induction n generalizing p with
 |zero=>exact h
 |succ n ih=>exact ih (zhl h)
theorem ziL {t:SetTable}{hashAt:Nat->Int}{h:Int}:∀ (k fuel:Nat) (p:SetTable.Probe),k<fuel->p.dummy=none->(∀ m,m<k->∃ i,t.slot (za2 t m p).j=.live i)->t.slot (za2 t k p).j=.empty ->
 (∃ m i,m<k/\t.slot (za2 t m p).j=.live i/\hashAt i=h/\SetTable.probe.go t hashAt h fuel p=some (.candidate (za2 t m p).j i (za2 t (m+1) p))/\∀ m' i',m'<m->t.slot (za2 t m' p).j=.live i'->hashAt i'≠h) \/
 (SetTable.probe.go t hashAt h fuel p=some (.empty (za2 t k p).j none)/\∀ m' i',m'<k->t.slot (za2 t m' p).j=.live i'->hashAt i'≠h)
 | 0,0,p,hf,_,_,_=>absurd hf (Nat.lt_irrefl _)
 | 0,fuel+1,p,_,hd,_,he=>by
  have he:t.slot p.j=.empty:=he;refine .inr ⟨?_,fun m' i' hm=>absurd hm (Nat.not_lt_zero _)⟩;unfold SetTable.probe.go;rw [he];show some (SetTable.Met.empty p.j p.dummy)=_;rw [hd];rfl
 |k+1,0,p,hf,_,_,_=>absurd hf (Nat.not_lt_zero _)
 |k+1,fuel+1,p,hf,hd,hl,he=>by
  obtain ⟨i,hi⟩:=hl 0 (Nat.succ_pos _);have hi:t.slot p.j=.live i:=hi;by_cases c:hashAt i=h
  ·refine .inl ⟨0,i,Nat.succ_pos _,hi,c,?_,fun m' i' hm=>absurd hm (Nat.not_lt_zero _)⟩;unfold SetTable.probe.go;rw [hi];show (if (hashAt i == h)=true then _ else _)=_;rw [if_pos (by rw [c];exact beq_self_eq_true h)];rfl
  ·have hg:SetTable.probe.go t hashAt h (fuel+1) p=SetTable.probe.go t hashAt h fuel (t.advance p):=by
    rw [SetTable.probe.go];rw [hi];show (if (hashAt i == h)=true then _ else _)=_;rw [if_neg (by simpa using c)]
   rcases ziL (hashAt:=hashAt) (h:=h) k fuel (t.advance p) (by omega) (zhl hd) (fun m hm=>hl (m+1) (by omega)) he with ⟨m,i2,h1,h2,h3,h4,h5⟩|⟨h1,h2⟩
   ·refine .inl ⟨m+1,i2,by omega,h2,h3,by rw [hg];exact h4,fun m' i' hm hs=>?_⟩;cases m' with
    |zero =>
     have hs:t.slot p.j=.live i':=hs;rw [hi] at hs;cases hs;exact c
    |succ m'=>exact h5 m' i' (by omega) hs
   ·refine .inr ⟨by rw [hg];exact h1,fun m' i' hm hs=>?_⟩;cases m' with
    |zero =>
     have hs:t.slot p.j=.live i':=hs;rw [hi] at hs;cases hs;exact c
    |succ m'=>exact h2 m' i' (by omega) hs
open PySem
noncomputable def UpA (xs:Array Nat):Prop:=∀ i j,i<j->j<xs.size->xs.getD i 0<xs.getD j 0
theorem zaU {α : Type}{xs:Array α}{i:Nat}(h:i<xs.size)(d:α):xs.getD i d=xs[i]:=by
 unfold Array.getD;rw [dif_pos h];rfl
theorem zg6 {xs:Array Nat}{j:Nat}(u:UpA xs):∀ (fuel lo hi:Nat),hi-lo<=fuel->lo<=hi->hi<=xs.size->(∀ i,i<lo->xs.getD i 0<j)->(∀ i,hi<=i->i<xs.size->j<=xs.getD i 0) ->
 SetTable.below.go xs j fuel lo hi<=xs.size/\(∀ i,i<SetTable.below.go xs j fuel lo hi->xs.getD i 0<j)/\∀ i,SetTable.below.go xs j fuel lo hi<=i->i<xs.size->j<=xs.getD i 0
 | 0,lo,hi,hf,hl,hs,h1,h2=>by
  have e:lo=hi:=by omega
  subst e;unfold SetTable.below.go;exact ⟨hs,h1,h2⟩
 |fuel+1,lo,hi,hf,hl,hs,h1,h2=>by
  unfold SetTable.below.go;by_cases c:lo<hi
  ·rw [if_pos c];refine zc1e (zoR (k:=fuel+1) (x:=0) c hf) fun m e m1 m2 m3 m4=>?_;have hm:m<xs.size:=Nat.lt_of_lt_of_le m2 hs;have em:xs.getD m j=xs.getD m 0:=by rw [zaU hm,zaU hm]
   show (if xs.getD ((lo+hi) / 2) j<j then _ else _)<=xs.size/\(∀ i,i<(if xs.getD ((lo+hi) / 2) j<j then _ else _)->_)/\∀ i,(if xs.getD ((lo+hi) / 2) j<j then _ else _)<=i->_;rw [e];by_cases d:xs.getD m j<j
   ·rw [if_pos d];rw [em] at d;refine zg6 u fuel (m+1) hi m4 m2 hs (fun i hi'=>?_) h2;by_cases q:i=m
    ·rw [q];exact d
    ·exact Nat.lt_trans (u i m (Nat.lt_of_le_of_ne (Nat.le_of_lt_succ hi') q) hm) d
   ·rw [if_neg d];rw [em] at d;refine zg6 u fuel lo m m3 m1 (Nat.le_of_lt hm) h1 fun i hi' hs'=>?_;by_cases q:i=m
    ·rw [q];exact Nat.le_of_not_lt d
    ·exact Nat.le_of_lt (Nat.lt_of_le_of_lt (Nat.le_of_not_lt d) (u m i (Nat.lt_of_le_of_ne hi' (Ne.symm q)) hs'))
  ·rw [if_neg c];have e:lo=hi:=by omega
   subst e;exact ⟨hs,h1,h2⟩
theorem zeq {xs:Array Nat}(u:UpA xs)(j:Nat):SetTable.below xs j<=xs.size/\(∀ i,i<SetTable.below xs j->xs.getD i 0<j)/\∀ i,SetTable.below xs j<=i->i<xs.size->j<=xs.getD i 0 :=
 zg6 u xs.size 0 xs.size (by omega) (by omega) (Nat.le_refl _) (fun i h=>absurd h (Nat.not_lt_zero _)) fun i h1 h2=>by omega
theorem zor {xs:Array Nat}(u:UpA xs){i:Nat}(hi:i<xs.size):SetTable.below xs (xs.getD i 0)=i:=by
 refine zc0c (zeq u (xs.getD i 0)) fun h1 h2 h3=>?_;generalize SetTable.below xs (xs.getD i 0)=p at *;rcases Nat.lt_trichotomy p i with q|q|q
 ·have a:=u p i q hi;have b:=h3 p (Nat.le_refl _) (by omega);omega
 ·exact q
 ·have:=h2 i q;omega
noncomputable def occ (t:SetTable)(j:Nat):Prop:=∃ i,i<t.place.size/\t.place.getD i 0=j
theorem ziR (j:Nat):SetTable.has #[] j=false:=rfl
theorem zgX {t:SetTable}(u:UpA t.place){i j:Nat}(hi:i<t.place.size)(e:t.place.getD i 0=j):t.slot j=.live i:=by
 unfold SetTable.slot;have hb:SetTable.below t.place j=i:=by rw [<- e];exact zor u hi
 show (if (t.place[SetTable.below t.place j]? == some j)=true then SetTable.Slot.live (SetTable.below t.place j) else _)=_;rw [hb];have hg:t.place[i]? = some j:=by
  rw [Array.getElem?_eq_getElem hi,<- e,zaU hi]
 rw [hg,if_pos (beq_self_eq_true _)]
theorem zjZ {t:SetTable}(hd:t.dummies = #[]){j:Nat}(h:¬ occ t j):t.slot j=.empty:=by
 unfold SetTable.slot;show (if (t.place[SetTable.below t.place j]? == some j)=true then _ else _)=_;have hn:¬ (t.place[SetTable.below t.place j]? == some j)=true:=by
  intro z;have z:t.place[SetTable.below t.place j]? = some j:=by simpa using z
  obtain ⟨h1,h2⟩:=Array.getElem?_eq_some_iff.mp z;exact h ⟨_,h1,by rw [zaU h1];exact h2⟩
 rw [if_neg hn,hd,ziR];rfl
theorem znl {t:SetTable}(u:UpA t.place){j:Nat}(h:occ t j):∃ i,t.slot j=.live i/\i<t.place.size/\t.place.getD i 0=j:=by
 refine zc1b h fun i hi e=>?_;exact ⟨i,zgX u hi e,hi,e⟩
theorem zmh {t t':SetTable}(h:t.mask=t'.mask)(p:SetTable.Probe):t.advance p=t'.advance p:=by
 unfold SetTable.advance;rw [h]
theorem zfQ {t t':SetTable}(h:t.mask=t'.mask)(n:Nat)(p:SetTable.Probe):za2 t n p=za2 t' n p:=by
 induction n generalizing p with
 |zero=>rfl
 |succ n ih=>show za2 t n (t.advance p)=za2 t' n (t'.advance p);rw [zmh h,ih]
theorem zeA {t t':SetTable}(h:t.mask=t'.mask)(x:Int):t.probeStart x=t'.probeStart x:=by
 unfold SetTable.probeStart;rw [h]
def Way (t:SetTable)(o:Nat->Prop)(x:Int)(y:Nat):Prop:=∃ n,(za2 t n (t.probeStart x)).j=y/\∀ m,m<n->o (za2 t m (t.probeStart x)).j
theorem Way.mono {t t':SetTable}{o o':Nat->Prop}{x:Int}{y:Nat}(h:Way t o x y)(hm:t.mask=t'.mask)(ho:∀ j,o j->o' j):Way t' o' x y:=by
 refine zc1b h fun n h1 h2=>?_;refine ⟨n,?_,fun m hm'=>?_⟩
 ·rw [<- zfQ hm,<- zeA hm];exact h1
 ·rw [<- zfQ hm,<- zeA hm];exact ho _ (h2 m hm')
structure TabOk (t:SetTable)(hs:Array Int):Prop where
 size:t.place.size=hs.size
 up:UpA t.place
 le:∀ i,i<t.place.size->t.place.getD i 0<=t.mask
 nod:t.dummies = #[]
 pow:∃ k,t.mask+1=2 ^ k
 room:t.place.size<=t.mask
 ways:∀ i,i<t.place.size->Way t (occ t) (hs.getD i 0) (t.place.getD i 0)
theorem zpu {xs:Array Nat}(u:UpA xs){m:Nat}(hs:xs.size<=m):∃ y,y<=m/\∀ i,i<xs.size->xs.getD i 0≠y:=by
 by_cases h:∀ i,i<xs.size->xs.getD i 0=i
 ·exact ⟨m,Nat.le_refl _,fun i hi e=>by have:=h i hi;omega⟩
 ·obtain ⟨i,hi,hne,hmin⟩:∃ i,i<xs.size/\xs.getD i 0≠i/\∀ k,k<i->xs.getD k 0=k:=by
   have key:∀ n,n<=xs.size->(∀ k,k<n->xs.getD k 0=k)\/∃ i,i<xs.size/\xs.getD i 0≠i/\∀ k,k<i->xs.getD k 0=k:=by
    intro n
    induction n with
    |zero=>intro _;exact .inl fun k hk=>absurd hk (Nat.not_lt_zero _)
    |succ n ih =>
     intro hn;rcases ih (by omega) with q|q
     ·by_cases c:xs.getD n 0=n
      ·refine .inl fun k hk=>?_;by_cases e:k=n
       ·rw [e];exact c
       ·exact q k (by omega)
      ·exact .inr ⟨n,by omega,c,q⟩
     ·exact .inr q
   rcases key xs.size (Nat.le_refl _) with q|q
   ·exact absurd q h
   ·exact q
  refine ⟨i,by omega,fun k hk e=>?_⟩;rcases Nat.lt_trichotomy k i with q|q|q
  ·have:=hmin k q;omega
  ·subst q;exact hne e
  ·have a:=u i k q hk;have b:i<=xs.getD i 0:=by
    cases i with
    |zero=>exact Nat.zero_le _
    |succ i =>
     have:=u i (i+1) (by omega) hi;have:=hmin i (by omega);omega
   omega
theorem zjH {t:SetTable}{hs:Array Int}(T:TabOk t hs)(x:Int):∃ n,n<10*SetTable.turns t.mask/\(∀ m,m<n->occ t (za2 t m (t.probeStart x)).j)/\¬ occ t (za2 t n (t.probeStart x)).j:=by
 obtain ⟨k,hk⟩:=T.pow;refine zc1b (zpu T.up T.room) fun y hy hf=>?_;refine zc1b (cover hk x hy) fun n hn e=>?_;have hno:¬ occ t (za2 t n (t.probeStart x)).j:=by
  rw [e];rintro ⟨i,hi,q⟩;exact hf i hi q
 have key:∀ d n,n<=d->n<10*SetTable.turns t.mask->¬ occ t (za2 t n (t.probeStart x)).j->∃ n,n<10*SetTable.turns t.mask/\(∀ m,m<n->occ t (za2 t m (t.probeStart x)).j)/\¬ occ t (za2 t n (t.probeStart x)).j:=by
  intro d
  induction d with
  |zero =>
   intro n hd hn hno;have:n=0:=by omega
   subst this;exact ⟨0,hn,fun m hm=>absurd hm (Nat.not_lt_zero _),hno⟩
  |succ d ih =>
   intro n hd hn hno;by_cases c:∀ m,m<n->occ t (za2 t m (t.probeStart x)).j
   ·exact ⟨n,hn,c,hno⟩
   ·obtain ⟨m,hm⟩:=Classical.not_forall.mp c;obtain ⟨h1,h2⟩:=Classical.not_imp.mp hm;exact ih m (by omega) (by omega) h2
 exact key n n (Nat.le_refl _) hn hno
theorem zck {α : Type}(xs:Array α){p:Nat}(hp:p<=xs.size)(x:α):(SetTable.insertAt xs p x).size=xs.size+1:=by
 unfold SetTable.insertAt;simp;omega
theorem zeg {α : Type}(xs:Array α){p:Nat}(hp:p<=xs.size)(x d:α)(i:Nat):(SetTable.insertAt xs p x).getD i d=if i<p then xs.getD i d else if i=p then x else xs.getD (i-1) d:=by
 unfold SetTable.insertAt;simp only [Array.getD_eq_getD_getElem?];rw [Array.getElem?_append,Array.getElem?_push,Array.getElem?_extract,Array.getElem?_extract];simp only [Array.size_push,Array.size_extract];have e:min p xs.size-0=p:=by omega
 rw [e];rcases Nat.lt_trichotomy i p with c|c|c
 ·have a:i<p+1:=by omega
  have b:¬ i=p:=by omega
  simp only [a,b,c,if_true,if_false];simp
 ·subst c;have a:¬ i<i:=Nat.lt_irrefl _;simp only [Nat.lt_succ_self,a,if_true,if_false];rfl
 ·have a:¬ i<p+1:=by omega
  have b:¬ i<p:=by omega
  have b2:¬ i=p:=by omega
  simp only [a,b,b2,if_false];have ei:p+(i-(p+1))=i-1:=by omega
  rw [ei];by_cases c3:i-1<xs.size
  ·rw [if_pos (by simp only [Nat.min_self];omega)]
  ·rw [if_neg (by simp only [Nat.min_self];omega),Array.getElem?_eq_none (by omega)]
theorem zsl {t:SetTable}{hs:Array Int}(T:TabOk t hs){x:Int}{y:Nat}(hy:y<=t.mask)(hf:¬ occ t y)(hw:Way t (occ t) x y)(hr:t.place.size+1<=t.mask):TabOk (t.put y).1 (SetTable.insertAt hs (t.put y).2 x)/\(t.put y).2<=hs.size/\(t.put y).1.mask=t.mask:=by
 refine zc0c (zeq T.up y) fun b1 b2 b3=>?_;have hp:(t.put y).2=SetTable.below t.place y:=rfl;have hpl:(t.put y).1.place=SetTable.insertAt t.place (SetTable.below t.place y) y:=rfl;have hmk:(t.put y).1.mask=t.mask:=rfl;have hdm:(t.put y).1.dummies = #[]:=by
  show (if SetTable.has t.dummies y then SetTable.eraseAt t.dummies (SetTable.below t.dummies y) else t.dummies)=_;rw [T.nod,ziR];rfl
 rw [hp];have b4:∀ i,SetTable.below t.place y<=i->i<t.place.size->y<t.place.getD i 0:=fun i h1 h2=>by
  have:=b3 i h1 h2;have:t.place.getD i 0≠y:=fun z=>hf ⟨i,h2,z⟩;omega
 generalize SetTable.below t.place y=p at *;have sz:(SetTable.insertAt t.place p y).size=t.place.size+1:=zck _ b1 _;have gp:=zeg t.place b1 y 0;have oc:∀ j,occ t j->occ (t.put y).1 j:=by
  rintro j ⟨i,hi,e⟩;by_cases c:i<p
  ·exact ⟨i,by rw [hpl,sz];omega,by rw [hpl,gp,if_pos c];exact e⟩
  ·exact ⟨i+1,by rw [hpl,sz];omega,by rw [hpl,gp,if_neg (by omega),if_neg (by omega),Nat.add_sub_cancel];exact e⟩
 have hsz:=T.size;refine ⟨⟨?_,?_,?_,hdm,by rw [hmk];exact T.pow,by rw [hpl,sz,hmk];exact hr,?_⟩,by omega,hmk⟩
 ·rw [hpl,sz,zck _ (by omega)];omega
 ·intro i j hij hj;rw [hpl] at hj ⊢;rw [sz] at hj;rw [gp,gp];by_cases c1:j<p
  ·rw [if_pos c1,if_pos (by omega)];exact T.up i j hij (by omega)
  ·rw [if_neg c1];by_cases c2:j=p
   ·rw [if_pos c2,if_pos (by omega)];exact b2 i (by omega)
   ·rw [if_neg c2];by_cases c3:i<p
    ·rw [if_pos c3];exact T.up i (j-1) (by omega) (by omega)
    ·rw [if_neg c3];by_cases c4:i=p
     ·rw [if_pos c4];exact b4 (j-1) (by omega) (by omega)
     ·rw [if_neg c4];exact T.up (i-1) (j-1) (by omega) (by omega)
 ·intro i hi;rw [hpl] at hi ⊢;rw [sz] at hi;rw [gp,hmk]
  split
  ·exact T.le i (by omega)
  ·split
   ·exact hy
   ·exact T.le (i-1) (by omega)
 ·intro i hi;rw [hpl] at hi ⊢;rw [sz] at hi;rw [gp,zeg hs (by omega) x 0];by_cases c1:i<p
  ·rw [if_pos c1,if_pos c1];exact (T.ways i (by omega)).mono hmk.symm oc
  ·rw [if_neg c1,if_neg c1];by_cases c2:i=p
   ·rw [if_pos c2,if_pos c2];exact hw.mono hmk.symm oc
   ·rw [if_neg c2,if_neg c2];exact (T.ways (i-1) (by omega)).mono hmk.symm oc
open PySem
theorem ziX (t:SetTable)(i pert:Nat):∀ k,k<=SetTable.runEnd t.mask i-i->za2 t k (zdR t.mask i pert)={ j:=i+k,more:=SetTable.runEnd t.mask i-i-k,i:=i,perturb:=pert,dummy:=none }
 | 0,_=>rfl
 |k+1,h=>by
  rw [zjQ,ziX t i pert k (by omega)];unfold SetTable.advance;rw [if_pos (by show SetTable.runEnd t.mask i-i-k > 0;omega)];show SetTable.Probe.mk (i+k+1) (SetTable.runEnd t.mask i-i-k-1) i pert none=_
  congr 1
theorem zeH {mask i:Nat}(h:i<=mask):i<=SetTable.runEnd mask i/\SetTable.runEnd mask i<=mask:=by
 unfold SetTable.runEnd
 split<;>omega
noncomputable def occO (owner:Array (Option Nat))(j:Nat):Prop:=∃ i,owner.getD j none=some i
theorem zhx {t:SetTable}{owner:Array (Option Nat)}(hs:owner.size=t.mask+1):∀ (fuel i pert y:Nat),i<=t.mask->SetTable.layClean.free t.mask owner fuel i pert=some y ->
 y<=t.mask/\owner.getD y none=none/\∃ n,(za2 t n (zdR t.mask i pert)).j=y/\∀ m,m<n->occO owner (za2 t m (zdR t.mask i pert)).j
 | 0,i,pert,y,_,h=>by unfold SetTable.layClean.free at h;exact zqn h
 |fuel+1,i,pert,y,hi,h=>by
  have hr:=zeH hi;unfold SetTable.layClean.free at h;have inb:∀ k,k<SetTable.runEnd t.mask i+1-i->owner.getD (i+k) (some 0)=owner.getD (i+k) none:=fun k hk=>by
   rw [zaU (by omega),zaU (by omega)]
  have bz:∀ k,k<SetTable.runEnd t.mask i+1-i->(!(owner.getD (i+k) (some 0)).isNone)=true->occO owner (i+k):=fun k hk hb=>by
   rw [inb k hk] at hb;unfold occO;cases q:owner.getD (i+k) none with
   |none=>rw [q] at hb;exact zqb hb
   |some v=>exact ⟨v,rfl⟩
  split at h
  ·rename_i k hk;obtain ⟨h1,h2,h3⟩:=List.find?_range_eq_some.mp hk;have h2:=List.mem_range.mp h2;obtain rfl:=Zqi h;refine ⟨by omega,?_,k,?_,fun m hm=>?_⟩
   ·rw [inb k h2] at h1;cases q:owner.getD (i+k) none with
    |none=>rfl
    |some v=>rw [q] at h1;exact zqb h1
   ·rw [ziX t i pert k (by omega)]
   ·rw [ziX t i pert m (by omega)];exact bz m (by omega) (h3 m hm)
  ·rename_i hk;have h3:=List.find?_range_eq_none.mp hk;have hl:(SetTable.leap t.mask i pert).1<=t.mask:=Nat.lt_succ_iff.mp (Nat.mod_lt _ (Nat.succ_pos _));obtain ⟨g1,g2,n,g3,g4⟩:=zhx hs fuel _ _ y hl h;have he:=zlN t (SetTable.runEnd t.mask i-i) (zdR t.mask i pert) rfl rfl;have he:za2 t (SetTable.runEnd t.mask i-i+1) (zdR t.mask i pert)=zdR t.mask (SetTable.leap t.mask i pert).1 (SetTable.leap t.mask i pert).2:=he;refine ⟨g1,g2,SetTable.runEnd t.mask i-i+1+n,by rw [zcy,he];exact g3,fun m hm=>?_⟩;by_cases c:m<=SetTable.runEnd t.mask i-i
   ·rw [ziX t i pert m c];exact bz m (by omega) (h3 m (by omega))
   ·obtain ⟨m',rfl⟩:∃ m',m=SetTable.runEnd t.mask i-i+1+m':=⟨m-(SetTable.runEnd t.mask i-i+1),by omega⟩;rw [zcy,he];exact g4 m' (by omega)
theorem zhz {mask:Nat}{owner:Array (Option Nat)}(hs:owner.size=mask+1):∀ (fuel i pert:Nat),i<=mask->SetTable.layClean.free mask owner fuel i pert=none->∀ r,r<fuel->occO owner (runs mask r (i,pert)).1
 | 0,i,pert,_,_,r,hr=>absurd hr (Nat.not_lt_zero _)
 |fuel+1,i,pert,hi,h,r,hr=>by
  have hre:=zeH hi;unfold SetTable.layClean.free at h
  split at h
  ·cases h
  ·rename_i hk;have h3:=List.find?_range_eq_none.mp hk;have hl:(SetTable.leap mask i pert).1<=mask:=Nat.lt_succ_iff.mp (Nat.mod_lt _ (Nat.succ_pos _));cases r with
   |zero =>
    have h0:=h3 0 (by omega);have e:owner.getD (i+0) (some 0)=owner.getD i none:=by rw [Nat.add_zero,zaU (by omega),zaU (by omega)]
    rw [e] at h0;show occO owner i;unfold occO;cases q:owner.getD i none with
    |none=>rw [q] at h0;exact zqb h0
    |some v=>exact ⟨v,rfl⟩
   |succ r=>exact zhz hs fuel _ _ hl h r (by omega)
theorem zlL {mask k:Nat}(hk:mask+1=2 ^ k)(h:Int){y:Nat}(hy:y<=mask):∃ r,r<SetTable.turns mask/\(runs mask r (SetTable.bits h % (mask+1),SetTable.bits h)).1=y:=by
 have hb:SetTable.bits h<2 ^ 64:=by
  unfold SetTable.bits;have:=Int.emod_lt_of_pos h (show (0:Int)<2 ^ 64 by decide);have:=Int.emod_nonneg h (show (2 ^ 64:Int)≠0 by decide);omega
 have hl:=zlf mask 13 (SetTable.bits h % (mask+1),SetTable.bits h) (Nat.mod_lt _ (by omega));have hp:(runs mask 13 (SetTable.bits h % (mask+1),SetTable.bits h)).2=0:=by
  rw [zft];exact Nat.div_eq_of_lt (Nat.lt_of_lt_of_le hb (by decide))
 refine zc1b (zeU k (runs mask 13 (SetTable.bits h % (mask+1),SetTable.bits h)).1 y (by omega)) fun q hq e=>?_;refine ⟨13+q,by unfold SetTable.turns;omega,?_⟩;rw [ziD];generalize hR:runs mask 13 (SetTable.bits h % (mask+1),SetTable.bits h)=s at *;obtain ⟨s1,s2⟩:=s;simp only at hp hl e;rw [hp,ze4 mask q s1 hl,hk,e]
structure LayOk (t:SetTable)(owner:Array (Option Nat))(hs:List Int):Prop where
 size:owner.size=t.mask+1
 lt:∀ j i,owner.getD j none=some i->i<hs.length
 one:∀ j j' i,owner.getD j none=some i->owner.getD j' none=some i->j=j'
 all:∀ i,i<hs.length->∃ j,j<=t.mask/\owner.getD j none=some i/\Way t (occO owner) (hs.getD i 0) j
theorem zfk {f:Nat->Nat}{n:Nat}(h:∀ a b,a<n->b<n->f a=f b->a=b):((List.range n).map f).Nodup:=by
 unfold List.Nodup;rw [List.pairwise_map];refine List.Pairwise.imp_of_mem (R:=fun a b=>a≠b) (fun {a b} ha hb hn e=>hn (h a b (List.mem_range.mp ha) (List.mem_range.mp hb) e)) ?_;exact List.nodup_range
theorem zog {t:SetTable}{owner:Array (Option Nat)}{hs:List Int}(L:LayOk t owner hs)(hl:hs.length<=t.mask):∃ y,y<=t.mask/\owner.getD y none=none:=by
 apply Classical.byContradiction;intro hno;have al:∀ y,y<t.mask+1->∃ i,owner.getD y none=some i:=fun y hy=>by
  cases q:owner.getD y none with
  |none=>exact absurd ⟨y,by omega,q⟩ hno
  |some i=>exact ⟨i,rfl⟩
 have nd:((List.range (t.mask+1)).map fun y=>(owner.getD y none).getD 0).Nodup:=zfk fun a b ha hb e=>by
  obtain ⟨i,hi⟩:=al a ha;obtain ⟨i',hi'⟩:=al b hb;rw [hi,hi'] at e;have e:i=i':=e;subst e;exact L.one a b i hi hi'
 have sub:((List.range (t.mask+1)).map fun y=>(owner.getD y none).getD 0) ⊆ List.range hs.length:=fun z hz=>by
  refine zc1b (List.mem_map.mp hz) fun y hy zr2=>?_;subst zr2;obtain ⟨i,hi⟩:=al y (List.mem_range.mp hy);rw [hi];exact List.mem_range.mpr (L.lt y i hi)
 have:=List.Nodup.length_le_of_subset nd sub;rw [Zql,List.length_range,List.length_range] at this;omega
theorem znt {owner:Array (Option Nat)}{y:Nat}(hy:y<owner.size)(v:Option Nat)(j:Nat):(owner.setIfInBounds y v).getD j none=if j=y then v else owner.getD j none:=by
 simp only [Array.getD_eq_getD_getElem?];rw [Array.getElem?_setIfInBounds];by_cases c:y=j
 ·subst c;rw [if_pos rfl,if_pos rfl,if_pos hy];rfl
 ·rw [if_neg c,if_neg fun z=>c z.symm]
theorem znx {t:SetTable}{owner:Array (Option Nat)}{hs:List Int}(L:LayOk t owner hs)(hl:hs.length<=t.mask)(hp:∃ k,t.mask+1=2 ^ k)(h:Int) :
 ∃ y,SetTable.layClean.free t.mask owner (SetTable.turns t.mask) (SetTable.bits h % (t.mask+1)) (SetTable.bits h)=some y/\LayOk t (owner.setIfInBounds y (some hs.length)) (hs++[h]):=by
 have hi:SetTable.bits h % (t.mask+1)<=t.mask:=Nat.lt_succ_iff.mp (Nat.mod_lt _ (Nat.succ_pos _));cases q:SetTable.layClean.free t.mask owner (SetTable.turns t.mask) (SetTable.bits h % (t.mask+1)) (SetTable.bits h) with
 |none =>
  obtain ⟨k,hk⟩:=hp;refine zc1b (zog L hl) fun y hy hf=>?_;refine zc1b (zlL hk h hy) fun r hr e=>?_;obtain ⟨i,hz⟩:=zhz L.size _ _ _ hi q r hr;rw [e,hf] at hz;exact zqn hz
 |some y =>
  refine zc0c (zhx L.size _ _ _ y hi q) fun h1 h2 zz=>zc1b zz fun n h3 h4=>?_;have sg:=znt (owner:=owner) (y:=y) (by rw [L.size];omega) (some hs.length);have oc:∀ j,occO owner j->occO (owner.setIfInBounds y (some hs.length)) j:=by
   rintro j ⟨i,hj⟩;refine ⟨i,?_⟩;rw [sg,if_neg fun z=>by rw [z,h2] at hj;cases hj];exact hj
  refine ⟨y,rfl,⟨by rw [Array.size_setIfInBounds];exact L.size,fun j i hj=>?_,fun j j' i hj hj'=>?_,fun i hi'=>?_⟩⟩
  ·rw [List.length_append,List.length_singleton];rw [sg] at hj
   split at hj
   ·cases hj;omega
   ·have:=L.lt j i hj;omega
  ·rw [sg] at hj hj'
   split at hj
   ·rename_i a;obtain rfl:=Zqi hj
    split at hj'
    ·rename_i b;rw [a,b]
    ·have:=L.lt j' _ hj';omega
   ·split at hj'
    ·obtain rfl:=Zqi hj';have:=L.lt j _ hj;omega
    ·exact L.one j j' i hj hj'
  ·rw [List.length_append,List.length_singleton] at hi';by_cases c:i<hs.length
   ·refine zc1c (L.all i c) fun j g1 g2 g3=>?_;refine ⟨j,g1,?_,?_⟩
    ·rw [sg,if_neg fun z=>by rw [z,h2] at g2;cases g2];exact g2
    ·have e:(hs++[h]).getD i 0=hs.getD i 0:=by
      rw [List.getD_eq_getElem?_getD,List.getD_eq_getElem?_getD,List.getElem?_append_left c]
     rw [e];exact g3.mono rfl oc
   ·have e:i=hs.length:=by omega
    subst e;refine ⟨y,h1,by rw [sg,if_pos rfl],?_⟩;have e:(hs++[h]).getD hs.length 0=h:=by
     rw [List.getD_eq_getElem?_getD,List.getElem?_append_right (Nat.le_refl _),Nat.sub_self];rfl
    rw [e];exact ⟨n,h3,fun m hm=>oc _ (h4 m hm)⟩
theorem zjx {t:SetTable}(hp:∃ k,t.mask+1=2 ^ k):∀ (rest:List Int) (hs:List Int) (owner:Array (Option Nat)),LayOk t owner hs->hs.length+rest.length<=t.mask+1 ->
 ∃ owner',rest.foldl (init:=some (owner,hs.length)) (fun acc h=>do
  let (owner,k) <- acc
  let j <- SetTable.layClean.free t.mask owner (SetTable.turns t.mask) (SetTable.bits h % (t.mask+1)) (SetTable.bits h)
  pure (owner.setIfInBounds j (some k),k+1))=some (owner',hs.length+rest.length)/\LayOk t owner' (hs++rest)
 | [],hs,owner,L,_=>⟨owner,rfl,by rw [List.append_nil];exact L⟩
 |h::rest,hs,owner,L,hl=>by
  rw [List.length_cons] at hl;refine zc1b (znx L (by omega) hp h) fun y e L'=>?_;refine zc1b (zjx hp rest (hs++[h]) _ L' (by rw [List.length_append,List.length_singleton];omega)) fun o' e2 L2=>?_;refine ⟨o',?_,by rw [List.append_assoc] at L2;exact L2⟩;rw [List.length_append,List.length_singleton] at e2;rw [List.foldl_cons];simp only [Option.bind_eq_bind,Option.bind_some,e];rw [List.length_cons,show hs.length+(rest.length+1)=hs.length+1+rest.length by omega];exact e2
theorem zmP {t:SetTable}(hp:∃ k,t.mask+1=2 ^ k)(hs:Array Int)(hl:hs.size<=t.mask+1):∃ owner,SetTable.layClean t.mask hs=some owner/\LayOk t owner hs.toList:=by
 have L0:LayOk t (Array.replicate (t.mask+1) none) []:=by
  have z:∀ j i,(Array.replicate (t.mask+1) (none:Option Nat)).getD j none≠some i:=fun j i h=>by
   simp only [Array.getD_eq_getD_getElem?,Array.getElem?_replicate] at h
   split at h<;>exact zqn h
  exact ⟨by simp,fun j i h=>absurd h (z j i),fun j j' i h=>absurd h (z j i),fun i h=>absurd h (Nat.not_lt_zero _)⟩
 refine zc1b (zjx hp hs.toList [] _ L0 (by simpa using hl)) fun o e L=>?_;refine ⟨o,?_,by simpa using L⟩;unfold SetTable.layClean;rw [<- Array.foldl_toList];have e:hs.toList.foldl _ (some (Array.replicate (t.mask+1) none,0))=some (o,[].length+hs.toList.length):=e;rw [e];rfl
open PySem
theorem zo6 {owner:Array (Option Nat)}{j i:Nat}(h:owner.getD j none=some i):j<owner.size:=by
 apply Classical.byContradiction;intro z;rw [Array.getD_eq_getD_getElem?,Array.getElem?_eq_none (by omega)] at h;exact zqn h
noncomputable def ze9 (mask:Nat)(owner:Array (Option Nat)):List (Nat×Nat):=(List.range (mask+1)).filterMap fun j=>(owner.getD j none).map (j,·)
theorem zow {mask:Nat}{owner:Array (Option Nat)}{p:Nat×Nat}:p∈ze9 mask owner↔p.1<=mask/\owner.getD p.1 none=some p.2:=by
 unfold ze9;rw [List.mem_filterMap];constructor
 ·rintro ⟨j,hj,e⟩;refine zc1b (Option.map_eq_some_iff.mp e) fun i hi e=>?_;subst e;exact ⟨Nat.lt_succ_iff.mp (List.mem_range.mp hj),hi⟩
 ·rintro ⟨h1,h2⟩;exact ⟨p.1,List.mem_range.mpr (by omega),by rw [h2];rfl⟩
theorem zre (mask:Nat)(owner:Array (Option Nat)):(ze9 mask owner).Pairwise fun a b=>a.1<b.1:=by
 unfold ze9;rw [List.pairwise_filterMap];refine List.pairwise_lt_range.imp fun {a b} hab x hx y hy=>?_;refine zc1b (Option.map_eq_some_iff.mp hx) fun i _ zr2=>?_;subst zr2;refine zc1b (Option.map_eq_some_iff.mp hy) fun i' _ zr2=>?_;subst zr2;exact hab
theorem ze5 {α : Type}(l:List α)(i:Nat)(d:α):l.toArray.getD i d=l.getD i d:=by
 rw [Array.getD_eq_getD_getElem?,List.getElem?_toArray,List.getD_eq_getElem?_getD]
theorem zgI {α β : Type}(l:List α)(f:α -> β)(i:Nat)(hi:i<l.length)(d:β):(l.map f).getD i d=f l[i]:=by
 rw [List.getD_eq_getElem?_getD,List.getElem?_map,Zqg hi];rfl
theorem zri {mask:Nat}(hp:∃ k,mask+1=2 ^ k)(hs:Array Int)(hl:hs.size<=mask)(finger moves:Nat)(led plain:Bool) :
 ∃ t' order,SetTable.laid mask finger moves led plain hs=some (t',order)/\t'.mask=mask/\t'.moves=moves/\t'.led=led/\t'.plain=plain/\t'.finger=finger/\order.size=hs.size/\(∀ k,k<order.size->order.getD k 0<hs.size)/\(∀ k k',k<order.size->k'<order.size->order.getD k 0=order.getD k' 0->k=k')/\(∀ i,i<hs.size->∃ k,k<order.size/\order.getD k 0=i)/\TabOk t' (order.map fun i=>hs.getD i 0):=by
 let t0:SetTable:={ mask:=mask,place:=#[],dummies:=#[],finger:=0,led:=false,moves:=0,plain:=true }
 refine zc1b (zmP (t:=t0) hp hs (by show hs.size<=mask+1;omega)) fun owner e L=>?_;have e:SetTable.layClean mask hs=some owner:=e;have hsz:owner.size=mask+1:=L.size;have mem:=fun p=>zow (mask:=mask) (owner:=owner) (p:=p);have up:=zre mask owner;have nd2:((ze9 mask owner).map (·.2)).Nodup:=by
  unfold List.Nodup;rw [List.pairwise_map];refine List.Pairwise.imp_of_mem (fun {a b} ha hb hab e2=>?_) up;have h1:=((mem a).mp ha).2;have h2:=((mem b).mp hb).2;rw [e2] at h1;have:=L.one _ _ _ h1 h2;omega
 have sub1:((ze9 mask owner).map (·.2)) ⊆ List.range hs.size:=fun z hz=>by
  refine zc1b (List.mem_map.mp hz) fun p hp zr2=>?_;subst zr2;have:=L.lt _ _ ((mem p).mp hp).2;exact List.mem_range.mpr (by simpa using this)
 have sub2:List.range hs.size ⊆ ((ze9 mask owner).map (·.2)):=fun i hi=>by
  refine zc1c (L.all i (by simpa using List.mem_range.mp hi)) fun j h1 h2 _=>?_;exact List.mem_map.mpr ⟨(j,i),(mem (j,i)).mpr ⟨h1,h2⟩,rfl⟩
 have len:(ze9 mask owner).length=hs.size:=by
  have a:=List.Nodup.length_le_of_subset nd2 sub1;have b:=List.Nodup.length_le_of_subset List.nodup_range sub2;rw [Zql,List.length_range] at a b;omega
 have el:SetTable.laid mask finger moves led plain hs=some ({ mask:=mask,place:=((ze9 mask owner).map (·.1)).toArray,dummies:=#[],finger:=finger,led:=led,moves:=moves,plain:=plain },((ze9 mask owner).map (·.2)).toArray):=by
  unfold SetTable.laid;rw [e];rfl
 generalize hlv:ze9 mask owner=lv at *;have gp:∀ i (hi:i<lv.length),((lv.map (·.1)).toArray).getD i 0=lv[i].1:=fun i hi=>by rw [ze5,zgI _ _ _ hi]
 have go:∀ i (hi:i<lv.length),((lv.map (·.2)).toArray).getD i 0=lv[i].2:=fun i hi=>by rw [ze5,zgI _ _ _ hi]
 have upi:=List.pairwise_iff_getElem.mp up;refine ⟨_,_,el,rfl,rfl,rfl,rfl,rfl,by simpa using len,fun k hk=>?_,fun k k' hk hk' e2=>?_,fun i hi=>?_,?_⟩
 ·have hk:k<lv.length:=by simpa using hk
  rw [go k hk];have:=L.lt _ _ ((mem lv[k]).mp (List.getElem_mem hk)).2;simpa using this
 ·have hk:k<lv.length:=by simpa using hk
  have hk':k'<lv.length:=by simpa using hk'
  rw [go k hk,go k' hk'] at e2;have h1:=((mem lv[k]).mp (List.getElem_mem hk)).2;have h2:=((mem lv[k']).mp (List.getElem_mem hk')).2;rw [e2] at h1;have e3:=L.one _ _ _ h1 h2;rcases Nat.lt_trichotomy k k' with q|q|q
  ·have:=upi k k' hk hk' q;omega
  ·exact q
  ·have:=upi k' k hk' hk q;omega
 ·refine zc1b (List.mem_map.mp (sub2 (List.mem_range.mpr hi))) fun p hp e2=>?_;obtain ⟨k,hk,rfl⟩:=List.getElem_of_mem hp;exact ⟨k,by simpa using hk,by rw [go k hk];exact e2⟩
 ·have oc:∀ j,occO owner j->occ { mask:=mask,place:=(lv.map (·.1)).toArray,dummies:=#[],finger:=finger,led:=led,moves:=moves,plain:=plain } j:=by
   rintro j ⟨i,hj⟩;have hin:=zo6 hj;have hm:(j,i)∈lv:=(mem (j,i)).mpr ⟨by show j<=mask;omega,hj⟩;obtain ⟨k,hk,e2⟩:=List.getElem_of_mem hm;exact ⟨k,by simpa using hk,by show ((lv.map (·.1)).toArray).getD k 0=j;rw [gp k hk,e2]⟩
  refine ⟨by simp,fun i j hij hj=>?_,fun i hi=>?_,rfl,hp,by show ((lv.map (·.1)).toArray).size<=mask;simp;omega,fun k hk=>?_⟩
  ·have hj:j<lv.length:=by simpa using hj
   show ((lv.map (·.1)).toArray).getD i 0<((lv.map (·.1)).toArray).getD j 0;rw [gp i (by omega),gp j hj];exact upi i j (by omega) hj hij
  ·have hi:i<lv.length:=by simpa using hi
   show ((lv.map (·.1)).toArray).getD i 0<=mask;rw [gp i hi];exact ((mem lv[i]).mp (List.getElem_mem hi)).1
  ·have hk:k<lv.length:=by simpa using hk
   have h1:=((mem lv[k]).mp (List.getElem_mem hk)).2;have hlt:=L.lt _ _ h1;refine zc1c (L.all lv[k].2 hlt) fun j g1 g2 g3=>?_;have ej:=L.one _ _ _ g2 h1;subst ej;have eh:(((lv.map (·.2)).toArray).map fun i=>hs.getD i 0).getD k 0=hs.toList.getD lv[k].2 0:=by
    have e4:((lv.map (·.2)).toArray).map (fun i=>hs.getD i 0)=((lv.map (·.2)).map fun i=>hs.getD i 0).toArray:=by simp
    rw [e4,ze5,List.map_map,zgI _ _ _ hk];show hs.getD lv[k].2 0=_;rw [Array.getD_eq_getD_getElem?,List.getD_eq_getElem?_getD,Array.getElem?_toList]
   rw [eh];show Way _ _ _ (((lv.map (·.1)).toArray).getD k 0);rw [gp k hk];exact g3.mono rfl oc
theorem zlC:∀ (fuel size n:Nat),(∃ k,size=2 ^ k)->n<size*2 ^ fuel->(∃ k,SetTable.sizeAbove.go n fuel size=2 ^ k)/\n<SetTable.sizeAbove.go n fuel size
 | 0,size,n,hp,h=>by
  unfold SetTable.sizeAbove.go;exact ⟨hp,by simpa using h⟩
 |fuel+1,size,n,⟨k,hk⟩,h=>by
  unfold SetTable.sizeAbove.go
  split
  ·exact zlC fuel (size*2) n ⟨k+1,by rw [Nat.pow_succ,hk]⟩ (by rw [Nat.mul_assoc,<- Nat.pow_succ'];exact h)
  ·exact ⟨⟨k,hk⟩,by omega⟩
theorem zfH {n:Nat}(h:n<1000000000):(∃ k,SetTable.sizeAbove n=2 ^ k)/\n<SetTable.sizeAbove n :=
 zlC 64 8 n ⟨3,rfl⟩ (Nat.lt_of_lt_of_le h (by decide))
theorem zfL:∀ (fuel size n:Nat),size<=2*n+8->SetTable.sizeAbove.go n fuel size<=2*n+8
 | 0,size,n,h=>by unfold SetTable.sizeAbove.go;exact h
 |fuel+1,size,n,h=>by
  unfold SetTable.sizeAbove.go
  split
  ·exact zfL fuel (size*2) n (by omega)
  ·exact h
theorem zgm (n:Nat):SetTable.sizeAbove n<=2*n+8:=zfL 64 8 n (by omega)
theorem zmy {t:SetTable}{hs:Array Int}{wanted:Nat}(h1:hs.size<=wanted)(h2:wanted<1000000000) :
 ∃ t' order,t.relaid hs wanted=some (t',order)/\t'.led=t.led/\t'.plain=t.plain/\t'.mask+1=SetTable.sizeAbove wanted/\order.size=hs.size/\(∀ k,k<order.size->order.getD k 0<hs.size)/\(∀ k k',k<order.size->k'<order.size->order.getD k 0=order.getD k' 0->k=k')/\(∀ i,i<hs.size->∃ k,k<order.size/\order.getD k 0=i)/\TabOk t' (order.map fun i=>hs.getD i 0):=by
 obtain ⟨⟨k,hk⟩,hlt⟩:=zfH h2;have hm:SetTable.sizeAbove wanted-1+1=SetTable.sizeAbove wanted:=by omega
 refine zc2a (zri (mask:=SetTable.sizeAbove wanted-1) ⟨k,by rw [hm];exact hk⟩ hs (by omega) t.finger (t.movedTo (SetTable.sizeAbove wanted-1)) t.led t.plain) fun t' order zz=>zc0e zz fun e e1 _ e3 zz=>zc0e zz fun e4 _ e6 e7 zz=>zc0c zz fun e8 e9 e10=>?_;exact ⟨t',order,e,e3,e4,by rw [e1];exact hm,e6,e7,e8,e9,e10⟩
open PySem
variable {prog:Program}{w:World}{A:Around}{E:Value->Shared->Prop}{s:Shared}
theorem TabOk.fits {t:SetTable}{es:Array (Int×Value)}(T:TabOk t (es.map (·.1))):t.fits es.size=true:=by
 have h1:=T.size;rw [Array.size_map] at h1;unfold SetTable.fits SetTable.fill;rw [T.nod];simp -iota [h1,show es.size<=t.mask by have:=T.room;omega]
theorem zjl {es:Array (Int×Value)}{i:Nat}(hi:i<es.size):(es.map (·.1)).getD i 0=es[i].1:=by
 rw [zaU (by rw [Array.size_map];exact hi)];simp -iota
theorem zii {es:Array (Int×Value)}{i:Nat}(hi:i<es.size):(es[i]?.map (·.1)).getD 0=es[i].1:=by
 rw [Array.getElem?_eq_getElem hi];rfl
noncomputable def zgj (t:SetTable)(p:SetTable.Probe):Prop:=p.j+p.more<=t.mask
theorem zhy (t:SetTable){i pert:Nat}(h:i<=t.mask):zgj t (zdR t.mask i pert):=by
 have:=zeH h;show i+(SetTable.runEnd t.mask i-i)<=t.mask;omega
theorem zmm {t:SetTable}{p:SetTable.Probe}(h:zgj t p):zgj t (t.advance p):=by
 unfold zgj at h;unfold SetTable.advance
 split
 ·show p.j+1+(p.more-1)<=t.mask;omega
 ·have hl:(SetTable.leap t.mask p.i p.perturb).1<=t.mask:=Nat.lt_succ_iff.mp (Nat.mod_lt _ (Nat.succ_pos _));exact zhy t (pert:=(SetTable.leap t.mask p.i p.perturb).2) hl
theorem zkp {t:SetTable}{p:SetTable.Probe}(h:zgj t p)(n:Nat):zgj t (za2 t n p):=by
 induction n generalizing p with
 |zero=>exact h
 |succ n ih=>exact ih (zmm h)
theorem znc (t:SetTable)(h:Int):zgj t (t.probeStart h):=zhy t (pert:=SetTable.bits h) (Nat.lt_succ_iff.mp (Nat.mod_lt _ (Nat.succ_pos _)))
theorem zpY {t:SetTable}{p:SetTable.Probe}(h:zgj t p)(n:Nat):(za2 t n p).j<=t.mask:=by
 have:=zkp h n;unfold zgj at this;omega
theorem zf0 {a:Addr}{o:Obj}{es:Array (Int×Value)}{ep:Nat}{t:SetTable}{x:Value}{h:Int}{same:Value->Bool}{Q:SetFound->Shared->Prop}{e:Nat}
 (ho:s.heap.get? a=some o) (hd:o.data=.set es ep t) (T:TabOk t (es.map (·.1))) (hodd:t.mask % 2=1)
 (hq:∀ i (hi:i<es.size),es[i].1=h->∀ Q:Bool->Shared->Prop,Q (same es[i].2) s->wpAny (model prog w) A (eqBool es[i].2 x) Q E s)
 (hr:∀ i (hi:i<es.size),∃ b,es[i].2=.ref b)
 (hsn:t.led=true\/∀ Q:Bool->Shared->Prop,Q false s->wpAny (model prog w) A (searchCouldBeSeen x ((es.filter (·.1 == h)).toList.map (·.2))) Q E s)
 (he:e<10*SetTable.turns t.mask) (hoc:∀ m,m<e->occ t (za2 t m (t.probeStart h)).j) (hfr:¬ occ t (za2 t e (t.probeStart h)).j)
 (hit:∀ i (hi:i<es.size),es[i].1=h->same es[i].2=true->Q (.there none) s)
 (miss:(∀ i (hi:i<es.size),es[i].1=h->same es[i].2=false)->Q (.free (za2 t e (t.probeStart h)).j false) s) :
 ∀ (fuel c:Nat) (st:Option SetTable.Probe),c<=e->e-c<fuel->st.getD (t.probeStart h)=za2 t c (t.probeStart h) ->
  (∀ m i (hi:i<es.size),m<c->t.slot (za2 t m (t.probeStart h)).j=.live i->es[i].1=h->same es[i].2=false) ->
  wpAny (model prog w) A (setSearchFrom a x h true fuel st) Q E s
 | 0,c,st,hc,hf,_,_=>absurd hf (Nat.not_lt_zero _)
 |fuel+1,c,st,hc,hf,hst,hno=>by
  have hsz:t.place.size=es.size:=by have:=T.size;rwa [Array.size_map] at this
  unfold setSearchFrom;refine wpAny_bind (wpAny_setState_of ho hd T.fits ?_);dsimp only;have hg:t.gaveWay=false:=by unfold SetTable.gaveWay;rw [hodd];rfl
  rw [hg];simp -iota only [Bool.false_eq_true,if_false];have live:∀ m,m<e->∃ i,t.slot (za2 t m (t.probeStart h)).j=.live i/\i<es.size/\t.place.getD i 0=(za2 t m (t.probeStart h)).j:=fun m hm=>by
   refine zc1c (znl T.up (hoc m hm)) fun i h1 h2 h3=>?_;exact ⟨i,h1,by omega,h3⟩
  have step:∀ m,za2 t m (za2 t c (t.probeStart h))=za2 t (c+m) (t.probeStart h):=fun m=>(zcy t c m _).symm;have meets:∀ g:Nat->Int,(∀ i,g i=(es[i]?.map (·.1)).getD 0)->(∃ m i,c<=m/\m<e/\t.slot (za2 t m (t.probeStart h)).j=.live i/\g i=h/\t.probe g h (st.getD (t.probeStart h))=some (.candidate (za2 t m (t.probeStart h)).j i (za2 t (m+1) (t.probeStart h)))/\∀ m' i',c<=m'->m'<m->t.slot (za2 t m' (t.probeStart h)).j=.live i'->g i'≠h) \/
   (t.probe g h (st.getD (t.probeStart h))=some (.empty (za2 t e (t.probeStart h)).j none)/\∀ m' i',c<=m'->m'<e->t.slot (za2 t m' (t.probeStart h)).j=.live i'->g i'≠h):=fun g _=>by
   rw [hst];have sd:(za2 t c (t.probeStart h)).dummy=none:=zkv rfl c;have ek:c+(e-c)=e:=by omega
   rcases ziL (t:=t) (hashAt:=g) (h:=h) (e-c) (10*SetTable.turns t.mask) (za2 t c (t.probeStart h)) (by omega) sd (fun m hm=>by
    rw [step];obtain ⟨i,h1,_⟩:=live (c+m) (by omega);exact ⟨i,h1⟩) (by rw [step,ek];exact zjZ T.nod hfr) with ⟨m,i,g1,g2,g3,g4,g5⟩|⟨g1,g2⟩
   ·rw [step] at g2 g4;rw [step] at g4;refine .inl ⟨c+m,i,by omega,by omega,g2,g3,g4,fun m' i' a1 a2 a3=>g5 (m'-c) i' (by omega) (by rw [step,show c+(m'-c)=m' by omega];exact a3)⟩
   ·rw [step,ek] at g1;exact .inr ⟨g1,fun m' i' a1 a2 a3=>g2 (m'-c) i' (by omega) (by rw [step,show c+(m'-c)=m' by omega];exact a3)⟩
  generalize hmet:t.probe _ h (st.getD (t.probeStart h))=met;have here:∀ i (hi:i<es.size),es[i].1=h->∃ m,m<e/\t.slot (za2 t m (t.probeStart h)).j=.live i:=fun i hi hh=>by
   refine zc1b (T.ways i (by omega)) fun n n1 n2=>?_;rw [zjl hi,hh] at n1 n2;refine ⟨n,?_,by rw [n1];exact zgX T.up (by omega) rfl⟩;rcases Nat.lt_trichotomy n e with q|q|q
   ·exact q
   ·subst q;exact absurd ⟨i,by omega,n1.symm⟩ hfr
   ·exact absurd (n2 e q) hfr
  rcases meets _ (fun i=>rfl) with ⟨m,i,c1,c2,c3,c4,c5,c6⟩|⟨c1,c2⟩
  ·have em:=hmet.symm.trans c5;subst em;refine zc1c (live m c2) fun i2 k1 k2 k3=>?_;rw [c3] at k1;cases k1;have hh:es[i].1=h:=by rw [<- zii k2];exact c4
   dsimp only;have rest:wpAny (model prog w) A (do
    let some (_,y):=es[i]? | unsupported "internal:set-entry"
    let equal <- holding [y] (eqBool y x)
    let (es',_,t') <- setState a
    if true&&equal then return SetFound.there none
    let some same:=t'.sameMemory t.moves t.mask|unsupported "set.changed-during-lookup:is-the-new-block-at-the-old-address"
    let still <- match (if same then t'.slot (za2 t m (t.probeStart h)).j else .empty) with
     | .live i'=>match es'[i']? with
      |some (_,y')=>do pure (if <- isSame y' y then some i' else none)
      |none=>pure none
     |_=>pure none
    match still with
    |none=>rule "set.search.anew";setSearchFrom a x h true fuel none
    |some i'=>if equal then return .there (some i') else setSearchFrom a x h true fuel (some (za2 t (m+1) (t.probeStart h)))) Q E s:=by
    rw [Array.getElem?_eq_getElem k2];dsimp only;refine wpAny_bind (wpAny_holding (hq i k2 hh _ ?_));refine wpAny_bind (wpAny_setState_of ho hd T.fits ?_);dsimp only;cases hs:same es[i].2 with
    |true =>
     simp -iota only [Bool.and_self,if_true];exact wpAny_pure (hit i k2 hh hs)
    |false =>
     simp -iota only [Bool.and_false,Bool.false_eq_true,if_false];have hsm:t.sameMemory t.moves t.mask=some true:=by unfold SetTable.sameMemory;rw [if_pos (beq_self_eq_true _)]
     rw [hsm];dsimp only;simp -iota only [if_true];rw [c3];dsimp only;rw [Array.getElem?_eq_getElem k2];dsimp only;obtain ⟨b,hb⟩:=hr i k2;have his:∀ {Q':Bool->Shared->Prop},Q' true s->wpAny (model prog w) A (isSame es[i].2 es[i].2) Q' E s:=fun {Q'} hq'=>by
      rw [hb];unfold isSame;dsimp only;rw [if_pos (beq_self_eq_true _)];exact wpAny_pure hq'
     refine wpAny_bind (his ?_);simp -iota only [if_true];refine wpAny_bind (wpAny_pure ?_);dsimp only;refine zf0 ho hd T hodd hq hr hsn he hoc hfr hit miss fuel (m+1) _ (by omega) (by omega) rfl fun m' i' hi' hm' hl hh'=>?_;by_cases d1:m'<c
     ·exact hno m' i' hi' d1 hl hh'
     ·by_cases d2:m'=m
      ·subst d2;rw [c3] at hl;cases hl;exact hs
      ·exact absurd (by rw [zii hi'];exact hh') (c6 m' i' (by omega) (by omega) hl)
   cases hld:t.led with
   |true =>
    rw [if_neg (by simp -iota)];exact rest
   |false =>
    rw [if_pos (by simp -iota)];rcases hsn with z|hsn
    ·rw [z] at hld;cases hld
    ·refine wpAny_bind (hsn _ ?_);rw [if_neg (by simp -iota)];exact rest
  ·have em:=hmet.symm.trans c1;subst em;dsimp only;refine wpAny_pure (miss fun i hi hh=>?_);refine zc1b (here i hi hh) fun m m1 m2=>?_;by_cases d1:m<c
   ·exact hno m i hi d1 m2 hh
   ·exact absurd (by rw [zii hi];exact hh) (c2 m i (by omega) m1 m2)
theorem zll {a:Addr}{o:Obj}{es:Array (Int×Value)}{ep:Nat}{t:SetTable}{x:Value}{h:Int}{same:Value->Bool}{Q:SetFound->Shared->Prop}
 (ho:s.heap.get? a=some o) (hd:o.data=.set es ep t) (T:TabOk t (es.map (·.1))) (hodd:t.mask % 2=1) (hm:t.mask<=9000)
 (hq:∀ i (hi:i<es.size),es[i].1=h->∀ Q:Bool->Shared->Prop,Q (same es[i].2) s->wpAny (model prog w) A (eqBool es[i].2 x) Q E s)
 (hr:∀ i (hi:i<es.size),∃ b,es[i].2=.ref b)
 (hsn:t.led=true\/∀ Q:Bool->Shared->Prop,Q false s->wpAny (model prog w) A (searchCouldBeSeen x ((es.filter (·.1 == h)).toList.map (·.2))) Q E s)
 (hit:∀ i (hi:i<es.size),es[i].1=h->same es[i].2=true->Q (.there none) s)
 (miss:(∀ i (hi:i<es.size),es[i].1=h->same es[i].2=false)->∀ y,y<=t.mask->¬ occ t y->Way t (occ t) h y->Q (.free y false) s) :
 wpAny (model prog w) A (setSearch a x h true) Q E s:=by
 refine zc1c (zjH T h) fun e he hoc hfr=>?_;have hj:(za2 t e (t.probeStart h)).j<=t.mask:=zpY (znc t h) e;unfold setSearch;exact zf0 ho hd T hodd hq hr hsn he hoc hfr hit (fun z=>miss z _ hj hfr ⟨e,rfl,hoc⟩) 100000 0 none (Nat.zero_le _) (by unfold SetTable.turns at he;omega) rfl fun m i hi hm'=>absurd hm' (Nat.not_lt_zero _)
open PySem
theorem zfU:∀ (fuel size n:Nat),size<=SetTable.sizeAbove.go n fuel size
 | 0,size,n=>by unfold SetTable.sizeAbove.go;exact Nat.le_refl _
 |fuel+1,size,n=>by
  unfold SetTable.sizeAbove.go
  split
  ·exact Nat.le_trans (by omega) (zfU fuel (size*2) n)
  ·exact Nat.le_refl _
theorem zgo (n:Nat):8<=SetTable.sizeAbove n:=zfU 64 8 n
theorem zst {m k:Nat}(h:m+1=2 ^ k)(h7:7<=m):m % 2=1:=by
 cases k with
 |zero=>rw [Nat.pow_zero] at h;omega
 |succ k=>rw [Nat.pow_succ] at h;omega
theorem zjC {order:Array Nat}{n:Nat}(h1:∀ k,k<order.size->order.getD k 0<n)(h2:∀ k k',k<order.size->k'<order.size->order.getD k 0=order.getD k' 0->k=k')(h3:∀ i,i<n->∃ k,k<order.size/\order.getD k 0=i):order.toList.Perm (List.range n):=by
 have nd:order.toList.Nodup:=by
  unfold List.Nodup;rw [List.pairwise_iff_getElem];intro i j hi hj hij e;have hi':i<order.size:=by simpa -iota using hi
  have hj':j<order.size:=by simpa -iota using hj
  have:=h2 i j hi' hj' (by rw [zaU hi',zaU hj'];simpa -iota using e);omega
 refine List.perm_iff_count.mpr fun a=>?_;rw [nd.count,List.nodup_range.count];have:a∈order.toList↔a∈List.range n:=by
  rw [List.mem_range];constructor
  ·intro h;obtain ⟨k,hk,e⟩:=List.getElem_of_mem h;have hk':k<order.size:=by simpa -iota using hk
   have:=h1 k hk';rw [zaU hk'] at this;have e:order[k]=a:=by simpa -iota using e
   omega
  ·intro h;obtain ⟨k,hk,e⟩:=h3 a h;rw [zaU hk] at e;rw [<- e,Array.mem_toList_iff];exact Array.getElem_mem hk
 simp -iota only [this]
theorem zn2 {α : Type}{es:Array α}{order:Array Nat}(d:α)(h1:∀ k,k<order.size->order.getD k 0<es.size):(order.filterMap (es[·]?))=order.map fun i=>es.getD i d:=by
 apply Array.toList_inj.mp;rw [Array.toList_filterMap,Array.toList_map];have:∀ l:List Nat,(∀ i∈l,i<es.size)->l.filterMap (es[·]?)=l.map fun i=>es.getD i d:=by
  intro l
  induction l with
  |nil=>intro _;rfl
  |cons i l ih =>
   intro h;rw [List.filterMap_cons,List.map_cons,Array.getElem?_eq_getElem (h i Zqs)];dsimp only;rw [ih fun j hj=>h j (Zqm _ hj),zaU (h i Zqs)]
 refine this _ fun i hi=>?_;obtain ⟨k,hk,e⟩:=List.getElem_of_mem hi;have hk':k<order.size:=by simpa -iota using hk
 have:=h1 k hk';rw [zaU hk'] at this;have e:order[k]=i:=by simpa -iota using e
 omega
structure SetIs (hp:Heap)(a:Addr)(es:Array (Int×Value))(t:SetTable):Prop where
 at_:∃ ep,hp.get? a=some { cls:=.type "set",dict:=none,data:=.set es ep t,slots:=#[] }
 tab:TabOk t (es.map (·.1))
 seven:7<=t.mask
 most:t.mask<=8*es.size+7
 room:es.size*5<t.mask*3
 refs:∀ i (hi:i<es.size),∃ b,es[i].2=.ref b
theorem SetIs.odd {hp:Heap}{a:Addr}{es:Array (Int×Value)}{t:SetTable}(S:SetIs hp a es t):t.mask % 2=1:=by
 obtain ⟨k,hk⟩:=S.tab.pow;exact zst hk S.seven
variable {prog:Program}{w:World}{A:Around}{E:Value->Shared->Prop}{s:Shared}
theorem zhh {hp:Heap}{a:Addr}{es es':Array (Int×Value)}{ep:Nat}{t t':SetTable}(ho:hp.get? a=some { cls:=.type "set",dict:=none,data:=.set es ep t,slots:=#[] }) :
 (hp.update a (Obj.putSet es' t')).get? a=some { cls:=.type "set",dict:=none,data:=.set es' (ep+1) t',slots:=#[] }:=by
 have e:=putSet_of (o:={ cls:=.type "set",dict:=none,data:=.set es ep t,slots:=#[] }) es' t' rfl;have:=Heap.get?_update_self (Obj.putSet es' t') ho (by rw [e];rfl);rw [e] at this;exact this
theorem zhP {α β : Type}(f:α -> β)(xs:Array α)(p:Nat)(x:α):(SetTable.insertAt xs p x).map f=SetTable.insertAt (xs.map f) p (f x):=by
 unfold SetTable.insertAt;simp -iota
theorem znV {a:Addr}{es:Array (Int×Value)}{ep:Nat}{t:SetTable}{Q:Unit->Shared->Prop}
 (ho:s.heap.get? a=some { cls:=.type "set",dict:=none,data:=.set es ep t,slots:=#[] }) (T:TabOk t (es.map (·.1))) (hn:1<=es.size) (hl:es.size<=1000) (hr:∀ i (hi:i<es.size),∃ b,es[i].2=.ref b)
 (h:∀ es' t',es'.toList.Perm es.toList->t'.led=t.led->t'.plain=t.plain->SetIs (s.heap.update a (Obj.putSet es' t')) a es' t'->Q () { s with heap:=s.heap.update a (Obj.putSet es' t') }) :
 wpAny (model prog w) A (setRelay a (SetTable.grown es.size)) Q E s:=by
 have hg:SetTable.grown es.size=es.size*4:=by unfold SetTable.grown;rw [if_neg (by omega)]
 have hle:=zgm (es.size*4);obtain ⟨_,hgt⟩:=zfH (n:=es.size*4) (by omega);have hge:=zgo (es.size*4);refine zc2a (zmy (t:=t) (hs:=es.map (·.1)) (wanted:=es.size*4) (by rw [Array.size_map];omega) (by omega)) fun t' order zz=>zc0e zz fun e e1 e2 e3 zz=>zc0e zz fun e4 e5 e6 e7 e8=>?_;rw [Array.size_map] at e4 e5 e7;rw [hg];unfold setRelay;refine wpAny_bind (wpAny_setState_of ho rfl T.fits ?_);dsimp only;rw [if_neg (by rw [sizeLine_eq];omega)];rw [e];have pk:=zn2 (es:=es) (0,Value.none) e5;have psz:(order.filterMap (es[·]?)).size=es.size:=by rw [pk,Array.size_map];exact e4
 have pm:(order.filterMap (es[·]?)).toList.Perm es.toList:=by
  rw [Array.toList_filterMap];exact ((zjC e5 e6 e7).filterMap _).trans (by rw [filterMap_getElem?_range])
 have ph:(order.filterMap (es[·]?)).map (·.1)=order.map fun i=>(es.map (·.1)).getD i 0:=by
  rw [pk,Array.map_map];apply Array.map_congr_left;intro i hi;obtain ⟨k,hk,ek⟩:=Array.getElem_of_mem hi;have:=e5 k hk;rw [zaU hk,ek] at this;show (es.getD i (0,Value.none)).1=_;rw [zaU this,zjl this]
 have T':TabOk t' ((order.filterMap (es[·]?)).map (·.1)):=by rw [ph];exact e8
 have rf:∀ i (hi:i<(order.filterMap (es[·]?)).size),∃ b,(order.filterMap (es[·]?))[i].2=.ref b:=fun i hi=>by
  have hm:(order.filterMap (es[·]?))[i]∈es.toList:=pm.mem_iff.mp (by rw [Array.mem_toList_iff];exact Array.getElem_mem hi);obtain ⟨j,hj,ej⟩:=List.getElem_of_mem hm;have hj':j<es.size:=by simpa -iota using hj
  obtain ⟨b,hb⟩:=hr j hj';refine ⟨b,?_⟩;rw [<- ej];simpa -iota using hb
 have hne:¬ ((order.filterMap (es[·]?)).size != es.size)=true:=by rw [psz];simp -iota
 refine wpAny_bind (wpAny_of_eq (a:=(order.filterMap (es[·]?),t')) ?_ ?_)
 ·show (if ((order.filterMap (es[·]?)).size != es.size)=true then _ else _)=_;rw [if_neg hne]
 ·dsimp only;generalize order.filterMap (es[·]?)=es' at psz pm T' rf ph;refine wpAny_storeSet_of ho rfl ?_ (by rw [sizeLine_eq];omega);refine h es' t' pm e1 e2 ⟨⟨ep+1,?_⟩,T',by omega,by omega,by omega,rf⟩;exact zhh ho
theorem zlX {es es':Array (Int×Value)}(hr:∀ i (hi:i<es.size),∃ b,es[i].2=.ref b){x:Value}{h:Int}{b:Addr}(hx:x=.ref b)(pm:es'.toList.Perm (es.toList++[(h,x)])):∀ i (hi:i<es'.size),∃ b,es'[i].2=.ref b:=fun i hi=>by
 have hm:es'[i]∈es.toList++[(h,x)]:=pm.mem_iff.mp (by rw [Array.mem_toList_iff];exact Array.getElem_mem hi);rcases List.mem_append.mp hm with z|z
 ·obtain ⟨j,hj,ej⟩:=List.getElem_of_mem z;have hj':j<es.size:=by simpa -iota using hj
  obtain ⟨b,hb⟩:=hr j hj';refine ⟨b,?_⟩;rw [<- ej];simpa -iota using hb
 ·rw [List.mem_singleton.mp z];exact ⟨b,hx⟩
theorem zsF {a:Addr}{es:Array (Int×Value)}{t:SetTable}{x:Value}{b:Addr}{h:Int}{same:Value->Bool}{Q:Bool->Shared->Prop}
 (S:SetIs s.heap a es t) (hx:x=.ref b) (hl:es.size+1<=1000)
 (hq:∀ i (hi:i<es.size),es[i].1=h->∀ Q:Bool->Shared->Prop,Q (same es[i].2) s->wpAny (model prog w) A (eqBool es[i].2 x) Q E s)
 (hsn:t.led=true\/∀ Q:Bool->Shared->Prop,Q false s->wpAny (model prog w) A (searchCouldBeSeen x ((es.filter (·.1 == h)).toList.map (·.2))) Q E s)
 (hbv:∀ Q:Bool->Shared->Prop,Q true s->wpAny (model prog w) A (hashByValue 8 x) Q E s)
 (hit:∀ i (hi:i<es.size),es[i].1=h->same es[i].2=true->Q false s)
 (miss:(∀ i (hi:i<es.size),es[i].1=h->same es[i].2=false)->∀ h' es' t',Heap.SameBut a s.heap h'->SetIs h' a es' t'->es'.toList.Perm (es.toList++[(h,x)])->t'.led=t.led->t'.plain=t.plain->Q true { s with heap:=h' }) :
 wpAny (model prog w) A (setAddHashed a x h) Q E s:=by
 obtain ⟨ep,ho⟩:=S.at_;have hm9:t.mask<=9000:=by have:=S.most;omega
 unfold setAddHashed setAddHashedIn;refine wpAny_holding (wpAny_bind (wpAny_setState_of ho rfl S.tab.fits ?_));dsimp only;have hb:byScan x es=false:=by subst hx;rfl
 rw [hb];simp -iota only [Bool.false_eq_true,if_false];refine wpAny_bind (zll ho rfl S.tab S.odd hm9 hq S.refs hsn (fun i hi h1 h2=>wpAny_pure (hit i hi h1 h2)) fun hno y hy hf hw=>?_);dsimp only;refine wpAny_bind (wpAny_setState_of ho rfl S.tab.fits ?_);dsimp only;have hsz:t.place.size=es.size:=by have:=S.tab.size;rwa [Array.size_map] at this
 have hroom:=S.room;have hseven:=S.seven;refine zc0c (zsl S.tab hy hf hw (by omega)) fun T1 hp1 hm1=>?_;rw [Array.size_map] at hp1;have ld1:(t.put y).1.led=t.led:=rfl;have pl1:(t.put y).1.plain=t.plain:=rfl;generalize hput:t.put y=tp at T1 hp1 hm1 ld1 pl1;obtain ⟨t1,p⟩:=tp;dsimp only at T1 hp1 hm1 ld1 pl1 ⊢;have em:(SetTable.insertAt es p (h,x)).map (·.1)=SetTable.insertAt (es.map (·.1)) p h:=zhP _ _ _ _;rw [<- em] at T1;have pm:(SetTable.insertAt es p (h,x)).toList.Perm (es.toList++[(h,x)]):=by
  have:=SetTable.insertAt_perm es p (h,x)
  rwa [Array.toList_push] at this
 have sz1:(SetTable.insertAt es p (h,x)).size=es.size+1:=zck es hp1 _;have rf1:=zlX S.refs hx pm;generalize SetTable.insertAt es p (h,x)=es1 at T1 pm sz1 rf1;have tail:wpAny (model prog w) A (do
  storeSet a es1 t1
  if !false&&t1.tooFull then setRelay a (SetTable.grown (es.size+1))
  return true) Q E s:=by
  refine wpAny_bind (wpAny_storeSet_of ho rfl ?_ (by rw [sizeLine_eq];omega));have ho1:=zhh (es':=es1) (t':=t1) ho;have sb1:=Heap.SameBut.update s.heap a (Obj.putSet es1 t1);by_cases c:t1.tooFull=true
  ·rw [if_pos (by rw [c];rfl)];rw [<- sz1];refine wpAny_bind (znV ho1 T1 (by omega) (by omega) rf1 fun es2 t2 pm2 l2 p2 S2=>?_);refine wpAny_pure (miss hno _ es2 t2 (sb1.trans (Heap.SameBut.update _ a _)) S2 (pm2.trans pm) (l2.trans ld1) (p2.trans pl1))
  ·rw [if_neg (by simpa -iota using c)];have hfull:¬ (t1.fill*5 ≥ t1.mask*3):=by
    intro z;exact c (by unfold SetTable.tooFull;exact decide_eq_true z)
   have hfl:t1.fill=es1.size:=by
    unfold SetTable.fill;have:=T1.size;rw [Array.size_map] at this;rw [this,T1.nod];rfl
   have S1:SetIs (s.heap.update a (Obj.putSet es1 t1)) a es1 t1:=⟨⟨ep+1,ho1⟩,T1,by omega,by have:=S.most;omega,by omega,rf1⟩;exact wpAny_pure (miss hno _ es1 t1 sb1 S1 pm ld1 pl1)
 split
 ·refine wpAny_bind (hbv _ ?_);simp -iota only [if_true];exact tail
 ·refine wpAny_bind (wpAny_pure ?_);simp -iota only [if_true];exact tail
open PySem
variable {prog:Program}{w:World}{A:Around}{E:Value->Shared->Prop}{s:Shared}
inductive HashAll (prog:Program)(w:World)(A:Around)(E:Value->Shared->Prop)(s:Shared):List Value->List Int->Prop
 |nil:HashAll prog w A E s [] []
 |cons {v:Value} {vs:List Value} {h:Int} {hs:List Int}:(∀ (tk:Nat) (Q:Int->Shared->Prop),(∀ tk',tk<=tk'->Q h { s with toks:=tk' })->wpAny (model prog w) A (pyHash v) Q E { s with toks:=tk })->HashAll prog w A E s vs hs->HashAll prog w A E s (v::vs) (h::hs)
noncomputable def zib (hs:List Int):Int:=reduceHash (Builtin.Tuple.tupleHashOf hs)
theorem ziS {a:Addr}{o:Obj}{items:Array Value}{n:Nat}{hs:List Int}{tk0:Nat}{Q:Int->Shared->Prop}(ho:s.heap.get? a=some o)(hc:o.cls=.type "tuple")(hd:o.data=.seq items n)(hu:A.units<cLine)
 (H:HashAll prog w A.in1 E s items.toList hs) (h:∀ tk,tk0<=tk->Q (zib hs) { s with toks:=tk }):wpAny (model prog w) A (pyHash (.ref a)) Q E { s with toks:=tk0 }:=by
 have hT:Shared.TypeIs { s with toks:=tk0 } (.ref a) "tuple" := ⟨o,ho,hc⟩;unfold pyHash;refine W.pyHash_slot (T := "tuple") hT F.slot_tuple_hash F.entry_tuple_hash (F.args_tuple_hash_1 _) (beq_builtin_none _) (.inr hu) ?_;show wpAny _ _ (Builtin.Tuple.tupleItemsOf (.ref a) >>= _) _ _ _;refine wpAny_bind (wpAny_tupleItemsOf ho hd ?_);refine wpAny_bind ?_;rw [<- Array.forIn_toList];refine wpAny_forIn_list _ (fun rest (b:Array Int) s'=>∃ left tk,HashAll prog w A.in1 E s rest left/\b.toList++left=hs/\s'={ s with toks:=tk }/\tk0<=tk) _ ?_ ?_ _ _ ⟨hs,tk0,H,rfl,rfl,Nat.le_refl _⟩
 ·rintro x rest b s' ⟨left,tk,hl,hb,rfl,hle⟩;cases hl with
  |cons h1 hl' =>
   refine wpAny_bind (h1 tk _ fun tk' hle'=>?_);exact wpAny_pure ⟨_,tk',hl',by simp -iota [<- hb],rfl,Nat.le_trans hle hle'⟩
 ·rintro b s' ⟨left,tk,hl,hb,rfl,hle⟩;cases hl;rw [List.append_nil] at hb;show wpAny _ _ (retInt (Builtin.Tuple.tupleHashOf b.toList)) _ _ _;rw [hb];exact wpAny_bind (wpAny_mkInt (wpAny_pure ⟨_,_,rfl,h _ (Nat.le_succ_of_le hle)⟩))
theorem zh1 {A:Around}:∀ {vs:List Value} {ns:List Int},PyProof.Rows.IntsAre vs ns->HashAll prog w A E s vs (ns.map hashInt)
 |_,_,.nil=>.nil
 |_,_,.cons n t r=>.cons (fun tk Q h=>wpAny_pyHash_int (h _ (Nat.le_succ tk))) (zh1 r)
inductive PlainV (hp:Heap):Nat->Value->Prop
 |int (n:Nat) (i:Int) (t:Tok):PlainV hp n (.int i t)
 |tup {n:Nat} {a:Addr} {o:Obj} {items:Array Value} {k:Nat}:hp.get? a=some o->o.cls=.type "tuple" -> o.data=.seq items k->(∀ v∈items.toList,PlainV hp n v)->PlainV hp (n+1) (.ref a)
theorem zgK {n:Nat}{v:Value}(p:PlainV s.heap n v):∀ (d:Nat) (Q:Bool->Shared->Prop),n<=d->Q true s->wpAny (model prog w) A (hashByValue d v) Q E s:=by
 induction p with
 |int n i t =>
  intro d Q _ h;cases d<;>exact wpAny_pure h
 |tup ho hc hd _ ih =>
  intro d Q hn h;cases d with
  |zero=>omega
  |succ d =>
   have hT:Shared.TypeIs s (.ref _) "tuple" := ⟨_,ho,hc⟩;unfold hashByValue;refine wpAny_bind (wpAny_specialOf hT F.slot_tuple_hash.lookup ?_);dsimp only;refine wpAny_bind (wpAny_seqItems ho hd ?_);refine wpAny_bind ?_;show wpAny _ _ (forIn _ _ _) _ _ _;rw [Option.getD_some,<- Array.forIn_toList];refine wpAny_forIn_list _ (fun rest r s'=>r.1=none/\s'=s/\∀ v∈rest,v∈_) _ ?_ ?_ _ _ ⟨rfl,rfl,fun v hv=>hv⟩
   ·rintro x rest r s' ⟨hr,rfl,hm⟩;refine wpAny_bind (ih x (hm x Zqs) d _ (by omega) ?_);simp -iota only [Bool.not_true,Bool.false_eq_true,if_false];exact wpAny_pure ⟨rfl,rfl,fun v hv=>hm v (Zqm _ hv)⟩
   ·rintro ⟨r1,r2⟩ s' ⟨hr,rfl,_⟩;simp -iota only at hr;subst hr;exact wpAny_pure h
theorem zeC {n:Nat}{v:Value}(p:PlainV s.heap n v):∀ (d:Nat) (Q:Bool->Shared->Prop),n<=d->Q true s->wpAny (model prog w) A (eqIsQuiet d v) Q E s:=by
 induction p with
 |int n i t =>
  intro d Q _ h;exact wpAny_of_eq (eqIsQuiet_byValue d rfl) h
 |tup ho hc hd _ ih =>
  intro d Q hn h;cases d with
  |zero=>omega
  |succ d =>
   have hT:Shared.TypeIs s (.ref _) "tuple" := ⟨_,ho,hc⟩;unfold eqIsQuiet;refine wpAny_bind (wpAny_specialOf hT F.slot_tuple_eq.lookup ?_);dsimp only;refine wpAny_bind (wpAny_isInstance hT isSubtype_tuple_tuple ?_);simp -iota only [Bool.not_true,Bool.false_eq_true,if_false];refine wpAny_bind (wpAny_seqItems ho hd ?_);refine wpAny_bind ?_;show wpAny _ _ (forIn _ _ _) _ _ _;rw [Option.getD_some,<- Array.forIn_toList];refine wpAny_forIn_list _ (fun rest r s'=>r.1=none/\s'=s/\∀ v∈rest,v∈_) _ ?_ ?_ _ _ ⟨rfl,rfl,fun v hv=>hv⟩
   ·rintro x rest r s' ⟨hr,rfl,hm⟩;refine wpAny_bind (ih x (hm x Zqs) d _ (by omega) ?_);simp -iota only [Bool.not_true,Bool.false_eq_true,if_false];exact wpAny_pure ⟨rfl,rfl,fun v hv=>hm v (Zqm _ hv)⟩
   ·rintro ⟨r1,r2⟩ s' ⟨hr,rfl,_⟩;simp -iota only at hr;subst hr;exact wpAny_pure h
theorem zfl {n:Nat}{v:Value}(p:PlainV s.heap n v):∀ (d:Nat) (Q:Bool->Shared->Prop),n<=d->Q false s->wpAny (model prog w) A (ofAClassStatement d v) Q E s:=by
 induction p with
 |int n i t =>
  intro d Q _ h;cases d<;>exact wpAny_pure h
 |tup ho hc hd _ ih =>
  intro d Q hn h;cases d with
  |zero=>omega
  |succ d =>
   have hT:Shared.TypeIs s (.ref _) "tuple" := ⟨_,ho,hc⟩;unfold ofAClassStatement;refine wpAny_bind (wpAny_typeOf hT ?_);dsimp only;rw [if_pos (by decide)];refine wpAny_bind (wpAny_pure ?_);simp -iota only [Bool.not_true,Bool.false_eq_true,if_false];refine wpAny_bind (wpAny_seqItems ho hd ?_);dsimp only;refine wpAny_bind ?_;show wpAny _ _ (forIn _ _ _) _ _ _;rw [<- Array.forIn_toList];refine wpAny_forIn_list _ (fun rest r s'=>r.1=none/\s'=s/\∀ v∈rest,v∈_) _ ?_ ?_ _ _ ⟨rfl,rfl,fun v hv=>hv⟩
   ·rintro x rest r s' ⟨hr,rfl,hm⟩;refine wpAny_bind (ih x (hm x Zqs) d _ (by omega) ?_);simp -iota only [Bool.false_eq_true,if_false];exact wpAny_pure ⟨rfl,rfl,fun v hv=>hm v (Zqm _ hv)⟩
   ·rintro ⟨r1,r2⟩ s' ⟨hr,rfl,_⟩;simp -iota only at hr;subst hr;exact wpAny_pure h
theorem zhS {n:Nat}{x:Value}{ys:List Value}{Q:Bool->Shared->Prop}(hn:n<=8)(px:PlainV s.heap n x)(py:∀ y∈ys,PlainV s.heap n y)(h:Q false s):wpAny (model prog w) A (searchCouldBeSeen x ys) Q E s:=by
 unfold searchCouldBeSeen;refine wpAny_bind ?_;refine wpAny_forIn_list _ (fun rest r s'=>r.1=none/\s'=s/\∀ v∈rest,v∈ys) _ ?_ ?_ _ _ ⟨rfl,rfl,fun v hv=>hv⟩
 ·rintro y rest r s' ⟨hr,rfl,hm⟩;have hy:=py y (hm y Zqs);have nx:∀ v∈rest,v∈ys:=fun v hv=>hm v (Zqm _ hv);dsimp only
  split
  all_goals
   split
   ·exact wpAny_pure ⟨rfl,rfl,nx⟩
   ·refine wpAny_bind (zeC px 8 _ hn ?_);simp -iota only [Bool.not_true,Bool.false_eq_true,if_false];refine wpAny_bind (zeC hy 8 _ hn ?_);simp -iota only [Bool.not_true,Bool.false_eq_true,if_false];refine wpAny_bind (zfl px 8 _ hn ?_);simp -iota only [Bool.false_eq_true,if_false];refine wpAny_bind (zfl hy 8 _ hn ?_);simp -iota only [Bool.false_eq_true,if_false];exact wpAny_pure ⟨rfl,rfl,nx⟩
 ·rintro ⟨r1,r2⟩ s' ⟨hr,rfl,_⟩;simp -iota only at hr;subst hr;exact wpAny_pure h
structure KeyFam (prog:Program)(w:World)(hp:Heap)(PV:Value->Prop)(hsh:Value->Int)(same:Value->Value->Bool):Prop where
 ref:∀ v,PV v->∃ b,v=.ref b
 plain:∀ v,PV v->PlainV hp 8 v
 hash:∀ v,PV v->∀ (A:Around) (E:Value->Shared->Prop) (s:Shared) (Q:Int->Shared->Prop),(∀ b o,hp.get? b=some o->s.heap.get? b=some o)->A.units+8<cLine->(∀ tk,s.toks<=tk->Q (hsh v) { s with toks:=tk })->wpAny (model prog w) A (pyHash v) Q E s
 eq:∀ v u,PV v->PV u->∀ (A:Around) (E:Value->Shared->Prop) (s:Shared) (Q:Bool->Shared->Prop),(∀ b o,hp.get? b=some o->s.heap.get? b=some o)->A.units+8<cLine->Q (same v u) s->wpAny (model prog w) A (eqBool v u) Q E s
 coh:∀ v u,PV v->PV u->same v u=true->hsh v=hsh u
theorem PlainV.keep {hp hp':Heap}(k:∀ b o,hp.get? b=some o->hp'.get? b=some o){n:Nat}{v:Value}(p:PlainV hp n v):PlainV hp' n v:=by
 induction p with
 |int n i t=>exact .int n i t
 |tup ho hc hd _ ih=>exact .tup (k _ _ ho) hc hd ih
noncomputable def zhi (same:Value->Value->Bool)(D:List Value)(v:Value):List Value:=if D.any (same · v) then D else D++[v]
def dedV (same:Value->Value->Bool)(val:Nat->Value)(i:Nat):List Value:=((List.range i).map val).foldl (zhi same) []
theorem zdy (same:Value->Value->Bool)(val:Nat->Value)(i:Nat):dedV same val (i+1)=zhi same (dedV same val i) (val i):=by
 unfold dedV;rw [List.range_succ,List.map_append,List.foldl_append];rfl
theorem ziZ (same:Value->Value->Bool)(val:Nat->Value):∀ i,(dedV same val i).length<=i
 | 0=>Nat.le_refl _
 |i+1=>by
  have:=ziZ same val i;rw [zdy];unfold zhi
  split
  ·omega
  ·rw [List.length_append,List.length_singleton];omega
theorem zgE (same:Value->Value->Bool)(val:Nat->Value):∀ i v,v∈dedV same val i->∃ j,j<i/\v=val j
 | 0,v,h=>by cases h
 |i+1,v,h=>by
  rw [zdy] at h;unfold zhi at h
  split at h
  ·refine zc1b (zgE same val i v h) fun j hj e=>?_;exact ⟨j,by omega,e⟩
  ·rcases List.mem_append.mp h with z|z
   ·refine zc1b (zgE same val i v z) fun j hj e=>?_;exact ⟨j,by omega,e⟩
   ·exact ⟨i,by omega,List.mem_singleton.mp z⟩
noncomputable def Holds (hsh:Value->Int)(hp:Heap)(S:Addr)(ld:Bool)(D:List Value):Prop:=∃ es t,SetIs hp S es t/\es.toList.Perm (D.map fun v=>(hsh v,v))/\t.led=ld/\t.plain=true
section
variable {prog:Program}{w:World}{A:Around}{E:Value->Shared->Prop}{s:Shared}
theorem zlk {hp:Heap}{PV:Value->Prop}{hsh:Value->Int}{same:Value->Value->Bool}(K:KeyFam prog w hp PV hsh same){S:Addr}{ld:Bool}{D:List Value}{x:Value}{Q:Bool->Shared->Prop}
 (hk:∀ b o,hp.get? b=some o->s.heap.get? b=some o) (hu:A.units+8<cLine) (H:Holds hsh s.heap S ld D) (hD:∀ v∈D,PV v) (hx:PV x) (hl:D.length<=999)
 (h:∀ h' b,Heap.SameBut S s.heap h'->Holds hsh h' S ld (zhi same D x)->Q b { s with heap:=h' }):wpAny (model prog w) A (setAddHashed S x (hsh x)) Q E s:=by
 refine zc2d H fun es t SI pm hld hpl=>?_;obtain ⟨b,hb⟩:=K.ref x hx;have hlen:es.size=D.length:=by
  have:=pm.length_eq;rw [Zql,Array.length_toList] at this;exact this
 have ent:∀ i (hi:i<es.size),es[i].2∈D/\es[i].1=hsh es[i].2:=fun i hi=>by
  have hm:es[i]∈D.map fun v=>(hsh v,v):=pm.mem_iff.mp (by rw [Array.mem_toList_iff];exact Array.getElem_mem hi);refine zc1b (List.mem_map.mp hm) fun v hv e=>?_;rw [<- e];exact ⟨hv,rfl⟩
 have back:∀ v∈D,∃ i,∃ hi:i<es.size,es[i]=(hsh v,v):=fun v hv=>by
  have hm:(hsh v,v)∈es.toList:=pm.mem_iff.mpr (List.mem_map.mpr ⟨v,hv,rfl⟩);obtain ⟨i,hi,e⟩:=List.getElem_of_mem hm;exact ⟨i,by simpa using hi,by simpa using e⟩
 have px:=(K.plain x hx).keep hk;refine zsF (same:=fun y=>same y x) SI hb (by omega) (fun i hi _ Q' hq=>K.eq _ _ (hD _ (ent i hi).1) hx A E s Q' hk hu hq) (.inr fun Q' hq=>?_) (fun Q' hq=>zgK px 8 Q' (Nat.le_refl _) hq) (fun i hi h1 h2=>?_) fun hno h' es' t' sb S' pm' l' p'=>?_
 ·refine zhS (Nat.le_refl 8) px (fun y hy=>?_) hq;refine zc1b (List.mem_map.mp hy) fun e he zr2=>?_;subst zr2;have he:e∈es:=by
   have:=Array.mem_toList_iff.mp he;exact (Array.mem_filter.mp this).1
  obtain ⟨i,hi,rfl⟩:=Array.getElem_of_mem he;exact (K.plain _ (hD _ (ent i hi).1)).keep hk
 ·have e:zhi same D x=D:=if_pos (List.any_eq_true.mpr ⟨_,(ent i hi).1,h2⟩);have:=h s.heap false (Heap.SameBut.refl S s.heap) ⟨es,t,SI,by rw [e];exact pm,hld,hpl⟩;exact this
 ·have e:zhi same D x=D++[x]:=if_neg fun z=>by
   refine zc1b (List.any_eq_true.mp z) fun v hv hs=>?_;obtain ⟨i,hi,ei⟩:=back v hv;have:=hno i hi (by rw [ei];exact K.coh v x (hD v hv) hx hs);rw [ei] at this;rw [hs] at this;cases this
  refine h h' true sb ⟨es',t',S',?_,l'.trans hld,p'.trans hpl⟩;rw [e,List.map_append];exact pm'.trans (pm.append_right _)
end
section
variable {prog:Program}{w:World}{A:Around}{R:Result->Shared->Prop}{I:Addr}{fp wr:List Addr}{G:Array GenState->Array GenState->Prop}{n:Nat}{P:Nat->Value->Prop}{St:Nat->Shared->Prop}
theorem Holds.keep {hsh:Value->Int}{hp hp':Heap}{S:Addr}{ld:Bool}{D:List Value}(H:Holds hsh hp S ld D)(k:∀ o,hp.get? S=some o->hp'.get? S=some o):Holds hsh hp' S ld D:=by
 refine zc2b H fun es t SI r=>?_;obtain ⟨ep,ho⟩:=SI.at_;exact ⟨es,t,⟨⟨ep,k _ ho⟩,SI.tab,SI.seven,SI.most,SI.room,SI.refs⟩,r⟩
theorem zoM (W:WalksS prog w A.in1 I fp wr G n P St)(S:Addr)(hSf:S∉fp){hp:Heap}(hpw:∀ b o,hp.get? b=some o->b∉wr/\b≠S)
 {PV:Value->Prop} {hsh:Value->Int} {same:Value->Value->Bool} (K:KeyFam prog w hp PV hsh same) (val:Nat->Value) (hval:∀ i v,P i v->v=val i) (hPV:∀ i,i<n->PV (val i)) (hn:n<=999) (hu:A.in1.units+8<cLine) (ld:Bool) :
 ∀ (k i:Nat) (s:Shared),n-i=k->i<=n->St i s->(∀ b o,hp.get? b=some o->s.heap.get? b=some o)->Holds hsh s.heap S ld (dedV same val i) ->
  (∀ s',Moved (S::wr) G s s'->Holds hsh s'.heap S ld (dedV same val n)->R (.ok (.ret .none)) s') ->
  codeAny (model prog w) A (.builtin "set.update.loop" ⟨[.ref S,.ref I],[]⟩) R s:=by
 have hSw:S∉wr:=fun h=>hSf (W.sub _ h);have hsub:∀ b∈wr,b∈S::wr:=fun b hb=>Zqm _ hb;intro k
 induction k with
 |zero =>
  intro i s hk hi hst hkp H hR;have hin:i=n:=by omega
  subst hin;refine codeAny_builtin F.entry_set_update_loop ?_;rw [Around.under_plainId F.plain_set_update_loop _];show wpAny _ A.in1 (pyNext (.ref I) >>= _) _ _ s;refine wpAny_bind (W.done s _ _ hst fun s' hm=>?_);show wpAny _ A.in1 (ret Value.none) _ _ s';exact wpAny_pure (hR s' (hm.mono hsub) (H.keep fun o e=>hm.heap S _ hSw e))
 |succ k ih =>
  intro i s hk hi hst hkp H hR;have hlt:i<n:=by omega
  refine codeAny_builtin F.entry_set_update_loop ?_;rw [Around.under_plainId F.plain_set_update_loop _];show wpAny _ A.in1 (pyNext (.ref I) >>= _) _ _ s;refine wpAny_bind (W.item i s _ _ hlt hst fun v s' hP hst' hm=>?_);have ev:=hval i v hP;have H':=H.keep (hp':=s'.heap) fun o e=>hm.heap S _ hSw e;have hkp':∀ b o,hp.get? b=some o->s'.heap.get? b=some o:=fun b o e=>hm.heap b o (hpw b o e).1 (hkp b o e);have hv:PV v:=by rw [ev];exact hPV i hlt
  show wpAny _ A.in1 (holding [v] (setAdd S v) >>= _) _ _ s';refine wpAny_bind (wpAny_holding ?_);unfold setAdd;refine wpAny_holding ?_;refine wpAny_bind (K.hash v hv _ _ _ _ hkp' hu fun tk htk=>?_);have hl:=ziZ same val i;refine zlk K (s:={ s' with toks:=tk }) hkp' hu H' (fun u hu'=>?_) hv (by omega) fun h' b hsb H2=>?_
  ·refine zc1b (zgE same val i u hu') fun j hj e=>?_;rw [e];exact hPV j (by omega)
  ·rw [ev,<- zdy] at H2;refine wpAny_pure ⟨plainId_quiet F.plain_set_update_loop _,ih (i+1) _ (by omega) hlt (W.frame _ s' _ _ hst' ?_ fun b hb o e=>?_) (fun b o e=>?_) H2 fun s'' hm'' H''=>?_⟩
   ·exact htk
   ·rw [hsb.2 b (fun h:b=S=>hSf (by rw [<- h];exact hb))];exact e
   ·rw [hsb.2 b (hpw b o e).2];exact hkp' b o e
   ·refine hR s'' (Moved.trans W.gtrans ((hm.mono hsub).then_heap ?_ fun b o hb e=>?_) hm'') H''
    ·exact htk
    ·rw [hsb.2 b (fun h:b=S=>hb (by rw [h];exact Zqs))];exact e
end
theorem zmp (led:Bool):TabOk (SetTable.fresh 0 0 led) ((#[]:Array (Int×Value)).map (·.1)):=by
 refine ⟨by rw [Array.size_map];rfl,fun i j _ h=>absurd h (Nat.not_lt_zero _),fun i h=>absurd h (Nat.not_lt_zero _),rfl,⟨3,rfl⟩,Nat.zero_le _,fun i h=>absurd h (Nat.not_lt_zero _)⟩
theorem zif {hsh:Value->Int}{hp:Heap}{S:Addr}{led:Bool}(ho:hp.get? S=some { cls:=.type "set",dict:=none,data:=.set #[] 0 (.fresh 0 0 led) }):Holds hsh hp S led [] :=
 ⟨#[],.fresh 0 0 led,⟨⟨0,ho⟩,zmp led,Nat.le_refl _,Nat.le_refl _,(show 0*5<7*3 by decide),fun i h=>absurd h (Nat.not_lt_zero _)⟩,List.Perm.refl _,rfl,rfl⟩
section
variable {prog:Program}{w:World}{A:Around}{E:Value->Shared->Prop}{s:Shared}
noncomputable def ledW (w:World):Bool:=!w.params.followText "set-order"
theorem zht (a:Value){Q₁:Value->Shared->Prop}
 (h:Q₁ (.ref s.heap.objs.size) { s with heap:=s.heap.push { cls:=.type "set",dict:=none,data:=.set #[] 0 (.fresh 0 0 (ledW w)) } }) :
 codeAny (model prog w) A (.call (.builtin "set.__new__") ⟨[.type "set",a],[]⟩) (wants Q₁ E) s:=by
 refine codeAny_of_tree ?_;show wpAny _ A.in1 (do checkBuiltinCall "set.__new__" ⟨[.type "set",a],[]⟩;again (.builtin "set.__new__" ⟨[.type "set",a],[]⟩)) _ _ s;refine wpAny_bind (wpAny_of_eq (F.newCall_set_1 a) (wpAny_pure ⟨plainId_quiet F.plain_set_new _,codeAny_builtin F.entry_set_new ?_⟩));rw [Around.under_plainId F.plain_set_new _];unfold Builtin.«set.__new__» Builtin.Frozenset.newClass;have hsub:=sub_set_self;obtain ⟨hp,g,d,tk,os⟩:=s;dsimp only
 wp_walk
 refine wpAny_askSetting (wpAny_pure ?_);dsimp only;simp only [newObj];refine wpAny_bind (wpAny_alloc (wpAny_pure ?_));exact wpAny_pure h
set_option maxRecDepth 100000 in
set_option maxHeartbeats 3200000 in
theorem zhI {l:Addr}{items:Array Value}{PV:Value->Prop}{hsh:Value->Int}{same:Value->Value->Bool}{Q:Value->Shared->Prop}(hh:A.handled=none)(hl:s.heap.IsList l items)(K:KeyFam prog w s.heap PV hsh same)
 (hPV:∀ (i:Nat) (v:Value),items[i]? = some v->PV v) (hn:items.size<=999) (hu:A.in1.in1.in1.units+8<cLine)
 (h:∀ (h':Heap) (tk:Nat),Holds hsh h' s.heap.objs.size (ledW w) (dedV same (fun i=>items.getD i .none) items.size)->(∀ b o,b<s.heap.objs.size->s.heap.get? b=some o->h'.get? b=some o)->Q (.ref s.heap.objs.size) { s with heap:=h',toks:=tk }) :
 wpAny (model prog w) A (call (.type "set") [.ref l]) Q E s:=by
 have cn:=fun A:Around=>zht (prog:=prog) (w:=w) (A:=A) (E:=E) (s:=s) (.ref l) (Q₁:=fun obj s₁=>obj=.ref s.heap.objs.size/\s₁={ s with heap:=s.heap.push { cls:=.type "set",dict:=none,data:=.set #[] 0 (.fresh 0 0 (ledW w)) } }) ⟨rfl,rfl⟩;generalize ledW w=led at h cn;refine zc2a F.called_set.mro fun c tl hmro=>?_;have hmade:=F.called_set.made;have hsub:=F.called_set.sub;refine wpAny_call (codeAny_of_tree ?_);show wpAny _ _ (callAny (.type "set") _) _ _ _;refine wpAny_pure ⟨Code.quiet_builtin _ (by decide +kernel),codeAny_builtin F.entry_type_call ?_⟩;rw [Around.under_plain (weight_type_call_type "set" [.ref l] []) rfl];have h1:=F.called_set.notType;have h2:=F.called_set.canCreate;have hct:=F.typeCall_set_1 (.ref l)
 repeat (any_goals (first|assumption|wp_step))
 refine codeAny_mono (cn _) fun r s₁ hr=>?_;cases r with
 |error e=>exact hr
 |ok fl =>
  cases fl with
  |ret obj =>
   obtain ⟨rfl,rfl⟩:=hr;generalize hno:({ cls:=.type "set",dict:=none,data:=.set #[] 0 (.fresh 0 0 led) }:Obj)=no at *;have hS:(s.heap.push no).get? s.heap.objs.size=some no:=Heap.get?_push_size _ (by rw [<- hno];rfl);have hT:Shared.TypeIs { s with heap:=s.heap.push no } (.ref s.heap.objs.size) "set" := ⟨_,hS,by rw [<- hno]⟩;have hli:=F.called_set.init.lookup;have hbi:=F.called_set.init.bind (.ref s.heap.objs.size)
   repeat (any_goals (first|assumption|wp_step))
   refine codeAny_mono (codeAny_call_builtin (R:=wants (fun r s₂=>r=.none/\∃ h' tk,s₂={ s with heap:=h',toks:=tk }/\Holds hsh h' s.heap.objs.size led (dedV same (fun i=>items.getD i .none) items.size) /\
    (∀ b o,b<s.heap.objs.size->s.heap.get? b=some o->h'.get? b=some o)) E) F.called_set.init.plain F.entry_set_init (check_set_init_1 hT ?_)) fun r₂ s₂ hr₂=>?_
   ·refine zc1c hl fun ol hol hcl zz=>zc1a zz fun nl hdl=>?_;obtain ⟨ocls,odict,odata,oslots⟩:=ol;simp only at hcl hdl;subst hcl;subst hdl;have hol':(s.heap.push no).get? l=some { cls:=.type "list",dict:=odict,data:=.seq items nl,slots:=oslots }:=Heap.get?_push_of_some _ hol;have hsls:=F.sub_list_set;have hslf:=F.sub_list_frozenset;have hne:(Value.type "list" == Value.type "dict")=false:=by decide
    have hl1:(s.heap.push no).IsList l items:=⟨_,hol',rfl,nl,rfl⟩;subst hno;unfold Builtin.«set.__init__» noKeywords Builtin.Frozenset.updateFrom;generalize hPI:pyIter=PI
    wp_walk
    subst hPI;refine wpAny_pyIter_list hl1 ?_;refine wpAny_bind (wpAny_runValue ?_);have hlS:l<s.heap.objs.size:=Heap.lt_size hol;have hh3:A.in1.in1.in1.handled=none:=by simp [hh]
    generalize hno:({ cls:=.type "set",dict:=none,data:=.set #[] 0 (.fresh 0 0 led) }:Obj)=no at *;have szp:(s.heap.push no).objs.size=s.heap.objs.size+1:=Heap.size_push ..;have hneI:l≠(s.heap.push no).objs.size:=by rw [szp];exact Nat.ne_of_lt (Nat.lt_succ_of_lt hlS)
    have hSf:s.heap.objs.size ∉ [(s.heap.push no).objs.size,l]:=by
     simp only [List.mem_cons,List.not_mem_nil,or_false,not_or];exact ⟨by rw [szp];exact Nat.ne_of_lt (Nat.lt_succ_self _),Nat.ne_of_gt hlS⟩
    have hw:∀ (i:Nat) (v:Value),items[i]? = some v->v=(fun i=>items.getD i .none) i:=fun i v hv=>by
     show v=items.getD i .none;rw [Array.getD_eq_getD_getElem?,hv];rfl
    refine zoM ((Walks.list hh3 _ l hneI items).toS) s.heap.objs.size hSf (hp:=s.heap) (fun b o e=>?_) K (fun i=>items.getD i .none) hw (fun i hi=>?_) hn (by exact hu) led (items.size-0) 0 _ (by omega) (Nat.zero_le _)
     ⟨⟨_,Heap.get?_push_size _ rfl,rfl,rfl⟩,(hl1.push _)⟩ (fun b o e=>Heap.get?_push_of_some _ (Heap.get?_push_of_some _ e)) (zif (by rw [hno];exact Heap.get?_push_of_some _ hS)) fun s' hm H'=>?_
    ·have hb:=Heap.lt_size e;refine ⟨?_,Nat.ne_of_lt hb⟩;simp only [List.mem_cons,List.not_mem_nil,or_false];rw [szp];exact Nat.ne_of_lt (Nat.lt_succ_of_lt hb)
    ·exact hPV i _ (by show items[i]? = some (items.getD i .none);rw [zaU hi,Array.getElem?_eq_getElem hi])
    ·obtain ⟨h',g',d',tk',os'⟩:=s';have eg:g'=s.gens:=hm.gens;have ed:d'=s.drawn:=hm.drawn;have eo:os'=s.os:=hm.os;subst eg;subst ed;subst eo;show wpAny _ _ _ _ _ _;refine wpAny_pure ?_;show wpAny _ _ (ret Value.none) _ _ _;refine wpAny_pure ⟨rfl,h',tk',rfl,H',fun b o hb e=>?_⟩;exact hm.heap b o (by simp only [List.mem_cons,List.not_mem_nil,or_false,not_or];exact ⟨Nat.ne_of_lt hb,by rw [szp];exact Nat.ne_of_lt (Nat.lt_succ_of_lt hb)⟩) (Heap.get?_push_of_some _ (Heap.get?_push_of_some _ e))
   ·cases r₂ with
    |error e=>exact hr₂
    |ok fl₂ =>
     cases fl₂ with
     |ret r =>
      refine zc0b hr₂ fun zr0 zz=>zc2c zz fun h' tk zr3 hS' hk'=>?_;subst zr0;subst zr3
      repeat (any_goals (first|assumption|wp_step))
      exact h _ _ hS' hk'
     |_=>exact hr₂.elim
  |_=>exact hr.elim
end
noncomputable def zfm (p:Int×Int):PyData:=.tuple [.int p.1,.int p.2]
def rowP (r:List (Int×Int)):PyData:=.tuple (r.map zfm)
def ziC (p:Int×Int):Int:=zib ([p.1,p.2].map hashInt)
def zlp (r:List (Int×Int)):Int:=zib (r.map ziC)
noncomputable def zdv (hp:Heap)(v:Value)(p:Int×Int):Prop:=∃ a o vs n t u,v=.ref a/\hp.get? a=some o/\o.cls=.type "tuple" /\ o.data=.seq vs n/\vs.toList=[.int p.1 t,.int p.2 u]
inductive IsPairs (hp:Heap):List Value->List (Int×Int)->Prop
 |nil:IsPairs hp [] []
 |cons {v vs p r}:zdv hp v p->IsPairs hp vs r->IsPairs hp (v::vs) (p::r)
noncomputable def zdg (hp:Heap)(v:Value)(r:List (Int×Int)):Prop:=∃ a o vs n,v=.ref a/\hp.get? a=some o/\o.cls=.type "tuple" /\ o.data=.seq vs n/\IsPairs hp vs.toList r
theorem zjM {hp:Heap}{v:Value}{p:Int×Int}(h:zdv hp v p):Reads hp v (zfm p) []:=by
 refine zc4a h fun a o vs n zz=>zc2a zz fun t u zz=>zc0e zz fun zr6 h1 h2 h3 h4=>?_;subst zr6;refine .tuple h1 h2 h3 ?_;rw [h4];exact .cons (as:=[]) (bs:=[]) (.int _ _) (.cons (as:=[]) (bs:=[]) (.int _ _) .nil)
theorem zi6 {hp:Heap}:∀ {vs:List Value} {r:List (Int×Int)},IsPairs hp vs r->ReadsAll hp vs (r.map zfm) []:=fun h=>by
 induction h with
 |nil=>exact .nil
 |cons h1 _ ih=>exact .cons (as:=[]) (bs:=[]) (zjM h1) ih
theorem zhA {hp:Heap}{v:Value}{r:List (Int×Int)}(h:zdg hp v r):Reads hp v (rowP r) []:=by
 refine zc4a h fun a o vs n zz=>zc0e zz fun zr4 h1 h2 h3 h4=>?_;subst zr4;exact .tuple h1 h2 h3 (zi6 h4)
theorem zdv.keep {hp hp':Heap}(k:∀ b o,hp.get? b=some o->hp'.get? b=some o){v:Value}{p:Int×Int}(h:zdv hp v p):zdv hp' v p:=by
 refine zc4a h fun a o vs n zz=>zc2c zz fun t u e h1 r=>?_;exact ⟨a,o,vs,n,t,u,e,k _ _ h1,r⟩
theorem IsPairs.keep {hp hp':Heap}(k:∀ b o,hp.get? b=some o->hp'.get? b=some o){vs:List Value}{r:List (Int×Int)}(h:IsPairs hp vs r):IsPairs hp' vs r:=by
 induction h with
 |nil=>exact .nil
 |cons h1 _ ih=>exact .cons (h1.keep k) ih
theorem zdg.keep {hp hp':Heap}(k:∀ b o,hp.get? b=some o->hp'.get? b=some o){v:Value}{r:List (Int×Int)}(h:zdg hp v r):zdg hp' v r:=by
 refine zc4a h fun a o vs n zz=>zc0e zz fun e h1 h2 h3 h4=>?_;exact ⟨a,o,vs,n,e,k _ _ h1,h2,h3,h4.keep k⟩
theorem zkb {hp:Heap}{v:Value}{p:Int×Int}(h:zdv hp v p)(n:Nat):PlainV hp (n+1) v:=by
 refine zc4a h fun a o vs k zz=>zc2a zz fun t u zz=>zc0e zz fun zr6 h1 h2 h3 h4=>?_;subst zr6;refine .tup h1 h2 h3 fun x hx=>?_;rw [h4] at hx;rcases List.mem_cons.mp hx with e|e
 ·rw [e];exact .int _ _ _
 ·rw [List.mem_singleton.mp e];exact .int _ _ _
theorem zk4 {hp:Heap}{v:Value}{r:List (Int×Int)}(h:zdg hp v r)(n:Nat):PlainV hp (n+2) v:=by
 obtain ⟨a,o,vs,k,rfl,h1,h2,h3,h4⟩:=h;refine .tup h1 h2 h3 ?_;generalize vs.toList=l at h4
 induction h4 with
 |nil=>intro x hx;cases hx
 |cons g1 _ ih =>
  intro x hx;rcases List.mem_cons.mp hx with e|e
  ·rw [e];exact zkb g1 n
  ·exact ih x e
section
variable {prog:Program}{w:World}{A:Around}{E:Value->Shared->Prop}{s:Shared}
theorem zkm (hu:A.units<cLine):∀ {vs:List Value} {r:List (Int×Int)},IsPairs s.heap vs r->HashAll prog w A E s vs (r.map ziC):=fun h=>by
 induction h with
 |nil=>exact .nil
 |cons h1 _ ih =>
  refine .cons (fun tk Q h=>?_) ih;refine zc4a h1 fun a o vs n zz=>zc2a zz fun t u zz=>zc0e zz fun zr6 g1 g2 g3 g4=>?_;subst zr6;refine ziS g1 g2 g3 hu ?_ h;rw [g4];exact zh1 (.cons _ _ (.cons _ _ .nil))
theorem zon {v:Value}{r:List (Int×Int)}{Q:Int->Shared->Prop}(hr:zdg s.heap v r)(hu:A.units<cLine)(hu1:A.in1.units<cLine)(h:∀ tk,s.toks<=tk->Q (zlp r) { s with toks:=tk }):wpAny (model prog w) A (pyHash v) Q E s:=by
 refine zc4a hr fun a o vs n zz=>zc0e zz fun zr4 g1 g2 g3 g4=>?_;subst zr4;have e:s={ s with toks:=s.toks }:=by cases s;rfl
 rw [e];exact ziS (tk0:=s.toks) g1 g2 g3 hu (zkm hu1 g4) h
end
theorem znF (p q:Int×Int):PyData.eqv (zfm p) (zfm q)=decide (p=q):=by
 unfold zfm PyData.eqv PyData.eqvAll PyData.eqvAll PyData.eqvAll PyData.eqv;obtain ⟨a,b⟩:=p;obtain ⟨c,d⟩:=q;rw [Bool.eq_iff_iff];simp
theorem zhZ:∀ r q:List (Int×Int),PyData.eqvAll (r.map zfm) (q.map zfm)=decide (r=q)
 | [],[]=>by unfold List.map PyData.eqvAll;simp
 | [],_::_=>by rw [List.map_cons,List.map_nil];unfold PyData.eqvAll;simp
 |_::_,[]=>by rw [List.map_cons,List.map_nil];unfold PyData.eqvAll;simp
 |p::r,q::s=>by
  rw [List.map_cons,List.map_cons];unfold PyData.eqvAll;rw [znF,zhZ r s,Bool.eq_iff_iff];simp
theorem zrc (r q:List (Int×Int)):PyData.eqv (rowP r) (rowP q)=decide (r=q):=by
 unfold rowP PyData.eqv;exact zhZ r q
theorem zgR:∀ r:List (Int×Int),PyData.canLayAll0 (r.map zfm)=true
 | []=>rfl
 |p::r=>by
  rw [List.map_cons];unfold PyData.canLayAll0;rw [zgR r];rfl
theorem zmM (r:List (Int×Int)):(rowP r).canLay0=true:=zgR r
theorem zfv:∀ r:List (Int×Int),PyData.depthAll (r.map zfm)<=1
 | []=>Nat.zero_le _
 |p::r=>by
  rw [List.map_cons];unfold PyData.depthAll;have h1:(zfm p).depth=1:=rfl;have h2:=zfv r;rw [h1];omega
theorem zna (r:List (Int×Int)):(rowP r).depth<=2:=Nat.succ_le_succ (zfv r)
theorem zdv.inj {hp:Heap}{v:Value}{p q:Int×Int}(h:zdv hp v p)(h':zdv hp v q):p=q:=by
 refine zc4a h fun a o vs n zz=>zc2a zz fun t u zz=>zc0e zz fun zr6 h1 h2 h3 h4=>?_;subst zr6;refine zc4a h' fun a' o' vs' n' zz=>zc2a zz fun t' u' zz=>zc0e zz fun e k1 k2 k3 k4=>?_;cases e;rw [h1] at k1;obtain rfl:=Zqi k1;rw [h3] at k3;cases k3;rw [h4] at k4;simp only [List.cons.injEq,Value.int.injEq,and_true] at k4;exact Prod.ext k4.1.1 k4.2.1
theorem IsPairs.inj {hp:Heap}:∀ {vs:List Value} {r q:List (Int×Int)},IsPairs hp vs r->IsPairs hp vs q->r=q:=fun {vs r q} g h=>by
 induction g generalizing q with
 |nil=>cases h;rfl
 |cons h1 _ ih =>
  cases h with
  |cons k1 k2=>rw [h1.inj k1,ih k2]
theorem zdg.inj {hp:Heap}{v:Value}{r q:List (Int×Int)}(h:zdg hp v r)(h':zdg hp v q):r=q:=by
 refine zc4a h fun a o vs n zz=>zc0e zz fun zr4 h1 h2 h3 h4=>?_;subst zr4;refine zc4a h' fun a' o' vs' n' zz=>zc0e zz fun e k1 k2 k3 k4=>?_;cases e;rw [h1] at k1;obtain rfl:=Zqi k1;rw [h3] at k3;cases k3;exact h4.inj k4
open Classical in
def rowV (hp:Heap)(v:Value):List (Int×Int):=if h:∃ r,zdg hp v r then h.choose else []
theorem zff {hp:Heap}{v:Value}{r:List (Int×Int)}(h:zdg hp v r):rowV hp v=r:=by
 unfold rowV;have e:∃ r,zdg hp v r:=⟨r,h⟩;rw [dif_pos e];exact e.choose_spec.inj h
theorem znd (prog:Program)(w:World)(hp:Heap):KeyFam prog w hp (fun v=>∃ r,zdg hp v r) (fun v=>zlp (rowV hp v)) (fun v u=>decide (rowV hp v=rowV hp u)) where
 ref:=by
  rintro v ⟨r,a,o,vs,n,e,_⟩;exact ⟨a,e⟩
 plain:=by
  rintro v ⟨r,h⟩;exact zk4 h 6
 hash:=by
  rintro v ⟨r,h⟩ A E s Q hk hu hq;rw [zff h] at hq;exact zon (h.keep hk) (by omega) (show A.units+1<cLine by omega) hq
 eq:=by
  rintro v u ⟨r,h⟩ ⟨q,h'⟩ A E s Q hk hu hq;rw [zff h,zff h',<- zrc] at hq;have d1:=zna r;exact SeqAt.eqBoolOverData prog w A E s v u (rowP r) (rowP q) [] [] Q (zhA (h.keep hk)) (zhA (h'.keep hk)) (zmM r) (zmM q) (by omega) hq
 coh:=by
  intro v u _ _ h;rw [of_decide_eq_true h]
theorem zbg:Slot "set_iterator" "__next__" "set_iterator.__next__" :=
 .of (owner := "set_iterator") (n := "__next__") (by rw [typeLookup_type,builtinLookup_eq_fast];kernel_rfl) (by decide +kernel) (by decide +kernel) (by decide +kernel)
  (by first|exact .inl (by decide +kernel)|exact .inr (by decide +kernel)) (by rw [isSubtype_type];kernel_rfl)
theorem zcN:entryFor table "set_iterator.__next__" = some Builtin.«set_iterator.__next__»:=entryFor_of_tree (by kernel_rfl)
theorem zhc:Manifest.owners.lookup (String.ofList ['r','o','t','a','r','e','t','i','_','t','e','s'].reverse)=some Manifest.sig_set_iterator:=by kernel_rfl
theorem zd5 (a:Value):argsOk "set_iterator.__next__" ⟨[a],[]⟩:=by
 unfold argsOk;rw [signature?_of (id := "set_iterator.__next__") (n:=['_','_','t','x','e','n','_','_']) (o:=['r','o','t','a','r','e','t','i','_','t','e','s']) (by kernel_rfl) zhc];kernel_rfl
theorem zf6:entryFor table "set.__iter__" = some Builtin.«frozenset.__iter__»:=entryFor_alias (id' := "frozenset.__iter__") (by kernel_rfl) rfl (by decide +kernel) (by kernel_rfl)
theorem zdz:Slot "set_iterator" "__iter__" "set_iterator.__iter__" :=
 .of (owner := "set_iterator") (n := "__iter__") (by rw [typeLookup_type,builtinLookup_eq_fast];kernel_rfl) (by decide +kernel) (by decide +kernel) (by decide +kernel)
  (by first|exact .inl (by decide +kernel)|exact .inr (by decide +kernel)) (by rw [isSubtype_type];kernel_rfl)
theorem zf5:entryFor table "set_iterator.__iter__" = some Builtin.«dict_keyiterator.__iter__» :=
 entryFor_alias (id' := "dict_keyiterator.__iter__") (by kernel_rfl) (by first|rfl|decide +kernel|(unfold String.splitOn;simp -iota +decide [String.splitOnAux])) (by decide +kernel) (by kernel_rfl)
theorem zgi (a:Value):argsOk "set_iterator.__iter__" ⟨[a],[]⟩:=by
 unfold argsOk;rw [signature?_of (id := "set_iterator.__iter__") (n:=['_','_','r','e','t','i','_','_']) (o:=['r','o','t','a','r','e','t','i','_','t','e','s']) (by kernel_rfl) zhc];kernel_rfl
abbrev zpX (h:Heap)(it S:Addr)(slot i n ep:Nat):Prop:=h.get? it=some { cls:=.type "set_iterator",dict:=none,data:=.fields #[.int slot 0,.int i 0,.ref S,.int n 0,.int ep 0],slots:=#[] }
abbrev zfo (es:Array (Int×Value))(ep:Nat)(t:SetTable):Obj:={ cls:=.type "set",dict:=none,data:=.set es ep t,slots:=#[] }
noncomputable def zdt (w:World)(S ep:Nat)(es:Array (Int×Value)):Array (Int×Value):=if w.params.followText "set-order" then pickOrder (w.params.setOrder S ep) es else es
theorem zms {α : Type}(next:Nat->Nat):∀ (fuel k:Nat) (left:List α) (out:Array α),left.length<=fuel->(pickOrder.go next fuel k left out).toList.Perm (out.toList++left)
 | 0,k,left,out,h=>by
  have:left=[]:=List.length_eq_zero_iff.mp (by omega);subst this;unfold pickOrder.go;rw [List.append_nil]
 |fuel+1,k,left,out,h=>by
  unfold pickOrder.go;cases q:left[next k % left.length]? with
  |none =>
   have hl:left.length=0:=by
    rcases Nat.eq_zero_or_pos left.length with z|z
    ·exact z
    ·have:=Nat.mod_lt (next k) z;rw [Zqg this] at q;cases q
   have:left=[]:=List.length_eq_zero_iff.mp hl;subst this;rw [List.append_nil]
  |some x =>
   have hi:=(List.getElem?_eq_some_iff.mp q).1;have ex:=(List.getElem?_eq_some_iff.mp q).2;have hl:=List.length_eraseIdx_of_lt hi;refine (zms next fuel (k+1) _ _ (by omega)).trans ?_;rw [Array.toList_push,List.append_assoc];refine List.Perm.append_left _ ?_;have e1:left=left.take (next k % left.length)++x::left.drop (next k % left.length+1):=by
    have:=List.drop_eq_getElem_cons hi;rw [ex] at this;rw [<- this,List.take_append_drop]
   rw [List.eraseIdx_eq_take_drop_succ];refine List.Perm.trans ?_ (List.Perm.of_eq e1.symm);exact (List.perm_middle (l₁:=left.take (next k % left.length))).symm
theorem zle {α : Type}(next:Nat->Nat)(es:Array α):(pickOrder next es).toList.Perm es.toList:=by
 unfold pickOrder;have:=zms next es.size 0 es.toList #[] (by simp -iota);simpa -iota using this
theorem zgP (w:World)(S ep:Nat)(es:Array (Int×Value)):(zdt w S ep es).toList.Perm es.toList:=by
 unfold zdt
 split
 ·exact zle _ _
 ·exact List.Perm.refl _
theorem ze8 (w:World)(S ep:Nat)(es:Array (Int×Value)):(zdt w S ep es).size=es.size:=by
 have:=(zgP w S ep es).length_eq;simpa -iota using this
theorem zj5 {xs:Array Nat}(u:UpA xs){i:Nat}(hi:i<xs.size):SetTable.below xs (xs[i]+1)=i+1:=by
 refine zc0c (zeq u (xs[i]+1)) fun h1 h2 h3=>?_;have e:xs.getD i 0=xs[i]:=zaU hi 0;rcases Nat.lt_trichotomy (SetTable.below xs (xs[i]+1)) (i+1) with q|q|q
 ·have:=h3 i (by omega) hi;omega
 ·exact q
 ·have a:=h2 (i+1) q;have b:=u i (i+1) (by omega) (by omega);omega
theorem zkw (xs:Array Nat)(u:UpA xs):SetTable.below xs 0=0:=by
 refine zc0c (zeq u 0) fun h1 h2 h3=>?_;rcases Nat.eq_zero_or_pos (SetTable.below xs 0) with q|q
 ·exact q
 ·have:=h2 0 q;omega
section
variable {prog:Program}{w:World}{A:Around}{E:Value->Shared->Prop}{s:Shared}
theorem znN {S ep:Nat}{es:Array (Int×Value)}{t:SetTable}{Q:Value->Shared->Prop}(ho:s.heap.get? S=some (zfo es ep t))(hf:t.fits es.size=true)(hp:t.plain=true)
 (hQ:Q (.ref s.heap.objs.size) { s with heap:=s.heap.push { cls:=.type "set_iterator",data:=.fields #[.int 0 0,.int 0 0,.ref S,.int es.size 0,.int ep 0] } }):wpAny (model prog w) A (pyIter (.ref S)) Q E s:=by
 have hT:s.TypeIs (.ref S) "set" := ⟨_,ho,rfl⟩;refine wpAny_pyIter_slot hT F.slot_set_iter (wpAny_call_entry F.slot_set_iter hT zf6 ?_ (F.args_set_iter_1 _));unfold Builtin.«frozenset.__iter__» Builtin.Frozenset.slot0 slotArgs;simp only [List.isEmpty_nil,Bool.not_true,Bool.false_eq_true,↓reduceIte,bind_assoc,List.length_nil,bne_self_eq_false];unfold Builtin.Frozenset.addrOf Builtin.Frozenset.sizeOf;refine wpAny_bind (wpAny_pure ?_)
 try dsimp only
 refine wpAny_bind (wpAny_pure ?_);refine wpAny_bind (wpAny_bind (wpAny_setEntries_of ho rfl hf (wpAny_pure ?_)));have hd:wpAny (model prog w) A.in1 (setDrawn S) (fun b s'=>b=false/\s'=s) E s:=by
  unfold setDrawn;refine wpAny_bind (wpAny_setState_of ho rfl hf ?_);unfold setsByText;refine wpAny_bind (wpAny_bind (wpAny_askSetting (wpAny_pure ?_)));refine wpAny_pure ⟨?_,rfl⟩;obtain ⟨mask,place,dummies,finger,led,moves,plain⟩:=t;cases hp;exact Bool.and_false _
 refine wpAny_bind (wpAny_mono hd (fun b s' z=>?_) fun _ _ e=>e);obtain ⟨rfl,rfl⟩:=z;simp only [Bool.false_eq_true,↓reduceIte];refine wpAny_bind (wpAny_pure ?_);unfold setEpoch;refine wpAny_bind (wpAny_bind (wpAny_setState_of ho rfl hf (wpAny_pure ?_)));unfold newFields;refine wpAny_bind (wpAny_newObj_type (wpAny_pure ⟨_,rfl, "set_iterator",_,⟨_,Heap.get?_push_size _ rfl,rfl⟩,zbg.lookup,hQ⟩) (by simp only [sizeOk,sizeLine_eq,List.size_toArray,List.length_cons,List.length_nil];omega))
theorem zmR {S:Addr}{slot i ep:Nat}{es:Array (Int×Value)}{t:SetTable}{Q:Option (Value×Nat)->Shared->Prop}(ho:s.heap.get? S=some (zfo es ep t))(hf:t.fits es.size=true)(hp:t.plain=true)(hl:t.led=ledW w)(hu:UpA t.place)(hz:t.place.size=es.size)
 (hb:w.params.followText "set-order" = false->SetTable.below t.place slot=i)
 (hQ:∀ slot',(w.params.followText "set-order" = false->i<es.size->SetTable.below t.place slot'=i+1)->Q (((zdt w S ep es)[i]?).map fun e=>(e.2,slot')) s):wpAny (model prog w) A (setNext S slot i ep) Q E s:=by
 unfold setNext;refine wpAny_bind (wpAny_setState_of ho rfl hf ?_);unfold setsByText;refine wpAny_bind (wpAny_bind (wpAny_askSetting (wpAny_pure ?_)));cases q:w.params.followText "set-order" with
 |true =>
  have e:({ program:=(model prog w).prog,params:=(model prog w).w.params }:Setting).params.followText "set-order" = true:=q;rw [if_pos e];dsimp only;rw [if_neg (by simp -iota)];unfold setWalk;refine wpAny_bind (wpAny_bind (wpAny_setState_of ho rfl hf ?_));unfold setsByText;refine wpAny_bind (wpAny_bind (wpAny_askSetting (wpAny_pure ?_)));rw [if_pos e];refine wpAny_bind (wpAny_askSetting (wpAny_pure (wpAny_pure ?_)));have:=hQ slot fun z=>by rw [q] at z;cases z
  unfold zdt at this;rw [if_pos q] at this;exact this
 |false =>
  have e:¬ ({ program:=(model prog w).prog,params:=(model prog w).w.params }:Setting).params.followText "set-order" = true:=by
   show ¬ w.params.followText "set-order" = true;rw [q];simp -iota
  rw [if_neg e];dsimp only;have hw:zdt w S ep es=es:=by unfold zdt;rw [q];rfl
  rw [hw] at hQ;have hb:=hb q;rw [hb];have hl:t.led=true:=by rw [hl];unfold ledW;rw [q];rfl
  obtain ⟨mask,place,dummies,finger,led,moves,plain⟩:=t;cases hp;cases hl
  split
  ·rename_i z;exact absurd z Bool.false_ne_true
  ·refine wpAny_bind ?_;refine wpAny_pure (a:=()) ?_;refine wpAny_pure ?_;by_cases hi:i<es.size
   ·have hj:i<place.size:=by rw [show place.size=es.size from hz];exact hi
    have:=hQ (place[i]+1) fun _ _=>zj5 hu hj;rw [Array.getElem?_eq_getElem hi] at this;rw [Array.getElem?_eq_getElem hi,Array.getElem?_eq_getElem hj];exact this
   ·have:=hQ 0 fun _ z=>absurd z hi;rw [Array.getElem?_eq_none (by omega)] at this;rw [Array.getElem?_eq_none (show es.size<=i by omega)];exact this
abbrev zlc (w:World)(it S:Addr)(es:Array (Int×Value))(ep:Nat)(t:SetTable)(i:Nat)(h:Heap):Prop:=(∃ slot,zpX h it S slot i es.size ep/\(w.params.followText "set-order" = false->i<=es.size->SetTable.below t.place slot=i))/\h.get? S=some (zfo es ep t)
structure SetGood (w:World)(es:Array (Int×Value))(t:SetTable):Prop where
 fits:t.fits es.size=true
 plain:t.plain=true
 led:t.led=ledW w
 up:UpA t.place
 size:t.place.size=es.size
theorem znq {it S:Addr}{i ep:Nat}{es:Array (Int×Value)}{t:SetTable}{Q:Option Value->Shared->Prop}(G:SetGood w es t)(st:zlc w it S es ep t i s.heap)(hi:i<es.size)
 (hQ:∀ h' x,(∃ k,(zdt w S ep es)[i]? = some (k,x))->zlc w it S es ep t (i+1) h'->Heap.SameBut it s.heap h'->Q (some x) { s with heap:=h' }):wpAny (model prog w) A (pyNext (.ref it)) Q E s:=by
 obtain ⟨⟨slot,hit,hb⟩,ho⟩:=st;have hT:s.TypeIs (.ref it) "set_iterator" := ⟨_,hit,rfl⟩;have hne:S≠it:=fun z=>by
  subst z;unfold zpX at hit;rw [ho] at hit;have:=congrArg Obj.data (Zqi hit);cases this
 unfold pyNext;refine wpAny_bind (wpAny_attempt (wpAny_callSpecial?_slot (name:=Str.ofString "__next__") hT zbg
  (wpAny_call_entry zbg hT zcN ?_ (zd5 _))))
 unfold Builtin.«set_iterator.__next__» slotArgs;simp -iota only [List.isEmpty_nil,Bool.not_true,Bool.false_eq_true,↓reduceIte,bind_assoc,List.length_nil,bne_self_eq_false];refine wpAny_bind (wpAny_pure ?_)
 try dsimp only
 refine wpAny_bind (wpAny_fieldsOf hit rfl ?_);dsimp only;refine wpAny_bind (wpAny_setEntries_of ho rfl G.fits ?_);rw [if_neg (by simp -iota)];simp -iota only [Int.toNat_natCast];refine wpAny_bind (zmR ho G.fits G.plain G.led G.up G.size (fun z=>hb z (by omega)) fun slot' hs=>?_);have hw:i<(zdt w S ep es).size:=by rw [ze8];exact hi
 rw [Array.getElem?_eq_getElem hw];dsimp only [Option.map_some];refine wpAny_bind (wpAny_setField_rec hit (by simp -iota) fun h₁ he₁ hs₁=>?_);refine wpAny_bind (wpAny_setField_rec (s:={ s with heap:=h₁ }) he₁ (by simp -iota) fun h₂ he₂ hs₂=>?_);have hs₂:Heap.SameBut it h₁ h₂:=hs₂;have hs₁:Heap.SameBut it s.heap h₁:=hs₁;refine wpAny_pure ⟨_,rfl,wpAny_pure (hQ h₂ _ ⟨_,by rw [Array.getElem?_eq_getElem hw]⟩ ⟨⟨slot',?_,fun z _=>hs z hi⟩,hs₂.extBut _ _ hne (hs₁.extBut _ _ hne ho)⟩ ⟨hs₂.1.trans hs₁.1,fun b hb=>(hs₂.2 b hb).trans (hs₁.2 b hb)⟩)⟩;have e:((i+1:Nat):Int)=(i:Int)+1:=by omega
 unfold zpX;rw [e];simpa -iota [rawInt] using he₂
theorem zqZ {it S:Addr}{i ep:Nat}{es:Array (Int×Value)}{t:SetTable}{Q:Option Value->Shared->Prop}(hh:A.handled=none)(G:SetGood w es t)(st:zlc w it S es ep t i s.heap)(hi:i=es.size)
 (hQ:∀ h',Heap.ExtBut it s.heap h'->Q none { s with heap:=h' }):wpAny (model prog w) A (pyNext (.ref it)) Q E s:=by
 obtain ⟨⟨slot,hit,hb⟩,ho⟩:=st;have hT:s.TypeIs (.ref it) "set_iterator" := ⟨_,hit,rfl⟩;unfold pyNext;refine wpAny_bind (wpAny_attempt (wpAny_callSpecial?_slot (name:=Str.ofString "__next__") hT zbg
  (wpAny_call_entry zbg hT zcN ?_ (zd5 _))))
 unfold Builtin.«set_iterator.__next__» slotArgs;simp -iota only [List.isEmpty_nil,Bool.not_true,Bool.false_eq_true,↓reduceIte,bind_assoc,List.length_nil,bne_self_eq_false];refine wpAny_bind (wpAny_pure ?_)
 try dsimp only
 refine wpAny_bind (wpAny_fieldsOf hit rfl ?_);dsimp only;refine wpAny_bind (wpAny_setEntries_of ho rfl G.fits ?_);rw [if_neg (by simp -iota)];simp -iota only [Int.toNat_natCast];refine wpAny_bind (zmR ho G.fits G.plain G.led G.up G.size (fun z=>hb z (by omega)) fun slot' hs=>?_);rw [Array.getElem?_eq_none (by rw [ze8];omega)];dsimp only [Option.map_none];refine wpAny_bind (wpAny_setField hit rfl (by simp -iota) ?_);show wpAny _ _ (newExc (.type "StopIteration") [] >>= _) _ _ _;refine wpAny_bind ?_;simp -iota only [newExc,newTuple];refine wpAny_bind (wpAny_newObj_type ?_ (by size_fits));refine wpAny_bind (m:=firstArgMember _ _) (wpAny_of_eq (a:=Value.none) (by first|rfl|(simp -iota only [firstArgMember];rfl)) ?_);refine wpAny_newObj_type ?_ (by size_fits);simp -iota only [raiseNew];refine wpAny_bind (wpAny_handled ?_);rw [show A.in1.handled=none from hh];refine wpAny_bind (wpAny_pure (wpAny_throw ?_));refine wpAny_bind (wpAny_isInstance (T := "StopIteration") (b:=true) ⟨_,Heap.get?_push_size _ rfl,rfl⟩ isSubtype_stop ?_);exact wpAny_pure (hQ _ (((Heap.SameBut.update ..).extBut.push _).push _))
end
theorem zk1 {prog:Program}{w:World}{A:Around}(hh:A.handled=none){it S ep:Nat}{es:Array (Int×Value)}{t:SetTable}(G:SetGood w es t):WalksS prog w A it [it,S] [it] (fun g g'=>g'=g) es.size (fun i v=>∃ k,(zdt w S ep es)[i]? = some (k,v)) (fun i s=>zlc w it S es ep t i s.heap) :=
 (show Walks prog w A it [it,S] [it] es.size (fun i v=>∃ k,(zdt w S ep es)[i]? = some (k,v)) (fun i h=>zlc w it S es ep t i h) from {
  sub:=fun b hb=>by simp -iota at hb;simp -iota [hb]
  frame:=fun i h h' st hk=>⟨(let ⟨slot,a,b⟩:=st.1;⟨slot,hk it (by simp -iota) _ a,b⟩),hk S (by simp -iota) _ st.2⟩
  item:=fun i s Q E hi st hQ=>znq G st hi fun h' x hx st' sb=>hQ x h' s.toks hx st' fun b o hb e=>sb.extBut b o (fun h=>hb (by simp -iota [h])) e
  done:=fun s Q E st hQ=>zqZ hh G st rfl fun h' eb=>hQ h' s.toks fun b o hb e=>eb b o (fun h=>hb (by simp -iota [h])) e
  self:=fun i s Q E st hQ=>by
   obtain ⟨⟨slot,hit,hb⟩,ho⟩:=st;have hT:s.TypeIs (.ref it) "set_iterator" := ⟨_,hit,rfl⟩;refine wpAny_pyIter_slot hT zdz (wpAny_call_entry zdz hT zf5 ?_ (zgi _));show wpAny _ _ (ret (.ref it)) _ _ s;exact wpAny_pure ⟨_,rfl, "set_iterator",_,hT,zbg.lookup,hQ⟩ }).toS
theorem zqW:typeLookup (.type "set") "__len__" = pure (some (.builtin "set.__len__")):=by rw [typeLookup_type,builtinLookup_eq_fast];kernel_rfl
section
variable {prog:Program}{w:World}{A:Around}{E:Value->Shared->Prop}{s:Shared}
theorem znJ {r:Addr}(hT:s.TypeIs (.ref r) "set"){Q:Bool->Shared->Prop}(h:Q false s):wpAny (model prog w) A (Builtin.List.listLengthHint (.ref r)) Q E s:=by
 unfold Builtin.List.listLengthHint;refine wpAny_bind (wpAny_specialOf hT zqW ?_);generalize hid:("set.__len__" : String)=id0
 wp_delta
 rw [show splitId id0=some ("set", "__len__") from by subst hid;decide +kernel];subst hid;refine wpAny_bind (wpAny_isInstance (T := "set") (b:=true) hT (by rw [isSubtype_type];kernel_rfl) ?_);refine wpAny_ite_split (fun hab=>absurd hab (by decide)) (fun _=>?_);refine wpAny_ite_split (fun _=>?_) (fun hab=>absurd (by decide +kernel) hab);refine wpAny_bind (wpAny_typeOf hT ?_);exact wpAny_pure h
theorem ziq {S ep:Nat}{es:Array (Int×Value)}{t:SetTable}{R:List Value->Shared->Prop}(hh:A.handled=none)(ho:s.heap.get? S=some (zfo es ep t))(G:SetGood w es t)(hn:es.size<=1000)
 (h:∀ (h':Heap) (tk:Nat) (vs:List Value),(∀ b o,s.heap.get? b=some o->h'.get? b=some o)->vs.Perm (es.toList.map (·.2))->s.heap.objs.size<h'.objs.size->R vs { s with heap:=h',toks:=tk }):wpAny (model prog w) A (collect (.ref S)) R E s:=by
 have hS:S<s.heap.objs.size:=Heap.lt_size ho;have hT:s.TypeIs (.ref S) "set" := ⟨_,ho,rfl⟩;unfold collect;refine wpAny_bind (wpAny_runValue (codeAny_builtin F.entry_proto_collect ?_));rw [Around.under_plainId F.plain_proto_collect _];show wpAny _ A.in1 (newList [] >>= fun l=>again (.builtin "list.__iadd__" ⟨[l,.ref S],[]⟩)) _ _ s;refine wpAny_bind (wpAny_newObj_type ?_);refine wpAny_pure ⟨plainId_quiet F.plain_list_iadd _,codeAny_builtin F.entry_list_iadd ?_⟩;rw [Around.under_plainId F.plain_list_iadd _];generalize hno:({ cls:=.type "list",data:=.seq ([]:List Value).toArray }:Obj)=no;have hL₁:(s.heap.push no).get? s.heap.objs.size=some no:=Heap.get?_push_size _ (by rw [<- hno];rfl);have ho₁:(s.heap.push no).get? S=some (zfo es ep t):=Heap.get?_push_of_some _ ho;have hT₁:Shared.TypeIs { s with heap:=s.heap.push no } (.ref S) "set" := ⟨_,ho₁,rfl⟩;have hSL:S≠s.heap.objs.size:=Nat.ne_of_lt hS;show wpAny _ A.in1 (Builtin.List.listExtendWith (.ref s.heap.objs.size) (.ref S) (.ref s.heap.objs.size)) _ _ _;unfold Builtin.List.listExtendWith;refine wpAny_bind (wpAny_typeOf hT₁ ?_);have h1:Builtin.List.listSameRef (.ref s.heap.objs.size) (.ref S)=false:=by simp [Builtin.List.listSameRef,Ne.symm hSL]
 have h2:(Value.type "set" == Value.type "list")=false:=by decide
 have h3:(Value.type "set" == Value.type "tuple")=false:=by decide
 simp only [h1,h2,h3,Bool.or_false,Bool.false_eq_true,if_false];refine wpAny_bind (znN (s:={ s with heap:=s.heap.push no }) ho₁ G.fits G.plain ?_);have szp:(s.heap.push no).objs.size=s.heap.objs.size+1:=Heap.size_push ..;generalize hI:(s.heap.push no).objs.size=I at *;generalize hni:({ cls:=.type "set_iterator",data:=.fields #[.int 0 0,.int 0 0,.ref S,.int es.size 0,.int ep 0] }:Obj)=ni;have hS₂:=Heap.get?_push_of_some ni ho₁;have hL₂:=Heap.get?_push_of_some ni hL₁;have hI₂:((s.heap.push no).push ni).get? I=some ni:=by rw [<- hI];exact Heap.get?_push_size _ (by rw [<- hni];rfl)
 refine wpAny_bind (wpAny_holding (znJ ⟨_,hS₂,rfl⟩ ?_));have hIL:I≠s.heap.objs.size:=by omega
 have key:∀ (R':Result->Shared->Prop),(∀ (h':Heap) (tk c:Nat) (acc:Array Value),(∀ b o,s.heap.get? b=some o->h'.get? b=some o)->h'.get? s.heap.objs.size=some { cls:=.type "list",dict:=none,data:=.seq acc c,slots:=#[] }->acc.toList.Perm (es.toList.map (·.2))->R' (.ok (.ret (.ref s.heap.objs.size))) { s with heap:=h',toks:=tk }) ->
  ∀ (h:Heap) (c₁ tk:Nat),(∀ b o,b≠s.heap.objs.size->((s.heap.push no).push ni).get? b=some o->h.get? b=some o)->h.get? s.heap.objs.size=some { cls:=.type "list",dict:=none,data:=.seq #[] c₁,slots:=#[] } ->
  codeAny (model prog w) A (.builtin "list.extend.loop" ⟨[.ref s.heap.objs.size,.ref I,.ref s.heap.objs.size],[]⟩) R' { s with heap:=h,toks:=tk }:=by
  intro R' hR h₀ c₁ tk hk hL;have hSf:s.heap.objs.size ∉ [I,S]:=by
   simp only [List.mem_cons,List.not_mem_nil,or_false,not_or];exact ⟨Ne.symm hIL,Ne.symm hSL⟩
  have hIt:h₀.get? I=some ni:=hk I _ hIL hI₂;rw [<- hni] at hIt;refine codeAny_extend_loopS (zk1 (prog:=prog) (w:=w) (A:=A.in1) (it:=I) (S:=S) (ep:=ep) hh G) (Nat.le_trans hn (by rw [sizeLine_eq];omega)) s.heap.objs.size hSf _ es.size 0 { s with heap:=h₀,toks:=tk } #[] c₁ rfl (Nat.zero_le _)
   ⟨⟨0,hIt,fun _ _=>zkw _ G.up⟩,hk S _ hSL hS₂⟩ hL (ItemsOf.nil _) fun s' acc c hm hL' hacc=>?_
  obtain ⟨h',g',d',tk',os'⟩:=s';have eg:g'=s.gens:=hm.gens;have ed:d'=s.drawn:=hm.drawn;have eo:os'=s.os:=hm.os;subst eg;subst ed;subst eo;refine hR h' tk' c acc (fun b o e=>?_) hL' ?_
  ·have hb:=Heap.lt_size e;have hbL:b≠s.heap.objs.size:=Nat.ne_of_lt hb;have hbI:b≠I:=Nat.ne_of_lt (Nat.lt_of_lt_of_le hb (by rw [szp];exact Nat.le_succ _));exact hm.heap b o (by simp only [List.mem_cons,List.not_mem_nil,or_false,not_or];exact ⟨hbL,hbI⟩) (hk b o hbL (Heap.get?_push_of_some _ (Heap.get?_push_of_some _ e)))
  ·have el:acc.toList=(zdt w S ep es).toList.map (·.2):=by
    apply List.ext_getElem?;intro j;rw [List.getElem?_map];by_cases hj:j<acc.size
    ·obtain ⟨k,hk⟩:=hacc.2 j acc[j] (Array.getElem?_eq_getElem hj);have:(zdt w S ep es).toList[j]? = some (k,acc[j]):=by simpa using hk
     rw [this];simp [hj]
    ·have hw:(zdt w S ep es).toList[j]? = none:=List.getElem?_eq_none (by rw [Array.length_toList,ze8,<- hacc.1];omega);rw [hw];exact List.getElem?_eq_none (by rw [Array.length_toList];omega)
   rw [el];exact (zgP w S ep es).map _
 have fin:∀ (h':Heap) (tk c:Nat) (acc:Array Value),(∀ b o,s.heap.get? b=some o->h'.get? b=some o)->h'.get? s.heap.objs.size=some { cls:=.type "list",dict:=none,data:=.seq acc c,slots:=#[] }->acc.toList.Perm (es.toList.map (·.2)) ->
  wpAny (model prog w) A (do
   let o <- load s.heap.objs.size
   match o.data with
    | .seq xs _=>pure xs.toList
    |_=>unsupported "internal:collect") R E { s with heap:=h',toks:=tk }:=fun h' tk c acc kk hl hp=>by
  refine wpAny_bind (wpAny_load hl ?_);exact wpAny_pure (h h' tk acc.toList kk hp (Heap.lt_size hl))
 have hL₂':((s.heap.push no).push ni).get? s.heap.objs.size=some { cls:=.type "list",dict:=none,data:=.seq #[] 0,slots:=#[] }:=by rw [hL₂,<- hno]
 refine wpAny_ite_split (fun _=>?_) (fun _=>wpAny_pure ⟨plainId_quiet F.plain_extend_loop _,key _ (fun h' tk c acc kk hl hp=>fin h' tk c acc kk hl hp) _ 0 _ (fun b o _ e=>e) hL₂'⟩);refine wpAny_bind (wpAny_rule ?_);refine wpAny_bind ?_;show wpAny _ _ (updateSeq s.heap.objs.size (·.push .none) >>= fun _=>updateSeq s.heap.objs.size (·.pop)) _ _ _;refine wpAny_bind (wpAny_updateSeq hL₂' rfl ?_);have hL₃:=Heap.get?_update_self (Obj.mapSeq (·.push Value.none)) hL₂' rfl;refine wpAny_updateSeq (hz:=by seq_fits) hL₃ rfl ?_;have hL₄:=Heap.get?_update_self (Obj.mapSeq (·.pop)) hL₃ rfl;refine wpAny_pure ⟨plainId_quiet F.plain_extend_loop _,key _ (fun h' tk c acc kk hl hp=>fin h' tk c acc kk hl hp) _ _ _ (fun b o hb e=>?_) hL₄⟩;exact (Heap.get?_update_other _ _ (Ne.symm hb)).trans ((Heap.get?_update_other _ _ (Ne.symm hb)).trans e)
end
theorem zeD {h:Heap}:∀ {us:List Value} {r:List (Int×Int)},zda h us r->IsPairs h us r
 | [],[],_=>.nil
 | [],_::_,p=>by have:=p.1;simp at this
 |_::_,[],p=>by have:=p.1;simp at this
 |u::us,q::r,p=>by
  refine zc4a (p.2 0 q rfl) fun b ob nb t zz=>zc1d zz fun v g1 g2 g3 g4=>?_;have g1:some u=some (Value.ref b):=g1;obtain rfl:=Zqi g1;refine .cons ⟨b,ob,_,nb,t,v,rfl,g2,g3,g4,rfl⟩ (zeD ⟨by have:=p.1;simpa using this,fun i x hx=>p.2 (i+1) x hx⟩)
theorem zm1 {h:Heap}{v:Value}{r:List (Int×Int)}{a:Addr}{o:Obj}{us:List Value}{n:Nat}(R:RowAt h v r a o us n):zdg h v r :=
 ⟨a,o,us.toArray,n,R.isv,R.get,R.cls,R.dat,zeD R.prs⟩
noncomputable def dedI (rs:List (List (Int×Int))):Nat->List Nat
 | 0=>[]
 |n+1=>if (dedI rs n).any (fun i=>decide (rs.getD i []=rs.getD n [])) then dedI rs n else dedI rs n++[n]
theorem zme (rs:List (List (Int×Int)))(n:Nat):dedI rs (n+1)=if (dedI rs n).any (fun i=>decide (rs.getD i []=rs.getD n [])) then dedI rs n else dedI rs n++[n]:=rfl
def dedR (rs:List (List (Int×Int))):List (List (Int×Int)):=(dedI rs rs.length).map fun i=>rs.getD i []
theorem zcX (rs:List (List (Int×Int))):∀ n i,i∈dedI rs n->i<n
 | 0,i,h=>by cases h
 |n+1,i,h=>by
  unfold dedI at h
  split at h
  ·have:=zcX rs n i h;omega
  ·rcases List.mem_append.mp h with q|q
   ·have:=zcX rs n i q;omega
   ·rw [List.mem_singleton.mp q];omega
theorem zgD (rs:List (List (Int×Int))):∀ n,(dedI rs n).length<=n
 | 0=>Nat.le_refl _
 |n+1=>by
  have:=zgD rs n;unfold dedI
  split
  ·omega
  ·rw [List.length_append,List.length_singleton];omega
theorem zfG (rs:List (List (Int×Int))):∀ n,((dedI rs n).map fun i=>rs.getD i []).Nodup
 | 0=>List.nodup_nil
 |n+1=>by
  have ih:=zfG rs n;unfold dedI
  split
  ·exact ih
  ·rename_i h;rw [List.map_append,List.nodup_append];refine ⟨ih,by simp,fun x hx y hy=>?_⟩;rw [List.map_cons,List.map_nil,List.mem_singleton] at hy;subst hy;intro z;subst z;refine zc1b (List.mem_map.mp hx) fun i hi e=>?_;exact h (List.any_eq_true.mpr ⟨i,hi,decide_eq_true e⟩)
theorem zjc (rs:List (List (Int×Int))):∀ n (r:List (Int×Int)),r∈((dedI rs n).map fun i=>rs.getD i [])↔∃ i,i<n/\rs.getD i []=r
 | 0,r=>by
  constructor
  ·intro h;cases h
  ·rintro ⟨i,hi,_⟩;omega
 |n+1,r=>by
  have ih:=zjc rs n;unfold dedI
  split
  ·rename_i h;refine zc1b (List.any_eq_true.mp h) fun j hj e=>?_;have e:=of_decide_eq_true e;rw [ih];constructor
   ·rintro ⟨i,hi,z⟩;exact ⟨i,by omega,z⟩
   ·rintro ⟨i,hi,z⟩;by_cases q:i=n
    ·subst q;exact ⟨j,zcX rs i j hj,by rw [e,z]⟩
    ·exact ⟨i,by omega,z⟩
  ·rw [List.map_append,List.mem_append,ih];constructor
   ·rintro (⟨i,hi,z⟩|z)
    ·exact ⟨i,by omega,z⟩
    ·rw [List.map_cons,List.map_nil,List.mem_singleton] at z;exact ⟨n,by omega,z.symm⟩
   ·rintro ⟨i,hi,z⟩;by_cases q:i=n
    ·subst q;exact .inr (by rw [List.map_cons,List.map_nil,List.mem_singleton];exact z.symm)
    ·exact .inl ⟨i,by omega,z⟩
theorem zfM (rs:List (List (Int×Int))):(dedR rs).Nodup:=zfG rs _
theorem ziW (rs:List (List (Int×Int))):(dedR rs).length<=rs.length:=by unfold dedR;rw [Zql];exact zgD rs _
theorem zg3 {rs:List (List (Int×Int))}{r:List (Int×Int)}:r∈dedR rs↔r∈rs:=by
 unfold dedR;rw [zjc];constructor
 ·rintro ⟨i,hi,z⟩;rw [List.getD_eq_getElem?_getD,Zqg hi] at z;rw [<- z];exact List.getElem_mem hi
 ·intro h;obtain ⟨i,hi,z⟩:=List.getElem_of_mem h;exact ⟨i,hi,by rw [List.getD_eq_getElem?_getD,Zqg hi,<- z];rfl⟩
theorem zoS {same:Value->Value->Bool}{val:Nat->Value}{rs:List (List (Int×Int))}{n:Nat}(h:∀ i j,i<n->j<n->same (val i) (val j)=decide (rs.getD i []=rs.getD j [])):∀ k,k<=n->dedV same val k=(dedI rs k).map val
 | 0,_=>rfl
 |k+1,hk=>by
  rw [zdy,zoS h k (by omega),zme];unfold zhi;have e:((dedI rs k).map val).any (same · (val k))=(dedI rs k).any (fun i=>decide (rs.getD i []=rs.getD k [])):=by
   rw [List.any_map,Bool.eq_iff_iff,List.any_eq_true,List.any_eq_true];constructor
   ·rintro ⟨i,hi,z⟩;exact ⟨i,hi,by rw [<- h i k (by have:=zcX rs k i hi;omega) (by omega)];exact z⟩
   ·rintro ⟨i,hi,z⟩;exact ⟨i,hi,by show same (val i) (val k)=true;rw [h i k (by have:=zcX rs k i hi;omega) (by omega)];exact z⟩
  rw [e]
  split
  ·rfl
  ·rw [List.map_append];rfl
theorem zcC {G:Hp}{rs:List (List (Int×Int))}{ys:List V}(h:zas G (rs.map rD) ys):∀ ix:List Nat,(∀ i∈ix,i<rs.length)->zas G ((ix.map fun i=>rs.getD i []).map rD) (ix.map fun i=>ys.getD i .non)
 | [],_=>by unfold zas;rfl
 |i::ix,hi=>by
  have hl:=hi i Zqs;refine zc1b (h.get (i:=i) (d:=rD (rs.getD i [])) (by rw [List.getElem?_map,Zqg hl,zap (Zqg hl)];rfl)) fun x hx hI=>?_;rw [List.map_cons,List.map_cons,List.map_cons];unfold zas;refine ⟨x,_,?_,hI,zcC h ix fun j hj=>hi j (Zqm _ hj)⟩;rw [zap hx]
noncomputable def SetO (w:World)(S:Addr)(ys:List V):HO:=.ext fun h=>∃ es ep t us,h.get? S=some (zfo es ep t)/\SetGood w es t/\es.size<=1000/\(es.toList.map (·.2)).Perm us/\Vals ys us
def zjk (w:World):List V->Hp->VK->Prop:=fun xs H Q=>∃ a ys rs,xs=[.ref a]/\Rd H a (.lst ys)/\zas H (rs.map rD) ys/\rs.length<=999/\∀ S,H S=none->Q (.ref S) (upd H S (SetO w S ((dedI rs rs.length).map fun i=>ys.getD i .non)))
def zjp (w:World):List V->Hp->VK->Prop:=fun xs H Q=>∃ S ys rs,xs=[.ref S]/\H S=some (SetO w S ys)/\zas H (rs.map rD) ys/\(∀ r∈rs,r ≠ [])/\rs.length<64 /\
 ∀ l zs,H l=none->(∀ G,zas G (rs.map rD) ys->zas G ((zaE rltB rs).map rD) zs)->Q (.ref l) (upd H l (.lst zs))
theorem zlz {us vs:List Value}(p:us.Perm vs):∀ {zs:List V} {rs:List (List (Int×Int))},Vals zs us->zs.length=rs.length->∃ (zs2:List V) (rs2:List (List (Int×Int))),Vals zs2 vs/\rs2.Perm rs/\zs2.length=rs2.length/\∀ G,zas G (rs.map rD) zs->zas G (rs2.map rD) zs2:=by
 induction p with
 |nil=>exact fun {zs rs} h hl=>⟨zs,rs,h,.refl _,hl,fun _ h=>h⟩
 |cons x _ ih =>
  intro zs rs h hl;cases h with
  |cons r h =>
   cases rs with
   |nil=>simp at hl
   |cons q rs =>
    refine zc2d (ih h (by simpa using hl)) fun zs2 rs2 h2 p2 l2 g2=>?_;refine ⟨_::zs2,q::rs2,.cons r h2,p2.cons q,by simp [l2],fun G hG=>?_⟩;rw [List.map_cons] at hG ⊢;unfold zas at hG ⊢;refine zc2c hG fun y w e h3 h4=>?_;cases e;exact ⟨_,_,rfl,h3,g2 G h4⟩
 |swap x y l =>
  intro zs rs h hl;cases h with
  |cons r h =>
   cases h with
   |cons r' h =>
    cases rs with
    |nil=>simp at hl
    |cons q rs =>
     cases rs with
     |nil=>simp at hl
     |cons q' rs =>
      refine ⟨_,q'::q::rs,.cons r' (.cons r h),.swap _ _ _,by simpa using hl,fun G hG=>?_⟩;rw [List.map_cons,List.map_cons] at hG ⊢;unfold zas at hG ⊢;refine zc2c hG fun y w e h3 h4=>?_;cases e;unfold zas at h4;refine zc2c h4 fun y w e h5 h6=>?_;cases e;refine ⟨_,_,rfl,h5,?_⟩;unfold zas;exact ⟨_,_,rfl,h3,h6⟩
 |trans _ _ ih1 ih2 =>
  intro zs rs h hl;refine zc2d (ih1 h hl) fun zs2 rs2 h2 p2 l2 g2=>?_;refine zc2d (ih2 h2 l2) fun zs3 rs3 h3 p3 l3 g3=>?_;exact ⟨zs3,rs3,h3,p3.trans p2,l3,fun G hG=>g3 G (g2 G hG)⟩
section
variable {X:Cx}
theorem call_setRows (hc:X.calm=true)(hu:X.A.units+64<cLine):zat X (.type "set") (zjk X.w):=by
 intro pins s σ H xs us Q I rv h;refine zc3a h fun a ys rs zz=>zc0e zz fun zr3 ha hA hl q=>?_;subst zr3;refine zc1b (zcn rv) fun u zr1 ru=>?_;subst zr1;obtain rfl:u=Value.ref a:=ru;refine zc1c (I.list (.inl ha)) fun its ri pl hz=>?_;have l1:=hA.length;have l2:=ri.length;rw [Zql] at l1;have sz:its.toArray.size=its.length:=List.size_toArray;have gd:∀ i,its.toArray.getD i .none=its.getD i .none:=fun i=>by
  rw [Array.getD_eq_getD_getElem?,List.getD_eq_getElem?_getD];simp
 have isr:∀ i,i<its.length->zdg s.heap (its.getD i .none) (rs.getD i []):=fun i hi=>by
  have hr:i<rs.length:=by omega
  refine zc1b (hA.get (i:=i) (d:=rD (rs.getD i [])) (by rw [List.getElem?_map,Zqg hr,zap (Zqg hr)];rfl)) fun x hx hI=>?_;refine zc1b (ri.get hx) fun v hv rr=>?_;refine zc4a (zm9 I.hok hI rr) fun b o ws n R=>?_;rw [zap hv];exact zm1 R
 refine zhI (I.ok.hd hc) pl.isList (znd X.prog X.w s.heap) (fun i v hv=>?_) (by rw [sz];omega) (by show X.A.units+1+1+1+8<cLine;omega) fun h' tk H' kk=>?_
 ·have hi:i<its.length:=by
   have:=(Array.getElem?_eq_some_iff.mp hv).1;omega
  have e:v=its.getD i .none:=by
   rw [<- gd,Array.getD_eq_getD_getElem?,hv];rfl
  rw [e];exact ⟨_,isr i hi⟩
 ·have same:∀ i j,i<its.toArray.size->j<its.toArray.size->(fun v u=>decide (rowV s.heap v=rowV s.heap u)) ((fun i=>its.toArray.getD i .none) i) ((fun i=>its.toArray.getD i .none) j)=decide (rs.getD i []=rs.getD j []):=fun i j hi hj=>by
   show decide (rowV s.heap (its.toArray.getD i .none)=rowV s.heap (its.toArray.getD j .none))=_;rw [gd,gd,zff (isr i (by omega)),zff (isr j (by omega))]
  refine zc2d H' fun es t SI pm led plain=>?_;rw [zoS same _ (Nat.le_refl _)] at pm;obtain ⟨ep,ho⟩:=SI.at_;have en:its.toArray.size=rs.length:=by omega
  rw [en] at pm;have pm2:(es.toList.map (·.2)).Perm ((dedI rs rs.length).map fun i=>its.getD i .none):=by
   have:=pm.map (·.2);rw [List.map_map,List.map_map] at this;refine this.trans (List.Perm.of_eq (List.map_congr_left fun i _=>?_));exact gd i
  have vl:Vals ((dedI rs rs.length).map fun i=>ys.getD i .non) ((dedI rs rs.length).map fun i=>its.getD i .none):=zcg fun i hi=>by
   have hi:=zcX rs _ i hi;obtain ⟨x,hx⟩:∃ x,ys[i]? = some x:=⟨ys[i]'(by omega),Zqg (by omega)⟩;refine zc1b (ri.get hx) fun v hv rr=>?_;rw [zap hx,zap hv];exact rr
  have szs:es.size<=1000:=by
   have:=pm2.length_eq;rw [Zql,Zql,Array.length_toList] at this;have:=zgD rs rs.length;omega
  have szp:t.place.size=es.size:=by
   have:=SI.tab.size;rw [Array.size_map] at this;exact this
  refine ⟨.ref s.heap.objs.size,upd H s.heap.objs.size (SetO X.w s.heap.objs.size ((dedI rs rs.length).map fun i=>ys.getD i .non)),I.laid (t':=tk) (fun b o e=>kk b o (Heap.lt_size e) e) (Nat.le_refl _) ?_,rfl,q _ (I.hok.fresh (Nat.le_refl _))⟩;refine ⟨⟨es,ep,t,_,ho,⟨SI.tab.fits,plain,led,SI.tab.up,szp⟩,szs,pm2,vl⟩,⟨_,ho⟩,fun h1 h2 z kp=>?_⟩;refine zc4a z fun es ep t us zz=>zc0b zz fun e r=>?_;exact ⟨es,ep,t,us,kp _ e,r⟩
theorem zrg {pins:List (Addr×Obj)}{σ : St}{H:Hp}{s:Shared}(I:Inv X pins σ H s){S:Addr}{ys:List V}(h:H S=some (SetO X.w S ys)):∃ es ep t us,s.heap.get? S=some (zfo es ep t)/\SetGood X.w es t/\es.size<=1000/\(es.toList.map (·.2)).Perm us/\Vals ys us:=(show zbc X.prog X.w H s.heap S (SetO X.w S ys) from I.hok S _ h).1
theorem zkk {prog:Program}{w:World}{A:Around}{E:Value->Shared->Prop}{s:Shared}{x:Value}{Q:Value->Shared->Prop}
 (hc:wpAny (model prog w) A.in1 (collect x) (fun vs s1=>∃ lt,Wk lt/\vs.length<64/\(∀ h',(∀ b o,s1.heap.get? b=some o->h'.get? b=some o)->2<=vs.length->Keys prog w A.in1.in1 { s1 with heap:=h' } vs lt) /\
  ∀ jx h' l,Pl vs.length jx vs.length->Up lt jx vs.length->(∀ b o,s1.heap.get? b=some o->h'.get? b=some o)->s1.heap.objs.size<=l->(∃ e,h'.get? l=some (seqObj "list" (jx.map (nthV vs)) e))->Q (.ref l) { s1 with heap:=h' }) E s) :
 wpAny (model prog w) A (call (.builtin "sorted") [x]) Q E s:=by
 refine Calls.call_function_entry kind_sorted plain_sorted entry_sorted (args_sorted1 _) ?_;unfold Builtin.«sorted»;refine wpAny_bind (m:=checkCount "sorted" 1 1 _) (wpAny_pure (wpAny_bind (wpAny_mono hc (fun vs s1 z=>?_) fun _ _ e=>e)));refine zc1d z fun lt W h64 hk hq=>?_;have gl:(s1.heap.push (seqObj "list" vs.toArray 0)).get? s1.heap.objs.size=some (seqObj "list" vs.toArray 0):=Heap.get?_push_size _ rfl;have nl:∀ b o,s1.heap.get? b=some o->b≠s1.heap.objs.size:=fun b o e=>Nat.ne_of_lt (Heap.lt_size e);refine wpAny_bind (wpAny_newList (wpAny_bind (wpAny_holding (wpAny_call_entry slot_list_sort ⟨_,gl,rfl⟩ entry_list_sort (zfV (s:={ s1 with heap:=s1.heap.push (seqObj "list" vs.toArray 0) }) W gl h64 (fun h' kp=>hk h' fun b o e=>kp b o (nl b o e) (Heap.get?_push_of_some _ e)) fun jx p u=>⟨_,rfl,wpAny_pure ⟨_,rfl,?_⟩⟩) (args_list_sort _)))));refine hq jx _ _ p u (fun b o e=>?_) (Nat.le_refl _) (sortedHeap_at gl);rw [sortedHeap_old (nl b o e) (by rw [size_push'];exact Nat.lt_succ_of_lt (Heap.lt_size e))];exact Heap.get?_push_of_some _ e
theorem call_sortedSet (hc:X.calm=true)(hu:X.A.units+64<cLine):zat X (.builtin "sorted") (zjp X.w):=by
 intro pins s σ H xs us Q I rv h;refine zc3a h fun S ys rs zz=>zc0e zz fun zr3 hS hA hne zz=>zc0b zz fun h64 q=>?_;subst zr3;refine zc1b (zcn rv) fun u zr1 ru=>?_;subst zr1;obtain rfl:u=Value.ref S:=ru;refine zc4a (zrg I hS) fun es ep t ws zz=>zc0e zz fun ho G hsz pm vl=>?_;have l1:=hA.length;rw [Zql] at l1;have hlt:∀ vs:List Value,vs.Perm (es.toList.map (·.2))->vs.length=rs.length:=fun vs hv=>by
  have a:=hv.length_eq;have b:=pm.length_eq;have c:=vl.length;omega
 refine zkk (ziq (A:=X.A.in1) (E:=X.xe) (I.ok.hd hc) ho G hsz fun h1 tk vs kk hv hsz1=>?_);refine zc2d (zlz (pm.symm.trans hv.symm) vl (by omega)) fun ys2 rs2 vl2 p2 l2 g2=>?_;have lv:=hlt vs hv;have lr:=p2.length_eq;have A2:=g2 H hA;have ne2:∀ r∈rs2,r ≠ []:=fun r hr=>hne r (p2.mem_iff.mp hr);refine ⟨fun i j=>rltB (rs2.getD i []) (rs2.getD j []),zaC.wk fun i=>rs2.getD i [],by omega,fun h' kp h2=>zhg (by show X.A.units+1+1+4<cLine;omega) (I.hok.kept fun b o e=>kp b o (kk b o e)) A2 vl2 ne2 h2,fun jx h' l p u kp hl gl=>?_⟩;obtain ⟨e,gl⟩:=gl;have lv2:vs.length=rs2.length:=by omega
 rw [lv2] at p u;have szl:s.heap.objs.size<=l:=by
  have hl:h1.objs.size<=l:=hl;omega
 have at_:∀ i∈jx.toList,∃ x v,ys2[i]? = some x/\vs[i]? = some v/\RelV x v:=fun i hi=>by
  have hn:=p.mem hi;obtain ⟨x,hx⟩:∃ x,ys2[i]? = some x:=⟨ys2[i]'(by omega),Zqg (by omega)⟩;refine zc1b (vl2.get hx) fun v hv rr=>?_;exact ⟨x,v,hx,hv,rr⟩
 have sp:=zbG zaC p u;have se:zaE rltB rs2=zaE rltB rs:=zjg zaC (((zal (ltb:=rltB) rs2).trans p2).trans (zal (ltb:=rltB) rs).symm) (zbV zaC rs2) (zbV zaC rs);have fin:=q l (jx.toList.map fun i=>ys2.getD i .non) (I.hok.fresh szl) fun G hG=>by
  have:=zcC (g2 G hG) jx.toList fun i hi=>p.mem hi;rw [sp,se] at this;exact this
 refine ⟨.ref l,upd H l (.lst (jx.toList.map fun i=>ys2.getD i .non)),I.laid (a:=l) (o:=.lst (jx.toList.map fun i=>ys2.getD i .non)) (t':=tk) (fun b o e=>kp b o (kk b o e)) szl ⟨?_,jx.toList.map (nthV vs),e,?_,?_⟩,rfl,fin⟩
 ·rw [Zql,p.len];exact zc3 (by omega)
 ·refine zcg fun i hi=>?_;refine zc2c (at_ i hi) fun x v hx hv rr=>?_;unfold nthV;rw [zap hx,zap hv];exact rr
 ·rw [gl]
  congr 3
  apply Array.ext';simp
end
end L2.ST
namespace L2.DL
open PySem PySem.Spec PyProof.Rows L2.ST
def zdx:List D->Option D
 | [.lst ds]=>(zb3 zdo ds).bind fun rs=>if (∀ r∈rs,r ≠ [])/\(dedR rs).length<64/\rs.length<=999 then some (.lst ((zaE rltB (dedR rs)).map rwD)) else none
 |_=>none
section
variable {X:Cx}{E:XK}{fr:FA}{es:List Expr}{e:Expr}
theorem zmt (h:∀ {ta:TA},PA X es ta->PE X e (tCB (zjp X.w) (zpR (tCB (zjk X.w) ta) tNil)))(ha:QA X E es fr):QN X E e (dBlt zdx fr):=PE.weak (h ha) fun σ H Q zh=>by
 refine zc3b zh fun B F sd r n=>?_;refine ⟨B,F,sd,r,(Res.need_bind n).mono (fun ds n1 vs F1 H1 e1 i1=>?_) fun _ _ q=>q⟩;refine zc1b (Res.need_ofO n1) fun z hz q=>?_;unfold zdx at hz
 split at hz
 ·refine zc1b (Option.bind_eq_some_iff.mp hz) fun rs h1 hz=>?_
  split at hz
  ·rename_i hc;obtain rfl:=Zqi hz;refine zc1b (zbH i1) fun v zr1 h=>?_;subst zr1;rw [zdU h1,IsD.lst_iff] at h;refine zc2c h fun a ys zr2 g1 g2=>?_;subst zr2;refine ⟨a,ys,rs,rfl,g1.same e1.fh,zcO.mp (IsDs.same e1.fh _ _ g2),hc.2.2,fun S hS=>?_⟩;have sn:=zbv hS (SetO X.w S ((dedI rs rs.length).map fun i=>ys.getD i .non));have pk:∀ G,zas G (rs.map rD) ys->zas G ((dedR rs).map rD) ((dedI rs rs.length).map fun i=>ys.getD i .non):=fun G hG=>zcC hG _ fun i hi=>zcX rs _ i hi;refine ⟨S,_,dedR rs,rfl,zao,pk _ (zas.same sn _ _ (zcO.mp (IsDs.same e1.fh _ _ g2))),fun r hr=>hc.1 r (zg3.mp hr),hc.2.1,fun l zs hl hG=>?_⟩;have hlS:l≠S:=fun z=>by rw [z,zao] at hl;cases hl
   have hl1:H1 l=none:=by rw [za9 hlS] at hl;exact hl
   have ek:Ext F1 H1 F1 (upd H1 S (SetO X.w S ((dedI rs rs.length).map fun i=>ys.getD i .non))):=.keep e1.fh hS _;exact (q.ext e1) l F1 _ (ek.trans (.keep ek.fh hl _)) hl1 (za4 e1.fh hl1) ⟨zs,zao,zcO.mpr (hG F1 (pk F1 (zcO.mp g2)))⟩
  ·exact zqn hz
 ·exact zqn hz
end
theorem bt_set:bootBuiltins "set" = some (.type "set"):=by kernel_rfl
theorem zgh {rs:List (List (Int×Int))}(h:∀ r∈rs,r ≠ [])(h2:(dedR rs).length<64)(h3:rs.length<=999):zdx [.lst (rs.map rwD)]=some (.lst ((zaE rltB (dedR rs)).map rwD)):=by
 show (zb3 zdo (rs.map rwD)).bind _=_;rw [zdL];exact if_pos ⟨h,h2,h3⟩
end L2.DL
namespace L2.ST
def llB (a b:List (Int×Int)):Bool:=decide (a.length<b.length)||(decide (a.length=b.length)&&rltB a b)
theorem zcW {a b:List (Int×Int)}:llB a b=true↔a.length<b.length\/(a.length=b.length/\rltB a b=true):=by
 unfold llB;rw [Bool.or_eq_true,Bool.and_eq_true,decide_eq_true_iff,decide_eq_true_iff]
theorem zlg {a b:List (Int×Int)}:llB a b=false↔b.length<a.length\/(a.length=b.length/\rltB a b=false):=by
 cases q:llB a b with
 |true =>
  rw [zcW] at q;constructor
  ·intro z;cases z
  ·rintro (z|⟨z1,z2⟩)
   ·rcases q with q|⟨q1,q2⟩<;>omega
   ·rcases q with q|⟨q1,q2⟩
    ·omega
    ·rw [z2] at q2;exact zqb q2
 |false =>
  refine ⟨fun _=>?_,fun _=>rfl⟩;have nq:¬ (llB a b=true):=by rw [q];simp -iota
  rw [zcW] at nq;rcases Nat.lt_trichotomy a.length b.length with z|z|z
  ·exact absurd (.inl z) nq
  ·refine .inr ⟨z,?_⟩;cases w:rltB a b with
   |true=>exact absurd (.inr ⟨z,w⟩) nq
   |false=>rfl
  ·exact .inl z
theorem zgg:Tot llB where
 asy:=fun a b h=>by
  rw [zcW] at h;rw [zlg];rcases h with h|⟨h1,h2⟩
  ·exact .inl h
  ·exact .inr ⟨h1.symm,zaC.asy _ _ h2⟩
 neg:=fun a b c h=>by
  rw [zcW] at h;rw [zcW,zcW];rcases h with h|⟨h1,h2⟩
  ·rcases Nat.lt_trichotomy a.length b.length with z|z|z
   ·exact .inl (.inl z)
   ·exact .inr (.inl (by omega))
   ·exact .inr (.inl (by omega))
  ·rcases Nat.lt_trichotomy a.length b.length with z|z|z
   ·exact .inl (.inl z)
   ·rcases zaC.neg a b c h2 with y|y
    ·exact .inl (.inr ⟨z,y⟩)
    ·exact .inr (.inr ⟨by omega,y⟩)
   ·exact .inr (.inl (by omega))
 tot:=fun a b h1 h2=>by
  rw [zlg] at h1 h2;rcases h1 with h1|⟨h1,h3⟩<;>rcases h2 with h2|⟨h2,h4⟩
  ·omega
  ·omega
  ·omega
  ·exact zaC.tot _ _ h3 h4
theorem zjA {l:List (List (Int×Int))}{jx:Array Nat}(hs:l.Pairwise fun a b=>rltB a b=true)(p:Pl l.length jx l.length)(u:Up (fun i j=>decide (((l.getD i []).length:Int)<((l.getD j []).length:Int))) jx l.length):jx.toList.map (fun i=>l.getD i [])=zaE llB l:=by
 refine zjg zgg ?_ ?_ (zbV zgg l)
 ·refine List.Perm.trans ?_ (zal (ltb:=llB) l).symm;have q:jx.toList.Perm (List.range l.length):=by
   have:=Array.perm_iff_toList_perm.mp p.perm;simpa -iota using this
  refine (q.map _).trans (List.Perm.of_eq ?_);apply List.ext_getElem
  ·simp -iota
  ·intro i h1 h2;simp -iota [h2]
 ·refine List.pairwise_iff_getElem.mpr fun a b ha hb ab=>?_;rw [List.getElem_map,List.getElem_map];have sz:jx.toList.length=l.length:=by rw [Array.length_toList,p.size]
  rw [Zql] at ha hb;have ea:jx.toList[a]=gx jx a:=by
   unfold gx;rw [Array.getElem?_eq_getElem (by rw [p.size];omega)];simp -iota
  have eb:jx.toList[b]=gx jx b:=by
   unfold gx;rw [Array.getElem?_eq_getElem (by rw [p.size];omega)];simp -iota
  rw [ea,eb];have la:=p.lt (Nat.le_refl _) (show a<l.length by omega);have lb:=p.lt (Nat.le_refl _) (show b<l.length by omega);have bf:=u a b ab (by omega);generalize gx jx a=i at bf la;generalize gx jx b=j at bf lb;show llB (l.getD j []) (l.getD i [])=false;rw [zlg];rcases bf with bf|⟨bf,ij⟩
  ·have:=of_decide_eq_true bf;exact .inl (by omega)
  ·have:=of_decide_eq_false bf;rcases Nat.lt_or_ge (l.getD i []).length (l.getD j []).length with z|z
   ·exact .inl z
   ·refine .inr ⟨by omega,zaC.asy _ _ ?_⟩;have:=List.pairwise_iff_getElem.mp hs i j la lb ij;rw [zap (Zqg la),zap (Zqg lb)];exact this
section
variable {prog:Program}{w:World}{A:Around}{E:Value->Shared->Prop}{s:Shared}
theorem zlI {vs keys:List Value}{kz:List Int}(hk:IntsAre keys kz)(hl:kz.length=vs.length):Orc prog w A s oneType' (fun i=>(nthV keys i,nthV vs i)) (fun i j=>decide (kz.getD i 0<kz.getD j 0)) vs.length:=by
 have at_:∀ {keys:List Value} {kz:List Int},IntsAre keys kz->∀ i,i<kz.length->∃ t,nthV keys i=.int (kz.getD i 0) t:=by
  intro keys kz h
  induction h with
  |nil=>intro i hi;exact absurd hi (Nat.not_lt_zero _)
  |cons n t _ ih =>
   intro i hi;cases i with
   |zero=>exact ⟨t,rfl⟩
   |succ i=>exact ih i (by simpa -iota using hi)
 intro i j hi hj E Q hq;obtain ⟨t,e1⟩:=at_ hk i (by omega);obtain ⟨u,e2⟩:=at_ hk j (by omega);show wpAny (model prog w) A (keyLt' oneType' (nthV keys i) (nthV keys j)) Q E s;rw [e1,e2];exact W.kat_lt_int hq
theorem zoG (kz:List Int):Wk fun i j=>decide (kz.getD i 0<kz.getD j 0) :=
 ⟨fun i j h=>by have:=of_decide_eq_true h;exact decide_eq_false (by omega),fun i j k h=>by
  have:=of_decide_eq_true h;rcases Int.lt_or_le (kz.getD i 0) (kz.getD j 0) with q|q
  ·exact .inl (decide_eq_true q)
  ·exact .inr (decide_eq_true (by omega))⟩
theorem zkU {a kS:Addr}{vs:List Value}{keys:Array Value}{kz:List Int}{e e1:Nat}{P:PySem.Fin->Shared->Prop}(hk:IntsAre keys.toList kz)(hl:kz.length=vs.length)(h64:vs.length<64)(hka:kS≠a)
 (hK:s.heap.get? kS=some (seqObj "list" keys e)) (hA:s.heap.get? a=some (seqObj "list" #[] e1))
 (h:∀ jx h',Pl vs.length jx vs.length->Up (fun i j=>decide (kz.getD i 0<kz.getD j 0)) jx vs.length->(∀ b o,b≠kS->b≠a->s.heap.get? b=some o->h'.get? b=some o)->(∃ c,h'.get? a=some (seqObj "list" (jx.map (nthV vs)) c))->P (.done (.ret .none)) { s with heap:=h' }) :
 wpAny (model prog w) A (ksk_end a false vs.toArray e1 (.ref kS) keys) P E s:=by
 have hsz:keys.size=vs.length:=by
  have h1:=hk.length;rw [Array.length_toList] at h1;omega
 have kl:keys=keys.toList.toArray:=Array.toArray_toList.symm;have zr:keys.zip vs.toArray=(Array.range vs.length).map fun i=>(nthV keys.toList i,nthV vs i):=by
  apply Array.ext_getElem?;intro k;rw [Array.getElem?_map];by_cases hk':k<vs.length
  ·rw [Array.getElem?_range,if_pos hk'];have e:nthV vs k=vs[k]:=by unfold nthV;rw [List.getD_eq_getElem?_getD,Zqg hk'];rfl
   have e2:nthV keys.toList k=keys[k]'(by omega):=by unfold nthV;rw [List.getD_eq_getElem?_getD,Zqg (by rw [Array.length_toList];omega)];simp -iota
   simp -iota [Array.getElem?_zip_eq_some,hk',hsz,e,e2]
  ·rw [Array.getElem?_range,if_neg hk',Array.getElem?_eq_none (by simp -iota;omega)];rfl
 have tail:∀ (st:SortSt) (jx:Array Nat),arrOf st=jx.map (fun i=>(nthV keys.toList i,nthV vs i))->failedOf st=none->Pl vs.length jx vs.length->Up (fun i j=>decide (kz.getD i 0<kz.getD j 0)) jx vs.length->wpAny (model prog w) A (ksk_tail a false e1 (.ref kS) st) P E s:=by
  intro st jx q1 q2 q3 q4;have ms:(arrOf st).map (·.2)=jx.map (nthV vs):=by rw [q1,Array.map_map];rfl
  unfold ksk_tail;dsimp only;rw [ms,q2];obtain ⟨c1,g1⟩:∃ c1,(s.heap.update kS (Obj.mapSeq fun _ => #[])).get? kS=some (seqObj "list" #[] c1):=⟨_,get?_update_seq hK (fun _ => #[])⟩;have hA1:(s.heap.update kS (Obj.mapSeq fun _ => #[])).get? a=some (seqObj "list" #[] e1):=by rw [Heap.get?_update_ne _ _ _ _ (Ne.symm hka)];exact hA
  refine wpAny_bind (listUpdate_at hK rfl ?_ (by rw [hsz,sizeLine_eq];omega) (Nat.zero_le _));refine wpAny_bind (wpAny_letGo ?_);refine wpAny_bind (seqEpoch_at (s:={ s with heap:=s.heap.update kS (Obj.mapSeq fun _ => #[]) }) hA1 rfl (wpAny_bind (listUpdate_at (s:={ s with heap:=s.heap.update kS (Obj.mapSeq fun _ => #[]) }) hA1 rfl ?_ (Nat.zero_le _) (by rw [if_neg Bool.false_ne_true,Array.size_map,q3.size,sizeLine_eq];omega))));simp -iota only [bne_self_eq_false,Bool.false_eq_true,if_false];refine wpAny_pure (h jx _ q3 q4 (fun b o hb hb2 eb=>?_) ?_)
  ·show ((s.heap.update kS (Obj.mapSeq fun _ => #[])).update a (Obj.mapSeq fun _=>jx.map (nthV vs))).get? b=some o;rw [Heap.get?_update_ne _ _ _ _ hb2,Heap.get?_update_ne _ _ _ _ hb];exact eb
  ·exact ⟨_,get?_update_seq hA1 (fun _=>jx.map (nthV vs))⟩
 unfold ksk_end;dsimp only;simp -iota only [Bool.false_eq_true,if_false];by_cases h2:vs.toArray.size<2
 ·rw [if_pos h2,if_pos h2];refine wpAny_bind (wpAny_pure ?_);rw [StateT.run_pure];refine wpAny_bind (wpAny_pure ?_);refine tail _ (Array.range vs.length) zr rfl (zes _ _ (Nat.le_refl _)) fun i j ij jn=>?_;rw [List.size_toArray] at h2;omega
 ·rw [if_neg h2,if_neg h2];rw [List.size_toArray] at h2;rw [ksk_kind hk (by rw [hsz];omega)];refine wpAny_bind (wpAny_pure ?_);refine wpAny_bind (wpAny_mono (zkD (zoG kz) (zlI hk hl) (ix:=Array.range vs.length) (st:=SortSt.mk' oneType' (keys.zip vs.toArray) #[] 7 none) (Q:=fun _ st'=>∃ jx,arrOf st'=jx.map (fun i=>(nthV keys.toList i,nthV vs i))/\failedOf st'=none/\Pl vs.length jx vs.length/\Up (fun i j=>decide (kz.getD i 0<kz.getD j 0)) jx vs.length)
   ⟨zr,rfl,rfl,rfl⟩ (zes _ _ (by omega)) (by omega) h64 fun jx st' a1 a2 a3 a4=>⟨jx,a1,a2,a3,a4⟩) ?_ fun _ _ e=>e)
  rintro ⟨⟨⟩,st'⟩ s' ⟨rfl,jx,q1,q2,q3,q4⟩;exact tail st' jx q1 q2 q3 q4
theorem zjR {a kS:Addr}{f:Value}{vs:List Value}{kz:List Int}{e1:Nat}{P:PySem.Fin->Shared->Prop}(hl:kz.length=vs.length)(h64:vs.length<64)(hka:kS≠a)
 (hK:s.heap.get? kS=some (seqObj "list" #[] 0)) (hA:s.heap.get? a=some (seqObj "list" #[] e1))
 (turn:∀ (i:Nat) (v:Value) (k:Int),vs[i]? = some v->kz[i]? = some k->∀ (h:Heap) (tk:Nat),(∀ b o,b≠kS->b≠a->s.heap.get? b=some o->h.get? b=some o) ->
  wpAny (model prog w) A (call f [v]) (fun r s'=>∃ t tk',r=.int k t/\s'={ s with heap:=h,toks:=tk' }) (fun _ _=>False) { s with heap:=h,toks:=tk })
 (h:∀ jx h' tk,Pl vs.length jx vs.length->Up (fun i j=>decide (kz.getD i 0<kz.getD j 0)) jx vs.length->(∀ b o,b≠kS->b≠a->s.heap.get? b=some o->h'.get? b=some o)->(∃ c,h'.get? a=some (seqObj "list" (jx.map (nthV vs)) c))->P (.done (.ret .none)) { s with heap:=h',toks:=tk }) :
 wpAny (model prog w) A (ksk_rest a f false vs.toArray e1 (.ref kS)) P E s:=by
 unfold ksk_rest;refine wpAny_bind (wpAny_rule ?_)
 first
  |rw [List.forIn_toArray]
  | (rw [<- Array.forIn_toList];simp -iota only [List.toList_toArray])
  |rw [<- Array.forIn_toList]
 refine wpAny_bind (ksk_fold (fun i s'=>∃ h' tk kA e,s'={ s with heap:=h',toks:=tk }/\(∀ b o,b≠kS->s.heap.get? b=some o->h'.get? b=some o)/\h'.get? kS=some (seqObj "list" kA e)/\IntsAre kA.toList (kz.take i)) vs 0 s
  ⟨s.heap,s.toks,#[],0,rfl,fun _ _ _ e=>e,hK,by simpa -iota using IntsAre.nil⟩ ?step ?done)
 case step =>
  rintro j x s' hx ⟨h',tk,kA,e,rfl,kk,hk1,hk⟩;simp -iota only [Nat.zero_add] at hk ⊢;have hj:j<vs.length:=(List.getElem?_eq_some_iff.mp hx).1;obtain ⟨k,hkj⟩:∃ k,kz[j]? = some k:=⟨_,Zqg (by omega)⟩;have hz:kA.size<=vs.length:=by
   have h1:=hk.length;rw [Array.length_toList,List.length_take] at h1;omega
  refine wpAny_bind (wpAny_attempt (wpAny_mono (turn j x k hx hkj h' tk fun b o hb _ eb=>kk b o hb eb) (fun v s'' he=>?_) fun _ _ hF=>hF.elim));refine zc2b he fun t2 tk2 zr2 zr3=>?_;subst zr2;subst zr3
  try dsimp only
  obtain ⟨c2,hc2⟩:∃ c2,(h'.update kS (Obj.mapSeq (·.push (.int k t2)))).get? kS=some (seqObj "list" (kA.push (.int k t2)) c2):=⟨_,get?_update_seq hk1 (·.push (.int k t2))⟩;have ek:kz.take (j+1)=kz.take j++[k]:=by rw [List.take_add_one,hkj];simp -iota
  have ea:(kA.push (Value.int k t2)).toList=kA.toList++[Value.int k t2]:=by simp -iota
  refine wpAny_bind (listUpdate_at (s:={ s with heap:=h',toks:=tk2 }) hk1 rfl ?_ (by rw [sizeLine_eq];omega) (Nat.le_trans (Nat.le_of_eq (Array.size_push ..)) (by rw [sizeLine_eq];omega)));refine wpAny_pure ⟨rfl,_,_,kA.push (.int k t2),c2,rfl,fun b o hb eb=>?_,hc2,by rw [ea,ek];exact ksk_snoc hk⟩;show (h'.update kS (Obj.mapSeq (·.push (.int k t2)))).get? b=some o;rw [Heap.get?_update_ne _ _ _ _ hb];exact kk b o hb eb
 case done =>
  rintro s' ⟨h',tk,kA,e,rfl,kk,hk1,hk⟩;have hk':IntsAre kA.toList kz:=by
   have e3:kz.take (0+vs.length)=kz:=List.take_of_length_le (by omega);rw [e3] at hk;exact hk
  try dsimp only
  refine wpAny_bind (listItems_at (s:={ s with heap:=h',toks:=tk }) hk1 rfl ?_);exact zkU (s:={ s with heap:=h',toks:=tk }) hk' hl h64 hka hk1 (kk a _ (Ne.symm hka) hA) fun jx h2 p u k2 g=>h jx h2 tk p u (fun b o hb hb2 eb=>k2 b o hb hb2 (kk b o hb eb)) g
theorem zku {a:Addr}{f:Value}{vs:List Value}{kz:List Int}{n:Nat}{P:PySem.Fin->Shared->Prop}(ho:s.heap.get? a=some (seqObj "list" vs.toArray n))(hl:kz.length=vs.length)(h64:vs.length<64)
 (turn:∀ (i:Nat) (v:Value) (k:Int),vs[i]? = some v->kz[i]? = some k->∀ (h:Heap) (tk:Nat),(∀ b o,b≠a->s.heap.get? b=some o->h.get? b=some o) ->
  wpAny (model prog w) A (call f [v]) (fun r s'=>∃ t tk',r=.int k t/\s'={ s with heap:=h,toks:=tk' }) (fun _ _=>False) { s with heap:=h,toks:=tk })
 (h:∀ jx h' tk,Pl vs.length jx vs.length->Up (fun i j=>decide (kz.getD i 0<kz.getD j 0)) jx vs.length->(∀ b o,b≠a->s.heap.get? b=some o->h'.get? b=some o)->(∃ c,h'.get? a=some (seqObj "list" (jx.map (nthV vs)) c))->P (.done (.ret .none)) { s with heap:=h',toks:=tk }) :
 wpAny (model prog w) A (ksk_tree a f false) P E s:=by
 have la:a<s.heap.objs.size:=Heap.lt_size ho;obtain ⟨e1,ho1⟩:∃ e1,(s.heap.update a (Obj.mapSeq fun _=>(#[]:Array Value))).get? a=some (seqObj "list" #[] e1):=⟨_,get?_update_seq ho fun _ => #[]⟩;have hkS:((s.heap.update a (Obj.mapSeq fun _=>(#[]:Array Value))).push (seqObj "tuple" vs.toArray 0)).objs.size=s.heap.objs.size+1:=by rw [size_push',Heap.size_update]
 unfold ksk_tree;refine wpAny_bind (listItems_at ho rfl ?_);refine wpAny_bind (listUpdate_at ho rfl ?_ (by rw [List.size_toArray,sizeLine_eq];omega) (Nat.zero_le _));refine wpAny_bind (seqEpoch_at ho1 rfl ?_);refine wpAny_bind (wpAny_newTuple ?_ (by show vs.length<=_;rw [sizeLine_eq];omega));refine wpAny_bind (wpAny_newList ?_ (Nat.zero_le _));refine wpAny_holding ?_;have hlt:∀ {b o},s.heap.get? b=some o->b≠s.heap.objs.size/\b≠s.heap.objs.size+1:=fun e=>⟨Nat.ne_of_lt (Heap.lt_size e),Nat.ne_of_lt (Nat.lt_succ_of_lt (Heap.lt_size e))⟩;have keep:∀ b o,b≠a->s.heap.get? b=some o->(((s.heap.update a (Obj.mapSeq fun _=>(#[]:Array Value))).push (seqObj "tuple" vs.toArray 0)).push (seqObj "list" #[] 0)).get? b=some o:=fun b o hb e=>by
  refine Heap.get?_push_of_some _ (Heap.get?_push_of_some _ ?_);rw [Heap.get?_update_ne _ _ _ _ hb];exact e
 refine zjR (s:={ s with heap:=((s.heap.update a (Obj.mapSeq fun _=>(#[]:Array Value))).push (seqObj "tuple" vs.toArray 0)).push (seqObj "list" #[] 0) }) (kS:=((s.heap.update a (Obj.mapSeq fun _=>(#[]:Array Value))).push (seqObj "tuple" vs.toArray 0)).objs.size)
  hl h64 (by rw [hkS];exact Nat.ne_of_gt (Nat.lt_succ_of_lt la)) (Heap.get?_push_size _ rfl) (Heap.get?_push_of_some _ (Heap.get?_push_of_some _ ho1))
  (fun i v k hv hk h' tk kk=>turn i v k hv hk h' tk fun b o hb e=>kk b o (by rw [hkS];exact (hlt e).2) hb (keep b o hb e))
  (fun jx h' tk p u kk g=>h jx h' tk p u (fun b o hb e=>kk b o (by rw [hkS];exact (hlt e).2) hb (keep b o hb e)) g)
end
section
variable {X:Cx}
def zji:List V->Hp->VK->Prop:=fun xs H Q=>∃ a ys rs,xs=[.ref a]/\Rd H a (.lst ys)/\zas H (rs.map rD) ys/\rs.Pairwise (fun a b=>rltB a b=true)/\rs.length<64/\(∀ r∈rs,r.length<=1000) /\
 ∀ l zs,H l=none->(∀ G,zas G (rs.map rD) ys->zas G ((zaE llB rs).map rD) zs)->Q (.ref l) (upd H l (.lst zs))
theorem zlW {pins:List (Addr×Obj)}{σ : St}{H:Hp}{s:Shared}{a:Addr}{ys:List V}{rs:List (List (Int×Int))}{Q:VK}(I:Inv X pins σ H s)(ha:Rd H a (.lst ys))(hA:zas H (rs.map rD) ys)(hs:rs.Pairwise (fun a b=>rltB a b=true))(h64:rs.length<64)(hrl:∀ r∈rs,r.length<=1000)
 (q:∀ l zs,H l=none->(∀ G,zas G (rs.map rD) ys->zas G ((zaE llB rs).map rD) zs)->Q (.ref l) (upd H l (.lst zs))) :
 wpAny (model X.prog X.w) X.A (call (.builtin "sorted") [.ref a] [(Str.ofString "key",.builtin "len")]) (EP X pins σ Q) X.xe s:=by
 refine zc1c (I.list (.inl ha)) fun its ri pl hz=>?_;have l1:=hA.length;have l2:=ri.length;rw [Zql] at l1;have lw:its.length=rs.length:=by omega
 have hl:=pl.isList;have keep:∀ b o,s.heap.get? b=some o->(((s.heap.push (seqObj "list" #[] 0)).update s.heap.objs.size (Obj.mapSeq (· ++ its.toArray))).push (seqObj "list" its.toArray 0)).get? b=some o:=fun b o q=>by
  have hlt:b<s.heap.objs.size:=Heap.lt_size q;refine Heap.get?_push_of_some _ ?_;rw [Heap.get?_update_ne _ _ _ _ (Nat.ne_of_lt hlt),Heap.get?_push_ne _ _ _ (Nat.ne_of_lt hlt)];exact q
 have hsz:((s.heap.push (seqObj "list" #[] 0)).update s.heap.objs.size (Obj.mapSeq (· ++ its.toArray))).objs.size=s.heap.objs.size+1:=by
  rw [Heap.size_update,size_push']
 have hoL:(((s.heap.push (seqObj "list" #[] 0)).update s.heap.objs.size (Obj.mapSeq (· ++ its.toArray))).push (seqObj "list" its.toArray 0)).get? (s.heap.objs.size+1)=some (seqObj "list" its.toArray 0):=by
  rw [<- hsz];exact Heap.get?_push_size _ rfl
 refine call_function_entry_kw kind_sorted plain_sorted entry_sorted (ksk_s1 _ _) ?_;unfold Builtin.«sorted»;refine wpAny_bind (m:=checkCount "sorted" 1 1 _) (wpAny_pure ?_);refine wpAny_bind (collect_list hl ?_ (by rw [lw,sizeLine_eq];omega));refine wpAny_bind (wpAny_newList ?_ (by rw [lw,sizeLine_eq];omega));show wpAny _ _ _ _ _ { s with heap:=((s.heap.push (seqObj "list" #[] 0)).update s.heap.objs.size (Obj.mapSeq (· ++ its.toArray))).push (seqObj "list" its.toArray 0) };rw [hsz];generalize hH:((s.heap.push (seqObj "list" #[] 0)).update s.heap.objs.size (Obj.mapSeq (· ++ its.toArray))).push (seqObj "list" its.toArray 0)=hp at keep hoL;refine wpAny_bind (wpAny_holding (wpAny_call_entry_kw slot_list_sort ⟨_,hoL,rfl⟩ entry_list_sort ?body (ksk_l1 _ _)))
 case body =>
  show wpAny (model X.prog X.w) X.A.in1.in1 (Builtin.«list.sort» ⟨[.ref (s.heap.objs.size+1)],[(Str.ofString "key",.builtin "len")]⟩) _ _ _;rw [ksk_t4];refine zku (s:={ s with heap:=hp }) (kz:=rs.map fun r=>(r.length:Int)) hoL (by rw [Zql];omega) (by omega) (fun i v k hv hk h' tk kk=>?_) fun jx h' tk p u kk g=>⟨_,rfl,wpAny_pure ⟨_,rfl,?_⟩⟩
  ·have hi:i<rs.length:=by
    have:=(List.getElem?_eq_some_iff.mp hk).1
    rwa [Zql] at this
   refine zc1b (hA.get (i:=i) (d:=rD (rs.getD i [])) (by rw [List.getElem?_map,Zqg hi,zap (Zqg hi)];rfl)) fun x hx hI=>?_;refine zc1b (ri.get hx) fun v' hv' rr=>?_;rw [hv] at hv';obtain rfl:=Zqi hv';refine zc4a (zm9 I.hok hI rr) fun b o ws m R=>?_;obtain rfl:v=Value.ref b:=R.isv;have hb:b≠s.heap.objs.size+1:=Nat.ne_of_lt (Nat.lt_succ_of_lt (Heap.lt_size R.get));have ht:IsTup h' b ws.toArray:=⟨o,kk b o hb (keep b o R.get),R.cls,m,R.dat⟩;have lws:ws.length=(rs.getD i []).length:=R.prs.1;have ek:k=((rs.getD i []).length:Int):=by
    rw [List.getElem?_map,Zqg hi] at hk;rw [zap (Zqg hi)];exact (Zqi hk).symm
   have lrow:(rs.getD i []).length<=1000:=by
    rw [zap (Zqg hi)];exact hrl _ (List.getElem_mem hi)
   have ev:Value.int ((ws.toArray.size:Nat):Int) (tk+1)=Value.int k (tk+1):=by rw [List.size_toArray,lws,ek]
   exact len_tuple (s:={ s with heap:=h',toks:=tk }) ht (by rw [List.size_toArray,lws];omega) ⟨tk+1,tk+1+1,ev,rfl⟩
  ·obtain ⟨c,g⟩:=g;have kk':∀ b o,s.heap.get? b=some o->h'.get? b=some o:=fun b o e=>kk b o (Nat.ne_of_lt (Nat.lt_succ_of_lt (Heap.lt_size e))) (keep b o e);rw [lw] at p u;have ud:(fun i j=>decide ((rs.map fun r=>(r.length:Int)).getD i 0<(rs.map fun r=>(r.length:Int)).getD j 0))=fun i j=>decide (((rs.getD i []).length:Int)<((rs.getD j []).length:Int)):=by
    have e:∀ i,(rs.map fun r=>(r.length:Int)).getD i 0=((rs.getD i []).length:Int):=fun i=>by
     rw [List.getD_eq_getElem?_getD,List.getElem?_map,List.getD_eq_getElem?_getD];cases rs[i]?<;>rfl
    funext i j
    rw [e,e]
   rw [ud] at u;have sp:=zjA hs p u;have szl:s.heap.objs.size<=s.heap.objs.size+1:=Nat.le_succ _;have at_:∀ i∈jx.toList,∃ x v,ys[i]? = some x/\its[i]? = some v/\RelV x v:=fun i hi=>by
    have hn:=p.mem hi;obtain ⟨x,hx⟩:∃ x,ys[i]? = some x:=⟨ys[i]'(by omega),Zqg (by omega)⟩;refine zc1b (ri.get hx) fun v hv rr=>?_;exact ⟨x,v,hx,hv,rr⟩
   have fin:=q (s.heap.objs.size+1) (jx.toList.map fun i=>ys.getD i .non) (I.hok.fresh szl) fun G hG=>by
    have:=zcC hG jx.toList fun i hi=>p.mem hi;rw [sp] at this;exact this
   refine ⟨.ref (s.heap.objs.size+1),upd H (s.heap.objs.size+1) (.lst (jx.toList.map fun i=>ys.getD i .non)),I.laid (a:=s.heap.objs.size+1) (o:=.lst (jx.toList.map fun i=>ys.getD i .non)) (t':=tk) kk' szl ⟨?_,jx.toList.map (nthV its),c,?_,?_⟩,rfl,fin⟩
   ·rw [Zql,p.len];exact zc3 (by omega)
   ·refine zcg fun i hi=>?_;refine zc2c (at_ i hi) fun x v hx hv rr=>?_;unfold nthV;rw [zap hx,zap hv];exact rr
   ·rw [g]
    congr 3
    apply Array.ext';simp -iota
theorem pe_sortLen {e:Expr}{p pos kp lp:Pos}{t:TA}(hg:Gl X "sorted")(hm:X.mg "sorted" = none)(hg2:Gl X "len")(hm2:X.mg "len" = none)(ha:PA X [e] t)
 (he:autoParam (backTo pos (starEach [e] X.env)=(false,eval e X.env)::backTo pos (starEach [] X.env)) zau._auto_1) (hpl:autoParam ((backTo pos (starEach [e] X.env)).any (·.1)=false) zau._auto_1):PE X (.Call (.Name "sorted" p) [e] [⟨some "key",.Name "len" lp,kp⟩] pos) (tCB zji t):=by
 intro pins s σ H Q I h;refine wpAny_Call_Name_kw (zfP I hg hm (show bootBuiltins "sorted" = some (.builtin "sorted") by kernel_rfl) ?_ (by decide) (by decide));refine callWith_kw (thn (ha pos pins s σ H _ I h) fun us s1 ⟨vs,H1,I1,r1,q1⟩=>?_) he hpl;refine kws_cons (zfP I1 hg2 hm2 boot_len ?_ (by decide) (by decide));refine kws_nil ?_;refine zc3a q1 fun a ys rs zz=>zc0e zz fun zr3 h1 h2 h3 zz=>zc0c zz fun h4 h5 q=>?_;subst zr3;refine zc1b (zcn r1) fun u zr1 ru=>?_;subst zr1;obtain rfl:u=Value.ref a:=ru;exact zlW I1 h1 h2 h3 h4 h5 q
end
end L2.ST
namespace L2.DL
open PySem PySem.Spec PyProof.Rows L2.ST
def zd0:List D->Option D
 | [.lst ds]=>(zb3 zdo ds).bind fun rs=>if rs.Pairwise (fun a b=>rltB a b=true)/\rs.length<64/\∀ r∈rs,r.length<=1000 then some (.lst ((zaE llB rs).map rwD)) else none
 |_=>none
section
variable {X:Cx}{E:XK}{fr:FA}{es:List Expr}{e:Expr}
theorem zmA (h:∀ {ta:TA},PA X es ta->PE X e (tCB zji ta))(ha:QA X E es fr):QN X E e (dBlt zd0 fr):=PE.weak (h ha) fun σ H Q zh=>by
 refine zc3b zh fun B F sd r n=>?_;refine ⟨B,F,sd,r,(Res.need_bind n).mono (fun ds n1 vs F1 H1 e1 i1=>?_) fun _ _ q=>q⟩;refine zc1b (Res.need_ofO n1) fun z hz q=>?_;unfold zd0 at hz
 split at hz
 ·refine zc1b (Option.bind_eq_some_iff.mp hz) fun rs h1 hz=>?_
  split at hz
  ·rename_i hc;obtain rfl:=Zqi hz;refine zc1b (zbH i1) fun v zr1 h=>?_;subst zr1;rw [zdU h1,IsD.lst_iff] at h;refine zc2c h fun a ys zr2 g1 g2=>?_;subst zr2;refine ⟨a,ys,rs,rfl,g1.same e1.fh,zcO.mp (IsDs.same e1.fh _ _ g2),hc.1,hc.2.1,hc.2.2,fun l zs hl hG=>?_⟩;exact (q.ext e1) l F1 _ (.keep e1.fh hl _) hl (za4 e1.fh hl) ⟨zs,zao,zcO.mpr (hG F1 (zcO.mp g2))⟩
  ·exact zqn hz
 ·exact zqn hz
end
theorem zgy {rs:List (List (Int×Int))}(h:rs.Pairwise (fun a b=>rltB a b=true))(h2:rs.length<64)(h3:∀ r∈rs,r.length<=1000):zd0 [.lst (rs.map rwD)]=some (.lst ((zaE llB rs).map rwD)):=by
 show (zb3 zdo (rs.map rwD)).bind _=_;rw [zdL];exact if_pos ⟨h,h2,h3⟩
end L2.DL
namespace L2
theorem zbc.has {P:Program}{w:World}{H:Hp}{h:Heap}{a:Addr}{o:HO}(x:zbc P w H h a o):∃ u,h.get? a=some u:=by
 cases o with
 |lst xs=>obtain ⟨_,_,_,_,e⟩:=x;exact ⟨_,e⟩
 |tup xs=>obtain ⟨_,_,_,o,e,_⟩:=x;exact ⟨_,e⟩
 |dK kvs=>obtain ⟨_,_,_,_,o,_,_,e,_⟩:=x;exact ⟨_,e⟩
 |dT kvs=>obtain ⟨_,_,_,_,o,_,_,e,_⟩:=x;exact ⟨_,e⟩
 |set S n=>obtain ⟨o,_,_,_,e,_⟩:=x;exact ⟨_,e⟩
 |ins C dx fs=>obtain ⟨_,_,_,e,_⟩:=x;exact ⟨_,e⟩
 |own y=>exact x
 |xd fs=>obtain ⟨_,⟨_,_,_,e,_⟩,_⟩:=x;exact ⟨_,e⟩
 |rng lo hi=>obtain ⟨_,_,_,e⟩:=x;exact ⟨_,e⟩
 |frz ob u=>exact ⟨_,x.1⟩
 |tbl ps=>exact ⟨_,show h.get? a=some _ from x⟩
 |met f y=>exact ⟨_,show h.get? a=some _ from x⟩
 |ext φ => exact x.2.1
structure FlyAt (l:List Env)(h₀:Heap)(H:Hp)(x C:Addr)(B h:Heap):Prop where
 fly:∃ t,Heap.FlyingW B l x (.ref C) (.ref t) h
 trk:∀ b o,h.get? b=some o->(H b≠none\/((∃ u,h₀.get? b=some u)/\b∉frs l))->B.get? b=some o
def CXE (P:Program)(w:World):CXT:=fun outer H s E e s'=>∃ H' x C B,e=.ref x/\s'.os=s.os/\AllBare s'.gens/\Un (frs outer) [] H H' s.heap s'.heap/\HOk P w H' s'.heap/\FlyAt outer s.heap H' x C B s'.heap/\E (.ref C) none H'
structure Thrown (X:Cx)(E:XK):Prop where
 on:∀ (pins:List (Addr×Obj)) (σ : St) (H:Hp) (s:Shared) (h₀:Heap) (x C:Addr) (B:Heap),Inv X pins σ H s->(∀ b u,X.s₀.heap.get? b=some u->b∉X.ex->∃ u',h₀.get? b=some u')->FlyAt X.stack h₀ H x C B s.heap->E (.ref C) none H->X.xe (.ref x) s
structure Raises (X:Cx)(E:XK):Prop where
 new:∀ (pins:List (Addr×Obj)) (σ : St) (H:Hp) (s:Shared) (h':Heap) (x C:Addr) (args:List Value),Inv X pins σ H s->Heap.MadeExcOf s.heap h' x (.ref C) args->E (.ref C) none H->X.xe (.ref x) { s with heap:=h' }
theorem Thrown.passes {X:Cx}{E:XK}(T:Thrown X E):zjr (CXE X.prog X.w) X E:=by
 rintro pins σ H s e s' I ⟨H',x,C,B,h1,os,bare,un,hok,fl,hE⟩;subst h1;have I':=I.call' (s':=s') (ch:=[]) os un hok bare (fun b z=>absurd z (by simp));exact T.on pins σ H' s' s.heap x C B I' (fun b u e hx=>I.base.there b u e hx) fl hE
theorem zpL {X:Cx}:Thrown X E0:=⟨fun _ _ _ _ _ _ _ _ _ _ _ z=>z.elim⟩
section
variable {P:Program}{w:World}{K:W.Frag}{mg:Str->Option Value}{base:Heap}{N:List Str}{qual:Str}{scope:Scope}{f:Addr}{cd:Value}{A:Around}{outer:List Env}{s:Shared}{H:Hp}{E:XK}
theorem zhJ {pins:List (Addr×Obj)}{σ : St}{H':Hp}{s':Shared}{h₀ h'' B:Heap}{x C t:Addr}(I:Inv (cxOf (CXE P w) P w K mg base N qual scope f cd A outer s H E) pins σ H' s')
 (h0:∀ b u,s.heap.get? b=some u->∃ u',h₀.get? b=some u') (fl:Heap.FlyingW B outer x (.ref C) (.ref t) h'') (up:s'.heap.UpToSlots h'')
 (trk:∀ b o,s'.heap.get? b=some o->(H' b≠none\/((∃ u,h₀.get? b=some u)/\b∉frs (envOfC qual scope s.heap.objs.size f cd::outer)))->B.get? b=some o) (hE:E (.ref C) none H') :
 CXE P w outer H s E (.ref x) { s' with heap:=h'' }:=by
 have nst:∀ b u,s.heap.get? b=some u->b∉frs outer->b∉frs (envOfC qual scope s.heap.objs.size f cd::outer):=fun b u e hb z=>by
  unfold frs at z hb;rw [List.filterMap_cons] at z;have z:b∈s.heap.objs.size::outer.filterMap (·.frame):=z;rcases List.mem_cons.mp z with q|q
  ·exact absurd (Heap.lt_size e) (by rw [q];exact Nat.lt_irrefl _)
  ·exact hb q
 have nex:∀ b:Addr,b∉(cxOf (CXE P w) P w K mg base N qual scope f cd A outer s H E).ex:=fun b z=>absurd (show b∈([]:List Addr) from z) (by simp);have keep:∀ b o,s'.heap.get? b=some o->(H' b≠none\/((∃ u,s.heap.get? b=some u)/\b∉frs outer))->B.get? b=some o:=fun b o e c=>by
  refine trk b o e ?_;rcases c with c|⟨⟨u,hu⟩,hb⟩
  ·exact .inl c
  ·exact .inr ⟨h0 b u hu,nst b u hu hb⟩
 have slot:∀ b o,s.heap.get? b=some o->b∈frs outer->∃ sl,h''.get? b=some { o with slots:=sl }:=fun b o e hb=>by
  obtain ⟨sl,e1⟩:=I.base.slot b o e (I.ok.frf b hb) hb (nex b);refine zc0b (I.ok.funs.mem hb) fun _ zz=>zc1b zz fun o' ho' hd=>?_;have ho':s.heap.get? b=some o':=ho';rw [e] at ho';obtain rfl:=Zqi ho';obtain ⟨sl',e2⟩:=up b _ e1 hd;exact ⟨sl',e2⟩
 refine ⟨H',x,C,B,rfl,I.os,I.bare,⟨fun b o e n hb _=>?_,fun b o e n hb _=>slot b o e hb,fun b o e n _=>I.base.free b o e n (nex b),fun b o e _=>?_,I.base.tups,I.base.frzs,I.base.tbls⟩,fun b u e=>?_,⟨⟨t,fl⟩,fun b o e c=>?_⟩,hE⟩
 ·exact fl.1 b o (keep b o (I.base.keep b o e n hb (nex b)) (.inr ⟨⟨o,e⟩,hb⟩))
 ·by_cases hb:b∈frs outer
  ·obtain ⟨sl,q⟩:=slot b o e hb;exact ⟨_,q⟩
  ·obtain ⟨o',e'⟩:=I.base.there b o e (nex b);exact ⟨o',fl.1 b o' (keep b o' e' (.inr ⟨⟨o,e⟩,hb⟩))⟩
 ·refine (I.hok b u e).stay (fun c v hc q=>fl.1 c v (keep c v q (.inl ?_))) (fun _ q=>q) fun _ _ q=>q;rcases hc with z|z
  ·rw [z,e];simp
  ·rw [z];simp
 ·have ex:∃ o',s'.heap.get? b=some o':=by
   rcases c with c|⟨⟨u,hu⟩,_⟩
   ·cases q:H' b with
    |none=>exact absurd q c
    |some u=>exact (I.hok b u q).has
   ·exact I.base.there b u hu (nex b)
  obtain ⟨o',e'⟩:=ex;have k:=keep b o' e' c;have:=fl.1 b o' k;have e:h''.get? b=some o:=e;rw [e] at this;obtain rfl:=Zqi this;exact k
theorem zdM:Thrown (cxOf (CXE P w) P w K mg base N qual scope f cd A outer s H E) E:=by
 refine ⟨fun pins σ H' s' h₀ x C B I h0 fl hE=>?_⟩;obtain ⟨⟨t,fly⟩,trk⟩:=fl;have nex:∀ b:Addr,b∉(cxOf (CXE P w) P w K mg base N qual scope f cd A outer s H E).ex:=fun b z=>absurd (show b∈([]:List Addr) from z) (by simp);exact wpAny_leaves_onW I.ok.frames rfl fly fun h' fl up=>zhJ I (fun b u e=>h0 b u e (nex b)) fl up trk hE
theorem zkh:Raises (cxOf (CXE P w) P w K mg base N qual scope f cd A outer s H E) E:=by
 refine ⟨fun pins σ H' s' h' x C args I hx hE=>?_⟩;have st:=I.stack;have fin:∀ env∈(envOfC qual scope s.heap.objs.size f cd::outer),∀ a,env.frame=some a->a∈frs (envOfC qual scope s.heap.objs.size f cd::outer):=fun env he a ha=>List.mem_filterMap.mpr ⟨env,he,ha⟩;have B:=W.hideAll s'.heap (frs (envOfC qual scope s.heap.objs.size f cd::outer));refine wpAny_leaves_madeW (s:={ s' with heap:=h' }) (base:=W.hideAll s'.heap (frs (envOfC qual scope s.heap.objs.size f cd::outer))) (h:=s'.heap) I.ok.frames rfl (fun b o e=>W.of_hideAll _ e) (W.funFrames_hide st fin) hx fun h'' t fl tup tn up=>?_;refine zhJ (s':=s') (h₀:=s'.heap) I (fun b u e=>I.base.there b u e (by show b∉([]:List Addr);simp)) fl ((Heap.UpToSlots.of_keeps hx.keeps).trans up) (fun b o e c=>?_) hE;refine W.hideAll_get _ e fun z=>?_;rcases c with c|c
 ·exact c (I.stkFree b z)
 ·exact c.2 z
end
def zbb (P:Program)(w:World)(K:W.Frag)(mg:Str->Option Value)(base:Heap)(name:Str)(k:Nat)(ps:List Str)(sp:Sp):Prop :=
 ∃ f fd,FnOk P w K mg base (CXE P w) k f fd ps sp/\zia K fd ps []/\W.keepIn K (.ref f)=true/\mg name=some (.ref f)
theorem zbb.mono {P:Program}{w:World}{K:W.Frag}{mg:Str->Option Value}{base:Heap}{name:Str}{j k:Nat}{ps:List Str}{sp:Sp}(c:zbb P w K mg base name j ps sp)(h:j<=k):zbb P w K mg base name k ps sp:=by
 refine zc2b c fun f fd F r=>?_;exact ⟨f,fd,F.mono h,r⟩
section
variable {X:Cx}{E:XK}{name:Str}{k:Nat}{ps:List Str}{sp:Sp}{p pos:Pos}{e:Expr}{es:List Expr}{t:TA}
theorem zpi (c:zbb X.prog X.w X.K X.mg X.base name k ps sp)(T:Thrown X E)(hr:Room k X.A)(hg:Gl X name)(ha:PA X (e::es) t)
 (hdb:autoParam ((name == ("__debug__" : Str))=false) zav._auto_1) (he:starEach (e::es) X.env=(false,eval e X.env)::starEach es X.env:=by rfl) (hpl:(backTo pos (starEach es X.env)).any (·.1)=false:=by rfl) :
 PE X (.Call (.Name name p) (e::es) [] pos) (zqJ sp [] E t):=by
 refine zc2d c fun f fd F b hk hm=>?_;exact zmv F hr hg hm hk b .nil T.passes ha hdb he hpl
end
theorem Fun.okX {P:Program}{w:World}{K:W.Frag}{mg:Str->Option Value}{base:Heap}{x qual:Str}{st:Stmt}{f:Addr}{fd:FuncData}{N ps:List Str}{k:Nat}{sp:Sp}(F:Fun K x qual st f fd)(S:FnScope N ps (zag st))(len:∀ vs H Q E,sp vs H Q E->vs.length=ps.length)
 (hbody:∀ (cdv:Value) (A:Around) (outer:List Env) (s:Shared) (H:Hp) (vs:List V) (Q:VK) (E:XK),Room k (A.deeper (envOfC qual (zag st) s.heap.objs.size f cdv))->sp vs H Q E ->
  ∃ t,PSs (cxOf (CXE P w) P w K mg base N qual (zag st) f cdv A outer s H E) (zbE st) t/\t { nx:=fun _ H'=>Q .non H',rt:=Q } (start N vs) H):FnOk P w K mg base (CXE P w) (k+1) f fd ps sp:=by
 refine zc4a F.ex fun oc od kV doc zz=>zc4a zz fun pm an cdv ct zz=>zc1c zz fun osl zr9 lk hcd=>?_;subst zr9;exact zr8 lk hcd S len fun A outer s H vs Q E hr hsp=>hbody cdv A outer s H vs Q E hr hsp
end L2
namespace L2.DL
def SpDX (K:W.Frag)(Fn:List D->Res D):Sp:=fun vs H Q E=>∃ F ds,Same F H/\IsDs K F ds vs/\(Fn ds).need (OkD K F H Q) (XW K E F H)
def SpNX (K:W.Frag)(Fn:List D->Res D):Sp:=fun vs H Q E=>∃ F ds,Same F H/\IsDs K F ds vs/\(Fn ds).need (OkN K F H Q) (XW K E F H)
noncomputable def Res.strict {α : Type}:Res α -> Res α
 | .ok a=>.ok a
 |_=>.no
@[simp] theorem Res.strict_ok {α : Type}(a:α):(Res.ok a).strict=.ok a:=rfl
theorem Res.need_strict {α : Type}{r:Res α}{p:α -> Prop}{q q':Str->List D->Prop}(h:r.strict.need p q):r.need p q':=by
 cases r with
 |ok a=>exact h
 |ex c fs=>exact h.elim
 |no=>exact h
def zd7 (Fn:List D->Res D)(fr:FA):FE:=fun sd=>(fr sd).bind fun ds=>(Fn ds).strict
@[simp] theorem ev_call0 (Fn:List D->Res D)(fr:FA)(sd:SD):zd7 Fn fr sd=(fr sd).bind fun ds=>(Fn ds).strict:=rfl
section
variable {X:Cx}{E:XK}{name:Str}{k:Nat}{ps:List Str}{Fn:List D->Res D}{p pos:Pos}{e:Expr}{es:List Expr}{fr:FA}
theorem q_fnX (c:zbb X.prog X.w X.K X.mg X.base name k ps (SpDX X.K Fn))(T:Thrown X E)(hr:Room k X.A)(hg:Gl X name)(ha:QA X E (e::es) fr)
 (hdb:autoParam ((name == ("__debug__" : Str))=false) zav._auto_1) (he:starEach (e::es) X.env=(false,eval e X.env)::starEach es X.env:=by rfl) (hpl:(backTo pos (starEach es X.env)).any (·.1)=false:=by rfl) :
 QE X E (.Call (.Name name p) (e::es) [] pos) (zan Fn fr):=PE.weak (zpi c T hr hg ha hdb he hpl) fun σ H Q zh=>by
 refine zc3b zh fun B F sd r n=>?_;refine ⟨B,F,sd,r,(Res.need_bind n).mono (fun xs n1 vs F1 H1 e1 i1=>?_) fun _ _ q=>q⟩;show SpDX X.K Fn (vs++[]) H1 Q E;rw [List.append_nil];exact ⟨F1,xs,e1.fh,i1,zpU n1 e1⟩
theorem zm8 (c:zbb X.prog X.w X.K X.mg X.base name k ps (SpNX X.K Fn))(T:Thrown X E)(hr:Room k X.A)(hg:Gl X name)(ha:QA X E (e::es) fr)
 (hdb:autoParam ((name == ("__debug__" : Str))=false) zav._auto_1) (he:starEach (e::es) X.env=(false,eval e X.env)::starEach es X.env:=by rfl) (hpl:(backTo pos (starEach es X.env)).any (·.1)=false:=by rfl) :
 QN X E (.Call (.Name name p) (e::es) [] pos) (zan Fn fr):=PE.weak (zpi c T hr hg ha hdb he hpl) fun σ H Q zh=>by
 obtain ⟨B,F,sd,r,n⟩:=zh;refine ⟨B,F,sd,r,(Res.need_bind n).mono (fun xs n1 vs F1 H1 e1 i1=>?_) fun _ _ q=>q⟩;show SpNX X.K Fn (vs++[]) H1 Q E;rw [List.append_nil];exact ⟨F1,xs,e1.fh,i1,zps n1 e1⟩
theorem zhr (c:zar X.prog X.w X.K X.mg X.base name k ps (SpN X.K Fn))(hr:Room k X.A)(hg:Gl X name)(ha:QA X E (e::es) fr)
 (hdb:autoParam ((name == ("__debug__" : Str))=false) zav._auto_1) (he:starEach (e::es) X.env=(false,eval e X.env)::starEach es X.env:=by rfl) (hpl:(backTo pos (starEach es X.env)).any (·.1)=false:=by rfl) :
 QN X E (.Call (.Name name p) (e::es) [] pos) (zd7 Fn fr):=PE.weak (zq0 c hr hg ha hdb he hpl) fun σ H Q zh=>by
 refine zc3b zh fun B F sd r n=>?_;refine ⟨B,F,sd,r,(Res.need_bind n).mono (fun xs n1 vs F1 H1 e1 i1=>?_) fun _ _ q=>q⟩;show SpN X.K Fn (vs++[]) H1 Q E0;rw [List.append_nil];exact ⟨F1,xs,e1.fh,i1,Res.need_strict (zps n1 e1)⟩
end
section
variable {P:Program}{w:World}{K:W.Frag}{mg:Str->Option Value}{base:Heap}{x qual:Str}{f:Addr}{fd:FuncData}{N ps:List Str}{k:Nat}{st:Stmt}
theorem fn_dX {g:FS}(F:Fun K x qual st f fd)(S:FnScope N ps (zag st))
 (hb:∀ (cdv:Value) (A:Around) (outer:List Env) (s:Shared) (H:Hp) (E:XK),Room k (A.deeper (envOfC qual (zag st) s.heap.objs.size f cdv))->QSs (cxOf (CXE P w) P w K mg base N qual (zag st) f cdv A outer s H E) E false (zbE st) g) :
 FnOk P w K mg base (CXE P w) (k+1) f fd ps (SpDX K (runD N.length ps.length g)):=by
 refine F.okX S (fun vs H Q E ⟨F,ds,_,h,n⟩=>?_) fun cdv A outer s H vs Q E hr ⟨F,ds,hs,h,n⟩=>⟨_,hb cdv A outer s H E hr,?_⟩
 ·unfold runD at n
  split at n
  ·rw [h.length];assumption
  ·exact n.elim
 ·unfold runD at n
  split at n
  ·refine ⟨⟨F,H,fun _=>none⟩,F,_,RS.start hs h,(Res.need_bind n).mono (fun o n1=>?_) fun _ _ q=>q⟩;cases o with
   |next sd=>exact fun σ F' H' _ r=>n1 .non F' H' r.ext (IsD.non_iff.mpr rfl)
   |ret d=>exact n1
   |brk sd=>exact n1.elim
   |cont sd=>exact n1.elim
  ·exact n.elim
theorem zs1 {g:FS}(F:Fun K x qual st f fd)(S:FnScope N ps (zag st))
 (hb:∀ (cdv:Value) (A:Around) (outer:List Env) (s:Shared) (H:Hp) (E:XK),Room k (A.deeper (envOfC qual (zag st) s.heap.objs.size f cdv))->QSs (cxOf (CXE P w) P w K mg base N qual (zag st) f cdv A outer s H E) E true (zbE st) g) :
 FnOk P w K mg base (CXE P w) (k+1) f fd ps (SpNX K (runN N.length ps.length g)):=by
 refine F.okX S (fun vs H Q E ⟨F,ds,_,h,n⟩=>?_) fun cdv A outer s H vs Q E hr ⟨F,ds,hs,h,n⟩=>⟨_,hb cdv A outer s H E hr,?_⟩
 ·unfold runN at n
  split at n
  ·rw [h.length];assumption
  ·exact n.elim
 ·unfold runN at n
  split at n
  ·refine ⟨⟨F,H,fun _=>none⟩,F,_,RS.start hs h,(Res.need_bind n).mono (fun o n1=>?_) fun _ _ q=>q⟩;cases o with
   |next sd=>exact n1.elim
   |ret d=>exact n1
   |brk sd=>exact n1.elim
   |cont sd=>exact n1.elim
  ·exact n.elim
end
end L2.DL
namespace L2
theorem zkg {n:Nat}(h:n<1000000):n.log2<20:=by
 by_cases z:n=0
 ·subst z;decide
 ·exact (Nat.log2_lt z).mpr (Nat.lt_of_lt_of_le h (by decide))
section
variable {X:Cx}{x:Str}{v e:Expr}{tv:TE}{t:TA}{p1 p2 np cpos pos:Pos}{k}
noncomputable def tFmt (x:Str)(tv:TE):TE:=fun σ H Q=>tv σ H fun y H1=>∃ a:Int,y=.int a/\a.natAbs<1000000/\Q (.str (Str.empty++x++Str.ofString (toString a))) H1
theorem zsQ (hx:x.length<=1000)(hv:PE X v tv):PE X (.JoinedStr [.Constant (.str x) k p1,.FormattedValue v (-1) none p2] pos) (tFmt x tv):=by
 intro pins s σ H Q I h;refine wpAny_JoinedStr ?_;have z0:(Str.empty:Str).length=0:=rfl;have sl:sizeLine=_:=sizeLine_eq;show wpAny _ _ (eval (.Constant (.str x) k p1) X.env) _ _ s;refine thn (zrD pins s σ H (fun y H1=>y=.str x/\H1=H) I ⟨rfl,rfl⟩) fun u s1 zh=>?_;refine zc2d zh fun y H1 I1 r1 e1 e2=>?_;subst e1 e2;obtain ⟨t1,rfl⟩:=r1;refine ⟨x,t1,rfl,by rw [strLen_append,z0,sizeLine_eq];omega,?_⟩;show wpAny _ _ (eval (.FormattedValue v (-1) none p2) X.env) _ _ s1;refine wpAny_FormattedValue_plain (thn (hv pins s1 σ H1 _ I1 h) fun u s2 zh=>?_);refine zc2c zh fun y H2 I2 r2 zz=>zc1c zz fun a e1 ha q=>?_;subst e1;obtain ⟨t2,rfl⟩:=r2;have lg:=zkg ha;have ln:=int_text_length_le (a:=a) (k:=20) (by decide) lg;have lx:(Str.empty++x++Str.ofString (toString a)).length<=sizeLine:=by rw [strLen_append,strLen_append,z0,PySem.ofString_length,sizeLine_eq];omega
 refine wpAny_formatField_int (by omega) ⟨_,_,rfl,lx,lx,?_⟩;exact ⟨.str (Str.empty++x++Str.ofString (toString a)),H2,I2.tok _,⟨_,rfl⟩,q⟩
structure Exc (K:W.Frag)(mg:Str->Option Value)(c:Str)(C:Addr):Prop where
 ns:W.nsIn K mainGlobals c=some (some (.ref C))
 mgc:mg c=some (.ref C)
 exc:W.excIn K C [.type "ValueError",.type "Exception",.type "BaseException",.type "object"] "ValueError.__new__" = true
theorem zlQ {K:W.Frag}{h:Heap}{C:Addr}{bmB:List Value}{newId:String}{P:Prop}(KI:K.In h)(q:W.excIn K C bmB newId=true)
 (k:∀ bm N nm qn bs hdct sn sub ab col dd k0 k1 k2 k3 k5 mN,h.get? C=some (excClassObj nm qn C N bs bm hdct sn sub ab col dd k0 k1 k2 k3 k5 newId)->h.Ns N mN->mN "__init__" = none->OwnTail h bmB bm->P):P:=by
 unfold W.excIn at q
 split at q
 ·rename_i dd cd sl ho
  split at q
  ·rename_i C' bm k0 k1 k2 k3 n k5 hm hs;simp only [Bool.and_eq_true,beq_iff_eq,Bool.not_eq_true'] at q;obtain ⟨⟨⟨⟨⟨z1,z2⟩,hdel⟩,ht⟩,hok⟩,hni⟩:=q;subst z1 z2;have hc:=KI _ _ ho;obtain ⟨nm,bs,mro,ns,qn,hd,sn,sub,ab,col,del⟩:=cd;dsimp only at hm hdel hok hni hc;subst hm hdel;have hsl:sl = #[k0,k1,k2,k3,some (.builtin n),k5]:=by
    obtain ⟨l⟩:=sl;exact congrArg Array.mk hs
   subst hsl;exact k bm ns nm qn bs hd sn sub ab col dd k0 k1 k2 k3 k5 _ hc (.of_isNs (W.isNs_of_in KI hok)) (W.nsMap_none_of_in KI hok hni) (W.tail_of_in KI ht)
  ·exact zqb q
 ·exact zqb q
noncomputable def ztE (C:Addr)(E:XK)(t:TA):TS:=fun _ σ H=>t σ H fun vs H1=>vs.length<=1000/\E (.ref C) none H1
theorem zo1 {E:XK}{c:Str}{C:Addr}(R:Raises X E)(ex:Exc X.K X.mg c C)(hc:X.calm=true)(hg:Gl X c)(ha:PA X [e] t)(hd:autoParam ((c == ("__debug__" : Str))=false) zav._auto_1)
 (he:autoParam (starEach [e] X.env=(false,eval e X.env)::starEach [] X.env) zau._auto_1):PS X (.Raise (some (.Call (.Name c np) [e] [] cpos)) none pos) (ztE C E t):=by
 intro pins s σ H D I h;refine zlQ (h:=X.base) I.mod.kin ex.exc fun tl N nm q bs hdct sn sub ab col dd k0 k1 k2 k3 k5 mN hC hN hni T=>?_;refine wpAny_Raise_call_subU (C:=C) (nm:=nm) (q:=q) (N:=N) (bs:=bs) (bm:=tl) (hdct:=hdct) (sn:=sn) (sub:=sub) (ab:=ab) (col:=col) (dd:=dd) (k0:=k0) (k1:=k1) (k2:=k2) (k3:=k3) (k5:=k5)
  PySem.F.excBase_ValueError (by decide +kernel) PySem.F.excBase_ValueError (mN:=mN) (T.hasType PySem.F.excBase_ValueError.hasBase) (I.ok.hd hc) (by rw [he];rfl) hni (zgA I hg ex.mgc ⟨rfl,?_⟩ hd)
 have hA:=ha cpos pins s σ H _ I h;rw [he] at hA ⊢;refine Calls.evalArgs_plain (wpAny_mono hA (fun vs s2 ⟨ws,H2,I2,r2,hl,hE⟩=>?_) fun _ _ y=>y);have lw:=r2.length;refine ⟨rfl,zc3 (by show vs.length<=1000;omega),I2.bk _ _ hC,hN.keeps I2.bk,T.keeps I2.bk,fun h' x hx=>R.new pins σ H2 s2 h' x C _ I2 hx hE⟩
end
end L2
namespace L2.DL
noncomputable def gFmt (x:Str):D->Option D
 | .int a=>if Nat.ble a.natAbs 999999=true then some (.str (Str.empty++x++Str.ofString (toString a))) else none
 |_=>none
theorem znU {x:Str}{a:Int}(h0 : -999999<=a)(h1:a<=999999):∃ z,gFmt x (.int a)=some (.str z):=⟨_,if_pos (Nat.ble_eq.mpr (by omega))⟩
def ziK (c:Str)(f:FE):FS:=fun sd=>(f sd).bind fun _=>.ex c []
@[simp] theorem ev_raise (c:Str)(f:FE)(sd:SD):ziK c f sd=(f sd).bind fun _=>.ex c []:=rfl
section
variable {X:Cx}{E:XK}{m:Option Bool}{x:Str}{v e:Expr}{fv fe:FE}{p1 p2 np cpos pos:Pos}{k}
theorem q_fmt (hx:x.length<=1000)(hv:QE X E v fv):QE X E (.JoinedStr [.Constant (.str x) k p1,.FormattedValue v (-1) none p2] pos) (dUn (gFmt x) fv) :=
 PE.weak (zsQ hx hv) fun σ H Q zh=>by
  refine zc3b zh fun B F sd r n=>?_;refine ⟨B,F,sd,r,(Res.need_bind n).mono (fun d n1 y F1 H1 e1 i1=>?_) fun _ _ q=>q⟩;refine zc1b (Res.need_ofO n1) fun z hz q=>?_;unfold gFmt at hz
  split at hz
  ·rename_i a
   split at hz
   ·rename_i hc;obtain rfl:=Zqi hz;exact ⟨a,IsD.int_iff.mp i1,by have:=Nat.ble_eq.mp hc;omega,q _ F1 H1 e1 (IsD.str_iff.mpr rfl)⟩
   ·exact zqn hz
  ·exact zqn hz
theorem zni {c:Str}{C:Addr}(R:Raises X E)(ex:Exc X.K X.mg c C)(hc:X.calm=true)(hg:Gl X c)(he:QE X E e fe)(hd:autoParam ((c == ("__debug__" : Str))=false) zav._auto_1)
 (hst:autoParam (starEach [e] X.env=(false,eval e X.env)::starEach [] X.env) zau._auto_1):QS X E m (.Raise (some (.Call (.Name c np) [e] [] cpos)) none pos) (ziK c fe) :=
 PS.weak (zo1 R ex hc hg (zaa he zad hst) hd hst) fun T σ H zh=>by
  refine zc3b zh fun B F sd r n=>?_;have n0:(zab fe dNil sd).need (fun ds=>ds.length=1/\XW X.K E B.F0 B.H0 c []) (XW X.K E F H):=by
   unfold ziK at n;unfold zab dNil;cases hf:fe sd with
   |ok d=>rw [hf] at n;exact ⟨rfl,n⟩
   |ex c' fs=>rw [hf] at n;exact XW.ext (n:XW X.K E B.F0 B.H0 c' fs) r.ext
   |no=>rw [hf] at n;exact n
  refine ⟨B,F,sd,r,n0.mono (fun ds n1 vs F1 H1 e1 i1=>?_) fun _ _ q=>q⟩;have:=i1.length;exact ⟨by omega,n1.2 (.ref C) none F1 H1 (r.ext.trans e1) ⟨C,rfl,ex.ns,.inl rfl⟩⟩
end
end L2.DL
namespace L2
noncomputable def zgL (X:Cx)(pins:List (Addr×Obj))(σ : St)(E:XK)(e:Value)(s':Shared):Prop :=
 ∃ H' h₀ x C B,e=.ref x/\Inv X pins σ H' s'/\(∀ b u,X.s₀.heap.get? b=some u->b∉X.ex->∃ u',h₀.get? b=some u')/\(∀ p∈X.pn++pins,∃ u,h₀.get? p.1=some u)/\FlyAt X.stack h₀ H' x C B s'.heap/\E (.ref C) none H'
section
variable {X:Cx}{pins:List (Addr×Obj)}{σ : St}{H:Hp}{s:Shared}{E:XK}
theorem zim {k:Nat}{f:Addr}{fd:FuncData}{ps:List Str}{sp:Sp}{Q:VK}{us:List Value}{vs:List V}(F:FnOk X.prog X.w X.K X.mg X.base (CXE X.prog X.w) k f fd ps sp)(hr:Room k X.A)(hb:zia X.K fd ps [])
 (I:Inv X pins σ H s) (r:Vals vs us) (h:sp vs H Q E):wpAny (model X.prog X.w) X.A (call (.ref f) us) (EP X pins σ Q) (zgL X pins σ E) s:=by
 have hl:(us++[]).length=ps.length:=by rw [List.append_nil,<- r.length];exact F.len _ _ _ _ h
 have hbb:=hb s us I.kIn hl;rw [List.append_nil] at hbb;refine wpAny_call (codeAny_mono (F.run X.A X.stack s H ⟨us,[]⟩ us vs Q E hr I.env0 hbb r h) fun r s' hq=>?_);cases r with
 |error e =>
  refine zc4a hq fun H' x C B zz=>zc0e zz fun h1 os bare un zz=>zc0c zz fun hok fl hE=>?_;subst h1;exact ⟨H',s.heap,x,C,B,rfl,I.call' (s':=s') (ch:=[]) os un hok bare (fun b z=>absurd z (by simp)),fun b u e hx=>I.base.there b u e hx,fun p hp=>⟨_,(I.pin p hp).1⟩,fl,hE⟩
 |ok fl =>
  cases fl with
  |ret u=>exact I.after hq
  |next=>exact False.elim hq
  |brk=>exact False.elim hq
  |cont=>exact False.elim hq
theorem zh6 {name:Str}{k:Nat}{ps:List Str}{sp:Sp}{p pos:Pos}{e:Expr}{es:List Expr}{t:TA}{Q:VK}(c:zbb X.prog X.w X.K X.mg X.base name k ps sp)(hr:Room k X.A)(hg:Gl X name)(ha:PA X.nox (e::es) t)
 (hdb:(name == ("__debug__" : Str))=false) (he:starEach (e::es) X.env=(false,eval e X.env)::starEach es X.env) (hpl:(backTo pos (starEach es X.env)).any (·.1)=false)
 (I:Inv X pins σ H s) (h:t σ H fun vs H1=>sp vs H1 Q E):wpAny (model X.prog X.w) X.A (eval (.Call (.Name name p) (e::es) [] pos) X.env) (EP X pins σ Q) (zgL X pins σ E) s:=by
 refine zc2d c fun f fd F b hk hm=>?_;refine wpAny_Call_Name_kw (zgA I hg hm ?_ hdb);refine W.callWith_K (h₀:=X.base) I.ok.mod.kin hk (wpAny_mono (ha pos pins s σ H _ (I.wish _) h) (fun us s1 ⟨vs,H1,I1,r,q⟩=>⟨I1.kIn,?_⟩) fun _ _ z=>z.elim) he hpl;exact zim F hr b I1.unwish r q
theorem Inv.flown {h₀ h' B:Heap}{x C t:Addr}(I:Inv X pins σ H s)(h0:∀ b u,X.s₀.heap.get? b=some u->b∉X.ex->∃ u',h₀.get? b=some u')(hp:∀ p∈X.pn++pins,∃ u,h₀.get? p.1=some u)
 (trk:∀ b o,s.heap.get? b=some o->(H b≠none\/((∃ u,h₀.get? b=some u)/\b∉frs X.stack))->B.get? b=some o) (fl:Heap.FlyingW B X.stack x (.ref C) (.ref t) h') (up:s.heap.UpToSlots h'):Inv X pins σ H { s with heap:=h' }:=by
 have nst:∀ b u,X.s₀.heap.get? b=some u->b∉X.fs->b∉frs X.stack:=fun b u e hb z=>by
  rcases List.mem_cons.mp (I.stkSub b z) with q|q
  ·exact absurd (Heap.lt_size e) (by rw [q];exact Nat.not_lt.mpr I.ok.above)
  ·exact hb q
 have slot:∀ b o,X.s₀.heap.get? b=some o->b∈X.fs->b∉X.ex->∃ sl,h'.get? b=some { o with slots:=sl }:=fun b o e hb hx=>by
  obtain ⟨sl,e1⟩:=I.base.slot b o e (I.ok.frf b hb) hb hx;refine zc0b (I.ok.funs.mem hb) fun _ zz=>zc1b zz fun o' ho' hd=>?_;rw [e] at ho';obtain rfl:=Zqi ho';obtain ⟨sl',e2⟩:=up b _ e1 hd;exact ⟨sl',e2⟩
 have cell:∀ c v,s.heap.IsCell c v->h'.IsCell c v:=fun c v zh=>by
  refine zc1b zh fun o ho hd=>?_;obtain ⟨sl,e⟩:=up c o ho fun vs q=>by rw [hd] at q;cases q
  exact ⟨_,e,hd⟩
 refine zc1b (id I.loc) fun m hn hl=>?_;refine ⟨I.ok,I.os,I.bare,⟨fun b o e n hb hx=>?_,fun b o e n hb hx=>slot b o e hb hx,fun b o e n hx=>I.base.free b o e n hx,fun b o e hx=>?_,I.base.tups,I.base.frzs,I.base.tbls⟩,⟨m,up.ns hn,fun i y v h1 h2 h3=>?_⟩,fun y c e=>?_,I.free,I.freeC,fun p hpp=>?_,fun b u e=>?_,I.len⟩
 ·exact fl.1 b o (trk b o (I.base.keep b o e n hb hx) (.inr ⟨h0 b o e hx,nst b o e hb⟩))
 ·by_cases hb:b∈X.fs
  ·obtain ⟨sl,q⟩:=slot b o e hb hx;exact ⟨_,q⟩
  ·obtain ⟨o',e'⟩:=I.base.there b o e hx;exact ⟨o',fl.1 b o' (trk b o' e' (.inr ⟨h0 b o e hx,nst b o e hb⟩))⟩
 ·refine zc1b (hl i y v h1 h2 h3) fun u r l=>?_;refine ⟨u,r,?_⟩;rcases l with l|⟨k,c,e,z⟩
  ·exact .inl l
  ·exact .inr ⟨k,c,e,cell c _ z⟩
 ·obtain ⟨v,q⟩:=I.cell y c e;exact ⟨v,cell c v q⟩
 ·refine zc0e (I.pin p hpp) fun q1 q2 q3 q4 q5=>?_;refine ⟨fl.1 _ _ (trk _ _ q1 (.inr ⟨hp p hpp,fun z=>?_⟩)),q2,q3,q4,q5⟩;rcases List.mem_cons.mp (I.stkSub _ z) with q|q
  ·exact q3 q
  ·exact q4 q
 ·refine (I.hok b u e).stay (fun c v hc q=>fl.1 c v (trk c v q (.inl ?_))) (fun _ q=>q) fun _ _ q=>q;rcases hc with z|z
  ·rw [z,e];simp
  ·rw [z];simp
abbrev Cx.inSuite (X:Cx)(x:Addr):Cx:={ X with A:=X.A.mark (some (.ref x)),calm:=false,xe:=fun _ _=>False }
theorem Inv.suite (I:Inv X pins σ H s)(x:Addr):Inv (X.inSuite x) pins σ H s :=
 ⟨⟨I.ok.mod,I.ok.kind,I.ok.glob,I.ok.blt,I.ok.above,I.ok.inj,I.ok.has,I.ok.cab,(fun z=>by exact zqb z),I.ok.frames,I.ok.stk,I.ok.exf,I.ok.bs,I.ok.bsz,I.ok.noex,I.ok.exfs,I.ok.funs,I.ok.frf⟩,I.os,I.bare,I.base,I.loc,I.cell,I.free,I.freeC,I.pin,I.hok,I.len⟩
theorem Inv.unsuite {x:Addr}(I:Inv (X.inSuite x) pins σ H s)(ok:X.Ok):Inv X pins σ H s:=⟨ok,I.os,I.bare,I.base,I.loc,I.cell,I.free,I.freeC,I.pin,I.hok,I.len⟩
theorem SP.unsuite {x:Addr}{D:Ends}{f:Flow}{s':Shared}(h:SP (X.inSuite x) pins D f s')(ok:X.Ok):SP X pins D f s':=by
 cases f with
 |next=>obtain ⟨σ',H',I,q⟩:=h;exact ⟨σ',H',I.unsuite ok,q⟩
 |brk=>obtain ⟨σ',H',I,q⟩:=h;exact ⟨σ',H',I.unsuite ok,q⟩
 |cont=>obtain ⟨σ',H',I,q⟩:=h;exact ⟨σ',H',I.unsuite ok,q⟩
 |ret u=>obtain ⟨v,σ',H',I,r,q⟩:=h;exact ⟨v,σ',H',I.unsuite ok,r,q⟩
theorem zgY {Ex:Value->Shared->Prop}{c:Str}{C:Addr}{b₀:Stmt}{suite:List Stmt}{np hpos:Pos}{ts:TS}{D:Ends}{e:Value}(hst:X.stack=X.env::X.outer)(hfr:X.env.frame=some X.env.locals)(ex:Exc X.K X.mg c C)(hg:Gl X c)
 (hs:∀ x,PSs (X.inSuite x) (b₀::suite) ts) (fl:zgL X pins σ (fun cv _ H2=>cv=.ref C/\ts D σ H2) e s) (hd:(c == ("__debug__" : Str))=false) :
 wpAny (model X.prog X.w) X.A (noteFrame e X.env) (fun _ s₂=>wpAny (model X.prog X.w) X.A (setFlight e none) (fun _ s₃=>wpAny (model X.prog X.w) X.A (handleBy e X.env [.ExceptHandler (some (.Name c np)) none (b₀::suite) hpos]) (SP X pins D) Ex s₃) Ex s₂) Ex s:=by
 refine zc4a fl fun H' h₀ x C' zz=>zc1a zz fun B zz=>zc0e zz fun zr5 I h0 hp zz=>zc0c zz fun zr9 hC' hts=>?_;subst zr5;obtain ⟨⟨t,fly⟩,trk⟩:=zr9;cases hC';have fly':=fly;rw [hst] at fly';refine wpAny_looks_onW (I.ok.frames.trans (by rw [hst])) hfr fly' fun h₄ held₄ up₄=>?_;refine wpAny_landsW held₄ fun h₅ fl₅ up₅=>?_;have fl5:=fl₅;rw [<- hst] at fl5;have up5:=up₄.trans up₅;have I5:=I.flown h0 hp trk fl5 up5;refine wpAny_handleBy_cons (codeAny_handlers_test (zgA (X:=X.inSuite x) (I5.suite x) hg ex.mgc ?_ hd)) (by intro q;cases q);refine zlQ (h:=h₅) I5.kIn ex.exc fun tl N nm q bs hdct sn sub ab col dd k0 k1 k2 k3 k5 mN hC hN hni T=>?_;obtain ⟨ob,hob,hobc⟩:=fl₅.there;refine wpAny_excMatches_sub_self hC hob hobc (T.hasType PySem.F.excBase_ValueError.hasBase) (codeAny_handlers_suite ?_);refine lands_againW fl₅ fun h₆ fl₆ up₆=>?_;rw [<- hst] at fl₆;have I6:=I.flown h0 hp trk fl₆ (up5.trans up₆);exact wpAny_mono (hs x pins _ σ H' D (I6.suite x) hts) (fun f s2 q=>q.unsuite I.ok) fun _ _ z=>z.elim
end
end L2
namespace L2.DL
section
variable {X:Cx}{E:XK}{m:Option Bool}
theorem SpNX.d {K:W.Frag}{Fn:List D->Res D}{vs:List V}{H:Hp}{Q:VK}{E:XK}(h:SpDX K Fn vs H Q E):SpNX K Fn vs H Q E:=by
 refine zc2c h fun F ds h1 h2 n=>?_;exact ⟨F,ds,h1,h2,n.mono (fun _ q=>q.new) fun _ _ q=>q⟩
theorem zbb.d {P:Program}{w:World}{K:W.Frag}{mg:Str->Option Value}{base:Heap}{name:Str}{k:Nat}{ps:List Str}{Fn:List D->Res D}(c:zbb P w K mg base name k ps (SpNX K Fn)):zbb P w K mg base name k ps (SpDX K Fn):=by
 refine zc2b c fun f fd F r=>?_;exact ⟨f,fd,F.imp fun _ _ _ _ h=>SpNX.d h,r⟩
end
end L2.DL
namespace L2
theorem zjY {P:Program}{w:World}{K:W.Frag}{mg:Str->Option Value}{base:Heap}{N:List Str}{qual:Str}{scope:Scope}{f:Addr}{cd:Value}{A:Around}{outer:List Env}{s:Shared}{H:Hp}{E:XK} :
 PassesOwn (model (cxOf (CXE P w) P w K mg base N qual scope f cd A outer s H E).prog (cxOf (CXE P w) P w K mg base N qual scope f cd A outer s H E).w) (cxOf (CXE P w) P w K mg base N qual scope f cd A outer s H E).A (cxOf (CXE P w) P w K mg base N qual scope f cd A outer s H E).env (cxOf (CXE P w) P w K mg base N qual scope f cd A outer s H E).xe :=
 PassesOwn.leaving (Q₁:=fun e s''=>CXE P w outer H s E e s'')
end L2
namespace L2.DL
section
variable {P:Program}{w:World}{K:W.Frag}{mg:Str->Option Value}{base:Heap}{x qual:Str}{st:Stmt}{f:Addr}{fd:FuncData}{N ps:List Str}{k j:Nat}
end
theorem zi9 {tg:Tg}{b:FS}{ds:List D}{sd:SD}(R:Res Out->Prop)(P:Nat->SD->Prop)(h0:P 0 sd)(he:∀ sd,P ds.length sd->R (.ok (.next sd)))
 (hs:∀ (i:Nat) (x:D) (sd:SD),ds[i]? = some x->P i sd->(∃ sd',(zbB tg x sd).bind b=.ok (.next sd')/\P (i+1) sd')\/∃ c es,(zbB tg x sd).bind b=.ex c es/\R (.ex c es)):R (forT tg b ds sd):=by
 have key:∀ (k i:Nat) (sd:SD),ds.length-i=k->i<=ds.length->P i sd->R (forT tg b (ds.drop i) sd):=by
  intro k
  induction k with
  |zero =>
   intro i sd e hi p;have:i=ds.length:=by omega
   subst this;rw [List.drop_length];exact he sd p
  |succ k ih =>
   intro i sd e hi p;have hlt:i<ds.length:=by omega
   rw [List.drop_eq_getElem_cons hlt];unfold forT forD;rcases hs i ds[i] sd (Zqg hlt) p with ⟨sd',h1,h2⟩|⟨c,es,h1,h2⟩
   ·rw [h1];exact ih (i+1) sd' (by omega) hlt h2
   ·rw [h1];exact h2
 have:=key ds.length 0 sd (by omega) (Nat.zero_le _) h0
 rwa [List.drop_zero] at this
section
variable {X:Cx}{pos:Pos}
noncomputable def zpN:D->D->Option D
 | .lst a,.lst b=>if a.length+b.length<=sizeLine then some (.lst (a++b)) else none
 |_,_=>none
theorem ztc:OpDN X (binaryOp .Add) zpN:=OpR.weak zmQ fun x y H Q zh=>by
 refine zc4a zh fun F d e z zz=>zc0e zz fun sF id ie hz q=>?_;cases d with
 |lst a =>
  cases e with
  |lst b =>
   have hz:(if a.length+b.length<=sizeLine then some (D.lst (a++b)) else none)=some z:=hz
   split at hz
   ·rename_i hl;obtain rfl:=Zqi hz;rw [IsD.lst_iff] at id ie;refine zc2c id fun l xs zr2 h1 h2=>?_;subst zr2;refine zc2c ie fun l' ys zr2 h3 h4=>?_;subst zr2;have l1:=h2.length;have l2:=h4.length;exact ⟨l,l',xs,ys,rfl,rfl,h1.same sF,h3.same sF,by omega,fun p hp=>q p F _ (.keep sF hp _) hp (za4 sF hp) ⟨_,zao,h2.append h4⟩⟩
   ·exact zqn hz
  |_=>exact zqn hz
 |_=>exact zqn hz
@[simp] theorem ztH (a b:List D):zpN (.lst a) (.lst b)=if a.length+b.length<=sizeLine then some (.lst (a++b)) else none:=rfl
end
end L2.DL
namespace L2
abbrev TB:=Ends->XK->St->Hp->Prop
def PB (X:Cx)(body:List Stmt)(t:TB):Prop :=
 ∀ (pins:List (Addr×Obj)) (s:Shared) (σ : St) (H:Hp) (D:Ends) (E:XK),Inv X pins σ H s->t D E σ H->wpAny (model X.prog X.w) X.A (execs body X.env) (SP X pins D) (zgL X pins σ E) s
section
variable {X:Cx}
theorem PB.weak {b:List Stmt}{t t':TB}(h:PB X b t)(w:∀ D E σ H,t' D E σ H->t D E σ H):PB X b t':=fun pins s σ H D E I q=>h pins s σ H D E I (w _ _ _ _ q)
theorem zqk {name:Str}{k:Nat}{ps:List Str}{sp:Sp}{t:TA}{e:Expr}{es:List Expr}{p cpos apos:Pos}
 (cc:zbb X.prog X.w X.K X.mg X.base name k ps sp) (hr:Room k X.A) (hg:Gl X name) (ha:PA X.nox (e::es) t)
 (hdb:autoParam ((name == ("__debug__" : Str))=false) zav._auto_1) (he:starEach (e::es) X.env=(false,eval e X.env)::starEach es X.env:=by rfl) (hpl:(backTo cpos (starEach es X.env)).any (·.1)=false:=by rfl)
 (hsw:autoParam (swapsWith (.Call (.Name name p) (e::es) [] cpos) none apos.line X.env=pure false) zau._auto_1) :
 PB X [.Expr (.Call (.Name name p) (e::es) [] cpos) apos] (fun D E σ H=>t σ H fun vs H1=>sp vs H1 (fun _ H2=>D.nx σ H2) E):=by
 intro pins s σ H D E I h;refine wpAny_execs_cons (wpAny_Expr_any (wpAny_mono (zh6 (Q:=fun _ H2=>D.nx σ H2) (E:=E) cc hr hg ha hdb he hpl I h) (fun v s1 q=>?_) fun e s1 fl=>fl) I.quiet hsw);refine zc2c q fun z H1 I1 r1 q1=>?_;exact wpAny_execs_nil ⟨_,H1,I1,q1⟩
theorem zpG {c:Str}{C:Addr}{body:List Stmt}{tb:TB}{ts:TS}{b₀:Stmt}{suite:List Stmt}{np hpos pos:Pos}(hst:X.stack=X.env::X.outer)(hfr:X.env.frame=some X.env.locals)(hb:PB X body tb)(ex:Exc X.K X.mg c C)(hgc:Gl X c)(hs:∀ x,PSs (X.inSuite x) (b₀::suite) ts)
 (hd:autoParam ((c == ("__debug__" : Str))=false) zav._auto_1):PS X (.Try body [.ExceptHandler (some (.Name c np)) none (b₀::suite) hpos] [] [] pos) (fun D σ H=>tb D (fun cv _ H2=>cv=.ref C/\ts D σ H2) σ H):=by
 intro pins s σ H D I h;rw [arm_exec_Try];refine wpAny_bind (wpAny_standAt (wpAny_tryStmt_except (wpAny_mono (hb pins s σ H D _ I h) (fun f s1 q=>?_) fun e s1 fl=>zgY hst hfr ex hgc hs fl hd)));cases f with
 |next=>exact wpAny_execs_nil q
 |ret v=>exact q
 |brk=>exact q
 |cont=>exact q
end
end L2
namespace L2.DL
def tDB (K:W.Frag)(m:Option Bool)(g:FS):TB:=fun D E σ H=>∃ B F sd,RS K B F H sd σ /\ (g sd).need (zem K m B F D) (XW K E F H)
abbrev QB (X:Cx)(m:Option Bool)(body:List Stmt)(g:FS):Prop:=PB X body (tDB X.K m g)
def zjq (Fn:List D->Res D)(fr:FA):FE:=fun sd=>(fr sd).strict.bind Fn
@[simp] theorem ev_callS (Fn:List D->Res D)(fr:FA)(sd:SD):zjq Fn fr sd=(fr sd).strict.bind Fn:=rfl
section
variable {X:Cx}{m:Option Bool}
theorem zq5 {name:Str}{k:Nat}{ps:List Str}{Fn:List D->Res D}{fr:FA}{e:Expr}{es:List Expr}{p cpos apos:Pos}
 (cc:zbb X.prog X.w X.K X.mg X.base name k ps (SpDX X.K Fn)) (hr:Room k X.A) (hg:Gl X name) (ha:QA X.nox E0 (e::es) fr)
 (hdb:autoParam ((name == ("__debug__" : Str))=false) zav._auto_1) (he:starEach (e::es) X.env=(false,eval e X.env)::starEach es X.env:=by rfl) (hpl:(backTo cpos (starEach es X.env)).any (·.1)=false:=by rfl)
 (hsw:autoParam (swapsWith (.Call (.Name name p) (e::es) [] cpos) none apos.line X.env=pure false) zau._auto_1) :
 QB X m [.Expr (.Call (.Name name p) (e::es) [] cpos) apos] (znT (zjq Fn fr)) :=
 PB.weak (zqk cc hr hg ha hdb he hpl hsw) fun T E σ H zh=>by
  refine zc3b zh fun B F sd r n=>?_;refine ⟨B,F,sd,r,?_⟩;unfold znT zjq at n;cases hf:fr sd with
  |ex c' fs=>rw [hf] at n;exact n.elim
  |no=>rw [hf] at n;exact n.elim
  |ok ds =>
   rw [hf] at n;have n:((Fn ds).bind fun _=>Res.ok (Out.next sd)).need (zem X.K m B F T) (XW X.K E F H):=n;show OkA X.K F H _ ds;intro vs F1 H1 e1 i1;refine ⟨F1,ds,e1.fh,i1,?_⟩;cases hq:Fn ds with
   |ok d =>
    rw [hq] at n;exact fun v F2 H2 e2 i2=>n _ F2 H2 (e1.ff.trans e2.ff) ((r.step e1).step e2)
   |no=>rw [hq] at n;exact n.elim
   |ex c' fs =>
    rw [hq] at n;have n:XW X.K E F H c' fs:=n;exact n.ext e1
def zqd (c:Str)(gs:FS)(sd:SD):Res Out->Res Out
 | .ok o=>.ok o
 | .ex c' [] => @ite _ (c'=c) (Classical.propDecidable _) (gs sd).strict .no
 |_=>.no
@[simp] theorem zn8 (c:Str)(gs:FS)(sd:SD):zqd c gs sd (.ex c [])=(gs sd).strict:=@if_pos _ (Classical.propDecidable _) rfl _ _ _
def zoK (c:Str)(g gs:FS):FS:=fun sd=>zqd c gs sd (g sd)
@[simp] theorem ev_tryB (c:Str)(g gs:FS)(sd:SD):zoK c g gs sd=zqd c gs sd (g sd):=rfl
theorem zq8 {E:XK}{c:Str}{C:Addr}{body:List Stmt}{g gs:FS}{b₀:Stmt}{suite:List Stmt}{np hpos pos:Pos}(hst:X.stack=X.env::X.outer)(hfr:X.env.frame=some X.env.locals)(hb:QB X m body g)(ex:Exc X.K X.mg c C)(hgc:Gl X c)(hs:∀ x,QSs (X.inSuite x) E0 m (b₀::suite) gs)
 (hd:autoParam ((c == ("__debug__" : Str))=false) zav._auto_1):QS X E m (.Try body [.ExceptHandler (some (.Name c np)) none (b₀::suite) hpos] [] [] pos) (zoK c g gs) :=
 PS.weak (zpG (ts:=tDS X.K E0 m gs) hst hfr hb ex hgc hs hd) fun T σ H zh=>by
  refine zc3b zh fun B F sd r n=>?_;refine ⟨B,F,sd,r,?_⟩;unfold zoK at n;cases hq:g sd with
  |ok o=>rw [hq] at n;exact n
  |no=>rw [hq] at n;exact n.elim
  |ex c' fs =>
   rw [hq] at n;cases fs with
   |cons d r=>exact n.elim
   |nil =>
    by_cases hc:c'=c
    ·subst hc;rw [zn8] at n;rintro cv a F2 H2 e2 ⟨C',h1,h2,_⟩;rw [ex.ns] at h2;cases h2;refine ⟨h1,B,F2,sd,r.step e2,?_⟩;exact (Res.need_strict n).mono (fun o (q:zem X.K m B F T o)=>q.mono e2.ff) fun _ _ q=>q
    ·have n:(@ite _ (c'=c) (Classical.propDecidable _) (gs sd).strict Res.no).need (zem X.K m B F T) (XW X.K E B.F0 B.H0):=n;rw [@if_neg _ (Classical.propDecidable _) hc] at n;exact n.elim
end
end L2.DL
namespace L2
noncomputable def zaS (K:W.Frag)(x:Str)(st:Stmt):Prop:=∃ f fd,W.nsIn K mainGlobals x=some (some (.ref f))/\Fun K x x st f fd
theorem zaS.callee {P:Program}{w:World}{K:W.Frag}{h base:Heap}{mg:Str->Option Value}{x:Str}{st:Stmt}{k:Nat}{ps:List Str}{sp:Sp}(X:K.In h)(G:h.Ns mainGlobals mg)(d:zaS K x st)
 (ok:∀ {f:Addr} {fd:FuncData},Fun K x x st f fd->FnOk P w K mg base CX0 k f fd ps sp)
 (hb:∀ (kV doc pm:Value) (an:Option Addr) (cdv ct:Value) (us:List Value),us.length=ps.length->bindArgs (W.fnOf x x (zdZ st) (zbE st) (zag st) .none kV doc pm an cdv ct) ⟨us,[]⟩=pure (ps.zip us)):zar P w K mg base x k ps sp:=by
 refine zc2b d fun f fd a F=>?_;exact ⟨f,fd,ok F,F.binds hb,F.kp,W.mg_of X G a⟩
theorem zaS.calleeX {P:Program}{w:World}{K:W.Frag}{h base:Heap}{mg:Str->Option Value}{x:Str}{st:Stmt}{k:Nat}{ps:List Str}{sp:Sp}(X:K.In h)(G:h.Ns mainGlobals mg)(d:zaS K x st)
 (ok:∀ {f:Addr} {fd:FuncData},Fun K x x st f fd->FnOk P w K mg base (CXE P w) k f fd ps sp)
 (hb:∀ (kV doc pm:Value) (an:Option Addr) (cdv ct:Value) (us:List Value),us.length=ps.length->bindArgs (W.fnOf x x (zdZ st) (zbE st) (zag st) .none kV doc pm an cdv ct) ⟨us,[]⟩=pure (ps.zip us)):zbb P w K mg base x k ps sp:=by
 refine zc2b d fun f fd a F=>?_;exact ⟨f,fd,ok F,F.binds hb,F.kp,W.mg_of X G a⟩
open PySem
theorem zbf {N P:List Str}{sc:Scope}(a:autoParam (sc.kind=.function) zau._auto_1)(b:autoParam (sc.isCoroutine=false) zau._auto_1)(c:autoParam (sc.isGenerator=false) zau._auto_1)(d:N.Nodup:=by decide +kernel)(e:N.take P.length=P:=by rfl)
 (f:∀ x∈P,sc.names.lookup x=some .local\/sc.names.lookup x=some .cell:=by decide +kernel) (g:∀ y∈sc.names,y.2 ≠ .free:=by decide +kernel):FnScope N P sc:=⟨a,b,c,d,e,f,g⟩
theorem zbo (N:List Str)(h:N.Nodup:=by decide +kernel):N.Nodup:=h
theorem pgn {X:Cx}{x:Str}{pos:Pos}(i:Nat)(hN:X.N.Nodup)(hi:autoParam (X.N[i]? = some x) zau._auto_1)(hx:Loc X.env.scope x:=by first|exact .inl rfl|exact .inr rfl)(hf:X.fn x=true\/X.env.scope.names.lookup x=some .local:=by first|exact .inl rfl|exact .inr rfl|assumption):PG X (.Name x pos) (zgH i):=zaF hN hi hx hf
section
variable {p:List Value->Prop}
theorem us1 (h:∀ a,p [a]):∀ us:List Value,us.length=1->p us:=fun us e=>by
 obtain ⟨a,rfl⟩:=List.length_eq_one_iff.mp e;exact h a
theorem us2 (h:∀ a b,p [a,b]):∀ us:List Value,us.length=2->p us:=fun us e=>by
 cases us with
 |nil=>exact absurd e (by decide)
 |cons a us=>exact us1 (p:=fun us=>p (a::us)) (fun b=>h a b) us (Nat.succ.inj e)
theorem us3 (h:∀ a b c,p [a,b,c]):∀ us:List Value,us.length=3->p us:=fun us e=>by
 cases us with
 |nil=>exact absurd e (by decide)
 |cons a us=>exact us2 (p:=fun us=>p (a::us)) (fun b c=>h a b c) us (Nat.succ.inj e)
theorem us4 (h:∀ a b c d,p [a,b,c,d]):∀ us:List Value,us.length=4->p us
 | [a,b,c,d],_=>h a b c d
end
noncomputable def zR (l:List Int):List (Int×Int):=l.map fun t=>(t,(0:Int))
def iltB (a b:List Int):Bool:=rltB (zR a) (zR b)
theorem zmk:∀ {a b:List Int},zR a=zR b->a=b
 | [],[],_=>rfl
 | [],_::_,h=>nomatch h
 |_::_,[],h=>nomatch h
 |x::a,y::b,h=>by
  have h:(x,(0:Int))::zR a=(y,0)::zR b:=h;injection h with h1 h2
  injection h1 with h1
  rw [h1,zmk h2]
theorem zgF:Tot iltB:=⟨fun a b=>zaC.asy _ _,fun a b c=>zaC.neg _ _ _,fun a b h1 h2=>zmk (zaC.tot _ _ h1 h2)⟩
theorem zop (x y:Int)(a b:List Int):iltB (x::a) (y::b)=if x=y then iltB a b else decide (x<y):=by
 show rltB ((x,0)::zR a) ((y,0)::zR b)=_;rw [zb9];by_cases c:x=y
 ·rw [if_pos (by rw [c]),if_pos c];rfl
 ·rw [if_neg (fun z=>c (by injection z)),if_neg c];by_cases g:x<y
  ·rw [decide_eq_true g,zb6];exact .inl g
  ·rw [decide_eq_false g,zdY];show ¬ _;omega
section
variable {prog:Program}{w:World}{A:Around}{s:Shared}
theorem zj1 {fin:Bool}{Q:Bool->Shared->Prop}:∀ {ns ms:List Int} {us us':List Value} (i:Nat),IntsAre us ns->IntsAre us' ms->fin=decide (ns.length<ms.length)->Q (iltB ns ms) s->W.KatLex prog w A true fin Q (us.zip us') i s
 | [],[],_,_,i,.nil,.nil,hf,h=>by
  refine W.kat_nil ?_;rw [hf];exact h
 | [],y::ms,_,_,i,.nil,.cons _ t r',hf,h=>by
  refine W.kat_nil ?_;rw [hf,decide_eq_true (by simp)];exact h
 |x::ns,[],_,_,i,.cons _ t r,.nil,hf,h=>by
  rw [List.zip_nil_right];refine W.kat_nil ?_;rw [hf,decide_eq_false (by simp)];exact h
 |x::ns,y::ms,_,_,i,.cons _ t r,.cons _ t' r',hf,h=>by
  rw [List.zip_cons_cons];refine W.kat_cons (PySem.SeqAt.EqAt.int_int x t y t' prog w _ _ ?_);rw [zop] at h;by_cases c:x=y
  ·rw [show (x == y)=true by simpa using c];rw [if_pos c] at h;exact W.kat_yes (zj1 (i+1) r r' (by rw [hf];simp) h)
  ·rw [show (x == y)=false by simpa using c];rw [if_neg c] at h;refine W.kat_no ?_;cases i with
   |zero=>exact oneLt_int h
   |succ i=>exact W.kat_one _ _ (lt_int h)
structure ITup (h:Heap)(v:Value)(ns:List Int)(a:Addr)(o:Obj)(us:List Value)(n:Nat):Prop where
 isv:v=.ref a
 get:h.get? a=some o
 cls:o.cls=.type "tuple"
 dat:o.data=.seq us.toArray n
 its:IntsAre us ns
theorem zmJ:∀ {ns:List Int} {us:List Value},Vals (ns.map V.int) us->IntsAre us ns
 | [],_,.nil=>.nil
 |n::ns,_,.cons r t=>by
  obtain ⟨k,rfl⟩:=r;exact .cons n k (zmJ t)
theorem zkM {vs:List Value}{rs:List (List Int)}(hl:vs.length=rs.length)(at_:∀ (i:Nat) r,rs[i]? = some r->∃ v a o us n,vs[i]? = some v/\ITup s.heap v r a o us n)(hne:∀ r∈rs,r ≠ [])(h2:2<=vs.length) :
 Keys prog w A s vs fun i j=>iltB (rs.getD i []) (rs.getD j []):=by
 have firsts:∀ (vs:List Value) (rs:List (List Int)),vs.length=rs.length->(∀ r∈rs,r ≠ [])->(∀ (i:Nat) r,rs[i]? = some r->∃ v a o us n,vs[i]? = some v/\ITup s.heap v r a o us n)->∃ fs,W.KatTups s.heap vs fs/\fs.length=vs.length/\∀ v∈fs,∃ k t,v=Value.int k t:=by
  intro vs
  induction vs with
  |nil=>exact fun _ _ _ _=>⟨[],.nil,rfl,fun v hv=>nomatch hv⟩
  |cons v vs ih =>
   intro rs hl hne hat;cases rs with
   |nil=>simp at hl
   |cons r rs =>
    refine zc4a (hat 0 r rfl) fun v' a o us zz=>zc1b zz fun n e1 R=>?_;have e1:some v=some v':=e1;obtain rfl:=Zqi e1;refine zc1c (ih rs (by simpa using hl) (fun r hr=>hne r (Zqm _ hr)) fun i r hr=>hat (i+1) r hr) fun fs k1 k2 k3=>?_;cases r with
    |nil=>exact absurd rfl (hne [] Zqs)
    |cons p r =>
     obtain ⟨i1,i2,i3,i4,i5⟩:=R;cases i5 with
     |cons _ t i5 =>
      obtain rfl:v=Value.ref a:=i1;refine ⟨.int p t::fs,.cons i2 i3 i4 rfl k1,by simp [k2],fun z hz=>?_⟩;rcases List.mem_cons.mp hz with y|y
      ·exact ⟨p,t,y⟩
      ·exact k3 z y
 refine zc1c (firsts vs rs hl hne at_) fun fs k1 k2 k3=>?_;refine ⟨tuples' (Value.type "int" != Value.type "tuple"),fun E Q h=>W.kat_kind (T:=Value.type "int") k1 (by omega) (fun v hv=>?_) rfl h,fun i j hi hj E Q h=>?_⟩
 ·refine zc2a (k3 v hv) fun k t zr2=>?_;subst zr2;exact W.Looks.of_pure rfl
 ·obtain ⟨r,hr⟩:∃ r,rs[i]? = some r:=⟨_,Zqg (by omega)⟩;obtain ⟨r',hr'⟩:∃ r,rs[j]? = some r:=⟨_,Zqg (by omega)⟩;refine zc4a (at_ i r hr) fun v a o us zz=>zc1b zz fun n e1 R=>?_;refine zc4a (at_ j r' hr') fun v' a' o' us' zz=>zc1b zz fun n' f1 R'=>?_;dsimp only at h;rw [zap hr,zap hr'] at h;show wpAny (model prog w) A (keyLt' _ (nthV vs i) (nthV vs j)) Q E s;unfold nthV;rw [zap e1,zap f1,R.isv,R'.isv];refine W.kat_lt R.get R.dat R'.get R'.dat ?_;exact zj1 0 R.its R'.its (by rw [List.size_toArray,List.size_toArray,R.its.length,R'.its.length]) h
end
def zkY:List V->Hp->VK->Prop:=fun xs H Q=>∃ a ys rs,xs=[.ref a]/\Rd H a (.lst ys)/\ys.length=rs.length/\(∀ (i:Nat) (r:List Int),rs[i]? = some r->∃ b,ys[i]? = some (.ref b)/\H b=some (.tup (r.map V.int)))/\(∀ r∈rs,r ≠ [])/\rs.length<64 /\
 ∀ (l:Addr) (ix:List Nat),H l=none->(∀ i∈ix,i<rs.length)->ix.map (fun i=>rs.getD i [])=zaE iltB rs->Q (.ref l) (upd H l (.lst (ix.map fun i=>ys.getD i .non)))
theorem zeE {X:Cx}:zat X (.builtin "sorted") zkY:=by
 intro pins s σ H xs us Q I rv h;refine zc3a h fun a ys rs zz=>zc0e zz fun zr3 ha l1 hA zz=>zc0c zz fun hne h64 q=>?_;subst zr3;refine zc1b (zcn rv) fun u zr1 ru=>?_;subst zr1;obtain rfl:u=Value.ref a:=ru;refine zc1c (I.list (.inl ha)) fun its ri pl hz=>?_;have l2:=ri.length;have lw:its.length=rs.length:=by omega
 have up:∀ b o,s.heap.get? b=some o->((s.heap.push (seqObj "list" #[] 0)).update s.heap.objs.size (Obj.mapSeq (· ++ its.toArray))).get? b=some o:=fun b o e=>by
  rw [Heap.get?_update_ne _ _ _ _ (Nat.ne_of_lt (Heap.lt_size e)),Heap.get?_push_ne _ _ _ (Nat.ne_of_lt (Heap.lt_size e))];exact e
 have tup:∀ h':Heap,(∀ b o,s.heap.get? b=some o->h'.get? b=some o)->∀ (i:Nat) r,rs[i]? = some r->∃ v a o us n,its[i]? = some v/\ITup h' v r a o us n:=fun h' kp i r hr=>by
  refine zc1b (hA i r hr) fun b hb ht=>?_;refine zc1b (ri.get hb) fun v hv rr=>?_;obtain rfl:v=Value.ref b:=rr;refine zc0b ((show zbc X.prog X.w H s.heap b (.tup (r.map V.int)) from I.hok b _ ht)) fun _ zz=>zc1b zz fun is2 r2 zz=>zc1c zz fun o e1 e2 zz=>zc1a zz fun n e3=>?_;exact ⟨_,b,o,is2,n,hv,rfl,kp _ _ e1,e2,e3,zmJ r2⟩
 refine zeZ (zgF.wk fun i=>rs.getD i []) (collect_list pl.isList ⟨by omega,fun h' kp h2=>zkM (s:={ s with heap:=h' }) lw (tup h' fun b o e=>kp b o (up b o e)) hne h2,fun jx h' l p u kp hl gl=>?_⟩ (by rw [lw];exact zc3 (by omega)));obtain ⟨e,gl⟩:=gl;rw [lw] at p u;have szl:s.heap.objs.size<=l:=by
  have:((s.heap.push (seqObj "list" #[] 0)).update s.heap.objs.size (Obj.mapSeq (· ++ its.toArray))).objs.size=s.heap.objs.size+1:=by rw [Heap.size_update,size_push']
  have hl:((s.heap.push (seqObj "list" #[] 0)).update s.heap.objs.size (Obj.mapSeq (· ++ its.toArray))).objs.size<=l:=hl;omega
 refine ⟨.ref l,upd H l (.lst (jx.toList.map fun i=>ys.getD i .non)),I.laid (a:=l) (o:=.lst (jx.toList.map fun i=>ys.getD i .non)) (t':=s.toks) (fun b o e=>kp b o (up b o e)) szl ⟨?_,jx.toList.map (nthV its),e,?_,?_⟩,rfl,q l jx.toList (I.hok.fresh szl) (fun i hi=>p.mem hi) (zbG zgF p u)⟩
 ·rw [Zql,p.len];exact zc3 (by omega)
 ·refine zcg fun i hi=>?_;have hn:=p.mem hi;obtain ⟨x,hx⟩:∃ x,ys[i]? = some x:=⟨_,Zqg (by omega)⟩;refine zc1b (ri.get hx) fun v hv rr=>?_;unfold nthV;rw [zap hx,zap hv];exact rr
 ·rw [gl]
  congr 3
  apply Array.ext';simp
end L2
namespace L2.DL
noncomputable def itD (l:List Int):D:=.tup (l.map .int)
noncomputable def zlb:D->Option Int
 | .int i=>some i
 |_=>none
def itOf:D->Option (List Int)
 | .tup ds=>zb3 zlb ds
 |_=>none
def zd1:List D->Option D
 | [.lst ds]=>(zb3 itOf ds).bind fun rs=>if (∀ r∈rs,r ≠ [])/\rs.length<64 then some (.lst ((zaE iltB rs).map itD)) else none
 |_=>none
theorem ziu (l:List Int):itOf (itD l)=some l:=by
 have:=zbQ (f:=zlb) (g:=D.int) (k:=id) (fun _=>rfl) l;rw [List.map_id] at this;exact this
theorem zoq {d:D}{l:List Int}(h:itOf d=some l):d=itD l:=by
 cases d with
 |tup ds=>exact congrArg D.tup (zbS (f:=zlb) (g:=D.int) (fun d x hd=>by
  cases d with
  |int i=>cases hd;rfl
  |_=>exact zqn hd) h)
 |_=>exact zqn h
theorem zlM {ds:List D}{l:List (List Int)}(h:zb3 itOf ds=some l):ds=l.map itD:=zbS (fun _ _=>zoq) h
theorem zgt {rs:List (List Int)}(h:∀ r∈rs,r ≠ [])(h2:rs.length<64):zd1 [.lst (rs.map itD)]=some (.lst ((zaE iltB rs).map itD)):=by
 show (zb3 itOf (rs.map itD)).bind _=_;rw [zbQ (f:=itOf) (g:=itD) (k:=id) ziu,List.map_id];exact if_pos ⟨h,h2⟩
theorem zjD {X:Cx}:zat X (.builtin "sorted") (rDAN X.K zd1):=zat.weak zeE fun xs H Q zh=>by
 refine zc3a zh fun F ds z zz=>zc0d zz fun sF id hz q=>?_;unfold zd1 at hz
 split at hz
 ·refine zc1b (Option.bind_eq_some_iff.mp hz) fun rs h1 hz=>?_
  split at hz
  ·rename_i hc;obtain rfl:=Zqi hz;refine zc1b (zbH id) fun v zr1 h=>?_;subst zr1;rw [zlM h1,IsD.lst_iff] at h;refine zc2c h fun a ys zr2 g1 g2=>?_;subst zr2;have hy:=g2.length;rw [Zql] at hy;refine ⟨a,ys,rs,rfl,g1.same sF,hy,fun i r hr=>?_,hc.1,hc.2,fun l ix hl hix he=>?_⟩
   ·refine zc1b (g2.get (i:=i) (d:=itD r) (by rw [List.getElem?_map,hr];rfl)) fun x hx ixx=>?_;unfold itD at ixx;rw [IsD.tup_iff] at ixx;refine zc2c ixx fun b zs zr2 t1 t2=>?_;subst zr2;rw [IsDs.ints_iff t2] at t1;exact ⟨b,hx,sF _ _ t1⟩
   ·refine q l F _ (.keep sF hl _) hl (za4 sF hl) ⟨_,zao,?_⟩;rw [<- he,List.map_map];clear he
    induction ix with
    |nil=>exact .nil
    |cons i ix ih =>
     rw [List.map_cons,List.map_cons];have hi:=hix i Zqs;refine zc1b (g2.get (i:=i) (d:=itD (rs.getD i [])) (by rw [List.getElem?_map,Zqg hi,zap (Zqg hi)];rfl)) fun x hx ixx=>?_;rw [zap hx];exact .mk ixx (ih fun j hj=>hix j (Zqm _ hj))
  ·exact zqn hz
 ·exact zqn hz
end L2.DL
set_option maxHeartbeats 4000000
namespace My
open PySem L2 L2.DL
noncomputable def mixF (cell salt:Int):Int:=((cell % 2147483647+salt)*48271 % 2147483647)*((cell % 2147483647+salt)*48271 % 2147483647) % 2147483629
noncomputable def zf8 (ns:List Int)(k:Int):Int:=ns.getD k.toNat 0
noncomputable def nthI (hs:List Int)(t:Int):Int:=hs.getD t.toNat 0
def zbh (r:List (Int×Int))(hs:List Int):Int:=maxI (r.map fun p=>nthI hs p.1+p.2)
theorem zjv (r:List (Int×Int)):plN 12 (rwD r)=true:=by
 show (r.map prD).all (plN 11)=true;rw [List.all_map,List.all_eq_true];exact fun p _=>rfl
theorem zc1:plN 12 (.lst [])=true:=rfl
theorem ziH (r:List (Int×Int)):plN 12 (.lst (r.map prD))=true:=by
 show (r.map prD).all (plN 11)=true;rw [List.all_map,List.all_eq_true];exact fun p _=>rfl
theorem ziB (r:List (List (Int×Int))):plN 12 (.lst (r.map rwD))=true:=by
 show (r.map rwD).all (plN 11)=true;rw [List.all_map,List.all_eq_true];intro x _;show (x.map prD).all (plN 10)=true;rw [List.all_map,List.all_eq_true];exact fun p _=>rfl
theorem zbq {α : Type}(f:α -> D)(l:List α):zbl (.lst (l.map f)) (.lst [])=l.isEmpty:=by
 cases l with
 |nil=>exact zaK _
 |cons x r=>exact zdC.mpr fun h=>by injection h with h;cases h
theorem zqx {r s:List (Int×Int)}(h:rwD r=rwD s):r=s:=by
 have:=congrArg zdo h;rw [zdl,zdl] at this;exact Zqi this
theorem zjs (r s:List (Int×Int)):zbl (rwD r) (rwD s)=decide (r=s):=by
 by_cases h:r=s
 ·rw [h,zaK,decide_eq_true rfl]
 ·rw [decide_eq_false h];exact zdC.mpr fun z=>h (zqx z)
theorem zg7 {α : Type}{l:List α}{k:Nat}(h:k<l.length):atI l (k:Int)=l[k]? := by
 unfold atI ixN;rw [if_pos (by omega),if_pos (by omega),Int.toNat_natCast];rfl
theorem zl4 {l:List Int}(h:l ≠ [])(x:Int):maxI (l++[x])=if maxI l<x then x else maxI l:=by
 obtain ⟨h1,h2⟩:=zc0 h;refine (zmB ?_ fun y hy=>?_).symm
 ·split
  ·exact List.mem_append_right _ Zqs
  ·exact List.mem_append_left _ h1
 ·rcases List.mem_append.mp hy with q|q
  ·have:=h2 y q
   split<;>omega
  ·rw [List.mem_singleton.mp q]
   split<;>omega
theorem znp (x:Int):maxI [x]=x:=rfl
theorem zcJ {hs:List Int}{t:Int}(h0:0<=t)(h1:t<(hs.length:Int)):atI (hs.map D.int) t=some (.int (nthI hs t)):=by
 have e:ixN hs.length t=some t.toNat:=by unfold ixN;rw [if_pos h0,if_pos h1]
 have hl:t.toNat<hs.length:=by omega
 unfold atI nthI;rw [Zql,e];show (hs.map D.int)[t.toNat]? = _;rw [List.getElem?_map,Zqg hl,List.getD_eq_getElem?_getD,Zqg hl];rfl
theorem zbY {α : Type}{f:α -> D}{l:List α}{i:Nat}{x:D}(h:(l.map f)[i]? = some x):∃ p,l[i]? = some p/\x=f p:=by
 rw [List.getElem?_map] at h;cases q:l[i]? with
 |none=>rw [q] at h;cases h
 |some p=>rw [q] at h;exact ⟨p,rfl,(Zqi h).symm⟩
noncomputable def zjE (m:Int):Nat->Int
 | 0=>m
 |i+1=>zjE m i / 2
def preG (m:Int)(w:Nat->Int):Nat->List (Int×Int)
 | 0=>[]
 |i+1=>if zjE m i % 2=1 then preG m w i++[((i:Int),w i)] else preG m w i
theorem zd3 (m:Int)(w:Nat->Int):∀ (i:Nat) (p:Int×Int),p∈preG m w i->0<=p.1/\p.1<(i:Int)
 | 0,p,h=>by cases h
 |i+1,p,h=>by
  unfold preG at h
  split at h
  ·rcases List.mem_append.mp h with q|q
   ·have z:=zd3 m w i p q;omega
   ·have e:=List.mem_singleton.mp q;subst e;show (0:Int)<=(i:Int)/\(i:Int)<((i+1:Nat):Int);omega
  ·have z:=zd3 m w i p h;omega
theorem zgJ (m:Int)(w:Nat->Int):∀ i:Nat,(preG m w i).length<=i
 | 0=>Nat.le_refl _
 |i+1=>by
  have z:=zgJ m w i;unfold preG
  split
  ·rw [List.length_append,List.length_singleton];omega
  ·omega
theorem zgU (m:Int)(w:Nat->Int):∀ i:Nat,Once (preG m w i)
 | 0=>List.nodup_nil
 |i+1=>by
  have ih:=zgU m w i;unfold preG
  split
  ·exact zhX ih fun p hp=>(zd3 m w i p hp).2
  ·exact ih
structure RowOk (n:Int)(r:List (Int×Int)):Prop where
 ne:r ≠ []
 once:Once r
 mem:∀ p∈r,0<=p.1/\p.1<n
 len:r.length<=12
def rowG (m:Int)(w:Nat->Int)(c wl n:Int):List (Int×Int):=if preG m w n.toNat=[] then [(c % n,wl)] else preG m w n.toNat
theorem zq2 {m:Int}{w:Nat->Int}{c wl n:Int}(h1:1<=n)(h2:n<=12):RowOk n (rowG m w c wl n):=by
 unfold rowG
 split
 ·refine ⟨by simp,by unfold Once;simp,fun p h=>?_,Nat.le_of_ble_eq_true rfl⟩;have e:=List.mem_singleton.mp h;subst e;exact ⟨Int.emod_nonneg _ (by omega),Int.emod_lt_of_pos _ (by omega)⟩
 ·rename_i h;have hl:=zgJ m w n.toNat;refine ⟨h,zgU m w _,fun p hp=>?_,by omega⟩;have:=zd3 m w _ p hp;omega
def zcr (r:List (Int×Int))(f:Nat->Option Int->Option Int)(i:Nat):List (Int×Int):=match f i (zam r i) with
 |some w=>[((i:Int),w)]
 |none=>[]
def zcp (r:List (Int×Int))(f:Nat->Option Int->Option Int):Nat->List (Int×Int)
 | 0=>[]
 |i+1=>zcp r f i++zcr r f i
def zcu (r:List (Int×Int))(f:Nat->Option Int->Option Int)(n:Int):List (Int×Int):=if zcp r f n.toNat=[] then r else zcp r f n.toNat
theorem zbX (r:List (Int×Int))(f:Nat->Option Int->Option Int)(i:Nat):zcr r f i=[]\/∃ w,zcr r f i=[((i:Int),w)]:=by
 unfold zcr;cases f i (zam r i) with
 |some w=>exact .inr ⟨_,rfl⟩
 |none=>exact .inl rfl
theorem zdn (r:List (Int×Int))(f:Nat->Option Int->Option Int):∀ (i:Nat) (p:Int×Int),p∈zcp r f i->0<=p.1/\p.1<(i:Int)
 | 0,p,h=>by cases h
 |i+1,p,h=>by
  unfold zcp at h;rcases List.mem_append.mp h with q|q
  ·have z:=zdn r f i p q;omega
  ·rcases zbX r f i with e|⟨w,e⟩
   ·rw [e] at q;cases q
   ·rw [e] at q;have e:=List.mem_singleton.mp q;subst e;show (0:Int)<=(i:Int)/\(i:Int)<((i+1:Nat):Int);omega
theorem zfI (r:List (Int×Int))(f:Nat->Option Int->Option Int):∀ i:Nat,Once (zcp r f i)
 | 0=>List.nodup_nil
 |i+1=>by
  have ih:=zfI r f i;unfold zcp;rcases zbX r f i with e|⟨w,e⟩
  ·rw [e,List.append_nil];exact ih
  ·rw [e];exact zhX ih fun p hp=>(zdn r f i p hp).2
theorem zeM (r:List (Int×Int))(f:Nat->Option Int->Option Int):∀ i:Nat,(zcp r f i).length<=i
 | 0=>Nat.le_refl _
 |i+1=>by
  have ih:=zeM r f i;unfold zcp;rw [List.length_append];rcases zbX r f i with e|⟨w,e⟩<;>rw [e]<;>simp<;>omega
theorem zj7 {r:List (Int×Int)}{f:Nat->Option Int->Option Int}{n:Int}(h:RowOk n r)(h1:0<=n)(h2:n<=12):RowOk n (zcu r f n):=by
 unfold zcu
 split
 ·exact h
 ·rename_i q;have hl:=zeM r f n.toNat;refine ⟨q,zfI r f _,fun p hp=>?_,by omega⟩;have:=zdn r f _ p hp;omega
theorem zoD (neg:Bool)(r:List (Int×Int))(ls:List (List (Int×Int))):gIn neg (rwD r) (.lst (ls.map rwD))=some (.bl (if neg then !decide (r∈ls) else decide (r∈ls))):=by
 have ha:(ls.map rwD).all (plN 12)=true:=by
  rw [List.all_map,List.all_eq_true];exact fun x _=>zjv x
 have e:(ls.map rwD).any (fun e=>zbl e (rwD r))=decide (r∈ls):=by
  rw [List.any_map];by_cases h:r∈ls
  ·rw [decide_eq_true h];exact List.any_eq_true.mpr ⟨r,h,by show zbl (rwD r) (rwD r)=true;exact zaK _⟩
  ·rw [decide_eq_false h];refine List.any_eq_false.mpr fun x hx=>?_;show ¬ zbl (rwD x) (rwD r)=true;rw [zjs,decide_eq_true_iff];exact fun z=>h (z ▸ hx)
 show (if plN 12 (rwD r)&&(ls.map rwD).all (plN 12) then some (D.bl (if neg then !(ls.map rwD).any (fun e=>zbl e (rwD r)) else (ls.map rwD).any fun e=>zbl e (rwD r))) else none)=_;rw [zjv,ha,e];rfl
theorem zca {ls:List (List (Int×Int))}(h:∀ r∈ls,r ≠ [])(hl:ls.length<64):zbw [.lst (ls.map rwD)]=some (.lst ((zaE rltB ls).map rwD)):=by
 show (zb3 zdo (ls.map rwD)).bind _=_;rw [zdL];exact if_pos ⟨h,hl⟩
def frD (f:List (List (Int×Int))):D:=.lst (f.map rwD)
def lowQ (all:List (List (Int×Int)))(row:List (Int×Int)):Bool:=(all.filter fun one => !decide (one=row)&&zai one row).isEmpty
def zbW (all least:List (List (Int×Int)))(row:List (Int×Int)):List (List (Int×Int)):=if lowQ all row=true/\row∉least then least++[row] else least
def zaV (all rs:List (List (Int×Int))):List (List (Int×Int)):=rs.foldl (zbW all) []
def zaA (rs:List (List (Int×Int))):List (List (Int×Int)):=zaE rltB (zaV rs rs)
theorem zby (all:List (List (Int×Int))):∀ (rs least:List (List (Int×Int))),(rs.foldl (zbW all) least).length<=least.length+rs.length/\(∀ r,r∈rs.foldl (zbW all) least↔r∈least\/(r∈rs/\lowQ all r=true))/\(least.Nodup->(rs.foldl (zbW all) least).Nodup)
 | [],least=>⟨Nat.le_refl _,fun r=>by simp,id⟩
 |row::rs,least=>by
  rw [List.foldl_cons];refine zc0c (zby all rs (zbW all least row)) fun h1 h2 h3=>?_;unfold zbW at h1 h2 h3 ⊢;by_cases c:lowQ all row=true/\row∉least
  ·rw [if_pos c] at h1 h2 h3 ⊢;refine ⟨by rw [List.length_append] at h1;simp only [List.length_cons,List.length_nil] at h1 ⊢;omega,fun r=>?_,fun hn=>h3 ?_⟩
   ·rw [h2,List.mem_append,List.mem_singleton,List.mem_cons];constructor
    ·rintro ((h|h)|⟨h,hq⟩)
     ·exact .inl h
     ·exact .inr ⟨.inl h,h ▸ c.1⟩
     ·exact .inr ⟨.inr h,hq⟩
    ·rintro (h|⟨h|h,hq⟩)
     ·exact .inl (.inl h)
     ·exact .inl (.inr h)
     ·exact .inr ⟨h,hq⟩
   ·rw [List.nodup_append];exact ⟨hn,by simp,fun a ha b hb=>by rw [List.mem_singleton] at hb;subst hb;exact fun z=>c.2 (z ▸ ha)⟩
  ·rw [if_neg c] at h1 h2 h3 ⊢;refine ⟨by rw [List.length_cons];omega,fun r=>?_,h3⟩;rw [h2,List.mem_cons];constructor
   ·rintro (h|⟨h,hq⟩)
    ·exact .inl h
    ·exact .inr ⟨.inr h,hq⟩
   ·rintro (h|⟨h|h,hq⟩)
    ·exact .inl h
    ·by_cases hm:row∈least
     ·exact .inl (h ▸ hm)
     ·exact absurd ⟨h ▸ hq,hm⟩ c
    ·exact .inr ⟨h,hq⟩
theorem zax {rs:List (List (Int×Int))}{r:List (Int×Int)}:r∈zaA rs↔r∈rs/\lowQ rs r=true:=by
 unfold zaA zaV;rw [(zal (ltb:=rltB) _).mem_iff,(zby rs rs []).2.1];simp
theorem zeQ (rs:List (List (Int×Int))):(zaA rs).length<=rs.length:=by
 unfold zaA zaV;rw [(zal (ltb:=rltB) _).length_eq];have:=(zby rs rs []).1;simpa using this
def zbO (f:List (List (Int×Int)))(hs:List Int):Int:=minI (f.map fun r=>zbh r hs)
theorem zn7 {α : Type}(l:List α)(x y:α):(l++[x]).set l.length y=l++[y]:=by
 induction l with
 |nil=>rfl
 |cons a l ih=>show a::(l++[x]).set l.length y=_;rw [ih];rfl
theorem zrk {α : Type}(l:List α)(x:α):atI (l++[x]) (l.length:Int)=some x:=by
 rw [zg7 (by simp)];simp
theorem zp7 {α : Type}(l:List α)(x:α):ixN (l++[x]).length (l.length:Int)=some l.length:=by
 unfold ixN;rw [if_pos (by omega),if_pos (by rw [List.length_append,List.length_singleton];omega),Int.toNat_natCast]
noncomputable def zh3 (n:Int)(k:Nat)(t:List (List (Int×Int))):List (List (Int×Int)):=if t=[] then [[((k:Int) % n,0)]] else t
def zcQ (n many:Int)(rs:List (List (Int×Int)))(i:Nat):List (List (List (Int×Int))):=(List.range i).map fun k=>zh3 n k (zaA (zaQ rs (some (k:Int)) none (some many)))
@[simp] theorem gList_fr (f:List (List (Int×Int))):zhV [frD f]=some (frD f):=rfl
@[simp] theorem walkS_fr (f:List (List (Int×Int))):zfC (frD f)=some (f.map rwD):=rfl
@[simp] theorem walkS_rw (r:List (Int×Int)):zfC (rwD r)=some (r.map prD):=rfl
@[simp] theorem gLen_fr (f:List (List (Int×Int))):gLen [frD f]=some (.int f.length):=by show some (D.int (f.map rwD).length)=_;rw [Zql]
@[simp] theorem zrj (f:List (List (Int×Int))):gIsi [frD f,.ty "list"]=some (.bl true):=rfl
@[simp] theorem zpe (f:List (Int×Int)):gIsi [rwD f,.ty "tuple"]=some (.bl true):=rfl
@[simp] theorem zpk (p:Int×Int):gIsi [prD p,.ty "tuple"]=some (.bl true):=rfl
@[simp] theorem gLen_pr (p:Int×Int):gLen [prD p]=some (.int 2):=rfl
@[simp] theorem gIx_pr0 (p:Int×Int):gIx (prD p) (.int 0)=some (.int p.1):=rfl
@[simp] theorem gIx_pr1 (p:Int×Int):gIx (prD p) (.int 1)=some (.int p.2):=rfl
theorem pl_rw (n:Nat)(r:List (Int×Int)):plN (n+3) (rwD r)=true:=by
 show (r.map prD).all (plN (n+2))=true;rw [List.all_map,List.all_eq_true];exact fun p _=>rfl
theorem pl_fr (n:Nat)(f:List (List (Int×Int))):plN (n+4) (frD f)=true:=by
 show (f.map rwD).all (plN (n+3))=true;rw [List.all_map,List.all_eq_true];exact fun r _=>pl_rw n r
theorem pl_is (n:Nat)(hs:List Int):plN (n+2) (.lst (hs.map D.int))=true:=by
 show (hs.map D.int).all (plN (n+1))=true;rw [List.all_map,List.all_eq_true];exact fun p _=>rfl
structure FormOk (n:Int)(f:List (List (Int×Int))):Prop where
 ne:f ≠ []
 rows:∀ r∈f,RowOk n r
 len:f.length<=100
noncomputable def Rise (r:List (Int×Int)):Prop:=(r.map (·.1)).Pairwise (· < ·)
theorem zgw:Rise []:=List.Pairwise.nil
theorem zjn (p:Int×Int):Rise [p]:=List.pairwise_singleton _ _
theorem zhv {r:List (Int×Int)}{t w:Int}(h:Rise r)(hm:∀ p∈r,p.1<t):Rise (r++[(t,w)]):=by
 unfold Rise at *;rw [List.map_append,List.pairwise_append];refine ⟨h,List.pairwise_singleton _ _,fun a ha b hb=>?_⟩;refine zc1b (List.mem_map.mp ha) fun p hp zr2=>?_;subst zr2;have:b=t:=by simpa using hb
 rw [this];exact hm p hp
theorem zhN (m:Int)(w:Nat->Int):∀ i:Nat,Rise (preG m w i)
 | 0=>zgw
 |i+1=>by
  have ih:=zhN m w i;unfold preG
  split
  ·exact zhv ih fun p hp=>(zd3 m w i p hp).2
  ·exact ih
theorem zlU (m:Int)(w:Nat->Int)(c wl n:Int):Rise (rowG m w c wl n):=by
 unfold rowG
 split
 ·exact zjn _
 ·exact zhN m w _
theorem zfY (r:List (Int×Int))(f:Nat->Option Int->Option Int):∀ i:Nat,Rise (zcp r f i)
 | 0=>zgw
 |i+1=>by
  have ih:=zfY r f i;unfold zcp;rcases zbX r f i with e|⟨w,e⟩
  ·rw [e,List.append_nil];exact ih
  ·rw [e];exact zhv ih fun p hp=>(zdn r f i p hp).2
theorem zhC {r:List (Int×Int)}{f:Nat->Option Int->Option Int}{n:Int}(h:Rise r):Rise (zcu r f n):=by
 unfold zcu
 split
 ·exact h
 ·exact zfY r f _
theorem zjj {r:List (Int×Int)}(h:Rise r):r.Pairwise fun x y=>pltB x y=true:=by
 unfold Rise at h;rw [List.pairwise_map] at h;refine h.imp fun {a b} z=>?_;unfold pltB;simp;omega
theorem zbu {r o:List (Int×Int)}:zai r o=true↔∀ p∈r,∃ w,zam o p.1=some w/\p.2<=w:=by
 unfold zai;rw [List.all_eq_true];refine forall_congr' fun p=>forall_congr' fun _=>?_;unfold okAt;cases zam o p.1 with
 |none=>simp
 |some w=>simp
theorem za6 {a b c:List (Int×Int)}(h1:zai a b=true)(h2:zai b c=true):zai a c=true:=by
 rw [zbu] at *;intro p hp;refine zc1b (h1 p hp) fun w h3 h4=>?_;refine zc1b (h2 _ (za3 h3)) fun v h5 h6=>?_;exact ⟨v,h5,Int.le_trans h4 h6⟩
theorem zhk {a b:List (Int×Int)}(oa:Once a)(h1:zai a b=true)(h2:zai b a=true):∀ p∈a,p∈b:=by
 rw [zbu] at *;intro p hp;refine zc1b (h1 p hp) fun w h3 h4=>?_;have hb:=za3 h3;refine zc1b (h2 _ hb) fun v h5 h6=>?_;have h5:zam a p.1=some v:=h5;rw [oa.look (t:=p.1) (w:=p.2) hp] at h5;cases h5;have h6:w<=p.2:=h6;have:w=p.2:=by omega
 rw [this] at hb;exact hb
theorem zdF {a b:List (Int×Int)}(oa:Once a)(ob:Once b)(ra:Rise a)(rb:Rise b)(h1:zai a b=true)(h2:zai b a=true):a=b :=
 zb0 zcj (zjj ra) (zjj rb) fun p=>⟨zhk oa h1 h2 p,zhk ob h2 h1 p⟩
theorem ziQ:∀ {rs:List (List (Int×Int))},rs ≠ []->(∀ r∈rs,Once r/\Rise r)->∃ m∈rs,∀ o∈rs,zai o m=true->o=m
 | [],h,_=>absurd rfl h
 |x::rs,_,ok=>by
  by_cases q:rs=[]
  ·subst q;exact ⟨x,Zqs,fun o ho _=>List.mem_singleton.mp ho⟩
  ·refine zc1b (ziQ q fun r hr=>ok r (Zqm _ hr)) fun m hm hl=>?_;have okm:=ok m (Zqm _ hm);have okx:=ok x Zqs;by_cases c:zai x m=true
   ·refine ⟨x,Zqs,fun o ho hu=>?_⟩;rcases List.mem_cons.mp ho with e|e
    ·exact e
    ·have e2:=hl o e (za6 hu c);subst e2;exact zdF okm.1 okx.1 okm.2 okx.2 hu c
   ·refine ⟨m,Zqm _ hm,fun o ho hu=>?_⟩;rcases List.mem_cons.mp ho with e|e
    ·exact absurd (e ▸ hu) c
    ·exact hl o e hu
theorem zc5 {rs:List (List (Int×Int))}{m:List (Int×Int)}:lowQ rs m=true↔∀ o∈rs,zai o m=true->o=m:=by
 unfold lowQ;rw [List.isEmpty_iff,List.filter_eq_nil_iff];refine forall_congr' fun o=>forall_congr' fun _=>?_;by_cases h:o=m
 ·simp [h]
 ·simp [h]
structure Good (n:Int)(f:List (List (Int×Int))):Prop where
 ne:f ≠ []
 rows:∀ r∈f,RowOk n r
 rise:∀ r∈f,Rise r
 len:f.length<=40
 anti:∀ r∈f,∀ s∈f,zai r s=true->r=s
 srt:f.Pairwise fun a b=>rltB a b=true
theorem zl8 {n:Int}{rs:List (List (Int×Int))}(ok:∀ r∈rs,RowOk n r)(ri:∀ r∈rs,Rise r)(hl:rs.length<=40)(hn:rs ≠ []):Good n (zaA rs):=by
 refine ⟨fun z=>?_,fun r hr=>ok r (zax.mp hr).1,fun r hr=>ri r (zax.mp hr).1,Nat.le_trans (zeQ rs) hl,fun r hr s hs hu=>?_,?_⟩
 ·refine zc1b (ziQ hn fun r hr=>⟨(ok r hr).once,ri r hr⟩) fun m hm h=>?_;have:m∈zaA rs:=zax.mpr ⟨hm,zc5.mpr h⟩;rw [z] at this;cases this
 ·exact zc5.mp (zax.mp hs).2 r (zax.mp hr).1 hu
 ·have hp:=zal (ltb:=rltB) (zaV rs rs);have nd:(zaE rltB (zaV rs rs)).Nodup:=hp.nodup_iff.mpr ((zby rs rs []).2.2 List.nodup_nil);have sd:=zbV zaC (zaV rs rs);have both:(zaE rltB (zaV rs rs)).Pairwise fun x y=>rltB y x=false/\x≠y:=List.Pairwise.and sd nd;refine both.imp fun {x y} z=>?_;cases q:rltB x y with
  |true=>rfl
  |false=>exact absurd (zaC.tot _ _ q z.1) z.2
theorem znf {n:Int}{r:List (Int×Int)}(ok:RowOk n r)(ri:Rise r):Good n [r] :=
 ⟨by simp,fun s hs=>by rw [List.mem_singleton.mp hs];exact ok,fun s hs=>by rw [List.mem_singleton.mp hs];exact ri,by simp,fun s hs t ht _=>by rw [List.mem_singleton.mp hs,List.mem_singleton.mp ht],List.pairwise_singleton _ _⟩
theorem zlG {α : Type}(l:List α){k:Int}(h0:0<=k):zaQ l none (some k) none=l.take k.toNat:=by
 have e:sliceBounds none (some k) none l.length=(((0:Nat):Int),((min k.toNat l.length:Nat):Int),1):=by
  unfold sliceBounds;simp only [Option.getD_none];simp;omega
 unfold zaQ;rw [e];show (sliceRange _ _ 1).filterMap _=_;have p:=pick_run l.toArray 0 (min k.toNat l.length-0);rw [sliceRange_one];have ep:(fun x:Nat=>l[x]?)=fun x:Nat=>l.toArray[x]? := by funext x;simp
 rw [ep,p];simp
theorem zlr {α : Type}(l:List α){k:Int}(h0:0<=k):zaQ l (some k) none none=l.drop k.toNat:=by
 have e:sliceBounds (some k) none none l.length=(((min k.toNat l.length:Nat):Int),(l.length:Int),1):=by
  obtain ⟨j,rfl⟩:=Int.eq_ofNat_of_zero_le h0;unfold sliceBounds;simp only [Option.getD_none];simp;rw [if_neg (Int.not_lt.mpr h0)];have e:min (j:Int) (l.length:Int)=((min j l.length:Nat):Int):=by
   rcases Nat.le_total j l.length with h|h
   ·rw [Nat.min_eq_left h,Int.min_eq_left (Int.ofNat_le.mpr h)]
   ·rw [Nat.min_eq_right h,Int.min_eq_right (Int.ofNat_le.mpr h)]
  rw [e];exact Int.max_eq_right (Int.natCast_nonneg _)
 unfold zaQ;rw [e];show (sliceRange _ _ 1).filterMap _=_;have p:=pick_run l.toArray (min k.toNat l.length) (l.length-min k.toNat l.length);rw [sliceRange_one];have ep:(fun x:Nat=>l[x]?)=fun x:Nat=>l.toArray[x]? := by funext x;simp
 rw [ep,p];simp;by_cases c:k.toNat<=l.length
 ·rw [Nat.min_eq_left c,List.take_of_length_le (by simp)]
 ·rw [Nat.min_eq_right (by omega),List.drop_eq_nil_of_le (Nat.le_refl _),List.drop_eq_nil_of_le (by omega)];exact List.take_nil
structure ThingsOk (ts:List Int):Prop where
 ne:ts ≠ []
 len:ts.length<=4
 rng:∀ t∈ts,0<=t/\t<12
 up:ts.Pairwise (· < ·)
theorem zdk {r:List (Int×Int)}(h:Rise r):Once r:=by
 unfold Rise at h;unfold Once List.Nodup;exact h.imp fun h e=>by omega
theorem zkC {r:List (Int×Int)}(h:Once r){p q:Int×Int}(hp:p∈r)(hq:q∈r)(e:p.1=q.1):p=q:=by
 induction r with
 |nil=>cases hp
 |cons a r ih =>
  unfold Once at h;rw [List.map_cons,List.nodup_cons] at h;rcases List.mem_cons.mp hp with z|z
  ·rcases List.mem_cons.mp hq with y|y
   ·rw [z,y]
   ·exact absurd (List.mem_map.mpr ⟨q,y,by rw [<- e,z]⟩) h.1
  ·rcases List.mem_cons.mp hq with y|y
   ·exact absurd (List.mem_map.mpr ⟨p,z,by rw [e,y]⟩) h.1
   ·exact ih h.2 z y
theorem zls {r:List (Int×Int)}{hs:List Int}{p:Int×Int}(hp:p∈r):nthI hs p.1+p.2<=zbh r hs :=
 (zc0 (l:=r.map fun p=>nthI hs p.1+p.2) (fun z=>by rw [List.map_eq_nil_iff] at z;subst z;cases hp)).2 _ (List.mem_map.mpr ⟨p,hp,rfl⟩)
theorem zm5 {r:List (Int×Int)}{hs:List Int}(hr:r ≠ []):∃ p∈r,zbh r hs=nthI hs p.1+p.2:=by
 refine zc1b (List.mem_map.mp (zc0 (l:=r.map fun p=>nthI hs p.1+p.2) (fun z=>hr (List.map_eq_nil_iff.mp z))).1) fun p hp e=>?_;exact ⟨p,hp,e.symm⟩
theorem zo3 {f:List (List (Int×Int))}{hs:List Int}(hf:f ≠ []):∃ r∈f,zbO f hs=zbh r hs:=by
 refine zc1b (List.mem_map.mp (zgM (l:=f.map fun r=>zbh r hs) (fun z=>hf (List.map_eq_nil_iff.mp z))).1) fun p hp e=>?_;exact ⟨p,hp,e.symm⟩
structure Over (f:List (List (Int×Int)))(hs:List Int):Prop where
 ne:f ≠ []
 rne:∀ r∈f,r ≠ []
 once:∀ r∈f,Once r
 bnd:∀ r∈f,∀ p∈r,0<=p.1/\p.1<(hs.length:Int)
def fdF (f:List (List (Int×Int)))(hs:List Int):List (List (Int×Int)):=f.filter fun r=>decide (zbh r hs=zbO f hs)
theorem zh5 {f:List (List (Int×Int))}{hs:List Int}{r:List (Int×Int)}:r∈fdF f hs↔r∈f/\zbh r hs=zbO f hs:=by
 unfold fdF;rw [List.mem_filter,decide_eq_true_iff]
theorem fd_ne {f:List (List (Int×Int))}{hs:List Int}(hf:f ≠ []):fdF f hs ≠ []:=fun z=>by
 refine zc1b (zo3 (hs:=hs) hf) fun r hr e=>?_;have:r∈fdF f hs:=zh5.mpr ⟨hr,e.symm⟩;rw [z] at this;cases this
structure RoundOk (n:Int)(fs:List (List (List (Int×Int)))):Prop where
 len:(fs.length:Int)=n
 low:1<=n
 most:n<=12
 forms:∀ f∈fs,FormOk n f
theorem RoundOk.over {n:Int}{fs:List (List (List (Int×Int)))}(R:RoundOk n fs){hs:List Int}(h:hs.length=fs.length):∀ f∈fs,Over f hs:=fun f hf=>⟨(R.forms f hf).ne,fun r hr=>((R.forms f hf).rows r hr).ne,fun r hr=>((R.forms f hf).rows r hr).once,fun r hr p hp=>by
 have:=((R.forms f hf).rows r hr).mem p hp;have:=R.len;omega⟩
def rdD (fs:List (List (List (Int×Int)))):D:=.lst (fs.map frD)
@[simp] theorem walkS_rd (fs:List (List (List (Int×Int)))):zfC (rdD fs)=some (fs.map frD):=rfl
open L2.ST
theorem zik:∀ {ys xs:List Int},xs.Pairwise (· < ·)->ys.Pairwise (· < ·)->(∀ x∈xs,x∈ys)->xs.length<=ys.length/\(xs.length=ys.length->xs=ys)
 | [],xs,_,_,h=>by
  cases xs with
  |nil=>exact ⟨Nat.le_refl _,fun _=>rfl⟩
  |cons x xs=>cases h x Zqs
 |y::ys,[],_,_,_=>⟨Nat.zero_le _,fun e=>by simp at e⟩
 |y::ys,x::xs,hx,hy,h=>by
  rw [List.pairwise_cons] at hx hy;rcases List.mem_cons.mp (h x Zqs) with q|q
  ·subst q;obtain ⟨h1,h2⟩:=zik (ys:=ys) hx.2 hy.2 fun z hz=>by
    rcases List.mem_cons.mp (h z (Zqm _ hz)) with w|w
    ·have:=hx.1 z hz;omega
    ·exact w
   refine ⟨by rw [List.length_cons,List.length_cons];omega,fun e=>?_⟩;rw [List.length_cons,List.length_cons] at e;rw [h2 (by omega)]
  ·have hyx:=hy.1 x q;obtain ⟨h1,_⟩:=zik (ys:=ys) (xs:=x::xs) (List.pairwise_cons.mpr hx) hy.2 fun z hz=>by
    rcases List.mem_cons.mp (h z hz) with w|w
    ·rcases List.mem_cons.mp hz with v|v
     ·omega
     ·have:=hx.1 z v;omega
    ·exact w
   refine ⟨by rw [List.length_cons (as:=ys)];omega,fun e=>?_⟩;rw [List.length_cons (as:=ys)] at e;omega
theorem zoY:∀ {a b:List (Int×Int)},a.map (·.1)=b.map (·.1)->(∀ (i:Nat) p q,a[i]? = some p->b[i]? = some q->p.2<=q.2)->a≠b->rltB a b=true
 | [],[],_,_,h=>absurd rfl h
 | [],_::_,e,_,_=>by simp at e
 |_::_,[],e,_,_=>by simp at e
 |p::a,q::b,e,hw,hn=>by
  rw [List.map_cons,List.map_cons] at e;have e1:p.1=q.1:=(List.cons.inj e).1;have e2:=(List.cons.inj e).2;have w0:=hw 0 p q rfl rfl;rw [zb9];by_cases z:p=q
  ·rw [if_pos z];refine zoY e2 (fun i p q hp hq=>hw (i+1) p q hp hq) fun y=>hn (by rw [z,y])
  ·rw [if_neg z,zb6];refine .inr ⟨e1,?_⟩;rcases Int.lt_or_eq_of_le w0 with y|y
   ·exact y
   ·exact absurd (Prod.ext e1 y) z
theorem zod {a b:List (Int×Int)}(ra:Rise a)(rb:Rise b)(h:zai a b=true)(hn:a≠b):llB a b=true:=by
 have u:=zbu.mp h;have ob:=zdk rb;obtain ⟨h1,h2⟩:=zik ra rb fun x hx=>by
  refine zc1b (List.mem_map.mp hx) fun p hp zr2=>?_;subst zr2;refine zc1b (u p hp) fun w hw _=>?_;exact List.mem_map.mpr ⟨(p.1,w),za3 hw,rfl⟩
 rw [Zql,Zql] at h1 h2;rw [zcW];rcases Nat.lt_or_eq_of_le h1 with q|q
 ·exact .inl q
 ·have e:=h2 q;refine .inr ⟨q,zoY e (fun i p r hp hr=>?_) hn⟩;refine zc1b (u p (List.mem_of_getElem? hp)) fun w hw hle=>?_;have e1:p.1=r.1:=by
   have a1:(a.map (·.1))[i]? = some p.1:=by rw [List.getElem?_map,hp];rfl
   have a2:(b.map (·.1))[i]? = some r.1:=by rw [List.getElem?_map,hr];rfl
   rw [e,a2] at a1;exact (Zqi a1).symm
  have:=zkC ob (List.mem_of_getElem? hr) (za3 hw) e1.symm;rw [this];exact hle
theorem zb1 {α : Type}{ltb:α -> α -> Bool}(T:Tot ltb){l:List α}(hn:l.Nodup):(zaE ltb l).Pairwise fun a b=>ltb a b=true:=by
 have hn':(zaE ltb l).Nodup:=(zal (ltb:=ltb) l).nodup_iff.mpr hn;have hs:=zbV T l;generalize zaE ltb l=s at hn' hs;unfold Sd at hs;unfold List.Nodup at hn';refine List.Pairwise.imp ?_ (hs.and hn');rintro a b ⟨h1,h2⟩;cases q:ltb a b with
 |true=>rfl
 |false=>exact absurd (T.tot _ _ q h1) h2
def ordL (rs:List (List (Int×Int))):List (List (Int×Int)):=zaE llB (zaE rltB (dedR rs))
theorem zdB {rs:List (List (Int×Int))}{r:List (Int×Int)}:r∈ordL rs↔r∈rs:=by
 unfold ordL;rw [(zal (ltb:=llB) _).mem_iff,(zal (ltb:=rltB) _).mem_iff,zg3]
theorem zfb (rs:List (List (Int×Int))):(ordL rs).Pairwise fun a b=>llB a b=true:=zb1 zgg ((zal (ltb:=rltB) _).nodup_iff.mpr (zfM rs))
theorem ze1 (rs:List (List (Int×Int))):(ordL rs).length<=rs.length:=by
 unfold ordL;rw [(zal (ltb:=llB) _).length_eq,(zal (ltb:=rltB) _).length_eq];exact ziW rs
def lowS (kept:List (List (Int×Int)))(r:List (Int×Int)):List (List (Int×Int)):=if kept.any (fun o=>zai o r)=true then kept else kept++[r]
def lowL (rs:List (List (Int×Int))):List (List (Int×Int)):=(ordL rs).filter (lowQ rs)
theorem zjz {rs:List (List (Int×Int))}(hr:∀ r∈rs,Rise r):∀ i,i<=(ordL rs).length->((ordL rs).take i).foldl lowS []=((ordL rs).take i).filter (lowQ rs)
 | 0,_=>by simp
 |i+1,hi=>by
  have ih:=zjz hr i (by omega);have st:=zfb rs;have hm:∀ r,r∈ordL rs↔r∈rs:=fun r=>zdB;generalize ordL rs=L at hi ih st hm;have hlt:i<L.length:=by omega
  rw [zaW (Zqg hlt),List.foldl_append,List.filter_append,ih];have bef:∀ o∈L.take i,llB o L[i]=true:=fun o ho=>by
   obtain ⟨j,hj,rfl⟩:=List.getElem_of_mem ho;rw [List.length_take] at hj;rw [List.getElem_take];exact List.pairwise_iff_getElem.mp st j i (by omega) hlt (by omega)
  have hin:=(hm L[i]).mp (List.getElem_mem hlt);show lowS ((L.take i).filter (lowQ rs)) L[i]=_;unfold lowS;cases q:lowQ rs L[i] with
  |true =>
   have low:=zc5.mp q;rw [if_neg,List.filter_cons_of_pos q,List.filter_nil];intro z;refine zc1b (List.any_eq_true.mp z) fun o ho hu=>?_;have ho:=(List.mem_filter.mp ho).1;have e:=low o ((hm o).mp (List.mem_of_mem_take ho)) hu;have b:=bef o ho;rw [e] at b;have:=zgg.asy _ _ b;rw [b] at this;cases this
  |false =>
   have nl:¬ ∀ o∈rs,zai o L[i]=true->o=L[i]:=fun z=>by rw [zc5.mpr z] at q;cases q
   obtain ⟨o,ho,hu,hne⟩:∃ o∈rs,zai o L[i]=true/\o≠L[i]:=by
    apply Classical.byContradiction;intro z;exact nl fun o ho hu=>Classical.byContradiction fun y=>z ⟨o,ho,hu,y⟩
   obtain ⟨mn,hm1,hm2⟩:=ziQ (rs:=rs.filter fun o=>zai o L[i]) (fun z=>by
    have:o∈rs.filter fun o=>zai o L[i]:=List.mem_filter.mpr ⟨ho,hu⟩;rw [z] at this;cases this) fun r h=>⟨zdk (hr r (List.mem_filter.mp h).1),hr r (List.mem_filter.mp h).1⟩
   obtain ⟨mr,mu⟩:=List.mem_filter.mp hm1;have mlow:lowQ rs mn=true:=zc5.mpr fun x hx hxu=>hm2 x (List.mem_filter.mpr ⟨hx,za6 hxu mu⟩) hxu;have mne:mn≠L[i]:=fun z=>hne (by
    have:=hm2 o (List.mem_filter.mpr ⟨ho,hu⟩) (by rw [z];exact hu);rw [this,z])
   have mll:=zod (hr mn mr) (hr _ hin) mu mne;have mtake:mn∈L.take i:=by
    obtain ⟨j,hj,ej⟩:=List.getElem_of_mem ((hm mn).mpr mr);rcases Nat.lt_trichotomy j i with w|w|w
    ·rw [<- ej,List.mem_take_iff_getElem];exact ⟨j,by omega,rfl⟩
    ·subst w;exact absurd ej.symm mne
    ·have b:=List.pairwise_iff_getElem.mp st i j hlt hj w;rw [ej] at b;have:=zgg.asy _ _ b;rw [mll] at this;cases this
   rw [if_pos (List.any_eq_true.mpr ⟨mn,List.mem_filter.mpr ⟨mtake,mlow⟩,mu⟩),List.filter_cons_of_neg (by rw [q];simp),List.filter_nil,List.append_nil]
theorem zeI (rs:List (List (Int×Int))):zaE rltB (lowL rs)=zaA rs:=by
 have n1:(lowL rs).Nodup:=by
  have:(ordL rs).Nodup:=by
   unfold List.Nodup;refine (zfb rs).imp fun {a b} h e=>?_;subst e;have:=zgg.asy _ _ h;rw [h] at this;cases this
  exact List.Pairwise.sublist (List.filter_sublist) this
 have n2:(zaV rs rs).Nodup:=(zby rs rs []).2.2 List.nodup_nil;refine zb0 zaC (zb1 zaC n1) (zb1 zaC n2) fun r=>?_;rw [(zal (ltb:=rltB) _).mem_iff];show r∈lowL rs↔r∈zaA rs;rw [zax];unfold lowL;rw [List.mem_filter,zdB]
structure PairsOk (ts:List Int)(r:List (Int×Int)):Prop where
 ne:r ≠ []
 len:r.length<=4
 mem:∀ p∈r,p.1∈ts
 up:r.Pairwise fun p q=>p.1<q.1
theorem zq7 {r:List (Int×Int)}(h:r.Pairwise fun p q=>p.1<q.1):Once r:=by
 unfold Once List.Nodup;rw [List.pairwise_map];exact h.imp fun h e=>by omega
theorem PairsOk.row {ts:List Int}{r:List (Int×Int)}(T:ThingsOk ts)(P:PairsOk ts r):RowOk 12 r:=⟨P.ne,zq7 P.up,fun p hp=>T.rng _ (P.mem p hp),Nat.le_trans P.len (by omega)⟩
theorem zdj {rs:List (List (Int×Int))}(ok:∀ r∈rs,Once r/\Rise r){r:List (Int×Int)}(hr:r∈rs):∃ s∈zaA rs,zai s r=true:=by
 have rr:zai r r=true:=zbu.mpr fun p hp=>⟨p.2,(ok r hr).1.look (t:=p.1) (w:=p.2) hp,Int.le_refl _⟩;have ne:rs.filter (fun o=>zai o r) ≠ []:=fun z=>by
  have:r∈rs.filter fun o=>zai o r:=List.mem_filter.mpr ⟨hr,rr⟩;rw [z] at this;cases this
 refine zc1b (ziQ ne fun o ho=>ok o (List.mem_filter.mp ho).1) fun m hm h=>?_;obtain ⟨hm1,hm2⟩:=List.mem_filter.mp hm;exact ⟨m,zax.mpr ⟨hm1,zc5.mpr fun o ho hu=>h o (List.mem_filter.mpr ⟨ho,za6 hu hm2⟩) hu⟩,hm2⟩
theorem zcf (rs:List (List (Int×Int))):(zaA rs).Pairwise fun a b=>rltB a b=true:=zb1 zaC ((zby rs rs []).2.2 List.nodup_nil)
structure JRow (r:List (Int×Int)):Prop where
 ne:r ≠ []
 rise:Rise r
 bnd:∀ p∈r,0<=p.1/\p.1<12
theorem JRow.once {r:List (Int×Int)}(h:JRow r):Once r:=zdk h.rise
theorem JRow.len {r:List (Int×Int)}(h:JRow r):r.length<=12:=by
 have up:(r.map (·.1)).Pairwise (· < ·):=h.rise;have key:∀ (l:List Int) (a:Int),l.Pairwise (· < ·)->(∀ x∈l,a<=x/\x<12)->(l.length:Int)<=max 0 (12-a):=by
  intro l
  induction l with
  |nil=>intro a _ _;simp;omega
  |cons x l ih =>
   intro a hp hb;rw [List.pairwise_cons] at hp;have h1:=hb x Zqs;have:=ih (x+1) hp.2 fun y hy=>⟨by have:=hp.1 y hy;omega,(hb y (Zqm _ hy)).2⟩;rw [List.length_cons];omega
 have:=key _ 0 up fun x hx=>by
  refine zc1b (List.mem_map.mp hx) fun p hp zr2=>?_;subst zr2;exact h.bnd p hp
 rw [Zql] at this;omega
theorem zcz {α : Type}:∀ {l m:List α},l.Nodup->(∀ x∈l,x∈m)->l.length<=m.length
 | [],m,_,_=>Nat.zero_le _
 |x::l,m,h,s=>by
  refine zc2a (List.append_of_mem (s x Zqs)) fun a b zr2=>?_;subst zr2;obtain ⟨h1,h2⟩:=List.nodup_cons.mp h;have ih:=zcz (l:=l) (m:=a++b) h2 fun y hy=>by
   rcases List.mem_append.mp (s y (Zqm _ hy)) with z|z
   ·exact List.mem_append_left _ z
   ·rcases List.mem_cons.mp z with z|z
    ·rw [z] at hy;exact absurd hy h1
    ·exact List.mem_append_right _ z
  rw [List.length_append] at ih;rw [List.length_append,List.length_cons,List.length_cons];omega
structure Fm (n:Int)(U:List (List (Int×Int)))(f:List (List (Int×Int))):Prop where
 good:Good n f
 sub:∀ r∈f,r∈U
theorem zko {n:Int}{f:List (List (Int×Int))}(G:Good n f):f.Nodup:=G.srt.imp fun {a b} h e=>by
 subst e;have:=zaC.asy _ _ h;rw [h] at this;cases this
theorem Fm.len {n:Int}{U f:List (List (Int×Int))}(F:Fm n U f)(h:U.length<=28):f.length<=28:=Nat.le_trans (zcz (zko F.good) F.sub) h
theorem zrf (k:Int)(ts:List Int):(ts.map D.int).any (fun e=>zbl e (.int k))=decide (k∈ts):=by
 rw [List.any_map,Bool.eq_iff_iff,List.any_eq_true,decide_eq_true_eq];constructor
 ·rintro ⟨x,hx,e⟩;have e:=zds.mp e;injection e with e
  rw [<- e];exact hx
 ·intro h;exact ⟨k,h,zaK _⟩
theorem gIn_L (neg:Bool)(k:Int)(ts:List Int):gIn neg (.int k) (.lst (ts.map .int))=some (.bl (if neg then !decide (k∈ts) else decide (k∈ts))):=by
 have ha:(ts.map D.int).all (plN 12)=true:=by rw [List.all_map,List.all_eq_true];exact fun _ _=>rfl
 show (if plN 12 (.int k)&&(ts.map D.int).all (plN 12) then some (D.bl (if neg then !(ts.map D.int).any (fun e=>zbl e (.int k)) else (ts.map D.int).any fun e=>zbl e (.int k))) else none)=_;rw [ha,zrf];rfl
theorem zpD (neg:Bool)(k:Int)(ts:List Int):gIn neg (.int k) (itD ts)=some (.bl (if neg then !decide (k∈ts) else decide (k∈ts))):=gIn_L neg k ts
def movS (hs ts:List Int)(m:Int):List Int:=(List.range hs.length).map fun k:Nat=>nthI hs k+m*(if (k:Int)∈ts then 1 else 0)
theorem zoa (hs ts:List Int)(m:Int):(movS hs ts m).length=hs.length:=by unfold movS;simp
theorem zqf {hs ts:List Int}{m x:Int}(h0:0<=x)(h1:x<(hs.length:Int)):nthI (movS hs ts m) x=nthI hs x+(if x∈ts then m else 0):=by
 have hl:x.toNat<hs.length:=by omega
 have e:((x.toNat:Nat):Int)=x:=by omega
 unfold nthI movS;rw [List.getD_eq_getElem?_getD,List.getElem?_map,List.getElem?_range hl];show nthI hs (x.toNat:Int)+m*(if ((x.toNat:Nat):Int)∈ts then 1 else 0)=_;rw [e];unfold nthI
 split
 ·omega
 ·omega
noncomputable def thR (r:List (Int×Int)):List Int:=r.map (·.1)
theorem zbR (l:List Int):thR (zR l)=l:=by
 unfold thR zR;rw [List.map_map];exact List.map_id l
noncomputable def zaG:Nat->List (List Int)
 | 0=>[[]]
 |i+1=>zaG i++(zaG i).map fun s=>s++[(i:Int)]
theorem zaz:∀ (n:Nat) (s:List Int),s∈zaG n↔s.Pairwise (· < ·)/\∀ x∈s,0<=x/\x<(n:Int)
 | 0,s=>by
  show s ∈ [[]]↔_;rw [List.mem_singleton];constructor
  ·rintro rfl;exact ⟨.nil,fun _ h=>nomatch h⟩
  ·rintro ⟨_,h⟩;cases s with
   |nil=>rfl
   |cons x s=>have:=h x Zqs;omega
 |n+1,s=>by
  show s∈zaG n++(zaG n).map (fun s=>s++[(n:Int)])↔_;rw [List.mem_append];constructor
  ·rintro (h|h)
   ·obtain ⟨a,b⟩:=(zaz n s).mp h;exact ⟨a,fun x hx=>by have:=b x hx;omega⟩
   ·refine zc1b (List.mem_map.mp h) fun t ht zr2=>?_;subst zr2;obtain ⟨a,b⟩:=(zaz n t).mp ht;refine ⟨List.pairwise_append.mpr ⟨a,List.pairwise_singleton _ _,fun x hx y hy=>?_⟩,fun x hx=>?_⟩
    ·rw [List.mem_singleton.mp hy];exact (b x hx).2
    ·rcases List.mem_append.mp hx with z|z
     ·have:=b x z;omega
     ·rw [List.mem_singleton.mp z];omega
  ·rintro ⟨a,b⟩;rcases List.eq_nil_or_concat s with rfl|⟨l,x,rfl⟩
   ·exact .inl ((zaz n []).mpr ⟨.nil,fun _ h=>nomatch h⟩)
   ·rw [List.concat_eq_append] at a b ⊢;refine zc0c (List.pairwise_append.mp a) fun a1 _ a2=>?_;have bx:=b x (List.mem_append_right _ Zqs);have lt:∀ y∈l,y<x:=fun y hy=>a2 y hy x Zqs;by_cases c:x=(n:Int)
    ·right;rw [c];refine List.mem_map.mpr ⟨l,(zaz n l).mpr ⟨a1,fun y hy=>?_⟩,rfl⟩;have:=b y (List.mem_append_left _ hy);have:=lt y hy;omega
    ·left;refine (zaz n _).mpr ⟨a,fun y hy=>?_⟩;have:=b y hy;rcases List.mem_append.mp hy with z|z
     ·have:=lt y z;omega
     ·rw [List.mem_singleton.mp z];omega
theorem zcD:∀ n:Nat,(zaG n).Nodup
 | 0=>List.nodup_cons.mpr ⟨List.not_mem_nil,List.nodup_nil⟩
 |n+1=>by
  show (zaG n++(zaG n).map fun s=>s++[(n:Int)]).Nodup;rw [List.nodup_append];refine ⟨zcD n,?_,fun a ha b hb e=>?_⟩
  ·rw [List.nodup_iff_pairwise_ne,List.pairwise_map];exact List.Pairwise.imp (fun {a b} h e=>h (List.append_cancel_right e)) (List.nodup_iff_pairwise_ne.mp (zcD n))
  ·refine zc1b (List.mem_map.mp hb) fun t _ zr2=>?_;subst zr2;have:=((zaz n a).mp ha).2 (n:Int) (by rw [e];exact List.mem_append_right _ Zqs);omega
theorem zdw:∀ n:Nat,(zaG n).length=2 ^ n
 | 0=>rfl
 |n+1=>by
  show (zaG n++(zaG n).map fun s=>s++[(n:Int)]).length=_;rw [List.length_append,Zql,zdw n,Nat.pow_succ];omega
noncomputable def subB (a b:List Int):Bool:=a.all fun t=>decide (t∈b)
theorem zqO {a b:List Int}:subB a b=true↔∀ t∈a,t∈b:=by
 unfold subB;rw [List.all_eq_true];exact forall_congr' fun t=>forall_congr' fun _=>decide_eq_true_iff
def minS (L:List (List Int)):List (List Int):=L.filter fun a => !(L.any fun b => !decide (b=a)&&subB b a)
theorem ze2 {L:List (List Int)}{a:List Int}:a∈minS L↔a∈L/\∀ b∈L,(∀ t∈b,t∈a)->b=a:=by
 unfold minS;rw [List.mem_filter];refine and_congr_right fun _=>?_;rw [Bool.not_eq_true',List.any_eq_false];refine forall_congr' fun b=>forall_congr' fun _=>?_;rw [<- zqO];by_cases c:b=a
 ·simp [c]
 ·simp [c]
def zfs (L:List (List Int)):List (List Int):=zaE iltB (minS L)
def zdp (f:List (List (Int×Int)))(hs:List Int):List (List (Int×Int)):=(fdF f hs).map fun r=>zR (thR r)
def zlw (f:List (List (Int×Int)))(hs:List Int):List (List Int):=(zaA (zdp f hs)).map thR
theorem zpE:Tot fun a b:Int=>decide (a<b):=⟨fun i j h=>by rw [decide_eq_true_eq] at h;exact decide_eq_false (by omega),fun i j k h=>by
 rw [decide_eq_true_eq] at h;rw [decide_eq_true_eq,decide_eq_true_eq];omega,fun i j h1 h2=>by
 rw [decide_eq_false_iff_not] at h1 h2;omega⟩
theorem zpW {a b:List Int}(ha:a.Pairwise (· < ·))(hb:b.Pairwise (· < ·))(h:∀ x,x∈a↔x∈b):a=b :=
 zb0 zpE (ha.imp fun h=>decide_eq_true h) (hb.imp fun h=>decide_eq_true h) h
theorem zcw {a b:List Int}(hb:b.Nodup):zai (zR a) (zR b)=true↔∀ t∈a,t∈b:=by
 rw [zbu];constructor
 ·intro h t ht;refine zc1b (h (t,0) (List.mem_map.mpr ⟨t,ht,rfl⟩)) fun w hw _=>?_;refine zc1b (List.mem_map.mp (za3 hw)) fun x hx e=>?_;have e1:x=t:=congrArg Prod.fst e;rw [<- e1];exact hx
 ·intro h p hp;refine zc1b (List.mem_map.mp hp) fun t ht zr2=>?_;subst zr2;have o:Once (zR b):=by
   show ((zR b).map (·.1)).Nodup;rw [show (zR b).map (·.1)=b from zbR b];exact hb
  exact ⟨0,o.look (t:=t) (w:=0) (List.mem_map.mpr ⟨t,h t ht,rfl⟩),Int.le_refl _⟩
theorem zlF {a:List Int}(h:a.Pairwise (· < ·)):a.Nodup:=List.nodup_iff_pairwise_ne.mpr (h.imp fun h e=>by omega)
theorem zfn {s:List Int}{n:Nat}(h:s.Pairwise (· < ·))(b:∀ x∈s,0<=x/\x<(n:Int)):s.length<=n:=by
 have key:∀ (l:List Int) (a:Int),l.Pairwise (· < ·)->0<=a->a<=(n:Int)->(∀ x∈l,a<=x/\x<(n:Int))->(l.length:Int)<=n-a:=by
  intro l
  induction l with
  |nil=>intro a _ _ h _;simp;omega
  |cons x l ih =>
   intro a hp a0 an hb;rw [List.pairwise_cons] at hp;have hx:=hb x Zqs;have:=ih (x+1) hp.2 (by omega) (by omega) fun y hy=>by
    have:=hp.1 y hy;have:=hb y (Zqm _ hy);omega
   rw [List.length_cons];omega
 have:=key s 0 h (by omega) (by omega) b;omega
def zcY (r:List (Int×Int))(hs:List Int):List Int:=(r.filter fun p=>decide (nthI hs p.1+p.2=zbh r hs)).map (·.1)
def zak (hs:List Int)(r:List (Int×Int)):List (List (Int×Int)):=(zcY r hs).map fun t=>zR [t]
theorem zd4 {r:List (Int×Int)}{hs:List Int}{t:Int}:t∈zcY r hs↔∃ p∈r,p.1=t/\nthI hs p.1+p.2=zbh r hs:=by
 unfold zcY;rw [List.mem_map];constructor
 ·rintro ⟨p,hp,e⟩;obtain ⟨h1,h2⟩:=List.mem_filter.mp hp;exact ⟨p,h1,e,of_decide_eq_true h2⟩
 ·rintro ⟨p,hp,e,h⟩;exact ⟨p,List.mem_filter.mpr ⟨hp,decide_eq_true h⟩,e⟩
theorem zmq {r:List (Int×Int)}{hs:List Int}(hr:r ≠ []):zcY r hs ≠ []:=fun z=>by
 refine zc1b (zm5 (hs:=hs) hr) fun p hp e=>?_;have:p.1∈zcY r hs:=zd4.mpr ⟨p,hp,rfl,e.symm⟩;rw [z] at this;cases this
theorem zg2 {n:Nat}{r:List (Int×Int)}{hs:List Int}(ok:RowOk (n:Int) r)(ri:Rise r):zcY r hs∈zaG n:=by
 refine (zaz n _).mpr ⟨?_,fun x hx=>?_⟩
 ·exact List.Pairwise.sublist (List.Sublist.map _ List.filter_sublist) ri
 ·refine zc1c (zd4.mp hx) fun p hp zr2 _=>?_;subst zr2;exact ok.mem p hp
def hitB (hs S:List Int)(r:List (Int×Int)):Bool:=decide (zbh r hs<zbh r (movS hs S 1))
theorem zg0 {r:List (Int×Int)}{hs S:List Int}(hr:r ≠ [])(hb:∀ p∈r,0<=p.1/\p.1<(hs.length:Int)):hitB hs S r=true↔∃ t∈zcY r hs,t∈S:=by
 unfold hitB;rw [decide_eq_true_eq];have at_:∀ p∈r,nthI (movS hs S 1) p.1=nthI hs p.1+(if p.1∈S then 1 else 0):=fun p hp=>zqf (hb p hp).1 (hb p hp).2;constructor
 ·intro h;refine zc1b (zm5 (hs:=movS hs S 1) hr) fun p hp e=>?_;have g:=zls (hs:=hs) hp;rw [at_ p hp] at e;by_cases c:p.1∈S
  ·rw [if_pos c] at e;exact ⟨p.1,zd4.mpr ⟨p,hp,rfl,by omega⟩,c⟩
  ·rw [if_neg c] at e;omega
 ·rintro ⟨t,ht,hS⟩;refine zc1c (zd4.mp ht) fun p hp zr2 e=>?_;subst zr2;have g:=zls (hs:=movS hs S 1) hp;rw [at_ p hp,if_pos hS] at g;omega
def zeT (n:Nat)(hs:List Int)(rows:List (List (Int×Int))):List (List Int):=(zaG n).filter fun S=>rows.all (hitB hs S)
def zid (n:Nat)(hs:List Int)(rows:List (List (Int×Int))):List (List Int):=zfs (zeT n hs rows)
theorem znO {n:Nat}{hs:List Int}{rows:List (List (Int×Int))}(n6:n<=6)(hn:rows ≠ [])(hr:∀ r∈rows,r ≠ [])(hb:∀ r∈rows,∀ p∈r,0<=p.1/\p.1<(hs.length:Int)):(zeT n hs rows).length<64/\∀ a∈zeT n hs rows,a ≠ []:=by
 have no:∀ a∈zeT n hs rows,a ≠ []:=fun a ha z=>by
  obtain ⟨r,hr'⟩:=List.exists_mem_of_ne_nil _ hn;have:=List.all_eq_true.mp (List.mem_filter.mp ha).2 r hr';refine zc1b ((zg0 (hr r hr') (hb r hr')).mp this) fun t _ ht=>?_;rw [z] at ht;cases ht
 refine ⟨?_,no⟩;have l:=zcz (l:=[]::zeT n hs rows) (m:=zaG n) (List.nodup_cons.mpr ⟨fun z=>no [] z rfl,List.Pairwise.filter _ (zcD n)⟩) fun x hx=>by
  rcases List.mem_cons.mp hx with rfl|hx
  ·exact (zaz n _).mpr ⟨.nil,fun _ h=>nomatch h⟩
  ·exact (List.mem_filter.mp hx).1
 rw [zdw,List.length_cons] at l;have:2 ^ n<=64:=Nat.pow_le_pow_right (by omega) n6;omega
theorem zth:∀ {q:List (Int×Int)},(∀ p∈q,p.2=0)->q=zR (thR q)
 | [],_=>rfl
 |p::q,h=>by
  show p::q=(p.1,0)::zR (thR q);rw [<- zth fun x hx=>h x (Zqm _ hx),<- h p Zqs]
theorem zmI {a:List Int}{t w:Int}(h:zam (zR a) t=some w):w=0/\t∈a:=by
 refine zc1b (List.mem_map.mp (za3 h)) fun x hx e=>?_;have e1:x=t:=congrArg Prod.fst e;have e2:(0:Int)=w:=congrArg Prod.snd e;exact ⟨e2.symm,by rw [<- e1];exact hx⟩
theorem zlo {n:Nat}{a:List Int}(n6:n<=6)(ha:a∈zaG n)(na:a ≠ []):JRow (zR a):=by
 obtain ⟨h1,h2⟩:=(zaz n a).mp ha;refine ⟨fun z=>na (by rw [<- zbR a,z];rfl),?_,fun p hp=>?_⟩
 ·show ((zR a).map (·.1)).Pairwise (· < ·);rw [show (zR a).map (·.1)=a from zbR a];exact h1
 ·refine zc1b (List.mem_map.mp hp) fun t ht zr2=>?_;subst zr2;have:=h2 t ht;show 0<=t/\t<12;omega
def cntG (G:List Int):Nat:=((zaG 6).filter fun S=>S.all fun x => !decide (x∈G)).length
theorem zpr:∀ G∈zaG 6,cntG G*(G.length-1)<=16/\G.length<=6:=by decide +kernel
theorem zio {n:Nat}(n6:n<=6){a:List Int}(ha:a∈zaG n):a∈zaG 6:=by
 obtain ⟨h1,h2⟩:=(zaz n a).mp ha;exact (zaz 6 a).mpr ⟨h1,fun x hx=>by have:=h2 x hx;omega⟩
def zl6:FS:=(sSeq (sIf (zaq (dOp gLt (dVar 1) (dBlt gLen (zab (dVar 0) dNil)))) (sRet (dOp gIx (dVar 0) (dVar 1))) zaR) (sRet (dC (.int 0))))
def zde:List D->Res D:=runD 2 2 zl6
theorem znI (ns:List Int)(k:Nat):zde [.scr ns,.int k]=.ok (.int (zf8 ns k)):=by
 unfold zf8;rw [Int.toNat_natCast];by_cases h:k<ns.length
 ·have e:atI ns (k:Int)=some ns[k]:=by rw [zg7 h];exact Zqg h
  have e2:ns.getD k 0=ns[k]:=by rw [List.getD_eq_getElem?_getD,Zqg h];rfl
  rw [e2];simp [zde,zl6,h,e]
 ·have e2:ns.getD k 0=0:=by rw [List.getD_eq_getElem?_getD,List.getElem?_eq_none (by omega)];rfl
  rw [e2];simp [zde,zl6,h]
def zo9:FS:=(sSeq (sSet 2 (dC .non)) (sSeq (sFor (iS (dVar 0)) (.tup [3,4]) (sIf (dOrT (zaq (dUn (gIsN false) (dVar 2))) (zaq (dOp gGt (dOp gAdd (dOp gIx (dVar 1) (dVar 3)) (dVar 4)) (dVar 2)))) (sSet 2 (dOp gAdd (dOp gIx (dVar 1) (dVar 3)) (dVar 4))) zaR)) (sRet (dVar 2))))
def zc6:List D->Res D:=runD 5 2 zo9
theorem znz {r:List (Int×Int)}{hs:List Int}(hne:r ≠ [])(hb:∀ p∈r,0<=p.1/\p.1<(hs.length:Int)):zc6 [rwD r,.lst (hs.map .int)]=.ok (.int (zbh r hs)):=by
 simp [zc6,zo9,rwD];generalize hB:sIf _ _ zaR=b;obtain ⟨sd',e,u,v,hsd⟩:=zbn (tg:=.tup [3,4]) (b:=b) (ds:=r.map prD) (sd:=[some (.val (.tup (r.map prD))),some (.val (.lst (hs.map .int))),some (.val .non),none,none])
  (P:=fun i sd=>∃ u v,sd=[some (.val (.tup (r.map prD))),some (.val (.lst (hs.map .int))),some (.val (if i=0 then .non else .int (zbh (r.take i) hs))),u,v]) ⟨none,none,rfl⟩ (by
   rintro i x sd hx ⟨u,v,rfl⟩;refine zc1b (zbY hx) fun p hp zr2=>?_;subst zr2;obtain ⟨b1,b2⟩:=hb p (List.mem_of_getElem? hp);have ha:=zcJ b1 b2;have et:r.take (i+1)=r.take i++[p]:=zaW hp;subst hB;by_cases q:i=0
   ·subst q;simp [ha,et,zbh,znp]
   ·have hl:(r.take i).map (fun p=>nthI hs p.1+p.2) ≠ []:=by
     intro z;have:=congrArg List.length z;rw [Zql,List.length_take] at this;have hi:=(List.getElem?_eq_some_iff.mp hp).1;simp only [List.length_nil] at this;omega
    have hm:zbh (r.take (i+1)) hs=if zbh (r.take i) hs<nthI hs p.1+p.2 then nthI hs p.1+p.2 else zbh (r.take i) hs:=by
     rw [et];unfold zbh;rw [List.map_append];exact zl4 hl _
    by_cases c:zbh (r.take i) hs<nthI hs p.1+p.2
    ·rw [if_pos c] at hm;simp [q,ha,c,hm]
    ·rw [if_neg c] at hm;simp [q,ha,c,hm])
 rw [e];subst hsd;have hn:¬ r.length=0:=fun z=>hne (List.length_eq_zero_iff.mp z);simp [hne]
def zoz:FS:=(sRet (dBlt zjX (zab (zaP [none,some 1] (iS (dVar 0)) (.one 0) (zan zc6 (zab (dVar 0) (zab (dVar 1) dNil)))) dNil)))
def zke:List D->Res D:=runD 2 2 zoz
theorem f_z27 {f:List (List (Int×Int))}{hs:List Int}(hf:f ≠ [])(hl:f.length<=1000)(hne:∀ r∈f,r ≠ [])(hb:∀ r∈f,∀ p∈r,0<=p.1/\p.1<(hs.length:Int)):zke [frD f,.lst (hs.map .int)]=.ok (.int (zbO f hs)):=by
 have key:mapE (.one 0) (zan zc6 (zab (dVar 0) (zab (dVar 1) dNil))) [none,some (.val (.lst (hs.map .int)))] (f.map rwD)=.ok (f.map fun r=>.int (zbh r hs)):=zbk fun r hr=>by
  simp [znz (hne r hr) (hb r hr)]
 have e:f.map (fun r=>D.int (zbh r hs))=(f.map fun r=>zbh r hs).map .int:=by rw [List.map_map];rfl
 have hm:=zfO (ns:=f.map fun r=>zbh r hs) (fun z=>hf (List.map_eq_nil_iff.mp z));rw [<- e] at hm;simp [zke,zoz,frD,key,zaj hl,hm,zbO]
def znR:FS:=(sSeq (sSet 2 (dOp gMod (dOp gMul (dOp gAdd (dOp gMod (dVar 0) (dC (.int 2147483647))) (dVar 1)) (dC (.int 48271))) (dC (.int 2147483647)))) (sRet (dOp gMod (dOp gMul (dVar 2) (dVar 2)) (dC (.int 2147483629)))))
def zen:List D->Res D:=runD 3 2 znR
@[simp] theorem f_z17 (c s:Int):zen [.int c,.int s]=.ok (.int (mixF c s)):=by
 have h1:zeJ (c % 2147483647+s) 48271=true:=zec (by omega) (by omega);have h2:zeJ ((c % 2147483647+s)*48271 % 2147483647) ((c % 2147483647+s)*48271 % 2147483647)=true:=zec (by omega) (by omega);simp [zen,znR,zcV h1,zcV h2,mixF]
def zjG:FS:=(sSeq (sSet 2 (zan zen (zab (dVar 0) (zab (dVar 1) dNil)))) (sSeq (sIf (zaq (dOp gGt (dOp gMod (dVar 2) (dC (.int 4))) (dC (.int 0)))) (sRet (dOp gSub (dOp gMod (dOp zhd (dVar 2) (dC (.int 4))) (dC (.int 7))) (dC (.int 3)))) zaR) (sSeq (sSet 3 (dOp gMod (dOp gMul (dOp zhd (dVar 0) (dC (.int 5))) (dOp gAdd (dVar 1) (dC (.int 3)))) (dOp gPow (dC (.int 10)) (dC (.int 60))))) (sSeq (sIf (zaq (dOp gEq (dOp gMod (dOp zhd (dVar 2) (dC (.int 28))) (dC (.int 2))) (dC (.int 0)))) (sRet (dVar 3)) zaR) (sRet (dUn gNeg (dVar 3)))))))
def zf3:List D->Res D:=runD 4 2 zjG
def numF (c s:Int):Int :=
 if 0<mixF c s % 4 then mixF c s / 4 % 7-3
 else if mixF c s / 28 % 2=0 then c / 5*(s+3) % (10:Int) ^ (60:Nat) else -(c / 5*(s+3) % (10:Int) ^ (60:Nat))
theorem zrb {c s:Int}(h1 : -1000000<=s)(h2:s<=1000000):zf3 [.int c,.int s]=.ok (.int (numF c s)):=by
 have h3:zeJ (c / 5) (s+3)=true:=zec (by omega) (by omega);have h4:gPow (.int 10) (.int 60)=some (.int (10 ^ 60)):=rfl;unfold numF;by_cases c1:0<mixF c s % 4
 ·simp [zf3,zjG,c1]
 ·by_cases c2:mixF c s / 28 % 2=0
  ·simp [zf3,zjG,c1,c2,zcV h3,h4]
  ·simp [zf3,zjG,c1,c2,zcV h3,h4]
def znn:FS:=(sSeq (sSet 2 (zan zen (zab (dVar 0) (zab (dC (.int 7)) dNil)))) (sSeq (sOwn 3 (dLst dNil)) (sSeq (sFor (iR1 (zab (dVar 1) dNil)) (.one 4) (sSeq (sIf (zaq (dOp gEq (dOp gMod (dVar 2) (dC (.int 2))) (dC (.int 1)))) (zaN 3 (dTup (zab (dVar 4) (zab (zan zf3 (zab (dVar 0) (zab (dOp gAdd (dC (.int 13)) (dVar 4)) dNil))) dNil)))) zaR) (sSet 2 (dOp zhd (dVar 2) (dC (.int 2)))))) (sSeq (sIf (zjU [3] (zaq (dOp gEq (dVar 3) (dLst dNil)))) (zaN 3 (dTup (zab (dOp gMod (dVar 0) (dVar 1)) (zab (zan zf3 (zab (dVar 0) (zab (dC (.int 31)) dNil))) dNil)))) zaR) (fun sd=>(sRet (dBlt zcU (zab (dVar 3) dNil))) (frzD [3] sd))))))
def zmV:List D->Res D:=runD 5 2 znn
def rowB (c n:Int):List (Int×Int):=rowG (mixF c 7) (fun i=>numF c (13+i)) c (numF c 31) n
theorem f_z20 {c n:Int}(h1:1<=n)(h2:n<=12):zmV [.int c,.int n]=.ok (rwD (rowB c n)):=by
 have r1:zcc [.int n]=.ok (zaD 0 n.toNat):=zbj (by omega) (by omega);simp [zmV,znn,r1];generalize hb:sSeq (sIf _ _ _) (sSet 2 _)=b;obtain ⟨sd',e,u,rfl⟩:=zbn (tg:=.one 4) (b:=b) (ds:=zaD 0 n.toNat) (sd:=[some (.val (.int c)),some (.val (.int n)),some (.val (.int (mixF c 7))),some (.own false (.lst [])),none])
  (P:=fun i sd=>∃ u,sd=[some (.val (.int c)),some (.val (.int n)),some (.val (.int (zjE (mixF c 7) i))),some (.own false (.lst ((preG (mixF c 7) (fun i=>numF c (13+i)) i).map prD))),u]) ⟨none,rfl⟩ (by
   rintro i x sd hx ⟨u,rfl⟩;obtain ⟨rfl,hi⟩:=zcB hx;have hw:=zrb (c:=c) (s:=13+i) (by omega) (by omega);have hl:=zgJ (mixF c 7) (fun i=>numF c (13+i)) i;subst hb;by_cases q:zjE (mixF c 7) i % 2=1
   ·simp [q,hw,zaj (show (preG (mixF c 7) (fun i=>numF c (13+i)) i).length<=1000 by omega),preG,zjE,prD]
   ·simp [q,preG,zjE])
 rw [e];have hp:=zeO (ziH (preG (mixF c 7) (fun i=>numF c (13+i)) n.toNat)) zc1;have hw:=zrb (c:=c) (s:=31) (by omega) (by omega);rw [zbx];unfold rowB rowG;by_cases q:preG (mixF c 7) (fun i=>numF c (13+i)) n.toNat=[]
 ·simp [q,hw,zeO zc1 zc1,zaK,show 0<n by omega,zaj (show 0<=1000 by omega),rwD,prD]
 ·simp [q,hp,zbq,rwD]
def znY:FS:=(sSeq (sSet 3 (dBlt zdE (zab (dVar 0) dNil))) (sSeq (sOwn 4 (dLst dNil)) (sSeq (sFor (iR1 (zab (dVar 2) dNil)) (.one 5) (sSeq (sSet 6 (zan zen (zab (dVar 1) (zab (dOp gAdd (dC (.int 43)) (dVar 5)) dNil)))) (sSeq (sIf (zhf (zaq (dOp (gIn false) (dVar 5) (dVar 3))) (zaq (dOp gGt (dOp gMod (dVar 6) (dC (.int 6))) (dC (.int 0))))) (zaN 4 (dTup (zab (dVar 5) (zab (dOp gAdd (dOp gIx (dVar 3) (dVar 5)) (dOp gIx (dLst (zab (dC (.int 0)) (zab (dC (.int 0)) (zab (dC (.int 1)) (zab (dUn gNeg (dC (.int 1))) dNil))))) (dOp gMod (dOp zhd (dVar 6) (dC (.int 6))) (dC (.int 4))))) dNil)))) zaR) (sIf (zhf (zaq (dOp (gIn true) (dVar 5) (dVar 3))) (zaq (dOp gEq (dOp gMod (dVar 6) (dC (.int 5))) (dC (.int 0))))) (zaN 4 (dTup (zab (dVar 5) (zab (zan zf3 (zab (dVar 1) (zab (dOp gAdd (dC (.int 67)) (dVar 5)) dNil))) dNil)))) zaR)))) (sSeq (sIf (zjU [4] (zaq (dOp gEq (dVar 4) (dLst dNil)))) (sRet (dVar 0)) zaR) (fun sd=>(sRet (dBlt zcU (zab (dVar 4) dNil))) (frzD [4] sd))))))
def zmo:List D->Res D:=runD 7 3 znY
noncomputable def zof:List Int:=[0,0,1,-1]
def varB (c:Int)(i:Nat):Option Int->Option Int
 |some w=>if 0<mixF c (43+i) % 6 then some (w+nthI zof (mixF c (43+i) / 6 % 4)) else none
 |none=>if mixF c (43+i) % 5=0 then some (numF c (67+i)) else none
theorem f_z21 {r:List (Int×Int)}{c n:Int}(o:Once r)(hl:r.length<=100)(h1:0<=n)(h2:n<=12):zmo [rwD r,.int c,.int n]=.ok (rwD (zcu r (varB c) n)):=by
 have r1:zcc [.int n]=.ok (zaD 0 n.toNat):=zbj (by omega) (by omega);have hd:=zdu hl o;simp [zmo,znY,r1,hd];generalize hB:sSeq (sSet 6 _) _=b;obtain ⟨sd',e,u,v,hsd⟩:=zbn (tg:=.one 5) (b:=b) (ds:=zaD 0 n.toNat) (sd:=[some (.val (rwD r)),some (.val (.int c)),some (.val (.int n)),some (.val (dcR r)),some (.own false (.lst [])),none,none])
  (P:=fun i sd=>∃ u v,sd=[some (.val (rwD r)),some (.val (.int c)),some (.val (.int n)),some (.val (dcR r)),some (.own false (.lst ((zcp r (varB c) i).map prD))),u,v]) ⟨none,none,rfl⟩ (by
   rintro i x sd hx ⟨u,v,rfl⟩;obtain ⟨rfl,hi⟩:=zcB hx;have hw:=zrb (c:=c) (s:=67+i) (by omega) (by omega);have hl:=zeM r (varB c) i;have hz:=zaj (show (zcp r (varB c) i).length<=1000 by omega);have hv:=zc9 o (i:Int);have hm:atI [D.int 0,D.int 0,D.int 1,D.int (-1)] (mixF c (43+i) / 6 % 4)=some (.int (nthI zof (mixF c (43+i) / 6 % 4))):=zcJ (hs:=zof) (by omega) (by show _<(4:Int);omega);subst hB;cases q:zam r i with
   |some w =>
    rw [q] at hv;by_cases c1:0<mixF c (43+i) % 6
    ·have es:zcr r (varB c) i=[((i:Int),w+nthI zof (mixF c (43+i) / 6 % 4))]:=by unfold zcr varB;rw [q];simp [c1]
     simp [dcR,hv,c1,hm,hz,zcp,es,prD]
    ·have es:zcr r (varB c) i=[]:=by unfold zcr varB;rw [q];simp [c1]
     simp [dcR,hv,c1,hz,zcp,es,prD]
   |none =>
    rw [q] at hv;by_cases c1:mixF c (43+i) % 5=0
    ·have es:zcr r (varB c) i=[((i:Int),numF c (67+i))]:=by unfold zcr varB;rw [q];simp [c1]
     simp [dcR,hv,c1,hw,hz,zcp,es,prD]
    ·have es:zcr r (varB c) i=[]:=by unfold zcr varB;rw [q];simp [c1]
     simp [dcR,hv,c1,hz,zcp,es,prD])
 rw [e];subst hsd;have hp:=zeO (ziH (zcp r (varB c) n.toNat)) zc1;rw [zbx];unfold zcu;by_cases q:zcp r (varB c) n.toNat=[]
 ·simp [q,zeO zc1 zc1,zaK]
 ·simp [q,hp,zbq,rwD]
def znB:FS:=(sSeq (sOwn 2 (dLst dNil)) (sSeq (sFor (iS (dVar 0)) (.one 3) (sIf (zhf (zjU [2] (zaq (dOp gNe (dVar 2) (dLst dNil)))) (zaq (dOp gGt (dOp gMod (dVar 3) (dC (.int 3))) (dC (.int 0))))) (zaN 2 (zan zmo (zab (zfW 2 (dOp gMod (dOp zhd (dVar 3) (dC (.int 3))) (dTmp [2] (dBlt gLen (zab (dVar 2) dNil))))) (zab (dVar 3) (zab (dVar 1) dNil))))) (zaN 2 (zan zmV (zab (dVar 3) (zab (dVar 1) dNil)))))) (zcb 2)))
def zlS:List D->Res D:=runN 4 2 znB
def zbd (n:Int)(rs:List (List (Int×Int)))(c:Int):List (List (Int×Int)):=if rs ≠ []/\0<c % 3 then rs++[zcu (rs.getD (c / 3 % (rs.length:Int)).toNat []) (varB c) n] else rs++[rowB c n]
def zc4 (n:Int)(cs:List Int):List (List (Int×Int)):=cs.foldl (zbd n) []
theorem zgN (n:Int)(rs:List (List (Int×Int)))(c:Int):(zbd n rs c).length=rs.length+1:=by
 unfold zbd
 split<;>simp
theorem zdq (n:Int):∀ (cs:List Int) (rs:List (List (Int×Int))),(cs.foldl (zbd n) rs).length=rs.length+cs.length
 | [],rs=>rfl
 |c::cs,rs=>by rw [List.foldl_cons,zdq n cs,zgN,List.length_cons];omega
theorem zeY (n:Int)(cs:List Int):(zc4 n cs).length=cs.length:=by
 have:=zdq n cs [];unfold zc4;rw [this];exact Nat.zero_add _
theorem zi7 {n:Int}{rs:List (List (Int×Int))}{c:Int}(h1:1<=n)(h2:n<=12)(h:∀ r∈rs,RowOk n r):∀ r∈zbd n rs c,RowOk n r:=by
 intro r hr;unfold zbd at hr
 split at hr
 ·rename_i q;rcases List.mem_append.mp hr with z|z
  ·exact h r z
  ·rw [List.mem_singleton.mp z];have hp:0<rs.length:=List.length_pos_iff.mpr q.1;have hi:(c / 3 % (rs.length:Int)).toNat<rs.length:=by
    have a:=Int.emod_nonneg (c / 3) (show (rs.length:Int)≠0 by omega);have b:=Int.emod_lt_of_pos (c / 3) (show (0:Int)<rs.length by omega);omega
   have e:rs.getD (c / 3 % (rs.length:Int)).toNat []=rs[(c / 3 % (rs.length:Int)).toNat]:=by rw [List.getD_eq_getElem?_getD,Zqg hi];rfl
   rw [e];exact zj7 (h _ (List.getElem_mem hi)) (by omega) h2
 ·rcases List.mem_append.mp hr with z|z
  ·exact h r z
  ·rw [List.mem_singleton.mp z];exact zq2 h1 h2
theorem zed {n:Int}(h1:1<=n)(h2:n<=12):∀ (cs:List Int) (rs:List (List (Int×Int))),(∀ r∈rs,RowOk n r)->∀ r∈cs.foldl (zbd n) rs,RowOk n r
 | [],rs,h=>h
 |c::cs,rs,h=>by rw [List.foldl_cons];exact zed h1 h2 cs _ (zi7 h1 h2 h)
theorem zgx {n:Int}(h1:1<=n)(h2:n<=12)(cs:List Int):∀ r∈zc4 n cs,RowOk n r:=zed h1 h2 cs [] fun _ h=>nomatch h
theorem f_z22 {cs:List Int}{n:Int}(h1:1<=n)(h2:n<=12)(hl:cs.length<=100):zlS [.lst (cs.map .int),.int n]=.ok (.lst ((zc4 n cs).map rwD)):=by
 simp [zlS,znB];generalize hB:sIf _ _ _=b;obtain ⟨sd',e,u,hsd⟩:=zbn (tg:=.one 3) (b:=b) (ds:=cs.map .int) (sd:=[some (.val (.lst (cs.map .int))),some (.val (.int n)),some (.own false (.lst [])),none])
  (P:=fun i sd=>∃ u,sd=[some (.val (.lst (cs.map .int))),some (.val (.int n)),some (.own false (.lst ((zc4 n (cs.take i)).map rwD))),u]) ⟨none,rfl⟩ (by
   rintro i x sd hx ⟨u,rfl⟩;refine zc1b (zbY hx) fun c hc zr2=>?_;subst zr2;have hi:=(List.getElem?_eq_some_iff.mp hc).1;have et:zc4 n (cs.take (i+1))=zbd n (zc4 n (cs.take i)) c:=by
    unfold zc4;rw [zaW hc,List.foldl_append];rfl
   have hlen:=zeY n (cs.take i);rw [List.length_take] at hlen;have ok:=zgx h1 h2 (cs.take i);generalize zc4 n (cs.take i)=rs at et hlen ok;have hz:=zaj (show rs.length<=1000 by omega);rw [et];have hr:=f_z20 (c:=c) h1 h2;subst hB;by_cases q:rs=[]
   ·have es:zbd n rs c=rs++[rowB c n]:=if_neg fun z=>z.1 q;rw [es];simp [q,zfF zc1 zc1,zaK,hr,zaj (show 0<=1000 by omega)]
   ·have hn:=zfF (ziB rs) zc1;by_cases c3:0<c % 3
    ·have es:zbd n rs c=rs++[zcu (rs.getD (c / 3 % (rs.length:Int)).toNat []) (varB c) n]:=if_pos ⟨q,c3⟩;have hp:0<rs.length:=List.length_pos_iff.mpr q;have a:=Int.emod_nonneg (c / 3) (show (rs.length:Int)≠0 by omega);have b:=Int.emod_lt_of_pos (c / 3) (show (0:Int)<rs.length by omega);have hj:(c / 3 % (rs.length:Int)).toNat<rs.length:=by omega
     have eg:rs.getD (c / 3 % (rs.length:Int)).toNat []=rs[(c / 3 % (rs.length:Int)).toNat]:=by rw [List.getD_eq_getElem?_getD,Zqg hj];rfl
     have ea:atI (rs.map rwD) (c / 3 % (rs.length:Int))=some (rwD rs[(c / 3 % (rs.length:Int)).toNat]):=by
      have e1:ixN rs.length (c / 3 % (rs.length:Int))=some (c / 3 % (rs.length:Int)).toNat:=by unfold ixN;rw [if_pos a,if_pos b]
      unfold atI;rw [Zql,e1];show (rs.map rwD)[_]? = _;rw [List.getElem?_map,Zqg hj];rfl
     rw [es,eg];have okr:RowOk n rs[(c / 3 % (rs.length:Int)).toNat]:=ok _ (List.getElem_mem hj);generalize rs[(c / 3 % (rs.length:Int)).toNat]=r0 at ea okr;have hv:=f_z21 (c:=c) okr.once (show r0.length<=100 by have:=okr.len;omega) (show 0<=n by omega) h2;have hmod:=zmD (i:=c / 3) (show (0:Int)<rs.length by omega);simp [q,hn,zbq,c3,hmod,ea,hv,hz]
    ·have es:zbd n rs c=rs++[rowB c n]:=if_neg fun z=>c3 z.2;rw [es];simp [q,hn,zbq,c3,hr,hz])
 rw [e];subst hsd;simp
def zoj:FS:=(sSeq (sSet 2 (dBlt zdE (zab (dVar 1) dNil))) (sSeq (sFor (iS (dVar 0)) (.one 3) (sIf (dOrT (zaq (dOp (gIn true) (dOp gIx (dVar 3) (dC (.int 0))) (dVar 2))) (zaq (dOp gGt (dOp gIx (dVar 3) (dC (.int 1))) (dOp gIx (dVar 2) (dOp gIx (dVar 3) (dC (.int 0))))))) (sRet (dC (.bl false))) zaR)) (sRet (dC (.bl true)))))
def zkc:List D->Res D:=runD 4 2 zoj
theorem f_z23 {r o:List (Int×Int)}(ho:Once o)(hl:o.length<=100):zkc [rwD r,rwD o]=.ok (.bl (zai r o)):=by
 have hd:zdE [.tup (o.map prD)]=some (dcR o):=zdu hl ho;simp [zkc,zoj,hd,rwD];refine zew (R:=fun z=>(z.bind (seqK (sRet (dC (.bl true))))).bind outV=.ok (.bl (zai r o))) (P:=fun i sd=>(∃ u,sd=[some (.val (.tup (r.map prD))),some (.val (.tup (o.map prD))),some (.val (dcR o)),u])/\zai (r.take i) o=true) ⟨⟨none,rfl⟩,rfl⟩ ?_ ?_
 ·rintro sd ⟨⟨u,rfl⟩,hu⟩;rw [Zql,List.take_length] at hu;simp [hu]
 ·rintro i x sd hx ⟨⟨u,rfl⟩,hu⟩;refine zc1b (zbY hx) fun p hp zr2=>?_;subst zr2;have hv:=zc9 ho p.1;have a0:atI [D.int p.1,D.int p.2] 0=some (.int p.1):=rfl;have a1:atI [D.int p.1,D.int p.2] 1=some (.int p.2):=rfl;cases q:zam o p.1 with
  |none =>
   rw [q] at hv;have z:okAt o p=false:=by unfold okAt;rw [q]
   rw [zco hp z];exact .inr (.inr ⟨.bl false,by simp [prD,dcR,a0,hv],by simp⟩)
  |some w =>
   rw [q] at hv;by_cases c:w<p.2
   ·have z:okAt o p=false:=by unfold okAt;rw [q];exact decide_eq_false (by omega)
    rw [zco hp z];exact .inr (.inr ⟨.bl false,by simp [prD,dcR,a0,a1,hv,c],by simp⟩)
   ·have z:okAt o p=true:=by unfold okAt;rw [q];exact decide_eq_true (by omega)
    exact .inl ⟨[some (.val (.tup (r.map prD))),some (.val (.tup (o.map prD))),some (.val (dcR o)),some (.val (prD p))],.inl (by simp [prD,dcR,a0,a1,hv,c]),⟨_,rfl⟩,zfD hp hu z⟩
def znM:FS:=(sSeq (sOwn 1 (dLst dNil)) (sSeq (sFor (iS (dVar 0)) (.one 2) (sSeq (sSet 3 (zbC [none,some 2] (iS (dVar 0)) (.one 0) (zhf (zaq (dOp gNe (dVar 0) (dVar 1))) (zaq (zan zkc (zab (dVar 0) (zab (dVar 1) dNil))))) (dVar 0))) (sIf (zhf (zaq (dOp gEq (dVar 3) (dLst dNil))) (zjU [1] (zaq (dOp (gIn true) (dVar 2) (dVar 1))))) (zaN 1 (dVar 2)) zaR))) (fun sd=>(sRet (dBlt zbw (zab (dVar 1) dNil))) (frzD [1] sd))))
def zlD:List D->Res D:=runN 4 1 znM
theorem f_z24 {rs:List (List (Int×Int))}(hne:∀ r∈rs,r ≠ [])(ho:∀ r∈rs,Once r)(hl:∀ r∈rs,r.length<=100)(hn:rs.length<64):zlD [frD rs]=.ok (frD (zaA rs)):=by
 simp [zlD,znM,frD];generalize hB:sSeq (sSet 3 _) _=b;obtain ⟨sd',e,u,v,hsd⟩:=zbn (tg:=.one 2) (b:=b) (ds:=rs.map rwD) (sd:=[some (.val (.lst (rs.map rwD))),some (.own false (.lst [])),none,none])
  (P:=fun i sd=>∃ u v,sd=[some (.val (.lst (rs.map rwD))),some (.own false (.lst ((zaV rs (rs.take i)).map rwD))),u,v]) ⟨none,none,rfl⟩ (by
   rintro i x sd hx ⟨u,v,rfl⟩;refine zc1b (zbY hx) fun row hr zr2=>?_;subst zr2;have hm:=List.mem_of_getElem? hr;have hi:=(List.getElem?_eq_some_iff.mp hr).1;have et:zaV rs (rs.take (i+1))=zbW rs (zaV rs (rs.take i)) row:=by
    unfold zaV;rw [zaW hr,List.foldl_append];rfl
   have hlen:=(zby rs (rs.take i) []).1;have hz:(zaV rs (rs.take i)).length<sizeLine:=zaj (by unfold zaV;rw [List.length_take] at hlen;simp only [List.length_nil] at hlen;omega);have key:zcK (.one 0) (zhf (zaq (dOp gNe (dVar 0) (dVar 1))) (zaq (zan zkc (zab (dVar 0) (zab (dVar 1) dNil))))) (dVar 0) [none,some (.val (rwD row))] (rs.map rwD)=.ok ((rs.filter fun one => !decide (one=row)&&zai one row).map rwD) :=
    zcm (s:=fun o=>[some (.val (rwD o)),some (.val (rwD row))]) (fun o _=>rfl) (fun o ho'=>by
     have hq:=zfF (zjv o) (zjv row);rw [zjs] at hq;by_cases z:o=row
     ·subst z;simp [hq]
     ·simp [hq,z,f_z23 (r:=o) (ho row hm) (hl row hm)]) (fun o _ _=>by simp)
   have hq:=zeO (ziB (rs.filter fun one => !decide (one=row)&&zai one row)) zc1;have lz:=zaj (show rs.length<=1000 by omega);have hin:=zoD true row (zaV rs (rs.take i));generalize zaV rs (rs.take i)=least at et hz hin;rw [et];unfold zbW;have eq:lowQ rs row=(rs.filter fun one => !decide (one=row)&&zai one row).isEmpty:=rfl;rw [zbq,<- eq] at hq;subst hB;cases q:lowQ rs row with
   |false=>rw [q] at hq;simp [key,lz,hq,q]
   |true =>
    rw [q] at hq;by_cases w:row∈least
    ·simp [key,lz,hq,q,hin,w]
    ·simp [key,lz,hq,q,hin,w,hz])
 rw [e];subst hsd;have hs:=zca (ls:=zaV rs rs) (fun r hr=>hne r (by have:=(zby rs rs []).2.1 r;unfold zaV at hr;rw [this] at hr;simp at hr;exact hr.1)) (by have:=(zby rs rs []).1;unfold zaV;simp only [List.length_nil] at this;omega);simp [hs,zaA]
def znQ:FS:=(sSeq (sSet 3 (zan zlS (zab (dVar 0) (zab (dVar 2) dNil)))) (sSeq (sOwn 4 (dLst dNil)) (sSeq (sFor (iR1 (zab (dVar 1) dNil)) (.one 5) (sSeq (zaN 4 (zan zlD (zab (dSl (dVar 3) (zdQ (dVar 5)) zb4 (zdQ (dVar 1))) dNil))) (sIf (zaq (dOp gEq (zfW 4 (dVar 5)) (dLst dNil))) (zos 4 (dVar 5) (dLst (zab (dTup (zab (dTup (zab (dOp gMod (dVar 5) (dVar 2)) (zab (dC (.int 0)) dNil))) dNil)) dNil))) zaR))) (zcb 4))))
def zj8:List D->Res D:=runN 6 3 znQ
theorem f_z25 {cs:List Int}{many n:Int}(h1:1<=n)(h2:n<=12)(hl:cs.length<64)(m1:1<=many)(m2:many<=60):zj8 [.lst (cs.map .int),.int many,.int n]=.ok (.lst ((zcQ n many (zc4 n cs) many.toNat).map frD)):=by
 have r1:zcc [.int many]=.ok (zaD 0 many.toNat):=zbj (by omega) (by omega);have fl:=f_z22 (cs:=cs) h1 h2 (by omega);have ok:=zgx h1 h2 cs;have ll:=zeY n cs;simp [zj8,znQ,r1,fl];generalize zc4 n cs=rs at ok ll;generalize hB:sSeq (zaN 4 _) _=b;obtain ⟨sd',e,u,hsd⟩:=zbn (tg:=.one 5) (b:=b) (ds:=zaD 0 many.toNat) (sd:=[some (.val (.lst (cs.map .int))),some (.val (.int many)),some (.val (.int n)),some (.val (.lst (rs.map rwD))),some (.own false (.lst [])),none])
  (P:=fun i sd=>∃ u,sd=[some (.val (.lst (cs.map .int))),some (.val (.int many)),some (.val (.int n)),some (.val (.lst (rs.map rwD))),some (.own false (.lst ((zcQ n many rs i).map frD))),u]) ⟨none,rfl⟩ (by
   rintro i x sd hx ⟨u,rfl⟩;obtain ⟨rfl,hi⟩:=zcB hx;have gs:gSl (.lst (rs.map rwD)) (some (i:Int)) none (some many)=some (frD (zaQ rs (some (i:Int)) none (some many))):=by
    rw [zqU (by omega),zgk];rfl
   have pk:∀ r∈zaQ rs (some (i:Int)) none (some many),RowOk n r:=fun r hr=>ok r (zg5 hr);have pl:=zgq rs (some (i:Int)) none (some many);have ft:=f_z24 (rs:=zaQ rs (some (i:Int)) none (some many)) (fun r hr=>(pk r hr).ne) (fun r hr=>(pk r hr).once) (fun r hr=>by have:=(pk r hr).len;omega) (by omega);have et:zcQ n many rs (i+1)=zcQ n many rs i++[zh3 n i (zaA (zaQ rs (some (i:Int)) none (some many)))]:=by
    unfold zcQ;rw [List.range_succ,List.map_append];rfl
   have lf:(zcQ n many rs i).length=i:=by unfold zcQ;rw [Zql,List.length_range]
   have hz:(zcQ n many rs i).length<sizeLine:=zaj (by omega);generalize zaA (zaQ rs (some (i:Int)) none (some many))=t at ft et;generalize zcQ n many rs i=fs at et lf hz;have lm:(fs.map frD).length=i:=by rw [Zql];exact lf
   have ha:atI (fs.map frD++[frD t]) (i:Int)=some (frD t):=by have:=zrk (fs.map frD) (frD t);rw [lm] at this;exact this
   have hx2:ixN (fs.length+1) (i:Int)=some i:=by have:=zp7 (fs.map frD) (frD t);rw [lm,List.length_append,Zql] at this;exact this
   have hset:∀ y,(fs.map frD++[frD t]).set i y=fs.map frD++[y]:=fun y=>by have:=zn7 (fs.map frD) (frD t) y;rw [lm] at this;exact this
   have hq:gEq (frD t) (.lst [])=some (.bl t.isEmpty):=by
    have:=zeO (ziB t) zc1;rw [zbq] at this;exact this
   have hmod:=zmD (i:=(i:Int)) (show 0<n by omega);rw [et];unfold zh3;subst hB;by_cases q:t=[]
   ·subst q;simp [gs,ft,hz,ha,hq,hmod,hx2,hset];rfl
   ·simp [gs,ft,hz,ha,hq,q])
 rw [e];subst hsd;simp [zbx]
def znG:FS:=(sSeq (sOwn 1 (dLst dNil)) (sSeq (sFor (iS (dVar 0)) (.one 2) (sIf (zbT (zaq (dBlt gAny (zab (zaP [none,some 2] (iS (dVar 0)) (.one 0) (zj3 (dOp gNe (dVar 0) (dVar 1)) (dBlt gAll (zab (zaP [none,some 1] (iS (dVar 0)) (.one 0) (dOp (gIn false) (dVar 0) (dVar 1))) dNil)))) dNil)))) (zaN 1 (dVar 2)) zaR)) (fun sd=>(sRet (dBlt zd1 (zab (dVar 1) dNil))) (frzD [1] sd))))
def zlu:List D->Res D:=runN 3 1 znG
theorem zp2 (m:Nat)(l:List Int):plN (m+2) (itD l)=true:=by
 show (l.map D.int).all (plN (m+1))=true;rw [List.all_map,List.all_eq_true];exact fun _ _=>rfl
theorem zqq {a b:List Int}(h:itD a=itD b):a=b:=by
 have:=congrArg itOf h;rw [ziu,ziu] at this;exact Zqi this
theorem zpq (a b:List Int):gNe (itD a) (itD b)=some (.bl (!decide (a=b))):=by
 rw [zfF (zp2 10 a) (zp2 10 b)]
 congr 3
 by_cases c:a=b
 ·rw [c,zaK,decide_eq_true rfl]
 ·rw [decide_eq_false c];exact zdC.mpr fun z=>c (zqq z)
theorem f_z32 {L:List (List Int)}(hl:L.length<64)(h5:∀ a∈L,a.length<=1000)(hne:∀ a∈L,a ≠ []):zlu [.lst (L.map itD)]=.ok (.lst ((zfs L).map itD)):=by
 have all:∀ a b:List Int,b.length<=1000->(mapE (.one 0) (dOp (gIn false) (dVar 0) (dVar 1)) [none,some (.val (itD a))] (b.map .int)=.ok ((b.map fun t=>decide (t∈a)).map .bl))/\gAll [.lst ((b.map fun t=>decide (t∈a)).map .bl)]=some (.bl (subB b a)):=fun a b _=>by
  refine ⟨?_,?_⟩
  ·rw [List.map_map];refine zbk fun t _=>?_;have gi:=zpD false t a;simp at gi;simp [gi]
  ·rw [zey,List.all_map];rfl
 have any_:∀ a∈L,mapE (.one 0) (zj3 (dOp gNe (dVar 0) (dVar 1)) (dBlt gAll (zab (zaP [none,some 1] (iS (dVar 0)) (.one 0) (dOp (gIn false) (dVar 0) (dVar 1))) dNil))) [none,some (.val (itD a))] (L.map itD)=.ok ((L.map fun b => !decide (b=a)&&subB b a).map .bl):=fun a _=>by
  rw [List.map_map];refine zbk fun b hb=>?_;have gn:=zpq b a;obtain ⟨k1,k2⟩:=all a b (h5 b hb);have hz:=zaj (h5 b hb);have wk:zfC (itD b)=some (b.map .int):=rfl;by_cases c:b=a
  ·subst c;have gn:gNe (itD b) (itD b)=some (.bl false):=by rw [zpq];simp
   simp [gn]
  ·rw [decide_eq_false c] at gn;have c':(decide (b=a))=false:=decide_eq_false c;generalize (b.map fun t=>decide (t∈a)).map D.bl=q1 at k1 k2;simp [gn,wk,hz,k1,k2,c']
 obtain ⟨sd1,e1,u2,hsd1⟩:=zbn (tg:=.one 2) (b:=(sIf (zbT (zaq (dBlt gAny (zab (zaP [none,some 2] (iS (dVar 0)) (.one 0) (zj3 (dOp gNe (dVar 0) (dVar 1)) (dBlt gAll (zab (zaP [none,some 1] (iS (dVar 0)) (.one 0) (dOp (gIn false) (dVar 0) (dVar 1))) dNil)))) dNil)))) (zaN 1 (dVar 2)) zaR)) (ds:=L.map itD)
  (sd:=[some (.val (.lst (L.map itD))),some (.own false (.lst [])),none])
  (P:=fun i sd=>∃ u2:Option SV,sd=[some (.val (.lst (L.map itD))),some (.own false (.lst (((L.take i).filter fun a => !(L.any fun b => !decide (b=a)&&subB b a)).map itD))),u2]) ⟨none,rfl⟩ (by
   rintro i x sd hx ⟨u2,rfl⟩;refine zc1b (zbY hx) fun a ha zr2=>?_;subst zr2;have am:=List.mem_of_getElem? ha;have k:=any_ a am;have ga:=zje (L.map fun b => !decide (b=a)&&subB b a);rw [List.any_map] at ga;have ga:gAny [.lst ((L.map fun b => !decide (b=a)&&subB b a).map .bl)]=some (.bl (L.any fun b => !decide (b=a)&&subB b a)):=ga;have hz:=zaj (show L.length<=1000 by omega);have tk:L.take (i+1)=L.take i++[a]:=by rw [List.take_succ,ha];rfl
   rw [tk,List.filter_append,List.map_append];have lz:(((L.take i).filter fun a => !(L.any fun b => !decide (b=a)&&subB b a)).map itD).length<sizeLine:=zaj (by
    have:=List.length_filter_le (fun a => !(L.any fun b => !decide (b=a)&&subB b a)) (L.take i);rw [List.length_take] at this;rw [Zql];omega)
   generalize ((L.take i).filter fun a => !(L.any fun b => !decide (b=a)&&subB b a)).map itD=q0 at lz;generalize (L.map fun b => !decide (b=a)&&subB b a).map D.bl=q1 at k ga;cases c:(L.any fun b => !decide (b=a)&&subB b a) with
   |true =>
    rw [c] at ga;have e : [a].filter (fun a => !(L.any fun b => !decide (b=a)&&subB b a))=[]:=by rw [List.filter_cons,c];rfl
    rw [e];exact ⟨[some (.val (.lst (L.map itD))),some (.own false (.lst (q0++[]))),some (.val (itD a))],by simp [hz,k,ga],_,rfl⟩
   |false =>
    rw [c] at ga;have e : [a].filter (fun a => !(L.any fun b => !decide (b=a)&&subB b a))=[a]:=by rw [List.filter_cons,c];rfl
    rw [e];exact ⟨[some (.val (.lst (L.map itD))),some (.own false (.lst (q0++[itD a]))),some (.val (itD a))],by simp [hz,k,ga,lz],_,rfl⟩)
 rw [Zql,List.take_length] at hsd1;have lm:(minS L).length<=L.length:=List.length_filter_le _ _;have gs:=zgt (rs:=minS L) (fun a ha=>hne a (ze2.mp ha).1) (by omega);have em:(L.filter fun a => !(L.any fun b => !decide (b=a)&&subB b a))=minS L:=rfl;rw [em] at hsd1;subst hsd1;show _=Res.ok (D.lst ((zaE iltB (minS L)).map itD));generalize (zaE iltB (minS L)).map itD=q2 at gs ⊢;generalize (minS L).map itD=q3 at gs e1;simp [zlu,znG,e1,gs]
def zoL:FS:=(sRet (zaP [none,some 0,some 1,some 2] (iR1 (zab (dBlt gLen (zab (dVar 0) dNil)) dNil)) (.one 0) (dOp gAdd (dOp gIx (dVar 1) (dVar 0)) (dOp gMul (dVar 3) (dBlt gInt (zab (dOp (gIn false) (dVar 0) (dVar 2)) dNil))))))
def zj9:List D->Res D:=runN 3 3 zoL
def zn9:FS:=(sSeq (sSet 1 (dLst (zab (dTup dNil) dNil))) (sSeq (sFor (iR1 (zab (dVar 0) dNil)) (.one 2) (sSet 1 (dOp gAdd (dVar 1) (zaP [none,some 2] (iS (dVar 1)) (.one 0) (dOp zjI (dVar 0) (dTup (zab (dVar 1) dNil))))))) (sRet (dVar 1))))
def zlm:List D->Res D:=runD 3 1 zn9
theorem f_z31 {n:Nat}(h:n<=6):zlm [.int n]=.ok (.lst ((zaG n).map itD)):=by
 have r0:zcc [.int n]=.ok (zaD 0 n):=by rw [zbj (by omega) (by omega),Int.toNat_natCast]
 obtain ⟨sd1,e1,u2,hsd1⟩:=zbn (tg:=.one 2) (b:=(sSet 1 (dOp gAdd (dVar 1) (zaP [none,some 2] (iS (dVar 1)) (.one 0) (dOp zjI (dVar 0) (dTup (zab (dVar 1) dNil))))))) (ds:=zaD 0 n)
  (sd:=[some (.val (.int n)),some (.val (.lst [.tup []])),none])
  (P:=fun i sd=>∃ u2:Option SV,sd=[some (.val (.int n)),some (.val (.lst ((zaG i).map itD))),u2]) ⟨none,rfl⟩ (by
   rintro i x sd hx ⟨u2,rfl⟩;obtain ⟨rfl,hi⟩:=zcB hx;have ls:=zdw i;have l32:(zaG i).length<=32:=by
    rw [ls];have:i=0\/i=1\/i=2\/i=3\/i=4\/i=5:=by omega
    rcases this with rfl|rfl|rfl|rfl|rfl|rfl<;>decide
   have key:mapE (.one 0) (dOp zjI (dVar 0) (dTup (zab (dVar 1) dNil))) [none,some (.val (.int (i:Int)))] ((zaG i).map itD)=.ok (((zaG i).map fun s=>s++[(i:Int)]).map itD):=by
    rw [List.map_map];refine zbk fun s hs=>?_;have sl:s.length<=32:=by
     obtain ⟨a,b⟩:=(zaz i s).mp hs;have:=zfn a b;omega
    have ga:zjI (itD s) (.tup [.int (i:Int)])=some (itD (s++[(i:Int)])):=by
     unfold itD;rw [List.map_append];exact znD (by rw [Zql];simp;omega)
    simp [ga]
   have ga:gAdd (.lst ((zaG i).map itD)) (.lst (((zaG i).map fun s=>s++[(i:Int)]).map itD))=some (.lst ((zaG (i+1)).map itD)):=by
    show _=some (D.lst ((zaG i++(zaG i).map fun s=>s++[(i:Int)]).map itD));rw [List.map_append];exact if_pos (zc3 (by rw [Zql,Zql,Zql];omega))
   have hz:=zaj (show (zaG i).length<=1000 by omega);generalize (zaG (i+1)).map itD=q2 at ga;generalize ((zaG i).map fun s=>s++[(i:Int)]).map itD=q1 at key ga;exact ⟨[some (.val (.int n)),some (.val (.lst q2)),some (.val (.int (i:Int)))],by simp [key,hz,ga],_,rfl⟩)
 rw [zbx] at hsd1;subst hsd1;simp [zlm,zn9,r0,e1]
def znu:FS:=(sSeq (sOwn 3 (dLst dNil)) (sSeq (sFor (iS (zan zlm (zab (dVar 2) dNil))) (.one 4) (sSeq (sSet 5 (zan zj9 (zab (dVar 1) (zab (dVar 4) (zab (dC (.int 1)) dNil))))) (sIf (zaq (dBlt gAll (zab (zaP [none,some 1,some 5] (iS (dVar 0)) (.one 0) (dOp gGt (zan zc6 (zab (dVar 0) (zab (dVar 2) dNil))) (zan zc6 (zab (dVar 0) (zab (dVar 1) dNil))))) dNil))) (zaN 3 (dVar 4)) zaR))) (fun sd=>(sRet (zan zlu (zab (dVar 3) dNil))) (frzD [3] sd))))
def zep:List D->Res D:=runN 6 3 znu
theorem zhb {hs:List Int}(ts:List Int)(m:Int)(hl:hs.length<=1000):zj9 [.lst (hs.map .int),itD ts,.int m]=.ok (.lst ((movS hs ts m).map .int)):=by
 have r1:zcc [.int hs.length]=.ok (zaD 0 hs.length):=by rw [zbj (by omega) (by omega),Int.toNat_natCast]
 have key:mapE (.one 0) (dOp gAdd (dOp gIx (dVar 1) (dVar 0)) (dOp gMul (dVar 3) (dBlt gInt (zab (dOp (gIn false) (dVar 0) (dVar 2)) dNil)))) [none,some (.val (.lst (hs.map .int))),some (.val (itD ts)),some (.val (.int m))] (zaD 0 hs.length)=.ok ((List.range hs.length).map fun k:Nat=>.int (nthI hs k+m*(if (k:Int)∈ts then 1 else 0))):=zcH fun i hi=>by
  have ea:=zcJ (hs:=hs) (t:=(i:Int)) (by omega) (by omega);have gi:=zpD false (i:Int) ts;by_cases q:(i:Int)∈ts
  ·have mu:=zcV (zec (i:=m) (j:=1) (by omega) (by omega));rw [decide_eq_true q] at gi;have gi:gIn false (.int (i:Int)) (itD ts)=some (.bl true):=gi;rw [if_pos q];simp [ea,gi,mu]
  ·have mu:=zcV (zec (i:=m) (j:=0) (by omega) (by omega));rw [decide_eq_false q] at gi;have gi:gIn false (.int (i:Int)) (itD ts)=some (.bl false):=gi;rw [if_neg q];simp [ea,gi,mu]
 have e:(movS hs ts m).map D.int=(List.range hs.length).map fun k:Nat=>.int (nthI hs k+m*(if (k:Int)∈ts then 1 else 0)):=by unfold movS;rw [List.map_map];rfl
 rw [e];simp [zj9,zoL,r1,key,zbx,zaj hl]
theorem f_z35 {n:Nat}{hs:List Int}{rows:List (List (Int×Int))}(n6:n<=6)(hh:hs.length<=1000)(hn:rows ≠ [])(hl:rows.length<=1000)(hr:∀ r∈rows,r ≠ [])(hb:∀ r∈rows,∀ p∈r,0<=p.1/\p.1<(hs.length:Int)):zep [frD rows,.lst (hs.map .int),.int n]=.ok (.lst ((zid n hs rows).map itD)):=by
 have fs:=f_z31 n6;have rz:=zaj hl;have l64:(zaG n).length<=64:=by rw [zdw];exact Nat.pow_le_pow_right (by omega) n6
 obtain ⟨sd1,e1,u4,u5,hsd1⟩:=zbn (tg:=.one 4) (b:=(sSeq (sSet 5 (zan zj9 (zab (dVar 1) (zab (dVar 4) (zab (dC (.int 1)) dNil))))) (sIf (zaq (dBlt gAll (zab (zaP [none,some 1,some 5] (iS (dVar 0)) (.one 0) (dOp gGt (zan zc6 (zab (dVar 0) (zab (dVar 2) dNil))) (zan zc6 (zab (dVar 0) (zab (dVar 1) dNil))))) dNil))) (zaN 3 (dVar 4)) zaR))) (ds:=(zaG n).map itD)
  (sd:=[some (.val (frD rows)),some (.val (.lst (hs.map .int))),some (.val (.int n)),some (.own false (.lst [])),none,none])
  (P:=fun i sd=>∃ u4 u5:Option SV,sd=[some (.val (frD rows)),some (.val (.lst (hs.map .int))),some (.val (.int n)),some (.own false (.lst ((((zaG n).take i).filter fun S=>rows.all (hitB hs S)).map itD))),u4,u5]) ⟨none,none,rfl⟩ (by
   rintro i x sd hx ⟨u4,u5,rfl⟩;refine zc1b (zbY hx) fun S hS zr2=>?_;subst zr2;have fm:=zhb S 1 hh;have key:mapE (.one 0) (dOp gGt (zan zc6 (zab (dVar 0) (zab (dVar 2) dNil))) (zan zc6 (zab (dVar 0) (zab (dVar 1) dNil)))) [none,some (.val (.lst (hs.map .int))),some (.val (.lst ((movS hs S 1).map .int)))] (rows.map rwD)=.ok ((rows.map (hitB hs S)).map .bl):=by
    rw [List.map_map];refine zbk fun r hr'=>?_;have d1:=znz (hr r hr') (hb r hr');have d2:=znz (hs:=movS hs S 1) (hr r hr') (by rw [zoa];exact hb r hr');generalize (movS hs S 1).map D.int=q2 at d2;simp [d1,d2,hitB]
   have ga:=zey (rows.map (hitB hs S));rw [List.all_map] at ga;have ga:gAll [.lst ((rows.map (hitB hs S)).map .bl)]=some (.bl (rows.all (hitB hs S))):=ga;have tk:(zaG n).take (i+1)=(zaG n).take i++[S]:=zaW hS;rw [tk,List.filter_append,List.map_append];have lz:((((zaG n).take i).filter fun S=>rows.all (hitB hs S)).map itD).length<sizeLine:=zaj (by
    have:=List.length_filter_le (fun S=>rows.all (hitB hs S)) ((zaG n).take i);rw [List.length_take] at this;rw [Zql];omega)
   generalize (((zaG n).take i).filter fun S=>rows.all (hitB hs S)).map itD=q0 at lz;generalize (rows.map (hitB hs S)).map D.bl=q1 at key ga;generalize (movS hs S 1).map D.int=q2 at fm key;cases c:rows.all (hitB hs S) with
   |true =>
    rw [c] at ga;have e : [S].filter (fun S=>rows.all (hitB hs S))=[S]:=by rw [List.filter_cons,c];rfl
    rw [e];exact ⟨[some (.val (frD rows)),some (.val (.lst (hs.map .int))),some (.val (.int n)),some (.own false (.lst (q0++[itD S]))),some (.val (itD S)),some (.val (.lst q2))],by simp [fm,rz,key,ga,lz],_,_,rfl⟩
   |false =>
    rw [c] at ga;have e : [S].filter (fun S=>rows.all (hitB hs S))=[]:=by rw [List.filter_cons,c];rfl
    rw [e];exact ⟨[some (.val (frD rows)),some (.val (.lst (hs.map .int))),some (.val (.int n)),some (.own false (.lst (q0++[]))),some (.val (itD S)),some (.val (.lst q2))],by simp [fm,rz,key,ga],_,_,rfl⟩)
 rw [Zql,List.take_length] at hsd1;have em:((zaG n).filter fun S=>rows.all (hitB hs S))=zeT n hs rows:=rfl;rw [em] at hsd1;obtain ⟨f1,f2⟩:=znO n6 hn hr hb;have fl:=f_z32 (L:=zeT n hs rows) f1 (fun a ha=>by
  obtain ⟨x,y⟩:=(zaz n a).mp (List.mem_filter.mp ha).1;have:=zfn x y;omega) f2
 subst hsd1;show _=Res.ok (D.lst ((zfs (zeT n hs rows)).map itD));generalize (zfs (zeT n hs rows)).map itD=q5 at fl ⊢;generalize (zeT n hs rows).map itD=q6 at fl e1;simp [zep,znu,fs,e1,fl]
def znA:FS:=(sRet (zj3 (dBlt gIsi (zab (dVar 0) (zab (dC (.ty "int")) dNil))) (zqh (dBlt gIsi (zab (dVar 0) (zab (dC (.ty "bool")) dNil))))))
def ziw:List D->Res D:=runD 1 1 znA
@[simp] theorem zlq (i:Int):ziw [.int i]=.ok (.bl true):=by
 simp [ziw,znA]
def zn1:FS:=(sSeq (sIf (zbT (zaq (dBlt gIsi (zab (dVar 0) (zab (dC (.ty "list")) dNil))))) (sRet (dC (.bl false))) zaR) (sSeq (sFor (iS (dVar 0)) (.one 1) (sIf (dOrT (zbT (zaq (dBlt gIsi (zab (dVar 1) (zab (dC (.ty "tuple")) dNil))))) (zbT (zaq (dBlt gAll (zab (zaP [none] (iS (dVar 1)) (.one 0) (zan ziw (zab (dVar 0) dNil))) dNil))))) (sRet (dC (.bl false))) zaR)) (sRet (dC (.bl true)))))
def zj6:List D->Res D:=runD 2 1 zn1
theorem f_z33 {L:List (List Int)}(h5:∀ a∈L,a.length<=1000):zj6 [.lst (L.map itD)]=.ok (.bl true):=by
 obtain ⟨sd1,e1,u1,hsd1⟩:=zbn (tg:=.one 1) (b:=(sIf (dOrT (zbT (zaq (dBlt gIsi (zab (dVar 1) (zab (dC (.ty "tuple")) dNil))))) (zbT (zaq (dBlt gAll (zab (zaP [none] (iS (dVar 1)) (.one 0) (zan ziw (zab (dVar 0) dNil))) dNil))))) (sRet (dC (.bl false))) zaR)) (ds:=L.map itD)
  (sd:=[some (.val (.lst (L.map itD))),none])
  (P:=fun _ sd=>∃ u1:Option SV,sd=[some (.val (.lst (L.map itD))),u1]) ⟨none,rfl⟩ (by
   rintro i x sd hx ⟨u1,rfl⟩;refine zc1b (zbY hx) fun a ha zr2=>?_;subst zr2;have hz:=zaj (h5 a (List.mem_of_getElem? ha));have k1:mapE (.one 0) (zan ziw (zab (dVar 0) dNil)) [none] (a.map .int)=.ok ((a.map fun _=>true).map .bl):=by
    rw [List.map_map];exact zbk fun t _=>by simp
   have ga:=zey (a.map fun _=>true);rw [show (a.map fun _=>true).all id=true by rw [List.all_map,List.all_eq_true];exact fun _ _=>rfl] at ga;generalize (a.map fun _=>true).map D.bl=q1 at k1 ga;have gi:gIsi [itD a,.ty "tuple"]=some (.bl true):=rfl;have wk:zfC (itD a)=some (a.map .int):=rfl;exact ⟨[some (.val (.lst (L.map itD))),some (.val (itD a))],by simp [gi,wk,hz,k1,ga],_,rfl⟩)
 subst hsd1;have gi:gIsi [.lst (L.map itD),.ty "list"]=some (.bl true):=rfl;simp [zj6,zn1,gi,e1]
def zkV:FS:=(sSeq (sOwn 4 (dLst dNil)) (sSeq (sFor (iR1 (zab (dVar 2) dNil)) (.one 5) (zaN 4 (dOp gMod (zan zen (zab (zan zde (zab (dVar 0) (zab (dOp gAdd (dVar 1) (dVar 5)) dNil))) (zab (dOp gAdd (dC (.int 131)) (dVar 5)) dNil))) (dC (.int 3))))) (sSeq (sIf (zaq (dOp gEq (dOp gMod (zan zde (zab (dVar 0) (zab (dVar 1) dNil))) (dC (.int 3))) (dC (.int 1)))) (fun sd=>(sOwn 4 (zaP [none,some 3,some 4] (iR1 (zab (dVar 2) dNil)) (.one 0) (dOp gSub (dOp gIx (dVar 2) (dVar 0)) (zkf (dBlt zdE (zab (dOp gIx (dVar 1) (dC (.int 0))) dNil)) (dVar 0) (dC (.int 0)))))) (frzD [4] sd)) zaR) (zcb 4))))
def zi1:List D->Res D:=runN 6 4 zkV
theorem f_z34 {ns:List Int}{st n:Nat}{f:List (List (Int×Int))}(hs':st<=100)(n1:1<=n)(n2:n<=12)(hf:f ≠ [])(hr:∀ r∈f,r.length<=100)(ho:∀ r∈f,Once r):∃ hs:List Int,zi1 [.scr ns,.int st,.int n,frD f]=.ok (.lst (hs.map .int))/\hs.length=n:=by
 have r0:zcc [.int n]=.ok (zaD 0 n):=by rw [zbj (by omega) (by omega),Int.toNat_natCast]
 obtain ⟨sd1,e1,hs,u5,hsd1,hl⟩:=zbn (tg:=.one 5) (b:=(zaN 4 (dOp gMod (zan zen (zab (zan zde (zab (dVar 0) (zab (dOp gAdd (dVar 1) (dVar 5)) dNil))) (zab (dOp gAdd (dC (.int 131)) (dVar 5)) dNil))) (dC (.int 3))))) (ds:=zaD 0 n)
  (sd:=[some (.val (.scr ns)),some (.val (.int st)),some (.val (.int n)),some (.val (frD f)),some (.own false (.lst [])),none])
  (P:=fun i sd=>∃ (hs:List Int) (u5:Option SV),sd=[some (.val (.scr ns)),some (.val (.int st)),some (.val (.int n)),some (.val (frD f)),some (.own false (.lst (hs.map .int))),u5]/\hs.length=i) ⟨[],none,rfl,rfl⟩ (by
   rintro i x sd hx ⟨hs,u5,rfl,hl⟩;obtain ⟨rfl,hi⟩:=zcB hx;have fc:zde [.scr ns,.int ((st:Int)+(i:Int))]=.ok (.int (zf8 ns (st+i:Nat))):=by rw [<- znI ns (st+i)];congr 3
   have hz:=zaj (show hs.length<=1000 by omega);refine ⟨[some (.val (.scr ns)),some (.val (.int st)),some (.val (.int n)),some (.val (frD f)),some (.own false (.lst ((hs++[mixF (zf8 ns (st+i:Nat)) (131+(i:Int)) % 3]).map .int))),some (.val (.int (i:Int)))],?_,_,_,rfl,by simp [hl]⟩;simp at fc;simp [fc,hz])
 rw [zbx] at hl;subst hsd1;have fc:zde [.scr ns,.int (st:Int)]=.ok (.int (zf8 ns st)):=znI ns st;by_cases c:zf8 ns st % 3=1
 ·obtain ⟨r,f',rfl⟩:∃ r f',f=r::f':=by
   cases f with
   |nil=>exact absurd rfl hf
   |cons r f'=>exact ⟨r,f',rfl⟩
  have a0:atI ((r::f').map rwD) 0=some (rwD r):=by
   rw [show ((0:Int))=((0:Nat):Int) from rfl,zg7 (by simp)];rfl
  have i0:gIx (frD (r::f')) (.int 0)=some (rwD r):=a0;have o1:=ho r Zqs;have gd:zdE [rwD r]=some (dcR r):=by
   show (zdo (rwD r)).bind _=_;rw [zdl];refine (if_pos (hr r Zqs)).trans ?_;rw [zfX o1]
  have key:mapE (.one 0) (dOp gSub (dOp gIx (dVar 2) (dVar 0)) (zkf (dBlt zdE (zab (dOp gIx (dVar 1) (dC (.int 0))) dNil)) (dVar 0) (dC (.int 0)))) [none,some (.val (frD (r::f'))),some (.val (.lst (hs.map .int)))] (zaD 0 n)=.ok (((List.range n).map fun k:Nat=>nthI hs k-(zam r (k:Int)).getD 0).map .int):=by
   rw [List.map_map];refine zcH fun i hi=>?_;have ea:=zcJ (hs:=hs) (t:=(i:Int)) (by omega) (by omega);have vd:=zc9 o1 (i:Int);have dd:zp6 (dcR r)=.ok (r.map fun p=>.inl p.1,r.map fun p=>.int p.2):=rfl;cases q:zam r (i:Int) with
   |none =>
    rw [q] at vd;simp [i0,gd,ea,dd,vd,q]
   |some w =>
    rw [q] at vd;simp [i0,gd,ea,dd,vd,q]
  refine ⟨(List.range n).map fun k:Nat=>nthI hs k-(zam r (k:Int)).getD 0,?_,by simp⟩;have hz:(zaD 0 n).length<sizeLine:=zaj (by rw [zbx];omega);generalize ((List.range n).map fun k:Nat=>nthI hs k-(zam r (k:Int)).getD 0).map D.int=q1 at key ⊢;simp [zi1,zkV,r0,e1,fc,c,hz,key]
 ·refine ⟨hs,?_,hl⟩;simp [zi1,zkV,r0,e1,fc,c]
def G_z1:FS:=(sSeq (sFor (iS (dVar 0)) (.tup [2,3]) (sIf (dOrT (zaq (dOp (gIn true) (dVar 2) (dVar 1))) (zaq (dOp gGt (dVar 3) (dOp gIx (dVar 1) (dVar 2))))) (sRet (dC (.bl false))) zaR)) (sRet (dC (.bl true))))
def F_z1:List D->Res D:=runD 4 2 G_z1
theorem f_z1 {r o:List (Int×Int)}(ho:Once o):F_z1 [rwD r,dcR o]=.ok (.bl (zai r o)):=by
 simp [F_z1,G_z1];refine zew (R:=fun z=>(z.bind (seqK (sRet (dC (.bl true))))).bind outV=.ok (.bl (zai r o))) (P:=fun i sd=>(∃ u v,sd=[some (.val (rwD r)),some (.val (dcR o)),u,v])/\zai (r.take i) o=true) ⟨⟨none,none,rfl⟩,rfl⟩ ?_ ?_
 ·rintro sd ⟨⟨u,v,rfl⟩,hu⟩;rw [Zql,List.take_length] at hu;simp [hu]
 ·rintro i x sd hx ⟨⟨u,v,rfl⟩,hu⟩;refine zc1b (zbY hx) fun p hp zr2=>?_;subst zr2;have hv:=zc9 ho p.1;cases q:zam o p.1 with
  |none =>
   rw [q] at hv;have z:okAt o p=false:=by unfold okAt;rw [q]
   rw [zco hp z];exact .inr (.inr ⟨.bl false,by simp [dcR,hv],by simp⟩)
  |some w =>
   rw [q] at hv;by_cases c:w<p.2
   ·have z:okAt o p=false:=by unfold okAt;rw [q];exact decide_eq_false (by omega)
    rw [zco hp z];exact .inr (.inr ⟨.bl false,by simp [dcR,hv,c],by simp⟩)
   ·have z:okAt o p=true:=by unfold okAt;rw [q];exact decide_eq_true (by omega)
    exact .inl ⟨[some (.val (rwD r)),some (.val (dcR o)),some (.val (.int p.1)),some (.val (.int p.2))],.inl (by simp [dcR,hv,c]),⟨_,_,rfl⟩,zfD hp hu z⟩
def G_z5:FS:=(sSeq (sSet 2 (dBlt zdE (zab (dVar 0) dNil))) (sSeq (sFor (iS (dVar 1)) (.one 3) (sIf (zaq (zan F_z1 (zab (dVar 3) (zab (dVar 2) dNil)))) (sRet (dC (.bl true))) zaR)) (sRet (dC (.bl false)))))
def F_z5:List D->Res D:=runD 4 2 G_z5
theorem f_z5 {r:List (Int×Int)}{ks:List (List (Int×Int))}(ho:Once r)(hl:r.length<=100):F_z5 [rwD r,frD ks]=.ok (.bl (ks.any fun o=>zai o r)):=by
 have hd:=zdu hl ho;simp [F_z5,G_z5,hd];refine zew (R:=fun z=>(z.bind (seqK (sRet (dC (.bl false))))).bind outV=.ok (.bl (ks.any fun o=>zai o r))) (P:=fun i sd=>(∃ u,sd=[some (.val (rwD r)),some (.val (frD ks)),some (.val (dcR r)),u])/\∀ o∈ks.take i,zai o r=false) ⟨⟨none,rfl⟩,fun _ h=>by simp at h⟩ ?_ ?_
 ·rintro sd ⟨⟨u,rfl⟩,hu⟩;rw [Zql,List.take_length] at hu;have e:ks.any (fun o=>zai o r)=false:=List.any_eq_false.mpr fun o h=>by rw [hu o h];simp
  rw [e];simp
 ·rintro i x sd hx ⟨⟨u,rfl⟩,hu⟩;refine zc1b (zbY hx) fun o hp zr2=>?_;subst zr2;have ff:=f_z1 (r:=o) ho;cases q:zai o r with
  |true =>
   rw [q] at ff;have e:ks.any (fun o=>zai o r)=true:=List.any_eq_true.mpr ⟨o,List.mem_of_getElem? hp,q⟩;rw [e];exact .inr (.inr ⟨.bl true,by simp [ff],by simp⟩)
  |false =>
   rw [q] at ff;refine .inl ⟨[some (.val (rwD r)),some (.val (frD ks)),some (.val (dcR r)),some (.val (rwD o))],.inl (by simp [ff]),⟨_,rfl⟩,fun y hy=>?_⟩;rw [zaW hp] at hy;rcases List.mem_append.mp hy with z|z
   ·exact hu y z
   ·rw [List.mem_singleton.mp z];exact q
def G_z2:FS:=(sSeq (sOwn 2 (dBlt zdE (zab (dVar 0) dNil))) (sSeq (sFor (iS (dVar 1)) (.tup [3,4]) (zm4 2 (dVar 3) (dBlt zmE (zab (dVar 4) (zab (dTmp [2] (zkf (dVar 2) (dVar 3) (dVar 4))) dNil))))) (fun sd=>(sRet (dBlt zcU (zab (zdW (dVar 2)) dNil))) (frzD [2] sd))))
def F_z2:List D->Res D:=runD 5 2 G_z2
def zbI (r o:List (Int×Int)):List (Int×Int):=zaE pltB (zbr r o)
theorem f_z2 {r o:List (Int×Int)}(hr:r ≠ [])(or:Once r)(oo:Once o)(lr:r.length<=20)(lo:o.length<=20):F_z2 [rwD r,rwD o]=.ok (rwD (zbI r o)):=by
 have hd:zdE [.tup (r.map prD)]=some (dcR r):=zdu (show r.length<=100 by omega) or;simp [F_z2,G_z2,hd,rwD];generalize hB:zm4 2 _ _=b;obtain ⟨sd',e,u,v,hsd⟩:=zbn (tg:=.tup [3,4]) (b:=b) (ds:=o.map prD) (sd:=[some (.val (.tup (r.map prD))),some (.val (.tup (o.map prD))),some (.own false (dcR r)),none,none])
  (P:=fun i sd=>∃ u v,sd=[some (.val (.tup (r.map prD))),some (.val (.tup (o.map prD))),some (.own false (dcR (zbr r (o.take i)))),u,v]) ⟨none,none,rfl⟩ (by
   rintro i x sd hx ⟨u,v,rfl⟩;refine zc1b (zbY hx) fun p hp zr2=>?_;subst zr2;have et:zbr r (o.take (i+1))=zbK (zbr r (o.take i)) p:=by
    rw [zaW hp];unfold zbr;rw [List.foldl_append];rfl
   have hl:=zfa (o.take i) r;have ht:(o.take i).length<=o.length:=by rw [List.length_take];omega
   have hz:=zaj (show (zbr r (o.take i)).length<=1000 by omega);have hv:=zc9 (zcF (o.take i) r or) p.1;have hput:=zqE (zbr r (o.take i)) p.1 (if (zam (zbr r (o.take i)) p.1).getD p.2 > p.2 then (zam (zbr r (o.take i)) p.1).getD p.2 else p.2);have hg:((zam (zbr r (o.take i)) p.1).map D.int).getD (.int p.2)=.int ((zam (zbr r (o.take i)) p.1).getD p.2):=by cases zam (zbr r (o.take i)) p.1<;>rfl
   subst hB;have es:zbK (zbr r (o.take i)) p=putR (zbr r (o.take i)) p.1 (if (zam (zbr r (o.take i)) p.1).getD p.2 > p.2 then (zam (zbr r (o.take i)) p.1).getD p.2 else p.2):=rfl;rw [et,es,<- hput];simp [dcR,hv,hg,hz])
 rw [e];subst hsd;have hl:=zfa o r;have hs:=zfA (r:=zbr r o) (zjw hr oo) (by omega);simp [hs,zbI]
def G_z8:FS:=(sSeq (sOwn 2 (dOp zpN (zbC [none,some 1] (iS (dVar 0)) (.one 0) (zaq (zan F_z5 (zab (dVar 0) (zab (dVar 1) dNil)))) (dVar 0)) (zbC [none,some 0] (iS (dVar 1)) (.one 0) (zaq (zan F_z5 (zab (dVar 0) (zab (dVar 1) dNil)))) (dVar 0)))) (sSeq (sSet 3 (zbC [none,some 0] (iS (dVar 1)) (.one 0) (zbT (zaq (zan F_z5 (zab (dVar 0) (zab (dVar 1) dNil))))) (dVar 0))) (sSeq (sFor (iS (dVar 0)) (.one 4) (sIf (zbT (zaq (zan F_z5 (zab (dVar 4) (zab (dVar 1) dNil))))) (zea 2 (zaP [none,some 4] (iS (dVar 3)) (.one 0) (zan F_z2 (zab (dVar 1) (zab (dVar 0) dNil))))) zaR)) (zcb 2))))
def F_z8:List D->Res D:=runN 5 2 G_z8
def zf9 (f g:List (List (Int×Int))):List (List (Int×Int)):=f.flatMap fun r=>g.map (zbI r)
theorem zbt {f g:List (List (Int×Int))}{q:List (Int×Int)}:q∈zf9 f g↔∃ r∈f,∃ o∈g,zbI r o=q:=by
 unfold zf9;rw [List.mem_flatMap];refine exists_congr fun r=>and_congr_right fun _=>?_;rw [List.mem_map]
theorem zli (f g:List (List (Int×Int))):(zf9 f g).length=f.length*g.length:=by
 unfold zf9
 induction f with
 |nil=>simp
 |cons r f ih=>rw [List.flatMap_cons,List.length_append,ih,Zql,List.length_cons,Nat.succ_mul,Nat.add_comm]
theorem zk2 {a b:List (Int×Int)}(oa:Once a)(p:b.Perm a)(t:Int):zam b t=zam a t:=by
 have ob:Once b:=((p.map fun z:Int×Int=>z.1).nodup_iff).mpr oa;cases h:zam a t with
 |some w=>exact (ziO ob).mp (p.mem_iff.mpr (za3 h))
 |none =>
  cases h2:zam b t with
  |none=>rfl
  |some w =>
   have:=(ziO oa).mp (p.mem_iff.mp (za3 h2));rw [h] at this;cases this
theorem zcG {r o:List (Int×Int)}(or:Once r)(oo:Once o)(t:Int):zam (zbI r o) t=jw (zam r t) (zam o t):=by
 rw [<- zc7 t o r oo];exact zk2 (zcF o r or) (zal (ltb:=pltB) _) t
theorem zct {r o:List (Int×Int)}(hr:JRow r)(ho:JRow o):JRow (zbI r o):=by
 have nj:zbr r o ≠ []:=zjw hr.ne ho.once;have oj:=zcF o r hr.once;refine ⟨fun z=>nj ?_,?_,fun p hp=>?_⟩
 ·have:=(zal (ltb:=pltB) (zbr r o)).length_eq;unfold zbI at z;rw [z,List.length_nil] at this;exact List.length_eq_zero_iff.mp this.symm
 ·unfold Rise zbI;have st:=zgS oj;have od:(zaE pltB (zbr r o)).Pairwise fun x y=>x.1≠y.1:=by
   have:Once (zaE pltB (zbr r o)):=(((zal (ltb:=pltB) (zbr r o)).map fun z:Int×Int=>z.1).nodup_iff).mpr oj;unfold Once List.Nodup at this;rw [List.pairwise_map] at this;exact this
  rw [List.pairwise_map];refine (List.Pairwise.and st od).imp fun {x y} h=>?_;have h1:=h.1;rw [zb6] at h1;have h2:=h.2;omega
 ·have hp':=(zal (ltb:=pltB) (zbr r o)).mem_iff.mp hp;have hl:=oj.look (t:=p.1) (w:=p.2) hp';rw [zc7 p.1 o r ho.once] at hl;cases q1:zam r p.1 with
  |some w=>exact hr.bnd (p.1,w) (za3 q1)
  |none =>
   cases q2:zam o p.1 with
   |some w=>exact ho.bnd (p.1,w) (za3 q2)
   |none=>rw [q1,q2] at hl;cases hl
theorem zfy {r o:List (Int×Int)}(hr:JRow r)(ho:JRow o):zai r (zbI r o)=true:=by
 rw [zbu];intro p hp;have h1:=hr.once.look (t:=p.1) (w:=p.2) hp;rw [zcG hr.once ho.once,h1];cases zam o p.1 with
 |none=>exact ⟨p.2,rfl,Int.le_refl _⟩
 |some y=>exact ⟨_,rfl,by split<;>omega⟩
theorem zfu {r o:List (Int×Int)}(hr:JRow r)(ho:JRow o):zai o (zbI r o)=true:=by
 rw [zbu];intro p hp;have h1:=ho.once.look (t:=p.1) (w:=p.2) hp;rw [zcG hr.once ho.once,h1];cases zam r p.1 with
 |none=>exact ⟨p.2,rfl,Int.le_refl _⟩
 |some y=>exact ⟨_,rfl,by split<;>omega⟩
theorem zdV {r o q:List (Int×Int)}(hr:JRow r)(ho:JRow o)(h1:zai r q=true)(h2:zai o q=true):zai (zbI r o) q=true:=by
 rw [zbu] at h1 h2 ⊢;intro p hp;have hl:=(zct hr ho).once.look (t:=p.1) (w:=p.2) hp;rw [zcG hr.once ho.once] at hl;cases q1:zam r p.1 with
 |none =>
  rw [q1] at hl;exact h2 p (za3 hl)
 |some x =>
  cases q2:zam o p.1 with
  |none =>
   rw [q1,q2] at hl;cases hl;exact h1 (p.1,p.2) (za3 q1)
  |some y =>
   rw [q1,q2] at hl;refine zc1b (h1 (p.1,x) (za3 q1)) fun w hw a=>?_;refine zc1b (h2 (p.1,y) (za3 q2)) fun w' hw' b=>?_;have hw:zam q p.1=some w:=hw;rw [hw] at hw';cases hw';have e:(if x > y then x else y)=p.2:=Zqi hl;have a:x<=w:=a;have b:y<=w:=b;exact ⟨w,hw,by rw [<- e];split<;>omega⟩
def covF (g:List (List (Int×Int)))(r:List (Int×Int)):Bool:=g.any fun o=>zai o r
theorem zig {g:List (List (Int×Int))}{r:List (Int×Int)}:covF g r=true↔∃ o∈g,zai o r=true:=List.any_eq_true
def zb7 (f g:List (List (Int×Int)))(l:List (List (Int×Int))):List (List (Int×Int)):=(l.filter fun r => !covF g r).flatMap fun r=>(g.filter fun o => !covF f o).map (zbI r)
def zd2 (f g:List (List (Int×Int))):List (List (Int×Int)):=(f.filter (covF g)++g.filter (covF f))++zb7 f g f
theorem zgf (f g l:List (List (Int×Int))):(zb7 f g l).length=(l.filter fun r => !covF g r).length*(g.filter fun o => !covF f o).length:=by
 unfold zb7;generalize l.filter (fun r => !covF g r)=a
 induction a with
 |nil=>simp
 |cons r a ih=>rw [List.flatMap_cons,List.length_append,ih,Zql,List.length_cons,Nat.succ_mul,Nat.add_comm]
theorem zex {α : Type}(p:α -> Bool):∀ l:List α,(l.filter p).length+(l.filter fun x => !p x).length=l.length
 | []=>rfl
 |x::l=>by
  have:=zex p l;cases h:p x with
  |true=>rw [List.filter_cons_of_pos h,List.filter_cons_of_neg (by rw [h];simp),List.length_cons,List.length_cons];omega
  |false=>rw [List.filter_cons_of_neg (by rw [h];simp),List.filter_cons_of_pos (by rw [h];rfl),List.length_cons,List.length_cons];omega
theorem zfS {f g:List (List (Int×Int))}(hf:∀ r∈f,JRow r)(hg:∀ r∈g,JRow r):∀ q∈zd2 f g,JRow q:=fun q hq=>by
 unfold zd2 zb7 at hq;rcases List.mem_append.mp hq with hq|hq
 ·rcases List.mem_append.mp hq with hq|hq
  ·exact hf q (List.mem_filter.mp hq).1
  ·exact hg q (List.mem_filter.mp hq).1
 ·refine zc1b (List.mem_flatMap.mp hq) fun r hr hq=>?_;refine zc1b (List.mem_map.mp hq) fun o ho zr2=>?_;subst zr2;exact zct (hf r (List.mem_filter.mp hr).1) (hg o (List.mem_filter.mp ho).1)
theorem znE {f g:List (List (Int×Int))}(hf:∀ r∈f,JRow r)(hg:∀ r∈g,JRow r)(q:List (Int×Int)):(∃ x∈zd2 f g,zai x q=true)↔(∃ x∈zf9 f g,zai x q=true):=by
 constructor
 ·rintro ⟨x,hx,hu⟩;unfold zd2 zb7 at hx;rcases List.mem_append.mp hx with hx|hx
  ·rcases List.mem_append.mp hx with hx|hx
   ·obtain ⟨hx,hc⟩:=List.mem_filter.mp hx;refine zc1b (zig.mp hc) fun o ho hou=>?_;exact ⟨zbI x o,zbt.mpr ⟨x,hx,o,ho,rfl⟩,zdV (hf x hx) (hg o ho) hu (za6 hou hu)⟩
   ·obtain ⟨hx,hc⟩:=List.mem_filter.mp hx;refine zc1b (zig.mp hc) fun o ho hou=>?_;exact ⟨zbI o x,zbt.mpr ⟨o,ho,x,hx,rfl⟩,zdV (hf o ho) (hg x hx) (za6 hou hu) hu⟩
  ·refine zc1b (List.mem_flatMap.mp hx) fun r hr hx=>?_;refine zc1b (List.mem_map.mp hx) fun o ho zr2=>?_;subst zr2;exact ⟨_,zbt.mpr ⟨r,(List.mem_filter.mp hr).1,o,(List.mem_filter.mp ho).1,rfl⟩,hu⟩
 ·rintro ⟨x,hx,hu⟩;refine zc1b (zbt.mp hx) fun r hr zz=>zc1b zz fun o ho zr4=>?_;subst zr4;have u1:=za6 (zfy (hf r hr) (hg o ho)) hu;have u2:=za6 (zfu (hf r hr) (hg o ho)) hu;unfold zd2 zb7;cases c1:covF g r with
  |true=>exact ⟨r,List.mem_append_left _ (List.mem_append_left _ (List.mem_filter.mpr ⟨hr,c1⟩)),u1⟩
  |false =>
   cases c2:covF f o with
   |true=>exact ⟨o,List.mem_append_left _ (List.mem_append_right _ (List.mem_filter.mpr ⟨ho,c2⟩)),u2⟩
   |false=>exact ⟨zbI r o,List.mem_append_right _ (List.mem_flatMap.mpr ⟨r,List.mem_filter.mpr ⟨hr,by rw [c1];rfl⟩,List.mem_map.mpr ⟨o,List.mem_filter.mpr ⟨ho,by rw [c2];rfl⟩,rfl⟩⟩),hu⟩
theorem f_z8 {f g:List (List (Int×Int))}(hf:∀ r∈f,JRow r)(hg:∀ r∈g,JRow r)(l1:f.length+g.length+f.length*g.length<=1000):F_z8 [frD f,frD g]=.ok (frD (zd2 f g)):=by
 have cv:∀ (ks:List (List (Int×Int))) (r:List (Int×Int)),JRow r->F_z5 [rwD r,frD ks]=.ok (.bl (covF ks r)):=fun ks r h=>f_z5 h.once (by have:=h.len;omega);have m1:zcK (.one 0) (zaq (zan F_z5 (zab (dVar 0) (zab (dVar 1) dNil)))) (dVar 0) [none,some (.val (frD g))] (f.map rwD)=.ok ((f.filter (covF g)).map rwD) :=
  zcm (s:=fun r=>[some (.val (rwD r)),some (.val (frD g))]) (fun r _=>rfl) (fun r hr=>by simp [cv g r (hf r hr)]) (fun r _ _=>by simp)
 have m2:zcK (.one 0) (zaq (zan F_z5 (zab (dVar 0) (zab (dVar 1) dNil)))) (dVar 0) [none,some (.val (frD f))] (g.map rwD)=.ok ((g.filter (covF f)).map rwD) :=
  zcm (s:=fun r=>[some (.val (rwD r)),some (.val (frD f))]) (fun r _=>rfl) (fun r hr=>by simp [cv f r (hg r hr)]) (fun r _ _=>by simp)
 have m3:zcK (.one 0) (zbT (zaq (zan F_z5 (zab (dVar 0) (zab (dVar 1) dNil))))) (dVar 0) [none,some (.val (frD f))] (g.map rwD)=.ok ((g.filter fun o => !covF f o).map rwD) :=
  zcm (s:=fun r=>[some (.val (rwD r)),some (.val (frD f))]) (fun r _=>rfl) (fun r hr=>by simp [cv f r (hg r hr)]) (fun r _ _=>by simp)
 have la:=zex (covF g) f;have lb:=zex (covF f) g;have hrest:∀ o∈g.filter (fun o => !covF f o),JRow o:=fun o ho=>hg o (List.mem_filter.mp ho).1;have ek:zd2 f g=(f.filter (covF g)++g.filter (covF f))++zb7 f g f:=rfl;have bl:∀ i,(zb7 f g (f.take i)).length<=min i f.length*g.length:=fun i=>by
  rw [zgf];refine Nat.mul_le_mul ?_ (List.length_filter_le _ _);have:=List.length_filter_le (fun r => !covF g r) (f.take i);rw [List.length_take] at this;exact this
 have cs:∀ (i:Nat) (r:List (Int×Int)),f[i]? = some r->zb7 f g (f.take (i+1))=zb7 f g (f.take i)++(if covF g r=true then [] else (g.filter fun o => !covF f o).map (zbI r)):=fun i r hr=>by
  unfold zb7;rw [zaW hr,List.filter_append,List.flatMap_append];cases c:covF g r with
  |true=>rw [List.filter_cons_of_neg (by rw [c];simp),if_pos rfl];rfl
  |false=>rw [List.filter_cons_of_pos (by rw [c];rfl),if_neg Bool.false_ne_true];simp
 generalize hR:(g.filter fun o => !covF f o)=rest at m3 hrest cs lb;have lr:rest.length<=g.length:=by omega
 generalize hA:f.filter (covF g)++g.filter (covF f)=A at ek;have lA:A.length<=f.length+g.length:=by rw [<- hA,List.length_append];omega
 have sA:(f.filter (covF g)).length+(g.filter (covF f)).length<=sizeLine:=zc3 (by omega);have eA:(f.filter (covF g)).map rwD++(g.filter (covF f)).map rwD=A.map rwD:=by rw [<- hA,List.map_append]
 obtain ⟨sd',e,u4,hsd⟩:=zbn (tg:=.one 4) (b:=(sIf (zbT (zaq (zan F_z5 (zab (dVar 4) (zab (dVar 1) dNil))))) (zea 2 (zaP [none,some 4] (iS (dVar 3)) (.one 0) (zan F_z2 (zab (dVar 1) (zab (dVar 0) dNil))))) zaR)) (ds:=f.map rwD) (sd:=[some (.val (frD f)),some (.val (frD g)),some (.own false (.lst (A.map rwD))),some (.val (.lst (rest.map rwD))),none])
  (P:=fun i sd=>∃ (u4:Option SV),sd=[some (.val (frD f)),some (.val (frD g)),some (.own false (.lst ((A++zb7 f g (f.take i)).map rwD))),some (.val (.lst (rest.map rwD))),u4]) ⟨none,by rw [List.take_zero];simp [zb7]⟩ (by
   rintro i x sd hx ⟨u4,rfl⟩;refine zc1b (zbY hx) fun r hr zr2=>?_;subst zr2;have hi:=(List.getElem?_eq_some_iff.mp hr).1;have hm:=List.mem_of_getElem? hr;have c1:=cv g r (hf r hm);have b0:=bl i;have b1:(min i f.length+1)*g.length<=f.length*g.length:=Nat.mul_le_mul (by omega) (Nat.le_refl _);rw [Nat.succ_mul] at b1;rw [cs i r hr];cases c:covF g r with
   |true =>
    rw [c] at c1;rw [if_pos rfl,List.append_nil];exact ⟨[some (.val (frD f)),some (.val (frD g)),some (.own false (.lst ((A++zb7 f g (f.take i)).map rwD))),some (.val (.lst (rest.map rwD))),some (.val (rwD r))],by simp [c1],_,rfl⟩
   |false =>
    rw [c] at c1;rw [if_neg Bool.false_ne_true];have key:mapE (.one 0) (zan F_z2 (zab (dVar 1) (zab (dVar 0) dNil))) [none,some (.val (rwD r))] (rest.map rwD)=.ok (rest.map fun o=>rwD (zbI r o)):=zbk fun o ho=>by
     have l1:=(hf r hm).len;have l2:=(hrest o ho).len;simp [f_z2 (hf r hm).ne (hf r hm).once (hrest o ho).once (by omega) (by omega)]
    have em:(rest.map (zbI r)).map rwD=rest.map fun o=>rwD (zbI r o):=by rw [List.map_map];rfl
    have sz:(A++zb7 f g (f.take i)).length+rest.length<=sizeLine:=zc3 (by rw [List.length_append];omega);have lz:=zaj (show rest.length<=1000 by omega);refine ⟨[some (.val (frD f)),some (.val (frD g)),some (.own false (.lst ((A++(zb7 f g (f.take i)++rest.map (zbI r))).map rwD))),some (.val (.lst (rest.map rwD))),some (.val (rwD r))],?_,_,rfl⟩;rw [<- List.append_assoc];generalize A++zb7 f g (f.take i)=acc at sz ⊢;rw [List.map_append,em];simp [c1,key,lz,sz])
 subst hsd;rw [Zql,List.take_length] at e;have z1:=zaj (show f.length<=1000 by omega);have z2:=zaj (show g.length<=1000 by omega);rw [ek];simp [frD] at m1 m2 m3 e ⊢;simp [F_z8,G_z8,m1,m2,m3,z1,z2,sA,eA,e]
def G_z4:FS:=(sSeq (sOwn 2 (dLst dNil)) (sSeq (sFor (iS (dBlt zd0 (zab (dBlt zdx (zab (dVar 0) dNil)) dNil))) (.one 3) (sSeq (sIf (zaq (dOp gEq (dTmp [2] (dBlt gLen (zab (dVar 2) dNil))) (dVar 1))) sBrk zaR) (sIf (zbT (zaq (dTmp [2] (zan F_z5 (zab (dVar 3) (zab (dVar 2) dNil)))))) (zaN 2 (dVar 3)) zaR))) (zcb 2)))
def F_z4:List D->Res D:=runN 4 2 G_z4
theorem zfc (rs:List (List (Int×Int))):(zaE rltB (dedR rs)).Pairwise fun a b=>rltB a b=true:=zb1 zaC (zfM rs)
theorem zej {rs:List (List (Int×Int))}{en:Int}(ne:∀ r∈rs,r ≠ [])(ri:∀ r∈rs,Rise r)(hl:∀ r∈rs,r.length<=100)(h64:rs.length<64)(h0:0<=en):F_z4 [frD rs,.int en]=.ok (frD ((lowL rs).take en.toNat)):=by
 have dl:=ziW rs;have s1:zdx [frD rs]=some (.lst ((zaE rltB (dedR rs)).map rwD)):=zgh ne (by omega) (by omega);have sl:(zaE rltB (dedR rs)).length=(dedR rs).length:=(zal (ltb:=rltB) _).length_eq;have s2:zd0 [.lst ((zaE rltB (dedR rs)).map rwD)]=some (.lst ((ordL rs).map rwD)):=zgy (zfc rs) (by omega) fun r hr=>by
  have:=hl r (zg3.mp ((zal (ltb:=rltB) _).mem_iff.mp hr));omega
 have fold:=zjz ri;have om:∀ r,r∈ordL rs->r∈rs:=fun r h=>zdB.mp h;have ol:=ze1 rs;have eL:lowL rs=(ordL rs).filter (lowQ rs):=rfl;rw [eL];simp [F_z4,G_z4,s1,s2];generalize ordL rs=L at fold om ol;refine zew (R:=fun z=>(z.bind (seqK (zcb 2))).bind outN=.ok (frD ((L.filter (lowQ rs)).take en.toNat))) (P:=fun i sd=>i<=L.length/\(((L.take i).filter (lowQ rs)).length:Int)<=en/\∃ u,sd=[some (.val (frD rs)),some (.val (.int en)),some (.own false (.lst (((L.take i).filter (lowQ rs)).map rwD))),u]) ⟨Nat.zero_le _,by simpa using h0,none,rfl⟩ ?_ ?_
 ·rintro sd ⟨_,le,u,rfl⟩;rw [Zql,List.take_length] at le ⊢;rw [List.take_of_length_le (by omega)];simp [frD]
 ·rintro i x sd hx ⟨_,le,u,rfl⟩;refine zc1b (zbY hx) fun r hp zr2=>?_;subst zr2;have hi:=(List.getElem?_eq_some_iff.mp hp).1;have f1:=fold (i+1) (by omega);rw [zaW hp,List.foldl_append,fold i (by omega),<- zaW hp] at f1;have f1:lowS ((L.take i).filter (lowQ rs)) r=(L.take (i+1)).filter (lowQ rs):=f1;have kl:((L.take i).filter (lowQ rs)).length<=i:=by
   have a:=List.length_filter_le (lowQ rs) (L.take i);rw [List.length_take] at a;omega
  rw [<- f1];have hm:=om r (List.mem_of_getElem? hp);have fc:=f_z5 (r:=r) (ks:=(L.take i).filter (lowQ rs)) (zdk (ri r hm)) (hl r hm);have whole:L.filter (lowQ rs)=(L.take i).filter (lowQ rs)++(L.drop i).filter (lowQ rs):=by rw [<- List.filter_append,List.take_append_drop]
  generalize (L.take i).filter (lowQ rs)=ks at kl fc le whole;have fc:F_z5 [rwD r,.lst (ks.map rwD)]=.ok (.bl (ks.any fun o=>zai o r)):=fc;have hz:=zaj (show ks.length<=1000 by omega);by_cases hne:(ks.length:Int)=en
  ·have ek:(L.filter (lowQ rs)).take en.toNat=ks:=by
    rw [whole,List.take_left' (by omega)]
   refine .inr (.inl ⟨[some (.val (frD rs)),some (.val (.int en)),some (.own false (.lst (ks.map rwD))),some (.val (rwD r))],by simp [hne],?_⟩);rw [ek];simp [frD]
  ·have ls:∀ b,(ks.any fun o=>zai o r)=b->lowS ks r=if b=true then ks else ks++[r]:=fun b hb=>by unfold lowS;rw [hb]
   cases q:ks.any fun o=>zai o r with
   |true =>
    rw [q] at fc;rw [ls true q,if_pos rfl];exact .inl ⟨[some (.val (frD rs)),some (.val (.int en)),some (.own false (.lst (ks.map rwD))),some (.val (rwD r))],.inl (by simp [hne,fc]),by omega,le,_,rfl⟩
   |false =>
    rw [q] at fc;rw [ls false q,if_neg Bool.false_ne_true];exact .inl ⟨[some (.val (frD rs)),some (.val (.int en)),some (.own false (.lst ((ks++[r]).map rwD))),some (.val (rwD r))],.inl (by simp [hne,fc,hz]),by omega,(by rw [List.length_append,List.length_singleton];omega),_,rfl⟩
theorem f_z4 {rs:List (List (Int×Int))}{en:Int}(ne:∀ r∈rs,r ≠ [])(ri:∀ r∈rs,Rise r)(hl:∀ r∈rs,r.length<=100)(h64:rs.length<64)(hen:(rs.length:Int)<=en):F_z4 [frD rs,.int en]=.ok (frD (lowL rs)):=by
 rw [zej ne ri hl h64 (by omega)];have a:(lowL rs).length<=rs.length:=Nat.le_trans (List.length_filter_le _ _) (ze1 rs);rw [List.take_of_length_le (by omega)]
def G_z9:FS:=(sSeq (sSet 2 (zd7 F_z4 (zab (dVar 0) (zab (dOp gAdd (dVar 1) (dC (.int 1))) dNil)))) (sSeq (sIf (zaq (dOp gGt (dBlt gLen (zab (dVar 2) dNil)) (dVar 1))) (ziK "TooMany" (dUn (gFmt "more than ") (dVar 1))) zaR) (sRet (dBlt zbw (zab (dVar 2) dNil)))))
def F_z9:List D->Res D:=runN 3 2 G_z9
theorem znv (rs:List (List (Int×Int))):(lowL rs).length=(zaA rs).length:=by
 rw [<- zeI,(zal (ltb:=rltB) _).length_eq]
noncomputable def limF (most:Int)(t:List (List (Int×Int))):Option (List (List (Int×Int))):=if (t.length:Int)<=most then some t else none
def resF:Option (List (List (Int×Int)))->Res D
 |some t=>.ok (frD t)
 |none=>.ex "TooMany" []
theorem zcd {rs:List (List (Int×Int))}{most:Int}(ne:∀ r∈rs,r ≠ [])(ri:∀ r∈rs,Rise r)(hl:∀ r∈rs,r.length<=100)(h64:rs.length<64)(h0:0<=most)(hm2:most<=1000):F_z9 [frD rs,.int most]=resF (limF most (zaA rs)):=by
 have fl:=zej (en:=most+1) ne ri hl h64 (by omega);have ll:(lowL rs).length<=rs.length:=Nat.le_trans (List.length_filter_le _ _) (ze1 rs);have l2:=znv rs;have glen:∀ k:List (List (Int×Int)),gLen [frD k]=some (.int k.length):=fun k=>by
  show some (D.int (k.map rwD).length)=_;rw [Zql]
 unfold limF;by_cases c:((zaA rs).length:Int)<=most
 ·rw [if_pos c];rw [List.take_of_length_le (by omega)] at fl;have gs:zbw [frD (lowL rs)]=some (.lst ((zaE rltB (lowL rs)).map rwD)):=zca (fun r hr=>ne r (zdB.mp (List.mem_filter.mp hr).1)) (by omega);rw [zeI] at gs;have gs:zbw [frD (lowL rs)]=some (frD (zaA rs)):=gs;have gl:=glen (lowL rs);have nl:¬ most<((lowL rs).length:Int):=by omega
  show _=Res.ok (frD (zaA rs));simp [F_z9,G_z9,fl,gl,nl,gs]
 ·rw [if_neg c];have gl:=glen ((lowL rs).take (most+1).toNat);have nl:most<(((lowL rs).take (most+1).toNat).length:Int):=by
   rw [List.length_take];omega
  generalize (lowL rs).take (most+1).toNat=k at fl gl nl;obtain ⟨z,hz⟩:=znU (x := "more than ") (a:=most) (by omega) (by omega);show _=Res.ex "TooMany" [];simp [F_z9,G_z9,fl,gl,nl,hz]
def G_z7:FS:=(sSeq (sSet 2 (zan F_z9 (zab (dOp gIx (dVar 0) (dC (.int 0))) (zab (dVar 1) dNil)))) (sSeq (sFor (iS (dSl (dVar 0) (zdQ (dC (.int 1))) zb4 zb4)) (.one 3) (sSet 2 (zan F_z9 (zab (zd7 F_z8 (zab (dVar 2) (zab (dVar 3) dNil))) (zab (dVar 1) dNil))))) (sRet (dVar 2))))
def F_z7:List D->Res D:=runD 4 2 G_z7
def zbF (t f:List (List (Int×Int))):List (List (Int×Int)):=zaA (zf9 t f)
structure AllOk (fs:List (List (List (Int×Int))))(t:List (List (Int×Int))):Prop where
 row:∀ r∈t,JRow r
 abv:∀ r∈t,∀ f∈fs,∃ s∈f,zai s r=true
 least:∀ q:List (Int×Int),(∀ f∈fs,∃ s∈f,zai s q=true)->∃ r∈t,zai r q=true
 anti:∀ r∈t,∀ s∈t,zai r s=true->r=s
 strict:t.Pairwise fun a b=>rltB a b=true
theorem zdP {r:List (Int×Int)}(o:Once r):zai r r=true:=zbu.mpr fun p hp=>⟨p.2,o.look (t:=p.1) (w:=p.2) hp,Int.le_refl _⟩
theorem zhQ {rs:List (List (Int×Int))}:∀ r∈zaA rs,∀ s∈zaA rs,zai r s=true->r=s:=fun r hr s hs hu=>zc5.mp (zax.mp hs).2 r (zax.mp hr).1 hu
theorem zeL {f:List (List (Int×Int))}(h:∀ r∈f,JRow r):AllOk [f] (zaA f):=by
 refine ⟨fun r hr=>h r (zax.mp hr).1,fun r hr g hg=>?_,fun q hq=>?_,zhQ,zcf f⟩
 ·rw [List.mem_singleton.mp hg];exact ⟨r,(zax.mp hr).1,zdP (h r (zax.mp hr).1).once⟩
 ·refine zc1b (hq f (List.mem_singleton.mpr rfl)) fun s hs hu=>?_;refine zc1b (zdj (fun r hr=>⟨(h r hr).once,(h r hr).rise⟩) hs) fun r hr hr2=>?_;exact ⟨r,hr,za6 hr2 hu⟩
theorem zdO {fs:List (List (List (Int×Int)))}{t f:List (List (Int×Int))}(A:AllOk fs t)(h:∀ r∈f,JRow r):AllOk (fs++[f]) (zbF t f):=by
 have rows:∀ q∈zf9 t f,JRow q:=fun q hq=>by
  refine zc1b (zbt.mp hq) fun r hr zz=>zc1b zz fun o ho zr4=>?_;subst zr4;exact zct (A.row r hr) (h o ho)
 refine ⟨fun r hr=>rows r (zax.mp hr).1,fun q hq g hg=>?_,fun q hq=>?_,zhQ,zcf _⟩
 ·refine zc1b (zbt.mp (zax.mp hq).1) fun r hr zz=>zc1b zz fun o ho zr4=>?_;subst zr4;rcases List.mem_append.mp hg with z|z
  ·refine zc1b (A.abv r hr g z) fun s hs hu=>?_;exact ⟨s,hs,za6 hu (zfy (A.row r hr) (h o ho))⟩
  ·rw [List.mem_singleton.mp z];exact ⟨o,ho,zfu (A.row r hr) (h o ho)⟩
 ·refine zc1b (A.least q fun g hg=>hq g (List.mem_append_left _ hg)) fun r hr hu=>?_;refine zc1b (hq f (List.mem_append_right _ (List.mem_singleton.mpr rfl))) fun o ho hu2=>?_;have hj:zbI r o∈zf9 t f:=zbt.mpr ⟨r,hr,o,ho,rfl⟩;refine zc1b (zdj (fun r hr=>⟨(rows r hr).once,(rows r hr).rise⟩) hj) fun s hs hs2=>?_;exact ⟨s,hs,za6 hs2 (zdV (A.row r hr) (h o ho) hu hu2)⟩
theorem zml {rs:List (List (Int×Int))}(h:∀ r∈rs,JRow r)(hn:rs ≠ []):zaA rs ≠ []:=fun z=>by
 cases rs with
 |nil=>exact hn rfl
 |cons r rs =>
  refine zc1b (zdj (fun r hr=>⟨(h r hr).once,(h r hr).rise⟩) (Zqs (a:=r) (l:=rs))) fun s hs _=>?_;rw [z] at hs;cases hs
theorem zoi {f g:List (List (Int×Int))}(hf:f ≠ [])(hg:g ≠ []):zf9 f g ≠ []:=fun z=>by
 have:=zli f g;rw [z,List.length_nil] at this;have a:=List.length_pos_iff.mpr hf;have b:=List.length_pos_iff.mpr hg;have:=Nat.mul_pos a b;omega
theorem zpy {a b:List (List (Int×Int))}(ha:∀ r∈a,JRow r)(hb:∀ r∈b,JRow r)(h:∀ q,(∃ x∈a,zai x q=true)↔∃ x∈b,zai x q=true):zaA a=zaA b:=by
 have half:∀ {a b:List (List (Int×Int))},(∀ r∈a,JRow r)->(∀ r∈b,JRow r)->(∀ q,(∃ x∈a,zai x q=true)↔∃ x∈b,zai x q=true)->∀ r,r∈zaA a->r∈zaA b:=by
  intro a b ha hb h r hr;obtain ⟨h1,h2⟩:=zax.mp hr;refine zc1b ((h r).mp ⟨r,h1,zdP (ha r h1).once⟩) fun y hy hu=>?_;refine zc1b (zdj (fun r hr=>⟨(hb r hr).once,(hb r hr).rise⟩) hy) fun y' hy' hu'=>?_;have hyb:=(zax.mp hy').1;have u1:=za6 hu' hu;refine zc1b ((h y').mpr ⟨y',hyb,zdP (hb y' hyb).once⟩) fun x hx hxu=>?_;have e:=zc5.mp h2 x hx (za6 hxu u1);rw [e] at hxu;rw [zdF (ha r h1).once (hb y' hyb).once (ha r h1).rise (hb y' hyb).rise hxu u1];exact hy'
 exact zb0 zaC (zcf a) (zcf b) fun r=>⟨half ha hb h r,half hb ha (fun q=>(h q).symm) r⟩
theorem zfE {f g:List (List (Int×Int))}(hf:∀ r∈f,JRow r)(hg:∀ r∈g,JRow r):∀ q∈zf9 f g,JRow q:=fun q hq=>by
 refine zc1b (zbt.mp hq) fun r hr zz=>zc1b zz fun o ho zr4=>?_;subst zr4;exact zct (hf r hr) (hg o ho)
theorem zou {t g:List (List (Int×Int))}(ht:∀ r∈t,JRow r)(hg:∀ r∈g,JRow r):zaA (zd2 t g)=zbF t g:=zpy (zfS ht hg) (zfE ht hg) (znE ht hg)
def allQ (most:Int):List (List (Int×Int))->List (List (List (Int×Int)))->Option (List (List (Int×Int)))
 |t,[]=>some t
 |t,g::gs=>(limF most (zbF t g)).bind fun t'=>allQ most t' gs
theorem zeS (most:Int)(t g:List (List (Int×Int)))(gs:List (List (List (Int×Int)))):allQ most t (g::gs)=(limF most (zbF t g)).bind fun t'=>allQ most t' gs:=rfl
def allP (most:Int)(f:List (List (Int×Int)))(fs:List (List (List (Int×Int)))):Option (List (List (Int×Int))):=(limF most (zaA f)).bind fun t=>allQ most t fs
theorem ze0 {most:Int}{t t':List (List (Int×Int))}(h:limF most t=some t'):t'=t/\(t.length:Int)<=most:=by
 unfold limF at h
 split at h
 ·rename_i c;cases h;exact ⟨rfl,c⟩
 ·cases h
theorem zoI {t g:List (List (Int×Int))}(ht:∀ r∈t,JRow r)(hg:∀ r∈g,JRow r)(tn:t ≠ [])(gn:g ≠ []):zbF t g ≠ []:=zml (zfE ht hg) (zoi tn gn)
theorem zmx {most:Int}:∀ {gs fs:List (List (List (Int×Int)))} {t t':List (List (Int×Int))},AllOk fs t->(t.length:Int)<=most->t ≠ []->(∀ g∈gs,g ≠ []/\∀ r∈g,JRow r)->allQ most t gs=some t'->AllOk (fs++gs) t'/\(t'.length:Int)<=most/\t' ≠ []
 | [],fs,t,t',A,hl,hn,_,h=>by
  cases h;rw [List.append_nil];exact ⟨A,hl,hn⟩
 |g::gs,fs,t,t',A,hl,hn,hg,h=>by
  unfold allQ at h;cases q:limF most (zbF t g) with
  |none=>rw [q] at h;cases h
  |some t1 =>
   rw [q] at h;obtain ⟨e,l1⟩:=ze0 q;have h1:=hg g Zqs;have:=zmx (zdO A h1.2) l1 (zoI A.row h1.2 hn h1.1) (fun x hx=>hg x (Zqm _ hx)) (t':=t') (by rw [<- e];exact h);rw [List.append_assoc] at this;exact this
theorem zrd {most:Int}{f:List (List (Int×Int))}{fs:List (List (List (Int×Int)))}{t:List (List (Int×Int))}(hf:f ≠ []/\∀ r∈f,JRow r)(hfs:∀ g∈fs,g ≠ []/\∀ r∈g,JRow r)(h:allP most f fs=some t):AllOk (f::fs) t/\(t.length:Int)<=most/\t ≠ []:=by
 unfold allP at h;cases q:limF most (zaA f) with
 |none=>rw [q] at h;cases h
 |some t1 =>
  rw [q] at h;obtain ⟨e,l1⟩:=ze0 q;exact zmx (fs:=[f]) (zeL hf.2) l1 (zml hf.2 hf.1) hfs (by rw [<- e];exact h)
theorem zh4 {f:List (List (Int×Int))}{fs:List (List (List (Int×Int)))}{most:Int}(hf:f ≠ []/\∀ r∈f,JRow r)(hfs:∀ g∈fs,g ≠ []/\∀ r∈g,JRow r)(l1:f.length<64)(m1:0<=most)(m2:most<=1000)(l2:fs.length<=900)
 (sz:∀ (i:Nat) (t g:List (List (Int×Int))),AllOk (f::fs.take i) t->(t.length:Int)<=most->fs[i]? = some g->(zd2 t g).length<64/\t.length+g.length+t.length*g.length<=1000) :
 F_z7 [.lst ((f::fs).map frD),.int most]=resF (allP most f fs):=by
 have w1:=zcd (rs:=f) (most:=most) (fun r hr=>(hf.2 r hr).ne) (fun r hr=>(hf.2 r hr).rise) (fun r hr=>by have:=(hf.2 r hr).len;omega) l1 m1 m2;have a0:atI ((f::fs).map frD) 0=some (frD f):=by
  rw [show ((0:Int))=((0:Nat):Int) from rfl,zg7 (by simp)];rfl
 have sl:zaQ (frD f::fs.map frD) (some 1) none none=fs.map frD:=by
  rw [zlr _ (by omega)];rfl
 unfold allP;cases q:limF most (zaA f) with
 |none =>
  rw [q] at w1;have w1:F_z9 [frD f,.int most]=.ex "TooMany" []:=w1;show _=Res.ex "TooMany" [];simp [F_z7,G_z7] at a0 ⊢;simp [a0,w1]
 |some t0 =>
  rw [q] at w1;obtain ⟨e0,l0⟩:=ze0 q;have w1:F_z9 [frD f,.int most]=.ok (frD t0):=w1;show _=resF (allQ most t0 fs);have A0:AllOk [f] t0:=by rw [e0];exact zeL hf.2
  have key:((forT (.one 3) (sSet 2 (zan F_z9 (zab (zd7 F_z8 (zab (dVar 2) (zab (dVar 3) dNil))) (zab (dVar 1) dNil)))) (fs.map frD) [some (.val (.lst ((f::fs).map frD))),some (.val (.int most)),some (.val (frD t0)),none]).bind (seqK (sRet (dVar 2)))).bind outV=resF (allQ most t0 fs):=by
   refine zi9 (R:=fun z=>(z.bind (seqK (sRet (dVar 2)))).bind outV=resF (allQ most t0 fs)) (P:=fun i sd=>∃ (t:List (List (Int×Int))) (u3:Option SV),sd=[some (.val (.lst ((f::fs).map frD))),some (.val (.int most)),some (.val (frD t)),u3]/\AllOk (f::fs.take i) t/\(t.length:Int)<=most/\allQ most t (fs.drop i)=allQ most t0 fs) ⟨t0,none,rfl,A0,by rw [e0];exact l0,rfl⟩ ?_ ?_
   ·rintro sd ⟨t,u3,rfl,A,lt,hq⟩;rw [Zql,List.drop_length] at hq;rw [<- hq];simp [resF,allQ]
   ·rintro i x sd hx ⟨t,u3,rfl,A,lt,hq⟩;refine zc1b (zbY hx) fun g hg zr2=>?_;subst zr2;have hi:=(List.getElem?_eq_some_iff.mp hg).1;have hm:=List.mem_of_getElem? hg;obtain ⟨s1,s2⟩:=sz i t g A lt hg;have fj:=f_z8 (f:=t) (g:=g) A.row (hfs g hm).2 s2;have rows:=zfS A.row (hfs g hm).2;have fw:=zcd (rs:=zd2 t g) (most:=most) (fun r hr=>(rows r hr).ne) (fun r hr=>(rows r hr).rise) (fun r hr=>by have:=(rows r hr).len;omega) s1 m1 m2;rw [zou A.row (hfs g hm).2] at fw;have ed:fs.drop i=g::fs.drop (i+1):=by
     rw [List.drop_eq_getElem_cons hi];rw [Zqg hi] at hg;rw [Zqi hg]
    rw [ed,zeS] at hq;cases y:limF most (zbF t g) with
    |none =>
     rw [y] at fw hq;have fw:F_z9 [frD (zd2 t g),.int most]=.ex "TooMany" []:=fw;refine .inr ⟨"TooMany",[],by simp [fj,fw],?_⟩;rw [<- hq];rfl
    |some t1 =>
     rw [y] at fw hq;obtain ⟨e1,l1⟩:=ze0 y;have fw:F_z9 [frD (zd2 t g),.int most]=.ok (frD t1):=fw;refine .inl ⟨[some (.val (.lst ((f::fs).map frD))),some (.val (.int most)),some (.val (frD t1)),some (.val (frD g))],by simp [fj,fw],t1,_,rfl,?_,by rw [e1];exact l1,hq⟩;rw [zaW hg,e1];exact zdO A (hfs g hm).2
  simp [F_z7,G_z7] at a0 key ⊢;simp [a0,w1,sl,key]
theorem zhM {fs:List (List (List (Int×Int)))}{t t':List (List (Int×Int))}(A:AllOk fs t)(B:AllOk fs t'):t=t':=by
 have half:∀ {t t':List (List (Int×Int))},AllOk fs t->AllOk fs t'->∀ r,r∈t->r∈t':=fun {t t'} A B r hr=>by
  refine zc1b (B.least r fun f hf=>A.abv r hr f hf) fun s hs hu=>?_;refine zc1b (A.least s fun f hf=>B.abv s hs f hf) fun r' hr' hu'=>?_;have e:=A.anti r' hr' r hr (za6 hu' hu);rw [e] at hu';rw [zdF (A.row r hr).once (B.row s hs).once (A.row r hr).rise (B.row s hs).rise hu' hu];exact hs
 exact zb0 zaC A.strict B.strict fun r=>⟨half A B r,half B A r⟩
theorem zkK:∀ {gs fs:List (List (List (Int×Int)))} {t:List (List (Int×Int))},AllOk fs t->(∀ g∈gs,∀ r∈g,JRow r)->AllOk (fs++gs) (gs.foldl zbF t)
 | [],fs,t,A,_=>by rw [List.append_nil];exact A
 |g::gs,fs,t,A,h=>by
  have:=zkK (gs:=gs) (zdO A (h g Zqs)) fun x hx=>h x (Zqm _ hx);rw [List.append_assoc] at this;exact this
def G_z0:FS:=(sRet (dBlt ziz (zab (zaP [none,none,some 1] (iS (dVar 0)) (.tup [0,1]) (dOp gAdd (dOp gIx (dVar 2) (dVar 0)) (dVar 1))) dNil)))
def F_z0:List D->Res D:=runD 2 2 G_z0
theorem f_z0 {r:List (Int×Int)}{hs:List Int}(hne:r ≠ [])(hl:r.length<=1000)(hb:∀ p∈r,0<=p.1/\p.1<(hs.length:Int)):F_z0 [rwD r,.lst (hs.map .int)]=.ok (.int (zbh r hs)):=by
 have key:mapE (.tup [0,1]) (dOp gAdd (dOp gIx (dVar 2) (dVar 0)) (dVar 1)) [none,none,some (.val (.lst (hs.map .int)))] (r.map prD)=.ok (r.map fun p=>.int (nthI hs p.1+p.2)):=zbk fun p hp=>by
  simp [zcJ (hb p hp).1 (hb p hp).2]
 have e:r.map (fun p=>D.int (nthI hs p.1+p.2))=(r.map fun p=>nthI hs p.1+p.2).map .int:=by rw [List.map_map];rfl
 have hm:=zgc (ns:=r.map fun p=>nthI hs p.1+p.2) (fun z=>hne (List.map_eq_nil_iff.mp z));rw [<- e] at hm;simp [F_z0,G_z0,rwD,key,zaj hl,hm,zbh]
def G_z6:FS:=(sRet (dBlt zjX (zab (zaP [none,some 1] (iS (dVar 0)) (.one 0) (zan F_z0 (zab (dVar 0) (zab (dVar 1) dNil)))) dNil)))
def F_z6:List D->Res D:=runD 2 2 G_z6
theorem f_z6 {f:List (List (Int×Int))}{hs:List Int}(hf:f ≠ [])(hl:f.length<=1000)(hne:∀ r∈f,r ≠ [])(hr:∀ r∈f,r.length<=1000)(hb:∀ r∈f,∀ p∈r,0<=p.1/\p.1<(hs.length:Int)):F_z6 [frD f,.lst (hs.map .int)]=.ok (.int (zbO f hs)):=by
 have key:mapE (.one 0) (zan F_z0 (zab (dVar 0) (zab (dVar 1) dNil))) [none,some (.val (.lst (hs.map .int)))] (f.map rwD)=.ok (f.map fun r=>.int (zbh r hs)):=zbk fun r h=>by
  simp [f_z0 (hne r h) (hr r h) (hb r h)]
 have e:f.map (fun r=>D.int (zbh r hs))=(f.map fun r=>zbh r hs).map .int:=by rw [List.map_map];rfl
 have hm:=zfO (ns:=f.map fun r=>zbh r hs) (fun z=>hf (List.map_eq_nil_iff.mp z));rw [<- e] at hm;simp [F_z6,G_z6,frD,key,zaj hl,hm,zbO]
def znw:FS:=(sSeq (sSet 2 (zan F_z6 (zab (dVar 0) (zab (dVar 1) dNil)))) (sRet (zbC [none,some 1,some 2] (iS (dVar 0)) (.one 0) (zaq (dOp gEq (zan F_z0 (zab (dVar 0) (zab (dVar 1) dNil))) (dVar 2))) (dVar 0))))
def zhW:List D->Res D:=runN 3 2 znw
theorem zr7 {f:List (List (Int×Int))}{hs:List Int}(o:Over f hs)(hl:f.length<=1000)(hr:∀ r∈f,r.length<=1000):zhW [frD f,.lst (hs.map .int)]=.ok (frD (fdF f hs)):=by
 have fh:=f_z6 o.ne hl o.rne hr o.bnd;have key:zcK (.one 0) (zaq (dOp gEq (zan F_z0 (zab (dVar 0) (zab (dVar 1) dNil))) (dVar 2))) (dVar 0) [none,some (.val (.lst (hs.map .int))),some (.val (.int (zbO f hs)))] (f.map rwD)=.ok ((f.filter fun r=>decide (zbh r hs=zbO f hs)).map rwD) :=
  zcm (s:=fun r=>[some (.val (rwD r)),some (.val (.lst (hs.map .int))),some (.val (.int (zbO f hs)))]) (fun r _=>rfl) (fun r h=>by
   simp [f_z0 (o.rne r h) (hr r h) (o.bnd r h)]) (fun r _ _=>by simp)
 simp [zhW,znw,fh,key,zaj hl,fdF];rfl
def zn3:FS:=(sSeq (sSet 2 (zan F_z0 (zab (dVar 0) (zab (dVar 1) dNil)))) (sRet (zbC [none,none,some 1,some 2] (iS (dVar 0)) (.tup [0,1]) (zaq (dOp gEq (dOp gAdd (dOp gIx (dVar 2) (dVar 0)) (dVar 1)) (dVar 3))) (dTup (zab (dTup (zab (dVar 0) (zab (dC (.int 0)) dNil))) dNil)))))
def zka:List D->Res D:=runN 3 2 zn3
theorem f_z13 {r:List (Int×Int)}{hs:List Int}(hne:r ≠ [])(hl:r.length<=1000)(hb:∀ p∈r,0<=p.1/\p.1<(hs.length:Int)):zka [rwD r,.lst (hs.map .int)]=.ok (frD (zak hs r)):=by
 have fr:=f_z0 hne hl hb;have key:zcK (.tup [0,1]) (zaq (dOp gEq (dOp gAdd (dOp gIx (dVar 2) (dVar 0)) (dVar 1)) (dVar 3))) (dTup (zab (dTup (zab (dVar 0) (zab (dC (.int 0)) dNil))) dNil)) [none,none,some (.val (.lst (hs.map .int))),some (.val (.int (zbh r hs)))] (r.map prD)=.ok ((r.filter fun p=>decide (nthI hs p.1+p.2=zbh r hs)).map fun p=>rwD (zR [p.1])) :=
  zcm (s:=fun p=>[some (.val (.int p.1)),some (.val (.int p.2)),some (.val (.lst (hs.map .int))),some (.val (.int (zbh r hs)))]) (fun p _=>by simp) (fun p hp=>by
   have ea:=zcJ (hs:=hs) (hb p hp).1 (hb p hp).2;simp [ea]) (fun p _ _=>by simp [rwD,zR,prD])
 have e:(zak hs r).map rwD=(r.filter fun p=>decide (nthI hs p.1+p.2=zbh r hs)).map fun p=>rwD (zR [p.1]):=by
  unfold zak zcY;rw [List.map_map,List.map_map];rfl
 rw [<- e] at key;have hz:=zaj hl;have fb:D.lst ((zak hs r).map rwD)=frD (zak hs r):=rfl;generalize (zak hs r).map rwD=q at key fb;generalize hs.map D.int=q3 at fr key ⊢;simp [zka,zn3,fr,hz,key,fb]
def zoo:FS:=(sRet (zaP [none] (iS (dVar 0)) (.one 0) (dBlt zcU (zab (zaP [none,none] (iS (dVar 0)) (.tup [0,1]) (dVar 0)) dNil))))
def zic:List D->Res D:=runN 1 1 zoo
theorem zsB {rs:List (List (Int×Int))}(hl:rs.length<=1000)(hr:∀ r∈rs,r.length<=1000):zic [frD rs]=.ok (.lst ((rs.map thR).map itD)):=by
 have key:mapE (.one 0) (dBlt zcU (zab (zaP [none,none] (iS (dVar 0)) (.tup [0,1]) (dVar 0)) dNil)) [none] (rs.map rwD)=.ok ((rs.map thR).map itD):=by
  rw [List.map_map];refine zbk fun r h=>?_;have k1:mapE (.tup [0,1]) (dVar 0) [none,none] (r.map prD)=.ok ((thR r).map .int):=by
   unfold thR;rw [List.map_map];exact zbk fun p _=>by simp
  have hz:=zaj (hr r h);generalize hq:(thR r).map D.int=q at k1;have e:itD (thR r)=.tup q:=by unfold itD;rw [hq]
  show _=Res.ok (itD (thR r));rw [e];simp [k1,hz]
 have hz:=zaj hl;generalize (rs.map thR).map itD=q at key ⊢;simp [zic,zoo,key,hz]
def zmU:FS:=(sSeq (sSet 3 (zaP [none,some 1] (iS (zd7 zhW (zab (dVar 0) (zab (dVar 1) dNil)))) (.one 0) (zd7 zka (zab (dVar 0) (zab (dVar 1) dNil))))) (sRet (zd7 zic (zab (zan F_z7 (zab (dVar 3) (zab (dVar 2) dNil))) dNil))))
def ze3:List D->Res D:=runN 4 3 zmU
theorem ztJ {n:Nat}{a b:List Int}(n6:n<=6)(ha:a∈zaG n)(hb:b∈zaG n)(na:a ≠ [])(nb:b ≠ []):∃ c∈zaG n,c ≠ []/\zbI (zR a) (zR b)=zR c:=by
 have ja:=zlo n6 ha na;have jb:=zlo n6 hb nb;have jj:=zct ja jb;have h:∀ p∈zbI (zR a) (zR b),p.2=0/\(p.1∈a\/p.1∈b):=fun p hp=>by
  have l:=jj.once.look (t:=p.1) (w:=p.2) hp;rw [zcG ja.once jb.once] at l;cases e1:zam (zR a) p.1 with
  |none =>
   cases e2:zam (zR b) p.1 with
   |none=>rw [e1,e2] at l;cases l
   |some w =>
    obtain ⟨x,y⟩:=zmI e2;rw [e1,e2] at l;cases l;exact ⟨x,.inr y⟩
  |some v =>
   obtain ⟨x,y⟩:=zmI e1;cases e2:zam (zR b) p.1 with
   |none =>
    rw [e1,e2] at l;cases l;exact ⟨x,.inl y⟩
   |some w =>
    obtain ⟨x',y'⟩:=zmI e2;rw [e1,e2,x,x'] at l;have l:some (0:Int)=some p.2:=l;exact ⟨(Zqi l).symm,.inl y⟩
 refine ⟨thR (zbI (zR a) (zR b)),(zaz n _).mpr ⟨jj.rise,fun x hx=>?_⟩,fun z=>jj.ne (List.map_eq_nil_iff.mp z),zth fun p hp=>(h p hp).1⟩;refine zc1b (List.mem_map.mp hx) fun p hp zr2=>?_;subst zr2;rcases (h p hp).2 with z|z
 ·exact ((zaz n a).mp ha).2 _ z
 ·exact ((zaz n b).mp hb).2 _ z
def Zs (n:Nat)(t:List (List (Int×Int))):Prop:=∀ q∈t,∃ a∈zaG n,a ≠ []/\q=zR a
theorem zqu {n:Nat}{t g:List (List (Int×Int))}(n6:n<=6)(ht:Zs n t)(hg:Zs n g):Zs n (zbF t g):=fun q hq=>by
 refine zc1b (zbt.mp (zax.mp hq).1) fun r hr zz=>zc1b zz fun o ho zr4=>?_;subst zr4;refine zc1c (ht r hr) fun a ha na zr3=>?_;subst zr3;refine zc1c (hg o ho) fun b hb nb zr3=>?_;subst zr3;exact ztJ n6 ha hb na nb
theorem zlB {n:Nat}(n6:n<=6):∀ {gs:List (List (List (Int×Int)))} {t:List (List (Int×Int))},Zs n t->(∀ g∈gs,Zs n g)->Zs n (gs.foldl zbF t)
 | [],t,T,_=>T
 |g::gs,t,T,hg=>zlB n6 (gs:=gs) (t:=zbF t g) (zqu n6 T (hg g Zqs)) fun x hx=>hg x (Zqm _ hx)
theorem zkH {n:Nat}{r:List (Int×Int)}{hs:List Int}(ok:RowOk (n:Int) r)(ri:Rise r):Zs n (zak hs r):=fun q hq=>by
 refine zc1b (List.mem_map.mp hq) fun t ht zr2=>?_;subst zr2;have:=((zaz n _).mp (zg2 (hs:=hs) ok ri)).2 t ht;exact ⟨[t],(zaz n _).mpr ⟨List.pairwise_singleton _ _,fun x hx=>by rw [List.mem_singleton.mp hx];exact this⟩,by simp,rfl⟩
theorem Zs.row {n:Nat}{t:List (List (Int×Int))}(n6:n<=6)(h:Zs n t):∀ q∈t,JRow q:=fun q hq=>by
 refine zc1c (h q hq) fun a ha na zr3=>?_;subst zr3;exact zlo n6 ha na
theorem zb8 {n:Nat}{a:List Int}(h:a∈zaG n):a.Nodup:=zlF ((zaz n a).mp h).1
theorem zno {n:Nat}{t:List (List (Int×Int))}(n6:n<=6)(z:Zs n t)(nd:t.Nodup)(anti:∀ r∈t,∀ s∈t,zai r s=true->r=s):t.length<=32:=by
 have key:(t.map fun q=>(thR q).filter fun x => !decide (x=5)).Nodup:=by
  rw [List.nodup_iff_pairwise_ne,List.pairwise_map];refine List.Pairwise.imp_of_mem (fun {q q'} hq hq' hn e=>hn ?_) (List.nodup_iff_pairwise_ne.mp nd);refine zc1c (z q hq) fun a ha _ zr3=>?_;subst zr3;refine zc1c (z q' hq') fun b hb _ zr3=>?_;subst zr3;rw [zbR,zbR] at e;have mem:∀ x,x≠5->(x∈a↔x∈b):=fun x hx=>by
   have:x∈a.filter (fun x => !decide (x=5))↔x∈b.filter (fun x => !decide (x=5)):=by rw [e]
   rw [List.mem_filter,List.mem_filter] at this;simpa [hx] using this
  by_cases c:(5:Int)∈a->(5:Int)∈b
  ·exact anti _ hq _ hq' ((zcw (zb8 hb)).mpr fun x hx=>by
    by_cases g:x=5
    ·rw [g];exact c (g ▸ hx)
    ·exact (mem x g).mp hx)
  ·have c1:(5:Int)∈a:=Classical.byContradiction fun z=>c fun y=>absurd y z;exact (anti _ hq' _ hq ((zcw (zb8 ha)).mpr fun x hx=>by
    by_cases g:x=5
    ·rw [g];exact c1
    ·exact (mem x g).mpr hx)).symm
 have l:=zcz (m:=zaG 5) key fun x hx=>by
  refine zc1b (List.mem_map.mp hx) fun q hq zr2=>?_;subst zr2;refine zc1c (z q hq) fun a ha _ zr3=>?_;subst zr3;rw [zbR];obtain ⟨h1,h2⟩:=(zaz n a).mp ha;refine (zaz 5 _).mpr ⟨List.Pairwise.filter _ h1,fun y hy=>?_⟩;obtain ⟨y1,y2⟩:=List.mem_filter.mp hy;have:=h2 y y1;have:y≠5:=by simpa using y2
  omega
 rw [Zql,zdw] at l;exact l
theorem zoF {n:Nat}{t:List (List (Int×Int))}{r:List (Int×Int)}{hs:List Int}(n6:n<=6)(z:Zs n t)(nd:t.Nodup)(anti:∀ r∈t,∀ s∈t,zai r s=true->r=s)(ok:RowOk (n:Int) r)(ri:Rise r):(zd2 t (zak hs r)).length<64/\t.length+(zak hs r).length+t.length*(zak hs r).length<=1000:=by
 have l32:=zno n6 z nd anti;have hG:=zio n6 (zg2 (hs:=hs) ok ri);obtain ⟨c1,c2⟩:=zpr _ hG;have lg:(zak hs r).length=(zcY r hs).length:=by unfold zak;rw [Zql]
 have g1:1<=(zcY r hs).length:=List.length_pos_iff.mpr (zmq ok.ne);have nb:(t.filter fun q => !covF (zak hs r) q).length<=cntG (zcY r hs):=by
  have l:=zcz (l:=(t.filter fun q => !covF (zak hs r) q).map thR) (m:=(zaG 6).filter fun S=>S.all fun x => !decide (x∈zcY r hs)) (by
   rw [List.nodup_iff_pairwise_ne,List.pairwise_map];refine List.Pairwise.imp_of_mem (fun {q q'} hq hq' hn e=>hn ?_) (List.nodup_iff_pairwise_ne.mp (List.Pairwise.filter _ nd));refine zc1c (z q (List.mem_filter.mp hq).1) fun a _ _ zr3=>?_;subst zr3;refine zc1c (z q' (List.mem_filter.mp hq').1) fun b _ _ zr3=>?_;subst zr3;rw [zbR,zbR] at e;rw [e]) fun x hx=>by
   refine zc1b (List.mem_map.mp hx) fun q hq zr2=>?_;subst zr2;obtain ⟨q1,q2⟩:=List.mem_filter.mp hq;refine zc1c (z q q1) fun a ha na zr3=>?_;subst zr3;rw [zbR];refine List.mem_filter.mpr ⟨zio n6 ha,List.all_eq_true.mpr fun y hy=>?_⟩;refine Bool.not_eq_true' _ |>.mpr (decide_eq_false fun hl=>?_);have:covF (zak hs r) (zR a)=true:=zig.mpr ⟨zR [y],List.mem_map.mpr ⟨y,hl,rfl⟩,(zcw (zb8 ha)).mpr fun w hw=>by rw [List.mem_singleton.mp hw];exact hy⟩;rw [this] at q2;cases q2
  rw [Zql] at l;exact l
 have fl:=zex (covF (zak hs r)) t;have cg:=List.length_filter_le (covF t) (zak hs r);have rg:=List.length_filter_le (fun o => !covF t o) (zak hs r);have m1:=Nat.mul_le_mul_left (t.filter fun q => !covF (zak hs r) q).length rg;rw [lg] at cg m1;obtain ⟨m,hm⟩:∃ m,(zcY r hs).length=m+1:=⟨(zcY r hs).length-1,by omega⟩;rw [hm] at c1 c2 cg m1;rw [Nat.mul_succ] at m1;have m2:=Nat.mul_le_mul_right m nb;have c1:cntG (zcY r hs)*m<=16:=c1;have m3:t.length*(zak hs r).length<=32*6:=Nat.mul_le_mul l32 (by omega);refine ⟨?_,by omega⟩;unfold zd2;rw [List.length_append,List.length_append,zgf];omega
theorem ziN {most:Int}:∀ (gs:List (List (List (Int×Int)))) (t:List (List (Int×Int))),(∀ k,k<=gs.length->(((gs.take k).foldl zbF t).length:Int)<=most)->allQ most t gs=some (gs.foldl zbF t)
 | [],t,_=>rfl
 |g::gs,t,h=>by
  have h1:=h 1 (by simp);have h1:((zbF t g).length:Int)<=most:=h1;rw [zeS,show limF most (zbF t g)=some (zbF t g) from if_pos h1];exact ziN gs (zbF t g) fun k hk=>h (k+1) (by rw [List.length_cons];omega)
theorem zhR {most:Int}:∀ (gs:List (List (List (Int×Int)))) (t:List (List (Int×Int))),(t.length:Int)<=most->(∃ k,k<=gs.length/\most<(((gs.take k).foldl zbF t).length:Int))->allQ most t gs=none
 | [],t,h0,⟨k,hk,h⟩=>by
  have:k=0:=by simpa using hk
  subst this;have h:most<(t.length:Int):=h;omega
 |g::gs,t,h0,⟨k,hk,h⟩=>by
  rw [zeS];by_cases c:((zbF t g).length:Int)<=most
  ·rw [show limF most (zbF t g)=some (zbF t g) from if_pos c];cases k with
   |zero =>
    have h:most<(t.length:Int):=h;omega
   |succ k=>exact zhR gs (zbF t g) c ⟨k,by rw [List.length_cons] at hk;omega,h⟩
  ·rw [show limF most (zbF t g)=none from if_neg c];rfl
def preJ (g:List (List (Int×Int)))(gs:List (List (List (Int×Int))))(k:Nat):List (List (Int×Int)):=(gs.take k).foldl zbF (zaA g)
theorem zn4 {most:Int}{g:List (List (Int×Int))}{gs:List (List (List (Int×Int)))}(h:∀ k,k<=gs.length->((preJ g gs k).length:Int)<=most):allP most g gs=some (preJ g gs gs.length):=by
 have h0:((zaA g).length:Int)<=most:=h 0 (Nat.zero_le _);unfold allP preJ;rw [show limF most (zaA g)=some (zaA g) from if_pos h0,List.take_length];exact ziN gs (zaA g) h
theorem zlA {most:Int}{g:List (List (Int×Int))}{gs:List (List (List (Int×Int)))}(h:∃ k,k<=gs.length/\most<((preJ g gs k).length:Int)):allP most g gs=none:=by
 unfold allP;by_cases c:((zaA g).length:Int)<=most
 ·rw [show limF most (zaA g)=some (zaA g) from if_pos c];exact zhR gs (zaA g) c h
 ·rw [show limF most (zaA g)=none from if_neg c];rfl
def resH:Option (List (List (Int×Int)))->Res D
 |some t=>.ok (.lst ((t.map thR).map itD))
 |none=>.ex "TooMany" []
theorem zpa {n:Nat}{hs:List Int}{r:List (Int×Int)}{rs:List (List (Int×Int))}(n6:n<=6)(ok:∀ q∈r::rs,RowOk (n:Int) q/\Rise q)(k:Nat):AllOk ((r::rs.take k).map (zak hs)) (preJ (zak hs r) (rs.map (zak hs)) k)/\Zs n (preJ (zak hs r) (rs.map (zak hs)) k):=by
 have zl:∀ q∈r::rs,Zs n (zak hs q):=fun q hq=>zkH (ok q hq).1 (ok q hq).2;have zg:∀ g∈(rs.map (zak hs)).take k,Zs n g:=fun g hg=>by
  refine zc1b (List.mem_map.mp (List.mem_of_mem_take hg)) fun q hq zr2=>?_;subst zr2;exact zl q (Zqm _ hq)
 have z0:=zl r Zqs;refine ⟨?_,zlB n6 (fun q hq=>z0 q (zax.mp hq).1) zg⟩;have:=zkK (gs:=(rs.map (zak hs)).take k) (zeL (z0.row n6)) fun g hg=>(zg g hg).row n6;show AllOk (zak hs r::(rs.take k).map (zak hs)) _;rw [List.map_take];exact this
theorem zhs {t:List (List (Int×Int))}(h:t.Pairwise fun a b=>rltB a b=true):t.Nodup:=h.imp fun {a b} h e=>by
 subst e;have:=zaC.asy _ _ h;rw [h] at this;cases this
theorem f_z11 {n:Nat}{f:List (List (Int×Int))}{hs:List Int}{most:Int}{r:List (Int×Int)}{rs:List (List (Int×Int))}(G:Good (n:Int) f)(hn:hs.length=n)(n6:n<=6)(m1:0<=most)(m2:most<=1000)(e:fdF f hs=r::rs):ze3 [frD f,.lst (hs.map .int),.int most]=resH (allP most (zak hs r) (rs.map (zak hs))):=by
 have o:Over f hs:=⟨G.ne,fun r hr=>(G.rows r hr).ne,fun r hr=>(G.rows r hr).once,fun r hr p hp=>by rw [hn];exact (G.rows r hr).mem p hp⟩;have fl:=G.len;have fd:=zr7 o (by omega) (fun r hr=>by have:=(G.rows r hr).len;omega);rw [e] at fd;have mem:∀ q∈r::rs,q∈f:=fun q hq=>(zh5.mp (by rw [e];exact hq)).1;have ok:∀ q∈r::rs,RowOk (n:Int) q/\Rise q:=fun q hq=>⟨G.rows q (mem q hq),G.rise q (mem q hq)⟩;have lr:(r::rs).length<=40:=by rw [<- e];exact Nat.le_trans (List.length_filter_le _ _) fl
 have key:mapE (.one 0) (zd7 zka (zab (dVar 0) (zab (dVar 1) dNil))) [none,some (.val (.lst (hs.map .int)))] ((r::rs).map rwD)=.ok (((r::rs).map (zak hs)).map frD):=by
  rw [List.map_map];refine zbk fun q hq=>?_;have:=f_z13 (hs:=hs) (ok q hq).1.ne (by have:=(ok q hq).1.len;omega) fun p hp=>o.bnd q (mem q hq) p hp;simp [this]
 have zl:∀ q∈r::rs,Zs n (zak hs q):=fun q hq=>zkH (ok q hq).1 (ok q hq).2;have nl:∀ q∈r::rs,zak hs q ≠ []:=fun q hq z=>zmq (ok q hq).1.ne (List.map_eq_nil_iff.mp z);have l6:∀ q∈r::rs,(zak hs q).length<=6:=fun q hq=>by
  have:=(zpr _ (zio n6 (zg2 (hs:=hs) (ok q hq).1 (ok q hq).2))).2;unfold zak;rw [Zql];exact this
 have fa:=zh4 (f:=zak hs r) (fs:=rs.map (zak hs)) (most:=most) ⟨nl r Zqs,(zl r Zqs).row n6⟩ (fun g hg=>by
  refine zc1b (List.mem_map.mp hg) fun q hq zr2=>?_;subst zr2;exact ⟨nl q (Zqm _ hq),(zl q (Zqm _ hq)).row n6⟩) (by have:=l6 r Zqs;omega) m1 m2 (by rw [Zql];rw [List.length_cons] at lr;omega) (fun i t g A _ hg=>by
  rw [List.getElem?_map] at hg;refine zc1b (Option.map_eq_some_iff.mp hg) fun q hq zr2=>?_;subst zr2;have qm:q∈r::rs:=Zqm _ (List.mem_of_getElem? hq);obtain ⟨A',Z⟩:=zpa (hs:=hs) n6 ok i;rw [List.map_cons,List.map_take] at A';have et:=zhM A A';rw [<- et] at Z;exact zoF n6 Z (zhs A.strict) A.anti (ok q qm).1 (ok q qm).2)
 have hz:=zaj (show (r::rs).length<=1000 by omega);have fa:F_z7 [.lst (((r::rs).map (zak hs)).map frD),.int most]=resF (allP most (zak hs r) (rs.map (zak hs))):=fa;have hz2:((r::rs).map rwD).length<sizeLine:=by rw [Zql];exact hz
 have fd:zhW [frD f,.lst (hs.map .int)]=.ok (.lst ((r::rs).map rwD)):=fd;generalize ((r::rs).map (zak hs)).map frD=q1 at key fa;generalize (r::rs).map rwD=q2 at key fd hz2;cases q:allP most (zak hs r) (rs.map (zak hs)) with
 |none =>
  rw [q] at fa;have fa:F_z7 [.lst q1,.int most]=.ex "TooMany" []:=fa;show _=Res.ex "TooMany" [];generalize hs.map D.int=q3 at fd key ⊢;simp [ze3,zmU,fd,hz2,key,fa]
 |some t =>
  rw [q] at fa;have fa:F_z7 [.lst q1,.int most]=.ok (frD t):=fa;obtain ⟨A,lt,_⟩:=zrd ⟨nl r Zqs,(zl r Zqs).row n6⟩ (fun g hg=>by
   refine zc1b (List.mem_map.mp hg) fun q hq zr2=>?_;subst zr2;exact ⟨nl q (Zqm _ hq),(zl q (Zqm _ hq)).row n6⟩) q
  have ft:=zsB (rs:=t) (by omega) fun q hq=>by have:=(A.row q hq).len;omega
  show _=Res.ok (D.lst ((t.map thR).map itD));generalize (t.map thR).map itD=q4 at ft ⊢;generalize hs.map D.int=q3 at fd key ⊢;simp [ze3,zmU,fd,hz2,key,fa,ft]
theorem zqa {n:Nat}{hs:List Int}{rows:List (List (Int×Int))}{t:List (List (Int×Int))}(hr:∀ r∈rows,r ≠ []/\∀ p∈r,0<=p.1/\p.1<(hs.length:Int))(A:AllOk (rows.map (zak hs)) t)(z:Zs n t):zid n hs rows=t.map thR:=by
 have hits:∀ {S:List Int},S∈zaG n->(rows.all (hitB hs S)=true↔∀ g∈rows.map (zak hs),∃ s∈g,zai s (zR S)=true):=fun {S} hS=>by
  rw [List.all_eq_true];constructor
  ·intro h g hg;refine zc1b (List.mem_map.mp hg) fun r hr' zr2=>?_;subst zr2;refine zc1b ((zg0 (hr r hr').1 (hr r hr').2).mp (h r hr')) fun x hx hxS=>?_;exact ⟨zR [x],List.mem_map.mpr ⟨x,hx,rfl⟩,(zcw (zb8 hS)).mpr fun y hy=>by rw [List.mem_singleton.mp hy];exact hxS⟩
  ·intro h r hr';refine zc1b (h _ (List.mem_map.mpr ⟨r,hr',rfl⟩)) fun s hs' hu=>?_;refine zc1b (List.mem_map.mp hs') fun x hx zr2=>?_;subst zr2;exact (zg0 (hr r hr').1 (hr r hr').2).mpr ⟨x,hx,(zcw (zb8 hS)).mp hu x Zqs⟩
 refine zb0 zgF (zb1 zgF (List.Pairwise.filter _ (List.Pairwise.filter _ (zcD n)))) ?_ fun x=>?_
 ·rw [List.pairwise_map];refine List.Pairwise.imp_of_mem (fun {a b} ha hb h=>?_) A.strict;refine zc1c (z a ha) fun a' _ _ zr3=>?_;subst zr3;refine zc1c (z b hb) fun b' _ _ zr3=>?_;subst zr3;rw [zbR,zbR];exact h
 ·unfold zid zfs;rw [(zal (ltb:=iltB) _).mem_iff,ze2];unfold zeT;constructor
  ·rintro ⟨hx,h⟩;obtain ⟨hx1,hx2⟩:=List.mem_filter.mp hx;refine zc1b (A.least (zR x) ((hits hx1).mp hx2)) fun q hq hu=>?_;refine zc1c (z q hq) fun a ha _ zr3=>?_;subst zr3;have e:=h a (List.mem_filter.mpr ⟨ha,(hits ha).mpr fun g hg=>A.abv _ hq g hg⟩) ((zcw (zb8 hx1)).mp hu);exact List.mem_map.mpr ⟨_,hq,by rw [zbR];exact e⟩
  ·intro hx;refine zc1b (List.mem_map.mp hx) fun q hq e=>?_;refine zc1c (z q hq) fun a ha _ zr3=>?_;subst zr3;rw [zbR] at e;subst e;refine ⟨List.mem_filter.mpr ⟨ha,(hits ha).mpr fun g hg=>A.abv _ hq g hg⟩,fun b hb hs'=>?_⟩;obtain ⟨hb1,hb2⟩:=List.mem_filter.mp hb;refine zc1b (A.least (zR b) ((hits hb1).mp hb2)) fun q' hq' hu=>?_;refine zc1c (z q' hq') fun c hc _ zr3=>?_;subst zr3;have hcb:=(zcw (zb8 hb1)).mp hu;have e:=zmk (A.anti _ hq' _ hq ((zcw (zb8 ha)).mpr fun y hy=>hs' y (hcb y hy)));exact zpW ((zaz n b).mp hb1).1 ((zaz n a).mp ha).1 fun y=>⟨hs' y,fun hy=>hcb y (by rw [e];exact hy)⟩
def znC:FS:=(sSeq (sSet 3 (dC (.bl false))) (sSeq (zoK "TooMany" (znT (zjq ze3 (zab (dVar 0) (zab (dVar 1) (zab (dVar 2) dNil))))) (sSet 3 (dC (.bl true)))) (sRet (dVar 3))))
def zkd:List D->Res D:=runD 4 3 znC
theorem f_z36 {a b:D}{most:Int}(h:ze3 [a,b,.int most]=.ex "TooMany" []):zkd [a,b,.int most]=.ok (.bl true):=by
 simp [zkd,znC,h,Res.strict]
def znP:FS:=(sSeq (sSet 3 (dBlt zoy (zab (dVar 2) (zab (dBlt zmE (zab (dC (.int 0)) (zab (dOp gSub (dBlt gLen (zab (dVar 0) dNil)) (dVar 1)) dNil))) dNil)))) (sRet (zaP [none,some 0,some 1,some 2] (iR1 (zab (dVar 3) dNil)) (.one 0) (dBlt gSum (zab (dSl (dVar 1) (zdQ (dOp gAdd (dVar 2) (dVar 0))) zb4 (zdQ (dVar 3))) dNil)))))
def zl5:List D->Res D:=runN 4 3 znP
theorem zhH {ns:List Int}(h:ns.length<=63){a most:Int}(a0:0<=a)(a1:a<=100)(m0:1<=most)(m1:most<=60):∃ cs:List Int,(cs.length:Int)<=most/\zl5 [.scr ns,.int a,.int most]=.ok (.lst (cs.map .int)):=by
 obtain ⟨m,hm,em⟩:∃ m:Nat,(m:Int)<=most/\(if (if a<(ns.length:Int) then (ns.length:Int)-a else 0)<most then (if a<(ns.length:Int) then (ns.length:Int)-a else 0) else most)=(m:Int):=by
  refine ⟨(if (if a<(ns.length:Int) then (ns.length:Int)-a else 0)<most then (if a<(ns.length:Int) then (ns.length:Int)-a else 0) else most).toNat,?_,?_⟩<;>(repeat' split)<;>omega
 have r1:zcc [.int (m:Int)]=.ok (zaD 0 m):=by
  rw [zbj (by omega) (by omega),Int.toNat_natCast]
 have key:mapE (.one 0) (dBlt gSum (zab (dSl (dVar 1) (zdQ (dOp gAdd (dVar 2) (dVar 0))) zb4 (zdQ (dVar 3))) dNil)) [none,some (.val (.scr ns)),some (.val (.int a)),some (.val (.int most))] (zaD 0 m)=.ok ((List.range m).map fun k:Nat=>.int (zaQ ns (some (a+(k:Int))) none (some most)).sum):=zcH fun i hi=>by
  have gs:=zpQ (ds:=ns) (lo:=some (a+(i:Int))) (hi:=none) (c:=most) (by omega);simp [gs]
 refine ⟨(List.range m).map fun k:Nat=>(zaQ ns (some (a+(k:Int))) none (some most)).sum,by simpa using hm,?_⟩;rw [List.map_map];have lz:=zaj (show m<=1000 by omega);simp [zl5,znP,em,r1,key,zbx,lz]
def G_z3:FS:=(sRet (dBlt zbw (zab (zan F_z4 (zab (dVar 0) (zab (dBlt gLen (zab (dVar 0) dNil)) dNil))) dNil)))
def F_z3:List D->Res D:=runN 1 1 G_z3
theorem f_z3 {rs:List (List (Int×Int))}(ne:∀ r∈rs,r ≠ [])(ri:∀ r∈rs,Rise r)(hl:∀ r∈rs,r.length<=100)(h64:rs.length<64):F_z3 [frD rs]=.ok (frD (zaA rs)):=by
 have fl:=f_z4 (en:=(rs.length:Int)) ne ri hl h64 (Int.le_refl _);have ll:(lowL rs).length<=rs.length:=Nat.le_trans (List.length_filter_le _ _) (ze1 rs);have gs:zbw [frD (lowL rs)]=some (.lst ((zaE rltB (lowL rs)).map rwD)):=zca (fun r hr=>ne r (zdB.mp (List.mem_filter.mp hr).1)) (by omega);rw [zeI] at gs;simp [F_z3,G_z3,fl,gs];rfl
def zo4:FS:=(sSeq (sSet 2 (zaP [none] (iS (zan zhW (zab (dVar 0) (zab (dVar 1) dNil)))) (.one 0) (dBlt zcU (zab (zaP [none,none] (iS (dVar 0)) (.tup [0,1]) (dTup (zab (dVar 0) (zab (dC (.int 0)) dNil)))) dNil)))) (sRet (zan zic (zab (zan F_z3 (zab (dVar 2) dNil)) dNil))))
def zjP:List D->Res D:=runN 3 2 zo4
theorem f_z10 {n:Nat}{f:List (List (Int×Int))}{hs:List Int}(G:Good (n:Int) f)(hn:hs.length=n)(h40:f.length<=40):zjP [frD f,.lst (hs.map .int)]=.ok (.lst ((zlw f hs).map itD)):=by
 have o:Over f hs:=⟨G.ne,fun r hr=>(G.rows r hr).ne,fun r hr=>(G.rows r hr).once,fun r hr p hp=>by rw [hn];exact (G.rows r hr).mem p hp⟩;have fd:=zr7 o (by omega) (fun r hr=>by have:=(G.rows r hr).len;omega);have lf:(fdF f hs).length<=40:=Nat.le_trans (List.length_filter_le _ _) h40;have mem:∀ r∈fdF f hs,r∈f:=fun r hr=>(zh5.mp hr).1;have key:mapE (.one 0) (dBlt zcU (zab (zaP [none,none] (iS (dVar 0)) (.tup [0,1]) (dTup (zab (dVar 0) (zab (dC (.int 0)) dNil)))) dNil)) [none] ((fdF f hs).map rwD)=.ok ((zdp f hs).map rwD):=by
  unfold zdp;rw [List.map_map];refine zbk fun r h=>?_;have k1:mapE (.tup [0,1]) (dTup (zab (dVar 0) (zab (dC (.int 0)) dNil))) [none,none] (r.map prD)=.ok ((zR (thR r)).map prD):=by
   unfold zR thR;rw [List.map_map,List.map_map];exact zbk fun p _=>by simp [prD]
  have hz:=zaj (show r.length<=1000 by have:=(G.rows r (mem r h)).len;omega);generalize hq:(zR (thR r)).map prD=q at k1;have e:rwD (zR (thR r))=.tup q:=by unfold rwD;rw [hq]
  show _=Res.ok (rwD (zR (thR r)));rw [e];simp [k1,hz]
 have bm:∀ q∈zdp f hs,∃ r∈f,q=zR (thR r):=fun q hq=>by
  refine zc1b (List.mem_map.mp hq) fun r hr e=>?_;exact ⟨r,mem r hr,e.symm⟩
 have lb:(zdp f hs).length<=40:=by unfold zdp;rw [Zql];exact lf
 have zl:∀ r:List (Int×Int),(zR (thR r)).length=r.length:=fun r=>by unfold zR thR;rw [Zql,Zql]
 have ft:=f_z3 (rs:=zdp f hs) (fun q hq z=>by
  refine zc1b (bm q hq) fun r hr e=>?_;have:=congrArg List.length (e.symm.trans z);rw [zl] at this;exact (G.rows r hr).ne (List.length_eq_zero_iff.mp this)) (fun q hq=>by
  refine zc1b (bm q hq) fun r hr zr2=>?_;subst zr2;show ((zR (thR r)).map (·.1)).Pairwise (· < ·);rw [show (zR (thR r)).map (·.1)=thR r from zbR _];exact G.rise r hr) (fun q hq=>by
  refine zc1b (bm q hq) fun r hr zr2=>?_;subst zr2;have:=(G.rows r hr).len;rw [zl];omega) (by omega)
 have tl:=zeQ (zdp f hs);have fe:=zsB (rs:=zaA (zdp f hs)) (by omega) (fun q hq=>by
  refine zc1b (bm q (zax.mp hq).1) fun r hr zr2=>?_;subst zr2;have:=(G.rows r hr).len;rw [zl];omega)
 have hz:=zaj (show (fdF f hs).length<=1000 by omega);have fb:D.lst ((zdp f hs).map rwD)=frD (zdp f hs):=rfl;show _=Res.ok (D.lst (((zaA (zdp f hs)).map thR).map itD));generalize ((zaA (zdp f hs)).map thR).map itD=q at fe ⊢;generalize (zdp f hs).map rwD=q1 at key fb;simp [zjP,zo4,fd,key,hz,fb,ft,fe]
def znH:FS:=(sSeq (sSet 1 (dOp gIx (dLst (zab (dC (.int 2)) (zab (dC (.int 3)) (zab (dC (.int 4)) (zab (dC (.int 5)) (zab (dC (.int 3)) (zab (dC (.int 4)) (zab (dC (.int 5)) (zab (dC (.int 6)) dNil))))))))) (dOp gMod (zan zde (zab (dVar 0) (zab (dC (.int 0)) dNil))) (dC (.int 8))))) (sSeq (sSet 2 (dOp gIx (dLst (zab (dC (.int 1)) (zab (dC (.int 2)) (zab (dC (.int 3)) (zab (dC (.int 4)) (zab (dC (.int 5)) (zab (dC (.int 6)) (zab (dC (.int 60)) (zab (dC (.int 60)) dNil))))))))) (dOp gMod (zan zde (zab (dVar 0) (zab (dC (.int 1)) dNil))) (dC (.int 8))))) (sSeq (sSet 3 (dOp gIx (zan zj8 (zab (zan zl5 (zab (dVar 0) (zab (dC (.int 2)) (zab (dC (.int 8)) dNil)))) (zab (dC (.int 1)) (zab (dVar 1) dNil)))) (dC (.int 0)))) (sSeq (sFor (iR1 (zab (dC (.int 3)) dNil)) (.one 4) (sSeq (sSet 5 (zan zi1 (zab (dVar 0) (zab (dOp gMul (dC (.int 2)) (dVar 4)) (zab (dVar 1) (zab (dVar 3) dNil)))))) (sSeq (sSet 6 (zan zke (zab (dVar 3) (zab (dVar 5) dNil)))) (sSeq (sSet 7 (zbC [none,some 5,some 6] (iS (dVar 3)) (.one 0) (zaq (dOp gEq (zan zc6 (zab (dVar 0) (zab (dVar 1) dNil))) (dVar 2))) (dVar 0))) (sSeq (sSet 8 (zaP [none,some 1,some 5,some 7] (iR1 (zab (dBlt gLen (zab (dVar 7) dNil)) dNil)) (.one 0) (dBlt gLen (zab (zan zep (zab (dSl (dVar 3) zb4 (zdQ (dOp gAdd (dVar 0) (dC (.int 1)))) zb4) (zab (dVar 2) (zab (dVar 1) dNil)))) dNil)))) (sSeq (sSet 9 (dLst (zab (dBlt zhV (zab (dVar 3) dNil)) (zab (dBlt zhV (zab (dVar 5) dNil)) dNil)))) (sSeq (sIf (zaq (dOp gGt (dBlt ziz (zab (dVar 8) dNil)) (dVar 2))) (sIf (zbT (zaq (zan zkd (zab (dOp gIx (dVar 9) (dC (.int 0))) (zab (dOp gIx (dVar 9) (dC (.int 1))) (zab (dVar 2) dNil)))))) (sRet (dC (.bl false))) zaR) (sSeq (sSet 10 (zan ze3 (zab (dOp gIx (dVar 9) (dC (.int 0))) (zab (dOp gIx (dVar 9) (dC (.int 1))) (zab (dVar 2) dNil))))) (sSeq (sIf (dOrT (zbT (zaq (zan zj6 (zab (dVar 10) dNil)))) (zaq (dOp gNe (dVar 10) (zan zep (zab (dVar 7) (zab (dVar 5) (zab (dVar 1) dNil))))))) (sRet (dC (.bl false))) zaR) (sFor (iS (zan zjP (zab (dVar 3) (zab (dVar 5) dNil)))) (.one 11) (sIf (zbT (zaq (dBlt gAll (zab (zaP [none,some 11] (iS (dVar 10)) (.one 0) (dBlt gAny (zab (zaP [none,some 1] (iS (dVar 0)) (.one 0) (dOp (gIn false) (dVar 0) (dVar 1))) dNil))) dNil)))) (sRet (dC (.bl false))) zaR))))) (sIf (zaq (dOp gNe (dVar 9) (dLst (zab (dVar 3) (zab (dVar 5) dNil))))) (sRet (dC (.bl false))) zaR)))))))) (sRet (dC (.bl true)))))))
def zi0:List D->Res D:=runD 12 1 znH
theorem zkz {rs:List (List (Int×Int))}(h:∀ r∈rs,Rise r)(i:Nat):Rise (rs.getD i []):=by
 rw [List.getD_eq_getElem?_getD];cases q:rs[i]? with
 |none=>exact zgw
 |some r=>exact h r (List.mem_of_getElem? q)
theorem zg8 {n:Int}{rs:List (List (Int×Int))}{c:Int}(h:∀ r∈rs,Rise r):∀ r∈zbd n rs c,Rise r:=by
 intro r hr;unfold zbd at hr
 split at hr
 ·rcases List.mem_append.mp hr with z|z
  ·exact h r z
  ·rw [List.mem_singleton.mp z];exact zhC (zkz h _)
 ·rcases List.mem_append.mp hr with z|z
  ·exact h r z
  ·rw [List.mem_singleton.mp z];exact zlU _ _ _ _ _
theorem zcM {n:Int}:∀ (cs:List Int) (rs:List (List (Int×Int))),(∀ r∈rs,Rise r)->∀ r∈cs.foldl (zbd n) rs,Rise r
 | [],rs,h=>h
 |c::cs,rs,h=>by rw [List.foldl_cons];exact zcM cs _ (zg8 h)
theorem zjS (n:Int)(cs:List Int):∀ r∈zc4 n cs,Rise r:=zcM cs [] fun _ h=>nomatch h
theorem zi5 {n:Int}{k:Nat}{rs:List (List (Int×Int))}(h1:1<=n)(ok:∀ r∈rs,RowOk n r)(ri:∀ r∈rs,Rise r)(hl:rs.length<=40):Good n (zh3 n k (zaA rs)):=by
 unfold zh3
 split
 ·refine znf ⟨by simp,by unfold Once;simp,fun p hp=>?_,by simp⟩ (zjn _);rw [List.mem_singleton.mp hp];exact ⟨Int.emod_nonneg _ (by omega),Int.emod_lt_of_pos _ (by omega)⟩
 ·rename_i q;have l:=zeQ rs;refine zl8 ok ri hl fun z=>q ?_;subst z;exact List.length_eq_zero_iff.mp (Nat.le_zero.mp l)
theorem ztk (L:List (List Int)):plN 12 (.lst (L.map itD))=true:=by
 show (L.map itD).all (plN 11)=true;rw [List.all_map,List.all_eq_true];exact fun a _=>zp2 9 a
theorem zky {n:Nat}{f:List (List (Int×Int))}{hs:List Int}(hr:∀ r∈f,r ≠ []/\∀ p∈r,0<=p.1/\p.1<(hs.length:Int)){S w:List Int}(hS:S∈zid n hs (fdF f hs))(hw:w∈zlw f hs):∃ t∈S,t∈w:=by
 unfold zid zfs at hS;rw [(zal (ltb:=iltB) _).mem_iff,ze2] at hS;refine zc1b (List.mem_map.mp hw) fun q hq zr2=>?_;subst zr2;refine zc1b (List.mem_map.mp (zax.mp hq).1) fun r hr' zr2=>?_;subst zr2;rw [zbR];have h:=List.all_eq_true.mp (List.mem_filter.mp hS.1).2 r hr';obtain ⟨x,y⟩:=hr r (zh5.mp hr').1;refine zc1b ((zg0 x y).mp h) fun t ht hts=>?_;refine zc1c (zd4.mp ht) fun p hp zr2 _=>?_;subst zr2;exact ⟨p.1,hts,List.mem_map.mpr ⟨p,hp,rfl⟩⟩
theorem zlK {L W:List (List Int)}{v0 v1 v2 v3 v4 v5 v6 v7 v8 v9 v11:Option SV}(l1:L.length<=1000)(l2:∀ S∈L,S.length<=1000)(h:∀ S∈L,∀ w∈W,∃ t∈S,t∈w):∃ u11,forT (.one 11) (sIf (zbT (zaq (dBlt gAll (zab (zaP [none,some 11] (iS (dVar 10)) (.one 0) (dBlt gAny (zab (zaP [none,some 1] (iS (dVar 0)) (.one 0) (dOp (gIn false) (dVar 0) (dVar 1))) dNil))) dNil)))) (sRet (dC (.bl false))) zaR) (W.map itD) [v0,v1,v2,v3,v4,v5,v6,v7,v8,v9,some (.val (.lst (L.map itD))),v11]=.ok (.next [v0,v1,v2,v3,v4,v5,v6,v7,v8,v9,some (.val (.lst (L.map itD))),u11]):=by
 obtain ⟨sd1,e1,u11,hsd1⟩:=zbn (tg:=.one 11) (b:=(sIf (zbT (zaq (dBlt gAll (zab (zaP [none,some 11] (iS (dVar 10)) (.one 0) (dBlt gAny (zab (zaP [none,some 1] (iS (dVar 0)) (.one 0) (dOp (gIn false) (dVar 0) (dVar 1))) dNil))) dNil)))) (sRet (dC (.bl false))) zaR)) (ds:=W.map itD)
  (sd:=[v0,v1,v2,v3,v4,v5,v6,v7,v8,v9,some (.val (.lst (L.map itD))),v11])
  (P:=fun _ sd=>∃ u11:Option SV,sd=[v0,v1,v2,v3,v4,v5,v6,v7,v8,v9,some (.val (.lst (L.map itD))),u11]) ⟨v11,rfl⟩ (by
   rintro i x sd hx ⟨u11,rfl⟩;refine zc1b (zbY hx) fun w hw zr2=>?_;subst zr2;have wm:=List.mem_of_getElem? hw;have key:mapE (.one 0) (dBlt gAny (zab (zaP [none,some 1] (iS (dVar 0)) (.one 0) (dOp (gIn false) (dVar 0) (dVar 1))) dNil)) [none,some (.val (itD w))] (L.map itD)=.ok ((L.map fun _=>true).map .bl):=by
    rw [List.map_map];refine zbk fun S hS=>?_;have k1:mapE (.one 0) (dOp (gIn false) (dVar 0) (dVar 1)) [none,some (.val (itD w))] (S.map .int)=.ok ((S.map fun t=>decide (t∈w)).map .bl):=by
     rw [List.map_map];refine zbk fun t _=>?_;have gi:=zpD false t w;simp at gi;simp [gi]
    have k2:gAny [.lst ((S.map fun t=>decide (t∈w)).map .bl)]=some (.bl true):=by
     rw [zje,List.any_map]
     congr 2
     refine zc1b (h S hS w wm) fun t ht htw=>?_;exact List.any_eq_true.mpr ⟨t,ht,decide_eq_true htw⟩
    have hz:=zaj (l2 S hS);have wk:zfC (itD S)=some (S.map .int):=rfl;generalize (S.map fun t=>decide (t∈w)).map D.bl=q1 at k1 k2;simp [wk,hz,k1,k2]
   have ga:=zey (L.map fun _=>true);rw [show (L.map fun _=>true).all id=true by rw [List.all_map,List.all_eq_true];exact fun _ _=>rfl] at ga;have hz:=zaj l1;have hz:(L.map itD).length<sizeLine:=by rw [Zql];exact hz
   generalize (L.map fun _=>true).map D.bl=q1 at key ga;generalize L.map itD=q2 at key hz;exact ⟨[v0,v1,v2,v3,v4,v5,v6,v7,v8,v9,some (.val (.lst q2)),some (.val (itD w))],by simp [key,hz,ga],_,rfl⟩)
 subst hsd1;exact ⟨u11,e1⟩
theorem zij (c:Int):∃ n:Nat,1<=n/\n<=6/\atI [D.int 2,D.int 3,.int 4,.int 5,.int 3,.int 4,.int 5,.int 6] (c % 8)=some (D.int n):=by
 obtain ⟨k,hk,h⟩:∃ k:Nat,k<8/\c % 8=k:=⟨(c % 8).toNat,by omega,by omega⟩;rw [h];have:k=0\/k=1\/k=2\/k=3\/k=4\/k=5\/k=6\/k=7:=by omega
 rcases this with rfl|rfl|rfl|rfl|rfl|rfl|rfl|rfl
 ·exact ⟨2,by omega,by omega,rfl⟩
 ·exact ⟨3,by omega,by omega,rfl⟩
 ·exact ⟨4,by omega,by omega,rfl⟩
 ·exact ⟨5,by omega,by omega,rfl⟩
 ·exact ⟨3,by omega,by omega,rfl⟩
 ·exact ⟨4,by omega,by omega,rfl⟩
 ·exact ⟨5,by omega,by omega,rfl⟩
 ·exact ⟨6,by omega,by omega,rfl⟩
theorem zmS (c:Int):∃ m:Int,0<=m/\m<=60/\atI [D.int 1,D.int 2,.int 3,.int 4,.int 5,.int 6,.int 60,.int 60] (c % 8)=some (D.int m):=by
 obtain ⟨k,hk,h⟩:∃ k:Nat,k<8/\c % 8=k:=⟨(c % 8).toNat,by omega,by omega⟩;rw [h];have:k=0\/k=1\/k=2\/k=3\/k=4\/k=5\/k=6\/k=7:=by omega
 rcases this with rfl|rfl|rfl|rfl|rfl|rfl|rfl|rfl
 ·exact ⟨1,by omega,by omega,rfl⟩
 ·exact ⟨2,by omega,by omega,rfl⟩
 ·exact ⟨3,by omega,by omega,rfl⟩
 ·exact ⟨4,by omega,by omega,rfl⟩
 ·exact ⟨5,by omega,by omega,rfl⟩
 ·exact ⟨6,by omega,by omega,rfl⟩
 ·exact ⟨60,by omega,by omega,rfl⟩
 ·exact ⟨60,by omega,by omega,rfl⟩
theorem law_true (ns:List Int)(h:ns.length<=63):zi0 [.scr ns]=.ok (.bl true):=by
 have fc0:zde [.scr ns,.int 0]=.ok (.int (zf8 ns 0)):=znI ns 0;have fc1:zde [.scr ns,.int 1]=.ok (.int (zf8 ns 1)):=znI ns 1;refine zc1c (zij (zf8 ns 0)) fun n n1 n2 hn=>?_;refine zc1c (zmS (zf8 ns 1)) fun most m1 m2 hm=>?_;refine zc1b (zhH h (a:=2) (most:=8) (by omega) (by omega) (by omega) (by omega)) fun cs hcs ftu=>?_;have ff:=f_z25 (cs:=cs) (many:=1) (n:=(n:Int)) (by omega) (by omega) (by omega) (by omega) (by omega);have e1:zcQ (n:Int) 1 (zc4 n cs) (1:Int).toNat=[zh3 n 0 (zaA (zaQ (zc4 n cs) (some ((0:Nat):Int)) none (some 1)))]:=rfl;rw [e1] at ff;have G:Good (n:Int) (zh3 n 0 (zaA (zaQ (zc4 n cs) (some ((0:Nat):Int)) none (some 1)))):=zi5 (by omega) (fun r hr=>zgx (by omega) (by omega) cs r (zg5 hr)) (fun r hr=>zjS n cs r (zg5 hr)) (by
  have a:=zgq (zc4 n cs) (some ((0:Nat):Int)) none (some 1);have b:=zeY n cs;omega)
 generalize zh3 n 0 (zaA (zaQ (zc4 n cs) (some ((0:Nat):Int)) none (some 1)))=f at ff G;have ff:zj8 [.lst (cs.map .int),.int 1,.int n]=.ok (.lst [frD f]):=ff;have r3:zcc [.int 3]=.ok (zaD 0 3):=zbj (by omega) (by omega);have fl40:=G.len
 obtain ⟨sd1,e2,u4,u5,u6,u7,u8,u9,u10,u11,hsd1⟩:=zbn (tg:=.one 4) (b:=(sSeq (sSet 5 (zan zi1 (zab (dVar 0) (zab (dOp gMul (dC (.int 2)) (dVar 4)) (zab (dVar 1) (zab (dVar 3) dNil)))))) (sSeq (sSet 6 (zan zke (zab (dVar 3) (zab (dVar 5) dNil)))) (sSeq (sSet 7 (zbC [none,some 5,some 6] (iS (dVar 3)) (.one 0) (zaq (dOp gEq (zan zc6 (zab (dVar 0) (zab (dVar 1) dNil))) (dVar 2))) (dVar 0))) (sSeq (sSet 8 (zaP [none,some 1,some 5,some 7] (iR1 (zab (dBlt gLen (zab (dVar 7) dNil)) dNil)) (.one 0) (dBlt gLen (zab (zan zep (zab (dSl (dVar 3) zb4 (zdQ (dOp gAdd (dVar 0) (dC (.int 1)))) zb4) (zab (dVar 2) (zab (dVar 1) dNil)))) dNil)))) (sSeq (sSet 9 (dLst (zab (dBlt zhV (zab (dVar 3) dNil)) (zab (dBlt zhV (zab (dVar 5) dNil)) dNil)))) (sSeq (sIf (zaq (dOp gGt (dBlt ziz (zab (dVar 8) dNil)) (dVar 2))) (sIf (zbT (zaq (zan zkd (zab (dOp gIx (dVar 9) (dC (.int 0))) (zab (dOp gIx (dVar 9) (dC (.int 1))) (zab (dVar 2) dNil)))))) (sRet (dC (.bl false))) zaR) (sSeq (sSet 10 (zan ze3 (zab (dOp gIx (dVar 9) (dC (.int 0))) (zab (dOp gIx (dVar 9) (dC (.int 1))) (zab (dVar 2) dNil))))) (sSeq (sIf (dOrT (zbT (zaq (zan zj6 (zab (dVar 10) dNil)))) (zaq (dOp gNe (dVar 10) (zan zep (zab (dVar 7) (zab (dVar 5) (zab (dVar 1) dNil))))))) (sRet (dC (.bl false))) zaR) (sFor (iS (zan zjP (zab (dVar 3) (zab (dVar 5) dNil)))) (.one 11) (sIf (zbT (zaq (dBlt gAll (zab (zaP [none,some 11] (iS (dVar 10)) (.one 0) (dBlt gAny (zab (zaP [none,some 1] (iS (dVar 0)) (.one 0) (dOp (gIn false) (dVar 0) (dVar 1))) dNil))) dNil)))) (sRet (dC (.bl false))) zaR))))) (sIf (zaq (dOp gNe (dVar 9) (dLst (zab (dVar 3) (zab (dVar 5) dNil))))) (sRet (dC (.bl false))) zaR)))))))) (ds:=zaD 0 3)
  (sd:=[some (.val (.scr ns)),some (.val (.int n)),some (.val (.int most)),some (.val (frD f)),none,none,none,none,none,none,none,none])
  (P:=fun _ sd=>∃ u4 u5 u6 u7 u8 u9 u10 u11:Option SV,sd=[some (.val (.scr ns)),some (.val (.int n)),some (.val (.int most)),some (.val (frD f)),u4,u5,u6,u7,u8,u9,u10,u11]) ⟨none,none,none,none,none,none,none,none,rfl⟩ (by
   rintro i x sd hx ⟨u4,u5,u6,u7,u8,u9,u10,u11,rfl⟩;obtain ⟨rfl,hi⟩:=zcB hx;refine zc1b (f_z34 (ns:=ns) (st:=2*i) (n:=n) (f:=f) (by omega) n1 (by omega) G.ne (fun r hr=>by have:=(G.rows r hr).len;omega) (fun r hr=>(G.rows r hr).once)) fun hs fn hl=>?_;have mu:gMul (.int 2) (.int (i:Int))=some (.int (2*(i:Int))):=zcV (zec (by omega) (by omega));rw [show (((2*i:Nat)):Int)=2*(i:Int) by omega] at fn;have bnd:∀ r∈f,r ≠ []/\∀ p∈r,0<=p.1/\p.1<(hs.length:Int):=fun r hr=>⟨(G.rows r hr).ne,fun p hp=>by rw [hl];exact (G.rows r hr).mem p hp⟩;have fco:=f_z27 (hs:=hs) G.ne (by omega) (fun r hr=>(bnd r hr).1) (fun r hr=>(bnd r hr).2);have k7:zcK (.one 0) (zaq (dOp gEq (zan zc6 (zab (dVar 0) (zab (dVar 1) dNil))) (dVar 2))) (dVar 0) [none,some (.val (.lst (hs.map .int))),some (.val (.int (zbO f hs)))] (f.map rwD)=.ok ((fdF f hs).map rwD) :=
    zcm (s:=fun r=>[some (.val (rwD r)),some (.val (.lst (hs.map .int))),some (.val (.int (zbO f hs)))]) (fun r _=>by simp) (fun r hr=>by
     have:=znz (bnd r hr).1 (bnd r hr).2;simp [this]) (fun r _ _=>by simp)
   obtain ⟨r,rs,er⟩:∃ r rs,fdF f hs=r::rs:=by
    cases q:fdF f hs with
    |nil=>exact absurd q (fd_ne G.ne)
    |cons r rs=>exact ⟨r,rs,rfl⟩
   have mem:∀ q∈r::rs,q∈f:=fun q hq=>(zh5.mp (by rw [er];exact hq)).1;have ok:∀ q∈r::rs,RowOk (n:Int) q/\Rise q:=fun q hq=>⟨G.rows q (mem q hq),G.rise q (mem q hq)⟩;have lr:(r::rs).length<=40:=by rw [<- er];exact Nat.le_trans (List.length_filter_le _ _) fl40
   rw [List.length_cons] at lr;have hold:∀ k,zid n hs (r::rs.take k)=(preJ (zak hs r) (rs.map (zak hs)) k).map thR:=fun k=>by
    obtain ⟨A,Z⟩:=zpa (hs:=hs) n2 ok k;refine zqa (fun q hq=>bnd q (mem q ?_)) A Z;rcases List.mem_cons.mp hq with z|z
    ·rw [z];exact Zqs
    ·exact Zqm _ (List.mem_of_mem_take z)
   have fho:∀ k,zep [frD (r::rs.take k),.lst (hs.map .int),.int n]=.ok (.lst (((preJ (zak hs r) (rs.map (zak hs)) k).map thR).map itD)):=fun k=>by
    rw [<- hold k];have sub:∀ q∈r::rs.take k,q∈f:=fun q hq=>mem q (by
     rcases List.mem_cons.mp hq with z|z
     ·rw [z];exact Zqs
     ·exact Zqm _ (List.mem_of_mem_take z))
    have lk:(rs.take k).length<=rs.length:=by rw [List.length_take];omega
    exact f_z35 n2 (by omega) (by simp) (by rw [List.length_cons];omega) (fun q hq=>(bnd q (sub q hq)).1) (fun q hq=>(bnd q (sub q hq)).2)
   have r8:zcc [.int (((r::rs).map rwD).length:Nat)]=.ok (zaD 0 (rs.length+1)):=by
    rw [Zql,List.length_cons,zbj (by omega) (by omega),Int.toNat_natCast]
   have k8:mapE (.one 0) (dBlt gLen (zab (zan zep (zab (dSl (dVar 3) zb4 (zdQ (dOp gAdd (dVar 0) (dC (.int 1)))) zb4) (zab (dVar 2) (zab (dVar 1) dNil)))) dNil)) [none,some (.val (.int n)),some (.val (.lst (hs.map .int))),some (.val (.lst ((r::rs).map rwD)))] (zaD 0 (rs.length+1))=.ok (((List.range (rs.length+1)).map fun k:Nat=>((preJ (zak hs r) (rs.map (zak hs)) k).length:Int)).map .int):=by
    rw [List.map_map];refine zcH fun k hk=>?_;have fh:=fho k;have pu:zaQ ((r::rs).map rwD) none (some ((k:Int)+1)) none=(r::rs.take k).map rwD:=by
     rw [zlG _ (by omega),show ((k:Int)+1).toNat=k+1 by omega,<- List.map_take];rfl
    have fh:zep [.lst ((r::rs.take k).map rwD),.lst (hs.map .int),.int n]=_:=fh;have ln:((((preJ (zak hs r) (rs.map (zak hs)) k).map thR).map itD).length:Int)=((preJ (zak hs r) (rs.map (zak hs)) k).length:Int):=by rw [Zql,Zql]
    generalize ((preJ (zak hs r) (rs.map (zak hs)) k).map thR).map itD=q1 at fh ln;generalize (r::rs.take k).map rwD=q2 at fh pu;generalize (r::rs).map rwD=q3 at pu;generalize hs.map D.int=q4 at fh;simp [pu,fh,ln]
   have cne:((List.range (rs.length+1)).map fun k:Nat=>((preJ (zak hs r) (rs.map (zak hs)) k).length:Int)) ≠ []:=by simp
   have gm:=zgc cne;obtain ⟨mx1,mx2⟩:=zc0 cne;have fH:=f_z11 G hl n2 m1 (show most<=1000 by omega) er;have p2:plN 12 (.lst [frD f,.lst (hs.map .int)])=true:=by
    show [frD f,D.lst (hs.map .int)].all (plN 11)=true;rw [List.all_cons,List.all_cons,pl_fr 7,pl_is 9];rfl
   have ne2:gNe (.lst [frD f,.lst (hs.map .int)]) (.lst [frD f,.lst (hs.map .int)])=some (.bl false):=by rw [zfF p2 p2,zaK];rfl
   have hz8:(zaD 0 (rs.length+1)).length<sizeLine:=zaj (by rw [zbx];omega);have hzf:(f.map rwD).length<sizeLine:=zaj (by rw [Zql];omega);by_cases c:most<maxI ((List.range (rs.length+1)).map fun k:Nat=>((preJ (zak hs r) (rs.map (zak hs)) k).length:Int))
   ·refine zc1b (List.mem_map.mp mx1) fun k hk ek=>?_;have hk:=List.mem_range.mp hk;have no:allP most (zak hs r) (rs.map (zak hs))=none:=zlA ⟨k,by rw [Zql];omega,by omega⟩;rw [no] at fH;have fR:=f_z36 (a:=frD f) (b:=.lst (hs.map .int)) (most:=most) fH;rw [er] at k7;generalize maxI ((List.range (rs.length+1)).map fun k:Nat=>((preJ (zak hs r) (rs.map (zak hs)) k).length:Int))=mx at gm c;generalize ((List.range (rs.length+1)).map fun k:Nat=>((preJ (zak hs r) (rs.map (zak hs)) k).length:Int)).map D.int=q1 at k8 gm;generalize (r::rs).map rwD=q2 at k7 k8 r8;generalize hs.map D.int=q3 at fn fco k7 k8 fR ne2;have ef:frD f=.lst (f.map rwD):=rfl;generalize f.map rwD=q4 at k7 hzf ef;rw [ef] at fn fco fR ne2 ⊢;have x0:atI [D.lst q4,D.lst q3] 0=some (.lst q4):=rfl;have x1:atI [D.lst q4,D.lst q3] 1=some (.lst q3):=rfl;refine ⟨[some (.val (.scr ns)),some (.val (.int n)),some (.val (.int most)),some (.val (.lst q4)),some (.val (.int (i:Int))),some (.val (.lst q3)),some (.val (.int (zbO f hs))),some (.val (.lst q2)),some (.val (.lst q1)),some (.val (.lst [.lst q4,.lst q3])),u10,u11],?_,_,_,_,_,_,_,_,_,rfl⟩;simp [mu,fn,fco,hzf,k7,r8,hz8,k8,gm,c,x0,x1,fR,ne2,zhw]
   ·have all:∀ k,k<=rs.length->((preJ (zak hs r) (rs.map (zak hs)) k).length:Int)<=most:=fun k hk=>by
     have:=mx2 _ (List.mem_map.mpr ⟨k,List.mem_range.mpr (by omega),rfl⟩);omega
    have yes:=zn4 (most:=most) (g:=zak hs r) (gs:=rs.map (zak hs)) (by rw [Zql];exact all);rw [Zql] at yes;rw [yes] at fH;have hw:=hold rs.length;rw [List.take_length,<- er] at hw;have fhw:=fho rs.length;rw [List.take_length] at fhw;have lt:=all rs.length (Nat.le_refl _);have S5:∀ S∈(preJ (zak hs r) (rs.map (zak hs)) rs.length).map thR,S.length<=1000:=fun S hS=>by
     rw [<- hw] at hS;unfold zid zfs at hS;rw [(zal (ltb:=iltB) _).mem_iff,ze2] at hS;obtain ⟨x,y⟩:=(zaz n S).mp (List.mem_filter.mp hS.1).1;have:=zfn x y;omega
    have meets:∀ S∈(preJ (zak hs r) (rs.map (zak hs)) rs.length).map thR,∀ w∈zlw f hs,∃ t∈S,t∈w:=fun S hS w hW=>zky (n:=n) bnd (by rw [hw];exact hS) hW;have fw:=f_z10 G hl fl40;have isS:=f_z33 (L:=(preJ (zak hs r) (rs.map (zak hs)) rs.length).map thR) S5;have p1:=ztk ((preJ (zak hs r) (rs.map (zak hs)) rs.length).map thR);have ne1:gNe (.lst (((preJ (zak hs r) (rs.map (zak hs)) rs.length).map thR).map itD)) (.lst (((preJ (zak hs r) (rs.map (zak hs)) rs.length).map thR).map itD))=some (.bl false):=by rw [zfF p1 p1,zaK];rfl
    have wl:=fun v0 v1 v2 v3 v4 v5 v6 v7 v8 v9 v11=>zlK (L:=(preJ (zak hs r) (rs.map (zak hs)) rs.length).map thR) (W:=zlw f hs) (v0:=v0) (v1:=v1) (v2:=v2) (v3:=v3) (v4:=v4) (v5:=v5) (v6:=v6) (v7:=v7) (v8:=v8) (v9:=v9) (v11:=v11) (by rw [Zql];omega) S5 meets;rw [er] at k7;have fH:ze3 [frD f,.lst (hs.map .int),.int most]=.ok (.lst (((preJ (zak hs r) (rs.map (zak hs)) rs.length).map thR).map itD)):=fH;generalize ((preJ (zak hs r) (rs.map (zak hs)) rs.length).map thR).map itD=q5 at fH fhw isS ne1 wl;generalize (zlw f hs).map itD=q6 at fw wl;generalize maxI ((List.range (rs.length+1)).map fun k:Nat=>((preJ (zak hs r) (rs.map (zak hs)) k).length:Int))=mx at gm c;generalize ((List.range (rs.length+1)).map fun k:Nat=>((preJ (zak hs r) (rs.map (zak hs)) k).length:Int)).map D.int=q1 at k8 gm;have fhw:zep [.lst ((r::rs).map rwD),.lst (hs.map .int),.int n]=.ok (.lst q5):=fhw;generalize (r::rs).map rwD=q2 at k7 k8 r8 fhw;generalize hs.map D.int=q3 at fn fco k7 k8 fH fhw fw ne2;have ef:frD f=.lst (f.map rwD):=rfl;generalize f.map rwD=q4 at k7 hzf ef;rw [ef] at fn fco fH fw ne2 ⊢;have x0:atI [D.lst q4,D.lst q3] 0=some (.lst q4):=rfl;have x1:atI [D.lst q4,D.lst q3] 1=some (.lst q3):=rfl;obtain ⟨w11,wl⟩:=wl (some (.val (.scr ns))) (some (.val (.int n))) (some (.val (.int most))) (some (.val (.lst q4))) (some (.val (.int (i:Int)))) (some (.val (.lst q3))) (some (.val (.int (zbO f hs)))) (some (.val (.lst q2))) (some (.val (.lst q1))) (some (.val (.lst [.lst q4,.lst q3]))) u11
    refine ⟨[some (.val (.scr ns)),some (.val (.int n)),some (.val (.int most)),some (.val (.lst q4)),some (.val (.int (i:Int))),some (.val (.lst q3)),some (.val (.int (zbO f hs))),some (.val (.lst q2)),some (.val (.lst q1)),some (.val (.lst [.lst q4,.lst q3])),some (.val (.lst q5)),w11],?_,_,_,_,_,_,_,_,_,rfl⟩;simp [mu,fn,fco,hzf,k7,r8,hz8,k8,gm,c,x0,x1,fH,isS,fhw,ne1,fw,wl,ne2,zhw])
 subst hsd1;have y0:atI [frD f] 0=some (frD f):=rfl;simp [zi0,znH,fc0,fc1,hn,hm,ftu,ff,y0,r3,e2]
end My
set_option maxHeartbeats 4000000
namespace My
open PySem L2 L2.DL
noncomputable def top (i:Nat):Stmt:=PySem.Challenge.pw_allfirst_k34_who_holds_it_up.main.body.getD i (.Pass ⟨0,0,0,0⟩)
structure Mg (mg:Str->Option Value):Prop where
 all_:mg "all" = none
 any_:mg "any" = none
 bool_:mg "bool" = none
 dict_:mg "dict" = none
 int_:mg "int" = none
 isinstance_:mg "isinstance" = none
 len_:mg "len" = none
 list_:mg "list" = none
 max_:mg "max" = none
 min_:mg "min" = none
 range_:mg "range" = none
 set_:mg "set" = none
 sorted_:mg "sorted" = none
 sum_:mg "sum" = none
 tuple_:mg "tuple" = none
section
variable {P:Program}{w:World}{K:W.Frag}{mg:Str->Option Value}{base:Heap}{f:Addr}{fd:FuncData}
abbrev zpO:Stmt:=top 23
theorem zsS:FnScope ["script", "k"] ["script", "k"] (zag zpO):=zbf
theorem zsg {k:Nat}(F:Fun K "_law_cell_at" "_law_cell_at" zpO f fd)(m:Mg mg)  : FnOk P w K mg base CX0 (k+1) f fd ["script", "k"] (SpD K zde):=by
 have sc:=zsS;refine fn_d (N:=["script", "k"]) (ps:=["script", "k"]) (g:=zl6) F sc fun cdv A outer s H E hr=>?_;unfold zl6;exact (zae (zbs (zaY o_lt (zac (pv 1)) (za7 (x := "len") zgG rfl m.len_ zd8 (zaa (zac (pv 0)) zad)) (zaO _)) (zaf (zaH (zbP (zbz hr) (zac (pv 0)) (zac (pv 1)) (fun _ _=>rfl) (fun _ _=>rfl)))) za8) (zaf (zaH zah)))
abbrev zqK:Stmt:=top 33
theorem zrX:FnScope ["row", "hours", "late", "thing", "wait"] ["row", "hours"] (zag zqK):=zbf
theorem zrQ {k:Nat}(F:Fun K "_law_done" "_law_done" zqK f fd)(m:Mg mg)  : FnOk P w K mg base CX0 (k+1) f fd ["row", "hours"] (SpD K zc6):=by
 have sc:=zrX;refine fn_d (N:=["row", "hours", "late", "thing", "wait"]) (ps:=["row", "hours"]) (g:=zo9) F sc fun cdv A outer s H E hr=>?_;unfold zo9;exact (zae (zaI (i:=2) sc.nd rfl (.inl rfl) zs0) (zae (zbp PassesOwn.never rfl (za5 (zac (pv 0))) (zfd [3,4] (zeX rfl (zbe (zaF (i:=3) sc.nd rfl (.inl rfl)) (zbe (zaF (i:=4) sc.nd rfl (.inl rfl)) zcZ)))) (zaf (zbs (QW.qt (zlO (zsh (zac (pv 2))) (zhO (zaY o_gt (q_op zcv (zbP (zbz hr) (zac (pv 1)) (zac (pv 3)) (fun _ _=>rfl) (fun _ _=>rfl)) (zac (pv 4))) (zac (pv 2)) (zaO _))))) (zaf (zaI (i:=2) sc.nd rfl (.inl rfl) (q_op zcv (zbP (zbz hr) (zac (pv 1)) (zac (pv 3)) (fun _ _=>rfl) (fun _ _=>rfl)) (zac (pv 4))))) za8))) (zaf (zaH (zac (pv 2))))))
abbrev zpM:Stmt:=top 34
theorem zrM:FnScope ["form", "hours"] ["form", "hours"] (zag zpM):=zbf
theorem zrI {k:Nat}(F:Fun K "_law_comes" "_law_comes" zpM f fd)(m:Mg mg)(c_z26:zar P w K mg base "_law_done" k ["row", "hours"] (SpD K zc6)):FnOk P w K mg base CX0 (k+1) f fd ["form", "hours"] (SpD K zke):=by
 have sc:=zrM;refine fn_d (N:=["form", "hours"]) (ps:=["form", "hours"]) (g:=zoz) F sc fun cdv A outer s H E hr=>?_;unfold zoz;exact (zaf (zaH (za7 (x := "min") (zpn rfl) rfl m.min_ zmi (zaa (QN.qe (zbA ["row", "hours"] [none,some 1] rfl rfl (za5 (zac (pv 0))) (fun _ _ _ _ _=>(za1 (pgn 0 (zbo ["row", "hours"])))) (fun _ _ _ _ _=>(q_fn c_z26 hr rfl (zaa (zac (pv 0)) (zaa (zac (pv 1)) zad)))))) zad))))
abbrev zpB:Stmt:=top 24
theorem zte:FnScope ["cell", "salt", "mixed"] ["cell", "salt"] (zag zpB):=zbf
theorem zsm {k:Nat}(F:Fun K "_law_mixed" "_law_mixed" zpB f fd)(m:Mg mg)  : FnOk P w K mg base CX0 (k+1) f fd ["cell", "salt"] (SpD K zen):=by
 have sc:=zte;refine fn_d (N:=["cell", "salt", "mixed"]) (ps:=["cell", "salt"]) (g:=znR) F sc fun cdv A outer s H E hr=>?_;unfold znR;exact (zae (zaI (i:=2) sc.nd rfl (.inl rfl) (q_op zcl (q_op zlh (q_op zcv (q_op zcl (zac (pv 0)) zah) (zac (pv 1))) zah) zah)) (zaf (zaH (q_op zcl (q_op zlh (zac (pv 2)) (zac (pv 2))) zah))))
abbrev zpA:Stmt:=top 26
theorem zrP:FnScope ["cell", "salt", "mixed", "size"] ["cell", "salt"] (zag zpA):=zbf
theorem zsw {k:Nat}(F:Fun K "_law_number" "_law_number" zpA f fd)(m:Mg mg)(c_z17:zar P w K mg base "_law_mixed" k ["cell", "salt"] (SpD K zen)):FnOk P w K mg base CX0 (k+1) f fd ["cell", "salt"] (SpD K zf3):=by
 have sc:=zrP;refine fn_d (N:=["cell", "salt", "mixed", "size"]) (ps:=["cell", "salt"]) (g:=zjG) F sc fun cdv A outer s H E hr=>?_;unfold zjG;exact (zae (zaI (i:=2) sc.nd rfl (.inl rfl) (q_fn c_z17 hr rfl (zaa (zac (pv 0)) (zaa (zac (pv 1)) zad)))) (zae (zbs (zaY o_gt (q_op zcl (zac (pv 2)) zah) zah (zaO _)) (zaf (zaH (q_op zqo (q_op zcl (q_op zgb (zac (pv 2)) zah) zah) zah))) za8) (zae (zaI (i:=3) sc.nd rfl (.inl rfl) (q_op zcl (q_op zlh (q_op zgb (zac (pv 0)) zah) (q_op zcv (zac (pv 1)) zah)) (q_op o_pow zah zah))) (zae (zbs (zaY (o_eq hr.units) (q_op zcl (q_op zgb (zac (pv 2)) zah) zah) zah (zaO _)) (zaf (zaH (zac (pv 3)))) za8) (zaf (zaH (q_un ztI (zac (pv 3)))))))))
abbrev zqG:Stmt:=top 27
theorem zss:FnScope ["cell", "things", "mask", "row", "thing"] ["cell", "things"] (zag zqG):=zbf
theorem zsj {k:Nat}(F:Fun K "_law_row" "_law_row" zqG f fd)(m:Mg mg)(c_z17:zar P w K mg base "_law_mixed" k ["cell", "salt"] (SpD K zen))(c_z19:zar P w K mg base "_law_number" k ["cell", "salt"] (SpD K zf3)):FnOk P w K mg base CX0 (k+1) f fd ["cell", "things"] (SpD K zmV):=by
 have sc:=zss;refine fn_d (N:=["cell", "things", "mask", "row", "thing"]) (ps:=["cell", "things"]) (g:=znn) F sc fun cdv A outer s H E hr=>?_;unfold znn;exact (zae (zaI (i:=2) sc.nd rfl (.inl rfl) (q_fn c_z17 hr rfl (zaa (zac (pv 0)) (zaa zah zad)))) (zae (zcs (i:=3) sc.nd rfl (.inl rfl) (zbZ zad)) (zae (zbp PassesOwn.never rfl (zbm rfl m.range_ (zaa (zac (pv 1)) zad)) (za1 (zaF (i:=4) sc.nd rfl (.inl rfl))) (zae (zbs (zaY (o_eq hr.units) (q_op zcl (zac (pv 2)) zah) zah (zaO _)) (zaf (zaZ (pv 3) (zeV (zaa (zac (pv 4)) (zaa (q_fn c_z19 hr rfl (zaa (zac (pv 0)) (zaa (q_op zcv zah (zac (pv 4))) zad))) zad))) (fun h1 h2=>zdK PySem.F.plainAttrs_list PySem.F.slot_list_append PySem.F.type_list_append zaX h1 h2))) za8) (zaf (zaI (i:=2) sc.nd rfl (.inl rfl) (q_op zgb (zac (pv 2)) zah))))) (zae (zbs (ziM [3] (zaY (o_eq hr.units) (zac (pv 3)) (QN.qe (zbZ zad)) (zaO _))) (zaf (zaZ (pv 3) (zeV (zaa (q_op zcl (zac (pv 0)) (zac (pv 1))) (zaa (q_fn c_z19 hr rfl (zaa (zac (pv 0)) (zaa zah zad))) zad))) (fun h1 h2=>zdK PySem.F.plainAttrs_list PySem.F.slot_list_append PySem.F.type_list_append zaX h1 h2))) za8) (zaf (zfg [3] (zaH (zcA (x := "tuple") zeR rfl m.tuple_ zcE (zaa (zac (pv 3)) zad)))))))))
abbrev zpJ:Stmt:=top 28
theorem zrA:FnScope ["row", "cell", "things", "waits", "other", "thing", "mixed"] ["row", "cell", "things"] (zag zpJ):=zbf
theorem zrJ {k:Nat}(F:Fun K "_law_varied" "_law_varied" zpJ f fd)(m:Mg mg)(c_z17:zar P w K mg base "_law_mixed" k ["cell", "salt"] (SpD K zen))(c_z19:zar P w K mg base "_law_number" k ["cell", "salt"] (SpD K zf3)):FnOk P w K mg base CX0 (k+1) f fd ["row", "cell", "things"] (SpD K zmo):=by
 have sc:=zrA;refine fn_d (N:=["row", "cell", "things", "waits", "other", "thing", "mixed"]) (ps:=["row", "cell", "things"]) (g:=znY) F sc fun cdv A outer s H E hr=>?_;unfold znY
 exact (zae (zaI (i:=3) sc.nd rfl (.inl rfl) (QN.qe (zbM (x := "dict") (zgV rfl) rfl m.dict_ zfq (zaa (zac (pv 0)) zad)))) (zae (zcs (i:=4) sc.nd rfl (.inl rfl) (zbZ zad)) (zae (zbp PassesOwn.never rfl (zbm rfl m.range_ (zaa (zac (pv 2)) zad)) (za1 (zaF (i:=5) sc.nd rfl (.inl rfl))) (zae (zaI (i:=6) sc.nd rfl (.inl rfl) (q_fn c_z17 hr rfl (zaa (zac (pv 1)) (zaa (q_op zcv zah (zac (pv 5))) zad)))) (zae (zbs (QW.qt (zhu (qt_in hr.units (zac (pv 5)) (zac (pv 3))) (zfx (zaY o_gt (q_op zcl (zac (pv 6)) zah) zah (zaO _))))) (zaf (zaZ (pv 4) (zeV (zaa (zac (pv 5)) (zaa (q_op zcv (zbP (zbz hr) (zac (pv 3)) (zac (pv 5)) (fun _ _=>rfl) (fun _ _=>rfl)) (zbP (zbz hr) (QN.qe (zbZ (zaa zah (zaa zah (zaa zah (zaa (q_un ztI zah) zad)))))) (q_op zcl (q_op zgb (zac (pv 6)) zah) zah) (fun _ _=>rfl) (fun _ _=>rfl))) zad))) (fun h1 h2=>zdK PySem.F.plainAttrs_list PySem.F.slot_list_append PySem.F.type_list_append zaX h1 h2))) za8) (zaf (zbs (QW.qt (zhu (zet hr.units (zac (pv 5)) (zac (pv 3))) (zfx (zaY (o_eq hr.units) (q_op zcl (zac (pv 6)) zah) zah (zaO _))))) (zaf (zaZ (pv 4) (zeV (zaa (zac (pv 5)) (zaa (q_fn c_z19 hr rfl (zaa (zac (pv 1)) (zaa (q_op zcv zah (zac (pv 5))) zad))) zad))) (fun h1 h2=>zdK PySem.F.plainAttrs_list PySem.F.slot_list_append PySem.F.type_list_append zaX h1 h2))) za8))))) (zae (zbs (ziM [4] (zaY (o_eq hr.units) (zac (pv 4)) (QN.qe (zbZ zad)) (zaO _))) (zaf (zaH (zac (pv 0)))) za8) (zaf (zfg [4] (zaH (zcA (x := "tuple") zeR rfl m.tuple_ zcE (zaa (zac (pv 4)) zad)))))))))
abbrev zqI:Stmt:=top 29
theorem zrH:FnScope ["cells", "things", "rows", "cell"] ["cells", "things"] (zag zqI):=zbf
theorem zsM {k:Nat}(F:Fun K "_law_list" "_law_list" zqI f fd)(m:Mg mg)(c_z20:zar P w K mg base "_law_row" k ["cell", "things"] (SpD K zmV))(c_z21:zar P w K mg base "_law_varied" k ["row", "cell", "things"] (SpD K zmo)):FnOk P w K mg base CX0 (k+1) f fd ["cells", "things"] (SpN K zlS):=by
 have sc:=zrH;refine fn_n (N:=["cells", "things", "rows", "cell"]) (ps:=["cells", "things"]) (g:=znB) F sc fun cdv A outer s H E hr=>?_;unfold znB;exact (zae (zcs (i:=2) sc.nd rfl (.inl rfl) (zbZ zad)) (zae (zbp PassesOwn.never rfl (za5 (zac (pv 0))) (za1 (zaF (i:=3) sc.nd rfl (.inl rfl))) (zaf (zbs (QW.qt (zhu (ziM [2] (zaY (o_ne hr.units) (zac (pv 2)) (QN.qe (zbZ zad)) (zaO _))) (zfx (zaY o_gt (q_op zcl (zac (pv 3)) zah) zah (zaO _))))) (zaf (zaZ (pv 2) (q_fn c_z21 hr rfl (zaa (zlY (zbz hr) (pv 2) (q_op zcl (q_op zgb (zac (pv 3)) zah) (zoc [2] (za7 (x := "len") zgG rfl m.len_ zd8 (zaa (zac (pv 2)) zad)))) (fun _ _=>rfl) (fun _ _=>rfl)) (zaa (zac (pv 3)) (zaa (zac (pv 1)) zad)))) (fun h1 h2=>zdK PySem.F.plainAttrs_list PySem.F.slot_list_append PySem.F.type_list_append zaX h1 h2))) (zaf (zaZ (pv 2) (q_fn c_z20 hr rfl (zaa (zac (pv 3)) (zaa (zac (pv 1)) zad))) (fun h1 h2=>zdK PySem.F.plainAttrs_list PySem.F.slot_list_append PySem.F.type_list_append zaX h1 h2)))))) (zaf (zc2 (pv 2)))))
abbrev zpI:Stmt:=top 30
theorem zsv:FnScope ["row", "other", "waits", "pair"] ["row", "other"] (zag zpI):=zbf
theorem ztM {k:Nat}(F:Fun K "_law_beneath" "_law_beneath" zpI f fd)(m:Mg mg)  : FnOk P w K mg base CX0 (k+1) f fd ["row", "other"] (SpD K zkc):=by
 have sc:=zsv;refine fn_d (N:=["row", "other", "waits", "pair"]) (ps:=["row", "other"]) (g:=zoj) F sc fun cdv A outer s H E hr=>?_;unfold zoj;exact (zae (zaI (i:=2) sc.nd rfl (.inl rfl) (QN.qe (zbM (x := "dict") (zgV rfl) rfl m.dict_ zfq (zaa (zac (pv 1)) zad)))) (zae (zbp PassesOwn.never rfl (za5 (zac (pv 0))) (za1 (zaF (i:=3) sc.nd rfl (.inl rfl))) (zaf (zbs (QW.qt (zlO (zet hr.units (zbP (zbz hr) (zac (pv 3)) zah (fun _ _=>rfl) (fun _ _=>rfl)) (zac (pv 2))) (zhO (zaY o_gt (zbP (zbz hr) (zac (pv 3)) zah (fun _ _=>rfl) (fun _ _=>rfl)) (zbP (zbz hr) (zac (pv 2)) (zbP (zbz hr) (zac (pv 3)) zah (fun _ _=>rfl) (fun _ _=>rfl)) (fun _ _=>rfl) (fun _ _=>rfl)) (zaO _))))) (zaf (zaH zcL)) za8))) (zaf (zaH zcL))))
abbrev zqp:Stmt:=top 31
theorem zse:FnScope ["rows", "least", "row", "beneath"] ["rows"] (zag zqp):=zbf
theorem zrY {k:Nat}(F:Fun K "_law_thin" "_law_thin" zqp f fd)(m:Mg mg)(c_z23:zar P w K mg base "_law_beneath" k ["row", "other"] (SpD K zkc)):FnOk P w K mg base CX0 (k+1) f fd ["rows"] (SpN K zlD):=by
 have sc:=zse;refine fn_n (N:=["rows", "least", "row", "beneath"]) (ps:=["rows"]) (g:=znM) F sc fun cdv A outer s H E hr=>?_;unfold znM;exact (zae (zcs (i:=1) sc.nd rfl (.inl rfl) (zbZ zad)) (zae (zbp PassesOwn.never rfl (za5 (zac (pv 0))) (za1 (zaF (i:=2) sc.nd rfl (.inr rfl))) (zae (zeh ["one", "row"] [none,some 2] sc.nd rfl (.inl rfl) rfl rfl (za5 (zac (pv 0))) (fun _ _ _ _ _=>(za1 (pgn 0 (zbo ["one", "row"])))) (fun _ _ _ _ _=>(QW.qt (zhu (zaY (o_ne hr.units) (zac (pv 0)) (zac (pv 1)) (zaO _)) (zfx (zbN (q_fn c_z23 hr rfl (zaa (zac (pv 0)) (zaa (zac (pv 1)) zad)))))))) (fun _ _ _ _ _=>(zac (pv 0)))) (zaf (zbs (QW.qt (zhu (zaY (o_eq hr.units) (zac (pv 3)) (QN.qe (zbZ zad)) (zaO _)) (zfx (ziM [1] (zet hr.units (zac (pv 2)) (zac (pv 1))))))) (zaf (zaZ (pv 1) (zac (pv 2)) (fun h1 h2=>zdK PySem.F.plainAttrs_list PySem.F.slot_list_append PySem.F.type_list_append zaX h1 h2))) za8)))) (zaf (zfg [1] (zbD (zev (x := "sorted") (zdJ hr.units) rfl m.sorted_ zce (zaa (zac (pv 1)) zad)))))))
abbrev zqR:Stmt:=top 32
theorem ztp:FnScope ["cells", "many", "things", "rows", "forms", "k"] ["cells", "many", "things"] (zag zqR):=zbf
theorem ztb {k:Nat}(F:Fun K "_law_forms" "_law_forms" zqR f fd)(m:Mg mg)(c_z22:zar P w K mg base "_law_list" k ["cells", "things"] (SpN K zlS))(c_z24:zar P w K mg base "_law_thin" k ["rows"] (SpN K zlD)):FnOk P w K mg base CX0 (k+1) f fd ["cells", "many", "things"] (SpN K zj8):=by
 have sc:=ztp;refine fn_n (N:=["cells", "many", "things", "rows", "forms", "k"]) (ps:=["cells", "many", "things"]) (g:=znQ) F sc fun cdv A outer s H E hr=>?_;unfold znQ;exact (zae (zaI (i:=3) sc.nd rfl (.inl rfl) (QN.qe (zdm c_z22 hr rfl (zaa (zac (pv 0)) (zaa (zac (pv 2)) zad))))) (zae (zcs (i:=4) sc.nd rfl (.inl rfl) (zbZ zad)) (zae (zbp PassesOwn.never rfl (zbm rfl m.range_ (zaa (zac (pv 1)) zad)) (za1 (zaF (i:=5) sc.nd rfl (.inl rfl))) (zae (zaZ (pv 4) (QN.qe (zdm c_z24 hr rfl (zaa (QN.qe (zgu (zac (pv 3)) (zdN (zac (pv 5))) zdT (zdN (zac (pv 1))))) zad))) (fun h1 h2=>zdK PySem.F.plainAttrs_list PySem.F.slot_list_append PySem.F.type_list_append zaX h1 h2)) (zaf (zbs (zaY (o_eq hr.units) (zlY (zbz hr) (pv 4) (zac (pv 5)) (fun _ _=>rfl) (fun _ _=>rfl)) (QN.qe (zbZ zad)) (zaO _)) (zaf (zqv (pv 4) (zac (pv 5)) (QN.qe (zbZ (zaa (zeV (zaa (zeV (zaa (q_op zcl (zac (pv 5)) (zac (pv 2))) (zaa zah zad))) zad)) zad))))) za8)))) (zaf (zc2 (pv 4))))))
abbrev zqc:Stmt:=top 39
theorem zsp:FnScope ["sets", "least", "one"] ["sets"] (zag zqc):=zbf
theorem zt5 {k:Nat}(F:Fun K "_law_least" "_law_least" zqc f fd)(m:Mg mg)  : FnOk P w K mg base CX0 (k+1) f fd ["sets"] (SpN K zlu):=by
 have sc:=zsp;refine fn_n (N:=["sets", "least", "one"]) (ps:=["sets"]) (g:=znG) F sc fun cdv A outer s H E hr=>?_;unfold znG;exact (zae (zcs (i:=1) sc.nd rfl (.inl rfl) (zbZ zad)) (zae (zbp PassesOwn.never rfl (za5 (zac (pv 0))) (za1 (zaF (i:=2) sc.nd rfl (.inr rfl))) (zaf (zbs (zcP (zbN (za7 (x := "any") (zru rfl) rfl m.any_ zpp (zaa (QN.qe (zbA ["other", "one"] [none,some 2] rfl rfl (za5 (zac (pv 0))) (fun _ _ _ _ _=>(za1 (pgn 0 (zbo ["other", "one"])))) (fun _ _ _ _ _=>(zsL (zsd (o_ne hr.units) (zac (pv 0)) (zac (pv 1)) (zaO _)) (ztK (za7 (x := "all") (zns rfl) rfl m.all_ ziY (zaa (QN.qe (zbA ["thing", "one"] [none,some 1] rfl rfl (za5 (zac (pv 0))) (fun _ _ _ _ _=>(za1 (pgn 0 (zbo ["thing", "one"])))) (fun _ _ _ _ _=>(q_in hr.units (zac (pv 0)) (zac (pv 1)))))) zad))))))) zad)))) (zaf (zaZ (pv 1) (zac (pv 2)) (fun h1 h2=>zdK PySem.F.plainAttrs_list PySem.F.slot_list_append PySem.F.type_list_append zaX h1 h2))) za8))) (zaf (zfg [1] (zbD (zev (x := "sorted") zjD rfl m.sorted_ zce (zaa (zac (pv 1)) zad)))))))
abbrev zrl:Stmt:=top 36
theorem zsy:FnScope ["hours", "things", "more"] ["hours", "things", "more"] (zag zrl):=zbf
theorem zsC {k:Nat}(F:Fun K "_law_moved" "_law_moved" zrl f fd)(m:Mg mg)  : FnOk P w K mg base CX0 (k+1) f fd ["hours", "things", "more"] (SpN K zj9):=by
 have sc:=zsy;refine fn_n (N:=["hours", "things", "more"]) (ps:=["hours", "things", "more"]) (g:=zoL) F sc fun cdv A outer s H E hr=>?_;unfold zoL;exact (zaf (zbD (zbA ["k", "hours", "things", "more"] [none,some 0,some 1,some 2] rfl rfl (zbm rfl m.range_ (zaa (za7 (x := "len") zgG rfl m.len_ zd8 (zaa (zac (pv 0)) zad)) zad)) (fun _ _ _ _ _=>(za1 (pgn 0 (zbo ["k", "hours", "things", "more"])))) (fun _ _ _ _ _=>(q_op zcv (zbP (zbz hr) (zac (pv 1)) (zac (pv 0)) (fun _ _=>rfl) (fun _ _=>rfl)) (q_op zlh (zac (pv 3)) (zcA (x := "int") b_int rfl m.int_ zpm (zaa (q_in hr.units (zac (pv 0)) (zac (pv 2))) zad))))))))
abbrev zra:Stmt:=top 38
theorem zto:FnScope ["things", "sets", "thing"] ["things"] (zag zra):=zbf
theorem zrZ {k:Nat}(F:Fun K "_law_sets" "_law_sets" zra f fd)(m:Mg mg)  : FnOk P w K mg base CX0 (k+1) f fd ["things"] (SpD K zlm):=by
 have sc:=zto;refine fn_d (N:=["things", "sets", "thing"]) (ps:=["things"]) (g:=zn9) F sc fun cdv A outer s H E hr=>?_;unfold zn9;exact (zae (zaI (i:=1) sc.nd rfl (.inl rfl) (QN.qe (zbZ (zaa (zeV zad) zad)))) (zae (zbp PassesOwn.never rfl (zbm rfl m.range_ (zaa (zac (pv 0)) zad)) (za1 (zaF (i:=2) sc.nd rfl (.inr rfl))) (zaf (zaI (i:=1) sc.nd rfl (.inl rfl) (q_op zcv (zac (pv 1)) (QN.qe (zbA ["one", "thing"] [none,some 2] rfl rfl (za5 (zac (pv 1))) (fun _ _ _ _ _=>(za1 (pgn 0 (zbo ["one", "thing"])))) (fun _ _ _ _ _=>(q_op zrr (zac (pv 0)) (zeV (zaa (zac (pv 1)) zad)))))))))) (zaf (zaH (zac (pv 1))))))
abbrev zqm:Stmt:=top 42
theorem zrN:FnScope ["rows", "hours", "things", "held", "one", "moved"] ["rows", "hours", "things"] (zag zqm):=zbf
theorem zrW {k:Nat}(F:Fun K "_law_holding" "_law_holding" zqm f fd)(m:Mg mg)(c_z26:zar P w K mg base "_law_done" k ["row", "hours"] (SpD K zc6))(c_z32:zar P w K mg base "_law_least" k ["sets"] (SpN K zlu))(c_z29:zar P w K mg base "_law_moved" k ["hours", "things", "more"] (SpN K zj9))(c_z31:zar P w K mg base "_law_sets" k ["things"] (SpD K zlm)):FnOk P w K mg base CX0 (k+1) f fd ["rows", "hours", "things"] (SpN K zep):=by
 have sc:=zrN;refine fn_n (N:=["rows", "hours", "things", "held", "one", "moved"]) (ps:=["rows", "hours", "things"]) (g:=znu) F sc fun cdv A outer s H E hr=>?_;unfold znu;exact (zae (zcs (i:=3) sc.nd rfl (.inl rfl) (zbZ zad)) (zae (zbp PassesOwn.never rfl (za5 (q_fn c_z31 hr rfl (zaa (zac (pv 2)) zad))) (za1 (zaF (i:=4) sc.nd rfl (.inl rfl))) (zae (zaI (i:=5) sc.nd rfl (.inr rfl) (QN.qe (zdm c_z29 hr rfl (zaa (zac (pv 1)) (zaa (zac (pv 4)) (zaa zah zad)))))) (zaf (zbs (zbN (za7 (x := "all") (zns rfl) rfl m.all_ ziY (zaa (QN.qe (zbA ["row", "hours", "moved"] [none,some 1,some 5] rfl rfl (za5 (zac (pv 0))) (fun _ _ _ _ _=>(za1 (pgn 0 (zbo ["row", "hours", "moved"])))) (fun _ _ _ _ _=>(zsd o_gt (q_fn c_z26 hr rfl (zaa (zac (pv 0)) (zaa (zac (pv 2)) zad))) (q_fn c_z26 hr rfl (zaa (zac (pv 0)) (zaa (zac (pv 1)) zad))) (zaO _))))) zad))) (zaf (zaZ (pv 3) (zac (pv 4)) (fun h1 h2=>zdK PySem.F.plainAttrs_list PySem.F.slot_list_append PySem.F.type_list_append zaX h1 h2))) za8)))) (zaf (zfg [3] (zbD (zdm c_z32 hr rfl (zaa (zac (pv 3)) zad)))))))
abbrev zrh:Stmt:=top 22
theorem zsA:FnScope ["found"] ["found"] (zag zrh):=zbf
theorem zs8 {k:Nat}(F:Fun K "_law_whole" "_law_whole" zrh f fd)(m:Mg mg)  : FnOk P w K mg base CX0 (k+1) f fd ["found"] (SpD K ziw):=by
 have sc:=zsA;refine fn_d (N:=["found"]) (ps:=["found"]) (g:=znA) F sc fun cdv A outer s H E hr=>?_;unfold znA;exact (zaf (zaH (zsL (za7 (x := "isinstance") znL rfl m.isinstance_ zbJ (zaa (zac (pv 0)) (zaa (zoH (n := "int") (x := "int") rfl m.int_ zpm rfl) zad))) (ztK (q_not (za7 (x := "isinstance") znL rfl m.isinstance_ zbJ (zaa (zac (pv 0)) (zaa (zoH (n := "bool") (x := "bool") rfl m.bool_ zqr rfl) zad))))))))
abbrev zp9:Stmt:=top 40
theorem zsJ:FnScope ["found", "one"] ["found"] (zag zp9):=zbf
theorem zsY {k:Nat}(F:Fun K "_law_is_sets" "_law_is_sets" zp9 f fd)(m:Mg mg)(c_z15:zar P w K mg base "_law_whole" k ["found"] (SpD K ziw)):FnOk P w K mg base CX0 (k+1) f fd ["found"] (SpD K zj6):=by
 have sc:=zsJ;refine fn_d (N:=["found", "one"]) (ps:=["found"]) (g:=zn1) F sc fun cdv A outer s H E hr=>?_;unfold zn1;exact (zae (zbs (zcP (zbN (za7 (x := "isinstance") znL rfl m.isinstance_ zbJ (zaa (zac (pv 0)) (zaa (zoH (n := "list") (x := "list") rfl m.list_ zi3 rfl) zad))))) (zaf (zaH zcL)) za8) (zae (zbp PassesOwn.never rfl (za5 (zac (pv 0))) (za1 (zaF (i:=1) sc.nd rfl (.inl rfl))) (zaf (zbs (QW.qt (zlO (zcP (zbN (za7 (x := "isinstance") znL rfl m.isinstance_ zbJ (zaa (zac (pv 1)) (zaa (zoH (n := "tuple") (x := "tuple") rfl m.tuple_ zcE rfl) zad))))) (zhO (zcP (zbN (za7 (x := "all") (zns rfl) rfl m.all_ ziY (zaa (QN.qe (zbA ["thing"] [none] rfl rfl (za5 (zac (pv 1))) (fun _ _ _ _ _=>(za1 (pgn 0 (zbo ["thing"])))) (fun _ _ _ _ _=>(q_fn c_z15 hr rfl (zaa (zac (pv 0)) zad))))) zad))))))) (zaf (zaH zcL)) za8))) (zaf (zaH zcL))))
abbrev zq1:Stmt:=top 41
theorem zts:FnScope ["script", "start", "things", "form", "hours", "thing"] ["script", "start", "things", "form"] (zag zq1):=zbf
theorem zsZ {k:Nat}(F:Fun K "_law_near" "_law_near" zq1 f fd)(m:Mg mg)(c_z16:zar P w K mg base "_law_cell_at" k ["script", "k"] (SpD K zde))(c_z17:zar P w K mg base "_law_mixed" k ["cell", "salt"] (SpD K zen)):FnOk P w K mg base CX0 (k+1) f fd ["script", "start", "things", "form"] (SpN K zi1):=by
 have sc:=zts;refine fn_n (N:=["script", "start", "things", "form", "hours", "thing"]) (ps:=["script", "start", "things", "form"]) (g:=zkV) F sc fun cdv A outer s H E hr=>?_;unfold zkV;exact (zae (zcs (i:=4) sc.nd rfl (.inr rfl) (zbZ zad)) (zae (zbp PassesOwn.never rfl (zbm rfl m.range_ (zaa (zac (pv 2)) zad)) (za1 (zaF (i:=5) sc.nd rfl (.inl rfl))) (zaf (zaZ (pv 4) (q_op zcl (q_fn c_z17 hr rfl (zaa (q_fn c_z16 hr rfl (zaa (zac (pv 0)) (zaa (q_op zcv (zac (pv 1)) (zac (pv 5))) zad))) (zaa (q_op zcv zah (zac (pv 5))) zad))) zah) (fun h1 h2=>zdK PySem.F.plainAttrs_list PySem.F.slot_list_append PySem.F.type_list_append zaX h1 h2)))) (zae (zbs (zaY (o_eq hr.units) (q_op zcl (q_fn c_z16 hr rfl (zaa (zac (pv 0)) (zaa (zac (pv 1)) zad))) zah) zah (zaO _)) (zaf (zfg [4] (zcs (i:=4) sc.nd rfl (.inr rfl) (zbA ["k", "form", "hours"] [none,some 3,some 4] rfl rfl (zbm rfl m.range_ (zaa (zac (pv 2)) zad)) (fun _ _ _ _ _=>(za1 (pgn 0 (zbo ["k", "form", "hours"])))) (fun _ _ _ _ _=>(q_op zqo (zbP (zbz hr) (zac (pv 2)) (zac (pv 0)) (fun _ _=>rfl) (fun _ _=>rfl)) (zpf (zbz hr) (QN.qe (zbM (x := "dict") (zgV rfl) rfl m.dict_ zfq (zaa (zbP (zbz hr) (zac (pv 1)) zah (fun _ _=>rfl) (fun _ _=>rfl)) zad))) (zac (pv 0)) zah ⟨rfl,rfl,rfl,rfl⟩))))))) za8) (zaf (zc2 (pv 4))))))
abbrev s_z1:Stmt:=top 5
theorem sc_z1:FnScope ["row", "waits", "thing", "wait"] ["row", "waits"] (zag s_z1):=zbf
theorem ok_z1 {k:Nat}(F:Fun K "fits_in" "fits_in" s_z1 f fd)(m:Mg mg)  : FnOk P w K mg base CX0 (k+1) f fd ["row", "waits"] (SpD K F_z1):=by
 have sc:=sc_z1;refine fn_d (N:=["row", "waits", "thing", "wait"]) (ps:=["row", "waits"]) (g:=G_z1) F sc fun cdv A outer s H E hr=>?_;unfold G_z1;exact (zae (zbp PassesOwn.never rfl (za5 (zac (pv 0))) (zfd [2,3] (zeX rfl (zbe (zaF (i:=2) sc.nd rfl (.inl rfl)) (zbe (zaF (i:=3) sc.nd rfl (.inl rfl)) zcZ)))) (zaf (zbs (QW.qt (zlO (zet hr.units (zac (pv 2)) (zac (pv 1))) (zhO (zaY o_gt (zac (pv 3)) (zbP (zbz hr) (zac (pv 1)) (zac (pv 2)) (fun _ _=>rfl) (fun _ _=>rfl)) (zaO _))))) (zaf (zaH zcL)) za8))) (zaf (zaH zcL)))
abbrev s_z5:Stmt:=top 9
theorem sc_z5:FnScope ["row", "kept", "waits", "other"] ["row", "kept"] (zag s_z5):=zbf
theorem ok_z5 {k:Nat}(F:Fun K "is_covered" "is_covered" s_z5 f fd)(m:Mg mg)(c_z1:zar P w K mg base "fits_in" k ["row", "waits"] (SpD K F_z1)):FnOk P w K mg base CX0 (k+1) f fd ["row", "kept"] (SpD K F_z5):=by
 have sc:=sc_z5;refine fn_d (N:=["row", "kept", "waits", "other"]) (ps:=["row", "kept"]) (g:=G_z5) F sc fun cdv A outer s H E hr=>?_;unfold G_z5;exact (zae (zaI (i:=2) sc.nd rfl (.inl rfl) (QN.qe (zbM (x := "dict") (zgV rfl) rfl m.dict_ zfq (zaa (zac (pv 0)) zad)))) (zae (zbp PassesOwn.never rfl (za5 (zac (pv 1))) (za1 (zaF (i:=3) sc.nd rfl (.inl rfl))) (zaf (zbs (zbN (q_fn c_z1 hr rfl (zaa (zac (pv 3)) (zaa (zac (pv 2)) zad)))) (zaf (zaH zcL)) za8))) (zaf (zaH zcL))))
abbrev s_z2:Stmt:=top 6
theorem sc_z2:FnScope ["row", "other", "waits", "thing", "wait"] ["row", "other"] (zag s_z2):=zbf
theorem ok_z2 {k:Nat}(F:Fun K "joined" "joined" s_z2 f fd)(m:Mg mg)  : FnOk P w K mg base CX0 (k+1) f fd ["row", "other"] (SpD K F_z2):=by
 have sc:=sc_z2;refine fn_d (N:=["row", "other", "waits", "thing", "wait"]) (ps:=["row", "other"]) (g:=G_z2) F sc fun cdv A outer s H E hr=>?_;unfold G_z2;exact (zae (zcs (i:=2) sc.nd rfl (.inl rfl) (zbM (x := "dict") (zgV rfl) rfl m.dict_ zfq (zaa (zac (pv 0)) zad))) (zae (zbp PassesOwn.never rfl (za5 (zac (pv 1))) (zfd [3,4] (zeX rfl (zbe (zaF (i:=3) sc.nd rfl (.inl rfl)) (zbe (zaF (i:=4) sc.nd rfl (.inl rfl)) zcZ)))) (zaf (zqS (zbz hr) (pv 2) (zac (pv 3)) (za7 (x := "max") (zoV rfl) rfl m.max_ ziF (zaa (zac (pv 4)) (zaa (zoc [2] (zpf (zbz hr) (zac (pv 2)) (zac (pv 3)) (zac (pv 4)) ⟨rfl,rfl,rfl,rfl⟩)) zad)))))) (zaf (zfg [2] (zaH (zcA (x := "tuple") zeR rfl m.tuple_ zcE (zaa (zir (fun h=>zez (zeo rfl) rfl m.sorted_ zce (zgC (zrt PySem.F.plainAttrs_dict PySem.F.slot_dict_items PySem.F.type_dict_items zob h) ziI)) (zac (pv 2))) zad)))))))
abbrev s_z8:Stmt:=top 13
theorem sc_z8:FnScope ["form", "other", "rows", "rest", "row"] ["form", "other"] (zag s_z8):=zbf
theorem ok_z8 {k:Nat}(F:Fun K "each_joined" "each_joined" s_z8 f fd)(m:Mg mg)(c_z5:zar P w K mg base "is_covered" k ["row", "kept"] (SpD K F_z5))(c_z2:zar P w K mg base "joined" k ["row", "other"] (SpD K F_z2)):FnOk P w K mg base CX0 (k+1) f fd ["form", "other"] (SpN K F_z8):=by
 have sc:=sc_z8;refine fn_n (N:=["form", "other", "rows", "rest", "row"]) (ps:=["form", "other"]) (g:=G_z8) F sc fun cdv A outer s H E hr=>?_;unfold G_z8;exact (zae (zcs (i:=2) sc.nd rfl (.inl rfl) (q_opN ztc (QN.qe (zdr ["row", "other"] [none,some 1] rfl rfl (za5 (zac (pv 0))) (fun _ _ _ _ _=>(za1 (pgn 0 (zbo ["row", "other"])))) (fun _ _ _ _ _=>(zbN (q_fn c_z5 hr rfl (zaa (zac (pv 0)) (zaa (zac (pv 1)) zad))))) (fun _ _ _ _ _=>(zac (pv 0))))) (QN.qe (zdr ["row", "form"] [none,some 0] rfl rfl (za5 (zac (pv 1))) (fun _ _ _ _ _=>(za1 (pgn 0 (zbo ["row", "form"])))) (fun _ _ _ _ _=>(zbN (q_fn c_z5 hr rfl (zaa (zac (pv 0)) (zaa (zac (pv 1)) zad))))) (fun _ _ _ _ _=>(zac (pv 0))))))) (zae (zeh ["row", "form"] [none,some 0] sc.nd rfl (.inl rfl) rfl rfl (za5 (zac (pv 1))) (fun _ _ _ _ _=>(za1 (pgn 0 (zbo ["row", "form"])))) (fun _ _ _ _ _=>(zcP (zbN (q_fn c_z5 hr rfl (zaa (zac (pv 0)) (zaa (zac (pv 1)) zad)))))) (fun _ _ _ _ _=>(zac (pv 0)))) (zae (zbp PassesOwn.never rfl (za5 (zac (pv 0))) (za1 (zaF (i:=4) sc.nd rfl (.inr rfl))) (zaf (zbs (zcP (zbN (q_fn c_z5 hr rfl (zaa (zac (pv 4)) (zaa (zac (pv 1)) zad))))) (zaf (zkJ (pv 2) (zbA ["other_row", "row"] [none,some 4] rfl rfl (za5 (zac (pv 3))) (fun _ _ _ _ _=>(za1 (pgn 0 (zbo ["other_row", "row"])))) (fun _ _ _ _ _=>(q_fn c_z2 hr rfl (zaa (zac (pv 1)) (zaa (zac (pv 0)) zad))))) (fun h1 h2=>zdK PySem.F.plainAttrs_list PySem.F.slot_list_extend PySem.F.type_list_extend zmF h1 h2))) za8))) (zaf (zc2 (pv 2))))))
abbrev s_z4:Stmt:=top 8
theorem sc_z4:FnScope ["rows", "enough", "kept", "row"] ["rows", "enough"] (zag s_z4):=zbf
theorem ok_z4 {k:Nat}(F:Fun K "lowest" "lowest" s_z4 f fd)(m:Mg mg)(c_z5:zar P w K mg base "is_covered" k ["row", "kept"] (SpD K F_z5)):FnOk P w K mg base CX0 (k+1) f fd ["rows", "enough"] (SpN K F_z4):=by
 have sc:=sc_z4;refine fn_n (N:=["rows", "enough", "kept", "row"]) (ps:=["rows", "enough"]) (g:=G_z4) F sc fun cdv A outer s H E hr=>?_;unfold G_z4;exact (zae (zcs (i:=2) sc.nd rfl (.inl rfl) (zbZ zad)) (zae (zbp PassesOwn.never rfl (za5 (QN.qe (zmA (fun h=>L2.ST.pe_sortLen rfl m.sorted_ rfl m.len_ h) (zaa (QN.qe (zmt (fun h=>zez (L2.ST.call_sortedSet rfl hr.units) rfl m.sorted_ zce (zgC (zeW (L2.ST.call_setRows rfl hr.units) rfl m.set_ L2.bt_set h) ziI)) (zaa (zac (pv 0)) zad))) zad)))) (za1 (zaF (i:=3) sc.nd rfl (.inl rfl))) (zae (zbs (zaY (o_eq hr.units) (zoc [2] (za7 (x := "len") zgG rfl m.len_ zd8 (zaa (zac (pv 2)) zad))) (zac (pv 1)) (zaO _)) (zaf zov) za8) (zaf (zbs (zcP (zbN (zoc [2] (q_fn c_z5 hr rfl (zaa (zac (pv 3)) (zaa (zac (pv 2)) zad)))))) (zaf (zaZ (pv 2) (zac (pv 3)) (fun h1 h2=>zdK PySem.F.plainAttrs_list PySem.F.slot_list_append PySem.F.type_list_append zaX h1 h2))) za8)))) (zaf (zc2 (pv 2)))))
abbrev s_z9:Stmt:=top 14
theorem sc_z9:FnScope ["rows", "most", "kept"] ["rows", "most"] (zag s_z9):=zbf
theorem ok_z9 {k:Nat}(F:Fun K "form_within" "form_within" s_z9 f fd)(m:Mg mg)(c_z4:zar P w K mg base "lowest" k ["rows", "enough"] (SpN K F_z4)){C_TooMany:Addr}(x_TooMany:Exc K mg "TooMany" C_TooMany):FnOk P w K mg base (CXE P w) (k+1) f fd ["rows", "most"] (SpNX K F_z9):=by
 have sc:=sc_z9;refine zs1 (N:=["rows", "most", "kept"]) (ps:=["rows", "most"]) (g:=G_z9) F sc fun cdv A outer s H E hr=>?_;unfold G_z9;exact (zae (zaI (i:=2) sc.nd rfl (.inl rfl) (QN.qe (zhr c_z4 hr rfl (zaa (zac (pv 0)) (zaa (q_op zcv (zac (pv 1)) zah) zad))))) (zae (zbs (zaY o_gt (za7 (x := "len") zgG rfl m.len_ zd8 (zaa (zac (pv 2)) zad)) (zac (pv 1)) (zaO _)) (zaf (zni zkh x_TooMany rfl rfl (q_fmt (by decide) (zac (pv 1))))) za8) (zaf (zbD (zev (x := "sorted") (zdJ hr.units) rfl m.sorted_ zce (zaa (zac (pv 2)) zad))))))
abbrev s_z7:Stmt:=top 12
theorem sc_z7:FnScope ["forms", "most", "told", "form"] ["forms", "most"] (zag s_z7):=zbf
theorem ok_z7 {k:Nat}(F:Fun K "all_of" "all_of" s_z7 f fd)(m:Mg mg)(c_z8:zar P w K mg base "each_joined" k ["form", "other"] (SpN K F_z8))(c_z9:zbb P w K mg base "form_within" k ["rows", "most"] (SpNX K F_z9)):FnOk P w K mg base (CXE P w) (k+1) f fd ["forms", "most"] (SpDX K F_z7):=by
 have sc:=sc_z7;refine fn_dX (N:=["forms", "most", "told", "form"]) (ps:=["forms", "most"]) (g:=G_z7) F sc fun cdv A outer s H E hr=>?_;unfold G_z7;exact (zae (zaI (i:=2) sc.nd rfl (.inl rfl) (QN.qe (zm8 c_z9 zdM hr rfl (zaa (zbP (zbz hr) (zac (pv 0)) zah (fun _ _=>rfl) (fun _ _=>rfl)) (zaa (zac (pv 1)) zad))))) (zae (zbp zjY rfl (za5 (QN.qe (zgu (zac (pv 0)) (zdN zah) zdT zdT))) (za1 (zaF (i:=3) sc.nd rfl (.inl rfl))) (zaf (zaI (i:=2) sc.nd rfl (.inl rfl) (QN.qe (zm8 c_z9 zdM hr rfl (zaa (QN.qe (zhr c_z8 hr rfl (zaa (zac (pv 2)) (zaa (zac (pv 3)) zad)))) (zaa (zac (pv 1)) zad))))))) (zaf (zaH (zac (pv 2))))))
abbrev s_z0:Stmt:=top 4
theorem sc_z0:FnScope ["row", "hours"] ["row", "hours"] (zag s_z0):=zbf
theorem ok_z0 {k:Nat}(F:Fun K "row_hour" "row_hour" s_z0 f fd)(m:Mg mg)  : FnOk P w K mg base CX0 (k+1) f fd ["row", "hours"] (SpD K F_z0):=by
 have sc:=sc_z0;refine fn_d (N:=["row", "hours"]) (ps:=["row", "hours"]) (g:=G_z0) F sc fun cdv A outer s H E hr=>?_;unfold G_z0;exact (zaf (zaH (za7 (x := "max") (zpb rfl) rfl m.max_ ziF (zaa (QN.qe (zbA ["thing", "wait", "hours"] [none,none,some 1] rfl rfl (za5 (zac (pv 0))) (fun _ _ _ _ _=>(zfd [0,1] (zeX rfl (zbe (pgn 0 (zbo ["thing", "wait", "hours"])) (zbe (pgn 1 (zbo ["thing", "wait", "hours"])) zcZ))))) (fun _ _ _ _ _=>(q_op zcv (zbP (zbz hr) (zac (pv 2)) (zac (pv 0)) (fun _ _=>rfl) (fun _ _=>rfl)) (zac (pv 1)))))) zad))))
abbrev s_z6:Stmt:=top 11
theorem sc_z6:FnScope ["form", "hours"] ["form", "hours"] (zag s_z6):=zbf
theorem ok_z6 {k:Nat}(F:Fun K "form_hour" "form_hour" s_z6 f fd)(m:Mg mg)(c_z0:zar P w K mg base "row_hour" k ["row", "hours"] (SpD K F_z0)):FnOk P w K mg base CX0 (k+1) f fd ["form", "hours"] (SpD K F_z6):=by
 have sc:=sc_z6;refine fn_d (N:=["form", "hours"]) (ps:=["form", "hours"]) (g:=G_z6) F sc fun cdv A outer s H E hr=>?_;unfold G_z6;exact (zaf (zaH (za7 (x := "min") (zpn rfl) rfl m.min_ zmi (zaa (QN.qe (zbA ["row", "hours"] [none,some 1] rfl rfl (za5 (zac (pv 0))) (fun _ _ _ _ _=>(za1 (pgn 0 (zbo ["row", "hours"])))) (fun _ _ _ _ _=>(q_fn c_z0 hr rfl (zaa (zac (pv 0)) (zaa (zac (pv 1)) zad)))))) zad))))
abbrev zqz:Stmt:=top 18
theorem zrL:FnScope ["form", "hours", "hour"] ["form", "hours"] (zag zqz):=zbf
theorem zrV {k:Nat}(F:Fun K "first_done" "first_done" zqz f fd)(m:Mg mg)(c_z6:zar P w K mg base "form_hour" k ["form", "hours"] (SpD K F_z6))(c_z0:zar P w K mg base "row_hour" k ["row", "hours"] (SpD K F_z0)):FnOk P w K mg base CX0 (k+1) f fd ["form", "hours"] (SpN K zhW):=by
 have sc:=zrL;refine fn_n (N:=["form", "hours", "hour"]) (ps:=["form", "hours"]) (g:=znw) F sc fun cdv A outer s H E hr=>?_;unfold znw;exact (zae (zaI (i:=2) sc.nd rfl (.inr rfl) (q_fn c_z6 hr rfl (zaa (zac (pv 0)) (zaa (zac (pv 1)) zad)))) (zaf (zbD (zdr ["row", "hours", "hour"] [none,some 1,some 2] rfl rfl (za5 (zac (pv 0))) (fun _ _ _ _ _=>(za1 (pgn 0 (zbo ["row", "hours", "hour"])))) (fun _ _ _ _ _=>(zaY (o_eq hr.units) (q_fn c_z0 hr rfl (zaa (zac (pv 0)) (zaa (zac (pv 1)) zad))) (zac (pv 2)) (zaO _))) (fun _ _ _ _ _=>(zac (pv 0)))))))
abbrev zq3:Stmt:=top 19
theorem ztd:FnScope ["row", "hours", "hour"] ["row", "hours"] (zag zq3):=zbf
theorem zrF {k:Nat}(F:Fun K "last_things" "last_things" zq3 f fd)(m:Mg mg)(c_z0:zar P w K mg base "row_hour" k ["row", "hours"] (SpD K F_z0)):FnOk P w K mg base CX0 (k+1) f fd ["row", "hours"] (SpN K zka):=by
 have sc:=ztd;refine fn_n (N:=["row", "hours", "hour"]) (ps:=["row", "hours"]) (g:=zn3) F sc fun cdv A outer s H E hr=>?_;unfold zn3;exact (zae (zaI (i:=2) sc.nd rfl (.inr rfl) (q_fn c_z0 hr rfl (zaa (zac (pv 0)) (zaa (zac (pv 1)) zad)))) (zaf (zbD (zdr ["thing", "wait", "hours", "hour"] [none,none,some 1,some 2] rfl rfl (za5 (zac (pv 0))) (fun _ _ _ _ _=>(zfd [0,1] (zeX rfl (zbe (pgn 0 (zbo ["thing", "wait", "hours", "hour"])) (zbe (pgn 1 (zbo ["thing", "wait", "hours", "hour"])) zcZ))))) (fun _ _ _ _ _=>(zaY (o_eq hr.units) (q_op zcv (zbP (zbz hr) (zac (pv 2)) (zac (pv 0)) (fun _ _=>rfl) (fun _ _=>rfl)) (zac (pv 1))) (zac (pv 3)) (zaO _))) (fun _ _ _ _ _=>(zeV (zaa (zeV (zaa (zac (pv 0)) (zaa zah zad))) zad)))))))
abbrev zqe:Stmt:=top 20
theorem zsG:FnScope ["rows"] ["rows"] (zag zqe):=zbf
theorem ztB {k:Nat}(F:Fun K "things_of_each" "things_of_each" zqe f fd)(m:Mg mg)  : FnOk P w K mg base CX0 (k+1) f fd ["rows"] (SpN K zic):=by
 have sc:=zsG;refine fn_n (N:=["rows"]) (ps:=["rows"]) (g:=zoo) F sc fun cdv A outer s H E hr=>?_;unfold zoo;exact (zaf (zbD (zbA ["row"] [none] rfl rfl (za5 (zac (pv 0))) (fun _ _ _ _ _=>(za1 (pgn 0 (zbo ["row"])))) (fun _ _ _ _ _=>(zcA (x := "tuple") zeR rfl m.tuple_ zcE (zaa (QN.qe (zbA ["thing", "wait"] [none,none] rfl rfl (za5 (zac (pv 0))) (fun _ _ _ _ _=>(zfd [0,1] (zeX rfl (zbe (pgn 0 (zbo ["thing", "wait"])) (zbe (pgn 1 (zbo ["thing", "wait"])) zcZ))))) (fun _ _ _ _ _=>(zac (pv 0))))) zad))))))
abbrev zqB:Stmt:=top 17
theorem zrz:FnScope ["form", "hours", "most", "lasts"] ["form", "hours", "most"] (zag zqB):=zbf
theorem zsK {k:Nat}(F:Fun K "holders" "holders" zqB f fd)(m:Mg mg)(c_z7:zbb P w K mg base "all_of" k ["forms", "most"] (SpDX K F_z7))(c_z12:zar P w K mg base "first_done" k ["form", "hours"] (SpN K zhW))(c_z13:zar P w K mg base "last_things" k ["row", "hours"] (SpN K zka))(c_z14:zar P w K mg base "things_of_each" k ["rows"] (SpN K zic)):FnOk P w K mg base (CXE P w) (k+1) f fd ["form", "hours", "most"] (SpNX K ze3):=by
 have sc:=zrz;refine zs1 (N:=["form", "hours", "most", "lasts"]) (ps:=["form", "hours", "most"]) (g:=zmU) F sc fun cdv A outer s H E hr=>?_;unfold zmU;exact (zae (zdX ["row", "hours"] [none,some 1] sc.nd rfl (.inl rfl) rfl rfl (za5 (QN.qe (zhr c_z12 hr rfl (zaa (zac (pv 0)) (zaa (zac (pv 1)) zad))))) (fun _ _ _ _ _=>(za1 (pgn 0 (zbo ["row", "hours"])))) (fun _ _ _ _ _=>(QN.qe (zhr c_z13 hr rfl (zaa (zac (pv 0)) (zaa (zac (pv 1)) zad)))))) (zaf (zbD (zhr c_z14 hr rfl (zaa (q_fnX c_z7 zdM hr rfl (zaa (zac (pv 3)) (zaa (zac (pv 2)) zad))) zad)))))
abbrev zqs:Stmt:=top 43
theorem zrU:FnScope ["form", "hours", "most", "refused"] ["form", "hours", "most"] (zag zqs):=zbf
theorem zsH {k:Nat}(F:Fun K "_law_refused" "_law_refused" zqs f fd)(m:Mg mg)(c_z11:zbb P w K mg base "holders" k ["form", "hours", "most"] (SpNX K ze3)){C_TooMany:Addr}(x_TooMany:Exc K mg "TooMany" C_TooMany):FnOk P w K mg base CX0 (k+1) f fd ["form", "hours", "most"] (SpD K zkd):=by
 have sc:=zrU;refine fn_d (N:=["form", "hours", "most", "refused"]) (ps:=["form", "hours", "most"]) (g:=znC) F sc fun cdv A outer s H E hr=>?_;unfold znC;exact (zae (zaI (i:=3) sc.nd rfl (.inl rfl) zcL) (zae (zq8 rfl rfl (zq5 (zbb.d c_z11) hr rfl (zaa (zac (pv 0)) (zaa (zac (pv 1)) (zaa (zac (pv 2)) zad)))) x_TooMany rfl (fun _=>(zaf (zaI (i:=3) sc.nd rfl (.inl rfl) zcL)))) (zaf (zaH (zac (pv 3))))))
abbrev zq4:Stmt:=top 25
theorem zsD:FnScope ["script", "start", "most", "many"] ["script", "start", "most"] (zag zq4):=zbf
theorem zt3 {k:Nat}(F:Fun K "_law_turns" "_law_turns" zq4 f fd)(m:Mg mg)  : FnOk P w K mg base CX0 (k+1) f fd ["script", "start", "most"] (SpN K zl5):=by
 have sc:=zsD;refine fn_n (N:=["script", "start", "most", "many"]) (ps:=["script", "start", "most"]) (g:=znP) F sc fun cdv A outer s H E hr=>?_;unfold znP;exact (zae (zaI (i:=3) sc.nd rfl (.inl rfl) (za7 (x := "min") (zsI rfl) rfl m.min_ zmi (zaa (zac (pv 2)) (zaa (za7 (x := "max") (zoV rfl) rfl m.max_ ziF (zaa zah (zaa (q_op zqo (za7 (x := "len") zgG rfl m.len_ zd8 (zaa (zac (pv 0)) zad)) (zac (pv 1))) zad))) zad)))) (zaf (zbD (zbA ["k", "script", "start", "most"] [none,some 0,some 1,some 2] rfl rfl (zbm rfl m.range_ (zaa (zac (pv 3)) zad)) (fun _ _ _ _ _=>(za1 (pgn 0 (zbo ["k", "script", "start", "most"])))) (fun _ _ _ _ _=>(za7 (x := "sum") (b_sum rfl) rfl m.sum_ zrx (zaa (QN.qe (zgu (zac (pv 1)) (zdN (q_op zcv (zac (pv 2)) (zac (pv 0)))) zdT (zdN (zac (pv 3))))) zad)))))))
abbrev s_z3:Stmt:=top 7
theorem sc_z3:FnScope ["rows"] ["rows"] (zag s_z3):=zbf
theorem ok_z3 {k:Nat}(F:Fun K "thinned" "thinned" s_z3 f fd)(m:Mg mg)(c_z4:zar P w K mg base "lowest" k ["rows", "enough"] (SpN K F_z4)):FnOk P w K mg base CX0 (k+1) f fd ["rows"] (SpN K F_z3):=by
 have sc:=sc_z3;refine fn_n (N:=["rows"]) (ps:=["rows"]) (g:=G_z3) F sc fun cdv A outer s H E hr=>?_;unfold G_z3;exact (zaf (zbD (zev (x := "sorted") (zdJ hr.units) rfl m.sorted_ zce (zaa (QN.qe (zdm c_z4 hr rfl (zaa (zac (pv 0)) (zaa (za7 (x := "len") zgG rfl m.len_ zd8 (zaa (zac (pv 0)) zad)) zad)))) zad))))
abbrev zqX:Stmt:=top 16
theorem ztN:FnScope ["form", "hours", "bare"] ["form", "hours"] (zag zqX):=zbf
theorem zsN {k:Nat}(F:Fun K "ways" "ways" zqX f fd)(m:Mg mg)(c_z12:zar P w K mg base "first_done" k ["form", "hours"] (SpN K zhW))(c_z14:zar P w K mg base "things_of_each" k ["rows"] (SpN K zic))(c_z3:zar P w K mg base "thinned" k ["rows"] (SpN K F_z3)):FnOk P w K mg base CX0 (k+1) f fd ["form", "hours"] (SpN K zjP):=by
 have sc:=ztN;refine fn_n (N:=["form", "hours", "bare"]) (ps:=["form", "hours"]) (g:=zo4) F sc fun cdv A outer s H E hr=>?_;unfold zo4;exact (zae (zdX ["row"] [none] sc.nd rfl (.inl rfl) rfl rfl (za5 (QN.qe (zdm c_z12 hr rfl (zaa (zac (pv 0)) (zaa (zac (pv 1)) zad))))) (fun _ _ _ _ _=>(za1 (pgn 0 (zbo ["row"])))) (fun _ _ _ _ _=>(zcA (x := "tuple") zeR rfl m.tuple_ zcE (zaa (QN.qe (zbA ["thing", "wait"] [none,none] rfl rfl (za5 (zac (pv 0))) (fun _ _ _ _ _=>(zfd [0,1] (zeX rfl (zbe (pgn 0 (zbo ["thing", "wait"])) (zbe (pgn 1 (zbo ["thing", "wait"])) zcZ))))) (fun _ _ _ _ _=>(zeV (zaa (zac (pv 0)) (zaa zah zad)))))) zad)))) (zaf (zbD (zdm c_z14 hr rfl (zaa (QN.qe (zdm c_z3 hr rfl (zaa (zac (pv 2)) zad))) zad)))))
abbrev zpP:Stmt:=top 44
theorem ztl:FnScope ["script", "things", "most", "form", "k", "hours", "now", "rows", "counts", "handed", "found", "way"] ["script"] (zag zpP):=zbf
theorem ztj {k:Nat}(F:Fun K "law" "law" zpP f fd)(m:Mg mg)(c_z16:zar P w K mg base "_law_cell_at" k ["script", "k"] (SpD K zde))(c_z27:zar P w K mg base "_law_comes" k ["form", "hours"] (SpD K zke))(c_z26:zar P w K mg base "_law_done" k ["row", "hours"] (SpD K zc6))(c_z25:zar P w K mg base "_law_forms" k ["cells", "many", "things"] (SpN K zj8))(c_z35:zar P w K mg base "_law_holding" k ["rows", "hours", "things"] (SpN K zep))(c_z33:zar P w K mg base "_law_is_sets" k ["found"] (SpD K zj6))(c_z34:zar P w K mg base "_law_near" k ["script", "start", "things", "form"] (SpN K zi1))(c_z36:zar P w K mg base "_law_refused" k ["form", "hours", "most"] (SpD K zkd))(c_z18:zar P w K mg base "_law_turns" k ["script", "start", "most"] (SpN K zl5))(c_z11:zbb P w K mg base "holders" k ["form", "hours", "most"] (SpNX K ze3))(c_z10:zar P w K mg base "ways" k ["form", "hours"] (SpN K zjP)):FnOk P w K mg base CX0 (k+1) f fd ["script"] (SpD K zi0):=by
 have sc:=ztl;refine fn_d (N:=["script", "things", "most", "form", "k", "hours", "now", "rows", "counts", "handed", "found", "way"]) (ps:=["script"]) (g:=znH) F sc fun cdv A outer s H E hr=>?_;unfold znH
 exact (zae (zaI (i:=1) sc.nd rfl (.inr rfl) (zbP (zbz hr) (QN.qe (zbZ (zaa zah (zaa zah (zaa zah (zaa zah (zaa zah (zaa zah (zaa zah (zaa zah zad)))))))))) (q_op zcl (q_fn c_z16 hr rfl (zaa (zac (pv 0)) (zaa zah zad))) zah) (fun _ _=>rfl) (fun _ _=>rfl))) (zae (zaI (i:=2) sc.nd rfl (.inl rfl) (zbP (zbz hr) (QN.qe (zbZ (zaa zah (zaa zah (zaa zah (zaa zah (zaa zah (zaa zah (zaa zah (zaa zah zad)))))))))) (q_op zcl (q_fn c_z16 hr rfl (zaa (zac (pv 0)) (zaa zah zad))) zah) (fun _ _=>rfl) (fun _ _=>rfl))) (zae (zaI (i:=3) sc.nd rfl (.inl rfl) (zbP (zbz hr) (QN.qe (zdm c_z25 hr rfl (zaa (QN.qe (zdm c_z18 hr rfl (zaa (zac (pv 0)) (zaa zah (zaa zah zad))))) (zaa zah (zaa (zac (pv 1)) zad))))) zah (fun _ _=>rfl) (fun _ _=>rfl))) (zae (zbp PassesOwn.never rfl (zbm rfl m.range_ (zaa zah zad)) (za1 (zaF (i:=4) sc.nd rfl (.inl rfl))) (zae (zaI (i:=5) sc.nd rfl (.inr rfl) (QN.qe (zdm c_z34 hr rfl (zaa (zac (pv 0)) (zaa (q_op zlh zah (zac (pv 4))) (zaa (zac (pv 1)) (zaa (zac (pv 3)) zad))))))) (zae (zaI (i:=6) sc.nd rfl (.inr rfl) (q_fn c_z27 hr rfl (zaa (zac (pv 3)) (zaa (zac (pv 5)) zad)))) (zae (zaI (i:=7) sc.nd rfl (.inr rfl) (QN.qe (zdr ["row", "hours", "now"] [none,some 5,some 6] rfl rfl (za5 (zac (pv 3))) (fun _ _ _ _ _=>(za1 (pgn 0 (zbo ["row", "hours", "now"])))) (fun _ _ _ _ _=>(zaY (o_eq hr.units) (q_fn c_z26 hr rfl (zaa (zac (pv 0)) (zaa (zac (pv 1)) zad))) (zac (pv 2)) (zaO _))) (fun _ _ _ _ _=>(zac (pv 0)))))) (zae (zdX ["k", "things", "hours", "rows"] [none,some 1,some 5,some 7] sc.nd rfl (.inl rfl) rfl rfl (zbm rfl m.range_ (zaa (za7 (x := "len") zgG rfl m.len_ zd8 (zaa (zac (pv 7)) zad)) zad)) (fun _ _ _ _ _=>(za1 (pgn 0 (zbo ["k", "things", "hours", "rows"])))) (fun _ _ _ _ _=>(za7 (x := "len") zgG rfl m.len_ zd8 (zaa (QN.qe (zdm c_z35 hr rfl (zaa (QN.qe (zgu (zac (pv 3)) zdT (zdN (q_op zcv (zac (pv 0)) zah)) zdT)) (zaa (zac (pv 2)) (zaa (zac (pv 1)) zad))))) zad)))) (zae (zaI (i:=9) sc.nd rfl (.inl rfl) (QN.qe (zbZ (zaa (QN.qe (zbM (x := "list") zoT rfl m.list_ zi3 (zaa (zac (pv 3)) zad))) (zaa (QN.qe (zbM (x := "list") zoT rfl m.list_ zi3 (zaa (zac (pv 5)) zad))) zad))))) (zae (zbs (zaY o_gt (za7 (x := "max") (zpb rfl) rfl m.max_ ziF (zaa (zac (pv 8)) zad)) (zac (pv 2)) (zaO _)) (zaf (zbs (zcP (zbN (q_fn c_z36 hr rfl (zaa (zbP (zbz hr) (zac (pv 9)) zah (fun _ _=>rfl) (fun _ _=>rfl)) (zaa (zbP (zbz hr) (zac (pv 9)) zah (fun _ _=>rfl) (fun _ _=>rfl)) (zaa (zac (pv 2)) zad)))))) (zaf (zaH zcL)) za8)) (zae (zaI (i:=10) sc.nd rfl (.inl rfl) (QN.qe (zm8 c_z11 zpL hr rfl (zaa (zbP (zbz hr) (zac (pv 9)) zah (fun _ _=>rfl) (fun _ _=>rfl)) (zaa (zbP (zbz hr) (zac (pv 9)) zah (fun _ _=>rfl) (fun _ _=>rfl)) (zaa (zac (pv 2)) zad)))))) (zae (zbs (QW.qt (zlO (zcP (zbN (q_fn c_z33 hr rfl (zaa (zac (pv 10)) zad)))) (zhO (zaY (o_ne hr.units) (zac (pv 10)) (QN.qe (zdm c_z35 hr rfl (zaa (zac (pv 7)) (zaa (zac (pv 5)) (zaa (zac (pv 1)) zad))))) (zaO _))))) (zaf (zaH zcL)) za8) (zaf (zbp PassesOwn.never rfl (za5 (QN.qe (zdm c_z10 hr rfl (zaa (zac (pv 3)) (zaa (zac (pv 5)) zad))))) (za1 (zaF (i:=11) sc.nd rfl (.inr rfl))) (zaf (zbs (zcP (zbN (za7 (x := "all") (zns rfl) rfl m.all_ ziY (zaa (QN.qe (zbA ["one", "way"] [none,some 11] rfl rfl (za5 (zac (pv 10))) (fun _ _ _ _ _=>(za1 (pgn 0 (zbo ["one", "way"])))) (fun _ _ _ _ _=>(za7 (x := "any") (zru rfl) rfl m.any_ zpp (zaa (QN.qe (zbA ["thing", "way"] [none,some 1] rfl rfl (za5 (zac (pv 0))) (fun _ _ _ _ _=>(za1 (pgn 0 (zbo ["thing", "way"])))) (fun _ _ _ _ _=>(q_in hr.units (zac (pv 0)) (zac (pv 1)))))) zad))))) zad)))) (zaf (zaH zcL)) za8))))))) (zaf (zbs (zaY (o_ne hr.units) (zac (pv 9)) (QN.qe (zbZ (zaa (zac (pv 3)) (zaa (zac (pv 5)) zad)))) (zaO _)) (zaf (zaH zcL)) za8))))))))) (zaf (zaH zcL))))))
end
def ziU (K:W.Frag):Sp:=fun vs H Q _=>∃ (a:Addr) (ns:List Int),vs=[.ref a]/\SqL K H a (ns.map V.int)/\ns.length<=63/\∀ H',Q (.bl true) H'
theorem zpC (K:W.Frag)(vs:List V)(H:Hp)(Q:VK)(E:XK)(h:ziU K vs H Q E):SpD K zi0 vs H Q E:=by
 refine zc2d h fun a ns zr2 hS hl q=>?_;subst zr2;refine ⟨H,[.scr ns],Same.refl _,IsDs.mk (IsD.scr_iff.mpr ⟨a,rfl,hS⟩) .nil,?_⟩;rw [law_true ns hl];intro v F' H' e i;rw [IsD.bl_iff.mp i];exact q H'
theorem all_mk {l:W.OpenLaw}{w:World}{K:W.Frag}{h:Heap}{mg:Str->Option Value}{fa:Addr}(X:K.In h)(G:h.Ns mainGlobals mg)(hfa:mg "law" = some (.ref fa))
 {C_TooMany:Addr}
 (d_z16:zaS K "_law_cell_at" zpO)
 (d_z26:zaS K "_law_done" zqK)
 (d_z27:zaS K "_law_comes" zpM)
 (d_z17:zaS K "_law_mixed" zpB)
 (d_z19:zaS K "_law_number" zpA)
 (d_z20:zaS K "_law_row" zqG)
 (d_z21:zaS K "_law_varied" zpJ)
 (d_z22:zaS K "_law_list" zqI)
 (d_z23:zaS K "_law_beneath" zpI)
 (d_z24:zaS K "_law_thin" zqp)
 (d_z25:zaS K "_law_forms" zqR)
 (d_z32:zaS K "_law_least" zqc)
 (d_z29:zaS K "_law_moved" zrl)
 (d_z31:zaS K "_law_sets" zra)
 (d_z35:zaS K "_law_holding" zqm)
 (d_z15:zaS K "_law_whole" zrh)
 (d_z33:zaS K "_law_is_sets" zp9)
 (d_z34:zaS K "_law_near" zq1)
 (d_z1:zaS K "fits_in" s_z1)
 (d_z5:zaS K "is_covered" s_z5)
 (d_z2:zaS K "joined" s_z2)
 (d_z8:zaS K "each_joined" s_z8)
 (d_z4:zaS K "lowest" s_z4)
 (d_z9:zaS K "form_within" s_z9)
 (d_z7:zaS K "all_of" s_z7)
 (d_z0:zaS K "row_hour" s_z0)
 (d_z6:zaS K "form_hour" s_z6)
 (d_z12:zaS K "first_done" zqz)
 (d_z13:zaS K "last_things" zq3)
 (d_z14:zaS K "things_of_each" zqe)
 (d_z11:zaS K "holders" zqB)
 (d_z36:zaS K "_law_refused" zqs)
 (d_z18:zaS K "_law_turns" zq4)
 (d_z3:zaS K "thinned" s_z3)
 (d_z10:zaS K "ways" zqX)
 (d_law:zaS K "law" zpP)
 (a_TooMany:W.nsIn K mainGlobals "TooMany" = some (some (.ref C_TooMany))) (q_TooMany:W.excIn K C_TooMany [.type "ValueError",.type "Exception",.type "BaseException",.type "object"] "ValueError.__new__" = true)
 (z_all:W.nsIn K mainGlobals "all" = some none)
 (z_any:W.nsIn K mainGlobals "any" = some none)
 (z_bool:W.nsIn K mainGlobals "bool" = some none)
 (z_dict:W.nsIn K mainGlobals "dict" = some none)
 (z_int:W.nsIn K mainGlobals "int" = some none)
 (z_isinstance:W.nsIn K mainGlobals "isinstance" = some none)
 (z_len:W.nsIn K mainGlobals "len" = some none)
 (z_list:W.nsIn K mainGlobals "list" = some none)
 (z_max:W.nsIn K mainGlobals "max" = some none)
 (z_min:W.nsIn K mainGlobals "min" = some none)
 (z_range:W.nsIn K mainGlobals "range" = some none)
 (z_set:W.nsIn K mainGlobals "set" = some none)
 (z_sorted:W.nsIn K mainGlobals "sorted" = some none)
 (z_sum:W.nsIn K mainGlobals "sum" = some none)
 (z_tuple:W.nsIn K mainGlobals "tuple" = some none) :
 ∃ fd:FuncData,(∀ (s:Shared) (v:Value),BindsTo s fd ⟨[v],[]⟩ [("script",v)])/\∀ base:Heap,K.In base->base.Ns mainGlobals mg->FnOk l.prog w K mg base CX0 8 fa fd ["script"] (ziU K):=by
 refine zc2b d_law fun f_law fd_law a_law zi0=>?_;have e:=hfa.symm.trans (W.mg_of X G a_law);cases e;have m:Mg mg:=⟨W.mg_none_of X G z_all,W.mg_none_of X G z_any,W.mg_none_of X G z_bool,W.mg_none_of X G z_dict,W.mg_none_of X G z_int,W.mg_none_of X G z_isinstance,W.mg_none_of X G z_len,W.mg_none_of X G z_list,W.mg_none_of X G z_max,W.mg_none_of X G z_min,W.mg_none_of X G z_range,W.mg_none_of X G z_set,W.mg_none_of X G z_sorted,W.mg_none_of X G z_sum,W.mg_none_of X G z_tuple⟩;have x_TooMany:Exc K mg "TooMany" C_TooMany:=⟨a_TooMany,W.mg_of X G a_TooMany,q_TooMany⟩;refine ⟨fd_law,(by obtain ⟨_,_,_,_,_,_,_,_,_,rfl,_,_⟩:=id zi0.ex;exact fun s v=>.of_eq rfl),fun base _ _=>?_⟩;have C_z16:=d_z16.callee (P:=l.prog) (w:=w) (base:=base) X G (fun F=>zsg (k:=0) F m ) fun _ _ _ _ _ _=>us2 fun _ _=>rfl;have C_z26:=d_z26.callee (P:=l.prog) (w:=w) (base:=base) X G (fun F=>zrQ (k:=0) F m ) fun _ _ _ _ _ _=>us2 fun _ _=>rfl;have C_z27:=d_z27.callee (P:=l.prog) (w:=w) (base:=base) X G (fun F=>zrI (k:=1) F m (C_z26.mono (by decide))) fun _ _ _ _ _ _=>us2 fun _ _=>rfl;have C_z17:=d_z17.callee (P:=l.prog) (w:=w) (base:=base) X G (fun F=>zsm (k:=0) F m ) fun _ _ _ _ _ _=>us2 fun _ _=>rfl;have C_z19:=d_z19.callee (P:=l.prog) (w:=w) (base:=base) X G (fun F=>zsw (k:=1) F m (C_z17.mono (by decide))) fun _ _ _ _ _ _=>us2 fun _ _=>rfl
 have C_z20:=d_z20.callee (P:=l.prog) (w:=w) (base:=base) X G (fun F=>zsj (k:=2) F m (C_z17.mono (by decide)) (C_z19.mono (by decide))) fun _ _ _ _ _ _=>us2 fun _ _=>rfl;have C_z21:=d_z21.callee (P:=l.prog) (w:=w) (base:=base) X G (fun F=>zrJ (k:=2) F m (C_z17.mono (by decide)) (C_z19.mono (by decide))) fun _ _ _ _ _ _=>us3 fun _ _ _=>rfl;have C_z22:=d_z22.callee (P:=l.prog) (w:=w) (base:=base) X G (fun F=>zsM (k:=3) F m (C_z20.mono (by decide)) (C_z21.mono (by decide))) fun _ _ _ _ _ _=>us2 fun _ _=>rfl;have C_z23:=d_z23.callee (P:=l.prog) (w:=w) (base:=base) X G (fun F=>ztM (k:=0) F m ) fun _ _ _ _ _ _=>us2 fun _ _=>rfl;have C_z24:=d_z24.callee (P:=l.prog) (w:=w) (base:=base) X G (fun F=>zrY (k:=1) F m (C_z23.mono (by decide))) fun _ _ _ _ _ _=>us1 fun _=>rfl;have C_z25:=d_z25.callee (P:=l.prog) (w:=w) (base:=base) X G (fun F=>ztb (k:=4) F m (C_z22.mono (by decide)) (C_z24.mono (by decide))) fun _ _ _ _ _ _=>us3 fun _ _ _=>rfl;have C_z32:=d_z32.callee (P:=l.prog) (w:=w) (base:=base) X G (fun F=>zt5 (k:=0) F m ) fun _ _ _ _ _ _=>us1 fun _=>rfl;have C_z29:=d_z29.callee (P:=l.prog) (w:=w) (base:=base) X G (fun F=>zsC (k:=0) F m ) fun _ _ _ _ _ _=>us3 fun _ _ _=>rfl;have C_z31:=d_z31.callee (P:=l.prog) (w:=w) (base:=base) X G (fun F=>zrZ (k:=0) F m ) fun _ _ _ _ _ _=>us1 fun _=>rfl
 have C_z35:=d_z35.callee (P:=l.prog) (w:=w) (base:=base) X G (fun F=>zrW (k:=1) F m (C_z26.mono (by decide)) (C_z32.mono (by decide)) (C_z29.mono (by decide)) (C_z31.mono (by decide))) fun _ _ _ _ _ _=>us3 fun _ _ _=>rfl;have C_z15:=d_z15.callee (P:=l.prog) (w:=w) (base:=base) X G (fun F=>zs8 (k:=0) F m ) fun _ _ _ _ _ _=>us1 fun _=>rfl;have C_z33:=d_z33.callee (P:=l.prog) (w:=w) (base:=base) X G (fun F=>zsY (k:=1) F m (C_z15.mono (by decide))) fun _ _ _ _ _ _=>us1 fun _=>rfl;have C_z34:=d_z34.callee (P:=l.prog) (w:=w) (base:=base) X G (fun F=>zsZ (k:=1) F m (C_z16.mono (by decide)) (C_z17.mono (by decide))) fun _ _ _ _ _ _=>us4 fun _ _ _ _=>rfl;have C_z1:=d_z1.callee (P:=l.prog) (w:=w) (base:=base) X G (fun F=>ok_z1 (k:=0) F m ) fun _ _ _ _ _ _=>us2 fun _ _=>rfl;have C_z5:=d_z5.callee (P:=l.prog) (w:=w) (base:=base) X G (fun F=>ok_z5 (k:=1) F m (C_z1.mono (by decide))) fun _ _ _ _ _ _=>us2 fun _ _=>rfl;have C_z2:=d_z2.callee (P:=l.prog) (w:=w) (base:=base) X G (fun F=>ok_z2 (k:=0) F m ) fun _ _ _ _ _ _=>us2 fun _ _=>rfl;have C_z8:=d_z8.callee (P:=l.prog) (w:=w) (base:=base) X G (fun F=>ok_z8 (k:=2) F m (C_z5.mono (by decide)) (C_z2.mono (by decide))) fun _ _ _ _ _ _=>us2 fun _ _=>rfl;have C_z4:=d_z4.callee (P:=l.prog) (w:=w) (base:=base) X G (fun F=>ok_z4 (k:=2) F m (C_z5.mono (by decide))) fun _ _ _ _ _ _=>us2 fun _ _=>rfl
 have C_z9:=d_z9.calleeX (P:=l.prog) (w:=w) (base:=base) X G (fun F=>ok_z9 (k:=3) F m (C_z4.mono (by decide)) x_TooMany) fun _ _ _ _ _ _=>us2 fun _ _=>rfl;have C_z7:=d_z7.calleeX (P:=l.prog) (w:=w) (base:=base) X G (fun F=>ok_z7 (k:=4) F m (C_z8.mono (by decide)) (C_z9.mono (by decide))) fun _ _ _ _ _ _=>us2 fun _ _=>rfl;have C_z0:=d_z0.callee (P:=l.prog) (w:=w) (base:=base) X G (fun F=>ok_z0 (k:=0) F m ) fun _ _ _ _ _ _=>us2 fun _ _=>rfl;have C_z6:=d_z6.callee (P:=l.prog) (w:=w) (base:=base) X G (fun F=>ok_z6 (k:=1) F m (C_z0.mono (by decide))) fun _ _ _ _ _ _=>us2 fun _ _=>rfl;have C_z12:=d_z12.callee (P:=l.prog) (w:=w) (base:=base) X G (fun F=>zrV (k:=2) F m (C_z6.mono (by decide)) (C_z0.mono (by decide))) fun _ _ _ _ _ _=>us2 fun _ _=>rfl;have C_z13:=d_z13.callee (P:=l.prog) (w:=w) (base:=base) X G (fun F=>zrF (k:=1) F m (C_z0.mono (by decide))) fun _ _ _ _ _ _=>us2 fun _ _=>rfl;have C_z14:=d_z14.callee (P:=l.prog) (w:=w) (base:=base) X G (fun F=>ztB (k:=0) F m ) fun _ _ _ _ _ _=>us1 fun _=>rfl;have C_z11:=d_z11.calleeX (P:=l.prog) (w:=w) (base:=base) X G (fun F=>zsK (k:=5) F m (C_z7.mono (by decide)) (C_z12.mono (by decide)) (C_z13.mono (by decide)) (C_z14.mono (by decide))) fun _ _ _ _ _ _=>us3 fun _ _ _=>rfl;have C_z36:=d_z36.callee (P:=l.prog) (w:=w) (base:=base) X G (fun F=>zsH (k:=6) F m (C_z11.mono (by decide)) x_TooMany) fun _ _ _ _ _ _=>us3 fun _ _ _=>rfl
 have C_z18:=d_z18.callee (P:=l.prog) (w:=w) (base:=base) X G (fun F=>zt3 (k:=0) F m ) fun _ _ _ _ _ _=>us3 fun _ _ _=>rfl;have C_z3:=d_z3.callee (P:=l.prog) (w:=w) (base:=base) X G (fun F=>ok_z3 (k:=3) F m (C_z4.mono (by decide))) fun _ _ _ _ _ _=>us1 fun _=>rfl;have C_z10:=d_z10.callee (P:=l.prog) (w:=w) (base:=base) X G (fun F=>zsN (k:=4) F m (C_z12.mono (by decide)) (C_z14.mono (by decide)) (C_z3.mono (by decide))) fun _ _ _ _ _ _=>us2 fun _ _=>rfl;exact ((ztj (k:=7) (P:=l.prog) (w:=w) (base:=base) zi0 m (C_z16.mono (by decide)) (C_z27.mono (by decide)) (C_z26.mono (by decide)) (C_z25.mono (by decide)) (C_z35.mono (by decide)) (C_z33.mono (by decide)) (C_z34.mono (by decide)) (C_z36.mono (by decide)) (C_z18.mono (by decide)) (C_z11.mono (by decide)) (C_z10.mono (by decide))).mono (by decide)).imp (zpC K)
theorem walk {l:W.OpenLaw}{q:Program}{loose:List Str}{XP:(Str->Option Value)->Heap->Prop}{YP:World->Heap->Prop}{d:DefRec}{K:Params->W.Frag}(hn:l.most=some 63)(hdf:d.params.defaults=[])
 (hY:∀ (w:World) (h:Heap),YP w h->(K w.params).In h)
 (F:∀ (w:World) (mg:Str->Option Value) (fa:Addr) (h:Heap),(K w.params).In h->h.Ns mainGlobals mg->mg d.name=some (.ref fa) ->
  ∃ fd:FuncData,(∀ (s:Shared) (u:Value),BindsTo s fd ⟨[u],[]⟩ [("script",u)])/\∀ base:Heap,(K w.params).In base->base.Ns mainGlobals mg->FnOk l.prog w (K w.params) mg base CX0 8 fa fd ["script"] (ziU (K w.params))) :
 W.WalkO q loose XP YP l.row.toRowW d [] (fun f vs=>PySem.call f vs) :=
 L2.walk_of (n:=63) (k:=8) (x := "script") (CX:=fun _=>CX0) (sp:=fun w=>ziU (K w.params)) hn (by decide) hdf ⟨rfl,by decide,by decide⟩ hY F (fun _ _ a ns hl _ hS=>⟨a,ns,rfl,hS,hl,fun _=>rfl⟩) fun _ _ _ _ _ z=>z
end My
open PySem PySem.W PyProof.Rows
set_option maxRecDepth 100000 in
set_option maxHeartbeats 0 in
theorem PySem.Challenge.cw_allfirst_k34_who_holds_it_up_holds : PySem.Challenge.rw_allfirst_k34_who_holds_it_up.Holds := by
 w_on;o_law;k_head;(case hw=>w_witness2)
 k_fill
 refine My.walk (l:=PySem.Challenge.rw_allfirst_k34_who_holds_it_up) rfl rfl (fun w h Y=>PySem.W.kIn_of Y) ?F
 case F =>
  intro w mg fa h KX G hmg;refine' My.all_mk KX G hmg ?d_z16 ?d_z26 ?d_z27 ?d_z17 ?d_z19 ?d_z20 ?d_z21 ?d_z22 ?d_z23 ?d_z24 ?d_z25 ?d_z32 ?d_z29 ?d_z31 ?d_z35 ?d_z15 ?d_z33 ?d_z34 ?d_z1 ?d_z5 ?d_z2 ?d_z8 ?d_z4 ?d_z9 ?d_z7 ?d_z0 ?d_z6 ?d_z12 ?d_z13 ?d_z14 ?d_z11 ?d_z36 ?d_z18 ?d_z3 ?d_z10 ?d_law ?a_TooMany ?q_TooMany ?z_all ?z_any ?z_bool ?z_dict ?z_int ?z_isinstance ?z_len ?z_list ?z_max ?z_min ?z_range ?z_set ?z_sorted ?z_sum ?z_tuple
  (case d_z16|d_z26|d_z27|d_z17|d_z19|d_z20|d_z21|d_z22|d_z23|d_z24|d_z25|d_z32|d_z29|d_z31|d_z35|d_z15|d_z33|d_z34|d_z1|d_z5|d_z2|d_z8|d_z4|d_z9|d_z7|d_z0|d_z6|d_z12|d_z13|d_z14|d_z11|d_z36|d_z18|d_z3|d_z10|d_law=>refine' ⟨_,_,?a,L2.fun_mk ?l ?c ?k⟩;(case a=>k_is);(case l=>k_is);(case c=>k_is);(case k=>k_is))
  (case a_TooMany=>k_is)
  (case q_TooMany=>k_exc)
  (case z_all|z_any|z_bool|z_dict|z_int|z_isinstance|z_len|z_list|z_max|z_min|z_range|z_set|z_sorted|z_sum|z_tuple=>k_is)
