import PyProof.Rows.All
import Wide.All
import OpenK.AllK
import Wide.FinOn
import Lean
import PyProof.EqAt
import PyProof.EqKinds
import PyProof.TupleCall
import PyProof.P3Eq
import PyProof.NeData
import PySem.Challenge.RW_allfirst_k09_all_of_forms
set_option Elab.async false
set_option linter.all false
set_option maxRecDepth 100000
set_option bootstrap.genMatcherCode false
set_option compiler.extract_closed false
set_option genSizeOf false
noncomputable section
local macro_rules | `(tactic| omega) => `(tactic| lia)
theorem zau (_:True=True:=by rfl):True:=trivial
theorem zav (_:True:=by decide):True:=trivial
theorem zaw (_:Nat->True=True:=by intro _;rfl):True:=trivial
theorem we {p0 p1:Prop}{P:Prop}(h:p0/\p1)(k:p0->p1->P):P:=by
 obtain ⟨h0,h1⟩:=h;exact k h0 h1
theorem xm {p0 p1 p2:Prop}{P:Prop}(h:p0/\p1/\p2)(k:p0->p1->p2->P):P:=by
 obtain ⟨h0,h1,h2⟩:=h;exact k h0 h1 h2
theorem qD {p0 p1 p2 p3:Prop}{P:Prop}(h:p0/\p1/\p2/\p3)(k:p0->p1->p2->p3->P):P:=by
 obtain ⟨h0,h1,h2,h3⟩:=h;exact k h0 h1 h2 h3
theorem yT {p0 p1 p2 p3 p4:Prop}{P:Prop}(h:p0/\p1/\p2/\p3/\p4)(k:p0->p1->p2->p3->p4->P):P:=by
 obtain ⟨h0,h1,h2,h3,h4⟩:=h;exact k h0 h1 h2 h3 h4
theorem zc1a.{u0}{α0:Sort u0}{p0:α0->Prop}{P:Prop}(h:∃ a0,p0 a0)(k:∀ a0,p0 a0->P):P:=by
 obtain ⟨a0,h0⟩:=h;exact k a0 h0
theorem zc1b.{u0}{α0:Sort u0}{p0 p1:α0->Prop}{P:Prop}(h:∃ a0,p0 a0/\p1 a0)(k:∀ a0,p0 a0->p1 a0->P):P:=by
 obtain ⟨a0,h0,h1⟩:=h;exact k a0 h0 h1
theorem zc1c.{u0}{α0:Sort u0}{p0 p1 p2:α0->Prop}{P:Prop}(h:∃ a0,p0 a0/\p1 a0/\p2 a0)(k:∀ a0,p0 a0->p1 a0->p2 a0->P):P:=by
 obtain ⟨a0,h0,h1,h2⟩:=h;exact k a0 h0 h1 h2
theorem zc1d.{u0}{α0:Sort u0}{p0 p1 p2 p3:α0->Prop}{P:Prop}(h:∃ a0,p0 a0/\p1 a0/\p2 a0/\p3 a0)(k:∀ a0,p0 a0->p1 a0->p2 a0->p3 a0->P):P:=by
 obtain ⟨a0,h0,h1,h2,h3⟩:=h;exact k a0 h0 h1 h2 h3
theorem zc1e.{u0}{α0:Sort u0}{p0 p1 p2 p3 p4:α0->Prop}{P:Prop}(h:∃ a0,p0 a0/\p1 a0/\p2 a0/\p3 a0/\p4 a0)(k:∀ a0,p0 a0->p1 a0->p2 a0->p3 a0->p4 a0->P):P:=by
 obtain ⟨a0,h0,h1,h2,h3,h4⟩:=h;exact k a0 h0 h1 h2 h3 h4
theorem zc2a.{u0,u1}{α0:Sort u0}{α1:Sort u1}{p0:α0 -> α1->Prop}{P:Prop}(h:∃ a0 a1,p0 a0 a1)(k:∀ a0 a1,p0 a0 a1->P):P:=by
 obtain ⟨a0,a1,h0⟩:=h;exact k a0 a1 h0
theorem zc2b.{u0,u1}{α0:Sort u0}{α1:Sort u1}{p0 p1:α0 -> α1->Prop}{P:Prop}(h:∃ a0 a1,p0 a0 a1/\p1 a0 a1)(k:∀ a0 a1,p0 a0 a1->p1 a0 a1->P):P:=by
 obtain ⟨a0,a1,h0,h1⟩:=h;exact k a0 a1 h0 h1
theorem zc2c.{u0,u1}{α0:Sort u0}{α1:Sort u1}{p0 p1 p2:α0 -> α1->Prop}{P:Prop}(h:∃ a0 a1,p0 a0 a1/\p1 a0 a1/\p2 a0 a1)(k:∀ a0 a1,p0 a0 a1->p1 a0 a1->p2 a0 a1->P):P:=by
 obtain ⟨a0,a1,h0,h1,h2⟩:=h;exact k a0 a1 h0 h1 h2
theorem zc2d.{u0,u1}{α0:Sort u0}{α1:Sort u1}{p0 p1 p2 p3:α0 -> α1->Prop}{P:Prop}(h:∃ a0 a1,p0 a0 a1/\p1 a0 a1/\p2 a0 a1/\p3 a0 a1)(k:∀ a0 a1,p0 a0 a1->p1 a0 a1->p2 a0 a1->p3 a0 a1->P):P:=by
 obtain ⟨a0,a1,h0,h1,h2,h3⟩:=h;exact k a0 a1 h0 h1 h2 h3
theorem zc3a.{u0,u1,u2}{α0:Sort u0}{α1:Sort u1}{α2:Sort u2}{p0:α0 -> α1 -> α2->Prop}{P:Prop}(h:∃ a0 a1 a2,p0 a0 a1 a2)(k:∀ a0 a1 a2,p0 a0 a1 a2->P):P:=by
 obtain ⟨a0,a1,a2,h0⟩:=h;exact k a0 a1 a2 h0
theorem zc3b.{u0,u1,u2}{α0:Sort u0}{α1:Sort u1}{α2:Sort u2}{p0 p1:α0 -> α1 -> α2->Prop}{P:Prop}(h:∃ a0 a1 a2,p0 a0 a1 a2/\p1 a0 a1 a2)(k:∀ a0 a1 a2,p0 a0 a1 a2->p1 a0 a1 a2->P):P:=by
 obtain ⟨a0,a1,a2,h0,h1⟩:=h;exact k a0 a1 a2 h0 h1
theorem zc3c.{u0,u1,u2}{α0:Sort u0}{α1:Sort u1}{α2:Sort u2}{p0 p1 p2:α0 -> α1 -> α2->Prop}{P:Prop}(h:∃ a0 a1 a2,p0 a0 a1 a2/\p1 a0 a1 a2/\p2 a0 a1 a2)(k:∀ a0 a1 a2,p0 a0 a1 a2->p1 a0 a1 a2->p2 a0 a1 a2->P):P:=by
 obtain ⟨a0,a1,a2,h0,h1,h2⟩:=h;exact k a0 a1 a2 h0 h1 h2
theorem zc4a.{u0,u1,u2,u3}{α0:Sort u0}{α1:Sort u1}{α2:Sort u2}{α3:Sort u3}{p0:α0 -> α1 -> α2 -> α3->Prop}{P:Prop}(h:∃ a0 a1 a2 a3,p0 a0 a1 a2 a3)(k:∀ a0 a1 a2 a3,p0 a0 a1 a2 a3->P):P:=by
 obtain ⟨a0,a1,a2,a3,h0⟩:=h;exact k a0 a1 a2 a3 h0
open PySem PySem.Spec PyProof.Rows
theorem Zqi.{u} {α:Type u}{a b:α}(h:some a=some b):a=b:=Option.some.inj h
theorem Zqg.{u} {α:Type u}{l:List α}{i:Nat}(h:i<l.length):l[i]? = some l[i]:=List.getElem?_eq_getElem h
theorem Zqs.{u} {α:Type u}{a:α}{l:List α}:a∈a::l:=List.mem_cons_self
theorem Zqm.{u} {α:Type u}(y:α){a:α}{l:List α}(h:a∈l):a∈y::l:=List.mem_cons_of_mem y h
theorem Zql.{u,v} {α:Type u}{β:Type v}{l:List α}(f:α->β):(l.map f).length=l.length:=List.length_map f
abbrev Za:=@wpAny_bind
abbrev Zb:=@wpAny_pure
abbrev Zc:=@wpAny_mono
abbrev Zd:=@if_pos
abbrev Ze:=@if_neg
abbrev Zf:=@Nat.le_refl
abbrev Zg:=@Nat.lt_of_lt_of_le
abbrev Zh:=@Nat.le_trans
abbrev Zi:=@Nat.ne_of_lt
abbrev Zj:=@Bool.false_ne_true
abbrev Zk:=@Heap.lt_size
abbrev Zl:=@List.map_cons
abbrev Zm:=@List.size_toArray
abbrev Zn:=@absurd
abbrev Zo:=@decide_eq_false
abbrev Zp:=@decide_eq_true
abbrev Zq:=@Heap.get?_push_of_some
abbrev Zr:=@Heap.get?_push_size
abbrev Zs:=@iff_of_false
abbrev Zt:=@congrArg
abbrev Zu:=@List.length_cons
abbrev Zv:=@List.getElem?_map
abbrev Zw:=@List.map_map
abbrev Zx:=@Nat.lt_irrefl
abbrev Zy:=@Nat.le_of_lt
abbrev Zz:=@List.append_nil
abbrev ZA:=@List.length_range
abbrev ZB:=@List.length_nil
namespace L2
abbrev Key:=Sum Int Str
noncomputable def oB:Key->Value->Bool
 | .inl k,v=>Value.isInt k v
 | .inr x,v=>Value.isStrOf x v
noncomputable def keyH (w:World):Key->Int
 | .inl k=>hashInt k
 | .inr x=>hashStr w x
theorem zP:∀{k:Key} {v:Value},oB k v=true->(∃i t,k=Sum.inl i/\v=Value.int i t)\/(∃x t,k=Sum.inr x/\v=Value.str x t)
 | .inl i,v,h=>by
  obtain⟨t,e⟩:=Value.isInt_shape (k:=i) (v:=v) h;exact .inl ⟨i,t,rfl,e⟩
 | .inr x,v,h=>by
  obtain⟨t,e⟩:=Value.isStrOf_shape (x:=x) (v:=v) h;exact .inr ⟨x,t,rfl,e⟩
theorem qF (i:Int)(t:Tok):oB (.inl i) (.int i t)=true:=by simp[oB,Value.isInt]
theorem keyIs_str (x:Str)(t:Tok):oB (.inr x) (.str x t)=true:=by simp[oB,Value.isStrOf]
theorem key_ll (a b:Int):decide ((Sum.inl a:Key)=Sum.inl b)=(a == b):=by
 by_cases e:a=b
 ·subst e;simp -iota
 ·have h:¬(Sum.inl a:Key)=Sum.inl b:=fun q=>e (Sum.inl.inj q);rw[Zo h];exact(beq_eq_false_iff_ne.mpr e).symm
theorem key_rr (a b:Str):decide ((Sum.inr a:Key)=Sum.inr b)=decide (a=b):=by
 by_cases e:a=b
 ·subst e;simp -iota
 ·have h:¬(Sum.inr a:Key)=Sum.inr b:=fun q=>e (Sum.inr.inj q);rw[Zo h,Zo e]
theorem key_lr (a:Int)(b:Str):decide ((Sum.inl a:Key)=Sum.inr b)=false:=Zo (fun q=>nomatch q)
theorem key_rl (a:Str)(b:Int):decide ((Sum.inr a:Key)=Sum.inl b)=false:=Zo (fun q=>nomatch q)
def zS (prog:Program)(w:World):PySem.KeyKind prog w Key where
 is:=oB
 hash:=keyH w
 inj:=fun v a b ha hb=>by
  rcases zP ha with ⟨i,t,rfl,rfl⟩|⟨x,t,rfl,rfl⟩
  ·rcases zP hb with ⟨j,u,rfl,e⟩|⟨y,u,rfl,e⟩
   ·injection e with e1 _;rw[e1]
   ·exact nomatch e
  ·rcases zP hb with ⟨j,u,rfl,e⟩|⟨y,u,rfl,e⟩
   ·exact nomatch e
   ·injection e with e1 _;rw[e1]
 byValue:=fun k v h=>by
  rcases zP h with ⟨i,t,rfl,rfl⟩|⟨x,t,rfl,rfl⟩<;>rfl
 pyHash:=fun hv h=>by
  rcases zP hv with ⟨i,t,rfl,rfl⟩|⟨x,t,rfl,rfl⟩
  ·exact wpAny_pyHash_int h
  ·exact wpAny_pyHash_str h
 eqBool:=fun hu hv h=>by
  rcases zP hu with ⟨i,t,rfl,rfl⟩|⟨x,t,rfl,rfl⟩
  ·rcases zP hv with ⟨j,u,rfl,rfl⟩|⟨y,u,rfl,rfl⟩
   ·rw[key_ll] at h;exact wpAny_eqBool_int h
   ·rw[key_lr] at h;exact SeqAt.EqAt.int_str i t y u _ _ _ _ h
  ·rcases zP hv with ⟨j,u,rfl,rfl⟩|⟨y,u,rfl,rfl⟩
   ·rw[key_rl] at h;exact SeqAt.EqAt.str_int x t j u _ _ _ _ h
   ·rw[key_rr] at h;exact wpAny_eqBool_str h
 «strs»:=fun k x t v h=>by
  rcases zP h with ⟨i,u,rfl,e⟩|⟨y,u,rfl,e⟩
  ·exact nomatch e
  ·injection e with e1 _
   subst e1;cases v<;>rfl
theorem mixKind_int (prog:Program)(w:World)(i:Int)(t:Tok):(zS prog w).is (.inl i) (.int i t)=true:=qF i t
theorem mixKind_str (prog:Program)(w:World)(x:Str)(t:Tok):(zS prog w).is (.inr x) (.str x t)=true:=keyIs_str x t
inductive V where
 |non|bl (b:Bool)|int (i:Int)|str (x:Str)|byt (b:Array UInt8)|flt (b:UInt64)|ref (a:Addr)|ty (n:String)
 deriving DecidableEq
noncomputable def yo:V->Value->Prop
 | .non,u=>u=Value.none
 | .bl b,u=>u=Value.bool b
 | .int i,u=>∃t,u=Value.int i t
 | .str x,u=>∃t,u=Value.str x t
 | .byt b,u=>∃t,u=Value.bytes b t
 | .flt b,u=>∃t,u=Value.float b t
 | .ref a,u=>u=Value.ref a
 | .ty n,u=>u=Value.type n
abbrev yq:List V->List Value->Prop:=Paired yo
theorem yq.length {xs:List V}{us:List Value}(r:yq xs us):xs.length=us.length:=Paired.length r
theorem yq.get:∀{xs:List V} {us:List Value} {i:Nat} {x:V},yq xs us->xs[i]? = some x->∃u,us[i]? = some u/\yo x u
 |_,_,_,_,.nil,e=>by simp -iota at e
 |_,_,0,_,.cons r _,e=>by simp -iota at e;subst e;exact⟨_,rfl,r⟩
 |_,_,i+1,x,.cons _ t,e=>by
  refine zc1b (yq.get (i:=i) (x:=x) t (by simpa -iota using e)) fun u h1 h2=>?_;exact⟨u,by simpa -iota using h1,h2⟩
theorem yq.set {x:V}{u:Value}(r:yo x u):∀{xs:List V} {us:List Value} (i:Nat),yq xs us->yq (xs.set i x) (us.set i u)
 |_,_,_,.nil=>.nil
 |_,_,0,.cons _ t=>.cons r t
 |_,_,i+1,.cons q t=>.cons q (yq.set r i t)
theorem yq.append:∀{xs ys:List V} {us ws:List Value},yq xs us->yq ys ws->yq (xs++ys) (us++ws):=fun h s=>by
 induction h with
 |nil=>exact s
 |cons r _ ih=>exact .cons r ih
theorem yq.none_of:∀{xs:List V} {us:List Value} {i:Nat},yq xs us->xs[i]? = none->us[i]? = none:=fun {xs us i} r e=>by
 have h1:=r.length;have h2:xs.length<=i:=List.getElem?_eq_none_iff.mp e;exact List.getElem?_eq_none_iff.mpr (by omega)
def mK:Option V->Option Value->Prop
 |some v,some u=>yo v u
 |none,none=>True
 |_,_=>False
def KV {κ : Type}:List (κ × V)->List (κ × Value)->Prop:=Paired fun (p:κ × V) (q:κ × Value)=>p.1=q.1/\yo p.2 q.2
noncomputable def kV:Key->V
 | .inl i=>.int i
 | .inr x=>.str x
inductive HO where
 |lst (xs:List V)
 |tup (xs:List V)
 |dK (kvs:List (Key×V))|dT (kvs:List (List Key×V))
 |set (S:Int->Bool) (n:Nat)
 |ins (C dx:Addr) (fs:List (Str×V))
 |own (x:Addr)
 |xd (fs:List (Str×V))
 |met (f x:Addr)
 |rng (lo hi:Int)
 |frz (o:Obj) (u:HO)
 |tbl (ps:Array Value)
 |ext (φ : Heap->Prop)
abbrev Hp:=Addr->Option HO
noncomputable def upd (H:Hp)(a:Addr)(o:HO):Hp:=fun b=>if b=a then some o else H b
theorem zo {H:Hp}{a:Addr}{o:HO}:upd H a o a=some o:=by unfold upd;rw[Zd rfl]
theorem zC {H:Hp}{a b:Addr}{o:HO}(h:b≠a):upd H a o b=H b:=by unfold upd;rw[Ze h]
theorem ne_of {H:Hp}{a b:Addr}{o u:HO}(h:H a=some o)(h':H b=some u)(d:o≠u):a≠b:=by
 intro e;subst e;rw[h] at h';exact d (Zqi h')
theorem yK {H:Hp}{a b:Addr}{o:HO}(h:H a=some o)(h':H b=none):a≠b:=by
 intro e;subst e;rw[h] at h';cases h'
section
variable (P:Program)(w:World)
def yj (H:Hp)(h:Heap)(a:Addr):HO->Prop
 | .lst xs=>xs.length<=sizeLine/\∃(its:List Value) (n:Nat),yq xs its/\h.get? a=some { cls:=.type "list",data:=.seq its.toArray n }
 | .tup xs=>(xs.length<=sizeLine/\∃o,h.get? a=some o/\o.dict=none)/\∃its:List Value,yq xs its/\IsTup h a its.toArray
 | .dK kvs=>kvs.length<=sizeLine/\(a == sysModules)=false/\∃vs,KV kvs vs/\h.DictOf (zS P w) a vs
 | .dT kvs=>kvs.length<=sizeLine/\(a == sysModules)=false/\∃xs:List (List Key×Addr×Value),
  Paired (fun (p:List Key×V) (q:List Key×Addr×Value)=>p.1=q.1/\H q.2.1=some (.tup (p.1.map kV))/\yo p.2 q.2.2) kvs xs /\
  ∃o es ep,h.get? a=some o/\o.ExactDict/\o.data=.dict es ep/\es.toList=xs.map (entryOfKey (tupleKind (zS P w)))/\(xs.map (·.1)).Nodup
 | .set S n=>h.SetOf (intKind P w) a S n
 | .ins C dx fs=>H dx=some (.own a)/\fs.length<=1000/\dx≠a/\h.get? a=some (W.instObj C dx) /\
  ∃mA,h.Ns1 dx mA/\(∀f,mK (fs.lookup f) (mA f))/\PySem.Within mA (fs.map (·.1))
 | .own _=>∃o,h.get? a=some o
 | .xd fs=>∃mA,h.Ns1 a mA/\∀f,mK (fs.lookup f) (mA f)
 | .rng lo hi=>∃t u v,h.get? a=some { cls:=.type "range",data:=.fields #[.int lo t,.int hi u,.int 1 v] }
 | .frz o u=>h.get? a=some o/\yj H h a u
 | .tbl ps=>h.get? a=some { cls:=.none,data:=.fields ps }
 | .met f x=>h.get? a=some (W.methodObj (.ref f) (.ref x))
 | .ext φ => φ h/\(∃o,h.get? a=some o)/\∀h1 h2:Heap,φ h1->(∀o,h1.get? a=some o->h2.get? a=some o) -> φ h2
def HOk (H:Hp)(h:Heap):Prop:=∀a o,H a=some o->yj P w H h a o
end
section
variable {P:Program}{w:World}{H H':Hp}{h h':Heap}{a:Addr}{o:HO}
theorem yj.lt (x:yj P w H h a o):a<h.objs.size:=by
 cases o with
 |lst xs=>obtain⟨_,_,_,_,e⟩:=x;exact Zk e
 |tup xs=>obtain⟨_,_,_,p⟩:=x;exact p.lt
 |dK kvs=>obtain⟨_,_,_,_,o,_,_,e,_⟩:=x;exact Zk e
 |dT kvs=>obtain⟨_,_,_,_,o,_,_,e,_⟩:=x;exact Zk e
 |set S n=>obtain⟨o,_,_,_,e,_⟩:=x;exact Zk e
 |ins C dx fs=>obtain⟨_,_,_,e,_⟩:=x;exact Zk e
 |own y=>obtain⟨_,e⟩:=x;exact Zk e
 |xd fs=>obtain⟨_,⟨_,_,_,e,_⟩,_⟩:=x;exact Zk e
 |rng lo hi=>obtain⟨_,_,_,e⟩:=x;exact Zk e
 |frz ob u=>obtain⟨e,_⟩:=x;exact Zk e
 |tbl ps=>exact Zk (show h.get? a=some _ from x)
 |met f y=>exact Zk (show h.get? a=some _ from x)
 |ext φ => obtain⟨_,⟨_,e⟩,_⟩:=x;exact Zk e
theorem Paired.mapP {α β : Type}{F G:α -> β -> Prop}:∀{l₁:List α} {l₂:List β},Paired F l₁ l₂->(∀a b,F a b->G a b)->Paired G l₁ l₂:=fun h f=>by
 induction h with
 |nil=>exact .nil
 |cons r _ ih=>exact .cons (f _ _ r) ih
theorem yj.stay (x:yj P w H h a o)(k:∀b u,(b=a\/H b=some (.own a))->h.get? b=some u->h'.get? b=some u)
 (ho:∀b,H b=some (.own a)->H' b=some (.own a)) (ht:∀b xs,H b=some (.tup xs)->H' b=some (.tup xs)):yj P w H' h' a o:=by
 induction o with
 |lst xs=>obtain⟨z,its,n,r,e⟩:=x;exact⟨z,its,n,r,k _ _ (.inl rfl) e⟩
 |tup xs=>obtain⟨⟨z,od,ed,dd⟩,its,r,ob,e,c⟩:=x;exact⟨⟨z,od,k _ _ (.inl rfl) ed,dd⟩,its,r,ob,k _ _ (.inl rfl) e,c⟩
 |dK kvs=>obtain⟨z,y,vs,r,ob,es,ep,e,c⟩:=x;exact⟨z,y,vs,r,ob,es,ep,k _ _ (.inl rfl) e,c⟩
 |dT kvs =>
  refine xm x fun z y zz=>zc1b zz fun xs r zz=>zc3b zz fun ob es ep e c=>?_;exact⟨z,y,xs,Paired.mapP r fun p q z=>⟨z.1,ht _ _ z.2.1,z.2.2⟩,ob,es,ep,k _ _ (.inl rfl) e,c⟩
 |set S n=>obtain⟨ob,es,ep,t,e,c⟩:=x;exact⟨ob,es,ep,t,k _ _ (.inl rfl) e,c⟩
 |ins C dx fs =>
  refine yT x fun d z ne e zz=>zc1b zz fun mA zr5 r=>?_;obtain⟨od,es,ep,e2,c⟩:=zr5;exact⟨ho _ d,z,ne,k _ _ (.inl rfl) e,mA,⟨od,es,ep,k _ _ (.inr d) e2,c⟩,r⟩
 |own y=>obtain⟨ob,e⟩:=x;exact⟨ob,k _ _ (.inl rfl) e⟩
 |xd fs=>obtain⟨mA,⟨od,es,ep,e,c⟩,r⟩:=x;exact⟨mA,⟨od,es,ep,k _ _ (.inl rfl) e,c⟩,r⟩
 |rng lo hi=>obtain⟨t,u,v,e⟩:=x;exact⟨t,u,v,k _ _ (.inl rfl) e⟩
 |frz ob u ih=>obtain⟨e,q⟩:=x;exact⟨k _ _ (.inl rfl) e,ih q⟩
 |tbl ps =>
  have e:h.get? a=some { cls:=.none,data:=.fields ps }:=x;show h'.get? a=some { cls:=.none,data:=.fields ps };exact k a _ (.inl rfl) e
 |met f y =>
  have e:h.get? a=some (W.methodObj (.ref f) (.ref y)):=x;show h'.get? a=some (W.methodObj (.ref f) (.ref y));exact k a _ (.inl rfl) e
 |ext φ => obtain⟨p,⟨o,e⟩,st⟩:=x;exact⟨st _ _ p fun o q=>k _ _ (.inl rfl) q,⟨o,k _ _ (.inl rfl) e⟩,st⟩
theorem HOk.lt (x:HOk P w H h)(e:H a=some o):a<h.objs.size:=(x a o e).lt
theorem HOk.fresh (x:HOk P w H h)(e:h.objs.size<=a):H a=none:=by
 cases q:H a with
 |none=>rfl
 |some u=>exact Zn (Zg (x.lt q) e) (Zx _)
theorem HOk.kept (x:HOk P w H h)(k:∀b u,h.get? b=some u->h'.get? b=some u):HOk P w H h':=fun a o e =>
 (x a o e).stay (fun b u _ q=>k b u q) (fun _ q=>q) fun _ _ q=>q
theorem HOk.laid (x:HOk P w H h)(k:∀b u,h.get? b=some u->h'.get? b=some u)(hp:h.objs.size<=a)(new:yj P w (upd H a o) h' a o):HOk P w (upd H a o) h':=fun b u e=>by
 have hn:=x.fresh hp;by_cases hb:b=a
 ·subst hb;rw[zo] at e;cases e;exact new
 ·rw[zC hb] at e;exact(x b u e).stay (fun c v _ q=>k c v q) (fun c q=>by rw[zC (yK q hn)];exact q) fun c xs q=>by rw[zC (yK q hn)];exact q
end
noncomputable def Rd (H:Hp)(a:Addr)(u:HO):Prop:=H a=some u\/∃o,H a=some (.frz o u)
theorem Rd.ok {P:Program}{w:World}{H:Hp}{h:Heap}{a:Addr}{u:HO}(r:Rd H a u)(x:HOk P w H h):yj P w H h a u:=by
 rcases r with r|⟨o,r⟩
 ·exact x a u r
 ·obtain⟨_,q⟩:=x a _ r;exact q
noncomputable def Mut:Option HO->Prop
 |some (.lst _)=>True
 |some (.dK _)=>True
 |some (.dT _)=>True
 |some (.set _ _)=>True
 |some (.ins _ _ _)=>True
 |some (.ext _)=>True
 |_=>False
section
variable {P:Program}{w:World}{H:Hp}{h h':Heap}{x e:Addr}{o':HO}
theorem HOk.write (ok:HOk P w H h)(mu:Mut (H x))(he:e=x\/H e=some (.own x))(k:∀b u,b≠e->h.get? b=some u->h'.get? b=some u)(heo:∃u,h'.get? e=some u)
 (new:yj P w (upd H x o') h' x o'):HOk P w (upd H x o') h':=fun b u q=>by
 have nown:∀c y,H c=some (.own y)->c≠x:=fun c y r z=>by subst z;rw[r] at mu;exact mu
 have ntup:∀c xs,H c=some (.tup xs)->c≠x:=fun c xs r z=>by subst z;rw[r] at mu;exact mu
 by_cases hb:b=x
 ·subst hb;rw[zo] at q;cases q;exact new
 ·rw[zC hb] at q;by_cases hbe:b=e
  ·have q':H b=some (.own x):=by
    rcases he with z|z
    ·exact Zn (hbe.trans z) hb
    ·rw[hbe];exact z
   rw[q] at q';cases q';obtain⟨v,hv⟩:=heo;exact⟨v,by rw[hbe];exact hv⟩
  ·refine(ok b u q).stay (fun c v hc r=>k c v ?_ r) (fun c r=>by rw[zC (nown c b r)];exact r) fun c xs r=>by rw[zC (ntup c xs r)];exact r
   rcases hc with rfl|hc
   ·exact hbe
   ·rintro rfl;rcases he with z|z
    ·exact nown c b hc z
    ·rw[hc] at z;cases z;exact hb rfl
end
structure Un (fs ex:List Addr)(H H':Hp)(h h':Heap):Prop where
 keep:∀b o,h.get? b=some o->H b=none->b∉fs->b∉ex->h'.get? b=some o
 slot:∀b o,h.get? b=some o->H b=none->b∈fs->b∉ex->∃sl,h'.get? b=some { o with slots:=sl }
 free:∀b o,h.get? b=some o->H b=none->b∉ex->H' b=none
 there:∀b o,h.get? b=some o->b∉ex->∃o',h'.get? b=some o'
 tups:∀b xs,H b=some (.tup xs)->H' b=some (.tup xs)
 frzs:∀b o u,H b=some (.frz o u)->H' b=some (.frz o u)
 tbls:∀b ps,H b=some (.tbl ps)->∃more,H' b=some (.tbl (ps++more))
section
variable {fs fs' ex ex':List Addr}{H H1 H2:Hp}{h h1 h2 h':Heap}{a x e:Addr}{o:HO}
theorem Un.any (u:Un fs ex H H1 h h1){b:Addr}{ob:Obj}(q:h.get? b=some ob)(n:H b=none)(hx:b∉ex):∃sl,h1.get? b=some { ob with slots:=sl }:=by
 by_cases hb:b∈fs
 ·exact u.slot b ob q n hb hx
 ·exact⟨ob.slots,u.keep b ob q n hb hx⟩
theorem Un.kept (k:∀b u,h.get? b=some u->h'.get? b=some u):Un fs ex H H h h' :=
 ⟨fun b ob q _ _ _=>k b ob q,fun b ob q _ _ _=>⟨ob.slots,k b ob q⟩,fun _ _ _ n _=>n,fun b ob q _=>⟨ob,k b ob q⟩,fun _ _ q=>q,fun _ _ _ q=>q,fun _ ps q=>⟨#[],by rw[q];simp -iota⟩⟩
theorem Un.refl:Un fs ex H H h h:=Un.kept fun _ _ q=>q
theorem Un.laid (k:∀b u,h.get? b=some u->h'.get? b=some u)(hp:h.objs.size<=a)(hn:H a=none):Un fs ex H (upd H a o) h h' where
 keep:=fun b u q _ _ _=>k b u q
 slot:=fun b u q _ _ _=>⟨u.slots,k b u q⟩
 free:=fun b u q n _=>by rw[zC (Zi (Zg (Zk q) hp))];exact n
 there:=fun b u q _=>⟨u,k b u q⟩
 tups:=fun b xs q=>by rw[zC (yK q hn)];exact q
 frzs:=fun b u xs q=>by rw[zC (yK q hn)];exact q
 tbls:=fun b ps q=>⟨#[],by rw[zC (yK q hn),q];simp -iota⟩
theorem Un.write (mu:Mut (H x))(he:e=x\/H e=some (.own x))(k:∀b u,b≠e->h.get? b=some u->h'.get? b=some u)(heo:∃u,h'.get? e=some u):Un fs ex H (upd H x o) h h':=by
 have hx:∀b,H b=none->b≠x:=fun b n z=>by subst z;rw[n] at mu;exact mu
 have hb:∀b,H b=none->b≠e:=fun b n z=>by
  subst z;rcases he with r|r
  ·exact hx b n r
  ·rw[n] at r;cases r
 have hm:∀b u,H b=some u->¬Mut (some u)->b≠x:=fun b u q nm z=>by subst z;rw[q] at mu;exact nm mu
 refine⟨fun b u q n _ _=>k b u (hb b n) q,fun b u q n _ _=>⟨u.slots,k b u (hb b n) q⟩,fun b u q n _=>by rw[zC (hx b n)];exact n,fun b u q _=>?_,
  fun b xs q=>by rw[zC (hm b _ q fun z=>z)];exact q,fun b u xs q=>by rw[zC (hm b _ q fun z=>z)];exact q,fun b ps q=>⟨#[],by rw[zC (hm b _ q fun z=>z),q];simp -iota⟩⟩
 by_cases hbe:b=e
 ·subst hbe;exact heo
 ·exact⟨u,k b u hbe q⟩
end
noncomputable def trk (h:Heap)(H:Hp):List Addr:=(List.range h.objs.size).filter fun a=>(H a).isSome
def jI (h:Heap)(H:Hp):Heap:=W.hideAll h (trk h H)
theorem hidT_size (h:Heap)(H:Hp):(jI h H).objs.size=h.objs.size:=W.hideAll_size _ _
theorem hidT_get {h:Heap}{H:Hp}{b:Addr}{o:Obj}(e:h.get? b=some o)(n:H b=none):(jI h H).get? b=some o :=
 W.hideAll_get _ e fun hm=>by
  have q:(H b).isSome=true:=(List.mem_filter.mp hm).2;rw[n] at q;simp -iota at q
theorem of_hidT {h:Heap}{H:Hp}{b:Addr}{o:Obj}(e:(jI h H).get? b=some o):h.get? b=some o/\H b=none:=by
 have e':h.get? b=some o:=W.of_hideAll (trk h H) e;refine⟨e',?_⟩;cases q:H b with
 |none=>rfl
 |some x =>
  have hm:b∈trk h H:=List.mem_filter.mpr ⟨List.mem_range.mpr (Zk e'),by simp -iota [q]⟩;have z:(jI h H).get? b=none:=W.hideAll_none (trk h H) hm;rw[z] at e;cases e
structure Mod (K:W.Frag)(mg:Str->Option Value)(base:Heap):Prop where
 kin:K.In base
 glob:base.Ns mainGlobals mg
 blt:∃mb,base.Ns builtinsNs mb/\∀x:Str,x ≠ "__name__" -> mb x=bootBuiltins x
 nolimit:base.NoLimit
structure Cx where
 prog:Program
 w:World
 K:W.Frag
 mg:Str->Option Value
 base:Heap
 A:Around
 N:List Str
 s₀:Shared
 H₀:Hp
 env:Env
 outer:List Env
 stack:List Env
 ex:List Addr
 fn:Str->Bool
 calm:Bool
 pn:List (Addr×Obj)
 xe:Value->Shared->Prop
noncomputable def frs (l:List Env):List Addr:=l.filterMap (·.frame)
abbrev Cx.fs (X:Cx):List Addr:=frs X.outer
noncomputable def Vis (sc:Scope)(x:Str):Prop:=sc.names.lookup x=some .local\/sc.names.lookup x=some .cell\/sc.names.lookup x=some .free
noncomputable def Loc (sc:Scope)(x:Str):Prop:=sc.names.lookup x=some .local\/sc.names.lookup x=some .cell
noncomputable def Look (env:Env)(h:Heap)(m:Str->Option Value)(x:Str)(u:Value):Prop :=
 (env.kindOf x=some .local/\m x=some u)\/((env.kindOf x=some .cell\/env.kindOf x=some .free)/\∃c,env.cells.lookup x=some c/\h.IsCell c (some u))
structure Cx.Ok (X:Cx):Prop where
 mod:Mod X.K X.mg X.base
 kind:X.env.scope.kind=.function
 glob:X.env.globals=mainGlobals
 blt:X.env.builtins=builtinsNs
 above:X.s₀.heap.objs.size<=X.env.locals
 inj:∀x y c,X.env.cells.lookup x=some c->X.env.cells.lookup y=some c->x=y
 has:∀x,(X.env.kindOf x=some .cell\/X.env.kindOf x=some .free)->∃c,X.env.cells.lookup x=some c
 cab:∀x c,X.fn x=true->X.env.cells.lookup x=some c->X.s₀.heap.objs.size<=c
 hd:X.calm=true->X.A.handled=none
 frames:X.A.frames=some X.stack
 stk:X.stack=X.outer\/(X.stack=X.env::X.outer/\X.env.frame=some X.env.locals)
 exf:∀b∈X.ex,b≠X.env.locals/\∀x c,X.env.cells.lookup x=some c->c≠b
 bs:∀b o,X.base.get? b=some o->X.s₀.heap.get? b=some o/\X.H₀ b=none
 bsz:X.base.objs.size<=X.s₀.heap.objs.size
 noex:∀b o,X.base.get? b=some o->b∉X.ex
 exfs:∀b∈X.ex,b∉X.fs
 funs:X.s₀.heap.FunFrames X.base X.outer
 frf:∀b∈X.fs,X.H₀ b=none
structure Inv (X:Cx)(pins:List (Addr×Obj))(σ : List (Option V))(H:Hp)(s:Shared):Prop where
 ok:X.Ok
 os:s.os=X.s₀.os
 bare:AllBare s.gens
 base:Un X.fs X.ex X.H₀ H X.s₀.heap s.heap
 loc:∃m,s.heap.Ns X.env.locals m/\∀(i:Nat) (x:Str) (v:V),X.N[i]? = some x -> σ[i]? = some (some v)->Vis X.env.scope x->∃u,yo v u/\Look X.env s.heap m x u
 cell:∀x c,X.env.cells.lookup x=some c->∃v,s.heap.IsCell c v
 free:H X.env.locals=none
 freeC:∀x c,X.env.cells.lookup x=some c->H c=none
 pin:∀p∈X.pn++pins,s.heap.get? p.1=some p.2/\H p.1=none/\p.1≠X.env.locals/\p.1∉X.fs/\∀v,p.2.data ≠ .cell v
 hok:HOk X.prog X.w H s.heap
 len:σ.length=X.N.length
section
variable {X:Cx}{pins:List (Addr×Obj)}{σ : List (Option V)}{H H':Hp}{s:Shared}{h':Heap}
theorem Cx.Ok.nofr (ok:X.Ok){b:Addr}{o:Obj}(e:X.base.get? b=some o):b∉X.fs:=fun hb=>by
 have:=(ok.funs.mem hb).1;rw[e] at this;cases this
theorem Inv.bs (I:Inv X pins σ H s):∀b o,X.base.get? b=some o->s.heap.get? b=some o/\H b=none:=fun b o e =>
 ⟨I.base.keep b o (I.ok.bs b o e).1 (I.ok.bs b o e).2 (I.ok.nofr e) (I.ok.noex b o e),I.base.free b o (I.ok.bs b o e).1 (I.ok.bs b o e).2 (I.ok.noex b o e)⟩
theorem Inv.bk (I:Inv X pins σ H s):∀b o,X.base.get? b=some o->s.heap.get? b=some o:=fun b o e=>(I.bs b o e).1
theorem Inv.mod (I:Inv X pins σ H s):Mod X.K X.mg X.base:=I.ok.mod
theorem Inv.kIn (I:Inv X pins σ H s):X.K.In s.heap:=I.ok.mod.kin.keeps I.bk
theorem Inv.lt (I:Inv X pins σ H s):X.env.locals<s.heap.objs.size:=let ⟨_,hn,_⟩:=I.loc;hn.lt
theorem Inv.sz (I:Inv X pins σ H s):X.s₀.heap.objs.size<=s.heap.objs.size:=Zh I.ok.above (Zy I.lt)
theorem Inv.nofs (I:Inv X pins σ H s){a:Addr}(h:s.heap.objs.size<=a):a∉X.fs:=fun hb=>by
 refine we (I.ok.funs.mem hb) fun _ zz=>zc1b zz fun o ho _=>?_;exact Zn (Zg (Zk ho) (Zh I.sz h)) (Zx _)
theorem Inv.cne (I:Inv X pins σ H s):∀x c,X.env.cells.lookup x=some c->c≠X.env.locals:=fun x c e z=>by
 refine zc2b (I.cell x c e) fun v o ho hd=>?_;refine zc1b I.loc fun m zr1 _=>?_;obtain⟨o',es,ep,ho',hd',_⟩:=zr1;rw[z,ho'] at ho;cases ho;rw[hd'] at hd;cases hd
theorem Inv.funs (I:Inv X pins σ H s):s.heap.FunFrames X.base X.outer:=by
 have all:∀(l:List Env),(∀b∈frs l,b∈X.fs)->X.s₀.heap.FunFrames X.base l->s.heap.FunFrames X.base l:=by
  intro l
  induction l with
  |nil=>intro _ _;trivial
  |cons env r ih =>
   intro hs hl;refine xm hl fun hk zr1 hr=>?_;obtain⟨L,o,hf,hn,ho,hd⟩:=zr1;have hL:L∈X.fs:=hs L (by unfold frs;rw[List.filterMap_cons,hf];exact Zqs);obtain⟨sl,e⟩:=I.base.slot L o ho (I.ok.frf L hL) hL fun z=>I.ok.exfs L z hL;exact⟨hk,⟨L,_,hf,hn,e,hd⟩,ih (fun b hb=>hs b (by unfold frs;rw[List.filterMap_cons,hf];exact Zqm _ hb)) hr⟩
 exact all X.outer (fun _ hb=>hb) I.ok.funs
theorem Inv.stack (I:Inv X pins σ H s):s.heap.FunFrames X.base X.stack:=by
 rcases I.ok.stk with e|⟨e,hf⟩
 ·rw[e];exact I.funs
 ·rw[e];refine zc1b I.loc fun m hn _=>?_;refine .cons (by rw[I.ok.kind];decide) hf hn ?_ I.funs;exact Heap.get?_none_of_le (Zh I.ok.bsz I.ok.above)
theorem Inv.stkSub (I:Inv X pins σ H s):∀b∈frs X.stack,b∈X.env.locals::X.fs:=fun b hb=>by
 rcases I.ok.stk with e|⟨e,hf⟩
 ·rw[e] at hb;exact Zqm _ hb
 ·rw[e] at hb;unfold frs at hb;rw[List.filterMap_cons,hf] at hb;exact hb
theorem Inv.stkFree (I:Inv X pins σ H s):∀b∈frs X.stack,H b=none:=fun b hb=>by
 rcases List.mem_cons.mp (I.stkSub b hb) with e|hb
 ·rw[e];exact I.free
 ·refine we (I.ok.funs.mem hb) fun _ zz=>zc1b zz fun o ho _=>?_;exact I.base.free b o ho (I.ok.frf b hb) fun z=>I.ok.exfs b z hb
theorem Inv.step {g':Array GenState}{t':Nat}{d':Drawn}{ch:List Addr}(I:Inv X pins σ H s)
 (hch:∀b∈ch,(b∈X.ex\/X.s₀.heap.objs.size<=b)/\b≠X.env.locals/\(∀x c,X.env.cells.lookup x=some c->c≠b)/\∀p∈X.pn++pins,p.1≠b)
 (keep:∀b o,b≠X.env.locals->b∉X.fs->b∉ch->s.heap.get? b=some o->H b=none->h'.get? b=some o)
 (slot:∀b o,b≠X.env.locals->b∈X.fs->b∉ch->s.heap.get? b=some o->H b=none->∃sl,h'.get? b=some { o with slots:=sl }) (free:∀b o,b∉ch->s.heap.get? b=some o->H b=none->H' b=none)
 (there:∀b o,b∉ch->s.heap.get? b=some o->∃o',h'.get? b=some o')
 (tups:∀b xs,H b=some (.tup xs)->H' b=some (.tup xs)) (frzs:∀b o u,H b=some (.frz o u)->H' b=some (.frz o u)) (tbls:∀b ps,H b=some (.tbl ps)->∃more,H' b=some (.tbl (ps++more)))
 (ns:∀m,s.heap.Ns X.env.locals m->h'.Ns X.env.locals m) (hok:HOk X.prog X.w H' h') (hg:AllBare g') :
 Inv X pins σ H' { s with heap:=h',gens:=g',drawn:=d',toks:=t' }:=by
 have neL:∀b o,X.s₀.heap.get? b=some o->b≠X.env.locals:=fun b o e=>Zi (Zg (Zk e) I.ok.above);have neC:∀b o,X.s₀.heap.get? b=some o->b∉X.ex->b∉ch:=fun b o e hx hb=>by
  rcases(hch b hb).1 with z|z
  ·exact hx z
  ·exact Zn (Zg (Zk e) z) (Zx _)
 have cellK:∀x c,X.env.cells.lookup x=some c->∀v,s.heap.IsCell c v->h'.IsCell c v:=fun x c e v zh=>by
  refine zc1b zh fun o ho hd=>?_;have nch:c∉ch:=fun z=>(hch c z).2.2.1 x c e rfl;by_cases hc:c∈X.fs
  ·obtain⟨sl,q⟩:=slot c o (I.cne x c e) hc nch ho (I.freeC x c e);exact⟨_,q,hd⟩
  ·exact⟨o,keep c o (I.cne x c e) hc nch ho (I.freeC x c e),hd⟩
 refine⟨I.ok,I.os,hg,⟨fun b o e n hb hx=>?_,fun b o e n hb hx=>?_,fun b o e n hx=>?_,fun b o e hx=>?_,fun b xs e=>tups b xs (I.base.tups b xs e),fun b o xs e=>frzs b o xs (I.base.frzs b o xs e),fun b ps e=>?_⟩,?_,fun x c e=>?_,?_,fun x c e=>?_,fun p hp=>?_,hok,I.len⟩
 ·exact keep b o (neL b o e) hb (neC b o e hx) (I.base.keep b o e n hb hx) (I.base.free b o e n hx)
 ·obtain⟨sl,e1⟩:=I.base.slot b o e n hb hx;obtain⟨sl',e2⟩:=slot b _ (neL b o e) hb (neC b o e hx) e1 (I.base.free b o e n hx);exact⟨sl',e2⟩
 ·obtain⟨o',e1⟩:=I.base.there b o e hx;exact free b o' (neC b o e hx) e1 (I.base.free b o e n hx)
 ·obtain⟨o',e1⟩:=I.base.there b o e hx;exact there b o' (neC b o e hx) e1
 ·obtain⟨m1,e1⟩:=I.base.tbls b ps e;obtain⟨m2,e2⟩:=tbls b _ e1;exact⟨m1++m2,by rw[e2,Array.append_assoc]⟩
 ·refine zc1b I.loc fun m hn hl=>?_;refine⟨m,ns m hn,fun i x v e1 e2 e3=>?_⟩;refine zc1b (hl i x v e1 e2 e3) fun u r l=>?_;refine⟨u,r,?_⟩;rcases l with l|⟨k,c,e,z⟩
  ·exact .inl l
  ·exact .inr ⟨k,c,e,cellK x c e _ z⟩
 ·obtain⟨v,z⟩:=I.cell x c e;exact⟨v,cellK x c e v z⟩
 ·refine zc1b I.loc fun m zr1 _=>?_;obtain⟨o,_,_,ho,_⟩:=zr1;exact free _ o (fun z=>(hch _ z).2.1 rfl) ho I.free
 ·refine zc2b (I.cell x c e) fun v o ho hd=>?_;exact free c o (fun z=>(hch c z).2.2.1 x c e rfl) ho (I.freeC x c e)
 ·refine yT (I.pin p hp) fun e n ne nf d=>?_;have nch:p.1∉ch:=fun z=>(hch p.1 z).2.2.2 p hp rfl;exact⟨keep p.1 p.2 ne nf nch e n,free p.1 p.2 nch e n,ne,nf,d⟩
theorem Inv.un {t':Nat}(I:Inv X pins σ H s)(u:Un X.fs [] H H' s.heap h')(hok:HOk X.prog X.w H' h'):Inv X pins σ H' { s with heap:=h',toks:=t' }:=by
 refine zc1b (id I.loc) fun m zr1 _=>?_;obtain⟨o,es,ep,ho,r⟩:=zr1;obtain⟨sl,hL⟩:=u.any ho I.free (by simp -iota);exact I.step (g':=s.gens) (d':=s.drawn) (ch:=[]) (fun _ z=>nomatch z) (fun b o _ hb _ e n=>u.keep b o e n hb (by simp -iota)) (fun b o _ hb _ e n=>u.slot b o e n hb (by simp -iota)) (fun b o _ e n=>u.free b o e n (by simp -iota)) (fun b o _ e=>u.there b o e (by simp -iota)) u.tups u.frzs u.tbls (fun m' hm=>by
  refine zc3b hm fun o' es' ep' ho' r'=>?_;rw[ho] at ho';cases ho';exact⟨_,es',ep',hL,r'⟩) hok I.bare
theorem Inv.call {g':Array GenState}{t':Nat}{d':Drawn}{ch:List Addr}(I:Inv X pins σ H s)(u:Un (frs X.stack) ch H H' s.heap h')(hok:HOk X.prog X.w H' h')(hg:AllBare g')
 (hch:∀b∈ch,(b∈X.ex\/X.s₀.heap.objs.size<=b)/\b≠X.env.locals/\(∀x c,X.env.cells.lookup x=some c->c≠b)/\∀p∈X.pn++pins,p.1≠b) :
 Inv X pins σ H' { s with heap:=h',gens:=g',drawn:=d',toks:=t' }:=by
 refine zc1b (id I.loc) fun m zr1 _=>?_;obtain⟨o,es,ep,ho,r⟩:=zr1;obtain⟨sl,hL⟩:=u.any ho I.free fun z=>(hch _ z).2.1 rfl;exact I.step (ch:=ch) hch (fun b o hL hb hc e n=>u.keep b o e n (fun z=>(List.mem_cons.mp (I.stkSub b z)).elim hL hb) hc) (fun b o _ _ hc e n=>u.any e n hc) (fun b o hc e n=>u.free b o e n hc) (fun b o hc e=>u.there b o e hc) u.tups u.frzs u.tbls (fun m' hm=>by
  refine zc3b hm fun o' es' ep' ho' r'=>?_;rw[ho] at ho';cases ho';exact⟨_,es',ep',hL,r'⟩) hok hg
theorem Inv.turned {t':Nat}{it:Addr}(I:Inv X pins σ H s)(k:∀b o,b≠it->s.heap.get? b=some o->h'.get? b=some o)(hn:H it=none)(hL:it≠X.env.locals)
 (h1:it∈X.ex\/X.s₀.heap.objs.size<=it) (h2:∀x c,X.env.cells.lookup x=some c->c≠it) (h3:∀p∈X.pn++pins,p.1≠it):Inv X pins σ H { s with heap:=h',toks:=t' }:=by
 have nit:∀b u,H b=some u->b≠it:=fun b u e z=>by rw[z,hn] at e;cases e
 refine I.step (g':=s.gens) (d':=s.drawn) (ch:=[it]) (fun b hb=>?_) (fun b o _ _ hc e _=>k b o (fun z=>hc (by simp -iota [z])) e) (fun b o _ _ hc e _=>⟨o.slots,k b o (fun z=>hc (by simp -iota [z])) e⟩) (fun _ _ _ _ n=>n)
  (fun b o hc e=>⟨o,k b o (fun z=>hc (by simp -iota [z])) e⟩) (fun _ _ e=>e) (fun _ _ _ e=>e) (fun b ps e=>⟨#[],by rw[e];simp -iota⟩) (fun m hm=>?_) (fun b u e=>?_) I.bare
 ·have e:b=it:=by simpa -iota using hb
  subst e;exact⟨h1,hL,h2,h3⟩
 ·refine zc3b hm fun o es ep ho r=>?_;exact⟨o,es,ep,k _ o (Ne.symm hL) ho,r⟩
 ·refine(I.hok b u e).stay (fun c v hc q=>k c v ?_ q) (fun _ q=>q) fun _ _ q=>q;rcases hc with z|z
  ·rw[z];exact nit b u e
  ·exact nit c _ z
theorem Inv.tok (I:Inv X pins σ H s)(t:Nat):Inv X pins σ H { s with toks:=t }:=I.un (h':=s.heap) (t':=t) Un.refl I.hok
theorem Inv.kept {t':Nat}(I:Inv X pins σ H s)(k:∀b u,s.heap.get? b=some u->h'.get? b=some u):Inv X pins σ H { s with heap:=h',toks:=t' }:=I.un (Un.kept k) (I.hok.kept k)
theorem Inv.laid {a:Addr}{o:HO}{t':Nat}(I:Inv X pins σ H s)(k:∀b u,s.heap.get? b=some u->h'.get? b=some u)(hp:s.heap.objs.size<=a)(new:yj X.prog X.w (upd H a o) h' a o) :
 Inv X pins σ (upd H a o) { s with heap:=h',toks:=t' }:=I.un (Un.laid k hp (I.hok.fresh hp)) (I.hok.laid k hp new)
theorem Inv.write {x e:Addr}{o:HO}{t':Nat}(I:Inv X pins σ H s)(mu:Mut (H x))(he:e=x\/H e=some (.own x))(k:∀b u,b≠e->s.heap.get? b=some u->h'.get? b=some u)(heo:∃u,h'.get? e=some u)
 (new:yj X.prog X.w (upd H x o) h' x o):Inv X pins σ (upd H x o) { s with heap:=h',toks:=t' }:=I.un (Un.write mu he k heo) (I.hok.write mu he k heo new)
theorem Inv.pins_of {pins':List (Addr×Obj)}(I:Inv X pins σ H s)(h:∀p∈pins',s.heap.get? p.1=some p.2/\H p.1=none/\p.1≠X.env.locals/\p.1∉X.fs/\∀v,p.2.data ≠ .cell v):Inv X pins' σ H s :=
 ⟨I.ok,I.os,I.bare,I.base,I.loc,I.cell,I.free,I.freeC,fun p hp=>(List.mem_append.mp hp).elim (fun z=>I.pin p (List.mem_append_left _ z)) (h p),I.hok,I.len⟩
theorem nk {N:List Str}(hN:N.Nodup){i j:Nat}{x:Str}(a:N[i]? = some x)(b:N[j]? = some x):i=j:=by
 obtain⟨h1,e1⟩:=List.getElem?_eq_some_iff.mp a;obtain⟨h2,e2⟩:=List.getElem?_eq_some_iff.mp b;exact(List.getElem_inj hN).mp (e1.trans e2.symm)
theorem store_ok2 {M:Model}{A:Around}{E:Value->Shared->Prop}{i:Nat}{x:Str}{v:V}{u:Value}{Q:Unit->Shared->Prop}(I:Inv X pins σ H s)(hN:X.N.Nodup)(hi:X.N[i]? = some x)(hx:Loc X.env.scope x)(r:yo v u)
 (h:∀s',Inv X pins (σ.set i (some v)) H s'->(∃a,Heap.SameBut a s.heap s'.heap/\(a=X.env.locals\/X.env.cells.lookup x=some a))->Q () s') (hf:X.fn x=true\/X.env.scope.names.lookup x=some .local:=by first|exact .inl rfl|exact .inr rfl|assumption):wpAny M A (storeName X.env x u) Q E s:=by
 refine zc1b (id I.loc) fun m hn hl=>?_;have hcls:(X.env.scope.kind == .class||(X.env.scope.kind == .module&&X.env.locals != X.env.globals))=false:=by rw[I.ok.kind];rfl
 have hiσ : i < σ.length:=by rw[I.len];exact(List.getElem?_eq_some_iff.mp hi).1
 have cne:=I.cne;have tracked:∀{a:Addr} {h':Heap},(∃o,s.heap.get? a=some o/\H a=none)->Heap.SameBut a s.heap h'->HOk X.prog X.w H h':=fun {a h'} ha hs b ob e=>by
  refine zc1b ha fun _ _ hfree=>?_;refine(I.hok b ob e).stay (fun c w' hc q=>(hs.2 c ?_).trans q) (fun _ q=>q) fun _ _ q=>q;rintro rfl;rcases hc with rfl|hc
  ·rw[hfree] at e;cases e
  ·rw[hfree] at hc;cases hc
 rcases hx with hk|hk
 ·refine wpAny_storeName_local hk hn (fun h' hn' hs=>?_) hcls;refine zc3b (id hn) fun oL _ _ hoL _=>?_;refine h _ ⟨I.ok,I.os,I.bare,⟨fun b o e n hb hx=>?_,fun b o e n hb hx=>?_,I.base.free,fun b o e hx=>?_,I.base.tups,I.base.frzs,I.base.tbls⟩,⟨_,hn',fun j y v' e1 e2 e3=>?_⟩,fun y c e=>?_,I.free,I.freeC,fun p hp=>?_,tracked ⟨oL,hoL,I.free⟩ hs,by simpa -iota using I.len⟩ ⟨_,hs,.inl rfl⟩
  ·exact(hs.2 b (Zi (Zg (Zk e) I.ok.above))).trans (I.base.keep b o e n hb hx)
  ·obtain⟨sl,e1⟩:=I.base.slot b o e n hb hx;exact⟨sl,(hs.2 b (Zi (Zg (Zk e) I.ok.above))).trans e1⟩
  ·obtain⟨o',e1⟩:=I.base.there b o e hx;exact⟨o',(hs.2 b (Zi (Zg (Zk e) I.ok.above))).trans e1⟩
  ·by_cases hj:j=i
   ·subst hj;rw[hi] at e1;cases e1;rw[List.getElem?_set_self hiσ] at e2;cases e2;exact⟨u,r,.inl ⟨hk,by simp -iota⟩⟩
   ·rw[List.getElem?_set_ne (Ne.symm hj)] at e2;refine zc1b (hl j y v' e1 e2 e3) fun u' r' q=>?_;refine⟨u',r',?_⟩;rcases q with ⟨k,e⟩|⟨k,c,e,z⟩
    ·refine .inl ⟨k,?_⟩;have:y≠x:=fun e=>hj (nk hN e1 (e ▸ hi));simp -iota [this,e]
    ·exact .inr ⟨k,c,e,z.sameBut hs (cne y c e)⟩
  ·obtain⟨w',z⟩:=I.cell y c e;exact⟨w',z.sameBut hs (cne y c e)⟩
  ·refine yT (I.pin p hp) fun e n ne nf d=>?_;exact⟨(hs.2 p.1 ne).trans e,n,ne,nf,d⟩
 ·have hfn:X.fn x=true:=by
   rcases hf with z|z
   ·exact z
   ·rw[z] at hk;cases hk
  obtain⟨c,hc⟩:=I.ok.has x (.inl hk);obtain⟨w',z⟩:=I.cell x c hc;refine wpAny_storeName_cell I.ok.kind hk hc z (fun h' hc' hs=>?_);refine zc1b (id z) fun oc hoc hocd=>?_;refine h { s with heap:=h' } ⟨I.ok,I.os,I.bare,⟨fun b o e n hb hx=>?_,fun b o e n hb hx=>?_,I.base.free,fun b o e hx=>?_,I.base.tups,I.base.frzs,I.base.tbls⟩,⟨m,hn.sameBut hs (Ne.symm (cne x c hc)),fun j y v' e1 e2 e3=>?_⟩,fun y c' e=>?_,I.free,I.freeC,fun p hp=>?_,tracked ⟨oc,hoc,I.freeC x c hc⟩ hs,by simpa -iota using I.len⟩ ⟨c,hs,.inr hc⟩
  ·exact(hs.2 b (Zi (Zg (Zk e) (I.ok.cab x c hfn hc)))).trans (I.base.keep b o e n hb hx)
  ·obtain⟨sl,e1⟩:=I.base.slot b o e n hb hx;exact⟨sl,(hs.2 b (Zi (Zg (Zk e) (I.ok.cab x c hfn hc)))).trans e1⟩
  ·obtain⟨o',e1⟩:=I.base.there b o e hx;exact⟨o',(hs.2 b (Zi (Zg (Zk e) (I.ok.cab x c hfn hc)))).trans e1⟩
  ·by_cases hj:j=i
   ·subst hj;rw[hi] at e1;cases e1;rw[List.getElem?_set_self hiσ] at e2;cases e2;exact⟨u,r,.inr ⟨.inl hk,c,hc,hc'⟩⟩
   ·rw[List.getElem?_set_ne (Ne.symm hj)] at e2;refine zc1b (hl j y v' e1 e2 e3) fun u' r' q=>?_;refine⟨u',r',?_⟩;rcases q with q|⟨k,c',e,z'⟩
    ·exact .inl q
    ·refine .inr ⟨k,c',e,z'.sameBut hs ?_⟩;rintro rfl;exact hj (nk hN e1 (I.ok.inj _ _ _ e hc ▸ hi))
  ·by_cases hcc:c'=c
   ·subst hcc;exact⟨_,hc'⟩
   ·obtain⟨w2,z2⟩:=I.cell y c' e;exact⟨w2,z2.sameBut hs hcc⟩
  ·refine yT (I.pin p hp) fun e n ne nf d=>?_;refine⟨(hs.2 p.1 ?_).trans e,n,ne,nf,d⟩;intro q;rw[q,hoc] at e;have q':oc=p.2:=Zqi e;exact d w' (by rw[<- q'];exact hocd)
theorem rT {M:Model}{A:Around}{E:Value->Shared->Prop}{i:Nat}{x:Str}{v:V}{u:Value}{Q:Unit->Shared->Prop}(I:Inv X pins σ H s)(hN:X.N.Nodup)(hi:X.N[i]? = some x)(hx:Loc X.env.scope x)(r:yo v u)
 (h:∀s',Inv X pins (σ.set i (some v)) H s'->Q () s') (hf:X.fn x=true\/X.env.scope.names.lookup x=some .local:=by first|exact .inl rfl|exact .inr rfl|assumption):wpAny M A (storeName X.env x u) Q E s :=
 store_ok2 I hN hi hx r (fun s' I' _=>h s' I') hf
theorem Inv.call' {s':Shared}{ch:List Addr}(I:Inv X pins σ H s)(ho:s'.os=s.os)(u:Un (frs X.stack) ch H H' s.heap s'.heap)(hok:HOk X.prog X.w H' s'.heap)(hg:AllBare s'.gens)
 (hch:∀b∈ch,(b∈X.ex\/X.s₀.heap.objs.size<=b)/\b≠X.env.locals/\(∀x c,X.env.cells.lookup x=some c->c≠b)/\∀p∈X.pn++pins,p.1≠b):Inv X pins σ H' s':=by
 obtain⟨h',g',d',t',o'⟩:=s';have e:o'=s.os:=ho;subst e;exact I.call (g':=g') (t':=t') (d':=d') u hok hg hch
end
abbrev XK:=Value->Option Addr->Hp->Prop
abbrev St:=List (Option V)
abbrev VK:=V->Hp->Prop
abbrev TE:=St->Hp->VK->Prop
abbrev TT:=St->Hp->(Bool->Hp->Prop)->Prop
abbrev TA:=St->Hp->(List V->Hp->Prop)->Prop
structure Ends where
 nx:St->Hp->Prop
 rt:VK
 bk:St->Hp->Prop:=fun _ _=>False
 ct:St->Hp->Prop:=fun _ _=>False
abbrev TS:=Ends->St->Hp->Prop
def EP (X:Cx)(pins:List (Addr×Obj))(σ : St)(Q:VK)(u:Value)(s':Shared):Prop:=∃v H',Inv X pins σ H' s'/\yo v u/\Q v H'
noncomputable def TP (X:Cx)(pins:List (Addr×Obj))(σ : St)(Q:Bool->Hp->Prop)(b:Bool)(s':Shared):Prop:=∃H',Inv X pins σ H' s'/\Q b H'
noncomputable def AP (X:Cx)(pins:List (Addr×Obj))(σ : St)(Q:List V->Hp->Prop)(us:List Value)(s':Shared):Prop:=∃vs H',Inv X pins σ H' s'/\yq vs us/\Q vs H'
def SP (X:Cx)(pins:List (Addr×Obj))(D:Ends)(f:Flow)(s':Shared):Prop :=
 match f with
 | .next=>∃σ' H',Inv X pins σ' H' s'/\D.nx σ' H'
 | .brk=>∃σ' H',Inv X pins σ' H' s'/\D.bk σ' H'
 | .cont=>∃σ' H',Inv X pins σ' H' s'/\D.ct σ' H'
 | .ret u=>∃v σ' H',Inv X pins σ' H' s'/\yo v u/\D.rt v H'
noncomputable def PE (X:Cx)(e:Expr)(t:TE):Prop :=
 ∀(pins:List (Addr×Obj)) (s:Shared) (σ : St) (H:Hp) (Q:VK),Inv X pins σ H s->t σ H Q->wpAny (model X.prog X.w) X.A (eval e X.env) (EP X pins σ Q) X.xe s
noncomputable def PT (X:Cx)(e:Expr)(t:TT):Prop :=
 ∀(pins:List (Addr×Obj)) (s:Shared) (σ : St) (H:Hp) (Q:Bool->Hp->Prop),Inv X pins σ H s->t σ H Q->wpAny (model X.prog X.w) X.A (isTrue e X.env (eval e X.env)) (TP X pins σ Q) X.xe s
noncomputable def PW (X:Cx)(e:Expr)(t:TT):Prop :=
 ∀(whole:Sem Value) (pins:List (Addr×Obj)) (s:Shared) (σ : St) (H:Hp) (Q:Bool->Hp->Prop),Inv X pins σ H s->t σ H Q->wpAny (model X.prog X.w) X.A (isTrue e X.env whole) (TP X pins σ Q) X.xe s
theorem PW.pt {X:Cx}{e:Expr}{t:TT}(h:PW X e t):PT X e t:=h _
noncomputable def PA (X:Cx)(es:List Expr)(t:TA):Prop :=
 ∀(pos:Pos) (pins:List (Addr×Obj)) (s:Shared) (σ : St) (H:Hp) (Q:List V->Hp->Prop),Inv X pins σ H s->t σ H Q->wpAny (model X.prog X.w) X.A (spliced (backTo pos (starEach es X.env))) (AP X pins σ Q) X.xe s
noncomputable def PS (X:Cx)(st:Stmt)(t:TS):Prop :=
 ∀(pins:List (Addr×Obj)) (s:Shared) (σ : St) (H:Hp) (D:Ends),Inv X pins σ H s->t D σ H->wpAny (model X.prog X.w) X.A (exec st X.env) (SP X pins D) X.xe s
noncomputable def PSs (X:Cx)(st:List Stmt)(t:TS):Prop :=
 ∀(pins:List (Addr×Obj)) (s:Shared) (σ : St) (H:Hp) (D:Ends),Inv X pins σ H s->t D σ H->wpAny (model X.prog X.w) X.A (execs st X.env) (SP X pins D) X.xe s
theorem thn {α : Type}{t:Sem α}{Q Q' : α -> Shared->Prop}{M:Model}{A:Around}{E:Value->Shared->Prop}{s:Shared}(h:wpAny M A t Q E s)(hQ:∀a s,Q a s->Q' a s):wpAny M A t Q' E s:=Zc h hQ fun _ _ x=>x
section
variable {X:Cx}
noncomputable def j9 (i:Nat):TE:=fun σ H Q=>∃v,σ[i]? = some (some v)/\Q v H
noncomputable def tC (v:V):TE:=fun _ H Q=>Q v H
theorem pe_var {i:Nat}{x:Str}{pos:Pos}(hN:X.N[i]? = some x)(hv:Vis X.env.scope x)(hd:autoParam ((x == ("__debug__" : Str))=false) zav._auto_1)(hcd:autoParam ((x == ("__classdict__" : Str))=false) zav._auto_1):PE X (.Name x pos) (j9 i):=by
 intro pins s σ H Q I h;refine zc1b h fun v e h=>?_;refine zc1b I.loc fun m hn hl=>?_;refine zc1b (hl i x v hN e hv) fun u r l=>?_;have fin:EP X pins σ Q u s:=⟨v,H,I,r,h⟩;rcases l with ⟨hk,hm⟩|⟨hk,c,hc,hcell⟩
 ·exact wpAny_Name (wpAny_loadName_local I.ok.kind hk hn hm fin) hd
 ·rcases hk with hk|hk
  ·exact wpAny_Name (wpAny_loadName_cell I.ok.kind hk hc hcell fin) hd
  ·exact wpAny_Name (wpAny_loadName_free I.ok.kind hk hc hcell fin hcd) hd
theorem pe_int {i j pos}:PE X (.Constant (.int i) j pos) (tC (.int i)):=fun _ _ _ H _ I h=>wpAny_Constant_int ⟨.int i,H,I.tok _,⟨_,rfl⟩,h⟩
theorem pe_bl {b j pos}:PE X (.Constant (.bool b) j pos) (tC (.bl b)):=fun _ _ _ H _ I h=>Constant_bool ⟨.bl b,H,I,rfl,h⟩
theorem pe_non {j pos}:PE X (.Constant .none j pos) (tC .non):=fun _ _ _ H _ I h=>Constant_none ⟨.non,H,I,rfl,h⟩
theorem pe_str {x j pos}:PE X (.Constant (.str x) j pos) (tC (.str x)):=fun _ _ _ H _ I h=>Calls.Constant_str ⟨.str x,H,I.tok _,⟨_,rfl⟩,h⟩
noncomputable def Gl (X:Cx)(x:Str):Prop:=X.env.kindOf x=some .globalImplicit
theorem rV {E:Value->Shared->Prop}{pins:List (Addr×Obj)}{s:Shared}{σ : St}{H:Hp}{x:Str}{u:Value}{pos:Pos}{Q:Value->Shared->Prop}(I:Inv X pins σ H s)(hg:Gl X x)(hm:X.mg x=some u)(h:Q u s)
 (hd:autoParam ((x == ("__debug__" : Str))=false) zav._auto_1):wpAny (model X.prog X.w) X.A (eval (.Name x pos) X.env) Q E s :=
 Calls.Name_function_global I.ok.kind hg (Calls.loadGlobal_global (by rw[I.ok.glob];exact I.mod.glob.keeps I.bk) hm h) hd
theorem sQ {E:Value->Shared->Prop}{pins:List (Addr×Obj)}{s:Shared}{σ : St}{H:Hp}{x:Str}{u:Value}{pos:Pos}{Q:Value->Shared->Prop}(I:Inv X pins σ H s)(hg:Gl X x)(hm:X.mg x=none)(hv:bootBuiltins x=some u)(h:Q u s)
 (hn:autoParam (x ≠ "__name__") zav._auto_1) (hd:autoParam ((x == ("__debug__" : Str))=false) zav._auto_1):wpAny (model X.prog X.w) X.A (eval (.Name x pos) X.env) Q E s:=by
 refine zc1b I.mod.blt fun mb h1 h2=>?_;exact Calls.Name_function_global I.ok.kind hg (Calls.loadGlobal_builtin (by rw[I.ok.glob];exact I.mod.glob.keeps I.bk) hm (by rw[I.ok.blt];exact h1.keeps I.bk) ((h2 x hn).trans hv) h) hd
theorem pe_bltn {x:Str}{v:V}{u:Value}{pos:Pos}(hg:Gl X x)(hm:X.mg x=none)(hv:bootBuiltins x=some u)(r:yo v u)(hn:autoParam (x ≠ "__name__") zav._auto_1)(hd:autoParam ((x == ("__debug__" : Str))=false) zav._auto_1):PE X (.Name x pos) (tC v) :=
 fun _ _ _ H _ I h=>sQ I hg hm hv ⟨v,H,I,r,h⟩ hn hd
variable {a b:Expr}{ta tb:TE}{pos:Pos}
noncomputable def PC (X:Cx)(op:CmpOp)(a b:Expr)(t:TE):Prop :=
 ∀(pins:List (Addr×Obj)) (s:Shared) (σ : St) (H:Hp) (Q:VK),Inv X pins σ H s->t σ H Q ->
  wpAny (model X.prog X.w) X.A (eval a X.env) (fun v s₁=>wpAny (model X.prog X.w) X.A (eval b X.env) (fun u s₂=>wpAny (model X.prog X.w) X.A (compareOp op v u) (EP X pins σ Q) X.xe s₂) X.xe s₁) X.xe s
theorem nobehind (b:Expr){op:CmpOp}(h:op ≠ .In)(h2:op ≠ .NotIn):behindInMarks op b=false:=by
 have e1:(op == CmpOp.In)=false:=by cases op<;>first|rfl|exact Zn rfl h
 have e2:(op == CmpOp.NotIn)=false:=by cases op<;>first|rfl|exact Zn rfl h2
 cases b<;>first|rfl|(show(_&&(_||_)&&_)=false;rw[e1,e2,Bool.or_self,Bool.and_false,Bool.false_and])
noncomputable def di (ta:TE):TE:=fun σ H Q=>ta σ H fun x H1=>Q (.bl (decide (x=.non))) H1
theorem yo.none_iff {x:V}{v:Value}(r:yo x v):(v == Value.none)=decide (x=.non):=by
 cases x with
 |non=>cases r;rfl
 |bl _=>cases r;rfl
 |int _=>obtain⟨t,rfl⟩:=r;rfl
 |str _=>obtain⟨t,rfl⟩:=r;rfl
 |byt _=>obtain⟨t,rfl⟩:=r;rfl
 |flt _=>obtain⟨t,rfl⟩:=r;rfl
 |ref _=>cases r;rfl
 |ty _=>cases r;rfl
theorem pc_isN {j pos'}(ha:PE X a ta):PC X .Is a (.Constant .none j pos') (di ta):=by
 intro pins s σ H Q I h;refine thn (ha pins s σ H _ I h) fun v s1 zh=>?_;refine zc2c zh fun x H1 I1 r1 q1=>?_;exact Constant_none (is_none_gen ⟨.bl _,H1,I1,by rw[r1.none_iff];rfl,q1⟩)
noncomputable def tB (t:TE):TT:=fun σ H Q=>t σ H fun x H1=>∃c,x=.bl c/\Q c H1
theorem jd {op:CmpOp}{t:TE}(h:PC X op a b t)(h1:behindInMarks op b=false:=by first|exact nobehind _ (by decide) (by decide)|rfl):PT X (.Compare a [op] [b] pos) (tB t):=by
 intro pins s σ H Q I hw;refine wpAny_isTrue_Compare1 (thn (h pins s σ H _ I hw) fun v s1 h1=>thn h1 fun u s2 h2=>thn h2 fun c s3 ⟨x,H1,I1,r1,q1⟩=>?_) h1;refine zc1b q1 fun d zr1 q=>?_;subst zr1;cases r1;exact wpAny_truthy_bool ⟨H1,I1,q⟩
theorem pt_val {e:Expr}{t:TE}(h:PE X e t)(he:autoParam (∀whole,isTrue e X.env whole=(do let v <- whole;standAt e.pos;holding [v] (truthy v))) zaw._auto_1):PT X e (tB t):=by
 intro pins s σ H Q I hw;refine isTrue_plain (thn (h pins s σ H _ I hw) fun v s1 ⟨x,H1,I1,r1,q1⟩=>?_) (he _);refine zc1b q1 fun d zr1 q=>?_;subst zr1;cases r1;exact wpAny_truthy_bool ⟨H1,I1,q⟩
variable {tA tB':TT}{rest:List Expr}
noncomputable def tAnd (t u:TT):TT:=fun σ H Q=>t σ H fun c H1=>if c=true then u σ H1 Q else Q false H1
noncomputable def tOr (t u:TT):TT:=fun σ H Q=>t σ H fun c H1=>if c=true then Q true H1 else u σ H1 Q
noncomputable def tNot (t:TT):TT:=fun σ H Q=>t σ H fun c H1=>Q (!c) H1
theorem pw_and1 (ha:PT X a tA):PW X (.BoolOp .And [a] pos) tA:=by
 intro wh pins s σ H Q I h;refine isTrue_and (thn (ha pins s σ H Q I h) fun c s1 e=>?_);cases c with
 |true=>exact isTrue_and_nil e
 |false=>exact e
theorem pw_or1 (ha:PT X a tA):PW X (.BoolOp .Or [a] pos) tA:=by
 intro wh pins s σ H Q I h;refine isTrue_or (thn (ha pins s σ H Q I h) fun c s1 e=>?_);cases c with
 |false=>exact isTrue_or_nil e
 |true=>exact e
theorem pw_and (ha:PT X a tA)(hb:PW X (.BoolOp .And (b::rest) pos) tB'):PW X (.BoolOp .And (a::b::rest) pos) (tAnd tA tB'):=by
 intro wh pins s σ H Q I h;refine isTrue_and (thn (ha pins s σ H _ I h) fun c s1 zh=>?_);refine zc1b zh fun H1 I1 q1=>?_;cases c with
 |true=>exact hb wh pins s1 σ H1 Q I1 q1
 |false=>exact⟨H1,I1,q1⟩
theorem pw_or (ha:PT X a tA)(hb:PW X (.BoolOp .Or (b::rest) pos) tB'):PW X (.BoolOp .Or (a::b::rest) pos) (tOr tA tB'):=by
 intro wh pins s σ H Q I h;refine isTrue_or (thn (ha pins s σ H _ I h) fun c s1 zh=>?_);refine zc1b zh fun H1 I1 q1=>?_;cases c with
 |true=>exact⟨H1,I1,q1⟩
 |false=>exact hb wh pins s1 σ H1 Q I1 q1
theorem pt_not (ha:PT X a tA):PT X (.UnaryOp .Not a pos) (tNot tA):=by
 intro pins s σ H Q I h;exact isTrue_not (ha pins s σ H (fun c H1=>Q (!c) H1) I h)
noncomputable def tAndV (ta tb:TE):TE:=fun σ H Q=>ta σ H fun x H1=>∃c,x=.bl c/\if c=true then tb σ H1 Q else Q (.bl false) H1
noncomputable def tNotV (ta:TE):TE:=fun σ H Q=>ta σ H fun x H1=>∃c,x=.bl c/\Q (.bl (!c)) H1
theorem pe_one {op}{t:TE}(h:PE X a t):PE X (.BoolOp op [a] pos) t:=fun pins s σ H Q I hw=>BoolOp_one (h pins s σ H Q I hw)
theorem pe_and (ha:PE X a ta)(hb:PE X (.BoolOp .And (b::rest) pos) tb):PE X (.BoolOp .And (a::b::rest) pos) (tAndV ta tb):=by
 intro pins s σ H Q I h;refine BoolOp_and (thn (ha pins s σ H _ I h) fun v s1 zh=>?_);obtain⟨x,H1,I1,r1,q1⟩:=zh;obtain⟨c,rfl,q1⟩:=q1;cases r1;refine wpAny_truthy_bool ?_;cases c with
 |true=>exact hb pins s1 σ H1 Q I1 q1
 |false=>exact⟨.bl false,H1,I1,rfl,q1⟩
theorem pe_not (ha:PE X a ta):PE X (.UnaryOp .Not a pos) (tNotV ta):=by
 intro pins s σ H Q I h;refine UnaryOp_ (thn (ha pins s σ H _ I h) fun v s1 zh=>?_);obtain⟨x,H1,I1,r1,q1⟩:=zh;obtain⟨c,rfl,q1⟩:=q1;cases r1;exact not_of (wpAny_truthy_bool ⟨.bl (!c),H1,I1,rfl,q1⟩)
end
noncomputable def SqL (K:W.Frag)(H:Hp)(a:Addr)(xs:List V):Prop :=
 Rd H a (.lst xs) \/
  ∃(o:Obj) (its:Array Value) (n:Nat),K.lookup a=some o/\o.cls=.type "list" /\ o.dict=none/\o.data=.seq its n/\its.size<=sizeLine/\yq xs its.toList
noncomputable def SqT (K:W.Frag)(H:Hp)(a:Addr)(xs:List V):Prop :=
 Rd H a (.tup xs) \/
  ∃(o:Obj) (its:Array Value) (n:Nat),K.lookup a=some o/\o.cls=.type "tuple" /\ o.data=.seq its n/\its.size<=sizeLine/\yq xs its.toList
noncomputable def absV:Value->Option V
 | .none=>some .non
 | .bool b=>some (.bl b)
 | .int i _=>some (.int i)
 | .str x _=>some (.str x)
 | .bytes b _=>some (.byt b)
 | .float b _=>some (.flt b)
 | .ref a=>some (.ref a)
 | .type n=>some (.ty n)
 |_=>none
theorem yo.abs {x:V}{u:Value}(r:yo x u):absV u=some x:=by
 cases x with
 |non=>cases r;rfl
 |bl _=>cases r;rfl
 |int _=>obtain⟨t,rfl⟩:=r;rfl
 |str _=>obtain⟨t,rfl⟩:=r;rfl
 |byt _=>obtain⟨t,rfl⟩:=r;rfl
 |flt _=>obtain⟨t,rfl⟩:=r;rfl
 |ref _=>cases r;rfl
 |ty _=>cases r;rfl
theorem yo.inj {x y:V}{u:Value}(r:yo x u)(q:yo y u):x=y:=Zqi (r.abs.symm.trans q.abs)
theorem yq.inj:∀{xs ys:List V} {us:List Value},yq xs us->yq ys us->xs=ys:=fun {xs ys us} g h=>by
 induction g generalizing ys with
 |nil=>cases h;rfl
 |cons r _ ih =>
  cases h with
  |cons r' t'=>rw[r.inj r',ih t']
section
variable {X:Cx}{pins:List (Addr×Obj)}{σ : St}{H:Hp}{s:Shared}{a:Addr}{xs ys:List V}
theorem SqL.of {K:W.Frag}(h:H a=some (.lst xs)):SqL K H a xs:=.inl (.inl h)
theorem SqT.of {K:W.Frag}(h:H a=some (.tup xs)):SqT K H a xs:=.inl (.inl h)
theorem Inv.list (I:Inv X pins σ H s)(h:SqL X.K H a xs):∃its:List Value,yq xs its/\PlainL s.heap a its.toArray/\xs.length<=sizeLine:=by
 rcases h with h|⟨o,its,n,hk,hc,hd,hs,hz,r⟩
 ·refine we (h.ok I.hok) fun z zz=>zc2b zz fun its n r e=>?_;exact⟨its,r,⟨_,n,e,rfl,rfl,rfl⟩,z⟩
 ·refine⟨its.toList,r,⟨o,n,I.kIn a o hk,hc,hd,by simpa -iota using hs⟩,?_⟩;have e:=r.length;simp -iota only[Array.length_toList] at e;omega
theorem Inv.tuple (I:Inv X pins σ H s)(h:SqT X.K H a xs):∃its:List Value,yq xs its/\IsTup s.heap a its.toArray/\xs.length<=sizeLine:=by
 rcases h with h|⟨o,its,n,hk,hc,hs,hz,r⟩
 ·obtain⟨z,its,r,p⟩:=h.ok I.hok;exact⟨its,r,p,z.1⟩
 ·refine⟨its.toList,r,⟨o,I.kIn a o hk,hc,n,by simpa -iota using hs⟩,?_⟩;have e:=r.length;simp -iota only[Array.length_toList] at e;omega
theorem Inv.list_inj (I:Inv X pins σ H s)(h:SqL X.K H a xs)(h':SqL X.K H a ys):xs=ys:=by
 refine zc1c (I.list h) fun its r zr2 _=>?_;obtain⟨o,n,e,_,_,d⟩:=zr2;refine zc1c (I.list h') fun its' r' zr2 _=>?_;obtain⟨o',n',e',_,_,d'⟩:=zr2;rw[e] at e';cases e';rw[d] at d';injection d' with d1 _
 have:its=its':=by simpa -iota using Zt Array.toList d1
 subst this;exact r.inj r'
theorem Inv.tuple_inj (I:Inv X pins σ H s)(h:SqT X.K H a xs)(h':SqT X.K H a ys):xs=ys:=by
 refine zc1c (I.tuple h) fun its r zr2 _=>?_;obtain⟨o,e,_,n,d⟩:=zr2;refine zc1c (I.tuple h') fun its' r' zr2 _=>?_;obtain⟨o',e',_,n',d'⟩:=zr2;rw[e] at e';cases e';rw[d] at d';injection d' with d1 _
 have:its=its':=by simpa -iota using Zt Array.toList d1
 subst this;exact r.inj r'
end
abbrev Cx.wish (X:Cx)(E:Value->Shared->Prop):Cx:={ X with xe:=E }
abbrev Cx.nox (X:Cx):Cx:=X.wish fun _ _=>False
theorem Cx.Ok.wish {X:Cx}(ok:X.Ok)(E:Value->Shared->Prop):(X.wish E).Ok :=
 ⟨ok.mod,ok.kind,ok.glob,ok.blt,ok.above,ok.inj,ok.has,ok.cab,ok.hd,ok.frames,ok.stk,ok.exf,ok.bs,ok.bsz,ok.noex,ok.exfs,ok.funs,ok.frf⟩
theorem Cx.Ok.unwish {X:Cx}{E:Value->Shared->Prop}(ok:(X.wish E).Ok):X.Ok :=
 ⟨ok.mod,ok.kind,ok.glob,ok.blt,ok.above,ok.inj,ok.has,ok.cab,ok.hd,ok.frames,ok.stk,ok.exf,ok.bs,ok.bsz,ok.noex,ok.exfs,ok.funs,ok.frf⟩
section
variable {X:Cx}{pins:List (Addr×Obj)}{σ : St}{H:Hp}{s:Shared}{E:Value->Shared->Prop}
theorem Inv.wish (I:Inv X pins σ H s)(E:Value->Shared->Prop):Inv (X.wish E) pins σ H s:=⟨I.ok.wish E,I.os,I.bare,I.base,I.loc,I.cell,I.free,I.freeC,I.pin,I.hok,I.len⟩
theorem Inv.unwish (I:Inv (X.wish E) pins σ H s):Inv X pins σ H s:=⟨I.ok.unwish,I.os,I.bare,I.base,I.loc,I.cell,I.free,I.freeC,I.pin,I.hok,I.len⟩
theorem SP.unwish {D:Ends}{f:Flow}{s':Shared}(h:SP (X.wish E) pins D f s'):SP X pins D f s':=by
 cases f with
 |next=>obtain⟨σ',H',I,q⟩:=h;exact⟨σ',H',I.unwish,q⟩
 |brk=>obtain⟨σ',H',I,q⟩:=h;exact⟨σ',H',I.unwish,q⟩
 |cont=>obtain⟨σ',H',I,q⟩:=h;exact⟨σ',H',I.unwish,q⟩
 |ret u=>obtain⟨v,σ',H',I,r,q⟩:=h;exact⟨v,σ',H',I.unwish,r,q⟩
theorem PSs.nox {st:List Stmt}{t:TS}(h:PSs X.nox st t):PSs X st t:=fun pins s σ H D I hw =>
 Zc (h pins s σ H D (I.wish _) hw) (fun _ _ q=>q.unwish) fun _ _ z=>False.elim z
end
section
variable {X:Cx}{st:Stmt}{rest:List Stmt}{t u:TS}{e:Expr}{te:TE}{pos:Pos}
noncomputable def tNext:TS:=fun D σ H=>D.nx σ H
noncomputable def tSeq (t u:TS):TS:=fun D σ H=>t { D with nx:=u D } σ H
theorem pss_nil:PSs X [] tNext:=fun _ _ σ H _ I h=>wpAny_execs_nil ⟨σ,H,I,h⟩
theorem pss_cons (h1:PS X st t)(h2:PSs X rest u):PSs X (st::rest) (tSeq t u):=by
 intro pins s σ H D I h;refine wpAny_execs_cons (thn (h1 pins s σ H { D with nx:=u D } I h) fun f s1 q=>?_);cases f with
 |next =>
  refine zc2b q fun σ' H' I' q=>?_;exact h2 pins s1 σ' H' D I' q
 |ret v=>exact q
 |brk=>exact q
 |cont=>exact q
theorem pss_one (h1:PS X st t):PSs X [st] t:=by
 intro pins s σ H D I h;refine wpAny_execs_cons (thn (h1 pins s σ H D I h) fun f s1 q=>?_);cases f with
 |next=>exact wpAny_execs_nil q
 |ret v=>exact q
 |brk=>exact q
 |cont=>exact q
noncomputable def tBreak:TS:=fun D σ H=>D.bk σ H
theorem ps_break:PS X (.Break pos) tBreak:=fun _ _ σ H _ I h=>wpAny_Break ⟨σ,H,I,h⟩
theorem Inv.quiet {pins:List (Addr×Obj)}{σ : St}{H:Hp}{s:Shared}(I:Inv X pins σ H s):interactive X.env=false:=by simp -iota [interactive,I.ok.kind]
noncomputable def tDrop (te:TE):TS:=fun D σ H=>te σ H fun _ H1=>D.nx σ H1
theorem ke (he:PE X e te)(hs:autoParam (swapsWith e none pos.line X.env=pure false) zau._auto_1):PS X (.Expr e pos) (tDrop te):=by
 intro pins s σ H D I h;exact wpAny_Expr_any (thn (he pins s σ H _ I h) (by rintro v s1 ⟨x,H1,I1,r1,q1⟩;exact⟨σ,H1,I1,q1⟩)) I.quiet hs
noncomputable def tRet (te:TE):TS:=fun D σ H=>te σ H D.rt
theorem kt (he:PE X e te):PS X (.Return (some e) pos) (tRet te):=by
 intro pins s σ H D I h;exact wpAny_Return_some (thn (he pins s σ H _ I h) (by rintro v s1 ⟨x,H1,I1,r1,q1⟩;exact⟨x,σ,H1,I1,r1,q1⟩))
noncomputable def tIfS (c:TT)(t u:TS):TS:=fun D σ H=>c σ H fun b H1=>if b=true then t D σ H1 else u D σ H1
theorem ps_if {c:Expr}{a b:List Stmt}{tc:TT}(hc:PT X c tc)(ha:PSs X a t)(hb:PSs X b u):PS X (.If c a b pos) (tIfS tc t u):=by
 intro pins s σ H D I h;refine wpAny_If (thn (hc pins s σ H _ I h) fun d s1 zh=>?_);refine zc1b zh fun H1 I1 q1=>?_;cases d with
 |true=>exact ha pins s1 σ H1 D I1 q1
 |false=>exact hb pins s1 σ H1 D I1 q1
end
abbrev TG:=V->St->Hp->(St->Hp->Prop)->Prop
abbrev TGs:=List V->St->Hp->(St->Hp->Prop)->Prop
def PG (X:Cx)(target:Expr)(t:TG):Prop :=
 ∀(pins:List (Addr×Obj)) (s:Shared) (σ : St) (H:Hp) (v:V) (u:Value) (Q:St->Hp->Prop),Inv X pins σ H s->yo v u->t v σ H Q ->
  wpAny (model X.prog X.w) X.A (assign target X.env u) (fun _ s'=>∃σ' H',Inv X pins σ' H' s'/\Q σ' H') X.xe s
noncomputable def PGs (X:Cx)(ts:List Expr)(t:TGs):Prop :=
 ∀(pins:List (Addr×Obj)) (s:Shared) (σ : St) (H:Hp) (vs:List V) (us:List Value) (Q:St->Hp->Prop),Inv X pins σ H s->yq vs us->t vs σ H Q ->
  wpAny (model X.prog X.w) X.A (assignInOrder ((assignEach ts X.env).map (·.2)) us) (fun _ s'=>∃σ' H',Inv X pins σ' H' s'/\Q σ' H') X.xe s
abbrev eU:=V->V->V->Hp->(Hp->Prop)->Prop
def dg (X:Cx)(t:eU):Prop :=
 ∀(pins:List (Addr×Obj)) (s:Shared) (σ : St) (H:Hp) (o i v:V) (ov iv u:Value) (Q:Hp->Prop),Inv X pins σ H s->yo o ov->yo i iv->yo v u->t o i v H Q ->
  wpAny (model X.prog X.w) X.A (setItem ov iv u) (fun _ s'=>∃H',Inv X pins σ H' s'/\Q H') X.xe s
section
variable {X:Cx}{pos:Pos}
noncomputable def rQ (i:Nat):TG:=fun v σ H Q=>Q (σ.set i (some v)) H
theorem zI {i:Nat}{x:Str}(hN:X.N.Nodup)(hi:X.N[i]? = some x)(hx:Loc X.env.scope x)(hf:X.fn x=true\/X.env.scope.names.lookup x=some .local:=by first|exact .inl rfl|exact .inr rfl|assumption):PG X (.Name x pos) (rQ i):=by
 intro pins s σ H v u Q I r h;exact wpAny_assign_Name (rT I hN hi hx r (fun s' I'=>⟨_,H,I',h⟩) hf)
noncomputable def dq:TGs:=fun vs σ H Q=>vs=[]/\Q σ H
noncomputable def fH (t:TG)(u:TGs):TGs:=fun vs σ H Q=>∃v r,vs=v::r/\t v σ H fun σ' H'=>u r σ' H' Q
theorem oO:PGs X [] dq:=by
 intro pins s σ H vs us Q I r h;obtain⟨e,h⟩:=h;subst e;cases r;exact assignInOrder_nil ⟨σ,H,I,h⟩
theorem wB {e:Expr}{es:List Expr}{t:TG}{u:TGs}(h1:PG X e t)(h2:PGs X es u)
 (hs:autoParam ((assignEach (e::es) X.env).map (·.2)=assign e X.env::(assignEach es X.env).map (·.2)) zau._auto_1):PGs X (e::es) (fH t u):=by
 intro pins s σ H vs us Q I r h;obtain⟨v,vr,e1,h⟩:=h;subst e1;cases r with
 |cons r rr =>
  rw[hs];refine assignInOrder_cons (thn (h1 pins s σ H _ _ _ I r h) fun _ s1 zh=>?_);obtain⟨σ1,H1,I1,q1⟩:=zh;exact h2 pins s1 σ1 H1 _ _ Q I1 rr q1
def dj (K:W.Frag)(n:Nat)(t:TGs):TG:=fun v σ H Q=>∃a xs,v=.ref a/\SqT K H a xs/\xs.length=n/\t xs σ H Q
theorem kC {es:List Expr}{k:Nat}{t:TGs}{n:Nat}(hc:X.calm=true)(h:PGs X es t)
 (hn:autoParam ((assignEach es X.env).length=n) zau._auto_1) (hst:autoParam ((assignEach es X.env).findIdx? (·.1)=none) zau._auto_1):PG X (.Tuple es k pos) (dj X.K n t):=by
 intro pins s σ H v u Q I r hw;obtain⟨a,xs,e1,hq,hl,hw⟩:=hw;subst e1;cases r;obtain⟨its,rv,ht,hz⟩:=I.tuple hq;refine assign_Tuple_tuple (I.ok.hd hc) ht (by simp -iota [hn,<- hl,rv.length]) hst fun h' hx=>?_;have I1:Inv X pins σ H { s with heap:=h' }:=I.kept (t':=s.toks) fun b o e=>hx b o (Zi (Zk e)) e;exact h pins _ σ H xs _ Q I1 (by simpa -iota using rv) hw
noncomputable def gO (to ti:TE)(t:eU):TG:=fun v σ H Q=>to σ H fun o H1=>ti σ H1 fun i H2=>t o i v H2 fun H3=>Q σ H3
theorem pg_sub {o i:Expr}{to ti:TE}{t:eU}(ho:PE X o to)(hi:PE X i ti)(hs:dg X t)
 (ha:∀v,assign (.Subscript o i pos) X.env v=(do
  let ov <- holding [v] (eval o X.env)
  let iv <- holding [v,ov] (eval i X.env)
  standAt pos
  holding [v,ov,iv] (setItem ov iv v)
  release [v,ov,iv] []):=by intro _;rfl):PG X (.Subscript o i pos) (gO to ti t):=by
 intro pins s σ H v u Q I r h;rw[ha];refine Za (wpAny_holding (thn (ho pins s σ H _ I h) fun ov s1 zh=>?_));refine zc2c zh fun x H1 I1 r1 q1=>?_;refine Za (wpAny_holding (thn (hi pins s1 σ H1 _ I1 q1) fun iv s2 zh=>?_));refine zc2c zh fun y H2 I2 r2 q2=>?_;refine Za (wpAny_standAt (Za (wpAny_holding (thn (hs pins s2 σ H2 x y v ov iv u _ I2 r1 r2 r q2) fun _ s3 zh=>?_))));refine zc1b zh fun H3 I3 q3=>?_;exact wpAny_release ⟨σ,H3,I3,q3⟩
noncomputable def fm (te:TE)(g:TG):TS:=fun D σ H=>te σ H fun x H1=>g x σ H1 D.nx
theorem ps_asg {tg e:Expr}{te:TE}{g:TG}(he:PE X e te)(hg:PG X tg g)(hs:autoParam (swapsWithSole [tg] e pos.line X.env=pure false) zau._auto_1)(hw:autoParam (swappedStores [tg] e X.env=pure none) zau._auto_1)
 (h1:autoParam ((assignEach [tg] X.env).map (·.2)=[assign tg X.env]) zau._auto_1):PS X (.Assign [tg] e pos) (fm te g):=by
 intro pins s σ H D I h;refine wpAny_Assign_stores (thn (he pins s σ H _ I h) fun v s1 ⟨x,H1,I1,r1,q1⟩=>?_) hs hw;rw[h1];exact thn (hg pins s1 σ H1 x v _ I1 r1 q1) fun _ s2 q=>q
theorem iB {i:Nat}{x:Str}{e:Expr}{te:TE}{pos':Pos}(hN:X.N.Nodup)(hi:X.N[i]? = some x)(hx:Loc X.env.scope x)(he:PE X e te)(hs:autoParam (swapsWith e (some (.Name x pos')) pos.line X.env=pure false) zau._auto_1)(hf:X.fn x=true\/X.env.scope.names.lookup x=some .local:=by first|exact .inl rfl|exact .inr rfl|assumption) :
 PS X (.Assign [.Name x pos'] e pos) (fm te (rQ i)):=by
 intro pins s σ H D I h;refine wpAny_Assign_Name (thn (he pins s σ H _ I h) fun v s1 ⟨y,H1,I1,r1,q1⟩=>?_) hs;exact rT I1 hN hi hx r1 (fun s2 I2=>⟨_,H1,I2,q1⟩) hf
end
structure It where
 go:Nat->Hp->Prop
 yld:Nat->Hp->V->Hp->Prop
 stop:Nat->Hp->Prop
noncomputable def jk (X:Cx)(pins:List (Addr×Obj))(H:Hp)(b:Addr):Prop :=
 H b=none/\b≠X.env.locals/\b∉X.fs/\(b∈X.ex\/X.s₀.heap.objs.size<=b)/\(∀x c,X.env.cells.lookup x=some c->c≠b)/\∀p∈X.pn++pins,p.1≠b
theorem Inv.fpOk {X:Cx}{pins:List (Addr×Obj)}{σ : St}{H H':Hp}{s:Shared}{b:Addr}(I:Inv X pins σ H s)(hb:s.heap.objs.size<=b)(hn:H' b=none):jk X pins H' b:=by
 refine⟨hn,Nat.ne_of_gt (Zg I.lt hb),I.nofs hb,.inr (Zh I.sz hb),fun x c e z=>?_,fun p hp z=>?_⟩
 ·obtain⟨v,q⟩:=I.cell x c e;exact Zn (Zg q.lt (by rw[z];exact hb)) (Zx _)
 ·exact Zn (Zg (Zk (I.pin p hp).1) (by rw[z];exact hb)) (Zx _)
structure Turn (P:Program)(w:World)(K:W.Frag)(tg:Expr)(J:It)(fp:List Addr)(it:Addr)(tn:Nat->Heap->Prop):Prop where
 mem:it∈fp
 obj:∀i h,tn i h->∀b∈fp,∃o,h.get? b=some o/\∀v,o.data ≠ .cell v
 keep:∀i h h',tn i h->(∀b∈fp,∀o,h.get? b=some o->h'.get? b=some o)->tn i h'
 item:∀(X:Cx),X.prog=P->X.w=w->X.K=K->X.calm=true->∀(i:Nat) (pins:List (Addr×Obj)) (s:Shared) (σ : St) (H:Hp) (E:Value->Shared->Prop),Inv X pins σ H s->(∀b∈fp,jk X pins H b)->tn i s.heap->J.go i H ->
  wpAny (model P w) X.A (pyNext (.ref it)) (fun r s1=>∃u,r=some u /\
   wpAny (model P w) X.A (letOwnedTupleGo tg (.ref it) u) (fun _ s2=>∃x H',Inv X pins σ H' s2/\yo x u/\J.yld i H x H'/\tn (i+1) s2.heap/\∀b∈fp,H' b=none) E s1) E s
 done:∀(X:Cx),X.prog=P->X.w=w->X.K=K->X.calm=true->∀(i:Nat) (pins:List (Addr×Obj)) (s:Shared) (σ : St) (H:Hp) (E:Value->Shared->Prop),Inv X pins σ H s->(∀b∈fp,jk X pins H b)->tn i s.heap->J.stop i H ->
  wpAny (model P w) X.A (pyNext (.ref it)) (fun r s1=>r=none/\Inv X pins σ H s1) E s
 self:∀(A:Around) (i:Nat) (s:Shared) (Q:Value->Shared->Prop) (E:Value->Shared->Prop),tn i s.heap->Q (.ref it) s->wpAny (model P w) A (pyIter (.ref it)) Q E s
abbrev TI:=St->Hp->(It->Hp->Prop)->Prop
def PIE (X:Cx)(pins:List (Addr×Obj))(σ : St)(tg:Expr)(R:It->Hp->Prop)(itv:Value)(s2:Shared):Prop :=
 ∃(it:Addr) (fp:List Addr) (tn:Nat->Heap->Prop) (J:It) (H':Hp),itv=.ref it/\Inv X pins σ H' s2/\Turn X.prog X.w X.K tg J fp it tn/\tn 0 s2.heap/\(∀b∈fp,jk X pins H' b)/\R J H'
def PI (X:Cx)(tg iter:Expr)(wi:TI):Prop :=
 ∀(pins:List (Addr×Obj)) (s:Shared) (σ : St) (H:Hp) (R:It->Hp->Prop),Inv X pins σ H s->wi σ H R ->
  wpAny (model X.prog X.w) X.A (eval iter X.env) (fun v s1=>wpAny (model X.prog X.w) X.A (pyIter v) (PIE X pins σ tg R) X.xe s1) X.xe s
theorem iR {M:Model}{A:Around}{E:Value->Shared->Prop}{s:Shared}{tg:Expr}{it:Addr}{u:Value}{o:Obj}{n:String}{vs:Array Value}{Q:Unit->Shared->Prop}(ho:s.heap.get? it=some o)(hc:o.cls=.type n)(hd:o.data=.fields vs)
 (hn : ["enumerate", "zip", "dict_itemiterator", "dict_reverseitemiterator", "odict_iterator", "itertools.zip_longest", "itertools.pairwise"].contains n=false) (hQ:Q () s):wpAny M A (letOwnedTupleGo tg (.ref it) u) Q E s:=by
 unfold letOwnedTupleGo;cases tg<;>first
  |exact Zb hQ
  | (cases u<;>first
   |exact Zb hQ
   | (
    refine Za (wpAny_load ho ?_);rw[hc,hd];show wpAny M A (if(["enumerate", "zip", "dict_itemiterator", "dict_reverseitemiterator", "odict_iterator", "itertools.zip_longest", "itertools.pairwise"].contains n&&vs[0]? == some (rawInt _))=true then _ else _) Q E s;rw[Ze (by intro h;rw[hn,Bool.false_and] at h;cases h)];exact Zb hQ))
def Itl (K:W.Frag)(a:Addr):It :=
 ⟨fun i H=>∃xs x,SqL K H a xs/\xs[i]? = some x,fun i H x H'=>H'=H/\∀xs,SqL K H a xs->xs[i]? = some x,fun i H=>∃xs,SqL K H a xs/\xs.length<=i⟩
def Itt (K:W.Frag)(a:Addr):It :=
 ⟨fun i H=>∃xs x,SqT K H a xs/\xs[i]? = some x,fun i H x H'=>H'=H/\∀xs,SqT K H a xs->xs[i]? = some x,fun i H=>∃xs,SqT K H a xs/\xs.length<=i⟩
noncomputable def Itr (lo:Int)(n:Nat):It:=⟨fun i _=>i<n,fun i H x H'=>H'=H/\x=.int (lo+i),fun i _=>n<=i⟩
theorem turn_list {P:Program}{w:World}{K:W.Frag}{tg:Expr}(a it:Addr):Turn P w K tg (Itl K a) [it] it (fun i h=>h.IsListIter it a i) where
 mem:=by simp -iota
 obj:=fun i h st b hb=>by
  have e:b=it:=by simpa -iota using hb
  subst e;refine zc1c st fun o e c d=>?_;exact⟨o,e,fun v z=>by rw[d] at z;cases z⟩
 keep:=fun i h h' st k=>st.at fun o e=>k it (by simp -iota) o e
 item:=by
  intro X hP hw hK hc i pins s σ H E I hf st hg;subst hP hw hK;refine zc2b hg fun xs x hq hx=>?_;refine zc1c (I.list hq) fun its rv p hz=>?_;refine zc1b (rv.get hx) fun u hu ru=>?_;refine yT (hf it (by simp -iota)) fun f0 f1 f2 f3 zz=>we zz fun f4 f5=>?_;refine wpAny_pyNext_list_item st p.isList (x:=u) (by simpa -iota using hu) fun h' st' sb=>?_;have I1:Inv X pins σ H { s with heap:=h' }:=I.turned (t':=s.toks) (fun b o hb e=>(sb.2 b hb).trans e) f0 f1 f3 f4 f5;refine zc1c (id st') fun o e c d=>?_;exact⟨u,rfl,iR (s:={ s with heap:=h' }) e c d (by decide) ⟨x,H,I1,ru,⟨rfl,fun ys hy=>by rw[I.list_inj hy hq];exact hx⟩,st',fun b hb=>(hf b hb).1⟩⟩
 done:=by
  intro X hP hw hK hc i pins s σ H E I hf st hg;subst hP hw hK;refine zc1b hg fun xs hq hx=>?_;refine zc1c (I.list hq) fun its rv p hz=>?_;refine yT (hf it (by simp -iota)) fun f0 f1 f2 f3 zz=>we zz fun f4 f5=>?_;have hl:=rv.length;exact wpAny_pyNext_list_end (I.ok.hd hc) st p.isList (by simp -iota;omega) fun h' eb=>⟨rfl,I.turned (t':=s.toks) (fun b o hb e=>eb b o hb e) f0 f1 f3 f4 f5⟩
 self:=fun _ _ _ _ _ st h=>wpAny_pyIter_listiter st h
theorem turn_tuple {P:Program}{w:World}{K:W.Frag}{tg:Expr}(a it:Addr):Turn P w K tg (Itt K a) [it] it (fun i h=>h.IsTupleIter it a i) where
 mem:=by simp -iota
 obj:=fun i h st b hb=>by
  have e:b=it:=by simpa -iota using hb
  subst e;refine zc1c st fun o e c d=>?_;exact⟨o,e,fun v z=>by rw[d] at z;cases z⟩
 keep:=fun i h h' st k=>st.at fun o e=>k it (by simp -iota) o e
 item:=by
  intro X hP hw hK hc i pins s σ H E I hf st hg;subst hP hw hK;refine zc2b hg fun xs x hq hx=>?_;refine zc1c (I.tuple hq) fun its rv p hz=>?_;refine zc1b (rv.get hx) fun u hu ru=>?_;refine yT (hf it (by simp -iota)) fun f0 f1 f2 f3 zz=>we zz fun f4 f5=>?_;refine wpAny_pyNext_tuple_item st (show s.heap.IsTuple a its.toArray from p) (x:=u) (by simpa -iota using hu) fun h' st' sb=>?_;have I1:Inv X pins σ H { s with heap:=h' }:=I.turned (t':=s.toks) (fun b o hb e=>(sb.2 b hb).trans e) f0 f1 f3 f4 f5;refine zc1c (id st') fun o e c d=>?_;exact⟨u,rfl,iR (s:={ s with heap:=h' }) e c d (by decide) ⟨x,H,I1,ru,⟨rfl,fun ys hy=>by rw[I.tuple_inj hy hq];exact hx⟩,st',fun b hb=>(hf b hb).1⟩⟩
 done:=by
  intro X hP hw hK hc i pins s σ H E I hf st hg;subst hP hw hK;refine zc1b hg fun xs hq hx=>?_;refine zc1c (I.tuple hq) fun its rv p hz=>?_;refine yT (hf it (by simp -iota)) fun f0 f1 f2 f3 zz=>we zz fun f4 f5=>?_;have hl:=rv.length;exact wpAny_pyNext_tuple_end (I.ok.hd hc) st (show s.heap.IsTuple a its.toArray from p) (by simp -iota;omega) fun h' eb=>⟨rfl,I.turned (t':=s.toks) (fun b o hb e=>eb b o hb e) f0 f1 f3 f4 f5⟩
 self:=fun _ _ _ _ _ st h=>wpAny_pyIter_tupleiter st h
theorem turn_range {P:Program}{w:World}{K:PySem.W.Frag}{tg:Expr}(it:Addr)(lo:Int)(n:Nat):Turn P w K tg (Itr lo n) [it] it (fun i h=>IsRangeIter h it (lo+(i:Nat)*1) ((n:Int)-(i:Nat)) 1) where
 mem:=by simp -iota
 obj:=fun i h st b hb=>by
  have e:b=it:=by simpa -iota using hb
  subst e;exact⟨_,st,fun v z=>by
   have z':Data.fields _=Data.cell v:=z;cases z'⟩
 keep:=fun i h h' st k=>k it (by simp -iota) _ st
 item:=by
  intro X hP hw hK hc i pins s σ H E I hf st hg;subst hP hw hK;refine yT (hf it (by simp -iota)) fun f0 f1 f2 f3 zz=>we zz fun f4 f5=>?_;have W:=Walks.range (prog:=X.prog) (w:=X.w) (I.ok.hd hc) it lo 1 n;refine W.item i s _ _ hg st fun v h' tk hv st' kk=>?_;obtain⟨t,rfl⟩:=hv;have I1:Inv X pins σ H { s with heap:=h',toks:=tk }:=I.turned (fun b o hb e=>kk b o (by simpa -iota using hb) e) f0 f1 f3 f4 f5;refine⟨_,rfl,iR (s:={ s with heap:=h',toks:=tk }) (n := "range_iterator") st' rfl rfl (by decide) ⟨.int (lo+i),H,I1,⟨t,?_⟩,⟨rfl,rfl⟩,st',fun b hb=>(hf b hb).1⟩⟩;rw[Int.mul_one]
 done:=by
  intro X hP hw hK hc i pins s σ H E I hf st hg;subst hP hw hK;refine yT (hf it (by simp -iota)) fun f0 f1 f2 f3 zz=>we zz fun f4 f5=>?_;exact wpAny_pyNext_range_end (I.ok.hd hc) st (by have:n<=i:=hg;omega) fun h' eb=>⟨rfl,I.turned (t':=s.toks) (fun b o hb e=>eb b o hb e) f0 f1 f3 f4 f5⟩
 self:=fun _ _ _ _ _ st h=>wpAny_pyIter_rangeiter st h
section
variable {X:Cx}{tg:Expr}
def iList (K:W.Frag)(tl:TE):TI:=fun σ H R=>tl σ H fun x H1=>∃a,x=.ref a/\(∃xs,SqL K H1 a xs)/\R (Itl K a) H1
def iTup (K:W.Frag)(tl:TE):TI:=fun σ H R=>tl σ H fun x H1=>∃a,x=.ref a/\(∃xs,SqT K H1 a xs)/\R (Itt K a) H1
theorem pi_list {l:Expr}{tl:TE}(hl:PE X l tl):PI X tg l (iList X.K tl):=by
 intro pins s σ H R I h;refine thn (hl pins s σ H _ I h) fun v s1 zh=>?_;refine zc2c zh fun x H1 I1 r1 q1=>?_;refine zc1c q1 fun a e zr2 q=>?_;obtain⟨xs,hq⟩:=zr2;subst e;cases r1;refine zc1c (I1.list hq) fun its rv p hz=>?_;refine wpAny_pyIter_list p.isList ?_;refine⟨s1.heap.objs.size,[s1.heap.objs.size],_,_,H1,rfl,I1.kept (t':=s1.toks) fun b o e=>Zq _ e,turn_list a _,⟨_,Zr _ rfl,rfl,rfl⟩,fun b hb=>?_,q⟩;have e:b=s1.heap.objs.size:=by simpa -iota using hb
 subst e;exact I1.fpOk (Zf _) (I1.hok.fresh (Zf _))
theorem pi_tup {l:Expr}{tl:TE}(hl:PE X l tl):PI X tg l (iTup X.K tl):=by
 intro pins s σ H R I h;refine thn (hl pins s σ H _ I h) fun v s1 zh=>?_;refine zc2c zh fun x H1 I1 r1 q1=>?_;refine zc1c q1 fun a e zr2 q=>?_;obtain⟨xs,hq⟩:=zr2;subst e;cases r1;refine zc1c (I1.tuple hq) fun its rv p hz=>?_;refine wpAny_pyIter_tuple (show s1.heap.IsTuple a its.toArray from p) ?_;refine⟨s1.heap.objs.size,[s1.heap.objs.size],_,_,H1,rfl,I1.kept (t':=s1.toks) fun b o e=>Zq _ e,turn_tuple a _,⟨_,Zr _ rfl,rfl,rfl⟩,fun b hb=>?_,q⟩;have e:b=s1.heap.objs.size:=by simpa -iota using hb
 subst e;exact I1.fpOk (Zf _) (I1.hok.fresh (Zf _))
theorem range_it {pins:List (Addr×Obj)}{σ : St}{H:Hp}{s:Shared}{R:It->Hp->Prop}{E:Value->Shared->Prop}{lo hi:Int}{t u v:Tok}{tk:Nat}(I:Inv X pins σ H s)(h1 : -(2 ^ 62)<=lo)(h2:lo<2 ^ 62)(h3 : -(2 ^ 62)<=hi)(h4:hi<2 ^ 62)
 (q:R (Itr lo (hi-lo).toNat) H):wpAny (model X.prog X.w) X.A (pyIter (.ref s.heap.objs.size)) (PIE X pins σ tg R) E { s with heap:=s.heap.push { cls:=.type "range",data:=.fields #[.int lo t,.int hi u,.int 1 v] },toks:=tk }:=by
 refine wpAny_pyIter_range (IsRange.new ..) (small_one h1 h2 h3 h4) ?_;have I1:Inv X pins σ H { s with heap:=s.heap.push { cls:=.type "range",data:=.fields #[.int lo t,.int hi u,.int 1 v] },toks:=tk }:=I.kept fun b o e=>Zq _ e;refine⟨(s.heap.push { cls:=.type "range",data:=.fields #[.int lo t,.int hi u,.int 1 v] }).objs.size,[(s.heap.push { cls:=.type "range",data:=.fields #[.int lo t,.int hi u,.int 1 v] }).objs.size],_,_,H,rfl,
  I1.kept (t':=tk) fun b o e=>Zq _ e,turn_range _ lo (hi-lo).toNat,?_,fun b hb=>?_,q⟩
 ·have e1:lo+((0:Nat):Int)*1=lo:=by simp -iota
  have e2:(((hi-lo).toNat:Nat):Int)-((0:Nat):Int)=Builtin.Range.rangeSize lo hi 1:=by rw[rangeSize_one];split<;>omega
  show IsRangeIter _ _ (lo+((0:Nat):Int)*1) ((((hi-lo).toNat:Nat):Int)-((0:Nat):Int)) 1;rw[e1,e2];exact Zr _ rfl
 ·have e:b=(s.heap.push { cls:=.type "range",data:=.fields #[.int lo t,.int hi u,.int 1 v] }).objs.size:=by simpa -iota using hb
  subst e;exact I1.fpOk (Zf _) (I1.hok.fresh (Zf _))
def iRng1 (ta:TA):TI:=fun σ H R=>ta σ H fun vs H1=>∃j:Int,vs=[.int j] /\ -(2 ^ 62)<=j/\j<2 ^ 62/\R (Itr 0 j.toNat) H1
theorem pi_range1 {a:Expr}{ta:TA}{p pos:Pos}(hg:Gl X "range")(hm:X.mg "range" = none)(ha:PA X [a] ta)(hs:autoParam (starEach [a] X.env=[(false,eval a X.env)]) zau._auto_1):PI X tg (.Call (.Name "range" p) [a] [] pos) (iRng1 ta):=by
 intro pins s σ H R I h;refine Call_ (sQ I hg hm boot_range (PyProof.Rows.callWith_type1 (thn (ha pos pins s σ H _ I h) fun us s1 ⟨vs,H1,I1,r1,q1⟩=>?_) hs rfl));obtain⟨j,e,q1,q2,q⟩:=q1;subst e;cases r1 with
 |cons r rr =>
  cases rr;obtain⟨t,rfl⟩:=r;exact call_range_1 (range_it I1 (by omega) (by omega) q1 q2 (by simpa -iota using q))
noncomputable def tFor (wi:TI)(g:TG)(tb:TS):TS:=fun D σ H=>wi σ H fun J H1=>∃W:Nat->Nat->St->Hp->Prop,(∃m,W 0 m σ H1)/\∀i m σ H,W i m σ H ->
 (J.stop i H/\D.nx σ H)\/(J.go i H/\∃N:St->Hp->Prop,(∀σ' H',N σ' H'->∃m',m'<m/\W (i+1) m' σ' H')/\∀x H',J.yld i H x H'->g x σ H' fun σ2 H2=>tb { D with nx:=N,ct:=N,bk:=D.nx } σ2 H2)
noncomputable def q9 (fp:List Addr)(h:Heap):List (Addr×Obj):=fp.filterMap fun b=>(h.get? b).map fun o=>(b,o)
theorem wx {fp:List Addr}{h:Heap}{b:Addr}{o:Obj}(hb:b∈fp)(e:h.get? b=some o):(b,o)∈q9 fp h:=List.mem_filterMap.mpr ⟨b,hb,by rw[e];rfl⟩
theorem of_pinsAt {fp:List Addr}{h:Heap}{p:Addr×Obj}(hp:p∈q9 fp h):p.1∈fp/\h.get? p.1=some p.2:=by
 refine zc1b (List.mem_filterMap.mp hp) fun b hb e=>?_;cases q:h.get? b with
 |none=>rw[q] at e;cases e
 |some o =>
  rw[q] at e;have e':(b,o)=p:=Zqi e;subst e';exact⟨hb,q⟩
theorem Inv.pinned {pins:List (Addr×Obj)}{σ : St}{H:Hp}{s:Shared}{fp:List Addr}(I:Inv X pins σ H s)(hf:∀b∈fp,jk X pins H b)(ho:∀b∈fp,∃o,s.heap.get? b=some o/\∀v,o.data ≠ .cell v):Inv X (pins++q9 fp s.heap) σ H s :=
 I.pins_of fun p hp=>(List.mem_append.mp hp).elim (fun z=>I.pin p (List.mem_append_right _ z)) fun z=>by
  obtain⟨hb,e⟩:=of_pinsAt z;refine qD (hf p.1 hb) fun f0 f1 f2 _=>?_;refine zc1b (ho p.1 hb) fun o e' d=>?_;rw[e] at e';cases e';exact⟨e,f0,f1,f2,d⟩
theorem Inv.unpinned {pins pl:List (Addr×Obj)}{σ : St}{H:Hp}{s:Shared}(I:Inv X (pins++pl) σ H s):Inv X pins σ H s:=I.pins_of fun p hp=>I.pin p (List.mem_append_right _ (List.mem_append_left _ hp))
theorem ps_for {iter:Expr}{body:List Stmt}{wi:TI}{g:TG}{tb:TS}{pos:Pos}(hp:PassesOwn (model X.prog X.w) X.A X.env X.xe)(hc:X.calm=true)(hi:PI X tg iter wi)(hg:PG X tg g)(hb:PSs X body tb)
 (hs:autoParam (∀x,foldedSetIterable iter X.env x=pure x) zaw._auto_1):PS X (.For tg iter body [] pos) (tFor wi g tb):=by
 intro pins s σ H D I h;refine wpAny_For (thn (hi pins s σ H _ I h) fun v s1 h1=>thn h1 fun itv s2 h2=>?_) hs;refine zc4a h2 fun it fp tn J zz=>zc1a zz fun H2 zz=>yT zz fun e I2 T st2 zz=>we zz fun f2 zz=>zc1b zz fun W zr11 turn=>?_;obtain⟨m0,w0⟩:=zr11;subst e;have stat:∀{H':Hp},(∀b∈fp,H' b=none)->∀b∈fp,jk X pins H' b:=fun hn b hb=>⟨hn b hb,(f2 b hb).2⟩;refine codeAny_forLoop_any (fun n s'=>∃i σ' H',Inv X pins σ' H' s'/\tn i s'.heap/\(∀b∈fp,H' b=none)/\W i n σ' H') ?_ m0 ⟨0,σ,H2,I2,st2,fun b hb=>(f2 b hb).1,w0⟩;rintro n s3 ⟨i,σ3,H3,I3,st3,fr3,w3⟩;rcases turn i n σ3 H3 w3 with ⟨stop,qn⟩|⟨go,N,hN,step⟩
 ·refine wpAny_passesOwn hp (thn (T.done X rfl rfl rfl hc i pins s3 σ3 H3 X.xe I3 (stat fr3) st3 stop) fun r s4 zh=>?_);obtain⟨hr,I4⟩:=zh;subst hr;exact wpAny_execs_nil ⟨σ3,H3,I4,qn⟩
 ·refine wpAny_passesOwn hp (thn (T.item X rfl rfl rfl hc i pins s3 σ3 H3 X.xe I3 (stat fr3) st3 go) fun r s4 zh=>?_);refine zc1b zh fun u hr h4=>?_;subst hr;refine wpAny_passesOwn hp (thn h4 fun _ s5 zh=>?_);refine zc2a zh fun x H5 zz=>yT zz fun I5 r5 y5 st5 fr5=>?_;have I5':=I5.pinned (stat fr5) (T.obj _ _ st5);refine wpAny_passesOwn hp (thn (hg _ s5 σ3 H5 x u _ I5' r5 (step x H5 y5)) fun _ s6 zh=>?_);refine zc2b zh fun σ6 H6 I6 q6=>?_;refine wpAny_passesOwn hp (thn (hb _ s6 σ6 H6 _ I6 q6) fun f s7 q7=>?_);have again:∀{σ7:St} {H7:Hp},Inv X (pins++q9 fp s5.heap) σ7 H7 s7->N σ7 H7->∃m,m<n/\∃i σ' H',Inv X pins σ' H' s7/\tn i s7.heap/\(∀b∈fp,H' b=none)/\W i m σ' H':=fun {σ7 H7} I7 n7=>by
   refine zc1b (hN σ7 H7 n7) fun m' hm w7=>?_;refine⟨m',hm,i+1,σ7,H7,I7.unpinned,T.keep _ _ _ st5 fun b hb o e=>(I7.pin (b,o) (List.mem_append_right _ (List.mem_append_right _ (wx hb e)))).1,fun b hb=>?_,w7⟩;refine zc1b (T.obj _ _ st5 b hb) fun o e d=>?_;exact(I7.pin (b,o) (List.mem_append_right _ (List.mem_append_right _ (wx hb e)))).2.1
  cases f with
  |next=>obtain⟨σ7,H7,I7,n7⟩:=q7;exact again I7 n7
  |cont=>obtain⟨σ7,H7,I7,n7⟩:=q7;exact again I7 n7
  |brk=>obtain⟨σ7,H7,I7,q7⟩:=q7;exact⟨σ7,H7,I7.unpinned,q7⟩
  |ret v=>obtain⟨x7,σ7,H7,I7,r7,q7⟩:=q7;exact⟨x7,σ7,H7,I7.unpinned,r7,q7⟩
end
abbrev R2:=V->V->Hp->VK->Prop
def OpR (X:Cx)(f:Value->Value->Sem Value)(r:R2):Prop :=
 ∀(pins:List (Addr×Obj)) (s:Shared) (σ : St) (H:Hp) (x y:V) (v u:Value) (Q:VK),Inv X pins σ H s->yo x v->yo y u->r x y H Q ->
  wpAny (model X.prog X.w) X.A (f v u) (EP X pins σ Q) X.xe s
def UnR (X:Cx)(f:Value->Sem Value)(r:V->Hp->VK->Prop):Prop :=
 ∀(pins:List (Addr×Obj)) (s:Shared) (σ : St) (H:Hp) (x:V) (v:Value) (Q:VK),Inv X pins σ H s->yo x v->r x H Q ->
  wpAny (model X.prog X.w) X.A (f v) (EP X pins σ Q) X.xe s
noncomputable def zD (X:Cx)(f:Value)(r:List V->Hp->VK->Prop):Prop :=
 ∀(pins:List (Addr×Obj)) (s:Shared) (σ : St) (H:Hp) (xs:List V) (us:List Value) (Q:VK),Inv X pins σ H s->yq xs us->r xs H Q ->
  wpAny (model X.prog X.w) X.A (call f us) (EP X pins σ Q) X.xe s
noncomputable def tOp (r:R2)(ta tb:TE):TE:=fun σ H Q=>ta σ H fun x H1=>tb σ H1 fun y H2=>r x y H2 Q
noncomputable def tUn (r:V->Hp->VK->Prop)(ta:TE):TE:=fun σ H Q=>ta σ H fun x H1=>r x H1 Q
noncomputable def rI (C:Int->Int->Prop)(g:Int->Int->V):R2:=fun x y H Q=>∃i j,x=.int i/\y=.int j/\C i j/\Q (g i j) H
noncomputable def rI0 (g:Int->Int->V):R2:=fun x y H Q=>∃i j,x=.int i/\y=.int j/\Q (g i j) H
noncomputable def rU (g:Int->V):V->Hp->VK->Prop:=fun x H Q=>∃i,x=.int i/\Q (g i) H
section
variable {X:Cx}{a b c:Expr}{ta tb tc:TE}{pos:Pos}
theorem eQ (ha:PE X a ta)(hb:PE X b tb){pins:List (Addr×Obj)}{s:Shared}{σ : St}{H:Hp}{R:V->V->Hp->Prop}(I:Inv X pins σ H s)
 (h:ta σ H fun x H1=>tb σ H1 fun y H2=>R x y H2) {Q:Value->Shared->Prop} {f:Value->Value->Sem Value}
 (hf:∀v u s2 x y H2,Inv X pins σ H2 s2->yo x v->yo y u->R x y H2->wpAny (model X.prog X.w) X.A (f v u) Q X.xe s2) :
 wpAny (model X.prog X.w) X.A (eval a X.env) (fun v s₁=>wpAny (model X.prog X.w) X.A (eval b X.env) (fun u s₂=>wpAny (model X.prog X.w) X.A (f v u) Q X.xe s₂) X.xe s₁) X.xe s:=by
 refine thn (ha pins s σ H _ I h) fun v s1 zh=>?_;refine zc2c zh fun x H1 I1 r1 q1=>?_;refine thn (hb pins s1 σ H1 _ I1 q1) fun u s2 zh=>?_;refine zc2c zh fun y H2 I2 r2 q2=>?_;exact hf v u s2 x y H2 I2 r1 r2 q2
theorem fK {op:Operator}{r:R2}(ho:OpR X (binaryOp op) r)(ha:PE X a ta)(hb:PE X b tb):PE X (.BinOp a op b pos) (tOp r ta tb):=by
 intro pins s σ H Q I h;exact wpAny_BinOp (eQ ha hb I h fun v u s2 x y H2 I2 rx ry q=>ho pins s2 σ H2 x y v u Q I2 rx ry q)
theorem pe_un {op:UnaryOp}{r:V->Hp->VK->Prop}(ho:UnR X (unaryOp op) r)(ha:PE X a ta):PE X (.UnaryOp op a pos) (tUn r ta):=by
 intro pins s σ H Q I h;exact UnaryOp_ (thn (ha pins s σ H _ I h) (by rintro v s1 ⟨x,H1,I1,r1,q1⟩;exact ho pins s1 σ H1 x v Q I1 r1 q1))
theorem opI {f:Value->Value->Sem Value}{C:Int->Int->Prop}{g:Int->Int->Int}
 (rule:∀(i j:Int) (t u:Tok) (s:Shared) (Q:Value->Shared->Prop) (E:Value->Shared->Prop),C i j->Q (.int (g i j) s.toks) { s with toks:=s.toks+1 }->wpAny (model X.prog X.w) X.A (f (.int i t) (.int j u)) Q E s) :
 OpR X f (rI C fun i j=>.int (g i j)):=by
 intro pins s σ H x y v u Q I rx ry h;refine zc2d h fun i j zr2 zr3 hc q=>?_;subst zr2;subst zr3;obtain⟨t,rfl⟩:=rx;obtain⟨t',rfl⟩:=ry;exact rule i j t t' s _ _ hc ⟨.int (g i j),H,I.tok _,⟨_,rfl⟩,q⟩
theorem da {f:Value->Value->Sem Value}{g:Int->Int->Int}
 (rule:∀(i j:Int) (t u:Tok) (s:Shared) (Q:Value->Shared->Prop) (E:Value->Shared->Prop),Q (.int (g i j) s.toks) { s with toks:=s.toks+1 }->wpAny (model X.prog X.w) X.A (f (.int i t) (.int j u)) Q E s) :
 OpR X f (rI0 fun i j=>.int (g i j)):=by
 intro pins s σ H x y v u Q I rx ry h;refine zc2c h fun i j zr2 zr3 q=>?_;subst zr2;subst zr3;obtain⟨t,rfl⟩:=rx;obtain⟨t',rfl⟩:=ry;exact rule i j t t' s _ _ ⟨.int (g i j),H,I.tok _,⟨_,rfl⟩,q⟩
theorem de {f:Value->Value->Sem Value}{g:Int->Int->Bool}
 (rule:∀(i j:Int) (t u:Tok) (s:Shared) (Q:Value->Shared->Prop) (E:Value->Shared->Prop),Q (.bool (g i j)) s->wpAny (model X.prog X.w) X.A (f (.int i t) (.int j u)) Q E s) :
 OpR X f (rI0 fun i j=>.bl (g i j)):=by
 intro pins s σ H x y v u Q I rx ry h;refine zc2c h fun i j zr2 zr3 q=>?_;subst zr2;subst zr3;obtain⟨t,rfl⟩:=rx;obtain⟨t',rfl⟩:=ry;exact rule i j t t' s _ _ ⟨.bl (g i j),H,I,rfl,q⟩
noncomputable def dh (i j:Int):Prop:=0<j/\j<1073741824
noncomputable def db (i j:Int):Prop:=0<=j/\j<=1000000/\i.natAbs<2 ^ 64
theorem op_add:OpR X (binaryOp .Add) (rI0 fun i j=>.int (i+j)):=da fun _ _ _ _ _ _ _ q=>add_int q
theorem op_sub:OpR X (binaryOp .Sub) (rI0 fun i j=>.int (i-j)):=da fun _ _ _ _ _ _ _ q=>sub_int q
theorem op_fdiv:OpR X (binaryOp .FloorDiv) (rI dh fun i j=>.int (i / j)):=opI fun i j _ _ _ _ _ hc q=>by
 have h1:(0:Int)<j:=hc.1;have h2:j<1073741824:=hc.2;exact floordiv_int (by omega) (by rw[Int.fdiv_eq_ediv_of_nonneg i (by omega)];exact q) (.inl (PyProof.noPylong_small (by omega)))
theorem op_mod:OpR X (binaryOp .Mod) (rI (fun _ j=>0<j) fun i j=>.int (i % j)):=opI fun i j _ _ _ _ _ hc q=>by
 have h1:(0:Int)<j:=hc;exact mod_int' (by omega) (by rw[Int.fmod_eq_emod_of_nonneg i (by omega)];exact q)
theorem op_pow:OpR X (binaryOp .Pow) (rI db fun i j=>.int (i ^ j.toNat)):=opI fun _ _ _ _ _ _ _ hc q=>pow_int_small hc.1 hc.2.1 hc.2.2 q
theorem unI {f:Value->Sem Value}{g:Int->Int}
 (rule:∀(i:Int) (t:Tok) (s:Shared) (Q:Value->Shared->Prop) (E:Value->Shared->Prop),Q (.int (g i) s.toks) { s with toks:=s.toks+1 }->wpAny (model X.prog X.w) X.A (f (.int i t)) Q E s) :
 UnR X f (rU fun i=>.int (g i)):=by
 intro pins s σ H x v Q I rx h;refine zc1b h fun i zr1 q=>?_;subst zr1;obtain⟨t,rfl⟩:=rx;exact rule i t s _ _ ⟨.int (g i),H,I.tok _,⟨_,rfl⟩,q⟩
theorem un_neg:UnR X (unaryOp .USub) (rU fun i=>.int (-i)):=unI fun _ _ _ _ _ q=>neg_int q
end
noncomputable def scal:V->V->Bool
 | .non,.non=>true | .non,.int _=>true | .int _,.non=>true | .non,.bl _=>true | .bl _,.non=>true | .non,.str _=>true | .str _,.non=>true
 | .int _,.int _=>true | .bl _,.bl _=>true | .str _,.str _=>true | .byt _,.byt _=>true
 | .int _,.str _=>true | .str _,.int _=>true | .bl _,.str _=>true | .str _,.bl _=>true
 |_,_=>false
def rEq:R2:=fun x y H Q=>scal x y=true/\Q (.bl (decide (x=y))) H
def rNe:R2:=fun x y H Q=>scal x y=true/\Q (.bl (!decide (x=y))) H
theorem ku {i j:Int}:decide (V.int i=V.int j)=(i == j):=by
 rw[Bool.eq_iff_iff];simp -iota
theorem iI {i j:Bool}:decide (V.bl i=V.bl j)=(i == j):=by
 rw[Bool.eq_iff_iff];simp -iota
theorem lh {i j:Str}:decide (V.str i=V.str j)=(i == j):=by
 rw[Bool.eq_iff_iff];simp -iota
theorem kc {i j:Array UInt8}:decide (V.byt i=V.byt j)=(i.toList == j.toList):=by
 rw[Bool.eq_iff_iff];cases i;cases j;simp -iota
section
variable {X:Cx}{a b c:Expr}{ta tb tc:TE}{pos:Pos}
theorem zJ {pins:List (Addr×Obj)}{σ : St}{H:Hp}{s:Shared}{Q:VK}{k k':Bool}(I:Inv X pins σ H s)(q:Q (.bl k) H)(e:k=k'):EP X pins σ Q (.bool k') s:=by
 subst e;exact⟨.bl k,H,I,rfl,q⟩
theorem op_eq:OpR X (compareOp .Eq) rEq:=by
 intro pins s σ H x y v u Q I rx ry h;obtain⟨hs,q⟩:=h;cases x with
 |non =>
  cases rx;cases y with
  |non=>cases ry;exact PySem.EqNone.eq_none_none (zJ I q (by simp -iota))
  |bl j=>cases ry;exact PySem.EqNone.eq_none_bool (zJ I q (by simp -iota))
  |int j=>obtain⟨t',rfl⟩:=ry;exact PySem.EqNone.eq_none_int (zJ I q (by simp -iota))
  |str j=>obtain⟨t',rfl⟩:=ry;exact PySem.EqNone.eq_none_str (zJ I q (by simp -iota))
  |_=>exact Zn (show false=true from hs) Zj
 |bl i =>
  cases rx;cases y with
  |non=>cases ry;exact PySem.EqNone.eq_bool_none (zJ I q (by simp -iota))
  |bl j=>cases ry;exact eq_bool (zJ I q iI)
  |str j=>obtain⟨t',rfl⟩:=ry;exact PySem.EqMixed.eq_bool_str (zJ I q (by simp -iota))
  |_=>exact Zn (show false=true from hs) Zj
 |int i =>
  obtain⟨t,rfl⟩:=rx;cases y with
  |non=>cases ry;exact PySem.EqNone.eq_int_none (zJ I q (by simp -iota))
  |int j=>obtain⟨t',rfl⟩:=ry;exact eq_int (zJ I q ku)
  |str j=>obtain⟨t',rfl⟩:=ry;exact PySem.EqMixed.eq_int_str (zJ I q (by simp -iota))
  |_=>exact Zn (show false=true from hs) Zj
 |str i =>
  obtain⟨t,rfl⟩:=rx;cases y with
  |non=>cases ry;exact PySem.EqNone.eq_str_none (zJ I q (by simp -iota))
  |bl j=>cases ry;exact PySem.EqMixed.eq_str_bool (zJ I q (by simp -iota))
  |int j=>obtain⟨t',rfl⟩:=ry;exact PySem.EqMixed.eq_str_int (zJ I q (by simp -iota))
  |str j=>obtain⟨t',rfl⟩:=ry;exact eq_str (zJ I q lh)
  |_=>exact Zn (show false=true from hs) Zj
 |byt i =>
  obtain⟨t,rfl⟩:=rx;cases y with
  |byt j=>obtain⟨t',rfl⟩:=ry;exact W.eq_bytes (zJ I q kc)
  |_=>exact Zn (show false=true from hs) Zj
 |_=>cases y<;>exact Zn (show false=true from hs) Zj
theorem op_ne:OpR X (compareOp .NotEq) rNe:=by
 intro pins s σ H x y v u Q I rx ry h;obtain⟨hs,q⟩:=h;cases x with
 |non =>
  cases rx;cases y with
  |non=>cases ry;exact PySem.EqNone.ne_none_none (zJ I q (by simp -iota))
  |bl j=>cases ry;exact PySem.EqNone.ne_none_bool (zJ I q (by simp -iota))
  |int j=>obtain⟨t',rfl⟩:=ry;exact PySem.EqNone.ne_none_int (zJ I q (by simp -iota))
  |str j=>obtain⟨t',rfl⟩:=ry;exact PySem.EqNone.ne_none_str (zJ I q (by simp -iota))
  |_=>exact Zn (show false=true from hs) Zj
 |bl i =>
  cases rx;cases y with
  |non=>cases ry;exact PySem.EqNone.ne_bool_none (zJ I q (by simp -iota))
  |bl j=>cases ry;exact ne_bool (zJ I q (Zt not iI))
  |str j=>obtain⟨t',rfl⟩:=ry;exact PySem.EqMixed.ne_bool_str (zJ I q (by simp -iota))
  |_=>exact Zn (show false=true from hs) Zj
 |int i =>
  obtain⟨t,rfl⟩:=rx;cases y with
  |non=>cases ry;exact PySem.EqNone.ne_int_none (zJ I q (by simp -iota))
  |int j=>obtain⟨t',rfl⟩:=ry;exact ne_int (zJ I q (Zt not ku))
  |str j=>obtain⟨t',rfl⟩:=ry;exact PySem.EqMixed.ne_int_str (zJ I q (by simp -iota))
  |_=>exact Zn (show false=true from hs) Zj
 |str i =>
  obtain⟨t,rfl⟩:=rx;cases y with
  |non=>cases ry;exact PySem.EqNone.ne_str_none (zJ I q (by simp -iota))
  |bl j=>cases ry;exact PySem.EqMixed.ne_str_bool (zJ I q (by simp -iota))
  |int j=>obtain⟨t',rfl⟩:=ry;exact PySem.EqMixed.ne_str_int (zJ I q (by simp -iota))
  |str j=>obtain⟨t',rfl⟩:=ry;exact ne_str (zJ I q (Zt not lh))
  |_=>exact Zn (show false=true from hs) Zj
 |byt i =>
  obtain⟨t,rfl⟩:=rx;cases y with
  |byt j=>obtain⟨t',rfl⟩:=ry;exact W.ne_bytes (zJ I q (Zt not kc))
  |_=>exact Zn (show false=true from hs) Zj
 |_=>cases y<;>exact Zn (show false=true from hs) Zj
theorem op_lt:OpR X (compareOp .Lt) (rI0 fun i j=>.bl (decide (i<j))):=de fun _ _ _ _ _ _ _ q=>lt_int q
theorem op_gt:OpR X (compareOp .Gt) (rI0 fun i j=>.bl (decide (j<i))):=de fun _ _ _ _ _ _ _ q=>gt_int q
theorem zK (b:Expr){op:CmpOp}(h:autoParam (op ≠ .In) zav._auto_1)(h2:autoParam (op ≠ .NotIn) zav._auto_1):behindInMarks op b=false:=by
 have e1:(op == CmpOp.In)=false:=by cases op<;>first|rfl|exact Zn rfl h
 have e2:(op == CmpOp.NotIn)=false:=by cases op<;>first|rfl|exact Zn rfl h2
 cases b<;>first|rfl|(show(_&&(_||_)&&_)=false;rw[e1,e2,Bool.or_self,Bool.and_false,Bool.false_and])
theorem pe_cmpR {op:CmpOp}{r:R2}(ho:OpR X (compareOp op) r)(ha:PE X a ta)(hb:PE X b tb)(hm:behindInMarks op b=false):PE X (.Compare a [op] [b] pos) (tOp r ta tb):=by
 intro pins s σ H Q I h;exact wpAny_Compare1 (eQ ha hb I h fun v u s2 x y H2 I2 rx ry q=>ho pins s2 σ H2 x y v u Q I2 rx ry q) hm
noncomputable def tTest (t:TE):TT:=fun σ H Q=>t σ H fun x H'=>∃k,x=.bl k/\Q k H'
theorem o9 {op:CmpOp}{r:R2}(ho:OpR X (compareOp op) r)(ha:PE X a ta)(hb:PE X b tb)(hm:behindInMarks op b=false):PT X (.Compare a [op] [b] pos) (tTest (tOp r ta tb)):=by
 intro pins s σ H Q I h;refine wpAny_isTrue_Compare1 (thn (ha pins s σ H _ I h) fun v s1 ⟨x,H1,I1,r1,q1⟩=>thn (hb pins s1 σ H1 _ I1 q1) fun u s2 ⟨y,H2,I2,r2,q2⟩ =>
  thn (ho pins s2 σ H2 x y v u _ I2 r1 r2 q2) fun c s3 ⟨z,H3,I3,r3,k,e,q3⟩=>?_) hm
 subst e;cases r3;exact wpAny_truthy_bool ⟨H3,I3,q3⟩
theorem sW:(sizeLine:Nat)<2 ^ 63:=by rw[sizeLine_eq];decide
theorem op_add_str:OpR X (binaryOp .Add) (fun x y H Q=>∃i j,x=.str i/\y=.str j/\i.length+j.length<=sizeLine/\Q (.str (i++j)) H):=by
 intro pins s σ H x y v u Q I rx ry h;refine zc2d h fun i j zr2 zr3 hz q=>?_;subst zr2;subst zr3;obtain⟨t,rfl⟩:=rx;obtain⟨t',rfl⟩:=ry;exact add_str (fun t' tk=>⟨.str (i++j),H,I.tok _,⟨_,rfl⟩,q⟩) hz
theorem vy {x:V}{us:List Value}(r:yq [x] us):∃u,us=[u]/\yo x u:=by
 cases r with
 |cons r1 r2=>cases r2;exact⟨_,rfl,r1⟩
theorem lN {x y:V}{us:List Value}(r:yq [x,y] us):∃u w',us=[u,w']/\yo x u/\yo y w':=by
 cases r with
 |cons r1 r2 =>
  cases r2 with
  |cons r3 r4=>cases r4;exact⟨_,_,rfl,r1,r3⟩
theorem call_max2 (hc:X.calm=true):zD X (.builtin "max") (fun xs H Q=>∃i j,xs=[.int i,.int j]/\Q (.int (if j > i then j else i)) H):=by
 intro pins s σ H xs us Q I r h;refine zc2b h fun i j zr2 q=>?_;subst zr2;refine zc2c (lN r) fun u w' zr2 zr3 zr4=>?_;subst zr2;obtain⟨t,rfl⟩:=zr3;obtain⟨t',rfl⟩:=zr4;refine max_two_ints (I.ok.hd hc) fun h' tk k=>⟨_,H,I.kept k,?_,q⟩;by_cases hj:j > i
 ·rw[Zd hj,Zd hj];exact⟨_,rfl⟩
 ·rw[Ze hj,Ze hj];exact⟨_,rfl⟩
theorem call_min2 (hc:X.calm=true):zD X (.builtin "min") (fun xs H Q=>∃i j,xs=[.int i,.int j]/\Q (.int (if j<i then j else i)) H):=by
 intro pins s σ H xs us Q I r h;refine zc2b h fun i j zr2 q=>?_;subst zr2;refine zc2c (lN r) fun u w' zr2 zr3 zr4=>?_;subst zr2;obtain⟨t,rfl⟩:=zr3;obtain⟨t',rfl⟩:=zr4;refine min_two_ints (I.ok.hd hc) fun h' tk k=>⟨_,H,I.kept k,?_,q⟩;by_cases hj:j<i
 ·rw[Zd hj,Zd hj];exact⟨_,rfl⟩
 ·rw[Ze hj,Ze hj];exact⟨_,rfl⟩
end
structure ObjM (h:Heap)(x dx C:Addr)(mA:Str->Option Value):Prop where
 obj:h.get? x=some (W.instObj C dx)
 ns:h.Ns1 dx mA
 ne:dx≠x
theorem lookIn_ns {h:Heap}{dx:Addr}{mA:Str->Option Value}(n:h.Ns1 dx mA):∃od,h.get? dx=some od/\∀name,W.lookIn name od=some (mA name):=by
 refine zc3a n fun o es ep zz=>yT zz fun ho hd hk _ hm=>?_;refine⟨o,ho,fun name=>?_⟩;have e:=hm name;unfold nsFind findBy at e;rw[<- Array.find?_toList] at e;unfold W.lookIn;rw[hd];dsimp only
 split
 ·rename_i y q;rw[q] at e;exact Zt some e
 ·rename_i q;rw[q] at e;have a:es.toList.any (·.refKey)=false:=by
   rw[List.any_eq_false];intro y hy;refine zc2a (hk y (Array.mem_toList_iff.mp hy)) fun z t hkey=>?_;simp -iota [DictEntry.refKey,hkey]
  have a':¬es.toList.any (·.refKey)=true:=by rw[a];exact Zj
  rw[Ze a'];exact Zt some e
theorem ObjM.look {h:Heap}{x dx C:Addr}{mA:Str->Option Value}(I:ObjM h x dx C mA):∃od,W.InstAt h x (W.instObj C dx) C (some od)/\∀name,W.lookIn name od=some (mA name) :=
 let ⟨od,ho,hl⟩:=lookIn_ns I.ns
 ⟨od,⟨I.obj,rfl,rfl,ho⟩,hl⟩
theorem mK.some_of {v:V}{o:Option Value}(r:mK (some v) o):∃u,o=some u/\yo v u:=by
 cases o with
 |none=>exact(show False from r).elim
 |some u=>exact⟨u,rfl,r⟩
section
variable {P:Program}{w:World}{H H':Hp}{h h':Heap}{a C dx:Addr}{fs fs':List (Str×V)}
theorem ins_get (hok:HOk P w H h)(e:H a=some (.ins C dx fs)):∃mA,ObjM h a dx C mA/\(∀f,mK (fs.lookup f) (mA f))/\PySem.Within mA (fs.map (·.1))/\fs.length<=1000/\H dx=some (.own a):=by
 refine yT ((show yj P w H h a (.ins C dx fs) from hok a _ e)) fun d z ne ob zz=>zc1c zz fun mA n r q=>?_;exact⟨mA,⟨ob,n,ne⟩,r,q,z,d⟩
end
structure Cls (K:W.Frag)(C:Addr):Prop where
 pg:W.plainGet K C Str.empty=true
 hd:W.hasDictIn K C=true
 po:W.plainOver K C=true
 sa:W.findIn K (.ref C) "__setattr__" = some (some (.builtin "object.__setattr__"))
theorem Cls.get {K:W.Frag}{C:Addr}(c:Cls K C)(f:Str):W.plainGet K C f=true:=c.pg
section
variable {X:Cx}{pins:List (Addr×Obj)}{σ : St}{H:Hp}{s:Shared}{A:Around}{E:Value->Shared->Prop}{Q:Value->Shared->Prop}{c:Value}{b:Bool}
inductive TyOf (K:W.Frag)(H:Hp):V->Value->Prop where
 |non:TyOf K H .non (.type "NoneType")
 |bl (x:Bool):TyOf K H (.bl x) (.type "bool")
 |int (i:Int):TyOf K H (.int i) (.type "int")
 |str (x:Str):TyOf K H (.str x) (.type "str")
 |flt (x:UInt64):TyOf K H (.flt x) (.type "float")
 |lst {a:Addr} {xs:List V} (e:H a=some (.lst xs)):TyOf K H (.ref a) (.type "list")
 |frz {a:Addr} {o:Obj} {xs:List V} (e:H a=some (.frz o (.lst xs))):TyOf K H (.ref a) (.type "list")
 |tup {a:Addr} {xs:List V} (e:H a=some (.tup xs)):TyOf K H (.ref a) (.type "tuple")
 |dK {a:Addr} {kvs:List (Key×V)} (e:H a=some (.dK kvs)):TyOf K H (.ref a) (.type "dict")
 |dT {a:Addr} {kvs:List (List Key×V)} (e:H a=some (.dT kvs)):TyOf K H (.ref a) (.type "dict")
 |ins {a C dx:Addr} {fs:List (Str×V)} (e:H a=some (.ins C dx fs)) (cl:Cls K C) (ha:W.findIn K (.ref C) "__class__" = some (some (.builtin "object.__class__")))
  (hn:W.specialIn K (.builtin "object.__class__") "__get__" = some (some (.builtin "getset_descriptor.__get__"))) (htk:W.takesIn K (.builtin "object.__class__")=some true)
  (hm:W.mroIn K C (.type "object")=some true):TyOf K H (.ref a) (.ref C)
theorem isinst_ok {x:V}{u t:Value}(I:Inv X pins σ H s)(rx:yo x u)(ty:TyOf X.K H x t)(e:W.kitOne X.K t c=some b)(h:∀tk,Q (.bool b) { s with toks:=tk }) :
 wpAny (model X.prog X.w) A (call (.builtin "isinstance") [u,c]) Q E s:=by
 cases ty with
 |non=>cases (show u=Value.none from rx);exact W.kia_one W.kitx_none I.kIn True.intro e (fun z=>nomatch z) h
 |bl y=>cases (show u=Value.bool y from rx);exact W.kia_one W.kitx_bool I.kIn True.intro e (fun z=>nomatch z) h
 |int i=>obtain⟨t,q⟩:=(show ∃t,u=Value.int i t from rx);cases q;exact W.kia_one W.kitx_int I.kIn True.intro e (fun z=>nomatch z) h
 |str y=>obtain⟨t,q⟩:=(show ∃t,u=Value.str y t from rx);cases q;exact W.kia_one W.kitx_str I.kIn True.intro e (fun z=>nomatch z) h
 |flt y=>obtain⟨t,q⟩:=(show ∃t,u=Value.float y t from rx);cases q;exact W.kia_one W.kitx_float I.kIn True.intro e (fun z=>nomatch z) h
 | @lst a xs ea =>
  cases (show u=Value.ref a from rx);refine we ((show yj X.prog X.w H s.heap a (.lst xs) from I.hok a _ ea)) fun _ zz=>zc2b zz fun _ n _ h1=>?_;exact W.kia_one W.kitx_list I.kIn ⟨_,h1,rfl⟩ e (fun z=>nomatch z) h
 | @frz a ob xs ea =>
  cases (show u=Value.ref a from rx);refine xm ((show yj X.prog X.w H s.heap a (.frz ob (.lst xs)) from I.hok a _ ea)) fun _ _ zz=>zc2b zz fun _ n _ h1=>?_;exact W.kia_one W.kitx_list I.kIn ⟨_,h1,rfl⟩ e (fun z=>nomatch z) h
 | @tup a xs ea =>
  cases (show u=Value.ref a from rx);refine we ((show yj X.prog X.w H s.heap a (.tup xs) from I.hok a _ ea)) fun _ zz=>zc1b zz fun _ _ p=>?_;refine zc1c p fun o h1 h2 _=>?_;exact W.kia_one W.kitx_tuple I.kIn ⟨o,h1,h2⟩ e (fun z=>nomatch z) h
 | @dK a kvs ea =>
  cases (show u=Value.ref a from rx);refine xm ((show yj X.prog X.w H s.heap a (.dK kvs) from I.hok a _ ea)) fun _ _ zz=>zc1b zz fun vs _ p=>?_;refine zc3c p fun o es ep h1 h2 _=>?_;exact W.kia_one W.kitx_dict I.kIn ⟨o,h1,h2.1⟩ e (fun z=>nomatch z) h
 | @dT a kvs ea =>
  cases (show u=Value.ref a from rx);refine xm ((show yj X.prog X.w H s.heap a (.dT kvs) from I.hok a _ ea)) fun _ _ zz=>zc1b zz fun xs _ zz=>zc3c zz fun o es ep h1 h2 _=>?_;exact W.kia_one W.kitx_dict I.kIn ⟨o,h1,h2.1⟩ e (fun z=>nomatch z) h
 | @ins a C dx fs ea cl ha hn htk hm =>
  cases (show u=Value.ref a from rx);refine zc1b (ins_get I.hok ea) fun mA O _=>?_;refine zc1b O.look fun od J _=>?_;exact W.kia_one (W.kitx_own (cl.get _) cl.hd ha hn htk hm) I.kIn J e (fun z=>nomatch z) h
end
structure Room (k:Nat)(A:Around):Prop where
 hd:A.handled=none
 dp:A.depth+3*k+5<recursionLimit
 un:A.units+16*k+200<cLine
theorem Room.mono {j k:Nat}{A:Around}(r:Room k A)(h:j<=k):Room j A:=⟨r.hd,by have:=r.dp;omega,by have:=r.un;omega⟩
theorem Room.deeper {k:Nat}{A:Around}(r:Room (k+1) A)(env:Env):Room k (A.deeper env) :=
 ⟨r.hd,by have:=r.dp;show A.depth+1+3*k+5<_;omega,by have:=r.un;show A.units+3+16*k+200<_;omega⟩
theorem Room.depth {k:Nat}{A:Around}(r:Room k A):A.depth<recursionLimit:=by have:=r.dp;omega
theorem Room.units {k:Nat}{A:Around}(r:Room k A):A.units+64<cLine:=by have:=r.un;omega
noncomputable def eS:TA:=fun _ H Q=>Q [] H
noncomputable def hV (ta:TE)(tr:TA):TA:=fun σ H Q=>ta σ H fun x H1=>tr σ H1 fun xs H2=>Q (x::xs) H2
section
variable {X:Cx}{e:Expr}{es:List Expr}{te:TE}{t:TA}{pos:Pos}
theorem ml:PA X [] eS:=fun _ _ _ _ H Q I h=>Calls.spliced_nil ⟨[],H,I,.nil,h⟩
theorem r9 (ha:PE X e te)(hr:PA X es t)(hs:autoParam (starEach (e::es) X.env=(false,eval e X.env)::starEach es X.env) zau._auto_1):PA X (e::es) (hV te t):=by
 intro pos pins s σ H Q I h;rw[hs];show wpAny _ _ (spliced ((false,eval e X.env)::backTo pos (starEach es X.env))) _ _ s;refine Calls.spliced_cons (thn (ha pins s σ H _ I h) fun u s1 zh=>?_);refine zc2c zh fun x H1 I1 r1 q1=>?_;exact thn (hr pos pins s1 σ H1 _ I1 q1) (by rintro us s2 ⟨xs,H2,I2,r2,q2⟩;exact⟨x::xs,H2,I2,.cons r1 r2,q2⟩)
def tTup (t:TA):TE:=fun σ H Q=>t σ H fun xs H1=>xs.length<=sizeLine/\∀p,H1 p=none->Q (.ref p) (upd H1 p (.tup xs))
def tLst (t:TA):TE:=fun σ H Q=>t σ H fun xs H1=>xs.length<=sizeLine/\∀p,H1 p=none->Q (.ref p) (upd H1 p (.lst xs))
theorem pe_tup {x1}(h:PA X es t):PE X (.Tuple es x1 pos) (tTup t):=by
 intro pins s σ H Q I hq;refine wpAny_Tuple_spliced (thn (h pos pins s σ H _ I hq) fun us s1 ⟨xs,H1,I1,r,z,q⟩=>⟨by rw[<- r.length];exact z,?_⟩);have hf:H1 s1.heap.objs.size=none:=I1.hok.fresh (Zf _);refine⟨.ref s1.heap.objs.size,upd H1 s1.heap.objs.size (.tup xs),I1.laid (t':=s1.toks) (fun b u e=>Zq _ e) (Zf _) ?_,rfl,q _ hf⟩;exact⟨⟨z,⟨_,Zr _ rfl,rfl⟩⟩,us,r,⟨_,Zr _ rfl,rfl,_,rfl⟩⟩
theorem pe_lst (h:PA X es t):PE X (.List es pos) (tLst t):=by
 intro pins s σ H Q I hq;refine wpAny_List_spliced (thn (h pos pins s σ H _ I hq) fun us s1 ⟨xs,H1,I1,r,z,q⟩=>⟨by rw[<- r.length];exact z,?_⟩);have hf:H1 s1.heap.objs.size=none:=I1.hok.fresh (Zf _);refine⟨.ref s1.heap.objs.size,upd H1 s1.heap.objs.size (.lst xs),I1.laid (t':=s1.toks) (fun b u e=>Zq _ e) (Zf _) ?_,rfl,q _ hf⟩;exact⟨z,us,0,r,Zr _ rfl⟩
end
abbrev Sp:=List V->Hp->VK->XK->Prop
abbrev CXT:=List Env->Hp->Shared->XK->Value->Shared->Prop
structure Env0 (P:Program)(w:World)(K:W.Frag)(mg:Str->Option Value)(base:Heap)(A:Around)(outer:List Env)(s:Shared)(H:Hp):Prop where
 frames:A.frames=some outer
 mod:Mod K mg base
 bs:∀b o,base.get? b=some o->s.heap.get? b=some o/\H b=none
 bsz:base.objs.size<=s.heap.objs.size
 funs:s.heap.FunFrames base outer
 frf:∀b∈frs outer,H b=none
 hok:HOk P w H s.heap
 bare:AllBare s.gens
def CE (outer:List Env)(P:Program)(w:World)(H:Hp)(s:Shared)(Q:VK)(u:Value)(s':Shared):Prop :=
 ∃v H',s'.os=s.os/\AllBare s'.gens/\Un (frs outer) [] H H' s.heap s'.heap/\HOk P w H' s'.heap/\yo v u/\Q v H'
noncomputable def CR (CX:CXT)(outer:List Env)(P:Program)(w:World)(H:Hp)(s:Shared)(Q:VK)(E:XK)(r:Result)(s':Shared):Prop :=
 match r with
 | .ok (.ret u)=>CE outer P w H s Q u s'
 | .ok _=>False
 | .error e=>CX outer H s E e s'
structure FnOk (P:Program)(w:World)(K:W.Frag)(mg:Str->Option Value)(base:Heap)(CX:CXT)(k:Nat)(f:Addr)(fd:FuncData)(ps:List Str)(sp:Sp):Prop where
 len:∀vs H Q E,sp vs H Q E->vs.length=ps.length
 run:∀(A:Around) (outer:List Env) (s:Shared) (H:Hp) (args:Args) (us:List Value) (vs:List V) (Q:VK) (E:XK),Room k A->Env0 P w K mg base A outer s H->BindsTo s fd args (ps.zip us)->yq vs us->sp vs H Q E ->
  codeAny (model P w) A (.call (.ref f) args) (CR CX outer P w H s Q E) s
theorem FnOk.mono {P:Program}{w:World}{K:W.Frag}{mg:Str->Option Value}{base:Heap}{CX:CXT}{j k:Nat}{f:Addr}{fd:FuncData}{ps:List Str}{sp:Sp}(F:FnOk P w K mg base CX j f fd ps sp)(h:j<=k) :
 FnOk P w K mg base CX k f fd ps sp:=⟨F.len,fun A outer s H args us vs Q E hr=>F.run A outer s H args us vs Q E (hr.mono h)⟩
theorem FnOk.imp {P:Program}{w:World}{K:W.Frag}{mg:Str->Option Value}{base:Heap}{CX:CXT}{k:Nat}{f:Addr}{fd:FuncData}{ps:List Str}{sp sp':Sp}(F:FnOk P w K mg base CX k f fd ps sp)
 (h:∀vs H Q E,sp' vs H Q E->sp vs H Q E):FnOk P w K mg base CX k f fd ps sp' :=
 ⟨fun vs H Q E q=>F.len vs H Q E (h _ _ _ _ q),fun A outer s H args us vs Q E hr he hb hv hs=>F.run A outer s H args us vs Q E hr he hb hv (h _ _ _ _ hs)⟩
section
variable {X:Cx}{pins:List (Addr×Obj)}{σ : St}{H:Hp}{s s':Shared}
theorem Inv.env0 (I:Inv X pins σ H s):Env0 X.prog X.w X.K X.mg X.base X.A X.stack s H :=
 ⟨I.ok.frames,I.ok.mod,I.bs,Zh I.ok.bsz I.sz,I.stack,I.stkFree,I.hok,I.bare⟩
theorem Inv.after {Q:VK}{u:Value}(I:Inv X pins σ H s)(h:CE X.stack X.prog X.w H s Q u s'):EP X pins σ Q u s':=by
 refine zc2a h fun v H' zz=>yT zz fun os bare un hok zz=>we zz fun r q=>?_;obtain⟨hh,g,d,t,os'⟩:=s';obtain rfl:os'=s.os:=os;exact⟨v,H',I.call (h':=hh) (g':=g) (d':=d) (t':=t) (ch:=[]) un hok bare (fun b z=>Zn z (by simp -iota)),r,q⟩
end
noncomputable def hU (sp:Sp)(dvs:List V)(E:XK)(t:TA):TE:=fun σ H Q=>t σ H fun vs H1=>sp (vs++dvs) H1 Q E
noncomputable def qU (K:W.Frag)(fd:FuncData)(ps:List Str)(ds:List Value):Prop :=
 ∀(s:Shared) (us:List Value),K.In s.heap->(us++ds).length=ps.length->BindsTo s fd ⟨us,[]⟩ (ps.zip (us++ds))
theorem qU.all {K:W.Frag}{fd:FuncData}{ps:List Str}(h:∀us:List Value,us.length=ps.length->bindArgs fd ⟨us,[]⟩=pure (ps.zip us)):qU K fd ps []:=fun s us _ hl=>by
 rw[Zz] at hl ⊢;exact .of_eq (h us hl)
noncomputable def oU (CX:CXT)(X:Cx)(E:XK):Prop:=∀(pins:List (Addr×Obj)) (σ : St) (H:Hp) (s:Shared) (e:Value) (s':Shared),Inv X pins σ H s->CX X.stack H s E e s'->X.xe e s'
section
variable {X:Cx}{CX:CXT}{k:Nat}{f C:Addr}{fd:FuncData}{ps:List Str}{sp:Sp}{dvs:List V}{ds:List Value}{E:XK}{x m:Str}{p pos apos:Pos}{e o:Expr}{es:List Expr}{ta:TE}{t:TA}
theorem run_fn {pins:List (Addr×Obj)}{σ : St}{H:Hp}{s:Shared}{Q:VK}{us:List Value}{vs:List V}(F:FnOk X.prog X.w X.K X.mg X.base CX k f fd ps sp)(hr:Room k X.A)(hb:qU X.K fd ps ds)(hd:yq dvs ds)(hx:oU CX X E)
 (I:Inv X pins σ H s) (r:yq vs us) (h:sp (vs++dvs) H Q E):wpAny (model X.prog X.w) X.A (call (.ref f) us) (EP X pins σ Q) X.xe s:=by
 have r2:yq (vs++dvs) (us++ds):=r.append hd;have hl:(us++ds).length=ps.length:=by rw[<- r2.length];exact F.len _ _ _ _ h
 refine wpAny_call (codeAny_mono (F.run X.A X.stack s H ⟨us,[]⟩ (us++ds) (vs++dvs) Q E hr I.env0 (hb s us I.kIn hl) r2 h) fun r s' hq=>?_);cases r with
 |error e=>exact hx pins σ H s e s' I hq
 |ok fl =>
  cases fl with
  |ret u=>exact I.after hq
  |next=>exact False.elim hq
  |brk=>exact False.elim hq
  |cont=>exact False.elim hq
theorem lu (F:FnOk X.prog X.w X.K X.mg X.base CX k f fd ps sp)(hr:Room k X.A)(hg:Gl X x)(hm:X.mg x=some (.ref f))(hk:W.keepIn X.K (.ref f)=true)(hb:qU X.K fd ps ds)(hd:yq dvs ds)(hx:oU CX X E)
 (ha:PA X (e::es) t) (hdb:autoParam ((x == ("__debug__" : Str))=false) zav._auto_1) (he:starEach (e::es) X.env=(false,eval e X.env)::starEach es X.env:=by rfl) (hpl:(backTo pos (starEach es X.env)).any (·.1)=false:=by rfl) :
 PE X (.Call (.Name x p) (e::es) [] pos) (hU sp dvs E t):=by
 intro pins s σ H Q I h;refine wpAny_Call_Name_kw (rV I hg hm ?_ hdb);refine W.callWith_K (h₀:=X.base) I.ok.mod.kin hk (thn (ha pos pins s σ H _ I h) fun us s1 ⟨vs,H1,I1,r,q⟩=>⟨I1.kIn,?_⟩) he hpl;exact run_fn F hr hb hd hx I1 r q
end
structure FnScope (N P:List Str)(sc:Scope):Prop where
 kind:sc.kind=.function
 co:sc.isCoroutine=false
 gen:sc.isGenerator=false
 nd:N.Nodup
 pre:N.take P.length=P
 par:∀x∈P,sc.names.lookup x=some .local\/sc.names.lookup x=some .cell
 nofree:∀y∈sc.names,y.2 ≠ .free
theorem pR {kindOf:Str->Option NameKind}{x:Str}:∀{binds:List (Str×Value)} {m:Str->Option Value},(∀v,(x,v)∉binds)->bindL kindOf binds m x=m x
 | [],_,_=>rfl
 | (n,v)::r,m,h=>by
  unfold bindL;rw[pR fun w hw=>h w (Zqm _ hw)]
  split
  ·have:x≠n:=by rintro rfl;exact h v Zqs
   simp -iota [this]
  ·rfl
theorem pB {kindOf:Str->Option NameKind}{x:Str}:∀{binds:List (Str×Value)} {m:Str->Option Value},(∀v,(x,v)∉binds)->bindC kindOf binds m x=m x
 | [],_,_=>rfl
 | (n,v)::r,m,h=>by
  unfold bindC;rw[pB fun w hw=>h w (Zqm _ hw)]
  split
  ·rfl
  ·have:x≠n:=by rintro rfl;exact h v Zqs
   simp -iota [this]
theorem pF {kindOf:Str->Option NameKind}{x:Str}{v:Value}:∀{P:List Str} {vs:List Value} {i:Nat} {m:Str->Option Value},P.Nodup->P[i]? = some x->vs[i]? = some v->kindOf x=some .local ->
 bindL kindOf (P.zip vs) m x=some v
 | [],_,_,_,_,h,_,_=>by simp -iota at h
 |_::_,[],_,_,_,_,h,_=>by simp -iota at h
 |p::P,w::vs,0,m,nd,h1,h2,hk=>by
  simp -iota at h1 h2;subst h1;subst h2;show bindL kindOf ((p,w)::P.zip vs) m p=_;unfold bindL;rw[pR fun v hv=>(List.nodup_cons.mp nd).1 (List.of_mem_zip hv).1,Zd hk];simp -iota
 |p::P,w::vs,i+1,m,nd,h1,h2,hk=>by
  show bindL kindOf ((p,w)::P.zip vs) m x=_;unfold bindL;exact pF (i:=i) (List.nodup_cons.mp nd).2 (by simpa -iota using h1) (by simpa -iota using h2) hk
theorem pf {kindOf:Str->Option NameKind}{x:Str}{v:Value}:∀{P:List Str} {vs:List Value} {i:Nat} {m:Str->Option Value},P.Nodup->P[i]? = some x->vs[i]? = some v->kindOf x≠some .local ->
 bindC kindOf (P.zip vs) m x=some v
 | [],_,_,_,_,h,_,_=>by simp -iota at h
 |_::_,[],_,_,_,_,h,_=>by simp -iota at h
 |p::P,w::vs,0,m,nd,h1,h2,hk=>by
  simp -iota at h1 h2;subst h1;subst h2;show bindC kindOf ((p,w)::P.zip vs) m p=_;unfold bindC;rw[pB fun v hv=>(List.nodup_cons.mp nd).1 (List.of_mem_zip hv).1,Ze hk];simp -iota
 |p::P,w::vs,i+1,m,nd,h1,h2,hk=>by
  show bindC kindOf ((p,w)::P.zip vs) m x=_;unfold bindC;exact pf (i:=i) (List.nodup_cons.mp nd).2 (by simpa -iota using h1) (by simpa -iota using h2) hk
noncomputable def start (N:List Str)(vs:List V):St:=vs.map some++List.replicate (N.length-vs.length) none
noncomputable def sR (CX:CXT)(P:Program)(w:World)(K:W.Frag)(mg:Str->Option Value)(base:Heap)(N:List Str)(qual:Str)(scope:Scope)(f:Addr)(cd:Value)(A:Around)(outer:List Env)(s:Shared)(H:Hp)(E:XK):Cx where
 prog:=P
 w:=w
 K:=K
 mg:=mg
 base:=base
 A:=A.deeper (envOfC qual scope s.heap.objs.size f cd)
 N:=N
 s₀:=s
 H₀:=H
 env:=envOfC qual scope s.heap.objs.size f cd
 outer:=outer
 stack:=envOfC qual scope s.heap.objs.size f cd::outer
 ex:=[]
 calm:=true
 fn:=fun _=>true
 pn:=[]
 xe:=fun e s'=>wpAny (model P w) (A.deeper (envOfC qual scope s.heap.objs.size f cd)) (leaving (envOfC qual scope s.heap.objs.size f cd) e) (fun _ s''=>CX outer H s E e s'') (fun e' s''=>CX outer H s E e' s'') s'
theorem mi {sc:Scope}{n:Nat}{x:Str}(h:sc.names.lookup x=some .cell):∃c,(cellsFrom n sc.names []).lookup x=some c:=by
 have q:=W.cellsFrom_some sc.names n [] (.inl h);exact Option.isSome_iff_exists.mp q
theorem inv_start {CX:CXT}{P:Program}{w:World}{K:W.Frag}{mg:Str->Option Value}{base:Heap}{N ps:List Str}{qual:Str}{scope:Scope}{f:Addr}{cd:Value}{A:Around}{outer:List Env}{s s1:Shared}{H:Hp}{E:XK}{us:List Value}{vs:List V}
 (S:FnScope N ps scope) (hd:A.handled=none) (e0:Env0 P w K mg base A outer s H) (hl:vs.length=ps.length) (r:yq vs us)
 (x:InCallC s s.heap.objs.size (bindL (envOfC qual scope s.heap.objs.size f cd).kindOf (ps.zip us) fun _=>none) (cellsFrom (s.heap.objs.size+1) scope.names []) (bindC (envOfC qual scope s.heap.objs.size f cd).kindOf (ps.zip us) fun _=>none) s1) :
 Inv (sR CX P w K mg base N qual scope f cd A outer s H E) [] (start N vs) H s1:=by
 have hpl:ps.length<=N.length:=by have:=Zt List.length S.pre;rw[List.length_take] at this;omega
 refine zc2b x.done fun h1 tk zr2 hk=>?_;subst zr2;have noA:∀b:Addr,b∉(sR CX P w K mg base N qual scope f cd A outer s H E).ex:=fun b z=>Zn (show b∈([]:List Addr) from z) (by simp -iota);refine⟨⟨e0.mod,S.kind,rfl,rfl,Zf _,fun y z c h1 h2=>?_,fun y hy=>?_,fun y c _ h=>?_,fun _=>hd,Around.frames_deeper e0.frames,.inr ⟨rfl,rfl⟩,fun b z=>Zn z (noA b),e0.bs,e0.bsz,fun b _ _=>noA b,fun b z=>Zn z (noA b),e0.funs,e0.frf⟩,
  rfl,e0.bare,Un.kept hk,⟨_,x.toInCall.ns,fun i y v h1 h2 h3=>?_⟩,fun y c h=>⟨_,x.cell y c h⟩,e0.hok.fresh (Zf _),fun y c h=>?_,fun p hp=>Zn (show p∈([]:List (Addr×Obj)) from hp) (by simp -iota),e0.hok.kept hk,?_⟩
 ·exact name_of_addr x.apart (PySem.mem_of_lookup h1) (PySem.mem_of_lookup h2)
 ·have hy:scope.names.lookup y=some .cell\/scope.names.lookup y=some .free:=hy;rcases hy with hy|hy
  ·exact mi hy
  ·exact Zn rfl (S.nofree _ (PySem.mem_of_lookup hy))
 ·exact Zy (x.above y c (PySem.mem_of_lookup h))
 ·have hi:i<vs.length:=by
   unfold start at h2;by_cases hi:i<vs.length
   ·exact hi
   ·rw[List.getElem?_append_right (by simpa -iota using hi)] at h2;rw[List.getElem?_replicate] at h2
    split at h2<;>cases h2
  have ha:vs[i]? = some v:=by
   unfold start at h2;rw[List.getElem?_append_left (by simpa -iota using hi),Zv] at h2;cases e:vs[i]? with
   |none=>rw[e] at h2;cases h2
   |some a=>rw[e] at h2;cases h2;rfl
  refine zc1b (r.get ha) fun u hu rv=>?_;have hp:ps[i]? = some y:=by
   rw[<- S.pre,List.getElem?_take_of_lt (by omega)];exact h1
  have ndP:ps.Nodup:=by rw[<- S.pre];exact S.nd.sublist (List.take_sublist _ _)
  refine⟨u,rv,?_⟩;rcases S.par y (List.mem_of_getElem? hp) with k|k
  ·exact .inl ⟨k,pF ndP hp hu k⟩
  ·obtain⟨c,e⟩:=mi (n:=s.heap.objs.size+1) k;refine .inr ⟨.inl k,c,e,?_⟩;have q:=x.cell y c e;rw[pf ndP hp hu (by show scope.names.lookup y≠_;rw[k];decide)] at q;exact q
 ·exact e0.hok.fresh (Zy (x.above y c (PySem.mem_of_lookup h)))
 ·unfold start;show _=N.length;rw[List.length_append,Zql,List.length_replicate];omega
theorem gS {CX:CXT}{P:Program}{w:World}{K:W.Frag}{mg:Str->Option Value}{base:Heap}{k:Nat}{f:Addr}{name qual:Str}{params:Arguments}{body:List Stmt}{scope:Scope}{dV kV doc pm cdv ct oc:Value}{an od:Option Addr}
 {osl:Array (Option Value)} {N ps:List Str} {sp:Sp} (lk:K.lookup f=some ⟨oc,od,.func (W.fnOf name qual params body scope dV kV doc pm an cdv ct),osl⟩) (hcd:W.codeIn K cdv qual=true) (S:FnScope N ps scope)
 (len:∀vs H Q E,sp vs H Q E->vs.length=ps.length)
 (hbody:∀(A:Around) (outer:List Env) (s:Shared) (H:Hp) (vs:List V) (Q:VK) (E:XK),Room k (A.deeper (envOfC qual scope s.heap.objs.size f cdv))->sp vs H Q E ->
  ∃t,PSs (sR CX P w K mg base N qual scope f cdv A outer s H E) body t/\t { nx:=fun _ H'=>Q .non H',rt:=Q } (start N vs) H) :
 FnOk P w K mg base CX (k+1) f (W.fnOf name qual params body scope dV kV doc pm an cdv ct) ps sp:=by
 refine⟨len,fun A outer s H args us vs Q E hr e0 hb r hsp=>?_⟩;have hl:=len _ _ _ _ hsp;have KX:K.In s.heap:=e0.mod.kin.keeps fun b o e=>(e0.bs b o e).1;have lim:s.heap.NoLimit:=e0.mod.nolimit.keeps fun b o e=>(e0.bs b o e).1;have hkind:∀y∈ps.zip us,scope.names.lookup y.1=some .local\/(scope.names.lookup y.1=some .cell/\((cellsFrom (s.heap.objs.size+1) scope.names []).lookup y.1).isSome=true):=fun ⟨n,v⟩ hy=>by
  rcases S.par n (List.of_mem_zip hy).1 with q|q
  ·exact .inl q
  ·exact .inr ⟨q,W.cellsFrom_some _ _ _ (.inl q)⟩
 refine codeAny_call_function hr.depth (KX _ _ lk) rfl S.co S.gen rfl (W.codeRec_of KX hcd) (hb _ _ _ _ ?_);refine wpAny_newFunctionEnv_cells S.kind hkind fun env he s1 x=>?_;subst he;refine⟨lim.keeps x.toInCall.keep,codeAny_func ?_⟩;refine zc1b (hbody A outer s H vs Q E (hr.deeper _) hsp) fun t ht hq=>?_;have I:Inv (sR CX P w K mg base N qual scope f cdv A outer s H E) [] (start N vs) H s1:=inv_start S hr.hd e0 hl r x;refine Zc (ht [] s1 (start N vs) H _ I hq) (fun fl s' hs=>?_) fun e s' hs=>hs;have fin:∀{σ':St} {H':Hp} {v:V} {u:Value},Inv (sR CX P w K mg base N qual scope f cdv A outer s H E) [] σ' H' s'->yo v u->Q v H'->CE outer P w H s Q u s' :=
  fun {σ' H' v u} J rv q=>⟨v,H',J.os,J.bare,J.base,J.hok,rv,q⟩
 cases fl with
 |ret u =>
  refine zc3c hs fun v σ' H' J rv q=>?_;exact fin J rv q
 |next =>
  refine zc2b hs fun σ' H' J q=>?_;exact fin (v:=V.non) (u:=Value.none) J rfl q
 |brk =>
  refine zc2b hs fun _ _ _ q=>?_;exact False.elim q
 |cont =>
  refine zc2b hs fun _ _ _ q=>?_;exact False.elim q
section
variable {X:Cx}{x:Str}{p pos:Pos}{e:Expr}{es:List Expr}{t:TA}{id T:String}{r:List V->Hp->VK->Prop}
noncomputable def tCB (r:List V->Hp->VK->Prop)(t:TA):TE:=fun σ H Q=>t σ H fun vs H1=>r vs H1 Q
theorem uu (hc:zD X (.builtin id) r)(hg:Gl X x)(hm:X.mg x=none)(hv:bootBuiltins x=some (.builtin id))(ha:PA X (e::es) t)(hn:autoParam (x ≠ "__name__") zav._auto_1)(hdb:autoParam ((x == ("__debug__" : Str))=false) zav._auto_1)
 (he:autoParam (starEach (e::es) X.env=(false,eval e X.env)::starEach es X.env) zau._auto_1) (hpl:autoParam ((backTo pos (starEach es X.env)).any (·.1)=false) zau._auto_1):PE X (.Call (.Name x p) (e::es) [] pos) (tCB r t):=by
 intro pins s σ H Q I h;refine wpAny_Call_Name_kw (sQ I hg hm hv ?_ hn hdb);exact PyProof.Rows.callWith_builtin1 (thn (ha pos pins s σ H _ I h) (by rintro us s1 ⟨vs,H1,I1,r1,q1⟩;exact hc pins s1 σ H1 vs us Q I1 r1 q1)) he hpl
theorem uI (hc:zD X (.type T) r)(hg:Gl X x)(hm:X.mg x=none)(hv:bootBuiltins x=some (.type T))(ha:PA X (e::es) t)(hn:autoParam (x ≠ "__name__") zav._auto_1)(hdb:autoParam ((x == ("__debug__" : Str))=false) zav._auto_1)
 (he:autoParam (starEach (e::es) X.env=(false,eval e X.env)::starEach es X.env) zau._auto_1) (hpl:autoParam ((backTo pos (starEach es X.env)).any (·.1)=false) zau._auto_1):PE X (.Call (.Name x p) (e::es) [] pos) (tCB r t):=by
 intro pins s σ H Q I h;refine wpAny_Call_Name_kw (sQ I hg hm hv ?_ hn hdb);exact PyProof.Rows.callWith_type1 (thn (ha pos pins s σ H _ I h) (by rintro us s1 ⟨vs,H1,I1,r1,q1⟩;exact hc pins s1 σ H1 vs us Q I1 r1 q1)) he hpl
end
end L2
namespace HT
open PySem PyProof.Rows
noncomputable def lexLt:List Int->List Int->Bool
 | [],[]=>false
 | [],_::_=>true
 |_::_,[]=>false
 |x::xs,y::ys=>if x=y then lexLt xs ys else decide (x<y)
theorem lexLt_cons (x y:Int)(xs ys:List Int):lexLt (x::xs) (y::ys)=if x=y then lexLt xs ys else decide (x<y):=rfl
theorem lexLt_nil_nil:lexLt [] []=false:=rfl
theorem lexLt_nil_cons (y:Int)(ys:List Int):lexLt [] (y::ys)=true:=rfl
theorem lexLt_cons_nil (x:Int)(xs:List Int):lexLt (x::xs) []=false:=rfl
theorem eqAt_int (A:Around)(s:Shared)(a:Int)(t:Tok)(c:Int)(u:Tok):∃e,SeqAt.EqAt A s (.int a t) (.int c u) e/\(e=true↔a=c) :=
 ⟨(a == c),SeqAt.EqAt.int_int a t c u,by simp -iota⟩
theorem rcLt_int (A:Around)(s:Shared)(a:Int)(t:Tok)(c:Int)(u:Tok)(prog:Program)(w:World)(E:Value->Shared->Prop)(Q:Value->Shared->Prop)(h:Q (.bool (decide (a<c))) s) :
 wpAny (model prog w) A (richCompare .Lt (.int a t) (.int c u)) Q E s :=
 (PyProof.Rows.lt_int h:wpAny (model prog w) A (compareOp .Lt (.int a t) (.int c u)) Q E s)
section
open PySem.SeqAt
open PySem.AutoSeq1 (wpAny_loadPart')
open PySem.MeetsSeq PySem.MeetsSeq2 PySem.MeetsSeq3
theorem tuple_lt_ints (l b:Addr)(items items2:Array Value)(n n2:Nat)(dd dd2:Option Addr)(sl sl2:Array (Option Value))(ns ms:List Int)(hi:IntsAre items.toList ns)(hj:IntsAre items2.toList ms) :
 Meets (Builtin.«tuple.__lt__» ⟨[.ref l,.ref b],[]⟩)
  (fun _ R s=>s.heap.get? l=some { cls:=.type "tuple",dict:=dd,data:=.seq items n,slots:=sl }/\s.heap.get? b=some { cls:=.type "tuple",dict:=dd2,data:=.seq items2 n2,slots:=sl2 } /\
   R (.ok (.ret (.bool (lexLt ns ms)))) s) :=
 .of_wp fun prog w A R s h=>by
  obtain⟨hp,g,d,tk,os⟩:=s;obtain⟨hl,hb,h⟩:=h;have f2:=AutoSeq1.sub_tuple_tuple;have z1:items.size=ns.length:=by rw[<- hi.length];simp -iota
  have z2:items2.size=ms.length:=by rw[<- hj.length];simp -iota
  wp_walk using wpAny_loadPart' hl,wpAny_loadPart' hb,wpAny_forIn_list _ (fun rest b s'=>b.1=none/\s'=⟨hp,g,d,tk,os⟩/\∃(vs ws:List Value) (ns' ms':List Int),rest=vs.zip ws /\
   IntsAre vs ns'/\IntsAre ws ms'/\ns'.length+items2.size=ms'.length+items.size/\R (.ok (.ret (.bool (lexLt ns' ms')))) ⟨hp,g,d,tk,os⟩) _
  case turn =>
   rintro⟨y,x⟩ rest b s' ⟨hb',rfl,vs,ws,ns',ms',hz,hvi,hwi,hlen,hR⟩;cases hvi with
   |nil=>rw[List.zip_nil_left] at hz;cases hz
   |cons a t hvi' =>
    cases hwi with
    |nil=>rw[List.zip_nil_right] at hz;cases hz
    |cons c u hwi' =>
     rw[List.zip_cons_cons] at hz;injection hz with hyx hrest
     injection hyx with hy hx
     subst hy hx;rw[lexLt_cons] at hR;simp -iota only[Zu] at hlen;refine zc1b (eqAt_int A.in1 ⟨hp,g,d,tk,os⟩ a t c u) fun e he hiff=>?_;refine Za (he prog w _ _ ?_);cases e with
     |true =>
      rw[Zd (hiff.mp rfl)] at hR
      wp_walk
      exact⟨rfl,rfl,_,_,_,_,hrest,hvi',hwi',by omega,hR⟩
     |false =>
      rw[Ze (fun q=>Zn (hiff.mpr q) Zj)] at hR;have hri:=rcLt_int A.in1 ⟨hp,g,d,tk,os⟩ a t c u prog w
      wp_walk using hri
      exact⟨_,rfl,by simpa -iota using hR⟩
  case fin =>
   rintro⟨b1,b2⟩ s' ⟨hb',rfl,vs,ws,ns',ms',hz,hvi,hwi,hlen,hR⟩;simp -iota only at hb';subst hb';have hv:lexLt ns' ms'=decide (items.size<items2.size):=by
    cases hvi with
    |nil =>
     cases hwi with
     |nil =>
      simp -iota only[ZB] at hlen;rw[lexLt_nil_nil];exact(Zo (by omega)).symm
     |cons c u hw =>
      simp -iota only[ZB,Zu] at hlen;rw[lexLt_nil_cons];exact(Zp (by omega)).symm
    |cons a t hv =>
     cases hwi with
     |nil =>
      simp -iota only[ZB,Zu] at hlen;rw[lexLt_cons_nil];exact(Zo (by omega)).symm
     |cons c u hw =>
      rw[List.zip_cons_cons] at hz;cases hz
   rw[hv] at hR
   wp_walk
   exact⟨_,rfl,by simpa -iota [Builtin.Tuple.tupleCompareSizes] using hR⟩
  case h =>
   exact⟨rfl,rfl,items.toList,items2.toList,ns,ms,rfl,hi,hj,by omega,h⟩
end
section
variable {prog:Program}{w:World}{A:Around}{E:Value->Shared->Prop}{s:Shared}
theorem lt_tupInts {l b:Addr}{items items2:Array Value}{ns ms:List Int}{Q:Value->Shared->Prop}(hl:IsTup s.heap l items)(hb:IsTup s.heap b items2)(hi:IntsAre items.toList ns)(hj:IntsAre items2.toList ms)
 (hu:A.units<cLine) (h:Q (.bool (lexLt ns ms)) s):wpAny (model prog w) A (compareOp .Lt (.ref l) (.ref b)) Q E s:=by
 refine zc1c (id hl) fun zr0 ho hc zz=>zc1a zz fun n hd=>?_;obtain⟨cls,dd,data,sl⟩:=zr0;refine zc1c (id hb) fun zr0 ho2 hc2 zz=>zc1a zz fun n2 hd2=>?_;obtain⟨cls2,dd2,data2,sl2⟩:=zr0;simp -iota only at hc hd hc2 hd2;subst hc hd hc2 hd2;exact richCompare_meets_room (op:=.Lt) ⟨_,ho,rfl⟩ ⟨_,ho2,rfl⟩ PySem.F.slot_tuple_lt PySem.F.entry_tuple_lt (PySem.F.args_tuple_lt_2 _ _) (tuple_lt_ints l b items items2 n n2 dd dd2 sl sl2 ns ms hi hj)
  ⟨ho,ho2,show Value.bool (lexLt ns ms)≠Value.notImplemented/\Q (.bool (lexLt ns ms)) s from ⟨(fun x=>nomatch x),h⟩⟩ hu
theorem cat_tup {t b:Addr}{vs ws:List Value}{Q:Value->Shared->Prop}(ht:IsTup s.heap t vs.toArray)(hb:IsTup s.heap b ws.toArray)(hv:vs ≠ [])
 (h1:ws=[]->Q (.ref t) s) (h2:ws ≠ []->Q (.ref s.heap.objs.size) { s with heap:=s.heap.push { cls:=.type "tuple",data:=.seq (vs++ws).toArray } })
 (hsz:vs.length+ws.length<=sizeLine):wpAny (model prog w) A (binaryOp .Add (.ref t) (.ref b)) Q E s:=by
 refine zc1c (id ht) fun zr0 ho hc zz=>zc1a zz fun n hd=>?_;obtain⟨cls,dd,data,sl⟩:=zr0;refine zc1c (id hb) fun zr0 ho2 hc2 zz=>zc1a zz fun n2 hd2=>?_;obtain⟨cls2,dd2,data2,sl2⟩:=zr0;simp -iota only at hc hd hc2 hd2;subst hc hd hc2 hd2;have e:vs.toArray++ws.toArray=(vs++ws).toArray:=by simp -iota
 by_cases hw:ws=[]
 ·exact concat_meets ⟨_,ho,rfl⟩ ⟨_,ho2,rfl⟩ noFill_tuple_add seq_tuple_add PySem.F.slot_tuple_add PySem.F.entry_tuple_add (PySem.F.args_tuple_add_2 _ _)
   (tuple_addW1 t b vs.toArray ws.toArray n n2 dd dd2 sl sl2 (by simpa -iota using hv) (by simp -iota [hw])) ⟨ho,ho2,h1 hw⟩
 ·refine concat_meets ⟨_,ho,rfl⟩ ⟨_,ho2,rfl⟩ noFill_tuple_add seq_tuple_add PySem.F.slot_tuple_add PySem.F.entry_tuple_add (PySem.F.args_tuple_add_2 _ _)
   (tuple_addW2 t b vs.toArray ws.toArray n n2 dd dd2 sl sl2 (by simpa -iota using hv) (by simpa -iota using hw) (by rw[Zm,Zm];exact hsz)) ⟨ho,ho2,?_⟩
  rw[e];exact h2 hw
end
end HT
namespace L2
abbrev TO:=St->Hp->(Option Int->Hp->Prop)->Prop
noncomputable def PO (X:Cx)(e:Option Expr)(t:TO):Prop :=
 ∀(pins:List (Addr×Obj)) (s:Shared) (σ : St) (H:Hp) (Q:Option Int->Hp->Prop),Inv X pins σ H s->t σ H Q ->
  wpAny (model X.prog X.w) X.A (evalPart e X.env) (fun u s'=>∃o H',Inv X pins σ H' s'/\IsPart u o/\Q o H') X.xe s
noncomputable def tNoPart:TO:=fun _ H Q=>Q none H
noncomputable def tPart (t:TE):TO:=fun σ H Q=>t σ H fun x H1=>∃i,x=.int i/\Q (some i) H1
theorem vM {ns:List Int}:∀{us:List Value},yq (ns.map V.int) us->IntsAre us ns:=by
 induction ns with
 |nil=>intro us r;rw[List.map_nil] at r;cases r;exact .nil
 |cons n ns ih =>
  intro us r;rw[Zl] at r;cases r with
  |cons r1 r2 =>
   obtain⟨t,e⟩:=r1;subst e;exact .cons n t (ih r2)
section
variable {X:Cx}{e:Expr}{te:TE}{lo hi:Option Expr}{tl th:TO}{pos p2:Pos}
theorem po_none:PO X none tNoPart:=by
 intro pins s σ H Q I h;rw[evalPart_none];exact Zb ⟨none,H,I,.none,h⟩
theorem po_some (h:PE X e te):PO X (some e) (tPart te):=by
 intro pins s σ H Q I hw;rw[evalPart_some];refine thn (h pins s σ H _ I hw) fun u s1 zh=>?_;refine zc2c zh fun x H1 I1 r1 q1=>?_;refine zc1b q1 fun i zr1 q=>?_;subst zr1;obtain⟨t,rfl⟩:=r1;exact⟨some i,H1,I1,.int i t,q⟩
def rCatT (K:W.Frag):R2:=fun x y H Q=>∃a b xs ys,x=.ref a/\y=.ref b/\SqT K H a xs/\SqT K H b ys/\xs ≠ []/\xs.length+ys.length<=sizeLine /\
 (ys=[]->Q (.ref a) H)/\(ys ≠ []->∀p,H p=none->Q (.ref p) (upd H p (.tup (xs++ys))))
theorem yq.nil_iff {xs:List V}{us:List Value}(r:yq xs us):us=[]↔xs=[]:=by
 cases r with
 |nil=>simp -iota
 |cons _ _=>simp -iota
theorem op_catT:OpR X (binaryOp .Add) (rCatT X.K):=by
 intro pins s σ H x y v u Q I rx ry h;refine zc4a h fun a b xs ys zz=>yT zz fun zr4 zr5 ha hb zz=>qD zz fun hx hz q1 q2=>?_;subst zr4;subst zr5;cases rx;cases ry;refine zc1c (I.tuple ha) fun its r1 p1 _=>?_;refine zc1c (I.tuple hb) fun its2 r2 p2 _=>?_;refine HT.cat_tup p1 p2 (fun z=>hx (r1.nil_iff.mp z)) (fun z=>⟨.ref a,H,I,rfl,q1 (r2.nil_iff.mp z)⟩) (fun z=>?_) (by rw[<- r1.length,<- r2.length];exact hz);refine⟨.ref s.heap.objs.size,_,I.laid (t':=s.toks) (o:=.tup (xs++ys)) (fun b ob q=>Zq _ q) (Zf _) ?_,rfl,q2 (fun w=>z (r2.nil_iff.mpr w)) _ (I.hok.fresh (Zf _))⟩;exact⟨⟨by rw[List.length_append];exact hz,⟨_,Zr _ rfl,rfl⟩⟩,_,r1.append r2,IsTup.new _ _⟩
end
noncomputable def ixN (n:Nat)(i:Int):Option Nat:=if 0<=i then(if i<n then some i.toNat else none) else if -(n:Int)<=i then some (i+n).toNat else none
def atI {α : Type}(xs:List α)(i:Int):Option α := (ixN xs.length i).bind fun j=>xs[j]?
theorem kZ {n:Nat}{i:Int}{j:Nat}(h:ixN n i=some j):seqIndex? i n=some j/\j<n /\ -(n:Int)<=i/\i<n:=by
 unfold ixN at h;by_cases h0:0<=i
 ·rw[Zd h0] at h;by_cases h1:i<n
  ·rw[Zd h1] at h;have e:i.toNat=j:=Zqi h;exact⟨by rw[seqIndex_of h0 h1,e],by omega,by omega,h1⟩
  ·rw[Ze h1] at h;cases h
 ·rw[Ze h0] at h;by_cases h1 : -(n:Int)<=i
  ·rw[Zd h1] at h;have e:(i+n).toNat=j:=Zqi h;exact⟨by rw[seqIndex_neg (by omega) h1,e],by omega,h1,by omega⟩
  ·rw[Ze h1] at h;cases h
theorem oq {α : Type}{xs:List α}{i:Int}{v:α}(h:atI xs i=some v):∃j,seqIndex? i xs.length=some j/\xs[j]? = some v/\j<xs.length /\ -(xs.length:Int)<=i/\i<xs.length:=by
 unfold atI at h;cases e:ixN xs.length i with
 |none=>rw[e] at h;cases h
 |some j =>
  rw[e] at h;refine qD (kZ e) fun h1 h2 h3 h4=>?_;exact⟨j,h1,h,h2,h3,h4⟩
noncomputable def oz (b:Expr):Prop:=∀o i,subscripted b false o i=operate [o,i] (getItem o i)
def IxR (X:Cx)(r:R2):Prop :=
 ∀(value slice:Expr) (pins:List (Addr×Obj)) (s:Shared) (σ : St) (H:Hp) (x y:V) (v u:Value) (Q:VK),Inv X pins σ H s->yo x v->yo y u->r x y H Q ->
  subscripted slice false v u=operate [v,u] (getItem v u)->wpAny (model X.prog X.w) X.A (subscriptTail value slice v u) (EP X pins σ Q) X.xe s
def MtR (X:Cx)(id:String)(r:V->List V->Hp->VK->Prop):Prop :=
 ∀(pins:List (Addr×Obj)) (s:Shared) (σ : St) (H:Hp) (x:V) (xs:List V) (v:Value) (us:List Value) (Q:VK),Inv X pins σ H s->yo x v->yq xs us->r x xs H Q ->
  wpAny (model X.prog X.w) X.A (call (.builtin id) (v::us)) (EP X pins σ Q) X.xe s
section
variable {X:Cx}{a b:Expr}{ta tb:TE}{pos:Pos}
theorem IxR.or {r r':R2}(h:IxR X r)(h':IxR X r'):IxR X (fun x y H Q=>r x y H Q\/r' x y H Q):=by
 intro value slice pins s σ H x y v u Q I rx ry q hs;rcases q with q|q
 ·exact h value slice pins s σ H x y v u Q I rx ry q hs
 ·exact h' value slice pins s σ H x y v u Q I rx ry q hs
theorem fQ {r:R2}(hr:IxR X r)(ha:PE X a ta)(hb:PE X b tb)(hs:oz b):PE X (.Subscript a b pos) (tOp r ta tb):=by
 intro pins s σ H Q I h;exact Subscript_ (eQ ha hb I h fun v u s2 x y H2 I2 rx ry q=>hr a b pins s2 σ H2 x y v u Q I2 rx ry q (hs _ _))
def dm (K:W.Frag):R2:=fun x y H Q=>∃p xs i v,x=.ref p/\y=.int i/\SqL K H p xs/\atI xs i=some v/\Q v H
def eX (K:W.Frag):R2:=fun x y H Q=>∃p xs i v,x=.ref p/\y=.int i/\SqT K H p xs/\atI xs i=some v/\Q v H
def du:R2:=fun x y H Q=>∃z i c,x=.str z/\y=.int i/\z.length<=sizeLine/\atI z.cps.toList i=some c/\Q (.str ⟨#[c]⟩) H
theorem jc:IxR X (dm X.K):=by
 intro value slice pins s σ H x y v u Q I rx ry h hs;refine zc4a h fun p xs i z zz=>yT zz fun zr4 zr5 hq he q=>?_;subst zr4;subst zr5;cases rx;obtain⟨t,rfl⟩:=ry;refine zc1c (I.list hq) fun its r pl hz=>?_;refine zc1e (oq he) fun j h1 h2 h3 h4 h5=>?_;refine zc1b (r.get h2) fun w ew rw'=>?_;have hl:=r.length;have hn:=sW;have fin:EP X pins σ Q w s:=⟨z,H,I,rw',q⟩;by_cases h0:0<=i
 ·have hj:i.toNat=j:=by
   rw[seqIndex_of h0 h5] at h1;exact Zqi h1
  exact item_listR pl.isList h0 (by omega) (by rw[hj];simpa -iota using ew) fin hs
 ·have hj:(i+(its.toArray.size:Int)).toNat=j:=by
   rw[seqIndex_neg (by omega) h4] at h1;rw[Zm,<- hl];exact Zqi h1
  exact subscriptTail_builtinR (x:=w) pl.isList.typeIs slot_list_getitem.lookup
   (wpAny_getItem_list_neg (Q:=fun r s'=>r=w/\EP X pins σ Q r s') pl.isList (by omega) (by rw[Zm]<;>omega) (by omega) (by rw[hj];simpa -iota using ew) ⟨rfl,fin⟩) hs
theorem ix_tup:IxR X (eX X.K):=by
 intro value slice pins s σ H x y v u Q I rx ry h hs;refine zc4a h fun p xs i z zz=>yT zz fun zr4 zr5 hq he q=>?_;subst zr4;subst zr5;cases rx;obtain⟨t,rfl⟩:=ry;refine zc1c (I.tuple hq) fun its r pl hz=>?_;refine zc1e (oq he) fun j h1 h2 h3 h4 h5=>?_;refine zc1b (r.get h2) fun w ew rw'=>?_;have hl:=r.length;have hn:=sW;have fin:EP X pins σ Q w s:=⟨z,H,I,rw',q⟩;exact subscriptTail_builtinR (x:=w) pl.typeIs slot_tuple_getitem.lookup
  (getItem_tuple (j:=j) (Q:=fun r s'=>r=w/\EP X pins σ Q r s') pl (by omega) (by omega) (by rw[Zm,<- hl];exact h1) (by simpa -iota using ew) ⟨rfl,fin⟩) hs
theorem ix_str:IxR X du:=by
 intro value slice pins s σ H x y v u Q I rx ry h hs;refine zc3a h fun z i c zz=>yT zz fun zr3 zr4 hz he q=>?_;subst zr3;subst zr4;obtain⟨t,rfl⟩:=rx;obtain⟨t',rfl⟩:=ry;refine zc1e (oq he) fun j h1 h2 h3 h4 h5=>?_;have hl:z.cps.toList.length=z.length:=by simp -iota [Str.length]
 rw[hl] at h1 h4 h5;have hn:=sW;exact tail_any (typeIs_str s z t) slot_str_getitem.lookup (getItem_str (c:=c) (by
  have e1:decide (i < -(2 ^ 63:Int))=false:=Zo (by omega);have e2:decide (i ≥ 2 ^ 63)=false:=Zo (by omega);rw[e1,e2,Bool.or_false]) (by rw[h1];simpa -iota using h2) ⟨.str ⟨#[c]⟩,H,I.tok _,⟨_,rfl⟩,q⟩) hs
def rIx (K:W.Frag):R2:=fun x y H Q=>dm K x y H Q\/eX K x y H Q\/du x y H Q
theorem ix_seq:IxR X (rIx X.K):=jc.or (ix_tup.or ix_str)
theorem mapSeq_set (its:List Value)(n j:Nat)(u:Value):Obj.mapSeq (·.setIfInBounds j u) { cls:=.type "list",data:=.seq its.toArray n }={ cls:=.type "list",data:=.seq (its.set j u).toArray n }:=by
 simp[Obj.mapSeq]
theorem Inv.lst {pins:List (Addr×Obj)}{σ : St}{H:Hp}{s:Shared}{p:Addr}{xs:List V}(I:Inv X pins σ H s)(h:H p=some (.lst xs)) :
 ∃(its:List Value) (n:Nat),yq xs its/\s.heap.get? p=some { cls:=.type "list",data:=.seq its.toArray n }/\xs.length<=sizeLine:=by
 refine we (I.hok p _ h) fun z zz=>zc2b zz fun its n r e=>?_;exact⟨its,n,r,e,z⟩
theorem Inv.lstUpd {pins:List (Addr×Obj)}{σ : St}{H:Hp}{s:Shared}{p:Addr}{xs ys:List V}{its its':List Value}{n n':Nat}{f:Obj->Obj}(I:Inv X pins σ H s)(h:H p=some (.lst xs))
 (ho:s.heap.get? p=some { cls:=.type "list",data:=.seq its.toArray n }) (hf:f { cls:=.type "list",data:=.seq its.toArray n }={ cls:=.type "list",data:=.seq its'.toArray n' }) (r:yq ys its') (hz:ys.length<=sizeLine) (t:Nat) :
 Inv X pins σ (upd H p (.lst ys)) { s with heap:=s.heap.update p f,toks:=t }:=by
 have e:(s.heap.update p f).get? p=some { cls:=.type "list",data:=.seq its'.toArray n' }:=by
  rw[Heap.get?_update_self f ho (by rw[hf]<;>rfl),hf]
 refine I.write (x:=p) (e:=p) (by rw[h];trivial) (.inl rfl) (fun b u hb q=>(Heap.get?_update_other _ _ (Ne.symm hb)).trans q) ⟨_,e⟩ ?_;exact⟨hz,its',n',r,e⟩
def rSetL:V->V->V->Hp->(Hp->Prop)->Prop:=fun o i v H Q=>∃p xs k j,o=.ref p/\i=.int k/\H p=some (.lst xs)/\ixN xs.length k=some j/\Q (upd H p (.lst (xs.set j v)))
theorem set_list:dg X rSetL:=by
 intro pins s σ H o i v ov iv u Q I ro ri rv h;refine zc4a h fun p xs k j zz=>yT zz fun zr4 zr5 hp hj q=>?_;subst zr4;subst zr5;cases ro;obtain⟨t,rfl⟩:=ri;refine zc2c (I.lst hp) fun its n r ho hz=>?_;refine qD (kZ hj) fun h1 h2 h3 h4=>?_;have hl:=r.length;have hn:=sW;have I':Inv X pins σ (upd H p (.lst (xs.set j v))) { s with heap:=s.heap.update p (Obj.mapSeq (·.setIfInBounds j u)) } :=
  I.lstUpd hp ho (mapSeq_set its n j u) (r.set rv j) (by rw[List.length_set];exact hz) s.toks
 by_cases h0:0<=k
 ·have hk:k.toNat=j:=by
   rw[seqIndex_of h0 h4] at h1;exact Zqi h1
  exact W.ki_setAt ho h0 (by omega) (by rw[Zm,<- hl];exact h4) (by rw[hk];exact⟨_,I',q⟩)
 ·have hk:(k+(its.toArray.size:Int)).toNat=j:=by
   rw[seqIndex_neg (by omega) h3] at h1;rw[Zm,<- hl];exact Zqi h1
  exact W.ki_setBack ho (by omega) (by rw[Zm,<- hl];exact h3) (by omega) (by rw[hk];exact⟨_,I',q⟩)
theorem call_len_seq:zD X (.builtin "len") (fun xs H Q=>∃p ys,xs=[.ref p]/\(SqL X.K H p ys\/SqT X.K H p ys)/\Q (.int ys.length) H):=by
 intro pins s σ H xs us Q I r h;refine zc2c h fun p ys zr2 hq q=>?_;subst zr2;refine zc1b (vy r) fun u zr1 rx=>?_;subst zr1;cases rx;have hn:=sW;rcases hq with hq|hq
 ·refine zc1c (I.list hq) fun its r' pl hz=>?_;have hlen:=r'.length;exact Calls.call_len_list pl.isList (by simp -iota only[Zm]<;>omega) ⟨.int ys.length,H,I.tok _,⟨s.toks+1,by rw[Zm,hlen]⟩,q⟩
 ·refine zc1c (I.tuple hq) fun its r' pl hz=>?_;have hlen:=r'.length;exact len_tuple pl (by simp -iota only[Zm]<;>omega) ⟨.int ys.length,H,I.tok _,⟨s.toks+1,by rw[Zm,hlen]⟩,q⟩
theorem call_len_str:zD X (.builtin "len") (fun xs H Q=>∃z,xs=[.str z]/\z.length<=sizeLine/\Q (.int z.length) H):=by
 intro pins s σ H xs us Q I r h;obtain⟨z,rfl,hz,q⟩:=h;obtain⟨u,rfl,t,rfl⟩:=vy r;have hn:=sW;exact len_str (by omega) ⟨.int z.length,H,I.tok _,⟨_,rfl⟩,q⟩
theorem zD.or {f:Value}{r r':List V->Hp->VK->Prop}(h:zD X f r)(h':zD X f r'):zD X f (fun xs H Q=>r xs H Q\/r' xs H Q):=by
 intro pins s σ H xs us Q I rs q;rcases q with q|q
 ·exact h pins s σ H xs us Q I rs q
 ·exact h' pins s σ H xs us Q I rs q
theorem call_list_of:zD X (.type "list") (fun xs H Q=>∃p ys,xs=[.ref p]/\(SqL X.K H p ys\/SqT X.K H p ys)/\∀l,H l=none->Q (.ref l) (upd H l (.lst ys))):=by
 intro pins s σ H xs us Q I r h;refine zc2c h fun p ys zr2 hq q=>?_;subst zr2;refine zc1b (vy r) fun u zr1 rx=>?_;subst zr1;cases rx;have fin:∀(its:List Value),yq ys its->ys.length<=sizeLine->∀(h':Heap) (c':Nat),(∀b o',s.heap.get? b=some o'->h'.get? b=some o') ->
  h'.get? s.heap.objs.size=some { cls:=.type "list",dict:=none,data:=.seq its.toArray c',slots:=#[] }->EP X pins σ Q (.ref s.heap.objs.size) { s with heap:=h' }:=fun its r' hz h' c' kp e =>
  ⟨.ref s.heap.objs.size,_,I.laid (t':=s.toks) kp (Zf _) (show yj X.prog X.w _ h' _ (.lst ys) from ⟨hz,its,c',r',e⟩),rfl,q _ (I.hok.fresh (Zf _))⟩
 rcases hq with hq|hq
 ·refine zc1c (I.list hq) fun its r' pl hz=>?_;have hlen:=r'.length;refine zc1c pl.isList fun o ho hc zz=>zc1a zz fun n hd=>?_;exact call_list_seq p (.inl rfl) ho hc hd (fun h' c' kp e=>fin its r' hz h' c' kp e) (by simp -iota only[Zm]<;>omega)
 ·refine zc1c (I.tuple hq) fun its r' pl hz=>?_;have hlen:=r'.length;refine zc1c pl fun o ho hc zz=>zc1a zz fun n hd=>?_;exact call_list_seq p (.inr rfl) ho hc hd (fun h' c' kp e=>fin its r' hz h' c' kp e) (by simp -iota only[Zm]<;>omega)
theorem call_tuple_of:zD X (.type "tuple") (fun xs H Q=>∃p ys,xs=[.ref p]/\((SqL X.K H p ys/\∀l,H l=none->Q (.ref l) (upd H l (.tup ys)))\/(SqT X.K H p ys/\Q (.ref p) H))):=by
 intro pins s σ H xs us Q I r h;obtain⟨p,ys,rfl,h⟩:=h;obtain⟨u,rfl,rx⟩:=vy r;cases rx;rcases h with ⟨hq,q⟩|⟨hq,q⟩
 ·obtain⟨its,r',pl,hz⟩:=I.list hq;have hlen:=r'.length;refine call_tuple_list pl.isList (fun h' kp=>?_) (by simp -iota only[Zm]<;>omega);have I1:Inv X pins σ H { s with heap:=h' }:=I.kept (t':=s.toks) kp;have I2:Inv X pins σ (upd H h'.objs.size (.tup ys)) { s with heap:=h'.push { cls:=.type "tuple",data:=.seq its.toArray } } :=
   I1.laid (t':=s.toks) (fun b o e=>Zq _ e) (Zf _) (show yj X.prog X.w _ _ _ (.tup ys) from ⟨⟨hz,⟨_,Zr _ rfl,rfl⟩⟩,its,r',IsTup.new _ _⟩)
  exact⟨.ref h'.objs.size,_,I2,rfl,q _ (I1.hok.fresh (Zf _))⟩
 ·obtain⟨its,r',pl,hz⟩:=I.tuple hq;exact call_tuple_same pl ⟨.ref p,H,I,rfl,q⟩
def tyV (K:W.Frag)(T:String)(x:V)(H:Hp):Prop:=match x with
 | .str _=>T = "str"
 | .int _=>T = "int"
 | .ref p=>(T = "list" /\ ∃xs,SqL K H p xs)\/(T = "tuple" /\ ∃o,K.lookup p=some o/\o.cls=.type "tuple" /\ o.dict=none) \/
  (T = "dict" /\ ((∃kvs,H p=some (.dK kvs))\/∃kvs,H p=some (.dT kvs)))\/(T = "set" /\ ∃S n,H p=some (.set S n))
 |_=>False
theorem iH {pins:List (Addr×Obj)}{σ : St}{H:Hp}{s:Shared}{T:String}{x:V}{v:Value}(I:Inv X pins σ H s)(r:yo x v)(ty:tyV X.K T x H) :
 s.TypeIs v T/\∀a,v=.ref a->∃ob,s.heap.get? a=some ob/\ob.dict=none:=by
 cases x with
 |str z =>
  obtain⟨t,rfl⟩:=r;cases (show T = "str" from ty);exact⟨typeIs_str s z t,fun _ e=>nomatch e⟩
 |int i =>
  obtain⟨t,rfl⟩:=r;cases (show T = "int" from ty);exact⟨typeIs_int s i t,fun _ e=>nomatch e⟩
 |ref p =>
  cases r;rcases ty with ⟨rfl,xs,hq⟩|⟨rfl,o,hk,hc,hd⟩|⟨rfl,hk⟩|⟨rfl,S,n,hk⟩
  ·refine zc1c (I.list hq) fun its _ pl _=>?_;refine⟨pl.isList.typeIs,fun a e=>?_⟩;cases e;refine zc2d pl fun o n e c hd _=>?_;exact⟨o,e,hd⟩
  ·refine⟨⟨o,I.kIn p o hk,hc⟩,fun a e=>?_⟩;cases e;exact⟨o,I.kIn _ o hk,hd⟩
  ·have z:∃o,s.heap.get? p=some o/\o.ExactDict:=by
    rcases hk with ⟨kvs,hk⟩|⟨kvs,hk⟩
    ·refine xm (I.hok p _ hk) fun _ _ zz=>zc1b zz fun _ _ zz=>zc3c zz fun o _ _ e ex _=>?_;exact⟨o,e,ex⟩
    ·refine xm (I.hok p _ hk) fun _ _ zz=>zc1b zz fun _ _ zz=>zc3c zz fun o _ _ e ex _=>?_;exact⟨o,e,ex⟩
   refine zc1b z fun o e ex=>?_;refine⟨⟨o,e,ex.1⟩,fun a e2=>?_⟩;cases e2;exact⟨o,e,ex.2.1⟩
  ·refine zc4a (I.hok p _ hk) fun o _ _ _ zz=>xm zz fun e ex _=>?_;refine⟨⟨o,e,ex.1⟩,fun a e2=>?_⟩;cases e2;exact⟨o,e,ex.2.1⟩
 |_=>exact False.elim ty
def df (K:W.Frag)(T:String)(r:V->List V->Hp->VK->Prop)(to:TE):TE:=fun σ H Q=>to σ H fun x H1=>tyV K T x H1/\r x [] H1 Q
def tBM (K:W.Frag)(T:String)(r:V->List V->Hp->VK->Prop)(to:TE)(t:TA):TE:=fun σ H Q=>to σ H fun x H1=>tyV K T x H1/\t σ H1 fun xs H2=>r x xs H2 Q
variable {o e:Expr}{es:List Expr}{to:TE}{t:TA}{name:Str}{apos cpos:Pos}{T id:String}{r:V->List V->Hp->VK->Prop}
theorem pe_bm0 (pa:PlainAttrs T)(slot:Slot T name id)(hty:typeOf (.builtin id)=pure (.type "method_descriptor"))(hm:MtR X id r)(ho:PE X o to)
 (hbase:autoParam (attributeBase o name X.env (eval o X.env)=eval o X.env) zau._auto_1) (hline:autoParam ((apos.endLine == cpos.line)=true) zau._auto_1):PE X (.Call (.Attribute o name apos) [] [] cpos) (df X.K T r to):=by
 intro pins s σ H Q I h;refine wpAny_Call_method0_late hbase hline (thn (ho pins s σ H _ I h) fun v s1 zh=>?_);refine zc2d zh fun x H1 I1 r1 ty q1=>?_;obtain⟨h1,h2⟩:=iH I1 r1 ty;exact⟨T,id,pa,slot,hty,h1,h2,Calls.callWith_builtin rfl (PySem.evalArgs_none (hm pins s1 σ H1 x [] v [] Q I1 r1 .nil q1))⟩
theorem vG (pa:PlainAttrs T)(slot:Slot T name id)(hty:typeOf (.builtin id)=pure (.type "method_descriptor"))(hm:MtR X id r)(ho:PE X o to)(ha:PA X (e::es) t)
 (hbase:autoParam (attributeBase o name X.env (eval o X.env)=eval o X.env) zau._auto_1)
 (hfew:((backTo cpos (starEach (e::es) X.env)).all (fun x => !x.1)&&(backToKw cpos (keywordEach [] X.env)).all (fun x=>x.1.isSome)
  && decide ((e::es).length+([]:List Keyword).length+(if([]:List Keyword).isEmpty then 0 else 1)<30))=true:=by rfl)
 (hline:autoParam ((apos.endLine == cpos.line)=true) zau._auto_1) (hs:autoParam (starEach (e::es) X.env=(false,eval e X.env)::starEach es X.env) zau._auto_1) (hplain:autoParam ((backTo cpos (starEach es X.env)).any (·.1)=false) zau._auto_1) :
 PE X (.Call (.Attribute o name apos) (e::es) [] cpos) (tBM X.K T r to t):=by
 intro pins s σ H Q I h;refine wpAny_Call_method_late hbase hfew hline rfl (thn (ho pins s σ H _ I h) fun v s1 zh=>?_);refine zc2d zh fun x H1 I1 r1 ty q1=>?_;obtain⟨h1,h2⟩:=iH I1 r1 ty;refine⟨T,id,pa,slot,hty,h1,h2,?_⟩;have hA:=ha cpos pins s1 σ H1 _ I1 q1;rw[hs] at hA ⊢;refine Calls.callWith_builtin (by show(false||(backTo cpos (starEach es X.env)).any (·.1))=false;rw[hplain]<;>rfl) (Calls.evalArgs_plain ?_);exact thn hA (by rintro us s2 ⟨vs,H2,I2,r2,q2⟩;exact hm pins s2 σ H2 x vs v us Q I2 r1 r2 q2)
end
def MtM (X:Cx)(id:String)(r:V->List V->Hp->VK->Prop):Prop :=
 ∀(pins:List (Addr×Obj)) (s:Shared) (σ : St) (H:Hp) (x:V) (xs:List V) (v:Value) (us:List Value) (Q:VK),Inv X pins σ H s->yo x v->yq xs us->r x xs H Q ->
  wpAny (model X.prog X.w) X.A (call (.builtin id) (v::us)) (EP X pins σ Q) X.xe s
theorem yq.one:∀{x:V} {us:List Value},yq [x] us->∃u,us=[u]/\yo x u:=fun h=>by
 cases h with
 |cons r t=>cases t;exact⟨_,rfl,r⟩
theorem yq.zero:∀{us:List Value},yq [] us->us=[]
 |_,.nil=>rfl
section
variable {X:Cx}{pins:List (Addr×Obj)}{σ : St}{H:Hp}{s:Shared}{l b:Addr}{xs ys zs:List V}
theorem Inv.lset {its its':List Value}{n:Nat}{f:Array Value->Array Value}{t':Nat}(I:Inv X pins σ H s)(hH:H l=some (.lst xs))
 (e:s.heap.get? l=some { cls:=.type "list",data:=.seq its.toArray n }) (hf:f its.toArray=its'.toArray) (hv:yq ys its') (hz:ys.length<=sizeLine) :
 Inv X pins σ (upd H l (.lst ys)) { s with heap:=s.heap.update l (Obj.mapSeq f),toks:=t' }:=by
 have q:=PySem.IsL.update e f;rw[hf] at q;refine I.write (x:=l) (e:=l) (by rw[hH];exact trivial) (.inl rfl) (fun b' u hb hu=>(Heap.get?_update_other s.heap (Obj.mapSeq f) (Ne.symm hb)).trans hu) ⟨_,q⟩ ?_;exact⟨hz,its',_,hv,q⟩
theorem Inv.lnew {its:List Value}{t':Nat}(I:Inv X pins σ H s)(hv:yq ys its)(hz:ys.length<=sizeLine) :
 Inv X pins σ (upd H s.heap.objs.size (.lst ys)) { s with heap:=s.heap.push { cls:=.type "list",data:=.seq its.toArray },toks:=t' } :=
 I.laid (fun _ _ q=>Zq _ q) (Zf _) ⟨hz,its,0,hv,Zr _ rfl⟩
theorem Inv.fresh (I:Inv X pins σ H s):H s.heap.objs.size=none:=I.hok.fresh (Zf _)
theorem Inv.lstM (I:Inv X pins σ H s)(hH:H l=some (.lst xs)):xs.length<=sizeLine/\∃(its:List Value) (n:Nat),yq xs its/\xs.length=its.length/\s.heap.get? l=some { cls:=.type "list",data:=.seq its.toArray n }:=by
 refine we (I.hok l _ hH) fun z zz=>zc2b zz fun its n r e=>?_;exact⟨z,its,n,r,r.length,e⟩
theorem notLongL {n:Nat}(h:n<=sizeLine):Builtin.List.listTooLong n=false:=by
 unfold Builtin.List.listTooLong;exact Zo (by omega)
end
section
variable {X:Cx}
def lH:V->List V->Hp->VK->Prop:=fun x vs H Q=>∃l xs y,x=.ref l/\vs=[y]/\H l=some (.lst xs)/\xs.length<sizeLine/\Q .non (upd H l (.lst (xs++[y])))
theorem ye:MtM X "list.append" lH:=by
 intro pins s σ H x vs v us Q I rx rv h;obtain⟨l,xs,y,rfl,rfl,hH,hz,q⟩:=h;cases rx;obtain⟨u,rfl,ru⟩:=rv.one;obtain⟨z,its,n,r,hl,e⟩:=I.lstM hH;refine call_meets F.slot_list_append ⟨_,e,rfl⟩ F.entry_list_append (F.args_list_append_2 _ _) (PySem.list_append l its.toArray n u (by rw[Zm];omega)) ⟨e,?_⟩;refine⟨.non,_,I.lset (its':=its++[u]) hH e (by simp -iota) (r.append (.cons ru .nil)) ?_,rfl,q⟩;rw[List.length_append,List.length_singleton];omega
def l6:V->List V->Hp->VK->Prop:=fun x vs H Q=>∃l b xs zs,x=.ref l/\vs=[.ref b]/\H l=some (.lst xs)/\H b=some (.lst zs)/\xs.length+zs.length<=sizeLine/\Q .non (upd H l (.lst (xs++zs)))
theorem mt_extend:MtM X "list.extend" l6:=by
 intro pins s σ H x vs v us Q I rx rv h;refine zc4a h fun l b xs zs zz=>yT zz fun zr4 zr5 hH hB zz=>we zz fun hz q=>?_;subst zr4;subst zr5;cases rx;refine zc1b rv.one fun u zr1 ru=>?_;subst zr1;cases ru;refine we (I.lstM hH) fun z zz=>zc2c zz fun its n r hl e=>?_;refine we (I.lstM hB) fun z2 zz=>zc2c zz fun its2 n2 r2 hl2 e2=>?_;have hsz:its.toArray.size+its2.toArray.size<=sizeLine:=by rw[Zm,Zm];omega
 have hlong:¬(!its.toArray.isEmpty&&Builtin.List.listTooLong (its.toArray.size+its2.toArray.size))=true:=by
  rw[notLongL hsz,Bool.and_false];exact Zj
 refine call_meets F.slot_list_extend ⟨_,e,rfl⟩ F.entry_list_extend (F.args_list_extend_2 _ _)
  (AutoSeq1.list_extend_list_list_0 l its.toArray n b its2.toArray n2 hlong (by rw[Zm];omega) (by omega)) ⟨e,e2,?_⟩
 refine⟨.non,_,I.lset (its':=its++its2) hH e (by simp -iota) (r.append r2) ?_,rfl,q⟩;rw[List.length_append];omega
end
section
variable {prog:Program}{w:World}{A:Around}{E:Value->Shared->Prop}{s:Shared}
set_option maxRecDepth 100000 in
end
section
variable {κ : Type}[DecidableEq κ]
noncomputable def sI (kvs:List (κ × V))(k:κ):Option V:=(kvs.find? fun kv=>decide (kv.1=k)).map (·.2)
noncomputable def re (kvs:List (κ × V))(k:κ)(v:V):List (κ × V) :=
 if(kvs.any fun kv=>decide (kv.1=k))=true then kvs.map (fun kv=>if kv.1=k then(kv.1,v) else kv) else kvs++[(k,v)]
theorem qc {p:κ × V}{r:List (κ × V)}{k:κ}(e:p.1=k):sI (p::r) k=some p.2:=by simp -iota [sI,List.find?_cons,e]
theorem qb {p:κ × V}{r:List (κ × V)}{k:κ}(e:¬p.1=k):sI (p::r) k=sI r k:=by simp -iota [sI,List.find?_cons,e]
theorem nu (k:κ):∀kvs:List (κ × V),(kvs.any fun kv=>decide (kv.1=k))=(sI kvs k).isSome
 | []=>rfl
 |p::r=>by
  rw[List.any_cons];by_cases e:p.1=k
  ·simp -iota only[qc e,Zp e,Bool.true_or,Option.isSome_some]
  ·rw[qb e,Zo e,Bool.false_or];exact nu k r
theorem wQ (kvs:List (κ × V))(k:κ)(v:V):(re kvs k v).length<=kvs.length+1:=by
 unfold re
 split
 ·rw[Zql];omega
 ·rw[List.length_append,Zu,ZB];omega
theorem mK.isSome_eq {o:Option V}{u:Option Value}(r:mK o u):o.isSome=u.isSome:=by
 cases o with
 |none=>cases u with
  |none=>rfl
  |some _=>exact(show False from r).elim
 |some _=>cases u with
  |none=>exact(show False from r).elim
  |some _=>rfl
theorem mK.getD {o:Option V}{u:Option Value}{d:V}{d':Value}(r:mK o u)(rd:yo d d'):yo (o.getD d) (u.getD d'):=by
 cases o with
 |none=>cases u with
  |none=>exact rd
  |some _=>exact(show False from r).elim
 |some _=>cases u with
  |none=>exact(show False from r).elim
  |some _=>exact r
theorem KV.val {kvs:List (κ × V)}{vs:List (κ × Value)}(r:KV kvs vs)(k:κ):mK (sI kvs k) (valueAt vs k):=by
 unfold KV at r
 induction r with
 |nil=>exact True.intro
 | @cons p q ps qs h t ih =>
  obtain⟨h1,h2⟩:=h;by_cases e:p.1=k
  ·have e':q.1=k:=h1.symm.trans e;have b:valueAt (q::qs) k=some q.2:=by simp -iota [valueAt,List.find?_cons,e']
   rw[qc e,b];exact h2
  ·have e':¬q.1=k:=fun z=>e (h1.trans z);have b:valueAt (q::qs) k=valueAt qs k:=by simp -iota [valueAt,List.find?_cons,e']
   rw[qb e,b];exact ih
theorem KV.any {kvs:List (κ × V)}{vs:List (κ × Value)}(r:KV kvs vs)(k:κ):(kvs.any fun kv=>decide (kv.1=k))=vs.any fun kv=>decide (kv.1=k):=by
 unfold KV at r
 induction r with
 |nil=>rfl
 |cons h t ih=>rw[List.any_cons,List.any_cons,ih,h.1]
theorem KV.repl {kvs:List (κ × V)}{vs:List (κ × Value)}(r:KV kvs vs)(k:κ){y:V}{u:Value}(ry:yo y u) :
 KV (kvs.map fun kv=>if kv.1=k then(kv.1,y) else kv) (vs.map fun kv=>if kv.1=k then(kv.1,u) else kv):=by
 unfold KV at r ⊢
 induction r with
 |nil=>exact .nil
 | @cons p q ps qs h t ih =>
  rw[Zl,Zl];refine .cons ?_ ih;obtain⟨h1,h2⟩:=h;by_cases e:p.1=k
  ·rw[Zd e,Zd (h1.symm.trans e)];exact⟨h1,ry⟩
  ·rw[Ze e,Ze (fun z=>e (h1.trans z))];exact⟨h1,h2⟩
theorem KV.put {kvs:List (κ × V)}{vs:List (κ × Value)}(r:KV kvs vs)(k:κ){y:V}{u:Value}(ry:yo y u):KV (re kvs k y) (stored vs k u):=by
 unfold re stored;rw[r.any k];by_cases e:(vs.any fun kv=>decide (kv.1=k))=true
 ·rw[Zd e,Zd e];exact r.repl k ry
 ·rw[Ze e,Ze e];exact Paired.snoc r ⟨rfl,ry⟩
theorem KV.length {kvs:List (κ × V)}{vs:List (κ × Value)}(r:KV kvs vs):kvs.length=vs.length:=Paired.length r
end
theorem m6 {P:Program}{w:World}{k:Key}{u:Value}(r:yo (kV k) u):(zS P w).is k u=true:=by
 cases k with
 |inl i=>obtain⟨t,e⟩:=(show ∃t,u=Value.int i t from r);subst e;exact mixKind_int P w i t
 |inr x=>obtain⟨t,e⟩:=(show ∃t,u=Value.str x t from r);subst e;exact mixKind_str P w x t
theorem pc {P:Program}{w:World}:∀{ks:List Key} {us:List Value},yq (ks.map kV) us->ItemsAre (zS P w) ks us
 | [],_,r=>by rw[List.map_nil] at r;cases r;exact .nil
 |k::ks,_,r=>by
  rw[Zl] at r;cases r with
  |cons h t=>exact .cons (m6 h) (pc t)
abbrev KT (H:Hp):List (List Key×V)->List (List Key×Addr×Value)->Prop:=Paired fun p q=>p.1=q.1/\H q.2.1=some (.tup (p.1.map kV))/\yo p.2 q.2.2
theorem KT.val {H:Hp}{kvs:List (List Key×V)}{xs:List (List Key×Addr×Value)}(r:KT H kvs xs)(k:List Key):mK (sI kvs k) ((atKey xs k).map (·.2)):=by
 induction r with
 |nil=>exact True.intro
 | @cons p q ps qs h t ih =>
  refine xm h fun h1 _ h2=>?_;by_cases e:p.1=k
  ·have e':q.1=k:=h1.symm.trans e;have b:atKey (q::qs) k=some q.2:=by simp -iota [atKey,List.find?_cons,e']
   rw[qc e,b];exact h2
  ·have e':¬q.1=k:=fun z=>e (h1.trans z);have b:atKey (q::qs) k=atKey qs k:=by simp -iota [atKey,List.find?_cons,e']
   rw[qb e,b];exact ih
theorem KT.repl {H:Hp}{kvs:List (List Key×V)}{xs:List (List Key×Addr×Value)}(r:KT H kvs xs)(k:List Key){y:V}{u:Value}(ry:yo y u) :
 KT H (kvs.map fun kv=>if kv.1=k then(kv.1,y) else kv) (xs.map (putAt k u)):=by
 induction r with
 |nil=>exact .nil
 | @cons p q ps qs h t ih =>
  rw[Zl,Zl];refine .cons ?_ ih;refine xm h fun h1 h2 h3=>?_;unfold putAt;by_cases e:p.1=k
  ·rw[Zd e,Zd (h1.symm.trans e)];exact⟨h1,h2,ry⟩
  ·rw[Ze e,Ze (fun z=>e (h1.trans z))];exact⟨h1,h2,h3⟩
theorem KT.put {H:Hp}{kvs:List (List Key×V)}{xs:List (List Key×Addr×Value)}(r:KT H kvs xs)(k:List Key){b:Addr}{y:V}{u:Value}(hb:H b=some (.tup (k.map kV)))(ry:yo y u) :
 KT H (re kvs k y) (storedH xs k b u):=by
 have e:(kvs.any fun kv=>decide (kv.1=k))=(atKey xs k).isSome:=by
  rw[nu,(r.val k).isSome_eq,Option.isSome_map]
 unfold re storedH;rw[e];by_cases q:(atKey xs k).isSome=true
 ·rw[Zd q,Zd q];exact r.repl k ry
 ·rw[Ze q,Ze q];exact Paired.snoc r ⟨rfl,hb,ry⟩
theorem KT.keeps {H H':Hp}{kvs:List (List Key×V)}{xs:List (List Key×Addr×Value)}(r:KT H kvs xs)(ht:∀b ys,H b=some (.tup ys)->H' b=some (.tup ys)):KT H' kvs xs :=
 Paired.mapP r fun _ _ z=>⟨z.1,ht _ _ z.2.1,z.2.2⟩
section
variable {P:Program}{w:World}{H:Hp}{h:Heap}{a:Addr}
theorem fI {u:HO}(ok:HOk P w H h)(e:Rd H a u):yj P w H h a u:=e.ok ok
theorem pj {kvs:List (Key×V)}(ok:HOk P w H h)(e:Rd H a (.dK kvs)):kvs.length<=sizeLine/\(a == sysModules)=false/\∃vs,KV kvs vs/\h.DictOf (zS P w) a vs :=
 show yj P w H h a (.dK kvs) from fI ok e
theorem iU {kvs:List (Key×V)}(ok:HOk P w H h)(e:H a=some (.dK kvs)):kvs.length<=sizeLine/\(a == sysModules)=false/\∃vs,KV kvs vs/\h.DictOf (zS P w) a vs:=pj ok (.inl e)
theorem rh {ks:List Key}(ok:HOk P w H h)(e:H a=some (.tup (ks.map kV))):(tupleKind (zS P w)).is h ks a:=by
 refine we ((show yj P w H h a (.tup (ks.map kV)) from ok a _ e)) fun _ zz=>zc1b zz fun its r zz=>zc1c zz fun o h1 h2 zz=>zc1a zz fun n h3=>?_;exact⟨o,its.toArray,n,h1,h2,h3,by simpa -iota using pc r⟩
theorem o8 {kvs:List (List Key×V)}(ok:HOk P w H h)(e:Rd H a (.dT kvs)):kvs.length<=sizeLine/\(a == sysModules)=false /\
 ∃xs,KT H kvs xs/\h.DictOfH (tupleKind (zS P w)) a xs:=by
 refine xm ((show yj P w H h a (.dT kvs) from fI ok e)) fun z y zz=>zc1b zz fun xs r zz=>zc3a zz fun o es ep zz=>yT zz fun h1 h2 h3 h4 h5=>?_;refine⟨z,y,xs,r,o,es,ep,h1,h2,h3,h4,fun x hx=>?_,h5⟩;have all:∀{l:List (List Key×V)} {m:List (List Key×Addr×Value)},KT H l m->∀x∈m,(tupleKind (zS P w)).is h x.1 x.2.1:=by
  intro l m q
  induction q with
  |nil=>intro x hx;exact nomatch hx
  | @cons p q ps qs hq t ih =>
   intro x hx;rcases List.mem_cons.mp hx with e|hx
   ·subst e;exact rh ok (by rw[<- hq.1];exact hq.2.1)
   ·exact ih x hx
 exact all r x hx
theorem dt_of {kvs:List (List Key×V)}(ok:HOk P w H h)(e:H a=some (.dT kvs)):kvs.length<=sizeLine/\(a == sysModules)=false /\
 ∃xs,KT H kvs xs/\h.DictOfH (tupleKind (zS P w)) a xs:=o8 ok (.inl e)
end
def oJ (H:Hp)(a:Addr)(y:V)(r:Option V):Prop :=
 (∃kvs k,Rd H a (.dK kvs)/\y=kV k/\r=sI kvs k)\/∃kvs k b,Rd H a (.dT kvs)/\y=.ref b/\H b=some (.tup (k.map kV))/\r=sI kvs k
def fO (H:Hp)(a:Addr)(y v:V)(H':Hp):Prop :=
 (∃kvs k,H a=some (.dK kvs)/\y=kV k/\kvs.length<sizeLine/\H'=upd H a (.dK (re kvs k v))) \/
 ∃kvs k b,H a=some (.dT kvs)/\y=.ref b/\H b=some (.tup (k.map kV))/\kvs.length<sizeLine/\H'=upd H a (.dT (re kvs k v))
theorem oJ.k {H:Hp}{a:Addr}{kvs:List (Key×V)}{k:Key}(e:H a=some (.dK kvs)):oJ H a (kV k) (sI kvs k):=.inl ⟨kvs,k,.inl e,rfl,rfl⟩
theorem fO.k {H:Hp}{a:Addr}{kvs:List (Key×V)}{k:Key}{v:V}(e:H a=some (.dK kvs))(hl:kvs.length<sizeLine):fO H a (kV k) v (upd H a (.dK (re kvs k v))):=.inl ⟨kvs,k,e,rfl,hl,rfl⟩
section
variable {X:Cx}{pins:List (Addr×Obj)}{σ : St}{H:Hp}{s:Shared}{a:Addr}{y v:V}{u r:Value}{o:Option V}{A:Around}{E:Value->Shared->Prop}
theorem Inv.big (I:Inv X pins σ H s):sysModules<s.heap.objs.size:=by
 have h:mainGlobals<s.heap.objs.size:=(I.mod.glob.keeps I.bk).lt;exact Nat.lt_trans (by decide) h
theorem d_getItem {Q:Value->Shared->Prop}(hu:A.units+1<cLine)(I:Inv X pins σ H s)(g:oJ H a y (some v))(ry:yo y u)(h:∀w' s',Inv X pins σ H s'->yo v w'->Q w' s') :
 wpAny (model X.prog X.w) A (getItem (.ref a) u) Q E s:=by
 rcases g with ⟨kvs,k,e,ey,l⟩|⟨kvs,k,b,e,ey,eb,l⟩
 ·subst ey;refine xm (pj I.hok e) fun z hd zz=>zc1b zz fun vs rel dd=>?_;refine zc1b (mK.some_of (v:=v) (o:=valueAt vs k) (by rw[l];exact rel.val k)) fun w' hw rw'=>?_;exact wpAny_getItem_of (m6 ry) dd.mapOf hw (h w' _ (I.tok _) rw')
 ·subst ey;cases (show u=Value.ref b from ry);refine xm (o8 I.hok e) fun z hd zz=>zc1b zz fun xs rel dd=>?_;refine zc1b (mK.some_of (v:=v) (o:=(atKey xs k).map (·.2)) (by rw[l];exact rel.val k)) fun w' hw rw'=>?_;refine zc1b (Option.map_eq_some_iff.mp hw) fun p hp hp2=>?_;refine wpAny_getItem_heap (tupleKind_room_in1 hu) (rh I.hok eb) dd hp ?_;rw[hp2];exact h w' _ (I.tok _) rw'
theorem d_in {Q:Value->Shared->Prop}(hu:A.units+1<cLine)(I:Inv X pins σ H s)(g:oJ H a y o)(ry:yo y u)(h:∀s',Inv X pins σ H s'->Q (.bool o.isSome) s') :
 wpAny (model X.prog X.w) A (compareOp .In u (.ref a)) Q E s:=by
 rcases g with ⟨kvs,k,e,ey,l⟩|⟨kvs,k,b,e,ey,eb,l⟩
 ·subst ey;refine xm (pj I.hok e) fun z hd zz=>zc1b zz fun vs rel dd=>?_;refine wpAny_in_of (m6 ry) hd dd.mapOf ?_;rw[<- (rel.val k).isSome_eq,<- l];exact h _ (I.tok _)
 ·subst ey;cases (show u=Value.ref b from ry);refine xm (o8 I.hok e) fun z hd zz=>zc1b zz fun xs rel dd=>?_;refine wpAny_in_heap (tupleKind_room_in1 hu) (rh I.hok eb) hd dd ?_;have q:=(rel.val k).isSome_eq;rw[Option.isSome_map] at q;rw[<- q,<- l];exact h _ (I.tok _)
theorem d_notIn {Q:Value->Shared->Prop}(hu:A.units+1<cLine)(I:Inv X pins σ H s)(g:oJ H a y o)(ry:yo y u)(h:∀s',Inv X pins σ H s'->Q (.bool (!o.isSome)) s') :
 wpAny (model X.prog X.w) A (compareOp .NotIn u (.ref a)) Q E s:=by
 rcases g with ⟨kvs,k,e,ey,l⟩|⟨kvs,k,b,e,ey,eb,l⟩
 ·subst ey;refine xm (pj I.hok e) fun z hd zz=>zc1b zz fun vs rel dd=>?_;refine wpAny_notIn_of (m6 ry) hd dd.mapOf ?_;rw[<- (rel.val k).isSome_eq,<- l];exact h _ (I.tok _)
 ·subst ey;cases (show u=Value.ref b from ry);refine xm (o8 I.hok e) fun z hd zz=>zc1b zz fun xs rel dd=>?_;refine wpAny_notIn_heap (tupleKind_room_in1 hu) (rh I.hok eb) hd dd ?_;have q:=(rel.val k).isSome_eq;rw[Option.isSome_map] at q;rw[<- q,<- l];exact h _ (I.tok _)
theorem kw {h':Heap}{t':Nat}{ob:HO}(I:Inv X pins σ H s)(mu:Mut (H a))(hs:Heap.SameBut a s.heap h')(he:∃q,h'.get? a=some q)(new:yj X.prog X.w (upd H a ob) h' a ob) :
 Inv X pins σ (upd H a ob) { s with heap:=h',toks:=t' } :=
 I.write (x:=a) (e:=a) mu (.inl rfl) (fun b q hb z=>(hs.2 b hb).trans z) he new
theorem iG {P:Program}{w:World}{H':Hp}{h':Heap}{kvs:List (Key×V)}{vs:List (Key×Value)}(z:kvs.length<=sizeLine)(hd:(a == sysModules)=false)(rel:KV kvs vs)(dd:h'.DictOf (zS P w) a vs) :
 yj P w H' h' a (.dK kvs):=⟨z,hd,vs,rel,dd⟩
theorem d_setItem {H':Hp}{Q:Unit->Shared->Prop}(hu:A.units+1<cLine)(I:Inv X pins σ H s)(g:fO H a y v H')(ry:yo y u)(rv:yo v r)(h:∀s',Inv X pins σ H' s'->Q () s') :
 wpAny (model X.prog X.w) A (setItem (.ref a) u r) Q E s:=by
 rcases g with ⟨kvs,k,e,ey,l,eH⟩|⟨kvs,k,b,e,ey,eb,l,eH⟩
 ·subst ey eH;refine xm (iU I.hok e) fun z hd zz=>zc1b zz fun vs rel dd=>?_;have hz:vs.length<=sizeLine:=by rw[<- rel.length];exact z
  have hl:(re kvs k v).length<=sizeLine:=by have:=wQ kvs k v;omega
  refine wpAny_setItem_pairs (hsz:=hz) (m6 ry) dd fun h' dd' hs=>h _ ?_;have he:∃q,h'.get? a=some q:=let ⟨q,_,_,hq,_⟩:=dd';⟨q,hq⟩
  exact kw I (by rw[e];exact True.intro) hs he (iG hl hd (rel.put k rv) dd')
 ·subst ey eH;cases (show u=Value.ref b from ry);refine xm (dt_of I.hok e) fun z hd zz=>zc1b zz fun xs rel dd=>?_;have hz:xs.length<=sizeLine:=by rw[<- Paired.length rel];exact z
  have hl:(re kvs k v).length<=sizeLine:=by have:=wQ kvs k v;omega
  refine wpAny_setItem_heap (hsz:=hz) (tupleKind_room_in1 hu) (rh I.hok eb) dd fun h' dd' hs=>h _ ?_;refine zc3a dd' fun q es ep zz=>yT zz fun hq h2 h3 h4 zz=>we zz fun _ h5=>?_;refine kw I (by rw[e];exact True.intro) hs ⟨q,hq⟩ ⟨hl,hd,_,(rel.put k eb rv).keeps fun c ys ec=>?_,q,es,ep,hq,h2,h3,h4,h5⟩;rw[zC (ne_of ec e (fun z=>nomatch z))];exact ec
end
section
variable {X:Cx}{pins:List (Addr×Obj)}{σ : St}{H:Hp}{s:Shared}{a:Addr}{kvs:List (Key×V)}{k:Key}{u:Value}{A:Around}{E:Value->Shared->Prop}
theorem d_len {Q:Value->Shared->Prop}(I:Inv X pins σ H s)(e:Rd H a (.dK kvs))(h:∀t s',Inv X pins σ H s'->Q (.int kvs.length t) s'):wpAny (model X.prog X.w) A (call (.builtin "len") [.ref a]) Q E s:=by
 obtain⟨z,hd,vs,rel,dd⟩:=pj I.hok e;refine call_len_dict hd dd (by rw[<- rel.length];rw[sizeLine_eq] at z;omega) ?_;rw[<- rel.length];exact h _ _ (I.tok _)
end
noncomputable def fT (i:Expr):Prop:=∀ov iv,subscripted i false ov iv=operate [ov,iv] (getItem ov iv)
theorem subD_of {prog:Program}{w:World}{A:Around}{E:Value->Shared->Prop}{s:Shared}{env:Env}{value slice:Expr}{pos:Pos}{T id:String}{Q:Value->Shared->Prop}
 (hl:typeLookup (.type T) "__getitem__" = pure (some (.builtin id))) (hs:fT slice)
 (h:wpAny (model prog w) A (eval value env) (fun o s₁=>wpAny (model prog w) A (eval slice env) (fun i s₂=>s₂.TypeIs o T/\wpAny (model prog w) A (getItem o i) Q E s₂) E s₁) E s) :
 wpAny (model prog w) A (eval (.Subscript value slice pos) env) Q E s:=by
 refine Subscript_ (Zc h (fun o s₁ h₁=>Zc h₁ (fun i s₂ h₂=>?_) fun _ _ x=>x) fun _ _ x=>x);obtain⟨hT,h₂⟩:=h₂;unfold subscriptTail;refine Za ?_;rw[getitemInPython_of_ne hT.not_modules];refine Za (wpAny_specialOf hT hl ?_);have fin:wpAny (model prog w) A (subscripted slice false o i) (fun r s₃=>wpAny (model prog w) A (letTemporaryGo value o r >>= fun _=>pure r) Q E s₃) E s₂:=by
  rw[hs o i];exact wpAny_operating (Zc h₂ (fun r s₃ h₃=>Za (wpAny_letTemporaryGo (Zb h₃))) fun _ _ x=>x)
 first
  |exact Zb (Za fin)
  |exact Za (Zb (Za fin))
  |exact Za fin
theorem dict_typeIs {X:Cx}{pins:List (Addr×Obj)}{σ : St}{H:Hp}{s:Shared}{a:Addr}{y:V}{o:Option V}(I:Inv X pins σ H s)(g:oJ H a y o):s.TypeIs (.ref a) "dict" := by
 rcases g with ⟨kvs,k,e,_,_⟩|⟨kvs,k,b,e,_,_,_⟩
 ·refine xm (pj I.hok e) fun _ _ zz=>zc1b zz fun vs _ dd=>?_;exact dd.typeIs
 ·refine xm (o8 I.hok e) fun _ _ zz=>zc1b zz fun xs _ dd=>?_;exact dd.typeIs
def tDGet (td ty:TE):TE:=fun σ H Q=>td σ H fun x H1=>ty σ H1 fun y H2=>∃a v,x=.ref a/\oJ H2 a y (some v)/\Q v H2
def tDIn (ty td:TE):TE:=fun σ H Q=>ty σ H fun y H1=>td σ H1 fun x H2=>∃a o,x=.ref a/\oJ H2 a y o/\Q (.bl o.isSome) H2
def tDNotIn (ty td:TE):TE:=fun σ H Q=>ty σ H fun y H1=>td σ H1 fun x H2=>∃a o,x=.ref a/\oJ H2 a y o/\Q (.bl (!o.isSome)) H2
def sDPut (td ty tv:TE):TS:=fun D σ H=>tv σ H fun v H1=>td σ H1 fun x H2=>ty σ H2 fun y H3=>∃a H4,x=.ref a/\fO H3 a y v H4/\D.nx σ H4
section
variable {X:Cx}{o i e value:Expr}{pos pos' tpos:Pos}{td ty tv:TE}
theorem kN (hu:X.A.units+1<cLine)(ho:PE X o td)(hi:PE X i ty)(hs:fT i):PE X (.Subscript o i pos) (tDGet td ty):=by
 intro pins s σ H Q I h;refine subD_of PySem.F.slot_dict_getitem.lookup hs (thn (ho pins s σ H _ I h) fun u s1 ⟨x,H1,I1,rx,q1⟩=>thn (hi pins s1 σ H1 _ I1 q1) fun iv s2 zh=>?_);refine zc2c zh fun y H2 I2 ry zz=>zc2c zz fun a v ex g q2=>?_;subst ex;obtain rfl:u=Value.ref a:=rx;exact⟨dict_typeIs I2 g,d_getItem hu I2 g ry fun w' s3 I3 rw'=>⟨v,H2,I3,rw',q2⟩⟩
theorem pc_din (hu:X.A.units+1<cLine)(hi:PE X i ty)(ho:PE X o td):PC X .In i o (tDIn ty td):=by
 intro pins s σ H Q I h;refine thn (hi pins s σ H _ I h) fun iv s1 ⟨y,H1,I1,ry,q1⟩=>thn (ho pins s1 σ H1 _ I1 q1) fun u s2 zh=>?_;refine zc2c zh fun x H2 I2 rx zz=>zc2c zz fun a ov ex g q2=>?_;subst ex;obtain rfl:u=Value.ref a:=rx;exact d_in hu I2 g ry fun s3 I3=>⟨.bl ov.isSome,H2,I3,rfl,q2⟩
theorem pc_dnotin (hu:X.A.units+1<cLine)(hi:PE X i ty)(ho:PE X o td):PC X .NotIn i o (tDNotIn ty td):=by
 intro pins s σ H Q I h;refine thn (hi pins s σ H _ I h) fun iv s1 ⟨y,H1,I1,ry,q1⟩=>thn (ho pins s1 σ H1 _ I1 q1) fun u s2 zh=>?_;refine zc2c zh fun x H2 I2 rx zz=>zc2c zz fun a ov ex g q2=>?_;subst ex;obtain rfl:u=Value.ref a:=rx;exact d_notIn hu I2 g ry fun s3 I3=>⟨.bl (!ov.isSome),H2,I3,rfl,q2⟩
theorem ps_dput (hu:X.A.units+1<cLine)(ho:PE X o td)(hi:PE X i ty)(hv:PE X value tv)(hs:swapsWith value (some (.Subscript o i pos')) pos.line X.env=pure false) :
 PS X (.Assign [.Subscript o i pos'] value pos) (sDPut td ty tv):=by
 intro pins s σ H D I h;refine wpAny_Assign_Subscript (thn (hv pins s σ H _ I h) fun r s1 ⟨v,H1,I1,rv,q1⟩=>thn (ho pins s1 σ H1 _ I1 q1) fun u s2 ⟨x,H2,I2,rx,q2⟩=>thn (hi pins s2 σ H2 _ I2 q2) fun iv s3 ⟨y,H3,I3,ry,a,H4,ex,g,q3⟩=>?_) hs;subst ex;obtain rfl:u=Value.ref a:=rx;exact d_setItem hu I3 g ry rv fun s4 I4=>⟨σ,H4,I4,q3⟩
end
def tS (kvs more:List (Key×V)):List (Key×V):=more.foldl (fun acc kv=>re acc kv.1 kv.2) kvs
theorem KV.merge:∀{more:List (Key×V)} {rs:List (Key×Value)} {kvs:List (Key×V)} {vs:List (Key×Value)},KV more rs->KV kvs vs->KV (tS kvs more) (merged vs rs):=by
 intro more rs kvs vs r;unfold KV at r
 induction r generalizing kvs vs with
 |nil=>intro q;exact q
 | @cons p q ps qs h t ih =>
  intro r0;have e:KV (re kvs p.1 p.2) (stored vs q.1 q.2):=by
   have:=r0.put p.1 h.2;rw[<- h.1];exact this
  exact ih e
theorem vb:∀(more kvs:List (Key×V)),(tS kvs more).length<=kvs.length+more.length
 | [],kvs=>by show kvs.length<=kvs.length+0;omega
 |p::r,kvs=>by
  have h1:=vb r (re kvs p.1 p.2);have h2:=wQ kvs p.1 p.2;show(tS (re kvs p.1 p.2) r).length<=_;rw[Zu];omega
structure M2 (X:Cx)(o:Expr)(m:Str)(apos:Pos)(e f:Expr)(cpos:Pos):Prop where
 base:attributeBase o m X.env (eval o X.env)=eval o X.env
 few:((backTo cpos (starEach [e,f] X.env)).all (fun x => !x.1)&&(backToKw cpos (keywordEach [] X.env)).all (fun x=>x.1.isSome)
  && decide (([e,f]:List Expr).length+([]:List Keyword).length+(if([]:List Keyword).isEmpty then 0 else 1)<30))=true
 line:(apos.endLine == cpos.line)=true
 trees:backTo cpos (starEach [e,f] X.env)=[(false,eval e X.env),(false,eval f X.env)]
noncomputable def IsD (H:Hp)(a:Addr):Prop:=(∃kvs,Rd H a (.dK kvs))\/∃kvs,Rd H a (.dT kvs)
theorem isD_at {X:Cx}{pins:List (Addr×Obj)}{σ : St}{H:Hp}{s:Shared}{a:Addr}(I:Inv X pins σ H s)(d:IsD H a) :
 s.TypeIs (.ref a) "dict" /\ (∀b,Value.ref a=.ref b->∃ob,s.heap.get? b=some ob/\ob.dict=none)/\(a == sysModules)=false:=by
 rcases d with ⟨kvs,e⟩|⟨kvs,e⟩
 ·refine xm (pj I.hok e) fun _ hd zz=>zc1b zz fun vs _ dd=>?_;refine⟨dd.typeIs,fun b q=>?_,hd⟩;cases q;refine zc3c dd fun ob _ _ h1 h2 _=>?_;exact⟨ob,h1,h2.2.1⟩
 ·refine xm (o8 I.hok e) fun _ hd zz=>zc1b zz fun xs _ dd=>?_;refine⟨dd.typeIs,fun b q=>?_,hd⟩;cases q;refine zc3c dd fun ob _ _ h1 h2 _=>?_;exact⟨ob,h1,h2.2.1⟩
section
variable {X:Cx}{pins:List (Addr×Obj)}{σ : St}{H:Hp}{s:Shared}{a:Addr}{y d:V}{u r:Value}{o:Option V}{A:Around}{E:Value->Shared->Prop}
theorem d_get2 {Q:Value->Shared->Prop}(hu:A.units+1<cLine)(I:Inv X pins σ H s)(g:oJ H a y o)(ry:yo y u)(rd:yo d r)(h:∀w' s',Inv X pins σ H s'->yo (o.getD d) w'->Q w' s') :
 wpAny (model X.prog X.w) A (call (.builtin "dict.get") [.ref a,u,r]) Q E s:=by
 rcases g with ⟨kvs,k,e,ey,l⟩|⟨kvs,k,b,e,ey,eb,l⟩
 ·subst ey;refine xm (pj I.hok e) fun z hd zz=>zc1b zz fun vs rel dd=>?_;refine call_meetsIn PySem.F.slot_dict_get dd.typeIs PySem.F.entry_dict_get (PySem.F.args_dict_get_3 _ _ _) (meets_dict_get_default (zS X.prog X.w) a (m6 ry) hd r) ⟨_,dd.mapOf,h _ _ (I.tok _) ?_⟩;rw[l];exact(rel.val k).getD rd
 ·subst ey;cases (show u=Value.ref b from ry);refine xm (o8 I.hok e) fun z hd zz=>zc1b zz fun xs rel dd=>?_;refine call_meetsIn PySem.F.slot_dict_get dd.typeIs PySem.F.entry_dict_get (PySem.F.args_dict_get_3 _ _ _) (meetsH_dict_get_default (tupleKind (zS X.prog X.w)) a b hd r) ⟨tupleKind_room_in1 hu,k,xs,rh I.hok eb,dd,h _ _ (I.tok _) ?_⟩;rw[l];exact(rel.val k).getD rd
end
def tDGet2 (td ty tx:TE):TE:=fun σ H Q=>td σ H fun x H1=>∃a,x=.ref a/\IsD H1 a/\ty σ H1 fun y H2=>tx σ H2 fun z H3=>∃o,oJ H3 a y o/\Q (o.getD z) H3
section
variable {X:Cx}{o e f:Expr}{apos cpos:Pos}{td ty tx:TE}
theorem pe_dget2 (hu:X.A.units+1<cLine)(ho:PE X o td)(he:PE X e ty)(hf:PE X f tx)(m:M2 X o "get" apos e f cpos):PE X (.Call (.Attribute o "get" apos) [e,f] [] cpos) (tDGet2 td ty tx):=by
 intro pins s σ H Q I h;refine wpAny_Call_method m.base m.few m.line PySem.F.plainAttrs_dict PySem.F.slot_dict_get PySem.F.type_dict_get (thn (ho pins s σ H _ I h) fun u s1 zh=>?_);refine zc2c zh fun x H1 I1 rx zz=>zc1c zz fun a ex d q1=>?_;subst ex;obtain rfl:u=Value.ref a:=rx;refine xm (isD_at I1 d) fun t1 t2 _=>?_;refine⟨t1,t2,?_⟩;rw[m.trees];refine Calls.callWith_builtin rfl (Calls.evalArgs_plain (Calls.spliced_cons (thn (he pins s1 σ H1 _ I1 q1) fun iv s2 ⟨y,H2,I2,ry,q2⟩ =>
  Calls.spliced_cons (thn (hf pins s2 σ H2 _ I2 q2) fun fv s3 ⟨z,H3,I3,rz,ov,g,q3⟩=>Calls.spliced_nil ?_))))
 exact d_get2 hu I3 g ry rz fun w' s4 I4 rw'=>⟨_,H3,I4,rw',q3⟩
end
end L2
namespace Att
open PySem PySem.W PySem.Calls PyProof.Rows
theorem ints_of_wellAll {P:Params}{h:Heap}:∀(ns:List Int) (vs:List Value),WellAll P h vs (ns.map WData.int)->IntsAre vs ns:=by
 intro ns
 induction ns with
 |nil =>
  intro vs w;rw[List.map_nil] at w;cases w;exact .nil
 |cons n ns ih =>
  intro vs w;rw[Zl] at w;cases w with
  |cons a b =>
   cases a;exact .cons _ _ (ih _ b)
theorem script_of {l:OpenLaw}{n:Nat}(hn:l.most=some n){P:Params}{h:Heap}{args:List WData}{vals:List Value}
 (hpre:l.row.toRowW.claim.pre args=true) (hwl:WellAll P h vals args) :
 ∃a vs ns,vals=[Value.ref a]/\args=[WData.list (ns.map WData.int)]/\h.get? a=some { cls:=.type "list",data:=.seq vs.toArray }/\IntsAre vs ns/\ns.length<=n:=by
 have hsh:WShape.hasAll [] args [.list .int]=true:=(pre_splitW hpre).1;have hc:l.pre.holds [] { args:=args }=true:=(pre_splitW hpre).2;refine zc2c (hasAllW_cons hsh) fun d r zr2 h1 h2=>?_;subst zr2;obtain rfl:=hasAllW_nil h2;refine zc1b (hasW_list h1) fun xs zr1 h3=>?_;subst zr1;obtain⟨ns,rfl⟩:=items_int h3;have hlen:ns.length<=n:=by
  unfold OpenLaw.pre at hc;have h4:(WTm.not (.lt (.lit (.int (n:Int))) (.len (.arg 0)))).holds [] { args:=[.list (ns.map .int)] }=true:=by
   have h4:=(holds_andW hc).1;rw[hn] at h4;exact h4
  have h5:=condW_of h4 (w_not (w_lt w_lit (w_len_list (w_arg rfl))));rw[Zql] at h5;refine Nat.le_of_not_lt fun q=>?_;have q':(n:Int)<((ns.length:Nat):Int):=by omega
  first
   | (rw[Zp q'] at h5;exact Zn h5 (by decide))
   | (simp -iota at h5;omega)
 cases hwl with
 |cons w1 w2 =>
  cases w2;cases w1 with
  |list ho hall=>exact⟨_,_,ns,rfl,rfl,ho,ints_of_wellAll ns _ hall,hlen⟩
theorem post_true (l:OpenLaw)(args:List WData):l.row.toRowW.claim.post args (.bool true) args=true :=
 postW_of (r:=l.row.toRowW) (X:=(true == true))
  (show WShape.has [] (.bool true) .bool=true by first|rfl|decide|simp -iota [WShape.has,WShape.arms,WShape.armsAll])
  (show(WTm.eq .res (.lit (.bool true))).value [] { args:=args,res:=some (.bool true),after:=args }=some (.bool (true == true)) from w_eq_bool (w_res rfl) w_lit) rfl
theorem attach_call {l:OpenLaw}{n:Nat}{q:Program}{loose:List Str}{XP:(Str->Option Value)->Heap->Prop}{YP:World->Heap->Prop}{d:DefRec}
 (hn:l.most=some n) (hdf:d.params.defaults=[])
 (call:∀(w:World) (s₀ s₁:Shared) (mg mb:Str->Option Value) (fa:Addr) (o:Obj) (pm cd doc:Value) (a:Addr) (vs:List Value) (ns:List Int),
  Ground q loose [] XP w s₀ mg mb s₁.heap->YP w s₁.heap ->
  s₁.heap.get? fa=some o->o.data=.func (docDef d.name d.params d.body d.scope pm cd doc)->s₁.heap.CodeRec cd d.name->mg d.name=some (.ref fa) ->
  s₁.heap.get? a=some { cls:=.type "list",data:=.seq vs.toArray }->IntsAre vs ns->ns.length<=n->s₁.gens = #[] ->
  codeAny (model l.prog w) callerA (.call (.ref fa) ⟨[.ref a],[]⟩) (fun r s'=>r=.ok (.ret (.bool true))/\OldK s₁.heap s'.heap/\s'.os=s₁.os/\AllBare s'.gens) s₁) :
 WalkO q loose XP YP l.row.toRowW d [] (fun f vs=>PySem.call f vs):=by
 intro w s₀ s₁ mg mb G Y fa o pm cd doc dV kV ho hd hcd hD hmg hg args vals as hpre hlay hrd hwl hlo;obtain rfl:dV=.none:=Dflts.none hD hdf;obtain rfl:kV=.none:=Dflts.noKw hD;refine zc3a (script_of hn hpre hwl) fun a vs ns zz=>yT zz fun zr3 zr4 hobj hints hlen=>?_;subst zr3;subst zr4;refine enter_call (codeAny_mono (call w s₀ s₁ mg mb fa o pm cd doc a vs ns G Y ho (fd_plain hd) hcd hmg hobj hints hlen hg) fun r s' hq=>?_);refine qD hq fun zr0 h2 h3 h4=>?_;subst zr0;exact⟨.inl ⟨.bool true,.bool true,[],rfl,fun _=>rfl,.bool true,post_true l _,fun _=>⟨List.Pairwise.nil,fun _ hm=>(nomatch hm)⟩⟩,h2,h3,h4⟩
end Att
namespace L2
theorem vals_ints:∀{vs:List Value} {ns:List Int},IntsAre vs ns->yq (ns.map V.int) vs:=fun h=>by
 induction h with
 |nil=>exact .nil
 |cons n t _ ih=>exact .cons ⟨t,rfl⟩ ih
noncomputable def eO (H:Hp):Prop:=∀b,H b=none\/∃o xs,H b=some (.frz o (.lst xs))
theorem law_call {P:Program}{w:World}{K:W.Frag}{mg mb:Str->Option Value}{CX:CXT}{k:Nat}{fa a:Addr}{fd:FuncData}{x:Str}{sp:Sp}{s₁:Shared}{vs:List Value}{ns:List Int}
 (KX:K.In s₁.heap) (hns:s₁.heap.Ns mainGlobals mg) (hb:s₁.heap.Ns builtinsNs mb) (hbb:∀x:Str,x ≠ "__name__" -> mb x=bootBuiltins x) (hlim:s₁.heap.NoLimit) (hg:s₁.gens = #[])
 (ha:s₁.heap.get? a=some { cls:=.type "list",data:=.seq vs.toArray }) (hi:IntsAre vs ns) (hl:ns.length<=sizeLine) (hr:Room k callerA)
 (F:∀base:Heap,K.In base->base.Ns mainGlobals mg->FnOk P w K mg base CX k fa fd [x] sp) (hbind:∀(s:Shared) (u:Value),BindsTo s fd ⟨[u],[]⟩ [(x,u)])
 (hsp:∀H:Hp,eO H->SqL K H a (ns.map V.int)->sp [.ref a] H (fun v _=>v=.bl true) fun _ _ _=>False)
 (hCX:∀H e s',CX [] H s₁ (fun _ _ _=>False) e s'->False) :
 codeAny (model P w) callerA (.call (.ref fa) ⟨[.ref a],[]⟩) (fun r s'=>r=.ok (.ret (.bool true))/\OldK s₁.heap s'.heap/\s'.os=s₁.os/\AllBare s'.gens) s₁:=by
 have rv:=vals_ints hi;have lenV:=hi.length;have core:∀H:Hp,eO H->SqL K H a (ns.map V.int)->HOk P w H s₁.heap->(∀b,H b≠none->b=a)->(H a≠none->K.lookup a=none) ->
  codeAny (model P w) callerA (.call (.ref fa) ⟨[.ref a],[]⟩) (fun r s'=>r=.ok (.ret (.bool true))/\OldK s₁.heap s'.heap/\s'.os=s₁.os/\AllBare s'.gens) s₁:=by
  intro H hO hS hok hA hK;have base_of:∀{b:Addr} {o:Obj},s₁.heap.get? b=some o->H b=none->(jI s₁.heap H).get? b=some o:=fun e n=>hidT_get e n;have noA:∀{b:Addr} {o:Obj} {es:Array DictEntry} {ep:Nat},s₁.heap.get? b=some o->o.data=.dict es ep->H b=none:=fun {b o es ep} e d=>by
   cases q:H b with
   |none=>rfl
   |some u =>
    have e':b=a:=hA b (by rw[q];simp -iota);subst e';rw[ha] at e;cases e;have d':Data.seq vs.toArray _=Data.dict es ep:=d;cases d'
  have nsK:∀{b:Addr} {m:Str->Option Value},s₁.heap.Ns b m->(jI s₁.heap H).Ns b m:=fun {b m} ⟨o,es,ep,e,d,r⟩=>⟨o,es,ep,base_of e (noA e d),d,r⟩;have hKb:K.In (jI s₁.heap H):=fun b o e=>base_of (KX b o e) (by
   cases q:H b with
   |none=>rfl
   |some u =>
    have e':b=a:=hA b (by rw[q];simp -iota);subst e';rw[hK (by rw[q];simp -iota)] at e;cases e)
  have hM:Mod K mg (jI s₁.heap H):=⟨hKb,nsK hns,⟨mb,nsK hb,hbb⟩,let ⟨mc,h1,h2⟩:=hlim;⟨mc,nsK h1,h2⟩⟩;have e0:Env0 P w K mg (jI s₁.heap H) callerA [] s₁ H:=⟨rfl,hM,fun b o e=>of_hidT e,Nat.le_of_eq (hidT_size _ _),trivial,fun b hb=>Zn (show b∈([]:List Addr) from hb) (by simp -iota),hok,.of_eq hg⟩;refine codeAny_mono ((F _ hKb (nsK hns)).run callerA [] s₁ H ⟨[.ref a],[]⟩ [.ref a] [.ref a] _ _ hr e0 (hbind s₁ (.ref a)) (.cons rfl .nil) (hsp H hO hS)) fun r s' h=>?_;cases r with
  |error e=>exact(hCX H e s' h).elim
  |ok fl =>
   cases fl with
   |next=>exact False.elim h
   |brk=>exact False.elim h
   |cont=>exact False.elim h
   |ret u =>
    refine zc2a h fun v H' zz=>yT zz fun os bare un hok' zz=>we zz fun r' q=>?_;have q':v=.bl true:=q;subst q';obtain rfl:u=Value.bool true:=r';refine⟨rfl,OldK.of_keep fun b o e=>?_,os,bare⟩;cases q:H b with
    |none=>exact un.keep b o e q (by intro z;exact Zn (show b∈([]:List Addr) from z) (by simp -iota)) (by simp -iota)
    |some u =>
     rcases hO b with z|⟨ob,xs,z⟩
     ·rw[q] at z;cases z
     ·have z2:=un.frzs b ob _ z;obtain⟨e1,_⟩:=hok b _ z;obtain⟨e2,_⟩:=hok' b _ z2;rw[e] at e1;cases e1;exact e2
 cases hk:K.lookup a with
 |some o =>
  have e:=KX a o hk;rw[ha] at e;cases e;refine core (fun _=>none) (fun _=>.inl rfl) (.inr ⟨_,vs.toArray,_,hk,rfl,rfl,rfl,by rw[Zm,lenV];exact hl,by simpa -iota using rv⟩) (fun b u z=>by have z':(none:Option HO)=some u:=z;cases z') (fun b z=>Zn rfl z) fun z=>Zn rfl z
 |none =>
  refine core (fun b=>if b=a then some (.frz { cls:=.type "list",data:=.seq vs.toArray } (.lst (ns.map V.int))) else none) (fun b=>?_) (.inl (.inr ⟨{ cls:=.type "list",data:=.seq vs.toArray },Zd rfl⟩)) (fun b u z=>?_) (fun b z=>?_) fun _=>hk
  ·by_cases hb:b=a
   ·exact .inr ⟨_,_,Zd hb⟩
   ·exact .inl (Ze hb)
  ·by_cases hb:b=a
   ·have z':=(Zd hb).symm.trans z;cases z';subst hb;exact⟨ha,by rw[Zql];exact hl,vs,_,rv,ha⟩
   ·have z':=(Ze hb).symm.trans z;cases z'
  ·by_cases hb:b=a
   ·exact hb
   ·exact Zn (Ze hb) z
theorem walk_of {l:W.OpenLaw}{n k:Nat}{q:Program}{loose:List Str}{XP:(Str->Option Value)->Heap->Prop}{YP:World->Heap->Prop}{d:DefRec}{K:Params->W.Frag}{CX:World->CXT}{sp:World->Sp}{x:Str}
 (hn:l.most=some n) (hn2:n<=sizeLine) (hdf:d.params.defaults=[]) (hr:Room k callerA)
 (hY:∀(w:World) (h:Heap),YP w h->(K w.params).In h)
 (F:∀(w:World) (mg:Str->Option Value) (fa:Addr) (h:Heap),(K w.params).In h->h.Ns mainGlobals mg->mg d.name=some (.ref fa) ->
  ∃fd:FuncData,(∀(s:Shared) (u:Value),BindsTo s fd ⟨[u],[]⟩ [(x,u)]) /\
   ∀base:Heap,(K w.params).In base->base.Ns mainGlobals mg->FnOk l.prog w (K w.params) mg base (CX w) k fa fd [x] (sp w))
 (hsp:∀(w:World) (H:Hp) (a:Addr) (ns:List Int),ns.length<=n->eO H->SqL (K w.params) H a (ns.map V.int)->sp w [.ref a] H (fun v _=>v=.bl true) fun _ _ _=>False)
 (hCX:∀(w:World) (H:Hp) (s:Shared) (e:Value) (s':Shared),CX w [] H s (fun _ _ _=>False) e s'->False) :
 W.WalkO q loose XP YP l.row.toRowW d [] (fun f vs=>PySem.call f vs):=by
 refine Att.attach_call hn hdf fun w s₀ s₁ mg mb fa o pm cd doc a vs ns G Y ho hd hcd hmg hobj hints hlen hg=>?_;have KX:=hY w _ Y;refine zc1b (F w mg fa _ KX G.T.g hmg) fun fd hb hF=>?_;exact law_call KX G.T.g G.T.b G.T.builtins G.T.nolimit hg hobj hints (Zh hlen hn2) hr hF hb (fun H hO hS=>hsp w H a ns hlen hO hS) fun H e s'=>hCX w H s₁ e s'
noncomputable def vE (s:Stmt):Arguments:=match s with
 | .FunctionDef _ a _ _ _ _ _ _ _ _=>a
 |_=>{ posonlyargs:=[],args:=[],vararg:=none,kwonlyargs:=[],kw_defaults:=[],kwarg:=none,defaults:=[] }
noncomputable def xf (s:Stmt):List Stmt:=match s with
 | .FunctionDef _ _ b _ _ _ _ _ _ _=>b
 |_=>[]
noncomputable def zj (s:Stmt):Scope:=match s with
 | .FunctionDef _ _ _ _ _ _ sc _ _ _=>sc
 |_=>{ kind:=.function,names:=[],isGenerator:=false,isCoroutine:=false }
abbrev CX0:CXT:=fun _ _ _ _ _ _=>False
abbrev E0:XK:=fun _ _ _=>False
theorem pass0 {X:Cx}:oU CX0 X E0:=fun _ _ _ _ _ _ _ h=>h.elim
structure Fun (K:W.Frag)(x qual:Str)(st:Stmt)(f:Addr)(fd:FuncData):Prop where
 ex:∃(oc:Value) (od:Option Addr) (kV doc pm:Value) (an:Option Addr) (cdv ct:Value) (osl:Array (Option Value)),
  fd=W.fnOf x qual (vE st) (xf st) (zj st) .none kV doc pm an cdv ct/\K.lookup f=some ⟨oc,od,.func fd,osl⟩/\W.codeIn K cdv qual=true
 kp:W.keepIn K (.ref f)=true
section
variable {P:Program}{w:World}{K:W.Frag}{mg:Str->Option Value}{base:Heap}
theorem Fun.ok {x qual:Str}{st:Stmt}{f:Addr}{fd:FuncData}{N ps:List Str}{k:Nat}{sp:Sp}(F:Fun K x qual st f fd)(S:FnScope N ps (zj st))(len:∀vs H Q E,sp vs H Q E->vs.length=ps.length)
 (hbody:∀(cdv:Value) (A:Around) (outer:List Env) (s:Shared) (H:Hp) (vs:List V) (Q:VK) (E:XK),Room k (A.deeper (envOfC qual (zj st) s.heap.objs.size f cdv))->sp vs H Q E ->
  ∃t,PSs (sR CX0 P w K mg base N qual (zj st) f cdv A outer s H E).nox (xf st) t/\t { nx:=fun _ H'=>Q .non H',rt:=Q } (start N vs) H):FnOk P w K mg base CX0 (k+1) f fd ps sp:=by
 refine zc4a F.ex fun oc od kV doc zz=>zc4a zz fun pm an cdv ct zz=>zc1c zz fun osl zr9 lk hcd=>?_;subst zr9;refine gS lk hcd S len fun A outer s H vs Q E hr hsp=>?_;refine zc1b (hbody cdv A outer s H vs Q E hr hsp) fun t h q=>?_;exact⟨t,h.nox,q⟩
theorem Fun.binds {x qual:Str}{st:Stmt}{f:Addr}{fd:FuncData}{ps:List Str}(F:Fun K x qual st f fd)
 (h:∀(kV doc pm:Value) (an:Option Addr) (cdv ct:Value) (us:List Value),us.length=ps.length->bindArgs (W.fnOf x qual (vE st) (xf st) (zj st) .none kV doc pm an cdv ct) ⟨us,[]⟩=pure (ps.zip us)):qU K fd ps []:=by
 refine zc4a F.ex fun oc od kV doc zz=>zc4a zz fun pm an cdv ct zz=>zc1c zz fun osl zr9 lk hcd=>?_;subst zr9;exact .all (h kV doc pm an cdv ct)
theorem fun_mk {x qual:Str}{st:Stmt}{f:Addr}{oc:Value}{od an:Option Addr}{osl:Array (Option Value)}{kV doc pm cdv ct:Value}(l:K.lookup f=some ⟨oc,od,.func (W.fnOf x qual (vE st) (xf st) (zj st) .none kV doc pm an cdv ct),osl⟩)
 (c:W.codeIn K cdv qual=true) (k:W.keepIn K (.ref f)=true):Fun K x qual st f (W.fnOf x qual (vE st) (xf st) (zj st) .none kV doc pm an cdv ct):=⟨⟨oc,od,kV,doc,pm,an,cdv,ct,osl,rfl,l,c⟩,k⟩
end
theorem yV {A:Around}{k:Nat}(hr:Room k A):A.units+1<cLine:=Nat.lt_of_le_of_lt (Nat.add_le_add_left (by decide:1<=64) _) hr.units
theorem qZ {n:Nat}(h:n<=1000):n<sizeLine:=Nat.lt_of_le_of_lt h (by decide)
section
variable {X:Cx}
theorem pv (i:Nat){x:Str}{pos:Pos}(hN:autoParam (X.N[i]? = some x) zau._auto_1)(hv:Vis X.env.scope x:=by first|exact Or.inl rfl|exact Or.inr (Or.inl rfl)|exact Or.inr (Or.inr rfl))(hd:(x == ("__debug__" : Str))=false:=by decide)
 (hcd:autoParam ((x == ("__classdict__" : Str))=false) zav._auto_1):PE X (.Name x pos) (j9 i):=pe_var hN hv hd hcd
end
noncomputable def yw (H H':Hp):Prop:=∀b o,H b=some o->H' b=some o
theorem yw.refl (H:Hp):yw H H:=fun _ _ h=>h
theorem yw.trans {H H1 H2:Hp}(a:yw H H1)(b:yw H1 H2):yw H H2:=fun c o h=>b c o (a c o h)
theorem yw.free {H H':Hp}(e:yw H H'){l:Addr}(h:H' l=Option.none):H l=Option.none:=by
 cases q:H l with
 |none=>rfl
 |some o =>
  rw[e l o q] at h;cases h
theorem yw.seq {K:W.Frag}{H H':Hp}{a:Addr}{xs:List V}(e:yw H H')(h:SqL K H a xs):SqL K H' a xs:=by
 rcases h with (h|⟨o,h⟩)|h
 ·exact .inl (.inl (e _ _ h))
 ·exact .inl (.inr ⟨o,e _ _ h⟩)
 ·exact .inr h
section
variable {X:Cx}
theorem call_lenD:zD X (.builtin "len") (fun xs H Q=>∃a kvs,xs=[V.ref a]/\H a=some (.dK kvs)/\Q (.int kvs.length) H):=by
 intro pins s σ H xs us Q I r h;refine zc2c h fun a kvs zr2 ha q=>?_;subst zr2;refine zc1b (vy r) fun u zr1 ru=>?_;subst zr1;cases ru;exact d_len I (.inl ha) fun t s' I'=>⟨.int kvs.length,H,I',⟨t,rfl⟩,q⟩
end
end L2
theorem zqn {P:Prop}{α : Type}{z:α}(h:none=some z):P:=by cases  h
theorem zqb {P:Prop}(h:false=true):P:=by cases  h
namespace L2
theorem uQ (env:Env):∀(names:List (Str×NameKind)) (acc:List (Str×Addr)),(∀y∈names,y.2=.free->∃c,env.cells.lookup y.1=some c) ->
 ∃cl,(forIn names acc fun (x:Str×NameKind) (r:List (Str×Addr))=>(match x with
  | (name,kind)=>if(kind == NameKind.free)=true then do let a <- cellOf env name;pure (ForInStep.yield ((name,a)::r)) else pure (ForInStep.yield r):Sem (ForInStep (List (Str×Addr)))))=(pure cl:Sem (List (Str×Addr))) /\
  (∀x c,cl.lookup x=some c->env.cells.lookup x=some c\/acc.lookup x=some c)/\(∀x c,acc.lookup x=some c->∃c',cl.lookup x=some c')/\∀y∈names,y.2=.free->∃c,cl.lookup y.1=some c
 | [],acc,_=>⟨acc,rfl,fun _ _ h=>.inr h,fun x c h=>⟨c,h⟩,fun _ h=>nomatch h⟩
 | (n,k)::r,acc,h=>by
  rw[List.forIn_cons];cases hk:(k == NameKind.free) with
  |true =>
   have hk':k=.free:=by cases k<;>first|rfl|(exact Zn hk (by decide))
   obtain⟨c,hc⟩:=h (n,k) Zqs hk';refine zc1d (uQ env r ((n,c)::acc) fun y hy=>h y (Zqm _ hy)) fun cl e h1 h2 h3=>?_;refine⟨cl,?_,fun x c' hx=>?_,fun x c' hx=>?_,fun y hy hf=>?_⟩
   ·simp only[hk,if_true,cellOf,hc];exact e
   ·rcases h1 x c' hx with q|q
    ·exact .inl q
    ·rw[List.lookup_cons] at q;cases hb:x == n with
     |true =>
      rw[hb] at q;cases q;have:x=n:=by simpa using hb
      subst this;exact .inl hc
     |false=>rw[hb] at q;exact .inr q
   ·cases hb:x == n with
    |true=>exact h2 x c (by rw[List.lookup_cons,hb])
    |false=>exact h2 x c' (by rw[List.lookup_cons,hb];exact hx)
   ·rcases List.mem_cons.mp hy with rfl|hy
    ·exact h2 n c (by rw[List.lookup_cons,beq_self_eq_true])
    ·exact h3 y hy hf
  |false =>
   refine zc1d (uQ env r acc fun y hy=>h y (Zqm _ hy)) fun cl e h1 h2 h3=>?_;refine⟨cl,?_,h1,h2,fun y hy hf=>?_⟩
   ·simp only[hk,Bool.false_eq_true,if_false];exact e
   ·rcases List.mem_cons.mp hy with rfl|hy
    ·rw[show k=.free from hf] at hk;exact Zn hk (by decide)
    ·exact h3 y hy hf
theorem clos_of (env:Env)(scope:Scope)(h:∀y∈scope.names,y.2=.free->∃c,env.cells.lookup y.1=some c) :
 ∃cl,closureFor scope env=pure cl/\(∀x c,cl.lookup x=some c->env.cells.lookup x=some c)/\∀y∈scope.names,y.2=.free->∃c,cl.lookup y.1=some c:=by
 refine zc1d (uQ env scope.names [] h) fun cl e h1 _ h3=>?_;refine⟨cl,?_,fun x c hx=>(h1 x c hx).elim id (fun q=>by simp at q),h3⟩;simp only[closureFor]
 first
 | (rw[e];rfl)
 |exact(Zt (· >>= fun cs=>pure cs) e)
theorem xr {env:Env}{x:Str}:∀{names:List (Str×NameKind)},
 (names.lookup x=some .free->(names.map fun (n,k)=>if(k == NameKind.free&&env.scope.kind == .function&&env.kindOf n == some .cell) then(n,NameKind.cell) else(n,k)).lookup x=some .cell\/(names.map fun (n,k)=>if(k == NameKind.free&&env.scope.kind == .function&&env.kindOf n == some .cell) then(n,NameKind.cell) else(n,k)).lookup x=some .free) /\
 (∀k',(names.map fun (n,k)=>if(k == NameKind.free&&env.scope.kind == .function&&env.kindOf n == some .cell) then(n,NameKind.cell) else(n,k)).lookup x=some k'->(k'=.cell\/k'=.free)->names.lookup x=some .free\/names.lookup x=some .cell)
 | []=>⟨fun h=>by simp at h,fun _ h=>by simp at h⟩
 | (n,k)::r=>by
  obtain⟨ih1,ih2⟩:=@xr env x r;simp only[Zl];cases hx:x == n with
  |true =>
   refine⟨fun h=>?_,fun k' h hk'=>?_⟩
   ·simp only[List.lookup_cons,hx] at h;obtain rfl:=Zqi h;by_cases hc:(NameKind.free == NameKind.free&&env.scope.kind == .function&&env.kindOf n == some .cell)=true
    ·rw[Zd hc];simp[List.lookup_cons,hx]
    ·rw[Ze hc];simp[List.lookup_cons,hx]
   ·rw[List.lookup_cons,hx];by_cases hq:(k == NameKind.free&&env.scope.kind == .function&&env.kindOf n == some .cell)=true
    ·have:k=.free:=by
      cases k<;>first|rfl|(simp at hq)
     rw[this];exact .inl rfl
    ·rw[Ze hq] at h;simp only[List.lookup_cons,hx] at h;have h:k=k':=by simpa using h
     subst h;rcases hk' with z|z
     ·rw[z];exact .inr rfl
     ·rw[z];exact .inl rfl
  |false =>
   refine⟨fun h=>?_,fun k' h hk'=>?_⟩
   ·simp only[List.lookup_cons,hx] at h
    split<;>simp only[List.lookup_cons,hx]<;>exact ih1 h
   ·rw[List.lookup_cons,hx];refine ih2 k' ?_ hk'
    split at h<;>simp only[List.lookup_cons,hx] at h<;>exact h
theorem yF:∀(names:List (Str×NameKind)) (n:Nat) (acc:List (Str×Addr)),cellsFrom n names acc=cellsFrom n names []++acc
 | [],_,_=>rfl
 | (name,kind)::r,n,acc=>by
  unfold cellsFrom
  split
  ·rw[yF r (n+1) ((name,n)::acc),yF r (n+1) [(name,n)],List.append_assoc];rfl
  ·exact yF r n acc
theorem xW {x:Str}{c:Addr}:∀(names:List (Str×NameKind)) (n:Nat) (acc:List (Str×Addr)),(x,c)∈cellsFrom n names acc->(x,c)∈acc\/(x,NameKind.cell)∈names
 | [],_,_,h=>.inl h
 | (name,kind)::r,n,acc,h=>by
  unfold cellsFrom at h
  split at h
  ·rename_i hk;rcases xW r (n+1) ((name,n)::acc) h with z|z
   ·rcases List.mem_cons.mp z with z|z
    ·cases z;have:kind=.cell:=by cases kind<;>first|rfl|(exact Zn hk (by decide))
     subst this;exact .inr Zqs
    ·exact .inl z
   ·exact .inr (Zqm _ z)
  ·rcases xW r n acc h with z|z
   ·exact .inl z
   ·exact .inr (Zqm _ z)
noncomputable def l9:Option NameKind->Bool
 |some .cell=>true
 |_=>false
theorem isCellK_inv {o:Option NameKind}(h:l9 o=true):o=some .cell:=by
 cases o with
 |none=>exact zqb h
 |some k=>cases k<;>first|rfl|exact zqb h
structure CellsAt (scope:Scope)(env:Env)(cl:List (Str×Addr))(C:Addr)(h1:Heap):Prop where
 from_:∀x c,cl.lookup x=some c->(env.cells.lookup x=some c/\scope.names.lookup x≠some .cell)\/(C<c/\h1.IsCell c none)
 free:∀x,scope.names.lookup x=some .free->∃c,cl.lookup x=some c/\env.cells.lookup x=some c
 own:∀x,scope.names.lookup x=some .cell->∃c,cl.lookup x=some c
 inj:∀x y c,cl.lookup x=some c->cl.lookup y=some c->x=y
theorem cellsAt_of {scope:Scope}{env:Env}{cl:List (Str×Addr)}{h0:Heap}{C:Addr}(he:∀x c,cl.lookup x=some c->env.cells.lookup x=some c)(hf:∀y∈scope.names,y.2=.free->∃c,cl.lookup y.1=some c)
 (inj:∀x y c,env.cells.lookup x=some c->env.cells.lookup y=some c->x=y) (low:∀x c,env.cells.lookup x=some c->c<=C) (hC:h0.objs.size=C+1) (hc:∀y∈scope.names,y.2=.cell->scope.names.lookup y.1=some .cell) :
 CellsAt scope env (cellsFrom (C+1) scope.names cl) C (pushCells h0 scope.names):=by
 have ok:=cellsFrom_ok scope.names h0 (C+1) [] ⟨fun _ _ hm=>(nomatch hm),List.Pairwise.nil⟩ (Nat.le_of_eq hC.symm);rw[hC] at ok;have look:∀x c,(cellsFrom (C+1) scope.names cl).lookup x=some c->((x,c)∈cellsFrom (C+1) scope.names [] )\/(cl.lookup x=some c/\scope.names.lookup x≠some .cell):=fun x c e=>by
  rw[yF,List.lookup_append] at e;cases q:(cellsFrom (C+1) scope.names []).lookup x with
  |some d =>
   rw[q] at e;have e:some d=some c:=e;obtain rfl:=Zqi e;exact .inl (PySem.mem_of_lookup q)
  |none =>
   rw[q] at e;refine .inr ⟨e,fun z=>?_⟩;have:=W.cellsFrom_some scope.names (C+1) [] (.inl z);rw[q] at this;exact zqb this
 refine⟨fun x c e=>?_,fun x e=>?_,fun x e=>?_,fun x y c e1 e2=>?_⟩
 ·rcases look x c e with z|⟨z1,z2⟩
  ·exact .inr ⟨(ok.empty x c z).2,(ok.empty x c z).1⟩
  ·exact .inl ⟨he x c z1,z2⟩
 ·obtain⟨c,hc'⟩:=hf (x,.free) (PySem.mem_of_lookup e) rfl;refine⟨c,?_,he x c hc'⟩;rw[yF,List.lookup_append];cases q:(cellsFrom (C+1) scope.names []).lookup x with
  |some d =>
   rcases xW _ _ _ (PySem.mem_of_lookup q) with z|z
   ·cases z
   ·have:=hc (x,.cell) z rfl;rw[e] at this;cases this
  |none=>exact hc'
 ·exact Option.isSome_iff_exists.mp (W.cellsFrom_some scope.names (C+1) cl (.inl e))
 ·rcases look x c e1 with z|⟨z1,_⟩<;>rcases look y c e2 with w|⟨w1,_⟩
  ·exact PySem.name_of_addr ok.apart z w
  ·exact Zn (low y c (he y c w1)) (Nat.not_le_of_lt (ok.empty x c z).2)
  ·exact Zn (low x c (he x c z1)) (Nat.not_le_of_lt (ok.empty y c w).2)
  ·exact inj x y c (he x c z1) (he y c w1)
theorem wpAny_newCompEnv {M:Model}{A:Around}{E:Value->Shared->Prop}{s:Shared}{scope:Scope}{globals:Addr}{cl:List (Str×Addr)}{qual:Str}{env:Env}{Q:Env->Shared->Prop}
 (hQ:Q (newEnv scope s.heap.objs.size globals (cellsFrom (s.heap.objs.size+1) scope.names cl) qual none .none (some env) builtinsNs) { s with heap:=pushCells (s.heap.push { cls:=.type "dict",data:=.dict #[] }) scope.names }) :
 wpAny M A (newFunctionEnv scope globals cl [] qual none .none (some env)) Q E s:=by
 simp only[newFunctionEnv,Option.isSome_some,if_true];refine Za (wpAny_alloc ?_);refine Za (wpAny_layCells _ (fun name kind cells=>by cases hkc:kind == NameKind.cell<;>simp[hkc]) _ _ _ _ ?_);rw[show({ s with heap:=s.heap.push { cls:=.type "dict",data:=.dict #[] } }:Shared).heap.objs.size=s.heap.objs.size+1 from Heap.size_push ..];rw[List.forIn_nil];exact Za (Zb (Zb hQ))
noncomputable def oE (X:Cx)(C:Addr):Value->Shared->Prop:=fun x s'=>∃m,s'.heap.Ns C m/\∀h',Heap.SameBut C s'.heap h'->∀cenv:Env,cenv.locals=C->wpAny (model X.prog X.w) X.A (passOn "comprehension.variables-let-go" x cenv:Sem Value) (fun _ _=>False) X.xe { s' with heap:=h' }
def zx (X:Cx)(scope:Scope)(N:List Str)(cl:List (Str×Addr))(C:Addr)(s:Shared)(H:Hp)(ex:List Addr):Cx where
 prog:=X.prog
 w:=X.w
 K:=X.K
 mg:=X.mg
 base:=X.base
 A:=X.A
 N:=N
 s₀:=s
 H₀:=H
 env:=compEnvC scope cl C X.env
 outer:=X.stack
 stack:=X.stack
 ex:=ex
 fn:=fun x=>l9 (scope.names.lookup x)
 calm:=X.calm
 pn:=[]
 xe:=notedBy (model X.prog X.w) X.A (compEnvC scope cl C X.env) (oE X C)
def qN (X:Cx)(C:Addr)(s:Shared)(H:Hp)(ex:List Addr):Prop:=∃pins σ,Inv X pins σ H s/\(∀b∈ex,jk X pins H b)/\s.heap.objs.size<=C
noncomputable def oM (cap:List (Option Nat))(σ : St):St:=cap.map fun o=>o.bind fun j=>(σ[j]?).join
structure CompOk (X:Cx)(scope:Scope)(N:List Str)(cap:List (Option Nat)):Prop where
 kind:scope.kind=.function
 loc:∀y∈scope.names,y.2=.local->scope.names.lookup y.1=some .local
 cell:∀y∈scope.names,y.2=.cell->scope.names.lookup y.1=some .cell
 free:∀y∈scope.names,y.2=.free->X.env.kindOf y.1=some .cell\/X.env.kindOf y.1=some .free
 len:cap.length=N.length
 cap:∀(i j:Nat) (x:Str),cap[i]? = some (some j)->N[i]? = some x->X.N[j]? = some x/\scope.names.lookup x=some .free
noncomputable def yH (scope:Scope)(env:Env)(N' N:List Str)(cap:List (Option Nat)):Bool :=
 decide (scope.kind=.function)&&scope.names.all (fun y => !decide (y.2=.local)||decide (scope.names.lookup y.1=some .local))&&scope.names.all (fun y => !decide (y.2=.cell)||decide (scope.names.lookup y.1=some .cell)) &&
 scope.names.all (fun y => !decide (y.2=.free)||(decide (env.kindOf y.1=some .cell)||decide (env.kindOf y.1=some .free)))&&decide (cap.length=N'.length) &&
 (N'.zip cap).all (fun p=>match p.2 with|none=>true|some j=>decide (N[j]? = some p.1)&&decide (scope.names.lookup p.1=some .free))
theorem CompOk.of {X:Cx}{scope:Scope}{N:List Str}{cap:List (Option Nat)}(h:yH scope X.env N X.N cap=true):CompOk X scope N cap:=by
 unfold yH at h;simp only[Bool.and_eq_true,List.all_eq_true,decide_eq_true_eq,Bool.or_eq_true,Bool.not_eq_true',decide_eq_false_iff_not] at h;obtain⟨⟨⟨⟨⟨h1,h2⟩,h3⟩,h4⟩,h5⟩,h6⟩:=h;refine⟨h1,fun y hy hl=>?_,fun y hy hl=>?_,fun y hy hf=>?_,h5,fun i j x e1 e2=>?_⟩
 ·rcases h2 y hy with z|z
  ·exact Zn hl z
  ·exact z
 ·rcases h3 y hy with z|z
  ·exact Zn hl z
  ·exact z
 ·rcases h4 y hy with z|z
  ·exact Zn hf z
  ·exact z
 ·have hm:(x,some j)∈N.zip cap:=by
   refine List.mem_of_getElem? (i:=i) ?_;rw[List.getElem?_zip_eq_some];exact⟨e2,e1⟩
  have q:=h6 (x,some j) hm;simpa using q
section
variable {X:Cx}{scope:Scope}{N:List Str}{cap:List (Option Nat)}{pins:List (Addr×Obj)}{σ : St}{H:Hp}{s:Shared}{cl:List (Str×Addr)}{C D:Addr}{fp:List Addr}
theorem comp_inv {h1:Heap}{tk:Nat}{m:Str->Option Value}(ok:CompOk X scope N cap)(I:Inv X pins σ H s)(hf:∀b∈fp,jk X pins H b)(hlt:∀b∈fp,b<s.heap.objs.size)
 (hcl:CellsAt scope X.env cl C h1)
 (hC:s.heap.objs.size<=C) (old:∀b o,s.heap.get? b=some o->h1.get? b=some o) (hns:h1.Ns C m) :
 Inv (zx X scope N cl C s H fp) [] (oM cap σ) H { s with heap:=h1,toks:=tk }:=by
 have kf:∀x,(zx X scope N cl C s H fp).env.kindOf x=some .cell\/(zx X scope N cl C s H fp).env.kindOf x=some .free->scope.names.lookup x=some .free\/scope.names.lookup x=some .cell:=fun x h=>by
  rcases h with h|h
  ·exact(xr (env:=X.env) (x:=x) (names:=scope.names)).2 _ h (.inl rfl)
  ·exact(xr (env:=X.env) (x:=x) (names:=scope.names)).2 _ h (.inr rfl)
 refine⟨⟨I.ok.mod,ok.kind,I.ok.glob,I.ok.blt,hC,hcl.inj,fun x h=>?_,fun x c z e=>?_,I.ok.hd,I.ok.frames,.inl rfl,fun b hb=>⟨?_,fun x c e=>?_⟩,I.bs,Zh I.ok.bsz I.sz,
  fun b o e hb=>?_,fun b hb z=>?_,I.stack,I.stkFree⟩,rfl,I.bare,Un.kept old,⟨m,hns,fun i x v e1 e2 e3=>?_⟩,fun x c e=>?_,I.hok.fresh hC,fun x c e=>?_,fun p hp=>Zn hp (by show ¬p∈([]:List (Addr×Obj))++[];simp),I.hok.kept old,?_⟩
 ·rcases kf x h with q|q
  ·refine zc1b (hcl.free x q) fun c e _=>?_;exact⟨c,e⟩
  ·exact hcl.own x q
 ·rcases hcl.from_ x c e with ⟨_,q⟩|⟨q,_⟩
  ·exact Zn (isCellK_inv z) q
  ·exact Zh hC (Zy q)
 ·exact Zi (Zg (hlt b hb) hC)
 ·rcases hcl.from_ x c e with ⟨q,_⟩|⟨q,_⟩
  ·exact(hf b hb).2.2.2.2.1 x c q
  ·exact Nat.ne_of_gt (Nat.lt_trans (Zg (hlt b hb) hC) q)
 ·rcases(hf b hb).2.2.2.1 with z|z
  ·exact I.ok.noex b o e z
  ·exact Zn (Zg (Zk e) (Zh I.ok.bsz z)) (Zx _)
 ·rcases List.mem_cons.mp (I.stkSub b z) with q|q
  ·exact(hf b hb).2.1 q
  ·exact(hf b hb).2.2.1 q
 ·have e1:N[i]? = some x:=e1;have hc:∃j,cap[i]? = some (some j) /\ σ[j]? = some (some v):=by
   have e2:(cap.map fun o=>o.bind fun j=>(σ[j]?).join)[i]? = some (some v):=e2;rw[Zv] at e2;cases q:cap[i]? with
   |none=>rw[q] at e2;exact zqn e2
   |some o =>
    rw[q] at e2;cases o with
    |none=>cases e2
    |some j =>
     have e2:some ((σ[j]?).join)=some (some v):=e2;cases q2:σ[j]? with
     |none=>rw[q2] at e2;cases e2
     |some w=>rw[q2] at e2;exact⟨j,rfl,by cases e2;exact q2⟩
  obtain⟨j,c1,c2⟩:=hc;obtain⟨n1,n2⟩:=ok.cap i j x c1 e1;refine zc1b I.loc fun m0 _ hl=>?_;have fr:=ok.free (x,.free) (PySem.mem_of_lookup n2) rfl;obtain⟨u,r,l⟩:=hl j x v n1 c2 (fr.elim (fun z=>.inr (.inl z)) fun z=>.inr (.inr z));refine⟨u,r,.inr ⟨(xr (env:=X.env) (x:=x) (names:=scope.names)).1 n2,?_⟩⟩;rcases l with ⟨k,_⟩|⟨_,c,ec,z⟩
  ·have k:X.env.kindOf x=some .local:=k;rcases fr with f|f<;>· rw[k] at f;cases f
  ·obtain⟨c',e',e''⟩:=hcl.free x n2;rw[ec] at e'';obtain rfl:=Zqi e'';exact⟨c,e',z.keeps old⟩
 ·rcases hcl.from_ x c e with ⟨q,_⟩|⟨_,q⟩
  ·obtain⟨v,z⟩:=I.cell x c q;exact⟨v,z.keeps old⟩
  ·exact⟨none,q⟩
 ·rcases hcl.from_ x c e with ⟨q,_⟩|⟨q,_⟩
  ·exact I.freeC x c q
  ·exact I.hok.fresh (Zh hC (Zy q))
 ·show(cap.map _).length=N.length;rw[Zql];exact ok.len
theorem comp_end {σ':St}{H':Hp}{s':Shared}{ys:List V}{its:List Value}{k:Nat}{h':Heap}{Q:VK}(I:Inv X pins σ H s)(hf:∀b∈fp,jk X pins H b)(hC:s.heap.objs.size<=C)(hD:s.heap.objs.size<=D)(hDC:D≠C)
 (J:Inv (zx X scope N cl C s H fp) [] σ' H' s') (hd:s'.heap.get? D=some { cls:=.type "list",data:=.seq its.toArray k }) (hn:H' D=none) (rv:yq ys its) (hz:ys.length<=sizeLine) (hs:Heap.SameBut C s'.heap h')
 (q:Q (.ref D) (upd H' D (.lst ys))):EP X pins σ Q (.ref D) { s' with heap:=h' }:=by
 have nC:∀b o,s.heap.get? b=some o->b≠C:=fun b o e=>Zi (Zg (Zk e) hC);have nD:∀b o,s.heap.get? b=some o->b≠D:=fun b o e=>Zi (Zg (Zk e) hD);have tD:∀b u,H' b=some u->b≠D:=fun b u e z=>by rw[z,hn] at e;exact zqn e
 have tC:∀b u,H' b=some u->b≠C:=fun b u e z=>by
  have:=J.free;rw[z] at e;rw[show H' C=none from this] at e;exact zqn e
 have B:Un (frs X.stack) fp H H' s.heap s'.heap:=J.base;refine⟨.ref D,upd H' D (.lst ys),I.call' (s':={ s' with heap:=h' }) (ch:=fp) J.os ?_ ?_ J.bare (fun b hb=>⟨(hf b hb).2.2.2.1,(hf b hb).2.1,(hf b hb).2.2.2.2.1,(hf b hb).2.2.2.2.2⟩),rfl,q⟩
 ·refine⟨fun b o e n hb hx=>(hs.2 b (nC b o e)).trans (B.keep b o e n hb hx),fun b o e n hb hx=>?_,fun b o e n hx=>?_,fun b o e hx=>?_,fun b xs e=>?_,fun b o u e=>?_,fun b ps e=>?_⟩
  ·obtain⟨sl,z⟩:=B.slot b o e n hb hx;exact⟨sl,(hs.2 b (nC b o e)).trans z⟩
  ·rw[zC (nD b o e)];exact B.free b o e n hx
  ·obtain⟨o',z⟩:=B.there b o e hx;exact⟨o',(hs.2 b (nC b o e)).trans z⟩
  ·have z:=B.tups b xs e;rw[zC (tD b _ z)];exact z
  ·have z:=B.frzs b o u e;rw[zC (tD b _ z)];exact z
  ·obtain⟨more,z⟩:=B.tbls b ps e;exact⟨more,by rw[zC (tD b _ z)];exact z⟩
 ·intro b u e;by_cases hb:b=D
  ·subst hb;rw[zo] at e;obtain rfl:=Zqi e;exact⟨hz,its,k,rv,(hs.2 b hDC).trans hd⟩
  ·rw[zC hb] at e;refine(J.hok b u e).stay (fun c v hc z=>(hs.2 c ?_).trans z) (fun c z=>by rw[zC (tD c _ z)];exact z) (fun c xs z=>by rw[zC (tD c _ z)];exact z);rcases hc with hc|hc
   ·rw[hc];exact tC b u e
   ·exact tC c _ hc
end
def compR (cap:List (Option Nat))(g:TG)(te:TE)(σ : St)(Q:VK):It->Hp->Prop:=fun J H1=>∃W:Nat->Nat->List V->St->Hp->Prop,(∃m,W 0 m [] (oM cap σ) H1)/\∀i m ys σ' H',W i m ys σ' H'->ys.length<sizeLine /\
 (
  (J.stop i H'/\∀D,H' D=none->Q (.ref D) (upd H' D (.lst ys))) \/
  (J.go i H'/\∀x H2,J.yld i H' x H2->g x σ' H2 fun σ2 H3=>te σ2 H3 fun y H4=>∃m',m'<m/\W (i+1) m' (ys++[y]) σ2 H4))
def lJ (cap:List (Option Nat))(wi:TI)(g:TG)(te:TE):TE:=fun σ H Q=>wi σ H (compR cap g te σ Q)
def compIfR (cap:List (Option Nat))(g:TG)(tt:TT)(te:TE)(σ : St)(Q:VK):It->Hp->Prop:=fun J H1=>∃W:Nat->Nat->List V->St->Hp->Prop,(∃m,W 0 m [] (oM cap σ) H1)/\∀i m ys σ' H',W i m ys σ' H'->ys.length<sizeLine /\
 (
  (J.stop i H'/\∀D,H' D=none->Q (.ref D) (upd H' D (.lst ys))) \/
  (J.go i H'/\∀x H2,J.yld i H' x H2->g x σ' H2 fun σ2 H3=>tt σ2 H3 fun b H4=>if b=true then te σ2 H4 (fun y H5=>∃m',m'<m/\W (i+1) m' (ys++[y]) σ2 H5) else ∃m',m'<m/\W (i+1) m' ys σ2 H4))
def tq (cap:List (Option Nat))(wi:TI)(g:TG)(tt:TT)(te:TE):TE:=fun σ H Q=>wi σ H (compIfR cap g tt te σ Q)
section
variable {X:Cx}{tg iter elt c:Expr}{scope:Scope}{pos:Pos}{wi:TI}{g:TG}{te:TE}{tt:TT}
noncomputable def uT (X:Cx)(pins:List (Addr×Obj))(σ : St)(Q:VK)(use:Option (Value->Sem Unit))(R:Value->Shared->Prop):Prop :=
 ∀(C D:Addr) (m:Str->Option Value) (s5:Shared) (r:Flow),s5.heap.Ns C m->¬C=X.env.locals->C∉X.fs->X.s₀.heap.objs.size<=C->(∀x c,X.env.cells.lookup x=some c->c≠C)->(∀p∈X.pn++pins,p.1≠C) ->
  (∀h',Heap.SameBut C s5.heap h'->EP X pins σ (fun v H'=>H' C=none/\Q v H') (.ref D) { s5 with heap:=h' })->compPost (model X.prog X.w) X.A X.xe use R (.ref D) C (.ok r) s5
theorem oT {pins:List (Addr×Obj)}{σ : St}{Q:VK}:uT X pins σ Q none (EP X pins σ Q):=fun C D m s5 r hm _ _ _ _ _ k=>⟨m,hm,fun h' hs'=>by
 refine zc2d (k h' hs') fun v H' I' rv _ q=>?_;exact⟨v,H',I',rv,q⟩⟩
noncomputable def TurnI (X:Cx)(tg elt:Expr)(it acc:Value)(env:Env)(R:Result->Shared->Prop)(I:Nat->Shared->Prop)(test:(Bool->Shared->Prop)->Shared->Prop)(n:Nat)(s:Shared):Prop :=
 let E:Value->Shared->Prop:=notedBy (model X.prog X.w) X.A env fun e s'=>R (.error e) s'
 wpAny (model X.prog X.w) X.A (pyNext it) (fun r s1=>match r with
  |none=>R (.ok .next) s1
  |some v=>wpAny (model X.prog X.w) X.A (letOwnedTupleGo tg it v) (fun _ s2=>wpAny (model X.prog X.w) X.A (assign tg env v) (fun _ s3=>test (fun ok s4=>if ok=true then wpAny (model X.prog X.w) X.A (eval elt env) (fun x s5=>wpAny (model X.prog X.w) X.A (call (.builtin "list.append") [acc,x]) (fun _ s6=>∃m,m<n/\I m s6) E s5) E s4 else ∃m,m<n/\I m s4) s3) E s2) E s1) E s
theorem mz {ifs:List Expr}(N:List Str){test:Env->(Result->Shared->Prop)->(Bool->Shared->Prop)->Shared->Prop}
 (lp:∀{it acc:Value} {env:Env} {R:Result->Shared->Prop} {s:Shared} (I:Nat->Shared->Prop),(∀n s,I n s->TurnI X tg elt it acc env R I (test env R) n s)->∀n,I n s->codeAny (model X.prog X.w) X.A (.compLoop (.ListComp elt [⟨tg,iter,ifs,0⟩] scope pos) 0 it acc env) R s)
 (ht:∀cl C s H ex {pins:List (Addr×Obj)} {s7:Shared} {σ7:St} {H7:Hp} {R:Result->Shared->Prop} {q:Bool->Hp->Prop} {Q:Bool->Shared->Prop},qN X C s H ex->(∀e s',oE X C e s'->R (.error e) s')->Inv (zx X scope N cl C s H ex) pins σ7 H7 s7->tt σ7 H7 q->(∀b s8 H8,Inv (zx X scope N cl C s H ex) pins σ7 H8 s8->q b H8->Q b s8)->test (compEnvC scope cl C X.env) R Q s7)
 (cap:List (Option Nat)) (hc:X.calm=true) (okB:yH scope X.env N X.N cap=true) (hi:PI X tg iter wi) (hg:∀cl C s H ex,PG (zx X scope N cl C s H ex) tg g) (he:∀cl C s H ex,qN X C s H ex->PE (zx X scope N cl C s H ex) elt te)
 (hs:∀x,foldedSetIterable iter X.env x=pure x) {use:Option (Value->Sem Unit)} {R:Value->Shared->Prop} {fpos:Pos} {pins:List (Addr×Obj)} {s:Shared} {σ : St} {H:Hp} {Q:VK} (I:Inv X pins σ H s) (h:tq cap wi g tt te σ H Q) (fin:uT X pins σ Q use R) :
 wpAny (model X.prog X.w) X.A (comprehension (.ListComp elt [⟨tg,iter,ifs,0⟩] scope pos) scope X.env fpos (newList []) false (eval iter X.env) use) R X.xe s:=by
 have ok:=CompOk.of okB;obtain⟨cl0,hcl,hcl1,hcl2⟩:=clos_of X.env scope fun y hy hf=>I.ok.has y.1 (ok.free y hy hf);refine wpAny_comprehension_free (use:=use) rfl hs hcl ok.kind ok.loc (thn (hi pins s σ H _ I h) fun xv s1 h1=>thn h1 fun itv s2 h2=>?_);obtain⟨it,fp,tn,J,H2,e,I2,T,st2,f2,W,⟨m0,w0⟩,turn⟩:=h2;subst e;have hlt:∀b∈fp,b<s2.heap.objs.size:=fun b hb=>let ⟨_,e,_⟩:=T.obj _ _ st2 b hb;Zk e
 refine wpAny_newObj_type (wpAny_newCompEnv ?_);dsimp only;generalize hP:s2.heap.push { cls:=.type "list",dict:=none,data:=.seq ([]:List Value).toArray }=P2;have hC:P2.objs.size=s2.heap.objs.size+1:=by rw[<- hP,Heap.size_push]
 have hDC:s2.heap.objs.size≠P2.objs.size:=by rw[hC];exact Zi (Nat.lt_succ_self _)
 have hCle:s2.heap.objs.size<=P2.objs.size:=by rw[hC];exact Nat.le_succ _
 have below:∀b,b<s2.heap.objs.size->b≠P2.objs.size/\b≠s2.heap.objs.size:=fun b hb=>⟨by rw[hC];exact Zi (Nat.lt_succ_of_lt hb),Zi hb⟩;have hcc:CellsAt scope X.env (cellsFrom (P2.objs.size+1) scope.names cl0) P2.objs.size (pushCells (P2.push { cls:=.type "dict",data:=.dict #[] }) scope.names) :=
  cellsAt_of hcl1 hcl2 I2.ok.inj (fun x c e=>Zh (Zy (let ⟨_,_,ho,_⟩:=I2.cell x c e;Zk ho)) hCle) (Heap.size_push ..) ok.cell
 have hns1:(pushCells (P2.push { cls:=.type "dict",data:=.dict #[] }) scope.names).Ns P2.objs.size (fun _=>none):=(Heap.Ns.new P2 (.type "dict")).keeps (pushCells_keeps _ _);generalize cellsFrom (P2.objs.size+1) scope.names cl0=cl at hcc ⊢;have old:∀b o,s2.heap.get? b=some o->(pushCells (P2.push { cls:=.type "dict",data:=.dict #[] }) scope.names).get? b=some o:=fun b o e=>pushCells_keeps _ _ b o (Zq _ (hP ▸ Zq _ e));have hacc:(pushCells (P2.push { cls:=.type "dict",data:=.dict #[] }) scope.names).get? s2.heap.objs.size=some { cls:=.type "list",data:=.seq ([]:List Value).toArray 0 }:=pushCells_keeps _ _ _ _ (Zq _ (hP ▸ Zr _ rfl));generalize pushCells (P2.push { cls:=.type "dict",data:=.dict #[] }) scope.names=g1 at hcc hns1 old hacc ⊢;have stat:∀{H':Hp} {pl:List (Addr×Obj)},(∀b∈fp,H' b=none)->(∀p∈pl,p.1∉fp)->∀b∈fp,jk (zx X scope N cl P2.objs.size s2 H2 fp) pl H' b:=fun {H' pl} hn hp b hb=>by
  refine⟨hn b hb,(below b (hlt b hb)).1,fun z=>?_,.inl hb,fun x c e=>?_,fun p hq z=>?_⟩
  ·rcases List.mem_cons.mp (I2.stkSub b z) with q|q
   ·exact(f2 b hb).2.1 q
   ·exact(f2 b hb).2.2.1 q
  ·rcases hcc.from_ x c e with ⟨q,_⟩|⟨q,_⟩
   ·exact(f2 b hb).2.2.2.2.1 x c q
   ·exact Nat.ne_of_gt (Nat.lt_trans (Zg (hlt b hb) hCle) q)
  ·have hq:p∈([]:List (Addr×Obj))++pl:=hq;rw[List.nil_append] at hq;exact hp p hq (by rw[z];exact hb)
 have nD:s2.heap.objs.size∉fp:=fun z=>Zn (hlt _ z) (Zx _);have loop:∀s3:Shared,s3={ s2 with heap:=g1 } ->
  codeAny (model X.prog X.w) X.A (.compLoop (.ListComp elt [⟨tg,iter,ifs,0⟩] scope pos) 0 (.ref it) (.ref s2.heap.objs.size) (compEnvC scope cl P2.objs.size X.env))
   (compPost (model X.prog X.w) X.A X.xe use R (.ref s2.heap.objs.size) P2.objs.size) s3:=by
  rintro s3 rfl;have I0:=comp_inv (tk:=s2.toks) ok I2 f2 hlt hcc hCle old hns1;refine lp (fun n s'=>∃i ys its k σ' H',Inv (zx X scope N cl P2.objs.size s2 H2 fp) [] σ' H' s'/\tn i s'.heap/\(∀b∈fp,H' b=none)/\s'.heap.get? s2.heap.objs.size=some { cls:=.type "list",data:=.seq (List.toArray its) k } /\
   H' s2.heap.objs.size=none/\yq ys its/\W i n ys σ' H') ?_ m0
   ⟨0,[],[],0,oM cap σ,H2,I0,T.keep _ _ _ st2 (fun b _ o e=>old b o e),fun b hb=>(f2 b hb).1,hacc,I2.hok.fresh (Zf _),.nil,w0⟩
  have cat:qN X P2.objs.size s2 H2 fp:=⟨_,_,I2,f2,hCle⟩;have ce:∀e s',oE X P2.objs.size e s'->compPost (model X.prog X.w) X.A X.xe use R (.ref s2.heap.objs.size) P2.objs.size (.error e) s':=fun e s' h=>by cases use<;>exact h
  have xe:∀e s',(zx X scope N cl P2.objs.size s2 H2 fp).xe e s'->notedBy (model X.prog X.w) X.A (compEnvC scope cl P2.objs.size X.env) (fun e s'=>compPost (model X.prog X.w) X.A X.xe use R (.ref s2.heap.objs.size) P2.objs.size (.error e) s') e s':=fun e s' h=>Zc h (fun _ s2 q=>ce e s2 q) fun e s2 q=>ce e s2 q;rintro n s4 ⟨i,ys,its,k,σ4,H4,I4,st4,fr4,hd4,hn4,rv4,w4⟩;obtain⟨hz,tn4⟩:=turn i n ys σ4 H4 w4;have J4:Inv (zx X scope N cl P2.objs.size s2 H2 fp) [(s2.heap.objs.size,{ cls:=.type "list",data:=.seq its.toArray k })] σ4 H4 s4:=I4.pins_of fun p hp=>by
   have e:=List.mem_singleton.mp hp;subst e;refine⟨hd4,hn4,hDC,?_,fun v z=>by cases z⟩;exact fun z=>Zn (Zg (by
    rcases List.mem_cons.mp (I2.stkSub _ z) with q|q
    ·exact Nat.lt_of_le_of_lt (Nat.le_of_eq q) I2.lt
    ·obtain⟨_,o,ho,_⟩:=I2.ok.funs.mem q;exact Zg (Zk ho) I2.sz) (Zf s2.heap.objs.size)) (Zx _)
  have np:∀p ∈ [(s2.heap.objs.size,({ cls:=.type "list",data:=.seq its.toArray k }:Obj))],p.1∉fp:=fun p hp=>by
   have e:=List.mem_singleton.mp hp;subst e;exact nD
  rcases tn4 with ⟨stop,qn⟩|⟨go,step⟩
  ·refine Zc (T.done (zx X scope N cl P2.objs.size s2 H2 fp) rfl rfl rfl hc i _ s4 σ4 H4 (fun _ _=>False) J4 (stat fr4 np) st4 stop) (fun r s5 h5=>?_) fun _ _ f=>f.elim;obtain⟨rfl,I5⟩:=h5;obtain⟨m,hm,_⟩:=id I5.loc;have p5:=I5.pin (s2.heap.objs.size,_) (List.mem_append_right _ Zqs);refine fin _ _ m _ _ hm (Nat.ne_of_gt (Zg I2.lt hCle)) (I2.nofs hCle) (Zh I2.sz hCle) (fun x c e z=>?_) (fun p hp z=>?_) fun h' hs'=>comp_end I2 f2 hCle (Zf _) hDC (I5.pins_of fun p hp=>nomatch hp) p5.1 p5.2.1 rv4 (Zy hz) hs' ⟨by rw[zC (Ne.symm hDC)];exact I5.free,qn _ p5.2.1⟩
   ·obtain⟨v,o,ho,hd⟩:=I2.cell x c e;have:=Zk ho;rw[z] at this;exact Zn (Zg this hCle) (Zx _)
   ·have:=Zk (I2.pin p hp).1;rw[z] at this;exact Zn (Zg this hCle) (Zx _)
  ·refine Zc (T.item (zx X scope N cl P2.objs.size s2 H2 fp) rfl rfl rfl hc i _ s4 σ4 H4 (fun _ _=>False) J4 (stat fr4 np) st4 go) (fun r s5 h5=>?_) fun _ _ f=>f.elim;obtain⟨u,rfl,h5⟩:=h5;refine Zc h5 (fun _ s6 h6=>?_) fun _ _ f=>f.elim;obtain⟨x,H6,I6,r6,y6,st6,fr6⟩:=h6;have I6':=I6.pinned (stat fr6 np) (T.obj _ _ st6);refine Zc (hg cl P2.objs.size s2 H2 fp _ s6 σ4 H6 x u _ I6' r6 (step x H6 y6)) (fun _ s7 h7=>?_) xe;obtain⟨σ7,H7,I7,q7⟩:=h7;refine ht cl P2.objs.size s2 H2 fp cat ce I7 q7 fun bv s8 H8 I8 q8=>?_;have keepT:∀(H9:Hp) (s9:Shared) (σ9:St),Inv (zx X scope N cl P2.objs.size s2 H2 fp) ([(s2.heap.objs.size,{ cls:=.type "list",data:=.seq its.toArray k })]++q9 fp s6.heap) σ9 H9 s9->(∀b∈fp,∀o,s6.heap.get? b=some o->s9.heap.get? b=some o)/\∀b∈fp,H9 b=none:=fun H9 s9 σ9 I9=>by
    refine⟨fun b hb o e=>(I9.pin (b,o) (List.mem_append_right _ (List.mem_append_right _ (wx hb e)))).1,fun b hb=>?_⟩;obtain⟨o,e,d⟩:=T.obj _ _ st6 b hb;exact(I9.pin (b,o) (List.mem_append_right _ (List.mem_append_right _ (wx hb e)))).2.1
   have p8:=I8.pin (s2.heap.objs.size,_) (List.mem_append_right _ (List.mem_append_left _ Zqs));cases bv with
   |false =>
    rw[Ze (by simp)] at q8 ⊢;obtain⟨m',hm',w8⟩:=q8;obtain⟨z1,z2⟩:=keepT _ _ _ I8;exact⟨m',hm',i+1,ys,its,k,σ7,H8,I8.pins_of (fun p hp=>nomatch hp),T.keep _ _ _ st6 z1,z2,p8.1,p8.2.1,rv4,w8⟩
   |true =>
    rw[Zd rfl] at q8 ⊢;refine Zc (he cl P2.objs.size s2 H2 fp cat _ s8 σ7 H8 _ I8 q8) (fun yv s9 h9=>?_) xe;obtain⟨y,H9,I9,ry,m',hm',w9⟩:=h9;have p9:=I9.pin (s2.heap.objs.size,_) (List.mem_append_right _ (List.mem_append_left _ Zqs));have hl:=rv4.length;refine append_at (hsz:=by show its.toArray.size<=sizeLine;rw[Zm,<- hl];exact Zy hz) p9.1 fun h10 hs10 hd10=>?_;have I10:Inv (zx X scope N cl P2.objs.size s2 H2 fp) [] σ7 H9 { s9 with heap:=h10 }:=(I9.pins_of (pins':=[]) fun p hp=>nomatch hp).turned (t':=s9.toks) (it:=s2.heap.objs.size) (fun b o hb e=>(hs10.2 b hb).trans e) p9.2.1 hDC (.inr (Zf _))
     (fun x c e z=>by
      obtain⟨v,o,ho,hd⟩:=I9.cell x c e;rw[z,p9.1] at ho;cases ho;cases hd) (fun p hp=>Zn hp (by show ¬p∈([]:List (Addr×Obj))++[];simp))
    obtain⟨z1,z2⟩:=keepT _ _ _ I9;refine⟨m',hm',i+1,ys++[y],its++[yv],k+1,σ7,H9,I10,T.keep _ _ _ st6 (fun b hb o e=>?_),z2,?_,p9.2.1,yq.append rv4 (.cons ry .nil),w9⟩
    ·have hb':b≠s2.heap.objs.size:=fun z=>nD (by rw[<- z];exact hb);exact(hs10.2 b hb').trans (z1 b hb o e)
    ·refine hd10.trans ?_;simp
 exact codeAny_compStart_list (loop _ rfl) (T.self _ 0 _ _ _ (T.keep _ _ _ st2 (fun b _ o e=>old b o e)) (loop _ rfl))
theorem k8 (N:List Str)(cap:List (Option Nat))(hc:X.calm=true)(okB:yH scope X.env N X.N cap=true)(hi:PI X tg iter wi)(hg:∀cl C s H ex,PG (zx X scope N cl C s H ex) tg g)(he:∀cl C s H ex,qN X C s H ex->PE (zx X scope N cl C s H ex) elt te)
 (hs:∀x,foldedSetIterable iter X.env x=pure x) {use:Option (Value->Sem Unit)} {R:Value->Shared->Prop} {fpos:Pos} {pins:List (Addr×Obj)} {s:Shared} {σ : St} {H:Hp} {Q:VK} (I:Inv X pins σ H s) (h:lJ cap wi g te σ H Q) (fin:uT X pins σ Q use R) :
 wpAny (model X.prog X.w) X.A (comprehension (.ListComp elt [⟨tg,iter,[],0⟩] scope pos) scope X.env fpos (newList []) false (eval iter X.env) use) R X.xe s :=
 mz (tt:=fun _ H q=>q true H) (test:=fun _ _ Q s=>Q true s) N (fun I turn n h=>W.kcp_loop I turn n h) (fun _ _ _ _ _ _ _ _ _ _ _ _ _ _ I q k=>k true _ _ I q) cap hc okB hi hg he hs I h fin
theorem pe_compX (N:List Str)(cap:List (Option Nat))(hc:X.calm=true)(okB:yH scope X.env N X.N cap=true)(hi:PI X tg iter wi)(hg:∀cl C s H ex,PG (zx X scope N cl C s H ex) tg g)(he:∀cl C s H ex,qN X C s H ex->PE (zx X scope N cl C s H ex) elt te)
 (hs:autoParam (∀x,foldedSetIterable iter X.env x=pure x) zaw._auto_1):PE X (.ListComp elt [⟨tg,iter,[],0⟩] scope pos) (lJ cap wi g te):=by
 intro pins s σ H Q I h;rw[eval_ListComp];exact k8 N cap hc okB hi hg he hs I h oT
theorem pe_comp (N:List Str)(cap:List (Option Nat))(hc:X.calm=true)(okB:yH scope X.env N X.N cap=true)(hi:PI X tg iter wi)(hg:∀cl C s H ex,PG (zx X scope N cl C s H ex) tg g)(he:∀cl C s H ex,PE (zx X scope N cl C s H ex) elt te)
 (hs:autoParam (∀x,foldedSetIterable iter X.env x=pure x) zaw._auto_1):PE X (.ListComp elt [⟨tg,iter,[],0⟩] scope pos) (lJ cap wi g te):=pe_compX N cap hc okB hi hg (fun cl C s H ex _=>he cl C s H ex) hs
end
mutual
noncomputable def Is (H:Hp):PyData->V->Prop
 | .none,v=>v=.non
 | .bool b,v=>v=.bl b
 | .int i,v=>v=.int i
 | .str x,v=>v=.str x
 | .list ds,v=>∃a xs,v=.ref a/\H a=some (.lst xs)/\zp H ds xs
 | .tuple ds,v=>∃a xs,v=.ref a/\H a=some (.tup xs)/\zp H ds xs
 | .dict _,_=>False
noncomputable def zp (H:Hp):List PyData->List V->Prop
 | [],xs=>xs=[]
 |d::ds,xs=>∃x r,xs=x::r/\Is H d x/\zp H ds r
end
mutual
theorem Is.same {H H':Hp}(e:yw H H'):∀(d:PyData) (v:V),Is H d v->Is H' d v
 | .none,_,h=>by unfold Is at h ⊢;exact h
 | .bool _,_,h=>by unfold Is at h ⊢;exact h
 | .int _,_,h=>by unfold Is at h ⊢;exact h
 | .str _,_,h=>by unfold Is at h ⊢;exact h
 | .list ds,v,h=>by
  unfold Is at h ⊢;refine zc2c h fun a xs h1 h2 h3=>?_;exact⟨a,xs,h1,e _ _ h2,zp.same e ds xs h3⟩
 | .tuple ds,v,h=>by
  unfold Is at h ⊢;refine zc2c h fun a xs h1 h2 h3=>?_;exact⟨a,xs,h1,e _ _ h2,zp.same e ds xs h3⟩
 | .dict _,_,h=>by unfold Is at h;exact h.elim
theorem zp.same {H H':Hp}(e:yw H H'):∀(ds:List PyData) (xs:List V),zp H ds xs->zp H' ds xs
 | [],_,h=>by unfold zp at h ⊢;exact h
 |d::ds,xs,h=>by
  unfold zp at h ⊢;refine zc2c h fun x r h1 h2 h3=>?_;exact⟨x,r,h1,Is.same e d x h2,zp.same e ds r h3⟩
end
theorem zp.length {H:Hp}:∀{ds:List PyData} {xs:List V},zp H ds xs->xs.length=ds.length
 | [],_,h=>by unfold zp at h;subst h;rfl
 |d::ds,xs,h=>by
  unfold zp at h;refine zc2c h fun x r zr2 _ h3=>?_;subst zr2;rw[Zu,Zu,zp.length h3]
theorem zp.get {H:Hp}:∀{ds:List PyData} {xs:List V} {i:Nat} {d:PyData},zp H ds xs->ds[i]? = some d->∃x,xs[i]? = some x/\Is H d x
 | [],_,_,_,_,e=>by simp at e
 |d::ds,xs,0,d',h,e=>by
  unfold zp at h;refine zc2c h fun x r zr2 h2 _=>?_;subst zr2;simp at e;subst e;exact⟨x,rfl,h2⟩
 |d::ds,xs,i+1,d',h,e=>by
  unfold zp at h;refine zc2c h fun x r zr2 _ h3=>?_;subst zr2;refine zc1b (zp.get (i:=i) h3 (by simpa using e)) fun y h4 h5=>?_;exact⟨y,by simpa using h4,h5⟩
theorem sC {H:Hp}:∀(ns:List Int),zp H (ns.map PyData.int) (ns.map V.int)
 | []=>by show zp H [] [];unfold zp;rfl
 |n::ns=>by
  show zp H (PyData.int n::ns.map PyData.int) (V.int n::ns.map V.int);unfold zp;exact⟨_,_,rfl,by unfold Is;rfl,sC ns⟩
theorem wF {H:Hp}:∀{ns:List Int} {xs:List V},zp H (ns.map PyData.int) xs->xs=ns.map V.int
 | [],_,h=>by
  have h:zp H [] _:=h;unfold zp at h;exact h
 |n::ns,xs,h=>by
  have h:zp H (PyData.int n::ns.map PyData.int) xs:=h;unfold zp at h;obtain⟨x,r,rfl,h2,h3⟩:=h;unfold Is at h2;rw[h2,wF h3];rfl
theorem Is.list_iff {H:Hp}{ds:List PyData}{v:V}:Is H (.list ds) v↔∃a xs,v=.ref a/\H a=some (.lst xs)/\zp H ds xs:=by unfold Is;exact Iff.rfl
theorem Is.tuple_iff {H:Hp}{ds:List PyData}{v:V}:Is H (.tuple ds) v↔∃a xs,v=.ref a/\H a=some (.tup xs)/\zp H ds xs:=by unfold Is;exact Iff.rfl
mutual
noncomputable def zY:PyData->Bool
 | .int _=>true
 | .list xs=>yr xs
 | .tuple xs=>yr xs
 | .none=>false
 | .bool _=>false
 | .str _=>false
 | .dict _=>false
noncomputable def yr:List PyData->Bool
 | []=>true
 |x::xs=>zY x&&yr xs
end
mutual
theorem uJ:∀d:PyData,zY d=true->d.canLay0=true
 | .int _,_=>by unfold PyData.canLay0;rfl
 | .list xs,h=>by unfold zY at h;unfold PyData.canLay0;exact wn xs h
 | .tuple xs,h=>by unfold zY at h;unfold PyData.canLay0;exact wn xs h
 | .none,h=>by unfold zY at h;exact zqb h
 | .bool _,h=>by unfold zY at h;exact zqb h
 | .str _,h=>by unfold zY at h;exact zqb h
 | .dict _,h=>by unfold zY at h;exact zqb h
theorem wn:∀xs:List PyData,yr xs=true->PyData.canLayAll0 xs=true
 | [],_=>by unfold PyData.canLayAll0;rfl
 |x::xs,h=>by
  unfold yr at h;obtain⟨h1,h2⟩:=Bool.and_eq_true_iff.mp h;unfold PyData.canLayAll0;rw[uJ x h1,wn xs h2];rfl
end
mutual
theorem oK:∀d e:PyData,zY d=true->zY e=true->(PyData.eqv d e=true↔d=e)
 | .int i,.int j,_,_=>by unfold PyData.eqv;simp
 | .int i,.list ys,_,_=>by unfold PyData.eqv;simp
 | .int i,.tuple ys,_,_=>by unfold PyData.eqv;simp
 | .list xs,.int j,_,_=>by unfold PyData.eqv;simp
 | .list xs,.list ys,h1,h2=>by
  unfold zY at h1 h2;have q:=vR xs ys h1 h2;unfold PyData.eqv;rw[q];simp
 | .list xs,.tuple ys,_,_=>by unfold PyData.eqv;simp
 | .tuple xs,.int j,_,_=>by unfold PyData.eqv;simp
 | .tuple xs,.list ys,_,_=>by unfold PyData.eqv;simp
 | .tuple xs,.tuple ys,h1,h2=>by
  unfold zY at h1 h2;have q:=vR xs ys h1 h2;unfold PyData.eqv;rw[q];simp
 | .none,_,h,_=>by unfold zY at h;exact zqb h
 | .bool _,_,h,_=>by unfold zY at h;exact zqb h
 | .str _,_,h,_=>by unfold zY at h;exact zqb h
 | .dict _,_,h,_=>by unfold zY at h;exact zqb h
 |_,.none,_,h=>by unfold zY at h;exact zqb h
 |_,.bool _,_,h=>by unfold zY at h;exact zqb h
 |_,.str _,_,h=>by unfold zY at h;exact zqb h
 |_,.dict _,_,h=>by unfold zY at h;exact zqb h
theorem vR:∀xs ys:List PyData,yr xs=true->yr ys=true->(PyData.eqvAll xs ys=true↔xs=ys)
 | [],[],_,_=>by unfold PyData.eqvAll;simp
 | [],y::ys,_,_=>by unfold PyData.eqvAll;simp
 |x::xs,[],_,_=>by unfold PyData.eqvAll;simp
 |x::xs,y::ys,h1,h2=>by
  unfold yr at h1 h2;obtain⟨a1,a2⟩:=Bool.and_eq_true_iff.mp h1;obtain⟨b1,b2⟩:=Bool.and_eq_true_iff.mp h2;unfold PyData.eqvAll;rw[Bool.and_eq_true_iff,oK x y a1 b1,vR xs ys a2 b2];simp
end
theorem eqv_ne {d e:PyData}(h1:zY d=true)(h2:zY e=true)(h:d≠e):PyData.eqv d e=false:=by
 cases q:PyData.eqv d e with
 |false=>rfl
 |true=>exact Zn ((oK d e h1 h2).mp q) h
theorem eqv_self {d:PyData}(h1:zY d=true):PyData.eqv d d=true:=(oK d d h1 h1).mpr rfl
section
variable {X:Cx}
noncomputable def rC:List Int->Int
 | []=>0
 |x::r=>r.foldl max x
noncomputable def jz:List Int->Int
 | []=>0
 |x::r=>r.foldl min x
theorem vZ:∀(r:List Int) (x:Int),x<=r.foldl max x/\(∀y∈r,y<=r.foldl max x)/\(r.foldl max x=x\/r.foldl max x∈r)
 | [],x=>⟨Int.le_refl _,(fun _ h=>nomatch h),.inl rfl⟩
 |y::r,x=>by
  refine xm (vZ r (max x y)) fun h1 h2 h3=>?_;show x<=r.foldl max (max x y)/\(∀z∈y::r,z<=r.foldl max (max x y))/\(r.foldl max (max x y)=x\/r.foldl max (max x y)∈y::r);refine⟨by omega,fun z hz=>?_,?_⟩
  ·rcases List.mem_cons.mp hz with rfl|hz
   ·omega
   ·exact h2 z hz
  ·rcases h3 with h3|h3
   ·by_cases hxy:x<=y
    ·right;rw[h3,Int.max_eq_right hxy];exact Zqs
    ·left;rw[h3,Int.max_eq_left (by omega)]
   ·right;exact Zqm _ h3
theorem xC {l:List Int}(h:l ≠ []):rC l∈l/\∀y∈l,y<=rC l:=by
 cases l with
 |nil=>exact Zn rfl h
 |cons x r =>
  refine xm (vZ r x) fun h1 h2 h3=>?_;refine⟨?_,fun y hy=>?_⟩
  ·rcases h3 with h3|h3
   ·show r.foldl max x∈x::r;rw[h3];exact Zqs
   ·exact Zqm _ h3
  ·rcases List.mem_cons.mp hy with rfl|hy
   ·exact h1
   ·exact h2 y hy
theorem lU {l:List Int}{M:Int}(h1:M∈l)(h2:∀y∈l,y<=M):M=rC l:=by
 obtain⟨q1,q2⟩:=xC (l:=l) (by intro e;rw[e] at h1;cases h1);have a:=q2 M h1;have b:=h2 _ q1;omega
theorem uj:∀(r:List Int) (x:Int),r.foldl min x<=x/\(∀y∈r,r.foldl min x<=y)/\(r.foldl min x=x\/r.foldl min x∈r)
 | [],x=>⟨Int.le_refl _,(fun _ h=>nomatch h),.inl rfl⟩
 |y::r,x=>by
  refine xm (uj r (min x y)) fun h1 h2 h3=>?_;show r.foldl min (min x y)<=x/\(∀z∈y::r,r.foldl min (min x y)<=z)/\(r.foldl min (min x y)=x\/r.foldl min (min x y)∈y::r);refine⟨by omega,fun z hz=>?_,?_⟩
  ·rcases List.mem_cons.mp hz with rfl|hz
   ·omega
   ·exact h2 z hz
  ·rcases h3 with h3|h3
   ·by_cases hxy:x<=y
    ·left;rw[h3,Int.min_eq_left hxy]
    ·right;rw[h3,Int.min_eq_right (by omega)];exact Zqs
   ·right;exact Zqm _ h3
theorem t3 {l:List Int}(h:l ≠ []):jz l∈l/\∀y∈l,jz l<=y:=by
 cases l with
 |nil=>exact Zn rfl h
 |cons x r =>
  refine xm (uj r x) fun h1 h2 h3=>?_;refine⟨?_,fun y hy=>?_⟩
  ·rcases h3 with h3|h3
   ·show r.foldl min x∈x::r;rw[h3];exact Zqs
   ·exact Zqm _ h3
  ·rcases List.mem_cons.mp hy with rfl|hy
   ·exact h1
   ·exact h2 y hy
theorem minI_eq {l:List Int}{M:Int}(h1:M∈l)(h2:∀y∈l,M<=y):M=jz l:=by
 obtain⟨q1,q2⟩:=t3 (l:=l) (by intro e;rw[e] at h1;cases h1);have a:=q2 M h1;have b:=h2 _ q1;omega
theorem call_maxL (hc:X.calm=true):zD X (.builtin "max") (fun xs H Q=>∃a ns,xs=[.ref a]/\SqL X.K H a (ns.map V.int)/\ns ≠ []/\Q (.int (rC ns)) H):=by
 intro pins s σ H xs us Q I r h;refine zc2d h fun a ns zr2 hl hne q=>?_;subst zr2;refine zc1b (vy r) fun u zr1 ru=>?_;subst zr1;obtain rfl:u=Value.ref a:=ru;refine zc1c (I.list hl) fun its rv p hz=>?_;have hi:IntsAre its ns:=vM rv;obtain⟨ys,e⟩:=hi.allInts.items;have hns:ns=ys.toList.map (·.1):=by
  rw[<- hi.numsOf,<- nums_intItems,<- e]
 have hsz:0<ys.size:=by
  have h3:0<ns.length:=List.length_pos_iff.mpr hne;rw[hns,Zql,Array.length_toList] at h3;exact h3
 have hl':=p.isList;rw[e] at hl';refine max_intList (I.ok.hd hc) hl' hsz fun v h' tk hv hk=>?_;obtain⟨t,rfl⟩:=intItems_at hv;obtain⟨h1,h2⟩:=argBest_gt (numAt ys) (ys.size-1);refine⟨.int (rC ns),H,I.kept hk,⟨t,?_⟩,q⟩
 congr 1
 refine lU ?_ fun b hb=>?_
 ·rw[hns,numAt_eq];exact PySem.getD_mem (by rw[Zql,Array.length_toList];omega)
 ·rw[hns] at hb;refine zc1b (PySem.mem_getD hb) fun j hj zr2=>?_;subst zr2;rw[Zql,Array.length_toList] at hj;rw[<- numAt_eq];exact h2 j (by omega)
theorem call_minL (hc:X.calm=true):zD X (.builtin "min") (fun xs H Q=>∃a ns,xs=[.ref a]/\SqL X.K H a (ns.map V.int)/\ns ≠ []/\Q (.int (jz ns)) H):=by
 intro pins s σ H xs us Q I r h;refine zc2d h fun a ns zr2 hl hne q=>?_;subst zr2;refine zc1b (vy r) fun u zr1 ru=>?_;subst zr1;obtain rfl:u=Value.ref a:=ru;refine zc1c (I.list hl) fun its rv p hz=>?_;have hi:IntsAre its ns:=vM rv;obtain⟨ys,e⟩:=hi.allInts.items;have hns:ns=ys.toList.map (·.1):=by
  rw[<- hi.numsOf,<- nums_intItems,<- e]
 have hsz:0<ys.size:=by
  have h3:0<ns.length:=List.length_pos_iff.mpr hne;rw[hns,Zql,Array.length_toList] at h3;exact h3
 have hl':=p.isList;rw[e] at hl';refine min_intList (I.ok.hd hc) hl' hsz fun v h' tk hv hk=>?_;obtain⟨t,rfl⟩:=intItems_at hv;obtain⟨h1,h2⟩:=argBest_lt (numAt ys) (ys.size-1);refine⟨.int (jz ns),H,I.kept hk,⟨t,?_⟩,q⟩
 congr 1
 refine minI_eq ?_ fun b hb=>?_
 ·rw[hns,numAt_eq];exact PySem.getD_mem (by rw[Zql,Array.length_toList];omega)
 ·rw[hns] at hb;refine zc1b (PySem.mem_getD hb) fun j hj zr2=>?_;subst zr2;rw[Zql,Array.length_toList] at hj;rw[<- numAt_eq];exact h2 j (by omega)
theorem call_isi:zD X (.builtin "isinstance") (fun xs H Q=>∃x n t b,xs=[x,.ty n]/\TyOf X.K H x t/\W.kitOne X.K t (.type n)=some b/\Q (.bl b) H):=by
 intro pins s σ H xs us Q I r h;refine zc4a h fun x n t b zz=>qD zz fun zr4 ty e q=>?_;subst zr4;refine zc2c (lN r) fun u w' zr2 rx rn=>?_;subst zr2;obtain rfl:w'=Value.type n:=rn;exact isinst_ok I rx ty e fun tk=>⟨.bl b,H,I.tok tk,rfl,q⟩
def zA (P:Program)(w:World)(K:W.Frag)(mg:Str->Option Value)(base:Heap)(name:Str)(k:Nat)(ps:List Str)(sp:Sp):Prop :=
 ∃f fd,FnOk P w K mg base CX0 k f fd ps sp/\qU K fd ps []/\W.keepIn K (.ref f)=true/\mg name=some (.ref f)
theorem zA.mono {P:Program}{w:World}{K:W.Frag}{mg:Str->Option Value}{base:Heap}{name:Str}{j k:Nat}{ps:List Str}{sp:Sp}(c:zA P w K mg base name j ps sp)(h:j<=k):zA P w K mg base name k ps sp:=by
 refine zc2b c fun f fd F r=>?_;exact⟨f,fd,F.mono h,r⟩
theorem iQ {name:Str}{k:Nat}{ps:List Str}{sp:Sp}{p pos:Pos}{e:Expr}{es:List Expr}{t:TA}(c:zA X.prog X.w X.K X.mg X.base name k ps sp)(hr:Room k X.A)(hg:Gl X name)(ha:PA X (e::es) t)
 (hdb:autoParam ((name == ("__debug__" : Str))=false) zav._auto_1) (he:starEach (e::es) X.env=(false,eval e X.env)::starEach es X.env:=by rfl) (hpl:(backTo pos (starEach es X.env)).any (·.1)=false:=by rfl) :
 PE X (.Call (.Name name p) (e::es) [] pos) (hU sp [] E0 t):=by
 refine zc2d c fun f fd F b hk hm=>?_;exact lu F hr hg hm hk b .nil pass0 ha hdb he hpl
end
theorem y9 {H:Hp}{p:Addr}(h:H p=none)(o:HO):yw H (upd H p o):=fun b u q=>by rw[zC (yK q h)];exact q
theorem wN {n:Nat}(h:n<=1000):n<=sizeLine:=Zy (qZ h)
noncomputable def pD (p:Int×Int):PyData:=.tuple [.int p.1,.int p.2]
noncomputable def rD (r:List (Int×Int)):PyData:=.tuple (r.map pD)
theorem rB {H:Hp}{p:Int×Int}{v:V}:Is H (pD p) v↔∃a,v=.ref a/\H a=some (.tup [.int p.1,.int p.2]):=by
 unfold pD;rw[Is.tuple_iff];constructor
 ·rintro⟨a,xs,h1,h2,h3⟩;have e:xs=[.int p.1,.int p.2]:=wF (ns:=[p.1,p.2]) h3;subst e;exact⟨a,h1,h2⟩
 ·rintro⟨a,h1,h2⟩;exact⟨a,_,h1,h2,sC [p.1,p.2]⟩
theorem nK {H H':Hp}{l:Addr}(o:HO)(s:yw H H')(h:H l=none):yw H (upd H' l o):=fun b u e=>by
 rw[zC (yK e h)];exact s b u e
theorem sB:∀ns:List Int,yr (ns.map PyData.int)=true
 | []=>by show yr []=true;unfold yr;rfl
 |n::ns=>by
  show yr (PyData.int n::ns.map PyData.int)=true;unfold yr;rw[sB ns];unfold zY;rfl
theorem vm (p:Int×Int):zY (pD p)=true:=by unfold pD zY;exact sB [p.1,p.2]
theorem sG:∀ns:List Int,PyData.depthAll (ns.map PyData.int)=0
 | []=>by show PyData.depthAll []=0;unfold PyData.depthAll;rfl
 |n::ns=>by
  show PyData.depthAll (PyData.int n::ns.map PyData.int)=0;unfold PyData.depthAll;rw[sG ns];unfold PyData.depth;rfl
theorem tJ:bootBuiltins "len" = some (.builtin "len"):=boot_len
theorem qj:bootBuiltins "max" = some (.builtin "max"):=boot_max
theorem iJ:bootBuiltins "min" = some (.builtin "min"):=boot_min
theorem yD:bootBuiltins "isinstance" = some (.builtin "isinstance"):=boot_isinstance
theorem vf:bootBuiltins "sorted" = some (.builtin "sorted"):=boot_sorted
theorem bt_sum:bootBuiltins "sum" = some (.builtin "sum"):=boot_sum
theorem bt_int:bootBuiltins "int" = some (.type "int"):=boot_int
theorem bt_bool:bootBuiltins "bool" = some (.type "bool"):=boot_bool
theorem kX:bootBuiltins "list" = some (.type "list"):=boot_list
theorem w6:bootBuiltins "tuple" = some (.type "tuple"):=boot_tuple
theorem rq:bootBuiltins "dict" = some (.type "dict"):=boot_dict
theorem bt_set:bootBuiltins "set" = some (.type "set"):=boot_set
theorem uW:entryFor table "dict.update.loop" = some Builtin.«dict.update.loop»:=entryFor_of_tree (by kernel_rfl)
theorem xO:plainId "dict.update.loop" = true:=by decide +kernel
section
variable {prog:Program}{w:World}{K:Type}[DecidableEq K]{knd:KeyKind prog w K}
theorem dloop (knd:KeyKind prog w K)(it t d:Addr)(items:Array Value)(ps:List (K×Value))(h0:Heap)(hlen:items.size=ps.length)
 (hit:∀(j:Nat) k v,ps[j]? = some (k,v)->∃ta key,items[j]? = some (.ref ta)/\h0.IsTuple ta #[key,v]/\knd.is k key=true/\ta≠it/\ta≠d)
 (ht0:h0.IsTuple t items) (n1:t≠it) (n2:t≠d) (n3:d≠it) (m:Nat) :
 ∀i:Nat,ps.length-i=m->∀(A:Around) (R:Result->Shared->Prop) (s:Shared) (kvs:List (K×Value)),A.handled=none->s.heap.IsTupleIter it t i->(∀b o,b≠it->b≠d->h0.get? b=some o->s.heap.get? b=some o) ->
  s.heap.DictOf knd d kvs->kvs.length+(ps.length-i)<=sizeLine ->
  (∀h' tk,h'.DictOf knd d (merged kvs (ps.drop i))->(∀b o,b≠it->b≠d->h0.get? b=some o->h'.get? b=some o)->R (.ok (.ret .none)) { s with heap:=h',toks:=tk }) ->
  wpAny (model prog w) A.in1 (Builtin.«dict.update.loop» ⟨[.ref d,.ref it,rawInt i,.none],[]⟩) (fun fin s'=>match fin with | .done f=>R (.ok f) s' | .again c'=>c'.quiet=true/\codeAny (model prog w) A c' R s') (fun e s'=>R (.error e) s') s:=by
 induction m with
 |zero =>
  intro i hm A R s kvs hh st keep hD hz hR;have hx:items[i]? = none:=by rw[Array.getElem?_eq_none_iff];omega
  have ht:s.heap.IsTuple t items:=by
   refine zc1b ht0 fun o ho r=>?_;exact⟨o,keep t o n1 n2 ho,r⟩
  unfold Builtin.«dict.update.loop»;refine Za (wpAny_pyNext_tuple_end hh st ht hx fun h' eb=>?_);have hd0:ps.drop i=[]:=List.drop_eq_nil_of_le (by omega);rw[hd0] at hR;have hD':h'.DictOf knd d kvs:=by
   refine zc3b hD fun o es ep ho r=>?_;exact⟨o,es,ep,eb d o n3 ho,r⟩
  have fin:=hR h' s.toks hD' (fun b o h1 h2 e=>eb b o h1 (keep b o h1 h2 e));unfold Builtin.Dict.addKeywords;exact Za (Zb (Zb fin))
 |succ m ih =>
  intro i hm A R s kvs hh st keep hD hz hR;have hlt:i<ps.length:=by omega
  obtain⟨kv,hkv⟩:∃kv,ps[i]? = some kv:=⟨_,Zqg hlt⟩;refine zc2a (hit i kv.1 kv.2 hkv) fun ta key zz=>yT zz fun hx hta hkey a1 a2=>?_;have ht:s.heap.IsTuple t items:=by
   refine zc1b ht0 fun o ho r=>?_;exact⟨o,keep t o n1 n2 ho,r⟩
  unfold Builtin.«dict.update.loop»;refine Za (wpAny_pyNext_tuple_item st ht hx fun h1 st1 sb1=>?_);refine zc1c hta fun ot hot hoc zz=>zc1a zz fun nn hod=>?_;have hot1:h1.get? ta=some ot:=(sb1.2 ta a1).trans (keep ta ot a1 a2 hot);have hD1:h1.DictOf knd d kvs:=by
   refine zc3b hD fun o es ep ho r=>?_;exact⟨o,es,ep,(sb1.2 d n3).trans ho,r⟩
  dsimp only;refine Za (wpAny_holding (Za (wpAny_tryCatch ?_)));unfold Builtin.Dict.pairItems;refine Za (wpAny_typeOf (T := "tuple") ⟨ot,hot1,hoc⟩ ?_);rw[Zd (by decide)];refine Za (wpAny_seqItems hot1 hod (Zb ?_));show wpAny _ _ (holding [key,kv.2] (dictSet d key kv.2)) _ _ _;refine wpAny_holding (wpAny_dictSet_pairs hkey hD1 (fun h2 hD2 sb2=>?_) (by omega));have hc:((i:Int)+1)=((i+1:Nat):Int):=by push_cast;rfl
  refine Zb ?_;rw[hc];have st2:h2.IsTupleIter it t (i+1):=by
   refine zc1b st1 fun o ho r=>?_;exact⟨o,(sb2.2 it (Ne.symm n3)).trans ho,r⟩
  have k2:∀b o,b≠it->b≠d->h0.get? b=some o->h2.get? b=some o:=fun b o b1 b2 e=>(sb2.2 b b2).trans ((sb1.2 b b1).trans (keep b o b1 b2 e));have z2:(stored kvs kv.1 kv.2).length+(ps.length-(i+1))<=sizeLine:=by
   have:(stored kvs kv.1 kv.2).length<=kvs.length+1:=by
    unfold stored
    split
    ·rw[Zql];omega
    ·rw[List.length_append,List.length_singleton];omega
   omega
  have e:merged kvs (ps.drop i)=merged (stored kvs kv.1 kv.2) (ps.drop (i+1)):=by
   rw[List.drop_eq_getElem_cons hlt];have:ps[i]=kv:=by
    have:=Zqg hlt;rw[this] at hkv;exact Zqi hkv
   rw[this];rfl
  exact⟨plainId_quiet xO _,codeAny_builtin uW (by
   rw[Around.under_plainId xO _];exact ih (i+1) (by omega) A R { s with heap:=h2,toks:=s.toks+1 } (stored kvs kv.1 kv.2) hh st2 k2 hD2 z2 fun h' tk hD' kk=>hR h' tk (by rw[e];exact hD') kk)⟩
end
theorem no_keys_lookup:typeLookup (.type "tuple") "keys" = pure none:=by rw[typeLookup_type,builtinLookup_eq_fast];kernel_rfl
theorem getAttrQ_miss_tuple {prog:Program}{w:World}{A:Around}{E:Value->Shared->Prop}{s:Shared}{a:Addr}{o:Obj}{xs:Array Value}{k:Nat}{name:Str}{Q:Option Value->Shared->Prop}
 (hx:s.heap.get? a=some o) (hc:o.cls=.type "tuple") (hdat:o.data=.seq xs k) (hd:o.dict=none) (hmiss:typeLookup (.type "tuple") name=pure none) (hname:(["__module__", "__name__", "__qualname__", "__doc__", "__annotations__"]:List Str).contains name=false) (hA:A.handled=none)
 (h:∀h' tk,(∀b o,s.heap.get? b=some o->h'.get? b=some o)->Q none { s with heap:=h',toks:=tk }) (hsz:name.length+100<=sizeLine:=by size_fits) :
 wpAny (model prog w) A (getAttr? (.ref a) name) Q E s:=by
 obtain⟨c,dct,dat,sl⟩:=o;simp only at hc hdat hd;subst hc hdat hd;obtain⟨hp,g,d,tk,os⟩:=s;have hT:∀tk',(⟨hp,g,d,tk',os⟩:Shared).TypeIs (.ref a) "tuple" := fun _=>⟨_,hx,rfl⟩;have f1:=sub_AttributeError;have f3:=F.slot_tuple_getattribute.lookup;have f4:=F.slot_tuple_getattribute.bind (.ref a);have f5:=am_tuple_getattr_none;unfold getAttr? getAttrBy? getAttrBy
 repeat (any_goals (first|assumption|exact hT _|((with_reducible show wpAny _ _ (call (Value.builtin "tuple.__getattribute__") _ _) _ _ _);refine call_meets F.slot_tuple_getattribute (hT _) am_entry_tuple_getattribute (F.args_tuple_getattribute_2 _ _) (meets_getattribute_miss_tuple a xs k sl name _ hmiss hname hsz) ⟨hx,hA,fun h' tk' e hx'=>?_⟩)|wp_step))
 refine zc2a hx'.there fun t' u' he=>?_;show wpAny _ _ (getattributeRaised _ _ _ _ _ _ _) _ _ _;unfold getattributeRaised
 repeat (any_goals (first|assumption|wp_step))
 exact h _ _ hx'.of.keeps
section
variable {prog:Program}{w:World}{K:Type}[DecidableEq K]{A:Around}{E:Value->Shared->Prop}{s:Shared}
theorem dict_of_pairs (knd:KeyKind prog w K){t:Addr}{o:Obj}{items:Array Value}{n:Nat}{ps:List (K×Value)}{Q:Value->Shared->Prop}(hA:A.handled=none)(ho:s.heap.get? t=some o)(hc:o.cls=.type "tuple")(hdat:o.data=.seq items n)(hd:o.dict=none)
 (hlen:items.size=ps.length) (hit:∀(j:Nat) k v,ps[j]? = some (k,v)->∃ta key,items[j]? = some (.ref ta)/\s.heap.IsTuple ta #[key,v]/\knd.is k key=true) (hz:ps.length<=sizeLine)
 (h:∀h' tk,h'.DictOf knd s.heap.objs.size (merged [] ps)->(∀b u,s.heap.get? b=some u->h'.get? b=some u)->Q (.ref s.heap.objs.size) { s with heap:=h',toks:=tk }) :
 wpAny (model prog w) A (call (.type "dict") [.ref t]) Q E s:=by
 refine callType_codes (Q₁:=fun obj s₁=>obj=.ref s.heap.objs.size/\s₁={ s with heap:=s.heap.push { cls:=.type "dict",data:=.dict #[] } }) F.kt_called_dict (F.kt_typeCall_dict_1 _) F.entry_dict_init (kt_code_dict_new _ ⟨rfl,rfl⟩) ?_;rintro obj s₁ ⟨rfl,rfl⟩;have hnew:(s.heap.push { cls:=.type "dict",data:=.dict #[] }).DictOf knd s.heap.objs.size []:=Heap.DictOf.new s.heap;refine⟨hnew.typeIs,F.args_dict_init_2 _ _,?_⟩;have ho1:(s.heap.push { cls:=.type "dict",data:=.dict #[] }).get? t=some o:=Zq _ ho;unfold Builtin.«dict.__init__»;refine Za ?_;unfold Builtin.Dict.selfAndRest;refine Za (wpAny_notOrdered_dict hnew.typeIs ?_);show wpAny _ _ (pure (s.heap.objs.size,[Value.ref t])) _ _ _;refine Zb ?_;show wpAny _ _ (Builtin.Dict.updateFrom "dict.__init__" s.heap.objs.size (.ref t) [] .none) _ _ _;unfold Builtin.Dict.updateFrom;refine Za (wpAny_typeOf (T := "tuple") ⟨o,ho1,hc⟩ ?_);rw[Zd (by decide)];refine Za (getAttrQ_miss_tuple ho1 hc hdat hd no_keys_lookup (by decide +kernel) hA (fun h2 tk2 k2=>?_) (by decide));rw[Zd (by rfl)];have ht2:h2.IsTuple t items:=⟨o,k2 _ _ ho1,hc,n,hdat⟩;have lt:s.heap.objs.size<h2.objs.size:=by
  refine zc3b hnew fun od _ _ e _=>?_;exact Zk (k2 _ _ e)
 have D2:h2.DictOf knd s.heap.objs.size []:=by
  refine zc3b hnew fun od es ep e r=>?_;exact⟨od,es,ep,k2 _ _ e,r⟩
 refine Za (wpAny_rule ?_);refine Za (wpAny_pyIter_tuple ht2 ?_);have lt0:∀b u,s.heap.get? b=some u->b≠s.heap.objs.size/\b≠h2.objs.size:=fun b u e=>by
  have z:=Zk e;exact⟨Zi z,Zi (Nat.lt_trans z lt)⟩
 have up:∀b u,s.heap.get? b=some u->h2.get? b=some u:=fun b u e=>k2 b u (Zq _ e);have hit2:∀(j:Nat) k v,ps[j]? = some (k,v)->∃ta key,items[j]? = some (.ref ta)/\h2.IsTuple ta #[key,v]/\knd.is k key=true/\ta≠h2.objs.size/\ta≠s.heap.objs.size:=fun j k v e=>by
  refine zc2c (hit j k v e) fun ta key a1 zr3 a4=>?_;obtain⟨oa,a2,a3⟩:=zr3;exact⟨ta,key,a1,⟨oa,up _ _ a2,a3⟩,a4,(lt0 ta oa a2).2,(lt0 ta oa a2).1⟩
 refine Zb ⟨plainId_quiet xO _,codeAny_builtin uW ?_⟩;rw[Around.under_plainId xO _];refine dloop knd h2.objs.size t s.heap.objs.size items ps h2 hlen hit2 ht2 (lt0 t o ho).2 (lt0 t o ho).1 (Zi lt) ps.length 0 (by simp) A.in1 _ _ [] hA ⟨_,Zr _ rfl,rfl,rfl⟩ (fun b u _ _ e=>Zq _ e) ?_ (by simpa using hz) ?_
 ·refine zc3b D2 fun od es ep e r=>?_;exact⟨od,es,ep,Zq _ e,r⟩
 ·intro h' tk hD' kk;exact⟨rfl,h h' tk hD' fun b u e=>kk b u (lt0 b u e).2 (lt0 b u e).1 (up b u e)⟩
end
noncomputable def kvR (r:List (Int×Int)):List (Key×V):=r.map fun p=>(Sum.inl p.1,V.int p.2)
def kP (r:List (Int×Int)):List (Key×V):=tS [] (kvR r)
theorem wE {H:Hp}{P:Program}{w:World}{h:Heap}(ok:HOk P w H h):∀{r:List (Int×Int)} {xs:List V} {us:List Value},zp H (r.map pD) xs->yq xs us ->
 ∃ps:List (Key×Value),KV (kvR r) ps/\us.length=ps.length/\∀(j:Nat) k v,ps[j]? = some (k,v)->∃ta key,us[j]? = some (.ref ta)/\h.IsTuple ta #[key,v]/\(zS P w).is k key=true
 | [],xs,us,ha,r=>by
  have ha:zp H [] xs:=ha;unfold zp at ha;subst ha;cases r;exact⟨[],.nil,rfl,fun j k v e=>by simp at e⟩
 |p::r,xs,us,ha,rv=>by
  have ha:zp H (pD p::r.map pD) xs:=ha;unfold zp at ha;refine zc2c ha fun x ys zr2 h1 h2=>?_;subst zr2;cases rv with
  | @cons _ u _ us' r1 r2 =>
   refine zc1c (wE ok h2 r2) fun ps k1 k2 k3=>?_;refine zc1b (rB.mp h1) fun a zr1 ht=>?_;subst zr1;obtain rfl:u=Value.ref a:=r1;refine we ((show yj P w H h a (.tup [.int p.1,.int p.2]) from ok a _ ht)) fun _ zz=>zc1b zz fun its ri zz=>zc1c zz fun o e1 e2 zz=>zc1a zz fun n e3=>?_;refine zc2c (lN ri) fun u1 u2 zr2 q1 q2=>?_;subst zr2;obtain⟨t1,rfl⟩:=(show ∃t,u1=Value.int p.1 t from q1);refine⟨(Sum.inl p.1,u2)::ps,.cons ⟨rfl,q2⟩ k1,by rw[Zu,Zu,k2],fun j k v e=>?_⟩;cases j with
   |zero =>
    have e:some ((Sum.inl p.1:Key),u2)=some (k,v):=e;cases e;exact⟨a,.int p.1 t1,rfl,⟨o,e1,e2,n,e3⟩,qF p.1 t1⟩
   |succ j =>
    exact k3 j k v (by simpa using e)
section
variable {X:Cx}
theorem call_dictP (hc:X.calm=true):zD X (.type "dict") (fun xs H Q=>∃a r,xs=[.ref a]/\Is H (rD r) (.ref a)/\r.length<=100/\∀p,H p=none->Q (.ref p) (upd H p (.dK (kP r)))):=by
 intro pins s σ H xs us Q I rv h;refine zc2d h fun a r zr2 hr hz q=>?_;subst zr2;refine zc1b (vy rv) fun u zr1 ru=>?_;subst zr1;obtain rfl:u=Value.ref a:=ru;unfold rD at hr;rw[Is.tuple_iff] at hr;refine zc2c hr fun a' xs ea ht hA=>?_;cases ea;refine we ((show yj X.prog X.w H s.heap a (.tup xs) from I.hok a _ ht)) fun zr0 zz=>zc1b zz fun its ri zz=>zc1c zz fun o e1 e2 zz=>zc1a zz fun n e3=>?_;obtain⟨hl,od,e0,d0⟩:=zr0;rw[e0] at e1;obtain rfl:=Zqi e1;refine zc1c (wE I.hok hA ri) fun ps k1 k2 k3=>?_;have lk:=k1.length;have lr:(kvR r).length=r.length:=Zql _;refine dict_of_pairs (zS X.prog X.w) (I.ok.hd hc) e0 e2 e3 d0 (by rw[Zm];exact k2) (fun j k v e=>?_) (by rw[<- lk,lr];exact wN (by omega)) fun h' tk hD hk=>?_
 ·refine zc2c (k3 j k v e) fun ta key b1 b2 b3=>?_;exact⟨ta,key,by simpa using b1,b2,b3⟩
 ·refine⟨.ref s.heap.objs.size,upd H s.heap.objs.size (.dK (kP r)),I.laid (a:=s.heap.objs.size) (o:=.dK (kP r)) (t':=tk) hk (Zf _) ?_,rfl,q _ (I.hok.fresh (Zf _))⟩;refine iG ?_ (beq_eq_false_iff_ne.mpr (Ne.symm (Zi I.big))) (KV.merge k1 .nil) hD;have z:=vb (kvR r) [];rw[ZB,lr] at z;exact wN (by unfold kP;omega)
end
noncomputable def zk:List (Int×Int)->Int->Option Int
 | [],_=>none
 |p::r,t=>match zk r t with
  |some w=>some w
  |none=>if p.1=t then some p.2 else none
theorem lookR_append (r s:List (Int×Int))(t:Int):zk (r++s) t=match zk s t with|some w=>some w|none=>zk r t:=by
 induction r with
 |nil=>simp[zk];cases zk s t<;>rfl
 |cons p r ih =>
  rw[List.cons_append,zk,ih];cases zk s t with
  |none=>rw[zk]
  |some w=>rfl
theorem zv {r:List (Int×Int)}{t w:Int}(h:zk r t=some w):(t,w)∈r:=by
 induction r with
 |nil=>simp[zk] at h
 |cons p r ih =>
  rw[zk] at h;cases q:zk r t with
  |some v =>
   rw[q] at h;obtain rfl:=Zqi h;exact Zqm _ (ih q)
  |none =>
   rw[q] at h;by_cases e:p.1=t
   ·rw[Zd e] at h;obtain rfl:=Zqi h;subst e;exact Zqs
   ·rw[Ze e] at h;exact zqn h
theorem rl {r:List (Int×Int)}{t:Int}(h:zk r t=none):∀w,(t,w)∉r:=by
 induction r with
 |nil=>intro w hw;cases hw
 |cons p r ih =>
  intro w hw;rw[zk] at h;cases q:zk r t with
  |some v=>rw[q] at h;cases h
  |none =>
   rw[q] at h;rcases List.mem_cons.mp hw with e|e
   ·rw[Zd (by rw[<- e])] at h;cases h
   ·exact ih q w e
noncomputable def yy (r:List (Int×Int)):Prop:=(r.map (·.1)).Nodup
theorem yy.eq {r:List (Int×Int)}(h:yy r){t v w:Int}(h1:(t,v)∈r)(h2:(t,w)∈r):v=w:=by
 induction r with
 |nil=>cases h1
 |cons p r ih =>
  obtain⟨n1,n2⟩:=List.nodup_cons.mp (show(p.1::r.map (·.1)).Nodup from h);rcases List.mem_cons.mp h1 with e1|e1<;>rcases List.mem_cons.mp h2 with e2|e2
  ·rw[<- e1] at e2;cases e2;rfl
  ·exact Zn (List.mem_map.mpr ⟨(t,w),e2,by rw[<- e1]⟩) n1
  ·exact Zn (List.mem_map.mpr ⟨(t,v),e1,by rw[<- e2]⟩) n1
  ·exact ih n2 e1 e2
theorem yy.look {r:List (Int×Int)}(h:yy r){t w:Int}(hm:(t,w)∈r):zk r t=some w:=by
 cases q:zk r t with
 |none=>exact Zn hm (rl q w)
 |some v=>rw[h.eq (zv q) hm]
def pT (o:List (Int×Int))(p:Int×Int):Bool:=match zk o p.1 with
 |some w=>decide (p.2<=w)
 |none=>false
def zl (r o:List (Int×Int)):Bool:=r.all (pT o)
theorem pO {r:List (Int×Int)}{t w:Int}(h:yy r)(hl:∀p∈r,p.1<t):yy (r++[(t,w)]):=by
 unfold yy at h ⊢;rw[List.map_append,List.nodup_append];refine⟨h,by simp,?_⟩;intro a ha b hb;refine zc1b (List.mem_map.mp ha) fun p hp zr2=>?_;subst zr2;have:=hl p hp;simp at hb;subst hb;omega
theorem xT {r o:List (Int×Int)}{i:Nat}{p:Int×Int}(hp:r[i]? = some p)(h:pT o p=false):zl r o=false:=by
 unfold zl;rw[List.all_eq_false];exact⟨p,List.mem_of_getElem? hp,by rw[h];simp⟩
theorem ym {α : Type}{r:List α}{i:Nat}{p:α}(hp:r[i]? = some p):r.take (i+1)=r.take i++[p]:=by
 rw[List.take_succ,hp];rfl
theorem sw {r o:List (Int×Int)}{i:Nat}{p:Int×Int}(hp:r[i]? = some p)(h:zl (r.take i) o=true)(h1:pT o p=true):zl (r.take (i+1)) o=true:=by
 rw[ym hp];unfold zl at h ⊢;rw[List.all_append,h,List.all_cons,h1];rfl
open PySem PyProof.Rows
theorem ip {l r k x:Nat}(h:l<r)(gap:r-l<=k-x):∃m,(l+r) / 2=m/\l<=m/\m<r/\m-l<=k-(x+1)/\r-(m+1)<=k-(x+1):=by
 have a:l<=(l+r) / 2:=by omega
 have b:(l+r) / 2<r:=by omega
 generalize (l+r) / 2=m at a b ⊢;exact⟨m,rfl,a,b,Nat.le_pred_of_lt (Zg (Nat.sub_lt_sub_right a b) gap),Nat.pred_le_pred (Zh (Nat.sub_le_sub_left a r) gap)⟩
structure Wk (lt:Nat->Nat->Bool):Prop where
 asy:∀i j,lt i j=true->lt j i=false
 neg:∀i j k,lt i k=true->lt i j=true\/lt j k=true
noncomputable def Bef (lt:Nat->Nat->Bool)(i j:Nat):Prop:=lt i j=true\/(lt j i=false/\i<j)
section
variable {lt:Nat->Nat->Bool}(W:Wk lt)
include W
theorem Bef.no {i j:Nat}(h:Bef lt i j):lt j i=false:=by
 rcases h with h|h
 ·exact W.asy _ _ h
 ·exact h.1
theorem Bef.trans {i j k:Nat}(h1:Bef lt i j)(h2:Bef lt j k):Bef lt i k:=by
 have n1:=Bef.no W h1;have n2:=Bef.no W h2;have n3:lt k i=false:=by
  cases q:lt k i with
  |false=>rfl
  |true =>
   rcases W.neg k j i q with z|z
   ·rw[n2] at z;exact zqb z
   ·rw[n1] at z;exact zqb z
 rcases h1 with a|a
 ·rcases W.neg i k j a with z|z
  ·exact .inl z
  ·rw[n2] at z;exact zqb z
 ·rcases h2 with b|b
  ·rcases W.neg j i k b with z|z
   ·rw[a.1] at z;exact zqb z
   ·exact .inl z
  ·exact .inr ⟨n3,by omega⟩
end
noncomputable def gx (ix:Array Nat)(k:Nat):Nat:=(ix[k]?).getD 0
theorem kh {ix:Array Nat}{k:Nat}(h:k<ix.size):ix[k]? = some (gx ix k):=by
 unfold gx;rw[Array.getElem?_eq_getElem h];rfl
theorem wu {ix:Array Nat}{src d:Nat}(hs:src<ix.size)(hd:d<=src)(k:Nat):gx (bubble ix src d) k=if k=src-d then gx ix src else if src-d<k/\k<=src then gx ix (k-1) else gx ix k:=by
 unfold gx;rw[getElem?_bubble hs d hd k]
 repeat' split
 all_goals rfl
theorem zR {ix:Array Nat}{i j:Nat}(hj:j<=ix.size)(k:Nat):gx (mirror ix i j ((j-i) / 2)) k=if i<=k/\k<j then gx ix (i+j-1-k) else gx ix k:=by
 unfold gx;rw[getElem?_mirror_all hj k]
 split
 all_goals rfl
theorem swap_map {α β : Type}(f:α -> β)(xs:Array α)(i j:Nat):(xs.map f).swapIfInBounds i j=(xs.swapIfInBounds i j).map f:=by
 apply Array.ext_getElem?;intro k;by_cases hi:i<xs.size
 ·by_cases hj:j<xs.size
  ·rw[getElem?_swapIB (by simpa -iota using hi) (by simpa -iota using hj),Array.getElem?_map,Array.getElem?_map,Array.getElem?_map,Array.getElem?_map,getElem?_swapIB hi hj]
   repeat' split
   all_goals rfl
  ·rw[Array.swapIfInBounds_def,Array.swapIfInBounds_def,dif_pos (by simpa -iota using hi),dif_neg (by simpa -iota using hj),dif_pos hi,dif_neg hj]
 ·rw[Array.swapIfInBounds_def,Array.swapIfInBounds_def,dif_neg (by simpa -iota using hi),dif_neg hi]
theorem tK {α β γ : Type}(f:α -> β)(p q:γ -> Nat):∀(l:List γ) (xs:Array α),l.foldl (fun a k=>a.swapIfInBounds (p k) (q k)) (xs.map f)=(l.foldl (fun a k=>a.swapIfInBounds (p k) (q k)) xs).map f
 | [],xs=>rfl
 |k::l,xs=>by
  rw[List.foldl_cons,List.foldl_cons,swap_map,tK f p q l]
theorem bubble_map {α β : Type}(f:α -> β)(xs:Array α)(src d:Nat):bubble (xs.map f) src d=(bubble xs src d).map f:=tK f _ _ _ xs
theorem wA {α β : Type}(f:α -> β)(xs:Array α)(i j d:Nat):mirror (xs.map f) i j d=(mirror xs i j d).map f:=tK f _ _ _ xs
structure Pl (n:Nat)(ix:Array Nat)(k:Nat):Prop where
 size:ix.size=n
 perm:ix.Perm (Array.range n)
 pre:∀a,a<k->gx ix a<k
 suf:∀a,k<=a->a<n->gx ix a=a
theorem Pl.lt {n k a:Nat}{ix:Array Nat}(h:Pl n ix k)(hk:k<=n)(ha:a<n):gx ix a<n:=by
 by_cases c:a<k
 ·exact Zg (h.pre a c) hk
 ·rw[h.suf a (by omega) ha];exact ha
def Up (lt:Nat->Nat->Bool)(ix:Array Nat)(k:Nat):Prop:=∀a b,a<b->b<k->Bef lt (gx ix a) (gx ix b)
structure SB (it:Nat->Keyed)(kind:SortKind)(ix:Array Nat)(st:SortSt):Prop where
 arr:arrOf st=ix.map it
 kd:kindOf st=kind
 fl:failedOf st=none
 pd:pendingOf st = #[]
noncomputable def Orc (prog:Program)(w:World)(A:Around)(s:Shared)(kind:SortKind)(it:Nat->Keyed)(lt:Nat->Nat->Bool)(n:Nat):Prop :=
 ∀i j,i<n->j<n->∀(E:Value->Shared->Prop) (Q:Bool->Shared->Prop),Q (lt i j) s->wpAny (model prog w) A (keyLt' kind (it i).1 (it j).1) Q E s
end L2
set_option maxHeartbeats 4000000
namespace L2
noncomputable def gallop':Bool->Keyed->Array Keyed->Nat->Nat->Nat->StateT SortSt Sem (Option Nat):=sortPriv% PySem.Builtin.gallop
noncomputable def mergeLo':Array Keyed->Array Keyed->StateT SortSt Sem (Array Keyed):=sortPriv% PySem.Builtin.mergeLo
noncomputable def mergeHi':Array Keyed->Array Keyed->StateT SortSt Sem (Array Keyed):=sortPriv% PySem.Builtin.mergeHi
noncomputable def be (lt:Nat->Nat->Bool)(left:Bool)(x k:Nat):Bool:=if left then lt x k else !lt k x
section
variable {prog:Program}{w:World}{A:Around}{E:Value->Shared->Prop}{s:Shared}{kind:SortKind}{it:Nat->Keyed}{lt:Nat->Nat->Bool}{N:Nat}{st:SortSt}
theorem qS {i j:Nat}{Q:Option Bool->SortSt->Prop}(O:Orc prog w A s kind it lt N)(kd:kindOf st=kind)(hi:i<N)(hj:j<N)(h:Q (some (lt i j)) st):wpS (model prog w) A E s (lt' (it i) (it j)) Q st:=by
 rw[lt'_eq];refine wpS_bind (wpS_get ?_);rw[kd];exact wpS_bind (wpS_lift (wpAny_attempt (O _ _ hi hj _ _ ⟨rfl,wpS_pure h⟩)))
theorem xz {xs:Array Nat}{p:Nat}{Q:Keyed->SortSt->Prop}(hp:p<xs.size)(h:Q (it (gx xs p)) st):wpS (model prog w) A E s (elem' (xs.map it) p) Q st:=by
 have e:(xs.map it)[p]? = some (it (gx xs p)):=by rw[Array.getElem?_map,kh hp];rfl
 rw[elem'_eq,e];exact wpS_pure h
theorem sl_beyond {left:Bool}{k:Nat}{xs:Array Nat}{p:Nat}{Q:Option Bool->SortSt->Prop}(O:Orc prog w A s kind it lt N)(kd:kindOf st=kind)(kn:k<N)(hp:p<xs.size)(xn:gx xs p<N)(h:Q (some (be lt left (gx xs p) k)) st) :
 wpS (model prog w) A E s (elem' (xs.map it) p >>= fun x=>if left=true then lt' x (it k) else lt' (it k) x >>= fun r=>pure (r.map fun b => !b)) Q st:=by
 refine wpS_bind (xz hp ?_);cases left with
 |true=>exact qS O kd xn kn h
 |false=>exact wpS_bind (qS O kd kn xn (wpS_pure h))
theorem fN {n lo hi:Nat}{P:Nat->Bool}{f:Nat->Option (Option Nat)×Nat×Nat->StateT SortSt Sem (ForInStep (Option (Option Nat)×Nat×Nat))}{Q:Option (Option Nat)×Nat×Nat->SortSt->Prop}
 (mono:∀i j,i<j->j<n->P j=true->P i=true)
 (hf1:∀x lo hi,hi<=lo->f x (none,lo,hi)=pure (.done (none,lo,hi)))
 (hf2:∀(x lo hi:Nat) (R:ForInStep (Option (Option Nat)×Nat×Nat)->SortSt->Prop),lo<hi->hi<=n->(P (lo+(hi-lo) / 2)=true->R (.yield (none,lo+(hi-lo) / 2+1,hi)) st)->(P (lo+(hi-lo) / 2)=false->R (.yield (none,lo,lo+(hi-lo) / 2)) st)->wpS (model prog w) A E s (f x (none,lo,hi)) R st)
 (h0:lo<=hi) (hn:hi<=n) (t:∀i,i<lo->P i=true) (u:∀i,hi<=i->i<n->P i=false)
 (h:∀m,m<=n->(∀i,i<m->P i=true)->(∀i,m<=i->i<n->P i=false)->Q (none,m,m) st):wpS (model prog w) A E s (forIn [:n] (none,lo,hi) f) Q st:=by
 refine wpS_forRange (I:=fun x c sx=>sx=st/\∃lo hi,c=(none,lo,hi)/\lo<=hi/\hi<=n/\(∀i,i<lo->P i=true)/\(∀i,hi<=i->i<n->P i=false)/\hi-lo<=n-x) ?_ ?_ ⟨rfl,lo,hi,rfl,h0,hn,t,u,by omega⟩
 ·rintro x c sx _ hx ⟨rfl,lo,hi,rfl,h0,hn,t,u,g⟩;by_cases c:hi<=lo
  ·rw[hf1 x lo hi c];have e:lo=hi:=by omega
   subst e;exact wpS_pure (h lo hn t u)
  ·have m1:lo+(hi-lo) / 2<hi:=by omega
   refine hf2 x lo hi _ (by omega) hn (fun q=>⟨rfl,_,_,rfl,by omega,hn,fun i hi'=>?_,u,by omega⟩) fun q=>⟨rfl,_,_,rfl,by omega,by omega,t,fun i h1 h2=>?_,by omega⟩
   ·by_cases z:i=lo+(hi-lo) / 2
    ·rw[z];exact q
    ·exact mono _ _ (by omega) (by omega) q
   ·cases y:P i with
    |false=>rfl
    |true =>
     by_cases z:i=lo+(hi-lo) / 2
     ·rw[z,q] at y;cases y
     ·rw[mono _ _ (by omega) h2 y] at q;cases q
 ·rintro c sx ⟨rfl,lo,hi,rfl,h0,hn,t,u,g⟩;have e:lo=hi:=by omega
  subst e;exact h lo hn t u
theorem x5 {left:Bool}{k:Nat}{xs:Array Nat}{base n hint:Nat}{Q:Option Nat->SortSt->Prop}(O:Orc prog w A s kind it lt N)(kd:kindOf st=kind)(kn:k<N)(hz:base+n<=xs.size)(xn:∀i,i<n->gx xs (base+i)<N)(hh:hint<n)
 (mono:∀i j,i<j->j<n->be lt left (gx xs (base+j)) k=true->be lt left (gx xs (base+i)) k=true)
 (h:∀m,m<=n->(∀i,i<m->be lt left (gx xs (base+i)) k=true)->(∀i,m<=i->i<n->be lt left (gx xs (base+i)) k=false)->Q (some m) st):wpS (model prog w) A E s (gallop' left (it k) (xs.map it) base n hint) Q st:=by
 have by_:∀{i:Nat} {Q:Option Bool->SortSt->Prop},i<n->Q (some (be lt left (gx xs (base+i)) k)) st->wpS (model prog w) A E s (elem' (xs.map it) (base+i) >>= fun x=>if left=true then lt' x (it k) else lt' (it k) x >>= fun r=>pure (r.map fun b => !b)) Q st:=fun hi q=>sl_beyond O kd kn (by omega) (xn _ hi) q;generalize hP:(fun i=>be lt left (gx xs (base+i)) k)=P at *;have hP:∀i,be lt left (gx xs (base+i)) k=P i:=fun i=>by rw[<- hP]
 simp only[hP] at mono h by_;refine wpS_bind (by_ hh ?_);dsimp only;cases e:P hint with
 |true =>
  rw[Zd rfl];refine wpS_bind (wpS_mono (wpS_forRange (I:=fun x c sx=>sx=st/\∃l o,c=(none,l,o)/\l<o/\x+1<=o/\hint+l<n/\P (hint+l)=true) (Q:=fun c sx=>sx=st/\∃l o,c=(none,l,o)/\l<o/\hint+l<n/\P (hint+l)=true/\(n-hint<=o\/(o<n-hint/\P (hint+o)=false))) ?_ ?_ ⟨rfl,0,1,rfl,by omega,by omega,by omega,by rw[Nat.add_zero];exact e⟩) ?_)
  ·rintro x c sx _ _ ⟨rfl,l,o,rfl,h1,h2,h3,h4⟩;dsimp only;by_cases c:o ≥ n-hint
   ·rw[Zd c];exact wpS_pure ⟨rfl,l,o,rfl,h1,h3,h4,.inl c⟩
   ·rw[Ze c];refine wpS_bind (by_ (by omega) ?_);dsimp only;cases q:P (hint+o) with
    |true=>exact wpS_pure ⟨rfl,o,2*o+1,rfl,by omega,by omega,by omega,q⟩
    |false=>exact wpS_pure ⟨rfl,l,o,rfl,h1,h3,h4,.inr ⟨by omega,q⟩⟩
  ·rintro c sx ⟨rfl,l,o,rfl,h1,h2,h3,h4⟩;exact⟨rfl,l,o,rfl,h1,h3,h4,.inl (by omega)⟩
  ·rintro c sx ⟨rfl,l,o,rfl,h1,h3,h4,h5⟩;dsimp only;refine wpS_bind (fN (P:=P) mono (fun x lo hi c=>by dsimp only;rw[Zd c]) (fun x lo hi R c1 c2 r1 r2=>?_) (by omega) (by omega) (fun i hi=>?_) (fun i h6 h7=>?_) fun m m1 m2 m3=>wpS_pure (h m m1 m2 m3))
   ·dsimp only;rw[Ze (by omega)];refine wpS_bind (by_ (by omega) ?_);dsimp only;cases q:P (lo+(hi-lo) / 2) with
    |true=>exact wpS_pure (r1 q)
    |false=>exact wpS_pure (r2 q)
   ·by_cases z:i=hint+l
    ·rw[z];exact h4
    ·exact mono _ _ (by omega) h3 h4
   ·rcases h5 with h5|⟨h5,h8⟩
    ·omega
    ·cases y:P i with
     |false=>rfl
     |true =>
      by_cases z:i=hint+o
      ·rw[z,h8] at y;cases y
      ·rw[mono _ _ (by omega) h7 y] at h8;cases h8
 |false =>
  rw[Ze (by simp)];refine wpS_bind (wpS_mono (wpS_forRange (I:=fun x c sx=>sx=st/\∃l o,c=(none,l,o)/\l<o/\x+1<=o/\l<=hint/\P (hint-l)=false) (Q:=fun c sx=>sx=st/\∃l o,c=(none,l,o)/\l<o/\l<=hint/\P (hint-l)=false/\(hint+1<=o\/(o<hint+1/\P (hint-o)=true))) ?_ ?_ ⟨rfl,0,1,rfl,by omega,by omega,by omega,by rw[Nat.sub_zero];exact e⟩) ?_)
  ·rintro x c sx _ _ ⟨rfl,l,o,rfl,h1,h2,h3,h4⟩;dsimp only;by_cases c:o ≥ hint+1
   ·rw[Zd c];exact wpS_pure ⟨rfl,l,o,rfl,h1,h3,h4,.inl c⟩
   ·rw[Ze c];refine wpS_bind (by_ (by omega) ?_);dsimp only;cases q:P (hint-o) with
    |true=>exact wpS_pure ⟨rfl,l,o,rfl,h1,h3,h4,.inr ⟨by omega,q⟩⟩
    |false=>exact wpS_pure ⟨rfl,o,2*o+1,rfl,by omega,by omega,by omega,q⟩
  ·rintro c sx ⟨rfl,l,o,rfl,h1,h2,h3,h4⟩;exact⟨rfl,l,o,rfl,h1,h3,h4,.inl (by omega)⟩
  ·rintro c sx ⟨rfl,l,o,rfl,h1,h3,h4,h5⟩;dsimp only;refine wpS_bind (fN (P:=P) mono (fun x lo hi c=>by dsimp only;rw[Zd c]) (fun x lo hi R c1 c2 r1 r2=>?_) (by omega) (by omega) (fun i hi=>?_) (fun i h6 h7=>?_) fun m m1 m2 m3=>wpS_pure (h m m1 m2 m3))
   ·dsimp only;rw[Ze (by omega)];refine wpS_bind (by_ (by omega) ?_);dsimp only;cases q:P (lo+(hi-lo) / 2) with
    |true=>exact wpS_pure (r1 q)
    |false=>exact wpS_pure (r2 q)
   ·rcases h5 with h5|⟨h5,h8⟩
    ·omega
    ·by_cases z:i=hint-o
     ·rw[z];exact h8
     ·exact mono _ _ (by omega) (by omega) h8
   ·cases y:P i with
    |false=>rfl
    |true =>
     by_cases z:i=hint-l
     ·rw[z,h4] at y;cases y
     ·rw[mono _ _ (by omega) h7 y] at h4;cases h4
end
structure MInv (lt:Nat->Nat->Bool)(xs ys:Array Nat)(ia ib:Nat)(o:List Nat):Prop where
 a:(o++xs.toList.drop ia).Pairwise (Bef lt)
 b:(o++ys.toList.drop ib).Pairwise (Bef lt)
 pm:(o++xs.toList.drop ia++ys.toList.drop ib).Perm (xs.toList++ys.toList)
def Mrg (lt:Nat->Nat->Bool)(xs ys:Array Nat)(o:List Nat):Prop:=o.Perm (xs.toList++ys.toList)/\o.Pairwise (Bef lt)
section
variable {lt:Nat->Nat->Bool}{xs ys:Array Nat}{ia ib:Nat}{o:List Nat}
theorem vY {ix:Array Nat}{i:Nat}(h:i<ix.size):ix.toList.drop i=gx ix i::ix.toList.drop (i+1):=by
 rw[List.drop_eq_getElem_cons (by simpa using h)]
 congr 1
 unfold gx;rw[Array.getElem?_eq_getElem h];simp
theorem yG {ix:Array Nat}{i:Nat}(h:i<ix.size):gx ix i∈ix.toList:=by
 unfold gx;rw[Array.getElem?_eq_getElem h];simp
theorem l7 {ix:Array Nat}{i x:Nat}(h:x∈ix.toList.drop i):∃j,i<=j/\j<ix.size/\x=gx ix j:=by
 obtain⟨j,hj,e⟩:=List.mem_iff_getElem.mp h;rw[List.length_drop] at hj;have hz:i+j<ix.size:=by simpa using (show i+j<ix.toList.length by omega)
 refine⟨i+j,by omega,hz,?_⟩;rw[<- e,List.getElem_drop];unfold gx;rw[Array.getElem?_eq_getElem hz];simp
theorem MInv.addA {k:Nat}(M:MInv lt xs ys ia ib o)(hb:∀c∈(xs.toList.drop ia).take k,∀y∈ys.toList.drop ib,Bef lt c y):MInv lt xs ys (ia+k) ib (o++(xs.toList.drop ia).take k):=by
 have e:xs.toList.drop ia=(xs.toList.drop ia).take k++xs.toList.drop (ia+k):=by rw[<- List.drop_drop,List.take_append_drop]
 have ma:=M.a;have mb:=M.b;have mp:=M.pm;generalize (xs.toList.drop ia).take k=c at e hb;rw[e] at ma mp;rw[<- List.append_assoc] at ma mp;refine⟨ma,?_,mp⟩;rw[List.pairwise_append] at ma mb ⊢;refine⟨ma.1,mb.2.1,fun x hx y hy=>?_⟩;rcases List.mem_append.mp hx with z|z
 ·exact mb.2.2 x z y hy
 ·exact hb x z y hy
theorem MInv.addB {k:Nat}(M:MInv lt xs ys ia ib o)(hb:∀c∈(ys.toList.drop ib).take k,∀x∈xs.toList.drop ia,Bef lt c x):MInv lt xs ys ia (ib+k) (o++(ys.toList.drop ib).take k):=by
 have e:ys.toList.drop ib=(ys.toList.drop ib).take k++ys.toList.drop (ib+k):=by rw[<- List.drop_drop,List.take_append_drop]
 have ma:=M.a;have mb:=M.b;have mp:=M.pm;generalize (ys.toList.drop ib).take k=c at e hb;rw[e] at mb mp;rw[<- List.append_assoc] at mb;refine⟨?_,mb,?_⟩
 ·rw[List.pairwise_append] at ma mb ⊢;refine⟨mb.1,ma.2.1,fun x hx y hy=>?_⟩;rcases List.mem_append.mp hx with z|z
  ·exact ma.2.2 x z y hy
  ·exact hb x z y hy
 ·refine List.Perm.trans ?_ mp;rw[List.append_assoc,List.append_assoc,List.append_assoc];refine List.Perm.append_left _ ?_;rw[<- List.append_assoc,<- List.append_assoc];exact List.Perm.append_right _ List.perm_append_comm
theorem MInv.doneA (M:MInv lt xs ys ia ib o)(h:ys.size<=ib):Mrg lt xs ys (o++xs.toList.drop ia++ys.toList.drop ib):=by
 have e:ys.toList.drop ib=[]:=List.drop_eq_nil_of_le (by simpa using h);refine⟨M.pm,?_⟩;rw[e,Zz];exact M.a
theorem MInv.doneB (M:MInv lt xs ys ia ib o)(h:xs.size<=ia):Mrg lt xs ys (o++xs.toList.drop ia++ys.toList.drop ib):=by
 have e:xs.toList.drop ia=[]:=List.drop_eq_nil_of_le (by simpa using h);refine⟨M.pm,?_⟩;rw[e,Zz];exact M.b
theorem MInv.last (M:MInv lt xs ys ia ib o)(h:ia+1=xs.size)(hl:∀y∈ys.toList,Bef lt y (gx xs ia)):Mrg lt xs ys (o++ys.toList.drop ib++xs.toList.drop ia):=by
 have e:xs.toList.drop ia=[gx xs ia]:=by
  rw[vY (by omega),List.drop_eq_nil_of_le (by simpa using (show xs.size<=ia+1 by omega))]
 have ma:=M.a;have mb:=M.b;refine⟨List.Perm.trans ?_ M.pm,?_⟩
 ·rw[List.append_assoc,List.append_assoc];exact List.Perm.append_left _ List.perm_append_comm
 ·rw[e] at ma ⊢;rw[List.pairwise_append] at ma ⊢;refine⟨mb,List.pairwise_singleton _ _,fun x hx y hy=>?_⟩;rw[List.mem_singleton.mp hy];rcases List.mem_append.mp hx with z|z
  ·exact ma.2.2 x z _ (List.mem_singleton.mpr rfl)
  ·exact hl x (List.mem_of_mem_drop z)
theorem MInv.one (W:Wk lt)(M:MInv lt xs ys ia ib o)(hib:ib<ys.size)(hia:ia<xs.size)(q:lt (gx ys ib) (gx xs ia)=true):MInv lt xs ys ia (ib+1) (o++[gx ys ib]):=by
 have e:(ys.toList.drop ib).take 1=[gx ys ib]:=by rw[vY hib];rfl
 have:=M.addB (k:=1) fun c hc x hx=>by
  rw[e] at hc;rw[List.mem_singleton.mp hc];have hs:=(List.pairwise_append.mp M.a).2.1;rw[vY hia] at hx hs;rcases List.mem_cons.mp hx with z|z
  ·rw[z];exact .inl q
  ·exact Bef.trans W (.inl q) ((List.pairwise_cons.mp hs).1 x z)
 rw[e] at this;exact this
theorem MInv.two (W:Wk lt)(hxy:∀x∈xs.toList,∀y∈ys.toList,x<y)(M:MInv lt xs ys ia ib o)(hib:ib<ys.size)(hia:ia<xs.size)(q:lt (gx ys ib) (gx xs ia)=false):MInv lt xs ys (ia+1) ib (o++[gx xs ia]):=by
 have e:(xs.toList.drop ia).take 1=[gx xs ia]:=by rw[vY hia];rfl
 have r:Bef lt (gx xs ia) (gx ys ib):=.inr ⟨q,hxy _ (yG hia) _ (yG hib)⟩;have:=M.addA (k:=1) fun c hc y hy=>by
  rw[e] at hc;rw[List.mem_singleton.mp hc];have hs:=(List.pairwise_append.mp M.b).2.1;rw[vY hib] at hy hs;rcases List.mem_cons.mp hy with z|z
  ·rw[z];exact r
  ·exact Bef.trans W r ((List.pairwise_cons.mp hs).1 y z)
 rw[e] at this;exact this
end
noncomputable def ar (it:Nat->Keyed)(o:List Nat):Array Keyed:=(o.map it).toArray
section
variable {it:Nat->Keyed}{o:List Nat}{xs ys:Array Nat}{i j k:Nat}
theorem tj {x:Nat}:(ar it o).push (it x)=ar it (o++[x]):=by simp[ar]
theorem uh:(xs.map it).extract i j=ar it ((xs.toList.take j).drop i):=by
 apply Array.ext';simp only[ar,Array.toList_extract,Array.toList_map,List.extract_eq_drop_take,List.map_drop,List.map_take,List.drop_take]
theorem tm {p:List Nat}:ar it o++ar it p=ar it (o++p):=by simp[ar]
theorem iw:(ar it o).reverse=ar it o.reverse:=by simp[ar]
theorem i8 {x:Nat} : #[it x]=ar it [x]:=by simp[ar]
theorem fE:(xs.toList.take (i+k)).drop i=(xs.toList.drop i).take k:=by rw[List.drop_take];congr 1;omega
theorem k7:(xs.toList.take xs.size).drop i=xs.toList.drop i:=by rw[List.take_of_length_le (by simp)]
theorem j0:ar it o++(xs.map it).extract i xs.size++(ys.map it).extract j ys.size=ar it (o++xs.toList.drop i++ys.toList.drop j):=by
 rw[uh,uh,k7,k7,tm,tm]
theorem mF (h:xs.toList.Pairwise R)(ij:i<j)(hj:j<xs.size):R (gx xs i) (gx xs j):=by
 have:=List.pairwise_iff_getElem.mp h i j (by simp;omega) (by simpa using hj) ij;unfold gx;rw[Array.getElem?_eq_getElem (by omega),Array.getElem?_eq_getElem hj];simpa using this
theorem oG {x:Nat}(h:x∈(xs.toList.drop i).take k):∃j,j<k/\i+j<xs.size/\x=gx xs (i+j):=by
 obtain⟨j,hj,e⟩:=List.mem_iff_getElem.mp h;rw[List.length_take,List.length_drop] at hj;have hz:i+j<xs.size:=by simpa using (show i+j<xs.toList.length by omega)
 refine⟨j,by omega,hz,?_⟩;rw[<- e,List.getElem_take,List.getElem_drop];unfold gx;rw[Array.getElem?_eq_getElem hz];simp
end
structure SEq (s t:SortSt):Prop where
 arr:arrOf t=arrOf s
 kd:kindOf t=kindOf s
 fl:failedOf t=failedOf s
 pd:pendingOf t=pendingOf s
theorem SEq.refl (s:SortSt):SEq s s:=⟨rfl,rfl,rfl,rfl⟩
theorem SEq.trans {s t u:SortSt}(h:SEq s t)(k:SEq t u):SEq s u:=⟨k.arr.trans h.arr,k.kd.trans h.kd,k.fl.trans h.fl,k.pd.trans h.pd⟩
section
variable {lt:Nat->Nat->Bool}{xs ys:Array Nat}{ia ib m:Nat}{o:List Nat}(W:Wk lt)
include W
theorem iq {k:Nat}(px:xs.toList.Pairwise (Bef lt)){n:Nat}(hn:ia+n<=xs.size):∀i j,i<j->j<n->be lt false (gx xs (ia+j)) k=true->be lt false (gx xs (ia+i)) k=true:=fun i j ij jn h=>by
 have b:=Bef.no W (mF px (show ia+i<ia+j by omega) (by omega));have h:(!lt k (gx xs (ia+j)))=true:=h;show(!lt k (gx xs (ia+i)))=true;cases q:lt k (gx xs (ia+i)) with
 |false=>rfl
 |true =>
  rcases W.neg _ (gx xs (ia+j)) _ q with z|z
  ·rw[z] at h;cases h
  ·rw[b] at z;cases z
theorem ig {k:Nat}(px:xs.toList.Pairwise (Bef lt)){n:Nat}(hn:ia+n<=xs.size):∀i j,i<j->j<n->be lt true (gx xs (ia+j)) k=true->be lt true (gx xs (ia+i)) k=true:=fun i j ij jn h=>by
 have b:=Bef.no W (mF px (show ia+i<ia+j by omega) (by omega));have h:lt (gx xs (ia+j)) k=true:=h;show lt (gx xs (ia+i)) k=true;rcases W.neg _ (gx xs (ia+i)) _ h with z|z
 ·rw[b] at z;cases z
 ·exact z
theorem MInv.galA (hxy:∀x∈xs.toList,∀y∈ys.toList,x<y)(py:ys.toList.Pairwise (Bef lt))(M:MInv lt xs ys ia ib o)(hb:ib<ys.size)(h:∀i,i<m->be lt false (gx xs (ia+i)) (gx ys ib)=true):MInv lt xs ys (ia+m) ib (o++(xs.toList.drop ia).take m):=by
 refine M.addA fun c hc y hy=>?_;obtain⟨j,hj,hz,rfl⟩:=oG hc;obtain⟨l,l1,l2,rfl⟩:=l7 hy;have q:(!lt (gx ys ib) (gx xs (ia+j)))=true:=h j hj;have q:lt (gx ys ib) (gx xs (ia+j))=false:=by simpa using q
 have r:Bef lt (gx xs (ia+j)) (gx ys ib):=.inr ⟨q,hxy _ (yG hz) _ (yG hb)⟩;by_cases z:ib=l
 ·rw[<- z];exact r
 ·exact Bef.trans W r (mF py (by omega) l2)
theorem MInv.galB (px:xs.toList.Pairwise (Bef lt))(M:MInv lt xs ys ia ib o)(ha:ia<xs.size)(h:∀i,i<m->be lt true (gx ys (ib+i)) (gx xs ia)=true):MInv lt xs ys ia (ib+m) (o++(ys.toList.drop ib).take m):=by
 refine M.addB fun c hc y hy=>?_;obtain⟨j,hj,hz,rfl⟩:=oG hc;obtain⟨l,l1,l2,rfl⟩:=l7 hy;have r:Bef lt (gx ys (ib+j)) (gx xs ia):=.inl (h j hj);by_cases z:ia=l
 ·rw[<- z];exact r
 ·exact Bef.trans W r (mF px (by omega) l2)
end
section
variable {prog:Program}{w:World}{A:Around}{E:Value->Shared->Prop}{s:Shared}{kind:SortKind}{it:Nat->Keyed}{lt:Nat->Nat->Bool}{N:Nat}{st:SortSt}
theorem il {f:SortSt->SortSt}{sy st0:SortSt}{Q:PUnit->SortSt->Prop}(h0:SEq st0 (f sy))(h:∀s',SEq st0 s'->Q ⟨⟩ s'):wpS (model prog w) A E s (modify f:StateT SortSt Sem PUnit) Q sy:=wpS_modify (h _ h0)
theorem jp1 {α : Type}{G P:α -> Prop}{R:Prop}(h:(∀a,P a->G a)->R)(k:∀a,P a->G a):R:=h k
theorem jp2 {α β : Type}{G P:α -> β -> Prop}{R:Prop}(h:(∀a b,P a b->G a b)->R)(k:∀a b,P a b->G a b):R:=h k
theorem jp3 {α β γ : Type}{G P:α -> β -> γ -> Prop}{R:Prop}(h:(∀a b c,P a b c->G a b c)->R)(k:∀a b c,P a b c->G a b c):R:=h k
theorem sl_mergeLo {xs ys:Array Nat}{Q:Array Keyed->SortSt->Prop}(W:Wk lt)(O:Orc prog w A s kind it lt N)(kd:kindOf st=kind)(xn:∀x∈xs.toList,x<N)(yn:∀y∈ys.toList,y<N)(hxy:∀x∈xs.toList,∀y∈ys.toList,x<y)
 (px:xs.toList.Pairwise (Bef lt)) (py:ys.toList.Pairwise (Bef lt)) (x1:1<=xs.size) (y1:1<=ys.size) (fst:lt (gx ys 0) (gx xs 0)=true) (lst:∀y∈ys.toList,Bef lt y (gx xs (xs.size-1)))
 (h:∀o st',SEq st st'->Mrg lt xs ys o->Q (ar it o) st'):wpS (model prog w) A E s (mergeLo' (xs.map it) (ys.map it)) Q st:=by
 have M1:MInv lt xs ys 0 1 [gx ys 0]:=by
  have:=(MInv.one (o:=[]) (ia:=0) (ib:=0) W ⟨by simpa using px,by simpa using py,by simp⟩ (by omega) (by omega) fst);simpa using this
 have lsA:∀{ia ib:Nat} {o:List Nat},MInv lt xs ys ia ib o->(ia+1 == xs.size)=true->Mrg lt xs ys (o++ys.toList.drop ib++xs.toList.drop ia):=fun {ia ib o} M z=>by
  have z:=beq_iff_eq.mp z;have e:ia=xs.size-1:=by omega
  exact M.last z (by rw[e];exact lst)
 have dnA:∀{ia ib:Nat} {o:List Nat},MInv lt xs ys ia ib o->(ib == ys.size)=true->Mrg lt xs ys (o++xs.toList.drop ia++ys.toList.drop ib):=fun M z=>M.doneA (by have:=beq_iff_eq.mp z;omega);have dnB:∀{ia ib:Nat} {o:List Nat},MInv lt xs ys ia ib o->(ia == xs.size)=true->Mrg lt xs ys (o++xs.toList.drop ia++ys.toList.drop ib):=fun M z=>M.doneB (by have:=beq_iff_eq.mp z;omega);have neq:∀{a b:Nat},a<=b->¬(a == b)=true->a<b:=fun h z=>by
  rcases Nat.lt_or_eq_of_le h with y|y
  ·exact y
  ·exact Zn (beq_iff_eq.mpr y) z
 refine wpS_bind (wpS_lift (wpAny_rule ⟨rfl,?_⟩));refine wpS_bind (xz (by omega) ?_);simp only[Array.size_map,i8];by_cases c1:(1 == ys.size)=true
 ·rw[Zd c1,j0];exact wpS_pure (h _ _ (.refl _) (dnA M1 c1))
 ·rw[Ze c1];by_cases c2:(0+1 == xs.size)=true
  ·rw[Zd c2,j0];exact wpS_pure (h _ _ (.refl _) (lsA M1 c2))
  ·rw[Ze c2];have c1:=neq y1 c1;have c2:=neq (by omega) c2;refine wpS_bind (wpS_get ?_);refine wpS_bind (wpS_mono (wpS_forRange (I:=fun x c sx=>SEq st sx/\∃o ia ib mg,c=(none,ar it o,ia,ib,mg)/\MInv lt xs ys ia ib o/\ia+1<xs.size/\ib<ys.size/\x+1<=ia+ib) (Q:=fun c sx=>SEq st sx/\∃o,Mrg lt xs ys o/\c.1=some (ar it o)) ?_ ?_ ⟨.refl _,[gx ys 0],0,1,_,rfl,M1,by omega,by omega,by omega⟩) ?_)
   ·rintro x c sx _ hx ⟨se,o,ia,ib,mg,rfl,M,a1,b1,g⟩;dsimp only;refine wpS_bind (wpS_mono (wpS_forRange (I:=fun y c sy=>sy=sx/\∃o ia ib ac bc,c=(none,ar it o,ia,ib,ac,bc)/\MInv lt xs ys ia ib o/\ia+1<xs.size/\ib<ys.size/\x+1+y<=ia+ib)
     (Q:=fun c sy=>sy=sx/\((∃o,Mrg lt xs ys o/\c.1=some (ar it o))\/∃o ia ib ac bc,c=(none,ar it o,ia,ib,ac,bc)/\MInv lt xs ys ia ib o/\ia+1<xs.size/\ib<ys.size/\x+2<=ia+ib)) ?_ ?_ ⟨rfl,o,ia,ib,0,0,rfl,M,a1,b1,by omega⟩) ?_)
    ·rintro y c sy _ hy ⟨rfl,o,ia,ib,ac,bc,rfl,M,a1,b1,g⟩;dsimp only;refine wpS_bind (xz b1 ?_);refine wpS_bind (xz (by omega) ?_);refine wpS_bind (qS O (se.kd.trans kd) (yn _ (yG b1)) (xn _ (yG (by omega))) ?_);dsimp only;cases q:lt (gx ys ib) (gx xs ia) with
     |true =>
      rw[Zd rfl];refine wpS_bind (xz b1 ?_);have M2:=M.one W b1 (by omega) q;rw[tj];by_cases z:(ib+1 == ys.size)=true
      ·rw[Zd z,j0];exact wpS_pure ⟨rfl,.inl ⟨_,dnA M2 z,rfl⟩⟩
      ·rw[Ze z];have z:=neq (by omega) z
       split
       ·exact wpS_pure ⟨rfl,.inr ⟨_,_,_,_,_,rfl,M2,a1,by omega,by omega⟩⟩
       ·exact wpS_pure ⟨rfl,_,_,_,_,_,rfl,M2,a1,by omega,by omega⟩
     |false =>
      rw[Ze (by simp)];refine wpS_bind (xz (by omega) ?_);have M2:=M.two W hxy b1 (by omega) q;rw[tj];by_cases z:(ia+1+1 == xs.size)=true
      ·rw[Zd z,j0];exact wpS_pure ⟨rfl,.inl ⟨_,lsA M2 z,rfl⟩⟩
      ·rw[Ze z];have z:=neq (by omega) z
       split
       ·exact wpS_pure ⟨rfl,.inr ⟨_,_,_,_,_,rfl,M2,by omega,by omega,by omega⟩⟩
       ·exact wpS_pure ⟨rfl,_,_,_,_,_,rfl,M2,by omega,by omega,by omega⟩
    ·rintro c sy ⟨rfl,o,ia,ib,ac,bc,rfl,M,a1,b1,g⟩;exact⟨rfl,.inr ⟨_,_,_,_,_,rfl,M,by omega,by omega,by omega⟩⟩
    ·rintro c sy ⟨rfl,⟨o,mo,e⟩|⟨o,ia,ib,ac,bc,rfl,M,a1,b1,g⟩⟩
     ·obtain⟨c1,c2⟩:=c;have e:c1=some (ar it o):=e;subst e;exact wpS_pure ⟨se,o,mo,rfl⟩
     ·dsimp only;refine wpS_bind (wpS_lift (wpAny_rule ⟨rfl,?_⟩));refine wpS_bind (wpS_mono (wpS_forRange (I:=fun y c sy=>SEq st sy/\∃o ia ib mg ac bc,c=(none,ar it o,ia,ib,mg,ac,bc)/\MInv lt xs ys ia ib o/\ia+1<xs.size/\ib<ys.size/\x+2<=ia+ib)
       (Q:=fun c sy=>SEq st sy/\((∃o,Mrg lt xs ys o/\c.1=some (ar it o))\/∃o ia ib mg ac bc,c=(none,ar it o,ia,ib,mg,ac,bc)/\MInv lt xs ys ia ib o/\ia+1<xs.size/\ib<ys.size/\x+2<=ia+ib)) ?_ ?_ ⟨se,o,ia,ib,_,ac,bc,rfl,M,a1,b1,by omega⟩) ?_)
      ·rintro y c sy _ hy ⟨se,o,ia,ib,mg,ac,bc,rfl,M,a1,b1,g⟩;dsimp only;apply jp1 (P:=fun _:Nat=>True)
       ·intro key;by_cases m1:mg > 1
        ·rw[Zd m1];generalize mg-1=m9;exact key m9 trivial
        ·rw[Ze m1];exact key mg trivial
       ·intro mg _;refine wpS_bind (il (se.trans ⟨rfl,rfl,rfl,rfl⟩) fun sy se=>?_);refine wpS_bind (xz b1 ?_);refine wpS_bind (x5 (left:=false) (k:=gx ys ib) (base:=ia) (n:=xs.size-ia) (hint:=0) O (se.kd.trans kd) (yn _ (yG b1)) (by omega) (fun i hi=>xn _ (yG (by omega))) (by omega) (iq W px (by omega)) fun m m2 m3 m4=>?_);dsimp only;have q1:ia+m<xs.size->lt (gx ys ib) (gx xs (ia+m))=true:=fun hz=>by
         have:=m4 m (Zf _) (by omega);have:(!lt (gx ys ib) (gx xs (ia+m)))=false:=this;simpa using this
        apply jp2 (P:=fun (ia:Nat) (o:List Nat)=>MInv lt xs ys ia ib o/\ia+1<xs.size/\lt (gx ys ib) (gx xs ia)=true/\x+2<=ia+ib)
        ·intro key;by_cases k0:m > 0
         ·rw[Zd k0];have M2:=M.galA W hxy py b1 m3;simp only[uh (j:=ia+m),fE,tm];by_cases z1:(ia+m+1 == xs.size)=true
          ·rw[Zd z1,j0];exact wpS_pure ⟨se,.inl ⟨_,lsA M2 z1,rfl⟩⟩
          rw[Ze z1];by_cases z2:(ia+m == xs.size)=true
          ·rw[Zd z2,j0];exact wpS_pure ⟨se,.inl ⟨_,dnB M2 z2,rfl⟩⟩
          rw[Ze z2];have a2:ia+m+1<xs.size:=neq (by have:=neq (by omega) z2;omega) z1;have q2:=q1 (by omega);have g2:x+2<=ia+m+ib:=by omega
          generalize o++List.take m (List.drop ia xs.toList)=o at M2 ⊢;generalize ia+m=ia at M2 a2 q2 g2 ⊢;exact key ia o ⟨M2,a2,q2,g2⟩
         ·rw[Ze k0];have e0:m=0:=by omega
          have q2:=q1 (by omega);rw[e0,Nat.add_zero] at q2;exact key ia o ⟨M,a1,q2,g⟩
        ·rintro ia o ⟨M2,a2,q2,g2⟩;refine wpS_bind (xz b1 ?_);have M3:=M2.one W b1 (by omega) q2;simp only[tj];by_cases z3:(ib+1 == ys.size)=true
         ·rw[Zd z3,j0];exact wpS_pure ⟨se,.inl ⟨_,dnA M3 z3,rfl⟩⟩
         rw[Ze z3];have b2:=neq (by omega) z3;have g3:x+2<=ia+(ib+1):=by omega
         generalize o++[gx ys ib]=o at M3 ⊢;generalize ib+1=ib at M3 b2 g3 ⊢;refine wpS_bind (xz (by omega) ?_);refine wpS_bind (x5 (left:=true) (k:=gx xs ia) (base:=ib) (n:=ys.size-ib) (hint:=0) O (se.kd.trans kd) (xn _ (yG (by omega))) (by omega) (fun i hi=>yn _ (yG (by omega))) (by omega) (ig W py (by omega)) fun k k2 k3 k4=>?_);dsimp only;have q3:ib+k<ys.size->lt (gx ys (ib+k)) (gx xs ia)=false:=fun hz=>k4 k (Zf _) (by omega);apply jp2 (P:=fun (ib:Nat) (o:List Nat)=>MInv lt xs ys ia ib o/\ib<ys.size/\lt (gx ys ib) (gx xs ia)=false/\x+2<=ia+ib)
         ·intro key;by_cases k9:k > 0
          ·rw[Zd k9];have M4:=M3.galB W px (by omega) k3;simp only[uh (j:=ib+k),fE,tm];by_cases z4:(ib+k == ys.size)=true
           ·rw[Zd z4,j0];exact wpS_pure ⟨se,.inl ⟨_,dnA M4 z4,rfl⟩⟩
           rw[Ze z4];have b3:=neq (by omega) z4;have q4:=q3 b3;have g4:x+2<=ia+(ib+k):=by omega
           generalize o++List.take k (List.drop ib ys.toList)=o at M4 ⊢;generalize ib+k=ib at M4 b3 q4 g4 ⊢;exact key ib o ⟨M4,b3,q4,g4⟩
          ·rw[Ze k9];have e1:k=0:=by omega
           have q4:=q3 (by omega);rw[e1,Nat.add_zero] at q4;exact key ib o ⟨M3,b2,q4,g3⟩
         ·rintro ib o ⟨M4,b3,q4,g4⟩;refine wpS_bind (xz (by omega) ?_);have M5:=M4.two W hxy b3 (by omega) q4;simp only[tj];by_cases z5:(ia+1+1 == xs.size)=true
          ·rw[Zd z5,j0];exact wpS_pure ⟨se,.inl ⟨_,lsA M5 z5,rfl⟩⟩
          rw[Ze z5];have a3:=neq (by omega) z5
          split
          ·exact wpS_pure ⟨se,.inr ⟨_,_,_,_,_,_,rfl,M5,by omega,by omega,by omega⟩⟩
          exact wpS_pure ⟨se,_,_,_,_,_,_,rfl,M5,by omega,by omega,by omega⟩
      ·rintro c sy ⟨se,o,ia,ib,mg,ac,bc,rfl,M,a1,b1,g⟩;exact⟨se,.inr ⟨_,_,_,_,_,_,rfl,M,by omega,by omega,by omega⟩⟩
      ·rintro c sy ⟨se,⟨o,mo,e⟩|⟨o,ia,ib,mg,ac,bc,rfl,M,a1,b1,g⟩⟩
       ·obtain⟨c1,c2⟩:=c;have e:c1=some (ar it o):=e;subst e;exact wpS_pure ⟨se,o,mo,rfl⟩
       ·dsimp only;refine wpS_bind (wpS_modify ?_);exact wpS_pure ⟨se.trans ⟨rfl,rfl,rfl,rfl⟩,_,_,_,_,rfl,M,a1,b1,g⟩
   ·rintro c sx ⟨se,o,ia,ib,mg,rfl,M,a1,b1,g⟩;exfalso;omega
   ·rintro c sx ⟨se,o,mo,e⟩;obtain⟨c1,c2⟩:=c;have e:c1=some (ar it o):=e;subst e;exact wpS_pure (h o sx se mo)
end
structure MInvH (lt:Nat->Nat->Bool)(xs ys:Array Nat)(na nb:Nat)(o:List Nat):Prop where
 a:(xs.toList.take na++o).Pairwise (Bef lt)
 b:(ys.toList.take nb++o).Pairwise (Bef lt)
 pm:(xs.toList.take na++ys.toList.take nb++o).Perm (xs.toList++ys.toList)
section
variable {it:Nat->Keyed}{o:List Nat}{xs ys:Array Nat}{i j k:Nat}
theorem u5 {x:Nat}:(ar it o.reverse).push (it x)=ar it (x::o).reverse:=by rw[tj,List.reverse_cons]
theorem km {p:List Nat}:ar it o.reverse++(ar it p).reverse=ar it (p++o).reverse:=by rw[iw,tm,List.reverse_append]
theorem jA:(xs.map it).extract 0 i++(ys.map it).extract 0 j++(ar it o.reverse).reverse=ar it (xs.toList.take i++ys.toList.take j++o):=by
 rw[uh,uh,iw,List.reverse_reverse,tm,tm];rfl
theorem kB (h:i<=j):xs.toList.take j=xs.toList.take i++(xs.toList.take j).drop i:=by
 conv=>lhs;rw[<- List.take_append_drop i (xs.toList.take j)]
 rw[List.take_take,Nat.min_eq_left h]
theorem lD {x:Nat}(h:x∈(xs.toList.take j).drop i):∃l,i<=l/\l<j/\l<xs.size/\x=gx xs l:=by
 obtain⟨m,hm,e⟩:=List.mem_iff_getElem.mp h;rw[List.length_drop,List.length_take] at hm;have hz:i+m<xs.size:=by simpa using (show i+m<xs.toList.length by omega)
 refine⟨i+m,by omega,by omega,hz,?_⟩;rw[<- e,List.getElem_drop,List.getElem_take];unfold gx;rw[Array.getElem?_eq_getElem hz];simp
theorem ox (h:j<=xs.size)(h1:1<=j):(xs.toList.take j).drop (j-1)=[gx xs (j-1)]:=by
 have hz:j-1<xs.size:=by omega
 have e:j=j-1+1:=by omega
 rw[List.drop_take,vY hz,show j-(j-1)=1 by omega];rfl
theorem jZ {x:Nat}(h:x∈xs.toList.take j):∃l,l<j/\l<xs.size/\x=gx xs l:=by
 obtain⟨l,_,l2,l3,l4⟩:=lD (i:=0) (j:=j) (xs:=xs) (x:=x) (by simpa using h);exact⟨l,l2,l3,l4⟩
end
section
variable {lt:Nat->Nat->Bool}{xs ys:Array Nat}{na nb m:Nat}{o:List Nat}
theorem MInvH.addA (M:MInvH lt xs ys na nb o)(hm:m<=na)(hb:∀c∈(xs.toList.take na).drop m,∀y∈ys.toList.take nb,Bef lt y c):MInvH lt xs ys m nb ((xs.toList.take na).drop m++o):=by
 have e:=kB (xs:=xs) hm;have ma:=M.a;have mb:=M.b;have mp:=M.pm;generalize (xs.toList.take na).drop m=c at e hb;rw[e] at ma mp;rw[List.append_assoc] at ma;refine⟨ma,?_,?_⟩
 ·rw[List.pairwise_append] at ma mb ⊢;refine⟨mb.1,ma.2.1,fun y hy x hx=>?_⟩;rcases List.mem_append.mp hx with z|z
  ·exact hb x z y hy
  ·exact mb.2.2 y hy x z
 ·refine List.Perm.trans ?_ mp;rw[List.append_assoc,List.append_assoc,List.append_assoc];refine List.Perm.append_left _ ?_;rw[<- List.append_assoc,<- List.append_assoc];exact List.Perm.append_right _ List.perm_append_comm
theorem MInvH.addB (M:MInvH lt xs ys na nb o)(hm:m<=nb)(hb:∀c∈(ys.toList.take nb).drop m,∀x∈xs.toList.take na,Bef lt x c):MInvH lt xs ys na m ((ys.toList.take nb).drop m++o):=by
 have e:=kB (xs:=ys) hm;have ma:=M.a;have mb:=M.b;have mp:=M.pm;generalize (ys.toList.take nb).drop m=c at e hb;rw[e] at mb mp;rw[List.append_assoc] at mb;refine⟨?_,mb,?_⟩
 ·rw[List.pairwise_append] at ma mb ⊢;refine⟨ma.1,mb.2.1,fun y hy x hx=>?_⟩;rcases List.mem_append.mp hx with z|z
  ·exact hb x z y hy
  ·exact ma.2.2 y hy x z
 ·refine List.Perm.trans ?_ mp;rw[List.append_assoc,List.append_assoc,List.append_assoc]
theorem MInvH.doneA (M:MInvH lt xs ys na nb o)(h:na=0):Mrg lt xs ys (xs.toList.take na++ys.toList.take nb++o):=by
 refine⟨M.pm,?_⟩;rw[h,List.take_zero,List.nil_append];exact M.b
theorem MInvH.doneB (M:MInvH lt xs ys na nb o)(h:nb=0):Mrg lt xs ys (xs.toList.take na++ys.toList.take nb++o):=by
 refine⟨M.pm,?_⟩;rw[h,List.take_zero,Zz];exact M.a
theorem MInvH.first (M:MInvH lt xs ys na nb o)(h:nb=1)(y1:1<=ys.size)(hl:∀x∈xs.toList,Bef lt (gx ys 0) x):Mrg lt xs ys (ys.toList.take nb++xs.toList.take na++o):=by
 have ma:=M.a;have mb:=M.b;have e:ys.toList.take 1=[gx ys 0]:=by
  have:=ox (xs:=ys) (j:=1) y1 (Zf _);simpa using this
 refine⟨List.Perm.trans (List.Perm.append_right _ List.perm_append_comm) M.pm,?_⟩;rw[h,e] at mb ⊢;rw[List.append_assoc,List.pairwise_append];rw[List.pairwise_append] at mb;refine⟨List.pairwise_singleton _ _,ma,fun y hy x hx=>?_⟩;rcases List.mem_append.mp hx with z|z
 ·rw[List.mem_singleton.mp hy];exact hl x (List.mem_of_mem_take z)
 ·exact mb.2.2 y hy x z
variable (W:Wk lt)
include W
theorem MInvH.galA (py:ys.toList.Pairwise (Bef lt))(M:MInvH lt xs ys na nb o)(hm:m<=na)(b1:1<=nb)(hb:nb<=ys.size)(h:∀i,m<=i->i<na->lt (gx ys (nb-1)) (gx xs i)=true):MInvH lt xs ys m nb ((xs.toList.take na).drop m++o):=by
 refine M.addA hm fun c hc y hy=>?_;obtain⟨j,j1,j2,j3,rfl⟩:=lD hc;obtain⟨l,l1,l2,rfl⟩:=jZ hy;have r:Bef lt (gx ys (nb-1)) (gx xs j):=.inl (h j j1 j2);by_cases z:l=nb-1
 ·rw[z];exact r
 ·exact Bef.trans W (mF py (by omega) (by omega)) r
theorem MInvH.galB (hxy:∀x∈xs.toList,∀y∈ys.toList,x<y)(px:xs.toList.Pairwise (Bef lt))(M:MInvH lt xs ys na nb o)(hm:m<=nb)(a1:1<=na)(ha:na<=xs.size)(h:∀i,m<=i->i<nb->lt (gx ys i) (gx xs (na-1))=false):MInvH lt xs ys na m ((ys.toList.take nb).drop m++o):=by
 refine M.addB hm fun c hc x hx=>?_;obtain⟨j,j1,j2,j3,rfl⟩:=lD hc;obtain⟨l,l1,l2,rfl⟩:=jZ hx;have r:Bef lt (gx xs (na-1)) (gx ys j):=.inr ⟨h j j1 j2,hxy _ (yG (by omega)) _ (yG j3)⟩;by_cases z:l=na-1
 ·rw[z];exact r
 ·exact Bef.trans W (mF px (by omega) (by omega)) r
theorem MInvH.one (py:ys.toList.Pairwise (Bef lt))(M:MInvH lt xs ys na nb o)(a1:1<=na)(ha:na<=xs.size)(b1:1<=nb)(hb:nb<=ys.size)(q:lt (gx ys (nb-1)) (gx xs (na-1))=true):MInvH lt xs ys (na-1) nb (gx xs (na-1)::o):=by
 have:=M.galA (m:=na-1) W py (by omega) b1 hb fun i h1 h2=>by rw[show i=na-1 by omega];exact q
 rw[ox ha a1] at this;exact this
theorem MInvH.two (hxy:∀x∈xs.toList,∀y∈ys.toList,x<y)(px:xs.toList.Pairwise (Bef lt))(M:MInvH lt xs ys na nb o)(a1:1<=na)(ha:na<=xs.size)(b1:1<=nb)(hb:nb<=ys.size)(q:lt (gx ys (nb-1)) (gx xs (na-1))=false):MInvH lt xs ys na (nb-1) (gx ys (nb-1)::o):=by
 have:=M.galB (m:=nb-1) W hxy px (by omega) a1 ha fun i h1 h2=>by rw[show i=nb-1 by omega];exact q
 rw[ox hb b1] at this;exact this
end
section
variable {prog:Program}{w:World}{A:Around}{E:Value->Shared->Prop}{s:Shared}{kind:SortKind}{it:Nat->Keyed}{lt:Nat->Nat->Bool}{N:Nat}{st:SortSt}
theorem sl_mergeHi {xs ys:Array Nat}{Q:Array Keyed->SortSt->Prop}(W:Wk lt)(O:Orc prog w A s kind it lt N)(kd:kindOf st=kind)(xn:∀x∈xs.toList,x<N)(yn:∀y∈ys.toList,y<N)(hxy:∀x∈xs.toList,∀y∈ys.toList,x<y)
 (px:xs.toList.Pairwise (Bef lt)) (py:ys.toList.Pairwise (Bef lt)) (x1:1<=xs.size) (y1:1<=ys.size) (fst:∀x∈xs.toList,Bef lt (gx ys 0) x) (lst:lt (gx ys (ys.size-1)) (gx xs (xs.size-1))=true)
 (h:∀o st',SEq st st'->Mrg lt xs ys o->Q (ar it o) st'):wpS (model prog w) A E s (mergeHi' (xs.map it) (ys.map it)) Q st:=by
 have M1:MInvH lt xs ys (xs.size-1) ys.size [gx xs (xs.size-1)]:=by
  refine MInvH.one (o:=[]) (na:=xs.size) (nb:=ys.size) W py ⟨?_,?_,?_⟩ x1 (Zf _) y1 (Zf _) lst
  ·rw[List.take_of_length_le (by simp),Zz];exact px
  ·rw[List.take_of_length_le (by simp),Zz];exact py
  ·rw[List.take_of_length_le (by simp),List.take_of_length_le (by simp),Zz]
 have fsB:∀{na nb:Nat} {o:List Nat},MInvH lt xs ys na nb o->(nb == 1)=true->Mrg lt xs ys (ys.toList.take nb++xs.toList.take na++o):=fun M z=>M.first (beq_iff_eq.mp z) y1 fst;have dnA:∀{na nb:Nat} {o:List Nat},MInvH lt xs ys na nb o->(na == 0)=true->Mrg lt xs ys (xs.toList.take na++ys.toList.take nb++o):=fun M z=>M.doneA (beq_iff_eq.mp z);have dnB:∀{na nb:Nat} {o:List Nat},MInvH lt xs ys na nb o->(nb == 0)=true->Mrg lt xs ys (xs.toList.take na++ys.toList.take nb++o):=fun M z=>M.doneB (beq_iff_eq.mp z);have neq:∀{a b:Nat},¬(a == b)=true->a≠b:=fun z e=>z (beq_iff_eq.mpr e);have o1:∀x,ar it [x]=ar it [x].reverse:=fun x=>by rw[List.reverse_singleton]
 refine wpS_bind (wpS_lift (wpAny_rule ⟨rfl,?_⟩));simp only[Array.size_map];refine wpS_bind (xz (by omega) ?_);simp only[i8,o1];by_cases c1:(xs.size-1 == 0)=true
 ·rw[Zd c1,jA];exact wpS_pure (h _ _ (.refl _) (dnA M1 c1))
 ·rw[Ze c1];by_cases c2:(ys.size == 1)=true
  ·rw[Zd c2,jA];exact wpS_pure (h _ _ (.refl _) (fsB M1 c2))
  ·rw[Ze c2];have c1:=neq c1;have c2:=neq c2;refine wpS_bind (wpS_get ?_);refine wpS_bind (wpS_mono (wpS_forRange (I:=fun x c sx=>SEq st sx/\∃na nb o mg,c=(none,na,nb,ar it o.reverse,mg)/\MInvH lt xs ys na nb o/\1<=na/\2<=nb/\na<=xs.size/\nb<=ys.size/\x+1+na+nb<=xs.size+ys.size) (Q:=fun c sx=>SEq st sx/\∃o,Mrg lt xs ys o/\c.1=some (ar it o)) ?_ ?_ ⟨.refl _,xs.size-1,ys.size,[gx xs (xs.size-1)],_,rfl,M1,by omega,by omega,by omega,by omega,by omega⟩) ?_)
   ·rintro x c sx _ hx ⟨se,na,nb,o,mg,rfl,M,a1,b1,a8,b8,g⟩;dsimp only;refine wpS_bind (wpS_mono (wpS_forRange (I:=fun y c sy=>sy=sx/\∃na nb o ac bc,c=(none,na,nb,ar it o.reverse,ac,bc)/\MInvH lt xs ys na nb o/\1<=na/\2<=nb/\na<=xs.size/\nb<=ys.size/\x+1+y+na+nb<=xs.size+ys.size)
     (Q:=fun c sy=>sy=sx/\((∃o,Mrg lt xs ys o/\c.1=some (ar it o))\/∃na nb o ac bc,c=(none,na,nb,ar it o.reverse,ac,bc)/\MInvH lt xs ys na nb o/\1<=na/\2<=nb/\na<=xs.size/\nb<=ys.size/\x+2+na+nb<=xs.size+ys.size)) ?_ ?_ ⟨rfl,na,nb,o,0,0,rfl,M,a1,b1,a8,b8,by omega⟩) ?_)
    ·rintro y c sy _ hy ⟨rfl,na,nb,o,ac,bc,rfl,M,a1,b1,a8,b8,g⟩;dsimp only;refine wpS_bind (xz (by omega) ?_);refine wpS_bind (xz (by omega) ?_);refine wpS_bind (qS O (se.kd.trans kd) (yn _ (yG (by omega))) (xn _ (yG (by omega))) ?_);dsimp only;cases q:lt (gx ys (nb-1)) (gx xs (na-1)) with
     |true =>
      rw[Zd rfl];refine wpS_bind (xz (by omega) ?_);have M2:=M.one W py a1 a8 (by omega) b8 q;simp only[u5];by_cases z:(na-1 == 0)=true
      ·rw[Zd z,jA];exact wpS_pure ⟨rfl,.inl ⟨_,dnA M2 z,rfl⟩⟩
      ·rw[Ze z];have z:=neq z
       split
       ·exact wpS_pure ⟨rfl,.inr ⟨_,_,_,_,_,rfl,M2,by omega,by omega,by omega,by omega,by omega⟩⟩
       ·exact wpS_pure ⟨rfl,_,_,_,_,_,rfl,M2,by omega,by omega,by omega,by omega,by omega⟩
     |false =>
      rw[Ze (by simp)];refine wpS_bind (xz (by omega) ?_);have M2:=M.two W hxy px a1 a8 (by omega) b8 q;simp only[u5];by_cases z:(nb-1 == 1)=true
      ·rw[Zd z,jA];exact wpS_pure ⟨rfl,.inl ⟨_,fsB M2 z,rfl⟩⟩
      ·rw[Ze z];have z:=neq z
       split
       ·exact wpS_pure ⟨rfl,.inr ⟨_,_,_,_,_,rfl,M2,by omega,by omega,by omega,by omega,by omega⟩⟩
       ·exact wpS_pure ⟨rfl,_,_,_,_,_,rfl,M2,by omega,by omega,by omega,by omega,by omega⟩
    ·rintro c sy ⟨rfl,na,nb,o,ac,bc,rfl,M,a1,b1,a8,b8,g⟩;exact⟨rfl,.inr ⟨_,_,_,_,_,rfl,M,by omega,by omega,by omega,by omega,by omega⟩⟩
    ·rintro c sy ⟨rfl,⟨o,mo,e⟩|⟨na,nb,o,ac,bc,rfl,M,a1,b1,a8,b8,g⟩⟩
     ·obtain⟨c1,c2⟩:=c;have e:c1=some (ar it o):=e;subst e;exact wpS_pure ⟨se,o,mo,rfl⟩
     ·dsimp only;refine wpS_bind (wpS_lift (wpAny_rule ⟨rfl,?_⟩));refine wpS_bind (wpS_mono (wpS_forRange (I:=fun y c sy=>SEq st sy/\∃na nb o mg ac bc,c=(none,na,nb,ar it o.reverse,mg,ac,bc)/\MInvH lt xs ys na nb o/\1<=na/\2<=nb/\na<=xs.size/\nb<=ys.size/\x+2+na+nb<=xs.size+ys.size)
       (Q:=fun c sy=>SEq st sy/\((∃o,Mrg lt xs ys o/\c.1=some (ar it o))\/∃na nb o mg ac bc,c=(none,na,nb,ar it o.reverse,mg,ac,bc)/\MInvH lt xs ys na nb o/\1<=na/\2<=nb/\na<=xs.size/\nb<=ys.size/\x+2+na+nb<=xs.size+ys.size)) ?_ ?_ ⟨se,na,nb,o,_,ac,bc,rfl,M,a1,b1,a8,b8,g⟩) ?_)
      ·rintro y c sy _ hy ⟨se,na,nb,o,mg,ac,bc,rfl,M,a1,b1,a8,b8,g⟩;dsimp only;apply jp1 (P:=fun _:Nat=>True)
       ·intro key;by_cases m1:mg > 1
        ·rw[Zd m1];generalize mg-1=m9;exact key m9 trivial
        ·rw[Ze m1];exact key mg trivial
       ·intro mg _;refine wpS_bind (il (se.trans ⟨rfl,rfl,rfl,rfl⟩) fun sy se=>?_);refine wpS_bind (xz (by omega) ?_);refine wpS_bind (x5 (left:=false) (k:=gx ys (nb-1)) (base:=0) (n:=na) (hint:=na-1) O (se.kd.trans kd) (yn _ (yG (by omega))) (by omega) (fun i hi=>xn _ (yG (by omega))) (by omega) (iq W px (by omega)) fun m m2 m3 m4=>?_);simp only[Nat.zero_add] at m3 m4;dsimp only;have q1:1<=m->lt (gx ys (nb-1)) (gx xs (m-1))=false:=fun hz=>by
         have:=m3 (m-1) (by omega);have:(!lt (gx ys (nb-1)) (gx xs (m-1)))=true:=this;simpa using this
        apply jp3 (P:=fun (na:Nat) (o:List Nat) (_:Nat)=>MInvH lt xs ys na nb o/\1<=na/\na<=xs.size/\lt (gx ys (nb-1)) (gx xs (na-1))=false/\x+2+na+nb<=xs.size+ys.size)
        ·intro key;by_cases k0:na-m > 0
         ·rw[Zd k0];have M2:=M.galA (m:=m) W py (by omega) (by omega) b8 fun i h1 h2=>by
           have:=m4 i h1 h2;have:(!lt (gx ys (nb-1)) (gx xs i))=false:=this;simpa using this
          simp only[uh (i:=m) (j:=na),km];by_cases z1:(m == 0)=true
          ·rw[Zd z1,jA];exact wpS_pure ⟨se,.inl ⟨_,dnA M2 z1,rfl⟩⟩
          rw[Ze z1];have a2:1<=m:=by have:=neq z1;omega
          have q2:=q1 a2;have g2:x+2+m+nb<=xs.size+ys.size:=by omega
          have a9:m<=xs.size:=by omega
          generalize na-m=ac9;generalize List.drop m (List.take na xs.toList)++o=o at M2 ⊢;generalize m=na at M2 q2 a2 g2 a9 ⊢;exact key na o ac9 ⟨M2,a2,a9,q2,g2⟩
         ·rw[Ze k0];have e0:m=na:=by omega
          have q2:=q1 (by omega);rw[e0] at q2;generalize na-m=ac9;exact key na o ac9 ⟨M,a1,a8,q2,g⟩
        ·rintro na o ac9 ⟨M2,a2,a9,q2,g2⟩;refine wpS_bind (xz (by omega) ?_);have M3:=M2.two W hxy px a2 a9 (by omega) b8 q2;simp only[u5];by_cases z3:(nb-1 == 1)=true
         ·rw[Zd z3,jA];exact wpS_pure ⟨se,.inl ⟨_,fsB M3 z3,rfl⟩⟩
         rw[Ze z3];have b2:2<=nb-1:=by have:=neq z3;omega
         have b9:nb-1<=ys.size:=by omega
         have g3:x+2+na+(nb-1)<=xs.size+ys.size:=by omega
         generalize gx ys (nb-1)::o=o at M3 ⊢;generalize nb-1=nb at M3 b2 b9 g3 ⊢;refine wpS_bind (xz (by omega) ?_);refine wpS_bind (x5 (left:=true) (k:=gx xs (na-1)) (base:=0) (n:=nb) (hint:=nb-1) O (se.kd.trans kd) (xn _ (yG (by omega))) (by omega) (fun i hi=>yn _ (yG (by omega))) (by omega) (ig W py (by omega)) fun k k2 k3 k4=>?_);simp only[Nat.zero_add] at k3 k4;dsimp only;have q3:1<=k->lt (gx ys (k-1)) (gx xs (na-1))=true:=fun hz=>k3 (k-1) (by omega);apply jp3 (P:=fun (nb:Nat) (o:List Nat) (_:Nat)=>MInvH lt xs ys na nb o/\2<=nb/\nb<=ys.size/\lt (gx ys (nb-1)) (gx xs (na-1))=true/\x+2+na+nb<=xs.size+ys.size)
         ·intro key;by_cases k9:nb-k > 0
          ·rw[Zd k9];have M4:=M3.galB (m:=k) W hxy px (by omega) a2 a9 k4;simp only[uh (i:=k) (j:=nb),km];by_cases z4:(k == 1)=true
           ·rw[Zd z4,jA];exact wpS_pure ⟨se,.inl ⟨_,fsB M4 z4,rfl⟩⟩
           rw[Ze z4];by_cases z6:(k == 0)=true
           ·rw[Zd z6,jA];exact wpS_pure ⟨se,.inl ⟨_,dnB M4 z6,rfl⟩⟩
           rw[Ze z6];have b3:2<=k:=by have:=neq z4;have:=neq z6;omega
           have q4:=q3 (by omega);have g4:x+2+na+k<=xs.size+ys.size:=by omega
           have b7:k<=ys.size:=by omega
           generalize nb-k=bc9;generalize List.drop k (List.take nb ys.toList)++o=o at M4 ⊢;generalize k=nb at M4 b3 q4 g4 b7 ⊢;exact key nb o bc9 ⟨M4,b3,b7,q4,g4⟩
          ·rw[Ze k9];have e1:k=nb:=by omega
           have q4:=q3 (by omega);rw[e1] at q4;generalize nb-k=bc9;exact key nb o bc9 ⟨M3,b2,b9,q4,g3⟩
         ·rintro nb o bc9 ⟨M4,b3,b7,q4,g4⟩;refine wpS_bind (xz (by omega) ?_);have M5:=M4.one W py a2 a9 (by omega) b7 q4;simp only[u5];by_cases z5:(na-1 == 0)=true
          ·rw[Zd z5,jA];exact wpS_pure ⟨se,.inl ⟨_,dnA M5 z5,rfl⟩⟩
          rw[Ze z5];have a3:=neq z5
          split
          ·exact wpS_pure ⟨se,.inr ⟨_,_,_,_,_,_,rfl,M5,by omega,by omega,by omega,by omega,by omega⟩⟩
          exact wpS_pure ⟨se,_,_,_,_,_,_,rfl,M5,by omega,by omega,by omega,by omega,by omega⟩
      ·rintro c sy ⟨se,na,nb,o,mg,ac,bc,rfl,M,a1,b1,a8,b8,g⟩;exact⟨se,.inr ⟨_,_,_,_,_,_,rfl,M,a1,b1,a8,b8,g⟩⟩
      ·rintro c sy ⟨se,⟨o,mo,e⟩|⟨na,nb,o,mg,ac,bc,rfl,M,a1,b1,a8,b8,g⟩⟩
       ·obtain⟨c1,c2⟩:=c;have e:c1=some (ar it o):=e;subst e;exact wpS_pure ⟨se,o,mo,rfl⟩
       ·dsimp only;refine wpS_bind (wpS_modify ?_);exact wpS_pure ⟨se.trans ⟨rfl,rfl,rfl,rfl⟩,_,_,_,_,rfl,M,a1,b1,a8,b8,by omega⟩
   ·rintro c sx ⟨se,na,nb,o,mg,rfl,M,a1,b1,a8,b8,g⟩;exfalso;omega
   ·rintro c sx ⟨se,o,mo,e⟩;obtain⟨c1,c2⟩:=c;have e:c1=some (ar it o):=e;subst e;exact wpS_pure (h o sx se mo)
end
theorem nA {α : Type}(k:Nat):∀(l:List α) (i:Nat) (a:Array α),k+i+l.length<=a.size->((l.zipIdx i).foldl (fun a (p:α × Nat)=>a.setIfInBounds (k+p.2) p.1) a).toList=a.toList.take (k+i)++l++a.toList.drop (k+i+l.length)
 | [],i,a,h=>by simp
 |x::r,i,a,h=>by
  rw[Zu] at h;rw[List.zipIdx_cons,List.foldl_cons,nA k r (i+1) _ (by rw[Array.size_setIfInBounds];omega),Array.toList_setIfInBounds,Zu];have e1:(a.toList.set (k+i) x).take (k+(i+1))=a.toList.take (k+i)++[x]:=by
   rw[show k+(i+1)=(k+i)+1 by omega,List.take_succ,List.take_set_of_le (Zf _),List.getElem?_set_self (by simp;omega)];rfl
  rw[e1,List.drop_set_of_lt (by omega),show k+(i+1)+r.length=k+i+(r.length+1) by omega,List.append_assoc,List.append_assoc,List.append_assoc];rfl
theorem kq {α β : Type}(f:α -> β)(xs:Array α)(i j:Nat):(xs.map f).extract i j=(xs.extract i j).map f:=by
 apply Array.ext';simp[List.map_take,List.map_drop]
theorem pb {ix:Array Nat}{i j a:Nat}(h:i+a<j)(hj:j<=ix.size):gx (ix.extract i j) a=gx ix (i+a):=by
 unfold gx;rw[Array.getElem?_extract,Zd (by omega)]
section
variable {prog:Program}{w:World}{A:Around}{E:Value->Shared->Prop}{s:Shared}{kind:SortKind}{it:Nat->Keyed}{lt:Nat->Nat->Bool}{st:SortSt}{n:Nat}
theorem sl_set {sy:SortSt}{Q:PUnit->SortSt->Prop}(h:Q ⟨⟩ sy):wpS (model prog w) A E s (set sy:StateT SortSt Sem PUnit) Q st:=by
 unfold wpS;rw[StateT.run_set];exact Zb ⟨rfl,h⟩
theorem ua {ix:Array Nat}{i j x:Nat}(hj:j<=ix.size)(h:x∈(ix.extract i j).toList):∃l,i<=l/\l<j/\x=gx ix l:=by
 rw[Array.toList_extract,List.extract_eq_drop_take] at h;obtain⟨l,l1,l2,l3⟩:=oG (xs:=ix) (i:=i) (k:=j-i) h;exact⟨i+l,by omega,by omega,l3⟩
theorem ic {ix:Array Nat}{R:Nat->Nat->Prop}{i j:Nat}(hj:j<=ix.size)(h:∀a b,i<=a->a<b->b<j->R (gx ix a) (gx ix b)):(ix.extract i j).toList.Pairwise R:=by
 rw[List.pairwise_iff_getElem];intro a b ha hb ab;have sz:(ix.extract i j).size=j-i:=by simp;omega
 have hb':b<j-i:=by rw[<- sz,<- Array.length_toList];exact hb
 have e:∀c (hc:c<(ix.extract i j).toList.length),c<j-i->(ix.extract i j).toList[c]=gx ix (i+c):=fun c hc h=>by
  rw[<- pb (i:=i) (j:=j) (a:=c) (by omega) hj];unfold gx;rw[Array.getElem?_eq_getElem (by rw[sz];exact h)];simp
 rw[e a ha (by omega),e b hb hb'];exact h _ _ (by omega) (by omega) (by omega)
theorem mono_f1 {x y k:Nat}(W:Wk lt)(b:Bef lt x y)(h:be lt false y k=true):be lt false x k=true:=by
 have b:=Bef.no W b;have h:(!lt k y)=true:=h;show(!lt k x)=true;cases q:lt k x with
 |false=>rfl
 |true =>
  rcases W.neg _ y _ q with z|z
  ·rw[z] at h;cases h
  ·rw[b] at z;cases z
theorem mono_t1 {x y k:Nat}(W:Wk lt)(b:Bef lt x y)(h:be lt true y k=true):be lt true x k=true:=by
 have b:=Bef.no W b;have h:lt y k=true:=h;show lt x k=true;rcases W.neg _ x _ h with z|z
 ·rw[b] at z;cases z
 ·exact z
end
structure PlO (lo N:Nat)(bs ix:Array Nat)(k:Nat):Prop where
 size:ix.size=N
 perm:ix.Perm (Array.range N)
 low:∀a,a<lo->gx ix a=gx bs a
 mid:∀a,lo<=a->a<k->lo<=gx ix a/\gx ix a<k
 suf:∀a,k<=a->a<N->gx ix a=a
theorem kL {N a:Nat}{ix:Array Nat}(p:ix.Perm (Array.range N))(ha:a<ix.size):gx ix a<N:=by
 have:=(Array.perm_iff_toList_perm.mp p).mem_iff.mp (yG ha);simpa using this
section
variable {lo N k:Nat}{bs ix:Array Nat}
theorem PlO.all (h:PlO lo N bs ix k){a:Nat}(ha:a<N):gx ix a<N:=kL h.perm (by rw[h.size];exact ha)
theorem PlO.succ (h:PlO lo N bs ix k)(hl:lo<=k)(hk:k<N):PlO lo N bs ix (k+1):=by
 refine⟨h.size,h.perm,h.low,fun a h0 ha=>?_,fun a h1 h2=>h.suf a (by omega) h2⟩;by_cases c:a<k
 ·have:=h.mid a h0 c;omega
 ·have:a=k:=by omega
  subst this;rw[h.suf a (Zf _) hk];omega
theorem PlO.rev {i:Nat}(h:PlO lo N bs ix k)(hk:k<=N)(li:lo<=i)(hi:i<=k):PlO lo N bs (mirror ix i k ((k-i) / 2)) k:=by
 have hz:k<=ix.size:=by rw[h.size];exact hk
 refine⟨by rw[mirror_size];exact h.size,(mirror_perm _ _ _ _).trans h.perm,fun a ha=>?_,fun a h0 ha=>?_,fun a h1 h2=>?_⟩
 ·rw[zR hz,Ze (by omega)];exact h.low a ha
 ·rw[zR hz]
  split
  ·exact h.mid _ (by omega) (by omega)
  ·exact h.mid a h0 ha
 ·rw[zR hz,Ze (by omega)];exact h.suf a h1 h2
end
def UpO (lt:Nat->Nat->Bool)(lo:Nat)(ix:Array Nat)(k:Nat):Prop:=∀a b,lo<=a->a<b->b<k->Bef lt (gx ix a) (gx ix b)
def DnO (lt:Nat->Nat->Bool)(lo:Nat)(ix:Array Nat)(k:Nat):Prop:=∀a b,lo<=a->a<b->b<k->Bef lt (gx ix b) (gx ix a)
structure SBp (it:Nat->Keyed)(kind:SortKind)(pn:Array (Nat×Nat×Nat))(ix:Array Nat)(st:SortSt):Prop where
 arr:arrOf st=ix.map it
 kd:kindOf st=kind
 fl:failedOf st=none
 pd:pendingOf st=pn
structure EqO (lt:Nat->Nat->Bool)(lo:Nat)(ix:Array Nat)(x q:Nat):Prop where
 le:lo+(q+1)<=x
 out:∀a b,lo<=a->a<b->b<x->a<x-(q+1)->lt (gx ix b) (gx ix a)=true\/(b<x-(q+1)/\Bef lt (gx ix b) (gx ix a))
 same:∀a b,x-(q+1)<=a->a<x->x-(q+1)<=b->b<x->lt (gx ix a) (gx ix b)=false
 rise:∀a b,x-(q+1)<=a->a<b->b<x->gx ix a<gx ix b
section
variable {lt:Nat->Nat->Bool}{lo:Nat}{ix:Array Nat}(W:Wk lt)
include W
theorem EqO.down {x q:Nat}(h:EqO lt lo ix x q)(hz:x<=ix.size):DnO lt lo (mirror ix (x-(q+1)) x ((x-(x-(q+1))) / 2)) x:=by
 intro a b la ab bx;have le:=h.le;rw[zR hz,zR hz];by_cases ca:x-(q+1)<=a
 ·rw[Zd (by omega),Zd (by omega)];exact .inr ⟨h.same _ _ (by omega) (by omega) (by omega) (by omega),h.rise _ _ (by omega) (by omega) (by omega)⟩
 ·rw[Ze (show ¬(x-(q+1)<=a/\a<x) by omega)]
  split
  ·rcases h.out a (x-(q+1)+x-1-b) la (by omega) (by omega) (by omega) with z|z
   ·exact .inl z
   ·exact z.2
  ·rcases h.out a b la ab bx (by omega) with z|z
   ·exact .inl z
   ·exact z.2
theorem EqO.down0 {x:Nat}(h:EqO lt lo ix x 0):DnO lt lo ix x:=by
 intro a b la ab bx;have le:=h.le;rcases h.out a b la ab bx (by omega) with z|z
 ·exact .inl z
 ·exact z.2
theorem EqO.less {x:Nat}(hx:lo+1<=x)(D:DnO lt lo ix x)(hl:lt (gx ix x) (gx ix (x-1))=true):EqO lt lo ix (x+1) 0:=by
 have top:∀a,lo<=a->a<x->lt (gx ix x) (gx ix a)=true:=fun a la ax=>by
  by_cases c:a=x-1
  ·rw[c];exact hl
  ·rcases W.neg _ (gx ix a) _ hl with z|z
   ·exact z
   ·rw[Bef.no W (D a (x-1) la (by omega) (by omega))] at z;exact zqb z
 refine⟨by omega,fun a b la ab bx ax=>?_,fun a b a1 a2 b1 b2=>?_,fun a b a1 ab bx=>by omega⟩
 ·by_cases c:b<x
  ·exact .inr ⟨by omega,D a b la ab c⟩
  ·have e:b=x:=by omega
   rw[e];exact .inl (top a la (by omega))
 ·have e1:a=x:=by omega
  have e2:b=x:=by omega
  rw[e1,e2];cases z:lt (gx ix x) (gx ix x) with
  |false=>rfl
  |true=>have:=W.asy _ _ z;rw[z] at this;cases this
theorem EqO.more {x q:Nat}(h:EqO lt lo ix x q)(hx:gx ix x=x)(pre:∀a,lo<=a->a<x->gx ix a<x)(n1:lt (gx ix x) (gx ix (x-1))=false)(n2:lt (gx ix (x-1)) (gx ix x)=false):EqO lt lo ix (x+1) (q+1):=by
 have le:=h.le;have up:∀k,lt (gx ix (x-1)) k=true->lt (gx ix x) k=true:=fun k z=>by
  rcases W.neg _ (gx ix x) _ z with y|y
  ·rw[n2] at y;exact zqb y
  ·exact y
 have dn:∀k,lt k (gx ix x)=true->lt k (gx ix (x-1))=true:=fun k z=>by
  rcases W.neg _ (gx ix (x-1)) _ z with y|y
  ·exact y
  ·rw[n2] at y;exact zqb y
 have up':∀k,lt (gx ix x) k=true->lt (gx ix (x-1)) k=true:=fun k z=>by
  rcases W.neg _ (gx ix (x-1)) _ z with y|y
  ·rw[n1] at y;exact zqb y
  ·exact y
 refine⟨by omega,fun a b la ab bx ax=>?_,fun a b a1 a2 b1 b2=>?_,fun a b a1 ab bx=>?_⟩
 ·by_cases c:b=x
  ·rw[c];rcases h.out a (x-1) la (by omega) (by omega) (by omega) with z|z
   ·exact .inl (up _ z)
   ·omega
  ·rcases h.out a b la ab (by omega) (by omega) with z|z
   ·exact .inl z
   ·exact .inr ⟨by omega,z.2⟩
 ·by_cases ca:a=x
  ·by_cases cb:b=x
   ·rw[ca,cb];cases z:lt (gx ix x) (gx ix x) with
    |false=>rfl
    |true=>have:=W.asy _ _ z;rw[z] at this;cases this
   ·rw[ca];cases z:lt (gx ix x) (gx ix b) with
    |false=>rfl
    |true =>
     have y:=up' _ z;rw[h.same (x-1) b (by omega) (by omega) (by omega) (by omega)] at y;exact zqb y
  ·by_cases cb:b=x
   ·rw[cb];cases z:lt (gx ix a) (gx ix x) with
    |false=>rfl
    |true =>
     have y:=dn _ z;rw[h.same a (x-1) (by omega) (by omega) (by omega) (by omega)] at y;exact zqb y
   ·exact h.same a b (by omega) (by omega) (by omega) (by omega)
 ·by_cases cb:b=x
  ·rw[cb,hx];exact pre a (by omega) (by omega)
  ·exact h.rise a b (by omega) ab (by omega)
end
section
variable {prog:Program}{w:World}{A:Around}{E:Value->Shared->Prop}{s:Shared}{kind:SortKind}{it:Nat->Keyed}{lt:Nat->Nat->Bool}{lo N:Nat}{bs ix:Array Nat}{st:SortSt}{pn:Array (Nat×Nat×Nat)}
theorem mR {a b k:Nat}{Q:Option Bool->SortSt->Prop}(O:Orc prog w A s kind it lt N)(B:SBp it kind pn ix st)(L:PlO lo N bs ix k)(ha:a<N)(hb:b<N)(h:Q (some (lt (gx ix a) (gx ix b))) st) :
 wpS (model prog w) A E s (ltAt' a b) Q st:=by
 have e1:(arrOf st)[a]? = some (it (gx ix a)):=by rw[B.arr,Array.getElem?_map,kh (by rw[L.size];exact ha)];rfl
 have e2:(arrOf st)[b]? = some (it (gx ix b)):=by rw[B.arr,Array.getElem?_map,kh (by rw[L.size];exact hb)];rfl
 rw[ltAt'_eq];refine wpS_bind (wpS_get ?_);show wpS _ _ _ _ (elem' (arrOf st) a >>= fun x=>elem' (arrOf st) b >>= fun y=>lt' x y) Q st;rw[elem'_eq,elem'_eq,e1,e2];exact wpS_bind (wpS_pure (wpS_bind (wpS_pure (qS O B.kd (L.all ha) (L.all hb) h))))
theorem SBp.set {jx:Array Nat}(B:SBp it kind pn ix st){xs:Array Keyed}(e:xs=jx.map it):SBp it kind pn jx (setArr st xs):=⟨e,B.kd,B.fl,B.pd⟩
variable (W:Wk lt)(O:Orc prog w A s kind it lt N)
include W O
theorem jW {a nr:Nat}{f:Nat->Option (Option Nat)×Nat->StateT SortSt Sem (ForInStep (Option (Option Nat)×Nat))}{Q:Option (Option Nat)×Nat->SortSt->Prop}
 (hf:∀(x c:Nat) (R:ForInStep (Option (Option Nat)×Nat)->SortSt->Prop),1<=c->c<nr->(lt (gx ix (lo+c)) (gx ix (lo+c-1))=true->R (.done (none,c)) st)->(lt (gx ix (lo+c)) (gx ix (lo+c-1))=false->R (.yield (none,c+1)) st)->wpS (model prog w) A E s (f x (none,c)) R st)
 (hn:lo+nr<=N) (ha:1<=a) (han:a<=nr) (L:PlO lo N bs ix (lo+a)) (U:UpO lt lo ix (lo+a))
 (h:∀m,a<=m->m<=nr->PlO lo N bs ix (lo+m)->UpO lt lo ix (lo+m)->(m=nr\/lt (gx ix (lo+m)) (gx ix (lo+m-1))=true)->Q (none,m) st):wpS (model prog w) A E s (forIn [a:nr] (none,a) f) Q st:=by
 refine wpS_forRange (I:=fun x c sx=>sx=st/\c=(none,x)/\PlO lo N bs ix (lo+x)/\UpO lt lo ix (lo+x)) ?_ ?_ ⟨rfl,rfl,L,U⟩
 ·rintro x c sx ax xn ⟨rfl,rfl,Lx,Ux⟩;refine hf x x _ (by omega) xn (fun q=>h x ax (by omega) Lx Ux (.inr q)) fun q=>?_;have ex:gx ix (lo+x)=lo+x:=Lx.suf _ (Zf _) (by omega);refine⟨rfl,rfl,Lx.succ (by omega) (by omega),fun i j li ij jx=>?_⟩;have last:Bef lt (gx ix (lo+x-1)) (gx ix (lo+x)):=.inr ⟨q,by rw[ex];exact(Lx.mid _ (by omega) (by omega)).2⟩;by_cases c:j<lo+x
  ·exact Ux i j li ij c
  ·have e:j=lo+x:=by omega
   subst e;by_cases d:i=lo+x-1
   ·rw[d];exact last
   ·exact Bef.trans W (Ux i (lo+x-1) li (by omega) (by omega)) last
 ·rintro c sx ⟨rfl,rfl,Lx,Ux⟩;have e:max a nr=nr:=by omega
  rw[e] at Lx Ux ⊢;exact h nr han (Zf _) Lx Ux (.inl rfl)
theorem so_count {nr:Nat}{Q:Option Nat->SortSt->Prop}(h1:1<=nr)(hn:lo+nr<=N)(B:SBp it kind pn ix st)(L:PlO lo N bs ix (lo+1))
 (h:∀k jx st',SBp it kind pn jx st'->1<=k->k<=nr->PlO lo N bs jx (lo+k)->UpO lt lo jx (lo+k)->Q (some k) st'):wpS (model prog w) A E s (countRun' lo nr) Q st:=by
 refine wpS_bind (jW W O (fun x c R c1 c2 r1 r2=>?_) hn (Zf 1) h1 L (fun a b la ab b1=>by omega) fun m m1 m2 Lm Um why=>?_)
 ·refine wpS_bind (mR O B L (by omega) (by omega) ?_);dsimp only;cases q:lt (gx ix (lo+c)) (gx ix (lo+c-1)) with
  |true=>exact wpS_pure (r1 q)
  |false=>exact wpS_pure (r2 q)
 dsimp only;by_cases mn:(m == nr)=true
 ·rw[Zd mn];exact wpS_pure (h m ix st B m1 m2 Lm Um)
 rw[Ze mn];have mn:m≠nr:=fun z=>mn (beq_iff_eq.mpr z);have hl:lt (gx ix (lo+m)) (gx ix (lo+m-1))=true:=why.resolve_left mn;have hz:lo+m<=ix.size:=by rw[Lm.size];omega
 by_cases gt:m > 1;rw[Zd gt];refine wpS_bind (mR O B Lm (by omega) (by omega) ?_);dsimp only;by_cases rose:lt (gx ix lo) (gx ix (lo+m-1))=true
 ·rw[Zd rose];exact wpS_pure (h m ix st B m1 m2 Lm Um)
 rw[Ze rose];have rose:lt (gx ix lo) (gx ix (lo+m-1))=false:=by simpa using rose
 have flat:∀a b,lo<=a->a<lo+m->lo<=b->b<lo+m->lt (gx ix a) (gx ix b)=false:=fun a b la am lb bm=>by
  cases z:lt (gx ix a) (gx ix b) with
  |false=>rfl
  |true =>
   rcases W.neg _ (gx ix lo) _ z with y|y
   ·by_cases a0:a=lo
    ·rw[a0] at y;have:=W.asy _ _ y;rw[y] at this;cases this
    ·rw[Bef.no W (Um lo a (Zf _) (by omega) am)] at y;exact zqb y
   ·rcases W.neg _ (gx ix (lo+m-1)) _ y with u|u
    ·rw[rose] at u;exact zqb u
    ·by_cases bm':b=lo+m-1
     ·rw[bm'] at u;have:=W.asy _ _ u;rw[u] at this;cases this
     ·rw[Bef.no W (Um b (lo+m-1) lb (by omega) (by omega))] at u;exact zqb u
 have rise:∀a b,lo<=a->a<b->b<lo+m->gx ix a<gx ix b:=fun a b la ab bm=>by
  rcases Um a b la ab bm with z|z
  ·rw[flat a b la (by omega) (by omega) bm] at z;exact zqb z
  ·exact z.2
 have D:DnO lt lo (mirror ix lo (lo+m) ((lo+m-lo) / 2)) (lo+m):=fun a b la ab bm=>by
  rw[zR hz,zR hz,Zd (by omega),Zd (by omega)];exact .inr ⟨flat _ _ (by omega) (by omega) (by omega) (by omega),rise _ _ (by omega) (by omega) (by omega)⟩
 refine wpS_bind (wpS_reverse ?_);obtain⟨jx,B1,L1,X1⟩:∃jx,SBp it kind pn jx (setArr st (mirror (arrOf st) lo (lo+m) ((lo+m-lo) / 2)))/\PlO lo N bs jx (lo+(m+1))/\EqO lt lo jx (lo+(m+1)) 0:=by
  refine⟨_,B.set (by rw[B.arr,wA]),(Lm.rev (by omega) (Zf _) (by omega)).succ (by omega) (by omega),EqO.less (x:=lo+m) W (by omega) D ?_⟩;rw[zR hz,zR hz,Ze (show ¬(lo<=lo+m/\lo+m<lo+m) by omega),Zd (by omega)];rcases W.neg _ (gx ix (lo+(lo+m)-1-(lo+m-1))) _ hl with z|z
  ·exact z
  ·rw[flat _ _ (by omega) (by omega) (by omega) (by omega)] at z;exact zqb z
 generalize setArr st (mirror (arrOf st) lo (lo+m) ((lo+m-lo) / 2))=sy at B1 ⊢
 rotate_left
 rw[Ze gt];obtain⟨jx,B1,L1,X1⟩:∃jx,SBp it kind pn jx st/\PlO lo N bs jx (lo+(m+1))/\EqO lt lo jx (lo+(m+1)) 0:=by
  have e1:m=1:=by omega
  subst e1;exact⟨ix,B,Lm.succ (by omega) (by omega),EqO.less (x:=lo+1) W (by omega) (fun a b la ab b1=>by omega) hl⟩
 generalize st=sy at B1 ⊢
 all_goals
  refine wpS_bind (wpS_lift (wpAny_rule ⟨rfl,?_⟩));refine wpS_bind (wpS_mono (wpS_forRange (I:=fun x c sx=>∃q kx,c=(none,x,q)/\SBp it kind pn kx sx/\PlO lo N bs kx (lo+x)/\EqO lt lo kx (lo+x) q) (Q:=fun c sx=>∃x q kx,c=(none,x,q)/\m+1<=x/\x<=nr/\SBp it kind pn kx sx/\PlO lo N bs kx (lo+x)/\EqO lt lo kx (lo+x) q) ?_ ?_ ⟨0,jx,rfl,B1,L1,X1⟩) ?_)
  ·rintro x c sx mx xn ⟨q,kx,rfl,Bx,Lx,Ex⟩;dsimp only;have hz:lo+x<=kx.size:=by rw[Lx.size];omega
   have ex:gx kx (lo+x)=lo+x:=Lx.suf _ (Zf _) (by omega);refine wpS_bind (mR O Bx Lx (by omega) (by omega) ?_);dsimp only;cases z:lt (gx kx (lo+x)) (gx kx (lo+x-1)) with
   |true =>
    rw[Zd rfl];by_cases hq:q > 0
    ·rw[Zd hq];have le:=Ex.le;refine wpS_bind (wpS_reverse (wpS_pure ⟨0,_,rfl,Bx.set (by rw[Bx.arr,wA]),(Lx.rev (by omega) (by omega) (by omega)).succ (by omega) (by omega),EqO.less (x:=lo+x) W (by omega) (Ex.down W hz) ?_⟩));rw[zR hz,zR hz,Ze (show ¬(lo+x-(q+1)<=lo+x/\lo+x<lo+x) by omega),Zd (by omega)];rcases W.neg _ (gx kx (lo+x-(q+1)+(lo+x)-1-(lo+x-1))) _ z with y|y
     ·exact y
     ·rw[Ex.same _ _ (by omega) (by omega) (by omega) (by omega)] at y;exact zqb y
    ·rw[Ze hq];have q0:q=0:=by omega
     subst q0;exact wpS_pure ⟨0,kx,rfl,Bx,Lx.succ (by omega) (by omega),EqO.less (x:=lo+x) W (by omega) (Ex.down0 W) z⟩
   |false =>
    rw[Ze (by simp)];refine wpS_bind (mR O Bx Lx (by omega) (by omega) ?_);dsimp only;cases y:lt (gx kx (lo+x-1)) (gx kx (lo+x)) with
    |true =>
     rw[Zd rfl];exact wpS_pure ⟨x,q,kx,rfl,by omega,by omega,Bx,Lx,Ex⟩
    |false =>
     rw[Ze (by simp)];exact wpS_pure ⟨q+1,kx,rfl,Bx,Lx.succ (by omega) (by omega),Ex.more W ex (fun a la ha=>(Lx.mid a la ha).2) z y⟩
  ·rintro c sx ⟨q,kx,rfl,Bx,Lx,Ex⟩;have e:max (m+1) nr=nr:=by omega
   rw[e] at Lx Ex ⊢;exact⟨nr,q,kx,rfl,by omega,by omega,Bx,Lx,Ex⟩
  rintro c sx ⟨x,q,kx,rfl,x1,x2,Bx,Lx,Ex⟩;dsimp only;have hz:lo+x<=kx.size:=by rw[Lx.size];omega
  have le:=Ex.le;by_cases hq:q > 0;rw[Zd hq];refine wpS_bind (wpS_reverse ?_);obtain⟨px,B2,L2,D2⟩:∃px,SBp it kind pn px (setArr sx (mirror (arrOf sx) (lo+x-(q+1)) (lo+x) ((lo+x-(lo+x-(q+1))) / 2)))/\PlO lo N bs px (lo+x)/\DnO lt lo px (lo+x):=⟨_,Bx.set (by rw[Bx.arr,wA]),Lx.rev (by omega) (by omega) (by omega),Ex.down W hz⟩;generalize setArr sx (mirror (arrOf sx) (lo+x-(q+1)) (lo+x) ((lo+x-(lo+x-(q+1))) / 2))=sz at B2 ⊢
  rotate_left
  rw[Ze hq];obtain⟨px,B2,L2,D2⟩:∃px,SBp it kind pn px sx/\PlO lo N bs px (lo+x)/\DnO lt lo px (lo+x):=by
   have q0:q=0:=by omega
   subst q0;exact⟨kx,Bx,Lx,Ex.down0 W⟩
  generalize sx=sz at B2 ⊢
  all_goals
   refine wpS_bind (wpS_reverse ?_);have hz:lo+x<=px.size:=by rw[L2.size];omega
   have B3:SBp it kind pn (mirror px lo (lo+x) ((lo+x-lo) / 2)) (setArr sz (mirror (arrOf sz) lo (lo+x) ((lo+x-lo) / 2))):=B2.set (by rw[B2.arr,wA]);have L3:=L2.rev (i:=lo) (by omega) (Zf _) (by omega);refine wpS_bind (jW W O (fun y c R c1 c2 r1 r2=>?_) hn (by omega) x2 L3 (fun a b la ab bm=>?_) fun k k1 k2 Lk Uk _=>?_)
   ·refine wpS_bind (mR O B3 L3 (by omega) (by omega) ?_);dsimp only;cases q:lt (gx (mirror px lo (lo+x) ((lo+x-lo) / 2)) (lo+c)) (gx (mirror px lo (lo+x) ((lo+x-lo) / 2)) (lo+c-1)) with
    |true=>exact wpS_pure (r1 q)
    |false=>exact wpS_pure (r2 q)
   ·rw[zR hz,zR hz,Zd (by omega),Zd (by omega)];exact D2 _ _ (by omega) (by omega) (by omega)
   exact wpS_pure (h k _ _ B3 (by omega) k2 Lk Uk)
theorem so_bin {fc ok:Nat}{Q:Bool->SortSt->Prop}(hfc:lo+fc<=N)(hok:ok<=fc)(h1:1<=ok)(B:SBp it kind pn ix st)(L:PlO lo N bs ix (lo+ok))(U:UpO lt lo ix (lo+ok))
 (h:∀jx st',SBp it kind pn jx st'->PlO lo N bs jx (lo+fc)->UpO lt lo jx (lo+fc)->Q true st'):wpS (model prog w) A E s (binarySort' lo fc ok) Q st:=by
 rw[binarySort'_eq];have hm:max ok 1=ok:=by omega
 rw[hm];refine wpS_bind (wpS_mono (wpS_forRange (I:=fun k c st'=>c=(none,())/\∃jx,SBp it kind pn jx st'/\PlO lo N bs jx (lo+k)/\UpO lt lo jx (lo+k)) (Q:=fun c st'=>c=(none,())/\∃jx,SBp it kind pn jx st'/\PlO lo N bs jx (lo+fc)/\UpO lt lo jx (lo+fc)) ?_ ?_ ⟨rfl,ix,B,L,U⟩) ?_)
 ·rintro k c sk hk1 hk2 ⟨rfl,jx,Bk,Lk,Uk⟩;have ek:gx jx (lo+k)=lo+k:=Lk.suf _ (Zf _) (by omega);refine wpS_bind (wpS_mono (wpS_forRange (I:=fun x c sx=>sx=sk/\∃l r,c=(none,l,r)/\l<=r/\r<=k/\r-l<=k-x/\(∀i,i<l->lt (lo+k) (gx jx (lo+i))=false)/\(∀i,r<=i->i<k->lt (lo+k) (gx jx (lo+i))=true))
   (Q:=fun c sx=>sx=sk/\∃l r,c=(none,l,r)/\l<=k/\(∀i,i<l->lt (lo+k) (gx jx (lo+i))=false)/\(∀i,l<=i->i<k->lt (lo+k) (gx jx (lo+i))=true)) ?_ ?_ ⟨rfl,0,k,rfl,by omega,by omega,by omega,fun i hi=>by omega,fun i a b=>by omega⟩) ?_)
  ·rintro x c sx _ hx ⟨rfl,l,r,rfl,lr,rk,gap,low,hi⟩;dsimp only;by_cases ge:l ≥ r
   ·rw[Zd ge];have e:l=r:=by omega
    subst e;exact wpS_pure ⟨rfl,l,l,rfl,rk,low,hi⟩
   ·rw[Ze ge];obtain⟨m,hm,m1,m2,m3,m4⟩:=ip (Nat.lt_of_not_le ge) gap;rw[hm];have mk:=Zg m2 rk;refine wpS_bind (mR O Bk Lk (by omega) (by omega) ?_);rw[ek];cases q:lt (lo+k) (gx jx (lo+m)) with
    |true =>
     simp only[if_true];refine wpS_pure ⟨rfl,l,m,rfl,m1,Zy mk,m3,low,fun i a b=>?_⟩;by_cases im:i=m
     ·rw[im];exact q
     ·rcases W.neg (lo+k) (gx jx (lo+i)) _ q with z|z
      ·exact z
      ·rw[Bef.no W (Uk (lo+m) (lo+i) (by omega) (by omega) (by omega))] at z;exact zqb z
    |false =>
     simp only[Bool.false_eq_true,if_false];refine wpS_pure ⟨rfl,m+1,r,rfl,m2,rk,m4,fun i a=>?_,hi⟩;by_cases im:i=m
     ·rw[im];exact q
     ·cases z:lt (lo+k) (gx jx (lo+i)) with
      |false=>rfl
      |true =>
       rcases W.neg (lo+k) (gx jx (lo+m)) _ z with y|y
       ·rw[q] at y;exact zqb y
       ·rw[Bef.no W (Uk (lo+i) (lo+m) (by omega) (by omega) (by omega))] at y;exact zqb y
  ·rintro c sx ⟨rfl,l,r,rfl,lr,rk,gap,low,hi⟩;have e:l=r:=by omega
   subst e;exact⟨rfl,l,l,rfl,rk,low,hi⟩
  ·rintro c sx ⟨rfl,l,r,rfl,lk,low,hi⟩;show wpS _ _ _ _ (moveDown' (lo+k) (lo+l) >>= fun _=>pure (ForInStep.yield (none,()))) _ _;rw[moveDown'_eq];have hs:lo+k<jx.size:=by rw[Lk.size];omega
   have low:∀i,lo<=i->i<lo+l->lt (lo+k) (gx jx i)=false:=fun i h1 h2=>by
    have:=low (i-lo) (by omega)
    rwa [show lo+(i-lo)=i by omega] at this
   have hi:∀i,lo+l<=i->i<lo+k->lt (lo+k) (gx jx i)=true:=fun i h1 h2=>by
    have:=hi (i-lo) (by omega) (by omega)
    rwa [show lo+(i-lo)=i by omega] at this
   refine wpS_bind (wpS_modify (wpS_pure ⟨rfl,bubble jx (lo+k) (lo+k-(lo+l)),Bk.set (by rw[Bk.arr,bubble_map]),⟨by rw[bubble_size];exact Lk.size,(bubble_perm _ _ _).trans Lk.perm,fun a ha=>?_,fun a h0 ha=>?_,fun a a1 a2=>?_⟩,fun a b la ab bk=>?_⟩))
   ·rw[wu hs (by omega),Ze (by omega),Ze (by omega)];exact Lk.low a ha
   ·rw[wu hs (by omega)]
    repeat' split
    ·rw[ek];omega
    ·have:=Lk.mid (a-1) (by omega) (by omega);omega
    ·by_cases c:a<lo+k
     ·have:=Lk.mid a h0 c;omega
     ·have:a=lo+k:=by omega
      subst this;rw[ek];omega
   ·rw[wu hs (by omega),Ze (by omega),Ze (by omega)];exact Lk.suf a (by omega) a2
   ·rw[wu hs (by omega),wu hs (by omega),show lo+k-(lo+k-(lo+l))=lo+l by omega,ek]
    repeat' split
    all_goals first
     | (exfalso;omega)
     |exact Uk _ _ (by omega) (by omega) (by omega)
     |exact .inl (hi _ (by omega) (by omega))
     |exact .inr ⟨low _ (by omega) (by omega),(Lk.mid _ (by omega) (by omega)).2⟩
 ·rintro c sk ⟨rfl,jx,b1,b2,b3⟩;have e:max ok fc=fc:=by omega
  rw[e] at b2 b3;exact⟨rfl,jx,b1,b2,b3⟩
 ·rintro c sk ⟨rfl,jx,b1,b2,b3⟩;exact wpS_pure (h jx sk b1 b2 b3)
end
structure Seg (lt:Nat->Nat->Bool)(ix:Array Nat)(a b:Nat):Prop where
 pl:∀i,a<=i->i<b->a<=gx ix i/\gx ix i<b
 up:∀i j,a<=i->i<j->j<b->Bef lt (gx ix i) (gx ix j)
theorem Seg.same {lt:Nat->Nat->Bool}{ix jx:Array Nat}{a b:Nat}(S:Seg lt ix a b)(h:∀i,a<=i->i<b->gx jx i=gx ix i):Seg lt jx a b:=⟨fun i h1 h2=>by rw[h i h1 h2];exact S.pl i h1 h2,fun i j h1 h2 h3=>by rw[h i h1 (by omega),h j (by omega) h3];exact S.up i j h1 h2 h3⟩
section
variable {prog:Program}{w:World}{A:Around}{E:Value->Shared->Prop}{s:Shared}{kind:SortKind}{it:Nat->Keyed}{lt:Nat->Nat->Bool}{st:SortSt}{N:Nat}
theorem Seg.join {a m b:Nat}{ix:Array Nat}(W:Wk lt)(S:Seg lt ix a m)(T:Seg lt ix m b)(h2:m<b)(k:∀i,a<=i->i<m->Bef lt (gx ix i) (gx ix m))(am:a<=m):Seg lt ix a b:=by
 refine⟨fun i h1 h3=>?_,fun i j h1 ij jb=>?_⟩
 ·by_cases z:i<m
  ·have:=S.pl i h1 z;omega
  ·have:=T.pl i (by omega) h3;omega
 ·by_cases z:j<m
  ·exact S.up i j h1 ij z
  ·by_cases y:m<=i
   ·exact T.up i j y ij jb
   ·by_cases e:j=m
    ·rw[e];exact k i h1 (by omega)
    ·exact Bef.trans W (k i h1 (by omega)) (T.up m j (Zf _) (by omega) jb)
theorem Seg.put {a n1 b m k:Nat}{ix:Array Nat}{o:List Nat}(W:Wk lt)(S:Seg lt ix a n1)(T:Seg lt ix n1 b)(hb:b<=ix.size)(ham:a<=m)(hm:m<n1)(hk:1<=k)(hkn:n1+k<=b)(pre:∀i,a<=i->i<m->lt (gx ix n1) (gx ix i)=false)(suf:∀i,n1+k<=i->i<b->lt (gx ix i) (gx ix (n1-1))=false)
 (M:Mrg lt (ix.extract m n1) (ix.extract n1 (n1+k)) o):∃jx:Array Nat,jx.toList=ix.toList.take m++o++ix.toList.drop (n1+k)/\o.length=n1+k-m/\jx.Perm ix/\Seg lt jx a b/\∀i,i<a\/b<=i->gx jx i=gx ix i:=by
 have lz:ix.toList.length=ix.size:=by simp
 have ex:(ix.extract m n1).toList=(ix.toList.drop m).take (n1-m):=by rw[Array.toList_extract,List.extract_eq_drop_take]
 have ey:(ix.extract n1 (n1+k)).toList=(ix.toList.drop n1).take k:=by rw[Array.toList_extract,List.extract_eq_drop_take];congr 1;omega
 have whole:ix.toList.take m++((ix.extract m n1).toList++(ix.extract n1 (n1+k)).toList)++ix.toList.drop (n1+k)=ix.toList:=by
  rw[ex,ey];have e1:ix.toList.drop n1=(ix.toList.drop n1).take k++ix.toList.drop (n1+k):=by rw[<- List.drop_drop,List.take_append_drop]
  have e2:ix.toList.drop m=(ix.toList.drop m).take (n1-m)++ix.toList.drop n1:=by
   have:ix.toList.drop n1=(ix.toList.drop m).drop (n1-m):=by rw[List.drop_drop];congr 1;omega
   rw[this,List.take_append_drop]
  conv=>rhs;rw[<- List.take_append_drop m ix.toList,e2,e1]
  simp only[List.append_assoc]
 have ol:o.length=n1+k-m:=by
  rw[M.1.length_eq,List.length_append,ex,ey,List.length_take,List.length_take,List.length_drop,List.length_drop];omega
 have pm:(ix.toList.take m++o++ix.toList.drop (n1+k)).Perm ix.toList:=by
  conv=>rhs;rw[<- whole]
  exact List.Perm.append_right _ (List.Perm.append_left _ M.1)
 have inx:∀x∈o,(∃b,m<=b/\b<n1/\x=gx ix b)\/∃b,n1<=b/\b<n1+k/\x=gx ix b:=fun x hx=>by
  rcases List.mem_append.mp (M.1.mem_iff.mp hx) with z|z
  ·obtain⟨b,b1,b2,b3⟩:=ua (by omega) z;exact .inl ⟨b,b1,b2,b3⟩
  ·obtain⟨b,b1,b2,b3⟩:=ua (by omega) z;exact .inr ⟨b,b1,b2,b3⟩
 obtain⟨jx,ej⟩:∃jx:Array Nat,jx=(ix.toList.take m++o++ix.toList.drop (n1+k)).toArray:=⟨_,rfl⟩;have jl:jx.toList=ix.toList.take m++o++ix.toList.drop (n1+k):=by rw[ej]
 have lt1:(ix.toList.take m).length=m:=by rw[List.length_take];omega
 have at1:∀i,i<m->gx jx i=gx ix i:=fun i h=>by
  unfold gx;rw[<- Array.getElem?_toList,<- Array.getElem?_toList,jl,List.append_assoc,List.getElem?_append_left (by omega),List.getElem?_take,Zd h]
 have at2:∀i,m<=i->i<n1+k->gx jx i∈o/\jx.toList[i]? = o[i-m]? := fun i h1 h2=>by
  have e:jx.toList[i]? = o[i-m]? := by rw[jl,List.append_assoc,List.getElem?_append_right (by omega),lt1,List.getElem?_append_left (by omega)]
  refine⟨?_,e⟩;unfold gx;rw[<- Array.getElem?_toList,e,Zqg (by omega)];exact List.getElem_mem _
 have at3:∀i,n1+k<=i->gx jx i=gx ix i:=fun i h=>by
  unfold gx;rw[<- Array.getElem?_toList,<- Array.getElem?_toList,jl,List.append_assoc,List.getElem?_append_right (by omega),lt1,List.getElem?_append_right (by omega),ol,List.getElem?_drop]
  congr 2
  omega
 have pk:∀i,a<=i->i<m->Bef lt (gx ix i) (gx ix n1):=fun i h1 h=>.inr ⟨pre i h1 h,by have:=S.pl i h1 (by omega);have:=T.pl n1 (Zf _) (by omega);omega⟩;have pq:∀i j,a<=i->i<m->n1<=j->j<b->Bef lt (gx ix i) (gx ix j):=fun i j h0 h h1 h2=>by
  by_cases z:j=n1
  ·rw[z];exact pk i h0 h
  ·exact Bef.trans W (pk i h0 h) (T.up n1 j (Zf _) (by omega) h2)
 have sk:∀c,n1+k<=c->c<b->Bef lt (gx ix (n1-1)) (gx ix c):=fun c h1 h2=>.inr ⟨suf c h1 h2,by have:=S.pl (n1-1) (by omega) (by omega);have:=T.pl c (by omega) h2;omega⟩;have sq:∀i c,a<=i->i<n1->n1+k<=c->c<b->Bef lt (gx ix i) (gx ix c):=fun i c h0 h1 h2 h3=>by
  by_cases z:i=n1-1
  ·rw[z];exact sk c h2 h3
  ·exact Bef.trans W (S.up i (n1-1) h0 (by omega) (by omega)) (sk c h2 h3)
 have o2:∀i j,m<=i->i<j->j<n1+k->Bef lt (gx jx i) (gx jx j):=fun i j h1 h2 h3=>by
  have p:=List.pairwise_iff_getElem.mp M.2 (i-m) (j-m) (by omega) (by omega) (by omega);have e1:gx jx i=o[i-m]'(by omega):=by
   unfold gx;rw[<- Array.getElem?_toList,(at2 i h1 (by omega)).2,Zqg (by omega)];rfl
  have e2:gx jx j=o[j-m]'(by omega):=by
   unfold gx;rw[<- Array.getElem?_toList,(at2 j (by omega) h3).2,Zqg (by omega)];rfl
  rw[e1,e2];exact p
 refine⟨jx,jl,ol,?_,⟨fun i h1 h2=>?_,fun i j h1 ij jb=>?_⟩,fun i h=>?_⟩
 ·rw[Array.perm_iff_toList_perm,jl];exact pm
 ·by_cases c1:i<m
  ·rw[at1 i c1];have:=S.pl i h1 (by omega);omega
  ·by_cases c2:i<n1+k
   ·rcases inx _ (at2 i (by omega) c2).1 with ⟨y,y1,y2,y3⟩|⟨y,y1,y2,y3⟩
    ·rw[y3];have:=S.pl y (by omega) y2;omega
    ·rw[y3];have:=T.pl y y1 (by omega);omega
   ·rw[at3 i (by omega)];have:=T.pl i (by omega) h2;omega
 ·by_cases c1:i<m
  ·rw[at1 i c1];by_cases d1:j<m
   ·rw[at1 j d1];exact S.up i j h1 ij (by omega)
   ·by_cases d2:j<n1+k
    ·rcases inx _ (at2 j (by omega) d2).1 with ⟨y,y1,y2,y3⟩|⟨y,y1,y2,y3⟩
     ·rw[y3];exact S.up i y h1 (by omega) y2
     ·rw[y3];exact pq i y h1 c1 y1 (by omega)
    ·rw[at3 j (by omega)];exact pq i j h1 c1 (by omega) jb
  ·by_cases c2:i<n1+k
   ·by_cases d2:j<n1+k
    ·exact o2 i j (by omega) ij d2
    ·rw[at3 j (by omega)];rcases inx _ (at2 i (by omega) c2).1 with ⟨y,y1,y2,y3⟩|⟨y,y1,y2,y3⟩
     ·rw[y3];exact sq y j (by omega) y2 (by omega) jb
     ·rw[y3];exact T.up y j y1 (by omega) jb
   ·rw[at3 i (by omega),at3 j (by omega)];exact T.up i j (by omega) ij jb
 ·rcases h with z|z
  ·exact at1 i (by omega)
  ·exact at3 i (by omega)
theorem pend_set {l r:List (Nat×Nat×Nat)}{x y z:Nat×Nat×Nat}:((l++x::y::r).toArray.setIfInBounds l.length z).eraseIdxIfInBounds (l.length+1)=(l++z::r).toArray:=by
 apply Array.ext';rw[List.setIfInBounds_toArray];unfold Array.eraseIdxIfInBounds;rw[dif_pos (by simp)];rw[Array.toList_eraseIdx];simp[List.eraseIdx_append_of_length_le]
theorem sl_mergeG {a n1 b pw p2:Nat}{l r:List (Nat×Nat×Nat)}{ix:Array Nat}{Q:Bool->SortSt->Prop}(W:Wk lt)(O:Orc prog w A s kind it lt N)(B:SBp it kind (l++(a,n1-a,pw)::(n1,b-n1,p2)::r).toArray ix st)(hz:ix.size=N)(pm:ix.Perm (Array.range N))(S:Seg lt ix a n1)(T:Seg lt ix n1 b)(h1:a<n1)(h2:n1<b)(hb:b<=N)
 (h:∀jx st',SBp it kind (l++(a,b-a,pw)::r).toArray jx st'->jx.Perm ix->Seg lt jx a b->(∀i,i<a\/b<=i->gx jx i=gx ix i)->Q true st'):wpS (model prog w) A E s (mergeAt' l.length) Q st:=by
 have lo1:∀i,i<N->gx ix i<N:=fun i hi=>kL pm (by omega);refine wpS_bind (wpS_get ?_);cases st with
 |mk kk aa pp mm ff =>
  have pd:pp=(l++(a,n1-a,pw)::(n1,b-n1,p2)::r).toArray:=B.pd;have ha:aa=ix.map it:=B.arr;have kd:kk=kind:=B.kd;have fl:ff=none:=B.fl;clear B;subst pd ha kd fl;dsimp only;have e0:(l++(a,n1-a,pw)::(n1,b-n1,p2)::r).toArray[l.length]? = some (a,n1-a,pw):=by simp
  have e1:(l++(a,n1-a,pw)::(n1,b-n1,p2)::r).toArray[l.length+1]? = some (n1,b-n1,p2):=by
   rw[List.getElem?_toArray,List.getElem?_append_right (by omega),show l.length+1-l.length=1 by omega];rfl
  rw[e0,e1];dsimp only;rw[pend_set,show n1-a+(b-n1)=b-a by omega];refine wpS_bind (sl_set ?_);refine wpS_bind (xz (by omega) ?_);refine wpS_bind (x5 (left:=false) (k:=gx ix n1) (base:=a) (n:=n1-a) (hint:=0) O rfl (lo1 _ (by omega)) (by omega) (fun i hi=>lo1 _ (by omega)) (by omega) (fun i j ij jn q=>?_) fun m m2 m3 m4=>?_)
  ·exact mono_f1 W (S.up (a+i) (a+j) (by omega) (by omega) (by omega)) q
  dsimp only;have m3:∀i,a<=i->i<a+m->lt (gx ix n1) (gx ix i)=false:=fun i h1 h2=>by
   have q:(!lt (gx ix n1) (gx ix (a+(i-a))))=true:=m3 (i-a) (by omega);rw[show a+(i-a)=i by omega] at q;simpa using q
  have m4:∀i,a+m<=i->i<n1->lt (gx ix n1) (gx ix i)=true:=fun i h1 h2=>by
   have q:(!lt (gx ix n1) (gx ix (a+(i-a))))=false:=m4 (i-a) (by omega) (by omega);rw[show a+(i-a)=i by omega] at q;simpa using q
  have up:∀i,a<=i->i<n1->lt (gx ix n1) (gx ix i)=false->Bef lt (gx ix i) (gx ix n1):=fun i h3 h q=>.inr ⟨q,by have:=S.pl i h3 h;have:=T.pl n1 (Zf _) h2;omega⟩;by_cases c1:(n1-a-m == 0)=true
  ·rw[Zd c1];have c1:=beq_iff_eq.mp c1;exact wpS_pure (h ix _ ⟨rfl,rfl,rfl,rfl⟩ (.refl _) (S.join W T h2 (fun i h3 hi=>up i h3 hi (m3 i h3 (by omega))) (by omega)) fun _ _=>rfl)
  ·rw[Ze c1];have c1:a+m<n1:=by
    rcases Nat.lt_or_ge (a+m) n1 with z|z
    ·exact z
    ·exact Zn (beq_iff_eq.mpr (by omega)) c1
   have e3:a+m+(n1-a-m)-1=n1-1:=by omega
   rw[e3];refine wpS_bind (xz (by omega) ?_);refine wpS_bind (x5 (left:=true) (k:=gx ix (n1-1)) (base:=n1) (n:=b-n1) (hint:=b-n1-1) O rfl (lo1 _ (by omega)) (by omega) (fun i hi=>lo1 _ (by omega)) (by omega) (fun i j ij jn q=>?_) fun k k2 k3 k4=>?_)
   ·exact mono_t1 W (T.up (n1+i) (n1+j) (by omega) (by omega) (by omega)) q
   dsimp only;by_cases c2:(k == 0)=true
   ·rw[Zd c2];have c2:=beq_iff_eq.mp c2;refine wpS_pure (h ix _ ⟨rfl,rfl,rfl,rfl⟩ (.refl _) (S.join W T h2 (fun i h3 hi=>?_) (by omega)) fun _ _=>rfl);have b:Bef lt (gx ix (n1-1)) (gx ix n1):=up _ (by omega) (by omega) (k4 0 (by omega) (by omega));by_cases z:i=n1-1
    ·rw[z];exact b
    ·exact Bef.trans W (S.up i (n1-1) h3 (by omega) (by omega)) b
   ·rw[Ze c2];have c2:1<=k:=by
     rcases Nat.lt_or_ge k 1 with z|z
     ·exact Zn (beq_iff_eq.mpr (by omega)) c2
     ·exact z
    have k3:∀i,n1<=i->i<n1+k->lt (gx ix i) (gx ix (n1-1))=true:=fun i a b=>by
     have:=k3 (i-n1) (by omega);rw[show n1+(i-n1)=i by omega] at this;exact this
    have k4:∀i,n1+k<=i->i<b->lt (gx ix i) (gx ix (n1-1))=false:=fun i a b=>by
     have:=k4 (i-n1) (by omega) (by omega);rw[show n1+(i-n1)=i by omega] at this;exact this
    obtain⟨am,eam⟩:∃am,a+m=am:=⟨_,rfl⟩;rw[eam] at c1 m3 m4 ⊢;have sx:(ix.extract am n1).size=n1-am:=by rw[Array.size_extract];omega
    have sy:(ix.extract n1 (n1+k)).size=k:=by rw[Array.size_extract];omega
    have xn:∀x∈(ix.extract am n1).toList,x<N:=fun x hx=>by
     obtain⟨l,l1,l2,rfl⟩:=ua (by omega) hx;exact lo1 _ (by omega)
    have yn:∀y∈(ix.extract n1 (n1+k)).toList,y<N:=fun x hx=>by
     obtain⟨l,l1,l2,rfl⟩:=ua (by omega) hx;exact lo1 _ (by omega)
    have hxy:∀x∈(ix.extract am n1).toList,∀y∈(ix.extract n1 (n1+k)).toList,x<y:=fun x hx y hy=>by
     obtain⟨l,l1,l2,rfl⟩:=ua (by omega) hx;obtain⟨l',l1',l2',rfl⟩:=ua (by omega) hy;have:=S.pl l (by omega) l2;have:=T.pl l' l1' (by omega);omega
    have px:=ic (ix:=ix) (R:=Bef lt) (i:=am) (j:=n1) (by omega) fun a b h ab bm=>S.up a b (by omega) ab bm;have py:=ic (ix:=ix) (R:=Bef lt) (i:=n1) (j:=n1+k) (by omega) fun a b h ab bm=>T.up a b h ab (by omega);have gx0:gx (ix.extract am n1) 0=gx ix am:=pb (by omega) (by omega);have gxl:gx (ix.extract am n1) ((ix.extract am n1).size-1)=gx ix (n1-1):=by rw[pb (by omega) (by omega)];congr 1;omega
    have gy0:gx (ix.extract n1 (n1+k)) 0=gx ix n1:=pb (by omega) (by omega);have gyl:gx (ix.extract n1 (n1+k)) ((ix.extract n1 (n1+k)).size-1)=gx ix (n1+k-1):=by rw[pb (by omega) (by omega)];congr 1;omega
    rw[kq,kq];have put:∀{o:List Nat} {jx:Array Nat},o.length=n1+k-am->jx.toList=ix.toList.take am++o++ix.toList.drop (n1+k)->List.foldl (fun (a:Array Keyed) (x:Keyed×Nat)=>a.setIfInBounds (am+x.2) x.1) (ix.map it) (ar it o).toList.zipIdx=jx.map it:=fun {o jx} j2 j1=>by
     apply Array.ext';have ol:(ar it o).toList=o.map it:=by simp[ar]
     rw[ol,nA am (o.map it) 0 _ (by rw[Array.size_map,Zql];omega),Array.toList_map,Array.toList_map,j1,Zql,Nat.add_zero,show am+o.length=n1+k by omega,List.map_append,List.map_append,List.map_take,List.map_drop]
    by_cases c3:n1-a-m<=k;rw[Zd c3];refine wpS_bind (sl_mergeLo (N:=N) W O rfl xn yn hxy px py (by omega) (by omega) (by rw[gy0,gx0];exact m4 am (Zf _) c1) (fun y hy=>?_) fun o s2 se M=>?_)
    ·obtain⟨l,l1,l2,rfl⟩:=ua (by omega) hy;rw[gxl];exact .inl (k3 l l1 l2)
    rotate_left
    rw[Ze c3];refine wpS_bind (sl_mergeHi (N:=N) W O rfl xn yn hxy px py (by omega) (by omega) (fun x hx=>?_) (by rw[gyl,gxl];exact k3 _ (by omega) (by omega)) fun o s2 se M=>?_)
    ·obtain⟨l,l1,l2,rfl⟩:=ua (by omega) hx;rw[gy0];exact .inl (m4 l l1 l2)
    all_goals
     obtain⟨jx,j1,j2,j3,j4,j5⟩:=S.put W T (by omega) (by omega) c1 c2 (by omega) m3 k4 M;refine wpS_bind (wpS_modify (wpS_bind (wpS_get ?_)));cases s2 with
     |mk sk sa sp sm sf =>
      have s1:sa=ix.map it:=se.arr;have s2:sf=none:=se.fl;have s3:sp=(l++(a,b-a,pw)::r).toArray:=se.pd;have s4:sk=_:=se.kd;subst s1 s2 s3 s4;exact wpS_pure (h jx _ ⟨put j2 j1,rfl,rfl,rfl⟩ j3 j4 j5)
noncomputable def xX (lt:Nat->Nat->Bool)(ix:Array Nat):Nat->List (Nat×Nat×Nat)->Nat->Prop
 |a,[],b=>a=b
 |a,p::r,b=>p.1=a/\1<=p.2.1/\Seg lt ix a (a+p.2.1)/\xX lt ix (a+p.2.1) r b
theorem xX.le {ix:Array Nat}:∀{l:List (Nat×Nat×Nat)} {a b:Nat},xX lt ix a l b->a+l.length<=b
 | [],a,b,h=>by rw[show a=b from h];exact Zf _
 |p::r,a,b,⟨_,h2,_,h4⟩=>by have:=h4.le;rw[Zu];omega
theorem xX.app {ix:Array Nat}:∀{l r:List (Nat×Nat×Nat)} {a b:Nat},xX lt ix a (l++r) b->∃c,xX lt ix a l c/\xX lt ix c r b
 | [],r,a,b,h=>⟨a,rfl,h⟩
 |p::l,r,a,b,⟨h1,h2,h3,h4⟩=>by
  obtain⟨c,c1,c2⟩:=xX.app (l:=l) h4;exact⟨c,⟨h1,h2,h3,c1⟩,c2⟩
theorem xX.cat {ix:Array Nat}:∀{l r:List (Nat×Nat×Nat)} {a b c:Nat},xX lt ix a l c->xX lt ix c r b->xX lt ix a (l++r) b
 | [],r,a,b,c,h,k=>by rw[show a=c from h];exact k
 |p::l,r,a,b,c,⟨h1,h2,h3,h4⟩,k=>⟨h1,h2,h3,xX.cat h4 k⟩
theorem xX.same {ix jx:Array Nat}:∀{l:List (Nat×Nat×Nat)} {a b:Nat},xX lt ix a l b->(∀i,a<=i->i<b->gx jx i=gx ix i)->xX lt jx a l b
 | [],a,b,h,_=>h
 |p::r,a,b,⟨h1,h2,h3,h4⟩,k=>⟨h1,h2,h3.same fun i x y=>k i x (by have:=h4.le;omega),h4.same fun i x y=>k i (by omega) y⟩
structure RI (it:Nat->Keyed)(kind:SortKind)(lt:Nat->Nat->Bool)(N:Nat)(ps:List (Nat×Nat×Nat))(lo:Nat)(ix:Array Nat)(st:SortSt):Prop where
 b:SBp it kind ps.toArray ix st
 size:ix.size=N
 perm:ix.Perm (Array.range N)
 ch:xX lt ix 0 ps lo
 le:lo<=N
theorem nO {i lo:Nat}{ps:List (Nat×Nat×Nat)}{ix:Array Nat}{Q:Bool->SortSt->Prop}(W:Wk lt)(O:Orc prog w A s kind it lt N)(R:RI it kind lt N ps lo ix st)(hi:i+1<ps.length)
 (h:∀ps' jx st',ps'.length+1=ps.length->RI it kind lt N ps' lo jx st'->(∀i,lo<=i->gx jx i=gx ix i)->Q true st'):wpS (model prog w) A E s (mergeAt' i) Q st:=by
 obtain⟨l,x,y,r,rfl,hl⟩:∃l x y r,ps=l++x::y::r/\l.length=i:=⟨ps.take i,ps[i],ps[i+1],ps.drop (i+2),by
  rw[<- List.drop_eq_getElem_cons hi,<- List.drop_eq_getElem_cons (by omega),List.take_append_drop],by rw[List.length_take];omega⟩
 obtain⟨c,c1,c2⟩:=R.ch.app;obtain⟨x1,x2,xp⟩:=x;obtain⟨y1,y2,yp⟩:=y;obtain⟨d1,d2,d3,d4,d5,d6,d7⟩:=c2;have q1:x1=c:=d1;have q4:y1=c+x2:=d4;have q2:1<=x2:=d2;have q5:1<=y2:=d5;have q3:Seg lt ix c (c+x2):=d3;have q6:Seg lt ix (c+x2) (c+x2+y2):=d6;have q7:xX lt ix (c+x2+y2) r lo:=d7;clear d1 d2 d3 d4 d5 d6 d7;subst q1 q4;have lr:=q7.le;have le:=R.le;have B:=R.b;obtain⟨n1,e1⟩:∃n1,x1+x2=n1:=⟨_,rfl⟩;obtain⟨b,e2⟩:∃b,n1+y2=b:=⟨_,rfl⟩;rw[e1] at q3 q6 q7 B lr;rw[e2] at q6 q7 lr;obtain rfl:x2=n1-x1:=by omega
 obtain rfl:y2=b-n1:=by omega
 subst hl;refine sl_mergeG W O B R.size R.perm q3 q6 (by omega) (by omega) (by omega) fun jx st' B' p' S' k'=>h (l++(x1,b-x1,xp)::r) jx st' (by simp;omega) ⟨B',by rw[p'.size_eq];exact R.size,p'.trans R.perm,?_,R.le⟩ fun i h1=>k' i (.inr (by omega));refine(c1.same fun i _ h2=>k' i (.inl h2)).cat ⟨rfl,by show 1<=b-x1;omega,?_,?_⟩
 ·show Seg lt jx x1 (x1+(b-x1));rw[show x1+(b-x1)=b by omega];exact S'
 ·show xX lt jx (x1+(b-x1)) r lo;rw[show x1+(b-x1)=b by omega];exact q7.same fun i h1 _=>k' i (.inr h1)
theorem pend_mod {l:List (Nat×Nat×Nat)}{x:Nat×Nat×Nat}(f:Nat×Nat×Nat->Nat×Nat×Nat):(l++[x]).toArray.modify ((l++[x]).toArray.size-1) f=(l++[f x]).toArray:=by
 apply Array.ext';have e:∀l:List (Nat×Nat×Nat),(l++[x]).modify l.length f=l++[f x]:=fun l=>by
  induction l with
  |nil=>rfl
  |cons y l ih=>show y::(l++[x]).modify l.length f=_;rw[ih];rfl
 simp[e]
theorem so_all {ix:Array Nat}{Q:Unit->SortSt->Prop}(W:Wk lt)(O:Orc prog w A s kind it lt N)(R0:RI it kind lt N [] 0 ix st)(suf:∀i,i<N->gx ix i=i)(h2:2<=N)
 (h:∀jx st',arrOf st'=jx.map it->failedOf st'=none->Pl N jx N->Up lt jx N->Q () st'):wpS (model prog w) A E s sortRuns' Q st:=by
 rw[sortRuns'_eq];refine wpS_bind (wpS_get ?_);dsimp only;have sz:(arrOf st).size=N:=by rw[R0.b.arr,Array.size_map];exact R0.size
 simp only[sz];generalize minRun' N N 0=mr;refine wpS_bind (wpS_mono (wpS_forRange (I:=fun x c sx=>∃lo ps ix,c=(none,lo)/\x<=lo/\RI it kind lt N ps lo ix sx/\∀i,lo<=i->i<N->gx ix i=i) (Q:=fun c sx=>∃ps ix,c=(none,N)/\RI it kind lt N ps N ix sx) ?_ ?_ ⟨0,[],ix,rfl,Zf _,R0,fun i _ hi=>suf i hi⟩) ?_)
 ·rintro x c sx _ xn ⟨lo,ps,ix,rfl,xl,R,suf⟩;dsimp only;have le:=R.le;by_cases ge:lo ≥ N
  ·rw[Zd ge];have e:lo=N:=by omega
   subst e;exact wpS_pure ⟨ps,ix,rfl,R⟩
  rw[Ze ge];have L1:PlO lo N ix ix (lo+1):=⟨R.size,R.perm,fun _ _=>rfl,fun a h1 h2=>by
   rw[suf a h1 (by omega)];omega,fun a h1 h2=>suf a (by omega) h2⟩
  refine wpS_bind (so_count W O (by omega) (by omega) R.b L1 fun m kx s2 B2 m1 m2 L2 U2=>?_);dsimp only;by_cases mn:m<mr;rw[Zd mn];refine wpS_bind (wpS_lift (wpAny_rule ⟨rfl,?_⟩));refine wpS_bind (so_bin W O (fc:=min (N-lo) mr) (by omega) (by omega) m1 B2 L2 U2 fun px s3 B3 L3 U3=>?_);have k1:1<=min (N-lo) mr:=by omega
  have k2:lo+min (N-lo) mr<=N:=by omega
  generalize min (N-lo) mr=k at k1 k2 L3 U3 ⊢;simp only[Bool.not_true,Bool.false_eq_true,if_false]
  rotate_left
  rw[Ze mn];obtain⟨k,px,s3,ek,es,B3,L3,U3,k1,k2⟩:∃k px s3,m=k/\s2=s3/\SBp it kind ps.toArray px s3/\PlO lo N ix px (lo+k)/\UpO lt lo px (lo+k)/\1<=k/\lo+k<=N:=⟨m,kx,s2,rfl,rfl,B2,L2,U2,m1,by omega⟩;rw[ek,es]
  all_goals
   have Sg:Seg lt px lo (lo+k):=⟨fun i h1 h2=>L3.mid i h1 h2,fun i j h1 h2 h3=>U3 i j h1 h2 h3⟩;have R3:RI it kind lt N ps lo px s3:=⟨B3,L3.size,L3.perm,R.ch.same fun i _ h2=>L3.low i h2,R.le⟩;refine wpS_bind (wpS_get ?_);rw[B3.pd];rcases List.eq_nil_or_concat ps with z|⟨l,y,z⟩
   ·subst z;rw[show([]:List (Nat×Nat×Nat)).toArray.back? = none from rfl];dsimp only;have c0:0=lo:=R.ch;refine wpS_bind (wpS_modify (wpS_pure ⟨lo+k,[(lo,k,0)],px,rfl,by omega,⟨⟨B3.arr,B3.kd,B3.fl,?_⟩,L3.size,L3.perm,⟨c0.symm,k1,?_,?_⟩,k2⟩,L3.suf⟩))
    ·show(pendingOf s3).push _=_;rw[B3.pd];rfl
    ·rw[<- c0] at Sg;exact Sg
    ·show 0+k=lo+k;omega
   ·subst z;rw[List.concat_eq_append] at *;obtain⟨y1,y2,y3⟩:=y;rw[show(l++[(y1,y2,y3)]).toArray.back? = some (y1,y2,y3) by simp];dsimp only;generalize power' N (2*y1+y2) (2*y1+y2+y2+k) N=pw;refine wpS_bind (wpS_mono (wpS_forRange (I:=fun _ c sy=>∃ps jx,c=(none,())/\1<=ps.length/\RI it kind lt N ps lo jx sy/\∀i,lo<=i->gx jx i=gx px i) (Q:=fun c sy=>∃ps jx,c=(none,())/\1<=ps.length/\RI it kind lt N ps lo jx sy/\∀i,lo<=i->gx jx i=gx px i) ?_ (fun _ _ z=>z) ⟨_,px,rfl,by simp,R3,fun _ _=>rfl⟩) ?_)
    ·rintro y c sy _ _ ⟨ps,jx,rfl,p1,R4,un⟩;refine wpS_bind (wpS_get ?_);rw[R4.b.pd]
     split
     ·rename_i o1 o2 older ho;have hp:2<=ps.length:=by
       split at ho
       ·rename_i z;have:=z;rw[Zm] at this;omega
       ·cases ho
      split
      ·exact wpS_pure ⟨ps,jx,rfl,p1,R4,un⟩
      ·refine wpS_bind (nO W O R4 (by rw[Zm];omega) fun ps' kx st' l' R' u'=>?_);exact wpS_pure ⟨ps',kx,rfl,by omega,R',fun i hi=>(u' i hi).trans (un i hi)⟩
     ·exact wpS_pure ⟨ps,jx,rfl,p1,R4,un⟩
    ·rintro c sy ⟨ps,jx,rfl,p1,R4,un⟩;dsimp only;rcases List.eq_nil_or_concat ps with z|⟨l2,v,z⟩
     ·rw[z] at p1;cases p1
     ·subst z;rw[List.concat_eq_append] at R4;obtain⟨v1,v2,v3⟩:=v;refine wpS_bind (wpS_modify (wpS_bind (wpS_modify (wpS_pure ⟨lo+k,l2++[(v1,v2,pw)]++[(lo,k,0)],jx,rfl,by omega,⟨⟨R4.b.arr,R4.b.kd,R4.b.fl,?_⟩,R4.size,R4.perm,?_,k2⟩,fun i h1 h2=>(un i (by omega)).trans (L3.suf i h1 h2)⟩))))
      ·show((pendingOf sy).modify ((pendingOf sy).size-1) _).push _=_;rw[R4.b.pd,pend_mod];simp
      ·obtain⟨c,c1,c2⟩:=R4.ch.app;obtain⟨d1,d2,d3,d4⟩:=c2;refine(c1.cat (r:=[(v1,v2,pw)]) (b:=lo) ⟨d1,d2,d3,d4⟩).cat ⟨rfl,k1,Sg.same fun i h1 h2=>un i h1,rfl⟩
 ·rintro c sx ⟨lo,ps,ix,rfl,xl,R,suf⟩;have le:=R.le;have e:lo=N:=by omega
  subst e;exact⟨ps,ix,rfl,R⟩
 ·rintro c sx ⟨ps,ix,rfl,R⟩;dsimp only;refine wpS_bind (wpS_mono (wpS_forRange (I:=fun x c sy=>∃ps ix,c=(none,())/\(ps.length<=1\/ps.length+x<=N)/\RI it kind lt N ps N ix sy) (Q:=fun c sy=>∃ps ix,c=(none,())/\ps.length<=1/\RI it kind lt N ps N ix sy) ?_ ?_ ⟨ps,ix,rfl,.inr (by have:=R.ch.le;omega),R⟩) ?_)
  ·rintro x c sy _ xn ⟨ps,ix,rfl,lp,R⟩;refine wpS_bind (wpS_get ?_);rw[R.b.pd];by_cases c1:ps.toArray.size<=1
   ·rw[Zd c1];exact wpS_pure ⟨ps,ix,rfl,by simpa using c1,R⟩
   ·rw[Ze c1];have c1:2<=ps.length:=by
     rw[Zm] at c1;omega
    split
    all_goals
     refine wpS_bind (nO W O R (by simp only[Zm];split<;>omega) fun ps' jx st' l' R' _=>?_);exact wpS_pure ⟨ps',jx,rfl,by omega,R'⟩
  ·rintro c sy ⟨ps,ix,rfl,lp,R⟩;exact⟨ps,ix,rfl,by omega,R⟩
  ·rintro c sy ⟨ps,ix,rfl,lp,R⟩
   match ps,lp,R with
   | [],_,R =>
    have:0=N:=R.ch;omega
   | [p],_,R =>
    obtain⟨d1,d2,d3,d4⟩:=R.ch;have d4:0+p.2.1=N:=d4;rw[d4] at d3;exact wpS_pure (h ix sy R.b.arr R.b.fl ⟨R.size,R.perm,fun a ha=>(d3.pl a (Nat.zero_le _) ha).2,fun a h1 h2=>by omega⟩ fun a b ab bn=>d3.up a b (Nat.zero_le _) ab bn)
end
open PySem PyProof.Rows
section
variable {prog:Program}{w:World}{A:Around}{E:Value->Shared->Prop}{s:Shared}{kind:SortKind}{it:Nat->Keyed}{lt:Nat->Nat->Bool}{n:Nat}{ix:Array Nat}{st:SortSt}
theorem ja (W:Wk lt)(O:Orc prog w A s kind it lt n){Q:Unit->SortSt->Prop}(B:SB it kind ix st)(L:Pl n ix 1)(h2:2<=n)(h64:n<1000)
 (h:∀jx st',arrOf st'=jx.map it->failedOf st'=none->Pl n jx n->Up lt jx n->Q () st'):wpS (model prog w) A E s sortRuns' Q st :=
 so_all W O ⟨⟨B.arr,B.kd,B.fl,B.pd⟩,L.size,L.perm,rfl,Nat.zero_le _⟩ (fun i hi=>if z:i=0 then by rw[z];have:=L.pre 0 (by omega);omega else L.suf i (by omega) hi) h2 h
end
noncomputable def yY (vs:List Value)(i:Nat):Value:=vs.getD i .none
theorem tM (vs:List Value):vs.toArray.zip vs.toArray=(Array.range vs.length).map fun i=>(yY vs i,yY vs i):=by
 apply Array.ext_getElem?;intro k;rw[Array.getElem?_map];by_cases h:k<vs.length
 ·rw[Array.getElem?_range,Zd h];have e:yY vs k=vs[k]:=by unfold yY;rw[List.getD_eq_getElem?_getD,Zqg h];rfl
  simp[Array.getElem?_zip_eq_some,h,e]
 ·rw[Array.getElem?_range,Ze h,Array.getElem?_eq_none (by simp;omega)];rfl
theorem nS {n k:Nat}(h:k<n):gx (Array.range n) k=k:=by
 unfold gx;rw[Array.getElem?_range,Zd h];rfl
theorem uD (n k:Nat)(hk:k<=n):Pl n (Array.range n) k:=by
 refine⟨Array.size_range,Array.Perm.refl _,fun a ha=>?_,fun a _ h=>nS h⟩;rw[nS (by omega)];exact ha
section
variable {prog:Program}{w:World}{A:Around}{E:Value->Shared->Prop}{s:Shared}{lt:Nat->Nat->Bool}
def f9 (prog:Program)(w:World)(A:Around)(s:Shared)(vs:List Value)(lt:Nat->Nat->Bool):Prop :=
 ∃kind,(∀(E:Value->Shared->Prop) (Q:SortKind->Shared->Prop),Q kind s->wpAny (model prog w) A (keyKind' vs.toArray) Q E s)/\Orc prog w A s kind (fun i=>(yY vs i,yY vs i)) lt vs.length
theorem sY {a:Addr}{vs:List Value}{n:Nat}{P:Fin->Shared->Prop}(W:Wk lt)(ho:s.heap.get? a=some (seqObj "list" vs.toArray n))(h64:vs.length<1000)
 (hk:∀h',(∀b o,b≠a->s.heap.get? b=some o->h'.get? b=some o)->2<=vs.length->f9 prog w A { s with heap:=h' } vs lt)
 (h:∀jx,Pl vs.length jx vs.length->Up lt jx vs.length->P (.done (.ret .none)) { s with heap:=sortedHeap s.heap a vs (jx.map (yY vs)) }) :
 wpAny (model prog w) A (Builtin.«list.sort» ⟨[.ref a],[]⟩) P E s:=by
 rw[list_sort_plain];have la:a<s.heap.objs.size:=Zk ho;obtain⟨c1,g1⟩:∃c1,(s.heap.update a (Obj.mapSeq fun _ => #[])).get? a=some (seqObj "list" #[] c1):=⟨_,get?_update_seq ho (fun _ => #[])⟩;refine Za (listItems_at ho rfl (Za (listUpdate_at ho rfl (Za (seqEpoch_at g1 rfl (Za (wpAny_newTuple (Za (wpAny_newList (wpAny_holding ?_))))))))));have ne1:∀b,b<s.heap.objs.size->b≠(s.heap.update a (Obj.mapSeq fun _ => #[])).objs.size:=fun b hb=>by
  rw[Heap.size_update];exact Zi hb
 have ne2:∀b,b<s.heap.objs.size->b≠((s.heap.update a (Obj.mapSeq fun _ => #[])).push (seqObj "tuple" vs.toArray 0)).objs.size:=fun b hb=>by
  rw[size_push',Heap.size_update];exact Zi (Nat.lt_succ_of_lt hb)
 have g6:(((s.heap.update a (Obj.mapSeq fun _ => #[])).push (seqObj "tuple" vs.toArray 0)).push (seqObj "list" #[] 0)).get? a=some (seqObj "list" #[] c1):=by
  rw[Heap.get?_push_ne _ _ _ (ne2 a la),Heap.get?_push_ne _ _ _ (ne1 a la)];exact g1
 have kp:∀b o,b≠a->s.heap.get? b=some o->(((s.heap.update a (Obj.mapSeq fun _ => #[])).push (seqObj "tuple" vs.toArray 0)).push (seqObj "list" #[] 0)).get? b=some o:=fun b o hb e=>by
  rw[Heap.get?_push_ne _ _ _ (ne2 b (Zk e)),Heap.get?_push_ne _ _ _ (ne1 b (Zk e)),Heap.get?_update_ne _ _ _ _ hb];exact e
 have ms:∀(jx:Array Nat),(jx.map fun i=>(yY vs i,yY vs i)).map (·.2)=jx.map (yY vs):=fun jx=>by
  rw[Array.map_map];rfl
 show wpAny (model prog w) A _ P E { s with heap:=((s.heap.update a (Obj.mapSeq fun _ => #[])).push (seqObj "tuple" vs.toArray 0)).push (seqObj "list" #[] 0) };dsimp only;have sz:vs.toArray.size=vs.length:=by simp
 by_cases few:vs.toArray.size<2
 ·rw[Zd few,Zd few];refine Za (Zb ?_);rw[StateT.run_pure];refine Za (Zb ?_);dsimp only;refine Za (seqEpoch_at g6 rfl (Za (listUpdate_at g6 rfl ?_ (hsz2:=by rw[Array.size_map,tM,Array.size_map,Array.size_range,sizeLine_eq];omega))));simp only[bne_self_eq_false,Bool.false_eq_true,if_false];have fin:=h (Array.range vs.length) (uD _ _ (Zf _)) fun i j ij jn=>by omega
  rw[<- ms,<- tM] at fin;exact Zb fin
 ·rw[Ze few,Ze few];refine zc1b (hk _ kp (by omega)) fun kind k1 k2=>?_;refine Za (k1 _ _ ?_);refine Za (Zc (ja W k2 (ix:=Array.range vs.length) (st:=SortSt.mk' kind (vs.toArray.zip vs.toArray) #[] 7 none) (Q:=fun _ st'=>∃jx,arrOf st'=jx.map (fun i=>(yY vs i,yY vs i))/\failedOf st'=none/\Pl vs.length jx vs.length/\Up lt jx vs.length)
   ⟨tM vs,rfl,rfl,rfl⟩ (uD _ _ (by omega)) (by omega) h64 fun jx st' a1 a2 a3 a4=>⟨jx,a1,a2,a3,a4⟩) ?_ fun _ _ e=>e)
  rintro⟨⟨⟩,st'⟩ s' ⟨rfl,jx,q1,q2,q3,q4⟩;dsimp only;refine Za (seqEpoch_at g6 rfl (Za (listUpdate_at g6 rfl ?_ (hsz2:=by
   rw[Array.size_map,q1,Array.size_map,q3.size,sizeLine_eq];omega))))
  rw[q2];simp only[bne_self_eq_false,Bool.false_eq_true,if_false];have fin:=h jx q3 q4;rw[<- ms,<- q1] at fin;exact Zb fin
theorem qT {x:Value}{Q:Value->Shared->Prop}(W:Wk lt)
 (hc:wpAny (model prog w) A.in1 (collect x) (fun vs s1=>vs.length<1000/\(∀h',(∀b o,s1.heap.get? b=some o->h'.get? b=some o)->2<=vs.length->f9 prog w A.in1.in1 { s1 with heap:=h' } vs lt) /\
  ∀jx h' l,Pl vs.length jx vs.length->Up lt jx vs.length->(∀b o,s1.heap.get? b=some o->h'.get? b=some o)->s1.heap.objs.size<=l->(∃e,h'.get? l=some (seqObj "list" (jx.map (yY vs)) e))->Q (.ref l) { s1 with heap:=h' }) E s) :
 wpAny (model prog w) A (call (.builtin "sorted") [x]) Q E s:=by
 refine Calls.call_function_entry kind_sorted plain_sorted entry_sorted (args_sorted1 _) ?_;unfold Builtin.«sorted»;refine Za (m:=checkCount "sorted" 1 1 _) (Zb (Za (Zc hc (fun vs s1 z=>?_) fun _ _ e=>e)));obtain⟨h64,hk,hq⟩:=z;have gl:(s1.heap.push (seqObj "list" vs.toArray 0)).get? s1.heap.objs.size=some (seqObj "list" vs.toArray 0):=Zr _ rfl;have nl:∀b o,s1.heap.get? b=some o->b≠s1.heap.objs.size:=fun b o e=>Zi (Zk e);refine Za (wpAny_newList (Za (wpAny_holding (wpAny_call_entry slot_list_sort ⟨_,gl,rfl⟩ entry_list_sort (sY (s:={ s1 with heap:=s1.heap.push (seqObj "list" vs.toArray 0) }) W gl h64 (fun h' kp=>hk h' fun b o e=>kp b o (nl b o e) (Zq _ e)) fun jx p u=>⟨_,rfl,Zb ⟨_,rfl,?_⟩⟩) (args_list_sort _)))));refine hq jx _ _ p u (fun b o e=>?_) (Zf _) (sortedHeap_at gl);rw[sortedHeap_old (nl b o e) (by rw[size_push'];exact Nat.lt_succ_of_lt (Zk e))];exact Zq _ e
end
structure Tot {α : Type}(ltb:α -> α -> Bool):Prop where
 asy:∀a b,ltb a b=true->ltb b a=false
 neg:∀a b c,ltb a c=true->ltb a b=true\/ltb b c=true
 tot:∀a b,ltb a b=false->ltb b a=false->a=b
theorem Tot.irr {α : Type}{ltb:α -> α -> Bool}(T:Tot ltb)(a:α):ltb a a=false:=by
 cases q:ltb a a with
 |false=>rfl
 |true=>have:=T.asy _ _ q;rw[q] at this;cases this
theorem Tot.wk {α : Type}{ltb:α -> α -> Bool}(T:Tot ltb)(f:Nat -> α):Wk fun i j=>ltb (f i) (f j):=⟨fun i j=>T.asy _ _,fun i j k=>T.neg _ _ _⟩
noncomputable def wp (p q:Int×Int):Bool:=decide (p.1<q.1)||(decide (p.1=q.1)&&decide (p.2<q.2))
theorem yO {p q:Int×Int}:wp p q=true↔p.1<q.1\/(p.1=q.1/\p.2<q.2):=by
 unfold wp;simp
theorem uL {p q:Int×Int}:wp p q=false↔¬(p.1<q.1\/(p.1=q.1/\p.2<q.2)):=by
 rw[<- yO];simp
theorem x3:Tot wp:=by
 refine⟨fun a b h=>?_,fun a b c h=>?_,fun a b h1 h2=>?_⟩
 ·rw[yO] at h;rw[uL];omega
 ·rw[yO] at h;rw[yO,yO];omega
 ·rw[uL] at h1 h2;exact Prod.ext (by omega) (by omega)
def y8:List (Int×Int)->List (Int×Int)->Bool
 | [],[]=>false
 | [],_::_=>true
 |_::_,[]=>false
 |p::r,q::s=>if p=q then y8 r s else wp p q
theorem xj (p q:Int×Int)(r s:List (Int×Int)):y8 (p::r) (q::s)=if p=q then y8 r s else wp p q:=rfl
theorem kH:∀a b:List (Int×Int),y8 a b=true->y8 b a=false
 | [],[],h=>by exact zqb h
 | [],_::_,_=>rfl
 |_::_,[],h=>by exact zqb h
 |p::r,q::s,h=>by
  rw[xj] at h ⊢;by_cases e:p=q
  ·rw[Zd e] at h;rw[Zd e.symm];exact kH r s h
  ·rw[Ze e] at h;rw[Ze (fun z=>e z.symm)];exact x3.asy _ _ h
theorem kE:∀a b c:List (Int×Int),y8 a c=true->y8 a b=true\/y8 b c=true
 | [],[],c,h=>.inr h
 | [],_::_,_,_=>.inl rfl
 |_::_,_,[],h=>by exact zqb h
 |p::r,[],q::s,_=>.inr rfl
 |p::r,x::t,q::s,h=>by
  rw[xj] at h;rw[xj,xj];by_cases e:p=q
  ·rw[Zd e] at h;by_cases e1:p=x
   ·rw[Zd e1,Zd (e1.symm.trans e)];exact kE r t s h
   ·rw[Ze e1,Ze (fun z=>e1 (e.trans z.symm))];cases z:wp p x with
    |true=>exact .inl rfl
    |false =>
     right;rw[<- e];cases y:wp x p with
     |true=>rfl
     |false=>exact Zn (x3.tot _ _ z y) e1
  ·rw[Ze e] at h;by_cases e1:p=x
   ·rw[Zd e1,Ze (fun z=>e (e1.trans z))];right;rw[<- e1];exact h
   ·rw[Ze e1];by_cases e2:x=q
    ·left;rw[e2];exact h
    ·rw[Ze e2];exact x3.neg _ _ _ h
theorem lc:∀a b:List (Int×Int),y8 a b=false->y8 b a=false->a=b
 | [],[],_,_=>rfl
 | [],_::_,h,_=>by cases h
 |_::_,[],_,h=>by cases h
 |p::r,q::s,h1,h2=>by
  rw[xj] at h1 h2;by_cases e:p=q
  ·rw[Zd e] at h1;rw[Zd e.symm] at h2;rw[e,lc r s h1 h2]
  ·rw[Ze e] at h1;rw[Ze (fun z=>e z.symm)] at h2;exact Zn (x3.tot _ _ h1 h2) e
theorem zL:Tot y8:=⟨kH,kE,lc⟩
section
variable {α : Type}(ltb:α -> α -> Bool)
noncomputable def gL (x:α):List α -> List α
 | []=>[x]
 |y::r=>if ltb x y=true then x::y::r else y::gL x r
def zQ:List α -> List α
 | []=>[]
 |x::r=>gL ltb x (zQ r)
noncomputable def Sd (l:List α):Prop:=l.Pairwise fun a b=>ltb b a=false
variable {ltb}
theorem tQ (x:α):∀l:List α,(gL ltb x l).Perm (x::l)
 | []=>List.Perm.refl _
 |y::r=>by
  unfold gL
  split
  ·exact List.Perm.refl _
  ·exact((tQ x r).cons y).trans (List.Perm.swap x y r)
theorem zm:∀l:List α,(zQ ltb l).Perm l
 | []=>List.Perm.refl _
 |x::r=>(tQ x _).trans ((zm r).cons x)
theorem kJ (T:Tot ltb)(x:α):∀l:List α,Sd ltb l->Sd ltb (gL ltb x l)
 | [],_=>List.pairwise_singleton _ _
 |y::r,h=>by
  obtain⟨h1,h2⟩:=List.pairwise_cons.mp h;unfold gL
  split
  ·rename_i c;refine List.pairwise_cons.mpr ⟨fun z hz=>?_,h⟩;rcases List.mem_cons.mp hz with e|e
   ·rw[e];exact T.asy _ _ c
   ·cases q:ltb z x with
    |false=>rfl
    |true =>
     have n1:=h1 z e;rcases T.neg x z y c with u|u
     ·rw[T.asy _ _ u] at q;exact zqb q
     ·rw[n1] at u;exact zqb u
  ·rename_i c;refine List.pairwise_cons.mpr ⟨fun z hz=>?_,kJ T x r h2⟩;rcases List.mem_cons.mp ((tQ x r).mem_iff.mp hz) with e|e
   ·rw[e];cases q:ltb x y with
    |false=>rfl
    |true=>exact Zn q c
   ·exact h1 z e
theorem xx (T:Tot ltb):∀l:List α,Sd ltb (zQ ltb l)
 | []=>List.Pairwise.nil
 |x::r=>kJ T x _ (xx T r)
theorem nU (T:Tot ltb):∀{a b:List α},a.Perm b->Sd ltb a->Sd ltb b->a=b
 | [],b,p,_,_=>p.nil_eq
 |x::r,b,p,ha,hb=>by
  cases b with
  |nil=>exact Zn p.length_eq (by simp)
  |cons y t =>
   obtain⟨a1,a2⟩:=List.pairwise_cons.mp ha;obtain⟨b1,b2⟩:=List.pairwise_cons.mp hb;have e:x=y:=by
    rcases List.mem_cons.mp (p.mem_iff.mp Zqs) with z|z
    ·exact z
    ·rcases List.mem_cons.mp (p.mem_iff.mpr Zqs) with u|u
     ·exact u.symm
     ·exact T.tot _ _ (b1 x z) (a1 y u)
   subst e;rw[nU T p.cons_inv a2 b2]
theorem xY (T:Tot ltb){l:List α}{d:α}{jx:Array Nat}(p:Pl l.length jx l.length)(u:Up (fun i j=>ltb (l.getD i d) (l.getD j d)) jx l.length):jx.toList.map (fun i=>l.getD i d)=zQ ltb l:=by
 refine nU T ?_ ?_ (xx T l)
 ·refine List.Perm.trans ?_ (zm l).symm;have q:jx.toList.Perm (List.range l.length):=by
   have:=Array.perm_iff_toList_perm.mp p.perm;simpa using this
  refine(q.map _).trans (List.Perm.of_eq ?_);apply List.ext_getElem
  ·simp
  ·intro i h1 h2;simp[h2]
 ·refine List.pairwise_iff_getElem.mpr fun a b ha hb ab=>?_;rw[List.getElem_map,List.getElem_map];have sz:jx.toList.length=l.length:=by rw[Array.length_toList,p.size]
  rw[Zql] at ha hb;have ea:jx.toList[a]=gx jx a:=by
   unfold gx;rw[Array.getElem?_eq_getElem (by rw[p.size];omega)];simp
  have eb:jx.toList[b]=gx jx b:=by
   unfold gx;rw[Array.getElem?_eq_getElem (by rw[p.size];omega)];simp
  rw[ea,eb];exact Bef.no (T.wk fun i=>l.getD i d) (u a b ab (by omega))
end
theorem zw {α : Type}{l:List α}{i:Nat}{d x:α}(h:l[i]? = some x):l.getD i d=x:=by
 rw[List.getD_eq_getElem?_getD,h];rfl
noncomputable def wR (h:Heap)(vs:List Value)(ps:List (Int×Int)):Prop:=vs.length=ps.length/\∀(i:Nat) p,ps[i]? = some p->∃a o n t u,vs[i]? = some (.ref a)/\h.get? a=some o/\o.cls=.type "tuple" /\ o.data=.seq #[.int p.1 t,.int p.2 u] n
section
variable {prog:Program}{w:World}{A:Around}{s:Shared}
theorem ub {h:Heap}:∀{vs:List Value} {ps:List (Int×Int)},wR h vs ps->∃fs,W.KatTups h vs fs/\fs.length=vs.length/\∀v∈fs,∃k t,v=Value.int k t
 | [],ps,q=>⟨[],.nil,rfl,fun v hv=>nomatch hv⟩
 |v::vs,[],q=>by have:=q.1;simp at this
 |v::vs,p::ps,q=>by
  refine zc4a (q.2 0 p rfl) fun a o n t zz=>zc1d zz fun u e1 e2 e3 e4=>?_;have e1:some v=some (Value.ref a):=e1;obtain rfl:=Zqi e1;refine zc1c (ub (h:=h) (vs:=vs) (ps:=ps) ⟨by have:=q.1;simpa using this,fun i p hp=>q.2 (i+1) p hp⟩) fun fs k1 k2 k3=>?_;refine⟨.int p.1 t::fs,.cons e2 e3 e4 rfl k1,by simp[k2],fun v hv=>?_⟩;rcases List.mem_cons.mp hv with z|z
  ·exact⟨p.1,t,z⟩
  ·exact k3 v z
theorem keys_pairs {vs:List Value}{ps:List (Int×Int)}(q:wR s.heap vs ps)(h2:2<=vs.length):f9 prog w A s vs fun i j=>wp (ps.getD i (0,0)) (ps.getD j (0,0)):=by
 refine zc1c (ub q) fun fs k1 k2 k3=>?_;refine⟨tuples' (Value.type "int" != Value.type "tuple"),fun E Q h=>W.kat_kind (T:=Value.type "int") k1 (by omega) (fun v hv=>?_) rfl h,fun i j hi hj E Q h=>?_⟩
 ·refine zc2a (k3 v hv) fun k t zr2=>?_;subst zr2;exact W.Looks.of_pure rfl
 ·have l1:=q.1;obtain⟨p,hp⟩:∃p,ps[i]? = some p:=⟨_,Zqg (by omega)⟩;obtain⟨p',hp'⟩:∃p,ps[j]? = some p:=⟨_,Zqg (by omega)⟩;refine zc4a (q.2 i p hp) fun a o n t zz=>zc1d zz fun u e1 e2 e3 e4=>?_;refine zc4a (q.2 j p' hp') fun a' o' n' t' zz=>zc1d zz fun u' f1 f2 f3 f4=>?_;dsimp only at h;rw[zw hp,zw hp'] at h;show wpAny (model prog w) A (keyLt' _ (yY vs i) (yY vs j)) Q E s;unfold yY;rw[zw e1,zw f1];refine W.kat_lt e2 e4 f2 f4 ?_;refine W.kat_cons (PySem.SeqAt.EqAt.int_int p.1 t p'.1 t' prog w _ _ ?_);by_cases c:p.1=p'.1
  ·rw[show(p.1 == p'.1)=true by simpa using c];refine W.kat_yes (W.kat_cons (PySem.SeqAt.EqAt.int_int p.2 u p'.2 u' prog w _ _ ?_));by_cases d:p.2=p'.2
   ·rw[show(p.2 == p'.2)=true by simpa using d];refine W.kat_yes (W.kat_nil ?_);have z:wp p p'=false:=by rw[uL];omega
    rw[z] at h;exact h
   ·rw[show(p.2 == p'.2)=false by simpa using d];refine W.kat_no (W.kat_one _ _ (lt_int ?_));have z:wp p p'=decide (p.2<p'.2):=by
     by_cases g:p.2<p'.2
     ·rw[Zp g,yO];omega
     ·rw[Zo g,uL];omega
    rw[z] at h;exact h
  ·rw[show(p.1 == p'.1)=false by simpa using c];refine W.kat_no (oneLt_int ?_);have z:wp p p'=decide (p.1<p'.1):=by
    by_cases g:p.1<p'.1
    ·rw[Zp g,yO];omega
    ·rw[Zo g,uL];omega
   rw[z] at h;exact h
structure RowAt (h:Heap)(v:Value)(r:List (Int×Int))(a:Addr)(o:Obj)(us:List Value)(n:Nat):Prop where
 isv:v=.ref a
 get:h.get? a=some o
 cls:o.cls=.type "tuple"
 dat:o.data=.seq us.toArray n
 prs:wR h us r
theorem lI {P:Program}{H:Hp}{h:Heap}{r:List (Int×Int)}{x:V}{v:Value}(ok:HOk P w H h)(hr:Is H (rD r) x)(rv:yo x v):∃a o us n,RowAt h v r a o us n:=by
 unfold rD at hr;rw[Is.tuple_iff] at hr;refine zc2c hr fun a xs zr2 ht ha=>?_;subst zr2;obtain rfl:v=Value.ref a:=rv;refine we ((show yj P w H h a (.tup xs) from ok a _ ht)) fun _ zz=>zc1b zz fun its ri zz=>zc1c zz fun o e1 e2 zz=>zc1a zz fun n e3=>?_;refine⟨a,o,its,n,rfl,e1,e2,e3,?_,fun i p hp=>?_⟩
 ·have l1:=ha.length;have l2:=ri.length;rw[Zql] at l1;omega
 ·refine zc1b (ha.get (i:=i) (d:=pD p) (by rw[Zv,hp];rfl)) fun x hx hi=>?_;refine zc1b (ri.get hx) fun u hu ru=>?_;refine zc1b (rB.mp hi) fun b zr1 hb=>?_;subst zr1;obtain rfl:u=Value.ref b:=ru;refine we ((show yj P w H h b (.tup [.int p.1,.int p.2]) from ok b _ hb)) fun _ zz=>zc1b zz fun its2 r2 zz=>zc1c zz fun o2 g1 g2 zz=>zc1a zz fun n2 g3=>?_;refine zc2c (lN r2) fun u1 u2 zr2 q1 q2=>?_;subst zr2;obtain⟨t1,rfl⟩:=(show ∃t,u1=Value.int p.1 t from q1);obtain⟨t2,rfl⟩:=(show ∃t,u2=Value.int p.2 t from q2);exact⟨b,o2,n2,t1,t2,hu,g1,g2,g3⟩
theorem qr (hu:A.units+4<cLine){fin:Bool}{E:Value->Shared->Prop}{Q:Bool->Shared->Prop}:∀{r r':List (Int×Int)} {us us':List Value} (i:Nat),wR s.heap us r->wR s.heap us' r' ->
 fin=decide (r.length<r'.length)->Q (y8 r r') s->W.KatLex prog w A false fin Q (us.zip us') i s
 | [],[],us,us',i,q,q',hf,h=>by
  obtain rfl:us=[]:=List.length_eq_zero_iff.mp q.1;refine W.kat_nil ?_;rw[hf];exact h
 | [],p::r',us,us',i,q,q',hf,h=>by
  obtain rfl:us=[]:=List.length_eq_zero_iff.mp q.1;refine W.kat_nil ?_;rw[hf,Zp (by simp)];exact h
 |p::r,[],us,us',i,q,q',hf,h=>by
  obtain rfl:us'=[]:=List.length_eq_zero_iff.mp q'.1;rw[List.zip_nil_right];refine W.kat_nil ?_;rw[hf,Zo (by simp)];exact h
 |p::r,p'::r',us,us',i,q,q',hf,h=>by
  refine zc4a (q.2 0 p rfl) fun a o n t zz=>zc1d zz fun u e1 e2 e3 e4=>?_;refine zc4a (q'.2 0 p' rfl) fun a' o' n' t' zz=>zc1d zz fun u' f1 f2 f3 f4=>?_;cases us with
  |nil=>exact zqn e1
  |cons v us =>
   cases us' with
   |nil=>exact zqn f1
   |cons v' us' =>
    have e1:some v=some (Value.ref a):=e1;have f1:some v'=some (Value.ref a'):=f1;obtain rfl:=Zqi e1;obtain rfl:=Zqi f1;have R1:Reads s.heap (.ref a) (pD p) _:=.tuple e2 e3 e4 (.cons (.int p.1 t) (.cons (.int p.2 u) .nil));have R2:Reads s.heap (.ref a') (pD p') _:=.tuple f2 f3 f4 (.cons (.int p'.1 t') (.cons (.int p'.2 u') .nil));have dp:∀z:Int×Int,(pD z).depth=1:=fun z=>by
     unfold pD PyData.depth;show PyData.depthAll ([z.1,z.2].map PyData.int)+1=1;rw[sG]
    rw[List.zip_cons_cons];refine W.kat_cons (PySem.SeqAt.eqAt_reads _ _ A s _ _ _ _ R1 R2 (uJ _ (vm p)) (uJ _ (vm p')) (by rw[dp,dp];omega) prog w _ _ ?_);rw[xj] at h;by_cases c:p=p'
    ·subst c;rw[eqv_self (vm p)];rw[Zd rfl] at h;refine W.kat_yes (qr hu (E:=E) (i+1) ⟨by have:=q.1;simpa using this,fun i z hz=>q.2 (i+1) z hz⟩ ⟨by have:=q'.1;simpa using this,fun i z hz=>q'.2 (i+1) z hz⟩ (by rw[hf];simp) h)
    ·rw[Ze c] at h;have ne:pD p≠pD p':=fun z=>c (by
      unfold pD at z;injection z with z
      injection z with z1 z
      injection z with z2 z
      injection z1 with z1
      injection z2 with z2
      exact Prod.ext z1 z2)
     rw[eqv_ne (vm p) (vm p') ne];refine W.kat_no ?_;rw[Bool.false_and];have I1:IntsAre (#[Value.int p.1 t,Value.int p.2 u]:Array Value).toList [p.1,p.2]:=.cons _ _ (.cons _ _ .nil);have I2:IntsAre (#[Value.int p'.1 t',Value.int p'.2 u']:Array Value).toList [p'.1,p'.2]:=.cons _ _ (.cons _ _ .nil);refine W.kat_one _ _ (HT.lt_tupInts ⟨o,e2,e3,n,e4⟩ ⟨o',f2,f3,n',f4⟩ I1 I2 (by omega) ?_);have z:HT.lexLt [p.1,p.2] [p'.1,p'.2]=wp p p':=by
      rw[HT.lexLt_cons,HT.lexLt_cons,HT.lexLt_nil_nil];unfold wp;by_cases g:p.1=p'.1
      ·have g2:¬p.2=p'.2:=fun z=>c (Prod.ext g z);simp[g,g2]
      ·simp[g]
     rw[z];exact h
theorem qO {P:Program}{H:Hp}{rs:List (List (Int×Int))}{xs:List V}{vs:List Value}(hu:A.units+4<cLine)(ok:HOk P w H s.heap)(ha:zp H (rs.map rD) xs)(rv:yq xs vs)(hne:∀r∈rs,r ≠ [])(h2:2<=vs.length) :
 f9 prog w A s vs fun i j=>y8 (rs.getD i []) (rs.getD j []):=by
 have l1:=ha.length;have l2:=rv.length;rw[Zql] at l1;have at_:∀(i:Nat) r,rs[i]? = some r->∃v a o us n,vs[i]? = some v/\RowAt s.heap v r a o us n:=fun i r hr=>by
  refine zc1b (ha.get (i:=i) (d:=rD r) (by rw[Zv,hr];rfl)) fun x hx hi=>?_;refine zc1b (rv.get hx) fun v hv ru=>?_;refine zc4a (lI ok hi ru) fun a o us n R=>?_;exact⟨v,a,o,us,n,hv,R⟩
 have firsts:∀(vs:List Value) (rs:List (List (Int×Int))),vs.length=rs.length->(∀r∈rs,r ≠ [])->(∀(i:Nat) r,rs[i]? = some r->∃v a o us n,vs[i]? = some v/\RowAt s.heap v r a o us n)->∃fs,W.KatTups s.heap vs fs/\fs.length=vs.length/\∀v∈fs,∃b ob,v=Value.ref b/\s.heap.get? b=some ob/\ob.cls=.type "tuple" := by
  intro vs
  induction vs with
  |nil=>exact fun _ _ _ _=>⟨[],.nil,rfl,fun v hv=>nomatch hv⟩
  |cons v vs ih =>
   intro rs hl hne hat;cases rs with
   |nil=>simp at hl
   |cons r rs =>
    refine zc4a (hat 0 r rfl) fun v' a o us zz=>zc1b zz fun n e1 R=>?_;have e1:some v=some v':=e1;obtain rfl:=Zqi e1;refine zc1c (ih rs (by simpa using hl) (fun r hr=>hne r (Zqm _ hr)) fun i r hr=>hat (i+1) r hr) fun fs k1 k2 k3=>?_;cases r with
    |nil=>exact Zn rfl (hne [] Zqs)
    |cons p r =>
     refine zc4a (R.prs.2 0 p rfl) fun b ob nb t zz=>zc1d zz fun u g1 g2 g3 g4=>?_;obtain rfl:v=Value.ref a:=R.isv;refine⟨.ref b::fs,.cons R.get R.cls R.dat (by simpa using g1) k1,by simp[k2],fun z hz=>?_⟩;rcases List.mem_cons.mp hz with y|y
     ·exact⟨b,ob,y,g2,g3⟩
     ·exact k3 z y
 refine zc1c (firsts vs rs (by omega) hne at_) fun fs k1 k2 k3=>?_;refine⟨tuples' (Value.type "tuple" != Value.type "tuple"),fun E Q h=>W.kat_kind (T:=Value.type "tuple") k1 (by omega) (fun v hv=>?_) rfl h,fun i j hi hj E Q h=>?_⟩
 ·refine zc2c (k3 v hv) fun b ob zr2 g1 g2=>?_;subst zr2;rw[<- g2];exact(W.Looks.ld g1).andThen .now
 ·obtain⟨r,hr⟩:∃r,rs[i]? = some r:=⟨_,Zqg (by omega)⟩;obtain⟨r',hr'⟩:∃r,rs[j]? = some r:=⟨_,Zqg (by omega)⟩;refine zc4a (at_ i r hr) fun v a o us zz=>zc1b zz fun n e1 R=>?_;refine zc4a (at_ j r' hr') fun v' a' o' us' zz=>zc1b zz fun n' f1 R'=>?_;dsimp only at h;rw[zw hr,zw hr'] at h;show wpAny (model prog w) A (keyLt' _ (yY vs i) (yY vs j)) Q E s;unfold yY;rw[zw e1,zw f1,R.isv,R'.isv];refine W.kat_lt R.get R.dat R'.get R'.dat ?_;exact qr hu (E:=E) 0 R.prs R'.prs (by rw[Zm,Zm,R.prs.1,R'.prs.1]) h
end
section
variable {X:Cx}{tg iter elt c:Expr}{scope:Scope}{pos:Pos}{wi:TI}{g:TG}{te:TE}{tt:TT}
theorem pi (N:List Str)(cap:List (Option Nat))(hc:X.calm=true)(okB:yH scope X.env N X.N cap=true)(hi:PI X tg iter wi)(hg:∀cl C s H ex,PG (zx X scope N cl C s H ex) tg g)(ht:∀cl C s H ex,PT (zx X scope N cl C s H ex) c tt)(he:∀cl C s H ex,PE (zx X scope N cl C s H ex) elt te)
 (hs:∀x,foldedSetIterable iter X.env x=pure x) {use:Option (Value->Sem Unit)} {R:Value->Shared->Prop} {fpos:Pos} {pins:List (Addr×Obj)} {s:Shared} {σ : St} {H:Hp} {Q:VK} (I:Inv X pins σ H s) (h:tq cap wi g tt te σ H Q) (fin:uT X pins σ Q use R) :
 wpAny (model X.prog X.w) X.A (comprehension (.ListComp elt [⟨tg,iter,[c],0⟩] scope pos) scope X.env fpos (newList []) false (eval iter X.env) use) R X.xe s :=
 mz (test:=fun env R Q s=>wpAny (model X.prog X.w) X.A (isTrue c env (eval c env)) Q (notedBy (model X.prog X.w) X.A env fun e s'=>R (.error e) s') s) N (fun I turn n h=>W.kct_loop I turn n h)
  (fun cl C s H ex _ _ _ _ _ _ _ _ hR I q k=>Zc (ht cl C s H ex _ _ _ _ _ I q) (fun b s8 z=>by obtain⟨H8,I8,q8⟩:=z;exact k b s8 H8 I8 q8) fun e s' hx=>Zc hx (fun _ s'' z=>hR _ _ z) fun _ _ z=>hR _ _ z) cap hc okB hi hg (fun cl C s H ex _=>he cl C s H ex) hs I h fin
theorem pe_compIf (N:List Str)(cap:List (Option Nat))(hc:X.calm=true)(okB:yH scope X.env N X.N cap=true)(hi:PI X tg iter wi)(hg:∀cl C s H ex,PG (zx X scope N cl C s H ex) tg g)(ht:∀cl C s H ex,PT (zx X scope N cl C s H ex) c tt)(he:∀cl C s H ex,PE (zx X scope N cl C s H ex) elt te)
 (hs:autoParam (∀x,foldedSetIterable iter X.env x=pure x) zaw._auto_1):PE X (.ListComp elt [⟨tg,iter,[c],0⟩] scope pos) (tq cap wi g tt te):=by
 intro pins s σ H Q I h;rw[eval_ListComp];exact pi N cap hc okB hi hg ht he hs I h oT
end
theorem lookup_mem {L:List (Addr×HO)}{b:Addr}{u:HO}(h:L.lookup b=some u):(b,u)∈L:=by
 induction L with
 |nil=>exact zqn h
 |cons p r ih =>
  rw[List.lookup_cons] at h;cases c:b == p.1 with
  |true =>
   rw[c] at h;have e:b=p.1:=by simpa using c
   have h:some p.2=some u:=h;obtain rfl:=Zqi h;subst e;exact Zqs
  |false =>
   rw[c] at h;exact Zqm _ (ih h)
noncomputable def rR (H:Hp)(L:List (Addr×HO)):Hp:=fun b=>match L.lookup b with
 |some o=>some o
 |none=>H b
theorem uz {H:Hp}{L:List (Addr×HO)}{b:Addr}(h:∀p∈L,p.1≠b):rR H L b=H b:=by
 unfold rR;have e:L.lookup b=none:=by
  induction L with
  |nil=>rfl
  |cons p r ih =>
   rw[List.lookup_cons];have:(b == p.1)=false:=by
    have:=h p Zqs;simp;exact fun z=>this z.symm
   rw[this];exact ih fun q hq=>h q (Zqm _ hq)
 rw[e]
theorem nt {H:Hp}{L:List (Addr×HO)}(nd:(L.map (·.1)).Nodup){a:Addr}{o:HO}(h:(a,o)∈L):rR H L a=some o:=by
 unfold rR;have e:L.lookup a=some o:=by
  induction L with
  |nil=>cases h
  |cons p r ih =>
   obtain⟨n1,n2⟩:=List.nodup_cons.mp (show(p.1::r.map (·.1)).Nodup from nd);rw[List.lookup_cons];rcases List.mem_cons.mp h with z|z
   ·rw[<- z,beq_self_eq_true]
   ·have:(a == p.1)=false:=by
     simp;intro y;exact n1 (List.mem_map.mpr ⟨(a,o),z,y⟩)
    rw[this];exact ih n2 z
 rw[e]
theorem pE {H:Hp}{L:List (Addr×HO)}{b:Addr}{u:HO}(h:rR H L b=some u):(b,u)∈L\/((∀p∈L,p.1≠b)/\H b=some u):=by
 unfold rR at h;cases e:L.lookup b with
 |some o =>
  rw[e] at h;obtain rfl:=Zqi h;exact .inl (lookup_mem e)
 |none =>
  rw[e] at h;refine .inr ⟨fun p hp z=>?_,h⟩;have:(b == p.1)=true:=by simp[z]
  have q:(L.lookup b).isSome=true:=by
   clear h
   induction L with
   |nil=>cases hp
   |cons q r ih =>
    rw[List.lookup_cons];cases c:b == q.1 with
    |true=>rfl
    |false =>
     rcases List.mem_cons.mp hp with y|y
     ·rw[y] at this;rw[this] at c;cases c
     ·rw[List.lookup_cons,c] at e;exact ih e y
  rw[e] at q;exact zqb q
theorem Inv.laidMany {X:Cx}{pins:List (Addr×Obj)}{σ : St}{H:Hp}{s:Shared}{h':Heap}{t':Nat}{L:List (Addr×HO)}(I:Inv X pins σ H s)(k:∀b u,s.heap.get? b=some u->h'.get? b=some u)(hp:∀p∈L,s.heap.objs.size<=p.1)
 (ok:∀p∈L,yj X.prog X.w (rR H L) h' p.1 p.2):Inv X pins σ (rR H L) { s with heap:=h',toks:=t' }:=by
 have old:∀b u,s.heap.get? b=some u->∀p∈L,p.1≠b:=fun b u e p hq z=>Zn (Zg (Zk e) (by rw[<- z];exact hp p hq)) (Zx _);have oldH:∀b u,H b=some u->rR H L b=some u:=fun b u e=>by
  rw[uz fun p hq z=>Zn (Zg (I.hok.lt e) (by rw[<- z];exact hp p hq)) (Zx _)];exact e
 refine I.un ⟨fun b u q _ _ _=>k b u q,fun b u q _ _ _=>⟨u.slots,k b u q⟩,fun b u q n _=>by rw[uz (old b u q)];exact n,fun b u q _=>⟨u,k b u q⟩,fun b xs q=>oldH b _ q,fun b u xs q=>oldH b _ q,fun b ps q=>⟨#[],by rw[oldH b _ q];simp⟩⟩ fun b u e=>?_;rcases pE e with z|⟨z,e'⟩
 ·exact ok (b,u) z
 ·exact(I.hok b u e').stay (fun c v _ q=>k c v q) (fun c q=>oldH c _ q) fun c xs q=>oldH c _ q
theorem qw {H:Hp}{f:Nat->PyData}{g:Nat->V}:∀{L:List Nat},(∀i∈L,Is H (f i) (g i))->zp H (L.map f) (L.map g)
 | [],_=>by show zp H [] [];unfold zp;rfl
 |i::L,h=>by
  show zp H (f i::L.map f) (g i::L.map g);unfold zp;exact⟨_,_,rfl,h i Zqs,qw fun j hj=>h j (Zqm _ hj)⟩
theorem w5 {g:Nat->V}{u:Nat->Value}:∀{L:List Nat},(∀i∈L,yo (g i) (u i))->yq (L.map g) (L.map u)
 | [],_=>.nil
 |i::L,h=>.cons (h i Zqs) (w5 fun j hj=>h j (Zqm _ hj))
theorem Pl.mem {n:Nat}{jx:Array Nat}(p:Pl n jx n){i:Nat}(h:i∈jx.toList):i<n:=by
 have q:=(Array.perm_iff_toList_perm.mp p.perm).mem_iff.mp h;simpa using q
theorem Pl.len {n k:Nat}{jx:Array Nat}(p:Pl n jx k):jx.toList.length=n:=by rw[Array.length_toList,p.size]
section
variable {X:Cx}
theorem call_sortedRows (hu:X.A.units+64<cLine):zD X (.builtin "sorted") (fun xs H Q=>∃a ys rs,xs=[.ref a]/\Rd H a (.lst ys)/\zp H (rs.map rD) ys/\(∀r∈rs,r ≠ [])/\rs.length<1000 /\
 ∀(l:Addr) (ix:List Nat),H l=none->(∀i∈ix,i<rs.length)->ix.map (fun i=>rs.getD i [])=zQ y8 rs->Q (.ref l) (upd H l (.lst (ix.map fun i=>ys.getD i .non)))):=by
 intro pins s σ H xs us Q I rv h;obtain⟨a,ys,rs,rfl,ha,hA,hne,h64,q⟩:=h;obtain⟨u,rfl,ru⟩:=vy rv;obtain rfl:u=Value.ref a:=ru;obtain⟨its,ri,pl,hz⟩:=I.list (.inl ha);have l1:=hA.length;have l2:=ri.length;rw[Zql] at l1;have lw:its.length=rs.length:=by omega
 have up:∀b o,s.heap.get? b=some o->((s.heap.push (seqObj "list" #[] 0)).update s.heap.objs.size (Obj.mapSeq (· ++ its.toArray))).get? b=some o:=fun b o e=>by
  rw[Heap.get?_update_ne _ _ _ _ (Zi (Zk e)),Heap.get?_push_ne _ _ _ (Zi (Zk e))];exact e
 refine qT (zL.wk fun i=>rs.getD i []) (collect_list pl.isList ⟨by omega,fun h' kp h2=>qO (by show X.A.units+1+1+4<cLine;omega) (I.hok.kept fun b o e=>kp b o (up b o e)) hA ri hne h2,fun jx h' l p u kp hl gl=>?_⟩ (by rw[lw];exact wN (by omega)));obtain⟨e,gl⟩:=gl;rw[lw] at p u;have szl:s.heap.objs.size<=l:=by
  have:((s.heap.push (seqObj "list" #[] 0)).update s.heap.objs.size (Obj.mapSeq (· ++ its.toArray))).objs.size=s.heap.objs.size+1:=by rw[Heap.size_update,size_push']
  have hl:((s.heap.push (seqObj "list" #[] 0)).update s.heap.objs.size (Obj.mapSeq (· ++ its.toArray))).objs.size<=l:=hl;omega
 have at_:∀i∈jx.toList,∃x v,ys[i]? = some x/\its[i]? = some v/\yo x v/\Is H (rD (rs.getD i [])) x:=fun i hi=>by
  have hn:=p.mem hi;obtain⟨x,hx,hr⟩:=hA.get (i:=i) (d:=rD (rs.getD i [])) (by
   rw[Zv,Zqg hn,zw (Zqg hn)];rfl)
  obtain⟨v,hv,rr⟩:=ri.get hx;exact⟨x,v,hx,hv,rr,hr⟩
 refine⟨.ref l,upd H l (.lst (jx.toList.map fun i=>ys.getD i .non)),I.laid (a:=l) (o:=.lst (jx.toList.map fun i=>ys.getD i .non)) (t':=s.toks) (fun b o e=>kp b o (up b o e)) szl ⟨?_,jx.toList.map (yY its),e,?_,?_⟩,rfl,q l jx.toList (I.hok.fresh szl) (fun i hi=>p.mem hi) (xY zL p u)⟩
 ·rw[Zql,p.len];exact wN (by omega)
 ·refine w5 fun i hi=>?_;obtain⟨x,v,hx,hv,rr,_⟩:=at_ i hi;unfold yY;rw[zw hx,zw hv];exact rr
 ·rw[gl]
  congr 3
  apply Array.ext';simp
noncomputable def qX (vw d:Addr):HO:=.ext fun h=>h.IsItemsView vw d
theorem mt_items:MtR X "dict.items" (fun x vs H Q=>∃d kvs,x=.ref d/\vs=[]/\H d=some (.dK kvs)/\∀p,H p=none->Q (.ref p) (upd H p (qX p d))):=by
 intro pins s σ H x vs v us Q I rx rv h;refine zc2d h fun d kvs zr2 zr3 hd q=>?_;subst zr2;subst zr3;obtain rfl:v=Value.ref d:=rx;obtain rfl:us=[]:=yq.zero rv;refine xm (iU I.hok hd) fun z lo zz=>zc1b zz fun ws rel dd=>?_;refine call_meetsIn PySem.F.slot_dict_items dd.typeIs PySem.F.entry_dict_items (PySem.F.args_dict_items_1 _) (meets_dict_items (zS X.prog X.w) d lo) ⟨⟨ws,dd⟩,?_⟩;refine⟨.ref s.heap.objs.size,upd H s.heap.objs.size (qX s.heap.objs.size d),I.laid (t':=s.toks) (fun b o e=>Zq _ e) (Zf _) ?_,rfl,q _ (I.hok.fresh (Zf _))⟩;exact⟨⟨_,Zr _ rfl,rfl,rfl⟩,⟨_,Zr _ rfl⟩,fun h1 h2 z kk=>by
  refine zc1b z fun o e r=>?_;exact⟨o,kk o e,r⟩⟩
theorem call_sortedItems (hc:X.calm=true):zD X (.builtin "sorted") (fun xs H Q=>∃vw d r,xs=[.ref vw]/\H vw=some (qX vw d)/\H d=some (.dK (kvR r))/\r ≠ []/\r.length<1000 /\
 ∀l L,(∀p∈L,H p.1=none)->(L.map (·.1)).Nodup->(∀G,Is (rR G L) (.list ((zQ wp r).map pD)) (.ref l))->Q (.ref l) (rR H L)):=by
 intro pins s σ H xs us Q I rv h;refine zc3a h fun vw d r zz=>yT zz fun zr3 hv hd hne zz=>we zz fun h64 q=>?_;subst zr3;refine zc1b (vy rv) fun u zr1 ru=>?_;subst zr1;obtain rfl:u=Value.ref vw:=ru;refine xm ((show yj X.prog X.w H s.heap vw (qX vw d) from I.hok vw _ hv)) fun hview _ _=>?_;refine xm (iU I.hok hd) fun z lo zz=>zc1b zz fun ws rel zz=>zc3a zz fun od es ep zz=>yT zz fun d1 d2 d3 d4 zz=>we zz fun d5 d6=>?_;have lk:=rel.length;have lr:(kvR r).length=r.length:=Zql _;have hat:s.heap.DictAt (zS X.prog X.w) d ws ep:=⟨od,es,d1,d2,d3,d4,d5,d6⟩;refine qT (x3.wk fun i=>r.getD i (0,0)) (W.kdx_collect (knd:=zS X.prog X.w) (I.ok.hd hc) hview hat (by rw[<- lk,lr];exact wN (by omega)) fun h1 tk as kp1 la G=>?_);have lv:(as.map Value.ref).length=r.length:=by rw[Zql];omega
 have pa:∀h',(∀b o,h1.get? b=some o->h'.get? b=some o)->wR h' (as.map Value.ref) r:=fun h' kp=>by
  refine⟨lv,fun i p hp=>?_⟩;have hi:i<as.length:=by
   have:=(List.getElem?_eq_some_iff.mp hp).1;omega
  refine zc3c (G.pairs i as[i] (Zqg hi)) fun key k x g1 g2 g3=>?_;have kv:KV (kvR r) ws:=rel;have hk:(kvR r)[i]? = some (Sum.inl p.1,V.int p.2):=by unfold kvR;rw[Zv,hp];rfl
  have both:∀{l1:List (Key×V)} {l2:List (Key×Value)} {i:Nat} {a:Key×V} {b:Key×Value},KV l1 l2->l1[i]? = some a->l2[i]? = some b->a.1=b.1/\yo a.2 b.2:=by
   intro l1 l2 i a b hkv;unfold KV at hkv
   induction hkv generalizing i with
   |nil=>intro e;simp at e
   |cons hh tt ih =>
    cases i with
    |zero =>
     intro e1 e2;simp at e1 e2;subst e1 e2;exact hh
    |succ i =>
     intro e1 e2;exact ih (by simpa using e1) (by simpa using e2)
  obtain⟨b1,b2⟩:=both kv hk g1;have b1:(Sum.inl p.1:Key)=k:=b1;subst b1;obtain⟨t1,rfl⟩:=(show ∃t,x=Value.int p.2 t from b2);obtain⟨t0,rfl⟩:∃t,key=Value.int p.1 t:=by
   rcases zP (show oB (Sum.inl p.1) key=true from g2) with ⟨i0,t,e1,e2⟩|⟨x0,t,e1,e2⟩
   ·cases e1;exact⟨t,e2⟩
   ·cases e1
  exact⟨as[i],_,_,t0,t1,by rw[Zv,Zqg hi];rfl,kp _ _ g3,rfl,rfl⟩
 refine⟨by omega,fun h' kp h2=>keys_pairs (pa h' kp) h2,fun jx h' l p u kp hl gl=>?_⟩;obtain⟨e,gl⟩:=gl;rw[lv] at p u;have kk:∀b o,s.heap.get? b=some o->h'.get? b=some o:=fun b o e=>kp b o (kp1 b o e);have asl:∀a∈as,s.heap.objs.size<a:=G.above;have ash:∀a∈as,a<l:=fun a ha=>Zg (G.there ha) hl;have szl:s.heap.objs.size<=l:=by
  cases as with
  |nil=>exact Zn (List.length_eq_zero_iff.mp (by rw[<- lv];rfl)) hne
  |cons a as'=>exact Zy (Nat.lt_trans (asl a Zqs) (ash a Zqs))
 obtain⟨L,hL⟩:∃L:List (Addr×HO),L=(l,.lst (jx.toList.map fun i=>V.ref (as.getD i 0)))::(as.zip r).map fun z=>(z.1,HO.tup [.int z.2.1,.int z.2.2]):=⟨_,rfl⟩;have keysL:L.map (·.1)=l::as:=by
  rw[hL,Zl,Zw];show l::(as.zip r).map (fun z=>z.1)=_;rw[List.map_fst_zip (by omega)]
 have nd:(L.map (·.1)).Nodup:=by
  rw[keysL];refine List.nodup_cons.mpr ⟨fun m=>Zx _ (ash l m),?_⟩;exact G.rise.imp fun hlt=>Zi hlt
 have inL:∀p∈L,s.heap.objs.size<=p.1:=fun p hp=>by
  have:p.1∈L.map (·.1):=List.mem_map.mpr ⟨p,hp,rfl⟩;rw[keysL] at this;rcases List.mem_cons.mp this with z|z
  ·rw[z];exact szl
  ·exact Zy (asl _ z)
 have tupAt:∀(G:Hp) (i:Nat) p,r[i]? = some p->rR G L (as.getD i 0)=some (.tup [.int p.1,.int p.2]):=fun G i p hp=>by
  have hi:i<as.length:=by
   have:=(List.getElem?_eq_some_iff.mp hp).1;omega
  refine nt nd ?_;rw[hL];refine Zqm _ (List.mem_map.mpr ⟨(as[i],p),?_,by rw[zw (Zqg hi)]⟩);refine List.mem_of_getElem? (i:=i) ?_;rw[List.getElem?_zip_eq_some];exact⟨Zqg hi,hp⟩
 refine⟨.ref l,rR H L,I.laidMany (t':=tk) kk inL fun y hy=>?_,rfl,q l L (fun p hp=>I.hok.fresh (inL p hp)) nd fun G'=>?_⟩
 ·rw[hL] at hy;rcases List.mem_cons.mp hy with z'|z'
  ·rw[z'];refine⟨?_,jx.toList.map (yY (as.map Value.ref)),e,?_,?_⟩
   ·rw[Zql,p.len];exact wN (by omega)
   ·refine w5 fun i hi=>?_;have hn:=p.mem hi;have hi':i<as.length:=by omega
    unfold yY;rw[zw (Zqg hi'),zw (x:=Value.ref as[i]) (by rw[Zv,Zqg hi'];rfl)];rfl
   ·rw[gl]
    congr 3
    apply Array.ext';simp
  ·refine zc1b (List.mem_map.mp z') fun zr0 hm zr2=>?_;obtain⟨a,p'⟩:=zr0;subst zr2;obtain⟨i,hi⟩:=List.mem_iff_getElem?.mp hm;rw[List.getElem?_zip_eq_some] at hi;obtain⟨i1,i2⟩:=hi;refine zc4a ((pa h' kp).2 i p' i2) fun a' o' n' t' zz=>zc1d zz fun u' f1 f2 f3 f4=>?_;rw[Zv,i1] at f1;cases f1;refine zc3c (G.pairs i a i1) fun key k x g1 g2 g3=>?_;have g3':=kp _ _ g3;rw[g3'] at f2;obtain rfl:=Zqi f2;exact⟨⟨(by show 2<=sizeLine;decide),_,g3',rfl⟩,[.int p'.1 t',.int p'.2 u'],.cons ⟨t',rfl⟩ (.cons ⟨u',rfl⟩ .nil),_,g3',rfl,n',f4⟩
 ·rw[Is.list_iff];refine⟨l,_,rfl,nt nd (by rw[hL];exact Zqs),?_⟩;rw[<- xY x3 p u,Zw];refine qw fun i hi=>?_;have hn:=p.mem hi;refine rB.mpr ⟨as.getD i 0,rfl,?_⟩;have:=tupAt G' i (r.getD i (0,0)) (by rw[zw (Zqg hn)];exact Zqg hn);exact this
end
noncomputable def qi (r:List (Int×Int))(t w:Int):List (Int×Int):=if(r.any fun p=>decide (p.1=t))=true then r.map (fun p=>if p.1=t then(p.1,w) else p) else r++[(t,w)]
theorem kQ {a b:Int}:decide ((Sum.inl a:Key)=Sum.inl b)=decide (a=b):=by
 by_cases h:a=b
 ·rw[h,Zp rfl,Zp rfl]
 ·rw[Zo h,Zo (fun z=>h (by injection z))]
theorem putK_kvR (r:List (Int×Int))(t w:Int):re (kvR r) (Sum.inl t) (V.int w)=kvR (qi r t w):=by
 have e:((kvR r).any fun kv=>decide (kv.1=Sum.inl t))=r.any fun p=>decide (p.1=t):=by
  unfold kvR;rw[List.any_map]
  congr 1
  funext p
  exact kQ
 unfold re qi;rw[e]
 split
 ·unfold kvR;rw[Zw,Zw];apply List.map_congr_left;intro p _;by_cases c:p.1=t
  ·simp[c]
  ·have c':¬(Sum.inl p.1:Key)=Sum.inl t:=fun z=>c (by injection z);simp[c]
 ·unfold kvR;rw[List.map_append];rfl
theorem yM (p:Int×Int)(r:List (Int×Int))(t:Int):zk (p::r) t=match zk r t with|some w=>some w|none=>if p.1=t then some p.2 else none:=rfl
theorem lookR_map (r:List (Int×Int))(t w j:Int):zk (r.map fun p=>if p.1=t then(p.1,w) else p) j=(zk r j).map fun x=>if j=t then w else x:=by
 induction r with
 |nil=>rfl
 |cons p r ih =>
  rw[Zl,yM,yM,ih];cases q:zk r j with
  |some x=>rfl
  |none =>
   dsimp only[Option.map];by_cases c:p.1=t
   ·rw[Zd c];by_cases d:p.1=j
    ·rw[Zd d,Zd d];show some w=some (if j=t then w else p.2);rw[Zd (d.symm.trans c)]
    ·rw[Ze d,Ze d]
   ·rw[Ze c];by_cases d:p.1=j
    ·rw[Zd d];show some p.2=some (if j=t then w else p.2);rw[Ze (fun z=>c (d.trans z))]
    ·rw[Ze d]
theorem any_look (r:List (Int×Int))(t:Int):(r.any fun p=>decide (p.1=t))=(zk r t).isSome:=by
 cases q:zk r t with
 |none =>
  rw[Option.isSome_none,List.any_eq_false];rintro⟨a,b⟩ hm;by_cases e:a=t
  ·subst e;exact Zn hm (rl q b)
  ·simp[e]
 |some w =>
  rw[Option.isSome_some,List.any_eq_true];exact⟨_,zv q,by simp⟩
theorem look_putR (r:List (Int×Int))(t w j:Int):zk (qi r t w) j=if j=t then some w else zk r j:=by
 unfold qi;rw[any_look];by_cases a:(zk r t).isSome=true
 ·rw[Zd a,lookR_map];by_cases e:j=t
  ·rw[Zd e,e];obtain⟨x,hx⟩:=Option.isSome_iff_exists.mp a;rw[hx];simp
  ·rw[Ze e];cases zk r j with
   |none=>rfl
   |some x=>simp[e]
 ·rw[Ze a,lookR_append];have n:zk r t=none:=by
   cases q:zk r t with
   |none=>rfl
   |some x=>rw[q] at a;exact Zn rfl a
  rw[yM];show(match (if t=j then some w else none) with|some w=>some w|none=>zk r j)=_;by_cases e:j=t
  ·rw[Zd e,Zd e.symm]
  ·rw[Ze e,Ze (fun z=>e z.symm)]
theorem putR_fst (r:List (Int×Int))(t w:Int):(qi r t w).map (·.1)=if(r.any fun p=>decide (p.1=t))=true then r.map (·.1) else r.map (·.1)++[t]:=by
 unfold qi
 split
 ·rw[Zw];apply List.map_congr_left;intro p _;by_cases c:p.1=t
  ·simp[c]
  ·simp[c]
 ·rw[List.map_append];rfl
theorem once_putR {r:List (Int×Int)}{t w:Int}(h:yy r):yy (qi r t w):=by
 unfold yy;rw[putR_fst]
 split
 ·exact h
 ·rename_i c;unfold yy at h;rw[List.nodup_append];refine⟨h,by simp,fun a ha b hb=>?_⟩;simp at hb;subst hb;rintro rfl;refine zc1b (List.mem_map.mp ha) fun p hp e=>?_;exact c (List.any_eq_true.mpr ⟨p,hp,by simp[e]⟩)
theorem putR_len (r:List (Int×Int))(t w:Int):(qi r t w).length<=r.length+1:=by
 unfold qi
 split
 ·rw[Zql];omega
 ·rw[List.length_append];exact Zf _
theorem qL:∀(r acc:List (Int×Int)),tS (kvR acc) (kvR r)=kvR (r.foldl (fun a p=>qi a p.1 p.2) acc)
 | [],acc=>rfl
 |p::r,acc=>by
  have e:tS (kvR acc) (kvR (p::r))=tS (re (kvR acc) (Sum.inl p.1) (V.int p.2)) (kvR r):=rfl;rw[e,putK_kvR,qL r];rfl
theorem qJ:∀(r acc:List (Int×Int)),yy (acc++r)->r.foldl (fun a p=>qi a p.1 p.2) acc=acc++r
 | [],acc,_=>by simp
 |p::r,acc,h=>by
  have hn:(acc.any fun q=>decide (q.1=p.1))=false:=by
   rw[List.any_eq_false];intro q hq;simp;intro e;unfold yy at h;rw[List.map_append,List.nodup_append] at h;exact h.2.2 q.1 (List.mem_map.mpr ⟨q,hq,rfl⟩) p.1 (by simp) e
  have e:qi acc p.1 p.2=acc++[p]:=by
   unfold qi;rw[hn];simp
  rw[List.foldl_cons,e,qJ r (acc++[p]) (by rw[List.append_assoc];exact h),List.append_assoc];rfl
noncomputable def jw:Option Int->Option Int->Option Int
 |none,b=>b
 |some x,none=>some x
 |some x,some y=>some (if x > y then x else y)
def yX (acc:List (Int×Int))(p:Int×Int):List (Int×Int):=qi acc p.1 (if(zk acc p.1).getD p.2 > p.2 then(zk acc p.1).getD p.2 else p.2)
def y4 (r o:List (Int×Int)):List (Int×Int):=o.foldl yX r
theorem joinStep_look (acc:List (Int×Int))(p:Int×Int)(t:Int):zk (yX acc p) t=if t=p.1 then jw (zk acc t) (some p.2) else zk acc t:=by
 unfold yX;rw[look_putR];by_cases e:t=p.1
 ·rw[Zd e,Zd e,e];cases zk acc p.1 with
  |none=>simp[jw]
  |some x=>simp[jw]
 ·rw[Ze e,Ze e]
theorem wy (t:Int):∀(o r:List (Int×Int)),yy o->zk (y4 r o) t=jw (zk r t) (zk o t)
 | [],r,_=>by
  show zk r t=jw (zk r t) none;cases zk r t<;>rfl
 |p::o,r,h=>by
  obtain⟨h1,h2⟩:=List.nodup_cons.mp (show(p.1::o.map (·.1)).Nodup from h);have e:y4 r (p::o)=y4 (yX r p) o:=rfl;rw[e,wy t o _ h2,joinStep_look,yM];by_cases c:t=p.1
  ·have n:zk o t=none:=by
    cases q:zk o t with
    |none=>rfl
    |some w=>exact Zn (List.mem_map.mpr ⟨_,zv q,c⟩) h1
   rw[Zd c,n];dsimp only;rw[Zd c.symm];cases jw (zk r t) (some p.2)<;>rfl
  ·rw[Ze c];cases zk o t with
   |some w=>rfl
   |none =>
    dsimp only;rw[Ze (fun z=>c z.symm)]
theorem xH:∀(o r:List (Int×Int)),yy r->yy (y4 r o)
 | [],r,h=>h
 |p::o,r,h=>xH o _ (once_putR h)
theorem tI:∀(o r:List (Int×Int)),(y4 r o).length<=r.length+o.length
 | [],r=>Zf _
 |p::o,r=>by
  have a:=tI o (yX r p);have b:(yX r p).length<=r.length+1:=putR_len _ _ _;show(y4 (yX r p) o).length<=_;rw[Zu];omega
theorem nL {r o:List (Int×Int)}(h:r ≠ [])(wo:yy o):y4 r o ≠ []:=by
 intro z;cases r with
 |nil=>exact h rfl
 |cons p r =>
  have q:=wy p.1 o (p::r) wo;rw[z] at q;have:∃x,zk (p::r) p.1=some x:=by
   rw[yM];cases zk r p.1 with
   |some x=>exact⟨x,rfl⟩
   |none=>exact⟨p.2,Zd rfl⟩
  obtain⟨x,hx⟩:=this;rw[hx] at q;cases hq:zk o p.1 with
  |none=>rw[hq] at q;exact zqn q
  |some y=>rw[hq] at q;exact zqn q
theorem uy {r:List (Int×Int)}(h:yy r){t w:Int}:(t,w)∈r↔zk r t=some w:=⟨fun m=>h.look m,zv⟩
theorem yL {α : Type}{ltb:α -> α -> Bool}(T:Tot ltb):∀{a b:List α},a.Pairwise (fun x y=>ltb x y=true)->b.Pairwise (fun x y=>ltb x y=true)->(∀x,x∈a↔x∈b)->a=b
 | [],[],_,_,_=>rfl
 | [],y::b,_,_,h=>by
  have z:y∈([]:List α):=(h y).mpr Zqs;cases z
 |x::a,[],_,_,h=>by
  have z:x∈([]:List α):=(h x).mp Zqs;cases z
 |x::a,y::b,ha,hb,h=>by
  obtain⟨a1,a2⟩:=List.pairwise_cons.mp ha;obtain⟨b1,b2⟩:=List.pairwise_cons.mp hb;have e:x=y:=by
   rcases List.mem_cons.mp ((h x).mp Zqs) with z|z
   ·exact z
   ·rcases List.mem_cons.mp ((h y).mpr Zqs) with u|u
    ·exact u.symm
    ·have:=T.asy _ _ (b1 x z);rw[a1 y u] at this;cases this
  subst e
  congr 1
  refine yL T a2 b2 fun z=>⟨fun hz=>?_,fun hz=>?_⟩
  ·rcases List.mem_cons.mp ((h z).mp (Zqm _ hz)) with u|u
   ·rw[u] at hz;have:=a1 x hz;rw[T.irr] at this;exact zqb this
   ·exact u
  ·rcases List.mem_cons.mp ((h z).mpr (Zqm _ hz)) with u|u
   ·rw[u] at hz;have:=b1 x hz;rw[T.irr] at this;exact zqb this
   ·exact u
theorem uk {α β : Type}(f:α -> β):∀{l:List α},(l.map f).Nodup->l.Nodup
 | [],_=>List.nodup_nil
 |x::r,h=>by
  rw[Zl,List.nodup_cons] at h;exact List.nodup_cons.mpr ⟨fun m=>h.1 (List.mem_map_of_mem m),uk f h.2⟩
theorem uf {r:List (Int×Int)}(h:yy r):(zQ wp r).Pairwise fun x y=>wp x y=true:=by
 have hp:=zm (ltb:=wp) r;have nd:(zQ wp r).Nodup:=hp.nodup_iff.mpr (uk (fun p:Int×Int=>p.1) h);have sd:=xx x3 r;have both:(zQ wp r).Pairwise fun x y=>wp y x=false/\x≠y:=List.Pairwise.and sd nd;refine both.imp fun {x y} z=>?_;cases q:wp x y with
 |true=>rfl
 |false=>exact Zn (x3.tot _ _ q z.1) z.2
end L2
namespace L2.DL
theorem rp {c:Prop}{_:Decidable c}{α : Type}{a z:α}(h:(if c then some a else none)=some z):c/\a=z:=by
 by_cases q:c
 ·rw[Zd q] at h;exact⟨q,Zqi h⟩
 ·rw[Ze q] at h;exact zqn h
inductive D where
 |non|bl (b:Bool)|int (i:Int)|str (x:Str)|ty (n:String)|scr (ns:List Int)
 |tup (ds:List D)|lst (ds:List D)|dct (ks:List Key) (ds:List D)|ins (c:Str) (fs:List Str) (ds:List D)
 |exc (c:Str)|ucl (c:Str)
 |adr (a:Addr)|dcf (ks:List Key) (ds:List D)
inductive Res (α : Type) where
 |ok (a:α)|ex (c:Str) (fs:List D)|no
noncomputable def Res.bind {α β : Type}(r:Res α)(g:α -> Res β):Res β := match r with
 | .ok a=>g a
 | .ex c fs=>.ex c fs
 | .no=>.no
noncomputable def Res.need {α : Type}(r:Res α)(p:α -> Prop)(q:Str->List D->Prop):Prop:=match r with
 | .ok a=>p a
 | .ex c fs=>q c fs
 | .no=>False
@[simp] theorem Res.bind_ok {α β : Type}(a:α)(g:α -> Res β):(Res.ok a).bind g=g a:=rfl
@[simp] theorem Res.bind_ex {α β : Type}(c:Str)(fs:List D)(g:α -> Res β):(Res.ex c fs:Res α).bind g=.ex c fs:=rfl
@[simp] theorem Res.bind_no {α β : Type}(g:α -> Res β):(Res.no:Res α).bind g=.no:=rfl
theorem Res.need_bind {α β : Type}{r:Res α}{g:α -> Res β}{p:β -> Prop}{q:Str->List D->Prop}(h:(r.bind g).need p q):r.need (fun a=>(g a).need p q) q:=by
 cases r<;>exact h
theorem Res.need.mono {α : Type}{r:Res α}{p p' : α -> Prop}{q q':Str->List D->Prop}(h:r.need p q)(hp:∀a,p a->p' a)(hq:∀c fs,q c fs->q' c fs):r.need p' q':=by
 cases r with
 |ok a=>exact hp a h
 |ex c fs=>exact hq c fs h
 |no=>exact h
theorem Res.need.monoE {α : Type}{r:Res α}{p p' : α -> Prop}{q q':Str->List D->Prop}(h:r.need p q)(hp:∀a,r=.ok a->p a->p' a)(hq:∀c fs,q c fs->q' c fs):r.need p' q':=by
 cases r with
 |ok a=>exact hp a rfl h
 |ex c fs=>exact hq c fs h
 |no=>exact h
noncomputable def dc (C x:Addr):HO:=.ext fun h=>∃o,h.get? x=some o/\o.cls=.ref C
noncomputable def jo (_:W.Frag)(H:Hp)(a:Addr)(xs:List V):Prop:=H a=some (.tup xs)
theorem jo.same {K:W.Frag}{H H':Hp}{a:Addr}{xs:List V}(e:yw H H')(h:jo K H a xs):jo K H' a xs:=e _ _ h
theorem jo.of {K:W.Frag}{H:Hp}{a:Addr}{xs:List V}(h:H a=some (.tup xs)):jo K H a xs:=h
theorem jo.sq {K:W.Frag}{H:Hp}{a:Addr}{xs:List V}(h:jo K H a xs):SqT K H a xs:=SqT.of h
noncomputable def mO (_:W.Frag)(H:Hp)(a:Addr)(xs:List V):Prop:=Rd H a (.lst xs)
theorem mO.same {K:W.Frag}{H H':Hp}{a:Addr}{xs:List V}(e:yw H H')(h:mO K H a xs):mO K H' a xs:=h.imp (fun q=>e _ _ q) (by rintro⟨o,q⟩;exact⟨o,e _ _ q⟩)
theorem mO.of {K:W.Frag}{H:Hp}{a:Addr}{xs:List V}(h:H a=some (.lst xs)):mO K H a xs:=.inl h
theorem mO.sq {K:W.Frag}{H:Hp}{a:Addr}{xs:List V}(h:mO K H a xs):SqL K H a xs:=.inl h
section
variable (K:W.Frag)
mutual
noncomputable def IsD (H:Hp):D->V->Prop
 | .non,v=>v=.non
 | .bl b,v=>v=.bl b
 | .int i,v=>v=.int i
 | .str x,v=>v=.str x
 | .ty n,v=>v=.ty n
 | .scr ns,v=>∃a,v=.ref a/\SqL K H a (ns.map V.int)
 | .tup ds,v=>∃a xs,v=.ref a/\jo K H a xs/\zn H ds xs
 | .lst ds,v=>∃a xs,v=.ref a/\mO K H a xs/\zn H ds xs
 | .dct ks ds,v=>∃a xs,v=.ref a/\H a=some (.dK (ks.zip xs))/\ks.length=xs.length/\zn H ds xs
 | .ins c fs ds,v=>∃a C dx xs,v=.ref a/\W.nsIn K mainGlobals c=some (some (.ref C))/\H a=some (.ins C dx (fs.zip xs))/\fs.length=xs.length/\zn H ds xs
 | .exc c,v=>∃a C,v=.ref a/\W.nsIn K mainGlobals c=some (some (.ref C))/\H a=some (dc C a)
 | .ucl c,v=>∃C,v=.ref C/\W.nsIn K mainGlobals c=some (some (.ref C))
 | .adr a,v=>v=.ref a
 | .dcf ks ds,v=>∃a o xs,v=.ref a/\H a=some (.frz o (.dK (ks.zip xs)))/\ks.length=xs.length/\zn H ds xs
noncomputable def zn (H:Hp):List D->List V->Prop
 | [],xs=>xs=[]
 |d::ds,xs=>∃x r,xs=x::r/\IsD H d x/\zn H ds r
end
end
section
variable {K:W.Frag}{H H':Hp}
theorem IsD.non_iff {v:V}:IsD K H .non v↔v=.non:=.rfl
theorem IsD.bl_iff {b:Bool}{v:V}:IsD K H (.bl b) v↔v=.bl b:=.rfl
theorem IsD.int_iff {i:Int}{v:V}:IsD K H (.int i) v↔v=.int i:=.rfl
theorem IsD.str_iff {x:Str}{v:V}:IsD K H (.str x) v↔v=.str x:=.rfl
theorem IsD.ty_iff {n:String}{v:V}:IsD K H (.ty n) v↔v=.ty n:=.rfl
theorem IsD.scr_iff {ns:List Int}{v:V}:IsD K H (.scr ns) v↔∃a,v=.ref a/\SqL K H a (ns.map V.int):=.rfl
theorem IsD.tup_iff {ds:List D}{v:V}:IsD K H (.tup ds) v↔∃a xs,v=.ref a/\jo K H a xs/\zn K H ds xs:=.rfl
theorem IsD.lst_iff {ds:List D}{v:V}:IsD K H (.lst ds) v↔∃a xs,v=.ref a/\mO K H a xs/\zn K H ds xs:=.rfl
theorem IsD.dct_iff {ks:List Key}{ds:List D}{v:V}:IsD K H (.dct ks ds) v↔∃a xs,v=.ref a/\H a=some (.dK (ks.zip xs))/\ks.length=xs.length/\zn K H ds xs:=.rfl
theorem IsD.ins_iff {c:Str}{fs:List Str}{ds:List D}{v:V}:IsD K H (.ins c fs ds) v↔∃a C dx xs,v=.ref a/\W.nsIn K mainGlobals c=some (some (.ref C))/\H a=some (.ins C dx (fs.zip xs))/\fs.length=xs.length/\zn K H ds xs:=.rfl
theorem IsD.exc_iff {c:Str}{v:V}:IsD K H (.exc c) v↔∃a C,v=.ref a/\W.nsIn K mainGlobals c=some (some (.ref C))/\H a=some (dc C a):=.rfl
theorem IsD.ucl_iff {c:Str}{v:V}:IsD K H (.ucl c) v↔∃C,v=.ref C/\W.nsIn K mainGlobals c=some (some (.ref C)):=.rfl
theorem IsD.adr_iff {a:Addr}{v:V}:IsD K H (.adr a) v↔v=.ref a:=.rfl
theorem IsD.dcf_iff {ks:List Key}{ds:List D}{v:V}:IsD K H (.dcf ks ds) v↔∃a o xs,v=.ref a/\H a=some (.frz o (.dK (ks.zip xs)))/\ks.length=xs.length/\zn K H ds xs:=.rfl
theorem zn.nil_iff {xs:List V}:zn K H [] xs↔xs=[]:=.rfl
theorem zn.cons_iff {d:D}{ds:List D}{xs:List V}:zn K H (d::ds) xs↔∃x r,xs=x::r/\IsD K H d x/\zn K H ds r:=.rfl
mutual
theorem IsD.same (e:yw H H'):∀(d:D) (v:V),IsD K H d v->IsD K H' d v
 | .non,_,h=>h
 | .bl _,_,h=>h
 | .int _,_,h=>h
 | .str _,_,h=>h
 | .ty _,_,h=>h
 | .scr _,_,h=>by
  refine zc1b (IsD.scr_iff.mp h) fun a h1 h2=>?_;exact IsD.scr_iff.mpr ⟨a,h1,yw.seq e h2⟩
 | .tup ds,_,h=>by
  refine zc2c (IsD.tup_iff.mp h) fun a xs h1 h2 h3=>?_;exact IsD.tup_iff.mpr ⟨a,xs,h1,h2.same e,zn.same e ds xs h3⟩
 | .lst ds,_,h=>by
  refine zc2c (IsD.lst_iff.mp h) fun a xs h1 h2 h3=>?_;exact IsD.lst_iff.mpr ⟨a,xs,h1,h2.same e,zn.same e ds xs h3⟩
 | .dct ks ds,_,h=>by
  refine zc2d (IsD.dct_iff.mp h) fun a xs h1 h2 h4 h3=>?_;exact IsD.dct_iff.mpr ⟨a,xs,h1,e _ _ h2,h4,zn.same e ds xs h3⟩
 | .ins c fs ds,_,h=>by
  refine zc4a (IsD.ins_iff.mp h) fun a C dx xs zz=>yT zz fun h1 h5 h2 h4 h3=>?_;exact IsD.ins_iff.mpr ⟨a,C,dx,xs,h1,h5,e _ _ h2,h4,zn.same e ds xs h3⟩
 | .exc _,_,h=>by
  refine zc2c (IsD.exc_iff.mp h) fun a C h1 h2 h3=>?_;exact IsD.exc_iff.mpr ⟨a,C,h1,h2,e _ _ h3⟩
 | .ucl _,_,h=>h
 | .adr _,_,h=>h
 | .dcf ks ds,_,h=>by
  obtain⟨a,o,xs,h1,h2,h4,h3⟩:=IsD.dcf_iff.mp h;exact IsD.dcf_iff.mpr ⟨a,o,xs,h1,e _ _ h2,h4,zn.same e ds xs h3⟩
theorem zn.same (e:yw H H'):∀(ds:List D) (xs:List V),zn K H ds xs->zn K H' ds xs
 | [],_,h=>h
 |d::ds,_,h=>by
  refine zc2c (zn.cons_iff.mp h) fun x r h1 h2 h3=>?_;exact zn.cons_iff.mpr ⟨x,r,h1,IsD.same e d x h2,zn.same e ds r h3⟩
end
theorem zn.mk {d:D}{ds:List D}{x:V}{xs:List V}(h:IsD K H d x)(r:zn K H ds xs):zn K H (d::ds) (x::xs):=zn.cons_iff.mpr ⟨x,xs,rfl,h,r⟩
theorem zn.nil:zn K H [] []:=zn.nil_iff.mpr rfl
theorem zn.length:∀{ds:List D} {xs:List V},zn K H ds xs->xs.length=ds.length
 | [],xs,h=>by rw[zn.nil_iff] at h;subst h;rfl
 |d::ds,xs,h=>by
  rw[zn.cons_iff] at h;obtain⟨x,r,rfl,_,h3⟩:=h;rw[Zu,Zu,zn.length h3]
theorem zn.get:∀{ds:List D} {xs:List V} {i:Nat} {d:D},zn K H ds xs->ds[i]? = some d->∃x,xs[i]? = some x/\IsD K H d x
 | [],_,_,_,_,e=>by exact zqn e
 |d::ds,xs,i,e,h,q=>by
  rw[zn.cons_iff] at h;refine zc2c h fun x r zr2 h2 h3=>?_;subst zr2;cases i with
  |zero=>cases q;exact⟨x,rfl,h2⟩
  |succ i=>exact zn.get (i:=i) h3 q
theorem zn.getV {ds:List D}{xs:List V}{i:Nat}{x:V}(h:zn K H ds xs)(q:xs[i]? = some x):∃d,ds[i]? = some d/\IsD K H d x:=by
 have hl:=h.length;have hi:i<ds.length:=by rw[<- hl];exact(List.getElem?_eq_some_iff.mp q).1
 refine zc1b (h.get (Zqg hi)) fun y h1 h2=>?_;rw[q] at h1;obtain rfl:=Zqi h1;exact⟨_,Zqg hi,h2⟩
theorem zn.append:∀{ds es:List D} {xs ys:List V},zn K H ds xs->zn K H es ys->zn K H (ds++es) (xs++ys)
 | [],_,xs,_,h,h'=>by rw[zn.nil_iff] at h;subst h;exact h'
 |d::ds,_,xs,_,h,h'=>by
  rw[zn.cons_iff] at h;refine zc2c h fun x r zr2 h2 h3=>?_;subst zr2;exact zn.mk h2 (zn.append h3 h')
theorem zn.snoc {ds:List D}{xs:List V}{d:D}{x:V}(h:zn K H ds xs)(h':IsD K H d x):zn K H (ds++[d]) (xs++[x]):=h.append (.mk h' .nil)
theorem zn.set:∀(n:Nat) {ds:List D} {xs:List V} {d:D} {x:V},zn K H ds xs->IsD K H d x->zn K H (ds.set n d) (xs.set n x)
 |_,[],xs,_,_,h,_=>by rw[zn.nil_iff] at h;subst h;exact .nil
 | 0,d::ds,xs,_,_,h,q=>by
  rw[zn.cons_iff] at h;refine zc2c h fun x r zr2 h2 h3=>?_;subst zr2;exact zn.mk q h3
 |n+1,d::ds,xs,_,_,h,q=>by
  rw[zn.cons_iff] at h;refine zc2c h fun x r zr2 h2 h3=>?_;subst zr2;exact zn.mk h2 (zn.set n h3 q)
theorem zn.ints:∀(ns:List Int),zn K H (ns.map D.int) (ns.map V.int)
 | []=>.nil
 |n::ns=>.mk (IsD.int_iff.mpr rfl) (zn.ints ns)
theorem zn.ints_iff:∀{ns:List Int} {xs:List V},zn K H (ns.map D.int) xs->xs=ns.map V.int
 | [],_,h=>zn.nil_iff.mp h
 |n::ns,xs,h=>by
  rw[Zl,zn.cons_iff] at h;obtain⟨x,r,rfl,h2,h3⟩:=h;rw[IsD.int_iff] at h2;rw[h2,zn.ints_iff h3];rfl
end
structure Ext (F H F' H':Hp):Prop where
 ff:yw F F'
 fh:yw F' H'
 hh:yw H H'
 new:∀a,F a=none->H a≠none->F' a=none
theorem Ext.refl {F H:Hp}(h:yw F H):Ext F H F H:=⟨.refl _,h,.refl _,fun _ e _=>e⟩
theorem Ext.trans {F H F1 H1 F2 H2:Hp}(a:Ext F H F1 H1)(b:Ext F1 H1 F2 H2):Ext F H F2 H2 :=
 ⟨a.ff.trans b.ff,b.fh,a.hh.trans b.hh,fun x e n=>b.new x (a.new x e n) (by
  cases q:H x with
  |none=>exact Zn q n
  |some o=>rw[a.hh _ _ q];simp)⟩
theorem zE {F H:Hp}{p:Addr}(h:yw F H)(hp:H p=none):F p=none:=h.free hp
theorem Ext.alloc {F H:Hp}{p:Addr}(h:yw F H)(hp:H p=none)(o:HO):Ext F H (upd F p o) (upd H p o) :=
 ⟨y9 (h.free hp) o,fun b u e=>by
  by_cases q:b=p
  ·subst q;rw[zo] at e ⊢;exact e
  ·rw[zC q] at e ⊢;exact h _ _ e,y9 hp o,fun a e n=>by
  have q:a≠p:=fun z=>n (by rw[z];exact hp);rw[zC q];exact e⟩
theorem Ext.keep {F H:Hp}{p:Addr}(h:yw F H)(hp:H p=none)(o:HO):Ext F H F (upd H p o) :=
 ⟨.refl _,h.trans (y9 hp o),y9 hp o,fun _ e _=>e⟩
theorem Ext.grow {F H H':Hp}(h:yw F H)(hh:yw H H'):Ext F H F H':=⟨.refl _,h.trans hh,hh,fun _ e _=>e⟩
inductive SV where
 |val (d:D)|own (p:Bool) (d:D)
structure Bs where
 F0:Hp
 H0:Hp
 pa:Nat->Option (Addr×List V)
abbrev SD:=List (Option SV)
def uR (K:W.Frag)(F H:Hp)(l:Addr):D->Prop
 | .lst ds=>∃xs,H l=some (.lst xs)/\zn K F ds xs
 | .dct ks ds=>∃xs,H l=some (.dK (ks.zip xs))/\ks.length=xs.length/\zn K F ds xs
 | .ins c fs ds=>∃C dx xs,W.nsIn K mainGlobals c=some (some (.ref C))/\H l=some (.ins C dx (fs.zip xs))/\fs.length=xs.length/\zn K F ds xs
 |_=>False
theorem uR.has {K:W.Frag}{F H:Hp}{l:Addr}{d:D}(h:uR K F H l d):∃o,H l=some o:=by
 cases d with
 |lst ds=>obtain⟨xs,e,_⟩:=h;exact⟨_,e⟩
 |dct ks ds=>obtain⟨xs,e,_⟩:=h;exact⟨_,e⟩
 |ins c fs ds=>obtain⟨C,dx,xs,_,e,_⟩:=h;exact⟨_,e⟩
 |_=>exact False.elim h
theorem uR.ext {K:W.Frag}{F H F' H':Hp}{l:Addr}{d:D}(h:uR K F H l d)(ff:yw F F')(hh:∀o,H l=some o->H' l=some o):uR K F' H' l d:=by
 cases d with
 |lst ds=>obtain⟨xs,e,q⟩:=h;exact⟨xs,hh _ e,zn.same ff _ _ q⟩
 |dct ks ds=>obtain⟨xs,e,z,q⟩:=h;exact⟨xs,hh _ e,z,zn.same ff _ _ q⟩
 |ins c fs ds=>obtain⟨C,dx,xs,k,e,z,q⟩:=h;exact⟨C,dx,xs,k,hh _ e,z,zn.same ff _ _ q⟩
 |_=>exact False.elim h
theorem uR.frz {K:W.Frag}{F H:Hp}{l:Addr}{d:D}{o:HO}(h:uR K F H l d)(e:H l=Option.some o)(n:F l=none):IsD K (upd F l o) d (.ref l):=by
 cases d with
 |lst ds =>
  refine zc1b h fun xs e' q=>?_;rw[e] at e';obtain rfl:=Zqi e';exact IsD.lst_iff.mpr ⟨l,xs,rfl,.of zo,zn.same (y9 n _) _ _ q⟩
 |dct ks ds =>
  refine zc1c h fun xs e' z q=>?_;rw[e] at e';obtain rfl:=Zqi e';exact IsD.dct_iff.mpr ⟨l,xs,rfl,zo,z,zn.same (y9 n _) _ _ q⟩
 |ins c fs ds =>
  refine zc3a h fun C dx xs zz=>qD zz fun k e' z q=>?_;rw[e] at e';obtain rfl:=Zqi e';exact IsD.ins_iff.mpr ⟨l,C,dx,xs,rfl,k,zo,z,zn.same (y9 n _) _ _ q⟩
 |_=>exact False.elim h
noncomputable def jK (H:Hp)(l:Addr)(o:Option (Addr×List V)):Prop:=∃xs,o=some (l,xs)/\H l=some (.lst xs)
structure RS (K:W.Frag)(B:Bs)(F H:Hp)(sd:SD)(σ : St):Prop where
 ext:Ext B.F0 B.H0 F H
 len:σ.length=sd.length
 val:∀{i:Nat} {d:D},sd[i]? = some (some (.val d))->∃v,σ[i]? = some (some v)/\IsD K F d v
 own:∀{i:Nat} {p:Bool} {d:D},sd[i]? = some (some (.own p d))->∃l,σ[i]? = some (some (.ref l))/\B.H0 l=none/\F l=none/\uR K F H l d/\(p=true->jK H l (B.pa i))
 apart:∀{i j:Nat} {p q:Bool} {d e:D} {l:Addr},i≠j->sd[i]? = some (some (.own p d))->sd[j]? = some (some (.own q e)) -> σ[i]? = some (some (.ref l)) -> σ[j]? ≠ some (some (.ref l))
section
variable {K:W.Frag}{B:Bs}{F H F' H':Hp}{sd:SD}{σ : St}
theorem jK.mono {l:Addr}{o:Option (Addr×List V)}(h:jK H l o)(k:∀u,H l=some u->H' l=some u):jK H' l o:=let ⟨xs,h1,h2⟩:=h;⟨xs,h1,k _ h2⟩
theorem RS.step (r:RS K B F H sd σ)(e:Ext F H F' H'):RS K B F' H' sd σ where
 ext:=r.ext.trans e
 len:=r.len
 val:=fun h=>let ⟨v,h1,h2⟩:=r.val h;⟨v,h1,IsD.same e.ff _ _ h2⟩
 own:=fun h=>by
  refine zc1e (r.own h) fun l h1 h2 h3 h4 h5=>?_;obtain⟨o,ho⟩:=h4.has;exact⟨l,h1,h2,e.new l h3 (by rw[ho];simp),h4.ext e.ff fun o q=>e.hh _ _ q,fun p=>(h5 p).mono fun u q=>e.hh _ _ q⟩
 apart:=r.apart
theorem z7 {α : Type}{l:List α}{i j:Nat}{a:α}(h:i≠j):(l.set i a)[j]? = l[j]? := List.getElem?_set_ne h
theorem zF {α : Type}{l:List α}{i:Nat}{a b:α}(h:(l.set i a)[i]? = some b):b=a/\i<l.length:=by
 have hi:i<l.length:=by
  have:=(List.getElem?_eq_some_iff.mp h).1
  rwa [List.length_set] at this
 rw[List.getElem?_set_self hi] at h;exact⟨(Zqi h).symm,hi⟩
theorem RS.setVal {i:Nat}{d:D}{v:V}(r:RS K B F H sd σ)(h:IsD K F d v):RS K B F H (sd.set i (some (.val d))) (σ.set i (some v)) where
 ext:=r.ext
 len:=by rw[List.length_set,List.length_set,r.len]
 val:=fun {j e} q=>by
  by_cases z:i=j
  ·subst z;obtain⟨e1,hi⟩:=zF q;cases e1;exact⟨v,List.getElem?_set_self (by rw[r.len];exact hi),h⟩
  ·rw[z7 z] at q ⊢;exact r.val q
 own:=fun {j p e} q=>by
  by_cases z:i=j
  ·subst z;obtain⟨e1,_⟩:=zF q;cases e1
  ·rw[z7 z] at q ⊢;exact r.own q
 apart:=fun {j k p1 p2 d1 d2 l} n q1 q2 q3=>by
  have z1:i≠j:=fun z=>by subst z;obtain⟨e1,_⟩:=zF q1;cases e1
  have z2:i≠k:=fun z=>by subst z;obtain⟨e1,_⟩:=zF q2;cases e1
  rw[z7 z1] at q1 q3;rw[z7 z2] at q2 ⊢;exact r.apart n q1 q2 q3
theorem RS.setOwn {i:Nat}{d:D}{l:Addr}(r:RS K B F H sd σ)(h0:B.H0 l=none)(hf:F l=none)(h:uR K F H l d)(fr:∀(j:Nat) (p:Bool) (e:D),sd[j]? = some (some (SV.own p e)) -> σ[j]? ≠ some (some (.ref l))) :
 RS K B F H (sd.set i (some (.own false d))) (σ.set i (some (.ref l))) where
 ext:=r.ext
 len:=by rw[List.length_set,List.length_set,r.len]
 val:=fun {j e} q=>by
  by_cases z:i=j
  ·subst z;obtain⟨e1,_⟩:=zF q;cases e1
  ·rw[z7 z] at q ⊢;exact r.val q
 own:=fun {j p e} q=>by
  by_cases z:i=j
  ·subst z;obtain⟨e1,hi⟩:=zF q;cases e1;exact⟨l,List.getElem?_set_self (by rw[r.len];exact hi),h0,hf,h,fun z=>by cases z⟩
  ·rw[z7 z] at q ⊢;exact r.own q
 apart:=fun {j k p1 p2 d1 d2 m} n q1 q2 q3=>by
  by_cases z1:i=j
  ·subst z1;obtain⟨_,hi⟩:=zF q1;rw[z7 n] at q2 ⊢;rw[List.getElem?_set_self (by rw[r.len];exact hi)] at q3;cases q3;exact fr k p2 d2 q2
  ·rw[z7 z1] at q1 q3;by_cases z2:i=k
   ·subst z2;obtain⟨_,hi⟩:=zF q2;rw[List.getElem?_set_self (by rw[r.len];exact hi)];intro e;cases e;exact fr j p1 d1 q1 q3
   ·rw[z7 z2] at q2 ⊢;exact r.apart n q1 q2 q3
theorem RS.chg {i:Nat}{p:Bool}{d d':D}{l:Addr}{o:HO}(r:RS K B F H sd σ)(hi:sd[i]? = some (some (.own p d)))(hl:σ[i]? = some (some (.ref l)))(h:uR K F (upd H l o) l d') :
 RS K B F (upd H l o) (sd.set i (some (.own false d'))) σ := by
 refine zc1e (r.own hi) fun l' e1 h0 hf _ _=>?_;rw[hl] at e1;cases e1;have hil:i<sd.length:=(List.getElem?_eq_some_iff.mp hi).1;refine⟨⟨r.ext.ff,nK o r.ext.fh hf,nK o r.ext.hh h0,r.ext.new⟩,by rw[List.length_set,r.len],fun {j e} q=>?_,fun {j p e} q=>?_,fun {j k p1 p2 d1 d2 m} n q1 q2 q3=>?_⟩
 ·by_cases z:i=j
  ·subst z;obtain⟨e1,_⟩:=zF q;cases e1
  ·rw[z7 z] at q;exact r.val q
 ·by_cases z:i=j
  ·subst z;obtain⟨e1,_⟩:=zF q;cases e1;exact⟨l,hl,h0,hf,h,fun z=>by cases z⟩
  ·rw[z7 z] at q;refine zc1e (r.own q) fun m m1 m2 m3 m4 m5=>?_;have ne:m≠l:=fun e=>r.apart z hi q hl (by rw[<- e];exact m1);exact⟨m,m1,m2,m3,m4.ext (.refl _) fun u q'=>by rw[zC ne];exact q',fun p=>(m5 p).mono fun u q'=>by rw[zC ne];exact q'⟩
 ·have g:∀{j:Nat} {p:Bool} {e:D},(sd.set i (some (.own false d')))[j]? = some (some (.own p e))->∃p' e',sd[j]? = some (some (.own p' e')):=fun {j p e} q=>by
   by_cases z:i=j
   ·subst z;exact⟨_,d,hi⟩
   ·rw[z7 z] at q;exact⟨p,e,q⟩
  refine zc2a (g q1) fun _ _ p1=>?_;refine zc2a (g q2) fun _ _ p2=>?_;exact r.apart n p1 p2 q3
theorem RS.frz1 {i:Nat}{p:Bool}{d:D}(r:RS K B F H sd σ)(hi:sd[i]? = some (some (.own p d))):∃F',yw F F'/\RS K B F' H (sd.set i (some (.val d))) σ := by
 refine zc1e (r.own hi) fun l hl h0 hf ho _=>?_;obtain⟨o,e⟩:=ho.has;have hil:i<sd.length:=(List.getElem?_eq_some_iff.mp hi).1;have sF:yw F (upd F l o):=y9 hf o;refine⟨upd F l o,sF,⟨r.ext.ff.trans sF,fun b u q=>?_,r.ext.hh,fun a q1 q2=>?_⟩,by rw[List.length_set,r.len],fun {j x} q=>?_,fun {j p x} q=>?_,fun {j k p1 p2 d1 d2 m} n q1 q2 q3=>?_⟩
 ·by_cases z:b=l
  ·subst z;rw[zo] at q;cases q;exact e
  ·rw[zC z] at q;exact r.ext.fh _ _ q
 ·have z:a≠l:=fun z=>q2 (by rw[z];exact h0);rw[zC z];exact r.ext.new a q1 q2
 ·by_cases z:i=j
  ·subst z;obtain⟨e1,_⟩:=zF q;cases e1;exact⟨_,hl,ho.frz e hf⟩
  ·rw[z7 z] at q;refine zc1b (r.val q) fun v v1 v2=>?_;exact⟨v,v1,IsD.same sF _ _ v2⟩
 ·by_cases z:i=j
  ·subst z;obtain⟨e1,_⟩:=zF q;cases e1
  ·rw[z7 z] at q;refine zc1e (r.own q) fun m m1 m2 m3 m4 m5=>?_;have ne:m≠l:=fun e=>r.apart z hi q hl (by rw[<- e];exact m1);exact⟨m,m1,m2,by rw[zC ne];exact m3,m4.ext sF fun u q'=>q',m5⟩
 ·have z1:i≠j:=fun z=>by subst z;obtain⟨e1,_⟩:=zF q1;cases e1
  have z2:i≠k:=fun z=>by subst z;obtain⟨e1,_⟩:=zF q2;cases e1
  rw[z7 z1] at q1;rw[z7 z2] at q2;exact r.apart n q1 q2 q3
noncomputable def tV:List Nat->SD->SD
 | [],sd=>sd
 |i::is,sd=>tV is (match sd[i]? with
  |some (some (.own _ d))=>sd.set i (some (.val d))
  |_=>sd)
theorem RS.frz:∀(is:List Nat) {F:Hp} {sd:SD},RS K B F H sd σ -> ∃F',yw F F'/\RS K B F' H (tV is sd) σ
 | [],F,sd,r=>⟨F,.refl _,r⟩
 |i::is,F,sd,r=>by
  unfold tV
  split
  ·rename_i p d h;refine zc1b (r.frz1 h) fun F1 s1 r1=>?_;refine zc1b (RS.frz is r1) fun F2 s2 r2=>?_;exact⟨F2,s1.trans s2,r2⟩
  ·exact RS.frz is r
end
def ExcIs (K:W.Frag)(F H:Hp)(c:Str)(fs:List D)(cv:Value)(a:Option Addr):Prop :=
 ∃C,cv=.ref C/\W.nsIn K mainGlobals c=some (some (.ref C))/\(fs=[]\/∃p n d x,fs=[d]/\a=some p/\H p=some (.xd [(n,x)])/\IsD K F d x)
def XW (K:W.Frag)(E:XK)(F H:Hp)(c:Str)(fs:List D):Prop:=∀cv a F' H',Ext F H F' H'->ExcIs K F' H' c fs cv a->E cv a H'
theorem XW.ext {K:W.Frag}{E:XK}{F H F' H':Hp}{c:Str}{fs:List D}(h:XW K E F H c fs)(e:Ext F H F' H'):XW K E F' H' c fs:=fun cv a F2 H2 e2 q=>h cv a F2 H2 (e.trans e2) q
abbrev FE:=SD->Res D
abbrev FT:=SD->Res Bool
abbrev FA:=SD->Res (List D)
def OkD (K:W.Frag)(F H:Hp)(Q:VK)(d:D):Prop:=∀v F' H',Ext F H F' H'->IsD K F' d v->Q v H'
noncomputable def OkB (F H:Hp)(Q:Bool->Hp->Prop)(b:Bool):Prop:=∀F' H',Ext F H F' H'->Q b H'
def OkA (K:W.Frag)(F H:Hp)(Q:List V->Hp->Prop)(ds:List D):Prop:=∀vs F' H',Ext F H F' H'->zn K F' ds vs->Q vs H'
def OkN (K:W.Frag)(F H:Hp)(Q:VK)(d:D):Prop:=∀l F' H',Ext F H F' H'->H l=none->F' l=none->uR K F' H' l d->Q (.ref l) H'
def tD (K:W.Frag)(E:XK)(f:FE):TE:=fun σ H Q=>∃B F sd,RS K B F H sd σ /\ (f sd).need (OkD K F H Q) (XW K E F H)
def tDT (K:W.Frag)(E:XK)(f:FT):TT:=fun σ H Q=>∃B F sd,RS K B F H sd σ /\ (f sd).need (OkB F H Q) (XW K E F H)
def tDA (K:W.Frag)(E:XK)(f:FA):TA:=fun σ H Q=>∃B F sd,RS K B F H sd σ /\ (f sd).need (OkA K F H Q) (XW K E F H)
def tDN (K:W.Frag)(E:XK)(f:FE):TE:=fun σ H Q=>∃B F sd,RS K B F H sd σ /\ (f sd).need (OkN K F H Q) (XW K E F H)
abbrev QE (X:Cx)(E:XK)(e:Expr)(f:FE):Prop:=PE X e (tD X.K E f)
abbrev QT (X:Cx)(E:XK)(e:Expr)(f:FT):Prop:=PT X e (tDT X.K E f)
abbrev QW (X:Cx)(E:XK)(e:Expr)(f:FT):Prop:=PW X e (tDT X.K E f)
abbrev QA (X:Cx)(E:XK)(es:List Expr)(f:FA):Prop:=PA X es (tDA X.K E f)
abbrev QN (X:Cx)(E:XK)(e:Expr)(f:FE):Prop:=PE X e (tDN X.K E f)
theorem PE.weak {X:Cx}{e:Expr}{t t':TE}(h:PE X e t)(w:∀σ H Q,t' σ H Q->t σ H Q):PE X e t':=fun pins s σ H Q I q=>h pins s σ H Q I (w _ _ _ q)
theorem PT.weak {X:Cx}{e:Expr}{t t':TT}(h:PT X e t)(w:∀σ H Q,t' σ H Q->t σ H Q):PT X e t':=fun pins s σ H Q I q=>h pins s σ H Q I (w _ _ _ q)
theorem PW.weak {X:Cx}{e:Expr}{t t':TT}(h:PW X e t)(w:∀σ H Q,t' σ H Q->t σ H Q):PW X e t':=fun whole pins s σ H Q I q=>h whole pins s σ H Q I (w _ _ _ q)
theorem PA.weak {X:Cx}{e:List Expr}{t t':TA}(h:PA X e t)(w:∀σ H Q,t' σ H Q->t σ H Q):PA X e t':=fun pos pins s σ H Q I q=>h pos pins s σ H Q I (w _ _ _ q)
theorem PS.weak {X:Cx}{e:Stmt}{t t':TS}(h:PS X e t)(w:∀D σ H,t' D σ H->t D σ H):PS X e t':=fun pins s σ H D I q=>h pins s σ H D I (w _ _ _ q)
theorem PSs.weak {X:Cx}{e:List Stmt}{t t':TS}(h:PSs X e t)(w:∀D σ H,t' D σ H->t D σ H):PSs X e t':=fun pins s σ H D I q=>h pins s σ H D I (w _ _ _ q)
theorem PI.weak {X:Cx}{tg e:Expr}{t t':TI}(h:PI X tg e t)(w:∀σ H R,t' σ H R->t σ H R):PI X tg e t':=fun pins s σ H R I q=>h pins s σ H R I (w _ _ _ q)
section
variable {K:W.Frag}{E:XK}{F H F' H':Hp}
theorem OkD.ext {Q:VK}{d:D}(h:OkD K F H Q d)(e:Ext F H F' H'):OkD K F' H' Q d:=fun v F2 H2 e2 q=>h v F2 H2 (e.trans e2) q
theorem OkB.ext {Q:Bool->Hp->Prop}{b:Bool}(h:OkB F H Q b)(e:Ext F H F' H'):OkB F' H' Q b:=fun F2 H2 e2=>h F2 H2 (e.trans e2)
theorem OkN.ext {Q:VK}{d:D}(h:OkN K F H Q d)(e:Ext F H F' H'):OkN K F' H' Q d:=fun l F2 H2 e2 q=>h l F2 H2 (e.trans e2) (zE e.hh q)
theorem f8 {Q:VK}{r:Res D}(h:r.need (OkD K F H Q) (XW K E F H))(e:Ext F H F' H'):r.need (OkD K F' H' Q) (XW K E F' H'):=h.mono (fun _ q=>q.ext e) fun _ _ q=>q.ext e
theorem fq {Q:Bool->Hp->Prop}{r:Res Bool}(h:r.need (OkB F H Q) (XW K E F H))(e:Ext F H F' H'):r.need (OkB F' H' Q) (XW K E F' H'):=h.mono (fun _ q=>q.ext e) fun _ _ q=>q.ext e
theorem hZ {Q:VK}{r:Res D}(h:r.need (OkN K F H Q) (XW K E F H))(e:Ext F H F' H'):r.need (OkN K F' H' Q) (XW K E F' H'):=h.mono (fun _ q=>q.ext e) fun _ _ q=>q.ext e
theorem OkD.new {Q:VK}{d:D}(h:OkD K F H Q d):OkN K F H Q d:=fun l F' H' e n n' o=>by
 obtain⟨u,hu⟩:=o.has;refine h (.ref l) (upd F' l u) H' ⟨e.ff.trans (y9 n' u),fun b v q=>?_,e.hh,fun a q1 q2=>?_⟩ (o.frz hu n')
 ·by_cases z:b=l
  ·subst z;rw[zo] at q;cases q;exact hu
  ·rw[zC z] at q;exact e.fh _ _ q
 ·have z:a≠l:=fun z=>q2 (by rw[z];exact n);rw[zC z];exact e.new a q1 q2
end
section
variable {X:Cx}{E:XK}
theorem QN.qe {e:Expr}{f:FE}(h:QN X E e f):QE X E e f:=PE.weak h (by rintro σ H Q ⟨B,F,sd,r,n⟩;exact⟨B,F,sd,r,n.mono (fun _ q=>q.new) fun _ _ q=>q⟩)
noncomputable def zf (i:Nat):FE:=fun sd=>match sd[i]? with
 |some (some (.val d))=>.ok d
 |_=>.no
noncomputable def dC (d:D):FE:=fun _=>.ok d
theorem zb {i:Nat}{e:Expr}(h:PE X e (j9 i)):QE X E e (zf i):=PE.weak h fun σ H Q zh=>by
 refine zc3b zh fun B F sd r n=>?_;unfold zf at n
 split at n
 ·rename_i d q;refine zc1b (r.val q) fun v h1 h2=>?_;exact⟨v,h1,n v F H (.refl r.ext.fh) h2⟩
 ·exact n.elim
theorem qf {e:Expr}{v:V}{d:D}(h:PE X e (tC v))(i:∀F,IsD X.K F d v):QE X E e (dC d):=PE.weak h (by rintro σ H Q ⟨B,F,sd,r,n⟩;exact n v F H (.refl r.ext.fh) (i F))
theorem zi {i j pos}:QE X E (.Constant (.int i) j pos) (dC (.int i)):=qf pe_int fun _=>IsD.int_iff.mpr rfl
theorem vh {b j pos}:QE X E (.Constant (.bool b) j pos) (dC (.bl b)):=qf pe_bl fun _=>IsD.bl_iff.mpr rfl
theorem qc_non {j pos}:QE X E (.Constant .none j pos) (dC .non):=qf pe_non fun _=>IsD.non_iff.mpr rfl
noncomputable def Res.ofO {α : Type}:Option α -> Res α
 |some a=>.ok a
 |none=>.no
@[simp] theorem Res.ofO_some {α : Type}(a:α):Res.ofO (some a)=.ok a:=rfl
@[simp] theorem Res.ofO_none {α : Type}:Res.ofO (none:Option α)=.no:=rfl
theorem Res.need_ofO {α : Type}{o:Option α}{p:α -> Prop}{q:Str->List D->Prop}(h:(Res.ofO o).need p q):∃a,o=some a/\p a:=by
 cases o with
 |none=>exact h.elim
 |some a=>exact⟨a,rfl,h⟩
def dOp (g:D->D->Option D)(fa fb:FE):FE:=fun sd=>(fa sd).bind fun x=>(fb sd).bind fun y=>.ofO (g x y)
def dUn (g:D->Option D)(fa:FE):FE:=fun sd=>(fa sd).bind fun x=>.ofO (g x)
def rD2 (K:W.Frag)(g:D->D->Option D):R2:=fun v w H Q=>∃F d e z,yw F H/\IsD K F d v/\IsD K F e w/\g d e=some z/\OkD K F H Q z
def dk (K:W.Frag)(g:D->D->Option D):R2:=fun v w H Q=>∃F d e z,yw F H/\IsD K F d v/\IsD K F e w/\g d e=some z/\OkN K F H Q z
def rD1 (K:W.Frag)(g:D->Option D):V->Hp->VK->Prop:=fun v H Q=>∃F d z,yw F H/\IsD K F d v/\g d=some z/\OkD K F H Q z
def rDA (K:W.Frag)(g:List D->Option D):List V->Hp->VK->Prop:=fun vs H Q=>∃F ds z,yw F H/\zn K F ds vs/\g ds=some z/\OkD K F H Q z
def gX (K:W.Frag)(g:List D->Option D):List V->Hp->VK->Prop:=fun vs H Q=>∃F ds z,yw F H/\zn K F ds vs/\g ds=some z/\OkN K F H Q z
theorem lM {K:W.Frag}{g:D->D->Option D}{fa fb:FE}{σ : St}{H:Hp}{Q:VK}(h:tD K E (dOp g fa fb) σ H Q):tOp (rD2 K g) (tD K E fa) (tD K E fb) σ H Q:=by
 refine zc3b h fun B F sd r n=>?_;refine⟨B,F,sd,r,(Res.need_bind n).mono (fun x n1 v F1 H1 e1 i1=>?_) fun _ _ q=>q⟩;refine⟨B,F1,sd,r.step e1,(Res.need_bind n1).mono (fun y n2 w F2 H2 e2 i2=>?_) fun _ _ q=>q.ext e1⟩;refine zc1b (Res.need_ofO n2) fun z hz q=>?_;exact⟨F2,x,y,z,e2.fh,IsD.same e2.ff _ _ i1,i2,hz,q.ext (e1.trans e2)⟩
theorem tDN_op {K:W.Frag}{g:D->D->Option D}{fa fb:FE}{σ : St}{H:Hp}{Q:VK}(h:tDN K E (dOp g fa fb) σ H Q):tOp (dk K g) (tD K E fa) (tD K E fb) σ H Q:=by
 refine zc3b h fun B F sd r n=>?_;refine⟨B,F,sd,r,(Res.need_bind n).mono (fun x n1 v F1 H1 e1 i1=>?_) fun _ _ q=>q⟩;refine⟨B,F1,sd,r.step e1,(Res.need_bind n1).mono (fun y n2 w F2 H2 e2 i2=>?_) fun _ _ q=>q.ext e1⟩;refine zc1b (Res.need_ofO n2) fun z hz q=>?_;exact⟨F2,x,y,z,e2.fh,IsD.same e2.ff _ _ i1,i2,hz,q.ext (e1.trans e2)⟩
theorem tD_un {K:W.Frag}{g:D->Option D}{fa:FE}{σ : St}{H:Hp}{Q:VK}(h:tD K E (dUn g fa) σ H Q):tUn (rD1 K g) (tD K E fa) σ H Q:=by
 refine zc3b h fun B F sd r n=>?_;refine⟨B,F,sd,r,(Res.need_bind n).mono (fun x n1 v F1 H1 e1 i1=>?_) fun _ _ q=>q⟩;refine zc1b (Res.need_ofO n1) fun z hz q=>?_;exact⟨F1,x,z,e1.fh,i1,hz,q.ext e1⟩
abbrev OpD (X:Cx)(f:Value->Value->Sem Value)(g:D->D->Option D):Prop:=OpR X f (rD2 X.K g)
abbrev eZ (X:Cx)(f:Value->Value->Sem Value)(g:D->D->Option D):Prop:=OpR X f (dk X.K g)
theorem OpR.weak {f:Value->Value->Sem Value}{r r':R2}(h:OpR X f r)(w:∀x y H Q,r' x y H Q->r x y H Q):OpR X f r':=fun pins s σ H x y v u Q I rx ry q=>h pins s σ H x y v u Q I rx ry (w _ _ _ _ q)
theorem UnR.weak {f:Value->Sem Value}{r r':V->Hp->VK->Prop}(h:UnR X f r)(w:∀x H Q,r' x H Q->r x H Q):UnR X f r':=fun pins s σ H x v Q I rx q=>h pins s σ H x v Q I rx (w _ _ _ q)
theorem zD.weak {f:Value}{r r':List V->Hp->VK->Prop}(h:zD X f r)(w:∀x H Q,r' x H Q->r x H Q):zD X f r':=fun pins s σ H x v Q I rx q=>h pins s σ H x v Q I rx (w _ _ _ q)
theorem IxR.weak {r r':R2}(h:IxR X r)(w:∀x y H Q,r' x y H Q->r x y H Q):IxR X r':=fun value slice pins s σ H x y v u Q I rx ry q e=>h value slice pins s σ H x y v u Q I rx ry (w _ _ _ _ q) e
variable {a b:Expr}{fa fb:FE}{pos:Pos}
theorem yU {op:Operator}{g:D->D->Option D}(ho:OpD X (binaryOp op) g)(ha:QE X E a fa)(hb:QE X E b fb):QE X E (.BinOp a op b pos) (dOp g fa fb):=PE.weak (fK ho ha hb) fun _ _ _ h=>lM h
theorem q_opN {op:Operator}{g:D->D->Option D}(ho:eZ X (binaryOp op) g)(ha:QE X E a fa)(hb:QE X E b fb):QN X E (.BinOp a op b pos) (dOp g fa fb):=PE.weak (fK ho ha hb) fun _ _ _ h=>tDN_op h
theorem fP {op:UnaryOp}{g:D->Option D}(ho:UnR X (unaryOp op) (rD1 X.K g))(ha:QE X E a fa):QE X E (.UnaryOp op a pos) (dUn g fa):=PE.weak (pe_un ho ha) fun _ _ _ h=>tD_un h
theorem gw {op:CmpOp}{g:D->D->Option D}(ho:OpD X (compareOp op) g)(ha:QE X E a fa)(hb:QE X E b fb)(hm:behindInMarks op b=false):QE X E (.Compare a [op] [b] pos) (dOp g fa fb):=PE.weak (pe_cmpR ho ha hb hm) fun _ _ _ h=>lM h
def zu (fa:FE):FT:=fun sd=>(fa sd).bind fun x=>match x with
 | .bl b=>.ok b
 |_=>.no
theorem xU {K:W.Frag}{σ : St}{H:Hp}{Q:Bool->Hp->Prop}(h:tDT K E (zu fa) σ H Q):tD K E fa σ H (fun x H'=>∃k,x=.bl k/\Q k H'):=by
 refine zc3b h fun B F sd r n=>?_;refine⟨B,F,sd,r,(Res.need_bind n).mono (fun x n1 v F1 H1 e1 i1=>?_) fun _ _ q=>q⟩;cases x with
 |bl k=>exact⟨k,IsD.bl_iff.mp i1,n1 F1 H1 e1⟩
 |_=>exact n1.elim
theorem zU {op:CmpOp}{g:D->D->Option D}(ho:OpD X (compareOp op) g)(ha:QE X E a fa)(hb:QE X E b fb)(hm:behindInMarks op b=false):QT X E (.Compare a [op] [b] pos) (zu (dOp g fa fb)) :=
 PT.weak (o9 ho ha hb hm) fun σ H Q h=>by
  have h:=xU h;exact lM h
theorem x8 (ha:QE X E a fa)(he:autoParam (∀whole,isTrue a X.env whole=(do let v <- whole;standAt a.pos;holding [v] (truthy v))) zaw._auto_1):QT X E a (zu fa):=PT.weak (pt_val ha he) fun σ H Q q=>xU q
def vK (f:FT):FT:=fun sd=>(f sd).bind fun b=>.ok (!b)
def qV (f g:FT):FT:=fun sd=>(f sd).bind fun b=>if b then g sd else .ok false
def mS (f g:FT):FT:=fun sd=>(f sd).bind fun b=>if b then .ok true else g sd
variable {f g:FT}{rest:List Expr}
theorem vv (ha:QT X E a f):QT X E (.UnaryOp .Not a pos) (vK f):=PT.weak (pt_not ha) fun σ H Q ⟨B,F,sd,r,n⟩ =>
 ⟨B,F,sd,r,(Res.need_bind n).mono (fun _ q=>q) fun _ _ q=>q⟩
theorem tH (ha:QT X E a f):QW X E (.BoolOp .And [a] pos) f:=pw_and1 ha
theorem uZ (ha:QT X E a f):QW X E (.BoolOp .Or [a] pos) f:=pw_or1 ha
theorem qH (ha:QT X E a f)(hb:QW X E (.BoolOp .And (b::rest) pos) g):QW X E (.BoolOp .And (a::b::rest) pos) (qV f g):=PW.weak (pw_and ha hb) fun σ H Q zh=>by
 refine zc3b zh fun B F sd r n=>?_;refine⟨B,F,sd,r,(Res.need_bind n).mono (fun k n1 F1 H1 e1=>?_) fun _ _ q=>q⟩;cases k with
 |true=>exact⟨B,F1,sd,r.step e1,fq n1 e1⟩
 |false=>exact n1 F1 H1 e1
theorem so (ha:QT X E a f)(hb:QW X E (.BoolOp .Or (b::rest) pos) g):QW X E (.BoolOp .Or (a::b::rest) pos) (mS f g):=PW.weak (pw_or ha hb) fun σ H Q zh=>by
 refine zc3b zh fun B F sd r n=>?_;refine⟨B,F,sd,r,(Res.need_bind n).mono (fun k n1 F1 H1 e1=>?_) fun _ _ q=>q⟩;cases k with
 |true=>exact n1 F1 H1 e1
 |false=>exact⟨B,F1,sd,r.step e1,fq n1 e1⟩
theorem QW.qt {e:Expr}(h:QW X E e f):QT X E e f:=PW.pt h
def kr (fa fb:FE):FE:=fun sd=>(zu fa sd).bind fun b=>if b then fb sd else .ok (.bl false)
def gr (fa:FE):FE:=fun sd=>(zu fa sd).bind fun b=>.ok (.bl !b)
theorem gi {op}(h:QE X E a fa):QE X E (.BoolOp op [a] pos) fa:=pe_one h
theorem hW (ha:QE X E a fa)(hb:QE X E (.BoolOp .And (b::rest) pos) fb):QE X E (.BoolOp .And (a::b::rest) pos) (kr fa fb):=PE.weak (pe_and ha hb) fun σ H Q zh=>by
 obtain⟨B,F,sd,r,n⟩:=zh;refine xU (K:=X.K) (E:=E) (Q:=fun c H1=>if c=true then tD X.K E fb σ H1 Q else Q (.bl false) H1) ⟨B,F,sd,r,(Res.need_bind n).mono (fun k n1 F1 H1 e1=>?_) fun _ _ q=>q⟩;cases k with
 |true=>exact⟨B,F1,sd,r.step e1,f8 n1 e1⟩
 |false=>exact n1 _ F1 H1 e1 (IsD.bl_iff.mpr rfl)
theorem q_not (ha:QE X E a fa):QE X E (.UnaryOp .Not a pos) (gr fa):=PE.weak (pe_not ha) fun σ H Q zh=>by
 refine zc3b zh fun B F sd r n=>?_;refine xU (K:=X.K) (E:=E) (Q:=fun c H1=>Q (.bl (!c)) H1) ⟨B,F,sd,r,(Res.need_bind n).mono (fun k n1 F1 H1 e1=>?_) fun _ _ q=>q⟩;exact n1 _ F1 H1 e1 (IsD.bl_iff.mpr rfl)
noncomputable def zq:FA:=fun _=>.ok []
def zc (fa:FE)(fr:FA):FA:=fun sd=>(fa sd).bind fun x=>(fr sd).bind fun xs=>.ok (x::xs)
theorem ze:QA X E [] zq:=PA.weak ml (by rintro σ H Q ⟨B,F,sd,r,n⟩;exact n [] F H (.refl r.ext.fh) .nil)
theorem za {e:Expr}{es:List Expr}{fe:FE}{fr:FA}(ha:QE X E e fe)(hr:QA X E es fr)(hs:autoParam (starEach (e::es) X.env=(false,eval e X.env)::starEach es X.env) zau._auto_1):QA X E (e::es) (zc fe fr) :=
 PA.weak (r9 ha hr hs) fun σ H Q zh=>by
  refine zc3b zh fun B F sd r n=>?_;refine⟨B,F,sd,r,(Res.need_bind n).mono (fun x n1 v F1 H1 e1 i1=>?_) fun _ _ q=>q⟩;refine⟨B,F1,sd,r.step e1,(Res.need_bind n1).mono (fun xs n2 vs F2 H2 e2 i2=>?_) fun _ _ q=>q.ext e1⟩;exact n2 _ F2 H2 (e1.trans e2) (.mk (IsD.same e2.ff _ _ i1) i2)
def uo (fr:FA):FE:=fun sd=>(fr sd).bind fun xs=>if xs.length<=1000 then .ok (.lst xs) else .no
def mM (fr:FA):FE:=fun sd=>(fr sd).bind fun xs=>if xs.length<=1000 then .ok (.tup xs) else .no
theorem xJ {es:List Expr}{fr:FA}(h:QA X E es fr):QN X E (.List es pos) (uo fr):=PE.weak (pe_lst h) fun σ H Q zh=>by
 refine zc3b zh fun B F sd r n=>?_;refine⟨B,F,sd,r,(Res.need_bind n).mono (fun xs n1 vs F1 H1 e1 i1=>?_) fun _ _ q=>q⟩
 split at n1
 ·rename_i hl;have hz:=i1.length;refine⟨wN (by omega),fun p hp=>?_⟩;exact n1 p F1 (upd H1 p (.lst vs)) (e1.trans (.keep e1.fh hp _)) (zE e1.hh hp) (zE e1.fh hp) ⟨vs,zo,i1⟩
 ·exact n1.elim
theorem tY {es:List Expr}{x1}{fr:FA}(h:QA X E es fr):QE X E (.Tuple es x1 pos) (mM fr):=PE.weak (pe_tup h) fun σ H Q zh=>by
 refine zc3b zh fun B F sd r n=>?_;refine⟨B,F,sd,r,(Res.need_bind n).mono (fun xs n1 vs F1 H1 e1 i1=>?_) fun _ _ q=>q⟩
 split at n1
 ·rename_i hl;have hz:=i1.length;refine⟨wN (by omega),fun p hp=>?_⟩;have ea:=Ext.alloc e1.fh hp (.tup vs);exact n1 _ _ _ (e1.trans ea) (IsD.tup_iff.mpr ⟨p,vs,rfl,.of zo,zn.same ea.ff _ _ i1⟩)
 ·exact n1.elim
def SpD (K:W.Frag)(Fn:List D->Res D):Sp:=fun vs H Q _=>∃F ds,yw F H/\zn K F ds vs/\(Fn ds).need (OkD K F H Q) (XW K E0 F H)
def SpN (K:W.Frag)(Fn:List D->Res D):Sp:=fun vs H Q _=>∃F ds,yw F H/\zn K F ds vs/\(Fn ds).need (OkN K F H Q) (XW K E0 F H)
def zy (Fn:List D->Res D)(fr:FA):FE:=fun sd=>(fr sd).bind Fn
theorem wT {name:Str}{k:Nat}{ps:List Str}{Fn:List D->Res D}{p:Pos}{e:Expr}{es:List Expr}{fr:FA}(c:zA X.prog X.w X.K X.mg X.base name k ps (SpD X.K Fn))(hr:Room k X.A)(hg:Gl X name)(ha:QA X E0 (e::es) fr)
 (hdb:autoParam ((name == ("__debug__" : Str))=false) zav._auto_1) (he:starEach (e::es) X.env=(false,eval e X.env)::starEach es X.env:=by rfl) (hpl:(backTo pos (starEach es X.env)).any (·.1)=false:=by rfl) :
 QE X E0 (.Call (.Name name p) (e::es) [] pos) (zy Fn fr):=PE.weak (iQ c hr hg ha hdb he hpl) fun σ H Q zh=>by
 refine zc3b zh fun B F sd r n=>?_;refine⟨B,F,sd,r,(Res.need_bind n).mono (fun xs n1 vs F1 H1 e1 i1=>?_) fun _ _ q=>q⟩;show SpD X.K Fn (vs++[]) H1 Q E0;rw[Zz];exact⟨F1,xs,e1.fh,i1,f8 n1 e1⟩
theorem oH {name:Str}{k:Nat}{ps:List Str}{Fn:List D->Res D}{p:Pos}{e:Expr}{es:List Expr}{fr:FA}(c:zA X.prog X.w X.K X.mg X.base name k ps (SpN X.K Fn))(hr:Room k X.A)(hg:Gl X name)(ha:QA X E0 (e::es) fr)
 (hdb:autoParam ((name == ("__debug__" : Str))=false) zav._auto_1) (he:starEach (e::es) X.env=(false,eval e X.env)::starEach es X.env:=by rfl) (hpl:(backTo pos (starEach es X.env)).any (·.1)=false:=by rfl) :
 QN X E0 (.Call (.Name name p) (e::es) [] pos) (zy Fn fr):=PE.weak (iQ c hr hg ha hdb he hpl) fun σ H Q zh=>by
 refine zc3b zh fun B F sd r n=>?_;refine⟨B,F,sd,r,(Res.need_bind n).mono (fun xs n1 vs F1 H1 e1 i1=>?_) fun _ _ q=>q⟩;show SpN X.K Fn (vs++[]) H1 Q E0;rw[Zz];exact⟨F1,xs,e1.fh,i1,hZ n1 e1⟩
def xq (g:List D->Option D)(fr:FA):FE:=fun sd=>(fr sd).bind fun xs=>.ofO (g xs)
theorem zT {id:String}{x:Str}{p:Pos}{e:Expr}{es:List Expr}{g:List D->Option D}{fr:FA}(hc:zD X (.builtin id) (rDA X.K g))(hg:Gl X x)(hm:X.mg x=none)(hv:bootBuiltins x=some (.builtin id))(ha:QA X E (e::es) fr)(hn:autoParam (x ≠ "__name__") zav._auto_1)(hdb:autoParam ((x == ("__debug__" : Str))=false) zav._auto_1)
 (he:autoParam (starEach (e::es) X.env=(false,eval e X.env)::starEach es X.env) zau._auto_1) (hpl:autoParam ((backTo pos (starEach es X.env)).any (·.1)=false) zau._auto_1):QE X E (.Call (.Name x p) (e::es) [] pos) (xq g fr) :=
 PE.weak (uu hc hg hm hv ha hn hdb he hpl) fun σ H Q zh=>by
  refine zc3b zh fun B F sd r n=>?_;refine⟨B,F,sd,r,(Res.need_bind n).mono (fun xs n1 vs F1 H1 e1 i1=>?_) fun _ _ q=>q⟩;refine zc1b (Res.need_ofO n1) fun z hz q=>?_;exact⟨F1,xs,z,e1.fh,i1,hz,q.ext e1⟩
theorem nT {id:String}{x:Str}{p:Pos}{e:Expr}{es:List Expr}{g:List D->Option D}{fr:FA}(hc:zD X (.builtin id) (gX X.K g))(hg:Gl X x)(hm:X.mg x=none)(hv:bootBuiltins x=some (.builtin id))(ha:QA X E (e::es) fr)(hn:autoParam (x ≠ "__name__") zav._auto_1)(hdb:autoParam ((x == ("__debug__" : Str))=false) zav._auto_1)
 (he:autoParam (starEach (e::es) X.env=(false,eval e X.env)::starEach es X.env) zau._auto_1) (hpl:autoParam ((backTo pos (starEach es X.env)).any (·.1)=false) zau._auto_1):QN X E (.Call (.Name x p) (e::es) [] pos) (xq g fr) :=
 PE.weak (uu hc hg hm hv ha hn hdb he hpl) fun σ H Q zh=>by
  refine zc3b zh fun B F sd r n=>?_;refine⟨B,F,sd,r,(Res.need_bind n).mono (fun xs n1 vs F1 H1 e1 i1=>?_) fun _ _ q=>q⟩;refine zc1b (Res.need_ofO n1) fun z hz q=>?_;exact⟨F1,xs,z,e1.fh,i1,hz,q.ext e1⟩
theorem uq {T:String}{x:Str}{p:Pos}{e:Expr}{es:List Expr}{g:List D->Option D}{fr:FA}(hc:zD X (.type T) (rDA X.K g))(hg:Gl X x)(hm:X.mg x=none)(hv:bootBuiltins x=some (.type T))(ha:QA X E (e::es) fr)(hn:autoParam (x ≠ "__name__") zav._auto_1)(hdb:autoParam ((x == ("__debug__" : Str))=false) zav._auto_1)
 (he:autoParam (starEach (e::es) X.env=(false,eval e X.env)::starEach es X.env) zau._auto_1) (hpl:autoParam ((backTo pos (starEach es X.env)).any (·.1)=false) zau._auto_1):QE X E (.Call (.Name x p) (e::es) [] pos) (xq g fr) :=
 PE.weak (uI hc hg hm hv ha hn hdb he hpl) fun σ H Q zh=>by
  refine zc3b zh fun B F sd r n=>?_;refine⟨B,F,sd,r,(Res.need_bind n).mono (fun xs n1 vs F1 H1 e1 i1=>?_) fun _ _ q=>q⟩;refine zc1b (Res.need_ofO n1) fun z hz q=>?_;exact⟨F1,xs,z,e1.fh,i1,hz,q.ext e1⟩
theorem wm {T:String}{x:Str}{p:Pos}{e:Expr}{es:List Expr}{g:List D->Option D}{fr:FA}(hc:zD X (.type T) (gX X.K g))(hg:Gl X x)(hm:X.mg x=none)(hv:bootBuiltins x=some (.type T))(ha:QA X E (e::es) fr)(hn:autoParam (x ≠ "__name__") zav._auto_1)(hdb:autoParam ((x == ("__debug__" : Str))=false) zav._auto_1)
 (he:autoParam (starEach (e::es) X.env=(false,eval e X.env)::starEach es X.env) zau._auto_1) (hpl:autoParam ((backTo pos (starEach es X.env)).any (·.1)=false) zau._auto_1):QN X E (.Call (.Name x p) (e::es) [] pos) (xq g fr) :=
 PE.weak (uI hc hg hm hv ha hn hdb he hpl) fun σ H Q zh=>by
  refine zc3b zh fun B F sd r n=>?_;refine⟨B,F,sd,r,(Res.need_bind n).mono (fun xs n1 vs F1 H1 e1 i1=>?_) fun _ _ q=>q⟩;refine zc1b (Res.need_ofO n1) fun z hz q=>?_;exact⟨F1,xs,z,e1.fh,i1,hz,q.ext e1⟩
noncomputable def qG:D->Bool
 | .tup _=>false
 | .lst _=>false
 | .dct _ _=>false
 | .ins _ _ _=>false
 | .exc _=>false
 | .dcf _ _=>false
 | .scr _=>false
 |_=>true
theorem IsD.scal {K:W.Frag}{F F':Hp}{d:D}{v:V}(s:qG d=true)(h:IsD K F d v):IsD K F' d v:=by
 cases d with
 |tup _=>exact zqb s
 |lst _=>exact zqb s
 |dct _ _=>exact zqb s
 |ins _ _ _=>exact zqb s
 |exc _=>exact zqb s
 |dcf _ _=>exact zqb s
 |scr _=>exact zqb s
 |_=>exact h
noncomputable def Res.bare {α : Type}(r:Res α):Res α := match r with
 | .ok a=>.ok a
 | .ex c []=>.ex c []
 |_=>.no
theorem Res.need_bare {α : Type}{K:W.Frag}{F H F1:Hp}{r:Res α}{p:α -> Prop}(sF:yw F H)(h:r.bare.need p (XW K E0 F H)):r.need p (XW K E0 F1 H):=by
 cases r with
 |ok a=>exact h
 |no=>exact h
 |ex c fs =>
  cases fs with
  |nil=>exact fun cv a F2 H2 e2 ⟨C,h1,h2,_⟩=>h cv none F H2 (.grow sF e2.hh) ⟨C,h1,h2,.inl rfl⟩
  |cons d r=>exact h.elim
def jt (is:List Nat)(f:FE):FE:=fun sd=>(f (tV is sd)).bare.bind fun d=>if qG d then .ok d else .no
def ow (is:List Nat)(f:FT):FT:=fun sd=>(f (tV is sd)).bare
theorem mG {e:Expr}{fe:FE}(is:List Nat)(h:QE X E0 e fe):QE X E0 e (jt is fe):=PE.weak h fun σ H Q zh=>by
 refine zc3b zh fun B F sd r n=>?_;refine zc1b (r.frz is) fun F1 s1 r1=>?_;refine⟨B,F1,_,r1,(Res.need_bare r.ext.fh (Res.need_bind n)).mono (fun d n1 v F2 H2 e2 i2=>?_) fun c fs q=>q⟩
 split at n1
 ·rename_i hs;exact n1 v F H2 (.grow r.ext.fh e2.hh) (i2.scal hs)
 ·exact n1.elim
theorem pI {e:Expr}{fe:FT}(is:List Nat)(h:QT X E0 e fe):QT X E0 e (ow is fe):=PT.weak h fun σ H Q zh=>by
 refine zc3b zh fun B F sd r n=>?_;refine zc1b (r.frz is) fun F1 s1 r1=>?_;refine⟨B,F1,_,r1,(Res.need_bare r.ext.fh n).mono (fun d n1 F2 H2 e2=>?_) fun c fs q=>q⟩;exact n1 F H2 (.grow r.ext.fh e2.hh)
end
inductive Out where
 |next (sd:SD)|ret (d:D)|brk (sd:SD)|cont (sd:SD)
def OkM (K:W.Frag)(F H:Hp)(Q:VK)(d:D):Prop:=if qG d=true then OkD K F H Q d else OkN K F H Q d
def RetOk (K:W.Frag)(m:Option Bool)(B:Bs)(Q:VK)(d:D):Prop:=match m with
 |some true=>OkN K B.F0 B.H0 Q d
 |some false=>OkD K B.F0 B.H0 Q d
 |none=>OkM K B.F0 B.H0 Q d
def um (K:W.Frag)(m:Option Bool)(B:Bs)(F:Hp)(T:Ends):Out->Prop
 | .next sd=>∀σ F' H',yw F F'->RS K B F' H' sd σ -> T.nx σ H'
 | .brk sd=>∀σ F' H',yw F F'->RS K B F' H' sd σ -> T.bk σ H'
 | .cont sd=>∀σ F' H',yw F F'->RS K B F' H' sd σ -> T.ct σ H'
 | .ret d=>RetOk K m B T.rt d
abbrev FS:=SD->Res Out
def tDS (K:W.Frag)(E:XK)(m:Option Bool)(g:FS):TS:=fun T σ H=>∃B F sd,RS K B F H sd σ /\ (g sd).need (um K m B F T) (XW K E B.F0 B.H0)
abbrev QS (X:Cx)(E:XK)(m:Option Bool)(st:Stmt)(g:FS):Prop:=PS X st (tDS X.K E m g)
abbrev QSs (X:Cx)(E:XK)(m:Option Bool)(st:List Stmt)(g:FS):Prop:=PSs X st (tDS X.K E m g)
section
variable {K:W.Frag}{E:XK}{m:Option Bool}{B:Bs}{F F' H:Hp}{T:Ends}
theorem um.mono {o:Out}(h:um K m B F T o)(e:yw F F'):um K m B F' T o:=by
 cases o with
 |next sd=>exact fun σ F2 H2 s r=>h σ F2 H2 (e.trans s) r
 |brk sd=>exact fun σ F2 H2 s r=>h σ F2 H2 (e.trans s) r
 |cont sd=>exact fun σ F2 H2 s r=>h σ F2 H2 (e.trans s) r
 |ret d=>exact h
end
section
variable {X:Cx}{E:XK}{m:Option Bool}{st:Stmt}{sts:List Stmt}{g g1 g2:FS}{pos:Pos}
noncomputable def yx:FS:=fun sd=>.ok (.next sd)
def zV (g1 g2:FS):FS:=fun sd=>(g1 sd).bind fun o=>match o with
 | .next sd'=>g2 sd'
 |o=>.ok o
theorem zG:QSs X E m [] yx:=PSs.weak pss_nil (by rintro T σ H ⟨B,F,sd,r,n⟩;exact n σ F H (.refl _) r)
theorem zg (h:QS X E m st g):QSs X E m [st] g:=pss_one h
theorem zd (h1:QS X E m st g1)(h2:QSs X E m sts g2):QSs X E m (st::sts) (zV g1 g2):=PSs.weak (pss_cons h1 h2) fun T σ H zh=>by
 refine zc3b zh fun B F sd r n=>?_;refine⟨B,F,sd,r,(Res.need_bind n).mono (fun o n1=>?_) fun _ _ q=>q⟩;cases o with
 |next sd'=>exact fun σ' F' H' s r'=>⟨B,F',sd',r',n1.mono (fun o q=>q.mono s) fun _ _ q=>q⟩
 |ret d=>exact n1
 |brk sd'=>exact n1
 |cont sd'=>exact n1
theorem sN (is:List Nat)(h:QS X E m st g):QS X E m st (fun sd=>g (tV is sd)):=PS.weak h fun T σ H zh=>by
 refine zc3b zh fun B F sd r n=>?_;refine zc1b (r.frz is) fun F1 s1 r1=>?_;exact⟨B,F1,_,r1,n.mono (fun _ q=>q.mono s1) fun _ _ q=>q⟩
noncomputable def eG:FS:=fun sd=>.ok (.brk sd)
theorem qs_break:QS X E m (.Break pos) eG:=PS.weak ps_break (by rintro T σ H ⟨B,F,sd,r,n⟩;exact n σ F H (.refl _) r)
variable {e:Expr}{fe:FE}
def xA (i:Nat)(f:FE):FS:=fun sd=>(f sd).bind fun d=>.ok (.next (sd.set i (some (.val d))))
def pW (i:Nat)(f:FE):FS:=fun sd=>(f sd).bind fun d=>.ok (.next (sd.set i (some (.own false d))))
theorem yg {i:Nat}{x:Str}{pos':Pos}(hN:X.N.Nodup)(hi:X.N[i]? = some x)(hx:Loc X.env.scope x)(he:QE X E e fe)(hs:autoParam (swapsWith e (some (.Name x pos')) pos.line X.env=pure false) zau._auto_1)
 (hf:X.fn x=true\/X.env.scope.names.lookup x=some .local:=by first|exact .inl rfl|exact .inr rfl):QS X E m (.Assign [.Name x pos'] e pos) (xA i fe):=PS.weak (iB hN hi hx he hs hf) fun T σ H zh=>by
 refine zc3b zh fun B F sd r n=>?_;refine⟨B,F,sd,r,(Res.need_bind n).mono (fun d n1 v F1 H1 e1 i1=>?_) fun _ _ q=>q.ext r.ext⟩;exact n1 _ F1 H1 e1.ff ((r.step e1).setVal i1)
theorem xB {i:Nat}{x:Str}{pos':Pos}(hN:X.N.Nodup)(hi:X.N[i]? = some x)(hx:Loc X.env.scope x)(he:QN X E e fe)(hs:autoParam (swapsWith e (some (.Name x pos')) pos.line X.env=pure false) zau._auto_1)
 (hf:X.fn x=true\/X.env.scope.names.lookup x=some .local:=by first|exact .inl rfl|exact .inr rfl):QS X E m (.Assign [.Name x pos'] e pos) (pW i fe):=PS.weak (iB hN hi hx he hs hf) fun T σ H zh=>by
 refine zc3b zh fun B F sd r n=>?_;refine⟨B,F,sd,r,(Res.need_bind n).mono (fun d n1 l F1 H1 e1 h1 h2 h3=>?_) fun _ _ q=>q.ext r.ext⟩;refine n1 _ F1 H1 e1.ff ((r.step e1).setOwn (zE r.ext.hh h1) h2 h3 fun j p d' q1 q2=>?_);refine zc1e (r.own q1) fun l' p1 _ _ p4 _=>?_;rw[p1] at q2;cases q2;obtain⟨o,ho⟩:=p4.has;rw[h1] at ho;exact zqn ho
def xL (f:FE):FS:=fun sd=>(f sd).bind fun d=>.ok (.ret d)
theorem zN (he:QE X E e fe):QS X E false (.Return (some e) pos) (xL fe):=PS.weak (kt he) fun T σ H zh=>by
 refine zc3b zh fun B F sd r n=>?_;refine⟨B,F,sd,r,(Res.need_bind n).mono (fun d n1 v F1 H1 e1 i1=>?_) fun _ _ q=>q.ext r.ext⟩;exact n1 v F1 H1 (r.ext.trans e1) i1
theorem rL (he:QN X E e fe):QS X E true (.Return (some e) pos) (xL fe):=PS.weak (kt he) fun T σ H zh=>by
 refine zc3b zh fun B F sd r n=>?_;refine⟨B,F,sd,r,(Res.need_bind n).mono (fun d n1 l F1 H1 e1 h1 h2 h3=>?_) fun _ _ q=>q.ext r.ext⟩;exact n1 l F1 H1 (r.ext.trans e1) (zE r.ext.hh h1) h2 h3
noncomputable def yN (i:Nat):FS:=fun sd=>match sd[i]? with
 |some (some (.own _ d))=>.ok (.ret d)
 |_=>.no
theorem xF {i:Nat}(he:PE X e (j9 i)):QS X E true (.Return (some e) pos) (yN i):=PS.weak (kt he) fun T σ H zh=>by
 refine zc3b zh fun B F sd r n=>?_;unfold yN at n
 split at n
 ·rename_i d q;refine zc1e (r.own q) fun l h1 h2 h3 h4 _=>?_;exact⟨.ref l,h1,n l F H r.ext h2 h3 h4⟩
 ·exact n.elim
def jQ (f:FE):FS:=fun sd=>(f sd).bind fun _=>.ok (.next sd)
def sIf (c:FT)(g1 g2:FS):FS:=fun sd=>(c sd).bind fun b=>if b then g1 sd else g2 sd
theorem yQ {c:Expr}{a b:List Stmt}{fc:FT}(hc:QT X E c fc)(ha:QSs X E m a g1)(hb:QSs X E m b g2):QS X E m (.If c a b pos) (sIf fc g1 g2):=PS.weak (ps_if hc ha hb) fun T σ H zh=>by
 refine zc3b zh fun B F sd r n=>?_;refine⟨B,F,sd,r,(Res.need_bind n).mono (fun b n1 F1 H1 e1=>?_) fun _ _ q=>q.ext r.ext⟩;cases b with
 |true=>exact⟨B,F1,sd,r.step e1,n1.mono (fun _ q=>q.mono e1.ff) fun _ _ q=>q⟩
 |false=>exact⟨B,F1,sd,r.step e1,n1.mono (fun _ q=>q.mono e1.ff) fun _ _ q=>q⟩
def yb (i:Nat)(f:FE):FS:=fun sd=>match sd[i]? with
 |some (some (.own false (.lst ds)))=>(f sd).bind fun d=>if ds.length<sizeLine then .ok (.next (sd.set i (some (.own false (.lst (ds++[d])))))) else .no
 |_=>.no
theorem yf {i:Nat}{o:Expr}{apos cpos:Pos}(ho:PE X o (j9 i))(he:QE X E e fe)
 (hp:∀{to:TE} {t:TA},PE X o to->PA X [e] t->PE X (.Call (.Attribute o "append" apos) [e] [] cpos) (tBM X.K "list" lH to t))
 (hs:autoParam (swapsWith (.Call (.Attribute o "append" apos) [e] [] cpos) none pos.line X.env=pure false) zau._auto_1)
 (hst:autoParam (starEach [e] X.env=(false,eval e X.env)::starEach [] X.env) zau._auto_1):QS X E m (.Expr (.Call (.Attribute o "append" apos) [e] [] cpos) pos) (yb i fe) :=
 PS.weak (ke (hp ho (za he ze hst)) hs) fun T σ H zh=>by
  obtain⟨B,F,sd,r,n⟩:=zh;unfold yb at n
  split at n
  ·rename_i ds hi;obtain⟨l,h1,h2,h3,⟨xs,h4,h5⟩,_⟩:=r.own hi;refine⟨.ref l,h1,.inl ⟨rfl,xs,SqL.of h4⟩,B,F,sd,r,?_⟩;unfold zc zq;show((fe sd).bind fun x=>.ok [x]).need _ _;have n2:=Res.need_bind n;cases q:fe sd with
   |no=>rw[q] at n2;exact n2
   |ex c fs=>rw[q] at n2;exact n2.ext r.ext
   |ok d =>
    rw[q] at n2;intro vs F1 H1 e1 i1;rw[zn.cons_iff] at i1;obtain⟨v,w,rfl,i2,i3⟩:=i1;rw[zn.nil_iff] at i3;subst i3;have n3:(if ds.length<sizeLine then Res.ok (Out.next (sd.set i (some (.own false (.lst (ds++[d])))))) else .no).need (um X.K m B F T) (XW X.K E B.F0 B.H0):=n2
    split at n3
    ·rename_i hz;have hl:=h5.length;refine⟨l,xs,v,rfl,rfl,e1.hh _ _ h4,by omega,?_⟩;have r1:=r.step e1;exact n3 σ F1 _ e1.ff (r1.chg hi h1 ⟨xs++[v],zo,(zn.same e1.ff _ _ h5).snoc i2⟩)
    ·exact n3.elim
  ·exact n.elim
def vL (i:Nat)(f:FE):FS:=fun sd=>match sd[i]? with
 |some (some (.own false (.lst ds)))=>(f sd).bind fun d=>match d with
  | .lst es=>if ds.length+es.length<=sizeLine then .ok (.next (sd.set i (some (.own false (.lst (ds++es)))))) else .no
  |_=>.no
 |_=>.no
theorem qs_extend {i:Nat}{o:Expr}{apos cpos:Pos}(ho:PE X o (j9 i))(he:QN X E e fe)
 (hp:∀{to:TE} {t:TA},PE X o to->PA X [e] t->PE X (.Call (.Attribute o "extend" apos) [e] [] cpos) (tBM X.K "list" l6 to t))
 (hs:autoParam (swapsWith (.Call (.Attribute o "extend" apos) [e] [] cpos) none pos.line X.env=pure false) zau._auto_1)
 (hst:autoParam (starEach [e] X.env=(false,eval e X.env)::starEach [] X.env) zau._auto_1):QS X E m (.Expr (.Call (.Attribute o "extend" apos) [e] [] cpos) pos) (vL i fe) :=
 PS.weak (ke (hp ho (r9 he ml hst)) hs) fun T σ H zh=>by
  refine zc3b zh fun B F sd r n=>?_;unfold vL at n
  split at n
  ·rename_i ds hi;refine zc1e (r.own hi) fun l h1 h2 h3 zr4 _=>?_;obtain⟨xs,h4,h5⟩:=zr4;refine⟨.ref l,h1,.inl ⟨rfl,xs,SqL.of h4⟩,B,F,sd,r,(Res.need_bind n).mono (fun d n1 b F1 H1 e1 i1 i2 i3=>?_) fun _ _ q=>q.ext r.ext⟩;cases d with
   |lst es =>
    refine zc1b i3 fun ys g1 g2=>?_;have n3:(if ds.length+es.length<=sizeLine then Res.ok (Out.next (sd.set i (some (.own false (.lst (ds++es)))))) else .no).need (um X.K m B F T) (XW X.K E B.F0 B.H0):=n1
    split at n3
    ·rename_i hz;have hl:=h5.length;have hl2:=g2.length;refine⟨l,b,xs,ys,rfl,rfl,e1.hh _ _ h4,g1,by omega,?_⟩;have r1:=r.step e1;exact n3 σ F1 _ e1.ff (r1.chg hi h1 ⟨xs++ys,zo,(zn.same e1.ff _ _ h5).append g2⟩)
    ·exact n3.elim
   |_=>exact n1.elim
  ·exact n.elim
inductive Tg where
 |one (i:Nat)|tup (is:List Nat)
noncomputable def setAll:List Nat->List D->SD->SD
 |i::is,d::ds,sd=>setAll is ds (sd.set i (some (.val d)))
 |_,_,sd=>sd
def yW:Tg->D->SD->Res SD
 | .one i,d,sd=>.ok (sd.set i (some (.val d)))
 | .tup is,.tup ds,sd=>if ds.length=is.length then .ok (setAll is ds sd) else .no
 |_,_,_=>.no
noncomputable def rP:List Nat->List V->St->St
 |i::is,v::vs,σ => rP is vs (σ.set i (some v))
 |_,_,σ => σ
theorem RS.setAll {K:W.Frag}{B:Bs}{F H:Hp}:∀{is:List Nat} {ds:List D} {vs:List V} {sd:SD} {σ : St},RS K B F H sd σ -> zn K F ds vs->RS K B F H (setAll is ds sd) (rP is vs σ)
 | [],ds,vs,sd,σ,r,_=>r
 |i::is,[],vs,sd,σ,r,h=>by
  rw[zn.nil_iff] at h;subst h;exact r
 |i::is,d::ds,vs,sd,σ,r,h=>by
  rw[zn.cons_iff] at h;refine zc2c h fun v w zr2 h1 h2=>?_;subst zr2;exact RS.setAll (is:=is) (ds:=ds) (vs:=w) (r.setVal (i:=i) h1) h2
theorem RS.forget {K:W.Frag}{B:Bs}{F H:Hp}{sd sd':SD}{σ : St}(r:RS K B F H sd σ)(hl:sd'.length=sd.length)(h:∀(i:Nat) (x:SV),sd'[i]? = some (some x)->sd[i]? = some (some x)):RS K B F H sd' σ :=
 ⟨r.ext,by rw[r.len,hl],fun q=>r.val (h _ _ q),fun q=>r.own (h _ _ q),fun n q1 q2 q3=>r.apart n (h _ _ q1) (h _ _ q2) q3⟩
def gT:Tg->W.Frag->TG
 | .one i,_=>rQ i
 | .tup is,K=>fun v σ H Q=>∃a xs,v=.ref a/\SqT K H a xs/\xs.length=is.length/\Q (rP is xs σ) H
theorem g8 {K:W.Frag}{tg:Tg}{B:Bs}{F H:Hp}{sd:SD}{σ : St}{d:D}{v:V}{p:SD->Prop}{q:Str->List D->Prop}{Q:St->Hp->Prop}(r:RS K B F H sd σ)(hi:IsD K F d v)(n:(yW tg d sd).need p q)
 (h:∀sd' σ',p sd'->yW tg d sd=.ok sd'->RS K B F H sd' σ'->Q σ' H):gT tg K v σ H Q:=by
 cases tg with
 |one i=>exact h _ _ n rfl (r.setVal hi)
 |tup is =>
  cases d with
  |tup ds =>
   rw[IsD.tup_iff] at hi;refine zc2c hi fun a xs zr2 h1 h2=>?_;subst zr2;have eb:yW (.tup is) (.tup ds) sd=if ds.length=is.length then .ok (setAll is ds sd) else .no:=rfl
   by_cases hl:ds.length=is.length
   ·rw[Zd hl] at eb;rw[eb] at n;exact⟨a,xs,rfl,(h1.same r.ext.fh).sq,by rw[h2.length,hl],h _ _ n eb (r.setAll h2)⟩
   ·rw[Ze hl] at eb;rw[eb] at n;exact n.elim
  |_=>exact n.elim
abbrev QG (X:Cx)(e:Expr)(tg:Tg):Prop:=PG X e (gT tg X.K)
def eP (K:W.Frag)(F1:Hp)(J:It)(ds:List D):Prop:=∀(i:Nat) (F2 H2:Hp),yw F1 F2->yw F2 H2 ->
 (i<ds.length->J.go i H2/\∀x H3,J.yld i H2 x H3->∃d F3,ds[i]? = some d/\Ext F2 H2 F3 H3/\IsD K F3 d x)/\(ds.length<=i->J.stop i H2)
def tDI (K:W.Frag)(E:XK)(f:FA):TI:=fun σ H R=>∃B F sd,RS K B F H sd σ /\ (f sd).need (fun ds=>∀J F' H',Ext F H F' H'->eP K F' J ds->R J H') (XW K E F H)
abbrev QI (X:Cx)(E:XK)(tg iter:Expr)(f:FA):Prop:=PI X tg iter (tDI X.K E f)
def jm (b:D->FS):List D->FS
 | [],sd=>.ok (.next sd)
 |x::xs,sd=>(b x sd).bind fun o=>match o with
  | .next sd'=>jm b xs sd'
  | .cont sd'=>jm b xs sd'
  | .brk sd'=>.ok (.next sd')
  | .ret d=>.ok (.ret d)
def uM (it:FA)(tg:Tg)(b:FS):FS:=fun sd=>(it sd).bind fun ds=>jm (fun x sd=>(yW tg x sd).bind b) ds sd
theorem yE {tg iter:Expr}{body:List Stmt}{fi:FA}{t:Tg}(hp:PassesOwn (model X.prog X.w) X.A X.env X.xe)(hc:X.calm=true)(hi:QI X E tg iter fi)(hg:QG X tg t)(hb:QSs X E m body g)
 (hss:autoParam (∀x,foldedSetIterable iter X.env x=pure x) zaw._auto_1):QS X E m (.For tg iter body [] pos) (uM fi t g):=PS.weak (ps_for hp hc hi hg hb hss) fun T σ H zh=>by
 refine zc3b zh fun B F sd r n=>?_;refine⟨B,F,sd,r,(Res.need_bind n).mono (fun ds n1 J F1 H1 e1 wk=>?_) fun _ _ q=>q.ext r.ext⟩;refine⟨fun i k σ H=>k=ds.length-i/\i<=ds.length/\∃F2 sd,yw F1 F2/\RS X.K B F2 H sd σ /\ (jm (fun x sd=>(yW t x sd).bind g) (ds.drop i) sd).need (um X.K m B F2 T) (XW X.K E B.F0 B.H0),
  ⟨ds.length,rfl,Nat.zero_le _,F1,sd,.refl _,r.step e1,n1.mono (fun _ q=>q.mono e1.ff) fun _ _ q=>q⟩,?_⟩
 rintro i k σ2 H2 ⟨rfl,hi,F2,sd2,s2,r2,n2⟩;obtain⟨w1,w2⟩:=wk i F2 H2 s2 r2.ext.fh;by_cases hlt:i<ds.length
 ·obtain⟨go,yl⟩:=w1 hlt;refine .inr ⟨go,fun σ' H'=>∃F3 sd3,yw F1 F3/\RS X.K B F3 H' sd3 σ'/\(jm (fun x sd=>(yW t x sd).bind g) (ds.drop (i+1)) sd3).need (um X.K m B F3 T) (XW X.K E B.F0 B.H0),
   fun σ' H' ⟨F3,sd3,q1,q2,q3⟩=>⟨ds.length-(i+1),by omega,rfl,hlt,F3,sd3,q1,q2,q3⟩,fun x H3 y=>?_⟩
  refine zc2c (yl x H3 y) fun d F3 hd e3 i3=>?_;rw[List.drop_eq_getElem_cons hlt] at n2;have hd':ds[i]=d:=by rw[Zqg hlt] at hd;exact Zqi hd
  rw[hd'] at n2;have r3:=r2.step e3;unfold jm at n2;have n3:=Res.need_bind (Res.need_bind n2);refine g8 r3 i3 n3 fun sd' σ' n4 _ r4=>?_;refine⟨B,F3,sd',r4,n4.mono (fun o n5=>?_) fun _ _ q=>q⟩;cases o with
  |next sd5=>exact fun σ5 F5 H5 s5 r5=>⟨F5,sd5,(s2.trans e3.ff).trans s5,r5,n5.mono (fun _ q=>q.mono (e3.ff.trans s5)) fun _ _ q=>q⟩
  |cont sd5=>exact fun σ5 F5 H5 s5 r5=>⟨F5,sd5,(s2.trans e3.ff).trans s5,r5,n5.mono (fun _ q=>q.mono (e3.ff.trans s5)) fun _ _ q=>q⟩
  |brk sd5=>exact fun σ5 F5 H5 s5 r5=>n5 σ5 F5 H5 (e3.ff.trans s5) r5
  |ret d=>exact n5
 ·have he:i=ds.length:=by omega
  refine .inl ⟨w2 (by omega),?_⟩;subst he;rw[List.drop_length] at n2;exact n2 σ2 F2 H2 (.refl _) r2
def jG {α β : Type}(f:α -> Res β):List α -> Res (List β)
 | []=>.ok []
 |x::xs=>(f x).bind fun y=>(jG f xs).bind fun ys=>.ok (y::ys)
def tX (cap:List (Option Nat))(sd:SD):SD:=cap.map fun o=>o.bind fun j=>match sd[j]? with
 |some (some (.val d))=>some (.val d)
 |_=>none
noncomputable def su (sd:SD)(i:Nat):Bool:=match sd[i]? with
 |some none=>true
 |_=>false
def rg (sd:SD):Tg->Bool
 | .one i=>su sd i
 | .tup is=>is.all (su sd)
def wC (cap:List (Option Nat))(it:FA)(tg:Tg)(f:FE):FE:=fun sd=>(it sd).bind fun ds=>if rg (tX cap sd) tg=true/\ds.length<sizeLine then
 (jG (fun x=>(yW tg x (tX cap sd)).bind f) ds).bind fun ys=>.ok (.lst ys) else .no
theorem RS.cap {K:W.Frag}{B:Bs}{F H:Hp}{sd:SD}{σ : St}(cap:List (Option Nat))(r:RS K B F H sd σ):RS K B F H (tX cap sd) (oM cap σ):=by
 have key:∀{i:Nat} {x:SV},(tX cap sd)[i]? = some (some x)->∃j d,cap[i]? = some (some j)/\sd[j]? = some (some (.val d))/\x=.val d:=fun {i x} q=>by
  unfold tX at q;rw[Zv] at q;cases hc:cap[i]? with
  |none=>rw[hc] at q;exact zqn q
  |some o =>
   rw[hc] at q;cases o with
   |none=>cases q
   |some j =>
    have q:(match sd[j]? with
     |some (some (.val d))=>some (SV.val d)
     |_=>none)=some x:=Zqi q
    split at q
    ·rename_i d hd;exact⟨j,d,rfl,hd,(Zqi q).symm⟩
    ·exact zqn q
 refine⟨r.ext,by unfold tX oM;rw[Zql,Zql],fun {i d} q=>?_,fun {i p d} q=>?_,fun {i j p p' d e l} _ q=>?_⟩
 ·refine zc2c (key q) fun j d' h1 h2 h3=>?_;cases h3;refine zc1b (r.val h2) fun v v1 v2=>?_;refine⟨v,?_,v2⟩;unfold oM;rw[Zv,h1];show some (Option.bind (some j) fun j=>(σ[j]?).join)=_;rw[Option.bind_some,v1];rfl
 ·refine zc2c (key q) fun j d' h1 h2 h3=>?_;cases h3
 ·refine zc2c (key q) fun j d' h1 h2 h3=>?_;cases h3
theorem wO:∀(is:List Nat) (ds:List D) (sd0 sd:SD),is.all (su sd0)=true->sd.length=sd0.length->(∀(i:Nat) (x:SV),sd0[i]? = some (some x)->sd[i]? = some (some x)) ->
 (setAll is ds sd).length=sd0.length/\∀(i:Nat) (x:SV),sd0[i]? = some (some x)->(setAll is ds sd)[i]? = some (some x)
 | [],ds,sd0,sd,_,hl,h=>⟨hl,h⟩
 |i::is,[],sd0,sd,_,hl,h=>⟨hl,h⟩
 |i::is,d::ds,sd0,sd,hn,hl,h=>by
  rw[List.all_cons,Bool.and_eq_true] at hn;refine wO is ds sd0 (sd.set i (some (.val d))) hn.2 (by rw[List.length_set,hl]) fun j x q=>?_;have ne:i≠j:=fun z=>by
   subst z;have:=hn.1;unfold su at this;rw[q] at this;exact zqb this
  rw[z7 ne];exact h j x q
theorem sS {tg:Tg}{sd0 sd:SD}{d:D}(hn:rg sd0 tg=true)(h:yW tg d sd0=.ok sd):sd0.length=sd.length/\∀(i:Nat) (x:SV),sd0[i]? = some (some x)->sd[i]? = some (some x):=by
 cases tg with
 |one i =>
  cases h;have:=wO [i] [d] sd0 sd0 (by rw[List.all_cons,List.all_nil,Bool.and_true];exact hn) rfl fun _ _ q=>q;exact⟨this.1.symm,this.2⟩
 |tup is =>
  cases d with
  |tup ds =>
   have eb:yW (.tup is) (.tup ds) sd0=if ds.length=is.length then .ok (setAll is ds sd0) else .no:=rfl
   rw[eb] at h
   split at h
   ·cases h;have:=wO is ds sd0 sd0 hn rfl fun _ _ q=>q;exact⟨this.1.symm,this.2⟩
   ·cases h
  |_=>cases h
theorem mapD_drop {α β : Type}{f:α -> Res β}{xs:List α}{i:Nat}{x:α}{p:List β -> Prop}{q:Str->List D->Prop}(hx:xs[i]? = some x)(h:(jG f (xs.drop i)).need p q):(f x).need (fun y=>(jG f (xs.drop (i+1))).need (fun ys=>p (y::ys)) q) q:=by
 have hlt:i<xs.length:=(List.getElem?_eq_some_iff.mp hx).1;rw[List.drop_eq_getElem_cons hlt] at h;have e:xs[i]=x:=by rw[Zqg hlt] at hx;exact Zqi hx
 rw[e] at h;unfold jG at h;refine(Res.need_bind h).mono (fun y h1=>?_) fun _ _ z=>z;exact(Res.need_bind h1).mono (fun ys h2=>h2) fun _ _ z=>z
theorem nQ {K:W.Frag}{t:Tg}{fi:FA}{f:FE}{cap:List (Option Nat)}{σ : St}{H:Hp}{Q:VK}(hh:tDN K E (wC cap fi t f) σ H Q):lJ cap (tDI K E fi) (gT t K) (tD K E f) σ H Q:=by
 refine zc3b hh fun B F sd r n=>?_;refine⟨B,F,sd,r,(Res.need_bind n).mono (fun ds n1 J F1 H1 e1 wk=>?_) fun _ _ q=>q⟩
 split at n1
 ·rename_i hh;obtain⟨hn,hz⟩:=hh;refine⟨fun i k ys σ H2=>k=ds.length-i/\i<=ds.length/\∃F2 es,Ext F1 H1 F2 H2/\RS K B F2 H2 (tX cap sd) σ /\ zn K F2 es ys/\es.length=i /\
   (jG (fun x=>(yW t x (tX cap sd)).bind f) (ds.drop i)).need (fun rs=>OkN K F2 H2 Q (.lst (es++rs))) (XW K E F2 H2),⟨ds.length,rfl,Nat.zero_le _,F1,[],.refl e1.fh,(r.step e1).cap cap,.nil,rfl,?_⟩,?_⟩
  ·exact(Res.need_bind n1).mono (fun rs q=>(show OkN K F H Q (.lst rs) from q).ext e1) fun _ _ q=>q.ext e1
  rintro i k ys σ2 H2 ⟨rfl,hi,F2,es,e2,r2,i2,hl,n2⟩;have ly:=i2.length;refine⟨by omega,?_⟩;obtain⟨w1,w2⟩:=wk i F2 H2 e2.ff e2.fh;by_cases hlt:i<ds.length
  ·obtain⟨go,yl⟩:=w1 hlt;refine .inr ⟨go,fun x H3 y=>?_⟩;refine zc2c (yl x H3 y) fun d F3 hd e3 i3=>?_;have n3:=mapD_drop hd n2;have r3:=r2.step e3;refine g8 (K:=K) r3 i3 (Res.need_bind n3) fun sd' σ' n4 hb r4=>?_;obtain⟨b1,b2⟩:=sS hn hb;refine⟨B,F3,sd',r4,n4.mono (fun y n5 v F4 H4 e4 i4=>?_) fun _ _ q=>q.ext e3⟩;refine⟨ds.length-(i+1),by omega,rfl,hlt,F4,es++[y],(e2.trans e3).trans e4,(r4.step e4).forget b1 b2,(zn.same (e3.ff.trans e4.ff) _ _ i2).snoc i4,by rw[List.length_append,hl];rfl,?_⟩;refine n5.mono (fun rs q=>?_) fun _ _ q=>q.ext (e3.trans e4);rw[List.append_assoc];exact q.ext (e3.trans e4)
  ·have he:i=ds.length:=by omega
   subst he;refine .inl ⟨w2 (Zf _),fun D hD=>?_⟩;rw[List.drop_length] at n2;have q:OkN K F2 H2 Q (.lst (es++[])):=n2;rw[Zz] at q;exact q D F2 _ (.keep r2.ext.fh hD _) hD (zE r2.ext.fh hD) ⟨ys,zo,i2⟩
 ·exact n1.elim
theorem uG {tg iter elt:Expr}{scope:Scope}{t:Tg}{fi:FA}{f:FE}(N:List Str)(cap:List (Option Nat))(hc:X.calm=true)(okB:yH scope X.env N X.N cap=true)(hi:QI X E tg iter fi)
 (hg:∀cl C s H ex,QG (zx X scope N cl C s H ex) tg t) (he:∀cl C s H ex,QE (zx X scope N cl C s H ex) E elt f) (hs:autoParam (∀x,foldedSetIterable iter X.env x=pure x) zaw._auto_1) :
 QN X E (.ListComp elt [⟨tg,iter,[],0⟩] scope pos) (wC cap fi t f):=PE.weak (pe_comp (g:=gT t X.K) (te:=tD X.K E f) N cap hc okB hi hg he hs) fun _ _ _ h=>nQ h
noncomputable def wI (n:Nat)(ds:List D):SD:=ds.map (fun d=>some (.val d))++List.replicate (n-ds.length) none
def ur (n ar:Nat)(g:FS)(ds:List D):Res D:=if ds.length=ar then(g (wI n ds)).bind fun o=>match o with
 | .ret d=>.ok d
 | .next _=>.ok .non
 |_=>.no else .no
def si (n ar:Nat)(g:FS)(ds:List D):Res D:=if ds.length=ar then(g (wI n ds)).bind fun o=>match o with
 | .ret d=>.ok d
 |_=>.no else .no
theorem RS.start {K:W.Frag}{F H:Hp}{N:List Str}{ds:List D}{vs:List V}(s:yw F H)(h:zn K F ds vs):RS K ⟨F,H,fun _=>none⟩ F H (wI N.length ds) (start N vs):=by
 have key:∀{i:Nat} {x:SV},(wI N.length ds)[i]? = some (some x)->∃d,ds[i]? = some d/\x=.val d:=fun {i x} q=>by
  unfold wI at q;by_cases hi:i<ds.length
  ·rw[List.getElem?_append_left (by rw[Zql];exact hi),Zv,Zqg hi] at q;exact⟨ds[i],Zqg hi,(Zqi (Zqi q)).symm⟩
  ·rw[List.getElem?_append_right (by rw[Zql];omega),List.getElem?_replicate] at q
   split at q<;>(first|exact zqn q|cases q)
 refine⟨.refl s,by unfold wI L2.start;simp[h.length],fun {i d} q=>?_,fun {i p d} q=>?_,fun {i j p p' d e l} _ q=>?_⟩
 ·refine zc1b (key q) fun d' h1 h2=>?_;cases h2;refine zc1b (h.get h1) fun v v1 v2=>?_;refine⟨v,?_,v2⟩;unfold L2.start;rw[List.getElem?_append_left (by rw[Zql];exact(List.getElem?_eq_some_iff.mp v1).1),Zv,v1];rfl
 ·refine zc1b (key q) fun _ _ h2=>?_;cases h2
 ·refine zc1b (key q) fun _ _ h2=>?_;cases h2
section
variable {P:Program}{w:World}{K:W.Frag}{mg:Str->Option Value}{base:Heap}{x qual:Str}{f:Addr}{fd:FuncData}{N ps:List Str}{k:Nat}
theorem pX {g:FS}(F:Fun K x qual st f fd)(S:FnScope N ps (zj st))
 (hb:∀(cdv:Value) (A:Around) (outer:List Env) (s:Shared) (H:Hp) (E:XK),Room k (A.deeper (envOfC qual (zj st) s.heap.objs.size f cdv))->QSs (sR CX0 P w K mg base N qual (zj st) f cdv A outer s H E).nox E0 false (xf st) g) :
 FnOk P w K mg base CX0 (k+1) f fd ps (SpD K (ur N.length ps.length g)):=by
 refine F.ok S (fun vs H Q E ⟨F,ds,_,h,n⟩=>?_) fun cdv A outer s H vs Q E hr ⟨F,ds,hs,h,n⟩=>⟨_,hb cdv A outer s H E hr,?_⟩
 ·unfold ur at n
  split at n
  ·rw[h.length];assumption
  ·exact n.elim
 ·unfold ur at n
  split at n
  ·refine⟨⟨F,H,fun _=>none⟩,F,_,RS.start hs h,(Res.need_bind n).mono (fun o n1=>?_) fun _ _ q=>q⟩;cases o with
   |next sd=>exact fun σ F' H' _ r=>n1 .non F' H' r.ext (IsD.non_iff.mpr rfl)
   |ret d=>exact n1
   |brk sd=>exact n1.elim
   |cont sd=>exact n1.elim
  ·exact n.elim
theorem iD {g:FS}(F:Fun K x qual st f fd)(S:FnScope N ps (zj st))
 (hb:∀(cdv:Value) (A:Around) (outer:List Env) (s:Shared) (H:Hp) (E:XK),Room k (A.deeper (envOfC qual (zj st) s.heap.objs.size f cdv))->QSs (sR CX0 P w K mg base N qual (zj st) f cdv A outer s H E).nox E0 true (xf st) g) :
 FnOk P w K mg base CX0 (k+1) f fd ps (SpN K (si N.length ps.length g)):=by
 refine F.ok S (fun vs H Q E ⟨F,ds,_,h,n⟩=>?_) fun cdv A outer s H vs Q E hr ⟨F,ds,hs,h,n⟩=>⟨_,hb cdv A outer s H E hr,?_⟩
 ·unfold si at n
  split at n
  ·rw[h.length];assumption
  ·exact n.elim
 ·unfold si at n
  split at n
  ·refine⟨⟨F,H,fun _=>none⟩,F,_,RS.start hs h,(Res.need_bind n).mono (fun o n1=>?_) fun _ _ q=>q⟩;cases o with
   |next sd=>exact n1.elim
   |ret d=>exact n1
   |brk sd=>exact n1.elim
   |cont sd=>exact n1.elim
  ·exact n.elim
end
end
noncomputable def prD (p:Int×Int):D:=.tup [.int p.1,.int p.2]
def rwD (r:List (Int×Int)):D:=.tup (r.map prD)
noncomputable def qY:D->Option (Int×Int)
 | .tup [.int i,.int j]=>some (i,j)
 |_=>none
def xo {α : Type}(f:D->Option α):List D->Option (List α)
 | []=>some []
 |d::ds=>(f d).bind fun x=>(xo f ds).map fun xs=>x::xs
def v6:D->Option (List (Int×Int))
 | .tup ds=>xo qY ds
 |_=>none
noncomputable def mB:D->Option Int
 | .int i=>some i
 |_=>none
theorem vx {α β : Type}{f:D->Option α}{g:β -> D}{k:β -> α}(h:∀x,f (g x)=some (k x)):∀l:List β,xo f (l.map g)=some (l.map k)
 | []=>rfl
 |x::r=>by rw[Zl];unfold xo;rw[h,vx h r];rfl
theorem vt {α : Type}{f:D->Option α}{g:α -> D}(h:∀d x,f d=some x->d=g x):∀{ds:List D} {l:List α},xo f ds=some l->ds=l.map g
 | [],l,e=>by cases e;rfl
 |d::ds,l,e=>by
  unfold xo at e;cases h1:f d with
  |none=>rw[h1] at e;exact zqn e
  |some x =>
   cases h2:xo f ds with
   |none=>rw[h1,h2] at e;exact zqn e
   |some xs =>
    rw[h1,h2] at e;obtain rfl:=Zqi e;rw[Zl,<- h d x h1,<- vt h h2]
theorem pairOf_pr (p:Int×Int):qY (prD p)=some p:=rfl
theorem pairOf_inv {d:D}{p:Int×Int}(h:qY d=some p):d=prD p:=by
 cases d with
 |tup ds =>
  cases ds with
  |nil=>exact zqn h
  |cons x ds =>
   cases x with
   |int i =>
    cases ds with
    |nil=>exact zqn h
    |cons y ds =>
     cases y with
     |int j =>
      cases ds with
      |nil=>obtain rfl:=Zqi h;rfl
      |cons _ _=>exact zqn h
     |_=>exact zqn h
   |_=>exact zqn h
 |_=>exact zqn h
theorem ux (r:List (Int×Int)):v6 (rwD r)=some r:=by
 show xo qY (r.map prD)=some r;rw[vx (k:=id) pairOf_pr,List.map_id]
theorem qC {d:D}{r:List (Int×Int)}(h:v6 d=some r):d=rwD r:=by
 cases d with
 |tup ds=>unfold rwD;rw[<- vt (fun _ _=>pairOf_inv) (show xo qY ds=some r from h)]
 |_=>exact zqn h
theorem intOf_inv {d:D}{i:Int}(h:mB d=some i):d=.int i:=by
 cases d with
 |int j=>cases h;rfl
 |_=>exact zqn h
theorem allInt_inv {ds:List D}{l:List Int}(h:xo mB ds=some l):ds=l.map D.int:=vt (fun _ _=>intOf_inv) h
theorem allInt_map (l:List Int):xo mB (l.map D.int)=some l:=by
 have h:=vx (f:=mB) (g:=D.int) (k:=fun i:Int=>i) (fun _=>rfl) l;rw[h,List.map_id']
theorem xE (l:List (List (Int×Int))):xo v6 (l.map rwD)=some l:=by rw[vx (k:=id) ux,List.map_id]
theorem vD {ds:List D}{l:List (List (Int×Int))}(h:xo v6 ds=some l):ds=l.map rwD:=vt (fun _ _=>qC) h
section
variable {K:W.Frag}{H:Hp}
theorem iA {p:Int×Int}{v:V}:IsD K H (prD p) v↔Is H (pD p) v:=by
 rw[rB];unfold prD;rw[IsD.tup_iff];constructor
 ·rintro⟨a,xs,rfl,h1,h2⟩;have:xs=[p.1,p.2].map V.int:=zn.ints_iff (ns:=[p.1,p.2]) h2;subst this;exact⟨a,rfl,h1⟩
 ·rintro⟨a,rfl,h1⟩;exact⟨a,_,rfl,h1,zn.ints [p.1,p.2]⟩
theorem tR:∀{r:List (Int×Int)} {xs:List V},zn K H (r.map prD) xs↔zp H (r.map pD) xs
 | [],xs=>by rw[List.map_nil,List.map_nil,zn.nil_iff];unfold zp;exact Iff.rfl
 |p::r,xs=>by
  rw[Zl,Zl,zn.cons_iff];constructor
  ·rintro⟨x,w,rfl,h1,h2⟩;unfold zp;exact⟨x,w,rfl,iA.mp h1,tR.mp h2⟩
  ·intro h;unfold zp at h;refine zc2c h fun x w e h1 h2=>?_;exact⟨x,w,e,iA.mpr h1,tR.mpr h2⟩
theorem gj {r:List (Int×Int)}{v:V}:IsD K H (rwD r) v↔Is H (rD r) v:=by
 unfold rwD rD;rw[IsD.tup_iff,Is.tuple_iff];constructor
 ·rintro⟨a,xs,e,h1,h2⟩;exact⟨a,xs,e,h1,tR.mp h2⟩
 ·rintro⟨a,xs,e,h1,h2⟩;exact⟨a,xs,e,h1,tR.mpr h2⟩
theorem wH:∀{r:List (List (Int×Int))} {xs:List V},zn K H (r.map rwD) xs↔zp H (r.map rD) xs
 | [],xs=>by rw[List.map_nil,List.map_nil,zn.nil_iff];unfold zp;exact Iff.rfl
 |p::r,xs=>by
  rw[Zl,Zl,zn.cons_iff];constructor
  ·rintro⟨x,w,rfl,h1,h2⟩;unfold zp;exact⟨x,w,rfl,gj.mp h1,wH.mp h2⟩
  ·intro h;unfold zp at h;refine zc2c h fun x w e h1 h2=>?_;exact⟨x,w,e,gj.mpr h1,wH.mpr h2⟩
end
section
variable {X:Cx}{E:XK}
noncomputable def gI (f:Int->Int->D):D->D->Option D
 | .int i,.int j=>some (f i j)
 |_,_=>none
noncomputable def gIc (c:Int->Int->Bool)(f:Int->Int->D):D->D->Option D
 | .int i,.int j=>if c i j then some (f i j) else none
 |_,_=>none
theorem gA {h:Value->Value->Sem Value}{f:Int->Int->D}{g:Int->Int->V}(o:OpR X h (rI0 g))(hg:∀i j F,IsD X.K F (f i j) (g i j)):OpD X h (gI f):=OpR.weak o fun x y H Q zh=>by
 obtain⟨F,d,e,z,sF,id,ie,hz,q⟩:=zh;cases d with
 |int i =>
  cases e with
  |int j=>cases hz;exact⟨i,j,IsD.int_iff.mp id,IsD.int_iff.mp ie,q _ F H (.refl sF) (hg i j F)⟩
  |_=>exact zqn hz
 |_=>exact zqn hz
theorem ng {h:Value->Value->Sem Value}{C:Int->Int->Prop}{c:Int->Int->Bool}{f:Int->Int->D}{g:Int->Int->V}(o:OpR X h (rI C g))(hc:∀i j,c i j=true->C i j)(hg:∀i j F,IsD X.K F (f i j) (g i j)):OpD X h (gIc c f):=OpR.weak o fun x y H Q zh=>by
 obtain⟨F,d,e,z,sF,id,ie,hz,q⟩:=zh;cases d with
 |int i =>
  cases e with
  |int j =>
   have hz:(if c i j then some (f i j) else none)=some z:=hz
   split at hz
   ·rename_i hcc;cases hz;exact⟨i,j,IsD.int_iff.mp id,IsD.int_iff.mp ie,hc i j hcc,q _ F H (.refl sF) (hg i j F)⟩
   ·exact zqn hz
  |_=>exact zqn hz
 |_=>exact zqn hz
theorem isI (i:Int)(F:Hp):IsD X.K F (.int i) (.int i):=IsD.int_iff.mpr rfl
theorem isB (b:Bool)(F:Hp):IsD X.K F (.bl b) (.bl b):=IsD.bl_iff.mpr rfl
noncomputable def gO:=gI fun i j=>.int (i-j)
noncomputable def fS:Nat:=10715086071862673209484250490600018105614048117055336074437503883703510511249361224931983788156958581275946729175531468251871452856923140435984577574698574803934567774824230985421074605062371141877954182153046474983581941267398767559165543946077062914571196477686542167660429831652624386837205668069376
def uS (i j:Int):Bool:=(Nat.blt i.natAbs 18446744073709551616||Nat.blt j.natAbs 18446744073709551616)||(Nat.blt i.natAbs fS&&Nat.blt j.natAbs fS)
theorem nE {k:Int}(h:k.natAbs<fS):Builtin.Int.intBits k<=2 ^ 20:=by
 have e:fS<=2 ^ 1000:=Nat.le_of_ble_eq_true rfl;have hn:k.natAbs<2 ^ 1000:=Zg h e;unfold Builtin.Int.intBits
 split
 ·exact Nat.zero_le _
 ·have l:k.natAbs.log2<1000:=by
   rcases Nat.eq_zero_or_pos k.natAbs with h0|hp
   ·rw[h0];decide
   ·exact(Nat.log2_lt (Nat.ne_of_gt hp)).mpr hn
  have e:(2:Nat) ^ 20=1048576:=by decide
  omega
theorem mulOk_ok {i j:Int}(h:uS i j=true):IntMulOk i j:=by
 unfold uS at h;rw[Bool.or_eq_true,Bool.or_eq_true,Bool.and_eq_true,Nat.blt_eq,Nat.blt_eq,Nat.blt_eq,Nat.blt_eq] at h;rcases h with (h|h)|⟨h1,h2⟩
 ·exact .of_left (intBits_le_64 (by omega) (by omega))
 ·exact .of_right (intBits_le_64 (by omega) (by omega))
 ·exact .of_bits (nE h1) (nE h2)
theorem op_mulW:OpR X (binaryOp .Mult) (rI (fun i j=>uS i j=true) fun i j=>.int (i*j)):=opI fun _ _ _ _ _ _ _ hc q=>mul_int q (mulOk_ok hc)
def fM:=gIc uS fun i j=>.int (i*j)
def uV:=gIc (fun _ j=>Nat.blt 0 j.toNat&&Nat.blt j.toNat 1073741824) fun i j=>.int (i / j)
def tW:=gIc (fun _ j=>Nat.blt 0 j.toNat) fun i j=>.int (i % j)
def eT:=gIc (fun i j=>Nat.ble (-j).toNat 0&&(Nat.ble j.toNat 1000000&&Nat.blt i.natAbs 18446744073709551616)) fun i j=>.int (i ^ j.toNat)
noncomputable def gLt:=gI fun i j=>.bl (decide (i<j))
noncomputable def gGt:=gI fun i j=>.bl (decide (j<i))
theorem fu:OpD X (binaryOp .Sub) gO:=gA op_sub fun _ _ F=>isI _ F
theorem gk:OpD X (binaryOp .Mult) fM:=ng op_mulW (fun i j h=>h) fun _ _ F=>isI _ F
theorem ul:OpD X (binaryOp .FloorDiv) uV:=ng op_fdiv (fun i j h=>by rw[Bool.and_eq_true,Nat.blt_eq,Nat.blt_eq] at h;unfold dh;omega) fun _ _ F=>isI _ F
theorem xV:OpD X (binaryOp .Mod) tW:=ng op_mod (fun i j h=>by rw[Nat.blt_eq] at h;omega) fun _ _ F=>isI _ F
theorem o_pow:OpD X (binaryOp .Pow) eT:=ng op_pow (fun i j h=>by rw[Bool.and_eq_true,Bool.and_eq_true,Nat.ble_eq,Nat.ble_eq,Nat.blt_eq] at h;unfold db;omega) fun _ _ F=>isI _ F
theorem o_lt:OpD X (compareOp .Lt) gLt:=gA op_lt fun _ _ F=>isB _ F
theorem iF:OpD X (compareOp .Gt) gGt:=gA op_gt fun _ _ F=>isB _ F
noncomputable def i9:D->Option D
 | .int i=>some (.int (-i))
 |_=>none
theorem lB:UnR X (unaryOp .USub) (rD1 X.K i9):=UnR.weak un_neg fun x H Q zh=>by
 obtain⟨F,d,z,sF,id,hz,q⟩:=zh;cases d with
 |int i=>cases hz;exact⟨i,IsD.int_iff.mp id,q _ F H (.refl sF) (isI _ F)⟩
 |_=>exact zqn hz
noncomputable def wU:D->D->Option D
 | .int i,.int j=>some (.int (i+j))
 | .str x,.str y=>if x.length+y.length<=sizeLine then some (.str (x++y)) else none
 | .tup a,.tup b=>if a ≠ []/\b ≠ []/\a.length+b.length<=sizeLine then some (.tup (a++b)) else none
 | .lst a,.lst b=>if a.length+b.length<=sizeLine then some (.lst (a++b)) else none
 |_,_=>none
def rCat' (K:W.Frag):R2:=fun x y H Q=>∃l b xs zs,x=.ref l/\y=.ref b/\mO K H l xs/\mO K H b zs/\xs.length+zs.length<=sizeLine/\∀p,H p=none->Q (.ref p) (upd H p (.lst (xs++zs)))
theorem lO:OpR X (binaryOp .Add) (rCat' X.K):=by
 intro pins s σ H x y v u Q I rx ry h;refine zc4a h fun l b xs zs zz=>yT zz fun zr4 zr5 hl hb zz=>we zz fun hz q=>?_;subst zr4;subst zr5;obtain rfl:v=Value.ref l:=rx;obtain rfl:u=Value.ref b:=ry;refine we (hl.ok I.hok) fun _ zz=>zc2b zz fun its n r1 e1=>?_;refine we (hb.ok I.hok) fun _ zz=>zc2b zz fun its2 n2 r2 e2=>?_;have hl1:=r1.length;have hl2:=r2.length;refine PySem.P.add_list e1 e2 ?_ (by rw[Zm,Zm];omega);have ea:its.toArray++its2.toArray=(its++its2).toArray:=by simp
 rw[ea];exact⟨.ref _,_,I.lnew (t':=s.toks) (r1.append r2) (by rw[List.length_append];omega),rfl,q _ I.fresh⟩
theorem wd:OpD X (binaryOp .Add) wU:=by
 rintro pins s σ H x y v u Q I rx ry ⟨F,d,e,z,sF,id,ie,hz,q⟩;cases d with
 |int i =>
  cases e with
  |int j=>cases hz;exact op_add pins s σ H x y v u Q I rx ry ⟨i,j,IsD.int_iff.mp id,IsD.int_iff.mp ie,q _ F H (.refl sF) (isI _ F)⟩
  |_=>exact zqn hz
 |str a =>
  cases e with
  |str b =>
   have hz:(if a.length+b.length<=sizeLine then some (D.str (a++b)) else none)=some z:=hz
   split at hz
   ·rename_i hl;cases hz;exact op_add_str pins s σ H x y v u Q I rx ry ⟨a,b,IsD.str_iff.mp id,IsD.str_iff.mp ie,hl,q _ F H (.refl sF) (IsD.str_iff.mpr rfl)⟩
   ·exact zqn hz
  |_=>exact zqn hz
 |tup a =>
  cases e with
  |tup b =>
   have hz:(if a ≠ []/\b ≠ []/\a.length+b.length<=sizeLine then some (D.tup (a++b)) else none)=some z:=hz
   split at hz
   ·rename_i hl;obtain rfl:=Zqi hz;rw[IsD.tup_iff] at id ie;obtain⟨la,xs,rfl,h1,h2⟩:=id;obtain⟨lb,ys,rfl,h3,h4⟩:=ie;have l1:=h2.length;have l2:=h4.length;have x0:xs ≠ []:=fun z=>hl.1 (List.length_eq_zero_iff.mp (by rw[<- l1,z];rfl));have y0:ys ≠ []:=fun z=>hl.2.1 (List.length_eq_zero_iff.mp (by rw[<- l2,z];rfl));refine op_catT pins s σ H _ _ v u Q I rx ry ⟨la,lb,xs,ys,rfl,rfl,(h1.same sF).sq,(h3.same sF).sq,x0,by have:=hl.2.2;omega,fun z=>Zn z y0,fun _ p hp=>?_⟩;have ea:=Ext.alloc sF hp (.tup (xs++ys));exact q _ _ _ ea (IsD.tup_iff.mpr ⟨p,_,rfl,.of zo,zn.same ea.ff _ _ (h2.append h4)⟩)
   ·exact zqn hz
  |_=>exact zqn hz
 |lst a =>
  cases e with
  |lst b =>
   have hz:(if a.length+b.length<=sizeLine then some (D.lst (a++b)) else none)=some z:=hz
   split at hz
   ·rename_i hl;obtain rfl:=Zqi hz;rw[IsD.lst_iff] at id ie;obtain⟨la,xs,rfl,h1,h2⟩:=id;obtain⟨lb,ys,rfl,h3,h4⟩:=ie;have l1:=h2.length;have l2:=h4.length;refine lO pins s σ H _ _ v u Q I rx ry ⟨la,lb,xs,ys,rfl,rfl,h1.same sF,h3.same sF,by omega,fun p hp=>?_⟩;have ea:=Ext.alloc sF hp (.lst (xs++ys));exact q _ _ _ ea (IsD.lst_iff.mpr ⟨p,_,rfl,.of zo,zn.same ea.ff _ _ (h2.append h4)⟩)
   ·exact zqn hz
  |_=>exact zqn hz
 |_=>exact zqn hz
mutual
noncomputable def pY:D->PyData
 | .non=>.none
 | .bl b=>.bool b
 | .int i=>.int i
 | .str x=>.str x
 | .tup ds=>.tuple (sj ds)
 | .lst ds=>.list (sj ds)
 | .ty _=>.none
 | .scr _=>.none
 | .dct _ _=>.none
 | .ins _ _ _=>.none
 | .exc _=>.none
 | .ucl _=>.none
 | .adr _=>.none
 | .dcf _ _=>.none
noncomputable def sj:List D->List PyData
 | []=>[]
 |d::ds=>pY d::sj ds
end
noncomputable def plN:Nat->D->Bool
 | 0,_=>false
 |_+1,.int _=>true
 |_+1,.str x=>PyData.strOk x
 |_+1,.non=>true
 |n+1,.tup ds=>ds.all (plN n)
 |n+1,.lst ds=>ds.all (plN n)
 |_+1,_=>false
theorem sU:∀(n:Nat) (d:D),plN n d=true->(pY d).canLay0=true/\(pY d).depth<=n:=fun n=>by
 induction n with
 |zero=>intro _ h;exact zqb h
 |succ n ihn =>
  intro d h;have all:∀ds:List D,ds.all (plN n)=true->PyData.canLayAll0 (sj ds)=true/\PyData.depthAll (sj ds)<=n:=by
   intro ds
   induction ds with
   |nil=>intro _;exact⟨rfl,Nat.zero_le _⟩
   |cons d ds ih =>
    intro h;rw[List.all_cons,Bool.and_eq_true] at h;obtain⟨h1,h2⟩:=ihn d h.1;obtain⟨h3,h4⟩:=ih h.2;exact⟨Bool.and_eq_true_iff.mpr ⟨h1,h3⟩,Nat.max_le.mpr ⟨h2,h4⟩⟩
  cases d with
  |int i=>exact⟨rfl,Nat.zero_le _⟩
  |str i=>exact⟨h,Nat.zero_le _⟩
  |non=>exact⟨rfl,Nat.zero_le _⟩
  |tup ds=>exact⟨(all ds h).1,Nat.succ_le_succ (all ds h).2⟩
  |lst ds=>exact⟨(all ds h).1,Nat.succ_le_succ (all ds h).2⟩
  |_=>exact zqb h
theorem D.ne {d e:D}(h:(d.ctorIdx == e.ctorIdx)=false):¬d=e:=fun q=>by
 rw[q,beq_self_eq_true] at h;cases  h
theorem lY:∀(n:Nat) (d e:D),plN n d=true->plN n e=true->(PyData.eqv (pY d) (pY e)=true↔d=e):=fun n=>by
 induction n with
 |zero=>intro _ _ h;exact zqb h
 |succ n ihn =>
  intro d e h h';have all:∀ds es:List D,ds.all (plN n)=true->es.all (plN n)=true->(PyData.eqvAll (sj ds) (sj es)=true↔ds=es):=by
   intro ds
   induction ds with
   |nil =>
    intro es _ _;cases es with
    |nil=>exact iff_of_true rfl rfl
    |cons e es=>exact Zs Zj (fun q=>List.cons_ne_nil _ _ q.symm)
   |cons d ds ih =>
    intro es h1 h2;cases es with
    |nil=>exact Zs Zj (List.cons_ne_nil _ _)
    |cons e es =>
     rw[List.all_cons,Bool.and_eq_true] at h1 h2;show(PyData.eqv (pY d) (pY e)&&PyData.eqvAll (sj ds) (sj es))=true↔_;rw[Bool.and_eq_true_iff,ihn d e h1.1 h2.1,ih es h1.2 h2.2,List.cons.injEq]
  cases d with
  |int i =>
   cases e with
   |int j=>exact⟨fun q=>Zt D.int (beq_iff_eq.mp q),fun q=>beq_iff_eq.mpr (D.int.inj q)⟩
   |str _=>exact Zs Zj (D.ne rfl)
   |non=>exact Zs Zj (D.ne rfl)
   |tup _=>exact Zs Zj (D.ne rfl)
   |lst _=>exact Zs Zj (D.ne rfl)
   |_=>exact zqb h'
  |str i =>
   cases e with
   |str j=>exact⟨fun q=>Zt D.str (of_decide_eq_true q),fun q=>Zp (D.str.inj q)⟩
   |int _=>exact Zs Zj (D.ne rfl)
   |non=>exact Zs Zj (D.ne rfl)
   |tup _=>exact Zs Zj (D.ne rfl)
   |lst _=>exact Zs Zj (D.ne rfl)
   |_=>exact zqb h'
  |non =>
   cases e with
   |non=>exact iff_of_true rfl rfl
   |int _=>exact Zs Zj (D.ne rfl)
   |str _=>exact Zs Zj (D.ne rfl)
   |tup _=>exact Zs Zj (D.ne rfl)
   |lst _=>exact Zs Zj (D.ne rfl)
   |_=>exact zqb h'
  |tup ds =>
   cases e with
   |tup es=>exact(all ds es h h').trans ⟨fun q=>Zt D.tup q,fun q=>D.tup.inj q⟩
   |int _=>exact Zs Zj (D.ne rfl)
   |str _=>exact Zs Zj (D.ne rfl)
   |non=>exact Zs Zj (D.ne rfl)
   |lst _=>exact Zs Zj (D.ne rfl)
   |_=>exact zqb h'
  |lst ds =>
   cases e with
   |lst es=>exact(all ds es h h').trans ⟨fun q=>Zt D.lst q,fun q=>D.lst.inj q⟩
   |int _=>exact Zs Zj (D.ne rfl)
   |str _=>exact Zs Zj (D.ne rfl)
   |non=>exact Zs Zj (D.ne rfl)
   |tup _=>exact Zs Zj (D.ne rfl)
   |_=>exact zqb h'
  |_=>exact zqb h
theorem xM {P:Program}{w:World}{K:W.Frag}{H:Hp}{h:Heap}(ok:HOk P w H h):∀(n:Nat) (d:D) (v:V) (u:Value),plN n d=true->IsD K H d v->yo v u->∃as,Reads h u (pY d) as
 | 0,_,_,_,p,_,_=>by exact zqb p
 |n+1,d,v,u,p,q,r=>by
  have all:∀(ds:List D) (xs:List V) (us:List Value),ds.all (plN n)=true->zn K H ds xs->yq xs us->∃as,ReadsAll h us (sj ds) as:=by
   intro ds
   induction ds with
   |nil =>
    intro xs us _ h1 h2;rw[zn.nil_iff] at h1;subst h1;cases h2;exact⟨_,.nil⟩
   |cons d ds ih =>
    intro xs us hp h1 h2;rw[List.all_cons,Bool.and_eq_true] at hp;rw[zn.cons_iff] at h1;refine zc2c h1 fun x rs zr2 h3 h4=>?_;subst zr2;cases h2 with
    |cons r1 r2 =>
     obtain⟨as,ra⟩:=xM ok n d x _ hp.1 h3 r1;obtain⟨bs,rb⟩:=ih rs _ hp.2 h4 r2;exact⟨_,.cons ra rb⟩
  cases d with
  |int i =>
   rw[IsD.int_iff] at q;subst q;obtain⟨t,rfl⟩:=(show ∃t,u=Value.int i t from r);exact⟨_,.int i t⟩
  |str x =>
   rw[IsD.str_iff] at q;subst q;obtain⟨t,rfl⟩:=(show ∃t,u=Value.str x t from r);exact⟨_,.str x t⟩
  |non =>
   rw[IsD.non_iff] at q;subst q;obtain rfl:u=Value.none:=r;exact⟨_,.none⟩
  |tup ds =>
   rw[IsD.tup_iff] at q;refine zc2c q fun a xs zr2 h2 h3=>?_;subst zr2;obtain rfl:u=Value.ref a:=r;refine we ((show yj P w H h a (.tup xs) from ok a _ h2)) fun _ zz=>zc1b zz fun its rv zz=>zc1c zz fun o e c zz=>zc1a zz fun n' dt=>?_;obtain⟨as,ra⟩:=all ds xs its p h3 rv;exact⟨_,.tuple e c dt (by simpa using ra)⟩
  |lst ds =>
   rw[IsD.lst_iff] at q;refine zc2c q fun a xs zr2 h2 h3=>?_;subst zr2;obtain rfl:u=Value.ref a:=r;refine we (h2.ok ok) fun _ zz=>zc2b zz fun its n' rv e=>?_;obtain⟨as,ra⟩:=all ds xs its p h3 rv;exact⟨_,.list e rfl rfl (by simpa using ra)⟩
  |_=>exact zqb p
noncomputable section
open Classical
noncomputable def y7 (d e:D):Bool:=decide (d=e)
theorem zM (d:D):y7 d d=true:=Zp rfl
theorem t9 {d e:D}:y7 d e=true↔d=e:=decide_eq_true_iff
theorem wb {d e:D}:y7 d e=false↔d≠e:=decide_eq_false_iff_not
def gEq:D->D->Option D
 | .bl a,.bl b=>some (.bl (a == b))
 |d,e=>if plN 12 d&&plN 12 e then some (.bl (y7 d e)) else none
def gNe:D->D->Option D
 | .bl a,.bl b=>some (.bl (a != b))
 |d,e=>if plN 12 d&&plN 12 e then some (.bl (!y7 d e)) else none
end
theorem wj {d e:D}(h1:plN 12 d=true)(h2:plN 12 e=true):gEq d e=some (.bl (y7 d e)):=by
 unfold gEq
 split
 ·exact zqb h1
 ·rw[h1,h2];rfl
theorem uO {d e:D}(h1:plN 12 d=true)(h2:plN 12 e=true):gNe d e=some (.bl (!y7 d e)):=by
 unfold gNe
 split
 ·exact zqb h1
 ·rw[h1,h2];rfl
theorem gEq_int (i j:Int):gEq (.int i) (.int j)=some (.bl (decide (i=j))):=by
 rw[wj rfl rfl]
 congr 2
 by_cases h:i=j
 ·rw[Zp h,h,zM]
 ·rw[Zo h,wb.mpr fun z=>h (by injection z)]
theorem gNe_int (i j:Int):gNe (.int i) (.int j)=some (.bl (!decide (i=j))):=by
 rw[uO rfl rfl]
 congr 3
 by_cases h:i=j
 ·rw[Zp h,h,zM]
 ·rw[Zo h,wb.mpr fun z=>h (by injection z)]
theorem n9 (hu:X.A.units+64<cLine):OpD X (compareOp .Eq) gEq:=by
 rintro pins s σ H x y v u Q I rx ry ⟨F,d,e,z,sF,id,ie,hz,q⟩;unfold gEq at hz
 split at hz
 ·rename_i a b;obtain rfl:=Zqi hz;refine op_eq pins s σ H x y v u Q I rx ry ⟨?_,?_⟩
  ·rw[IsD.bl_iff.mp id,IsD.bl_iff.mp ie];rfl
  ·rw[IsD.bl_iff.mp id,IsD.bl_iff.mp ie];refine q _ F H (.refl sF) ?_;rw[IsD.bl_iff];cases a<;>cases b<;>rfl
 ·split at hz
  ·rename_i hp;rw[Bool.and_eq_true] at hp;obtain rfl:=Zqi hz;obtain⟨as,ra⟩:=xM I.hok 12 d x v hp.1 (IsD.same sF _ _ id) rx;obtain⟨bs,rb⟩:=xM I.hok 12 e y u hp.2 (IsD.same sF _ _ ie) ry;obtain⟨l1,z1⟩:=sU 12 d hp.1;obtain⟨l2,z2⟩:=sU 12 e hp.2;refine PySem.SeqAt.compareEq_reads ra rb l1 l2 (by omega) ?_;have hb:PyData.eqv (pY d) (pY e)=y7 d e:=Bool.eq_iff_iff.mpr ((lY 12 d e hp.1 hp.2).trans t9.symm);rw[hb];exact⟨.bl _,H,I,rfl,q _ F H (.refl sF) (isB _ F)⟩
  ·exact zqn hz
theorem gb (hu:X.A.units+64<cLine):OpD X (compareOp .NotEq) gNe:=by
 rintro pins s σ H x y v u Q I rx ry ⟨F,d,e,z,sF,id,ie,hz,q⟩;unfold gNe at hz
 split at hz
 ·rename_i a b;obtain rfl:=Zqi hz;refine op_ne pins s σ H x y v u Q I rx ry ⟨?_,?_⟩
  ·rw[IsD.bl_iff.mp id,IsD.bl_iff.mp ie];rfl
  ·rw[IsD.bl_iff.mp id,IsD.bl_iff.mp ie];refine q _ F H (.refl sF) ?_;rw[IsD.bl_iff];cases a<;>cases b<;>rfl
 ·split at hz
  ·rename_i hp;rw[Bool.and_eq_true] at hp;obtain rfl:=Zqi hz;obtain⟨as,ra⟩:=xM I.hok 12 d x v hp.1 (IsD.same sF _ _ id) rx;obtain⟨bs,rb⟩:=xM I.hok 12 e y u hp.2 (IsD.same sF _ _ ie) ry;obtain⟨l1,z1⟩:=sU 12 d hp.1;obtain⟨l2,z2⟩:=sU 12 e hp.2;refine PySem.SeqAt.compareNe_reads ra rb l1 l2 (by omega) ?_;have hb:PyData.eqv (pY d) (pY e)=y7 d e:=Bool.eq_iff_iff.mpr ((lY 12 d e hp.1 hp.2).trans t9.symm);rw[hb];exact⟨.bl _,H,I,rfl,q _ F H (.refl sF) (isB _ F)⟩
  ·exact zqn hz
end
theorem PE.or {X:Cx}{e:Expr}{t t':TE}(h:PE X e t)(h':PE X e t'):PE X e (fun σ H Q=>t σ H Q\/t' σ H Q):=fun pins s σ H Q I q=>q.elim (h pins s σ H Q I) (h' pins s σ H Q I)
theorem PT.or {X:Cx}{e:Expr}{t t':TT}(h:PT X e t)(h':PT X e t'):PT X e (fun σ H Q=>t σ H Q\/t' σ H Q):=fun pins s σ H Q I q=>q.elim (h pins s σ H Q I) (h' pins s σ H Q I)
noncomputable def wD:D->Option Key
 | .int i=>some (.inl i)
 | .str x=>some (.inr x)
 |_=>none
theorem wW {K:W.Frag}{H:Hp}{d:D}{k:Key}{v:V}(h:wD d=some k)(i:IsD K H d v):v=kV k:=by
 cases d with
 |int j=>cases h;exact IsD.int_iff.mp i
 |str x=>cases h;exact IsD.str_iff.mp i
 |_=>exact zqn h
noncomputable def ut:List Key->List D->Key->Option D
 |k::ks,d::ds,q=>if k=q then some d else ut ks ds q
 |_,_,_=>none
theorem valV_cons (k q:Key)(v:V)(r:List (Key×V)):sI ((k,v)::r) q=if k=q then some v else sI r q:=by
 unfold sI;rw[List.find?_cons];by_cases h:k=q
 ·rw[Zd h,Zp h];rfl
 ·rw[Ze h,Zo h]
theorem qq {k q:Key}{ks:List Key}{d:D}{ds:List D}:ut (k::ks) (d::ds) q=if k=q then some d else ut ks ds q:=rfl
theorem t8 {K:W.Frag}{H:Hp}(q:Key):∀{ks:List Key} {ds:List D} {xs:List V},ks.length=xs.length->zn K H ds xs ->
 (∀d,ut ks ds q=some d->∃x,sI (ks.zip xs) q=some x/\IsD K H d x)/\(ut ks ds q=none->sI (ks.zip xs) q=none)
 | [],ds,xs,hl,h=>by
  have:xs=[]:=List.length_eq_zero_iff.mp hl.symm;subst this;refine⟨fun d e=>?_,fun _=>rfl⟩;cases ds<;>exact zqn e
 |k::ks,[],xs,hl,h=>by
  rw[zn.nil_iff] at h;subst h;cases hl
 |k::ks,d::ds,xs,hl,h=>by
  rw[zn.cons_iff] at h;refine zc2c h fun x r zr2 h1 h2=>?_;subst zr2;have ih:=t8 q (ks:=ks) (Nat.succ.inj hl) h2;rw[List.zip_cons_cons,valV_cons];rw[qq];by_cases hk:k=q
  ·rw[Zd hk,Zd hk];exact⟨fun d' e=>by cases e;exact⟨x,rfl,h1⟩,fun e=>by cases e⟩
  ·rw[Ze hk,Ze hk];exact ih
noncomputable def gF:List Key->List D->Key->D->List D
 |k::ks,d::ds,q,v=>(if k=q then v else d)::gF ks ds q v
 |_,_,_,_=>[]
noncomputable def gJ:List Key->List V->Key->V->List V
 |k::ks,d::ds,q,v=>(if k=q then v else d)::gJ ks ds q v
 |_,_,_,_=>[]
theorem qo {k q:Key}{ks:List Key}{d v:D}{ds:List D}:gF (k::ks) (d::ds) q v=(if k=q then v else d)::gF ks ds q v:=rfl
theorem chgV_cons {k q:Key}{ks:List Key}{d v:V}{ds:List V}:gJ (k::ks) (d::ds) q v=(if k=q then v else d)::gJ ks ds q v:=rfl
theorem iC {K:W.Frag}{H:Hp}{q:Key}{d:D}{v:V}(hv:IsD K H d v):∀{ks:List Key} {ds:List D} {xs:List V},ks.length=xs.length->zn K H ds xs->zn K H (gF ks ds q d) (gJ ks xs q v)/\(gJ ks xs q v).length=ks.length /\
 (ks.zip xs).map (fun kv=>if kv.1=q then(kv.1,v) else kv)=ks.zip (gJ ks xs q v)
 | [],ds,xs,hl,h=>by
  have:xs=[]:=List.length_eq_zero_iff.mp hl.symm;subst this;refine⟨?_,rfl,rfl⟩;cases ds<;>exact .nil
 |k::ks,[],xs,hl,h=>by
  rw[zn.nil_iff] at h;subst h;cases hl
 |k::ks,d'::ds,xs,hl,h=>by
  rw[zn.cons_iff] at h;refine zc2c h fun x r zr2 h1 h2=>?_;subst zr2;refine xm (iC (q:=q) hv (ks:=ks) (Nat.succ.inj hl) h2) fun i1 i2 i3=>?_;rw[qo,chgV_cons];refine⟨zn.mk ?_ i1,by rw[Zu,i2];rfl,?_⟩
  ·by_cases hk:k=q
   ·rw[Zd hk,Zd hk];exact hv
   ·rw[Ze hk,Ze hk];exact h1
  ·rw[List.zip_cons_cons,Zl,i3,List.zip_cons_cons];by_cases hk:k=q
   ·rw[Zd hk,Zd hk]
   ·rw[Ze hk,Ze hk]
noncomputable def gE (q:Key)(ks:List Key):Bool:=ks.any fun k=>decide (k=q)
theorem kF (q:Key):∀{ks:List Key} {xs:List V},ks.length=xs.length->((ks.zip xs).any fun kv=>decide (kv.1=q))=gE q ks
 | [],xs,_=>rfl
 |k::ks,[],h=>by cases h
 |k::ks,x::xs,h=>by
  rw[List.zip_cons_cons,List.any_cons,kF q (Nat.succ.inj h)];rfl
def o6 (ks:List Key)(q:Key):List Key:=if gE q ks=true then ks else ks++[q]
def mP (ks:List Key)(ds:List D)(q:Key)(v:D):List D:=if gE q ks=true then gF ks ds q v else ds++[v]
theorem put_zip {K:W.Frag}{H:Hp}{q:Key}{d:D}{v:V}{ks:List Key}{ds:List D}{xs:List V}(hl:ks.length=xs.length)(h:zn K H ds xs)(hv:IsD K H d v) :
 ∃ys,re (ks.zip xs) q v=(o6 ks q).zip ys/\(o6 ks q).length=ys.length/\zn K H (mP ks ds q d) ys:=by
 unfold re o6 mP;rw[kF q hl];by_cases hm:gE q ks=true
 ·rw[Zd hm,Zd hm,Zd hm];refine xm (iC (q:=q) hv hl h) fun h1 h2 h3=>?_;exact⟨_,h3,h2.symm,h1⟩
 ·rw[Ze hm,Ze hm,Ze hm];exact⟨xs++[v],by rw[List.zip_append hl];rfl,by simp[hl],h.snoc hv⟩
section
variable {X:Cx}{E:XK}{m:Option Bool}{a b o i e:Expr}{fa fb fo fi fv:FE}{pos pos' apos cpos:Pos}
theorem kO {K:W.Frag}{H:Hp}{ds:List D}{xs:List V}{k:Int}{d:D}(h:zn K H ds xs)(e:atI ds k=some d):∃x,atI xs k=some x/\IsD K H d x:=by
 unfold atI at e ⊢;rw[h.length];cases hj:ixN ds.length k with
 |none=>rw[hj] at e;exact zqn e
 |some j =>
  rw[hj] at e;exact h.get e
def gIx:D->D->Option D
 | .lst ds,.int k=>atI ds k
 | .tup ds,.int k=>atI ds k
 | .scr ns,.int k=>(atI ns k).map .int
 | .str x,.int k=>if x.length<=sizeLine then(atI x.cps.toList k).map fun c=>.str ⟨#[c]⟩ else none
 | .dct ks ds,k=>(wD k).bind fun q=>ut ks ds q
 | .dcf ks ds,k=>(wD k).bind fun q=>ut ks ds q
 |_,_=>none
theorem jY {K:W.Frag}{H:Hp}{d:D}{ks:List Key}{ds:List D}{v:V}(hd:d=.dct ks ds\/d=.dcf ks ds)(h:IsD K H d v):∃a xs,v=.ref a/\Rd H a (.dK (ks.zip xs))/\ks.length=xs.length/\zn K H ds xs:=by
 rcases hd with rfl|rfl
 ·obtain⟨a,xs,h1,h2,h3⟩:=IsD.dct_iff.mp h;exact⟨a,xs,h1,.inl h2,h3⟩
 ·obtain⟨a,o,xs,h1,h2,h3⟩:=IsD.dcf_iff.mp h;exact⟨a,xs,h1,.inr ⟨o,h2⟩,h3⟩
theorem oN {H H':Hp}{a:Addr}{u:HO}(e:yw H H')(h:Rd H a u):Rd H' a u:=h.imp (fun q=>e _ _ q) (by rintro⟨o,q⟩;exact⟨o,e _ _ q⟩)
theorem mX {H:Hp}{a:Addr}{kvs:List (Key×V)}{k:Key}(e:Rd H a (.dK kvs)):oJ H a (kV k) (sI kvs k):=.inl ⟨kvs,k,e,rfl,rfl⟩
theorem ixd_seq:IxR X (rD2 X.K fun d e=>match d with
 | .dct _ _=>none
 | .dcf _ _=>none
 |d=>gIx d e):=IxR.weak ix_seq fun x y H Q ⟨F,d,e,z,sF,id,ie,hz,q⟩=>by
 cases d with
 |lst ds =>
  cases e with
  |int k =>
   rw[IsD.lst_iff] at id;refine zc2c id fun p xs zr2 h1 h2=>?_;subst zr2;refine zc1b (kO h2 (show atI ds k=some z from hz)) fun x hx i2=>?_;exact .inl ⟨p,xs,k,x,rfl,IsD.int_iff.mp ie,(h1.same sF).sq,hx,q _ F H (.refl sF) i2⟩
  |_=>exact zqn hz
 |tup ds =>
  cases e with
  |int k =>
   rw[IsD.tup_iff] at id;refine zc2c id fun p xs zr2 h1 h2=>?_;subst zr2;refine zc1b (kO h2 (show atI ds k=some z from hz)) fun x hx i2=>?_;exact .inr (.inl ⟨p,xs,k,x,rfl,IsD.int_iff.mp ie,(h1.same sF).sq,hx,q _ F H (.refl sF) i2⟩)
  |_=>exact zqn hz
 |scr ns =>
  cases e with
  |int k =>
   rw[IsD.scr_iff] at id;refine zc1b id fun p zr1 h1=>?_;subst zr1;refine zc1b (Option.map_eq_some_iff.mp (show(atI ns k).map D.int=some z from hz)) fun j hj hz=>?_;subst hz;refine .inl ⟨p,_,k,.int j,rfl,IsD.int_iff.mp ie,yw.seq sF h1,?_,q _ F H (.refl sF) (isI _ F)⟩;unfold atI at hj ⊢;rw[Zql];cases hx:ixN ns.length k with
   |none=>rw[hx] at hj;exact zqn hj
   |some i=>rw[hx] at hj;show(ns.map V.int)[i]? = _;rw[Zv,show ns[i]? = some j from hj];rfl
  |_=>exact zqn hz
 |str t =>
  cases e with
  |int k =>
   have hz:(if t.length<=sizeLine then(atI t.cps.toList k).map fun c=>D.str ⟨#[c]⟩ else none)=some z:=hz
   split at hz
   ·rename_i hl;cases hc:atI t.cps.toList k with
    |none=>rw[hc] at hz;exact zqn hz
    |some c =>
     rw[hc] at hz;obtain rfl:=Zqi hz;exact .inr (.inr ⟨t,k,c,IsD.str_iff.mp id,IsD.int_iff.mp ie,hl,hc,q _ F H (.refl sF) (IsD.str_iff.mpr rfl)⟩)
   ·exact zqn hz
  |_=>exact zqn hz
 |_=>exact zqn hz
theorem x4 (hu:X.A.units+1<cLine)(ha:QE X E a fa)(hb:QE X E b fb)(hs:oz b)(hs2:fT b):QE X E (.Subscript a b pos) (dOp gIx fa fb) :=
 PE.weak (PE.or (kN hu ha hb hs2) (fQ (ixd_seq) ha hb hs)) fun σ H Q h=>by
  refine zc3b h fun B F sd r n=>?_;by_cases hd:∃d ks ds,fa sd=.ok d/\(d=.dct ks ds\/d=.dcf ks ds)
  ·obtain⟨d,ks,ds,hd,hc⟩:=hd;refine .inl ⟨B,F,sd,r,(Res.need_bind n).monoE (fun x hx n1 v F1 H1 e1 i1=>?_) fun _ _ q=>q⟩;rw[hd] at hx;cases hx;refine⟨B,F1,sd,r.step e1,(Res.need_bind n1).mono (fun y n2 w F2 H2 e2 i2=>?_) fun _ _ q=>q.ext e1⟩;refine zc1b (Res.need_ofO n2) fun z hz q=>?_;obtain⟨k,hk,hz⟩:=Option.bind_eq_some_iff.mp (show(wD y).bind (fun q=>ut ks ds q)=some z by rcases hc with rfl|rfl<;>exact hz);refine zc2d (jY hc i1) fun p xs zr2 h1 h2 h3=>?_;subst zr2;refine zc1b ((t8 k h2 h3).1 z hz) fun x hx ix=>?_;refine⟨p,x,rfl,?_,q x F2 H2 (e1.trans e2) (IsD.same e2.ff _ _ ix)⟩;rw[wW hk i2,<- hx];exact mX (oN e2.hh (oN e1.fh h1))
  ·refine .inr (lM ⟨B,F,sd,r,?_⟩);unfold dOp at n ⊢;cases hx:fa sd with
   |ok d =>
    rw[hx] at n;cases d with
    |dct ks ds=>exact Zn ⟨_,ks,ds,hx,.inl rfl⟩ hd
    |dcf ks ds=>exact Zn ⟨_,ks,ds,hx,.inr rfl⟩ hd
    |_=>exact n
   |no=>rw[hx] at n;exact n
   |ex c fs=>rw[hx] at n;exact n
def gIn (neg:Bool):D->D->Option D
 |k,.dct ks ds=>(wD k).map fun q=>.bl (if neg then !(ut ks ds q).isSome else(ut ks ds q).isSome)
 |k,.dcf ks ds=>(wD k).map fun q=>.bl (if neg then !(ut ks ds q).isSome else(ut ks ds q).isSome)
 |d,.lst ds=>if plN 12 d&&ds.all (plN 12) then some (.bl (if neg then !ds.any (fun e=>y7 e d) else ds.any fun e=>y7 e d)) else none
 |d,.tup ds=>if plN 12 d&&ds.all (plN 12) then some (.bl (if neg then !ds.any (fun e=>y7 e d) else ds.any fun e=>y7 e d)) else none
 |_,_=>none
theorem i7 {K:W.Frag}{H:Hp}:∀(n:Nat) (d e:D) (v:V),plN n d=true->plN n e=true->IsD K H d v->IsD K H e v->d=e
 | 0,_,_,_,h,_,_,_=>by exact zqb h
 |n+1,d,e,v,hd,he,h1,h2=>by
  have all:∀(ds es:List D) (xs:List V),ds.all (plN n)=true->es.all (plN n)=true->zn K H ds xs->zn K H es xs->ds=es:=by
   intro ds
   induction ds with
   |nil =>
    intro es xs _ _ h1 h2;rw[zn.nil_iff] at h1;subst h1;have:=h2.length;exact(List.length_eq_zero_iff.mp this.symm).symm
   |cons d ds ih =>
    intro es xs p1 p2 h1 h2;rw[List.all_cons,Bool.and_eq_true] at p1;rw[zn.cons_iff] at h1;refine zc2c h1 fun x r zr2 h3 h4=>?_;subst zr2;cases es with
    |nil=>rw[zn.nil_iff] at h2;cases h2
    |cons e es =>
     rw[List.all_cons,Bool.and_eq_true] at p2;rw[zn.cons_iff] at h2;refine zc2c h2 fun x' r' e' h5 h6=>?_;cases e';rw[i7 n d e x p1.1 p2.1 h3 h5,ih es r p1.2 p2.2 h4 h6]
  have ne:∀{a:Addr} {xs ys:List V},jo K H a xs->mO K H a ys->False:=fun {a xs ys} q1 q2=>by
   rcases q2 with q2|⟨o,q2⟩
   ·rw[q1] at q2;cases q2
   ·rw[q1] at q2;cases q2
  cases d with
  |int i =>
   rw[IsD.int_iff] at h1;subst h1;cases e with
   |int j=>rw[IsD.int_iff] at h2;cases h2;rfl
   |str j=>rw[IsD.str_iff] at h2;cases h2
   |non=>rw[IsD.non_iff] at h2;cases h2
   |tup es=>rw[IsD.tup_iff] at h2;obtain⟨_,_,z,_⟩:=h2;cases z
   |lst es=>rw[IsD.lst_iff] at h2;obtain⟨_,_,z,_⟩:=h2;cases z
   |_=>exact zqb he
  |str i =>
   rw[IsD.str_iff] at h1;subst h1;cases e with
   |int j=>rw[IsD.int_iff] at h2;cases h2
   |str j=>rw[IsD.str_iff] at h2;cases h2;rfl
   |non=>rw[IsD.non_iff] at h2;cases h2
   |tup es=>rw[IsD.tup_iff] at h2;obtain⟨_,_,z,_⟩:=h2;cases z
   |lst es=>rw[IsD.lst_iff] at h2;obtain⟨_,_,z,_⟩:=h2;cases z
   |_=>exact zqb he
  |non =>
   rw[IsD.non_iff] at h1;subst h1;cases e with
   |int j=>rw[IsD.int_iff] at h2;cases h2
   |str j=>rw[IsD.str_iff] at h2;cases h2
   |non=>rfl
   |tup es=>rw[IsD.tup_iff] at h2;obtain⟨_,_,z,_⟩:=h2;cases z
   |lst es=>rw[IsD.lst_iff] at h2;obtain⟨_,_,z,_⟩:=h2;cases z
   |_=>exact zqb he
  |tup ds =>
   rw[IsD.tup_iff] at h1;refine zc2c h1 fun a xs zr2 q1 q2=>?_;subst zr2;cases e with
   |int j=>rw[IsD.int_iff] at h2;cases h2
   |str j=>rw[IsD.str_iff] at h2;cases h2
   |non=>rw[IsD.non_iff] at h2;cases h2
   |tup es =>
    rw[IsD.tup_iff] at h2;refine zc2c h2 fun a' xs' e' q3 q4=>?_;cases e';have q1':H a=some (.tup xs):=q1;rw[show H a=some (.tup xs') from q3] at q1';cases q1';rw[all ds es _ hd he q2 q4]
   |lst es =>
    rw[IsD.lst_iff] at h2;refine zc2c h2 fun a' xs' e' q3 q4=>?_;cases e';exact(ne q1 q3).elim
   |_=>exact zqb he
  |lst ds =>
   rw[IsD.lst_iff] at h1;refine zc2c h1 fun a xs zr2 q1 q2=>?_;subst zr2;cases e with
   |int j=>rw[IsD.int_iff] at h2;cases h2
   |str j=>rw[IsD.str_iff] at h2;cases h2
   |non=>rw[IsD.non_iff] at h2;cases h2
   |tup es =>
    rw[IsD.tup_iff] at h2;refine zc2c h2 fun a' xs' e' q3 q4=>?_;cases e';exact(ne q3 q1).elim
   |lst es =>
    rw[IsD.lst_iff] at h2;refine zc2c h2 fun a' xs' e' q3 q4=>?_;cases e';have:xs=xs':=by
     rcases q1 with q1|⟨_,q1⟩<;>rcases q3 with q3|⟨_,q3⟩<;>rw[q1] at q3<;>cases q3<;>rfl
    subst this;rw[all ds es _ hd he q2 q4]
   |_=>exact zqb he
  |_=>exact zqb hd
def ValIs (K:W.Frag)(H:Hp)(d:D)(u:Value):Prop:=∃v,yo v u/\IsD K H d v
def nZ (K:W.Frag)(H:Hp)(d:D)(u:Value):Bool:=@decide (ValIs K H d u) (Classical.propDecidable _)
theorem eqTo_same {K:W.Frag}{H:Hp}{d e:D}{v:V}{u:Value}(hd:plN 12 d=true)(he:plN 12 e=true)(h:IsD K H e v)(r:yo v u):nZ K H d u=y7 e d:=by
 unfold nZ;by_cases q:e=d
 ·rw[q,zM];exact @decide_eq_true _ (Classical.propDecidable _) ⟨v,r,q ▸ h⟩
 ·rw[wb.mpr q];refine @decide_eq_false _ (Classical.propDecidable _) fun ⟨v',r',h'⟩=>q ?_;rw[r'.inj r] at h';exact i7 12 e d v he hd h h'
theorem ii {P:Program}{w:World}{K:W.Frag}{A:Around}{s:Shared}{H:Hp}(hu:A.units+60<cLine)(ok:HOk P w H s.heap){d:D}{x:V}{v:Value}(hp:plN 12 d=true)(hx:IsD K H d x)(rx:yo x v) :
 ∀{ds:List D} {xs:List V} {us:List Value},ds.all (plN 12)=true->zn K H ds xs->yq xs us->us.map (nZ K H d)=ds.map (fun e=>y7 e d)/\∀u∈us,SeqAt.EqAt A s u v (nZ K H d u):=by
 intro ds
 induction ds with
 |nil =>
  intro xs us _ h1 h2;rw[zn.nil_iff] at h1;subst h1;cases h2;exact⟨rfl,fun u hu=>nomatch hu⟩
 |cons e ds ih =>
  intro xs us hq h1 h2;rw[List.all_cons,Bool.and_eq_true] at hq;rw[zn.cons_iff] at h1;refine zc2c h1 fun y rs zr2 h3 h4=>?_;subst zr2;cases h2 with
  |cons r1 r2 =>
   obtain⟨i1,i2⟩:=ih hq.2 h4 r2;obtain⟨as,ra⟩:=xM ok 12 e y _ hq.1 h3 r1;obtain⟨cs,rb⟩:=xM ok 12 d x v hp hx rx;obtain⟨l1,z1⟩:=sU 12 e hq.1;obtain⟨l2,z2⟩:=sU 12 d hp;have es:=eqTo_same hp hq.1 h3 r1;refine⟨by rw[Zl,Zl,i1,es],fun u hm=>?_⟩;rcases List.mem_cons.mp hm with hm|hm
   ·subst hm;rw[es,<- (Bool.eq_iff_iff.mpr ((lY 12 e d hq.1 hp).trans t9.symm):PyData.eqv (pY e) (pY d)=y7 e d)];exact SeqAt.eqAt_reads (pY e) (pY d) A s _ v as cs ra rb l1 l2 (by omega)
   ·exact i2 u hm
theorem uA {α : Type}{f:α -> Bool}{l:List α}:l.any f=(l.map f).any id:=by rw[List.any_map];rfl
theorem iz (hu:X.A.units+64<cLine)(neg:Bool):OpR X (compareOp (if neg then .NotIn else .In)) (rD2 X.K fun d e=>match e with
 | .dct _ _=>none
 | .dcf _ _=>none
 |e=>gIn neg d e):=by
 rintro pins s σ H x y v u Q I rx ry ⟨F,d,e,z,sF,id,ie,hz,q⟩;have id':=IsD.same sF _ _ id;cases e with
 |lst ds =>
  have hz:(if plN 12 d&&ds.all (plN 12) then some (D.bl (if neg then !ds.any (fun e=>y7 e d) else ds.any fun e=>y7 e d)) else none)=some z:=hz
  split at hz
  ·rename_i hp;rw[Bool.and_eq_true] at hp;obtain rfl:=Zqi hz;rw[IsD.lst_iff] at ie;refine zc2c ie fun p xs zr2 h1 h2=>?_;subst zr2;obtain rfl:u=Value.ref p:=ry;refine zc1c (I.list (h1.same sF).sq) fun its ri pl hl=>?_;obtain⟨k1,k2⟩:=ii (A:=X.A.in1) (by show X.A.units+1+60<cLine;omega) I.hok hp.1 id' rx hp.2 (zn.same sF _ _ h2) ri;have ea:its.toArray.any (nZ X.K H d)=ds.any (fun e=>y7 e d):=by
    rw[show its.toArray.any (nZ X.K H d)=its.any (nZ X.K H d) by simp,uA,k1,<- uA]
   cases neg with
   |true =>
    refine SeqAt.notIn_listAt (nZ X.K H d) pl.isList (fun w hw=>k2 w (by simpa using hw)) ⟨.bl _,H,I,rfl,?_⟩;rw[ea];exact q _ F H (.refl sF) (isB _ F)
   |false =>
    refine SeqAt.in_listAt (nZ X.K H d) pl.isList (fun w hw=>k2 w (by simpa using hw)) ⟨.bl _,H,I,rfl,?_⟩;rw[ea];exact q _ F H (.refl sF) (isB _ F)
  ·exact zqn hz
 |tup ds =>
  have hz:(if plN 12 d&&ds.all (plN 12) then some (D.bl (if neg then !ds.any (fun e=>y7 e d) else ds.any fun e=>y7 e d)) else none)=some z:=hz
  split at hz
  ·rename_i hp;rw[Bool.and_eq_true] at hp;obtain rfl:=Zqi hz;rw[IsD.tup_iff] at ie;refine zc2c ie fun p xs zr2 h1 h2=>?_;subst zr2;obtain rfl:u=Value.ref p:=ry;refine zc1c (I.tuple (h1.same sF).sq) fun its ri pl hl=>?_;obtain⟨k1,k2⟩:=ii (A:=X.A.in1) (by show X.A.units+1+60<cLine;omega) I.hok hp.1 id' rx hp.2 (zn.same sF _ _ h2) ri;have ea:its.toArray.any (nZ X.K H d)=ds.any (fun e=>y7 e d):=by
    rw[show its.toArray.any (nZ X.K H d)=its.any (nZ X.K H d) by simp,uA,k1,<- uA]
   cases neg with
   |true =>
    refine SeqAt.notIn_tupleAt (nZ X.K H d) pl (fun w hw=>k2 w (by simpa using hw)) ⟨.bl _,H,I,rfl,?_⟩;rw[ea];exact q _ F H (.refl sF) (isB _ F)
   |false =>
    refine SeqAt.in_tupleAt (nZ X.K H d) pl (fun w hw=>k2 w (by simpa using hw)) ⟨.bl _,H,I,rfl,?_⟩;rw[ea];exact q _ F H (.refl sF) (isB _ F)
  ·exact zqn hz
 |_=>exact zqn hz
theorem gQ {K:W.Frag}{neg:Bool}{σ : St}{H:Hp}{Q:VK}(h:tD K E (dOp (gIn neg) fa fb) σ H Q) :
 (fun σ H Q=>tD K E fa σ H fun y H1=>tD K E fb σ H1 fun x H2=>∃a o,x=.ref a/\oJ H2 a y o/\Q (.bl (if neg then !o.isSome else o.isSome)) H2) σ H Q\/tOp (rD2 K fun d e=>match e with
 | .dct _ _=>none
 | .dcf _ _=>none
 |e=>gIn neg d e) (tD K E fa) (tD K E fb) σ H Q:=by
 refine zc3b h fun B F sd r n=>?_;by_cases hd:∃d ks ds,fb sd=.ok d/\(d=.dct ks ds\/d=.dcf ks ds)
 ·obtain⟨d,ks,ds,hd,hc⟩:=hd;refine .inl ⟨B,F,sd,r,(Res.need_bind n).mono (fun x n1 v F1 H1 e1 i1=>?_) fun _ _ q=>q⟩;refine⟨B,F1,sd,r.step e1,(Res.need_bind n1).monoE (fun y hy n2 w F2 H2 e2 i2=>?_) fun _ _ q=>q.ext e1⟩;rw[hd] at hy;cases hy;refine zc1b (Res.need_ofO n2) fun z hz q=>?_;obtain⟨k,hk,hz⟩:=Option.map_eq_some_iff.mp (show(wD x).map (fun q=>D.bl (if neg then !(ut ks ds q).isSome else(ut ks ds q).isSome))=some z by rcases hc with rfl|rfl<;>exact hz);subst hz;refine zc2d (jY hc i2) fun p xs zr2 h1 h2 h3=>?_;subst zr2;obtain⟨g1,g2⟩:=t8 k h2 h3;refine⟨p,sI (ks.zip xs) k,rfl,?_,?_⟩
  ·rw[wW hk i1];exact mX (oN e2.fh h1)
  ·have es:(sI (ks.zip xs) k).isSome=(ut ks ds k).isSome:=by
    cases hv:ut ks ds k with
    |none=>rw[g2 hv];rfl
    |some d=>obtain⟨x,hx,_⟩:=g1 d hv;rw[hx];rfl
   rw[es];exact q _ F2 H2 (e1.trans e2) (IsD.bl_iff.mpr rfl)
 ·refine .inr (lM ⟨B,F,sd,r,?_⟩);unfold dOp at n ⊢;cases hx:fa sd with
  |ok d =>
   rw[hx] at n;cases hy:fb sd with
   |ok e =>
    rw[hy] at n;cases e with
    |dct ks ds=>exact Zn ⟨_,ks,ds,hy,.inl rfl⟩ hd
    |dcf ks ds=>exact Zn ⟨_,ks,ds,hy,.inr rfl⟩ hd
    |_=>exact n
   |no=>rw[hy] at n;exact n
   |ex c fs=>rw[hy] at n;exact n
  |no=>rw[hx] at n;exact n
  |ex c fs=>rw[hx] at n;exact n
theorem qt_in (hu:X.A.units+64<cLine)(ha:QE X E a fa)(hb:QE X E b fb)(hm:autoParam (behindInMarks .In b=false) zau._auto_1):QT X E (.Compare a [.In] [b] pos) (zu (dOp (gIn false) fa fb)) :=
 PT.weak (PT.or (jd (pc_din (by omega) ha hb) hm) (o9 (iz hu false) ha hb hm)) fun σ H Q h=>gQ (xU h)
theorem u7 (hu:X.A.units+64<cLine)(ha:QE X E a fa)(hb:QE X E b fb)(hm:autoParam (behindInMarks .NotIn b=false) zau._auto_1):QT X E (.Compare a [.NotIn] [b] pos) (zu (dOp (gIn true) fa fb)) :=
 PT.weak (PT.or (jd (pc_dnotin (by omega) ha hb) hm) (o9 (iz hu true) ha hb hm)) fun σ H Q h=>gQ (xU h)
end
section
variable {X:Cx}{E:XK}{m:Option Bool}{a b o i e f tg:Expr}{fa fb fo fi fv:FE}{fr:FA}{pos pos' apos cpos p:Pos}
theorem xN {K:W.Frag}{H:Hp}{d:D}{vs:List V}(h:zn K H [d] vs):∃v,vs=[v]/\IsD K H d v:=by
 rw[zn.cons_iff] at h;refine zc2c h fun v r zr2 h1 h2=>?_;subst zr2;rw[zn.nil_iff] at h2;subst h2;exact⟨v,rfl,h1⟩
theorem gC {K:W.Frag}{H:Hp}{d e:D}{vs:List V}(h:zn K H [d,e] vs):∃v w,vs=[v,w]/\IsD K H d v/\IsD K H e w:=by
 rw[zn.cons_iff] at h;refine zc2c h fun v r zr2 h1 h2=>?_;subst zr2;refine zc1b (xN h2) fun w zr1 h3=>?_;subst zr1;exact⟨v,w,rfl,h1,h3⟩
noncomputable def o4:List D->Option D
 | [.lst ds]=>some (.int ds.length)
 | [.tup ds]=>some (.int ds.length)
 | [.dct ks _]=>some (.int ks.length)
 | [.scr ns]=>some (.int ns.length)
 | [.str x]=>if x.length<=sizeLine then some (.int x.length) else none
 |_=>none
noncomputable def LenP (ds:List D)(z:D):Prop:=(∃es,ds=[.lst es]/\z=.int es.length)\/(∃es,ds=[.tup es]/\z=.int es.length)\/(∃ks es,ds=[.dct ks es]/\z=.int ks.length)\/(∃ns,ds=[.scr ns]/\z=.int ns.length)\/∃x,x.length<=sizeLine/\ds=[.str x]/\z=.int x.length
theorem gLen_inv {ds:List D}{z:D}(hz:o4 ds=some z):LenP ds z:=by
 cases ds with
 |nil=>exact zqn hz
 |cons d ds =>
  cases ds with
  |nil =>
   cases d with
   |lst ds=>exact .inl ⟨_,rfl,(Zqi hz).symm⟩
   |tup ds=>exact .inr (.inl ⟨_,rfl,(Zqi hz).symm⟩)
   |dct ks ds=>exact .inr (.inr (.inl ⟨_,_,rfl,(Zqi hz).symm⟩))
   |scr ns=>exact .inr (.inr (.inr (.inl ⟨_,rfl,(Zqi hz).symm⟩)))
   |str x=>exact let q:=rp hz;.inr (.inr (.inr (.inr ⟨_,q.1,rfl,q.2.symm⟩)))
   |_=>exact zqn hz
  |cons e ds=>cases d<;>exact zqn hz
theorem o5:zD X (.builtin "len") (rDA X.K o4):=zD.weak (zD.or call_len_seq (zD.or call_lenD call_len_str)) fun xs H Q zh=>by
 obtain⟨F,ds,z,sF,id,hz,q⟩:=zh;rcases gLen_inv hz with ⟨es,rfl,rfl⟩|⟨es,rfl,rfl⟩|⟨ks,es,rfl,rfl⟩|⟨ns,rfl,rfl⟩|⟨x,hl,rfl,rfl⟩
 ·obtain⟨v,rfl,h⟩:=xN id;rw[IsD.lst_iff] at h;obtain⟨a,ys,rfl,h1,h2⟩:=h;rw[<- h2.length] at q;exact .inl ⟨a,ys,rfl,.inl (h1.same sF).sq,q _ F H (.refl sF) (isI _ F)⟩
 ·obtain⟨v,rfl,h⟩:=xN id;rw[IsD.tup_iff] at h;obtain⟨a,ys,rfl,h1,h2⟩:=h;rw[<- h2.length] at q;exact .inl ⟨a,ys,rfl,.inr (h1.same sF).sq,q _ F H (.refl sF) (isI _ F)⟩
 ·obtain⟨v,rfl,h⟩:=xN id;rw[IsD.dct_iff] at h;obtain⟨a,ys,rfl,h1,h2,h3⟩:=h;refine .inr (.inl ⟨a,_,rfl,sF _ _ h1,?_⟩);rw[List.length_zip,<- h2,Nat.min_self];exact q _ F H (.refl sF) (isI _ F)
 ·obtain⟨v,rfl,h⟩:=xN id;rw[IsD.scr_iff] at h;obtain⟨a,rfl,h1⟩:=h;refine .inl ⟨a,_,rfl,.inl (yw.seq sF h1),?_⟩;rw[Zql];exact q _ F H (.refl sF) (isI _ F)
 ·obtain⟨v,rfl,h⟩:=xN id;rw[IsD.str_iff] at h;subst h;exact .inr (.inr ⟨_,rfl,hl,q _ F H (.refl sF) (isI _ F)⟩)
noncomputable def lG:List D->Option D
 | [.int i,.int j]=>some (.int (if j > i then j else i))
 |_=>none
noncomputable def jR:List D->Option D
 | [.int i,.int j]=>some (.int (if j<i then j else i))
 |_=>none
noncomputable def fL (ds:List D):Prop:=∃i j,ds=[.int i,.int j]
theorem max2_inv {ds:List D}{z:D}(hz:lG ds=some z):fL ds:=by
 cases ds with
 |nil=>exact zqn hz
 |cons d ds =>
  cases ds with
  |nil=>cases d<;>exact zqn hz
  |cons e ds =>
   cases d with
   |int i =>
    cases e with
    |int j =>
     cases ds with
     |nil=>exact⟨_,_,rfl⟩
     |cons _ _=>exact zqn hz
    |_=>exact zqn hz
   |_=>exact zqn hz
theorem two_inv {ds:List D}{z:D}(hz:jR ds=some z):fL ds:=by
 cases ds with
 |nil=>exact zqn hz
 |cons d ds =>
  cases ds with
  |nil=>cases d<;>exact zqn hz
  |cons e ds =>
   cases d with
   |int i =>
    cases e with
    |int j =>
     cases ds with
     |nil=>exact⟨_,_,rfl⟩
     |cons _ _=>exact zqn hz
    |_=>exact zqn hz
   |_=>exact zqn hz
theorem io (hc:X.calm=true):zD X (.builtin "max") (rDA X.K lG):=zD.weak (call_max2 hc) fun xs H Q zh=>by
 refine zc3a zh fun F ds z zz=>qD zz fun sF id hz q=>?_;refine zc2a (max2_inv hz) fun i j zr2=>?_;subst zr2;obtain rfl:=Zqi hz;refine zc2c (gC id) fun v w zr2 h1 h2=>?_;subst zr2;exact⟨_,_,by rw[IsD.int_iff.mp h1,IsD.int_iff.mp h2],q _ F H (.refl sF) (isI _ F)⟩
theorem b_min2 (hc:X.calm=true):zD X (.builtin "min") (rDA X.K jR):=zD.weak (call_min2 hc) fun xs H Q zh=>by
 refine zc3a zh fun F ds z zz=>qD zz fun sF id hz q=>?_;refine zc2a (two_inv hz) fun i j zr2=>?_;subst zr2;obtain rfl:=Zqi hz;refine zc2c (gC id) fun v w zr2 h1 h2=>?_;subst zr2;exact⟨_,_,by rw[IsD.int_iff.mp h1,IsD.int_iff.mp h2],q _ F H (.refl sF) (isI _ F)⟩
def ug:D->Option (List Int)
 | .lst ds=>xo mB ds
 |_=>none
theorem uN {K:W.Frag}{H:Hp}{d:D}{ns:List Int}{v:V}(h:ug d=some ns)(i:IsD K H d v):∃a,v=.ref a/\mO K H a (ns.map V.int):=by
 cases d with
 |lst ds =>
  rw[IsD.lst_iff] at i;refine zc2c i fun a xs zr2 h1 h2=>?_;subst zr2;rw[allInt_inv (show xo mB ds=some ns from h)] at h2;rw[zn.ints_iff h2] at h1;exact⟨a,rfl,h1⟩
 |_=>exact zqn h
theorem vC (ns:List Int):ug (.lst (ns.map D.int))=some ns:=allInt_map ns
def tZ:List D->Option D
 | [d]=>(ug d).bind fun ns=>if ns=[] then none else some (.int (rC ns))
 |_=>none
def ka:List D->Option D
 | [d]=>(ug d).bind fun ns=>if ns=[] then none else some (.int (jz ns))
 |_=>none
theorem lL (hc:X.calm=true):zD X (.builtin "max") (rDA X.K tZ):=zD.weak (call_maxL hc) fun xs H Q zh=>by
 refine zc3a zh fun F ds z zz=>qD zz fun sF id hz q=>?_;unfold tZ at hz
 split at hz
 ·refine zc1b (Option.bind_eq_some_iff.mp hz) fun ns h1 hz=>?_
  split at hz
  ·exact zqn hz
  ·rename_i hn;obtain rfl:=Zqi hz;refine zc1b (xN id) fun v zr1 h=>?_;subst zr1;refine zc1b (uN h1 h) fun a zr1 h2=>?_;subst zr1;exact⟨a,ns,rfl,(h2.same sF).sq,hn,q _ F H (.refl sF) (isI _ F)⟩
 ·exact zqn hz
theorem b_minL (hc:X.calm=true):zD X (.builtin "min") (rDA X.K ka):=zD.weak (call_minL hc) fun xs H Q zh=>by
 refine zc3a zh fun F ds z zz=>qD zz fun sF id hz q=>?_;unfold ka at hz
 split at hz
 ·refine zc1b (Option.bind_eq_some_iff.mp hz) fun ns h1 hz=>?_
  split at hz
  ·exact zqn hz
  ·rename_i hn;obtain rfl:=Zqi hz;refine zc1b (xN id) fun v zr1 h=>?_;subst zr1;refine zc1b (uN h1 h) fun a zr1 h2=>?_;subst zr1;exact⟨a,ns,rfl,(h2.same sF).sq,hn,q _ F H (.refl sF) (isI _ F)⟩
 ·exact zqn hz
noncomputable def tyN:D->Option String
 | .non=>some "NoneType"
 | .bl _=>some "bool"
 | .int _=>some "int"
 | .str _=>some "str"
 | .lst _=>some "list"
 | .tup _=>some "tuple"
 | .dct _ _=>some "dict"
 |_=>none
noncomputable def fR (t n:String):Bool:=(t == n)||(t == "bool" && n == "int")
noncomputable def uF (t n:String):Bool:=["NoneType", "bool", "int", "str", "list", "tuple", "dict"].contains t&&["bool", "int", "str", "list", "tuple", "dict"].contains n
theorem kit_all (K:W.Frag)(t n:String)(h:uF t n=true):W.kitOne K (.type t) (.type n)=some (fR t n):=by
 unfold uF at h;rw[Bool.and_eq_true,List.contains_iff_mem,List.contains_iff_mem] at h;obtain⟨h1,h2⟩:=h;simp only[List.mem_cons,List.not_mem_nil,or_false] at h1 h2;rcases h1 with rfl|rfl|rfl|rfl|rfl|rfl|rfl<;>rcases h2 with rfl|rfl|rfl|rfl|rfl|rfl<;>first|rfl|kernel_rfl
def mV:List D->Option D
 | [d,.ty n]=>(tyN d).bind fun t=>if uF t n then some (.bl (fR t n)) else none
 |_=>none
theorem tyN_of {K:W.Frag}{H:Hp}{d:D}{v:V}{t:String}(h:tyN d=some t)(i:IsD K H d v):TyOf K H v (.type t):=by
 cases d with
 |non=>cases h;rw[IsD.non_iff.mp i];exact .non
 |bl b=>cases h;rw[IsD.bl_iff.mp i];exact .bl b
 |int j=>cases h;rw[IsD.int_iff.mp i];exact .int j
 |str x=>cases h;rw[IsD.str_iff.mp i];exact .str x
 |lst ds =>
  obtain rfl:=Zqi h;rw[IsD.lst_iff] at i;refine zc2c i fun a xs zr2 h1 _=>?_;subst zr2;rcases h1 with h1|⟨o,h1⟩
  ·exact .lst h1
  ·exact .frz h1
 |tup ds =>
  obtain rfl:=Zqi h;rw[IsD.tup_iff] at i;refine zc2c i fun a xs zr2 h1 _=>?_;subst zr2;exact .tup h1
 |dct ks ds =>
  obtain rfl:=Zqi h;rw[IsD.dct_iff] at i;refine zc2c i fun a xs zr2 h1 _=>?_;subst zr2;exact .dK h1
 |ty n=>exact zqn h
 |scr n=>exact zqn h
 |ins C fs ds=>exact zqn h
 |exc c=>exact zqn h
 |ucl c=>exact zqn h
 |adr c=>exact zqn h
 |dcf c ds=>exact zqn h
def IsiP (ds:List D)(z:D):Prop:=∃d n t,ds=[d,.ty n]/\tyN d=some t/\uF t n=true/\z=.bl (fR t n)
theorem gIsi_inv {ds:List D}{z:D}(hz:mV ds=some z):IsiP ds z:=by
 cases ds with
 |nil=>exact zqn hz
 |cons d ds =>
  cases ds with
  |nil=>exact zqn hz
  |cons e ds =>
   cases ds with
   |nil =>
    cases e with
    |ty n =>
     refine zc1b (Option.bind_eq_some_iff.mp (show(tyN d).bind (fun t=>if uF t n then some (D.bl (fR t n)) else none)=some z from hz)) fun t h1 hz=>?_;exact⟨d,n,t,rfl,h1,(rp hz).1,(rp hz).2.symm⟩
    |_=>exact zqn hz
   |cons _ _=>cases e<;>exact zqn hz
theorem mY:zD X (.builtin "isinstance") (rDA X.K mV):=zD.weak call_isi fun xs H Q zh=>by
 refine zc3a zh fun F ds z zz=>qD zz fun sF id hz q=>?_;refine zc3a (gIsi_inv hz) fun d n t zz=>qD zz fun zr3 h1 hk zr6=>?_;subst zr3;subst zr6;refine zc2c (gC id) fun v w zr2 h2 h3=>?_;subst zr2;exact⟨v,_,_,_,by rw[IsD.ty_iff.mp h3],tyN_of h1 (IsD.same sF _ _ h2),kit_all _ _ _ hk,q _ F H (.refl sF) (isB _ F)⟩
theorem lE {n:String}{x:Str}{u:Value}(hg:Gl X x)(hm:X.mg x=none)(hv:bootBuiltins x=some u)(r:yo (.ty n) u)(hn:autoParam (x ≠ "__name__") zav._auto_1)(hd:autoParam ((x == ("__debug__" : Str))=false) zav._auto_1):QE X E (.Name x pos) (dC (.ty n)) :=
 qf (pe_bltn (v:=.ty n) hg hm hv r hn hd) fun _=>IsD.ty_iff.mpr rfl
noncomputable def kb:List D->Option D
 | [.lst ds]=>some (.lst ds)
 | [.tup ds]=>some (.lst ds)
 | [.scr ns]=>some (.lst (ns.map .int))
 |_=>none
noncomputable def ListP (ds:List D)(z:D):Prop:=(∃es,ds=[.lst es]/\z=.lst es)\/(∃es,ds=[.tup es]/\z=.lst es)\/∃ns,ds=[.scr ns]/\z=.lst (ns.map .int)
theorem gList_inv {ds:List D}{z:D}(hz:kb ds=some z):ListP ds z:=by
 cases ds with
 |nil=>exact zqn hz
 |cons d ds =>
  cases ds with
  |nil =>
   cases d with
   |lst ds=>exact .inl ⟨_,rfl,(Zqi hz).symm⟩
   |tup ds=>exact .inr (.inl ⟨_,rfl,(Zqi hz).symm⟩)
   |scr ns=>exact .inr (.inr ⟨_,rfl,(Zqi hz).symm⟩)
   |_=>exact zqn hz
  |cons e ds=>cases d<;>exact zqn hz
theorem b_list:zD X (.type "list") (gX X.K kb):=zD.weak call_list_of fun xs H Q zh=>by
 obtain⟨F,ds,z,sF,id,hz,q⟩:=zh;have fin:∀{es:List D} {ys:List V},zn X.K F es ys->OkN X.K F H Q (.lst es)->∀l,H l=none->Q (.ref l) (upd H l (.lst ys)):=fun {es ys} h q l hl =>
  q l F _ (.keep sF hl _) hl (zE sF hl) ⟨ys,zo,h⟩
 rcases gList_inv hz with ⟨es,rfl,rfl⟩|⟨es,rfl,rfl⟩|⟨ns,rfl,rfl⟩
 ·obtain⟨v,rfl,h⟩:=xN id;rw[IsD.lst_iff] at h;obtain⟨a,ys,rfl,h1,h2⟩:=h;exact⟨a,ys,rfl,.inl (h1.same sF).sq,fin h2 q⟩
 ·obtain⟨v,rfl,h⟩:=xN id;rw[IsD.tup_iff] at h;obtain⟨a,ys,rfl,h1,h2⟩:=h;exact⟨a,ys,rfl,.inr (h1.same sF).sq,fin h2 q⟩
 ·obtain⟨v,rfl,h⟩:=xN id;rw[IsD.scr_iff] at h;obtain⟨a,rfl,h1⟩:=h;exact⟨a,_,rfl,.inl (yw.seq sF h1),fin (zn.ints _) q⟩
noncomputable def uY:List D->Option D
 | [.lst ds]=>some (.tup ds)
 | [.tup ds]=>some (.tup ds)
 |_=>none
noncomputable def TupP (ds:List D)(z:D):Prop:=(∃es,ds=[.lst es]/\z=.tup es)\/∃es,ds=[.tup es]/\z=.tup es
theorem gTuple_inv {ds:List D}{z:D}(hz:uY ds=some z):TupP ds z:=by
 cases ds with
 |nil=>exact zqn hz
 |cons d ds =>
  cases ds with
  |nil =>
   cases d with
   |lst ds=>exact .inl ⟨_,rfl,(Zqi hz).symm⟩
   |tup ds=>exact .inr ⟨_,rfl,(Zqi hz).symm⟩
   |_=>exact zqn hz
  |cons e ds=>cases d<;>exact zqn hz
theorem rH:zD X (.type "tuple") (rDA X.K uY):=zD.weak call_tuple_of fun xs H Q zh=>by
 refine zc3a zh fun F ds z zz=>qD zz fun sF id hz q=>?_;rcases gTuple_inv hz with ⟨es,rfl,rfl⟩|⟨es,rfl,rfl⟩
 ·refine zc1b (xN id) fun v zr1 h=>?_;subst zr1;rw[IsD.lst_iff] at h;refine zc2c h fun a ys zr2 h1 h2=>?_;subst zr2;refine⟨a,ys,rfl,.inl ⟨(h1.same sF).sq,fun l hl=>?_⟩⟩;have ea:=Ext.alloc sF hl (.tup ys);exact q _ _ _ ea (IsD.tup_iff.mpr ⟨l,ys,rfl,.of zo,zn.same ea.ff _ _ h2⟩)
 ·refine zc1b (xN id) fun v zr1 h=>?_;subst zr1;have h':=h;rw[IsD.tup_iff] at h;refine zc2c h fun a ys zr2 h1 h2=>?_;subst zr2;exact⟨a,ys,rfl,.inr ⟨(h1.same sF).sq,q _ F H (.refl sF) h'⟩⟩
noncomputable def dcR (r:List (Int×Int)):D:=.dct (r.map fun p=>.inl p.1) (r.map fun p=>.int p.2)
def m7 (r:List (Int×Int)):List (Int×Int):=r.foldl (fun a p=>qi a p.1 p.2) []
theorem dictR_T (r:List (Int×Int)):kP r=kvR (m7 r):=qL r []
theorem dictT_once {r:List (Int×Int)}(h:yy r):m7 r=r:=by
 have:=qJ r [] (by simpa using h);unfold m7;simpa using this
theorem l5 (r:List (Int×Int)):kvR r=(r.map fun p=>(Sum.inl p.1:Key)).zip (r.map fun p=>V.int p.2):=by
 unfold kvR
 induction r with
 |nil=>rfl
 |cons p r ih=>rw[Zl,ih];rfl
theorem dcR_vals (K:W.Frag)(F:Hp)(r:List (Int×Int)):zn K F (r.map fun p=>D.int p.2) (r.map fun p=>V.int p.2):=by
 have:=zn.ints (K:=K) (H:=F) (r.map (·.2));rw[Zw,Zw] at this;exact this
def sh:List D->Option D
 | [d]=>(v6 d).bind fun r=>if r.length<=100 then some (dcR (m7 r)) else none
 |_=>none
theorem mf (hc:X.calm=true):zD X (.type "dict") (gX X.K sh):=zD.weak (call_dictP hc) fun xs H Q zh=>by
 refine zc3a zh fun F ds z zz=>qD zz fun sF id hz q=>?_;unfold sh at hz
 split at hz
 ·refine zc1b (Option.bind_eq_some_iff.mp hz) fun r h1 hz=>?_
  split at hz
  ·rename_i hl;obtain rfl:=Zqi hz;refine zc1b (xN id) fun v zr1 h=>?_;subst zr1;rw[qC h1,gj] at h;have h':=Is.same sF _ _ h;refine zc2b ((show ∃a xs,v=.ref a/\_ by unfold rD at h;rw[Is.tuple_iff] at h;exact h)) fun a ys e _=>?_;subst e;refine⟨a,r,rfl,h',hl,fun p hp=>?_⟩;refine q p F _ (.keep sF hp _) hp (zE sF hp) ⟨(m7 r).map fun p=>V.int p.2,?_,by simp,dcR_vals _ _ _⟩;rw[zo,dictR_T,l5]
  ·exact zqn hz
 ·exact zqn hz
def j8 (fo fk fx:FE):FE:=fun sd=>(fo sd).bind fun d=>match d with
 | .dct ks ds=>(fk sd).bind fun k=>(fx sd).bind fun x=>.ofO ((wD k).map fun q=>(ut ks ds q).getD x)
 |_=>.no
theorem q_get2 (hu:X.A.units+1<cLine)(ho:QE X E o fo)(he:QE X E e fa)(hf:QE X E f fb)(mm:M2 X o "get" apos e f cpos):QE X E (.Call (.Attribute o "get" apos) [e,f] [] cpos) (j8 fo fa fb):=PE.weak (pe_dget2 hu ho he hf mm) fun σ H Q zh=>by
 refine zc3b zh fun B F sd r n=>?_;refine⟨B,F,sd,r,(Res.need_bind n).mono (fun d n1 v F1 H1 e1 i1=>?_) fun _ _ q=>q⟩;cases d with
 |dct ks ds =>
  rw[IsD.dct_iff] at i1;refine zc2d i1 fun p xs zr2 h1 h2 h3=>?_;subst zr2;have hp:=e1.fh _ _ h1;refine⟨p,rfl,.inl ⟨_,.inl hp⟩,B,F1,sd,r.step e1,(Res.need_bind n1).mono (fun k n2 w F2 H2 e2 i2=>?_) fun _ _ q=>q.ext e1⟩;refine⟨B,F2,sd,(r.step e1).step e2,(Res.need_bind n2).mono (fun x n3 u F3 H3 e3 i3=>?_) fun _ _ q=>q.ext (e1.trans e2)⟩;refine zc1b (Res.need_ofO n3) fun z hz q=>?_;refine zc1b (Option.map_eq_some_iff.mp hz) fun k' hk hz=>?_;subst hz;obtain⟨g1,g2⟩:=t8 k' h2 h3;refine⟨sI (ks.zip xs) k',?_,?_⟩
  ·rw[wW hk i2];exact oJ.k (e3.hh _ _ (e2.hh _ _ hp))
  ·cases hv:ut ks ds k' with
   |none =>
    rw[hv] at q;rw[g2 hv];exact q _ F3 H3 ((e1.trans e2).trans e3) i3
   |some d =>
    rw[hv] at q;refine zc1b (g1 d hv) fun y hy iy=>?_;rw[hy];exact q _ F3 H3 ((e1.trans e2).trans e3) (IsD.same (e2.ff.trans e3.ff) _ _ iy)
 |_=>exact n1.elim
def lQ (i:Nat)(fk fv:FE):FS:=fun sd=>(fv sd).bind fun v=>match sd[i]? with
 |some (some (.own false (.dct ks ds)))=>(fk sd).bind fun k=>match wD k with
  |some q=>if ks.length<sizeLine then .ok (.next (sd.set i (some (.own false (.dct (o6 ks q) (mP ks ds q v)))))) else .no
  |none=>.no
 |_=>.no
theorem qs_dput {j:Nat}(hu:X.A.units+1<cLine)(ho:PE X o (j9 j))(hi:QE X E i fi)(hv:QE X E e fv)(hs:autoParam (swapsWith e (some (.Subscript o i pos')) pos.line X.env=pure false) zau._auto_1) :
 QS X E m (.Assign [.Subscript o i pos'] e pos) (lQ j fi fv):=PS.weak (ps_dput hu ho hi hv hs) fun T σ H zh=>by
 refine zc3b zh fun B F sd r n=>?_;refine⟨B,F,sd,r,(Res.need_bind n).mono (fun d n1 v F1 H1 e1 i1=>?_) fun _ _ q=>q.ext r.ext⟩
 split at n1
 ·rename_i ks ds hj;refine zc1e ((r.step e1).own hj) fun l h1 h2 h3 zr4 _=>?_;obtain⟨xs,h4,h5,h6⟩:=zr4;refine⟨.ref l,h1,B,F1,sd,r.step e1,(Res.need_bind n1).mono (fun k n2 w F2 H2 e2 i2=>?_) fun _ _ q=>q.ext (r.step e1).ext⟩
  split at n2
  ·rename_i q hk
   split at n2
   ·rename_i hz;refine zc1c (put_zip (K:=X.K) (q:=q) h5 (zn.same e2.ff _ _ h6) (IsD.same e2.ff _ _ i1)) fun ys y1 y2 y3=>?_;have hH:=e2.hh _ _ h4;refine⟨l,_,rfl,(by rw[wW hk i2];exact fO.k hH (by rw[List.length_zip];omega)),?_⟩;exact n2 σ F2 _ (e1.ff.trans e2.ff) (((r.step e1).step e2).chg hj h1 ⟨ys,by rw[zo,y1],y2,y3⟩)
   ·exact n2.elim
  ·exact n2.elim
 ·exact n1.elim
noncomputable def walkL:D->Option (List D)
 | .lst ds=>some ds
 | .scr ns=>some (ns.map .int)
 |_=>none
noncomputable def walkT:D->Option (List D)
 | .tup ds=>some ds
 |_=>none
def iL (f:FE):FA:=fun sd=>(f sd).bind fun d=>.ofO (walkL d)
def iT (f:FE):FA:=fun sd=>(f sd).bind fun d=>.ofO (walkT d)
theorem vU {K:W.Frag}{F1:Hp}{J:It}{ds:List D}{xs:List V}{S:Hp->Prop}(h:zn K F1 ds xs)(sm:∀F H,yw F1 F->yw F H->S H)(g:∀i H x,S H->xs[i]? = some x->J.go i H)(st:∀i H,S H->xs.length<=i->J.stop i H)
 (yl:∀i H x H',S H->J.yld i H x H'->H'=H/\xs[i]? = some x):eP K F1 J ds:=fun i F2 H2 s1 s2=>by
 have hS:=sm F2 H2 s1 s2;refine⟨fun hi=>?_,fun hi=>st i H2 hS (by rw[h.length];exact hi)⟩;refine zc1b (h.get (Zqg hi)) fun x hx _=>?_;refine⟨g i H2 x hS hx,fun y H3 hy=>?_⟩;obtain⟨rfl,hy'⟩:=yl i H2 y H3 hS hy;refine zc1b (h.getV hy') fun d hd id=>?_;exact⟨d,F2,hd,.refl s2,IsD.same s1 _ _ id⟩
theorem qi_list (h:QE X E e fa):QI X E tg e (iL fa):=PI.weak (pi_list h) fun σ H R zh=>by
 refine zc3b zh fun B F sd r n=>?_;refine⟨B,F,sd,r,(Res.need_bind n).mono (fun d n1 v F1 H1 e1 i1=>?_) fun _ _ q=>q⟩;refine zc1b (Res.need_ofO n1) fun ds hz q=>?_;cases d with
 |lst es =>
  obtain rfl:=Zqi hz;rw[IsD.lst_iff] at i1;refine zc2c i1 fun a xs zr2 h1 h2=>?_;subst zr2;refine⟨a,rfl,⟨xs,(h1.same e1.fh).sq⟩,q _ F1 H1 e1 (vU (S:=fun H=>SqL X.K H a xs) h2 (fun F H s1 s2=>((h1.same s1).same s2).sq) (fun i H x hS hx=>⟨xs,x,hS,hx⟩) (fun i H hS hi=>⟨xs,hS,hi⟩) fun i H x H' hS hy=>⟨hy.1,hy.2 xs hS⟩)⟩
 |scr ns =>
  obtain rfl:=Zqi hz;rw[IsD.scr_iff] at i1;refine zc1b i1 fun a zr1 h1=>?_;subst zr1;refine⟨a,rfl,⟨_,yw.seq e1.fh h1⟩,q _ F1 H1 e1 (vU (S:=fun H=>SqL X.K H a (ns.map V.int)) (zn.ints ns) (fun F H s1 s2=>yw.seq s2 (yw.seq s1 h1)) (fun i H x hS hx=>⟨_,x,hS,hx⟩) (fun i H hS hi=>⟨_,hS,hi⟩) fun i H x H' hS hy=>⟨hy.1,hy.2 _ hS⟩)⟩
 |_=>exact zqn hz
theorem qi_tup (h:QE X E e fa):QI X E tg e (iT fa):=PI.weak (pi_tup h) fun σ H R zh=>by
 refine zc3b zh fun B F sd r n=>?_;refine⟨B,F,sd,r,(Res.need_bind n).mono (fun d n1 v F1 H1 e1 i1=>?_) fun _ _ q=>q⟩;refine zc1b (Res.need_ofO n1) fun ds hz q=>?_;cases d with
 |tup es =>
  obtain rfl:=Zqi hz;rw[IsD.tup_iff] at i1;refine zc2c i1 fun a xs zr2 h1 h2=>?_;subst zr2;refine⟨a,rfl,⟨xs,(h1.same e1.fh).sq⟩,q _ F1 H1 e1 (vU (S:=fun H=>SqT X.K H a xs) h2 (fun F H s1 s2=>((h1.same s1).same s2).sq) (fun i H x hS hx=>⟨xs,x,hS,hx⟩) (fun i H hS hi=>⟨xs,hS,hi⟩) fun i H x H' hS hy=>⟨hy.1,hy.2 xs hS⟩)⟩
 |_=>exact zqn hz
noncomputable def PIor {X:Cx}{tg e:Expr}{t t':TI}(h:PI X tg e t)(h':PI X tg e t'):PI X tg e (fun σ H R=>t σ H R\/t' σ H R):=fun pins s σ H R I q=>q.elim (h pins s σ H R I) (h' pins s σ H R I)
noncomputable def oA:D->Option (List D)
 | .lst ds=>some ds
 | .scr ns=>some (ns.map .int)
 | .tup ds=>some ds
 |_=>none
def iS (f:FE):FA:=fun sd=>(f sd).bind fun d=>.ofO (oA d)
theorem yd (h:QE X E e fa):QI X E tg e (iS fa):=PI.weak (PIor (qi_list (E:=E) h) (qi_tup (E:=E) h)) fun σ H R zh=>by
 refine zc3b zh fun B F sd r n=>?_;by_cases hd:∃ds,fa sd=.ok (.tup ds)
 ·obtain⟨ds,hd⟩:=hd;refine .inr ⟨B,F,sd,r,?_⟩;unfold iS at n;unfold iT;rw[hd] at n ⊢;exact n
 ·refine .inl ⟨B,F,sd,r,?_⟩;unfold iS at n;unfold iL;cases hx:fa sd with
  |ok d =>
   rw[hx] at n;cases d with
   |tup ds=>exact Zn ⟨ds,hx⟩ hd
   |_=>exact n
  |no=>rw[hx] at n;exact n
  |ex c fs=>rw[hx] at n;exact n
noncomputable def zW (lo:Int)(n:Nat):List D:=(List.range n).map fun k:Nat=>.int (lo+k)
noncomputable def mH (j:Int):Bool:=Nat.ble j.toNat 1000000000&&Nat.ble (-j).toNat 1000000000
theorem nR {j:Int}(h:mH j=true) : -(2 ^ 62)<=j/\j<2 ^ 62:=by
 unfold mH at h;rw[Bool.and_eq_true,Nat.ble_eq,Nat.ble_eq] at h;omega
theorem rngOk_in {j:Int}(h1 : -1000000000<=j)(h2:j<=1000000000):mH j=true:=by
 unfold mH;rw[Bool.and_eq_true,Nat.ble_eq,Nat.ble_eq];omega
def iR1 (fr:FA):FA:=fun sd=>(fr sd).bind fun ds=>match ds with
 | [.int j]=>if mH j then .ok (zW 0 j.toNat) else .no
 |_=>.no
theorem walk_range {K:W.Frag}{F1:Hp}(lo:Int)(n:Nat):eP K F1 (Itr lo n) (zW lo n):=fun i F2 H2 s1 s2=>by
 have hl:(zW lo n).length=n:=by unfold zW;rw[Zql,ZA]
 rw[hl];refine⟨fun hi=>⟨hi,fun x H3 hy=>?_⟩,fun hi=>hi⟩;obtain⟨rfl,rfl⟩:=hy;refine⟨.int (lo+i),F2,?_,.refl s2,IsD.int_iff.mpr rfl⟩;unfold zW;rw[Zv,List.getElem?_range hi];rfl
theorem xc {a:Expr}(hg:Gl X "range")(hm:X.mg "range" = none)(ha:QA X E [a] fr)(hs:autoParam (starEach [a] X.env=[(false,eval a X.env)]) zau._auto_1):QI X E tg (.Call (.Name "range" p) [a] [] pos) (iR1 fr):=PI.weak (pi_range1 hg hm ha hs) fun σ H R zh=>by
 refine zc3b zh fun B F sd r n=>?_;refine⟨B,F,sd,r,(Res.need_bind n).mono (fun ds n1 vs F1 H1 e1 i1=>?_) fun _ _ q=>q⟩
 split at n1
 ·split at n1
  ·rename_i j hj;refine zc1b (xN i1) fun v zr1 h=>?_;subst zr1;rw[IsD.int_iff.mp h];exact⟨j,rfl,(nR hj).1,(nR hj).2,n1 _ F1 H1 e1 (walk_range 0 _)⟩
  ·exact n1.elim
 ·exact n1.elim
end
section
variable {X:Cx}{E:XK}{m:Option Bool}{a b o i e f tg:Expr}{fa fb fo fi fv:FE}{fr:FA}{pos pos' apos cpos p:Pos}
theorem PG.weak {e:Expr}{t t':TG}(h:PG X e t)(w:∀v σ H Q,t' v σ H Q->t v σ H Q):PG X e t':=fun pins s σ H v u Q I r q=>h pins s σ H v u Q I r (w _ _ _ _ q)
def kI:List Nat->TGs
 | []=>dq
 |i::is=>fH (rQ i) (kI is)
theorem qy:∀{is:List Nat} {xs:List V} {σ : St} {H:Hp} {Q:St->Hp->Prop},xs.length=is.length->Q (rP is xs σ) H->kI is xs σ H Q
 | [],xs,σ,H,Q,hl,q=>⟨List.length_eq_zero_iff.mp hl,q⟩
 |i::is,[],σ,H,Q,hl,q=>by cases hl
 |i::is,x::xs,σ,H,Q,hl,q=>⟨x,xs,rfl,qy (is:=is) (xs:=xs) (Nat.succ.inj hl) q⟩
theorem zO {i:Nat}{e:Expr}(h:PG X e (rQ i)):QG X e (.one i):=h
theorem l8 (is:List Nat){e:Expr}(h:PG X e (dj X.K is.length (kI is))):QG X e (.tup is):=PG.weak h (by rintro v σ H Q ⟨a,xs,e,h1,h2,q⟩;exact⟨a,xs,e,h1,h2,qy h2 q⟩)
def va (tg:Tg)(c:FT)(f:FE)(sd:SD):List D->Res (List D)
 | []=>.ok []
 |x::xs=>(yW tg x sd).bind fun s=>(c s).bind fun b=>if b then(f s).bind fun y=>(va tg c f sd xs).bind fun ys=>.ok (y::ys) else va tg c f sd xs
def xy (cap:List (Option Nat))(it:FA)(tg:Tg)(c:FT)(f:FE):FE:=fun sd=>(it sd).bind fun ds=>if rg (tX cap sd) tg=true/\ds.length<sizeLine then
 (va tg c f (tX cap sd) ds).bind fun ys=>.ok (.lst ys) else .no
theorem sP {K:W.Frag}{t:Tg}{fi:FA}{fc:FT}{f:FE}{cap:List (Option Nat)}{σ : St}{H:Hp}{Q:VK}(hh:tDN K E (xy cap fi t fc f) σ H Q):tq cap (tDI K E fi) (gT t K) (tDT K E fc) (tD K E f) σ H Q:=by
 refine zc3b hh fun B F sd r n=>?_;refine⟨B,F,sd,r,(Res.need_bind n).mono (fun ds n1 J F1 H1 e1 wk=>?_) fun _ _ q=>q⟩
 split at n1
 ·rename_i hh;obtain⟨hn,hz⟩:=hh;refine⟨fun i k ys σ H2=>k=ds.length-i/\i<=ds.length/\∃F2 es,Ext F1 H1 F2 H2/\RS K B F2 H2 (tX cap sd) σ /\ zn K F2 es ys/\es.length<=i /\
   (va t fc f (tX cap sd) (ds.drop i)).need (fun rs=>OkN K F2 H2 Q (.lst (es++rs))) (XW K E F2 H2),⟨ds.length,rfl,Nat.zero_le _,F1,[],.refl e1.fh,(r.step e1).cap cap,.nil,Zf _,?_⟩,?_⟩
  ·exact(Res.need_bind n1).mono (fun rs q=>(show OkN K F H Q (.lst rs) from q).ext e1) fun _ _ q=>q.ext e1
  rintro i k ys σ2 H2 ⟨rfl,hi,F2,es,e2,r2,i2,hl,n2⟩;have ly:=i2.length;refine⟨by omega,?_⟩;obtain⟨w1,w2⟩:=wk i F2 H2 e2.ff e2.fh;by_cases hlt:i<ds.length
  ·obtain⟨go,yl⟩:=w1 hlt;refine .inr ⟨go,fun x H3 y=>?_⟩;refine zc2c (yl x H3 y) fun d F3 hd e3 i3=>?_;rw[List.drop_eq_getElem_cons hlt] at n2;have hd':ds[i]=d:=by rw[Zqg hlt] at hd;exact Zqi hd
   rw[hd'] at n2;unfold va at n2;have r3:=r2.step e3;refine g8 (K:=K) r3 i3 (Res.need_bind n2) fun sd' σ' n4 hb r4=>?_;obtain⟨b1,b2⟩:=sS hn hb;refine⟨B,F3,sd',r4,(Res.need_bind n4).mono (fun b n5 F4 H4 e4=>?_) fun _ _ q=>q.ext e3⟩;cases b with
   |true =>
    refine⟨B,F4,sd',r4.step e4,(Res.need_bind n5).mono (fun y n6 v F5 H5 e5 i5=>?_) fun _ _ q=>q.ext (e3.trans e4)⟩;refine⟨ds.length-(i+1),by omega,rfl,hlt,F5,es++[y],((e2.trans e3).trans e4).trans e5,((r4.step e4).step e5).forget b1 b2,(zn.same ((e3.ff.trans e4.ff).trans e5.ff) _ _ i2).snoc i5,by rw[List.length_append];exact Nat.succ_le_succ hl,?_⟩;refine(Res.need_bind n6).mono (fun rs q=>?_) fun _ _ q=>q.ext ((e3.trans e4).trans e5);rw[List.append_assoc];exact(show OkN K F2 H2 Q (.lst (es++y::rs)) from q).ext ((e3.trans e4).trans e5)
   |false =>
    refine⟨ds.length-(i+1),by omega,rfl,hlt,F4,es,(e2.trans e3).trans e4,(r4.step e4).forget b1 b2,zn.same (e3.ff.trans e4.ff) _ _ i2,Nat.le_succ_of_le hl,?_⟩;exact(show(va t fc f (tX cap sd) (ds.drop (i+1))).need _ _ from n5).mono (fun rs q=>q.ext (e3.trans e4)) fun _ _ q=>q.ext (e3.trans e4)
  ·have he:i=ds.length:=by omega
   subst he;refine .inl ⟨w2 (Zf _),fun D hD=>?_⟩;rw[List.drop_length] at n2;have q:OkN K F2 H2 Q (.lst (es++[])):=n2;rw[Zz] at q;exact q D F2 _ (.keep r2.ext.fh hD _) hD (zE r2.ext.fh hD) ⟨ys,zo,i2⟩
 ·exact n1.elim
theorem oV {tg iter elt c:Expr}{scope:Scope}{t:Tg}{fi:FA}{fc:FT}{f:FE}(N:List Str)(cap:List (Option Nat))(hc:X.calm=true)(okB:yH scope X.env N X.N cap=true)(hi:QI X E tg iter fi)
 (hg:∀cl C s H ex,QG (zx X scope N cl C s H ex) tg t) (ht:∀cl C s H ex,QT (zx X scope N cl C s H ex) E c fc) (he:∀cl C s H ex,QE (zx X scope N cl C s H ex) E elt f) (hs:autoParam (∀x,foldedSetIterable iter X.env x=pure x) zaw._auto_1) :
 QN X E (.ListComp elt [⟨tg,iter,[c],0⟩] scope pos) (xy cap fi t fc f):=PE.weak (pe_compIf (g:=gT t X.K) (tt:=tDT X.K E fc) (te:=tD X.K E f) N cap hc okB hi hg ht he hs) fun _ _ _ h=>sP h
noncomputable def wL:List Key->List D->Option (List (Int×Int))
 | .inl k::ks,.int v::ds=>(wL ks ds).map fun r=>(k,v)::r
 | [],[]=>some []
 |_,_=>none
noncomputable def PairsP (ks:List Key)(ds:List D)(r:List (Int×Int)):Prop:=ks=r.map (fun p=>.inl p.1)/\ds=r.map fun p=>.int p.2
theorem pairsOf_inv {ks:List Key}{ds:List D}{r:List (Int×Int)}(h:wL ks ds=some r):PairsP ks ds r:=by
 induction ks generalizing ds r with
 |nil =>
  cases ds with
  |nil=>obtain rfl:=Zqi h;exact⟨rfl,rfl⟩
  |cons _ _=>exact zqn h
 |cons k ks ih =>
  cases k with
  |inr _=>exact zqn h
  |inl k =>
   cases ds with
   |nil=>exact zqn h
   |cons d ds =>
    cases d with
    |int v =>
     refine zc1b (Option.map_eq_some_iff.mp (show(wL ks ds).map (fun r=>(k,v)::r)=some r from h)) fun r' h1 h2=>?_;subst h2;exact⟨Zt (Sum.inl k :: ·) (ih h1).1,Zt (D.int v :: ·) (ih h1).2⟩
    |_=>exact zqn h
theorem pairsOf_dcR (r:List (Int×Int)):wL (r.map fun p=>.inl p.1) (r.map fun p=>.int p.2)=some r:=by
 induction r with
 |nil=>rfl
 |cons p r ih=>exact Zt (Option.map fun r=>(p.1,p.2)::r) ih
theorem Ext.many {F H:Hp}{L:List (Addr×HO)}(s:yw F H)(fr:∀p∈L,H p.1=none):Ext F H (rR F L) (rR H L):=by
 have old:∀{G:Hp} {b:Addr},H b≠none->rR G L b=G b:=fun {G b} hb=>uz fun p hp z=>hb (by rw[<- z];exact fr p hp);have ne:∀{b:Addr} {o:HO},H b=some o->H b≠none:=fun {b o} e z=>by rw[e] at z;cases z
 refine⟨fun b o e=>by rw[old (ne (s _ _ e))];exact e,fun b o e=>?_,fun b o e=>by rw[old (ne e)];exact e,fun a e n=>by rw[old n];exact e⟩;rcases pE e with h|⟨h1,h2⟩
 ·unfold rR at e ⊢
  split at e
  ·exact e
  ·exact s _ _ e
 ·rw[uz h1];exact s _ _ h2
def vT:D->Option D
 | .dct ks ds=>(wL ks ds).bind fun r=>if r ≠ []/\r.length<1000 then some (.lst ((zQ wp r).map prD)) else none
 |_=>none
def vI (fo:FE):FE:=fun sd=>(fo sd).bind fun d=>.ofO (vT d)
theorem q_sortItems {e:Expr}(h:∀{to:TE},PE X o to->PE X e (tCB (fun xs H Q=>∃vw d r,xs=[.ref vw]/\H vw=some (qX vw d)/\H d=some (.dK (kvR r))/\r ≠ []/\r.length<1000/\∀l L,(∀p∈L,H p.1=none)->(L.map (·.1)).Nodup->(∀G,Is (rR G L) (.list ((zQ wp r).map pD)) (.ref l))->Q (.ref l) (rR H L))
 (hV (df X.K "dict" (fun x vs H Q=>∃d kvs,x=.ref d/\vs=[]/\H d=some (.dK kvs)/\∀p,H p=none->Q (.ref p) (upd H p (qX p d))) to) eS))) (ho:QE X E o fo):QE X E e (vI fo):=PE.weak (h ho) fun σ H Q zh=>by
 refine zc3b zh fun B F sd r n=>?_;refine⟨B,F,sd,r,(Res.need_bind n).mono (fun d n1 v F1 H1 e1 i1=>?_) fun _ _ q=>q⟩;refine zc1b (Res.need_ofO n1) fun z hz q=>?_;cases d with
 |dct ks ds =>
  refine zc1b (Option.bind_eq_some_iff.mp (show(wL ks ds).bind (fun r=>if r ≠ []/\r.length<1000 then some (D.lst ((zQ wp r).map prD)) else none)=some z from hz)) fun rr h1 h2=>?_
  split at h2
  ·rename_i hc;obtain rfl:=Zqi h2;obtain⟨k1,k2⟩:=pairsOf_inv h1;rw[IsD.dct_iff] at i1;refine zc2d i1 fun d xs zr2 g1 g2 g3=>?_;subst zr2;have ex:xs=rr.map fun p=>V.int p.2:=by
    have g3':=g3;rw[k2] at g3';have:=zn.ints_iff (ns:=rr.map (·.2)) (by rw[Zw];exact g3');rw[this,Zw];rfl
   have hd:F1 d=some (.dK (kvR rr)):=by rw[g1,k1,ex,<- l5]
   have hd':=e1.fh _ _ hd;refine⟨.inr (.inr (.inl ⟨rfl,.inl ⟨_,hd'⟩⟩)),d,_,rfl,rfl,hd',fun vw hvw=>?_⟩;have sn:=y9 hvw (qX vw d);refine⟨vw,d,rr,rfl,zo,sn _ _ hd',hc.1,hc.2,fun l L fr nd hl=>?_⟩;have ek:Ext F1 H1 F1 (upd H1 vw (qX vw d)):=.keep e1.fh hvw _;have en:=Ext.many ek.fh fr;refine q _ _ _ (e1.trans (ek.trans en)) ?_;refine zc2c (Is.list_iff.mp (hl F1)) fun l' ys e' g4 g5=>?_;exact IsD.lst_iff.mpr ⟨l',ys,e',.of g4,tR.mpr g5⟩
  ·exact zqn h2
 |_=>exact zqn hz
end
section
variable {X:Cx}{E:XK}{m:Option Bool}{a b o i e f tg:Expr}{fa fb fo fi fv:FE}{fr:FA}{pos pos' apos cpos p:Pos}
noncomputable def fA (neg:Bool):D->Option D
 | .non=>some (.bl (!neg))
 |_=>some (.bl neg)
noncomputable def isNonD:D->Bool
 | .non=>true
 |_=>false
theorem nonV_iff {K:W.Frag}{H:Hp}{d:D}{v:V}(h:IsD K H d v):decide (v=.non)=isNonD d:=by
 cases d with
 |non=>rw[IsD.non_iff.mp h];rfl
 |bl b=>rw[IsD.bl_iff.mp h];rfl
 |int b=>rw[IsD.int_iff.mp h];rfl
 |str b=>rw[IsD.str_iff.mp h];rfl
 |ty b=>rw[IsD.ty_iff.mp h];rfl
 |scr b=>obtain⟨a,rfl,_⟩:=IsD.scr_iff.mp h;rfl
 |tup b=>obtain⟨a,_,rfl,_⟩:=IsD.tup_iff.mp h;rfl
 |lst b=>obtain⟨a,_,rfl,_⟩:=IsD.lst_iff.mp h;rfl
 |dct b c=>obtain⟨a,_,rfl,_⟩:=IsD.dct_iff.mp h;rfl
 |ins b c d=>obtain⟨a,_,_,_,rfl,_⟩:=IsD.ins_iff.mp h;rfl
 |exc b=>obtain⟨a,_,rfl,_⟩:=IsD.exc_iff.mp h;rfl
 |ucl b=>obtain⟨a,rfl,_⟩:=IsD.ucl_iff.mp h;rfl
 |adr b=>rw[IsD.adr_iff.mp h];rfl
 |dcf b c=>obtain⟨a,_,_,rfl,_⟩:=IsD.dcf_iff.mp h;rfl
theorem tD_isN {K:W.Frag}{σ : St}{H:Hp}{Q:VK}(h:tD K E (dUn (fA false) fa) σ H Q):di (tD K E fa) σ H Q:=by
 obtain⟨B,F,sd,r,n⟩:=h;refine⟨B,F,sd,r,(Res.need_bind n).mono (fun x n1 v F1 H1 e1 i1=>?_) fun _ _ q=>q⟩;show Q (V.bl (decide (v=V.non))) H1;rw[nonV_iff i1];cases x<;>exact n1 _ F1 H1 e1 (IsD.bl_iff.mpr rfl)
theorem qt_isN {j pos'}(ha:QE X E a fa):QT X E (.Compare a [.Is] [.Constant .none j pos'] pos) (zu (dUn (fA false) fa)):=PT.weak (jd (pc_isN ha)) fun _ _ _ h=>tD_isN (xU h)
def ue (i:Nat)(fb:FE):FE:=fun sd=>match sd[i]? with
 |some (some (.own _ d))=>(fb sd).bind fun y=>.ofO (gIx d y)
 |_=>.no
theorem o7 {i:Nat}(hu:X.A.units+1<cLine)(ha:PE X a (j9 i))(hb:QE X E b fb)(hs:oz b)(hs2:fT b):QE X E (.Subscript a b pos) (ue i fb) :=
 PE.weak (PE.or (kN hu ha hb hs2) (fQ jc ha hb hs)) fun σ H Q zh=>by
  refine zc3b zh fun B F sd r n=>?_;unfold ue at n
  split at n
  ·rename_i p d hi;refine zc1e (r.own hi) fun l h1 h2 h3 h4 _=>?_;cases d with
   |lst ds =>
    refine zc1b h4 fun xs g1 g2=>?_;refine .inr ⟨.ref l,h1,B,F,sd,r,(Res.need_bind n).mono (fun y n1 w F1 H1 e1 i1=>?_) fun _ _ q=>q⟩;refine zc1b (Res.need_ofO n1) fun z hz q=>?_;cases y with
    |int k =>
     refine zc1b (kO g2 (show atI ds k=some z from hz)) fun x hx ix=>?_;exact⟨l,xs,k,x,rfl,IsD.int_iff.mp i1,SqL.of (e1.hh _ _ g1),hx,q _ F1 H1 e1 (IsD.same e1.ff _ _ ix)⟩
    |_=>exact zqn hz
   |dct ks ds =>
    refine zc1c h4 fun xs g1 g2 g3=>?_;refine .inl ⟨.ref l,h1,B,F,sd,r,(Res.need_bind n).mono (fun y n1 w F1 H1 e1 i1=>?_) fun _ _ q=>q⟩;refine zc1b (Res.need_ofO n1) fun z hz q=>?_;refine zc1b (Option.bind_eq_some_iff.mp (show(wD y).bind (fun q=>ut ks ds q)=some z from hz)) fun k hk hz=>?_;refine zc1b ((t8 k g2 g3).1 z hz) fun x hx ix=>?_;refine⟨l,x,rfl,?_,q x F1 H1 e1 (IsD.same e1.ff _ _ ix)⟩;rw[wW hk i1,<- hx];exact oJ.k (e1.hh _ _ g1)
   |ins c fs ds =>
    refine .inr ⟨.ref l,h1,B,F,sd,r,(Res.need_bind n).mono (fun y n1 w F1 H1 e1 i1=>?_) fun _ _ q=>q⟩;refine zc1b (Res.need_ofO n1) fun z hz q=>?_;cases y<;>exact zqn hz
   |_=>exact h4.elim
  ·exact n.elim
end
end L2.DL
namespace L2
section
variable {X:Cx}{tg iter elt c:Expr}{scope:Scope}{pos:Pos}{wi:TI}{g:TG}{te:TE}{tt:TT}
theorem kT {y:Str}{py:Pos}{iy:Nat}{pins:List (Addr×Obj)}{σ : St}{DD:Ends}(hNN:X.N.Nodup)(hiy:X.N[iy]? = some y)(hyy:Loc X.env.scope y)(hyf:X.fn y=true\/X.env.scope.names.lookup y=some .local) :
 uT X pins σ (fun v H'=>DD.nx (σ.set iy (some v)) H') (some (assign (.Name y py) X.env)) (fun _ s'=>SP X pins DD .next s'):=fun C D m s5 r hm nC nF sz cC pC k=>by
 refine zc2d (k s5.heap ⟨rfl,fun _ _=>rfl⟩) fun v5 H5 K5 rv5 fC q5=>?_;refine zc3c (id hm) fun oC esC epC hoC hdC hrC=>?_;have KP:Inv X (pins++[(C,oC)]) σ H5 { s5 with heap:=s5.heap }:=K5.pins_of fun p hp=>by
  rcases List.mem_append.mp hp with hp|hp
  ·exact K5.pin p (List.mem_append_right _ hp)
  ·have e:=List.mem_singleton.mp hp;subst e;exact⟨hoC,fC,nC,nF,fun v z=>by rw[show oC.data=_ from z] at hdC;cases hdC⟩
 refine wpAny_assign_Name (rT KP hNN hiy hyy rv5 (fun s6 I6=>?_) hyf);have p6:=I6.pin (C,oC) (List.mem_append_right _ (List.mem_append_right _ Zqs));refine⟨m,⟨oC,esC,epC,p6.1,hdC,hrC⟩,fun h' hs'=>⟨_,H5,?_,q5⟩⟩;exact(I6.pins_of (pins':=pins) fun p hp=>I6.pin p (List.mem_append_right _ (List.mem_append_left _ hp))).turned (t':=s6.toks) (it:=C) (fun b o hb e=>(hs'.2 b hb).trans e) fC nC (.inr sz) cC pC
theorem ps_setComp {y:Str}{py spos:Pos}{iy:Nat}(hsw:swapsWith (.ListComp elt [⟨tg,iter,[],0⟩] scope pos) (some (.Name y py)) spos.line X.env=pure true)(hNN:X.N.Nodup)(hiy:X.N[iy]? = some y)(hyy:Loc X.env.scope y)(hyf:X.fn y=true\/X.env.scope.names.lookup y=some .local)(N:List Str)(cap:List (Option Nat))(hc:X.calm=true)(okB:yH scope X.env N X.N cap=true)(hi:PI X tg iter wi)(hg:∀cl C s H ex,PG (zx X scope N cl C s H ex) tg g)(he:∀cl C s H ex,PE (zx X scope N cl C s H ex) elt te)
 (hs:autoParam (∀x,foldedSetIterable iter X.env x=pure x) zaw._auto_1):PS X (.Assign [.Name y py] (.ListComp elt [⟨tg,iter,[],0⟩] scope pos) spos) (fm (lJ cap wi g te) (rQ iy)):=by
 intro pins s σ H DD I h;rw[exec_Assign_Name_used _ _ _ _ hsw];refine Za (wpAny_standAt (Za ?_));refine Za (Zc (k8 (use:=some (assign (.Name y py) X.env)) (R:=fun _ s'=>SP X pins DD .next s') N cap hc okB hi hg (fun cl C s H ex _=>he cl C s H ex) hs I h (kT hNN hiy hyy hyf)) (fun _ s' hq=>Zb (Zb hq)) fun _ _ e=>e)
theorem ps_setCompIf {y:Str}{py spos:Pos}{iy:Nat}(hsw:swapsWith (.ListComp elt [⟨tg,iter,[c],0⟩] scope pos) (some (.Name y py)) spos.line X.env=pure true)(hNN:X.N.Nodup)(hiy:X.N[iy]? = some y)(hyy:Loc X.env.scope y)(hyf:X.fn y=true\/X.env.scope.names.lookup y=some .local)(N:List Str)(cap:List (Option Nat))(hc:X.calm=true)(okB:yH scope X.env N X.N cap=true)(hi:PI X tg iter wi)(hg:∀cl C s H ex,PG (zx X scope N cl C s H ex) tg g)(ht:∀cl C s H ex,PT (zx X scope N cl C s H ex) c tt)(he:∀cl C s H ex,PE (zx X scope N cl C s H ex) elt te)
 (hs:autoParam (∀x,foldedSetIterable iter X.env x=pure x) zaw._auto_1):PS X (.Assign [.Name y py] (.ListComp elt [⟨tg,iter,[c],0⟩] scope pos) spos) (fm (tq cap wi g tt te) (rQ iy)):=by
 intro pins s σ H DD I h;rw[exec_Assign_Name_used _ _ _ _ hsw];refine Za (wpAny_standAt (Za ?_));refine Za (Zc (pi (use:=some (assign (.Name y py) X.env)) (R:=fun _ s'=>SP X pins DD .next s') N cap hc okB hi hg ht he hs I h (kT hNN hiy hyy hyf)) (fun _ s' hq=>Zb (Zb hq)) fun _ _ e=>e)
end
end L2
namespace L2.DL
section
variable {X:Cx}{E:XK}{m:Option Bool}{tg iter elt c:Expr}{scope:Scope}{pos spos py:Pos}{y:Str}{iy:Nat}{t:Tg}{fi:FA}{fc:FT}{f:FE}
theorem lK {K:W.Frag}{te:TE}{i:Nat}{fe:FE}(w:∀σ H Q,tDN K E fe σ H Q->te σ H Q){T:Ends}{σ : St}{H:Hp}(h:tDS K E m (xA i fe) T σ H):fm te (rQ i) T σ H:=w _ _ _ (by
 obtain⟨B,F,sd,r,n⟩:=h;refine⟨B,F,sd,r,(Res.need_bind n).mono (fun d n1=>OkD.new fun v F1 H1 e1 i1=>?_) fun _ _ q=>q.ext r.ext⟩;exact n1 _ F1 H1 e1.ff ((r.step e1).setVal i1))
theorem qs_setComp (N:List Str)(cap:List (Option Nat))(hNN:X.N.Nodup)(hiy:X.N[iy]? = some y)(hyy:Loc X.env.scope y)(hc:X.calm=true)(okB:yH scope X.env N X.N cap=true)(hi:QI X E tg iter fi)
 (hg:∀cl C s H ex,QG (zx X scope N cl C s H ex) tg t) (he:∀cl C s H ex,QE (zx X scope N cl C s H ex) E elt f) (hsw:autoParam (swapsWith (.ListComp elt [⟨tg,iter,[],0⟩] scope pos) (some (.Name y py)) spos.line X.env=pure true) zau._auto_1)
 (hyf:X.fn y=true\/X.env.scope.names.lookup y=some .local:=by first|exact .inl rfl|exact .inr rfl) (hs:∀x,foldedSetIterable iter X.env x=pure x:=by intro _;rfl) :
 QS X E m (.Assign [.Name y py] (.ListComp elt [⟨tg,iter,[],0⟩] scope pos) spos) (xA iy (wC cap fi t f)):=by
 have hh:=ps_setComp (g:=gT t X.K) (te:=tD X.K E f) hsw hNN hiy hyy hyf N cap hc okB hi hg he hs;exact PS.weak hh fun T σ H h=>lK (fun _ _ _ q=>nQ q) h
theorem wt (N:List Str)(cap:List (Option Nat))(hNN:X.N.Nodup)(hiy:X.N[iy]? = some y)(hyy:Loc X.env.scope y)(hc:X.calm=true)(okB:yH scope X.env N X.N cap=true)(hi:QI X E tg iter fi)
 (hg:∀cl C s H ex,QG (zx X scope N cl C s H ex) tg t) (ht:∀cl C s H ex,QT (zx X scope N cl C s H ex) E c fc) (he:∀cl C s H ex,QE (zx X scope N cl C s H ex) E elt f) (hsw:autoParam (swapsWith (.ListComp elt [⟨tg,iter,[c],0⟩] scope pos) (some (.Name y py)) spos.line X.env=pure true) zau._auto_1)
 (hyf:X.fn y=true\/X.env.scope.names.lookup y=some .local:=by first|exact .inl rfl|exact .inr rfl) (hs:∀x,foldedSetIterable iter X.env x=pure x:=by intro _;rfl) :
 QS X E m (.Assign [.Name y py] (.ListComp elt [⟨tg,iter,[c],0⟩] scope pos) spos) (xA iy (xy cap fi t fc f)):=by
 have hh:=ps_setCompIf (g:=gT t X.K) (tt:=tDT X.K E fc) (te:=tD X.K E f) hsw hNN hiy hyy hyf N cap hc okB hi hg ht he hs;exact PS.weak hh fun T σ H h=>lK (fun _ _ _ q=>sP q) h
end
noncomputable def gW:Option (Option SV)->Res D
 |some (some (.val d))=>.ok d
 |_=>.no
@[simp] theorem slotV_val (d:D):gW (some (some (.val d)))=.ok d:=rfl
@[simp] theorem ev_var (i:Nat)(sd:SD):zf i sd=gW sd[i]? := rfl
@[simp] theorem ev_C (d:D)(sd:SD):dC d sd=.ok d:=rfl
@[simp] theorem ev_op (g:D->D->Option D)(fa fb:FE)(sd:SD):dOp g fa fb sd=(fa sd).bind fun x=>(fb sd).bind fun y=>.ofO (g x y):=rfl
@[simp] theorem ev_un (g:D->Option D)(fa:FE)(sd:SD):dUn g fa sd=(fa sd).bind fun x=>.ofO (g x):=rfl
noncomputable def bOf:D->Res Bool
 | .bl b=>.ok b
 |_=>.no
@[simp] theorem bOf_bl (b:Bool):bOf (.bl b)=.ok b:=rfl
@[simp] theorem ev_bool (fa:FE)(sd:SD):zu fa sd=(fa sd).bind bOf:=by
 unfold zu;cases fa sd with
 |ok d=>cases d<;>rfl
 |ex c fs=>rfl
 |no=>rfl
@[simp] theorem ev_notT (f:FT)(sd:SD):vK f sd=(f sd).bind fun b=>.ok (!b):=rfl
@[simp] theorem ev_andT (f g:FT)(sd:SD):qV f g sd=(f sd).bind fun b=>if b then g sd else .ok false:=rfl
@[simp] theorem ev_orT (f g:FT)(sd:SD):mS f g sd=(f sd).bind fun b=>if b then .ok true else g sd:=rfl
@[simp] theorem ev_andV (fa fb:FE)(sd:SD):kr fa fb sd=(zu fa sd).bind fun b=>if b then fb sd else .ok (.bl false):=rfl
@[simp] theorem ev_notV (fa:FE)(sd:SD):gr fa sd=(zu fa sd).bind fun b=>.ok (.bl !b):=rfl
@[simp] theorem ev_nil (sd:SD):zq sd=.ok []:=rfl
@[simp] theorem ev_cons (fa:FE)(fr:FA)(sd:SD):zc fa fr sd=(fa sd).bind fun x=>(fr sd).bind fun xs=>.ok (x::xs):=rfl
@[simp] theorem ev_lst (fr:FA)(sd:SD):uo fr sd=(fr sd).bind fun xs=>if xs.length<=1000 then .ok (.lst xs) else .no:=rfl
@[simp] theorem ev_tup (fr:FA)(sd:SD):mM fr sd=(fr sd).bind fun xs=>if xs.length<=1000 then .ok (.tup xs) else .no:=rfl
@[simp] theorem ev_call (Fn:List D->Res D)(fr:FA)(sd:SD):zy Fn fr sd=(fr sd).bind Fn:=rfl
@[simp] theorem ev_blt (g:List D->Option D)(fr:FA)(sd:SD):xq g fr sd=(fr sd).bind fun xs=>.ofO (g xs):=rfl
@[simp] theorem bare_ok {α : Type}(a:α):(Res.ok a).bare=.ok a:=rfl
@[simp] theorem ev_tmp (is:List Nat)(f:FE)(sd:SD):jt is f sd=(f (tV is sd)).bare.bind fun d=>if qG d then .ok d else .no:=rfl
@[simp] theorem ev_tmpT (is:List Nat)(f:FT)(sd:SD):ow is f sd=(f (tV is sd)).bare:=rfl
@[simp] theorem scal_int (i:Int):qG (.int i)=true:=rfl
@[simp] theorem scal_bl (i:Bool):qG (.bl i)=true:=rfl
@[simp] theorem frzD_nil (sd:SD):tV [] sd=sd:=rfl
noncomputable def frz1 (i:Nat)(sd:SD):Option (Option SV)->SD
 |some (some (.own _ d))=>sd.set i (some (.val d))
 |_=>sd
@[simp] theorem frz1_own (i:Nat)(sd:SD)(p:Bool)(d:D):frz1 i sd (some (some (.own p d)))=sd.set i (some (.val d)):=rfl
@[simp] theorem frzD_cons (i:Nat)(is:List Nat)(sd:SD):tV (i::is) sd=tV is (frz1 i sd sd[i]?):=by
 show tV is _=tV is _
 congr 1
noncomputable def jq (g:FS):Out->Res Out
 | .next sd=>g sd
 |o=>.ok o
@[simp] theorem seqK_next (g:FS)(sd:SD):jq g (.next sd)=g sd:=rfl
@[simp] theorem seqK_ret (g:FS)(d:D):jq g (.ret d)=.ok (.ret d):=rfl
@[simp] theorem seqK_brk (g:FS)(d:SD):jq g (.brk d)=.ok (.brk d):=rfl
@[simp] theorem ev_seq (g1 g2:FS)(sd:SD):zV g1 g2 sd=(g1 sd).bind (jq g2):=by
 unfold zV;cases g1 sd with
 |ok o=>cases o<;>rfl
 |ex c fs=>rfl
 |no=>rfl
@[simp] theorem ev_next (sd:SD):yx sd=.ok (.next sd):=rfl
@[simp] theorem ev_brk (sd:SD):eG sd=.ok (.brk sd):=rfl
@[simp] theorem ev_set (i:Nat)(f:FE)(sd:SD):xA i f sd=(f sd).bind fun d=>.ok (.next (sd.set i (some (.val d)))):=rfl
@[simp] theorem ev_own (i:Nat)(f:FE)(sd:SD):pW i f sd=(f sd).bind fun d=>.ok (.next (sd.set i (some (.own false d)))):=rfl
@[simp] theorem ev_ret (f:FE)(sd:SD):xL f sd=(f sd).bind fun d=>.ok (.ret d):=rfl
noncomputable def eD:Option (Option SV)->Res D
 |some (some (.own _ d))=>.ok d
 |_=>.no
@[simp] theorem ownV_own (p:Bool)(d:D):eD (some (some (.own p d)))=.ok d:=rfl
@[simp] theorem ev_retOwn (i:Nat)(sd:SD):yN i sd=(eD sd[i]?).bind fun d=>.ok (.ret d):=by
 unfold yN;cases sd[i]? with
 |none=>rfl
 |some o =>
  cases o with
  |none=>rfl
  |some v=>cases v<;>rfl
@[simp] theorem ev_drop (f:FE)(sd:SD):jQ f sd=(f sd).bind fun _=>.ok (.next sd):=rfl
@[simp] theorem ev_ifS (c:FT)(g1 g2:FS)(sd:SD):sIf c g1 g2 sd=(c sd).bind fun b=>if b then g1 sd else g2 sd:=rfl
noncomputable def gP:Option (Option SV)->Res (List D)
 |some (some (.own false (.lst ds)))=>.ok ds
 |_=>.no
@[simp] theorem ownL_own (ds:List D):gP (some (some (.own false (.lst ds))))=.ok ds:=rfl
@[simp] theorem ev_append (i:Nat)(f:FE)(sd:SD):yb i f sd=(gP sd[i]?).bind fun ds=>(f sd).bind fun d=>if ds.length<sizeLine then .ok (.next (sd.set i (some (.own false (.lst (ds++[d])))))) else .no:=by
 unfold yb;cases sd[i]? with
 |none=>rfl
 |some o =>
  cases o with
  |none=>rfl
  |some v =>
   cases v with
   |val d=>rfl
   |own p d=>cases p<;>cases d<;>rfl
noncomputable def f6:D->Res (List D)
 | .lst es=>.ok es
 |_=>.no
@[simp] theorem lstOf_lst (es:List D):f6 (.lst es)=.ok es:=rfl
@[simp] theorem ev_extend (i:Nat)(f:FE)(sd:SD):vL i f sd=(gP sd[i]?).bind fun ds=>(f sd).bind fun d=>(f6 d).bind fun es=>if ds.length+es.length<=sizeLine then .ok (.next (sd.set i (some (.own false (.lst (ds++es)))))) else .no:=by
 unfold vL;cases sd[i]? with
 |none=>rfl
 |some o =>
  cases o with
  |none=>rfl
  |some v =>
   cases v with
   |val d=>rfl
   |own p d =>
    cases p with
    |true=>cases d<;>rfl
    |false =>
     cases d with
     |lst ds =>
      show(f sd).bind _=(f sd).bind _;cases f sd with
      |ok x=>cases x<;>rfl
      |ex c fs=>rfl
      |no=>rfl
     |_=>rfl
noncomputable def eV:Option (Option SV)->Res (List Key×List D)
 |some (some (.own false (.dct ks ds)))=>.ok (ks,ds)
 |_=>.no
@[simp] theorem ownK_own (ks:List Key)(ds:List D):eV (some (some (.own false (.dct ks ds))))=.ok (ks,ds):=rfl
@[simp] theorem ev_dput (i:Nat)(fk fv:FE)(sd:SD):lQ i fk fv sd=(fv sd).bind fun v=>(eV sd[i]?).bind fun o=>(fk sd).bind fun k=>(Res.ofO (wD k)).bind fun q=>if o.1.length<sizeLine then .ok (.next (sd.set i (some (.own false (.dct (o6 o.1 q) (mP o.1 o.2 q v)))))) else .no:=by
 unfold lQ;cases fv sd with
 |ok v =>
  show(match sd[i]? with
   |some (some (.own false (.dct ks ds)))=>_
   |_=>_)=(eV sd[i]?).bind _
  cases sd[i]? with
  |none=>rfl
  |some o =>
   cases o with
   |none=>rfl
   |some w =>
    cases w with
    |val d=>rfl
    |own p d =>
     cases p with
     |true=>cases d<;>rfl
     |false =>
      cases d with
      |dct ks ds =>
       show(fk sd).bind _=(fk sd).bind _;cases fk sd with
       |ok k=>show(match wD k with|some q=>_|none=>_)=(Res.ofO (wD k)).bind _;cases wD k<;>rfl
       |ex c fs=>rfl
       |no=>rfl
      |_=>rfl
 |ex c fs=>rfl
 |no=>rfl
noncomputable def ik:Out->Res D
 | .ret d=>.ok d
 | .next _=>.ok .non
 |_=>.no
@[simp] theorem outV_ret (d:D):ik (.ret d)=.ok d:=rfl
theorem iP (n ar:Nat)(g:FS)(ds:List D)(h:ds.length=ar):ur n ar g ds=(g (wI n ds)).bind ik:=by
 unfold ur;rw[Zd h];cases g (wI n ds) with
 |ok o=>cases o<;>rfl
 |ex c fs=>rfl
 |no=>rfl
noncomputable def ir:Out->Res D
 | .ret d=>.ok d
 |_=>.no
@[simp] theorem outN_ret (d:D):ir (.ret d)=.ok d:=rfl
theorem gq (n ar:Nat)(g:FS)(ds:List D)(h:ds.length=ar):si n ar g ds=(g (wI n ds)).bind ir:=by
 unfold si;rw[Zd h];cases g (wI n ds) with
 |ok o=>cases o<;>rfl
 |ex c fs=>rfl
 |no=>rfl
@[simp] theorem run_d1 (n:Nat)(g:FS)(a:D):ur n 1 g [a]=(g (some (.val a)::List.replicate (n-1) none)).bind ik:=iP n 1 g [a] rfl
@[simp] theorem run_d2 (n:Nat)(g:FS)(a b:D):ur n 2 g [a,b]=(g (some (.val a)::some (.val b)::List.replicate (n-2) none)).bind ik:=iP n 2 g [a,b] rfl
@[simp] theorem run_d3 (n:Nat)(g:FS)(a b c:D):ur n 3 g [a,b,c]=(g (some (.val a)::some (.val b)::some (.val c)::List.replicate (n-3) none)).bind ik:=iP n 3 g [a,b,c] rfl
@[simp] theorem run_n1 (n:Nat)(g:FS)(a:D):si n 1 g [a]=(g (some (.val a)::List.replicate (n-1) none)).bind ir:=gq n 1 g [a] rfl
@[simp] theorem run_n2 (n:Nat)(g:FS)(a b:D):si n 2 g [a,b]=(g (some (.val a)::some (.val b)::List.replicate (n-2) none)).bind ir:=gq n 2 g [a,b] rfl
@[simp] theorem run_n3 (n:Nat)(g:FS)(a b c:D):si n 3 g [a,b,c]=(g (some (.val a)::some (.val b)::some (.val c)::List.replicate (n-3) none)).bind ir:=gq n 3 g [a,b,c] rfl
@[simp] theorem gAdd_int (i j:Int):wU (.int i) (.int j)=some (.int (i+j)):=rfl
@[simp] theorem gSub_int (i j:Int):gO (.int i) (.int j)=some (.int (i-j)):=rfl
@[simp] theorem gNeg_int (i:Int):i9 (.int i)=some (.int (-i)):=rfl
@[simp] theorem gLt_int (i j:Int):gLt (.int i) (.int j)=some (.bl (decide (i<j))):=rfl
@[simp] theorem gGt_int (i j:Int):gGt (.int i) (.int j)=some (.bl (decide (j<i))):=rfl
@[simp] theorem gEq_int' (i j:Int):gEq (.int i) (.int j)=some (.bl (decide (i=j))):=gEq_int i j
@[simp] theorem gNe_int' (i j:Int):gNe (.int i) (.int j)=some (.bl (!decide (i=j))):=gNe_int i j
theorem rX {i j:Int}(h:uS i j=true):fM (.int i) (.int j)=some (.int (i*j)):=by
 show(if uS i j then _ else _)=_;rw[Zd h]
theorem oP {i j:Int}(h1 : -18446744073709551616<j)(h2:j<18446744073709551616):uS i j=true:=by
 unfold uS;rw[Bool.or_eq_true,Bool.or_eq_true,Nat.blt_eq,Nat.blt_eq];exact .inl (by omega)
@[simp] theorem oF {i j:Int}(h:0<j):tW (.int i) (.int j)=some (.int (i % j)):=by
 show(if Nat.blt 0 j.toNat then _ else _)=_;rw[Zd (by rw[Nat.blt_eq];omega)]
@[simp] theorem gFdiv_ok {i j:Int}(h:0<j)(h2:j<1073741824):uV (.int i) (.int j)=some (.int (i / j)):=by
 show(if Nat.blt 0 j.toNat&&Nat.blt j.toNat 1073741824 then _ else _)=_;rw[Zd (by rw[Bool.and_eq_true,Nat.blt_eq,Nat.blt_eq];omega)]
@[simp] theorem gLen_lst (ds:List D):o4 [.lst ds]=some (.int ds.length):=rfl
@[simp] theorem gLen_scr (ns:List Int):o4 [.scr ns]=some (.int ns.length):=rfl
@[simp] theorem gMax2_int (i j:Int):lG [.int i,.int j]=some (.int (if j > i then j else i)):=rfl
@[simp] theorem gMin2_int (i j:Int):jR [.int i,.int j]=some (.int (if j<i then j else i)):=rfl
@[simp] theorem gTuple_lst (ds:List D):uY [.lst ds]=some (.tup ds):=rfl
@[simp] theorem gIx_lst (ds:List D)(k:Int):gIx (.lst ds) (.int k)=atI ds k:=rfl
@[simp] theorem gIx_tup (ds:List D)(k:Int):gIx (.tup ds) (.int k)=atI ds k:=rfl
@[simp] theorem gIx_scr (ns:List Int)(k:Int):gIx (.scr ns) (.int k)=(atI ns k).map .int:=rfl
@[simp] theorem gIx_dct (ks:List Key)(ds:List D)(k:Int):gIx (.dct ks ds) (.int k)=ut ks ds (.inl k):=rfl
@[simp] theorem gIn_dct (neg:Bool)(ks:List Key)(ds:List D)(k:Int):gIn neg (.int k) (.dct ks ds)=some (.bl (if neg then !(ut ks ds (.inl k)).isSome else(ut ks ds (.inl k)).isSome)):=rfl
@[simp] theorem keyOf_int (k:Int):wD (.int k)=some (.inl k):=rfl
@[simp] theorem vi {r:List (Int×Int)}(h:r.length<=100)(o:yy r):sh [rwD r]=some (dcR r):=by
 unfold sh;show(v6 (rwD r)).bind _=_;rw[ux];show(if r.length<=100 then some (dcR (m7 r)) else none)=_;rw[Zd h,dictT_once o]
theorem vS {ns:List Int}(h:ns ≠ []):tZ [.lst (ns.map .int)]=some (.int (rC ns)):=by
 unfold tZ;show(ug _).bind _=_;rw[vC];show(if ns=[] then none else some (D.int (rC ns)))=_;rw[Ze h]
theorem gMinL_ints {ns:List Int}(h:ns ≠ []):ka [.lst (ns.map .int)]=some (.int (jz ns)):=by
 unfold ka;show(ug _).bind _=_;rw[vC];show(if ns=[] then none else some (D.int (jz ns)))=_;rw[Ze h]
theorem v9:∀{r:List (Int×Int)},yy r->∀t:Int,ut (r.map fun p=>.inl p.1) (r.map fun p=>.int p.2) (.inl t)=(zk r t).map .int
 | [],_,t=>rfl
 |p::r,o,t=>by
  have o':yy r:=by unfold yy at o ⊢;rw[Zl,List.nodup_cons] at o;exact o.2
  have n:p.1∉r.map (·.1):=by unfold yy at o;rw[Zl,List.nodup_cons] at o;exact o.1
  rw[Zl,Zl];rw[qq];rw[yM];by_cases h:p.1=t
  ·rw[Zd (by rw[h])];cases q:zk r t with
   |none=>rw[Zd h];rfl
   |some w=>exact Zn (List.mem_map.mpr ⟨(t,w),zv q,h.symm⟩) n
  ·rw[Ze (fun z=>h (by injection z)),v9 o' t];cases zk r t with
   |none=>rw[Ze h]
   |some w=>rfl
noncomputable def f7:D->Res (List Key×List D)
 | .dct ks ds=>.ok (ks,ds)
 |_=>.no
@[simp] theorem dctOf_dct (ks:List Key)(ds:List D):f7 (.dct ks ds)=.ok (ks,ds):=rfl
@[simp] theorem ev_get2 (fo fk fx:FE)(sd:SD):j8 fo fk fx sd=(fo sd).bind fun d=>(f7 d).bind fun o=>(fk sd).bind fun k=>(fx sd).bind fun x=>.ofO ((wD k).map fun q=>(ut o.1 o.2 q).getD x):=by
 unfold j8;cases fo sd with
 |ok d=>cases d<;>rfl
 |ex c fs=>rfl
 |no=>rfl
theorem hasK_dcR (r:List (Int×Int))(t:Int):gE (.inl t) (r.map fun p=>.inl p.1)=r.any fun p=>decide (p.1=t):=by
 unfold gE;rw[List.any_map]
 congr 1
 funext p
 exact kQ
theorem put_dcR (r:List (Int×Int))(t w:Int):D.dct (o6 (r.map fun p=>.inl p.1) (.inl t)) (mP (r.map fun p=>.inl p.1) (r.map fun p=>.int p.2) (.inl t) (.int w))=dcR (qi r t w):=by
 unfold o6 mP dcR qi;rw[hasK_dcR];have ch:∀r:List (Int×Int),gF (r.map fun p=>.inl p.1) (r.map fun p=>.int p.2) (.inl t) (.int w)=(r.map fun p=>if p.1=t then(p.1,w) else p).map fun p=>D.int p.2:=by
  intro r
  induction r with
  |nil=>rfl
  |cons p r ih =>
   rw[Zl,Zl,Zl,Zl];rw[qo];rw[ih];by_cases h:p.1=t
   ·rw[Zd (by rw[h]),Zd h]
   ·rw[Ze (fun z=>h (by injection z)),Ze h]
 have ck:∀r:List (Int×Int),(r.map fun p=>if p.1=t then(p.1,w) else p).map (fun p=>(Sum.inl p.1:Key))=r.map fun p=>.inl p.1:=by
  intro r;rw[Zw]
  congr 1
  funext p
  show(Sum.inl (if p.1=t then(p.1,w) else p).1:Key)=_;by_cases h:p.1=t
  ·rw[Zd h]
  ·rw[Ze h]
 by_cases q:(r.any fun p=>decide (p.1=t))=true
 ·rw[Zd q,Zd q,Zd q,ch,ck]
 ·rw[Ze q,Ze q,Ze q,List.map_append,List.map_append];rfl
@[simp] theorem ev_sortItems (fo:FE)(sd:SD):vI fo sd=(fo sd).bind fun d=>.ofO (vT d):=rfl
theorem gSortItems_dcR {r:List (Int×Int)}(h:r ≠ [])(hl:r.length<1000):vT (dcR r)=some (.lst ((zQ wp r).map prD)):=by
 show(wL _ _).bind _=_;rw[pairsOf_dcR];exact Zd ⟨h,hl⟩
@[simp] theorem ev_iS (f:FE)(sd:SD):iS f sd=(f sd).bind fun d=>.ofO (oA d):=rfl
@[simp] theorem walkS_lst (ds:List D):oA (.lst ds)=some ds:=rfl
@[simp] theorem walkS_tup (ds:List D):oA (.tup ds)=some ds:=rfl
def ww:List D->Res (List D)
 | [.int j]=>if mH j then .ok (zW 0 j.toNat) else .no
 |_=>.no
@[simp] theorem ev_iR1 (fr:FA)(sd:SD):iR1 fr sd=(fr sd).bind ww:=by
 unfold iR1;cases fr sd with
 |ok ds=>show(match ds with|[.int j]=>_|_=>_)=ww ds;unfold ww;rfl
 |ex c fs=>rfl
 |no=>rfl
theorem yJ {j:Int}(h1 : -1000000000<=j)(h2:j<=1000000000):ww [.int j]=.ok (zW 0 j.toNat):=Zd (rngOk_in h1 h2)
theorem vg {lo:Int}{n i:Nat}{x:D}(h:(zW lo n)[i]? = some x):x=.int (lo+i)/\i<n:=by
 unfold zW at h;rw[Zv] at h;by_cases hi:i<n
 ·rw[List.getElem?_range hi] at h;exact⟨(Zqi h).symm,hi⟩
 ·rw[List.getElem?_eq_none (by rw[ZA];omega)] at h;exact zqn h
theorem xI (lo:Int)(n:Nat):(zW lo n).length=n:=by unfold zW;rw[Zql,ZA]
def lC (tg:Tg)(b:FS)(ds:List D)(sd:SD):Res Out:=jm (fun x sd=>(yW tg x sd).bind b) ds sd
@[simp] theorem ev_for (it:FA)(tg:Tg)(b:FS)(sd:SD):uM it tg b sd=(it sd).bind fun ds=>lC tg b ds sd:=rfl
@[simp] theorem bindT_one (i:Nat)(d:D)(sd:SD):yW (.one i) d sd=.ok (sd.set i (some (.val d))):=rfl
@[simp] theorem bindT_pair (i j:Nat)(p:Int×Int)(sd:SD):yW (.tup [i,j]) (prD p) sd=.ok ((sd.set i (some (.val (.int p.1)))).set j (some (.val (.int p.2)))):=rfl
theorem yI {tg:Tg}{b:FS}{ds:List D}{sd:SD}(P:Nat->SD->Prop)(h0:P 0 sd)(hs:∀(i:Nat) (x:D) (sd:SD),ds[i]? = some x->P i sd->∃sd',(yW tg x sd).bind b=.ok (.next sd')/\P (i+1) sd'):∃sd',lC tg b ds sd=.ok (.next sd')/\P ds.length sd':=by
 have key:∀(k i:Nat) (sd:SD),ds.length-i=k->i<=ds.length->P i sd->∃sd',lC tg b (ds.drop i) sd=.ok (.next sd')/\P ds.length sd':=by
  intro k
  induction k with
  |zero =>
   intro i sd e hi p;have:i=ds.length:=by omega
   subst this;rw[List.drop_length];exact⟨sd,rfl,p⟩
  |succ k ih =>
   intro i sd e hi p;have hlt:i<ds.length:=by omega
   rw[List.drop_eq_getElem_cons hlt];refine zc1b (hs i ds[i] sd (Zqg hlt) p) fun sd' h1 h2=>?_;refine zc1b (ih (i+1) sd' (by omega) hlt h2) fun sd2 h3 h4=>?_;refine⟨sd2,?_,h4⟩;unfold lC jm;rw[h1];exact h3
 have:=key ds.length 0 sd (by omega) (Nat.zero_le _) h0
 rwa [List.drop_zero] at this
theorem u6 {tg:Tg}{b:FS}{ds:List D}{sd:SD}(R:Res Out->Prop)(P:Nat->SD->Prop)(h0:P 0 sd)(he:∀sd,P ds.length sd->R (.ok (.next sd)))
 (hs:∀(i:Nat) (x:D) (sd:SD),ds[i]? = some x->P i sd->(∃sd',((yW tg x sd).bind b=.ok (.next sd')\/(yW tg x sd).bind b=.ok (.cont sd'))/\P (i+1) sd')\/(∃sd',(yW tg x sd).bind b=.ok (.brk sd')/\R (.ok (.next sd')))\/∃d,(yW tg x sd).bind b=.ok (.ret d)/\R (.ok (.ret d))):R (lC tg b ds sd):=by
 have key:∀(k i:Nat) (sd:SD),ds.length-i=k->i<=ds.length->P i sd->R (lC tg b (ds.drop i) sd):=by
  intro k
  induction k with
  |zero =>
   intro i sd e hi p;have:i=ds.length:=by omega
   subst this;rw[List.drop_length];exact he sd p
  |succ k ih =>
   intro i sd e hi p;have hlt:i<ds.length:=by omega
   rw[List.drop_eq_getElem_cons hlt];unfold lC jm;rcases hs i ds[i] sd (Zqg hlt) p with ⟨sd',h1|h1,h2⟩|⟨sd',h1,h2⟩|⟨d,h1,h2⟩
   ·rw[h1];exact ih (i+1) sd' (by omega) hlt h2
   ·rw[h1];exact ih (i+1) sd' (by omega) hlt h2
   ·rw[h1];exact h2
   ·rw[h1];exact h2
 have:=key ds.length 0 sd (by omega) (Nat.zero_le _) h0
 rwa [List.drop_zero] at this
theorem nG {α β γ : Type}{f:α -> Res β}{k:γ -> α}{g:γ -> β}{xs:List γ}(h:∀x∈xs,f (k x)=.ok (g x)):jG f (xs.map k)=.ok (xs.map g):=by
 induction xs with
 |nil=>rfl
 |cons x xs ih =>
  rw[Zl];unfold jG;rw[h x Zqs,ih fun y hy=>h y (Zqm _ hy)];rfl
def kY (tg:Tg)(f:FE)(c:SD)(ds:List D):Res (List D):=jG (fun x=>(yW tg x c).bind f) ds
@[simp] theorem ev_comp (cap:List (Option Nat))(it:FA)(tg:Tg)(f:FE)(sd:SD):wC cap it tg f sd=(it sd).bind fun ds=>if rg (tX cap sd) tg=true/\ds.length<sizeLine then(kY tg f (tX cap sd) ds).bind fun ys=>.ok (.lst ys) else .no:=rfl
noncomputable def dr:Option (Option SV)->Option SV
 |some (some (.val d))=>some (.val d)
 |_=>none
@[simp] theorem capV_val (d:D):dr (some (some (.val d)))=some (.val d):=rfl
@[simp] theorem capD_nil (sd:SD):tX [] sd=[]:=rfl
@[simp] theorem capD_n (cap:List (Option Nat))(sd:SD):tX (none::cap) sd=none::tX cap sd:=rfl
@[simp] theorem capD_s (j:Nat)(cap:List (Option Nat))(sd:SD):tX (some j::cap) sd=dr sd[j]? :: tX cap sd:=rfl
@[simp] theorem tgNone_one (sd:SD)(i:Nat):rg sd (.one i)=su sd i:=rfl
@[simp] theorem noneAt_0 (sd:SD):su (none::sd) 0=true:=rfl
theorem vQ {α : Type}{tg:Tg}{f:FE}{c:SD}{k:α -> D}{g:α -> D}{xs:List α}(h:∀x∈xs,(yW tg (k x) c).bind f=.ok (g x)):kY tg f c (xs.map k)=.ok (xs.map g):=nG h
theorem rc {tg:Tg}{f:FE}{c:SD}{lo:Int}{n:Nat}{g:Nat->D}(h:∀i,i<n->(yW tg (.int (lo+i)) c).bind f=.ok (g i)):kY tg f c (zW lo n)=.ok ((List.range n).map g):=nG fun i hi=>h i (List.mem_range.mp hi)
@[simp] theorem ev_compIf (cap:List (Option Nat))(it:FA)(tg:Tg)(c:FT)(f:FE)(sd:SD):xy cap it tg c f sd=(it sd).bind fun ds=>if rg (tX cap sd) tg=true/\ds.length<sizeLine then(va tg c f (tX cap sd) ds).bind fun ys=>.ok (.lst ys) else .no:=rfl
theorem wY {α : Type}{tg:Tg}{c:FT}{f:FE}{sd:SD}{k:α -> D}{s:α -> SD}{p:α -> Bool}{g:α -> D}{xs:List α}(h1:∀x∈xs,yW tg (k x) sd=.ok (s x))(h2:∀x∈xs,c (s x)=.ok (p x))(h3:∀x∈xs,p x=true->f (s x)=.ok (g x)) :
 va tg c f sd (xs.map k)=.ok ((xs.filter p).map g):=by
 induction xs with
 |nil=>rfl
 |cons x xs ih =>
  have ih:=ih (fun y hy=>h1 y (Zqm _ hy)) (fun y hy=>h2 y (Zqm _ hy)) (fun y hy=>h3 y (Zqm _ hy));rw[Zl,List.filter_cons];unfold va;rw[h1 x Zqs,Res.bind_ok,h2 x Zqs,Res.bind_ok];cases q:p x with
  |true =>
   rw[Zd rfl,Zd rfl,h3 x Zqs q,Res.bind_ok,ih];rfl
  |false =>
   rw[Ze (by simp),Ze (by simp),ih]
theorem z9 {n:Nat}(h:n<=1000):n<sizeLine:=qZ h
@[simp] theorem isi_int_bool (i:Int):mV [.int i,.ty "bool"]=some (.bl false):=rfl
@[simp] theorem isi_int_int (i:Int):mV [.int i,.ty "int"]=some (.bl true):=rfl
noncomputable def yc {α : Type}(xs:List α)(lo hi st:Option Int):List α := (sliceRange (sliceBounds lo hi st xs.length).1 (sliceBounds lo hi st xs.length).2.1 (sliceBounds lo hi st xs.length).2.2).filterMap (xs[·]?)
theorem nc (its:List Value)(lo hi st:Option Int):slicePick its.toArray lo hi st=(yc its lo hi st).toArray:=by
 unfold slicePick yc;rw[Zm]
 congr 2
 funext i
 simp
theorem pick_vals {xs:List V}{its:List Value}(r:yq xs its)(lo hi st:Option Int):yq (yc xs lo hi st) (yc its lo hi st):=by
 unfold yc;rw[r.length];generalize sliceRange _ _ _=ix
 induction ix with
 |nil=>exact .nil
 |cons i ix ih =>
  rw[List.filterMap_cons,List.filterMap_cons];cases hx:xs[i]? with
  |none=>rw[r.none_of hx];exact ih
  |some x =>
   refine zc1b (r.get hx) fun u hu ru=>?_;rw[hu];exact .cons ru ih
theorem pick_is {K:W.Frag}{H:Hp}{ds:List D}{xs:List V}(r:zn K H ds xs)(lo hi st:Option Int):zn K H (yc ds lo hi st) (yc xs lo hi st):=by
 unfold yc;rw[r.length];generalize sliceRange _ _ _=ix
 induction ix with
 |nil=>exact .nil
 |cons i ix ih =>
  rw[List.filterMap_cons,List.filterMap_cons];cases hx:ds[i]? with
  |none =>
   have hn:xs[i]? = none:=List.getElem?_eq_none_iff.mpr (by rw[r.length];exact List.getElem?_eq_none_iff.mp hx);rw[hn];exact ih
  |some x =>
   refine zc1b (r.get hx) fun u hu ru=>?_;rw[hu];exact .mk ru ih
theorem rM {α β : Type}(f:α -> β)(xs:List α)(lo hi st:Option Int):yc (xs.map f) lo hi st=(yc xs lo hi st).map f:=by
 unfold yc;rw[Zql];generalize sliceRange _ _ _=ix
 induction ix with
 |nil=>rfl
 |cons i ix ih =>
  rw[List.filterMap_cons,List.filterMap_cons,Zv];cases xs[i]? with
  |none=>exact ih
  |some x=>show f x::_=_;rw[ih];rfl
theorem uB {α : Type}{xs:List α}{lo hi st:Option Int}{x:α}(h:x∈yc xs lo hi st):x∈xs:=by
 unfold yc at h;refine zc1b (List.mem_filterMap.mp h) fun i _ hi=>?_;exact List.mem_of_getElem? hi
theorem qg {α : Type}(xs:List α)(lo hi st:Option Int):(yc xs lo hi st).length<=xs.length:=by
 have h:=slicePick_size_le (xs.map fun _=>Value.none).toArray lo hi st;rw[nc,Zm,Zm,rM,Zql,Zql] at h;exact h
section
variable {X:Cx}{E:XK}{m:Option Bool}{a b o i e f tg:Expr}{fa fb fo fi fv fe:FE}{fr:FA}{pos pos' apos cpos p p2:Pos}{lo hi st:Option Expr}
abbrev FO:=SD->Res (Option Int)
def tDO (K:W.Frag)(E:XK)(f:FO):TO:=fun σ H Q=>∃B F sd,RS K B F H sd σ /\ (f sd).need (fun o=>∀F' H',Ext F H F' H'->Q o H') (XW K E F H)
noncomputable def xR:FO:=fun _=>.ok none
def t6 (f:FE):FO:=fun sd=>(f sd).bind fun d=>match d with
 | .int i=>.ok (some i)
 |_=>.no
abbrev QO (X:Cx)(E:XK)(e:Option Expr)(f:FO):Prop:=PO X e (tDO X.K E f)
theorem PO.weak {e:Option Expr}{t t':TO}(h:PO X e t)(w:∀σ H Q,t' σ H Q->t σ H Q):PO X e t':=fun pins s σ H Q I q=>h pins s σ H Q I (w _ _ _ q)
theorem vH:QO X E none xR:=PO.weak po_none (by rintro σ H Q ⟨B,F,sd,r,n⟩;exact n F H (.refl r.ext.fh))
theorem vF (h:QE X E e fe):QO X E (some e) (t6 fe):=PO.weak (po_some h) fun σ H Q zh=>by
 refine zc3b zh fun B F sd r n=>?_;refine⟨B,F,sd,r,(Res.need_bind n).mono (fun d n1 v F1 H1 e1 i1=>?_) fun _ _ q=>q⟩;cases d with
 |int i=>exact⟨i,IsD.int_iff.mp i1,n1 F1 H1 e1⟩
 |_=>exact n1.elim
def rSl3 (K:W.Frag):V->Option Int->Option Int->Option Int->Hp->VK->Prop:=fun x lo hi st H Q=>∃a xs,x=.ref a/\SqL K H a xs/\st≠some 0/\∀p,H p=none->Q (.ref p) (upd H p (.lst (yc xs lo hi st)))
noncomputable def tSl3 (r:V->Option Int->Option Int->Option Int->Hp->VK->Prop)(te:TE)(tl th ts:TO):TE:=fun σ H Q=>te σ H fun x H1=>tl σ H1 fun l H2=>th σ H2 fun u H3=>ts σ H3 fun c H4=>r x l u c H4 Q
theorem pe_slice3 {te:TE}{tl th ts:TO}(he:PE X e te)(hl:PO X lo tl)(hu:PO X hi th)(hs:PO X st ts):PE X (.Subscript e (.Slice lo hi st p2) pos) (tSl3 (rSl3 X.K) te tl th ts):=by
 intro pins s σ H Q I h;refine Subscript_ (thn (he pins s σ H _ I h) fun v s1 zh=>?_);refine zc2c zh fun x H1 I1 r1 q1=>?_;refine wpAny_Slice (thn (hl pins s1 σ H1 _ I1 q1) fun vl s2 ⟨l,H2,I2,pl,q2⟩=>thn (hu pins s2 σ H2 _ I2 q2) fun vu s3 ⟨u,H3,I3,pu,q3⟩=>thn (hs pins s3 σ H3 _ I3 q3) fun vs s4 zh=>?_);refine zc2c zh fun c H4 I4 ps q4=>?_;refine zc2d q4 fun a xs zr2 hx h0 q=>?_;subst zr2;obtain rfl:v=Value.ref a:=r1;have I5:Inv X pins σ H4 { s4 with heap:=s4.heap.push { cls:=.type "slice",data:=.fields #[vl,vu,vs] } }:=I4.kept (t':=s4.toks) fun b ob q=>Zq _ q;refine zc1c (I5.list hx) fun its r ht hz=>?_;have hlen:=r.length;show wpAny (model X.prog X.w) X.A (subscriptTail e (.Slice lo hi st p2) (.ref a) (.ref s4.heap.objs.size)) (EP X pins σ Q) X.xe { s4 with heap:=s4.heap.push { cls:=.type "slice",data:=.fields #[vl,vu,vs] } }
 suffices fin:wpAny (model X.prog X.w) X.A (getItem (.ref a) (.ref s4.heap.objs.size)) (EP X pins σ Q) X.xe { s4 with heap:=s4.heap.push { cls:=.type "slice",data:=.fields #[vl,vu,vs] } } by
  cases st with
  |none=>exact tail_any (ops:=[.ref s4.heap.objs.size,.ref a]) ht.isList.typeIs slot_list_getitem.lookup fin (by with_unfolding_all rfl)
  |some c=>exact tail_any (ops:=[.ref a,.ref s4.heap.objs.size]) ht.isList.typeIs slot_list_getitem.lookup fin (by with_unfolding_all rfl)
 refine wpAny_getItem_list_slice ht.isList (Heap.IsSliceOf.new ..) pl pu ps h0 ?_ (by rw[Zm]<;>omega);rw[nc];refine⟨.ref _,_,I5.laid (t':=s4.toks) (o:=.lst (yc xs l u c)) (fun b ob q=>Zq _ q) (Zf _) ?_,rfl,q _ (I5.hok.fresh (Zf _))⟩;exact⟨Zh (qg xs l u c) hz,_,0,pick_vals r l u c,Zr _ rfl⟩
def gSl:D->Option Int->Option Int->Option Int->Option D
 | .lst ds,lo,hi,st=>if st=some 0 then none else some (.lst (yc ds lo hi st))
 | .scr ns,lo,hi,st=>if st=some 0 then none else some (.lst ((yc ns lo hi st).map .int))
 |_,_,_,_=>none
def dSl (fe:FE)(fl fh fs:FO):FE:=fun sd=>(fe sd).bind fun d=>(fl sd).bind fun l=>(fh sd).bind fun h=>(fs sd).bind fun c=>.ofO (gSl d l h c)
theorem rN {fl fh fs:FO}(he:QE X E e fe)(hl:QO X E lo fl)(hu:QO X E hi fh)(hs:QO X E st fs):QN X E (.Subscript e (.Slice lo hi st p2) pos) (dSl fe fl fh fs):=PE.weak (pe_slice3 he hl hu hs) fun σ H Q zh=>by
 refine zc3b zh fun B F sd r n=>?_;refine⟨B,F,sd,r,(Res.need_bind n).mono (fun d n1 v F1 H1 e1 i1=>?_) fun _ _ q=>q⟩;refine⟨B,F1,sd,r.step e1,(Res.need_bind n1).mono (fun l n2 F2 H2 e2=>?_) fun _ _ q=>q.ext e1⟩;refine⟨B,F2,sd,(r.step e1).step e2,(Res.need_bind n2).mono (fun h n3 F3 H3 e3=>?_) fun _ _ q=>q.ext (e1.trans e2)⟩;refine⟨B,F3,sd,((r.step e1).step e2).step e3,(Res.need_bind n3).mono (fun c n4 F4 H4 e4=>?_) fun _ _ q=>q.ext ((e1.trans e2).trans e3)⟩;refine zc1b (Res.need_ofO n4) fun z hz q=>?_;have e14:=((e2.trans e3).trans e4);have eA:=e1.trans e14;cases d with
 |lst ds =>
  have hz:(if c=some 0 then none else some (D.lst (yc ds l h c)))=some z:=hz
  split at hz
  ·exact zqn hz
  ·rename_i h0;obtain rfl:=Zqi hz;rw[IsD.lst_iff] at i1;refine zc2c i1 fun a xs zr2 h1 h2=>?_;subst zr2;exact⟨a,xs,rfl,((h1.same e14.ff).same e14.fh).sq,h0,fun p hp=>q p F4 _ (eA.trans (.keep e4.fh hp _)) (zE eA.hh hp) (zE e4.fh hp) ⟨_,zo,pick_is (zn.same e14.ff _ _ h2) l h c⟩⟩
 |scr ns =>
  have hz:(if c=some 0 then none else some (D.lst ((yc ns l h c).map .int)))=some z:=hz
  split at hz
  ·exact zqn hz
  ·rename_i h0;obtain rfl:=Zqi hz;rw[IsD.scr_iff] at i1;refine zc1b i1 fun a zr1 h1=>?_;subst zr1;refine⟨a,_,rfl,yw.seq e14.fh (yw.seq e14.ff h1),h0,fun p hp=>q p F4 _ (eA.trans (.keep e4.fh hp _)) (zE eA.hh hp) (zE e4.fh hp) ⟨_,zo,?_⟩⟩;rw[rM];exact zn.ints _
 |_=>exact zqn hz
@[simp] theorem ev_sl (fe:FE)(fl fh fs:FO)(sd:SD):dSl fe fl fh fs sd=(fe sd).bind fun d=>(fl sd).bind fun l=>(fh sd).bind fun h=>(fs sd).bind fun c=>.ofO (gSl d l h c):=rfl
@[simp] theorem ev_noPart (sd:SD):xR sd=.ok none:=rfl
noncomputable def lW:D->Res (Option Int)
 | .int i=>.ok (some i)
 |_=>.no
@[simp] theorem partOf_int (i:Int):lW (.int i)=.ok (some i):=rfl
@[simp] theorem ev_part (f:FE)(sd:SD):t6 f sd=(f sd).bind lW:=by
 unfold t6;cases f sd with
 |ok d=>cases d<;>rfl
 |ex c fs=>rfl
 |no=>rfl
@[simp] theorem gSl_lst0 (ds:List D)(lo hi:Option Int):gSl (.lst ds) lo hi none=some (.lst (yc ds lo hi none)):=rfl
theorem gSl_lst {ds:List D}{lo hi:Option Int}{c:Int}(h:c≠0):gSl (.lst ds) lo hi (some c)=some (.lst (yc ds lo hi (some c))):=Ze fun z=>h (Zqi z)
theorem gSl_scr {ds:List Int}{lo hi:Option Int}{c:Int}(h:c≠0):gSl (.scr ds) lo hi (some c)=some (.lst ((yc ds lo hi (some c)).map .int)):=Ze fun z=>h (Zqi z)
def j7 (i:Nat)(fk fv:FE):FS:=fun sd=>(fv sd).bind fun v=>match sd[i]? with
 |some (some (.own false (.lst ds)))=>(fk sd).bind fun k=>match k with
  | .int k=>match ixN ds.length k with
   |some j=>.ok (.next (sd.set i (some (.own false (.lst (ds.set j v))))))
   |none=>.no
  |_=>.no
 |_=>.no
theorem qs_lput {j:Nat}(ho:PE X o (j9 j))(hi:QE X E i fi)(hv:QE X E e fv)(ha:∀v,assign (.Subscript o i pos') X.env v=(do
 let ov <- holding [v] (eval o X.env)
 let iv <- holding [v,ov] (eval i X.env)
 standAt pos'
 holding [v,ov,iv] (setItem ov iv v)
 release [v,ov,iv] []):=by intro _;rfl) (hs:swapsWithSole [.Subscript o i pos'] e pos.line X.env=pure false:=by rfl) (hw:swappedStores [.Subscript o i pos'] e X.env=pure none:=by rfl)
 (h1:autoParam ((assignEach [.Subscript o i pos'] X.env).map (·.2)=[assign (.Subscript o i pos') X.env]) zau._auto_1):QS X E m (.Assign [.Subscript o i pos'] e pos) (j7 j fi fv):=PS.weak (ps_asg hv (pg_sub ho hi set_list ha) hs hw h1) fun T σ H zh=>by
 refine zc3b zh fun B F sd r n=>?_;refine⟨B,F,sd,r,(Res.need_bind n).mono (fun d n1 v F1 H1 e1 i1=>?_) fun _ _ q=>q.ext r.ext⟩
 split at n1
 ·rename_i ds hj;refine zc1e ((r.step e1).own hj) fun l h1 h2 h3 zr4 _=>?_;obtain⟨xs,h4,h5⟩:=zr4;refine⟨.ref l,h1,B,F1,sd,r.step e1,(Res.need_bind n1).mono (fun k n2 w F2 H2 e2 i2=>?_) fun _ _ q=>q.ext (r.step e1).ext⟩
  split at n2
  ·rename_i k
   split at n2
   ·rename_i q hk;have hH:=e2.hh _ _ h4;have hl:=h5.length;refine⟨l,xs,k,q,rfl,IsD.int_iff.mp i2,hH,by rw[hl];exact hk,?_⟩;exact n2 σ F2 _ (e1.ff.trans e2.ff) (((r.step e1).step e2).chg hj h1 ⟨_,zo,(zn.same e2.ff _ _ h5).set q (IsD.same e2.ff _ _ i1)⟩)
   ·exact n2.elim
  ·exact n2.elim
 ·exact n1.elim
@[simp] theorem ev_lput (i:Nat)(fk fv:FE)(sd:SD):j7 i fk fv sd=(fv sd).bind fun v=>(gP sd[i]?).bind fun ds=>(fk sd).bind fun k=>(lW k).bind fun k=>(Res.ofO (ixN ds.length (k.getD 0))).bind fun j=>.ok (.next (sd.set i (some (.own false (.lst (ds.set j v)))))):=by
 unfold j7;cases fv sd with
 |ok v =>
  show(match sd[i]? with
   |some (some (.own false (.lst ds)))=>_
   |_=>_)=(gP sd[i]?).bind _
  cases sd[i]? with
  |none=>rfl
  |some o =>
   cases o with
   |none=>rfl
   |some w =>
    cases w with
    |val d=>rfl
    |own p d =>
     cases p with
     |true=>cases d<;>rfl
     |false =>
      cases d with
      |lst ds =>
       show(fk sd).bind _=(fk sd).bind _;cases fk sd with
       |ok k =>
        cases k with
        |int k=>show(match ixN ds.length k with|some j=>_|none=>_)=(Res.ofO (ixN ds.length k)).bind _;cases ixN ds.length k<;>rfl
        |_=>rfl
       |ex c fs=>rfl
       |no=>rfl
      |_=>rfl
 |ex c fs=>rfl
 |no=>rfl
@[simp] theorem ev_ixOwn (i:Nat)(fb:FE)(sd:SD):ue i fb sd=(eD sd[i]?).bind fun d=>(fb sd).bind fun y=>.ofO (gIx d y):=by
 unfold ue;cases sd[i]? with
 |none=>rfl
 |some o =>
  cases o with
  |none=>rfl
  |some v=>cases v<;>rfl
@[simp] theorem gIsN_non (neg:Bool):fA neg .non=some (.bl (!neg)):=rfl
@[simp] theorem gIsN_int (neg:Bool)(i:Int):fA neg (.int i)=some (.bl neg):=rfl
def xi:List D->Option D
 | [.lst ds]=>(xo v6 ds).bind fun rs=>if(∀r∈rs,r ≠ [])/\rs.length<1000 then some (.lst ((zQ y8 rs).map rwD)) else none
 |_=>none
theorem rj (hu:X.A.units+64<cLine):zD X (.builtin "sorted") (gX X.K xi):=zD.weak (call_sortedRows hu) fun xs H Q zh=>by
 refine zc3a zh fun F ds z zz=>qD zz fun sF id hz q=>?_;unfold xi at hz
 split at hz
 ·refine zc1b (Option.bind_eq_some_iff.mp hz) fun rs h1 hz=>?_
  split at hz
  ·rename_i hc;obtain rfl:=Zqi hz;refine zc1b (xN id) fun v zr1 h=>?_;subst zr1;rw[vD h1,IsD.lst_iff] at h;refine zc2c h fun a ys zr2 g1 g2=>?_;subst zr2;refine⟨a,ys,rs,rfl,g1.same sF,wH.mp (zn.same sF _ _ g2),hc.1,hc.2,fun l ix hl hix he=>?_⟩;have hk:H l=none:=hl;refine q l F _ (.keep sF hl _) hl (zE sF hl) ⟨_,zo,?_⟩;rw[<- he,Zw];have hy:=g2.length;rw[Zql] at hy;clear he
   induction ix with
   |nil=>exact .nil
   |cons i ix ih =>
    rw[Zl,Zl];have hi:=hix i Zqs;refine zc1b (g2.get (i:=i) (d:=rwD (rs.getD i [])) (by rw[Zv,Zqg hi,zw (Zqg hi)];rfl)) fun x hx ixx=>?_;rw[zw hx];exact .mk ixx (ih fun j hj=>hix j (Zqm _ hj))
  ·exact zqn hz
 ·exact zqn hz
end
end L2.DL
namespace L2
section
variable {X:Cx}
theorem call_sumL (hc:X.calm=true):zD X (.builtin "sum") (fun xs H Q=>∃(a:Addr) (ns:List Int),xs=[.ref a]/\SqL X.K H a (ns.map V.int)/\Q (.int ns.sum) H):=by
 intro pins s σ H xs us Q I r h;refine zc2c h fun a ns zr2 hl q=>?_;subst zr2;refine zc1b (vy r) fun u zr1 ru=>?_;subst zr1;obtain rfl:u=Value.ref a:=ru;refine zc1c (I.list hl) fun its rv p hz=>?_;have hi:IntsAre its ns:=vM rv;obtain⟨ys,e⟩:=hi.allInts.items;have hns:ns=ys.toList.map (·.1):=by
  rw[<- hi.numsOf,<- nums_intItems,<- e]
 have hl':=p.isList;rw[e] at hl';refine sum_intListG (I.ok.hd hc) hl' fun h' tk t' hk=>?_;refine⟨.int ns.sum,H,I.kept hk,⟨t',?_⟩,q⟩;rw[preSum_eq,List.take_of_length_le (by simp),<- hns]
end
end L2
namespace L2.DL
def fJ:List D->Option D
 | [d]=>(ug d).bind fun ns=>some (.int ns.sum)
 |_=>none
section
variable {X:Cx}{E:XK}{m:Option Bool}{a b o i e f tg:Expr}{fa fb fo fi fv fe:FE}{fr:FA}{pos pos' apos cpos p p2:Pos}{lo hi st:Option Expr}
theorem b_sum (hc:X.calm=true):zD X (.builtin "sum") (rDA X.K fJ):=zD.weak (call_sumL hc) fun xs H Q zh=>by
 refine zc3a zh fun F ds z zz=>qD zz fun sF id hz q=>?_;unfold fJ at hz
 split at hz
 ·refine zc1b (Option.bind_eq_some_iff.mp hz) fun ns h1 hz=>?_;obtain rfl:=Zqi hz;refine zc1b (xN id) fun v zr1 h=>?_;subst zr1;refine zc1b (uN h1 h) fun a zr1 h2=>?_;subst zr1;exact⟨a,ns,rfl,(h2.same sF).sq,q _ F H (.refl sF) (isI _ F)⟩
 ·exact zqn hz
end
@[simp] theorem gSum_ints (ns:List Int):fJ [.lst (ns.map .int)]=some (.int ns.sum):=by
 show(ug _).bind _=_;rw[vC];rfl
end L2.DL
namespace L2
end L2
namespace L2.DL
end L2.DL
namespace L2.ST
open PySem
noncomputable def itF:Nat->Nat->Nat
 | 0,z=>z
 |n+1,z=>itF n (5*z+1)
theorem lq (a b z:Nat):itF (a+b) z=itF b (itF a z):=by
 induction a generalizing z with
 |zero=>rw[Nat.zero_add];rfl
 |succ a ih=>rw[Nat.succ_add];exact ih _
theorem lT (n z d:Nat):itF n (z+d)=itF n z+5 ^ n*d:=by
 induction n generalizing z d with
 |zero=>simp[itF]
 |succ n ih =>
  show itF n (5*(z+d)+1)=itF n (5*z+1)+5 ^ (n+1)*d;have e:5*(z+d)+1=(5*z+1)+5*d:=by omega
  rw[e,ih,Nat.pow_succ,Nat.mul_assoc]
theorem pow5 (n:Nat):5 ^ n % 4=1:=by
 induction n with
 |zero=>rfl
 |succ n ih=>rw[Nat.pow_succ];omega
theorem itF_round (k z:Nat):∃u,itF (2 ^ k) z=z+2 ^ k*(2*u+1):=by
 induction k generalizing z with
 |zero=>exact⟨2*z,by show 5*z+1=z+1*(2*(2*z)+1);omega⟩
 |succ k ih =>
  obtain⟨u,hu⟩:=ih z;have e:2 ^ (k+1)=2 ^ k+2 ^ k:=by rw[Nat.pow_succ];omega
  rw[e,lq,hu,lT,hu];have h5:=pow5 (2 ^ k);obtain⟨v,hv⟩:∃v,5 ^ (2 ^ k)=4*v+1:=⟨5 ^ (2 ^ k) / 4,by omega⟩;rw[hv];generalize 2 ^ k=m;refine⟨2*u*(2*v+1) / 2+v,?_⟩;have:2*u*(2*v+1) / 2=u*(2*v+1):=by rw[Nat.mul_assoc,Nat.mul_div_cancel_left _ (by omega)]
  rw[this]
  grind
theorem itF_mod (m n z:Nat):itF n z % m=itF n (z % m) % m:=by
 have h:=lT n (z % m) (m*(z / m));rw[Nat.mod_add_div] at h;rw[h,<- Nat.mul_assoc,Nat.mul_comm _ m,Nat.mul_assoc,Nat.add_mul_mod_self_left]
theorem tG:∀(k x y:Nat),y<2 ^ k->∃q,q<2 ^ k/\itF q x % 2 ^ k=y
 | 0,x,y,h=>⟨0,by decide,by rw[Nat.pow_zero] at *;omega⟩
 |k+1,x,y,h=>by
  have e:2 ^ (k+1)=2*2 ^ k:=by rw[Nat.pow_succ];omega
  have hp:0<2 ^ k:=Nat.two_pow_pos k;refine zc1b (tG k x (y % 2 ^ k) (Nat.mod_lt _ hp)) fun q hq hm=>?_;rw[e] at h ⊢;by_cases c:itF q x % (2*2 ^ k)=y
  ·exact⟨q,by omega,c⟩
  ·refine⟨q+2 ^ k,by omega,?_⟩;rw[lq];obtain⟨u,hu⟩:=itF_round k (itF q x);rw[hu];generalize itF q x=w at *;generalize 2 ^ k=m at *;have e2:w+m*(2*u+1)=(w+m)+(2*m)*u:=by grind
   rw[e2,Nat.add_mul_mod_self_left];have d1:=Nat.div_add_mod w m;have d2:=Nat.div_add_mod y m;have d3:=Nat.div_add_mod w (2*m);have l3:=Nat.mod_lt w (show 0<2*m by omega);rw[hm] at d1;have r3:w % (2*m) % m=y % m:=by rw[Nat.mod_mul_left_mod];exact hm
   have a1:w % (2*m)<m\/m<=w % (2*m):=by omega
   have a2:y<m\/m<=y:=by omega
   have s1:∀t,t<2*m->m<=t->t % m=t-m:=fun t h1 h2=>by
    rw[Nat.mod_eq_sub_mod h2,Nat.mod_eq_of_lt (by omega)]
   rw[Nat.add_mod,Nat.mod_eq_of_lt (show m<2*m by omega)];generalize w % (2*m)=t at *;rcases a1 with a1|a1<;>rcases a2 with a2|a2
   ·rw[Nat.mod_eq_of_lt a1,Nat.mod_eq_of_lt a2] at r3;exact Zn r3 c
   ·rw[Nat.mod_eq_of_lt a1,s1 y h a2] at r3;rw[Nat.mod_eq_of_lt (by omega)];omega
   ·rw[Nat.mod_eq_of_lt a2,s1 t l3 a1] at r3;rw[Nat.mod_eq_sub_mod (by omega),Nat.mod_eq_of_lt (by omega)];omega
   ·rw[s1 t l3 a1,s1 y h a2] at r3;exact Zn (by omega) c
noncomputable def z8 (t:SetTable):Nat->SetTable.Probe->SetTable.Probe
 | 0,p=>p
 |n+1,p=>z8 t n (t.advance p)
theorem wq (t:SetTable)(a b:Nat)(p:SetTable.Probe):z8 t (a+b) p=z8 t b (z8 t a p):=by
 induction a generalizing p with
 |zero=>rw[Nat.zero_add];rfl
 |succ a ih=>rw[Nat.succ_add];exact ih _
theorem stepP_succ (t:SetTable)(n:Nat)(p:SetTable.Probe):z8 t (n+1) p=t.advance (z8 t n p):=wq t n 1 p
noncomputable def vW (mask i pert:Nat):SetTable.Probe:={ j:=i,more:=SetTable.runEnd mask i-i,i:=i,perturb:=pert,dummy:=none }
noncomputable def sv (mask:Nat):Nat->Nat×Nat->Nat×Nat
 | 0,s=>s
 |n+1,s=>sv mask n (SetTable.leap mask s.1 s.2)
theorem run_len (mask i:Nat):SetTable.runEnd mask i-i<=9:=by
 unfold SetTable.runEnd
 split<;>omega
theorem lX (t:SetTable)(m:Nat):∀(p:SetTable.Probe),p.more=m->p.dummy=none->z8 t (m+1) p=vW t.mask (SetTable.leap t.mask p.i p.perturb).1 (SetTable.leap t.mask p.i p.perturb).2:=by
 induction m with
 |zero =>
  intro p hm hd;show t.advance p=_;unfold SetTable.advance;rw[Ze (by omega)];unfold vW;rw[hd]
 |succ m ih =>
  intro p hm hd;have h:=ih { p with j:=p.j+1,more:=p.more-1 } (by show p.more-1=m;omega) hd;show z8 t (m+1) (t.advance p)=_;have ha:t.advance p={ p with j:=p.j+1,more:=p.more-1 }:=by
   unfold SetTable.advance;rw[Zd (by omega)]
  rw[ha,h]
theorem i6 (t:SetTable):∀(r i pert:Nat),∃n,n<=10*r/\z8 t n (vW t.mask i pert)=vW t.mask (sv t.mask r (i,pert)).1 (sv t.mask r (i,pert)).2
 | 0,i,pert=>⟨0,Zf _,rfl⟩
 |r+1,i,pert=>by
  have h1:=lX t (SetTable.runEnd t.mask i-i) (vW t.mask i pert) rfl rfl;refine zc1b (i6 t r (SetTable.leap t.mask i pert).1 (SetTable.leap t.mask i pert).2) fun n hn h2=>?_;have hl:=run_len t.mask i;refine⟨(SetTable.runEnd t.mask i-i+1)+n,by omega,?_⟩;rw[wq,h1];exact h2
theorem nI (mask a b:Nat)(s:Nat×Nat):sv mask (a+b) s=sv mask b (sv mask a s):=by
 induction a generalizing s with
 |zero=>rw[Nat.zero_add];rfl
 |succ a ih=>rw[Nat.succ_add];exact ih _
theorem uK (mask:Nat):∀(r:Nat) (s:Nat×Nat),(sv mask r s).2=s.2 / 32 ^ r
 | 0,s=>by show s.2=_;rw[Nat.pow_zero,Nat.div_one]
 |r+1,s=>by
  show(sv mask r (SetTable.leap mask s.1 s.2)).2=_;rw[uK mask r];show s.2 / 32 / 32 ^ r=_;rw[Nat.div_div_eq_div_mul,Nat.pow_succ,Nat.mul_comm 32]
theorem uH (mask:Nat):∀(r i:Nat),i<mask+1->sv mask r (i,0)=(itF r i % (mask+1),0)
 | 0,i,h=>by
  show(i,0)=(i % (mask+1),0);rw[Nat.mod_eq_of_lt h]
 |r+1,i,h=>by
  show sv mask r ((i*5+1+0 / 32) % (mask+1),0 / 32)=(itF r (5*i+1) % (mask+1),0);rw[Nat.zero_div,Nat.add_zero,uH mask r _ (Nat.mod_lt _ (by omega)),<- itF_mod,Nat.mul_comm i 5]
theorem lZ (mask r:Nat)(s:Nat×Nat)(h:s.1<mask+1):(sv mask r s).1<mask+1:=by
 induction r generalizing s with
 |zero=>exact h
 |succ r ih=>exact ih _ (Nat.mod_lt _ (by omega))
theorem cover {t:SetTable}{k:Nat}(hk:t.mask+1=2 ^ k)(h:Int){y:Nat}(hy:y<=t.mask):∃n,n<10*SetTable.turns t.mask/\(z8 t n (t.probeStart h)).j=y:=by
 have hs:t.probeStart h=vW t.mask (SetTable.bits h % (t.mask+1)) (SetTable.bits h):=rfl;have hb:SetTable.bits h<2 ^ 64:=by
  unfold SetTable.bits;have:=Int.emod_lt_of_pos h (show(0:Int)<2 ^ 64 by decide);have:=Int.emod_nonneg h (show(2 ^ 64:Int)≠0 by decide);omega
 have hl:=lZ t.mask 13 (SetTable.bits h % (t.mask+1),SetTable.bits h) (Nat.mod_lt _ (by omega));have hp:(sv t.mask 13 (SetTable.bits h % (t.mask+1),SetTable.bits h)).2=0:=by
  rw[uK];exact Nat.div_eq_of_lt (Zg hb (by decide))
 refine zc1b (tG k (sv t.mask 13 (SetTable.bits h % (t.mask+1),SetTable.bits h)).1 y (by omega)) fun q hq e=>?_;have hr:sv t.mask (13+q) (SetTable.bits h % (t.mask+1),SetTable.bits h)=(y,0):=by
  rw[nI];generalize hR:sv t.mask 13 (SetTable.bits h % (t.mask+1),SetTable.bits h)=s at *;obtain⟨s1,s2⟩:=s;simp only at hp hl e;rw[hp,uH t.mask q s1 hl,hk,e]
 refine zc1b (i6 t (13+q) (SetTable.bits h % (t.mask+1)) (SetTable.bits h)) fun n hn e2=>?_;refine⟨n,by unfold SetTable.turns;omega,?_⟩;rw[hs,e2,hr];rfl
theorem qQ {t:SetTable}{p:SetTable.Probe}(h:p.dummy=none):(t.advance p).dummy=none:=by
 unfold SetTable.advance
 split
 ·exact h
 ·exact h
theorem step_dummy {t:SetTable}{p:SetTable.Probe}(h:p.dummy=none)(n:Nat):(z8 t n p).dummy=none:=by
 induction n generalizing p with
 |zero=>exact h
 |succ n ih=>exact ih (qQ h)
theorem oZ {t:SetTable}{hashAt:Nat->Int}{h:Int}:∀(k fuel:Nat) (p:SetTable.Probe),k<fuel->p.dummy=none->(∀m,m<k->∃i,t.slot (z8 t m p).j=.live i)->t.slot (z8 t k p).j=.empty ->
 (∃m i,m<k/\t.slot (z8 t m p).j=.live i/\hashAt i=h/\SetTable.probe.go t hashAt h fuel p=some (.candidate (z8 t m p).j i (z8 t (m+1) p))/\∀m' i',m'<m->t.slot (z8 t m' p).j=.live i'->hashAt i'≠h) \/
 (SetTable.probe.go t hashAt h fuel p=some (.empty (z8 t k p).j none)/\∀m' i',m'<k->t.slot (z8 t m' p).j=.live i'->hashAt i'≠h)
 | 0,0,p,hf,_,_,_=>Zn hf (Zx _)
 | 0,fuel+1,p,_,hd,_,he=>by
  have he:t.slot p.j=.empty:=he;refine .inr ⟨?_,fun m' i' hm=>Zn hm (Nat.not_lt_zero _)⟩;unfold SetTable.probe.go;rw[he];show some (SetTable.Met.empty p.j p.dummy)=_;rw[hd];rfl
 |k+1,0,p,hf,_,_,_=>Zn hf (Nat.not_lt_zero _)
 |k+1,fuel+1,p,hf,hd,hl,he=>by
  obtain⟨i,hi⟩:=hl 0 (Nat.succ_pos _);have hi:t.slot p.j=.live i:=hi;by_cases c:hashAt i=h
  ·refine .inl ⟨0,i,Nat.succ_pos _,hi,c,?_,fun m' i' hm=>Zn hm (Nat.not_lt_zero _)⟩;unfold SetTable.probe.go;rw[hi];show(if(hashAt i == h)=true then _ else _)=_;rw[Zd (by rw[c];exact beq_self_eq_true h)];rfl
  ·have hg:SetTable.probe.go t hashAt h (fuel+1) p=SetTable.probe.go t hashAt h fuel (t.advance p):=by
    rw[SetTable.probe.go];rw[hi];show(if(hashAt i == h)=true then _ else _)=_;rw[Ze (by simpa using c)]
   rcases oZ (hashAt:=hashAt) (h:=h) k fuel (t.advance p) (by omega) (qQ hd) (fun m hm=>hl (m+1) (by omega)) he with ⟨m,i2,h1,h2,h3,h4,h5⟩|⟨h1,h2⟩
   ·refine .inl ⟨m+1,i2,by omega,h2,h3,by rw[hg];exact h4,fun m' i' hm hs=>?_⟩;cases m' with
    |zero =>
     have hs:t.slot p.j=.live i':=hs;rw[hi] at hs;cases hs;exact c
    |succ m'=>exact h5 m' i' (by omega) hs
   ·refine .inr ⟨by rw[hg];exact h1,fun m' i' hm hs=>?_⟩;cases m' with
    |zero =>
     have hs:t.slot p.j=.live i':=hs;rw[hi] at hs;cases hs;exact c
    |succ m'=>exact h2 m' i' (by omega) hs
open PySem
noncomputable def UpA (xs:Array Nat):Prop:=∀i j,i<j->j<xs.size->xs.getD i 0<xs.getD j 0
theorem ya {α : Type}{xs:Array α}{i:Nat}(h:i<xs.size)(d:α):xs.getD i d=xs[i]:=by
 unfold Array.getD;rw[dif_pos h];rfl
theorem rK {xs:Array Nat}{j:Nat}(u:UpA xs):∀(fuel lo hi:Nat),hi-lo<=fuel->lo<=hi->hi<=xs.size->(∀i,i<lo->xs.getD i 0<j)->(∀i,hi<=i->i<xs.size->j<=xs.getD i 0) ->
 SetTable.below.go xs j fuel lo hi<=xs.size/\(∀i,i<SetTable.below.go xs j fuel lo hi->xs.getD i 0<j)/\∀i,SetTable.below.go xs j fuel lo hi<=i->i<xs.size->j<=xs.getD i 0
 | 0,lo,hi,hf,hl,hs,h1,h2=>by
  have e:lo=hi:=by omega
  subst e;unfold SetTable.below.go;exact⟨hs,h1,h2⟩
 |fuel+1,lo,hi,hf,hl,hs,h1,h2=>by
  unfold SetTable.below.go;by_cases c:lo<hi
  ·rw[Zd c];refine zc1e (ip (k:=fuel+1) (x:=0) c hf) fun m e m1 m2 m3 m4=>?_;have hm:m<xs.size:=Zg m2 hs;have em:xs.getD m j=xs.getD m 0:=by rw[ya hm,ya hm]
   show(if xs.getD ((lo+hi) / 2) j<j then _ else _)<=xs.size/\(∀i,i<(if xs.getD ((lo+hi) / 2) j<j then _ else _)->_)/\∀i,(if xs.getD ((lo+hi) / 2) j<j then _ else _)<=i->_;rw[e];by_cases d:xs.getD m j<j
   ·rw[Zd d];rw[em] at d;refine rK u fuel (m+1) hi m4 m2 hs (fun i hi'=>?_) h2;by_cases q:i=m
    ·rw[q];exact d
    ·exact Nat.lt_trans (u i m (Nat.lt_of_le_of_ne (Nat.le_of_lt_succ hi') q) hm) d
   ·rw[Ze d];rw[em] at d;refine rK u fuel lo m m3 m1 (Zy hm) h1 fun i hi' hs'=>?_;by_cases q:i=m
    ·rw[q];exact Nat.le_of_not_lt d
    ·exact Zy (Nat.lt_of_le_of_lt (Nat.le_of_not_lt d) (u m i (Nat.lt_of_le_of_ne hi' (Ne.symm q)) hs'))
  ·rw[Ze c];have e:lo=hi:=by omega
   subst e;exact⟨hs,h1,h2⟩
theorem uC {xs:Array Nat}(u:UpA xs)(j:Nat):SetTable.below xs j<=xs.size/\(∀i,i<SetTable.below xs j->xs.getD i 0<j)/\∀i,SetTable.below xs j<=i->i<xs.size->j<=xs.getD i 0 :=
 rK u xs.size 0 xs.size (by omega) (by omega) (Zf _) (fun i h=>Zn h (Nat.not_lt_zero _)) fun i h1 h2=>by omega
theorem below_eq {xs:Array Nat}(u:UpA xs){i:Nat}(hi:i<xs.size):SetTable.below xs (xs.getD i 0)=i:=by
 refine xm (uC u (xs.getD i 0)) fun h1 h2 h3=>?_;generalize SetTable.below xs (xs.getD i 0)=p at *;rcases Nat.lt_trichotomy p i with q|q|q
 ·have a:=u p i q hi;have b:=h3 p (Zf _) (by omega);omega
 ·exact q
 ·have:=h2 i q;omega
noncomputable def occ (t:SetTable)(j:Nat):Prop:=∃i,i<t.place.size/\t.place.getD i 0=j
theorem oR (j:Nat):SetTable.has #[] j=false:=rfl
theorem p7 {t:SetTable}(u:UpA t.place){i j:Nat}(hi:i<t.place.size)(e:t.place.getD i 0=j):t.slot j=.live i:=by
 unfold SetTable.slot;have hb:SetTable.below t.place j=i:=by rw[<- e];exact below_eq u hi
 show(if(t.place[SetTable.below t.place j]? == some j)=true then SetTable.Slot.live (SetTable.below t.place j) else _)=_;rw[hb];have hg:t.place[i]? = some j:=by
  rw[Array.getElem?_eq_getElem hi,<- e,ya hi]
 rw[hg,Zd (beq_self_eq_true _)]
theorem slot_empty {t:SetTable}(hd:t.dummies = #[]){j:Nat}(h:¬occ t j):t.slot j=.empty:=by
 unfold SetTable.slot;show(if(t.place[SetTable.below t.place j]? == some j)=true then _ else _)=_;have hn:¬(t.place[SetTable.below t.place j]? == some j)=true:=by
  intro z;have z:t.place[SetTable.below t.place j]? = some j:=by simpa using z
  obtain⟨h1,h2⟩:=Array.getElem?_eq_some_iff.mp z;exact h ⟨_,h1,by rw[ya h1];exact h2⟩
 rw[Ze hn,hd,oR];rfl
theorem slot_occ {t:SetTable}(u:UpA t.place){j:Nat}(h:occ t j):∃i,t.slot j=.live i/\i<t.place.size/\t.place.getD i 0=j:=by
 refine zc1b h fun i hi e=>?_;exact⟨i,p7 u hi e,hi,e⟩
theorem adv_congr {t t':SetTable}(h:t.mask=t'.mask)(p:SetTable.Probe):t.advance p=t'.advance p:=by
 unfold SetTable.advance;rw[h]
theorem sO {t t':SetTable}(h:t.mask=t'.mask)(n:Nat)(p:SetTable.Probe):z8 t n p=z8 t' n p:=by
 induction n generalizing p with
 |zero=>rfl
 |succ n ih=>show z8 t n (t.advance p)=z8 t' n (t'.advance p);rw[adv_congr h,ih]
theorem tu {t t':SetTable}(h:t.mask=t'.mask)(x:Int):t.probeStart x=t'.probeStart x:=by
 unfold SetTable.probeStart;rw[h]
def Way (t:SetTable)(o:Nat->Prop)(x:Int)(y:Nat):Prop:=∃n,(z8 t n (t.probeStart x)).j=y/\∀m,m<n->o (z8 t m (t.probeStart x)).j
theorem Way.mono {t t':SetTable}{o o':Nat->Prop}{x:Int}{y:Nat}(h:Way t o x y)(hm:t.mask=t'.mask)(ho:∀j,o j->o' j):Way t' o' x y:=by
 refine zc1b h fun n h1 h2=>?_;refine⟨n,?_,fun m hm'=>?_⟩
 ·rw[<- sO hm,<- tu hm];exact h1
 ·rw[<- sO hm,<- tu hm];exact ho _ (h2 m hm')
structure TabOk (t:SetTable)(hs:Array Int):Prop where
 size:t.place.size=hs.size
 up:UpA t.place
 le:∀i,i<t.place.size->t.place.getD i 0<=t.mask
 nod:t.dummies = #[]
 pow:∃k,t.mask+1=2 ^ k
 room:t.place.size<=t.mask
 ways:∀i,i<t.place.size->Way t (occ t) (hs.getD i 0) (t.place.getD i 0)
theorem free_ex {xs:Array Nat}(u:UpA xs){m:Nat}(hs:xs.size<=m):∃y,y<=m/\∀i,i<xs.size->xs.getD i 0≠y:=by
 by_cases h:∀i,i<xs.size->xs.getD i 0=i
 ·exact⟨m,Zf _,fun i hi e=>by have:=h i hi;omega⟩
 ·obtain⟨i,hi,hne,hmin⟩:∃i,i<xs.size/\xs.getD i 0≠i/\∀k,k<i->xs.getD k 0=k:=by
   have key:∀n,n<=xs.size->(∀k,k<n->xs.getD k 0=k)\/∃i,i<xs.size/\xs.getD i 0≠i/\∀k,k<i->xs.getD k 0=k:=by
    intro n
    induction n with
    |zero=>intro _;exact .inl fun k hk=>Zn hk (Nat.not_lt_zero _)
    |succ n ih =>
     intro hn;rcases ih (by omega) with q|q
     ·by_cases c:xs.getD n 0=n
      ·refine .inl fun k hk=>?_;by_cases e:k=n
       ·rw[e];exact c
       ·exact q k (by omega)
      ·exact .inr ⟨n,by omega,c,q⟩
     ·exact .inr q
   rcases key xs.size (Zf _) with q|q
   ·exact Zn q h
   ·exact q
  refine⟨i,by omega,fun k hk e=>?_⟩;rcases Nat.lt_trichotomy k i with q|q|q
  ·have:=hmin k q;omega
  ·subst q;exact hne e
  ·have a:=u i k q hk;have b:i<=xs.getD i 0:=by
    cases i with
    |zero=>exact Nat.zero_le _
    |succ i =>
     have:=u i (i+1) (by omega) hi;have:=hmin i (by omega);omega
   omega
theorem first_free {t:SetTable}{hs:Array Int}(T:TabOk t hs)(x:Int):∃n,n<10*SetTable.turns t.mask/\(∀m,m<n->occ t (z8 t m (t.probeStart x)).j)/\¬occ t (z8 t n (t.probeStart x)).j:=by
 obtain⟨k,hk⟩:=T.pow;refine zc1b (free_ex T.up T.room) fun y hy hf=>?_;refine zc1b (cover hk x hy) fun n hn e=>?_;have hno:¬occ t (z8 t n (t.probeStart x)).j:=by
  rw[e];rintro⟨i,hi,q⟩;exact hf i hi q
 have key:∀d n,n<=d->n<10*SetTable.turns t.mask->¬occ t (z8 t n (t.probeStart x)).j->∃n,n<10*SetTable.turns t.mask/\(∀m,m<n->occ t (z8 t m (t.probeStart x)).j)/\¬occ t (z8 t n (t.probeStart x)).j:=by
  intro d
  induction d with
  |zero =>
   intro n hd hn hno;have:n=0:=by omega
   subst this;exact⟨0,hn,fun m hm=>Zn hm (Nat.not_lt_zero _),hno⟩
  |succ d ih =>
   intro n hd hn hno;by_cases c:∀m,m<n->occ t (z8 t m (t.probeStart x)).j
   ·exact⟨n,hn,c,hno⟩
   ·obtain⟨m,hm⟩:=Classical.not_forall.mp c;obtain⟨h1,h2⟩:=Classical.not_imp.mp hm;exact ih m (by omega) (by omega) h2
 exact key n n (Zf _) hn hno
theorem xZ {α : Type}(xs:Array α){p:Nat}(hp:p<=xs.size)(x:α):(SetTable.insertAt xs p x).size=xs.size+1:=by
 unfold SetTable.insertAt;simp;omega
theorem uc {α : Type}(xs:Array α){p:Nat}(hp:p<=xs.size)(x d:α)(i:Nat):(SetTable.insertAt xs p x).getD i d=if i<p then xs.getD i d else if i=p then x else xs.getD (i-1) d:=by
 unfold SetTable.insertAt;simp only[Array.getD_eq_getD_getElem?];rw[Array.getElem?_append,Array.getElem?_push,Array.getElem?_extract,Array.getElem?_extract];simp only[Array.size_push,Array.size_extract];have e:min p xs.size-0=p:=by omega
 rw[e];rcases Nat.lt_trichotomy i p with c|c|c
 ·have a:i<p+1:=by omega
  have b:¬i=p:=by omega
  simp only[a,b,c,if_true,if_false];simp
 ·subst c;have a:¬i<i:=Zx _;simp only[Nat.lt_succ_self,a,if_true,if_false];rfl
 ·have a:¬i<p+1:=by omega
  have b:¬i<p:=by omega
  have b2:¬i=p:=by omega
  simp only[a,b,b2,if_false];have ei:p+(i-(p+1))=i-1:=by omega
  rw[ei];by_cases c3:i-1<xs.size
  ·rw[Zd (by simp only[Nat.min_self];omega)]
  ·rw[Ze (by simp only[Nat.min_self];omega),Array.getElem?_eq_none (by omega)]
theorem put_ok {t:SetTable}{hs:Array Int}(T:TabOk t hs){x:Int}{y:Nat}(hy:y<=t.mask)(hf:¬occ t y)(hw:Way t (occ t) x y)(hr:t.place.size+1<=t.mask):TabOk (t.put y).1 (SetTable.insertAt hs (t.put y).2 x)/\(t.put y).2<=hs.size/\(t.put y).1.mask=t.mask:=by
 refine xm (uC T.up y) fun b1 b2 b3=>?_;have hp:(t.put y).2=SetTable.below t.place y:=rfl;have hpl:(t.put y).1.place=SetTable.insertAt t.place (SetTable.below t.place y) y:=rfl;have hmk:(t.put y).1.mask=t.mask:=rfl;have hdm:(t.put y).1.dummies = #[]:=by
  show(if SetTable.has t.dummies y then SetTable.eraseAt t.dummies (SetTable.below t.dummies y) else t.dummies)=_;rw[T.nod,oR];rfl
 rw[hp];have b4:∀i,SetTable.below t.place y<=i->i<t.place.size->y<t.place.getD i 0:=fun i h1 h2=>by
  have:=b3 i h1 h2;have:t.place.getD i 0≠y:=fun z=>hf ⟨i,h2,z⟩;omega
 generalize SetTable.below t.place y=p at *;have sz:(SetTable.insertAt t.place p y).size=t.place.size+1:=xZ _ b1 _;have gp:=uc t.place b1 y 0;have oc:∀j,occ t j->occ (t.put y).1 j:=by
  rintro j ⟨i,hi,e⟩;by_cases c:i<p
  ·exact⟨i,by rw[hpl,sz];omega,by rw[hpl,gp,Zd c];exact e⟩
  ·exact⟨i+1,by rw[hpl,sz];omega,by rw[hpl,gp,Ze (by omega),Ze (by omega),Nat.add_sub_cancel];exact e⟩
 have hsz:=T.size;refine⟨⟨?_,?_,?_,hdm,by rw[hmk];exact T.pow,by rw[hpl,sz,hmk];exact hr,?_⟩,by omega,hmk⟩
 ·rw[hpl,sz,xZ _ (by omega)];omega
 ·intro i j hij hj;rw[hpl] at hj ⊢;rw[sz] at hj;rw[gp,gp];by_cases c1:j<p
  ·rw[Zd c1,Zd (by omega)];exact T.up i j hij (by omega)
  ·rw[Ze c1];by_cases c2:j=p
   ·rw[Zd c2,Zd (by omega)];exact b2 i (by omega)
   ·rw[Ze c2];by_cases c3:i<p
    ·rw[Zd c3];exact T.up i (j-1) (by omega) (by omega)
    ·rw[Ze c3];by_cases c4:i=p
     ·rw[Zd c4];exact b4 (j-1) (by omega) (by omega)
     ·rw[Ze c4];exact T.up (i-1) (j-1) (by omega) (by omega)
 ·intro i hi;rw[hpl] at hi ⊢;rw[sz] at hi;rw[gp,hmk]
  split
  ·exact T.le i (by omega)
  ·split
   ·exact hy
   ·exact T.le (i-1) (by omega)
 ·intro i hi;rw[hpl] at hi ⊢;rw[sz] at hi;rw[gp,uc hs (by omega) x 0];by_cases c1:i<p
  ·rw[Zd c1,Zd c1];exact(T.ways i (by omega)).mono hmk.symm oc
  ·rw[Ze c1,Ze c1];by_cases c2:i=p
   ·rw[Zd c2,Zd c2];exact hw.mono hmk.symm oc
   ·rw[Ze c2,Ze c2];exact(T.ways (i-1) (by omega)).mono hmk.symm oc
open PySem
theorem my (t:SetTable)(i pert:Nat):∀k,k<=SetTable.runEnd t.mask i-i->z8 t k (vW t.mask i pert)={ j:=i+k,more:=SetTable.runEnd t.mask i-i-k,i:=i,perturb:=pert,dummy:=none }
 | 0,_=>rfl
 |k+1,h=>by
  rw[stepP_succ,my t i pert k (by omega)];unfold SetTable.advance;rw[Zd (by show SetTable.runEnd t.mask i-i-k > 0;omega)];show SetTable.Probe.mk (i+k+1) (SetTable.runEnd t.mask i-i-k-1) i pert none=_
  congr 1
theorem tN {mask i:Nat}(h:i<=mask):i<=SetTable.runEnd mask i/\SetTable.runEnd mask i<=mask:=by
 unfold SetTable.runEnd
 split<;>omega
noncomputable def jp (owner:Array (Option Nat))(j:Nat):Prop:=∃i,owner.getD j none=some i
theorem qE {t:SetTable}{owner:Array (Option Nat)}(hs:owner.size=t.mask+1):∀(fuel i pert y:Nat),i<=t.mask->SetTable.layClean.free t.mask owner fuel i pert=some y ->
 y<=t.mask/\owner.getD y none=none/\∃n,(z8 t n (vW t.mask i pert)).j=y/\∀m,m<n->jp owner (z8 t m (vW t.mask i pert)).j
 | 0,i,pert,y,_,h=>by unfold SetTable.layClean.free at h;exact zqn h
 |fuel+1,i,pert,y,hi,h=>by
  have hr:=tN hi;unfold SetTable.layClean.free at h;have inb:∀k,k<SetTable.runEnd t.mask i+1-i->owner.getD (i+k) (some 0)=owner.getD (i+k) none:=fun k hk=>by
   rw[ya (by omega),ya (by omega)]
  have bz:∀k,k<SetTable.runEnd t.mask i+1-i->(!(owner.getD (i+k) (some 0)).isNone)=true->jp owner (i+k):=fun k hk hb=>by
   rw[inb k hk] at hb;unfold jp;cases q:owner.getD (i+k) none with
   |none=>rw[q] at hb;exact zqb hb
   |some v=>exact⟨v,rfl⟩
  split at h
  ·rename_i k hk;obtain⟨h1,h2,h3⟩:=List.find?_range_eq_some.mp hk;have h2:=List.mem_range.mp h2;obtain rfl:=Zqi h;refine⟨by omega,?_,k,?_,fun m hm=>?_⟩
   ·rw[inb k h2] at h1;cases q:owner.getD (i+k) none with
    |none=>rfl
    |some v=>rw[q] at h1;exact zqb h1
   ·rw[my t i pert k (by omega)]
   ·rw[my t i pert m (by omega)];exact bz m (by omega) (h3 m hm)
  ·rename_i hk;have h3:=List.find?_range_eq_none.mp hk;have hl:(SetTable.leap t.mask i pert).1<=t.mask:=Nat.lt_succ_iff.mp (Nat.mod_lt _ (Nat.succ_pos _));obtain⟨g1,g2,n,g3,g4⟩:=qE hs fuel _ _ y hl h;have he:=lX t (SetTable.runEnd t.mask i-i) (vW t.mask i pert) rfl rfl;have he:z8 t (SetTable.runEnd t.mask i-i+1) (vW t.mask i pert)=vW t.mask (SetTable.leap t.mask i pert).1 (SetTable.leap t.mask i pert).2:=he;refine⟨g1,g2,SetTable.runEnd t.mask i-i+1+n,by rw[wq,he];exact g3,fun m hm=>?_⟩;by_cases c:m<=SetTable.runEnd t.mask i-i
   ·rw[my t i pert m c];exact bz m (by omega) (h3 m (by omega))
   ·obtain⟨m',rfl⟩:∃m',m=SetTable.runEnd t.mask i-i+1+m':=⟨m-(SetTable.runEnd t.mask i-i+1),by omega⟩;rw[wq,he];exact g4 m' (by omega)
theorem qk {mask:Nat}{owner:Array (Option Nat)}(hs:owner.size=mask+1):∀(fuel i pert:Nat),i<=mask->SetTable.layClean.free mask owner fuel i pert=none->∀r,r<fuel->jp owner (sv mask r (i,pert)).1
 | 0,i,pert,_,_,r,hr=>Zn hr (Nat.not_lt_zero _)
 |fuel+1,i,pert,hi,h,r,hr=>by
  have hre:=tN hi;unfold SetTable.layClean.free at h
  split at h
  ·cases h
  ·rename_i hk;have h3:=List.find?_range_eq_none.mp hk;have hl:(SetTable.leap mask i pert).1<=mask:=Nat.lt_succ_iff.mp (Nat.mod_lt _ (Nat.succ_pos _));cases r with
   |zero =>
    have h0:=h3 0 (by omega);have e:owner.getD (i+0) (some 0)=owner.getD i none:=by rw[Nat.add_zero,ya (by omega),ya (by omega)]
    rw[e] at h0;show jp owner i;unfold jp;cases q:owner.getD i none with
    |none=>rw[q] at h0;exact zqb h0
    |some v=>exact⟨v,rfl⟩
   |succ r=>exact qk hs fuel _ _ hl h r (by omega)
theorem cover_run {mask k:Nat}(hk:mask+1=2 ^ k)(h:Int){y:Nat}(hy:y<=mask):∃r,r<SetTable.turns mask/\(sv mask r (SetTable.bits h % (mask+1),SetTable.bits h)).1=y:=by
 have hb:SetTable.bits h<2 ^ 64:=by
  unfold SetTable.bits;have:=Int.emod_lt_of_pos h (show(0:Int)<2 ^ 64 by decide);have:=Int.emod_nonneg h (show(2 ^ 64:Int)≠0 by decide);omega
 have hl:=lZ mask 13 (SetTable.bits h % (mask+1),SetTable.bits h) (Nat.mod_lt _ (by omega));have hp:(sv mask 13 (SetTable.bits h % (mask+1),SetTable.bits h)).2=0:=by
  rw[uK];exact Nat.div_eq_of_lt (Zg hb (by decide))
 refine zc1b (tG k (sv mask 13 (SetTable.bits h % (mask+1),SetTable.bits h)).1 y (by omega)) fun q hq e=>?_;refine⟨13+q,by unfold SetTable.turns;omega,?_⟩;rw[nI];generalize hR:sv mask 13 (SetTable.bits h % (mask+1),SetTable.bits h)=s at *;obtain⟨s1,s2⟩:=s;simp only at hp hl e;rw[hp,uH mask q s1 hl,hk,e]
structure LayOk (t:SetTable)(owner:Array (Option Nat))(hs:List Int):Prop where
 size:owner.size=t.mask+1
 lt:∀j i,owner.getD j none=some i->i<hs.length
 one:∀j j' i,owner.getD j none=some i->owner.getD j' none=some i->j=j'
 all:∀i,i<hs.length->∃j,j<=t.mask/\owner.getD j none=some i/\Way t (jp owner) (hs.getD i 0) j
theorem range_map_nodup {f:Nat->Nat}{n:Nat}(h:∀a b,a<n->b<n->f a=f b->a=b):((List.range n).map f).Nodup:=by
 unfold List.Nodup;rw[List.pairwise_map];refine List.Pairwise.imp_of_mem (R:=fun a b=>a≠b) (fun {a b} ha hb hn e=>hn (h a b (List.mem_range.mp ha) (List.mem_range.mp hb) e)) ?_;exact List.nodup_range
theorem lay_free {t:SetTable}{owner:Array (Option Nat)}{hs:List Int}(L:LayOk t owner hs)(hl:hs.length<=t.mask):∃y,y<=t.mask/\owner.getD y none=none:=by
 apply Classical.byContradiction;intro hno;have al:∀y,y<t.mask+1->∃i,owner.getD y none=some i:=fun y hy=>by
  cases q:owner.getD y none with
  |none=>exact Zn ⟨y,by omega,q⟩ hno
  |some i=>exact⟨i,rfl⟩
 have nd:((List.range (t.mask+1)).map fun y=>(owner.getD y none).getD 0).Nodup:=range_map_nodup fun a b ha hb e=>by
  obtain⟨i,hi⟩:=al a ha;obtain⟨i',hi'⟩:=al b hb;rw[hi,hi'] at e;have e:i=i':=e;subst e;exact L.one a b i hi hi'
 have sub:((List.range (t.mask+1)).map fun y=>(owner.getD y none).getD 0) ⊆ List.range hs.length:=fun z hz=>by
  refine zc1b (List.mem_map.mp hz) fun y hy zr2=>?_;subst zr2;obtain⟨i,hi⟩:=al y (List.mem_range.mp hy);rw[hi];exact List.mem_range.mpr (L.lt y i hi)
 have:=List.Nodup.length_le_of_subset nd sub;rw[Zql,ZA,ZA] at this;omega
theorem set_getD {owner:Array (Option Nat)}{y:Nat}(hy:y<owner.size)(v:Option Nat)(j:Nat):(owner.setIfInBounds y v).getD j none=if j=y then v else owner.getD j none:=by
 simp only[Array.getD_eq_getD_getElem?];rw[Array.getElem?_setIfInBounds];by_cases c:y=j
 ·subst c;rw[Zd rfl,Zd rfl,Zd hy];rfl
 ·rw[Ze c,Ze fun z=>c z.symm]
theorem lay_step {t:SetTable}{owner:Array (Option Nat)}{hs:List Int}(L:LayOk t owner hs)(hl:hs.length<=t.mask)(hp:∃k,t.mask+1=2 ^ k)(h:Int) :
 ∃y,SetTable.layClean.free t.mask owner (SetTable.turns t.mask) (SetTable.bits h % (t.mask+1)) (SetTable.bits h)=some y/\LayOk t (owner.setIfInBounds y (some hs.length)) (hs++[h]):=by
 have hi:SetTable.bits h % (t.mask+1)<=t.mask:=Nat.lt_succ_iff.mp (Nat.mod_lt _ (Nat.succ_pos _));cases q:SetTable.layClean.free t.mask owner (SetTable.turns t.mask) (SetTable.bits h % (t.mask+1)) (SetTable.bits h) with
 |none =>
  obtain⟨k,hk⟩:=hp;refine zc1b (lay_free L hl) fun y hy hf=>?_;refine zc1b (cover_run hk h hy) fun r hr e=>?_;obtain⟨i,hz⟩:=qk L.size _ _ _ hi q r hr;rw[e,hf] at hz;exact zqn hz
 |some y =>
  refine xm (qE L.size _ _ _ y hi q) fun h1 h2 zz=>zc1b zz fun n h3 h4=>?_;have sg:=set_getD (owner:=owner) (y:=y) (by rw[L.size];omega) (some hs.length);have oc:∀j,jp owner j->jp (owner.setIfInBounds y (some hs.length)) j:=by
   rintro j ⟨i,hj⟩;refine⟨i,?_⟩;rw[sg,Ze fun z=>by rw[z,h2] at hj;cases hj];exact hj
  refine⟨y,rfl,⟨by rw[Array.size_setIfInBounds];exact L.size,fun j i hj=>?_,fun j j' i hj hj'=>?_,fun i hi'=>?_⟩⟩
  ·rw[List.length_append,List.length_singleton];rw[sg] at hj
   split at hj
   ·cases hj;omega
   ·have:=L.lt j i hj;omega
  ·rw[sg] at hj hj'
   split at hj
   ·rename_i a;obtain rfl:=Zqi hj
    split at hj'
    ·rename_i b;rw[a,b]
    ·have:=L.lt j' _ hj';omega
   ·split at hj'
    ·obtain rfl:=Zqi hj';have:=L.lt j _ hj;omega
    ·exact L.one j j' i hj hj'
  ·rw[List.length_append,List.length_singleton] at hi';by_cases c:i<hs.length
   ·refine zc1c (L.all i c) fun j g1 g2 g3=>?_;refine⟨j,g1,?_,?_⟩
    ·rw[sg,Ze fun z=>by rw[z,h2] at g2;cases g2];exact g2
    ·have e:(hs++[h]).getD i 0=hs.getD i 0:=by
      rw[List.getD_eq_getElem?_getD,List.getD_eq_getElem?_getD,List.getElem?_append_left c]
     rw[e];exact g3.mono rfl oc
   ·have e:i=hs.length:=by omega
    subst e;refine⟨y,h1,by rw[sg,Zd rfl],?_⟩;have e:(hs++[h]).getD hs.length 0=h:=by
     rw[List.getD_eq_getElem?_getD,List.getElem?_append_right (Zf _),Nat.sub_self];rfl
    rw[e];exact⟨n,h3,fun m hm=>oc _ (h4 m hm)⟩
theorem n8 {t:SetTable}(hp:∃k,t.mask+1=2 ^ k):∀(rest:List Int) (hs:List Int) (owner:Array (Option Nat)),LayOk t owner hs->hs.length+rest.length<=t.mask+1 ->
 ∃owner',rest.foldl (init:=some (owner,hs.length)) (fun acc h=>do
  let (owner,k) <- acc
  let j <- SetTable.layClean.free t.mask owner (SetTable.turns t.mask) (SetTable.bits h % (t.mask+1)) (SetTable.bits h)
  pure (owner.setIfInBounds j (some k),k+1))=some (owner',hs.length+rest.length)/\LayOk t owner' (hs++rest)
 | [],hs,owner,L,_=>⟨owner,rfl,by rw[Zz];exact L⟩
 |h::rest,hs,owner,L,hl=>by
  rw[Zu] at hl;refine zc1b (lay_step L (by omega) hp h) fun y e L'=>?_;refine zc1b (n8 hp rest (hs++[h]) _ L' (by rw[List.length_append,List.length_singleton];omega)) fun o' e2 L2=>?_;refine⟨o',?_,by rw[List.append_assoc] at L2;exact L2⟩;rw[List.length_append,List.length_singleton] at e2;rw[List.foldl_cons];simp only[Option.bind_eq_bind,Option.bind_some,e];rw[Zu,show hs.length+(rest.length+1)=hs.length+1+rest.length by omega];exact e2
theorem lay_clean {t:SetTable}(hp:∃k,t.mask+1=2 ^ k)(hs:Array Int)(hl:hs.size<=t.mask+1):∃owner,SetTable.layClean t.mask hs=some owner/\LayOk t owner hs.toList:=by
 have L0:LayOk t (Array.replicate (t.mask+1) none) []:=by
  have z:∀j i,(Array.replicate (t.mask+1) (none:Option Nat)).getD j none≠some i:=fun j i h=>by
   simp only[Array.getD_eq_getD_getElem?,Array.getElem?_replicate] at h
   split at h<;>exact zqn h
  exact⟨by simp,fun j i h=>Zn h (z j i),fun j j' i h=>Zn h (z j i),fun i h=>Zn h (Nat.not_lt_zero _)⟩
 refine zc1b (n8 hp hs.toList [] _ L0 (by simpa using hl)) fun o e L=>?_;refine⟨o,?_,by simpa using L⟩;unfold SetTable.layClean;rw[<- Array.foldl_toList];have e:hs.toList.foldl _ (some (Array.replicate (t.mask+1) none,0))=some (o,[].length+hs.toList.length):=e;rw[e];rfl
open PySem
theorem owner_in {owner:Array (Option Nat)}{j i:Nat}(h:owner.getD j none=some i):j<owner.size:=by
 apply Classical.byContradiction;intro z;rw[Array.getD_eq_getD_getElem?,Array.getElem?_eq_none (by omega)] at h;exact zqn h
noncomputable def tz (mask:Nat)(owner:Array (Option Nat)):List (Nat×Nat):=(List.range (mask+1)).filterMap fun j=>(owner.getD j none).map (j,·)
theorem live_mem {mask:Nat}{owner:Array (Option Nat)}{p:Nat×Nat}:p∈tz mask owner↔p.1<=mask/\owner.getD p.1 none=some p.2:=by
 unfold tz;rw[List.mem_filterMap];constructor
 ·rintro⟨j,hj,e⟩;refine zc1b (Option.map_eq_some_iff.mp e) fun i hi e=>?_;subst e;exact⟨Nat.lt_succ_iff.mp (List.mem_range.mp hj),hi⟩
 ·rintro⟨h1,h2⟩;exact⟨p.1,List.mem_range.mpr (by omega),by rw[h2];rfl⟩
theorem live_up (mask:Nat)(owner:Array (Option Nat)):(tz mask owner).Pairwise fun a b=>a.1<b.1:=by
 unfold tz;rw[List.pairwise_filterMap];refine List.pairwise_lt_range.imp fun {a b} hab x hx y hy=>?_;refine zc1b (Option.map_eq_some_iff.mp hx) fun i _ zr2=>?_;subst zr2;refine zc1b (Option.map_eq_some_iff.mp hy) fun i' _ zr2=>?_;subst zr2;exact hab
theorem tw {α : Type}(l:List α)(i:Nat)(d:α):l.toArray.getD i d=l.getD i d:=by
 rw[Array.getD_eq_getD_getElem?,List.getElem?_toArray,List.getD_eq_getElem?_getD]
theorem r8 {α β : Type}(l:List α)(f:α -> β)(i:Nat)(hi:i<l.length)(d:β):(l.map f).getD i d=f l[i]:=by
 rw[List.getD_eq_getElem?_getD,Zv,Zqg hi];rfl
theorem laid_ok {mask:Nat}(hp:∃k,mask+1=2 ^ k)(hs:Array Int)(hl:hs.size<=mask)(finger moves:Nat)(led plain:Bool) :
 ∃t' order,SetTable.laid mask finger moves led plain hs=some (t',order)/\t'.mask=mask/\t'.moves=moves/\t'.led=led/\t'.plain=plain/\t'.finger=finger/\order.size=hs.size/\(∀k,k<order.size->order.getD k 0<hs.size)/\(∀k k',k<order.size->k'<order.size->order.getD k 0=order.getD k' 0->k=k')/\(∀i,i<hs.size->∃k,k<order.size/\order.getD k 0=i)/\TabOk t' (order.map fun i=>hs.getD i 0):=by
 let t0:SetTable:={ mask:=mask,place:=#[],dummies:=#[],finger:=0,led:=false,moves:=0,plain:=true }
 refine zc1b (lay_clean (t:=t0) hp hs (by show hs.size<=mask+1;omega)) fun owner e L=>?_;have e:SetTable.layClean mask hs=some owner:=e;have hsz:owner.size=mask+1:=L.size;have mem:=fun p=>live_mem (mask:=mask) (owner:=owner) (p:=p);have up:=live_up mask owner;have nd2:((tz mask owner).map (·.2)).Nodup:=by
  unfold List.Nodup;rw[List.pairwise_map];refine List.Pairwise.imp_of_mem (fun {a b} ha hb hab e2=>?_) up;have h1:=((mem a).mp ha).2;have h2:=((mem b).mp hb).2;rw[e2] at h1;have:=L.one _ _ _ h1 h2;omega
 have sub1:((tz mask owner).map (·.2)) ⊆ List.range hs.size:=fun z hz=>by
  refine zc1b (List.mem_map.mp hz) fun p hp zr2=>?_;subst zr2;have:=L.lt _ _ ((mem p).mp hp).2;exact List.mem_range.mpr (by simpa using this)
 have sub2:List.range hs.size ⊆ ((tz mask owner).map (·.2)):=fun i hi=>by
  refine zc1c (L.all i (by simpa using List.mem_range.mp hi)) fun j h1 h2 _=>?_;exact List.mem_map.mpr ⟨(j,i),(mem (j,i)).mpr ⟨h1,h2⟩,rfl⟩
 have len:(tz mask owner).length=hs.size:=by
  have a:=List.Nodup.length_le_of_subset nd2 sub1;have b:=List.Nodup.length_le_of_subset List.nodup_range sub2;rw[Zql,ZA] at a b;omega
 have el:SetTable.laid mask finger moves led plain hs=some ({ mask:=mask,place:=((tz mask owner).map (·.1)).toArray,dummies:=#[],finger:=finger,led:=led,moves:=moves,plain:=plain },((tz mask owner).map (·.2)).toArray):=by
  unfold SetTable.laid;rw[e];rfl
 generalize hlv:tz mask owner=lv at *;have gp:∀i (hi:i<lv.length),((lv.map (·.1)).toArray).getD i 0=lv[i].1:=fun i hi=>by rw[tw,r8 _ _ _ hi]
 have go:∀i (hi:i<lv.length),((lv.map (·.2)).toArray).getD i 0=lv[i].2:=fun i hi=>by rw[tw,r8 _ _ _ hi]
 have upi:=List.pairwise_iff_getElem.mp up;refine⟨_,_,el,rfl,rfl,rfl,rfl,rfl,by simpa using len,fun k hk=>?_,fun k k' hk hk' e2=>?_,fun i hi=>?_,?_⟩
 ·have hk:k<lv.length:=by simpa using hk
  rw[go k hk];have:=L.lt _ _ ((mem lv[k]).mp (List.getElem_mem hk)).2;simpa using this
 ·have hk:k<lv.length:=by simpa using hk
  have hk':k'<lv.length:=by simpa using hk'
  rw[go k hk,go k' hk'] at e2;have h1:=((mem lv[k]).mp (List.getElem_mem hk)).2;have h2:=((mem lv[k']).mp (List.getElem_mem hk')).2;rw[e2] at h1;have e3:=L.one _ _ _ h1 h2;rcases Nat.lt_trichotomy k k' with q|q|q
  ·have:=upi k k' hk hk' q;omega
  ·exact q
  ·have:=upi k' k hk' hk q;omega
 ·refine zc1b (List.mem_map.mp (sub2 (List.mem_range.mpr hi))) fun p hp e2=>?_;obtain⟨k,hk,rfl⟩:=List.getElem_of_mem hp;exact⟨k,by simpa using hk,by rw[go k hk];exact e2⟩
 ·have oc:∀j,jp owner j->occ { mask:=mask,place:=(lv.map (·.1)).toArray,dummies:=#[],finger:=finger,led:=led,moves:=moves,plain:=plain } j:=by
   rintro j ⟨i,hj⟩;have hin:=owner_in hj;have hm:(j,i)∈lv:=(mem (j,i)).mpr ⟨by show j<=mask;omega,hj⟩;obtain⟨k,hk,e2⟩:=List.getElem_of_mem hm;exact⟨k,by simpa using hk,by show((lv.map (·.1)).toArray).getD k 0=j;rw[gp k hk,e2]⟩
  refine⟨by simp,fun i j hij hj=>?_,fun i hi=>?_,rfl,hp,by show((lv.map (·.1)).toArray).size<=mask;simp;omega,fun k hk=>?_⟩
  ·have hj:j<lv.length:=by simpa using hj
   show((lv.map (·.1)).toArray).getD i 0<((lv.map (·.1)).toArray).getD j 0;rw[gp i (by omega),gp j hj];exact upi i j (by omega) hj hij
  ·have hi:i<lv.length:=by simpa using hi
   show((lv.map (·.1)).toArray).getD i 0<=mask;rw[gp i hi];exact((mem lv[i]).mp (List.getElem_mem hi)).1
  ·have hk:k<lv.length:=by simpa using hk
   have h1:=((mem lv[k]).mp (List.getElem_mem hk)).2;have hlt:=L.lt _ _ h1;refine zc1c (L.all lv[k].2 hlt) fun j g1 g2 g3=>?_;have ej:=L.one _ _ _ g2 h1;subst ej;have eh:(((lv.map (·.2)).toArray).map fun i=>hs.getD i 0).getD k 0=hs.toList.getD lv[k].2 0:=by
    have e4:((lv.map (·.2)).toArray).map (fun i=>hs.getD i 0)=((lv.map (·.2)).map fun i=>hs.getD i 0).toArray:=by simp
    rw[e4,tw,Zw,r8 _ _ _ hk];show hs.getD lv[k].2 0=_;rw[Array.getD_eq_getD_getElem?,List.getD_eq_getElem?_getD,Array.getElem?_toList]
   rw[eh];show Way _ _ _ (((lv.map (·.1)).toArray).getD k 0);rw[gp k hk];exact g3.mono rfl oc
theorem lP:∀(fuel size n:Nat),(∃k,size=2 ^ k)->n<size*2 ^ fuel->(∃k,SetTable.sizeAbove.go n fuel size=2 ^ k)/\n<SetTable.sizeAbove.go n fuel size
 | 0,size,n,hp,h=>by
  unfold SetTable.sizeAbove.go;exact⟨hp,by simpa using h⟩
 |fuel+1,size,n,⟨k,hk⟩,h=>by
  unfold SetTable.sizeAbove.go
  split
  ·exact lP fuel (size*2) n ⟨k+1,by rw[Nat.pow_succ,hk]⟩ (by rw[Nat.mul_assoc,<- Nat.pow_succ'];exact h)
  ·exact⟨⟨k,hk⟩,by omega⟩
theorem sD {n:Nat}(h:n<1000000000):(∃k,SetTable.sizeAbove n=2 ^ k)/\n<SetTable.sizeAbove n :=
 lP 64 8 n ⟨3,rfl⟩ (Zg h (by decide))
theorem sE:∀(fuel size n:Nat),size<=2*n+8->SetTable.sizeAbove.go n fuel size<=2*n+8
 | 0,size,n,h=>by unfold SetTable.sizeAbove.go;exact h
 |fuel+1,size,n,h=>by
  unfold SetTable.sizeAbove.go
  split
  ·exact sE fuel (size*2) n (by omega)
  ·exact h
theorem size_above_le (n:Nat):SetTable.sizeAbove n<=2*n+8:=sE 64 8 n (by omega)
theorem relaid_ok {t:SetTable}{hs:Array Int}{wanted:Nat}(h1:hs.size<=wanted)(h2:wanted<1000000000) :
 ∃t' order,t.relaid hs wanted=some (t',order)/\t'.led=t.led/\t'.plain=t.plain/\t'.mask+1=SetTable.sizeAbove wanted/\order.size=hs.size/\(∀k,k<order.size->order.getD k 0<hs.size)/\(∀k k',k<order.size->k'<order.size->order.getD k 0=order.getD k' 0->k=k')/\(∀i,i<hs.size->∃k,k<order.size/\order.getD k 0=i)/\TabOk t' (order.map fun i=>hs.getD i 0):=by
 obtain⟨⟨k,hk⟩,hlt⟩:=sD h2;have hm:SetTable.sizeAbove wanted-1+1=SetTable.sizeAbove wanted:=by omega
 refine zc2a (laid_ok (mask:=SetTable.sizeAbove wanted-1) ⟨k,by rw[hm];exact hk⟩ hs (by omega) t.finger (t.movedTo (SetTable.sizeAbove wanted-1)) t.led t.plain) fun t' order zz=>yT zz fun e e1 _ e3 zz=>yT zz fun e4 _ e6 e7 zz=>xm zz fun e8 e9 e10=>?_;exact⟨t',order,e,e3,e4,by rw[e1];exact hm,e6,e7,e8,e9,e10⟩
open PySem
variable {prog:Program}{w:World}{A:Around}{E:Value->Shared->Prop}{s:Shared}
theorem TabOk.fits {t:SetTable}{es:Array (Int×Value)}(T:TabOk t (es.map (·.1))):t.fits es.size=true:=by
 have h1:=T.size;rw[Array.size_map] at h1;unfold SetTable.fits SetTable.fill;rw[T.nod];simp -iota [h1,show es.size<=t.mask by have:=T.room;omega]
theorem nM {es:Array (Int×Value)}{i:Nat}(hi:i<es.size):(es.map (·.1)).getD i 0=es[i].1:=by
 rw[ya (by rw[Array.size_map];exact hi)];simp -iota
theorem oh {es:Array (Int×Value)}{i:Nat}(hi:i<es.size):(es[i]?.map (·.1)).getD 0=es[i].1:=by
 rw[Array.getElem?_eq_getElem hi];rfl
noncomputable def qd (t:SetTable)(p:SetTable.Probe):Prop:=p.j+p.more<=t.mask
theorem pM (t:SetTable){i pert:Nat}(h:i<=t.mask):qd t (vW t.mask i pert):=by
 have:=tN h;show i+(SetTable.runEnd t.mask i-i)<=t.mask;omega
theorem adv_inTab {t:SetTable}{p:SetTable.Probe}(h:qd t p):qd t (t.advance p):=by
 unfold qd at h;unfold SetTable.advance
 split
 ·show p.j+1+(p.more-1)<=t.mask;omega
 ·have hl:(SetTable.leap t.mask p.i p.perturb).1<=t.mask:=Nat.lt_succ_iff.mp (Nat.mod_lt _ (Nat.succ_pos _));exact pM t (pert:=(SetTable.leap t.mask p.i p.perturb).2) hl
theorem step_inTab {t:SetTable}{p:SetTable.Probe}(h:qd t p)(n:Nat):qd t (z8 t n p):=by
 induction n generalizing p with
 |zero=>exact h
 |succ n ih=>exact ih (adv_inTab h)
theorem start_le (t:SetTable)(h:Int):qd t (t.probeStart h):=pM t (pert:=SetTable.bits h) (Nat.lt_succ_iff.mp (Nat.mod_lt _ (Nat.succ_pos _)))
theorem step_le {t:SetTable}{p:SetTable.Probe}(h:qd t p)(n:Nat):(z8 t n p).j<=t.mask:=by
 have:=step_inTab h n;unfold qd at this;omega
theorem t7 {a:Addr}{o:Obj}{es:Array (Int×Value)}{ep:Nat}{t:SetTable}{x:Value}{h:Int}{same:Value->Bool}{Q:SetFound->Shared->Prop}{e:Nat}
 (ho:s.heap.get? a=some o) (hd:o.data=.set es ep t) (T:TabOk t (es.map (·.1))) (hodd:t.mask % 2=1)
 (hq:∀i (hi:i<es.size),es[i].1=h->∀Q:Bool->Shared->Prop,Q (same es[i].2) s->wpAny (model prog w) A (eqBool es[i].2 x) Q E s)
 (hr:∀i (hi:i<es.size),∃b,es[i].2=.ref b)
 (hsn:t.led=true\/∀Q:Bool->Shared->Prop,Q false s->wpAny (model prog w) A (searchCouldBeSeen x ((es.filter (·.1 == h)).toList.map (·.2))) Q E s)
 (he:e<10*SetTable.turns t.mask) (hoc:∀m,m<e->occ t (z8 t m (t.probeStart h)).j) (hfr:¬occ t (z8 t e (t.probeStart h)).j)
 (hit:∀i (hi:i<es.size),es[i].1=h->same es[i].2=true->Q (.there none) s)
 (miss:(∀i (hi:i<es.size),es[i].1=h->same es[i].2=false)->Q (.free (z8 t e (t.probeStart h)).j false) s) :
 ∀(fuel c:Nat) (st:Option SetTable.Probe),c<=e->e-c<fuel->st.getD (t.probeStart h)=z8 t c (t.probeStart h) ->
  (∀m i (hi:i<es.size),m<c->t.slot (z8 t m (t.probeStart h)).j=.live i->es[i].1=h->same es[i].2=false) ->
  wpAny (model prog w) A (setSearchFrom a x h true fuel st) Q E s
 | 0,c,st,hc,hf,_,_=>Zn hf (Nat.not_lt_zero _)
 |fuel+1,c,st,hc,hf,hst,hno=>by
  have hsz:t.place.size=es.size:=by have:=T.size;rwa [Array.size_map] at this
  show wpAny _ _ (_ >>= _) _ _ _;refine Za (wpAny_setState_of ho hd T.fits ?_);dsimp only;have hg:t.gaveWay=false:=by unfold SetTable.gaveWay;rw[hodd];rfl
  rw[hg];simp -iota only[Bool.false_eq_true,if_false];have live:∀m,m<e->∃i,t.slot (z8 t m (t.probeStart h)).j=.live i/\i<es.size/\t.place.getD i 0=(z8 t m (t.probeStart h)).j:=fun m hm=>by
   refine zc1c (slot_occ T.up (hoc m hm)) fun i h1 h2 h3=>?_;exact⟨i,h1,by omega,h3⟩
  have step:∀m,z8 t m (z8 t c (t.probeStart h))=z8 t (c+m) (t.probeStart h):=fun m=>(wq t c m _).symm;have meets:∀g:Nat->Int,(∀i,g i=(es[i]?.map (·.1)).getD 0)->(∃m i,c<=m/\m<e/\t.slot (z8 t m (t.probeStart h)).j=.live i/\g i=h/\t.probe g h (st.getD (t.probeStart h))=some (.candidate (z8 t m (t.probeStart h)).j i (z8 t (m+1) (t.probeStart h)))/\∀m' i',c<=m'->m'<m->t.slot (z8 t m' (t.probeStart h)).j=.live i'->g i'≠h) \/
   (t.probe g h (st.getD (t.probeStart h))=some (.empty (z8 t e (t.probeStart h)).j none)/\∀m' i',c<=m'->m'<e->t.slot (z8 t m' (t.probeStart h)).j=.live i'->g i'≠h):=fun g _=>by
   rw[hst];have sd:(z8 t c (t.probeStart h)).dummy=none:=step_dummy rfl c;have ek:c+(e-c)=e:=by omega
   rcases oZ (t:=t) (hashAt:=g) (h:=h) (e-c) (10*SetTable.turns t.mask) (z8 t c (t.probeStart h)) (by omega) sd (fun m hm=>by
    rw[step];obtain⟨i,h1,_⟩:=live (c+m) (by omega);exact⟨i,h1⟩) (by rw[step,ek];exact slot_empty T.nod hfr) with ⟨m,i,g1,g2,g3,g4,g5⟩|⟨g1,g2⟩
   ·rw[step] at g2 g4;rw[step] at g4;refine .inl ⟨c+m,i,by omega,by omega,g2,g3,g4,fun m' i' a1 a2 a3=>g5 (m'-c) i' (by omega) (by rw[step,show c+(m'-c)=m' by omega];exact a3)⟩
   ·rw[step,ek] at g1;exact .inr ⟨g1,fun m' i' a1 a2 a3=>g2 (m'-c) i' (by omega) (by rw[step,show c+(m'-c)=m' by omega];exact a3)⟩
  generalize hmet:t.probe _ h (st.getD (t.probeStart h))=met;have here:∀i (hi:i<es.size),es[i].1=h->∃m,m<e/\t.slot (z8 t m (t.probeStart h)).j=.live i:=fun i hi hh=>by
   refine zc1b (T.ways i (by omega)) fun n n1 n2=>?_;rw[nM hi,hh] at n1 n2;refine⟨n,?_,by rw[n1];exact p7 T.up (by omega) rfl⟩;rcases Nat.lt_trichotomy n e with q|q|q
   ·exact q
   ·subst q;exact Zn ⟨i,by omega,n1.symm⟩ hfr
   ·exact Zn (n2 e q) hfr
  rcases meets _ (fun i=>rfl) with ⟨m,i,c1,c2,c3,c4,c5,c6⟩|⟨c1,c2⟩
  ·have em:=hmet.symm.trans c5;subst em;refine zc1c (live m c2) fun i2 k1 k2 k3=>?_;rw[c3] at k1;cases k1;have hh:es[i].1=h:=by rw[<- oh k2];exact c4
   dsimp only;have rest:wpAny (model prog w) A (do
    let some (_,y):=es[i]? | unsupported "internal:set-entry"
    let equal <- holding [y] (eqBool y x)
    let (es',_,t') <- setState a
    if true&&equal then return SetFound.there none
    let some same:=t'.sameMemory t.moves t.mask|unsupported "set.changed-during-lookup:is-the-new-block-at-the-old-address"
    let still <- match (if same then t'.slot (z8 t m (t.probeStart h)).j else .empty) with
     | .live i'=>match es'[i']? with
      |some (_,y')=>do pure (if <- isSame y' y then some i' else none)
      |none=>pure none
     |_=>pure none
    match still with
    |none=>rule "set.search.anew";setSearchFrom a x h true fuel none
    |some i'=>if equal then return .there (some i') else setSearchFrom a x h true fuel (some (z8 t (m+1) (t.probeStart h)))) Q E s:=by
    rw[Array.getElem?_eq_getElem k2];dsimp only;refine Za (wpAny_holding (hq i k2 hh _ ?_));refine Za (wpAny_setState_of ho hd T.fits ?_);dsimp only;cases hs:same es[i].2 with
    |true =>
     simp -iota only[Bool.and_self,if_true];exact Zb (hit i k2 hh hs)
    |false =>
     simp -iota only[Bool.and_false,Bool.false_eq_true,if_false];have hsm:t.sameMemory t.moves t.mask=some true:=by unfold SetTable.sameMemory;rw[Zd (beq_self_eq_true _)]
     rw[hsm];dsimp only;simp -iota only[if_true];rw[c3];dsimp only;rw[Array.getElem?_eq_getElem k2];dsimp only;obtain⟨b,hb⟩:=hr i k2;have his:∀{Q':Bool->Shared->Prop},Q' true s->wpAny (model prog w) A (isSame es[i].2 es[i].2) Q' E s:=fun {Q'} hq'=>by
      rw[hb];unfold isSame;dsimp only;rw[Zd (beq_self_eq_true _)];exact Zb hq'
     refine Za (his ?_);simp -iota only[if_true];refine Za (Zb ?_);dsimp only;refine t7 ho hd T hodd hq hr hsn he hoc hfr hit miss fuel (m+1) _ (by omega) (by omega) rfl fun m' i' hi' hm' hl hh'=>?_;by_cases d1:m'<c
     ·exact hno m' i' hi' d1 hl hh'
     ·by_cases d2:m'=m
      ·subst d2;rw[c3] at hl;cases hl;exact hs
      ·exact Zn (by rw[oh hi'];exact hh') (c6 m' i' (by omega) (by omega) hl)
   cases hld:t.led with
   |true =>
    rw[Ze (by simp -iota)];exact rest
   |false =>
    rw[Zd (by simp -iota)];rcases hsn with z|hsn
    ·rw[z] at hld;cases hld
    ·refine Za (hsn _ ?_);rw[Ze (by simp -iota)];exact rest
  ·have em:=hmet.symm.trans c1;subst em;dsimp only;refine Zb (miss fun i hi hh=>?_);refine zc1b (here i hi hh) fun m m1 m2=>?_;by_cases d1:m<c
   ·exact hno m i hi d1 m2 hh
   ·exact Zn (by rw[oh hi];exact hh) (c2 m i (by omega) m1 m2)
theorem search_ok {a:Addr}{o:Obj}{es:Array (Int×Value)}{ep:Nat}{t:SetTable}{x:Value}{h:Int}{same:Value->Bool}{Q:SetFound->Shared->Prop}
 (ho:s.heap.get? a=some o) (hd:o.data=.set es ep t) (T:TabOk t (es.map (·.1))) (hodd:t.mask % 2=1) (hm:t.mask<=9000)
 (hq:∀i (hi:i<es.size),es[i].1=h->∀Q:Bool->Shared->Prop,Q (same es[i].2) s->wpAny (model prog w) A (eqBool es[i].2 x) Q E s)
 (hr:∀i (hi:i<es.size),∃b,es[i].2=.ref b)
 (hsn:t.led=true\/∀Q:Bool->Shared->Prop,Q false s->wpAny (model prog w) A (searchCouldBeSeen x ((es.filter (·.1 == h)).toList.map (·.2))) Q E s)
 (hit:∀i (hi:i<es.size),es[i].1=h->same es[i].2=true->Q (.there none) s)
 (miss:(∀i (hi:i<es.size),es[i].1=h->same es[i].2=false)->∀y,y<=t.mask->¬occ t y->Way t (occ t) h y->Q (.free y false) s) :
 wpAny (model prog w) A (setSearch a x h true) Q E s:=by
 refine zc1c (first_free T h) fun e he hoc hfr=>?_;have hj:(z8 t e (t.probeStart h)).j<=t.mask:=step_le (start_le t h) e;unfold setSearch;exact t7 ho hd T hodd hq hr hsn he hoc hfr hit (fun z=>miss z _ hj hfr ⟨e,rfl,hoc⟩) 100000 0 none (Nat.zero_le _) (by unfold SetTable.turns at he;omega) rfl fun m i hi hm'=>Zn hm' (Nat.not_lt_zero _)
open PySem
theorem ss:∀(fuel size n:Nat),size<=SetTable.sizeAbove.go n fuel size
 | 0,size,n=>by unfold SetTable.sizeAbove.go;exact Zf _
 |fuel+1,size,n=>by
  unfold SetTable.sizeAbove.go
  split
  ·exact Zh (by omega) (ss fuel (size*2) n)
  ·exact Zf _
theorem size_above_ge (n:Nat):8<=SetTable.sizeAbove n:=ss 64 8 n
theorem odd_of {m k:Nat}(h:m+1=2 ^ k)(h7:7<=m):m % 2=1:=by
 cases k with
 |zero=>rw[Nat.pow_zero] at h;omega
 |succ k=>rw[Nat.pow_succ] at h;omega
theorem order_perm {order:Array Nat}{n:Nat}(h1:∀k,k<order.size->order.getD k 0<n)(h2:∀k k',k<order.size->k'<order.size->order.getD k 0=order.getD k' 0->k=k')(h3:∀i,i<n->∃k,k<order.size/\order.getD k 0=i):order.toList.Perm (List.range n):=by
 have nd:order.toList.Nodup:=by
  unfold List.Nodup;rw[List.pairwise_iff_getElem];intro i j hi hj hij e;have hi':i<order.size:=by simpa -iota using hi
  have hj':j<order.size:=by simpa -iota using hj
  have:=h2 i j hi' hj' (by rw[ya hi',ya hj'];simpa -iota using e);omega
 refine List.perm_iff_count.mpr fun a=>?_;rw[nd.count,List.nodup_range.count];have:a∈order.toList↔a∈List.range n:=by
  rw[List.mem_range];constructor
  ·intro h;obtain⟨k,hk,e⟩:=List.getElem_of_mem h;have hk':k<order.size:=by simpa -iota using hk
   have:=h1 k hk';rw[ya hk'] at this;have e:order[k]=a:=by simpa -iota using e
   omega
  ·intro h;obtain⟨k,hk,e⟩:=h3 a h;rw[ya hk] at e;rw[<- e,Array.mem_toList_iff];exact Array.getElem_mem hk
 simp -iota only[this]
theorem pick_all {α : Type}{es:Array α}{order:Array Nat}(d:α)(h1:∀k,k<order.size->order.getD k 0<es.size):(order.filterMap (es[·]?))=order.map fun i=>es.getD i d:=by
 apply Array.toList_inj.mp;rw[Array.toList_filterMap,Array.toList_map];have:∀l:List Nat,(∀i∈l,i<es.size)->l.filterMap (es[·]?)=l.map fun i=>es.getD i d:=by
  intro l
  induction l with
  |nil=>intro _;rfl
  |cons i l ih =>
   intro h;rw[List.filterMap_cons,Zl,Array.getElem?_eq_getElem (h i Zqs)];dsimp only;rw[ih fun j hj=>h j (Zqm _ hj),ya (h i Zqs)]
 refine this _ fun i hi=>?_;obtain⟨k,hk,e⟩:=List.getElem_of_mem hi;have hk':k<order.size:=by simpa -iota using hk
 have:=h1 k hk';rw[ya hk'] at this;have e:order[k]=i:=by simpa -iota using e
 omega
structure SetIs (hp:Heap)(a:Addr)(es:Array (Int×Value))(t:SetTable):Prop where
 at_:∃ep,hp.get? a=some { cls:=.type "set",dict:=none,data:=.set es ep t,slots:=#[] }
 tab:TabOk t (es.map (·.1))
 seven:7<=t.mask
 most:t.mask<=8*es.size+7
 room:es.size*5<t.mask*3
 refs:∀i (hi:i<es.size),∃b,es[i].2=.ref b
theorem SetIs.odd {hp:Heap}{a:Addr}{es:Array (Int×Value)}{t:SetTable}(S:SetIs hp a es t):t.mask % 2=1:=by
 obtain⟨k,hk⟩:=S.tab.pow;exact odd_of hk S.seven
variable {prog:Program}{w:World}{A:Around}{E:Value->Shared->Prop}{s:Shared}
theorem pH {hp:Heap}{a:Addr}{es es':Array (Int×Value)}{ep:Nat}{t t':SetTable}(ho:hp.get? a=some { cls:=.type "set",dict:=none,data:=.set es ep t,slots:=#[] }) :
 (hp.update a (Obj.putSet es' t')).get? a=some { cls:=.type "set",dict:=none,data:=.set es' (ep+1) t',slots:=#[] }:=by
 have e:=putSet_of (o:={ cls:=.type "set",dict:=none,data:=.set es ep t,slots:=#[] }) es' t' rfl;have:=Heap.get?_update_self (Obj.putSet es' t') ho (by rw[e];rfl);rw[e] at this;exact this
theorem insertAt_map {α β : Type}(f:α -> β)(xs:Array α)(p:Nat)(x:α):(SetTable.insertAt xs p x).map f=SetTable.insertAt (xs.map f) p (f x):=by
 unfold SetTable.insertAt;simp -iota
theorem relay_ok {a:Addr}{es:Array (Int×Value)}{ep:Nat}{t:SetTable}{Q:Unit->Shared->Prop}
 (ho:s.heap.get? a=some { cls:=.type "set",dict:=none,data:=.set es ep t,slots:=#[] }) (T:TabOk t (es.map (·.1))) (hn:1<=es.size) (hl:es.size<=1000) (hr:∀i (hi:i<es.size),∃b,es[i].2=.ref b)
 (h:∀es' t',es'.toList.Perm es.toList->t'.led=t.led->t'.plain=t.plain->SetIs (s.heap.update a (Obj.putSet es' t')) a es' t'->Q () { s with heap:=s.heap.update a (Obj.putSet es' t') }) :
 wpAny (model prog w) A (setRelay a (SetTable.grown es.size)) Q E s:=by
 have hg:SetTable.grown es.size=es.size*4:=by unfold SetTable.grown;rw[Ze (by omega)]
 have hle:=size_above_le (es.size*4);obtain⟨_,hgt⟩:=sD (n:=es.size*4) (by omega);have hge:=size_above_ge (es.size*4);refine zc2a (relaid_ok (t:=t) (hs:=es.map (·.1)) (wanted:=es.size*4) (by rw[Array.size_map];omega) (by omega)) fun t' order zz=>yT zz fun e e1 e2 e3 zz=>yT zz fun e4 e5 e6 e7 e8=>?_;rw[Array.size_map] at e4 e5 e7;rw[hg];unfold setRelay;refine Za (wpAny_setState_of ho rfl T.fits ?_);dsimp only;rw[Ze (by rw[sizeLine_eq];omega)];rw[e];have pk:=pick_all (es:=es) (0,Value.none) e5;have psz:(order.filterMap (es[·]?)).size=es.size:=by rw[pk,Array.size_map];exact e4
 have pm:(order.filterMap (es[·]?)).toList.Perm es.toList:=by
  rw[Array.toList_filterMap];exact((order_perm e5 e6 e7).filterMap _).trans (by rw[filterMap_getElem?_range])
 have ph:(order.filterMap (es[·]?)).map (·.1)=order.map fun i=>(es.map (·.1)).getD i 0:=by
  rw[pk,Array.map_map];apply Array.map_congr_left;intro i hi;obtain⟨k,hk,ek⟩:=Array.getElem_of_mem hi;have:=e5 k hk;rw[ya hk,ek] at this;show(es.getD i (0,Value.none)).1=_;rw[ya this,nM this]
 have T':TabOk t' ((order.filterMap (es[·]?)).map (·.1)):=by rw[ph];exact e8
 have rf:∀i (hi:i<(order.filterMap (es[·]?)).size),∃b,(order.filterMap (es[·]?))[i].2=.ref b:=fun i hi=>by
  have hm:(order.filterMap (es[·]?))[i]∈es.toList:=pm.mem_iff.mp (by rw[Array.mem_toList_iff];exact Array.getElem_mem hi);obtain⟨j,hj,ej⟩:=List.getElem_of_mem hm;have hj':j<es.size:=by simpa -iota using hj
  obtain⟨b,hb⟩:=hr j hj';refine⟨b,?_⟩;rw[<- ej];simpa -iota using hb
 have hne:¬((order.filterMap (es[·]?)).size != es.size)=true:=by rw[psz];simp -iota
 refine Za (wpAny_of_eq (a:=(order.filterMap (es[·]?),t')) ?_ ?_)
 ·show(if((order.filterMap (es[·]?)).size != es.size)=true then _ else _)=_;rw[Ze hne]
 ·dsimp only;generalize order.filterMap (es[·]?)=es' at psz pm T' rf ph;refine wpAny_storeSet_of ho rfl ?_ (by rw[sizeLine_eq];omega);refine h es' t' pm e1 e2 ⟨⟨ep+1,?_⟩,T',by omega,by omega,by omega,rf⟩;exact pH ho
theorem refs_perm {es es':Array (Int×Value)}(hr:∀i (hi:i<es.size),∃b,es[i].2=.ref b){x:Value}{h:Int}{b:Addr}(hx:x=.ref b)(pm:es'.toList.Perm (es.toList++[(h,x)])):∀i (hi:i<es'.size),∃b,es'[i].2=.ref b:=fun i hi=>by
 have hm:es'[i]∈es.toList++[(h,x)]:=pm.mem_iff.mp (by rw[Array.mem_toList_iff];exact Array.getElem_mem hi);rcases List.mem_append.mp hm with z|z
 ·obtain⟨j,hj,ej⟩:=List.getElem_of_mem z;have hj':j<es.size:=by simpa -iota using hj
  obtain⟨b,hb⟩:=hr j hj';refine⟨b,?_⟩;rw[<- ej];simpa -iota using hb
 ·rw[List.mem_singleton.mp z];exact⟨b,hx⟩
theorem add_ok {a:Addr}{es:Array (Int×Value)}{t:SetTable}{x:Value}{b:Addr}{h:Int}{same:Value->Bool}{Q:Bool->Shared->Prop}
 (S:SetIs s.heap a es t) (hx:x=.ref b) (hl:es.size+1<=1000)
 (hq:∀i (hi:i<es.size),es[i].1=h->∀Q:Bool->Shared->Prop,Q (same es[i].2) s->wpAny (model prog w) A (eqBool es[i].2 x) Q E s)
 (hsn:t.led=true\/∀Q:Bool->Shared->Prop,Q false s->wpAny (model prog w) A (searchCouldBeSeen x ((es.filter (·.1 == h)).toList.map (·.2))) Q E s)
 (hbv:∀Q:Bool->Shared->Prop,Q true s->wpAny (model prog w) A (hashByValue 8 x) Q E s)
 (hit:∀i (hi:i<es.size),es[i].1=h->same es[i].2=true->Q false s)
 (miss:(∀i (hi:i<es.size),es[i].1=h->same es[i].2=false)->∀h' es' t',Heap.SameBut a s.heap h'->SetIs h' a es' t'->es'.toList.Perm (es.toList++[(h,x)])->t'.led=t.led->t'.plain=t.plain->Q true { s with heap:=h' }) :
 wpAny (model prog w) A (setAddHashed a x h) Q E s:=by
 obtain⟨ep,ho⟩:=S.at_;have hm9:t.mask<=9000:=by have:=S.most;omega
 unfold setAddHashed setAddHashedIn;refine wpAny_holding (Za (wpAny_setState_of ho rfl S.tab.fits ?_));dsimp only;have hb:byScan x es=false:=by subst hx;rfl
 rw[hb];simp -iota only[Bool.false_eq_true,if_false];refine Za (search_ok ho rfl S.tab S.odd hm9 hq S.refs hsn (fun i hi h1 h2=>Zb (hit i hi h1 h2)) fun hno y hy hf hw=>?_);dsimp only;refine Za (wpAny_setState_of ho rfl S.tab.fits ?_);dsimp only;have hsz:t.place.size=es.size:=by have:=S.tab.size;rwa [Array.size_map] at this
 have hroom:=S.room;have hseven:=S.seven;refine xm (put_ok S.tab hy hf hw (by omega)) fun T1 hp1 hm1=>?_;rw[Array.size_map] at hp1;have ld1:(t.put y).1.led=t.led:=rfl;have pl1:(t.put y).1.plain=t.plain:=rfl;generalize hput:t.put y=tp at T1 hp1 hm1 ld1 pl1;obtain⟨t1,p⟩:=tp;dsimp only at T1 hp1 hm1 ld1 pl1 ⊢;have em:(SetTable.insertAt es p (h,x)).map (·.1)=SetTable.insertAt (es.map (·.1)) p h:=insertAt_map _ _ _ _;rw[<- em] at T1;have pm:(SetTable.insertAt es p (h,x)).toList.Perm (es.toList++[(h,x)]):=by
  have:=SetTable.insertAt_perm es p (h,x)
  rwa [Array.toList_push] at this
 have sz1:(SetTable.insertAt es p (h,x)).size=es.size+1:=xZ es hp1 _;have rf1:=refs_perm S.refs hx pm;generalize SetTable.insertAt es p (h,x)=es1 at T1 pm sz1 rf1;have tail:wpAny (model prog w) A (do
  storeSet a es1 t1
  if !false&&t1.tooFull then setRelay a (SetTable.grown (es.size+1))
  return true) Q E s:=by
  refine Za (wpAny_storeSet_of ho rfl ?_ (by rw[sizeLine_eq];omega));have ho1:=pH (es':=es1) (t':=t1) ho;have sb1:=Heap.SameBut.update s.heap a (Obj.putSet es1 t1);by_cases c:t1.tooFull=true
  ·rw[Zd (by rw[c];rfl)];rw[<- sz1];refine Za (relay_ok ho1 T1 (by omega) (by omega) rf1 fun es2 t2 pm2 l2 p2 S2=>?_);refine Zb (miss hno _ es2 t2 (sb1.trans (Heap.SameBut.update _ a _)) S2 (pm2.trans pm) (l2.trans ld1) (p2.trans pl1))
  ·rw[Ze (by simpa -iota using c)];have hfull:¬(t1.fill*5 ≥ t1.mask*3):=by
    intro z;exact c (by unfold SetTable.tooFull;exact Zp z)
   have hfl:t1.fill=es1.size:=by
    unfold SetTable.fill;have:=T1.size;rw[Array.size_map] at this;rw[this,T1.nod];rfl
   have S1:SetIs (s.heap.update a (Obj.putSet es1 t1)) a es1 t1:=⟨⟨ep+1,ho1⟩,T1,by omega,by have:=S.most;omega,by omega,rf1⟩;exact Zb (miss hno _ es1 t1 sb1 S1 pm ld1 pl1)
 split
 ·refine Za (hbv _ ?_);simp -iota only[if_true];exact tail
 ·refine Za (Zb ?_);simp -iota only[if_true];exact tail
open PySem
variable {prog:Program}{w:World}{A:Around}{E:Value->Shared->Prop}{s:Shared}
inductive HashAll (prog:Program)(w:World)(A:Around)(E:Value->Shared->Prop)(s:Shared):List Value->List Int->Prop
 |nil:HashAll prog w A E s [] []
 |cons {v:Value} {vs:List Value} {h:Int} {hs:List Int}:(∀(tk:Nat) (Q:Int->Shared->Prop),(∀tk',tk<=tk'->Q h { s with toks:=tk' })->wpAny (model prog w) A (pyHash v) Q E { s with toks:=tk })->HashAll prog w A E s vs hs->HashAll prog w A E s (v::vs) (h::hs)
noncomputable def og (hs:List Int):Int:=reduceHash (Builtin.Tuple.tupleHashOf hs)
theorem mt {a:Addr}{o:Obj}{items:Array Value}{n:Nat}{hs:List Int}{tk0:Nat}{Q:Int->Shared->Prop}(ho:s.heap.get? a=some o)(hc:o.cls=.type "tuple")(hd:o.data=.seq items n)(hu:A.units<cLine)
 (H:HashAll prog w A.in1 E s items.toList hs) (h:∀tk,tk0<=tk->Q (og hs) { s with toks:=tk }):wpAny (model prog w) A (pyHash (.ref a)) Q E { s with toks:=tk0 }:=by
 have hT:Shared.TypeIs { s with toks:=tk0 } (.ref a) "tuple" := ⟨o,ho,hc⟩;unfold pyHash;refine W.pyHash_slot (T := "tuple") hT F.slot_tuple_hash F.entry_tuple_hash (F.args_tuple_hash_1 _) (beq_builtin_none _) (.inr hu) ?_;show wpAny _ _ (Builtin.Tuple.tupleItemsOf (.ref a) >>= _) _ _ _;refine Za (wpAny_tupleItemsOf ho hd ?_);refine Za ?_;rw[<- Array.forIn_toList];refine wpAny_forIn_list _ (fun rest (b:Array Int) s'=>∃left tk,HashAll prog w A.in1 E s rest left/\b.toList++left=hs/\s'={ s with toks:=tk }/\tk0<=tk) _ ?_ ?_ _ _ ⟨hs,tk0,H,rfl,rfl,Zf _⟩
 ·rintro x rest b s' ⟨left,tk,hl,hb,rfl,hle⟩;cases hl with
  |cons h1 hl' =>
   refine Za (h1 tk _ fun tk' hle'=>?_);exact Zb ⟨_,tk',hl',by simp -iota [<- hb],rfl,Zh hle hle'⟩
 ·rintro b s' ⟨left,tk,hl,hb,rfl,hle⟩;cases hl;rw[Zz] at hb;show wpAny _ _ (retInt (Builtin.Tuple.tupleHashOf b.toList)) _ _ _;rw[hb];exact Za (wpAny_mkInt (Zb ⟨_,_,rfl,h _ (Nat.le_succ_of_le hle)⟩))
theorem pA {A:Around}:∀{vs:List Value} {ns:List Int},PyProof.Rows.IntsAre vs ns->HashAll prog w A E s vs (ns.map hashInt)
 |_,_,.nil=>.nil
 |_,_,.cons n t r=>.cons (fun tk Q h=>wpAny_pyHash_int (h _ (Nat.le_succ tk))) (pA r)
inductive PlainV (hp:Heap):Nat->Value->Prop
 |int (n:Nat) (i:Int) (t:Tok):PlainV hp n (.int i t)
 |tup {n:Nat} {a:Addr} {o:Obj} {items:Array Value} {k:Nat}:hp.get? a=some o->o.cls=.type "tuple" -> o.data=.seq items k->(∀v∈items.toList,PlainV hp n v)->PlainV hp (n+1) (.ref a)
theorem byValue_plain {n:Nat}{v:Value}(p:PlainV s.heap n v):∀(d:Nat) (Q:Bool->Shared->Prop),n<=d->Q true s->wpAny (model prog w) A (hashByValue d v) Q E s:=by
 induction p with
 |int n i t =>
  intro d Q _ h;cases d<;>exact Zb h
 |tup ho hc hd _ ih =>
  intro d Q hn h;cases d with
  |zero=>omega
  |succ d =>
   have hT:Shared.TypeIs s (.ref _) "tuple" := ⟨_,ho,hc⟩;unfold hashByValue;refine Za (wpAny_specialOf hT F.slot_tuple_hash.lookup ?_);dsimp only;refine Za (wpAny_seqItems ho hd ?_);refine Za ?_;show wpAny _ _ (forIn _ _ _) _ _ _;rw[Option.getD_some,<- Array.forIn_toList];refine wpAny_forIn_list _ (fun rest r s'=>r.1=none/\s'=s/\∀v∈rest,v∈_) _ ?_ ?_ _ _ ⟨rfl,rfl,fun v hv=>hv⟩
   ·rintro x rest r s' ⟨hr,rfl,hm⟩;refine Za (ih x (hm x Zqs) d _ (by omega) ?_);simp -iota only[Bool.not_true,Bool.false_eq_true,if_false];exact Zb ⟨rfl,rfl,fun v hv=>hm v (Zqm _ hv)⟩
   ·rintro⟨r1,r2⟩ s' ⟨hr,rfl,_⟩;simp -iota only at hr;subst hr;exact Zb h
theorem uE {n:Nat}{v:Value}(p:PlainV s.heap n v):∀(d:Nat) (Q:Bool->Shared->Prop),n<=d->Q true s->wpAny (model prog w) A (eqIsQuiet d v) Q E s:=by
 induction p with
 |int n i t =>
  intro d Q _ h;exact wpAny_of_eq (eqIsQuiet_byValue d rfl) h
 |tup ho hc hd _ ih =>
  intro d Q hn h;cases d with
  |zero=>omega
  |succ d =>
   have hT:Shared.TypeIs s (.ref _) "tuple" := ⟨_,ho,hc⟩;unfold eqIsQuiet;refine Za (wpAny_specialOf hT F.slot_tuple_eq.lookup ?_);dsimp only;refine Za (wpAny_isInstance hT isSubtype_tuple_tuple ?_);simp -iota only[Bool.not_true,Bool.false_eq_true,if_false];refine Za (wpAny_seqItems ho hd ?_);refine Za ?_;show wpAny _ _ (forIn _ _ _) _ _ _;rw[Option.getD_some,<- Array.forIn_toList];refine wpAny_forIn_list _ (fun rest r s'=>r.1=none/\s'=s/\∀v∈rest,v∈_) _ ?_ ?_ _ _ ⟨rfl,rfl,fun v hv=>hv⟩
   ·rintro x rest r s' ⟨hr,rfl,hm⟩;refine Za (ih x (hm x Zqs) d _ (by omega) ?_);simp -iota only[Bool.not_true,Bool.false_eq_true,if_false];exact Zb ⟨rfl,rfl,fun v hv=>hm v (Zqm _ hv)⟩
   ·rintro⟨r1,r2⟩ s' ⟨hr,rfl,_⟩;simp -iota only at hr;subst hr;exact Zb h
theorem uX {n:Nat}{v:Value}(p:PlainV s.heap n v):∀(d:Nat) (Q:Bool->Shared->Prop),n<=d->Q false s->wpAny (model prog w) A (ofAClassStatement d v) Q E s:=by
 induction p with
 |int n i t =>
  intro d Q _ h;cases d<;>exact Zb h
 |tup ho hc hd _ ih =>
  intro d Q hn h;cases d with
  |zero=>omega
  |succ d =>
   have hT:Shared.TypeIs s (.ref _) "tuple" := ⟨_,ho,hc⟩;unfold ofAClassStatement;refine Za (wpAny_typeOf hT ?_);dsimp only;rw[Zd (by decide)];refine Za (Zb ?_);simp -iota only[Bool.not_true,Bool.false_eq_true,if_false];refine Za (wpAny_seqItems ho hd ?_);dsimp only;refine Za ?_;show wpAny _ _ (forIn _ _ _) _ _ _;rw[<- Array.forIn_toList];refine wpAny_forIn_list _ (fun rest r s'=>r.1=none/\s'=s/\∀v∈rest,v∈_) _ ?_ ?_ _ _ ⟨rfl,rfl,fun v hv=>hv⟩
   ·rintro x rest r s' ⟨hr,rfl,hm⟩;refine Za (ih x (hm x Zqs) d _ (by omega) ?_);simp -iota only[Bool.false_eq_true,if_false];exact Zb ⟨rfl,rfl,fun v hv=>hm v (Zqm _ hv)⟩
   ·rintro⟨r1,r2⟩ s' ⟨hr,rfl,_⟩;simp -iota only at hr;subst hr;exact Zb h
theorem unseen_plain {n:Nat}{x:Value}{ys:List Value}{Q:Bool->Shared->Prop}(hn:n<=8)(px:PlainV s.heap n x)(py:∀y∈ys,PlainV s.heap n y)(h:Q false s):wpAny (model prog w) A (searchCouldBeSeen x ys) Q E s:=by
 unfold searchCouldBeSeen;refine Za ?_;refine wpAny_forIn_list _ (fun rest r s'=>r.1=none/\s'=s/\∀v∈rest,v∈ys) _ ?_ ?_ _ _ ⟨rfl,rfl,fun v hv=>hv⟩
 ·rintro y rest r s' ⟨hr,rfl,hm⟩;have hy:=py y (hm y Zqs);have nx:∀v∈rest,v∈ys:=fun v hv=>hm v (Zqm _ hv);dsimp only
  split
  all_goals
   split
   ·exact Zb ⟨rfl,rfl,nx⟩
   ·refine Za (uE px 8 _ hn ?_);simp -iota only[Bool.not_true,Bool.false_eq_true,if_false];refine Za (uE hy 8 _ hn ?_);simp -iota only[Bool.not_true,Bool.false_eq_true,if_false];refine Za (uX px 8 _ hn ?_);simp -iota only[Bool.false_eq_true,if_false];refine Za (uX hy 8 _ hn ?_);simp -iota only[Bool.false_eq_true,if_false];exact Zb ⟨rfl,rfl,nx⟩
 ·rintro⟨r1,r2⟩ s' ⟨hr,rfl,_⟩;simp -iota only at hr;subst hr;exact Zb h
structure KeyFam (prog:Program)(w:World)(hp:Heap)(PV:Value->Prop)(hsh:Value->Int)(same:Value->Value->Bool):Prop where
 ref:∀v,PV v->∃b,v=.ref b
 plain:∀v,PV v->PlainV hp 8 v
 hash:∀v,PV v->∀(A:Around) (E:Value->Shared->Prop) (s:Shared) (Q:Int->Shared->Prop),(∀b o,hp.get? b=some o->s.heap.get? b=some o)->A.units+8<cLine->(∀tk,s.toks<=tk->Q (hsh v) { s with toks:=tk })->wpAny (model prog w) A (pyHash v) Q E s
 eq:∀v u,PV v->PV u->∀(A:Around) (E:Value->Shared->Prop) (s:Shared) (Q:Bool->Shared->Prop),(∀b o,hp.get? b=some o->s.heap.get? b=some o)->A.units+8<cLine->Q (same v u) s->wpAny (model prog w) A (eqBool v u) Q E s
 coh:∀v u,PV v->PV u->same v u=true->hsh v=hsh u
theorem PlainV.keep {hp hp':Heap}(k:∀b o,hp.get? b=some o->hp'.get? b=some o){n:Nat}{v:Value}(p:PlainV hp n v):PlainV hp' n v:=by
 induction p with
 |int n i t=>exact .int n i t
 |tup ho hc hd _ ih=>exact .tup (k _ _ ho) hc hd ih
noncomputable def qm (same:Value->Value->Bool)(D:List Value)(v:Value):List Value:=if D.any (same · v) then D else D++[v]
def jj (same:Value->Value->Bool)(val:Nat->Value)(i:Nat):List Value:=((List.range i).map val).foldl (qm same) []
theorem wX (same:Value->Value->Bool)(val:Nat->Value)(i:Nat):jj same val (i+1)=qm same (jj same val i) (val i):=by
 unfold jj;rw[List.range_succ,List.map_append,List.foldl_append];rfl
theorem nH (same:Value->Value->Bool)(val:Nat->Value):∀i,(jj same val i).length<=i
 | 0=>Zf _
 |i+1=>by
  have:=nH same val i;rw[wX];unfold qm
  split
  ·omega
  ·rw[List.length_append,List.length_singleton];omega
theorem rF (same:Value->Value->Bool)(val:Nat->Value):∀i v,v∈jj same val i->∃j,j<i/\v=val j
 | 0,v,h=>by cases h
 |i+1,v,h=>by
  rw[wX] at h;unfold qm at h
  split at h
  ·refine zc1b (rF same val i v h) fun j hj e=>?_;exact⟨j,by omega,e⟩
  ·rcases List.mem_append.mp h with z|z
   ·refine zc1b (rF same val i v z) fun j hj e=>?_;exact⟨j,by omega,e⟩
   ·exact⟨i,by omega,List.mem_singleton.mp z⟩
noncomputable def Holds (hsh:Value->Int)(hp:Heap)(S:Addr)(ld:Bool)(D:List Value):Prop:=∃es t,SetIs hp S es t/\es.toList.Perm (D.map fun v=>(hsh v,v))/\t.led=ld/\t.plain=true
section
variable {prog:Program}{w:World}{A:Around}{E:Value->Shared->Prop}{s:Shared}
theorem add_holds {hp:Heap}{PV:Value->Prop}{hsh:Value->Int}{same:Value->Value->Bool}(K:KeyFam prog w hp PV hsh same){S:Addr}{ld:Bool}{D:List Value}{x:Value}{Q:Bool->Shared->Prop}
 (hk:∀b o,hp.get? b=some o->s.heap.get? b=some o) (hu:A.units+8<cLine) (H:Holds hsh s.heap S ld D) (hD:∀v∈D,PV v) (hx:PV x) (hl:D.length<=999)
 (h:∀h' b,Heap.SameBut S s.heap h'->Holds hsh h' S ld (qm same D x)->Q b { s with heap:=h' }):wpAny (model prog w) A (setAddHashed S x (hsh x)) Q E s:=by
 refine zc2d H fun es t SI pm hld hpl=>?_;obtain⟨b,hb⟩:=K.ref x hx;have hlen:es.size=D.length:=by
  have:=pm.length_eq;rw[Zql,Array.length_toList] at this;exact this
 have ent:∀i (hi:i<es.size),es[i].2∈D/\es[i].1=hsh es[i].2:=fun i hi=>by
  have hm:es[i]∈D.map fun v=>(hsh v,v):=pm.mem_iff.mp (by rw[Array.mem_toList_iff];exact Array.getElem_mem hi);refine zc1b (List.mem_map.mp hm) fun v hv e=>?_;rw[<- e];exact⟨hv,rfl⟩
 have back:∀v∈D,∃i,∃hi:i<es.size,es[i]=(hsh v,v):=fun v hv=>by
  have hm:(hsh v,v)∈es.toList:=pm.mem_iff.mpr (List.mem_map.mpr ⟨v,hv,rfl⟩);obtain⟨i,hi,e⟩:=List.getElem_of_mem hm;exact⟨i,by simpa using hi,by simpa using e⟩
 have px:=(K.plain x hx).keep hk;refine add_ok (same:=fun y=>same y x) SI hb (by omega) (fun i hi _ Q' hq=>K.eq _ _ (hD _ (ent i hi).1) hx A E s Q' hk hu hq) (.inr fun Q' hq=>?_) (fun Q' hq=>byValue_plain px 8 Q' (Zf _) hq) (fun i hi h1 h2=>?_) fun hno h' es' t' sb S' pm' l' p'=>?_
 ·refine unseen_plain (Zf 8) px (fun y hy=>?_) hq;refine zc1b (List.mem_map.mp hy) fun e he zr2=>?_;subst zr2;have he:e∈es:=by
   have:=Array.mem_toList_iff.mp he;exact(Array.mem_filter.mp this).1
  obtain⟨i,hi,rfl⟩:=Array.getElem_of_mem he;exact(K.plain _ (hD _ (ent i hi).1)).keep hk
 ·have e:qm same D x=D:=Zd (List.any_eq_true.mpr ⟨_,(ent i hi).1,h2⟩);have:=h s.heap false (Heap.SameBut.refl S s.heap) ⟨es,t,SI,by rw[e];exact pm,hld,hpl⟩;exact this
 ·have e:qm same D x=D++[x]:=Ze fun z=>by
   refine zc1b (List.any_eq_true.mp z) fun v hv hs=>?_;obtain⟨i,hi,ei⟩:=back v hv;have:=hno i hi (by rw[ei];exact K.coh v x (hD v hv) hx hs);rw[ei] at this;rw[hs] at this;cases this
  refine h h' true sb ⟨es',t',S',?_,l'.trans hld,p'.trans hpl⟩;rw[e,List.map_append];exact pm'.trans (pm.append_right _)
end
section
variable {prog:Program}{w:World}{A:Around}{R:Result->Shared->Prop}{I:Addr}{fp wr:List Addr}{G:Array GenState->Array GenState->Prop}{n:Nat}{P:Nat->Value->Prop}{St:Nat->Shared->Prop}
theorem Holds.keep {hsh:Value->Int}{hp hp':Heap}{S:Addr}{ld:Bool}{D:List Value}(H:Holds hsh hp S ld D)(k:∀o,hp.get? S=some o->hp'.get? S=some o):Holds hsh hp' S ld D:=by
 refine zc2b H fun es t SI r=>?_;obtain⟨ep,ho⟩:=SI.at_;exact⟨es,t,⟨⟨ep,k _ ho⟩,SI.tab,SI.seven,SI.most,SI.room,SI.refs⟩,r⟩
theorem set_loop (W:WalksS prog w A.in1 I fp wr G n P St)(S:Addr)(hSf:S∉fp){hp:Heap}(hpw:∀b o,hp.get? b=some o->b∉wr/\b≠S)
 {PV:Value->Prop} {hsh:Value->Int} {same:Value->Value->Bool} (K:KeyFam prog w hp PV hsh same) (val:Nat->Value) (hval:∀i v,P i v->v=val i) (hPV:∀i,i<n->PV (val i)) (hn:n<=999) (hu:A.in1.units+8<cLine) (ld:Bool) :
 ∀(k i:Nat) (s:Shared),n-i=k->i<=n->St i s->(∀b o,hp.get? b=some o->s.heap.get? b=some o)->Holds hsh s.heap S ld (jj same val i) ->
  (∀s',Moved (S::wr) G s s'->Holds hsh s'.heap S ld (jj same val n)->R (.ok (.ret .none)) s') ->
  codeAny (model prog w) A (.builtin "set.update.loop" ⟨[.ref S,.ref I],[]⟩) R s:=by
 have hSw:S∉wr:=fun h=>hSf (W.sub _ h);have hsub:∀b∈wr,b∈S::wr:=fun b hb=>Zqm _ hb;intro k
 induction k with
 |zero =>
  intro i s hk hi hst hkp H hR;have hin:i=n:=by omega
  subst hin;refine codeAny_builtin F.entry_set_update_loop ?_;rw[Around.under_plainId F.plain_set_update_loop _];show wpAny _ A.in1 (pyNext (.ref I) >>= _) _ _ s;refine Za (W.done s _ _ hst fun s' hm=>?_);show wpAny _ A.in1 (ret Value.none) _ _ s';exact Zb (hR s' (hm.mono hsub) (H.keep fun o e=>hm.heap S _ hSw e))
 |succ k ih =>
  intro i s hk hi hst hkp H hR;have hlt:i<n:=by omega
  refine codeAny_builtin F.entry_set_update_loop ?_;rw[Around.under_plainId F.plain_set_update_loop _];show wpAny _ A.in1 (pyNext (.ref I) >>= _) _ _ s;refine Za (W.item i s _ _ hlt hst fun v s' hP hst' hm=>?_);have ev:=hval i v hP;have H':=H.keep (hp':=s'.heap) fun o e=>hm.heap S _ hSw e;have hkp':∀b o,hp.get? b=some o->s'.heap.get? b=some o:=fun b o e=>hm.heap b o (hpw b o e).1 (hkp b o e);have hv:PV v:=by rw[ev];exact hPV i hlt
  show wpAny _ A.in1 (holding [v] (setAdd S v) >>= _) _ _ s';refine Za (wpAny_holding ?_);unfold setAdd;refine wpAny_holding ?_;refine Za (K.hash v hv _ _ _ _ hkp' hu fun tk htk=>?_);have hl:=nH same val i;refine add_holds K (s:={ s' with toks:=tk }) hkp' hu H' (fun u hu'=>?_) hv (by omega) fun h' b hsb H2=>?_
  ·refine zc1b (rF same val i u hu') fun j hj e=>?_;rw[e];exact hPV j (by omega)
  ·rw[ev,<- wX] at H2;refine Zb ⟨plainId_quiet F.plain_set_update_loop _,ih (i+1) _ (by omega) hlt (W.frame _ s' _ _ hst' ?_ fun b hb o e=>?_) (fun b o e=>?_) H2 fun s'' hm'' H''=>?_⟩
   ·exact htk
   ·rw[hsb.2 b (fun h:b=S=>hSf (by rw[<- h];exact hb))];exact e
   ·rw[hsb.2 b (hpw b o e).2];exact hkp' b o e
   ·refine hR s'' (Moved.trans W.gtrans ((hm.mono hsub).then_heap ?_ fun b o hb e=>?_) hm'') H''
    ·exact htk
    ·rw[hsb.2 b (fun h:b=S=>hb (by rw[h];exact Zqs))];exact e
end
theorem fresh_tab (led:Bool):TabOk (SetTable.fresh 0 0 led) ((#[]:Array (Int×Value)).map (·.1)):=by
 refine⟨by rw[Array.size_map];rfl,fun i j _ h=>Zn h (Nat.not_lt_zero _),fun i h=>Zn h (Nat.not_lt_zero _),rfl,⟨3,rfl⟩,Nat.zero_le _,fun i h=>Zn h (Nat.not_lt_zero _)⟩
theorem fresh_holds {hsh:Value->Int}{hp:Heap}{S:Addr}{led:Bool}(ho:hp.get? S=some { cls:=.type "set",dict:=none,data:=.set #[] 0 (.fresh 0 0 led) }):Holds hsh hp S led [] :=
 ⟨#[],.fresh 0 0 led,⟨⟨0,ho⟩,fresh_tab led,Zf _,Zf _,(show 0*5<7*3 by decide),fun i h=>Zn h (Nat.not_lt_zero _)⟩,List.Perm.refl _,rfl,rfl⟩
section
variable {prog:Program}{w:World}{A:Around}{E:Value->Shared->Prop}{s:Shared}
noncomputable def iX (w:World):Bool:=!w.params.followText "set-order"
theorem code_set_led (a:Value){Q₁:Value->Shared->Prop}
 (h:Q₁ (.ref s.heap.objs.size) { s with heap:=s.heap.push { cls:=.type "set",dict:=none,data:=.set #[] 0 (.fresh 0 0 (iX w)) } }) :
 codeAny (model prog w) A (.call (.builtin "set.__new__") ⟨[.type "set",a],[]⟩) (wants Q₁ E) s:=by
 refine codeAny_of_tree ?_;show wpAny _ A.in1 (do checkBuiltinCall "set.__new__" ⟨[.type "set",a],[]⟩;again (.builtin "set.__new__" ⟨[.type "set",a],[]⟩)) _ _ s;refine Za (wpAny_of_eq (F.newCall_set_1 a) (Zb ⟨plainId_quiet F.plain_set_new _,codeAny_builtin F.entry_set_new ?_⟩));rw[Around.under_plainId F.plain_set_new _];unfold Builtin.«set.__new__» Builtin.Frozenset.newClass;have hsub:=sub_set_self;obtain⟨hp,g,d,tk,os⟩:=s;dsimp only
 wp_walk
 refine wpAny_askSetting (Zb ?_);dsimp only;simp only[newObj];refine Za (wpAny_alloc (Zb ?_));exact Zb h
set_option maxRecDepth 100000 in
set_option maxHeartbeats 3200000 in
theorem call_set_fam {l:Addr}{items:Array Value}{PV:Value->Prop}{hsh:Value->Int}{same:Value->Value->Bool}{Q:Value->Shared->Prop}(hh:A.handled=none)(hl:s.heap.IsList l items)(K:KeyFam prog w s.heap PV hsh same)
 (hPV:∀(i:Nat) (v:Value),items[i]? = some v->PV v) (hn:items.size<=999) (hu:A.in1.in1.in1.units+8<cLine)
 (h:∀(h':Heap) (tk:Nat),Holds hsh h' s.heap.objs.size (iX w) (jj same (fun i=>items.getD i .none) items.size)->(∀b o,b<s.heap.objs.size->s.heap.get? b=some o->h'.get? b=some o)->Q (.ref s.heap.objs.size) { s with heap:=h',toks:=tk }) :
 wpAny (model prog w) A (call (.type "set") [.ref l]) Q E s:=by
 have cn:=fun A:Around=>code_set_led (prog:=prog) (w:=w) (A:=A) (E:=E) (s:=s) (.ref l) (Q₁:=fun obj s₁=>obj=.ref s.heap.objs.size/\s₁={ s with heap:=s.heap.push { cls:=.type "set",dict:=none,data:=.set #[] 0 (.fresh 0 0 (iX w)) } }) ⟨rfl,rfl⟩;generalize iX w=led at h cn;refine zc2a F.called_set.mro fun c tl hmro=>?_;have hmade:=F.called_set.made;have hsub:=F.called_set.sub;refine wpAny_call (codeAny_of_tree ?_);show wpAny _ _ (callAny (.type "set") _) _ _ _;refine Zb ⟨Code.quiet_builtin _ (by decide +kernel),codeAny_builtin F.entry_type_call ?_⟩;rw[Around.under_plain (weight_type_call_type "set" [.ref l] []) rfl];have h1:=F.called_set.notType;have h2:=F.called_set.canCreate;have hct:=F.typeCall_set_1 (.ref l)
 repeat (any_goals (first|assumption|wp_step))
 refine codeAny_mono (cn _) fun r s₁ hr=>?_;cases r with
 |error e=>exact hr
 |ok fl =>
  cases fl with
  |ret obj =>
   obtain⟨rfl,rfl⟩:=hr;generalize hno:({ cls:=.type "set",dict:=none,data:=.set #[] 0 (.fresh 0 0 led) }:Obj)=no at *;have hS:(s.heap.push no).get? s.heap.objs.size=some no:=Zr _ (by rw[<- hno];rfl);have hT:Shared.TypeIs { s with heap:=s.heap.push no } (.ref s.heap.objs.size) "set" := ⟨_,hS,by rw[<- hno]⟩;have hli:=F.called_set.init.lookup;have hbi:=F.called_set.init.bind (.ref s.heap.objs.size)
   repeat (any_goals (first|assumption|wp_step))
   refine codeAny_mono (codeAny_call_builtin (R:=wants (fun r s₂=>r=.none/\∃h' tk,s₂={ s with heap:=h',toks:=tk }/\Holds hsh h' s.heap.objs.size led (jj same (fun i=>items.getD i .none) items.size) /\
    (∀b o,b<s.heap.objs.size->s.heap.get? b=some o->h'.get? b=some o)) E) F.called_set.init.plain F.entry_set_init (check_set_init_1 hT ?_)) fun r₂ s₂ hr₂=>?_
   ·refine zc1c hl fun ol hol hcl zz=>zc1a zz fun nl hdl=>?_;obtain⟨ocls,odict,odata,oslots⟩:=ol;simp only at hcl hdl;subst hcl;subst hdl;have hol':(s.heap.push no).get? l=some { cls:=.type "list",dict:=odict,data:=.seq items nl,slots:=oslots }:=Zq _ hol;have hsls:=F.sub_list_set;have hslf:=F.sub_list_frozenset;have hne:(Value.type "list" == Value.type "dict")=false:=by decide
    have hl1:(s.heap.push no).IsList l items:=⟨_,hol',rfl,nl,rfl⟩;subst hno;unfold Builtin.«set.__init__» noKeywords Builtin.Frozenset.updateFrom;generalize hPI:pyIter=PI
    wp_walk
    subst hPI;refine wpAny_pyIter_list hl1 ?_;refine Za (wpAny_runValue ?_);have hlS:l<s.heap.objs.size:=Zk hol;have hh3:A.in1.in1.in1.handled=none:=by simp[hh]
    generalize hno:({ cls:=.type "set",dict:=none,data:=.set #[] 0 (.fresh 0 0 led) }:Obj)=no at *;have szp:(s.heap.push no).objs.size=s.heap.objs.size+1:=Heap.size_push ..;have hneI:l≠(s.heap.push no).objs.size:=by rw[szp];exact Zi (Nat.lt_succ_of_lt hlS)
    have hSf:s.heap.objs.size ∉ [(s.heap.push no).objs.size,l]:=by
     simp only[List.mem_cons,List.not_mem_nil,or_false,not_or];exact⟨by rw[szp];exact Zi (Nat.lt_succ_self _),Nat.ne_of_gt hlS⟩
    have hw:∀(i:Nat) (v:Value),items[i]? = some v->v=(fun i=>items.getD i .none) i:=fun i v hv=>by
     show v=items.getD i .none;rw[Array.getD_eq_getD_getElem?,hv];rfl
    refine set_loop ((Walks.list hh3 _ l hneI items).toS) s.heap.objs.size hSf (hp:=s.heap) (fun b o e=>?_) K (fun i=>items.getD i .none) hw (fun i hi=>?_) hn (by exact hu) led (items.size-0) 0 _ (by omega) (Nat.zero_le _)
     ⟨⟨_,Zr _ rfl,rfl,rfl⟩,(hl1.push _)⟩ (fun b o e=>Zq _ (Zq _ e)) (fresh_holds (by rw[hno];exact Zq _ hS)) fun s' hm H'=>?_
    ·have hb:=Zk e;refine⟨?_,Zi hb⟩;simp only[List.mem_cons,List.not_mem_nil,or_false];rw[szp];exact Zi (Nat.lt_succ_of_lt hb)
    ·exact hPV i _ (by show items[i]? = some (items.getD i .none);rw[ya hi,Array.getElem?_eq_getElem hi])
    ·obtain⟨h',g',d',tk',os'⟩:=s';have eg:g'=s.gens:=hm.gens;have ed:d'=s.drawn:=hm.drawn;have eo:os'=s.os:=hm.os;subst eg;subst ed;subst eo;show wpAny _ _ _ _ _ _;refine Zb ?_;show wpAny _ _ (ret Value.none) _ _ _;refine Zb ⟨rfl,h',tk',rfl,H',fun b o hb e=>?_⟩;exact hm.heap b o (by simp only[List.mem_cons,List.not_mem_nil,or_false,not_or];exact⟨Zi hb,by rw[szp];exact Zi (Nat.lt_succ_of_lt hb)⟩) (Zq _ (Zq _ e))
   ·cases r₂ with
    |error e=>exact hr₂
    |ok fl₂ =>
     cases fl₂ with
     |ret r =>
      refine we hr₂ fun zr0 zz=>zc2c zz fun h' tk zr3 hS' hk'=>?_;subst zr0;subst zr3
      repeat (any_goals (first|assumption|wp_step))
      exact h _ _ hS' hk'
     |_=>exact hr₂.elim
  |_=>exact hr.elim
end
noncomputable def tF (p:Int×Int):PyData:=.tuple [.int p.1,.int p.2]
def iE (r:List (Int×Int)):PyData:=.tuple (r.map tF)
def nY (p:Int×Int):Int:=og ([p.1,p.2].map hashInt)
def kK (r:List (Int×Int)):Int:=og (r.map nY)
noncomputable def vc (hp:Heap)(v:Value)(p:Int×Int):Prop:=∃a o vs n t u,v=.ref a/\hp.get? a=some o/\o.cls=.type "tuple" /\ o.data=.seq vs n/\vs.toList=[.int p.1 t,.int p.2 u]
inductive IsPairs (hp:Heap):List Value->List (Int×Int)->Prop
 |nil:IsPairs hp [] []
 |cons {v vs p r}:vc hp v p->IsPairs hp vs r->IsPairs hp (v::vs) (p::r)
noncomputable def wP (hp:Heap)(v:Value)(r:List (Int×Int)):Prop:=∃a o vs n,v=.ref a/\hp.get? a=some o/\o.cls=.type "tuple" /\ o.data=.seq vs n/\IsPairs hp vs.toList r
theorem pair_reads {hp:Heap}{v:Value}{p:Int×Int}(h:vc hp v p):Reads hp v (tF p) []:=by
 refine zc4a h fun a o vs n zz=>zc2a zz fun t u zz=>yT zz fun zr6 h1 h2 h3 h4=>?_;subst zr6;refine .tuple h1 h2 h3 ?_;rw[h4];exact .cons (as:=[]) (bs:=[]) (.int _ _) (.cons (as:=[]) (bs:=[]) (.int _ _) .nil)
theorem pairs_reads {hp:Heap}:∀{vs:List Value} {r:List (Int×Int)},IsPairs hp vs r->ReadsAll hp vs (r.map tF) []:=fun h=>by
 induction h with
 |nil=>exact .nil
 |cons h1 _ ih=>exact .cons (as:=[]) (bs:=[]) (pair_reads h1) ih
theorem qA {hp:Heap}{v:Value}{r:List (Int×Int)}(h:wP hp v r):Reads hp v (iE r) []:=by
 refine zc4a h fun a o vs n zz=>yT zz fun zr4 h1 h2 h3 h4=>?_;subst zr4;exact .tuple h1 h2 h3 (pairs_reads h4)
theorem vc.keep {hp hp':Heap}(k:∀b o,hp.get? b=some o->hp'.get? b=some o){v:Value}{p:Int×Int}(h:vc hp v p):vc hp' v p:=by
 refine zc4a h fun a o vs n zz=>zc2c zz fun t u e h1 r=>?_;exact⟨a,o,vs,n,t,u,e,k _ _ h1,r⟩
theorem IsPairs.keep {hp hp':Heap}(k:∀b o,hp.get? b=some o->hp'.get? b=some o){vs:List Value}{r:List (Int×Int)}(h:IsPairs hp vs r):IsPairs hp' vs r:=by
 induction h with
 |nil=>exact .nil
 |cons h1 _ ih=>exact .cons (h1.keep k) ih
theorem wP.keep {hp hp':Heap}(k:∀b o,hp.get? b=some o->hp'.get? b=some o){v:Value}{r:List (Int×Int)}(h:wP hp v r):wP hp' v r:=by
 refine zc4a h fun a o vs n zz=>yT zz fun e h1 h2 h3 h4=>?_;exact⟨a,o,vs,n,e,k _ _ h1,h2,h3,h4.keep k⟩
theorem pair_plain {hp:Heap}{v:Value}{p:Int×Int}(h:vc hp v p)(n:Nat):PlainV hp (n+1) v:=by
 refine zc4a h fun a o vs k zz=>zc2a zz fun t u zz=>yT zz fun zr6 h1 h2 h3 h4=>?_;subst zr6;refine .tup h1 h2 h3 fun x hx=>?_;rw[h4] at hx;rcases List.mem_cons.mp hx with e|e
 ·rw[e];exact .int _ _ _
 ·rw[List.mem_singleton.mp e];exact .int _ _ _
theorem row_plain {hp:Heap}{v:Value}{r:List (Int×Int)}(h:wP hp v r)(n:Nat):PlainV hp (n+2) v:=by
 obtain⟨a,o,vs,k,rfl,h1,h2,h3,h4⟩:=h;refine .tup h1 h2 h3 ?_;generalize vs.toList=l at h4
 induction h4 with
 |nil=>intro x hx;cases hx
 |cons g1 _ ih =>
  intro x hx;rcases List.mem_cons.mp hx with e|e
  ·rw[e];exact pair_plain g1 n
  ·exact ih x e
section
variable {prog:Program}{w:World}{A:Around}{E:Value->Shared->Prop}{s:Shared}
theorem hash_pairs (hu:A.units<cLine):∀{vs:List Value} {r:List (Int×Int)},IsPairs s.heap vs r->HashAll prog w A E s vs (r.map nY):=fun h=>by
 induction h with
 |nil=>exact .nil
 |cons h1 _ ih =>
  refine .cons (fun tk Q h=>?_) ih;refine zc4a h1 fun a o vs n zz=>zc2a zz fun t u zz=>yT zz fun zr6 g1 g2 g3 g4=>?_;subst zr6;refine mt g1 g2 g3 hu ?_ h;rw[g4];exact pA (.cons _ _ (.cons _ _ .nil))
theorem hash_row {v:Value}{r:List (Int×Int)}{Q:Int->Shared->Prop}(hr:wP s.heap v r)(hu:A.units<cLine)(hu1:A.in1.units<cLine)(h:∀tk,s.toks<=tk->Q (kK r) { s with toks:=tk }):wpAny (model prog w) A (pyHash v) Q E s:=by
 refine zc4a hr fun a o vs n zz=>yT zz fun zr4 g1 g2 g3 g4=>?_;subst zr4;have e:s={ s with toks:=s.toks }:=by cases s;rfl
 rw[e];exact mt (tk0:=s.toks) g1 g2 g3 hu (hash_pairs hu1 g4) h
end
theorem pair_eqv (p q:Int×Int):PyData.eqv (tF p) (tF q)=decide (p=q):=by
 unfold tF PyData.eqv PyData.eqvAll PyData.eqvAll PyData.eqvAll PyData.eqv;obtain⟨a,b⟩:=p;obtain⟨c,d⟩:=q;rw[Bool.eq_iff_iff];simp
theorem pr:∀r q:List (Int×Int),PyData.eqvAll (r.map tF) (q.map tF)=decide (r=q)
 | [],[]=>by unfold List.map PyData.eqvAll;simp
 | [],_::_=>by rw[Zl,List.map_nil];unfold PyData.eqvAll;simp
 |_::_,[]=>by rw[Zl,List.map_nil];unfold PyData.eqvAll;simp
 |p::r,q::s=>by
  rw[Zl,Zl];unfold PyData.eqvAll;rw[pair_eqv,pr r s,Bool.eq_iff_iff];simp
theorem row_eqv (r q:List (Int×Int)):PyData.eqv (iE r) (iE q)=decide (r=q):=by
 unfold iE PyData.eqv;exact pr r q
theorem qP:∀r:List (Int×Int),PyData.canLayAll0 (r.map tF)=true
 | []=>rfl
 |p::r=>by
  rw[Zl];unfold PyData.canLayAll0;rw[qP r];rfl
theorem ky (r:List (Int×Int)):(iE r).canLay0=true:=qP r
theorem tL:∀r:List (Int×Int),PyData.depthAll (r.map tF)<=1
 | []=>Nat.zero_le _
 |p::r=>by
  rw[Zl];unfold PyData.depthAll;have h1:(tF p).depth=1:=rfl;have h2:=tL r;rw[h1];omega
theorem row_depth (r:List (Int×Int)):(iE r).depth<=2:=Nat.succ_le_succ (tL r)
theorem vc.inj {hp:Heap}{v:Value}{p q:Int×Int}(h:vc hp v p)(h':vc hp v q):p=q:=by
 refine zc4a h fun a o vs n zz=>zc2a zz fun t u zz=>yT zz fun zr6 h1 h2 h3 h4=>?_;subst zr6;refine zc4a h' fun a' o' vs' n' zz=>zc2a zz fun t' u' zz=>yT zz fun e k1 k2 k3 k4=>?_;cases e;rw[h1] at k1;obtain rfl:=Zqi k1;rw[h3] at k3;cases k3;rw[h4] at k4;simp only[List.cons.injEq,Value.int.injEq,and_true] at k4;exact Prod.ext k4.1.1 k4.2.1
theorem IsPairs.inj {hp:Heap}:∀{vs:List Value} {r q:List (Int×Int)},IsPairs hp vs r->IsPairs hp vs q->r=q:=fun {vs r q} g h=>by
 induction g generalizing q with
 |nil=>cases h;rfl
 |cons h1 _ ih =>
  cases h with
  |cons k1 k2=>rw[h1.inj k1,ih k2]
theorem wP.inj {hp:Heap}{v:Value}{r q:List (Int×Int)}(h:wP hp v r)(h':wP hp v q):r=q:=by
 refine zc4a h fun a o vs n zz=>yT zz fun zr4 h1 h2 h3 h4=>?_;subst zr4;refine zc4a h' fun a' o' vs' n' zz=>yT zz fun e k1 k2 k3 k4=>?_;cases e;rw[h1] at k1;obtain rfl:=Zqi k1;rw[h3] at k3;cases k3;exact h4.inj k4
open Classical in
def jT (hp:Heap)(v:Value):List (Int×Int):=if h:∃r,wP hp v r then h.choose else[]
theorem uP {hp:Heap}{v:Value}{r:List (Int×Int)}(h:wP hp v r):jT hp v=r:=by
 unfold jT;have e:∃r,wP hp v r:=⟨r,h⟩;rw[dif_pos e];exact e.choose_spec.inj h
theorem rows_fam (prog:Program)(w:World)(hp:Heap):KeyFam prog w hp (fun v=>∃r,wP hp v r) (fun v=>kK (jT hp v)) (fun v u=>decide (jT hp v=jT hp u)) where
 ref:=by
  rintro v ⟨r,a,o,vs,n,e,_⟩;exact⟨a,e⟩
 plain:=by
  rintro v ⟨r,h⟩;exact row_plain h 6
 hash:=by
  rintro v ⟨r,h⟩ A E s Q hk hu hq;rw[uP h] at hq;exact hash_row (h.keep hk) (by omega) (show A.units+1<cLine by omega) hq
 eq:=by
  rintro v u ⟨r,h⟩ ⟨q,h'⟩ A E s Q hk hu hq;rw[uP h,uP h',<- row_eqv] at hq;have d1:=row_depth r;exact SeqAt.eqBoolOverData prog w A E s v u (iE r) (iE q) [] [] Q (qA (h.keep hk)) (qA (h'.keep hk)) (ky r) (ky q) (by omega) hq
 coh:=by
  intro v u _ _ h;rw[of_decide_eq_true h]
theorem yt:Slot "set_iterator" "__next__" "set_iterator.__next__" :=
 .of (owner := "set_iterator") (n := "__next__") (by rw[typeLookup_type,builtinLookup_eq_fast];kernel_rfl) (by decide +kernel) (by decide +kernel) (by decide +kernel)
  (by first|exact .inl (by decide +kernel)|exact .inr (by decide +kernel)) (by rw[isSubtype_type];kernel_rfl)
theorem wJ:entryFor table "set_iterator.__next__" = some Builtin.«set_iterator.__next__»:=entryFor_of_tree (by kernel_rfl)
theorem qK:Manifest.owners.lookup (String.ofList ['r','o','t','a','r','e','t','i','_','t','e','s'].reverse)=some Manifest.sig_set_iterator:=by kernel_rfl
theorem vz (a:Value):argsOk "set_iterator.__next__" ⟨[a],[]⟩:=by
 unfold argsOk;rw[signature?_of (id := "set_iterator.__next__") (n:=['_','_','t','x','e','n','_','_']) (o:=['r','o','t','a','r','e','t','i','_','t','e','s']) (by kernel_rfl) qK];kernel_rfl
theorem entry_set_iter:entryFor table "set.__iter__" = some Builtin.«frozenset.__iter__»:=entryFor_alias (id' := "frozenset.__iter__") (by kernel_rfl) rfl (by decide +kernel) (by kernel_rfl)
theorem vp:Slot "set_iterator" "__iter__" "set_iterator.__iter__" :=
 .of (owner := "set_iterator") (n := "__iter__") (by rw[typeLookup_type,builtinLookup_eq_fast];kernel_rfl) (by decide +kernel) (by decide +kernel) (by decide +kernel)
  (by first|exact .inl (by decide +kernel)|exact .inr (by decide +kernel)) (by rw[isSubtype_type];kernel_rfl)
theorem entry_sit_iter:entryFor table "set_iterator.__iter__" = some Builtin.«dict_keyiterator.__iter__» :=
 entryFor_alias (id' := "dict_keyiterator.__iter__") (by kernel_rfl) (by first|rfl|decide +kernel|(unfold String.splitOn;simp -iota +decide [String.splitOnAux])) (by decide +kernel) (by kernel_rfl)
theorem args_sit_iter (a:Value):argsOk "set_iterator.__iter__" ⟨[a],[]⟩:=by
 unfold argsOk;rw[signature?_of (id := "set_iterator.__iter__") (n:=['_','_','r','e','t','i','_','_']) (o:=['r','o','t','a','r','e','t','i','_','t','e','s']) (by kernel_rfl) qK];kernel_rfl
abbrev gu (h:Heap)(it S:Addr)(slot i n ep:Nat):Prop:=h.get? it=some { cls:=.type "set_iterator",dict:=none,data:=.fields #[.int slot 0,.int i 0,.ref S,.int n 0,.int ep 0],slots:=#[] }
abbrev tE (es:Array (Int×Value))(ep:Nat)(t:SetTable):Obj:={ cls:=.type "set",dict:=none,data:=.set es ep t,slots:=#[] }
noncomputable def wZ (w:World)(S ep:Nat)(es:Array (Int×Value)):Array (Int×Value):=if w.params.followText "set-order" then pickOrder (w.params.setOrder S ep) es else es
theorem kW {α : Type}(next:Nat->Nat):∀(fuel k:Nat) (left:List α) (out:Array α),left.length<=fuel->(pickOrder.go next fuel k left out).toList.Perm (out.toList++left)
 | 0,k,left,out,h=>by
  have:left=[]:=List.length_eq_zero_iff.mp (by omega);subst this;unfold pickOrder.go;rw[Zz]
 |fuel+1,k,left,out,h=>by
  unfold pickOrder.go;cases q:left[next k % left.length]? with
  |none =>
   have hl:left.length=0:=by
    rcases Nat.eq_zero_or_pos left.length with z|z
    ·exact z
    ·have:=Nat.mod_lt (next k) z;rw[Zqg this] at q;cases q
   have:left=[]:=List.length_eq_zero_iff.mp hl;subst this;rw[Zz]
  |some x =>
   have hi:=(List.getElem?_eq_some_iff.mp q).1;have ex:=(List.getElem?_eq_some_iff.mp q).2;have hl:=List.length_eraseIdx_of_lt hi;refine(kW next fuel (k+1) _ _ (by omega)).trans ?_;rw[Array.toList_push,List.append_assoc];refine List.Perm.append_left _ ?_;have e1:left=left.take (next k % left.length)++x::left.drop (next k % left.length+1):=by
    have:=List.drop_eq_getElem_cons hi;rw[ex] at this;rw[<- this,List.take_append_drop]
   rw[List.eraseIdx_eq_take_drop_succ];refine List.Perm.trans ?_ (List.Perm.of_eq e1.symm);exact(List.perm_middle (l₁:=left.take (next k % left.length))).symm
theorem pick_perm {α : Type}(next:Nat->Nat)(es:Array α):(pickOrder next es).toList.Perm es.toList:=by
 unfold pickOrder;have:=kW next es.size 0 es.toList #[] (by simp -iota);simpa -iota using this
theorem qM (w:World)(S ep:Nat)(es:Array (Int×Value)):(wZ w S ep es).toList.Perm es.toList:=by
 unfold wZ
 split
 ·exact pick_perm _ _
 ·exact List.Perm.refl _
theorem tT (w:World)(S ep:Nat)(es:Array (Int×Value)):(wZ w S ep es).size=es.size:=by
 have:=(qM w S ep es).length_eq;simpa -iota using this
theorem below_next {xs:Array Nat}(u:UpA xs){i:Nat}(hi:i<xs.size):SetTable.below xs (xs[i]+1)=i+1:=by
 refine xm (uC u (xs[i]+1)) fun h1 h2 h3=>?_;have e:xs.getD i 0=xs[i]:=ya hi 0;rcases Nat.lt_trichotomy (SetTable.below xs (xs[i]+1)) (i+1) with q|q|q
 ·have:=h3 i (by omega) hi;omega
 ·exact q
 ·have a:=h2 (i+1) q;have b:=u i (i+1) (by omega) (by omega);omega
theorem below_zero (xs:Array Nat)(u:UpA xs):SetTable.below xs 0=0:=by
 refine xm (uC u 0) fun h1 h2 h3=>?_;rcases Nat.eq_zero_or_pos (SetTable.below xs 0) with q|q
 ·exact q
 ·have:=h2 0 q;omega
section
variable {prog:Program}{w:World}{A:Around}{E:Value->Shared->Prop}{s:Shared}
theorem iter_set {S ep:Nat}{es:Array (Int×Value)}{t:SetTable}{Q:Value->Shared->Prop}(ho:s.heap.get? S=some (tE es ep t))(hf:t.fits es.size=true)(hp:t.plain=true)
 (hQ:Q (.ref s.heap.objs.size) { s with heap:=s.heap.push { cls:=.type "set_iterator",data:=.fields #[.int 0 0,.int 0 0,.ref S,.int es.size 0,.int ep 0] } }):wpAny (model prog w) A (pyIter (.ref S)) Q E s:=by
 have hT:s.TypeIs (.ref S) "set" := ⟨_,ho,rfl⟩;refine wpAny_pyIter_slot hT F.slot_set_iter (wpAny_call_entry F.slot_set_iter hT entry_set_iter ?_ (F.args_set_iter_1 _));unfold Builtin.«frozenset.__iter__» Builtin.Frozenset.slot0 slotArgs;simp only[List.isEmpty_nil,Bool.not_true,Bool.false_eq_true,↓reduceIte,bind_assoc,ZB,bne_self_eq_false];unfold Builtin.Frozenset.addrOf Builtin.Frozenset.sizeOf;refine Za (Zb ?_)
 try dsimp only
 refine Za (Zb ?_);refine Za (Za (wpAny_setEntries_of ho rfl hf (Zb ?_)));have hd:wpAny (model prog w) A.in1 (setDrawn S) (fun b s'=>b=false/\s'=s) E s:=by
  unfold setDrawn;refine Za (wpAny_setState_of ho rfl hf ?_);unfold setsByText;refine Za (Za (wpAny_askSetting (Zb ?_)));refine Zb ⟨?_,rfl⟩;obtain⟨mask,place,dummies,finger,led,moves,plain⟩:=t;cases hp;exact Bool.and_false _
 refine Za (Zc hd (fun b s' z=>?_) fun _ _ e=>e);obtain⟨rfl,rfl⟩:=z;simp only[Bool.false_eq_true,↓reduceIte];refine Za (Zb ?_);unfold setEpoch;refine Za (Za (wpAny_setState_of ho rfl hf (Zb ?_)));unfold newFields;refine Za (wpAny_newObj_type (Zb ⟨_,rfl, "set_iterator",_,⟨_,Zr _ rfl,rfl⟩,yt.lookup,hQ⟩) (by simp only[sizeOk,sizeLine_eq,Zm,Zu,ZB];omega))
theorem lS {S:Addr}{slot i ep:Nat}{es:Array (Int×Value)}{t:SetTable}{Q:Option (Value×Nat)->Shared->Prop}(ho:s.heap.get? S=some (tE es ep t))(hf:t.fits es.size=true)(hp:t.plain=true)(hl:t.led=iX w)(hu:UpA t.place)(hz:t.place.size=es.size)
 (hb:w.params.followText "set-order" = false->SetTable.below t.place slot=i)
 (hQ:∀slot',(w.params.followText "set-order" = false->i<es.size->SetTable.below t.place slot'=i+1)->Q (((wZ w S ep es)[i]?).map fun e=>(e.2,slot')) s):wpAny (model prog w) A (setNext S slot i ep) Q E s:=by
 unfold setNext;refine Za (wpAny_setState_of ho rfl hf ?_);unfold setsByText;refine Za (Za (wpAny_askSetting (Zb ?_)));cases q:w.params.followText "set-order" with
 |true =>
  have e:({ program:=(model prog w).prog,params:=(model prog w).w.params }:Setting).params.followText "set-order" = true:=q;rw[Zd e];dsimp only;rw[Ze (by simp -iota)];unfold setWalk;refine Za (Za (wpAny_setState_of ho rfl hf ?_));unfold setsByText;refine Za (Za (wpAny_askSetting (Zb ?_)));rw[Zd e];refine Za (wpAny_askSetting (Zb (Zb ?_)));have:=hQ slot fun z=>by rw[q] at z;cases z
  unfold wZ at this;rw[Zd q] at this;exact this
 |false =>
  have e:¬({ program:=(model prog w).prog,params:=(model prog w).w.params }:Setting).params.followText "set-order" = true:=by
   show ¬w.params.followText "set-order" = true;rw[q];simp -iota
  rw[Ze e];dsimp only;have hw:wZ w S ep es=es:=by unfold wZ;rw[q];rfl
  rw[hw] at hQ;have hb:=hb q;rw[hb];have hl:t.led=true:=by rw[hl];unfold iX;rw[q];rfl
  obtain⟨mask,place,dummies,finger,led,moves,plain⟩:=t;cases hp;cases hl
  split
  ·rename_i z;exact Zn z Zj
  ·refine Za ?_;refine Zb (a:=()) ?_;refine Zb ?_;by_cases hi:i<es.size
   ·have hj:i<place.size:=by rw[show place.size=es.size from hz];exact hi
    have:=hQ (place[i]+1) fun _ _=>below_next hu hj;rw[Array.getElem?_eq_getElem hi] at this;rw[Array.getElem?_eq_getElem hi,Array.getElem?_eq_getElem hj];exact this
   ·have:=hQ 0 fun _ z=>Zn z hi;rw[Array.getElem?_eq_none (by omega)] at this;rw[Array.getElem?_eq_none (show es.size<=i by omega)];exact this
abbrev kg (w:World)(it S:Addr)(es:Array (Int×Value))(ep:Nat)(t:SetTable)(i:Nat)(h:Heap):Prop:=(∃slot,gu h it S slot i es.size ep/\(w.params.followText "set-order" = false->i<=es.size->SetTable.below t.place slot=i))/\h.get? S=some (tE es ep t)
structure SetGood (w:World)(es:Array (Int×Value))(t:SetTable):Prop where
 fits:t.fits es.size=true
 plain:t.plain=true
 led:t.led=iX w
 up:UpA t.place
 size:t.place.size=es.size
theorem sit_item {it S:Addr}{i ep:Nat}{es:Array (Int×Value)}{t:SetTable}{Q:Option Value->Shared->Prop}(G:SetGood w es t)(st:kg w it S es ep t i s.heap)(hi:i<es.size)
 (hQ:∀h' x,(∃k,(wZ w S ep es)[i]? = some (k,x))->kg w it S es ep t (i+1) h'->Heap.SameBut it s.heap h'->Q (some x) { s with heap:=h' }):wpAny (model prog w) A (pyNext (.ref it)) Q E s:=by
 obtain⟨⟨slot,hit,hb⟩,ho⟩:=st;have hT:s.TypeIs (.ref it) "set_iterator" := ⟨_,hit,rfl⟩;have hne:S≠it:=fun z=>by
  subst z;unfold gu at hit;rw[ho] at hit;have:=Zt Obj.data (Zqi hit);cases this
 unfold pyNext;refine Za (wpAny_attempt (wpAny_callSpecial?_slot (name:=Str.ofString "__next__") hT yt
  (wpAny_call_entry yt hT wJ ?_ (vz _))))
 unfold Builtin.«set_iterator.__next__» slotArgs;simp -iota only[List.isEmpty_nil,Bool.not_true,Bool.false_eq_true,↓reduceIte,bind_assoc,ZB,bne_self_eq_false];refine Za (Zb ?_)
 try dsimp only
 refine Za (wpAny_fieldsOf hit rfl ?_);dsimp only;refine Za (wpAny_setEntries_of ho rfl G.fits ?_);rw[Ze (by simp -iota)];simp -iota only[Int.toNat_natCast];refine Za (lS ho G.fits G.plain G.led G.up G.size (fun z=>hb z (by omega)) fun slot' hs=>?_);have hw:i<(wZ w S ep es).size:=by rw[tT];exact hi
 rw[Array.getElem?_eq_getElem hw];dsimp only[Option.map_some];refine Za (wpAny_setField_rec hit (by simp -iota) fun h₁ he₁ hs₁=>?_);refine Za (wpAny_setField_rec (s:={ s with heap:=h₁ }) he₁ (by simp -iota) fun h₂ he₂ hs₂=>?_);have hs₂:Heap.SameBut it h₁ h₂:=hs₂;have hs₁:Heap.SameBut it s.heap h₁:=hs₁;refine Zb ⟨_,rfl,Zb (hQ h₂ _ ⟨_,by rw[Array.getElem?_eq_getElem hw]⟩ ⟨⟨slot',?_,fun z _=>hs z hi⟩,hs₂.extBut _ _ hne (hs₁.extBut _ _ hne ho)⟩ ⟨hs₂.1.trans hs₁.1,fun b hb=>(hs₂.2 b hb).trans (hs₁.2 b hb)⟩)⟩;have e:((i+1:Nat):Int)=(i:Int)+1:=by omega
 unfold gu;rw[e];simpa -iota [rawInt] using he₂
theorem sit_end {it S:Addr}{i ep:Nat}{es:Array (Int×Value)}{t:SetTable}{Q:Option Value->Shared->Prop}(hh:A.handled=none)(G:SetGood w es t)(st:kg w it S es ep t i s.heap)(hi:i=es.size)
 (hQ:∀h',Heap.ExtBut it s.heap h'->Q none { s with heap:=h' }):wpAny (model prog w) A (pyNext (.ref it)) Q E s:=by
 obtain⟨⟨slot,hit,hb⟩,ho⟩:=st;have hT:s.TypeIs (.ref it) "set_iterator" := ⟨_,hit,rfl⟩;unfold pyNext;refine Za (wpAny_attempt (wpAny_callSpecial?_slot (name:=Str.ofString "__next__") hT yt
  (wpAny_call_entry yt hT wJ ?_ (vz _))))
 unfold Builtin.«set_iterator.__next__» slotArgs;simp -iota only[List.isEmpty_nil,Bool.not_true,Bool.false_eq_true,↓reduceIte,bind_assoc,ZB,bne_self_eq_false];refine Za (Zb ?_)
 try dsimp only
 refine Za (wpAny_fieldsOf hit rfl ?_);dsimp only;refine Za (wpAny_setEntries_of ho rfl G.fits ?_);rw[Ze (by simp -iota)];simp -iota only[Int.toNat_natCast];refine Za (lS ho G.fits G.plain G.led G.up G.size (fun z=>hb z (by omega)) fun slot' hs=>?_);rw[Array.getElem?_eq_none (by rw[tT];omega)];dsimp only[Option.map_none];refine Za (wpAny_setField hit rfl (by simp -iota) ?_);show wpAny _ _ (newExc (.type "StopIteration") [] >>= _) _ _ _;refine Za ?_;simp -iota only[newExc,newTuple];refine Za (wpAny_newObj_type ?_ (by size_fits));refine Za (m:=firstArgMember _ _) (wpAny_of_eq (a:=Value.none) (by first|rfl|(simp -iota only[firstArgMember];rfl)) ?_);refine wpAny_newObj_type ?_ (by size_fits);simp -iota only[raiseNew];refine Za (wpAny_handled ?_);rw[show A.in1.handled=none from hh];refine Za (Zb (wpAny_throw ?_));refine Za (wpAny_isInstance (T := "StopIteration") (b:=true) ⟨_,Zr _ rfl,rfl⟩ isSubtype_stop ?_);exact Zb (hQ _ (((Heap.SameBut.update ..).extBut.push _).push _))
end
theorem walks_set {prog:Program}{w:World}{A:Around}(hh:A.handled=none){it S ep:Nat}{es:Array (Int×Value)}{t:SetTable}(G:SetGood w es t):WalksS prog w A it [it,S] [it] (fun g g'=>g'=g) es.size (fun i v=>∃k,(wZ w S ep es)[i]? = some (k,v)) (fun i s=>kg w it S es ep t i s.heap) :=
 (show Walks prog w A it [it,S] [it] es.size (fun i v=>∃k,(wZ w S ep es)[i]? = some (k,v)) (fun i h=>kg w it S es ep t i h) from {
  sub:=fun b hb=>by simp -iota at hb;simp -iota [hb]
  frame:=fun i h h' st hk=>⟨(let ⟨slot,a,b⟩:=st.1;⟨slot,hk it (by simp -iota) _ a,b⟩),hk S (by simp -iota) _ st.2⟩
  item:=fun i s Q E hi st hQ=>sit_item G st hi fun h' x hx st' sb=>hQ x h' s.toks hx st' fun b o hb e=>sb.extBut b o (fun h=>hb (by simp -iota [h])) e
  done:=fun s Q E st hQ=>sit_end hh G st rfl fun h' eb=>hQ h' s.toks fun b o hb e=>eb b o (fun h=>hb (by simp -iota [h])) e
  self:=fun i s Q E st hQ=>by
   obtain⟨⟨slot,hit,hb⟩,ho⟩:=st;have hT:s.TypeIs (.ref it) "set_iterator" := ⟨_,hit,rfl⟩;refine wpAny_pyIter_slot hT vp (wpAny_call_entry vp hT entry_sit_iter ?_ (args_sit_iter _));show wpAny _ _ (ret (.ref it)) _ _ s;exact Zb ⟨_,rfl, "set_iterator",_,hT,yt.lookup,hQ⟩ }).toS
theorem set_len:typeLookup (.type "set") "__len__" = pure (some (.builtin "set.__len__")):=by rw[typeLookup_type,builtinLookup_eq_fast];kernel_rfl
section
variable {prog:Program}{w:World}{A:Around}{E:Value->Shared->Prop}{s:Shared}
theorem set_hint {r:Addr}(hT:s.TypeIs (.ref r) "set"){Q:Bool->Shared->Prop}(h:Q false s):wpAny (model prog w) A (Builtin.List.listLengthHint (.ref r)) Q E s:=by
 unfold Builtin.List.listLengthHint;refine Za (wpAny_specialOf hT set_len ?_);generalize hid:("set.__len__" : String)=id0
 wp_delta
 rw[show splitId id0=some ("set", "__len__") from by subst hid;decide +kernel];subst hid;refine Za (wpAny_isInstance (T := "set") (b:=true) hT (by rw[isSubtype_type];kernel_rfl) ?_);refine wpAny_ite_split (fun hab=>Zn hab (by decide)) (fun _=>?_);refine wpAny_ite_split (fun _=>?_) (fun hab=>Zn (by decide +kernel) hab);refine Za (wpAny_typeOf hT ?_);exact Zb h
theorem collect_set {S ep:Nat}{es:Array (Int×Value)}{t:SetTable}{R:List Value->Shared->Prop}(hh:A.handled=none)(ho:s.heap.get? S=some (tE es ep t))(G:SetGood w es t)(hn:es.size<=1000)
 (h:∀(h':Heap) (tk:Nat) (vs:List Value),(∀b o,s.heap.get? b=some o->h'.get? b=some o)->vs.Perm (es.toList.map (·.2))->s.heap.objs.size<h'.objs.size->R vs { s with heap:=h',toks:=tk }):wpAny (model prog w) A (collect (.ref S)) R E s:=by
 have hS:S<s.heap.objs.size:=Zk ho;have hT:s.TypeIs (.ref S) "set" := ⟨_,ho,rfl⟩;unfold collect;refine Za (wpAny_runValue (codeAny_builtin F.entry_proto_collect ?_));rw[Around.under_plainId F.plain_proto_collect _];show wpAny _ A.in1 (newList [] >>= fun l=>again (.builtin "list.__iadd__" ⟨[l,.ref S],[]⟩)) _ _ s;refine Za (wpAny_newObj_type ?_);refine Zb ⟨plainId_quiet F.plain_list_iadd _,codeAny_builtin F.entry_list_iadd ?_⟩;rw[Around.under_plainId F.plain_list_iadd _];generalize hno:({ cls:=.type "list",data:=.seq ([]:List Value).toArray }:Obj)=no;have hL₁:(s.heap.push no).get? s.heap.objs.size=some no:=Zr _ (by rw[<- hno];rfl);have ho₁:(s.heap.push no).get? S=some (tE es ep t):=Zq _ ho;have hT₁:Shared.TypeIs { s with heap:=s.heap.push no } (.ref S) "set" := ⟨_,ho₁,rfl⟩;have hSL:S≠s.heap.objs.size:=Zi hS;show wpAny _ A.in1 (Builtin.List.listExtendWith (.ref s.heap.objs.size) (.ref S) (.ref s.heap.objs.size)) _ _ _;unfold Builtin.List.listExtendWith;refine Za (wpAny_typeOf hT₁ ?_);have h1:Builtin.List.listSameRef (.ref s.heap.objs.size) (.ref S)=false:=by simp[Builtin.List.listSameRef,Ne.symm hSL]
 have h2:(Value.type "set" == Value.type "list")=false:=by decide
 have h3:(Value.type "set" == Value.type "tuple")=false:=by decide
 simp only[h1,h2,h3,Bool.or_false,Bool.false_eq_true,if_false];refine Za (iter_set (s:={ s with heap:=s.heap.push no }) ho₁ G.fits G.plain ?_);have szp:(s.heap.push no).objs.size=s.heap.objs.size+1:=Heap.size_push ..;generalize hI:(s.heap.push no).objs.size=I at *;generalize hni:({ cls:=.type "set_iterator",data:=.fields #[.int 0 0,.int 0 0,.ref S,.int es.size 0,.int ep 0] }:Obj)=ni;have hS₂:=Zq ni ho₁;have hL₂:=Zq ni hL₁;have hI₂:((s.heap.push no).push ni).get? I=some ni:=by rw[<- hI];exact Zr _ (by rw[<- hni];rfl)
 refine Za (wpAny_holding (set_hint ⟨_,hS₂,rfl⟩ ?_));have hIL:I≠s.heap.objs.size:=by omega
 have key:∀(R':Result->Shared->Prop),(∀(h':Heap) (tk c:Nat) (acc:Array Value),(∀b o,s.heap.get? b=some o->h'.get? b=some o)->h'.get? s.heap.objs.size=some { cls:=.type "list",dict:=none,data:=.seq acc c,slots:=#[] }->acc.toList.Perm (es.toList.map (·.2))->R' (.ok (.ret (.ref s.heap.objs.size))) { s with heap:=h',toks:=tk }) ->
  ∀(h:Heap) (c₁ tk:Nat),(∀b o,b≠s.heap.objs.size->((s.heap.push no).push ni).get? b=some o->h.get? b=some o)->h.get? s.heap.objs.size=some { cls:=.type "list",dict:=none,data:=.seq #[] c₁,slots:=#[] } ->
  codeAny (model prog w) A (.builtin "list.extend.loop" ⟨[.ref s.heap.objs.size,.ref I,.ref s.heap.objs.size],[]⟩) R' { s with heap:=h,toks:=tk }:=by
  intro R' hR h₀ c₁ tk hk hL;have hSf:s.heap.objs.size ∉ [I,S]:=by
   simp only[List.mem_cons,List.not_mem_nil,or_false,not_or];exact⟨Ne.symm hIL,Ne.symm hSL⟩
  have hIt:h₀.get? I=some ni:=hk I _ hIL hI₂;rw[<- hni] at hIt;refine codeAny_extend_loopS (walks_set (prog:=prog) (w:=w) (A:=A.in1) (it:=I) (S:=S) (ep:=ep) hh G) (Zh hn (by rw[sizeLine_eq];omega)) s.heap.objs.size hSf _ es.size 0 { s with heap:=h₀,toks:=tk } #[] c₁ rfl (Nat.zero_le _)
   ⟨⟨0,hIt,fun _ _=>below_zero _ G.up⟩,hk S _ hSL hS₂⟩ hL (ItemsOf.nil _) fun s' acc c hm hL' hacc=>?_
  obtain⟨h',g',d',tk',os'⟩:=s';have eg:g'=s.gens:=hm.gens;have ed:d'=s.drawn:=hm.drawn;have eo:os'=s.os:=hm.os;subst eg;subst ed;subst eo;refine hR h' tk' c acc (fun b o e=>?_) hL' ?_
  ·have hb:=Zk e;have hbL:b≠s.heap.objs.size:=Zi hb;have hbI:b≠I:=Zi (Zg hb (by rw[szp];exact Nat.le_succ _));exact hm.heap b o (by simp only[List.mem_cons,List.not_mem_nil,or_false,not_or];exact⟨hbL,hbI⟩) (hk b o hbL (Zq _ (Zq _ e)))
  ·have el:acc.toList=(wZ w S ep es).toList.map (·.2):=by
    apply List.ext_getElem?;intro j;rw[Zv];by_cases hj:j<acc.size
    ·obtain⟨k,hk⟩:=hacc.2 j acc[j] (Array.getElem?_eq_getElem hj);have:(wZ w S ep es).toList[j]? = some (k,acc[j]):=by simpa using hk
     rw[this];simp[hj]
    ·have hw:(wZ w S ep es).toList[j]? = none:=List.getElem?_eq_none (by rw[Array.length_toList,tT,<- hacc.1];omega);rw[hw];exact List.getElem?_eq_none (by rw[Array.length_toList];omega)
   rw[el];exact(qM w S ep es).map _
 have fin:∀(h':Heap) (tk c:Nat) (acc:Array Value),(∀b o,s.heap.get? b=some o->h'.get? b=some o)->h'.get? s.heap.objs.size=some { cls:=.type "list",dict:=none,data:=.seq acc c,slots:=#[] }->acc.toList.Perm (es.toList.map (·.2)) ->
  wpAny (model prog w) A (do
   let o <- load s.heap.objs.size
   match o.data with
    | .seq xs _=>pure xs.toList
    |_=>unsupported "internal:collect") R E { s with heap:=h',toks:=tk }:=fun h' tk c acc kk hl hp=>by
  refine Za (wpAny_load hl ?_);exact Zb (h h' tk acc.toList kk hp (Zk hl))
 have hL₂':((s.heap.push no).push ni).get? s.heap.objs.size=some { cls:=.type "list",dict:=none,data:=.seq #[] 0,slots:=#[] }:=by rw[hL₂,<- hno]
 refine wpAny_ite_split (fun _=>?_) (fun _=>Zb ⟨plainId_quiet F.plain_extend_loop _,key _ (fun h' tk c acc kk hl hp=>fin h' tk c acc kk hl hp) _ 0 _ (fun b o _ e=>e) hL₂'⟩);refine Za (wpAny_rule ?_);refine Za ?_;show wpAny _ _ (updateSeq s.heap.objs.size (·.push .none) >>= fun _=>updateSeq s.heap.objs.size (·.pop)) _ _ _;refine Za (wpAny_updateSeq hL₂' rfl ?_);have hL₃:=Heap.get?_update_self (Obj.mapSeq (·.push Value.none)) hL₂' rfl;refine wpAny_updateSeq (hz:=by seq_fits) hL₃ rfl ?_;have hL₄:=Heap.get?_update_self (Obj.mapSeq (·.pop)) hL₃ rfl;refine Zb ⟨plainId_quiet F.plain_extend_loop _,key _ (fun h' tk c acc kk hl hp=>fin h' tk c acc kk hl hp) _ _ _ (fun b o hb e=>?_) hL₄⟩;exact(Heap.get?_update_other _ _ (Ne.symm hb)).trans ((Heap.get?_update_other _ _ (Ne.symm hb)).trans e)
end
theorem uU {h:Heap}:∀{us:List Value} {r:List (Int×Int)},wR h us r->IsPairs h us r
 | [],[],_=>.nil
 | [],_::_,p=>by have:=p.1;simp at this
 |_::_,[],p=>by have:=p.1;simp at this
 |u::us,q::r,p=>by
  refine zc4a (p.2 0 q rfl) fun b ob nb t zz=>zc1d zz fun v g1 g2 g3 g4=>?_;have g1:some u=some (Value.ref b):=g1;obtain rfl:=Zqi g1;refine .cons ⟨b,ob,_,nb,t,v,rfl,g2,g3,g4,rfl⟩ (uU ⟨by have:=p.1;simpa using this,fun i x hx=>p.2 (i+1) x hx⟩)
theorem row_of_at {h:Heap}{v:Value}{r:List (Int×Int)}{a:Addr}{o:Obj}{us:List Value}{n:Nat}(R:RowAt h v r a o us n):wP h v r :=
 ⟨a,o,us.toArray,n,R.isv,R.get,R.cls,R.dat,uU R.prs⟩
noncomputable def vB (rs:List (List (Int×Int))):Nat->List Nat
 | 0=>[]
 |n+1=>if(vB rs n).any (fun i=>decide (rs.getD i []=rs.getD n [])) then vB rs n else vB rs n++[n]
theorem dedI_succ (rs:List (List (Int×Int)))(n:Nat):vB rs (n+1)=if(vB rs n).any (fun i=>decide (rs.getD i []=rs.getD n [])) then vB rs n else vB rs n++[n]:=rfl
def pN (rs:List (List (Int×Int))):List (List (Int×Int)):=(vB rs rs.length).map fun i=>rs.getD i []
theorem wM (rs:List (List (Int×Int))):∀n i,i∈vB rs n->i<n
 | 0,i,h=>by cases h
 |n+1,i,h=>by
  unfold vB at h
  split at h
  ·have:=wM rs n i h;omega
  ·rcases List.mem_append.mp h with q|q
   ·have:=wM rs n i q;omega
   ·rw[List.mem_singleton.mp q];omega
theorem rG (rs:List (List (Int×Int))):∀n,(vB rs n).length<=n
 | 0=>Zf _
 |n+1=>by
  have:=rG rs n;unfold vB
  split
  ·omega
  ·rw[List.length_append,List.length_singleton];omega
theorem sK (rs:List (List (Int×Int))):∀n,((vB rs n).map fun i=>rs.getD i []).Nodup
 | 0=>List.nodup_nil
 |n+1=>by
  have ih:=sK rs n;unfold vB
  split
  ·exact ih
  ·rename_i h;rw[List.map_append,List.nodup_append];refine⟨ih,by simp,fun x hx y hy=>?_⟩;rw[Zl,List.map_nil,List.mem_singleton] at hy;subst hy;intro z;subst z;refine zc1b (List.mem_map.mp hx) fun i hi e=>?_;exact h (List.any_eq_true.mpr ⟨i,hi,Zp e⟩)
theorem ny (rs:List (List (Int×Int))):∀n (r:List (Int×Int)),r∈((vB rs n).map fun i=>rs.getD i [])↔∃i,i<n/\rs.getD i []=r
 | 0,r=>by
  constructor
  ·intro h;cases h
  ·rintro⟨i,hi,_⟩;omega
 |n+1,r=>by
  have ih:=ny rs n;unfold vB
  split
  ·rename_i h;refine zc1b (List.any_eq_true.mp h) fun j hj e=>?_;have e:=of_decide_eq_true e;rw[ih];constructor
   ·rintro⟨i,hi,z⟩;exact⟨i,by omega,z⟩
   ·rintro⟨i,hi,z⟩;by_cases q:i=n
    ·subst q;exact⟨j,wM rs i j hj,by rw[e,z]⟩
    ·exact⟨i,by omega,z⟩
  ·rw[List.map_append,List.mem_append,ih];constructor
   ·rintro(⟨i,hi,z⟩|z)
    ·exact⟨i,by omega,z⟩
    ·rw[Zl,List.map_nil,List.mem_singleton] at z;exact⟨n,by omega,z.symm⟩
   ·rintro⟨i,hi,z⟩;by_cases q:i=n
    ·subst q;exact .inr (by rw[Zl,List.map_nil,List.mem_singleton];exact z.symm)
    ·exact .inl ⟨i,by omega,z⟩
theorem sZ (rs:List (List (Int×Int))):(pN rs).Nodup:=sK rs _
theorem nv (rs:List (List (Int×Int))):(pN rs).length<=rs.length:=by unfold pN;rw[Zql];exact rG rs _
theorem rA {rs:List (List (Int×Int))}{r:List (Int×Int)}:r∈pN rs↔r∈rs:=by
 unfold pN;rw[ny];constructor
 ·rintro⟨i,hi,z⟩;rw[List.getD_eq_getElem?_getD,Zqg hi] at z;rw[<- z];exact List.getElem_mem hi
 ·intro h;obtain⟨i,hi,z⟩:=List.getElem_of_mem h;exact⟨i,hi,by rw[List.getD_eq_getElem?_getD,Zqg hi,<- z];rfl⟩
theorem jV {same:Value->Value->Bool}{val:Nat->Value}{rs:List (List (Int×Int))}{n:Nat}(h:∀i j,i<n->j<n->same (val i) (val j)=decide (rs.getD i []=rs.getD j [])):∀k,k<=n->jj same val k=(vB rs k).map val
 | 0,_=>rfl
 |k+1,hk=>by
  rw[wX,jV h k (by omega),dedI_succ];unfold qm;have e:((vB rs k).map val).any (same · (val k))=(vB rs k).any (fun i=>decide (rs.getD i []=rs.getD k [])):=by
   rw[List.any_map,Bool.eq_iff_iff,List.any_eq_true,List.any_eq_true];constructor
   ·rintro⟨i,hi,z⟩;exact⟨i,hi,by rw[<- h i k (by have:=wM rs k i hi;omega) (by omega)];exact z⟩
   ·rintro⟨i,hi,z⟩;exact⟨i,hi,by show same (val i) (val k)=true;rw[h i k (by have:=wM rs k i hi;omega) (by omega)];exact z⟩
  rw[e]
  split
  ·rfl
  ·rw[List.map_append];rfl
theorem wz {G:Hp}{rs:List (List (Int×Int))}{ys:List V}(h:zp G (rs.map rD) ys):∀ix:List Nat,(∀i∈ix,i<rs.length)->zp G ((ix.map fun i=>rs.getD i []).map rD) (ix.map fun i=>ys.getD i .non)
 | [],_=>by unfold zp;rfl
 |i::ix,hi=>by
  have hl:=hi i Zqs;refine zc1b (h.get (i:=i) (d:=rD (rs.getD i [])) (by rw[Zv,Zqg hl,zw (Zqg hl)];rfl)) fun x hx hI=>?_;rw[Zl,Zl,Zl];unfold zp;refine⟨x,_,?_,hI,wz h ix fun j hj=>hi j (Zqm _ hj)⟩;rw[zw hx]
noncomputable def iY (w:World)(S:Addr)(ys:List V):HO:=.ext fun h=>∃es ep t us,h.get? S=some (tE es ep t)/\SetGood w es t/\es.size<=1000/\(es.toList.map (·.2)).Perm us/\yq ys us
def nX (w:World):List V->Hp->VK->Prop:=fun xs H Q=>∃a ys rs,xs=[.ref a]/\Rd H a (.lst ys)/\zp H (rs.map rD) ys/\rs.length<=999/\∀S,H S=none->Q (.ref S) (upd H S (iY w S ((vB rs rs.length).map fun i=>ys.getD i .non)))
def mj (w:World):List V->Hp->VK->Prop:=fun xs H Q=>∃S ys rs,xs=[.ref S]/\H S=some (iY w S ys)/\zp H (rs.map rD) ys/\(∀r∈rs,r ≠ [])/\rs.length<1000 /\
 ∀l zs,H l=none->(∀G,zp G (rs.map rD) ys->zp G ((zQ y8 rs).map rD) zs)->Q (.ref l) (upd H l (.lst zs))
theorem perm_rows {us vs:List Value}(p:us.Perm vs):∀{zs:List V} {rs:List (List (Int×Int))},yq zs us->zs.length=rs.length->∃(zs2:List V) (rs2:List (List (Int×Int))),yq zs2 vs/\rs2.Perm rs/\zs2.length=rs2.length/\∀G,zp G (rs.map rD) zs->zp G (rs2.map rD) zs2:=by
 induction p with
 |nil=>exact fun {zs rs} h hl=>⟨zs,rs,h,.refl _,hl,fun _ h=>h⟩
 |cons x _ ih =>
  intro zs rs h hl;cases h with
  |cons r h =>
   cases rs with
   |nil=>simp at hl
   |cons q rs =>
    refine zc2d (ih h (by simpa using hl)) fun zs2 rs2 h2 p2 l2 g2=>?_;refine⟨_::zs2,q::rs2,.cons r h2,p2.cons q,by simp[l2],fun G hG=>?_⟩;rw[Zl] at hG ⊢;unfold zp at hG ⊢;refine zc2c hG fun y w e h3 h4=>?_;cases e;exact⟨_,_,rfl,h3,g2 G h4⟩
 |swap x y l =>
  intro zs rs h hl;cases h with
  |cons r h =>
   cases h with
   |cons r' h =>
    cases rs with
    |nil=>simp at hl
    |cons q rs =>
     cases rs with
     |nil=>simp at hl
     |cons q' rs =>
      refine⟨_,q'::q::rs,.cons r' (.cons r h),.swap _ _ _,by simpa using hl,fun G hG=>?_⟩;rw[Zl,Zl] at hG ⊢;unfold zp at hG ⊢;refine zc2c hG fun y w e h3 h4=>?_;cases e;unfold zp at h4;refine zc2c h4 fun y w e h5 h6=>?_;cases e;refine⟨_,_,rfl,h5,?_⟩;unfold zp;exact⟨_,_,rfl,h3,h6⟩
 |trans _ _ ih1 ih2 =>
  intro zs rs h hl;refine zc2d (ih1 h hl) fun zs2 rs2 h2 p2 l2 g2=>?_;refine zc2d (ih2 h2 l2) fun zs3 rs3 h3 p3 l3 g3=>?_;exact⟨zs3,rs3,h3,p3.trans p2,l3,fun G hG=>g3 G (g2 G hG)⟩
section
variable {X:Cx}
theorem call_setRows (hc:X.calm=true)(hu:X.A.units+64<cLine):zD X (.type "set") (nX X.w):=by
 intro pins s σ H xs us Q I rv h;refine zc3a h fun a ys rs zz=>yT zz fun zr3 ha hA hl q=>?_;subst zr3;refine zc1b (vy rv) fun u zr1 ru=>?_;subst zr1;obtain rfl:u=Value.ref a:=ru;refine zc1c (I.list (.inl ha)) fun its ri pl hz=>?_;have l1:=hA.length;have l2:=ri.length;rw[Zql] at l1;have sz:its.toArray.size=its.length:=Zm;have gd:∀i,its.toArray.getD i .none=its.getD i .none:=fun i=>by
  rw[Array.getD_eq_getD_getElem?,List.getD_eq_getElem?_getD];simp
 have isr:∀i,i<its.length->wP s.heap (its.getD i .none) (rs.getD i []):=fun i hi=>by
  have hr:i<rs.length:=by omega
  refine zc1b (hA.get (i:=i) (d:=rD (rs.getD i [])) (by rw[Zv,Zqg hr,zw (Zqg hr)];rfl)) fun x hx hI=>?_;refine zc1b (ri.get hx) fun v hv rr=>?_;refine zc4a (lI I.hok hI rr) fun b o ws n R=>?_;rw[zw hv];exact row_of_at R
 refine call_set_fam (I.ok.hd hc) pl.isList (rows_fam X.prog X.w s.heap) (fun i v hv=>?_) (by rw[sz];omega) (by show X.A.units+1+1+1+8<cLine;omega) fun h' tk H' kk=>?_
 ·have hi:i<its.length:=by
   have:=(Array.getElem?_eq_some_iff.mp hv).1;omega
  have e:v=its.getD i .none:=by
   rw[<- gd,Array.getD_eq_getD_getElem?,hv];rfl
  rw[e];exact⟨_,isr i hi⟩
 ·have same:∀i j,i<its.toArray.size->j<its.toArray.size->(fun v u=>decide (jT s.heap v=jT s.heap u)) ((fun i=>its.toArray.getD i .none) i) ((fun i=>its.toArray.getD i .none) j)=decide (rs.getD i []=rs.getD j []):=fun i j hi hj=>by
   show decide (jT s.heap (its.toArray.getD i .none)=jT s.heap (its.toArray.getD j .none))=_;rw[gd,gd,uP (isr i (by omega)),uP (isr j (by omega))]
  refine zc2d H' fun es t SI pm led plain=>?_;rw[jV same _ (Zf _)] at pm;obtain⟨ep,ho⟩:=SI.at_;have en:its.toArray.size=rs.length:=by omega
  rw[en] at pm;have pm2:(es.toList.map (·.2)).Perm ((vB rs rs.length).map fun i=>its.getD i .none):=by
   have:=pm.map (·.2);rw[Zw,Zw] at this;refine this.trans (List.Perm.of_eq (List.map_congr_left fun i _=>?_));exact gd i
  have vl:yq ((vB rs rs.length).map fun i=>ys.getD i .non) ((vB rs rs.length).map fun i=>its.getD i .none):=w5 fun i hi=>by
   have hi:=wM rs _ i hi;obtain⟨x,hx⟩:∃x,ys[i]? = some x:=⟨ys[i]'(by omega),Zqg (by omega)⟩;refine zc1b (ri.get hx) fun v hv rr=>?_;rw[zw hx,zw hv];exact rr
  have szs:es.size<=1000:=by
   have:=pm2.length_eq;rw[Zql,Zql,Array.length_toList] at this;have:=rG rs rs.length;omega
  have szp:t.place.size=es.size:=by
   have:=SI.tab.size;rw[Array.size_map] at this;exact this
  refine⟨.ref s.heap.objs.size,upd H s.heap.objs.size (iY X.w s.heap.objs.size ((vB rs rs.length).map fun i=>ys.getD i .non)),I.laid (t':=tk) (fun b o e=>kk b o (Zk e) e) (Zf _) ?_,rfl,q _ (I.hok.fresh (Zf _))⟩;refine⟨⟨es,ep,t,_,ho,⟨SI.tab.fits,plain,led,SI.tab.up,szp⟩,szs,pm2,vl⟩,⟨_,ho⟩,fun h1 h2 z kp=>?_⟩;refine zc4a z fun es ep t us zz=>we zz fun e r=>?_;exact⟨es,ep,t,us,kp _ e,r⟩
theorem setO_at {pins:List (Addr×Obj)}{σ : St}{H:Hp}{s:Shared}(I:Inv X pins σ H s){S:Addr}{ys:List V}(h:H S=some (iY X.w S ys)):∃es ep t us,s.heap.get? S=some (tE es ep t)/\SetGood X.w es t/\es.size<=1000/\(es.toList.map (·.2)).Perm us/\yq ys us:=(show yj X.prog X.w H s.heap S (iY X.w S ys) from I.hok S _ h).1
theorem sorted_of2 {prog:Program}{w:World}{A:Around}{E:Value->Shared->Prop}{s:Shared}{x:Value}{Q:Value->Shared->Prop}
 (hc:wpAny (model prog w) A.in1 (collect x) (fun vs s1=>∃lt,Wk lt/\vs.length<1000/\(∀h',(∀b o,s1.heap.get? b=some o->h'.get? b=some o)->2<=vs.length->f9 prog w A.in1.in1 { s1 with heap:=h' } vs lt) /\
  ∀jx h' l,Pl vs.length jx vs.length->Up lt jx vs.length->(∀b o,s1.heap.get? b=some o->h'.get? b=some o)->s1.heap.objs.size<=l->(∃e,h'.get? l=some (seqObj "list" (jx.map (yY vs)) e))->Q (.ref l) { s1 with heap:=h' }) E s) :
 wpAny (model prog w) A (call (.builtin "sorted") [x]) Q E s:=by
 refine Calls.call_function_entry kind_sorted plain_sorted entry_sorted (args_sorted1 _) ?_;unfold Builtin.«sorted»;refine Za (m:=checkCount "sorted" 1 1 _) (Zb (Za (Zc hc (fun vs s1 z=>?_) fun _ _ e=>e)));refine zc1d z fun lt W h64 hk hq=>?_;have gl:(s1.heap.push (seqObj "list" vs.toArray 0)).get? s1.heap.objs.size=some (seqObj "list" vs.toArray 0):=Zr _ rfl;have nl:∀b o,s1.heap.get? b=some o->b≠s1.heap.objs.size:=fun b o e=>Zi (Zk e);refine Za (wpAny_newList (Za (wpAny_holding (wpAny_call_entry slot_list_sort ⟨_,gl,rfl⟩ entry_list_sort (sY (s:={ s1 with heap:=s1.heap.push (seqObj "list" vs.toArray 0) }) W gl h64 (fun h' kp=>hk h' fun b o e=>kp b o (nl b o e) (Zq _ e)) fun jx p u=>⟨_,rfl,Zb ⟨_,rfl,?_⟩⟩) (args_list_sort _)))));refine hq jx _ _ p u (fun b o e=>?_) (Zf _) (sortedHeap_at gl);rw[sortedHeap_old (nl b o e) (by rw[size_push'];exact Nat.lt_succ_of_lt (Zk e))];exact Zq _ e
theorem call_sortedSet (hc:X.calm=true)(hu:X.A.units+64<cLine):zD X (.builtin "sorted") (mj X.w):=by
 intro pins s σ H xs us Q I rv h;refine zc3a h fun S ys rs zz=>yT zz fun zr3 hS hA hne zz=>we zz fun h64 q=>?_;subst zr3;refine zc1b (vy rv) fun u zr1 ru=>?_;subst zr1;obtain rfl:u=Value.ref S:=ru;refine zc4a (setO_at I hS) fun es ep t ws zz=>yT zz fun ho G hsz pm vl=>?_;have l1:=hA.length;rw[Zql] at l1;have hlt:∀vs:List Value,vs.Perm (es.toList.map (·.2))->vs.length=rs.length:=fun vs hv=>by
  have a:=hv.length_eq;have b:=pm.length_eq;have c:=vl.length;omega
 refine sorted_of2 (collect_set (A:=X.A.in1) (E:=X.xe) (I.ok.hd hc) ho G hsz fun h1 tk vs kk hv hsz1=>?_);refine zc2d (perm_rows (pm.symm.trans hv.symm) vl (by omega)) fun ys2 rs2 vl2 p2 l2 g2=>?_;have lv:=hlt vs hv;have lr:=p2.length_eq;have A2:=g2 H hA;have ne2:∀r∈rs2,r ≠ []:=fun r hr=>hne r (p2.mem_iff.mp hr);refine⟨fun i j=>y8 (rs2.getD i []) (rs2.getD j []),zL.wk fun i=>rs2.getD i [],by omega,fun h' kp h2=>qO (by show X.A.units+1+1+4<cLine;omega) (I.hok.kept fun b o e=>kp b o (kk b o e)) A2 vl2 ne2 h2,fun jx h' l p u kp hl gl=>?_⟩;obtain⟨e,gl⟩:=gl;have lv2:vs.length=rs2.length:=by omega
 rw[lv2] at p u;have szl:s.heap.objs.size<=l:=by
  have hl:h1.objs.size<=l:=hl;omega
 have at_:∀i∈jx.toList,∃x v,ys2[i]? = some x/\vs[i]? = some v/\yo x v:=fun i hi=>by
  have hn:=p.mem hi;obtain⟨x,hx⟩:∃x,ys2[i]? = some x:=⟨ys2[i]'(by omega),Zqg (by omega)⟩;refine zc1b (vl2.get hx) fun v hv rr=>?_;exact⟨x,v,hx,hv,rr⟩
 have sp:=xY zL p u;have se:zQ y8 rs2=zQ y8 rs:=nU zL (((zm (ltb:=y8) rs2).trans p2).trans (zm (ltb:=y8) rs).symm) (xx zL rs2) (xx zL rs);have fin:=q l (jx.toList.map fun i=>ys2.getD i .non) (I.hok.fresh szl) fun G hG=>by
  have:=wz (g2 G hG) jx.toList fun i hi=>p.mem hi;rw[sp,se] at this;exact this
 refine⟨.ref l,upd H l (.lst (jx.toList.map fun i=>ys2.getD i .non)),I.laid (a:=l) (o:=.lst (jx.toList.map fun i=>ys2.getD i .non)) (t':=tk) (fun b o e=>kp b o (kk b o e)) szl ⟨?_,jx.toList.map (yY vs),e,?_,?_⟩,rfl,fin⟩
 ·rw[Zql,p.len];exact wN (by omega)
 ·refine w5 fun i hi=>?_;refine zc2c (at_ i hi) fun x v hx hv rr=>?_;unfold yY;rw[zw hx,zw hv];exact rr
 ·rw[gl]
  congr 3
  apply Array.ext';simp
end
end L2.ST
namespace L2.DL
open PySem PySem.Spec PyProof.Rows L2.ST
def vd:List D->Option D
 | [.lst ds]=>(xo v6 ds).bind fun rs=>if(∀r∈rs,r ≠ [])/\(pN rs).length<1000/\rs.length<=999 then some (.lst ((zQ y8 (pN rs)).map rwD)) else none
 |_=>none
section
variable {X:Cx}{E:XK}{fr:FA}{es:List Expr}{e:Expr}
theorem q_sortSet (h:∀{ta:TA},PA X es ta->PE X e (tCB (mj X.w) (hV (tCB (nX X.w) ta) eS)))(ha:QA X E es fr):QN X E e (xq vd fr):=PE.weak (h ha) fun σ H Q zh=>by
 refine zc3b zh fun B F sd r n=>?_;refine⟨B,F,sd,r,(Res.need_bind n).mono (fun ds n1 vs F1 H1 e1 i1=>?_) fun _ _ q=>q⟩;refine zc1b (Res.need_ofO n1) fun z hz q=>?_;unfold vd at hz
 split at hz
 ·refine zc1b (Option.bind_eq_some_iff.mp hz) fun rs h1 hz=>?_
  split at hz
  ·rename_i hc;obtain rfl:=Zqi hz;refine zc1b (xN i1) fun v zr1 h=>?_;subst zr1;rw[vD h1,IsD.lst_iff] at h;refine zc2c h fun a ys zr2 g1 g2=>?_;subst zr2;refine⟨a,ys,rs,rfl,g1.same e1.fh,wH.mp (zn.same e1.fh _ _ g2),hc.2.2,fun S hS=>?_⟩;have sn:=y9 hS (iY X.w S ((vB rs rs.length).map fun i=>ys.getD i .non));have pk:∀G,zp G (rs.map rD) ys->zp G ((pN rs).map rD) ((vB rs rs.length).map fun i=>ys.getD i .non):=fun G hG=>wz hG _ fun i hi=>wM rs _ i hi;refine⟨S,_,pN rs,rfl,zo,pk _ (zp.same sn _ _ (wH.mp (zn.same e1.fh _ _ g2))),fun r hr=>hc.1 r (rA.mp hr),hc.2.1,fun l zs hl hG=>?_⟩;have hlS:l≠S:=fun z=>by rw[z,zo] at hl;cases hl
   have hl1:H1 l=none:=by rw[zC hlS] at hl;exact hl
   have ek:Ext F1 H1 F1 (upd H1 S (iY X.w S ((vB rs rs.length).map fun i=>ys.getD i .non))):=.keep e1.fh hS _;exact(q.ext e1) l F1 _ (ek.trans (.keep ek.fh hl _)) hl1 (zE e1.fh hl1) ⟨zs,zo,wH.mpr (hG F1 (pk F1 (wH.mp g2)))⟩
  ·exact zqn hz
 ·exact zqn hz
end
theorem bt_set:bootBuiltins "set" = some (.type "set"):=by kernel_rfl
theorem gSortSet_rows {rs:List (List (Int×Int))}(h:∀r∈rs,r ≠ [])(h2:(pN rs).length<1000)(h3:rs.length<=999):vd [.lst (rs.map rwD)]=some (.lst ((zQ y8 (pN rs)).map rwD)):=by
 show(xo v6 (rs.map rwD)).bind _=_;rw[xE];exact Zd ⟨h,h2,h3⟩
end L2.DL
namespace L2.ST
def llB (a b:List (Int×Int)):Bool:=decide (a.length<b.length)||(decide (a.length=b.length)&&y8 a b)
theorem wS {a b:List (Int×Int)}:llB a b=true↔a.length<b.length\/(a.length=b.length/\y8 a b=true):=by
 unfold llB;rw[Bool.or_eq_true,Bool.and_eq_true,decide_eq_true_iff,decide_eq_true_iff]
theorem ki {a b:List (Int×Int)}:llB a b=false↔b.length<a.length\/(a.length=b.length/\y8 a b=false):=by
 cases q:llB a b with
 |true =>
  rw[wS] at q;constructor
  ·intro z;cases z
  ·rintro(z|⟨z1,z2⟩)
   ·rcases q with q|⟨q1,q2⟩<;>omega
   ·rcases q with q|⟨q1,q2⟩
    ·omega
    ·rw[z2] at q2;exact zqb q2
 |false =>
  refine⟨fun _=>?_,fun _=>rfl⟩;have nq:¬(llB a b=true):=by rw[q];simp -iota
  rw[wS] at nq;rcases Nat.lt_trichotomy a.length b.length with z|z|z
  ·exact Zn (.inl z) nq
  ·refine .inr ⟨z,?_⟩;cases w:y8 a b with
   |true=>exact Zn (.inr ⟨z,w⟩) nq
   |false=>rfl
  ·exact .inl z
theorem sH:Tot llB where
 asy:=fun a b h=>by
  rw[wS] at h;rw[ki];rcases h with h|⟨h1,h2⟩
  ·exact .inl h
  ·exact .inr ⟨h1.symm,zL.asy _ _ h2⟩
 neg:=fun a b c h=>by
  rw[wS] at h;rw[wS,wS];rcases h with h|⟨h1,h2⟩
  ·rcases Nat.lt_trichotomy a.length b.length with z|z|z
   ·exact .inl (.inl z)
   ·exact .inr (.inl (by omega))
   ·exact .inr (.inl (by omega))
  ·rcases Nat.lt_trichotomy a.length b.length with z|z|z
   ·exact .inl (.inl z)
   ·rcases zL.neg a b c h2 with y|y
    ·exact .inl (.inr ⟨z,y⟩)
    ·exact .inr (.inr ⟨by omega,y⟩)
   ·exact .inr (.inl (by omega))
 tot:=fun a b h1 h2=>by
  rw[ki] at h1 h2;rcases h1 with h1|⟨h1,h3⟩<;>rcases h2 with h2|⟨h2,h4⟩
  ·omega
  ·omega
  ·omega
  ·exact zL.tot _ _ h3 h4
theorem len_places {l:List (List (Int×Int))}{jx:Array Nat}(hs:l.Pairwise fun a b=>y8 a b=true)(p:Pl l.length jx l.length)(u:Up (fun i j=>decide (((l.getD i []).length:Int)<((l.getD j []).length:Int))) jx l.length):jx.toList.map (fun i=>l.getD i [])=zQ llB l:=by
 refine nU sH ?_ ?_ (xx sH l)
 ·refine List.Perm.trans ?_ (zm (ltb:=llB) l).symm;have q:jx.toList.Perm (List.range l.length):=by
   have:=Array.perm_iff_toList_perm.mp p.perm;simpa -iota using this
  refine(q.map _).trans (List.Perm.of_eq ?_);apply List.ext_getElem
  ·simp -iota
  ·intro i h1 h2;simp -iota [h2]
 ·refine List.pairwise_iff_getElem.mpr fun a b ha hb ab=>?_;rw[List.getElem_map,List.getElem_map];have sz:jx.toList.length=l.length:=by rw[Array.length_toList,p.size]
  rw[Zql] at ha hb;have ea:jx.toList[a]=gx jx a:=by
   unfold gx;rw[Array.getElem?_eq_getElem (by rw[p.size];omega)];simp -iota
  have eb:jx.toList[b]=gx jx b:=by
   unfold gx;rw[Array.getElem?_eq_getElem (by rw[p.size];omega)];simp -iota
  rw[ea,eb];have la:=p.lt (Zf _) (show a<l.length by omega);have lb:=p.lt (Zf _) (show b<l.length by omega);have bf:=u a b ab (by omega);generalize gx jx a=i at bf la;generalize gx jx b=j at bf lb;show llB (l.getD j []) (l.getD i [])=false;rw[ki];rcases bf with bf|⟨bf,ij⟩
  ·have:=of_decide_eq_true bf;exact .inl (by omega)
  ·have:=of_decide_eq_false bf;rcases Nat.lt_or_ge (l.getD i []).length (l.getD j []).length with z|z
   ·exact .inl z
   ·refine .inr ⟨by omega,zL.asy _ _ ?_⟩;have:=List.pairwise_iff_getElem.mp hs i j la lb ij;rw[zw (Zqg la),zw (Zqg lb)];exact this
section
variable {prog:Program}{w:World}{A:Around}{E:Value->Shared->Prop}{s:Shared}
theorem keyed_orc {vs keys:List Value}{kz:List Int}(hk:IntsAre keys kz)(hl:kz.length=vs.length):Orc prog w A s oneType' (fun i=>(yY keys i,yY vs i)) (fun i j=>decide (kz.getD i 0<kz.getD j 0)) vs.length:=by
 have at_:∀{keys:List Value} {kz:List Int},IntsAre keys kz->∀i,i<kz.length->∃t,yY keys i=.int (kz.getD i 0) t:=by
  intro keys kz h
  induction h with
  |nil=>intro i hi;exact Zn hi (Nat.not_lt_zero _)
  |cons n t _ ih =>
   intro i hi;cases i with
   |zero=>exact⟨t,rfl⟩
   |succ i=>exact ih i (by simpa -iota using hi)
 intro i j hi hj E Q hq;obtain⟨t,e1⟩:=at_ hk i (by omega);obtain⟨u,e2⟩:=at_ hk j (by omega);show wpAny (model prog w) A (keyLt' oneType' (yY keys i) (yY keys j)) Q E s;rw[e1,e2];exact W.kat_lt_int hq
theorem keyed_wk (kz:List Int):Wk fun i j=>decide (kz.getD i 0<kz.getD j 0) :=
 ⟨fun i j h=>by have:=of_decide_eq_true h;exact Zo (by omega),fun i j k h=>by
  have:=of_decide_eq_true h;rcases Int.lt_or_le (kz.getD i 0) (kz.getD j 0) with q|q
  ·exact .inl (Zp q)
  ·exact .inr (Zp (by omega))⟩
theorem keyed_end {a kS:Addr}{vs:List Value}{keys:Array Value}{kz:List Int}{e e1:Nat}{P:PySem.Fin->Shared->Prop}(hk:IntsAre keys.toList kz)(hl:kz.length=vs.length)(h64:vs.length<1000)(hka:kS≠a)
 (hK:s.heap.get? kS=some (seqObj "list" keys e)) (hA:s.heap.get? a=some (seqObj "list" #[] e1))
 (h:∀jx h',Pl vs.length jx vs.length->Up (fun i j=>decide (kz.getD i 0<kz.getD j 0)) jx vs.length->(∀b o,b≠kS->b≠a->s.heap.get? b=some o->h'.get? b=some o)->(∃c,h'.get? a=some (seqObj "list" (jx.map (yY vs)) c))->P (.done (.ret .none)) { s with heap:=h' }) :
 wpAny (model prog w) A (ksk_end a false vs.toArray e1 (.ref kS) keys) P E s:=by
 have hsz:keys.size=vs.length:=by
  have h1:=hk.length;rw[Array.length_toList] at h1;omega
 have kl:keys=keys.toList.toArray:=Array.toArray_toList.symm;have zr:keys.zip vs.toArray=(Array.range vs.length).map fun i=>(yY keys.toList i,yY vs i):=by
  apply Array.ext_getElem?;intro k;rw[Array.getElem?_map];by_cases hk':k<vs.length
  ·rw[Array.getElem?_range,Zd hk'];have e:yY vs k=vs[k]:=by unfold yY;rw[List.getD_eq_getElem?_getD,Zqg hk'];rfl
   have e2:yY keys.toList k=keys[k]'(by omega):=by unfold yY;rw[List.getD_eq_getElem?_getD,Zqg (by rw[Array.length_toList];omega)];simp -iota
   simp -iota [Array.getElem?_zip_eq_some,hk',hsz,e,e2]
  ·rw[Array.getElem?_range,Ze hk',Array.getElem?_eq_none (by simp -iota;omega)];rfl
 have tail:∀(st:SortSt) (jx:Array Nat),arrOf st=jx.map (fun i=>(yY keys.toList i,yY vs i))->failedOf st=none->Pl vs.length jx vs.length->Up (fun i j=>decide (kz.getD i 0<kz.getD j 0)) jx vs.length->wpAny (model prog w) A (ksk_tail a false e1 (.ref kS) st) P E s:=by
  intro st jx q1 q2 q3 q4;have ms:(arrOf st).map (·.2)=jx.map (yY vs):=by rw[q1,Array.map_map];rfl
  unfold ksk_tail;dsimp only;rw[ms,q2];obtain⟨c1,g1⟩:∃c1,(s.heap.update kS (Obj.mapSeq fun _ => #[])).get? kS=some (seqObj "list" #[] c1):=⟨_,get?_update_seq hK (fun _ => #[])⟩;have hA1:(s.heap.update kS (Obj.mapSeq fun _ => #[])).get? a=some (seqObj "list" #[] e1):=by rw[Heap.get?_update_ne _ _ _ _ (Ne.symm hka)];exact hA
  refine Za (listUpdate_at hK rfl ?_ (by rw[hsz,sizeLine_eq];omega) (Nat.zero_le _));refine Za (wpAny_letGo ?_);refine Za (seqEpoch_at (s:={ s with heap:=s.heap.update kS (Obj.mapSeq fun _ => #[]) }) hA1 rfl (Za (listUpdate_at (s:={ s with heap:=s.heap.update kS (Obj.mapSeq fun _ => #[]) }) hA1 rfl ?_ (Nat.zero_le _) (by rw[Ze Zj,Array.size_map,q3.size,sizeLine_eq];omega))));simp -iota only[bne_self_eq_false,Bool.false_eq_true,if_false];refine Zb (h jx _ q3 q4 (fun b o hb hb2 eb=>?_) ?_)
  ·show((s.heap.update kS (Obj.mapSeq fun _ => #[])).update a (Obj.mapSeq fun _=>jx.map (yY vs))).get? b=some o;rw[Heap.get?_update_ne _ _ _ _ hb2,Heap.get?_update_ne _ _ _ _ hb];exact eb
  ·exact⟨_,get?_update_seq hA1 (fun _=>jx.map (yY vs))⟩
 unfold ksk_end;dsimp only;simp -iota only[Bool.false_eq_true,if_false];by_cases h2:vs.toArray.size<2
 ·rw[Zd h2,Zd h2];refine Za (Zb ?_);rw[StateT.run_pure];refine Za (Zb ?_);refine tail _ (Array.range vs.length) zr rfl (uD _ _ (Zf _)) fun i j ij jn=>?_;rw[Zm] at h2;omega
 ·rw[Ze h2,Ze h2];rw[Zm] at h2;rw[ksk_kind hk (by rw[hsz];omega)];refine Za (Zb ?_);refine Za (Zc (ja (keyed_wk kz) (keyed_orc hk hl) (ix:=Array.range vs.length) (st:=SortSt.mk' oneType' (keys.zip vs.toArray) #[] 7 none) (Q:=fun _ st'=>∃jx,arrOf st'=jx.map (fun i=>(yY keys.toList i,yY vs i))/\failedOf st'=none/\Pl vs.length jx vs.length/\Up (fun i j=>decide (kz.getD i 0<kz.getD j 0)) jx vs.length)
   ⟨zr,rfl,rfl,rfl⟩ (uD _ _ (by omega)) (by omega) h64 fun jx st' a1 a2 a3 a4=>⟨jx,a1,a2,a3,a4⟩) ?_ fun _ _ e=>e)
  rintro⟨⟨⟩,st'⟩ s' ⟨rfl,jx,q1,q2,q3,q4⟩;exact tail st' jx q1 q2 q3 q4
theorem keyed_rest {a kS:Addr}{f:Value}{vs:List Value}{kz:List Int}{e1:Nat}{P:PySem.Fin->Shared->Prop}(hl:kz.length=vs.length)(h64:vs.length<1000)(hka:kS≠a)
 (hK:s.heap.get? kS=some (seqObj "list" #[] 0)) (hA:s.heap.get? a=some (seqObj "list" #[] e1))
 (turn:∀(i:Nat) (v:Value) (k:Int),vs[i]? = some v->kz[i]? = some k->∀(h:Heap) (tk:Nat),(∀b o,b≠kS->b≠a->s.heap.get? b=some o->h.get? b=some o) ->
  wpAny (model prog w) A (call f [v]) (fun r s'=>∃t tk',r=.int k t/\s'={ s with heap:=h,toks:=tk' }) (fun _ _=>False) { s with heap:=h,toks:=tk })
 (h:∀jx h' tk,Pl vs.length jx vs.length->Up (fun i j=>decide (kz.getD i 0<kz.getD j 0)) jx vs.length->(∀b o,b≠kS->b≠a->s.heap.get? b=some o->h'.get? b=some o)->(∃c,h'.get? a=some (seqObj "list" (jx.map (yY vs)) c))->P (.done (.ret .none)) { s with heap:=h',toks:=tk }) :
 wpAny (model prog w) A (ksk_rest a f false vs.toArray e1 (.ref kS)) P E s:=by
 unfold ksk_rest;refine Za (wpAny_rule ?_)
 first
  |rw[List.forIn_toArray]
  | (rw[<- Array.forIn_toList];simp -iota only[List.toList_toArray])
  |rw[<- Array.forIn_toList]
 refine Za (ksk_fold (fun i s'=>∃h' tk kA e,s'={ s with heap:=h',toks:=tk }/\(∀b o,b≠kS->s.heap.get? b=some o->h'.get? b=some o)/\h'.get? kS=some (seqObj "list" kA e)/\IntsAre kA.toList (kz.take i)) vs 0 s
  ⟨s.heap,s.toks,#[],0,rfl,fun _ _ _ e=>e,hK,by simpa -iota using IntsAre.nil⟩ ?step ?done)
 case step =>
  rintro j x s' hx ⟨h',tk,kA,e,rfl,kk,hk1,hk⟩;simp -iota only[Nat.zero_add] at hk ⊢;have hj:j<vs.length:=(List.getElem?_eq_some_iff.mp hx).1;obtain⟨k,hkj⟩:∃k,kz[j]? = some k:=⟨_,Zqg (by omega)⟩;have hz:kA.size<=vs.length:=by
   have h1:=hk.length;rw[Array.length_toList,List.length_take] at h1;omega
  refine Za (wpAny_attempt (Zc (turn j x k hx hkj h' tk fun b o hb _ eb=>kk b o hb eb) (fun v s'' he=>?_) fun _ _ hF=>hF.elim));refine zc2b he fun t2 tk2 zr2 zr3=>?_;subst zr2;subst zr3
  try dsimp only
  obtain⟨c2,hc2⟩:∃c2,(h'.update kS (Obj.mapSeq (·.push (.int k t2)))).get? kS=some (seqObj "list" (kA.push (.int k t2)) c2):=⟨_,get?_update_seq hk1 (·.push (.int k t2))⟩;have ek:kz.take (j+1)=kz.take j++[k]:=by rw[List.take_add_one,hkj];simp -iota
  have ea:(kA.push (Value.int k t2)).toList=kA.toList++[Value.int k t2]:=by simp -iota
  refine Za (listUpdate_at (s:={ s with heap:=h',toks:=tk2 }) hk1 rfl ?_ (by rw[sizeLine_eq];omega) (Zh (Nat.le_of_eq (Array.size_push ..)) (by rw[sizeLine_eq];omega)));refine Zb ⟨rfl,_,_,kA.push (.int k t2),c2,rfl,fun b o hb eb=>?_,hc2,by rw[ea,ek];exact ksk_snoc hk⟩;show(h'.update kS (Obj.mapSeq (·.push (.int k t2)))).get? b=some o;rw[Heap.get?_update_ne _ _ _ _ hb];exact kk b o hb eb
 case done =>
  rintro s' ⟨h',tk,kA,e,rfl,kk,hk1,hk⟩;have hk':IntsAre kA.toList kz:=by
   have e3:kz.take (0+vs.length)=kz:=List.take_of_length_le (by omega);rw[e3] at hk;exact hk
  try dsimp only
  refine Za (listItems_at (s:={ s with heap:=h',toks:=tk }) hk1 rfl ?_);exact keyed_end (s:={ s with heap:=h',toks:=tk }) hk' hl h64 hka hk1 (kk a _ (Ne.symm hka) hA) fun jx h2 p u k2 g=>h jx h2 tk p u (fun b o hb hb2 eb=>k2 b o hb hb2 (kk b o hb eb)) g
theorem keyed_sort {a:Addr}{f:Value}{vs:List Value}{kz:List Int}{n:Nat}{P:PySem.Fin->Shared->Prop}(ho:s.heap.get? a=some (seqObj "list" vs.toArray n))(hl:kz.length=vs.length)(h64:vs.length<1000)
 (turn:∀(i:Nat) (v:Value) (k:Int),vs[i]? = some v->kz[i]? = some k->∀(h:Heap) (tk:Nat),(∀b o,b≠a->s.heap.get? b=some o->h.get? b=some o) ->
  wpAny (model prog w) A (call f [v]) (fun r s'=>∃t tk',r=.int k t/\s'={ s with heap:=h,toks:=tk' }) (fun _ _=>False) { s with heap:=h,toks:=tk })
 (h:∀jx h' tk,Pl vs.length jx vs.length->Up (fun i j=>decide (kz.getD i 0<kz.getD j 0)) jx vs.length->(∀b o,b≠a->s.heap.get? b=some o->h'.get? b=some o)->(∃c,h'.get? a=some (seqObj "list" (jx.map (yY vs)) c))->P (.done (.ret .none)) { s with heap:=h',toks:=tk }) :
 wpAny (model prog w) A (ksk_tree a f false) P E s:=by
 have la:a<s.heap.objs.size:=Zk ho;obtain⟨e1,ho1⟩:∃e1,(s.heap.update a (Obj.mapSeq fun _=>(#[]:Array Value))).get? a=some (seqObj "list" #[] e1):=⟨_,get?_update_seq ho fun _ => #[]⟩;have hkS:((s.heap.update a (Obj.mapSeq fun _=>(#[]:Array Value))).push (seqObj "tuple" vs.toArray 0)).objs.size=s.heap.objs.size+1:=by rw[size_push',Heap.size_update]
 unfold ksk_tree;refine Za (listItems_at ho rfl ?_);refine Za (listUpdate_at ho rfl ?_ (by rw[Zm,sizeLine_eq];omega) (Nat.zero_le _));refine Za (seqEpoch_at ho1 rfl ?_);refine Za (wpAny_newTuple ?_ (by show vs.length<=_;rw[sizeLine_eq];omega));refine Za (wpAny_newList ?_ (Nat.zero_le _));refine wpAny_holding ?_;have hlt:∀{b o},s.heap.get? b=some o->b≠s.heap.objs.size/\b≠s.heap.objs.size+1:=fun e=>⟨Zi (Zk e),Zi (Nat.lt_succ_of_lt (Zk e))⟩;have keep:∀b o,b≠a->s.heap.get? b=some o->(((s.heap.update a (Obj.mapSeq fun _=>(#[]:Array Value))).push (seqObj "tuple" vs.toArray 0)).push (seqObj "list" #[] 0)).get? b=some o:=fun b o hb e=>by
  refine Zq _ (Zq _ ?_);rw[Heap.get?_update_ne _ _ _ _ hb];exact e
 refine keyed_rest (s:={ s with heap:=((s.heap.update a (Obj.mapSeq fun _=>(#[]:Array Value))).push (seqObj "tuple" vs.toArray 0)).push (seqObj "list" #[] 0) }) (kS:=((s.heap.update a (Obj.mapSeq fun _=>(#[]:Array Value))).push (seqObj "tuple" vs.toArray 0)).objs.size)
  hl h64 (by rw[hkS];exact Nat.ne_of_gt (Nat.lt_succ_of_lt la)) (Zr _ rfl) (Zq _ (Zq _ ho1))
  (fun i v k hv hk h' tk kk=>turn i v k hv hk h' tk fun b o hb e=>kk b o (by rw[hkS];exact(hlt e).2) hb (keep b o hb e))
  (fun jx h' tk p u kk g=>h jx h' tk p u (fun b o hb e=>kk b o (by rw[hkS];exact(hlt e).2) hb (keep b o hb e)) g)
end
section
variable {X:Cx}
def nN:List V->Hp->VK->Prop:=fun xs H Q=>∃a ys rs,xs=[.ref a]/\Rd H a (.lst ys)/\zp H (rs.map rD) ys/\rs.Pairwise (fun a b=>y8 a b=true)/\rs.length<1000/\(∀r∈rs,r.length<=1000) /\
 ∀l zs,H l=none->(∀G,zp G (rs.map rD) ys->zp G ((zQ llB rs).map rD) zs)->Q (.ref l) (upd H l (.lst zs))
theorem sortedLen {pins:List (Addr×Obj)}{σ : St}{H:Hp}{s:Shared}{a:Addr}{ys:List V}{rs:List (List (Int×Int))}{Q:VK}(I:Inv X pins σ H s)(ha:Rd H a (.lst ys))(hA:zp H (rs.map rD) ys)(hs:rs.Pairwise (fun a b=>y8 a b=true))(h64:rs.length<1000)(hrl:∀r∈rs,r.length<=1000)
 (q:∀l zs,H l=none->(∀G,zp G (rs.map rD) ys->zp G ((zQ llB rs).map rD) zs)->Q (.ref l) (upd H l (.lst zs))) :
 wpAny (model X.prog X.w) X.A (call (.builtin "sorted") [.ref a] [(Str.ofString "key",.builtin "len")]) (EP X pins σ Q) X.xe s:=by
 refine zc1c (I.list (.inl ha)) fun its ri pl hz=>?_;have l1:=hA.length;have l2:=ri.length;rw[Zql] at l1;have lw:its.length=rs.length:=by omega
 have hl:=pl.isList;have keep:∀b o,s.heap.get? b=some o->(((s.heap.push (seqObj "list" #[] 0)).update s.heap.objs.size (Obj.mapSeq (· ++ its.toArray))).push (seqObj "list" its.toArray 0)).get? b=some o:=fun b o q=>by
  have hlt:b<s.heap.objs.size:=Zk q;refine Zq _ ?_;rw[Heap.get?_update_ne _ _ _ _ (Zi hlt),Heap.get?_push_ne _ _ _ (Zi hlt)];exact q
 have hsz:((s.heap.push (seqObj "list" #[] 0)).update s.heap.objs.size (Obj.mapSeq (· ++ its.toArray))).objs.size=s.heap.objs.size+1:=by
  rw[Heap.size_update,size_push']
 have hoL:(((s.heap.push (seqObj "list" #[] 0)).update s.heap.objs.size (Obj.mapSeq (· ++ its.toArray))).push (seqObj "list" its.toArray 0)).get? (s.heap.objs.size+1)=some (seqObj "list" its.toArray 0):=by
  rw[<- hsz];exact Zr _ rfl
 refine call_function_entry_kw kind_sorted plain_sorted entry_sorted (ksk_s1 _ _) ?_;unfold Builtin.«sorted»;refine Za (m:=checkCount "sorted" 1 1 _) (Zb ?_);refine Za (collect_list hl ?_ (by rw[lw,sizeLine_eq];omega));refine Za (wpAny_newList ?_ (by rw[lw,sizeLine_eq];omega));show wpAny _ _ _ _ _ { s with heap:=((s.heap.push (seqObj "list" #[] 0)).update s.heap.objs.size (Obj.mapSeq (· ++ its.toArray))).push (seqObj "list" its.toArray 0) };rw[hsz];generalize hH:((s.heap.push (seqObj "list" #[] 0)).update s.heap.objs.size (Obj.mapSeq (· ++ its.toArray))).push (seqObj "list" its.toArray 0)=hp at keep hoL;refine Za (wpAny_holding (wpAny_call_entry_kw slot_list_sort ⟨_,hoL,rfl⟩ entry_list_sort ?body (ksk_l1 _ _)))
 case body =>
  show wpAny (model X.prog X.w) X.A.in1.in1 (Builtin.«list.sort» ⟨[.ref (s.heap.objs.size+1)],[(Str.ofString "key",.builtin "len")]⟩) _ _ _;rw[ksk_t4];refine keyed_sort (s:={ s with heap:=hp }) (kz:=rs.map fun r=>(r.length:Int)) hoL (by rw[Zql];omega) (by omega) (fun i v k hv hk h' tk kk=>?_) fun jx h' tk p u kk g=>⟨_,rfl,Zb ⟨_,rfl,?_⟩⟩
  ·have hi:i<rs.length:=by
    have:=(List.getElem?_eq_some_iff.mp hk).1
    rwa [Zql] at this
   refine zc1b (hA.get (i:=i) (d:=rD (rs.getD i [])) (by rw[Zv,Zqg hi,zw (Zqg hi)];rfl)) fun x hx hI=>?_;refine zc1b (ri.get hx) fun v' hv' rr=>?_;rw[hv] at hv';obtain rfl:=Zqi hv';refine zc4a (lI I.hok hI rr) fun b o ws m R=>?_;obtain rfl:v=Value.ref b:=R.isv;have hb:b≠s.heap.objs.size+1:=Zi (Nat.lt_succ_of_lt (Zk R.get));have ht:IsTup h' b ws.toArray:=⟨o,kk b o hb (keep b o R.get),R.cls,m,R.dat⟩;have lws:ws.length=(rs.getD i []).length:=R.prs.1;have ek:k=((rs.getD i []).length:Int):=by
    rw[Zv,Zqg hi] at hk;rw[zw (Zqg hi)];exact(Zqi hk).symm
   have lrow:(rs.getD i []).length<=1000:=by
    rw[zw (Zqg hi)];exact hrl _ (List.getElem_mem hi)
   have ev:Value.int ((ws.toArray.size:Nat):Int) (tk+1)=Value.int k (tk+1):=by rw[Zm,lws,ek]
   exact len_tuple (s:={ s with heap:=h',toks:=tk }) ht (by rw[Zm,lws];omega) ⟨tk+1,tk+1+1,ev,rfl⟩
  ·obtain⟨c,g⟩:=g;have kk':∀b o,s.heap.get? b=some o->h'.get? b=some o:=fun b o e=>kk b o (Zi (Nat.lt_succ_of_lt (Zk e))) (keep b o e);rw[lw] at p u;have ud:(fun i j=>decide ((rs.map fun r=>(r.length:Int)).getD i 0<(rs.map fun r=>(r.length:Int)).getD j 0))=fun i j=>decide (((rs.getD i []).length:Int)<((rs.getD j []).length:Int)):=by
    have e:∀i,(rs.map fun r=>(r.length:Int)).getD i 0=((rs.getD i []).length:Int):=fun i=>by
     rw[List.getD_eq_getElem?_getD,Zv,List.getD_eq_getElem?_getD];cases rs[i]?<;>rfl
    funext i j
    rw[e,e]
   rw[ud] at u;have sp:=len_places hs p u;have szl:s.heap.objs.size<=s.heap.objs.size+1:=Nat.le_succ _;have at_:∀i∈jx.toList,∃x v,ys[i]? = some x/\its[i]? = some v/\yo x v:=fun i hi=>by
    have hn:=p.mem hi;obtain⟨x,hx⟩:∃x,ys[i]? = some x:=⟨ys[i]'(by omega),Zqg (by omega)⟩;refine zc1b (ri.get hx) fun v hv rr=>?_;exact⟨x,v,hx,hv,rr⟩
   have fin:=q (s.heap.objs.size+1) (jx.toList.map fun i=>ys.getD i .non) (I.hok.fresh szl) fun G hG=>by
    have:=wz hG jx.toList fun i hi=>p.mem hi;rw[sp] at this;exact this
   refine⟨.ref (s.heap.objs.size+1),upd H (s.heap.objs.size+1) (.lst (jx.toList.map fun i=>ys.getD i .non)),I.laid (a:=s.heap.objs.size+1) (o:=.lst (jx.toList.map fun i=>ys.getD i .non)) (t':=tk) kk' szl ⟨?_,jx.toList.map (yY its),c,?_,?_⟩,rfl,fin⟩
   ·rw[Zql,p.len];exact wN (by omega)
   ·refine w5 fun i hi=>?_;refine zc2c (at_ i hi) fun x v hx hv rr=>?_;unfold yY;rw[zw hx,zw hv];exact rr
   ·rw[g]
    congr 3
    apply Array.ext';simp -iota
theorem pe_sortLen {e:Expr}{p pos kp lp:Pos}{t:TA}(hg:Gl X "sorted")(hm:X.mg "sorted" = none)(hg2:Gl X "len")(hm2:X.mg "len" = none)(ha:PA X [e] t)
 (he:autoParam (backTo pos (starEach [e] X.env)=(false,eval e X.env)::backTo pos (starEach [] X.env)) zau._auto_1) (hpl:autoParam ((backTo pos (starEach [e] X.env)).any (·.1)=false) zau._auto_1):PE X (.Call (.Name "sorted" p) [e] [⟨some "key",.Name "len" lp,kp⟩] pos) (tCB nN t):=by
 intro pins s σ H Q I h;refine wpAny_Call_Name_kw (sQ I hg hm (show bootBuiltins "sorted" = some (.builtin "sorted") by kernel_rfl) ?_ (by decide) (by decide));refine callWith_kw (thn (ha pos pins s σ H _ I h) fun us s1 ⟨vs,H1,I1,r1,q1⟩=>?_) he hpl;refine kws_cons (sQ I1 hg2 hm2 boot_len ?_ (by decide) (by decide));refine kws_nil ?_;refine zc3a q1 fun a ys rs zz=>yT zz fun zr3 h1 h2 h3 zz=>xm zz fun h4 h5 q=>?_;subst zr3;refine zc1b (vy r1) fun u zr1 ru=>?_;subst zr1;obtain rfl:u=Value.ref a:=ru;exact sortedLen I1 h1 h2 h3 h4 h5 q
end
end L2.ST
namespace L2.DL
open PySem PySem.Spec PyProof.Rows L2.ST
def vq:List D->Option D
 | [.lst ds]=>(xo v6 ds).bind fun rs=>if rs.Pairwise (fun a b=>y8 a b=true)/\rs.length<1000/\∀r∈rs,r.length<=1000 then some (.lst ((zQ llB rs).map rwD)) else none
 |_=>none
section
variable {X:Cx}{E:XK}{fr:FA}{es:List Expr}{e:Expr}
theorem q_sortLen (h:∀{ta:TA},PA X es ta->PE X e (tCB nN ta))(ha:QA X E es fr):QN X E e (xq vq fr):=PE.weak (h ha) fun σ H Q zh=>by
 refine zc3b zh fun B F sd r n=>?_;refine⟨B,F,sd,r,(Res.need_bind n).mono (fun ds n1 vs F1 H1 e1 i1=>?_) fun _ _ q=>q⟩;refine zc1b (Res.need_ofO n1) fun z hz q=>?_;unfold vq at hz
 split at hz
 ·refine zc1b (Option.bind_eq_some_iff.mp hz) fun rs h1 hz=>?_
  split at hz
  ·rename_i hc;obtain rfl:=Zqi hz;refine zc1b (xN i1) fun v zr1 h=>?_;subst zr1;rw[vD h1,IsD.lst_iff] at h;refine zc2c h fun a ys zr2 g1 g2=>?_;subst zr2;refine⟨a,ys,rs,rfl,g1.same e1.fh,wH.mp (zn.same e1.fh _ _ g2),hc.1,hc.2.1,hc.2.2,fun l zs hl hG=>?_⟩;exact(q.ext e1) l F1 _ (.keep e1.fh hl _) hl (zE e1.fh hl) ⟨zs,zo,wH.mpr (hG F1 (wH.mp g2))⟩
  ·exact zqn hz
 ·exact zqn hz
end
theorem gSortLen_rows {rs:List (List (Int×Int))}(h:rs.Pairwise (fun a b=>y8 a b=true))(h2:rs.length<1000)(h3:∀r∈rs,r.length<=1000):vq [.lst (rs.map rwD)]=some (.lst ((zQ llB rs).map rwD)):=by
 show(xo v6 (rs.map rwD)).bind _=_;rw[xE];exact Zd ⟨h,h2,h3⟩
end L2.DL
namespace L2
theorem yj.has {P:Program}{w:World}{H:Hp}{h:Heap}{a:Addr}{o:HO}(x:yj P w H h a o):∃u,h.get? a=some u:=by
 cases o with
 |lst xs=>obtain⟨_,_,_,_,e⟩:=x;exact⟨_,e⟩
 |tup xs=>obtain⟨_,_,_,o,e,_⟩:=x;exact⟨_,e⟩
 |dK kvs=>obtain⟨_,_,_,_,o,_,_,e,_⟩:=x;exact⟨_,e⟩
 |dT kvs=>obtain⟨_,_,_,_,o,_,_,e,_⟩:=x;exact⟨_,e⟩
 |set S n=>obtain⟨o,_,_,_,e,_⟩:=x;exact⟨_,e⟩
 |ins C dx fs=>obtain⟨_,_,_,e,_⟩:=x;exact⟨_,e⟩
 |own y=>exact x
 |xd fs=>obtain⟨_,⟨_,_,_,e,_⟩,_⟩:=x;exact⟨_,e⟩
 |rng lo hi=>obtain⟨_,_,_,e⟩:=x;exact⟨_,e⟩
 |frz ob u=>exact⟨_,x.1⟩
 |tbl ps=>exact⟨_,show h.get? a=some _ from x⟩
 |met f y=>exact⟨_,show h.get? a=some _ from x⟩
 |ext φ => exact x.2.1
structure FlyAt (l:List Env)(h₀:Heap)(H:Hp)(x C:Addr)(B h:Heap):Prop where
 fly:∃t,Heap.FlyingW B l x (.ref C) (.ref t) h
 trk:∀b o,h.get? b=some o->(H b≠none\/((∃u,h₀.get? b=some u)/\b∉frs l))->B.get? b=some o
def CXE (P:Program)(w:World):CXT:=fun outer H s E e s'=>∃H' x C B,e=.ref x/\s'.os=s.os/\AllBare s'.gens/\Un (frs outer) [] H H' s.heap s'.heap/\HOk P w H' s'.heap/\FlyAt outer s.heap H' x C B s'.heap/\E (.ref C) none H'
structure Thrown (X:Cx)(E:XK):Prop where
 on:∀(pins:List (Addr×Obj)) (σ : St) (H:Hp) (s:Shared) (h₀:Heap) (x C:Addr) (B:Heap),Inv X pins σ H s->(∀b u,X.s₀.heap.get? b=some u->b∉X.ex->∃u',h₀.get? b=some u')->FlyAt X.stack h₀ H x C B s.heap->E (.ref C) none H->X.xe (.ref x) s
structure Raises (X:Cx)(E:XK):Prop where
 new:∀(pins:List (Addr×Obj)) (σ : St) (H:Hp) (s:Shared) (h':Heap) (x C:Addr) (args:List Value),Inv X pins σ H s->Heap.MadeExcOf s.heap h' x (.ref C) args->E (.ref C) none H->X.xe (.ref x) { s with heap:=h' }
theorem Thrown.passes {X:Cx}{E:XK}(T:Thrown X E):oU (CXE X.prog X.w) X E:=by
 rintro pins σ H s e s' I ⟨H',x,C,B,h1,os,bare,un,hok,fl,hE⟩;subst h1;have I':=I.call' (s':=s') (ch:=[]) os un hok bare (fun b z=>Zn z (by simp));exact T.on pins σ H' s' s.heap x C B I' (fun b u e hx=>I.base.there b u e hx) fl hE
theorem ji {X:Cx}:Thrown X E0:=⟨fun _ _ _ _ _ _ _ _ _ _ _ z=>z.elim⟩
section
variable {P:Program}{w:World}{K:W.Frag}{mg:Str->Option Value}{base:Heap}{N:List Str}{qual:Str}{scope:Scope}{f:Addr}{cd:Value}{A:Around}{outer:List Env}{s:Shared}{H:Hp}{E:XK}
theorem qR {pins:List (Addr×Obj)}{σ : St}{H':Hp}{s':Shared}{h₀ h'' B:Heap}{x C t:Addr}(I:Inv (sR (CXE P w) P w K mg base N qual scope f cd A outer s H E) pins σ H' s')
 (h0:∀b u,s.heap.get? b=some u->∃u',h₀.get? b=some u') (fl:Heap.FlyingW B outer x (.ref C) (.ref t) h'') (up:s'.heap.UpToSlots h'')
 (trk:∀b o,s'.heap.get? b=some o->(H' b≠none\/((∃u,h₀.get? b=some u)/\b∉frs (envOfC qual scope s.heap.objs.size f cd::outer)))->B.get? b=some o) (hE:E (.ref C) none H') :
 CXE P w outer H s E (.ref x) { s' with heap:=h'' }:=by
 have nst:∀b u,s.heap.get? b=some u->b∉frs outer->b∉frs (envOfC qual scope s.heap.objs.size f cd::outer):=fun b u e hb z=>by
  unfold frs at z hb;rw[List.filterMap_cons] at z;have z:b∈s.heap.objs.size::outer.filterMap (·.frame):=z;rcases List.mem_cons.mp z with q|q
  ·exact Zn (Zk e) (by rw[q];exact Zx _)
  ·exact hb q
 have nex:∀b:Addr,b∉(sR (CXE P w) P w K mg base N qual scope f cd A outer s H E).ex:=fun b z=>Zn (show b∈([]:List Addr) from z) (by simp);have keep:∀b o,s'.heap.get? b=some o->(H' b≠none\/((∃u,s.heap.get? b=some u)/\b∉frs outer))->B.get? b=some o:=fun b o e c=>by
  refine trk b o e ?_;rcases c with c|⟨⟨u,hu⟩,hb⟩
  ·exact .inl c
  ·exact .inr ⟨h0 b u hu,nst b u hu hb⟩
 have slot:∀b o,s.heap.get? b=some o->b∈frs outer->∃sl,h''.get? b=some { o with slots:=sl }:=fun b o e hb=>by
  obtain⟨sl,e1⟩:=I.base.slot b o e (I.ok.frf b hb) hb (nex b);refine we (I.ok.funs.mem hb) fun _ zz=>zc1b zz fun o' ho' hd=>?_;have ho':s.heap.get? b=some o':=ho';rw[e] at ho';obtain rfl:=Zqi ho';obtain⟨sl',e2⟩:=up b _ e1 hd;exact⟨sl',e2⟩
 refine⟨H',x,C,B,rfl,I.os,I.bare,⟨fun b o e n hb _=>?_,fun b o e n hb _=>slot b o e hb,fun b o e n _=>I.base.free b o e n (nex b),fun b o e _=>?_,I.base.tups,I.base.frzs,I.base.tbls⟩,fun b u e=>?_,⟨⟨t,fl⟩,fun b o e c=>?_⟩,hE⟩
 ·exact fl.1 b o (keep b o (I.base.keep b o e n hb (nex b)) (.inr ⟨⟨o,e⟩,hb⟩))
 ·by_cases hb:b∈frs outer
  ·obtain⟨sl,q⟩:=slot b o e hb;exact⟨_,q⟩
  ·obtain⟨o',e'⟩:=I.base.there b o e (nex b);exact⟨o',fl.1 b o' (keep b o' e' (.inr ⟨⟨o,e⟩,hb⟩))⟩
 ·refine(I.hok b u e).stay (fun c v hc q=>fl.1 c v (keep c v q (.inl ?_))) (fun _ q=>q) fun _ _ q=>q;rcases hc with z|z
  ·rw[z,e];simp
  ·rw[z];simp
 ·have ex:∃o',s'.heap.get? b=some o':=by
   rcases c with c|⟨⟨u,hu⟩,_⟩
   ·cases q:H' b with
    |none=>exact Zn q c
    |some u=>exact(I.hok b u q).has
   ·exact I.base.there b u hu (nex b)
  obtain⟨o',e'⟩:=ex;have k:=keep b o' e' c;have:=fl.1 b o' k;have e:h''.get? b=some o:=e;rw[e] at this;obtain rfl:=Zqi this;exact k
theorem sX:Thrown (sR (CXE P w) P w K mg base N qual scope f cd A outer s H E) E:=by
 refine⟨fun pins σ H' s' h₀ x C B I h0 fl hE=>?_⟩;obtain⟨⟨t,fly⟩,trk⟩:=fl;have nex:∀b:Addr,b∉(sR (CXE P w) P w K mg base N qual scope f cd A outer s H E).ex:=fun b z=>Zn (show b∈([]:List Addr) from z) (by simp);exact wpAny_leaves_onW I.ok.frames rfl fly fun h' fl up=>qR I (fun b u e=>h0 b u e (nex b)) fl up trk hE
theorem raises_def:Raises (sR (CXE P w) P w K mg base N qual scope f cd A outer s H E) E:=by
 refine⟨fun pins σ H' s' h' x C args I hx hE=>?_⟩;have st:=I.stack;have fin:∀env∈(envOfC qual scope s.heap.objs.size f cd::outer),∀a,env.frame=some a->a∈frs (envOfC qual scope s.heap.objs.size f cd::outer):=fun env he a ha=>List.mem_filterMap.mpr ⟨env,he,ha⟩;have B:=W.hideAll s'.heap (frs (envOfC qual scope s.heap.objs.size f cd::outer));refine wpAny_leaves_madeW (s:={ s' with heap:=h' }) (base:=W.hideAll s'.heap (frs (envOfC qual scope s.heap.objs.size f cd::outer))) (h:=s'.heap) I.ok.frames rfl (fun b o e=>W.of_hideAll _ e) (W.funFrames_hide st fin) hx fun h'' t fl tup tn up=>?_;refine qR (s':=s') (h₀:=s'.heap) I (fun b u e=>I.base.there b u e (by show b∉([]:List Addr);simp)) fl ((Heap.UpToSlots.of_keeps hx.keeps).trans up) (fun b o e c=>?_) hE;refine W.hideAll_get _ e fun z=>?_;rcases c with c|c
 ·exact c (I.stkFree b z)
 ·exact c.2 z
end
def yu (P:Program)(w:World)(K:W.Frag)(mg:Str->Option Value)(base:Heap)(name:Str)(k:Nat)(ps:List Str)(sp:Sp):Prop :=
 ∃f fd,FnOk P w K mg base (CXE P w) k f fd ps sp/\qU K fd ps []/\W.keepIn K (.ref f)=true/\mg name=some (.ref f)
theorem yu.mono {P:Program}{w:World}{K:W.Frag}{mg:Str->Option Value}{base:Heap}{name:Str}{j k:Nat}{ps:List Str}{sp:Sp}(c:yu P w K mg base name j ps sp)(h:j<=k):yu P w K mg base name k ps sp:=by
 refine zc2b c fun f fd F r=>?_;exact⟨f,fd,F.mono h,r⟩
section
variable {X:Cx}{E:XK}{name:Str}{k:Nat}{ps:List Str}{sp:Sp}{p pos:Pos}{e:Expr}{es:List Expr}{t:TA}
theorem pe_fnX (c:yu X.prog X.w X.K X.mg X.base name k ps sp)(T:Thrown X E)(hr:Room k X.A)(hg:Gl X name)(ha:PA X (e::es) t)
 (hdb:autoParam ((name == ("__debug__" : Str))=false) zav._auto_1) (he:starEach (e::es) X.env=(false,eval e X.env)::starEach es X.env:=by rfl) (hpl:(backTo pos (starEach es X.env)).any (·.1)=false:=by rfl) :
 PE X (.Call (.Name name p) (e::es) [] pos) (hU sp [] E t):=by
 refine zc2d c fun f fd F b hk hm=>?_;exact lu F hr hg hm hk b .nil T.passes ha hdb he hpl
end
theorem Fun.okX {P:Program}{w:World}{K:W.Frag}{mg:Str->Option Value}{base:Heap}{x qual:Str}{st:Stmt}{f:Addr}{fd:FuncData}{N ps:List Str}{k:Nat}{sp:Sp}(F:Fun K x qual st f fd)(S:FnScope N ps (zj st))(len:∀vs H Q E,sp vs H Q E->vs.length=ps.length)
 (hbody:∀(cdv:Value) (A:Around) (outer:List Env) (s:Shared) (H:Hp) (vs:List V) (Q:VK) (E:XK),Room k (A.deeper (envOfC qual (zj st) s.heap.objs.size f cdv))->sp vs H Q E ->
  ∃t,PSs (sR (CXE P w) P w K mg base N qual (zj st) f cdv A outer s H E) (xf st) t/\t { nx:=fun _ H'=>Q .non H',rt:=Q } (start N vs) H):FnOk P w K mg base (CXE P w) (k+1) f fd ps sp:=by
 refine zc4a F.ex fun oc od kV doc zz=>zc4a zz fun pm an cdv ct zz=>zc1c zz fun osl zr9 lk hcd=>?_;subst zr9;exact gS lk hcd S len fun A outer s H vs Q E hr hsp=>hbody cdv A outer s H vs Q E hr hsp
end L2
namespace L2.DL
def eW (K:W.Frag)(Fn:List D->Res D):Sp:=fun vs H Q E=>∃F ds,yw F H/\zn K F ds vs/\(Fn ds).need (OkD K F H Q) (XW K E F H)
def mW (K:W.Frag)(Fn:List D->Res D):Sp:=fun vs H Q E=>∃F ds,yw F H/\zn K F ds vs/\(Fn ds).need (OkN K F H Q) (XW K E F H)
noncomputable def Res.strict {α : Type}:Res α -> Res α
 | .ok a=>.ok a
 |_=>.no
@[simp] theorem Res.strict_ok {α : Type}(a:α):(Res.ok a).strict=.ok a:=rfl
theorem Res.need_strict {α : Type}{r:Res α}{p:α -> Prop}{q q':Str->List D->Prop}(h:r.strict.need p q):r.need p q':=by
 cases r with
 |ok a=>exact h
 |ex c fs=>exact h.elim
 |no=>exact h
def pQ (Fn:List D->Res D)(fr:FA):FE:=fun sd=>(fr sd).bind fun ds=>(Fn ds).strict
@[simp] theorem ev_call0 (Fn:List D->Res D)(fr:FA)(sd:SD):pQ Fn fr sd=(fr sd).bind fun ds=>(Fn ds).strict:=rfl
section
variable {X:Cx}{E:XK}{name:Str}{k:Nat}{ps:List Str}{Fn:List D->Res D}{p pos:Pos}{e:Expr}{es:List Expr}{fr:FA}
theorem md (c:yu X.prog X.w X.K X.mg X.base name k ps (mW X.K Fn))(T:Thrown X E)(hr:Room k X.A)(hg:Gl X name)(ha:QA X E (e::es) fr)
 (hdb:autoParam ((name == ("__debug__" : Str))=false) zav._auto_1) (he:starEach (e::es) X.env=(false,eval e X.env)::starEach es X.env:=by rfl) (hpl:(backTo pos (starEach es X.env)).any (·.1)=false:=by rfl) :
 QN X E (.Call (.Name name p) (e::es) [] pos) (zy Fn fr):=PE.weak (pe_fnX c T hr hg ha hdb he hpl) fun σ H Q zh=>by
 obtain⟨B,F,sd,r,n⟩:=zh;refine⟨B,F,sd,r,(Res.need_bind n).mono (fun xs n1 vs F1 H1 e1 i1=>?_) fun _ _ q=>q⟩;show mW X.K Fn (vs++[]) H1 Q E;rw[Zz];exact⟨F1,xs,e1.fh,i1,hZ n1 e1⟩
theorem jX (c:zA X.prog X.w X.K X.mg X.base name k ps (SpN X.K Fn))(hr:Room k X.A)(hg:Gl X name)(ha:QA X E (e::es) fr)
 (hdb:autoParam ((name == ("__debug__" : Str))=false) zav._auto_1) (he:starEach (e::es) X.env=(false,eval e X.env)::starEach es X.env:=by rfl) (hpl:(backTo pos (starEach es X.env)).any (·.1)=false:=by rfl) :
 QN X E (.Call (.Name name p) (e::es) [] pos) (pQ Fn fr):=PE.weak (iQ c hr hg ha hdb he hpl) fun σ H Q zh=>by
 refine zc3b zh fun B F sd r n=>?_;refine⟨B,F,sd,r,(Res.need_bind n).mono (fun xs n1 vs F1 H1 e1 i1=>?_) fun _ _ q=>q⟩;show SpN X.K Fn (vs++[]) H1 Q E0;rw[Zz];exact⟨F1,xs,e1.fh,i1,Res.need_strict (hZ n1 e1)⟩
end
section
variable {P:Program}{w:World}{K:W.Frag}{mg:Str->Option Value}{base:Heap}{x qual:Str}{f:Addr}{fd:FuncData}{N ps:List Str}{k:Nat}{st:Stmt}
theorem gZ {g:FS}(F:Fun K x qual st f fd)(S:FnScope N ps (zj st))
 (hb:∀(cdv:Value) (A:Around) (outer:List Env) (s:Shared) (H:Hp) (E:XK),Room k (A.deeper (envOfC qual (zj st) s.heap.objs.size f cdv))->QSs (sR (CXE P w) P w K mg base N qual (zj st) f cdv A outer s H E) E true (xf st) g) :
 FnOk P w K mg base (CXE P w) (k+1) f fd ps (mW K (si N.length ps.length g)):=by
 refine F.okX S (fun vs H Q E ⟨F,ds,_,h,n⟩=>?_) fun cdv A outer s H vs Q E hr ⟨F,ds,hs,h,n⟩=>⟨_,hb cdv A outer s H E hr,?_⟩
 ·unfold si at n
  split at n
  ·rw[h.length];assumption
  ·exact n.elim
 ·unfold si at n
  split at n
  ·refine⟨⟨F,H,fun _=>none⟩,F,_,RS.start hs h,(Res.need_bind n).mono (fun o n1=>?_) fun _ _ q=>q⟩;cases o with
   |next sd=>exact n1.elim
   |ret d=>exact n1
   |brk sd=>exact n1.elim
   |cont sd=>exact n1.elim
  ·exact n.elim
end
end L2.DL
namespace L2
theorem log2_small {n:Nat}(h:n<1000000):n.log2<20:=by
 by_cases z:n=0
 ·subst z;decide
 ·exact(Nat.log2_lt z).mpr (Zg h (by decide))
section
variable {X:Cx}{x:Str}{v e:Expr}{tv:TE}{t:TA}{p1 p2 np cpos pos:Pos}{k}
noncomputable def tFmt (x:Str)(tv:TE):TE:=fun σ H Q=>tv σ H fun y H1=>∃a:Int,y=.int a/\a.natAbs<1000000/\Q (.str (Str.empty++x++Str.ofString (toString a))) H1
theorem pe_fmt (hx:x.length<=1000)(hv:PE X v tv):PE X (.JoinedStr [.Constant (.str x) k p1,.FormattedValue v (-1) none p2] pos) (tFmt x tv):=by
 intro pins s σ H Q I h;refine wpAny_JoinedStr ?_;have z0:(Str.empty:Str).length=0:=rfl;have sl:sizeLine=_:=sizeLine_eq;show wpAny _ _ (eval (.Constant (.str x) k p1) X.env) _ _ s;refine thn (pe_str pins s σ H (fun y H1=>y=.str x/\H1=H) I ⟨rfl,rfl⟩) fun u s1 zh=>?_;refine zc2d zh fun y H1 I1 r1 e1 e2=>?_;subst e1 e2;obtain⟨t1,rfl⟩:=r1;refine⟨x,t1,rfl,by rw[strLen_append,z0,sizeLine_eq];omega,?_⟩;show wpAny _ _ (eval (.FormattedValue v (-1) none p2) X.env) _ _ s1;refine wpAny_FormattedValue_plain (thn (hv pins s1 σ H1 _ I1 h) fun u s2 zh=>?_);refine zc2c zh fun y H2 I2 r2 zz=>zc1c zz fun a e1 ha q=>?_;subst e1;obtain⟨t2,rfl⟩:=r2;have lg:=log2_small ha;have ln:=int_text_length_le (a:=a) (k:=20) (by decide) lg;have lx:(Str.empty++x++Str.ofString (toString a)).length<=sizeLine:=by rw[strLen_append,strLen_append,z0,PySem.ofString_length,sizeLine_eq];omega
 refine wpAny_formatField_int (by omega) ⟨_,_,rfl,lx,lx,?_⟩;exact⟨.str (Str.empty++x++Str.ofString (toString a)),H2,I2.tok _,⟨_,rfl⟩,q⟩
structure Exc (K:W.Frag)(mg:Str->Option Value)(c:Str)(C:Addr):Prop where
 ns:W.nsIn K mainGlobals c=some (some (.ref C))
 mgc:mg c=some (.ref C)
 exc:W.excIn K C [.type "ValueError",.type "Exception",.type "BaseException",.type "object"] "ValueError.__new__" = true
noncomputable def ExcP (m:List Value)(l:List (Option Value))(g:Addr->List Value->Option Value->Option Value->Option Value->Option Value->String->Option Value->Bool):Prop :=
 ∃C bm k0 k1 k2 k3 n k5,m=.ref C::bm/\l=[k0,k1,k2,k3,some (.builtin n),k5]/\g C bm k0 k1 k2 k3 n k5=true
theorem exc_inner {m:List Value}{l:List (Option Value)}{g:Addr->List Value->Option Value->Option Value->Option Value->Option Value->String->Option Value->Bool}
 (q:W.excIn.match_1 (fun _ _=>Bool) m l g (fun _ _=>false)=true):ExcP m l g:=by
 cases m with
 |nil=>exact zqb q
 |cons v bm =>
  cases v with
  |ref C =>
   cases l with
   |nil=>exact zqb q
   |cons k0 l =>
    cases l with
    |nil=>exact zqb q
    |cons k1 l =>
     cases l with
     |nil=>exact zqb q
     |cons k2 l =>
      cases l with
      |nil=>exact zqb q
      |cons k3 l =>
       cases l with
       |nil=>exact zqb q
       |cons k4 l =>
        cases k4 with
        |none=>exact zqb q
        |some u =>
         cases u with
         |builtin n =>
          cases l with
          |nil=>exact zqb q
          |cons k5 l =>
           cases l with
           |nil=>exact⟨_,_,_,_,_,_,_,_,rfl,rfl,q⟩
           |cons _ _=>exact zqb q
         |_=>exact zqb q
  |_=>exact zqb q
theorem kU {K:W.Frag}{h:Heap}{C:Addr}{bmB:List Value}{newId:String}{P:Prop}(KI:K.In h)(q:W.excIn K C bmB newId=true)
 (k:∀bm N nm qn bs hdct sn sub ab col dd k0 k1 k2 k3 k5 mN,h.get? C=some (excClassObj nm qn C N bs bm hdct sn sub ab col dd k0 k1 k2 k3 k5 newId)->h.Ns N mN->mN "__init__" = none->OwnTail h bmB bm->P):P:=by
 unfold W.excIn at q
 split at q
 ·rename_i dd cd sl ho;obtain⟨C',bm,k0,k1,k2,k3,n,k5,hm,hs,q⟩:=exc_inner q;simp only[Bool.and_eq_true,beq_iff_eq,Bool.not_eq_true'] at q;obtain⟨⟨⟨⟨⟨z1,z2⟩,hdel⟩,ht⟩,hok⟩,hni⟩:=q;subst z1 z2;have hc:=KI _ _ ho;obtain⟨nm,bs,mro,ns,qn,hd,sn,sub,ab,col,del⟩:=cd;dsimp only at hm hdel hok hni hc;subst hm hdel;have hsl:sl = #[k0,k1,k2,k3,some (.builtin n),k5]:=by
   obtain⟨l⟩:=sl;exact Zt Array.mk hs
  subst hsl;exact k bm ns nm qn bs hd sn sub ab col dd k0 k1 k2 k3 k5 _ hc (.of_isNs (W.isNs_of_in KI hok)) (W.nsMap_none_of_in KI hok hni) (W.tail_of_in KI ht)
 ·exact zqb q
noncomputable def tRaise (C:Addr)(E:XK)(t:TA):TS:=fun _ σ H=>t σ H fun vs H1=>vs.length<=1000/\E (.ref C) none H1
theorem ps_raise {E:XK}{c:Str}{C:Addr}(R:Raises X E)(ex:Exc X.K X.mg c C)(hc:X.calm=true)(hg:Gl X c)(ha:PA X [e] t)(hd:autoParam ((c == ("__debug__" : Str))=false) zav._auto_1)
 (he:autoParam (starEach [e] X.env=(false,eval e X.env)::starEach [] X.env) zau._auto_1):PS X (.Raise (some (.Call (.Name c np) [e] [] cpos)) none pos) (tRaise C E t):=by
 intro pins s σ H D I h;refine kU (h:=X.base) I.mod.kin ex.exc fun tl N nm q bs hdct sn sub ab col dd k0 k1 k2 k3 k5 mN hC hN hni T=>?_;refine wpAny_Raise_call_subU (C:=C) (nm:=nm) (q:=q) (N:=N) (bs:=bs) (bm:=tl) (hdct:=hdct) (sn:=sn) (sub:=sub) (ab:=ab) (col:=col) (dd:=dd) (k0:=k0) (k1:=k1) (k2:=k2) (k3:=k3) (k5:=k5)
  PySem.F.excBase_ValueError (by decide +kernel) PySem.F.excBase_ValueError (mN:=mN) (T.hasType PySem.F.excBase_ValueError.hasBase) (I.ok.hd hc) (by rw[he];rfl) hni (rV I hg ex.mgc ⟨rfl,?_⟩ hd)
 have hA:=ha cpos pins s σ H _ I h;rw[he] at hA ⊢;refine Calls.evalArgs_plain (Zc hA (fun vs s2 ⟨ws,H2,I2,r2,hl,hE⟩=>?_) fun _ _ y=>y);have lw:=r2.length;refine⟨rfl,wN (by show vs.length<=1000;omega),I2.bk _ _ hC,hN.keeps I2.bk,T.keeps I2.bk,fun h' x hx=>R.new pins σ H2 s2 h' x C _ I2 hx hE⟩
end
end L2
namespace L2.DL
noncomputable def fY (x:Str):D->Option D
 | .int a=>if Nat.ble a.natAbs 999999=true then some (.str (Str.empty++x++Str.ofString (toString a))) else none
 |_=>none
theorem gFmt_int {x:Str}{a:Int}(h0 : -999999<=a)(h1:a<=999999):∃z,fY x (.int a)=some (.str z):=⟨_,Zd (Nat.ble_eq.mpr (by omega))⟩
def me (c:Str)(f:FE):FS:=fun sd=>(f sd).bind fun _=>.ex c []
@[simp] theorem ev_raise (c:Str)(f:FE)(sd:SD):me c f sd=(f sd).bind fun _=>.ex c []:=rfl
section
variable {X:Cx}{E:XK}{m:Option Bool}{x:Str}{v e:Expr}{fv fe:FE}{p1 p2 np cpos pos:Pos}{k}
theorem q_fmt (hx:x.length<=1000)(hv:QE X E v fv):QE X E (.JoinedStr [.Constant (.str x) k p1,.FormattedValue v (-1) none p2] pos) (dUn (fY x) fv) :=
 PE.weak (pe_fmt hx hv) fun σ H Q zh=>by
  refine zc3b zh fun B F sd r n=>?_;refine⟨B,F,sd,r,(Res.need_bind n).mono (fun d n1 y F1 H1 e1 i1=>?_) fun _ _ q=>q⟩;refine zc1b (Res.need_ofO n1) fun z hz q=>?_;unfold fY at hz
  split at hz
  ·rename_i a
   split at hz
   ·rename_i hc;obtain rfl:=Zqi hz;exact⟨a,IsD.int_iff.mp i1,by have:=Nat.ble_eq.mp hc;omega,q _ F1 H1 e1 (IsD.str_iff.mpr rfl)⟩
   ·exact zqn hz
  ·exact zqn hz
theorem qs_raise {c:Str}{C:Addr}(R:Raises X E)(ex:Exc X.K X.mg c C)(hc:X.calm=true)(hg:Gl X c)(he:QE X E e fe)(hd:autoParam ((c == ("__debug__" : Str))=false) zav._auto_1)
 (hst:autoParam (starEach [e] X.env=(false,eval e X.env)::starEach [] X.env) zau._auto_1):QS X E m (.Raise (some (.Call (.Name c np) [e] [] cpos)) none pos) (me c fe) :=
 PS.weak (ps_raise R ex hc hg (za he ze hst) hd hst) fun T σ H zh=>by
  refine zc3b zh fun B F sd r n=>?_;have n0:(zc fe zq sd).need (fun ds=>ds.length=1/\XW X.K E B.F0 B.H0 c []) (XW X.K E F H):=by
   unfold me at n;unfold zc zq;cases hf:fe sd with
   |ok d=>rw[hf] at n;exact⟨rfl,n⟩
   |ex c' fs=>rw[hf] at n;exact XW.ext (n:XW X.K E B.F0 B.H0 c' fs) r.ext
   |no=>rw[hf] at n;exact n
  refine⟨B,F,sd,r,n0.mono (fun ds n1 vs F1 H1 e1 i1=>?_) fun _ _ q=>q⟩;have:=i1.length;exact⟨by omega,n1.2 (.ref C) none F1 H1 (r.ext.trans e1) ⟨C,rfl,ex.ns,.inl rfl⟩⟩
end
end L2.DL
namespace L2
noncomputable def rY (X:Cx)(pins:List (Addr×Obj))(σ : St)(E:XK)(e:Value)(s':Shared):Prop :=
 ∃H' h₀ x C B,e=.ref x/\Inv X pins σ H' s'/\(∀b u,X.s₀.heap.get? b=some u->b∉X.ex->∃u',h₀.get? b=some u')/\(∀p∈X.pn++pins,∃u,h₀.get? p.1=some u)/\FlyAt X.stack h₀ H' x C B s'.heap/\E (.ref C) none H'
section
variable {X:Cx}{pins:List (Addr×Obj)}{σ : St}{H:Hp}{s:Shared}{E:XK}
theorem run_fn_here {k:Nat}{f:Addr}{fd:FuncData}{ps:List Str}{sp:Sp}{Q:VK}{us:List Value}{vs:List V}(F:FnOk X.prog X.w X.K X.mg X.base (CXE X.prog X.w) k f fd ps sp)(hr:Room k X.A)(hb:qU X.K fd ps [])
 (I:Inv X pins σ H s) (r:yq vs us) (h:sp vs H Q E):wpAny (model X.prog X.w) X.A (call (.ref f) us) (EP X pins σ Q) (rY X pins σ E) s:=by
 have hl:(us++[]).length=ps.length:=by rw[Zz,<- r.length];exact F.len _ _ _ _ h
 have hbb:=hb s us I.kIn hl;rw[Zz] at hbb;refine wpAny_call (codeAny_mono (F.run X.A X.stack s H ⟨us,[]⟩ us vs Q E hr I.env0 hbb r h) fun r s' hq=>?_);cases r with
 |error e =>
  refine zc4a hq fun H' x C B zz=>yT zz fun h1 os bare un zz=>xm zz fun hok fl hE=>?_;subst h1;exact⟨H',s.heap,x,C,B,rfl,I.call' (s':=s') (ch:=[]) os un hok bare (fun b z=>Zn z (by simp)),fun b u e hx=>I.base.there b u e hx,fun p hp=>⟨_,(I.pin p hp).1⟩,fl,hE⟩
 |ok fl =>
  cases fl with
  |ret u=>exact I.after hq
  |next=>exact False.elim hq
  |brk=>exact False.elim hq
  |cont=>exact False.elim hq
theorem ev_call_here {name:Str}{k:Nat}{ps:List Str}{sp:Sp}{p pos:Pos}{e:Expr}{es:List Expr}{t:TA}{Q:VK}(c:yu X.prog X.w X.K X.mg X.base name k ps sp)(hr:Room k X.A)(hg:Gl X name)(ha:PA X.nox (e::es) t)
 (hdb:(name == ("__debug__" : Str))=false) (he:starEach (e::es) X.env=(false,eval e X.env)::starEach es X.env) (hpl:(backTo pos (starEach es X.env)).any (·.1)=false)
 (I:Inv X pins σ H s) (h:t σ H fun vs H1=>sp vs H1 Q E):wpAny (model X.prog X.w) X.A (eval (.Call (.Name name p) (e::es) [] pos) X.env) (EP X pins σ Q) (rY X pins σ E) s:=by
 refine zc2d c fun f fd F b hk hm=>?_;refine wpAny_Call_Name_kw (rV I hg hm ?_ hdb);refine W.callWith_K (h₀:=X.base) I.ok.mod.kin hk (Zc (ha pos pins s σ H _ (I.wish _) h) (fun us s1 ⟨vs,H1,I1,r,q⟩=>⟨I1.kIn,?_⟩) fun _ _ z=>z.elim) he hpl;exact run_fn_here F hr b I1.unwish r q
theorem Inv.flown {h₀ h' B:Heap}{x C t:Addr}(I:Inv X pins σ H s)(h0:∀b u,X.s₀.heap.get? b=some u->b∉X.ex->∃u',h₀.get? b=some u')(hp:∀p∈X.pn++pins,∃u,h₀.get? p.1=some u)
 (trk:∀b o,s.heap.get? b=some o->(H b≠none\/((∃u,h₀.get? b=some u)/\b∉frs X.stack))->B.get? b=some o) (fl:Heap.FlyingW B X.stack x (.ref C) (.ref t) h') (up:s.heap.UpToSlots h'):Inv X pins σ H { s with heap:=h' }:=by
 have nst:∀b u,X.s₀.heap.get? b=some u->b∉X.fs->b∉frs X.stack:=fun b u e hb z=>by
  rcases List.mem_cons.mp (I.stkSub b z) with q|q
  ·exact Zn (Zk e) (by rw[q];exact Nat.not_lt.mpr I.ok.above)
  ·exact hb q
 have slot:∀b o,X.s₀.heap.get? b=some o->b∈X.fs->b∉X.ex->∃sl,h'.get? b=some { o with slots:=sl }:=fun b o e hb hx=>by
  obtain⟨sl,e1⟩:=I.base.slot b o e (I.ok.frf b hb) hb hx;refine we (I.ok.funs.mem hb) fun _ zz=>zc1b zz fun o' ho' hd=>?_;rw[e] at ho';obtain rfl:=Zqi ho';obtain⟨sl',e2⟩:=up b _ e1 hd;exact⟨sl',e2⟩
 have cell:∀c v,s.heap.IsCell c v->h'.IsCell c v:=fun c v zh=>by
  refine zc1b zh fun o ho hd=>?_;obtain⟨sl,e⟩:=up c o ho fun vs q=>by rw[hd] at q;cases q
  exact⟨_,e,hd⟩
 refine zc1b (id I.loc) fun m hn hl=>?_;refine⟨I.ok,I.os,I.bare,⟨fun b o e n hb hx=>?_,fun b o e n hb hx=>slot b o e hb hx,fun b o e n hx=>I.base.free b o e n hx,fun b o e hx=>?_,I.base.tups,I.base.frzs,I.base.tbls⟩,⟨m,up.ns hn,fun i y v h1 h2 h3=>?_⟩,fun y c e=>?_,I.free,I.freeC,fun p hpp=>?_,fun b u e=>?_,I.len⟩
 ·exact fl.1 b o (trk b o (I.base.keep b o e n hb hx) (.inr ⟨h0 b o e hx,nst b o e hb⟩))
 ·by_cases hb:b∈X.fs
  ·obtain⟨sl,q⟩:=slot b o e hb hx;exact⟨_,q⟩
  ·obtain⟨o',e'⟩:=I.base.there b o e hx;exact⟨o',fl.1 b o' (trk b o' e' (.inr ⟨h0 b o e hx,nst b o e hb⟩))⟩
 ·refine zc1b (hl i y v h1 h2 h3) fun u r l=>?_;refine⟨u,r,?_⟩;rcases l with l|⟨k,c,e,z⟩
  ·exact .inl l
  ·exact .inr ⟨k,c,e,cell c _ z⟩
 ·obtain⟨v,q⟩:=I.cell y c e;exact⟨v,cell c v q⟩
 ·refine yT (I.pin p hpp) fun q1 q2 q3 q4 q5=>?_;refine⟨fl.1 _ _ (trk _ _ q1 (.inr ⟨hp p hpp,fun z=>?_⟩)),q2,q3,q4,q5⟩;rcases List.mem_cons.mp (I.stkSub _ z) with q|q
  ·exact q3 q
  ·exact q4 q
 ·refine(I.hok b u e).stay (fun c v hc q=>fl.1 c v (trk c v q (.inl ?_))) (fun _ q=>q) fun _ _ q=>q;rcases hc with z|z
  ·rw[z,e];simp
  ·rw[z];simp
abbrev Cx.inSuite (X:Cx)(x:Addr):Cx:={ X with A:=X.A.mark (some (.ref x)),calm:=false,xe:=fun _ _=>False }
theorem Inv.suite (I:Inv X pins σ H s)(x:Addr):Inv (X.inSuite x) pins σ H s :=
 ⟨⟨I.ok.mod,I.ok.kind,I.ok.glob,I.ok.blt,I.ok.above,I.ok.inj,I.ok.has,I.ok.cab,(fun z=>by exact zqb z),I.ok.frames,I.ok.stk,I.ok.exf,I.ok.bs,I.ok.bsz,I.ok.noex,I.ok.exfs,I.ok.funs,I.ok.frf⟩,I.os,I.bare,I.base,I.loc,I.cell,I.free,I.freeC,I.pin,I.hok,I.len⟩
theorem Inv.unsuite {x:Addr}(I:Inv (X.inSuite x) pins σ H s)(ok:X.Ok):Inv X pins σ H s:=⟨ok,I.os,I.bare,I.base,I.loc,I.cell,I.free,I.freeC,I.pin,I.hok,I.len⟩
theorem SP.unsuite {x:Addr}{D:Ends}{f:Flow}{s':Shared}(h:SP (X.inSuite x) pins D f s')(ok:X.Ok):SP X pins D f s':=by
 cases f with
 |next=>obtain⟨σ',H',I,q⟩:=h;exact⟨σ',H',I.unsuite ok,q⟩
 |brk=>obtain⟨σ',H',I,q⟩:=h;exact⟨σ',H',I.unsuite ok,q⟩
 |cont=>obtain⟨σ',H',I,q⟩:=h;exact⟨σ',H',I.unsuite ok,q⟩
 |ret u=>obtain⟨v,σ',H',I,r,q⟩:=h;exact⟨v,σ',H',I.unsuite ok,r,q⟩
theorem handled_here {Ex:Value->Shared->Prop}{c:Str}{C:Addr}{b₀:Stmt}{suite:List Stmt}{np hpos:Pos}{ts:TS}{D:Ends}{e:Value}(hst:X.stack=X.env::X.outer)(hfr:X.env.frame=some X.env.locals)(ex:Exc X.K X.mg c C)(hg:Gl X c)
 (hs:∀x,PSs (X.inSuite x) (b₀::suite) ts) (fl:rY X pins σ (fun cv _ H2=>cv=.ref C/\ts D σ H2) e s) (hd:(c == ("__debug__" : Str))=false) :
 wpAny (model X.prog X.w) X.A (noteFrame e X.env) (fun _ s₂=>wpAny (model X.prog X.w) X.A (setFlight e none) (fun _ s₃=>wpAny (model X.prog X.w) X.A (handleBy e X.env [.ExceptHandler (some (.Name c np)) none (b₀::suite) hpos]) (SP X pins D) Ex s₃) Ex s₂) Ex s:=by
 refine zc4a fl fun H' h₀ x C' zz=>zc1a zz fun B zz=>yT zz fun zr5 I h0 hp zz=>xm zz fun zr9 hC' hts=>?_;subst zr5;obtain⟨⟨t,fly⟩,trk⟩:=zr9;cases hC';have fly':=fly;rw[hst] at fly';refine wpAny_looks_onW (I.ok.frames.trans (by rw[hst])) hfr fly' fun h₄ held₄ up₄=>?_;refine wpAny_landsW held₄ fun h₅ fl₅ up₅=>?_;have fl5:=fl₅;rw[<- hst] at fl5;have up5:=up₄.trans up₅;have I5:=I.flown h0 hp trk fl5 up5;refine wpAny_handleBy_cons (codeAny_handlers_test (rV (X:=X.inSuite x) (I5.suite x) hg ex.mgc ?_ hd)) (by intro q;cases q);refine kU (h:=h₅) I5.kIn ex.exc fun tl N nm q bs hdct sn sub ab col dd k0 k1 k2 k3 k5 mN hC hN hni T=>?_;obtain⟨ob,hob,hobc⟩:=fl₅.there;refine wpAny_excMatches_sub_self hC hob hobc (T.hasType PySem.F.excBase_ValueError.hasBase) (codeAny_handlers_suite ?_);refine lands_againW fl₅ fun h₆ fl₆ up₆=>?_;rw[<- hst] at fl₆;have I6:=I.flown h0 hp trk fl₆ (up5.trans up₆);exact Zc (hs x pins _ σ H' D (I6.suite x) hts) (fun f s2 q=>q.unsuite I.ok) fun _ _ z=>z.elim
end
end L2
namespace L2.DL
section
variable {X:Cx}{E:XK}{m:Option Bool}
theorem mW.d {K:W.Frag}{Fn:List D->Res D}{vs:List V}{H:Hp}{Q:VK}{E:XK}(h:eW K Fn vs H Q E):mW K Fn vs H Q E:=by
 refine zc2c h fun F ds h1 h2 n=>?_;exact⟨F,ds,h1,h2,n.mono (fun _ q=>q.new) fun _ _ q=>q⟩
theorem yu.d {P:Program}{w:World}{K:W.Frag}{mg:Str->Option Value}{base:Heap}{name:Str}{k:Nat}{ps:List Str}{Fn:List D->Res D}(c:yu P w K mg base name k ps (mW K Fn)):yu P w K mg base name k ps (eW K Fn):=by
 refine zc2b c fun f fd F r=>?_;exact⟨f,fd,F.imp fun _ _ _ _ h=>mW.d h,r⟩
end
end L2.DL
namespace L2
theorem passes_def {P:Program}{w:World}{K:W.Frag}{mg:Str->Option Value}{base:Heap}{N:List Str}{qual:Str}{scope:Scope}{f:Addr}{cd:Value}{A:Around}{outer:List Env}{s:Shared}{H:Hp}{E:XK} :
 PassesOwn (model (sR (CXE P w) P w K mg base N qual scope f cd A outer s H E).prog (sR (CXE P w) P w K mg base N qual scope f cd A outer s H E).w) (sR (CXE P w) P w K mg base N qual scope f cd A outer s H E).A (sR (CXE P w) P w K mg base N qual scope f cd A outer s H E).env (sR (CXE P w) P w K mg base N qual scope f cd A outer s H E).xe :=
 PassesOwn.leaving (Q₁:=fun e s''=>CXE P w outer H s E e s'')
end L2
namespace L2.DL
theorem for_rule_ex {tg:Tg}{b:FS}{ds:List D}{sd:SD}(R:Res Out->Prop)(P:Nat->SD->Prop)(h0:P 0 sd)(he:∀sd,P ds.length sd->R (.ok (.next sd)))
 (hs:∀(i:Nat) (x:D) (sd:SD),ds[i]? = some x->P i sd->(∃sd',(yW tg x sd).bind b=.ok (.next sd')/\P (i+1) sd')\/∃c es,(yW tg x sd).bind b=.ex c es/\R (.ex c es)):R (lC tg b ds sd):=by
 have key:∀(k i:Nat) (sd:SD),ds.length-i=k->i<=ds.length->P i sd->R (lC tg b (ds.drop i) sd):=by
  intro k
  induction k with
  |zero =>
   intro i sd e hi p;have:i=ds.length:=by omega
   subst this;rw[List.drop_length];exact he sd p
  |succ k ih =>
   intro i sd e hi p;have hlt:i<ds.length:=by omega
   rw[List.drop_eq_getElem_cons hlt];unfold lC jm;rcases hs i ds[i] sd (Zqg hlt) p with ⟨sd',h1,h2⟩|⟨c,es,h1,h2⟩
   ·rw[h1];exact ih (i+1) sd' (by omega) hlt h2
   ·rw[h1];exact h2
 have:=key ds.length 0 sd (by omega) (Nat.zero_le _) h0
 rwa [List.drop_zero] at this
section
variable {X:Cx}{pos:Pos}
noncomputable def gc:D->D->Option D
 | .lst a,.lst b=>if a.length+b.length<=sizeLine then some (.lst (a++b)) else none
 |_,_=>none
theorem o_addL:eZ X (binaryOp .Add) gc:=OpR.weak lO fun x y H Q zh=>by
 refine zc4a zh fun F d e z zz=>yT zz fun sF id ie hz q=>?_;cases d with
 |lst a =>
  cases e with
  |lst b =>
   have hz:(if a.length+b.length<=sizeLine then some (D.lst (a++b)) else none)=some z:=hz
   split at hz
   ·rename_i hl;obtain rfl:=Zqi hz;rw[IsD.lst_iff] at id ie;refine zc2c id fun l xs zr2 h1 h2=>?_;subst zr2;refine zc2c ie fun l' ys zr2 h3 h4=>?_;subst zr2;have l1:=h2.length;have l2:=h4.length;exact⟨l,l',xs,ys,rfl,rfl,h1.same sF,h3.same sF,by omega,fun p hp=>q p F _ (.keep sF hp _) hp (zE sF hp) ⟨_,zo,h2.append h4⟩⟩
   ·exact zqn hz
  |_=>exact zqn hz
 |_=>exact zqn hz
@[simp] theorem gAddL_lst (a b:List D):gc (.lst a) (.lst b)=if a.length+b.length<=sizeLine then some (.lst (a++b)) else none:=rfl
end
end L2.DL
namespace L2
abbrev TB:=Ends->XK->St->Hp->Prop
def PB (X:Cx)(body:List Stmt)(t:TB):Prop :=
 ∀(pins:List (Addr×Obj)) (s:Shared) (σ : St) (H:Hp) (D:Ends) (E:XK),Inv X pins σ H s->t D E σ H->wpAny (model X.prog X.w) X.A (execs body X.env) (SP X pins D) (rY X pins σ E) s
section
variable {X:Cx}
theorem PB.weak {b:List Stmt}{t t':TB}(h:PB X b t)(w:∀D E σ H,t' D E σ H->t D E σ H):PB X b t':=fun pins s σ H D E I q=>h pins s σ H D E I (w _ _ _ _ q)
theorem pb_expr {name:Str}{k:Nat}{ps:List Str}{sp:Sp}{t:TA}{e:Expr}{es:List Expr}{p cpos apos:Pos}
 (cc:yu X.prog X.w X.K X.mg X.base name k ps sp) (hr:Room k X.A) (hg:Gl X name) (ha:PA X.nox (e::es) t)
 (hdb:autoParam ((name == ("__debug__" : Str))=false) zav._auto_1) (he:starEach (e::es) X.env=(false,eval e X.env)::starEach es X.env:=by rfl) (hpl:(backTo cpos (starEach es X.env)).any (·.1)=false:=by rfl)
 (hsw:autoParam (swapsWith (.Call (.Name name p) (e::es) [] cpos) none apos.line X.env=pure false) zau._auto_1) :
 PB X [.Expr (.Call (.Name name p) (e::es) [] cpos) apos] (fun D E σ H=>t σ H fun vs H1=>sp vs H1 (fun _ H2=>D.nx σ H2) E):=by
 intro pins s σ H D E I h;refine wpAny_execs_cons (wpAny_Expr_any (Zc (ev_call_here (Q:=fun _ H2=>D.nx σ H2) (E:=E) cc hr hg ha hdb he hpl I h) (fun v s1 q=>?_) fun e s1 fl=>fl) I.quiet hsw);refine zc2c q fun z H1 I1 r1 q1=>?_;exact wpAny_execs_nil ⟨_,H1,I1,q1⟩
theorem ps_tryB {c:Str}{C:Addr}{body:List Stmt}{tb:TB}{ts:TS}{b₀:Stmt}{suite:List Stmt}{np hpos pos:Pos}(hst:X.stack=X.env::X.outer)(hfr:X.env.frame=some X.env.locals)(hb:PB X body tb)(ex:Exc X.K X.mg c C)(hgc:Gl X c)(hs:∀x,PSs (X.inSuite x) (b₀::suite) ts)
 (hd:autoParam ((c == ("__debug__" : Str))=false) zav._auto_1):PS X (.Try body [.ExceptHandler (some (.Name c np)) none (b₀::suite) hpos] [] [] pos) (fun D σ H=>tb D (fun cv _ H2=>cv=.ref C/\ts D σ H2) σ H):=by
 intro pins s σ H D I h;rw[arm_exec_Try];refine Za (wpAny_standAt (wpAny_tryStmt_except (Zc (hb pins s σ H D _ I h) (fun f s1 q=>?_) fun e s1 fl=>handled_here hst hfr ex hgc hs fl hd)));cases f with
 |next=>exact wpAny_execs_nil q
 |ret v=>exact q
 |brk=>exact q
 |cont=>exact q
end
end L2
namespace L2.DL
def tDB (K:W.Frag)(m:Option Bool)(g:FS):TB:=fun D E σ H=>∃B F sd,RS K B F H sd σ /\ (g sd).need (um K m B F D) (XW K E F H)
abbrev QB (X:Cx)(m:Option Bool)(body:List Stmt)(g:FS):Prop:=PB X body (tDB X.K m g)
def oY (Fn:List D->Res D)(fr:FA):FE:=fun sd=>(fr sd).strict.bind Fn
@[simp] theorem ev_callS (Fn:List D->Res D)(fr:FA)(sd:SD):oY Fn fr sd=(fr sd).strict.bind Fn:=rfl
section
variable {X:Cx}{m:Option Bool}
theorem qb_expr {name:Str}{k:Nat}{ps:List Str}{Fn:List D->Res D}{fr:FA}{e:Expr}{es:List Expr}{p cpos apos:Pos}
 (cc:yu X.prog X.w X.K X.mg X.base name k ps (eW X.K Fn)) (hr:Room k X.A) (hg:Gl X name) (ha:QA X.nox E0 (e::es) fr)
 (hdb:autoParam ((name == ("__debug__" : Str))=false) zav._auto_1) (he:starEach (e::es) X.env=(false,eval e X.env)::starEach es X.env:=by rfl) (hpl:(backTo cpos (starEach es X.env)).any (·.1)=false:=by rfl)
 (hsw:autoParam (swapsWith (.Call (.Name name p) (e::es) [] cpos) none apos.line X.env=pure false) zau._auto_1) :
 QB X m [.Expr (.Call (.Name name p) (e::es) [] cpos) apos] (jQ (oY Fn fr)) :=
 PB.weak (pb_expr cc hr hg ha hdb he hpl hsw) fun T E σ H zh=>by
  refine zc3b zh fun B F sd r n=>?_;refine⟨B,F,sd,r,?_⟩;unfold jQ oY at n;cases hf:fr sd with
  |ex c' fs=>rw[hf] at n;exact n.elim
  |no=>rw[hf] at n;exact n.elim
  |ok ds =>
   rw[hf] at n;have n:((Fn ds).bind fun _=>Res.ok (Out.next sd)).need (um X.K m B F T) (XW X.K E F H):=n;show OkA X.K F H _ ds;intro vs F1 H1 e1 i1;refine⟨F1,ds,e1.fh,i1,?_⟩;cases hq:Fn ds with
   |ok d =>
    rw[hq] at n;exact fun v F2 H2 e2 i2=>n _ F2 H2 (e1.ff.trans e2.ff) ((r.step e1).step e2)
   |no=>rw[hq] at n;exact n.elim
   |ex c' fs =>
    rw[hq] at n;have n:XW X.K E F H c' fs:=n;exact n.ext e1
def gv (c:Str)(gs:FS)(sd:SD):Res Out->Res Out
 | .ok o=>.ok o
 | .ex c' [] => @ite _ (c'=c) (Classical.propDecidable _) (gs sd).strict .no
 |_=>.no
@[simp] theorem tryBK_ex (c:Str)(gs:FS)(sd:SD):gv c gs sd (.ex c [])=(gs sd).strict:=@if_pos _ (Classical.propDecidable _) rfl _ _ _
def jC (c:Str)(g gs:FS):FS:=fun sd=>gv c gs sd (g sd)
@[simp] theorem ev_tryB (c:Str)(g gs:FS)(sd:SD):jC c g gs sd=gv c gs sd (g sd):=rfl
theorem qs_tryB {E:XK}{c:Str}{C:Addr}{body:List Stmt}{g gs:FS}{b₀:Stmt}{suite:List Stmt}{np hpos pos:Pos}(hst:X.stack=X.env::X.outer)(hfr:X.env.frame=some X.env.locals)(hb:QB X m body g)(ex:Exc X.K X.mg c C)(hgc:Gl X c)(hs:∀x,QSs (X.inSuite x) E0 m (b₀::suite) gs)
 (hd:autoParam ((c == ("__debug__" : Str))=false) zav._auto_1):QS X E m (.Try body [.ExceptHandler (some (.Name c np)) none (b₀::suite) hpos] [] [] pos) (jC c g gs) :=
 PS.weak (ps_tryB (ts:=tDS X.K E0 m gs) hst hfr hb ex hgc hs hd) fun T σ H zh=>by
  refine zc3b zh fun B F sd r n=>?_;refine⟨B,F,sd,r,?_⟩;unfold jC at n;cases hq:g sd with
  |ok o=>rw[hq] at n;exact n
  |no=>rw[hq] at n;exact n.elim
  |ex c' fs =>
   rw[hq] at n;cases fs with
   |cons d r=>exact n.elim
   |nil =>
    by_cases hc:c'=c
    ·subst hc;rw[tryBK_ex] at n;rintro cv a F2 H2 e2 ⟨C',h1,h2,_⟩;rw[ex.ns] at h2;cases h2;refine⟨h1,B,F2,sd,r.step e2,?_⟩;exact(Res.need_strict n).mono (fun o (q:um X.K m B F T o)=>q.mono e2.ff) fun _ _ q=>q
    ·have n:(@ite _ (c'=c) (Classical.propDecidable _) (gs sd).strict Res.no).need (um X.K m B F T) (XW X.K E B.F0 B.H0):=n;rw[@if_neg _ (Classical.propDecidable _) hc] at n;exact n.elim
end
end L2.DL
namespace L2
noncomputable def yz (K:W.Frag)(x:Str)(st:Stmt):Prop:=∃f fd,W.nsIn K mainGlobals x=some (some (.ref f))/\Fun K x x st f fd
theorem yz.callee {P:Program}{w:World}{K:W.Frag}{h base:Heap}{mg:Str->Option Value}{x:Str}{st:Stmt}{k:Nat}{ps:List Str}{sp:Sp}(X:K.In h)(G:h.Ns mainGlobals mg)(d:yz K x st)
 (ok:∀{f:Addr} {fd:FuncData},Fun K x x st f fd->FnOk P w K mg base CX0 k f fd ps sp)
 (hb:∀(kV doc pm:Value) (an:Option Addr) (cdv ct:Value) (us:List Value),us.length=ps.length->bindArgs (W.fnOf x x (vE st) (xf st) (zj st) .none kV doc pm an cdv ct) ⟨us,[]⟩=pure (ps.zip us)):zA P w K mg base x k ps sp:=by
 refine zc2b d fun f fd a F=>?_;exact⟨f,fd,ok F,F.binds hb,F.kp,W.mg_of X G a⟩
theorem yz.calleeX {P:Program}{w:World}{K:W.Frag}{h base:Heap}{mg:Str->Option Value}{x:Str}{st:Stmt}{k:Nat}{ps:List Str}{sp:Sp}(X:K.In h)(G:h.Ns mainGlobals mg)(d:yz K x st)
 (ok:∀{f:Addr} {fd:FuncData},Fun K x x st f fd->FnOk P w K mg base (CXE P w) k f fd ps sp)
 (hb:∀(kV doc pm:Value) (an:Option Addr) (cdv ct:Value) (us:List Value),us.length=ps.length->bindArgs (W.fnOf x x (vE st) (xf st) (zj st) .none kV doc pm an cdv ct) ⟨us,[]⟩=pure (ps.zip us)):yu P w K mg base x k ps sp:=by
 refine zc2b d fun f fd a F=>?_;exact⟨f,fd,ok F,F.binds hb,F.kp,W.mg_of X G a⟩
open PySem
theorem yS {N P:List Str}{sc:Scope}(a:autoParam (sc.kind=.function) zau._auto_1)(b:autoParam (sc.isCoroutine=false) zau._auto_1)(c:autoParam (sc.isGenerator=false) zau._auto_1)(d:N.Nodup:=by decide +kernel)(e:N.take P.length=P:=by rfl)
 (f:∀x∈P,sc.names.lookup x=some .local\/sc.names.lookup x=some .cell:=by decide +kernel) (g:∀y∈sc.names,y.2 ≠ .free:=by decide +kernel):FnScope N P sc:=⟨a,b,c,d,e,f,g⟩
theorem vJ (N:List Str)(h:N.Nodup:=by decide +kernel):N.Nodup:=h
theorem pgn {X:Cx}{x:Str}{pos:Pos}(i:Nat)(hN:X.N.Nodup)(hi:autoParam (X.N[i]? = some x) zau._auto_1)(hx:Loc X.env.scope x:=by first|exact .inl rfl|exact .inr rfl)(hf:X.fn x=true\/X.env.scope.names.lookup x=some .local:=by first|exact .inl rfl|exact .inr rfl|assumption):PG X (.Name x pos) (rQ i):=zI hN hi hx hf
section
variable {p:List Value->Prop}
theorem us1 (h:∀a,p [a]):∀us:List Value,us.length=1->p us:=fun us e=>by
 obtain⟨a,rfl⟩:=List.length_eq_one_iff.mp e;exact h a
theorem us2 (h:∀a b,p [a,b]):∀us:List Value,us.length=2->p us:=fun us e=>by
 cases us with
 |nil=>exact Zn e (by decide)
 |cons a us=>exact us1 (p:=fun us=>p (a::us)) (fun b=>h a b) us (Nat.succ.inj e)
theorem us3 (h:∀a b c,p [a,b,c]):∀us:List Value,us.length=3->p us:=fun us e=>by
 cases us with
 |nil=>exact Zn e (by decide)
 |cons a us=>exact us2 (p:=fun us=>p (a::us)) (fun b c=>h a b c) us (Nat.succ.inj e)
end
end L2
set_option maxHeartbeats 4000000
namespace My
open PySem L2 L2.DL
@[simp high] theorem gt1 {α : Type}(a0 a1:α)(l:List α):(a0::a1::l)[1]? = some a1:=rfl
@[simp high] theorem se1 {α : Type}(a0 a1 v:α)(l:List α):(a0::a1::l).set 1 v=a0::v::l:=rfl
@[simp high] theorem gt2 {α : Type}(a0 a1 a2:α)(l:List α):(a0::a1::a2::l)[2]? = some a2:=rfl
@[simp high] theorem se2 {α : Type}(a0 a1 a2 v:α)(l:List α):(a0::a1::a2::l).set 2 v=a0::a1::v::l:=rfl
@[simp high] theorem gt3 {α : Type}(a0 a1 a2 a3:α)(l:List α):(a0::a1::a2::a3::l)[3]? = some a3:=rfl
@[simp high] theorem se3 {α : Type}(a0 a1 a2 a3 v:α)(l:List α):(a0::a1::a2::a3::l).set 3 v=a0::a1::a2::v::l:=rfl
@[simp high] theorem gt4 {α : Type}(a0 a1 a2 a3 a4:α)(l:List α):(a0::a1::a2::a3::a4::l)[4]? = some a4:=rfl
@[simp high] theorem se4 {α : Type}(a0 a1 a2 a3 a4 v:α)(l:List α):(a0::a1::a2::a3::a4::l).set 4 v=a0::a1::a2::a3::v::l:=rfl
@[simp high] theorem gt5 {α : Type}(a0 a1 a2 a3 a4 a5:α)(l:List α):(a0::a1::a2::a3::a4::a5::l)[5]? = some a5:=rfl
@[simp high] theorem se5 {α : Type}(a0 a1 a2 a3 a4 a5 v:α)(l:List α):(a0::a1::a2::a3::a4::a5::l).set 5 v=a0::a1::a2::a3::a4::v::l:=rfl
@[simp high] theorem gt6 {α : Type}(a0 a1 a2 a3 a4 a5 a6:α)(l:List α):(a0::a1::a2::a3::a4::a5::a6::l)[6]? = some a6:=rfl
@[simp high] theorem se6 {α : Type}(a0 a1 a2 a3 a4 a5 a6 v:α)(l:List α):(a0::a1::a2::a3::a4::a5::a6::l).set 6 v=a0::a1::a2::a3::a4::a5::v::l:=rfl
@[simp high] theorem gt7 {α : Type}(a0 a1 a2 a3 a4 a5 a6 a7:α)(l:List α):(a0::a1::a2::a3::a4::a5::a6::a7::l)[7]? = some a7:=rfl
@[simp high] theorem se7 {α : Type}(a0 a1 a2 a3 a4 a5 a6 a7 v:α)(l:List α):(a0::a1::a2::a3::a4::a5::a6::a7::l).set 7 v=a0::a1::a2::a3::a4::a5::a6::v::l:=rfl
@[simp high] theorem gt8 {α : Type}(a0 a1 a2 a3 a4 a5 a6 a7 a8:α)(l:List α):(a0::a1::a2::a3::a4::a5::a6::a7::a8::l)[8]? = some a8:=rfl
@[simp high] theorem se8 {α : Type}(a0 a1 a2 a3 a4 a5 a6 a7 a8 v:α)(l:List α):(a0::a1::a2::a3::a4::a5::a6::a7::a8::l).set 8 v=a0::a1::a2::a3::a4::a5::a6::a7::v::l:=rfl
@[simp high] theorem gt9 {α : Type}(a0 a1 a2 a3 a4 a5 a6 a7 a8 a9:α)(l:List α):(a0::a1::a2::a3::a4::a5::a6::a7::a8::a9::l)[9]? = some a9:=rfl
@[simp high] theorem se9 {α : Type}(a0 a1 a2 a3 a4 a5 a6 a7 a8 a9 v:α)(l:List α):(a0::a1::a2::a3::a4::a5::a6::a7::a8::a9::l).set 9 v=a0::a1::a2::a3::a4::a5::a6::a7::a8::v::l:=rfl
noncomputable def uw (cell salt:Int):Int:=((cell % 2147483647+salt)*48271 % 2147483647)*((cell % 2147483647+salt)*48271 % 2147483647) % 2147483629
noncomputable def wf (ns:List Int)(k:Int):Int:=ns.getD k.toNat 0
noncomputable def sV (hs:List Int)(t:Int):Int:=hs.getD t.toNat 0
def yZ (r:List (Int×Int))(hs:List Int):Int:=rC (r.map fun p=>sV hs p.1+p.2)
theorem qW (r:List (Int×Int)):plN 12 (rwD r)=true:=by
 show(r.map prD).all (plN 11)=true;rw[List.all_map,List.all_eq_true];exact fun p _=>rfl
theorem x6:plN 12 (.lst [])=true:=rfl
theorem nP (r:List (Int×Int)):plN 12 (.lst (r.map prD))=true:=by
 show(r.map prD).all (plN 11)=true;rw[List.all_map,List.all_eq_true];exact fun p _=>rfl
theorem pl_ints (r:List Int):plN 12 (.lst (r.map D.int))=true:=by
 show(r.map D.int).all (plN 11)=true;rw[List.all_map,List.all_eq_true];exact fun p _=>rfl
theorem oi (r:List (List (Int×Int))):plN 12 (.lst (r.map rwD))=true:=by
 show(r.map rwD).all (plN 11)=true;rw[List.all_map,List.all_eq_true];intro x _;show(x.map prD).all (plN 10)=true;rw[List.all_map,List.all_eq_true];exact fun p _=>rfl
theorem zX {α : Type}(f:α -> D)(l:List α):y7 (.lst (l.map f)) (.lst [])=l.isEmpty:=by
 cases l with
 |nil=>exact zM _
 |cons x r=>exact wb.mpr fun h=>by injection h with h;(first|exact zqn h|exact zqb h|(obtain rfl:=Zqi h)|cases h)
theorem kD {r s:List (Int×Int)}(h:rwD r=rwD s):r=s:=by
 have:=Zt v6 h;rw[ux,ux] at this;exact Zqi this
theorem mw (r s:List (Int×Int)):y7 (rwD r) (rwD s)=decide (r=s):=by
 by_cases h:r=s
 ·rw[h,zM,Zp rfl]
 ·rw[Zo h];exact wb.mpr fun z=>h (kD z)
theorem rO {α : Type}{l:List α}{k:Nat}(h:k<l.length):atI l (k:Int)=l[k]? := by
 unfold atI ixN;rw[Zd (by omega),Zd (by omega),Int.toNat_natCast];rfl
theorem maxI_snoc {l:List Int}(h:l ≠ [])(x:Int):rC (l++[x])=if rC l<x then x else rC l:=by
 obtain⟨h1,h2⟩:=xC h;refine(lU ?_ fun y hy=>?_).symm
 ·split
  ·exact List.mem_append_right _ Zqs
  ·exact List.mem_append_left _ h1
 ·rcases List.mem_append.mp hy with q|q
  ·have:=h2 y q
   split<;>omega
  ·rw[List.mem_singleton.mp q]
   split<;>omega
theorem maxI_one (x:Int):rC [x]=x:=rfl
theorem rS {hs:List Int}{t:Int}(h0:0<=t)(h1:t<(hs.length:Int)):atI (hs.map D.int) t=some (.int (sV hs t)):=by
 have e:ixN hs.length t=some t.toNat:=by unfold ixN;rw[Zd h0,Zd h1]
 have hl:t.toNat<hs.length:=by omega
 unfold atI sV;rw[Zql,e];show(hs.map D.int)[t.toNat]? = _;rw[Zv,Zqg hl,List.getD_eq_getElem?_getD,Zqg hl];rfl
theorem xw {α : Type}{f:α -> D}{l:List α}{i:Nat}{x:D}(h:(l.map f)[i]? = some x):∃p,l[i]? = some p/\x=f p:=by
 rw[Zv] at h;cases q:l[i]? with
 |none=>rw[q] at h;(first|exact zqn h|exact zqb h|(obtain rfl:=Zqi h)|cases h)
 |some p=>rw[q] at h;exact⟨p,rfl,(Zqi h).symm⟩
noncomputable def mQ (m:Int):Nat->Int
 | 0=>m
 |i+1=>mQ m i / 2
def qh (m:Int)(w:Nat->Int):Nat->List (Int×Int)
 | 0=>[]
 |i+1=>if mQ m i % 2=1 then qh m w i++[((i:Int),w i)] else qh m w i
theorem vA (m:Int)(w:Nat->Int):∀(i:Nat) (p:Int×Int),p∈qh m w i->0<=p.1/\p.1<(i:Int)
 | 0,p,h=>by first|exact zqn h|exact zqb h|(obtain rfl:=Zqi h)|cases h
 |i+1,p,h=>by
  unfold qh at h
  split at h
  ·rcases List.mem_append.mp h with q|q
   ·have z:=vA m w i p q;omega
   ·have e:=List.mem_singleton.mp q;subst e;show(0:Int)<=(i:Int)/\(i:Int)<((i+1:Nat):Int);omega
  ·have z:=vA m w i p h;omega
theorem rW (m:Int)(w:Nat->Int):∀i:Nat,(qh m w i).length<=i
 | 0=>Zf _
 |i+1=>by
  have z:=rW m w i;unfold qh
  split
  ·rw[List.length_append,List.length_singleton];omega
  ·omega
theorem pe (m:Int)(w:Nat->Int):∀i:Nat,yy (qh m w i)
 | 0=>List.nodup_nil
 |i+1=>by
  have ih:=pe m w i;unfold qh
  split
  ·exact pO ih fun p hp=>(vA m w i p hp).2
  ·exact ih
structure RowOk (n:Int)(r:List (Int×Int)):Prop where
 ne:r ≠ []
 once:yy r
 mem:∀p∈r,0<=p.1/\p.1<n
 len:r.length<=12
def gK (m:Int)(w:Nat->Int)(c wl n:Int):List (Int×Int):=if qh m w n.toNat=[] then[(c % n,wl)] else qh m w n.toNat
theorem rowG_ok {m:Int}{w:Nat->Int}{c wl n:Int}(h1:1<=n)(h2:n<=12):RowOk n (gK m w c wl n):=by
 unfold gK
 split
 ·refine⟨by simp,by unfold yy;simp,fun p h=>?_,Nat.le_of_ble_eq_true rfl⟩;have e:=List.mem_singleton.mp h;subst e;exact⟨Int.emod_nonneg _ (by omega),Int.emod_lt_of_pos _ (by omega)⟩
 ·rename_i h;have hl:=rW m w n.toNat;refine⟨h,pe m w _,fun p hp=>?_,by omega⟩;have:=vA m w _ p hp;omega
def wc (r:List (Int×Int))(f:Nat->Option Int->Option Int)(i:Nat):List (Int×Int):=match f i (zk r i) with
 |some w=>[((i:Int),w)]
 |none=>[]
def wa (r:List (Int×Int))(f:Nat->Option Int->Option Int):Nat->List (Int×Int)
 | 0=>[]
 |i+1=>wa r f i++wc r f i
def wv (r:List (Int×Int))(f:Nat->Option Int->Option Int)(n:Int):List (Int×Int):=if wa r f n.toNat=[] then r else wa r f n.toNat
theorem xt (r:List (Int×Int))(f:Nat->Option Int->Option Int)(i:Nat):wc r f i=[]\/∃w,wc r f i=[((i:Int),w)]:=by
 unfold wc;cases f i (zk r i) with
 |some w=>exact .inr ⟨_,rfl⟩
 |none=>exact .inl rfl
theorem v7 (r:List (Int×Int))(f:Nat->Option Int->Option Int):∀(i:Nat) (p:Int×Int),p∈wa r f i->0<=p.1/\p.1<(i:Int)
 | 0,p,h=>by first|exact zqn h|exact zqb h|(obtain rfl:=Zqi h)|cases h
 |i+1,p,h=>by
  unfold wa at h;rcases List.mem_append.mp h with q|q
  ·have z:=v7 r f i p q;omega
  ·rcases xt r f i with e|⟨w,e⟩
   ·rw[e] at q;(first|exact zqn q|exact zqb q|(obtain rfl:=Zqi q)|cases q)
   ·rw[e] at q;have e:=List.mem_singleton.mp q;subst e;show(0:Int)<=(i:Int)/\(i:Int)<((i+1:Nat):Int);omega
theorem sM (r:List (Int×Int))(f:Nat->Option Int->Option Int):∀i:Nat,yy (wa r f i)
 | 0=>List.nodup_nil
 |i+1=>by
  have ih:=sM r f i;unfold wa;rcases xt r f i with e|⟨w,e⟩
  ·rw[e,Zz];exact ih
  ·rw[e];exact pO ih fun p hp=>(v7 r f i p hp).2
theorem tP (r:List (Int×Int))(f:Nat->Option Int->Option Int):∀i:Nat,(wa r f i).length<=i
 | 0=>Zf _
 |i+1=>by
  have ih:=tP r f i;unfold wa;rw[List.length_append];rcases xt r f i with e|⟨w,e⟩<;>rw[e]<;>simp<;>omega
theorem variedG_ok {r:List (Int×Int)}{f:Nat->Option Int->Option Int}{n:Int}(h:RowOk n r)(h1:0<=n)(h2:n<=12):RowOk n (wv r f n):=by
 unfold wv
 split
 ·exact h
 ·rename_i q;have hl:=tP r f n.toNat;refine⟨q,sM r f _,fun p hp=>?_,by omega⟩;have:=v7 r f _ p hp;omega
theorem gIn_rows (neg:Bool)(r:List (Int×Int))(ls:List (List (Int×Int))):gIn neg (rwD r) (.lst (ls.map rwD))=some (.bl (if neg then !decide (r∈ls) else decide (r∈ls))):=by
 have ha:(ls.map rwD).all (plN 12)=true:=by
  rw[List.all_map,List.all_eq_true];exact fun x _=>qW x
 have e:(ls.map rwD).any (fun e=>y7 e (rwD r))=decide (r∈ls):=by
  rw[List.any_map];by_cases h:r∈ls
  ·rw[Zp h];exact List.any_eq_true.mpr ⟨r,h,by show y7 (rwD r) (rwD r)=true;exact zM _⟩
  ·rw[Zo h];refine List.any_eq_false.mpr fun x hx=>?_;show ¬y7 (rwD x) (rwD r)=true;rw[mw,decide_eq_true_iff];exact fun z=>h (z ▸ hx)
 show(if plN 12 (rwD r)&&(ls.map rwD).all (plN 12) then some (D.bl (if neg then !(ls.map rwD).any (fun e=>y7 e (rwD r)) else(ls.map rwD).any fun e=>y7 e (rwD r))) else none)=_;rw[qW,ha,e];rfl
theorem wG {ls:List (List (Int×Int))}(h:∀r∈ls,r ≠ [])(hl:ls.length<1000):xi [.lst (ls.map rwD)]=some (.lst ((zQ y8 ls).map rwD)):=by
 show(xo v6 (ls.map rwD)).bind _=_;rw[xE];exact Zd ⟨h,hl⟩
def frD (f:List (List (Int×Int))):D:=.lst (f.map rwD)
theorem frD_inj {f g:List (List (Int×Int))}(h:frD f=frD g):f=g:=by
 unfold frD at h;injection h with h
 have:=Zt (xo v6) h;rw[xE,xE] at this;exact Zqi this
theorem qI (f g:List (List (Int×Int))):y7 (frD f) (frD g)=decide (f=g):=by
 by_cases h:f=g
 ·rw[h,zM,Zp rfl]
 ·rw[Zo h];exact wb.mpr fun z=>h (frD_inj z)
def vO (all:List (List (Int×Int)))(row:List (Int×Int)):Bool:=(all.filter fun one => !decide (one=row)&&zl one row).isEmpty
def xu (all least:List (List (Int×Int)))(row:List (Int×Int)):List (List (Int×Int)):=if vO all row=true/\row∉least then least++[row] else least
def zZ (all rs:List (List (Int×Int))):List (List (Int×Int)):=rs.foldl (xu all) []
def yi (rs:List (List (Int×Int))):List (List (Int×Int)):=zQ y8 (zZ rs rs)
theorem yB (all:List (List (Int×Int))):∀(rs least:List (List (Int×Int))),(rs.foldl (xu all) least).length<=least.length+rs.length/\(∀r,r∈rs.foldl (xu all) least↔r∈least\/(r∈rs/\vO all r=true))/\(least.Nodup->(rs.foldl (xu all) least).Nodup)
 | [],least=>⟨Zf _,fun r=>by simp,id⟩
 |row::rs,least=>by
  rw[List.foldl_cons];refine xm (yB all rs (xu all least row)) fun h1 h2 h3=>?_;unfold xu at h1 h2 h3 ⊢;by_cases c:vO all row=true/\row∉least
  ·rw[Zd c] at h1 h2 h3 ⊢;refine⟨by rw[List.length_append] at h1;simp only[Zu,ZB] at h1 ⊢;omega,fun r=>?_,fun hn=>h3 ?_⟩
   ·rw[h2,List.mem_append,List.mem_singleton,List.mem_cons];constructor
    ·rintro((h|h)|⟨h,hq⟩)
     ·exact .inl h
     ·exact .inr ⟨.inl h,h ▸ c.1⟩
     ·exact .inr ⟨.inr h,hq⟩
    ·rintro(h|⟨h|h,hq⟩)
     ·exact .inl (.inl h)
     ·exact .inl (.inr h)
     ·exact .inr ⟨h,hq⟩
   ·rw[List.nodup_append];exact⟨hn,by simp,fun a ha b hb=>by rw[List.mem_singleton] at hb;subst hb;exact fun z=>c.2 (z ▸ ha)⟩
  ·rw[Ze c] at h1 h2 h3 ⊢;refine⟨by rw[Zu];omega,fun r=>?_,h3⟩;rw[h2,List.mem_cons];constructor
   ·rintro(h|⟨h,hq⟩)
    ·exact .inl h
    ·exact .inr ⟨.inr h,hq⟩
   ·rintro(h|⟨h|h,hq⟩)
    ·exact .inl h
    ·by_cases hm:row∈least
     ·exact .inl (h ▸ hm)
     ·exact Zn ⟨h ▸ hq,hm⟩ c
    ·exact .inr ⟨h,hq⟩
theorem zt {rs:List (List (Int×Int))}{r:List (Int×Int)}:r∈yi rs↔r∈rs/\vO rs r=true:=by
 unfold yi zZ;rw[(zm (ltb:=y8) _).mem_iff,(yB rs rs []).2.1];simp
theorem vk (rs:List (List (Int×Int))):(yi rs).length<=rs.length:=by
 unfold yi zZ;rw[(zm (ltb:=y8) _).length_eq];have:=(yB rs rs []).1;simpa using this
def yP (f:List (List (Int×Int)))(hs:List Int):Int:=jz (f.map fun r=>yZ r hs)
theorem set_last {α : Type}(l:List α)(x y:α):(l++[x]).set l.length y=l++[y]:=by
 induction l with
 |nil=>rfl
 |cons a l ih=>show a::(l++[x]).set l.length y=_;rw[ih];rfl
theorem at_last {α : Type}(l:List α)(x:α):atI (l++[x]) (l.length:Int)=some x:=by
 rw[rO (by simp)];simp
theorem ix_last {α : Type}(l:List α)(x:α):ixN (l++[x]).length (l.length:Int)=some l.length:=by
 unfold ixN;rw[Zd (by omega),Zd (by rw[List.length_append,List.length_singleton];omega),Int.toNat_natCast]
noncomputable def mJ (n:Int)(k:Nat)(t:List (List (Int×Int))):List (List (Int×Int)):=if t=[] then[[((k:Int) % n,0)]] else t
def x9 (n many:Int)(rs:List (List (Int×Int)))(i:Nat):List (List (List (Int×Int))):=(List.range i).map fun k=>mJ n k (yi (yc rs (some (k:Int)) none (some many)))
@[simp] theorem gList_fr (f:List (List (Int×Int))):kb [frD f]=some (frD f):=rfl
@[simp] theorem walkS_fr (f:List (List (Int×Int))):oA (frD f)=some (f.map rwD):=rfl
@[simp] theorem walkS_rw (r:List (Int×Int)):oA (rwD r)=some (r.map prD):=rfl
@[simp] theorem gLen_fr (f:List (List (Int×Int))):o4 [frD f]=some (.int f.length):=by show some (D.int (f.map rwD).length)=_;rw[Zql]
@[simp] theorem isi_fr_list (f:List (List (Int×Int))):mV [frD f,.ty "list"]=some (.bl true):=rfl
@[simp] theorem isi_rw_tuple (f:List (Int×Int)):mV [rwD f,.ty "tuple"]=some (.bl true):=rfl
@[simp] theorem isi_pr_tuple (p:Int×Int):mV [prD p,.ty "tuple"]=some (.bl true):=rfl
@[simp] theorem gLen_pr (p:Int×Int):o4 [prD p]=some (.int 2):=rfl
@[simp] theorem gIx_pr0 (p:Int×Int):gIx (prD p) (.int 0)=some (.int p.1):=rfl
@[simp] theorem gIx_pr1 (p:Int×Int):gIx (prD p) (.int 1)=some (.int p.2):=rfl
theorem pl_rw (n:Nat)(r:List (Int×Int)):plN (n+3) (rwD r)=true:=by
 show(r.map prD).all (plN (n+2))=true;rw[List.all_map,List.all_eq_true];exact fun p _=>rfl
theorem mL (n:Nat)(f:List (List (Int×Int))):plN (n+4) (frD f)=true:=by
 show(f.map rwD).all (plN (n+3))=true;rw[List.all_map,List.all_eq_true];exact fun r _=>pl_rw n r
theorem gEq_fr (f g:List (List (Int×Int))):gEq (frD f) (frD g)=some (.bl (decide (f=g))):=by rw[wj (mL 8 f) (mL 8 g),qI]
theorem gNe_fr (f g:List (List (Int×Int))):gNe (frD f) (frD g)=some (.bl (!decide (f=g))):=by rw[uO (mL 8 f) (mL 8 g),qI]
theorem gEq_fr0 (f:List (List (Int×Int))):gEq (frD f) (.lst [])=some (.bl f.isEmpty):=by
 rw[wj (mL 8 f) x6];exact Zt _ (Zt _ (zX rwD f))
structure FormOk (n:Int)(f:List (List (Int×Int))):Prop where
 ne:f ≠ []
 rows:∀r∈f,RowOk n r
 len:f.length<=100
noncomputable def wg (r:List (Int×Int)):Prop:=(r.map (·.1)).Pairwise (· < ·)
theorem rZ:wg []:=List.Pairwise.nil
theorem nW (p:Int×Int):wg [p]:=List.pairwise_singleton _ _
theorem qv {r:List (Int×Int)}{t w:Int}(h:wg r)(hm:∀p∈r,p.1<t):wg (r++[(t,w)]):=by
 unfold wg at *;rw[List.map_append,List.pairwise_append];refine⟨h,List.pairwise_singleton _ _,fun a ha b hb=>?_⟩;refine zc1b (List.mem_map.mp ha) fun p hp zr2=>?_;subst zr2;have:b=t:=by simpa using hb
 rw[this];exact hm p hp
theorem pK (m:Int)(w:Nat->Int):∀i:Nat,wg (qh m w i)
 | 0=>rZ
 |i+1=>by
  have ih:=pK m w i;unfold qh
  split
  ·exact qv ih fun p hp=>(vA m w i p hp).2
  ·exact ih
theorem rowG_rise (m:Int)(w:Nat->Int)(c wl n:Int):wg (gK m w c wl n):=by
 unfold gK
 split
 ·exact nW _
 ·exact pK m w _
theorem s0 (r:List (Int×Int))(f:Nat->Option Int->Option Int):∀i:Nat,wg (wa r f i)
 | 0=>rZ
 |i+1=>by
  have ih:=s0 r f i;unfold wa;rcases xt r f i with e|⟨w,e⟩
  ·rw[e,Zz];exact ih
  ·rw[e];exact qv ih fun p hp=>(v7 r f i p hp).2
theorem variedG_rise {r:List (Int×Int)}{f:Nat->Option Int->Option Int}{n:Int}(h:wg r):wg (wv r f n):=by
 unfold wv
 split
 ·exact h
 ·exact s0 r f _
theorem mq {r:List (Int×Int)}(h:wg r):r.Pairwise fun x y=>wp x y=true:=by
 unfold wg at h;rw[List.pairwise_map] at h;refine h.imp fun {a b} z=>?_;unfold wp;simp;omega
theorem yk {r o:List (Int×Int)}:zl r o=true↔∀p∈r,∃w,zk o p.1=some w/\p.2<=w:=by
 unfold zl;rw[List.all_eq_true];refine forall_congr' fun p=>forall_congr' fun _=>?_;unfold pT;cases zk o p.1 with
 |none=>simp
 |some w=>simp
theorem zB {a b c:List (Int×Int)}(h1:zl a b=true)(h2:zl b c=true):zl a c=true:=by
 rw[yk] at *;intro p hp;refine zc1b (h1 p hp) fun w h3 h4=>?_;refine zc1b (h2 _ (zv h3)) fun v h5 h6=>?_;exact⟨v,h5,Int.le_trans h4 h6⟩
theorem pz {a b:List (Int×Int)}(oa:yy a)(h1:zl a b=true)(h2:zl b a=true):∀p∈a,p∈b:=by
 rw[yk] at *;intro p hp;refine zc1b (h1 p hp) fun w h3 h4=>?_;have hb:=zv h3;refine zc1b (h2 _ hb) fun v h5 h6=>?_;have h5:zk a p.1=some v:=h5;rw[oa.look (t:=p.1) (w:=p.2) hp] at h5
 first|exact zqn h5|exact zqb h5|(obtain rfl:=Zqi h5)|cases h5
 have h6:w<=p.2:=h6;have:w=p.2:=by omega
 rw[this] at hb;exact hb
theorem vN {a b:List (Int×Int)}(oa:yy a)(ob:yy b)(ra:wg a)(rb:wg b)(h1:zl a b=true)(h2:zl b a=true):a=b :=
 yL x3 (mq ra) (mq rb) fun p=>⟨pz oa h1 h2 p,pz ob h2 h1 p⟩
theorem nB:∀{rs:List (List (Int×Int))},rs ≠ []->(∀r∈rs,yy r/\wg r)->∃m∈rs,∀o∈rs,zl o m=true->o=m
 | [],h,_=>Zn rfl h
 |x::rs,_,ok=>by
  by_cases q:rs=[]
  ·subst q;exact⟨x,Zqs,fun o ho _=>List.mem_singleton.mp ho⟩
  ·refine zc1b (nB q fun r hr=>ok r (Zqm _ hr)) fun m hm hl=>?_;have okm:=ok m (Zqm _ hm);have okx:=ok x Zqs;by_cases c:zl x m=true
   ·refine⟨x,Zqs,fun o ho hu=>?_⟩;rcases List.mem_cons.mp ho with e|e
    ·exact e
    ·have e2:=hl o e (zB hu c);subst e2;exact vN okm.1 okx.1 okm.2 okx.2 hu c
   ·refine⟨m,Zqm _ hm,fun o ho hu=>?_⟩;rcases List.mem_cons.mp ho with e|e
    ·exact Zn (e ▸ hu) c
    ·exact hl o e hu
theorem xS {rs:List (List (Int×Int))}{m:List (Int×Int)}:vO rs m=true↔∀o∈rs,zl o m=true->o=m:=by
 unfold vO;rw[List.isEmpty_iff,List.filter_eq_nil_iff];refine forall_congr' fun o=>forall_congr' fun _=>?_;by_cases h:o=m
 ·simp[h]
 ·simp[h]
structure Good (n:Int)(f:List (List (Int×Int))):Prop where
 ne:f ≠ []
 rows:∀r∈f,RowOk n r
 rise:∀r∈f,wg r
 len:f.length<=40
 anti:∀r∈f,∀s∈f,zl r s=true->r=s
 srt:f.Pairwise fun a b=>y8 a b=true
theorem thin_good {n:Int}{rs:List (List (Int×Int))}(ok:∀r∈rs,RowOk n r)(ri:∀r∈rs,wg r)(hl:rs.length<=40)(hn:rs ≠ []):Good n (yi rs):=by
 refine⟨fun z=>?_,fun r hr=>ok r (zt.mp hr).1,fun r hr=>ri r (zt.mp hr).1,Zh (vk rs) hl,fun r hr s hs hu=>?_,?_⟩
 ·refine zc1b (nB hn fun r hr=>⟨(ok r hr).once,ri r hr⟩) fun m hm h=>?_;have:m∈yi rs:=zt.mpr ⟨hm,xS.mpr h⟩;rw[z] at this
  first|exact zqn this|exact zqb this|(obtain rfl:=Zqi this)|cases this
 ·exact xS.mp (zt.mp hs).2 r (zt.mp hr).1 hu
 ·have hp:=zm (ltb:=y8) (zZ rs rs);have nd:(zQ y8 (zZ rs rs)).Nodup:=hp.nodup_iff.mpr ((yB rs rs []).2.2 List.nodup_nil);have sd:=xx zL (zZ rs rs);have both:(zQ y8 (zZ rs rs)).Pairwise fun x y=>y8 y x=false/\x≠y:=List.Pairwise.and sd nd;refine both.imp fun {x y} z=>?_;cases q:y8 x y with
  |true=>rfl
  |false=>exact Zn (zL.tot _ _ q z.1) z.2
theorem good_one {n:Int}{r:List (Int×Int)}(ok:RowOk n r)(ri:wg r):Good n [r] :=
 ⟨by simp,fun s hs=>by rw[List.mem_singleton.mp hs];exact ok,fun s hs=>by rw[List.mem_singleton.mp hs];exact ri,by simp,fun s hs t ht _=>by rw[List.mem_singleton.mp hs,List.mem_singleton.mp ht],List.pairwise_singleton _ _⟩
theorem qx {α : Type}(l:List α){k:Int}(h0:0<=k):yc l (some k) none none=l.drop k.toNat:=by
 have e:sliceBounds (some k) none none l.length=(((min k.toNat l.length:Nat):Int),(l.length:Int),1):=by
  obtain⟨j,rfl⟩:=Int.eq_ofNat_of_zero_le h0;unfold sliceBounds;simp only[Option.getD_none];simp;rw[Ze (Int.not_lt.mpr h0)];have e:min (j:Int) (l.length:Int)=((min j l.length:Nat):Int):=by
   rcases Nat.le_total j l.length with h|h
   ·rw[Nat.min_eq_left h,Int.min_eq_left (Int.ofNat_le.mpr h)]
   ·rw[Nat.min_eq_right h,Int.min_eq_right (Int.ofNat_le.mpr h)]
  rw[e];exact Int.max_eq_right (Int.natCast_nonneg _)
 unfold yc;rw[e];show(sliceRange _ _ 1).filterMap _=_;have p:=pick_run l.toArray (min k.toNat l.length) (l.length-min k.toNat l.length);rw[sliceRange_one];have ep:(fun x:Nat=>l[x]?)=fun x:Nat=>l.toArray[x]? := by funext x;simp
 rw[ep,p];simp;by_cases c:k.toNat<=l.length
 ·rw[Nat.min_eq_left c,List.take_of_length_le (by simp)]
 ·rw[Nat.min_eq_right (by omega),List.drop_eq_nil_of_le (Zf _),List.drop_eq_nil_of_le (by omega)];exact List.take_nil
structure ThingsOk (ts:List Int):Prop where
 ne:ts ≠ []
 len:ts.length<=4
 rng:∀t∈ts,0<=t/\t<12
 up:ts.Pairwise (· < ·)
theorem wV {r:List (Int×Int)}(h:wg r):yy r:=by
 unfold wg at h;unfold yy List.Nodup;exact h.imp fun h e=>by omega
theorem once_same {r:List (Int×Int)}(h:yy r){p q:Int×Int}(hp:p∈r)(hq:q∈r)(e:p.1=q.1):p=q:=by
 induction r with
 |nil=>first|exact zqn hp|exact zqb hp|(obtain rfl:=Zqi hp)|cases hp
 |cons a r ih =>
  unfold yy at h;rw[Zl,List.nodup_cons] at h;rcases List.mem_cons.mp hp with z|z
  ·rcases List.mem_cons.mp hq with y|y
   ·rw[z,y]
   ·exact Zn (List.mem_map.mpr ⟨q,y,by rw[<- e,z]⟩) h.1
  ·rcases List.mem_cons.mp hq with y|y
   ·exact Zn (List.mem_map.mpr ⟨p,z,by rw[e,y]⟩) h.1
   ·exact ih h.2 z y
theorem nV {f:List (List (Int×Int))}{hs:List Int}{r:List (Int×Int)}(hr:r∈f):yP f hs<=yZ r hs :=
 (t3 (l:=f.map fun r=>yZ r hs) (fun z=>by rw[List.map_eq_nil_iff] at z;subst z;(first|exact zqn hr|exact zqb hr|(obtain rfl:=Zqi hr)|cases hr))).2 _ (List.mem_map.mpr ⟨r,hr,rfl⟩)
theorem mh {f:List (List (Int×Int))}{hs:List Int}(hf:f ≠ []):∃r∈f,yP f hs=yZ r hs:=by
 refine zc1b (List.mem_map.mp (t3 (l:=f.map fun r=>yZ r hs) (fun z=>hf (List.map_eq_nil_iff.mp z))).1) fun p hp e=>?_;exact⟨p,hp,e.symm⟩
structure Over (f:List (List (Int×Int)))(hs:List Int):Prop where
 ne:f ≠ []
 rne:∀r∈f,r ≠ []
 once:∀r∈f,yy r
 bnd:∀r∈f,∀p∈r,0<=p.1/\p.1<(hs.length:Int)
structure RoundOk (n:Int)(fs:List (List (List (Int×Int)))):Prop where
 len:(fs.length:Int)=n
 low:1<=n
 most:n<=12
 forms:∀f∈fs,FormOk n f
theorem RoundOk.over {n:Int}{fs:List (List (List (Int×Int)))}(R:RoundOk n fs){hs:List Int}(h:hs.length=fs.length):∀f∈fs,Over f hs:=fun f hf=>⟨(R.forms f hf).ne,fun r hr=>((R.forms f hf).rows r hr).ne,fun r hr=>((R.forms f hf).rows r hr).once,fun r hr p hp=>by
 have:=((R.forms f hf).rows r hr).mem p hp;have:=R.len;omega⟩
def rdD (fs:List (List (List (Int×Int)))):D:=.lst (fs.map frD)
@[simp] theorem walkS_rd (fs:List (List (List (Int×Int)))):oA (rdD fs)=some (fs.map frD):=rfl
theorem fB (n:Nat)(fs:List (List (List (Int×Int)))):plN (n+5) (rdD fs)=true:=by
 show(fs.map frD).all (plN (n+4))=true;rw[List.all_map,List.all_eq_true];exact fun f _=>mL n f
open L2.ST
theorem ou:∀{ys xs:List Int},xs.Pairwise (· < ·)->ys.Pairwise (· < ·)->(∀x∈xs,x∈ys)->xs.length<=ys.length/\(xs.length=ys.length->xs=ys)
 | [],xs,_,_,h=>by
  cases xs with
  |nil=>exact⟨Zf _,fun _=>rfl⟩
  |cons x xs=>cases h x Zqs
 |y::ys,[],_,_,_=>⟨Nat.zero_le _,fun e=>by simp at e⟩
 |y::ys,x::xs,hx,hy,h=>by
  rw[List.pairwise_cons] at hx hy;rcases List.mem_cons.mp (h x Zqs) with q|q
  ·subst q;obtain⟨h1,h2⟩:=ou (ys:=ys) hx.2 hy.2 fun z hz=>by
    rcases List.mem_cons.mp (h z (Zqm _ hz)) with w|w
    ·have:=hx.1 z hz;omega
    ·exact w
   refine⟨by rw[Zu,Zu];omega,fun e=>?_⟩;rw[Zu,Zu] at e;rw[h2 (by omega)]
  ·have hyx:=hy.1 x q;obtain⟨h1,_⟩:=ou (ys:=ys) (xs:=x::xs) (List.pairwise_cons.mpr hx) hy.2 fun z hz=>by
    rcases List.mem_cons.mp (h z hz) with w|w
    ·rcases List.mem_cons.mp hz with v|v
     ·omega
     ·have:=hx.1 z v;omega
    ·exact w
   refine⟨by rw[Zu (as:=ys)];omega,fun e=>?_⟩;rw[Zu (as:=ys)] at e;omega
theorem iu:∀{a b:List (Int×Int)},a.map (·.1)=b.map (·.1)->(∀(i:Nat) p q,a[i]? = some p->b[i]? = some q->p.2<=q.2)->a≠b->y8 a b=true
 | [],[],_,_,h=>Zn rfl h
 | [],_::_,e,_,_=>by simp at e
 |_::_,[],e,_,_=>by simp at e
 |p::a,q::b,e,hw,hn=>by
  rw[Zl,Zl] at e;have e1:p.1=q.1:=(List.cons.inj e).1;have e2:=(List.cons.inj e).2;have w0:=hw 0 p q rfl rfl;rw[xj];by_cases z:p=q
  ·rw[Zd z];refine iu e2 (fun i p q hp hq=>hw (i+1) p q hp hq) fun y=>hn (by rw[z,y])
  ·rw[Ze z,yO];refine .inr ⟨e1,?_⟩;rcases Int.lt_or_eq_of_le w0 with y|y
   ·exact y
   ·exact Zn (Prod.ext e1 y) z
theorem under_ll {a b:List (Int×Int)}(ra:wg a)(rb:wg b)(h:zl a b=true)(hn:a≠b):llB a b=true:=by
 have u:=yk.mp h;have ob:=wV rb;obtain⟨h1,h2⟩:=ou ra rb fun x hx=>by
  refine zc1b (List.mem_map.mp hx) fun p hp zr2=>?_;subst zr2;refine zc1b (u p hp) fun w hw _=>?_;exact List.mem_map.mpr ⟨(p.1,w),zv hw,rfl⟩
 rw[Zql,Zql] at h1 h2;rw[wS];rcases Nat.lt_or_eq_of_le h1 with q|q
 ·exact .inl q
 ·have e:=h2 q;refine .inr ⟨q,iu e (fun i p r hp hr=>?_) hn⟩;refine zc1b (u p (List.mem_of_getElem? hp)) fun w hw hle=>?_;have e1:p.1=r.1:=by
   have a1:(a.map (·.1))[i]? = some p.1:=by rw[Zv,hp];rfl
   have a2:(b.map (·.1))[i]? = some r.1:=by rw[Zv,hr];rfl
   rw[e,a2] at a1;exact(Zqi a1).symm
  have:=once_same ob (List.mem_of_getElem? hr) (zv hw) e1.symm;rw[this];exact hle
theorem xb {α : Type}{ltb:α -> α -> Bool}(T:Tot ltb){l:List α}(hn:l.Nodup):(zQ ltb l).Pairwise fun a b=>ltb a b=true:=by
 have hn':(zQ ltb l).Nodup:=(zm (ltb:=ltb) l).nodup_iff.mpr hn;have hs:=xx T l;generalize zQ ltb l=s at hn' hs;unfold Sd at hs;unfold List.Nodup at hn';refine List.Pairwise.imp ?_ (hs.and hn');rintro a b ⟨h1,h2⟩;cases q:ltb a b with
 |true=>rfl
 |false=>exact Zn (T.tot _ _ q h1) h2
def oe (rs:List (List (Int×Int))):List (List (Int×Int)):=zQ llB (zQ y8 (pN rs))
theorem uv {rs:List (List (Int×Int))}{r:List (Int×Int)}:r∈oe rs↔r∈rs:=by
 unfold oe;rw[(zm (ltb:=llB) _).mem_iff,(zm (ltb:=y8) _).mem_iff,rA]
theorem t4 (rs:List (List (Int×Int))):(oe rs).Pairwise fun a b=>llB a b=true:=xb sH ((zm (ltb:=y8) _).nodup_iff.mpr (sZ rs))
theorem nw (rs:List (List (Int×Int))):(oe rs).length<=rs.length:=by
 unfold oe;rw[(zm (ltb:=llB) _).length_eq,(zm (ltb:=y8) _).length_eq];exact nv rs
def gN (kept:List (List (Int×Int)))(r:List (Int×Int)):List (List (Int×Int)):=if kept.any (fun o=>zl o r)=true then kept else kept++[r]
def pZ (rs:List (List (Int×Int))):List (List (Int×Int)):=(oe rs).filter (vO rs)
theorem oW {rs:List (List (Int×Int))}(hr:∀r∈rs,wg r):∀i,i<=(oe rs).length->((oe rs).take i).foldl gN []=((oe rs).take i).filter (vO rs)
 | 0,_=>by simp
 |i+1,hi=>by
  have ih:=oW hr i (by omega);have st:=t4 rs;have hm:∀r,r∈oe rs↔r∈rs:=fun r=>uv;generalize oe rs=L at hi ih st hm;have hlt:i<L.length:=by omega
  rw[ym (Zqg hlt),List.foldl_append,List.filter_append,ih];have bef:∀o∈L.take i,llB o L[i]=true:=fun o ho=>by
   obtain⟨j,hj,rfl⟩:=List.getElem_of_mem ho;rw[List.length_take] at hj;rw[List.getElem_take];exact List.pairwise_iff_getElem.mp st j i (by omega) hlt (by omega)
  have hin:=(hm L[i]).mp (List.getElem_mem hlt);show gN ((L.take i).filter (vO rs)) L[i]=_;unfold gN;cases q:vO rs L[i] with
  |true =>
   have low:=xS.mp q;rw[Ze,List.filter_cons_of_pos q,List.filter_nil];intro z;refine zc1b (List.any_eq_true.mp z) fun o ho hu=>?_;have ho:=(List.mem_filter.mp ho).1;have e:=low o ((hm o).mp (List.mem_of_mem_take ho)) hu;have b:=bef o ho;rw[e] at b;have:=sH.asy _ _ b;rw[b] at this
   first|exact zqn this|exact zqb this|(obtain rfl:=Zqi this)|cases this
  |false =>
   have nl:¬ ∀o∈rs,zl o L[i]=true->o=L[i]:=fun z=>by rw[xS.mpr z] at q;(first|exact zqn q|exact zqb q|(obtain rfl:=Zqi q)|cases q)
   obtain⟨o,ho,hu,hne⟩:∃o∈rs,zl o L[i]=true/\o≠L[i]:=by
    apply Classical.byContradiction;intro z;exact nl fun o ho hu=>Classical.byContradiction fun y=>z ⟨o,ho,hu,y⟩
   obtain⟨mn,hm1,hm2⟩:=nB (rs:=rs.filter fun o=>zl o L[i]) (fun z=>by
    have:o∈rs.filter fun o=>zl o L[i]:=List.mem_filter.mpr ⟨ho,hu⟩;rw[z] at this
    (first|exact zqn this|exact zqb this|(obtain rfl:=Zqi this)|cases this)) fun r h=>⟨wV (hr r (List.mem_filter.mp h).1),hr r (List.mem_filter.mp h).1⟩
   obtain⟨mr,mu⟩:=List.mem_filter.mp hm1;have mlow:vO rs mn=true:=xS.mpr fun x hx hxu=>hm2 x (List.mem_filter.mpr ⟨hx,zB hxu mu⟩) hxu;have mne:mn≠L[i]:=fun z=>hne (by
    have:=hm2 o (List.mem_filter.mpr ⟨ho,hu⟩) (by rw[z];exact hu);rw[this,z])
   have mll:=under_ll (hr mn mr) (hr _ hin) mu mne;have mtake:mn∈L.take i:=by
    obtain⟨j,hj,ej⟩:=List.getElem_of_mem ((hm mn).mpr mr);rcases Nat.lt_trichotomy j i with w|w|w
    ·rw[<- ej,List.mem_take_iff_getElem];exact⟨j,by omega,rfl⟩
    ·subst w;exact Zn ej.symm mne
    ·have b:=List.pairwise_iff_getElem.mp st i j hlt hj w;rw[ej] at b;have:=sH.asy _ _ b;rw[mll] at this
     first|exact zqn this|exact zqb this|(obtain rfl:=Zqi this)|cases this
   rw[Zd (List.any_eq_true.mpr ⟨mn,List.mem_filter.mpr ⟨mtake,mlow⟩,mu⟩),List.filter_cons_of_neg (by rw[q];simp),List.filter_nil,Zz]
theorem ql (rs:List (List (Int×Int))):zQ y8 (pZ rs)=yi rs:=by
 have n1:(pZ rs).Nodup:=by
  have:(oe rs).Nodup:=by
   unfold List.Nodup;refine(t4 rs).imp fun {a b} h e=>?_;subst e;have:=sH.asy _ _ h;rw[h] at this
   first|exact zqn this|exact zqb this|(obtain rfl:=Zqi this)|cases this
  exact List.Pairwise.sublist (List.filter_sublist) this
 have n2:(zZ rs rs).Nodup:=(yB rs rs []).2.2 List.nodup_nil;refine yL zL (xb zL n1) (xb zL n2) fun r=>?_;rw[(zm (ltb:=y8) _).mem_iff];show r∈pZ rs↔r∈yi rs;rw[zt];unfold pZ;rw[List.mem_filter,uv]
structure PairsOk (ts:List Int)(r:List (Int×Int)):Prop where
 ne:r ≠ []
 len:r.length<=4
 mem:∀p∈r,p.1∈ts
 up:r.Pairwise fun p q=>p.1<q.1
theorem up_once {r:List (Int×Int)}(h:r.Pairwise fun p q=>p.1<q.1):yy r:=by
 unfold yy List.Nodup;rw[List.pairwise_map];exact h.imp fun h e=>by omega
theorem PairsOk.row {ts:List Int}{r:List (Int×Int)}(T:ThingsOk ts)(P:PairsOk ts r):RowOk 12 r:=⟨P.ne,up_once P.up,fun p hp=>T.rng _ (P.mem p hp),Zh P.len (by omega)⟩
theorem v0 {rs:List (List (Int×Int))}(ok:∀r∈rs,yy r/\wg r){r:List (Int×Int)}(hr:r∈rs):∃s∈yi rs,zl s r=true:=by
 have rr:zl r r=true:=yk.mpr fun p hp=>⟨p.2,(ok r hr).1.look (t:=p.1) (w:=p.2) hp,Int.le_refl _⟩;have ne:rs.filter (fun o=>zl o r) ≠ []:=fun z=>by
  have:r∈rs.filter fun o=>zl o r:=List.mem_filter.mpr ⟨hr,rr⟩;rw[z] at this
  first|exact zqn this|exact zqb this|(obtain rfl:=Zqi this)|cases this
 refine zc1b (nB ne fun o ho=>ok o (List.mem_filter.mp ho).1) fun m hm h=>?_;obtain⟨hm1,hm2⟩:=List.mem_filter.mp hm;exact⟨m,zt.mpr ⟨hm1,xS.mpr fun o ho hu=>h o (List.mem_filter.mpr ⟨ho,zB hu hm2⟩) hu⟩,hm2⟩
theorem gAdd_fr {f g:List (List (Int×Int))}(h:f.length+g.length<=1000):wU (frD f) (frD g)=some (frD (f++g)):=by
 show(if(f.map rwD).length+(g.map rwD).length<=sizeLine then _ else _)=_;rw[Zql,Zql,Zd (wN h)];unfold frD;rw[List.map_append]
theorem xg (rs:List (List (Int×Int))):(yi rs).Pairwise fun a b=>y8 a b=true:=xb zL ((yB rs rs []).2.2 List.nodup_nil)
structure JRow (r:List (Int×Int)):Prop where
 ne:r ≠ []
 rise:wg r
 bnd:∀p∈r,0<=p.1/\p.1<12
theorem JRow.once {r:List (Int×Int)}(h:JRow r):yy r:=wV h.rise
theorem JRow.len {r:List (Int×Int)}(h:JRow r):r.length<=12:=by
 have up:(r.map (·.1)).Pairwise (· < ·):=h.rise;have key:∀(l:List Int) (a:Int),l.Pairwise (· < ·)->(∀x∈l,a<=x/\x<12)->(l.length:Int)<=max 0 (12-a):=by
  intro l
  induction l with
  |nil=>intro a _ _;simp;omega
  |cons x l ih =>
   intro a hp hb;rw[List.pairwise_cons] at hp;have h1:=hb x Zqs;have:=ih (x+1) hp.2 fun y hy=>⟨by have:=hp.1 y hy;omega,(hb y (Zqm _ hy)).2⟩;rw[Zu];omega
 have:=key _ 0 up fun x hx=>by
  refine zc1b (List.mem_map.mp hx) fun p hp zr2=>?_;subst zr2;exact h.bnd p hp
 rw[Zql] at this;omega
theorem qB {α : Type}:∀{l m:List α},l.Nodup->(∀x∈l,x∈m)->l.length<=m.length
 | [],m,_,_=>Nat.zero_le _
 |x::l,m,h,s=>by
  refine zc2a (List.append_of_mem (s x Zqs)) fun a b zr2=>?_;subst zr2;obtain⟨h1,h2⟩:=List.nodup_cons.mp h;have ih:=qB (l:=l) (m:=a++b) h2 fun y hy=>by
   rcases List.mem_append.mp (s y (Zqm _ hy)) with z|z
   ·exact List.mem_append_left _ z
   ·rcases List.mem_cons.mp z with z|z
    ·rw[z] at hy;exact Zn hy h1
    ·exact List.mem_append_right _ z
  rw[List.length_append] at ih;rw[List.length_append,Zu,Zu];omega
structure Fm (n:Int)(U:List (List (Int×Int)))(f:List (List (Int×Int))):Prop where
 good:Good n f
 sub:∀r∈f,r∈U
theorem good_nodup {n:Int}{f:List (List (Int×Int))}(G:Good n f):f.Nodup:=G.srt.imp fun {a b} h e=>by
 subst e;have:=zL.asy _ _ h;rw[h] at this
 first|exact zqn this|exact zqb this|(obtain rfl:=Zqi this)|cases this
theorem good_thin {n:Int}{f:List (List (Int×Int))}(G:Good n f):yi f=f:=yL zL (xg f) G.srt fun r =>
 ⟨fun h=>(zt.mp h).1,fun h=>zt.mpr ⟨h,xS.mpr fun o ho hu=>G.anti o ho r h hu⟩⟩
theorem Fm.len {n:Int}{U f:List (List (Int×Int))}(F:Fm n U f)(h:U.length<=28):f.length<=28:=Zh (qB (good_nodup F.good) F.sub) h
theorem mv {α : Type}{f:α -> D}(ys:List α)(x:α):gIx (.lst ((ys++[x]).map f)) (.int (-1))=some (f x):=by
 show atI ((ys++[x]).map f) (-1)=_;unfold atI ixN;rw[Ze (by omega),Zd (by rw[Zql,List.length_append,List.length_singleton];omega)];have e:((-1:Int)+(((ys++[x]).map f).length:Int)).toNat=ys.length:=by
  rw[Zql,List.length_append,List.length_singleton];omega
 show((ys++[x]).map f)[_]? = _;rw[e,Zv,List.getElem?_append_right (Zf _),Nat.sub_self];rfl
def gR:FS:=(zV (sIf (zu (dOp gLt (zf 1) (xq o4 (zc (zf 0) zq)))) (xL (dOp gIx (zf 0) (zf 1))) yx) (xL (dC (.int 0))))
def o3:List D->Res D:=ur 2 2 gR
theorem fW (ns:List Int)(k:Nat):o3 [.scr ns,.int k]=.ok (.int (wf ns k)):=by
 unfold wf;rw[Int.toNat_natCast];by_cases h:k<ns.length
 ·have e:atI ns (k:Int)=some ns[k]:=by rw[rO h];exact Zqg h
  have e2:ns.getD k 0=ns[k]:=by rw[List.getD_eq_getElem?_getD,Zqg h];rfl
  rw[e2];simp[o3,gR,h,e]
 ·have e2:ns.getD k 0=0:=by rw[List.getD_eq_getElem?_getD,List.getElem?_eq_none (by omega)];rfl
  rw[e2];simp[o3,gR,h]
def jL:FS:=(zV (xA 2 (dC .non)) (zV (uM (iS (zf 0)) (.tup [3,4]) (sIf (mS (zu (dUn (fA false) (zf 2))) (zu (dOp gGt (dOp wU (dOp gIx (zf 1) (zf 3)) (zf 4)) (zf 2)))) (xA 2 (dOp wU (dOp gIx (zf 1) (zf 3)) (zf 4))) yx)) (xL (zf 2))))
def mE:List D->Res D:=ur 5 2 jL
theorem f_z18 {r:List (Int×Int)}{hs:List Int}(hne:r ≠ [])(hb:∀p∈r,0<=p.1/\p.1<(hs.length:Int)):mE [rwD r,.lst (hs.map .int)]=.ok (.int (yZ r hs)):=by
 simp[mE,jL,rwD];generalize hB:sIf _ _ yx=b;obtain⟨sd',e,u,v,hsd⟩:=yI (tg:=.tup [3,4]) (b:=b) (ds:=r.map prD) (sd:=[some (.val (.tup (r.map prD))),some (.val (.lst (hs.map .int))),some (.val .non),none,none])
  (P:=fun i sd=>∃u v,sd=[some (.val (.tup (r.map prD))),some (.val (.lst (hs.map .int))),some (.val (if i=0 then .non else .int (yZ (r.take i) hs))),u,v]) ⟨none,none,rfl⟩ (by
   rintro i x sd hx ⟨u,v,rfl⟩;refine zc1b (xw hx) fun p hp zr2=>?_;subst zr2;obtain⟨b1,b2⟩:=hb p (List.mem_of_getElem? hp);have ha:=rS b1 b2;have et:r.take (i+1)=r.take i++[p]:=ym hp;subst hB;by_cases q:i=0
   ·subst q;simp[ha,et,yZ,maxI_one]
   ·have hl:(r.take i).map (fun p=>sV hs p.1+p.2) ≠ []:=by
     intro z;have:=Zt List.length z;rw[Zql,List.length_take] at this;have hi:=(List.getElem?_eq_some_iff.mp hp).1;simp only[ZB] at this;omega
    have hm:yZ (r.take (i+1)) hs=if yZ (r.take i) hs<sV hs p.1+p.2 then sV hs p.1+p.2 else yZ (r.take i) hs:=by
     rw[et];unfold yZ;rw[List.map_append];exact maxI_snoc hl _
    by_cases c:yZ (r.take i) hs<sV hs p.1+p.2
    ·rw[Zd c] at hm;simp[q,ha,c,hm]
    ·rw[Ze c] at hm;simp[q,ha,c,hm])
 rw[e];subst hsd;have hn:¬r.length=0:=fun z=>hne (List.length_eq_zero_iff.mp z);simp[hne]
def jJ:FS:=(xL (xq ka (zc (wC [none,some 1] (iS (zf 0)) (.one 0) (zy mE (zc (zf 0) (zc (zf 1) zq)))) zq)))
def sr:List D->Res D:=ur 2 2 jJ
theorem fg {f:List (List (Int×Int))}{hs:List Int}(hf:f ≠ [])(hl:f.length<=1000)(hne:∀r∈f,r ≠ [])(hb:∀r∈f,∀p∈r,0<=p.1/\p.1<(hs.length:Int)):sr [frD f,.lst (hs.map .int)]=.ok (.int (yP f hs)):=by
 have key:kY (.one 0) (zy mE (zc (zf 0) (zc (zf 1) zq))) [none,some (.val (.lst (hs.map .int)))] (f.map rwD)=.ok (f.map fun r=>.int (yZ r hs)):=vQ fun r hr=>by
  simp[f_z18 (hne r hr) (hb r hr)]
 have e:f.map (fun r=>D.int (yZ r hs))=(f.map fun r=>yZ r hs).map .int:=by rw[Zw];rfl
 have hm:=gMinL_ints (ns:=f.map fun r=>yZ r hs) (fun z=>hf (List.map_eq_nil_iff.mp z));rw[<- e] at hm;simp[sr,jJ,frD,key,z9 hl,hm,yP]
def eu:FS:=(zV (xA 2 (dOp tW (dOp fM (dOp wU (dOp tW (zf 0) (dC (.int 2147483647))) (zf 1)) (dC (.int 48271))) (dC (.int 2147483647)))) (xL (dOp tW (dOp fM (zf 2) (zf 2)) (dC (.int 2147483629)))))
def jO:List D->Res D:=ur 3 2 eu
@[simp] theorem f_z9 (c s:Int):jO [.int c,.int s]=.ok (.int (uw c s)):=by
 have h1:uS (c % 2147483647+s) 48271=true:=oP (by omega) (by omega);have h2:uS ((c % 2147483647+s)*48271 % 2147483647) ((c % 2147483647+s)*48271 % 2147483647)=true:=oP (by omega) (by omega);simp[jO,eu,rX h1,rX h2,uw]
def m8:FS:=(zV (xA 2 (zy jO (zc (zf 0) (zc (zf 1) zq)))) (zV (sIf (zu (dOp gGt (dOp tW (zf 2) (dC (.int 4))) (dC (.int 0)))) (xL (dOp gO (dOp tW (dOp uV (zf 2) (dC (.int 4))) (dC (.int 7))) (dC (.int 3)))) yx) (zV (xA 3 (dOp tW (dOp fM (dOp uV (zf 0) (dC (.int 5))) (dOp wU (zf 1) (dC (.int 3)))) (dOp eT (dC (.int 10)) (dC (.int 60))))) (zV (sIf (zu (dOp gEq (dOp tW (dOp uV (zf 2) (dC (.int 28))) (dC (.int 2))) (dC (.int 0)))) (xL (zf 3)) yx) (xL (dUn i9 (zf 3)))))))
def vP:List D->Res D:=ur 4 2 m8
def oX (c s:Int):Int :=
 if 0<uw c s % 4 then uw c s / 4 % 7-3
 else if uw c s / 28 % 2=0 then c / 5*(s+3) % (10:Int) ^ (60:Nat) else -(c / 5*(s+3) % (10:Int) ^ (60:Nat))
theorem jS {c s:Int}(h1 : -1000000<=s)(h2:s<=1000000):vP [.int c,.int s]=.ok (.int (oX c s)):=by
 have h3:uS (c / 5) (s+3)=true:=oP (by omega) (by omega);have h4:eT (.int 10) (.int 60)=some (.int (10 ^ 60)):=rfl;unfold oX;by_cases c1:0<uw c s % 4
 ·simp[vP,m8,c1]
 ·by_cases c2:uw c s / 28 % 2=0
  ·simp[vP,m8,c1,c2,rX h3,h4]
  ·simp[vP,m8,c1,c2,rX h3,h4]
def jB:FS:=(zV (xA 2 (zy jO (zc (zf 0) (zc (dC (.int 7)) zq)))) (zV (pW 3 (uo zq)) (zV (uM (iR1 (zc (zf 1) zq)) (.one 4) (zV (sIf (zu (dOp gEq (dOp tW (zf 2) (dC (.int 2))) (dC (.int 1)))) (yb 3 (mM (zc (zf 4) (zc (zy vP (zc (zf 0) (zc (dOp wU (dC (.int 13)) (zf 4)) zq))) zq)))) yx) (xA 2 (dOp uV (zf 2) (dC (.int 2)))))) (zV (sIf (ow [3] (zu (dOp gEq (zf 3) (uo zq)))) (yb 3 (mM (zc (dOp tW (zf 0) (zf 1)) (zc (zy vP (zc (zf 0) (zc (dC (.int 31)) zq))) zq)))) yx) (fun sd=>(xL (xq uY (zc (zf 3) zq))) (tV [3] sd))))))
def kR:List D->Res D:=ur 5 2 jB
def fy (c n:Int):List (Int×Int):=gK (uw c 7) (fun i=>oX c (13+i)) c (oX c 31) n
theorem f_z12 {c n:Int}(h1:1<=n)(h2:n<=12):kR [.int c,.int n]=.ok (rwD (fy c n)):=by
 have r1:ww [.int n]=.ok (zW 0 n.toNat):=yJ (by omega) (by omega);simp[kR,jB,r1];generalize hb:zV (sIf _ _ _) (xA 2 _)=b;obtain⟨sd',e,u,rfl⟩:=yI (tg:=.one 4) (b:=b) (ds:=zW 0 n.toNat) (sd:=[some (.val (.int c)),some (.val (.int n)),some (.val (.int (uw c 7))),some (.own false (.lst [])),none])
  (P:=fun i sd=>∃u,sd=[some (.val (.int c)),some (.val (.int n)),some (.val (.int (mQ (uw c 7) i))),some (.own false (.lst ((qh (uw c 7) (fun i=>oX c (13+i)) i).map prD))),u]) ⟨none,rfl⟩ (by
   rintro i x sd hx ⟨u,rfl⟩;obtain⟨rfl,hi⟩:=vg hx;have hw:=jS (c:=c) (s:=13+i) (by omega) (by omega);have hl:=rW (uw c 7) (fun i=>oX c (13+i)) i;subst hb;by_cases q:mQ (uw c 7) i % 2=1
   ·simp[q,hw,z9 (show(qh (uw c 7) (fun i=>oX c (13+i)) i).length<=1000 by omega),qh,mQ,prD]
   ·simp[q,qh,mQ])
 rw[e];have hp:=wj (nP (qh (uw c 7) (fun i=>oX c (13+i)) n.toNat)) x6;have hw:=jS (c:=c) (s:=31) (by omega) (by omega);rw[xI];unfold fy gK;by_cases q:qh (uw c 7) (fun i=>oX c (13+i)) n.toNat=[]
 ·simp[q,hw,wj x6 x6,zM,show 0<n by omega,z9 (show 0<=1000 by omega),rwD,prD]
 ·simp[q,hp,zX,rwD]
def jU:FS:=(zV (xA 3 (xq sh (zc (zf 0) zq))) (zV (pW 4 (uo zq)) (zV (uM (iR1 (zc (zf 2) zq)) (.one 5) (zV (xA 6 (zy jO (zc (zf 1) (zc (dOp wU (dC (.int 43)) (zf 5)) zq)))) (zV (sIf (qV (zu (dOp (gIn false) (zf 5) (zf 3))) (zu (dOp gGt (dOp tW (zf 6) (dC (.int 6))) (dC (.int 0))))) (yb 4 (mM (zc (zf 5) (zc (dOp wU (dOp gIx (zf 3) (zf 5)) (dOp gIx (uo (zc (dC (.int 0)) (zc (dC (.int 0)) (zc (dC (.int 1)) (zc (dUn i9 (dC (.int 1))) zq))))) (dOp tW (dOp uV (zf 6) (dC (.int 6))) (dC (.int 4))))) zq)))) yx) (sIf (qV (zu (dOp (gIn true) (zf 5) (zf 3))) (zu (dOp gEq (dOp tW (zf 6) (dC (.int 5))) (dC (.int 0))))) (yb 4 (mM (zc (zf 5) (zc (zy vP (zc (zf 1) (zc (dOp wU (dC (.int 67)) (zf 5)) zq))) zq)))) yx)))) (zV (sIf (ow [4] (zu (dOp gEq (zf 4) (uo zq)))) (xL (zf 0)) yx) (fun sd=>(xL (xq uY (zc (zf 4) zq))) (tV [4] sd))))))
def lV:List D->Res D:=ur 7 3 jU
noncomputable def jM:List Int:=[0,0,1,-1]
def pV (c:Int)(i:Nat):Option Int->Option Int
 |some w=>if 0<uw c (43+i) % 6 then some (w+sV jM (uw c (43+i) / 6 % 4)) else none
 |none=>if uw c (43+i) % 5=0 then some (oX c (67+i)) else none
theorem f_z13 {r:List (Int×Int)}{c n:Int}(o:yy r)(hl:r.length<=100)(h1:0<=n)(h2:n<=12):lV [rwD r,.int c,.int n]=.ok (rwD (wv r (pV c) n)):=by
 have r1:ww [.int n]=.ok (zW 0 n.toNat):=yJ (by omega) (by omega);have hd:=vi hl o;simp[lV,jU,r1,hd];generalize hB:zV (xA 6 _) _=b;obtain⟨sd',e,u,v,hsd⟩:=yI (tg:=.one 5) (b:=b) (ds:=zW 0 n.toNat) (sd:=[some (.val (rwD r)),some (.val (.int c)),some (.val (.int n)),some (.val (dcR r)),some (.own false (.lst [])),none,none])
  (P:=fun i sd=>∃u v,sd=[some (.val (rwD r)),some (.val (.int c)),some (.val (.int n)),some (.val (dcR r)),some (.own false (.lst ((wa r (pV c) i).map prD))),u,v]) ⟨none,none,rfl⟩ (by
   rintro i x sd hx ⟨u,v,rfl⟩;obtain⟨rfl,hi⟩:=vg hx;have hw:=jS (c:=c) (s:=67+i) (by omega) (by omega);have hl:=tP r (pV c) i;have hz:=z9 (show(wa r (pV c) i).length<=1000 by omega);have hv:=v9 o (i:Int);have hm:atI [D.int 0,D.int 0,D.int 1,D.int (-1)] (uw c (43+i) / 6 % 4)=some (.int (sV jM (uw c (43+i) / 6 % 4))):=rS (hs:=jM) (by omega) (by show _<(4:Int);omega);subst hB;cases q:zk r i with
   |some w =>
    rw[q] at hv;by_cases c1:0<uw c (43+i) % 6
    ·have es:wc r (pV c) i=[((i:Int),w+sV jM (uw c (43+i) / 6 % 4))]:=by unfold wc pV;rw[q];simp[c1]
     simp[dcR,hv,c1,hm,hz,wa,es,prD]
    ·have es:wc r (pV c) i=[]:=by unfold wc pV;rw[q];simp[c1]
     simp[dcR,hv,c1,hz,wa,es,prD]
   |none =>
    rw[q] at hv;by_cases c1:uw c (43+i) % 5=0
    ·have es:wc r (pV c) i=[((i:Int),oX c (67+i))]:=by unfold wc pV;rw[q];simp[c1]
     simp[dcR,hv,c1,hw,hz,wa,es,prD]
    ·have es:wc r (pV c) i=[]:=by unfold wc pV;rw[q];simp[c1]
     simp[dcR,hv,c1,hz,wa,es,prD])
 rw[e];subst hsd;have hp:=wj (nP (wa r (pV c) n.toNat)) x6;rw[xI];unfold wv;by_cases q:wa r (pV c) n.toNat=[]
 ·simp[q,wj x6 x6,zM]
 ·simp[q,hp,zX,rwD]
def jN:FS:=(zV (pW 2 (uo zq)) (zV (uM (iS (zf 0)) (.one 3) (sIf (qV (ow [2] (zu (dOp gNe (zf 2) (uo zq)))) (zu (dOp gGt (dOp tW (zf 3) (dC (.int 3))) (dC (.int 0))))) (yb 2 (zy lV (zc (ue 2 (dOp tW (dOp uV (zf 3) (dC (.int 3))) (jt [2] (xq o4 (zc (zf 2) zq))))) (zc (zf 3) (zc (zf 1) zq))))) (yb 2 (zy kR (zc (zf 3) (zc (zf 1) zq)))))) (yN 2)))
def kM:List D->Res D:=si 4 2 jN
def yh (n:Int)(rs:List (List (Int×Int)))(c:Int):List (List (Int×Int)):=if rs ≠ []/\0<c % 3 then rs++[wv (rs.getD (c / 3 % (rs.length:Int)).toNat []) (pV c) n] else rs++[fy c n]
def xQ (n:Int)(cs:List Int):List (List (Int×Int)):=cs.foldl (yh n) []
theorem listStep_len (n:Int)(rs:List (List (Int×Int)))(c:Int):(yh n rs c).length=rs.length+1:=by
 unfold yh
 split<;>simp
theorem vo (n:Int):∀(cs:List Int) (rs:List (List (Int×Int))),(cs.foldl (yh n) rs).length=rs.length+cs.length
 | [],rs=>rfl
 |c::cs,rs=>by rw[List.foldl_cons,vo n cs,listStep_len,Zu];omega
theorem vj (n:Int)(cs:List Int):(xQ n cs).length=cs.length:=by
 have:=vo n cs [];unfold xQ;rw[this];exact Nat.zero_add _
theorem listStep_ok {n:Int}{rs:List (List (Int×Int))}{c:Int}(h1:1<=n)(h2:n<=12)(h:∀r∈rs,RowOk n r):∀r∈yh n rs c,RowOk n r:=by
 intro r hr;unfold yh at hr
 split at hr
 ·rename_i q;rcases List.mem_append.mp hr with z|z
  ·exact h r z
  ·rw[List.mem_singleton.mp z];have hp:0<rs.length:=List.length_pos_iff.mpr q.1;have hi:(c / 3 % (rs.length:Int)).toNat<rs.length:=by
    have a:=Int.emod_nonneg (c / 3) (show(rs.length:Int)≠0 by omega);have b:=Int.emod_lt_of_pos (c / 3) (show(0:Int)<rs.length by omega);omega
   have e:rs.getD (c / 3 % (rs.length:Int)).toNat []=rs[(c / 3 % (rs.length:Int)).toNat]:=by rw[List.getD_eq_getElem?_getD,Zqg hi];rfl
   rw[e];exact variedG_ok (h _ (List.getElem_mem hi)) (by omega) h2
 ·rcases List.mem_append.mp hr with z|z
  ·exact h r z
  ·rw[List.mem_singleton.mp z];exact rowG_ok h1 h2
theorem ui {n:Int}(h1:1<=n)(h2:n<=12):∀(cs:List Int) (rs:List (List (Int×Int))),(∀r∈rs,RowOk n r)->∀r∈cs.foldl (yh n) rs,RowOk n r
 | [],rs,h=>h
 |c::cs,rs,h=>by rw[List.foldl_cons];exact ui h1 h2 cs _ (listStep_ok h1 h2 h)
theorem rE {n:Int}(h1:1<=n)(h2:n<=12)(cs:List Int):∀r∈xQ n cs,RowOk n r:=ui h1 h2 cs [] fun _ h=>nomatch h
theorem f_z14 {cs:List Int}{n:Int}(h1:1<=n)(h2:n<=12)(hl:cs.length<=100):kM [.lst (cs.map .int),.int n]=.ok (.lst ((xQ n cs).map rwD)):=by
 simp[kM,jN];generalize hB:sIf _ _ _=b;obtain⟨sd',e,u,hsd⟩:=yI (tg:=.one 3) (b:=b) (ds:=cs.map .int) (sd:=[some (.val (.lst (cs.map .int))),some (.val (.int n)),some (.own false (.lst [])),none])
  (P:=fun i sd=>∃u,sd=[some (.val (.lst (cs.map .int))),some (.val (.int n)),some (.own false (.lst ((xQ n (cs.take i)).map rwD))),u]) ⟨none,rfl⟩ (by
   rintro i x sd hx ⟨u,rfl⟩;refine zc1b (xw hx) fun c hc zr2=>?_;subst zr2;have hi:=(List.getElem?_eq_some_iff.mp hc).1;have et:xQ n (cs.take (i+1))=yh n (xQ n (cs.take i)) c:=by
    unfold xQ;rw[ym hc,List.foldl_append];rfl
   have hlen:=vj n (cs.take i);rw[List.length_take] at hlen;have ok:=rE h1 h2 (cs.take i);generalize xQ n (cs.take i)=rs at et hlen ok;have hz:=z9 (show rs.length<=1000 by omega);rw[et];have hr:=f_z12 (c:=c) h1 h2;subst hB;by_cases q:rs=[]
   ·have es:yh n rs c=rs++[fy c n]:=Ze fun z=>z.1 q;rw[es];simp[q,uO x6 x6,zM,hr,z9 (show 0<=1000 by omega)]
   ·have hn:=uO (oi rs) x6;by_cases c3:0<c % 3
    ·have es:yh n rs c=rs++[wv (rs.getD (c / 3 % (rs.length:Int)).toNat []) (pV c) n]:=Zd ⟨q,c3⟩;have hp:0<rs.length:=List.length_pos_iff.mpr q;have a:=Int.emod_nonneg (c / 3) (show(rs.length:Int)≠0 by omega);have b:=Int.emod_lt_of_pos (c / 3) (show(0:Int)<rs.length by omega);have hj:(c / 3 % (rs.length:Int)).toNat<rs.length:=by omega
     have eg:rs.getD (c / 3 % (rs.length:Int)).toNat []=rs[(c / 3 % (rs.length:Int)).toNat]:=by rw[List.getD_eq_getElem?_getD,Zqg hj];rfl
     have ea:atI (rs.map rwD) (c / 3 % (rs.length:Int))=some (rwD rs[(c / 3 % (rs.length:Int)).toNat]):=by
      have e1:ixN rs.length (c / 3 % (rs.length:Int))=some (c / 3 % (rs.length:Int)).toNat:=by unfold ixN;rw[Zd a,Zd b]
      unfold atI;rw[Zql,e1];show(rs.map rwD)[_]? = _;rw[Zv,Zqg hj];rfl
     rw[es,eg];have okr:RowOk n rs[(c / 3 % (rs.length:Int)).toNat]:=ok _ (List.getElem_mem hj);generalize rs[(c / 3 % (rs.length:Int)).toNat]=r0 at ea okr;have hv:=f_z13 (c:=c) okr.once (show r0.length<=100 by have:=okr.len;omega) (show 0<=n by omega) h2;have hmod:=oF (i:=c / 3) (show(0:Int)<rs.length by omega);simp[q,hn,zX,c3,hmod,ea,hv,hz]
    ·have es:yh n rs c=rs++[fy c n]:=Ze fun z=>c3 z.2;rw[es];simp[q,hn,zX,c3,hr,hz])
 rw[e];subst hsd;simp
def jF:FS:=(zV (xA 2 (xq sh (zc (zf 1) zq))) (zV (uM (iS (zf 0)) (.one 3) (sIf (mS (zu (dOp (gIn true) (dOp gIx (zf 3) (dC (.int 0))) (zf 2))) (zu (dOp gGt (dOp gIx (zf 3) (dC (.int 1))) (dOp gIx (zf 2) (dOp gIx (zf 3) (dC (.int 0))))))) (xL (dC (.bl false))) yx)) (xL (dC (.bl true)))))
def mI:List D->Res D:=ur 4 2 jF
theorem f_z15 {r o:List (Int×Int)}(ho:yy o)(hl:o.length<=100):mI [rwD r,rwD o]=.ok (.bl (zl r o)):=by
 have hd:sh [.tup (o.map prD)]=some (dcR o):=vi hl ho;simp[mI,jF,hd,rwD];refine u6 (R:=fun z=>(z.bind (jq (xL (dC (.bl true))))).bind ik=.ok (.bl (zl r o))) (P:=fun i sd=>(∃u,sd=[some (.val (.tup (r.map prD))),some (.val (.tup (o.map prD))),some (.val (dcR o)),u])/\zl (r.take i) o=true) ⟨⟨none,rfl⟩,rfl⟩ ?_ ?_
 ·rintro sd ⟨⟨u,rfl⟩,hu⟩;rw[Zql,List.take_length] at hu;simp[hu]
 ·rintro i x sd hx ⟨⟨u,rfl⟩,hu⟩;refine zc1b (xw hx) fun p hp zr2=>?_;subst zr2;have hv:=v9 ho p.1;have a0:atI [D.int p.1,D.int p.2] 0=some (.int p.1):=rfl;have a1:atI [D.int p.1,D.int p.2] 1=some (.int p.2):=rfl;cases q:zk o p.1 with
  |none =>
   rw[q] at hv;have z:pT o p=false:=by unfold pT;rw[q]
   rw[xT hp z];exact .inr (.inr ⟨.bl false,by simp[prD,dcR,a0,hv],by simp⟩)
  |some w =>
   rw[q] at hv;by_cases c:w<p.2
   ·have z:pT o p=false:=by unfold pT;rw[q];exact Zo (by omega)
    rw[xT hp z];exact .inr (.inr ⟨.bl false,by simp[prD,dcR,a0,a1,hv,c],by simp⟩)
   ·have z:pT o p=true:=by unfold pT;rw[q];exact Zp (by omega)
    exact .inl ⟨[some (.val (.tup (r.map prD))),some (.val (.tup (o.map prD))),some (.val (dcR o)),some (.val (prD p))],.inl (by simp[prD,dcR,a0,a1,hv,c]),⟨_,rfl⟩,sw hp hu z⟩
def ju:FS:=(zV (pW 1 (uo zq)) (zV (uM (iS (zf 0)) (.one 2) (zV (xA 3 (xy [none,some 2] (iS (zf 0)) (.one 0) (qV (zu (dOp gNe (zf 0) (zf 1))) (zu (zy mI (zc (zf 0) (zc (zf 1) zq))))) (zf 0))) (sIf (qV (zu (dOp gEq (zf 3) (uo zq))) (ow [1] (zu (dOp (gIn true) (zf 2) (zf 1))))) (yb 1 (zf 2)) yx))) (fun sd=>(xL (xq xi (zc (zf 1) zq))) (tV [1] sd))))
def qp:List D->Res D:=si 4 1 ju
theorem gY {rs:List (List (Int×Int))}(hne:∀r∈rs,r ≠ [])(ho:∀r∈rs,yy r)(hl:∀r∈rs,r.length<=100)(hn:rs.length<1000):qp [frD rs]=.ok (frD (yi rs)):=by
 simp[qp,ju,frD];generalize hB:zV (xA 3 _) _=b;obtain⟨sd',e,u,v,hsd⟩:=yI (tg:=.one 2) (b:=b) (ds:=rs.map rwD) (sd:=[some (.val (.lst (rs.map rwD))),some (.own false (.lst [])),none,none])
  (P:=fun i sd=>∃u v,sd=[some (.val (.lst (rs.map rwD))),some (.own false (.lst ((zZ rs (rs.take i)).map rwD))),u,v]) ⟨none,none,rfl⟩ (by
   rintro i x sd hx ⟨u,v,rfl⟩;refine zc1b (xw hx) fun row hr zr2=>?_;subst zr2;have hm:=List.mem_of_getElem? hr;have hi:=(List.getElem?_eq_some_iff.mp hr).1;have et:zZ rs (rs.take (i+1))=xu rs (zZ rs (rs.take i)) row:=by
    unfold zZ;rw[ym hr,List.foldl_append];rfl
   have hlen:=(yB rs (rs.take i) []).1;have hz:(zZ rs (rs.take i)).length<sizeLine:=z9 (by unfold zZ;rw[List.length_take] at hlen;simp only[ZB] at hlen;omega);have key:va (.one 0) (qV (zu (dOp gNe (zf 0) (zf 1))) (zu (zy mI (zc (zf 0) (zc (zf 1) zq))))) (zf 0) [none,some (.val (rwD row))] (rs.map rwD)=.ok ((rs.filter fun one => !decide (one=row)&&zl one row).map rwD) :=
    wY (s:=fun o=>[some (.val (rwD o)),some (.val (rwD row))]) (fun o _=>rfl) (fun o ho'=>by
     have hq:=uO (qW o) (qW row);rw[mw] at hq;by_cases z:o=row
     ·subst z;simp[hq]
     ·simp[hq,z,f_z15 (r:=o) (ho row hm) (hl row hm)]) (fun o _ _=>by simp)
   have hq:=wj (oi (rs.filter fun one => !decide (one=row)&&zl one row)) x6;have lz:=z9 (show rs.length<=1000 by omega);have hin:=gIn_rows true row (zZ rs (rs.take i));generalize zZ rs (rs.take i)=least at et hz hin;rw[et];unfold xu;have eq:vO rs row=(rs.filter fun one => !decide (one=row)&&zl one row).isEmpty:=rfl;rw[zX,<- eq] at hq;subst hB;cases q:vO rs row with
   |false=>rw[q] at hq;simp[key,lz,hq,q]
   |true =>
    rw[q] at hq;by_cases w:row∈least
    ·simp[key,lz,hq,q,hin,w]
    ·simp[key,lz,hq,q,hin,w,hz])
 rw[e];subst hsd;have hs:=wG (ls:=zZ rs rs) (fun r hr=>hne r (by have:=(yB rs rs []).2.1 r;unfold zZ at hr;rw[this] at hr;simp at hr;exact hr.1)) (by have:=(yB rs rs []).1;unfold zZ;simp only[ZB] at this;omega);simp[hs,yi]
def jy:FS:=(zV (xA 3 (zy kM (zc (zf 0) (zc (zf 2) zq)))) (zV (pW 4 (uo zq)) (zV (uM (iR1 (zc (zf 1) zq)) (.one 5) (zV (yb 4 (zy qp (zc (dSl (zf 3) (t6 (zf 5)) xR (t6 (zf 1))) zq))) (sIf (zu (dOp gEq (ue 4 (zf 5)) (uo zq))) (j7 4 (zf 5) (uo (zc (mM (zc (mM (zc (dOp tW (zf 5) (zf 2)) (zc (dC (.int 0)) zq))) zq)) zq))) yx))) (yN 4))))
def k6:List D->Res D:=si 6 3 jy
theorem f_z17 {cs:List Int}{many n:Int}(h1:1<=n)(h2:n<=12)(hl:cs.length<=63)(m1:1<=many)(m2:many<=60):k6 [.lst (cs.map .int),.int many,.int n]=.ok (.lst ((x9 n many (xQ n cs) many.toNat).map frD)):=by
 have r1:ww [.int many]=.ok (zW 0 many.toNat):=yJ (by omega) (by omega);have fl:=f_z14 (cs:=cs) h1 h2 (by omega);have ok:=rE h1 h2 cs;have ll:=vj n cs;simp[k6,jy,r1,fl];generalize xQ n cs=rs at ok ll;generalize hB:zV (yb 4 _) _=b;obtain⟨sd',e,u,hsd⟩:=yI (tg:=.one 5) (b:=b) (ds:=zW 0 many.toNat) (sd:=[some (.val (.lst (cs.map .int))),some (.val (.int many)),some (.val (.int n)),some (.val (.lst (rs.map rwD))),some (.own false (.lst [])),none])
  (P:=fun i sd=>∃u,sd=[some (.val (.lst (cs.map .int))),some (.val (.int many)),some (.val (.int n)),some (.val (.lst (rs.map rwD))),some (.own false (.lst ((x9 n many rs i).map frD))),u]) ⟨none,rfl⟩ (by
   rintro i x sd hx ⟨u,rfl⟩;obtain⟨rfl,hi⟩:=vg hx;have gs:gSl (.lst (rs.map rwD)) (some (i:Int)) none (some many)=some (frD (yc rs (some (i:Int)) none (some many))):=by
    rw[gSl_lst (by omega),rM];rfl
   have pk:∀r∈yc rs (some (i:Int)) none (some many),RowOk n r:=fun r hr=>ok r (uB hr);have pl:=qg rs (some (i:Int)) none (some many);have ft:=gY (rs:=yc rs (some (i:Int)) none (some many)) (fun r hr=>(pk r hr).ne) (fun r hr=>(pk r hr).once) (fun r hr=>by have:=(pk r hr).len;omega) (by omega);have et:x9 n many rs (i+1)=x9 n many rs i++[mJ n i (yi (yc rs (some (i:Int)) none (some many)))]:=by
    unfold x9;rw[List.range_succ,List.map_append];rfl
   have lf:(x9 n many rs i).length=i:=by unfold x9;rw[Zql,ZA]
   have hz:(x9 n many rs i).length<sizeLine:=z9 (by omega);generalize yi (yc rs (some (i:Int)) none (some many))=t at ft et;generalize x9 n many rs i=fs at et lf hz;have lm:(fs.map frD).length=i:=by rw[Zql];exact lf
   have ha:atI (fs.map frD++[frD t]) (i:Int)=some (frD t):=by have:=at_last (fs.map frD) (frD t);rw[lm] at this;exact this
   have hx2:ixN (fs.length+1) (i:Int)=some i:=by have:=ix_last (fs.map frD) (frD t);rw[lm,List.length_append,Zql] at this;exact this
   have hset:∀y,(fs.map frD++[frD t]).set i y=fs.map frD++[y]:=fun y=>by have:=set_last (fs.map frD) (frD t) y;rw[lm] at this;exact this
   have hq:gEq (frD t) (.lst [])=some (.bl t.isEmpty):=by
    have:=wj (oi t) x6;rw[zX] at this;exact this
   have hmod:=oF (i:=(i:Int)) (show 0<n by omega);rw[et];unfold mJ;subst hB;by_cases q:t=[]
   ·subst q;simp[gs,ft,hz,ha,hq,hmod,hx2,hset];rfl
   ·simp[gs,ft,hz,ha,hq,q])
 rw[e];subst hsd;simp[xI]
def js:FS:=(xL (wC [none,some 0] (iR1 (zc (zf 1) zq)) (.one 0) (zy vP (zc (dOp uV (zf 1) (dOp wU (dC (.int 1)) (zf 0))) (zc (dOp wU (dC (.int 101)) (zf 0)) zq)))))
def mC:List D->Res D:=si 2 2 js
def tU (c:Int)(n:Nat):List Int:=(List.range n).map fun k:Nat=>oX (c / (1+k)) (101+k)
theorem f_z20 {c n:Int}(h2:0<=n)(h3:n<=12):mC [.int c,.int n]=.ok (.lst ((tU c n.toNat).map .int)):=by
 have r1:ww [.int n]=.ok (zW 0 n.toNat):=yJ (by omega) (by omega);have key:kY (.one 0) (zy vP (zc (dOp uV (zf 1) (dOp wU (dC (.int 1)) (zf 0))) (zc (dOp wU (dC (.int 101)) (zf 0)) zq))) [none,some (.val (.int c))] (zW 0 n.toNat)=.ok ((List.range n.toNat).map fun k:Nat=>.int (oX (c / (1+k)) (101+k))):=rc fun i hi=>by
  have hw:=jS (c:=c / (1+i)) (s:=101+i) (by omega) (by omega);have hd:=gFdiv_ok (i:=c) (j:=1+i) (by omega) (by omega);simp[hd,hw]
 have e:(tU c n.toNat).map D.int=(List.range n.toNat).map fun k:Nat=>.int (oX (c / (1+k)) (101+k)):=by
  unfold tU;rw[Zw];rfl
 simp[mC,js,r1,key,xI,z9 (show n.toNat<=1000 by omega),e]
def fZ:FS:=(xL (kr (xq mV (zc (zf 0) (zc (dC (.ty "int")) zq))) (gr (xq mV (zc (zf 0) (zc (dC (.ty "bool")) zq))))))
def gG:List D->Res D:=ur 1 1 fZ
@[simp] theorem f_law_whole_int (i:Int):gG [.int i]=.ok (.bl true):=by
 simp[gG,fZ]
def jH:FS:=(zV (sIf (mS (vK (zu (xq mV (zc (zf 0) (zc (dC (.ty "list")) zq))))) (zu (dOp gEq (zf 0) (uo zq)))) (xL (dC (.bl false))) yx) (zV (uM (iS (zf 0)) (.one 1) (zV (sIf (mS (vK (zu (xq mV (zc (zf 1) (zc (dC (.ty "tuple")) zq))))) (zu (dOp gEq (zf 1) (mM zq)))) (xL (dC (.bl false))) yx) (uM (iS (zf 1)) (.one 2) (sIf (mS (vK (zu (xq mV (zc (zf 2) (zc (dC (.ty "tuple")) zq))))) (mS (zu (dOp gNe (xq o4 (zc (zf 2) zq)) (dC (.int 2)))) (mS (vK (zu (zy gG (zc (dOp gIx (zf 2) (dC (.int 0))) zq)))) (vK (zu (zy gG (zc (dOp gIx (zf 2) (dC (.int 1))) zq))))))) (xL (dC (.bl false))) yx)))) (xL (dC (.bl true)))))
def kG:List D->Res D:=ur 3 1 jH
theorem f_z21 {f:List (List (Int×Int))}(hf:f ≠ [])(hne:∀r∈f,r ≠ []):kG [frD f]=.ok (.bl true):=by
 have he:f.isEmpty=false:=by cases f with|nil=>exact Zn rfl hf|cons a l=>rfl
 simp[kG,jH,gEq_fr0,he];generalize hB:zV (sIf _ _ _) (uM _ _ _)=b;obtain⟨sd',e,u,v,hsd⟩:=yI (tg:=.one 1) (b:=b) (ds:=f.map rwD) (sd:=[some (.val (frD f)),none,none])
  (P:=fun i sd=>∃u v,sd=[some (.val (frD f)),u,v]) ⟨none,none,rfl⟩ (by
   rintro i x sd hx ⟨u,v,rfl⟩;refine zc1b (xw hx) fun r hr zr2=>?_;subst zr2;have hr0:=hne r (List.mem_of_getElem? hr);have hq:gEq (rwD r) (.tup [])=some (.bl false):=by
    rw[wj (qW r) rfl,wb.mpr];exact fun z=>hr0 (kD (s:=[]) z)
   subst hB;simp[hq];generalize hB2:sIf _ _ _=b2;obtain⟨sd',e,v,hsd⟩:=yI (tg:=.one 2) (b:=b2) (ds:=r.map prD) (sd:=[some (.val (frD f)),some (.val (rwD r)),v])
    (P:=fun i sd=>∃v,sd=[some (.val (frD f)),some (.val (rwD r)),v]) ⟨v,rfl⟩ (by
     rintro j y sd hy ⟨v,rfl⟩;refine zc1b (xw hy) fun p hp zr2=>?_;subst zr2;subst hB2;simp)
   exact⟨sd',e,_,_,hsd⟩)
 rw[e];simp
def jE:FS:=(zV (pW 2 (uo zq)) (zV (uM (iR1 (zc (dC (.int 12)) zq)) (.one 3) (zV (xA 4 (xy [none,some 3] (iS (dOp wU (zf 0) (zf 1))) (.one 0) (zu (dOp gEq (dOp gIx (zf 0) (dC (.int 0))) (zf 1))) (dOp gIx (zf 0) (dC (.int 1))))) (sIf (zu (dOp gNe (zf 4) (uo zq))) (yb 2 (mM (zc (zf 3) (zc (xq tZ (zc (zf 4) zq)) zq)))) yx))) (fun sd=>(xL (xq uY (zc (zf 2) zq))) (tV [2] sd))))
def pL:List D->Res D:=ur 5 2 jE
def j6:FS:=(zV (pW 1 (uo (zc (dOp gIx (zf 0) (dC (.int 0))) zq))) (zV (uM (iS (dSl (zf 0) (t6 (dC (.int 1))) xR xR)) (.one 2) (zV (xA 3 (uo zq)) (zV (uM (iS (ue 1 (dUn i9 (dC (.int 1))))) (.one 4) (xA 3 (dOp wU (zf 3) (wC [none,some 4] (iS (zf 2)) (.one 0) (zy pL (zc (zf 1) (zc (zf 0) zq))))))) (yb 1 (zy qp (zc (zf 3) zq)))))) (yN 1)))
def jh:List D->Res D:=si 5 1 j6
def ef:FS:=(zV (uM (iS (zf 0)) (.tup [2,3]) (sIf (mS (zu (dOp (gIn true) (zf 2) (zf 1))) (zu (dOp gGt (zf 3) (dOp gIx (zf 1) (zf 2))))) (xL (dC (.bl false))) yx)) (xL (dC (.bl true))))
def fF:List D->Res D:=ur 4 2 ef
theorem f_z0 {r o:List (Int×Int)}(ho:yy o):fF [rwD r,dcR o]=.ok (.bl (zl r o)):=by
 simp[fF,ef];refine u6 (R:=fun z=>(z.bind (jq (xL (dC (.bl true))))).bind ik=.ok (.bl (zl r o))) (P:=fun i sd=>(∃u v,sd=[some (.val (rwD r)),some (.val (dcR o)),u,v])/\zl (r.take i) o=true) ⟨⟨none,none,rfl⟩,rfl⟩ ?_ ?_
 ·rintro sd ⟨⟨u,v,rfl⟩,hu⟩;rw[Zql,List.take_length] at hu;simp[hu]
 ·rintro i x sd hx ⟨⟨u,v,rfl⟩,hu⟩;refine zc1b (xw hx) fun p hp zr2=>?_;subst zr2;have hv:=v9 ho p.1;cases q:zk o p.1 with
  |none =>
   rw[q] at hv;have z:pT o p=false:=by unfold pT;rw[q]
   rw[xT hp z];exact .inr (.inr ⟨.bl false,by simp[dcR,hv],by simp⟩)
  |some w =>
   rw[q] at hv;by_cases c:w<p.2
   ·have z:pT o p=false:=by unfold pT;rw[q];exact Zo (by omega)
    rw[xT hp z];exact .inr (.inr ⟨.bl false,by simp[dcR,hv,c],by simp⟩)
   ·have z:pT o p=true:=by unfold pT;rw[q];exact Zp (by omega)
    exact .inl ⟨[some (.val (rwD r)),some (.val (dcR o)),some (.val (.int p.1)),some (.val (.int p.2))],.inl (by simp[dcR,hv,c]),⟨_,_,rfl⟩,sw hp hu z⟩
def fX:FS:=(zV (xA 2 (xq sh (zc (zf 0) zq))) (zV (uM (iS (zf 1)) (.one 3) (sIf (zu (zy fF (zc (zf 3) (zc (zf 2) zq)))) (xL (dC (.bl true))) yx)) (xL (dC (.bl false)))))
def pU:List D->Res D:=ur 4 2 fX
theorem eY {r:List (Int×Int)}{ks:List (List (Int×Int))}(ho:yy r)(hl:r.length<=100):pU [rwD r,frD ks]=.ok (.bl (ks.any fun o=>zl o r)):=by
 have hd:=vi hl ho;simp[pU,fX,hd];refine u6 (R:=fun z=>(z.bind (jq (xL (dC (.bl false))))).bind ik=.ok (.bl (ks.any fun o=>zl o r))) (P:=fun i sd=>(∃u,sd=[some (.val (rwD r)),some (.val (frD ks)),some (.val (dcR r)),u])/\∀o∈ks.take i,zl o r=false) ⟨⟨none,rfl⟩,fun _ h=>by simp at h⟩ ?_ ?_
 ·rintro sd ⟨⟨u,rfl⟩,hu⟩;rw[Zql,List.take_length] at hu;have e:ks.any (fun o=>zl o r)=false:=List.any_eq_false.mpr fun o h=>by rw[hu o h];simp
  rw[e];simp
 ·rintro i x sd hx ⟨⟨u,rfl⟩,hu⟩;refine zc1b (xw hx) fun o hp zr2=>?_;subst zr2;have ff:=f_z0 (r:=o) ho;cases q:zl o r with
  |true =>
   rw[q] at ff;have e:ks.any (fun o=>zl o r)=true:=List.any_eq_true.mpr ⟨o,List.mem_of_getElem? hp,q⟩;rw[e];exact .inr (.inr ⟨.bl true,by simp[ff],by simp⟩)
  |false =>
   rw[q] at ff;refine .inl ⟨[some (.val (rwD r)),some (.val (frD ks)),some (.val (dcR r)),some (.val (rwD o))],.inl (by simp[ff]),⟨_,rfl⟩,fun y hy=>?_⟩;rw[ym hp] at hy;rcases List.mem_append.mp hy with z|z
   ·exact hu y z
   ·rw[List.mem_singleton.mp z];exact q
def fV:FS:=(zV (pW 2 (xq sh (zc (zf 0) zq))) (zV (uM (iS (zf 1)) (.tup [3,4]) (lQ 2 (zf 3) (xq lG (zc (zf 4) (zc (jt [2] (j8 (zf 2) (zf 3) (zf 4))) zq))))) (fun sd=>(xL (xq uY (zc (vI (zf 2)) zq))) (tV [2] sd))))
def hX:List D->Res D:=ur 5 2 fV
def yA (r o:List (Int×Int)):List (Int×Int):=zQ wp (y4 r o)
theorem f_z1 {r o:List (Int×Int)}(hr:r ≠ [])(or:yy r)(oo:yy o)(lr:r.length<=20)(lo:o.length<=20):hX [rwD r,rwD o]=.ok (rwD (yA r o)):=by
 have hd:sh [.tup (r.map prD)]=some (dcR r):=vi (show r.length<=100 by omega) or;simp[hX,fV,hd,rwD];generalize hB:lQ 2 _ _=b;obtain⟨sd',e,u,v,hsd⟩:=yI (tg:=.tup [3,4]) (b:=b) (ds:=o.map prD) (sd:=[some (.val (.tup (r.map prD))),some (.val (.tup (o.map prD))),some (.own false (dcR r)),none,none])
  (P:=fun i sd=>∃u v,sd=[some (.val (.tup (r.map prD))),some (.val (.tup (o.map prD))),some (.own false (dcR (y4 r (o.take i)))),u,v]) ⟨none,none,rfl⟩ (by
   rintro i x sd hx ⟨u,v,rfl⟩;refine zc1b (xw hx) fun p hp zr2=>?_;subst zr2;have et:y4 r (o.take (i+1))=yX (y4 r (o.take i)) p:=by
    rw[ym hp];unfold y4;rw[List.foldl_append];rfl
   have hl:=tI (o.take i) r;have ht:(o.take i).length<=o.length:=by rw[List.length_take];omega
   have hz:=z9 (show(y4 r (o.take i)).length<=1000 by omega);have hv:=v9 (xH (o.take i) r or) p.1;have hput:=put_dcR (y4 r (o.take i)) p.1 (if(zk (y4 r (o.take i)) p.1).getD p.2 > p.2 then(zk (y4 r (o.take i)) p.1).getD p.2 else p.2);have hg:((zk (y4 r (o.take i)) p.1).map D.int).getD (.int p.2)=.int ((zk (y4 r (o.take i)) p.1).getD p.2):=by cases zk (y4 r (o.take i)) p.1<;>rfl
   subst hB;have es:yX (y4 r (o.take i)) p=qi (y4 r (o.take i)) p.1 (if(zk (y4 r (o.take i)) p.1).getD p.2 > p.2 then(zk (y4 r (o.take i)) p.1).getD p.2 else p.2):=rfl;rw[et,es,<- hput];simp[dcR,hv,hg,hz])
 rw[e];subst hsd;have hl:=tI o r;have hs:=gSortItems_dcR (r:=y4 r o) (nL hr oo) (by omega);simp[hs,yA]
def fU:FS:=(zV (pW 2 (dOp gc (xy [none,some 1] (iS (zf 0)) (.one 0) (zu (zy pU (zc (zf 0) (zc (zf 1) zq)))) (zf 0)) (xy [none,some 0] (iS (zf 1)) (.one 0) (zu (zy pU (zc (zf 0) (zc (zf 1) zq)))) (zf 0)))) (zV (xA 3 (xy [none,some 0] (iS (zf 1)) (.one 0) (vK (zu (zy pU (zc (zf 0) (zc (zf 1) zq))))) (zf 0))) (zV (uM (iS (zf 0)) (.one 4) (sIf (vK (zu (zy pU (zc (zf 4) (zc (zf 1) zq))))) (vL 2 (wC [none,some 4] (iS (zf 3)) (.one 0) (zy hX (zc (zf 1) (zc (zf 0) zq))))) yx)) (yN 2))))
def gM:List D->Res D:=si 5 2 fU
def xk (f g:List (List (Int×Int))):List (List (Int×Int)):=f.flatMap fun r=>g.map (yA r)
theorem yC {f g:List (List (Int×Int))}{q:List (Int×Int)}:q∈xk f g↔∃r∈f,∃o∈g,yA r o=q:=by
 unfold xk;rw[List.mem_flatMap];refine exists_congr fun r=>and_congr_right fun _=>?_;rw[List.mem_map]
theorem pJ (f g:List (List (Int×Int))):(xk f g).length=f.length*g.length:=by
 unfold xk
 induction f with
 |nil=>simp
 |cons r f ih=>rw[List.flatMap_cons,List.length_append,ih,Zql,Zu,Nat.succ_mul,Nat.add_comm]
theorem look_perm {a b:List (Int×Int)}(oa:yy a)(p:b.Perm a)(t:Int):zk b t=zk a t:=by
 have ob:yy b:=((p.map fun z:Int×Int=>z.1).nodup_iff).mpr oa;cases h:zk a t with
 |some w=>exact(uy ob).mp (p.mem_iff.mpr (zv h))
 |none =>
  cases h2:zk b t with
  |none=>rfl
  |some w =>
   have:=(uy oa).mp (p.mem_iff.mp (zv h2));rw[h] at this
   first|exact zqn this|exact zqb this|(obtain rfl:=Zqi this)|cases this
theorem xa {r o:List (Int×Int)}(or:yy r)(oo:yy o)(t:Int):zk (yA r o) t=jw (zk r t) (zk o t):=by
 rw[<- wy t o r oo];exact look_perm (xH o r or) (zm (ltb:=wp) _) t
theorem xh {r o:List (Int×Int)}(hr:JRow r)(ho:JRow o):JRow (yA r o):=by
 have nj:y4 r o ≠ []:=nL hr.ne ho.once;have oj:=xH o r hr.once;refine⟨fun z=>nj ?_,?_,fun p hp=>?_⟩
 ·have:=(zm (ltb:=wp) (y4 r o)).length_eq;unfold yA at z;rw[z,ZB] at this;exact List.length_eq_zero_iff.mp this.symm
 ·unfold wg yA;have st:=uf oj;have od:(zQ wp (y4 r o)).Pairwise fun x y=>x.1≠y.1:=by
   have:yy (zQ wp (y4 r o)):=(((zm (ltb:=wp) (y4 r o)).map fun z:Int×Int=>z.1).nodup_iff).mpr oj;unfold yy List.Nodup at this;rw[List.pairwise_map] at this;exact this
  rw[List.pairwise_map];refine(List.Pairwise.and st od).imp fun {x y} h=>?_;have h1:=h.1;rw[yO] at h1;have h2:=h.2;omega
 ·have hp':=(zm (ltb:=wp) (y4 r o)).mem_iff.mp hp;have hl:=oj.look (t:=p.1) (w:=p.2) hp';rw[wy p.1 o r ho.once] at hl;cases q1:zk r p.1 with
  |some w=>exact hr.bnd (p.1,w) (zv q1)
  |none =>
   cases q2:zk o p.1 with
   |some w=>exact ho.bnd (p.1,w) (zv q2)
   |none=>rw[q1,q2] at hl;(first|exact zqn hl|exact zqb hl|(obtain rfl:=Zqi hl)|cases hl)
theorem tO {r o:List (Int×Int)}(hr:JRow r)(ho:JRow o):zl r (yA r o)=true:=by
 rw[yk];intro p hp;have h1:=hr.once.look (t:=p.1) (w:=p.2) hp;rw[xa hr.once ho.once,h1];cases zk o p.1 with
 |none=>exact⟨p.2,rfl,Int.le_refl _⟩
 |some y=>exact⟨_,rfl,by split<;>omega⟩
theorem t5 {r o:List (Int×Int)}(hr:JRow r)(ho:JRow o):zl o (yA r o)=true:=by
 rw[yk];intro p hp;have h1:=ho.once.look (t:=p.1) (w:=p.2) hp;rw[xa hr.once ho.once,h1];cases zk r p.1 with
 |none=>exact⟨p.2,rfl,Int.le_refl _⟩
 |some y=>exact⟨_,rfl,by split<;>omega⟩
theorem vV {r o q:List (Int×Int)}(hr:JRow r)(ho:JRow o)(h1:zl r q=true)(h2:zl o q=true):zl (yA r o) q=true:=by
 rw[yk] at h1 h2 ⊢;intro p hp;have hl:=(xh hr ho).once.look (t:=p.1) (w:=p.2) hp;rw[xa hr.once ho.once] at hl;cases q1:zk r p.1 with
 |none =>
  rw[q1] at hl;exact h2 p (zv hl)
 |some x =>
  cases q2:zk o p.1 with
  |none =>
   rw[q1,q2] at hl
   first|exact zqn hl|exact zqb hl|(obtain rfl:=Zqi hl)|cases hl
   exact h1 (p.1,p.2) (zv q1)
  |some y =>
   rw[q1,q2] at hl;refine zc1b (h1 (p.1,x) (zv q1)) fun w hw a=>?_;refine zc1b (h2 (p.1,y) (zv q2)) fun w' hw' b=>?_;have hw:zk q p.1=some w:=hw;rw[hw] at hw'
   first|exact zqn hw'|exact zqb hw'|(obtain rfl:=Zqi hw')|cases hw'
   have e:(if x > y then x else y)=p.2:=Zqi hl;have a:x<=w:=a;have b:y<=w:=b;exact⟨w,hw,by rw[<- e];split<;>omega⟩
def xD (g:List (List (Int×Int)))(r:List (Int×Int)):Bool:=g.any fun o=>zl o r
theorem kj {g:List (List (Int×Int))}{r:List (Int×Int)}:xD g r=true↔∃o∈g,zl o r=true:=List.any_eq_true
def yR (f g:List (List (Int×Int)))(l:List (List (Int×Int))):List (List (Int×Int)):=(l.filter fun r => !xD g r).flatMap fun r=>(g.filter fun o => !xD f o).map (yA r)
def v8 (f g:List (List (Int×Int))):List (List (Int×Int)):=(f.filter (xD g)++g.filter (xD f))++yR f g f
theorem rm (f g l:List (List (Int×Int))):(yR f g l).length=(l.filter fun r => !xD g r).length*(g.filter fun o => !xD f o).length:=by
 unfold yR;generalize l.filter (fun r => !xD g r)=a
 induction a with
 |nil=>simp
 |cons r a ih=>rw[List.flatMap_cons,List.length_append,ih,Zql,Zu,Nat.succ_mul,Nat.add_comm]
theorem xP {α : Type}(p:α -> Bool):∀l:List α,(l.filter p).length+(l.filter fun x => !p x).length=l.length
 | []=>rfl
 |x::l=>by
  have:=xP p l;cases h:p x with
  |true=>rw[List.filter_cons_of_pos h,List.filter_cons_of_neg (by rw[h];simp),Zu,Zu];omega
  |false=>rw[List.filter_cons_of_neg (by rw[h];simp),List.filter_cons_of_pos (by rw[h];rfl),Zu,Zu];omega
theorem eachK_len (f g:List (List (Int×Int))):(v8 f g).length+(f.filter fun r => !xD g r).length+(g.filter fun o => !xD f o).length=f.length+g.length+(f.filter fun r => !xD g r).length*(g.filter fun o => !xD f o).length:=by
 unfold v8;rw[List.length_append,List.length_append,rm];have a:=xP (xD g) f;have b:=xP (xD f) g;omega
theorem sT {f g:List (List (Int×Int))}(hf:∀r∈f,JRow r)(hg:∀r∈g,JRow r):∀q∈v8 f g,JRow q:=fun q hq=>by
 unfold v8 yR at hq;rcases List.mem_append.mp hq with hq|hq
 ·rcases List.mem_append.mp hq with hq|hq
  ·exact hf q (List.mem_filter.mp hq).1
  ·exact hg q (List.mem_filter.mp hq).1
 ·refine zc1b (List.mem_flatMap.mp hq) fun r hr hq=>?_;refine zc1b (List.mem_map.mp hq) fun o ho zr2=>?_;subst zr2;exact xh (hf r (List.mem_filter.mp hr).1) (hg o (List.mem_filter.mp ho).1)
theorem eachK_up {f g:List (List (Int×Int))}(hf:∀r∈f,JRow r)(hg:∀r∈g,JRow r)(q:List (Int×Int)):(∃x∈v8 f g,zl x q=true)↔(∃x∈xk f g,zl x q=true):=by
 constructor
 ·rintro⟨x,hx,hu⟩;unfold v8 yR at hx;rcases List.mem_append.mp hx with hx|hx
  ·rcases List.mem_append.mp hx with hx|hx
   ·obtain⟨hx,hc⟩:=List.mem_filter.mp hx;refine zc1b (kj.mp hc) fun o ho hou=>?_;exact⟨yA x o,yC.mpr ⟨x,hx,o,ho,rfl⟩,vV (hf x hx) (hg o ho) hu (zB hou hu)⟩
   ·obtain⟨hx,hc⟩:=List.mem_filter.mp hx;refine zc1b (kj.mp hc) fun o ho hou=>?_;exact⟨yA o x,yC.mpr ⟨o,ho,x,hx,rfl⟩,vV (hf o ho) (hg x hx) (zB hou hu) hu⟩
  ·refine zc1b (List.mem_flatMap.mp hx) fun r hr hx=>?_;refine zc1b (List.mem_map.mp hx) fun o ho zr2=>?_;subst zr2;exact⟨_,yC.mpr ⟨r,(List.mem_filter.mp hr).1,o,(List.mem_filter.mp ho).1,rfl⟩,hu⟩
 ·rintro⟨x,hx,hu⟩;refine zc1b (yC.mp hx) fun r hr zz=>zc1b zz fun o ho zr4=>?_;subst zr4;have u1:=zB (tO (hf r hr) (hg o ho)) hu;have u2:=zB (t5 (hf r hr) (hg o ho)) hu;unfold v8 yR;cases c1:xD g r with
  |true=>exact⟨r,List.mem_append_left _ (List.mem_append_left _ (List.mem_filter.mpr ⟨hr,c1⟩)),u1⟩
  |false =>
   cases c2:xD f o with
   |true=>exact⟨o,List.mem_append_left _ (List.mem_append_right _ (List.mem_filter.mpr ⟨ho,c2⟩)),u2⟩
   |false=>exact⟨yA r o,List.mem_append_right _ (List.mem_flatMap.mpr ⟨r,List.mem_filter.mpr ⟨hr,by rw[c1];rfl⟩,List.mem_map.mpr ⟨o,List.mem_filter.mpr ⟨ho,by rw[c2];rfl⟩,rfl⟩⟩),hu⟩
theorem f_z5 {f g:List (List (Int×Int))}(hf:∀r∈f,JRow r)(hg:∀r∈g,JRow r)(l1:f.length+g.length+f.length*g.length<=1000):gM [frD f,frD g]=.ok (frD (v8 f g)):=by
 have cv:∀(ks:List (List (Int×Int))) (r:List (Int×Int)),JRow r->pU [rwD r,frD ks]=.ok (.bl (xD ks r)):=fun ks r h=>eY h.once (by have:=h.len;omega);have m1:va (.one 0) (zu (zy pU (zc (zf 0) (zc (zf 1) zq)))) (zf 0) [none,some (.val (frD g))] (f.map rwD)=.ok ((f.filter (xD g)).map rwD) :=
  wY (s:=fun r=>[some (.val (rwD r)),some (.val (frD g))]) (fun r _=>rfl) (fun r hr=>by simp[cv g r (hf r hr)]) (fun r _ _=>by simp)
 have m2:va (.one 0) (zu (zy pU (zc (zf 0) (zc (zf 1) zq)))) (zf 0) [none,some (.val (frD f))] (g.map rwD)=.ok ((g.filter (xD f)).map rwD) :=
  wY (s:=fun r=>[some (.val (rwD r)),some (.val (frD f))]) (fun r _=>rfl) (fun r hr=>by simp[cv f r (hg r hr)]) (fun r _ _=>by simp)
 have m3:va (.one 0) (vK (zu (zy pU (zc (zf 0) (zc (zf 1) zq))))) (zf 0) [none,some (.val (frD f))] (g.map rwD)=.ok ((g.filter fun o => !xD f o).map rwD) :=
  wY (s:=fun r=>[some (.val (rwD r)),some (.val (frD f))]) (fun r _=>rfl) (fun r hr=>by simp[cv f r (hg r hr)]) (fun r _ _=>by simp)
 have la:=xP (xD g) f;have lb:=xP (xD f) g;have hrest:∀o∈g.filter (fun o => !xD f o),JRow o:=fun o ho=>hg o (List.mem_filter.mp ho).1;have ek:v8 f g=(f.filter (xD g)++g.filter (xD f))++yR f g f:=rfl;have bl:∀i,(yR f g (f.take i)).length<=min i f.length*g.length:=fun i=>by
  rw[rm];refine Nat.mul_le_mul ?_ (List.length_filter_le _ _);have:=List.length_filter_le (fun r => !xD g r) (f.take i);rw[List.length_take] at this;exact this
 have cs:∀(i:Nat) (r:List (Int×Int)),f[i]? = some r->yR f g (f.take (i+1))=yR f g (f.take i)++(if xD g r=true then[] else(g.filter fun o => !xD f o).map (yA r)):=fun i r hr=>by
  unfold yR;rw[ym hr,List.filter_append,List.flatMap_append];cases c:xD g r with
  |true=>rw[List.filter_cons_of_neg (by rw[c];simp),Zd rfl];rfl
  |false=>rw[List.filter_cons_of_pos (by rw[c];rfl),Ze Zj];simp
 generalize hR:(g.filter fun o => !xD f o)=rest at m3 hrest cs lb;have lr:rest.length<=g.length:=by omega
 generalize hA:f.filter (xD g)++g.filter (xD f)=A at ek;have lA:A.length<=f.length+g.length:=by rw[<- hA,List.length_append];omega
 have sA:(f.filter (xD g)).length+(g.filter (xD f)).length<=sizeLine:=wN (by omega);have eA:(f.filter (xD g)).map rwD++(g.filter (xD f)).map rwD=A.map rwD:=by rw[<- hA,List.map_append]
 obtain⟨sd',e,u4,hsd⟩:=yI (tg:=.one 4) (b:=(sIf (vK (zu (zy pU (zc (zf 4) (zc (zf 1) zq))))) (vL 2 (wC [none,some 4] (iS (zf 3)) (.one 0) (zy hX (zc (zf 1) (zc (zf 0) zq))))) yx)) (ds:=f.map rwD) (sd:=[some (.val (frD f)),some (.val (frD g)),some (.own false (.lst (A.map rwD))),some (.val (.lst (rest.map rwD))),none])
  (P:=fun i sd=>∃(u4:Option SV),sd=[some (.val (frD f)),some (.val (frD g)),some (.own false (.lst ((A++yR f g (f.take i)).map rwD))),some (.val (.lst (rest.map rwD))),u4]) ⟨none,by rw[List.take_zero];simp[yR]⟩ (by
   rintro i x sd hx ⟨u4,rfl⟩;refine zc1b (xw hx) fun r hr zr2=>?_;subst zr2;have hi:=(List.getElem?_eq_some_iff.mp hr).1;have hm:=List.mem_of_getElem? hr;have c1:=cv g r (hf r hm);have b0:=bl i;have b1:(min i f.length+1)*g.length<=f.length*g.length:=Nat.mul_le_mul (by omega) (Zf _);rw[Nat.succ_mul] at b1;rw[cs i r hr];cases c:xD g r with
   |true =>
    rw[c] at c1;rw[Zd rfl,Zz];exact⟨[some (.val (frD f)),some (.val (frD g)),some (.own false (.lst ((A++yR f g (f.take i)).map rwD))),some (.val (.lst (rest.map rwD))),some (.val (rwD r))],by simp[c1],_,rfl⟩
   |false =>
    rw[c] at c1;rw[Ze Zj];have key:kY (.one 0) (zy hX (zc (zf 1) (zc (zf 0) zq))) [none,some (.val (rwD r))] (rest.map rwD)=.ok (rest.map fun o=>rwD (yA r o)):=vQ fun o ho=>by
     have l1:=(hf r hm).len;have l2:=(hrest o ho).len;simp[f_z1 (hf r hm).ne (hf r hm).once (hrest o ho).once (by omega) (by omega)]
    have em:(rest.map (yA r)).map rwD=rest.map fun o=>rwD (yA r o):=by rw[Zw];rfl
    have sz:(A++yR f g (f.take i)).length+rest.length<=sizeLine:=wN (by rw[List.length_append];omega);have lz:=z9 (show rest.length<=1000 by omega);refine⟨[some (.val (frD f)),some (.val (frD g)),some (.own false (.lst ((A++(yR f g (f.take i)++rest.map (yA r))).map rwD))),some (.val (.lst (rest.map rwD))),some (.val (rwD r))],?_,_,rfl⟩;rw[<- List.append_assoc];generalize A++yR f g (f.take i)=acc at sz ⊢;rw[List.map_append,em];simp[c1,key,lz,sz])
 subst hsd;rw[Zql,List.take_length] at e;have z1:=z9 (show f.length<=1000 by omega);have z2:=z9 (show g.length<=1000 by omega);rw[ek];simp[frD] at m1 m2 m3 e ⊢;simp[gM,fU,m1,m2,m3,z1,z2,sA,eA,e]
def ee:FS:=(zV (pW 2 (uo zq)) (zV (uM (iS (xq vq (zc (xq vd (zc (zf 0) zq)) zq))) (.one 3) (zV (sIf (zu (dOp gEq (jt [2] (xq o4 (zc (zf 2) zq))) (zf 1))) eG yx) (sIf (vK (zu (jt [2] (zy pU (zc (zf 3) (zc (zf 2) zq)))))) (yb 2 (zf 3)) yx))) (yN 2)))
def gU:List D->Res D:=si 4 2 ee
theorem sort_ded_strict (rs:List (List (Int×Int))):(zQ y8 (pN rs)).Pairwise fun a b=>y8 a b=true:=xb zL (sZ rs)
theorem f_lowest_any {rs:List (List (Int×Int))}{en:Int}(ne:∀r∈rs,r ≠ [])(ri:∀r∈rs,wg r)(hl:∀r∈rs,r.length<=100)(h64:rs.length<1000)(h0:0<=en):gU [frD rs,.int en]=.ok (frD ((pZ rs).take en.toNat)):=by
 have dl:=nv rs;have s1:vd [frD rs]=some (.lst ((zQ y8 (pN rs)).map rwD)):=gSortSet_rows ne (by omega) (by omega);have sl:(zQ y8 (pN rs)).length=(pN rs).length:=(zm (ltb:=y8) _).length_eq;have s2:vq [.lst ((zQ y8 (pN rs)).map rwD)]=some (.lst ((oe rs).map rwD)):=gSortLen_rows (sort_ded_strict rs) (by omega) fun r hr=>by
  have:=hl r (rA.mp ((zm (ltb:=y8) _).mem_iff.mp hr));omega
 have fold:=oW ri;have om:∀r,r∈oe rs->r∈rs:=fun r h=>uv.mp h;have ol:=nw rs;have eL:pZ rs=(oe rs).filter (vO rs):=rfl;rw[eL];simp[gU,ee,s1,s2];generalize oe rs=L at fold om ol;refine u6 (R:=fun z=>(z.bind (jq (yN 2))).bind ir=.ok (frD ((L.filter (vO rs)).take en.toNat))) (P:=fun i sd=>i<=L.length/\(((L.take i).filter (vO rs)).length:Int)<=en/\∃u,sd=[some (.val (frD rs)),some (.val (.int en)),some (.own false (.lst (((L.take i).filter (vO rs)).map rwD))),u]) ⟨Nat.zero_le _,by simpa using h0,none,rfl⟩ ?_ ?_
 ·rintro sd ⟨_,le,u,rfl⟩;rw[Zql,List.take_length] at le ⊢;rw[List.take_of_length_le (by omega)];simp[frD]
 ·rintro i x sd hx ⟨_,le,u,rfl⟩;refine zc1b (xw hx) fun r hp zr2=>?_;subst zr2;have hi:=(List.getElem?_eq_some_iff.mp hp).1;have f1:=fold (i+1) (by omega);rw[ym hp,List.foldl_append,fold i (by omega),<- ym hp] at f1;have f1:gN ((L.take i).filter (vO rs)) r=(L.take (i+1)).filter (vO rs):=f1;have kl:((L.take i).filter (vO rs)).length<=i:=by
   have a:=List.length_filter_le (vO rs) (L.take i);rw[List.length_take] at a;omega
  rw[<- f1];have hm:=om r (List.mem_of_getElem? hp);have fc:=eY (r:=r) (ks:=(L.take i).filter (vO rs)) (wV (ri r hm)) (hl r hm);have whole:L.filter (vO rs)=(L.take i).filter (vO rs)++(L.drop i).filter (vO rs):=by rw[<- List.filter_append,List.take_append_drop]
  generalize (L.take i).filter (vO rs)=ks at kl fc le whole;have fc:pU [rwD r,.lst (ks.map rwD)]=.ok (.bl (ks.any fun o=>zl o r)):=fc;have hz:=z9 (show ks.length<=1000 by omega);by_cases hne:(ks.length:Int)=en
  ·have ek:(L.filter (vO rs)).take en.toNat=ks:=by
    rw[whole,List.take_left' (by omega)]
   refine .inr (.inl ⟨[some (.val (frD rs)),some (.val (.int en)),some (.own false (.lst (ks.map rwD))),some (.val (rwD r))],by simp[hne],?_⟩);rw[ek];simp[frD]
  ·have ls:∀b,(ks.any fun o=>zl o r)=b->gN ks r=if b=true then ks else ks++[r]:=fun b hb=>by unfold gN;rw[hb]
   cases q:ks.any fun o=>zl o r with
   |true =>
    rw[q] at fc;rw[ls true q,Zd rfl];exact .inl ⟨[some (.val (frD rs)),some (.val (.int en)),some (.own false (.lst (ks.map rwD))),some (.val (rwD r))],.inl (by simp[hne,fc]),by omega,le,_,rfl⟩
   |false =>
    rw[q] at fc;rw[ls false q,Ze Zj];exact .inl ⟨[some (.val (frD rs)),some (.val (.int en)),some (.own false (.lst ((ks++[r]).map rwD))),some (.val (rwD r))],.inl (by simp[hne,fc,hz]),by omega,(by rw[List.length_append,List.length_singleton];omega),_,rfl⟩
def fG:FS:=(zV (xA 2 (pQ gU (zc (zf 0) (zc (dOp wU (zf 1) (dC (.int 1))) zq)))) (zV (sIf (zu (dOp gGt (xq o4 (zc (zf 2) zq)) (zf 1))) (me "TooMany" (dUn (fY "more than ") (zf 1))) yx) (xL (xq xi (zc (zf 2) zq)))))
def mT:List D->Res D:=si 3 2 fG
theorem lowL_len (rs:List (List (Int×Int))):(pZ rs).length=(yi rs).length:=by
 rw[<- ql,(zm (ltb:=y8) _).length_eq]
noncomputable def oD (most:Int)(t:List (List (Int×Int))):Option (List (List (Int×Int))):=if(t.length:Int)<=most then some t else none
def gH:Option (List (List (Int×Int)))->Res D
 |some t=>.ok (frD t)
 |none=>.ex "TooMany" []
theorem xK {rs:List (List (Int×Int))}{most:Int}(ne:∀r∈rs,r ≠ [])(ri:∀r∈rs,wg r)(hl:∀r∈rs,r.length<=100)(h64:rs.length<1000)(h0:0<=most)(hm2:most<=1000):mT [frD rs,.int most]=gH (oD most (yi rs)):=by
 have fl:=f_lowest_any (en:=most+1) ne ri hl h64 (by omega);have ll:(pZ rs).length<=rs.length:=Zh (List.length_filter_le _ _) (nw rs);have l2:=lowL_len rs;have glen:∀k:List (List (Int×Int)),o4 [frD k]=some (.int k.length):=fun k=>by
  show some (D.int (k.map rwD).length)=_;rw[Zql]
 unfold oD;by_cases c:((yi rs).length:Int)<=most
 ·rw[Zd c];rw[List.take_of_length_le (by omega)] at fl;have gs:xi [frD (pZ rs)]=some (.lst ((zQ y8 (pZ rs)).map rwD)):=wG (fun r hr=>ne r (uv.mp (List.mem_filter.mp hr).1)) (by omega);rw[ql] at gs;have gs:xi [frD (pZ rs)]=some (frD (yi rs)):=gs;have gl:=glen (pZ rs);have nl:¬most<((pZ rs).length:Int):=by omega
  show _=Res.ok (frD (yi rs));simp[mT,fG,fl,gl,nl,gs]
 ·rw[Ze c];have gl:=glen ((pZ rs).take (most+1).toNat);have nl:most<(((pZ rs).take (most+1).toNat).length:Int):=by
   rw[List.length_take];omega
  generalize (pZ rs).take (most+1).toNat=k at fl gl nl;obtain⟨z,hz⟩:=gFmt_int (x := "more than ") (a:=most) (by omega) (by omega);show _=Res.ex "TooMany" [];simp[mT,fG,fl,gl,nl,hz]
def fD:FS:=(zV (pW 2 (zy mT (zc (dOp gIx (zf 0) (dC (.int 0))) (zc (zf 1) zq)))) (zV (uM (iS (dSl (zf 0) (t6 (dC (.int 1))) xR xR)) (.one 3) (fun sd=>(pW 2 (zy mT (zc (pQ gM (zc (zf 2) (zc (zf 3) zq))) (zc (zf 1) zq)))) (tV [2] sd))) (yN 2)))
def mU:List D->Res D:=si 4 2 fD
def zH (t f:List (List (Int×Int))):List (List (Int×Int)):=yi (xk t f)
structure AllOk (fs:List (List (List (Int×Int))))(t:List (List (Int×Int))):Prop where
 row:∀r∈t,JRow r
 abv:∀r∈t,∀f∈fs,∃s∈f,zl s r=true
 least:∀q:List (Int×Int),(∀f∈fs,∃s∈f,zl s q=true)->∃r∈t,zl r q=true
 anti:∀r∈t,∀s∈t,zl r s=true->r=s
 strict:t.Pairwise fun a b=>y8 a b=true
theorem vX {r:List (Int×Int)}(o:yy r):zl r r=true:=yk.mpr fun p hp=>⟨p.2,o.look (t:=p.1) (w:=p.2) hp,Int.le_refl _⟩
theorem qu {rs:List (List (Int×Int))}:∀r∈yi rs,∀s∈yi rs,zl r s=true->r=s:=fun r hr s hs hu=>xS.mp (zt.mp hs).2 r (zt.mp hr).1 hu
theorem pP {f:List (List (Int×Int))}(h:∀r∈f,JRow r):AllOk [f] (yi f):=by
 refine⟨fun r hr=>h r (zt.mp hr).1,fun r hr g hg=>?_,fun q hq=>?_,qu,xg f⟩
 ·rw[List.mem_singleton.mp hg];exact⟨r,(zt.mp hr).1,vX (h r (zt.mp hr).1).once⟩
 ·refine zc1b (hq f (List.mem_singleton.mpr rfl)) fun s hs hu=>?_;refine zc1b (v0 (fun r hr=>⟨(h r hr).once,(h r hr).rise⟩) hs) fun r hr hr2=>?_;exact⟨r,hr,zB hr2 hu⟩
theorem sJ {fs:List (List (List (Int×Int)))}{t f:List (List (Int×Int))}(A:AllOk fs t)(h:∀r∈f,JRow r):AllOk (fs++[f]) (zH t f):=by
 have rows:∀q∈xk t f,JRow q:=fun q hq=>by
  refine zc1b (yC.mp hq) fun r hr zz=>zc1b zz fun o ho zr4=>?_;subst zr4;exact xh (A.row r hr) (h o ho)
 refine⟨fun r hr=>rows r (zt.mp hr).1,fun q hq g hg=>?_,fun q hq=>?_,qu,xg _⟩
 ·refine zc1b (yC.mp (zt.mp hq).1) fun r hr zz=>zc1b zz fun o ho zr4=>?_;subst zr4;rcases List.mem_append.mp hg with z|z
  ·refine zc1b (A.abv r hr g z) fun s hs hu=>?_;exact⟨s,hs,zB hu (tO (A.row r hr) (h o ho))⟩
  ·rw[List.mem_singleton.mp z];exact⟨o,ho,t5 (A.row r hr) (h o ho)⟩
 ·refine zc1b (A.least q fun g hg=>hq g (List.mem_append_left _ hg)) fun r hr hu=>?_;refine zc1b (hq f (List.mem_append_right _ (List.mem_singleton.mpr rfl))) fun o ho hu2=>?_;have hj:yA r o∈xk t f:=yC.mpr ⟨r,hr,o,ho,rfl⟩;refine zc1b (v0 (fun r hr=>⟨(rows r hr).once,(rows r hr).rise⟩) hj) fun s hs hs2=>?_;exact⟨s,hs,zB hs2 (vV (A.row r hr) (h o ho) hu hu2)⟩
theorem thin_ne {rs:List (List (Int×Int))}(h:∀r∈rs,JRow r)(hn:rs ≠ []):yi rs ≠ []:=fun z=>by
 cases rs with
 |nil=>exact hn rfl
 |cons r rs =>
  refine zc1b (v0 (fun r hr=>⟨(h r hr).once,(h r hr).rise⟩) (Zqs (a:=r) (l:=rs))) fun s hs _=>?_;rw[z] at hs
  first|exact zqn hs|exact zqb hs|(obtain rfl:=Zqi hs)|cases hs
theorem eachJ_ne {f g:List (List (Int×Int))}(hf:f ≠ [])(hg:g ≠ []):xk f g ≠ []:=fun z=>by
 have:=pJ f g;rw[z,ZB] at this;have a:=List.length_pos_iff.mpr hf;have b:=List.length_pos_iff.mpr hg;have:=Nat.mul_pos a b;omega
theorem thin_up {a b:List (List (Int×Int))}(ha:∀r∈a,JRow r)(hb:∀r∈b,JRow r)(h:∀q,(∃x∈a,zl x q=true)↔∃x∈b,zl x q=true):yi a=yi b:=by
 have half:∀{a b:List (List (Int×Int))},(∀r∈a,JRow r)->(∀r∈b,JRow r)->(∀q,(∃x∈a,zl x q=true)↔∃x∈b,zl x q=true)->∀r,r∈yi a->r∈yi b:=by
  intro a b ha hb h r hr;obtain⟨h1,h2⟩:=zt.mp hr;refine zc1b ((h r).mp ⟨r,h1,vX (ha r h1).once⟩) fun y hy hu=>?_;refine zc1b (v0 (fun r hr=>⟨(hb r hr).once,(hb r hr).rise⟩) hy) fun y' hy' hu'=>?_;have hyb:=(zt.mp hy').1;have u1:=zB hu' hu;refine zc1b ((h y').mpr ⟨y',hyb,vX (hb y' hyb).once⟩) fun x hx hxu=>?_;have e:=xS.mp h2 x hx (zB hxu u1);rw[e] at hxu;rw[vN (ha r h1).once (hb y' hyb).once (ha r h1).rise (hb y' hyb).rise hxu u1];exact hy'
 exact yL zL (xg a) (xg b) fun r=>⟨half ha hb h r,half hb ha (fun q=>(h q).symm) r⟩
theorem xG {f g:List (List (Int×Int))}(hf:∀r∈f,JRow r)(hg:∀r∈g,JRow r):∀q∈xk f g,JRow q:=fun q hq=>by
 refine zc1b (yC.mp hq) fun r hr zz=>zc1b zz fun o ho zr4=>?_;subst zr4;exact xh (hf r hr) (hg o ho)
theorem stepK_eq {t g:List (List (Int×Int))}(ht:∀r∈t,JRow r)(hg:∀r∈g,JRow r):yi (v8 t g)=zH t g:=thin_up (sT ht hg) (xG ht hg) (eachK_up ht hg)
def mD (most:Int):List (List (Int×Int))->List (List (List (Int×Int)))->Option (List (List (Int×Int)))
 |t,[]=>some t
 |t,g::gs=>(oD most (zH t g)).bind fun t'=>mD most t' gs
theorem qz (most:Int)(t g:List (List (Int×Int)))(gs:List (List (List (Int×Int)))):mD most t (g::gs)=(oD most (zH t g)).bind fun t'=>mD most t' gs:=rfl
def gD (most:Int)(f:List (List (Int×Int)))(fs:List (List (List (Int×Int)))):Option (List (List (Int×Int))):=(oD most (yi f)).bind fun t=>mD most t fs
theorem oS {most:Int}{t t':List (List (Int×Int))}(h:oD most t=some t'):t'=t/\(t.length:Int)<=most:=by
 unfold oD at h
 split at h
 ·rename_i c
  first|exact zqn h|exact zqb h|(obtain rfl:=Zqi h)|cases h
  exact⟨rfl,c⟩
 ·first|exact zqn h|exact zqb h|(obtain rfl:=Zqi h)|cases h
theorem stepJ_ne {t g:List (List (Int×Int))}(ht:∀r∈t,JRow r)(hg:∀r∈g,JRow r)(tn:t ≠ [])(gn:g ≠ []):zH t g ≠ []:=thin_ne (xG ht hg) (eachJ_ne tn gn)
theorem f_all_of_any {f:List (List (Int×Int))}{fs:List (List (List (Int×Int)))}{most:Int}(hf:f ≠ []/\∀r∈f,JRow r)(hfs:∀g∈fs,g ≠ []/\∀r∈g,JRow r)(l1:f.length<1000)(m1:0<=most)(m2:most<=1000)(l2:fs.length<=900)
 (sz:∀(i:Nat) (t g:List (List (Int×Int))),AllOk (f::fs.take i) t->(t.length:Int)<=most->fs[i]? = some g->(v8 t g).length<1000/\t.length+g.length+t.length*g.length<=1000) :
 mU [.lst ((f::fs).map frD),.int most]=gH (gD most f fs):=by
 have w1:=xK (rs:=f) (most:=most) (fun r hr=>(hf.2 r hr).ne) (fun r hr=>(hf.2 r hr).rise) (fun r hr=>by have:=(hf.2 r hr).len;omega) l1 m1 m2;have a0:atI ((f::fs).map frD) 0=some (frD f):=by
  rw[show((0:Int))=((0:Nat):Int) from rfl,rO (by simp)];rfl
 have sl:yc (frD f::fs.map frD) (some 1) none none=fs.map frD:=by
  rw[qx _ (by omega)];rfl
 unfold gD;cases q:oD most (yi f) with
 |none =>
  rw[q] at w1;have w1:mT [frD f,.int most]=.ex "TooMany" []:=w1;show _=Res.ex "TooMany" [];simp[mU,fD] at a0 ⊢;simp[a0,w1]
 |some t0 =>
  rw[q] at w1;obtain⟨e0,l0⟩:=oS q;have w1:mT [frD f,.int most]=.ok (frD t0):=w1;show _=gH (mD most t0 fs);have A0:AllOk [f] t0:=by rw[e0];exact pP hf.2
  have key:((lC (.one 3) (fun sd=>pW 2 (zy mT (zc (pQ gM (zc (zf 2) (zc (zf 3) zq))) (zc (zf 1) zq))) (tV [2] sd)) (fs.map frD) [some (.val (.lst ((f::fs).map frD))),some (.val (.int most)),some (.own false (frD t0)),none]).bind (jq (yN 2))).bind ir=gH (mD most t0 fs):=by
   refine for_rule_ex (R:=fun z=>(z.bind (jq (yN 2))).bind ir=gH (mD most t0 fs)) (P:=fun i sd=>∃(t:List (List (Int×Int))) (u3:Option SV),sd=[some (.val (.lst ((f::fs).map frD))),some (.val (.int most)),some (.own false (frD t)),u3]/\AllOk (f::fs.take i) t/\(t.length:Int)<=most/\mD most t (fs.drop i)=mD most t0 fs) ⟨t0,none,rfl,A0,by rw[e0];exact l0,rfl⟩ ?_ ?_
   ·rintro sd ⟨t,u3,rfl,A,lt,hq⟩;rw[Zql,List.drop_length] at hq;rw[<- hq];simp[gH,mD]
   ·rintro i x sd hx ⟨t,u3,rfl,A,lt,hq⟩;refine zc1b (xw hx) fun g hg zr2=>?_;subst zr2;have hi:=(List.getElem?_eq_some_iff.mp hg).1;have hm:=List.mem_of_getElem? hg;obtain⟨s1,s2⟩:=sz i t g A lt hg;have fj:=f_z5 (f:=t) (g:=g) A.row (hfs g hm).2 s2;have rows:=sT A.row (hfs g hm).2;have fw:=xK (rs:=v8 t g) (most:=most) (fun r hr=>(rows r hr).ne) (fun r hr=>(rows r hr).rise) (fun r hr=>by have:=(rows r hr).len;omega) s1 m1 m2;rw[stepK_eq A.row (hfs g hm).2] at fw;have ed:fs.drop i=g::fs.drop (i+1):=by
     rw[List.drop_eq_getElem_cons hi];rw[Zqg hi] at hg;rw[Zqi hg]
    rw[ed,qz] at hq;cases y:oD most (zH t g) with
    |none =>
     rw[y] at fw hq;have fw:mT [frD (v8 t g),.int most]=.ex "TooMany" []:=fw;refine .inr ⟨"TooMany",[],by simp[tV,fj,fw],?_⟩;rw[<- hq];rfl
    |some t1 =>
     rw[y] at fw hq;obtain⟨e1,l1⟩:=oS y;have fw:mT [frD (v8 t g),.int most]=.ok (frD t1):=fw;refine .inl ⟨[some (.val (.lst ((f::fs).map frD))),some (.val (.int most)),some (.own false (frD t1)),some (.val (frD g))],by simp[tV,fj,fw],t1,_,rfl,?_,by rw[e1];exact l1,hq⟩;rw[ym hg,e1];exact sJ A (hfs g hm).2
  simp[mU,fD] at a0 key ⊢;simp[a0,w1,sl,key]
theorem allOk_one_eq {fs:List (List (List (Int×Int)))}{t t':List (List (Int×Int))}(A:AllOk fs t)(B:AllOk fs t'):t=t':=by
 have half:∀{t t':List (List (Int×Int))},AllOk fs t->AllOk fs t'->∀r,r∈t->r∈t':=fun {t t'} A B r hr=>by
  refine zc1b (B.least r fun f hf=>A.abv r hr f hf) fun s hs hu=>?_;refine zc1b (A.least s fun f hf=>B.abv s hs f hf) fun r' hr' hu'=>?_;have e:=A.anti r' hr' r hr (zB hu' hu);rw[e] at hu';rw[vN (A.row r hr).once (B.row s hs).once (A.row r hr).rise (B.row s hs).rise hu' hu];exact hs
 exact yL zL A.strict B.strict fun r=>⟨half A B r,half B A r⟩
theorem stepJ_len (t g:List (List (Int×Int))):(zH t g).length<=t.length*g.length:=by
 have a:=vk (xk t g);rw[pJ] at a;exact a
theorem nJ {c:Nat}:∀{gs:List (List (List (Int×Int)))} {t:List (List (Int×Int))},(∀g∈gs,g.length<=c)->(gs.foldl zH t).length<=t.length*c ^ gs.length
 | [],t,_=>by simp
 |g::gs,t,h=>by
  rw[List.foldl_cons,Zu,Nat.pow_succ];have a:=nJ (gs:=gs) (t:=zH t g) fun x hx=>h x (Zqm _ hx);have b:=Zh (stepJ_len t g) (Nat.mul_le_mul (Zf t.length) (h g Zqs));have d:=Nat.mul_le_mul b (Zf (c ^ gs.length));rw[Nat.mul_comm (c ^ gs.length) c,<- Nat.mul_assoc];exact Zh a d
theorem oI:∀{gs fs:List (List (List (Int×Int)))} {t:List (List (Int×Int))},AllOk fs t->(∀g∈gs,∀r∈g,JRow r)->AllOk (fs++gs) (gs.foldl zH t)
 | [],fs,t,A,_=>by rw[Zz];exact A
 |g::gs,fs,t,A,h=>by
  have:=oI (gs:=gs) (sJ A (h g Zqs)) fun x hx=>h x (Zqm _ hx);rw[List.append_assoc] at this;exact this
def jv:FS:=(zV (xA 2 (dC (.bl false))) (zV (jC "TooMany" (jQ (oY mU (zc (zf 0) (zc (zf 1) zq)))) (xA 2 (dC (.bl true)))) (xL (zf 2))))
def ko:List D->Res D:=ur 3 2 jv
theorem f_z24 {ds:D}{most:Int}(h:mU [ds,.int most]=.ex "TooMany" []):ko [ds,.int most]=.ok (.bl true):=by
 simp[ko,jv,h,Res.strict]
def jP:FS:=(zV (xA 3 (xq jR (zc (zf 2) (zc (xq lG (zc (dC (.int 0)) (zc (dOp gO (xq o4 (zc (zf 0) zq)) (zf 1)) zq))) zq)))) (xL (wC [none,some 0,some 1,some 2] (iR1 (zc (zf 3) zq)) (.one 0) (xq fJ (zc (dSl (zf 1) (t6 (dOp wU (zf 2) (zf 0))) xR (t6 (zf 3))) zq)))))
def mZ:List D->Res D:=si 4 3 jP
theorem f_law_turnsG {ns:List Int}(h:ns.length<=63){a most:Int}(a0:0<=a)(a1:a<=100)(m0:1<=most)(m1:most<=60):∃cs:List Int,(cs.length:Int)<=most/\mZ [.scr ns,.int a,.int most]=.ok (.lst (cs.map .int)):=by
 obtain⟨m,hm,em⟩:∃m:Nat,(m:Int)<=most/\(if(if a<(ns.length:Int) then(ns.length:Int)-a else 0)<most then(if a<(ns.length:Int) then(ns.length:Int)-a else 0) else most)=(m:Int):=by
  refine⟨(if(if a<(ns.length:Int) then(ns.length:Int)-a else 0)<most then(if a<(ns.length:Int) then(ns.length:Int)-a else 0) else most).toNat,?_,?_⟩<;>(repeat' split)<;>omega
 have r1:ww [.int (m:Int)]=.ok (zW 0 m):=by
  rw[yJ (by omega) (by omega),Int.toNat_natCast]
 have key:kY (.one 0) (xq fJ (zc (dSl (zf 1) (t6 (dOp wU (zf 2) (zf 0))) xR (t6 (zf 3))) zq)) [none,some (.val (.scr ns)),some (.val (.int a)),some (.val (.int most))] (zW 0 m)=.ok ((List.range m).map fun k:Nat=>.int (yc ns (some (a+(k:Int))) none (some most)).sum):=rc fun i hi=>by
  have gs:=gSl_scr (ds:=ns) (lo:=some (a+(i:Int))) (hi:=none) (c:=most) (by omega);simp[gs]
 refine⟨(List.range m).map fun k:Nat=>(yc ns (some (a+(k:Int))) none (some most)).sum,by simpa using hm,?_⟩;rw[Zw];have lz:=z9 (show m<=1000 by omega);simp[mZ,jP,em,r1,key,xI,lz]
def je:FS:=(zV (xA 1 (dOp gIx (uo (zc (dC (.int 2)) (zc (dC (.int 3)) (zc (dC (.int 4)) (zc (dC (.int 5)) (zc (dC (.int 6)) (zc (dC (.int 12)) zq))))))) (dOp tW (zy o3 (zc (zf 0) (zc (dC (.int 0)) zq))) (dC (.int 6))))) (zV (xA 2 (dOp wU (dC (.int 1)) (dOp tW (zy o3 (zc (zf 0) (zc (dC (.int 1)) zq))) (dC (.int 3))))) (zV (xA 3 (dOp wU (dC (.int 1)) (dOp tW (dOp uV (zy o3 (zc (zf 0) (zc (dC (.int 2)) zq))) (dC (.int 2))) (dOp gIx (uo (zc (dC (.int 60)) (zc (dC (.int 8)) zq))) (dOp tW (zy o3 (zc (zf 0) (zc (dC (.int 2)) zq))) (dC (.int 2))))))) (zV (xA 4 (zy k6 (zc (zy mZ (zc (zf 0) (zc (dC (.int 3)) (zc (dC (.int 12)) zq)))) (zc (zf 2) (zc (zf 1) zq))))) (zV (xA 5 (zy jh (zc (zf 4) zq))) (zV (xA 6 (wC [none] (iS (zf 4)) (.one 0) (xq kb (zc (zf 0) zq)))) (zV (sIf (zu (dOp gGt (xq tZ (zc (wC [none] (iS (zf 5)) (.one 0) (xq o4 (zc (zf 0) zq))) zq)) (zf 3))) (xL (kr (zy ko (zc (zf 6) (zc (zf 3) zq))) (dOp gEq (zf 6) (zf 4)))) yx) (zV (pW 7 (zy mU (zc (zf 6) (zc (zf 3) zq)))) (zV (sIf (mS (vK (zu (jt [7] (zy kG (zc (zf 7) zq))))) (mS (ow [7] (zu (dOp gNe (zf 7) (dOp gIx (zf 5) (dUn i9 (dC (.int 1))))))) (zu (dOp gNe (zf 6) (zf 4))))) (xL (dC (.bl false))) yx) (zV (uM (iR1 (zc (dC (.int 4)) zq)) (.one 8) (zV (xA 9 (zy mC (zc (dOp wU (zy o3 (zc (zf 0) (zc (dOp wU (dC (.int 3)) (zf 8)) zq))) (zf 8)) (zc (zf 1) zq)))) (sIf (zu (dOp gNe (jt [7] (zy sr (zc (zf 7) (zc (zf 9) zq)))) (xq tZ (zc (wC [none,some 9] (iS (zf 4)) (.one 0) (zy sr (zc (zf 0) (zc (zf 1) zq)))) zq)))) (xL (dC (.bl false))) yx))) (zV (yb 7 (mM (zc (mM (zc (dC (.int 0)) (zc (dC (.int 7)) zq))) zq))) (xL (kr (dOp gEq (zf 6) (zf 4)) (dOp gEq (zy mU (zc (zf 6) (zc (zf 3) zq))) (dOp gIx (zf 5) (dUn i9 (dC (.int 1))))))))))))))))))
def pG:List D->Res D:=ur 10 1 je
noncomputable def menuT:List Int:=[2,3,4,5,6,12]
theorem menuT_at (x:Int):∃t:Int,atI [D.int 2,D.int 3,D.int 4,D.int 5,D.int 6,D.int 12] (x % 6)=some (.int t)/\1<=t/\t<=12:=by
 have h1:=Int.emod_nonneg x (show(6:Int)≠0 by omega);have h2:=Int.emod_lt_of_pos x (show(0:Int)<6 by omega);have h:=rS (hs:=menuT) h1 (by show x % 6<((6:Nat):Int);omega);refine⟨_,h,?_⟩;have:x % 6=0\/x % 6=1\/x % 6=2\/x % 6=3\/x % 6=4\/x % 6=5:=by omega
 rcases this with q|q|q|q|q|q<;>rw[q]<;>decide
theorem rise_getD {rs:List (List (Int×Int))}(h:∀r∈rs,wg r)(i:Nat):wg (rs.getD i []):=by
 rw[List.getD_eq_getElem?_getD];cases q:rs[i]? with
 |none=>exact rZ
 |some r=>exact h r (List.mem_of_getElem? q)
theorem listStep_rise {n:Int}{rs:List (List (Int×Int))}{c:Int}(h:∀r∈rs,wg r):∀r∈yh n rs c,wg r:=by
 intro r hr;unfold yh at hr
 split at hr
 ·rcases List.mem_append.mp hr with z|z
  ·exact h r z
  ·rw[List.mem_singleton.mp z];exact variedG_rise (rise_getD h _)
 ·rcases List.mem_append.mp hr with z|z
  ·exact h r z
  ·rw[List.mem_singleton.mp z];exact rowG_rise _ _ _ _ _
theorem wK {n:Int}:∀(cs:List Int) (rs:List (List (Int×Int))),(∀r∈rs,wg r)->∀r∈cs.foldl (yh n) rs,wg r
 | [],rs,h=>h
 |c::cs,rs,h=>by rw[List.foldl_cons];exact wK cs _ (listStep_rise h)
theorem listB_rise (n:Int)(cs:List Int):∀r∈xQ n cs,wg r:=wK cs [] fun _ h=>nomatch h
theorem formB_fm {n:Int}{k:Nat}{U rs:List (List (Int×Int))}(h1:1<=n)(ok:∀r∈rs,RowOk n r)(ri:∀r∈rs,wg r)(hl:rs.length<=40)(u1:∀r∈rs,r∈U)(u2 : [((k:Int) % n,0)]∈U):Fm n U (mJ n k (yi rs)):=by
 unfold mJ
 split
 ·refine⟨good_one ⟨by simp,by unfold yy;simp,fun p hp=>?_,by simp⟩ (nW _),fun r hr=>by rw[List.mem_singleton.mp hr];exact u2⟩;rw[List.mem_singleton.mp hp];exact⟨Int.emod_nonneg _ (by omega),Int.emod_lt_of_pos _ (by omega)⟩
 ·rename_i q;have l:=vk rs;refine⟨thin_good ok ri hl fun z=>q ?_,fun r hr=>u1 r (zt.mp hr).1⟩;subst z;exact List.length_eq_zero_iff.mp (Nat.le_zero.mp l)
theorem pick_step {α : Type}(xs:List α)(k m:Nat)(h1:m=1\/m=2\/m=3)(hl:xs.length<=12):(yc xs (some (k:Int)) none (some (m:Int))).length*m<=12+(m-1):=by
 unfold yc;refine Zh (Nat.mul_le_mul_right _ (List.length_filterMap_le _ _)) ?_;unfold sliceRange;rw[Zql,ZA];unfold sliceBounds;rcases h1 with rfl|rfl|rfl
 ·simp;omega
 ·simp;omega
 ·simp;omega
theorem rJ {k:Int}:∀{r:List (Int×Int)},yy r->(r.filter fun p=>decide (p.1=k)).map (·.2)=(zk r k).toList
 | [],_=>rfl
 |p::r,o=>by
  have o1:yy r:=(List.nodup_cons.mp o).2;have o2:p.1∉r.map (·.1):=(List.nodup_cons.mp o).1;have ih:=rJ (k:=k) o1;rw[yM,List.filter_cons];by_cases c:p.1=k
  ·have e:zk r k=none:=by
    cases q:zk r k with
    |none=>rfl
    |some w=>exact Zn (List.mem_map.mpr ⟨(k,w),zv q,c.symm⟩) o2
   rw[e] at ih ⊢;rw[Zd (Zp c),Zl,ih,Zd c];rfl
  ·rw[Ze (by simpa using c),ih,Ze c];cases zk r k<;>rfl
def jD (r o:List (Int×Int))(i:Nat):List (Int×Int):=(List.range i).filterMap fun (k:Nat)=>(jw (zk r (k:Int)) (zk o (k:Int))).map fun w=>((k:Int),w)
theorem lawJ_succ (r o:List (Int×Int))(i:Nat):jD r o (i+1)=jD r o i++((jw (zk r (i:Int)) (zk o (i:Int))).map fun w=>((i:Int),w)).toList:=by
 unfold jD;rw[List.range_succ,List.filterMap_append]
 congr 1
theorem lawJ_len (r o:List (Int×Int))(i:Nat):(jD r o i).length<=i:=by
 refine Zh (List.length_filterMap_le _ _) ?_;rw[ZA];exact Zf _
theorem lawJ_eq {r o:List (Int×Int)}(hr:JRow r)(ho:JRow o):jD r o 12=yA r o:=by
 refine yL x3 ?_ (uf (xH o r hr.once)) fun p=>?_
 ·unfold jD;rw[List.pairwise_filterMap];refine(List.pairwise_lt_range (n:=12)).imp fun {a b} h x hx y hy=>?_;obtain⟨w,_,rfl⟩:=Option.map_eq_some_iff.mp hx;obtain⟨v,_,rfl⟩:=Option.map_eq_some_iff.mp hy;rw[yO];left;show(a:Int)<(b:Int);omega
 ·have J:=xh hr ho;have lk:=xa hr.once ho.once p.1;constructor
  ·intro h;obtain⟨k,hk,e⟩:=List.mem_filterMap.mp h;obtain⟨w,hw,rfl⟩:=Option.map_eq_some_iff.mp e;exact(uy J.once).mpr ((xa hr.once ho.once _).trans hw)
  ·intro h;have b:=J.bnd p h;have e:=(uy J.once (t:=p.1) (w:=p.2)).mp h;rw[lk] at e;refine List.mem_filterMap.mpr ⟨p.1.toNat,List.mem_range.mpr (by omega),?_⟩;rw[show((p.1.toNat:Nat):Int)=p.1 by omega,e];rfl
theorem f_z22 {r o:List (Int×Int)}(hr:JRow r)(ho:JRow o):pL [rwD r,rwD o]=.ok (rwD (yA r o)):=by
 have lr:=hr.len;have lo:=ho.len;have ga:wU (.tup (r.map prD)) (.tup (o.map prD))=some (.tup ((r++o).map prD)):=by
  rw[List.map_append];show(if r.map prD ≠ []/\o.map prD ≠ []/\(r.map prD).length+(o.map prD).length<=sizeLine then _ else _)=_;exact Zd ⟨fun z=>hr.ne (List.map_eq_nil_iff.mp z),fun z=>ho.ne (List.map_eq_nil_iff.mp z),wN (by rw[Zql,Zql];omega)⟩
 have r12:ww [.int 12]=.ok (zW 0 12):=yJ (by omega) (by omega);have lz:((r++o).map prD).length<sizeLine:=z9 (by rw[Zql,List.length_append];omega);obtain⟨sd',e,u3,u4,hsd⟩:=yI (tg:=.one 3) (b:=(zV (xA 4 (xy [none,some 3] (iS (dOp wU (zf 0) (zf 1))) (.one 0) (zu (dOp gEq (dOp gIx (zf 0) (dC (.int 0))) (zf 1))) (dOp gIx (zf 0) (dC (.int 1))))) (sIf (zu (dOp gNe (zf 4) (uo zq))) (yb 2 (mM (zc (zf 3) (zc (xq tZ (zc (zf 4) zq)) zq)))) yx))) (ds:=zW 0 12)
  (sd:=[some (.val (.tup (r.map prD))),some (.val (.tup (o.map prD))),some (.own false (.lst [])),none,none])
  (P:=fun i sd=>∃u3 u4:Option SV,sd=[some (.val (.tup (r.map prD))),some (.val (.tup (o.map prD))),some (.own false (.lst ((jD r o i).map prD))),u3,u4]) ⟨none,none,rfl⟩ (by
   rintro i x sd hx ⟨u3,u4,rfl⟩;obtain⟨rfl,hi⟩:=vg hx;have eI:(0+(i:Int))=(i:Int):=by omega
   rw[eI];have key:va (.one 0) (zu (dOp gEq (dOp gIx (zf 0) (dC (.int 0))) (zf 1))) (dOp gIx (zf 0) (dC (.int 1))) [none,some (.val (.int (i:Int)))] ((r++o).map prD)=.ok (((r++o).filter fun p=>decide (p.1=(i:Int))).map fun p=>D.int p.2):=wY (s:=fun p=>[some (.val (prD p)),some (.val (.int (i:Int)))]) (fun p _=>by simp) (fun p _=>by simp) (fun p _ _=>by simp);have ws:((r++o).filter fun p=>decide (p.1=(i:Int))).map (fun p=>D.int p.2)=((zk r (i:Int)).toList++(zk o (i:Int)).toList).map .int:=by
    rw[<- rJ hr.once,<- rJ ho.once,<- List.map_append,<- List.filter_append,Zw];rfl
   rw[ws] at key;generalize (r++o).map prD=ds at ga key lz;have lj:=lawJ_len r o i;have lz2:=z9 (show(jD r o i).length<=1000 by omega);refine⟨[some (.val (.tup (r.map prD))),some (.val (.tup (o.map prD))),some (.own false (.lst ((jD r o (i+1)).map prD))),some (.val (.int (i:Int))),some (.val (.lst (((zk r (i:Int)).toList++(zk o (i:Int)).toList).map .int)))],?_,_,_,rfl⟩;rw[lawJ_succ];generalize zk r (i:Int)=a at key;generalize zk o (i:Int)=b at key;obtain⟨ws,hws⟩:∃ws,a.toList++b.toList=ws:=⟨_,rfl⟩;have ne:gNe (.lst (ws.map .int)) (.lst [])=some (.bl (!ws.isEmpty)):=by rw[uO (pl_ints ws) x6,zX]
   rw[hws] at key ⊢;have sm:Option.map (fun w=>(((i:Nat):Int),w)) (jw a b)=if ws=[] then none else some ((i:Int),rC ws):=by
    rw[<- hws];cases a with
    |none =>
     cases b with
     |none=>rfl
     |some y=>rfl
    |some x =>
     cases b with
     |none=>rfl
     |some y =>
      show some (((i:Nat):Int),if x > y then x else y)=some ((i:Int),max x y)
      congr 2
      omega
   rw[sm];cases ws with
   |nil =>
    have ne:gNe (.lst []) (.lst [])=some (.bl false):=ne;simp[ga,key,lz,ne]
   |cons w ws =>
    have mx:=vS (ns:=w::ws) (by simp);generalize hd:w::ws=vs at *;have vn:vs ≠ []:=by rw[<- hd];simp
    have ve:vs.isEmpty=false:=by rw[<- hd];rfl
    rw[ve] at ne;simp[ga,key,lz,ne,mx,lz2,vn,prD])
 rw[xI] at hsd;subst hsd;have eq:=lawJ_eq hr ho;simp[pL,jE,rwD,r12,e,eq]
def mdJ:List (List (Int×Int))->List (List (List (Int×Int)))->List (List (List (Int×Int)))
 |t,[]=>[t]
 |t,g::gs=>t::mdJ (zH t g) gs
theorem nh:∀(gs:List (List (List (Int×Int)))) (t g:List (List (Int×Int))),mdJ t (gs++[g])=mdJ t gs++[zH (gs.foldl zH t) g]
 | [],t,g=>rfl
 |x::gs,t,g=>by
  show t::mdJ (zH t x) (gs++[g])=t::mdJ (zH t x) gs++[zH (gs.foldl zH (zH t x)) g];rw[nh gs];rfl
theorem qa:∀(gs:List (List (List (Int×Int)))) (t:List (List (Int×Int))),∃ys,mdJ t gs=ys++[gs.foldl zH t]
 | [],t=>⟨[],rfl⟩
 |g::gs,t=>by
  obtain⟨ys,e⟩:=qa gs (zH t g);exact⟨t::ys,by show t::mdJ (zH t g) gs=_;rw[e];rfl⟩
theorem oy:∀(gs:List (List (List (Int×Int)))) (t:List (List (Int×Int))),(mdJ t gs).length=gs.length+1
 | [],t=>rfl
 |g::gs,t=>by show(mdJ (zH t g) gs).length+1=_;rw[oy gs];rfl
theorem o0 {most:Int}:∀(gs:List (List (List (Int×Int)))) (t:List (List (Int×Int))),(t.length:Int)<=most->((∀x∈mdJ t gs,(x.length:Int)<=most)->mD most t gs=some (gs.foldl zH t))/\((∃x∈mdJ t gs,most<(x.length:Int))->mD most t gs=none)
 | [],t,h=>⟨fun _=>rfl,fun ⟨x,hx,hl⟩=>by
  rw[List.mem_singleton.mp hx] at hl;omega⟩
 |g::gs,t,h=>by
  rw[qz];by_cases c:((zH t g).length:Int)<=most
  ·have e:oD most (zH t g)=some (zH t g):=Zd c;rw[e];obtain⟨a,b⟩:=o0 gs (zH t g) c;refine⟨fun k=>a fun x hx=>k x (Zqm _ hx),fun ⟨x,hx,hl⟩=>b ?_⟩;rcases List.mem_cons.mp hx with z|z
   ·rw[z] at hl;omega
   ·exact⟨x,z,hl⟩
  ·have e:oD most (zH t g)=none:=Ze c;rw[e];refine⟨fun k=>?_,fun _=>rfl⟩;have:zH t g∈mdJ t (g::gs):=by
    refine Zqm _ ?_;cases gs with
    |nil=>exact Zqs
    |cons x gs=>exact Zqs
   exact Zn (k _ this) c
theorem all_comes {n:Int}{fs:List (List (List (Int×Int)))}{t:List (List (Int×Int))}{hs:List Int}(A:AllOk fs t)(tn:t ≠ [])(fn:fs ≠ [])(hf:∀f∈fs,f ≠ []/\∀r∈f,r ≠ []/\yy r/\∀p∈r,0<=p.1/\p.1<12):yP t hs=rC (fs.map fun f=>yP f hs):=by
 have hmax:∀{r:List (Int×Int)},r ≠ []->∀p∈r,sV hs p.1+p.2<=yZ r hs:=fun {r} hr p hp=>(xC (l:=r.map fun p=>sV hs p.1+p.2) (fun z=>hr (List.map_eq_nil_iff.mp z))).2 _ (List.mem_map.mpr ⟨p,hp,rfl⟩);have hle:∀{r:List (Int×Int)} {M:Int},r ≠ []->(∀p∈r,sV hs p.1+p.2<=M)->yZ r hs<=M:=fun {r M} hr h=>by
  obtain⟨m,_⟩:=xC (l:=r.map fun p=>sV hs p.1+p.2) (fun z=>hr (List.map_eq_nil_iff.mp z));obtain⟨p,hp,e⟩:=List.mem_map.mp m;have:=h p hp;have e:sV hs p.1+p.2=yZ r hs:=e;omega
 obtain⟨m1,m2⟩:=xC (l:=fs.map fun f=>yP f hs) (fun z=>fn (List.map_eq_nil_iff.mp z));have m2:∀f∈fs,yP f hs<=rC (fs.map fun f=>yP f hs):=fun f h=>m2 _ (List.mem_map.mpr ⟨f,h,rfl⟩);obtain⟨f0,hf0,e0⟩:=List.mem_map.mp m1;have e0:yP f0 hs=rC (fs.map fun f=>yP f hs):=e0;generalize rC (fs.map fun f=>yP f hs)=M at m2 e0;obtain⟨r,hr,er⟩:=mh (hs:=hs) tn;have lo:M<=yP t hs:=by
  obtain⟨s,hs',hu⟩:=A.abv r hr f0 hf0;have c1:=nV (hs:=hs) hs';have c2:yZ s hs<=yZ r hs:=hle ((hf f0 hf0).2 s hs').1 fun p hp=>by
   obtain⟨w,hw,hl⟩:=yk.mp hu p hp;have:=hmax (A.row r hr).ne (p.1,w) (zv hw);have this:sV hs p.1+w<=yZ r hs:=this;omega
  omega
 obtain⟨q,hq,hu⟩:=A.least ((List.range 12).map fun k:Nat=>((k:Int),M-sV hs (k:Int))) fun f h=>by
  obtain⟨s,hs',es⟩:=mh (hs:=hs) (hf f h).1;obtain⟨s1,s2,s3⟩:=(hf f h).2 s hs';refine⟨s,hs',yk.mpr fun p hp=>⟨M-sV hs p.1,?_,?_⟩⟩
  ·have on:yy ((List.range 12).map fun k:Nat=>((k:Int),M-sV hs (k:Int))):=by
    unfold yy;rw[Zw];unfold List.Nodup;rw[List.pairwise_map];exact(List.nodup_range (n:=12)).imp fun {a b} h e=>h (by have e:(a:Int)=(b:Int):=e;omega)
   have b:=s3 p hp;exact on.look (List.mem_map.mpr ⟨p.1.toNat,List.mem_range.mpr (by omega),by rw[show((p.1.toNat:Nat):Int)=p.1 by omega]⟩)
  ·have a:=hmax s1 p hp;have b:=m2 f h;omega
 have c1:=nV (hs:=hs) hq;have c2:yZ q hs<=M:=hle (A.row q hq).ne fun p hp=>by
  obtain⟨w,hw,hl⟩:=yk.mp hu p hp;obtain⟨k,hk,ek⟩:=List.mem_map.mp (zv hw);have e1:((k:Nat):Int)=p.1:=Zt Prod.fst ek;have e2:M-sV hs ((k:Nat):Int)=w:=Zt Prod.snd ek;rw[e1] at e2;omega
 omega
theorem pS:∀(gs:List (List (List (Int×Int)))) (t:List (List (Int×Int))),(∀r∈t,JRow r)->(∀g∈gs,∀r∈g,JRow r)->∀r∈gs.foldl zH t,JRow r
 | [],t,ht,_=>ht
 |g::gs,t,ht,hg=>pS gs (zH t g) (fun r hr=>xG ht (hg g Zqs) r (zt.mp hr).1) fun x hx=>hg x (Zqm _ hx)
theorem eachJ_take {t g:List (List (Int×Int))}{j:Nat}{r:List (Int×Int)}(h:t[j]? = some r):xk (t.take (j+1)) g=xk (t.take j) g++g.map (yA r):=by
 unfold xk;rw[List.take_succ,h];show List.flatMap _ (_++[r])=_;rw[List.flatMap_append,List.flatMap_singleton]
theorem sL (t g:List (List (Int×Int))):(xk t g).length=t.length*g.length:=by
 unfold xk
 induction t with
 |nil=>simp
 |cons r t ih=>rw[List.flatMap_cons,List.length_append,ih,Zql,Zu,Nat.succ_mul,Nat.add_comm]
theorem f_z23 {f:List (List (Int×Int))}{fs:List (List (List (Int×Int)))}(hf:∀r∈f,JRow r)(hfs:∀g∈fs,∀r∈g,JRow r)(l2:fs.length<=900)(sz:∀i g,fs[i]? = some g->((fs.take i).foldl zH f).length*g.length<=64/\g.length<=64):jh [.lst ((f::fs).map frD)]=.ok (.lst ((mdJ f fs).map frD)):=by
 have a0:atI ((f::fs).map frD) 0=some (frD f):=by
  rw[show((0:Int))=((0:Nat):Int) from rfl,rO (by simp)];rfl
 have sl:yc (frD f::fs.map frD) (some 1) none none=fs.map frD:=by
  rw[qx _ (by omega)];rfl
 obtain⟨sd1,e1,u2,u3,u4,hsd1⟩:=yI (tg:=.one 2) (b:=(zV (xA 3 (uo zq)) (zV (uM (iS (ue 1 (dUn i9 (dC (.int 1))))) (.one 4) (xA 3 (dOp wU (zf 3) (wC [none,some 4] (iS (zf 2)) (.one 0) (zy pL (zc (zf 1) (zc (zf 0) zq))))))) (yb 1 (zy qp (zc (zf 3) zq)))))) (ds:=fs.map frD)
  (sd:=[some (.val (.lst ((f::fs).map frD))),some (.own false (.lst [frD f])),none,none,none])
  (P:=fun i sd=>∃u2 u3 u4:Option SV,sd=[some (.val (.lst ((f::fs).map frD))),some (.own false (.lst ((mdJ f (fs.take i)).map frD))),u2,u3,u4]) ⟨none,none,none,rfl⟩ (by
   rintro i x sd hx ⟨u2,u3,u4,rfl⟩;refine zc1b (xw hx) fun g hg zr2=>?_;subst zr2;have hi:=(List.getElem?_eq_some_iff.mp hg).1;have jg:=hfs g (List.mem_of_getElem? hg);obtain⟨s1,s2⟩:=sz i g hg;have T:=pS (fs.take i) f hf fun x hx=>hfs x (List.mem_of_mem_take hx);obtain⟨ys,ey⟩:=qa (fs.take i) f;have lm:=oy (fs.take i) f;have tk:fs.take (i+1)=fs.take i++[g]:=by rw[List.take_succ,hg];rfl
   have en:mdJ f (fs.take (i+1))=mdJ f (fs.take i)++[zH ((fs.take i).foldl zH f) g]:=by rw[tk,nh]
   rw[en];generalize (fs.take i).foldl zH f=t at T ey s1;have ll:=mv (f:=frD) ys t;rw[<- ey] at ll;have lz:((mdJ f (fs.take i)).map frD).length<sizeLine:=z9 (by rw[Zql,lm,List.length_take];omega);have es:(mdJ f (fs.take i)++[zH t g]).map frD=(mdJ f (fs.take i)).map frD++[frD (yi (xk t g))]:=by rw[List.map_append];rfl
   rw[es];generalize (mdJ f (fs.take i)).map frD=zs at ll lz;have ll:gIx (.lst zs) (.int (-1))=some (frD t):=ll;have lz2:=z9 (show g.length<=1000 by omega);obtain⟨sd2,e2,v4,hsd2⟩:=yI (tg:=.one 4) (b:=(xA 3 (dOp wU (zf 3) (wC [none,some 4] (iS (zf 2)) (.one 0) (zy pL (zc (zf 1) (zc (zf 0) zq))))))) (ds:=t.map rwD)
    (sd:=[some (.val (.lst ((f::fs).map frD))),some (.own false (.lst zs)),some (.val (frD g)),some (.val (frD [])),u4])
    (P:=fun j sd=>∃v4:Option SV,sd=[some (.val (.lst ((f::fs).map frD))),some (.own false (.lst zs)),some (.val (frD g)),some (.val (frD (xk (t.take j) g))),v4]) ⟨u4,rfl⟩ (by
     rintro j y sd hy ⟨v4,rfl⟩;obtain⟨r,hr,rfl⟩:=xw hy;have hj:=(List.getElem?_eq_some_iff.mp hr).1;have jr:=T r (List.mem_of_getElem? hr);have key:kY (.one 0) (zy pL (zc (zf 1) (zc (zf 0) zq))) [none,some (.val (rwD r))] (g.map rwD)=.ok (g.map fun o=>rwD (yA r o)):=vQ fun o ho=>by
      have:=f_z22 jr (jg o ho);simp[this]
     have eg:D.lst (g.map fun o=>rwD (yA r o))=frD (g.map (yA r)):=by unfold frD;rw[Zw];rfl
     have lt:(t.take j).length*g.length<=t.length*g.length:=Nat.mul_le_mul_right _ (by rw[List.length_take];omega);have ga:=gAdd_fr (f:=xk (t.take j) g) (g:=g.map (yA r)) (by rw[sL,Zql];omega);rw[<- eg] at ga;refine⟨[some (.val (.lst ((f::fs).map frD))),some (.own false (.lst zs)),some (.val (frD g)),some (.val (frD (xk (t.take (j+1)) g))),some (.val (rwD r))],?_,_,rfl⟩;rw[eachJ_take hr];simp[key,lz2,ga])
   rw[Zql,List.take_length] at hsd2;subst hsd2;have rows:=xG T jg;have ft:=gY (rs:=xk t g) (fun r hr=>(rows r hr).ne) (fun r hr=>(rows r hr).once) (fun r hr=>by have:=(rows r hr).len;omega) (by rw[sL];omega);refine⟨[some (.val (.lst ((f::fs).map frD))),some (.own false (.lst (zs++[frD (yi (xk t g))]))),some (.val (frD g)),some (.val (frD (xk t g))),v4],?_,_,_,_,rfl⟩;have f0:frD []=.lst []:=rfl;rw[f0,Zl] at e2;simp at ll;simp[ll,e2,ft,lz])
 rw[Zql,List.take_length] at hsd1;subst hsd1;simp[jh,j6] at a0 e1 ⊢;simp[a0,sl,e1]
theorem lR:∀(gs:List (List (List (Int×Int)))) (t:List (List (Int×Int))),(∀r∈t,JRow r)->t ≠ []->(∀g∈gs,g ≠ []/\∀r∈g,JRow r)->gs.foldl zH t ≠ []
 | [],t,_,tn,_=>tn
 |g::gs,t,ht,tn,hg=>lR gs (zH t g) (fun r hr=>xG ht (hg g Zqs).2 r (zt.mp hr).1) (stepJ_ne ht (hg g Zqs).2 tn (hg g Zqs).1) fun x hx=>hg x (Zqm _ hx)
theorem join_fst {a b:List (Int×Int)}(ha:JRow a)(hb:JRow b){n:Int}(h1:∀p∈a,p.1<n)(h2:∀p∈b,p.1<n):∀p∈yA a b,p.1<n:=fun p hp=>by
 have hl:=(xh ha hb).once.look (t:=p.1) (w:=p.2) hp;rw[xa ha.once hb.once] at hl;cases q1:zk a p.1 with
 |some w=>exact h1 (p.1,w) (zv q1)
 |none =>
  cases q2:zk b p.1 with
  |some w=>exact h2 (p.1,w) (zv q2)
  |none=>rw[q1,q2] at hl;(first|exact zqn hl|exact zqb hl|(obtain rfl:=Zqi hl)|cases hl)
theorem nz {n:Int}:∀(gs:List (List (List (Int×Int)))) (t:List (List (Int×Int))),(∀r∈t,JRow r/\∀p∈r,p.1<n)->(∀g∈gs,∀r∈g,JRow r/\∀p∈r,p.1<n)->∀r∈gs.foldl zH t,∀p∈r,p.1<n
 | [],t,ht,_=>fun r hr=>(ht r hr).2
 |g::gs,t,ht,hg=>nz gs (zH t g) (fun r hr=>by
  obtain⟨a,ha,b,hb,rfl⟩:=yC.mp (zt.mp hr).1;obtain⟨a1,a2⟩:=ht a ha;obtain⟨b1,b2⟩:=hg g Zqs b hb;exact⟨xh a1 b1,join_fst a1 b1 a2 b2⟩) fun x hx=>hg x (Zqm _ hx)
theorem law_true (ns:List Int)(h:ns.length<=63):pG [.scr ns]=.ok (.bl true):=by
 have fc0:o3 [.scr ns,.int 0]=.ok (.int (wf ns 0)):=fW ns 0;have fc1:o3 [.scr ns,.int 1]=.ok (.int (wf ns 1)):=fW ns 1;have fc2:o3 [.scr ns,.int 2]=.ok (.int (wf ns 2)):=fW ns 2;refine zc1c (menuT_at (wf ns 0)) fun n hn n1 n2=>?_;obtain⟨many,hm,m1⟩:∃m:Nat,1+wf ns 1 % 3=(m:Int)/\(m=1\/m=2\/m=3):=⟨(1+wf ns 1 % 3).toNat,by omega,by omega⟩;obtain⟨b,hb,b1,b2⟩:∃b:Int,atI [D.int 60,D.int 8] (wf ns 2 % 2)=some (.int b)/\1<=b/\b<=60:=by
  have:wf ns 2 % 2=0\/wf ns 2 % 2=1:=by omega
  rcases this with z|z
  ·exact⟨60,by rw[z];rfl,by omega,by omega⟩
  ·exact⟨8,by rw[z];rfl,by omega,by omega⟩
 have gm:tW (.int (wf ns 2 / 2)) (.int b)=some (.int (wf ns 2 / 2 % b)):=oF (by omega);obtain⟨most,hmost,o1,o2⟩:∃o:Int,1+wf ns 2 / 2 % b=o/\1<=o/\o<=60:=⟨_,rfl,by have:=Int.emod_nonneg (wf ns 2 / 2) (show b≠0 by omega);omega,by have:=Int.emod_lt_of_pos (wf ns 2 / 2) (show 0<b by omega);omega⟩;obtain⟨cs,hcs,ftu⟩:=f_law_turnsG h (a:=3) (most:=12) (by omega) (by omega) (by omega) (by omega);have ff:=f_z17 (cs:=cs) (many:=(many:Int)) n1 n2 (by omega) (by omega) (by omega);rw[Int.toNat_natCast] at ff;have gd:∀f∈x9 n many (xQ n cs) many,Good n f/\f.length*many<=12+(many-1):=fun f hf=>by
  refine zc1b (List.mem_map.mp hf) fun k hk zr2=>?_;subst zr2;have hk:=List.mem_range.mp hk;have pl:=pick_step (xQ n cs) k many m1 (by rw[vj];omega);have a:=qg (xQ n cs) (some (k:Int)) none (some (many:Int));have bl:=vj n cs;have F:=formB_fm (n:=n) (k:=k) (U:=xQ n cs++[[((k:Int) % n,(0:Int))]]) (rs:=yc (xQ n cs) (some (k:Int)) none (some (many:Int))) n1 (fun r hr=>rE n1 n2 cs r (uB hr)) (fun r hr=>listB_rise n cs r (uB hr)) (by omega) (fun r hr=>List.mem_append_left _ (uB hr)) (List.mem_append_right _ Zqs);refine⟨F.good,?_⟩;unfold mJ
  split
  ·rw[List.length_singleton];omega
  ·exact Zh (Nat.mul_le_mul_right _ (vk _)) pl
 have lF:(x9 n many (xQ n cs) many).length=many:=by unfold x9;rw[Zql,ZA]
 generalize x9 n many (xQ n cs) many=FS at ff gd lF;cases FS with
 |nil=>simp at lF;omega
 |cons f fs =>
  have lfs:fs.length+1=many:=by rw[<- lF,Zu]
  have jr:∀g∈f::fs,∀r∈g,JRow r:=fun g hg r hr=>⟨((gd g hg).1.rows r hr).ne,(gd g hg).1.rise r hr,fun p hp=>by have:=((gd g hg).1.rows r hr).mem p hp;omega⟩;have jf:=jr f Zqs;have jfs:∀g∈fs,∀r∈g,JRow r:=fun g hg=>jr g (Zqm _ hg);have gne:∀g∈fs,g ≠ []/\∀r∈g,JRow r:=fun g hg=>⟨(gd g (Zqm _ hg)).1.ne,jfs g hg⟩;have Gf:=(gd f Zqs).1;have tf:=good_thin Gf;have l4:fs.length<=900:=by omega
  have sizes:∀i g,fs[i]? = some g->((fs.take i).foldl zH f).length<=16/\g.length<=6/\((fs.take i).foldl zH f).length*g.length<=64:=fun i g hg=>by
   have hi:=(List.getElem?_eq_some_iff.mp hg).1;have g1:=(gd g (Zqm _ (List.mem_of_getElem? hg))).2;have g0:=(gd f Zqs).2;rcases m1 with z|z|z
   ·omega
   ·have i0:i=0:=by omega
    subst i0;rw[z] at g0 g1;rw[List.take_zero,List.foldl_nil];have p:f.length*g.length<=6*6:=Nat.mul_le_mul (by omega) (by omega);exact⟨by omega,by omega,by omega⟩
   ·rw[z] at g0 g1;have c4:∀x∈fs.take i,x.length<=4:=fun x hx=>by
     have:=(gd x (Zqm _ (List.mem_of_mem_take hx))).2;rw[z] at this;omega
    have fl:=nJ (t:=f) c4;have ti:(fs.take i).length<=1:=by rw[List.length_take];omega
    have t16:((fs.take i).foldl zH f).length<=16:=by
     have:(fs.take i).length=0\/(fs.take i).length=1:=by omega
     rcases this with y|y
     ·rw[y] at fl;omega
     ·rw[y] at fl;omega
    have p:((fs.take i).foldl zH f).length*g.length<=16*4:=Nat.mul_le_mul t16 (by omega);exact⟨t16,by omega,by omega⟩
  have fmade:=f_z23 jf jfs l4 fun i g hg=>⟨(sizes i g hg).2.2,by have:=(sizes i g hg).2.1;omega⟩;have f12:f.length<=12:=by
   have:=(gd f Zqs).2;rcases m1 with z|z|z<;>rw[z] at this<;>omega
  have A0:AllOk [f] f:=by
   have:=pP jf;rw[tf] at this;exact this
  have fa:=f_all_of_any (f:=f) (fs:=fs) (most:=most) ⟨Gf.ne,jf⟩ gne (by omega) (by omega) (by omega) l4 fun i t g A ht hg=>by
   have e:t=(fs.take i).foldl zH f:=allOk_one_eq A (oI A0 fun x hx=>jfs x (List.mem_of_mem_take hx));obtain⟨a1,a2,a3⟩:=sizes i g hg;rw[<- e] at a1 a3;have le:=eachK_len t g;have p1:=xP (xD g) t;have p2:=xP (xD t) g;have q:(t.filter fun r => !xD g r).length*(g.filter fun r => !xD t r).length<=t.length*g.length:=Nat.mul_le_mul (by omega) (by omega);exact⟨by omega,by omega⟩
  have pa:gD most f fs=(oD most f).bind fun t=>mD most t fs:=by unfold gD;rw[tf]
  have AL:AllOk (f::fs) (fs.foldl zH f):=oI A0 jfs;obtain⟨ys,ey⟩:=qa fs f;have ll:gIx (.lst ((mdJ f fs).map frD)) (.int (-1))=some (frD (fs.foldl zH f)):=by rw[ey];exact mv ys _
  have lm:=oy fs f;have lenE:kY (.one 0) (xq o4 (zc (zf 0) zq)) [none] ((mdJ f fs).map frD)=.ok (((mdJ f fs).map fun x=>(x.length:Int)).map .int):=by
   rw[Zw];exact vQ fun x _=>by simp
  have mxne:((mdJ f fs).map fun x=>(x.length:Int)) ≠ []:=fun z=>by
   have:=Zt List.length z;rw[Zql,lm] at this
   first|exact zqn this|exact zqb this|(obtain rfl:=Zqi this)|cases this
  have mx:=vS mxne;obtain⟨x1,x2⟩:=xC mxne;have lz5:((mdJ f fs).map frD).length<sizeLine:=z9 (by rw[Zql,lm];omega);have lz4:((f::fs).map frD).length<sizeLine:=z9 (by rw[Zql,Zu];omega);have copy:kY (.one 0) (xq kb (zc (zf 0) zq)) [none] ((f::fs).map frD)=.ok ((f::fs).map frD):=vQ fun x _=>by simp
  have same:gEq (.lst ((f::fs).map frD)) (.lst ((f::fs).map frD))=some (.bl true):=by
   have p:plN 12 (.lst ((f::fs).map frD))=true:=fB 7 (f::fs);rw[wj p p,zM]
  have nsame:gNe (.lst ((f::fs).map frD)) (.lst ((f::fs).map frD))=some (.bl false):=by
   have p:plN 12 (.lst ((f::fs).map frD))=true:=fB 7 (f::fs);rw[uO p p,zM];rfl
  have memb:∀v∈(mdJ f fs).map (fun x=>(x.length:Int)),∃x∈mdJ f fs,(x.length:Int)=v:=fun v hv=>List.mem_map.mp hv;have memb2:∀x∈mdJ f fs,(x.length:Int)∈(mdJ f fs).map (fun x=>(x.length:Int)):=fun x hx=>List.mem_map.mpr ⟨x,hx,rfl⟩;have fin:f∈mdJ f fs:=by
   cases fs with
   |nil=>exact Zqs
   |cons g gs=>exact Zqs
  have yes:(∀x∈mdJ f fs,(x.length:Int)<=most)->gD most f fs=some (fs.foldl zH f):=fun k=>by
   rw[pa,show oD most f=some f from Zd (k f fin)];exact(o0 fs f (k f fin)).1 k
  have no:(∃x∈mdJ f fs,most<(x.length:Int))->gD most f fs=none:=fun k=>by
   rw[pa];by_cases c:(f.length:Int)<=most
   ·rw[show oD most f=some f from Zd c];exact(o0 fs f c).2 k
   ·rw[show oD most f=none from Ze c];rfl
  obtain⟨last,el⟩:∃t,fs.foldl zH f=t:=⟨_,rfl⟩;rw[el] at AL ll yes;have lrow:∀r∈last,JRow r:=AL.row;have tn:last ≠ []:=by rw[<- el];exact lR fs f jf Gf.ne gne
  have rn:∀g∈f::fs,∀r∈g,JRow r/\∀p∈r,p.1<n:=fun g hg r hr=>⟨jr g hg r hr,fun p hp=>(((gd g hg).1.rows r hr).mem p hp).2⟩;have ln:∀r∈last,∀p∈r,p.1<n:=by
   rw[<- el];exact nz fs f (rn f Zqs) fun g hg=>rn g (Zqm _ hg)
  have lin:last∈mdJ f fs:=by rw[ey,el];exact List.mem_append_right _ Zqs
  have ctx:∀hs:List Int,hs.length=n.toNat->last.length<=60->∃v,sr [frD last,.lst (hs.map .int)]=.ok (.int v)/\kY (.one 0) (zy sr (zc (zf 0) (zc (zf 1) zq))) [none,some (.val (.lst (hs.map .int)))] ((f::fs).map frD)=.ok (((f::fs).map fun x=>yP x hs).map .int)/\tZ [.lst (((f::fs).map fun x=>yP x hs).map .int)]=some (.int v):=fun hs hl h60=>by
   refine⟨yP last hs,fg tn (by omega) (fun r hr=>(lrow r hr).ne) (fun r hr p hp=>by have:=(lrow r hr).bnd p hp;have:=ln r hr p hp;omega),?_,?_⟩
   ·rw[Zw];exact vQ fun x hx=>by
     have G:=(gd x hx).1;have:=fg (f:=x) (hs:=hs) G.ne (by have:=G.len;omega) (fun r hr=>(G.rows r hr).ne) fun r hr p hp=>by
      have:=(G.rows r hr).mem p hp;omega
     simp[this]
   ·rw[vS (by simp),all_comes (n:=n) AL tn (by simp) fun g hg=>⟨(gd g hg).1.ne,fun r hr=>⟨(jr g hg r hr).ne,(jr g hg r hr).once,(jr g hg r hr).bnd⟩⟩]
  have isf:=f_z21 (f:=last) tn fun r hr=>(lrow r hr).ne;have nfr:=gNe_fr last last;rw[show(!decide (last=last))=false by simp] at nfr;have efr:=gEq_fr last last;rw[show decide (last=last)=true by simp] at efr;have l60:(∀x∈mdJ f fs,(x.length:Int)<=most)->last.length<=60:=fun k=>by have:=k last lin;omega
  generalize (mdJ f fs).map (fun x=>(x.length:Int))=ms at *;generalize (mdJ f fs).map frD=ds at *;generalize hds:(f::fs).map frD=hd at *;by_cases c:most<rC ms
  ·refine zc1b (memb _ x1) fun x hx ex=>?_;rw[no ⟨x,hx,by omega⟩] at fa;have fa:mU [.lst hd,.int most]=.ex "TooMany" []:=fa;have r1:=f_z24 fa;simp[pG,je,fc0,fc1,fc2,hn,hm,hb,gm,hmost,ftu,ff,fmade,lz4,copy,lz5,lenE,mx,c,r1,same]
  ·have all:∀x∈mdJ f fs,(x.length:Int)<=most:=fun x hx=>by
    have:=x2 _ (memb2 x hx);omega
   rw[yes all] at fa;have fa:mU [.lst hd,.int most]=.ok (frD last):=fa;have fsz:=l60 all;obtain⟨sd1,e1,u8,u9,hsd1⟩:=yI (tg:=.one 8) (b:=(zV (xA 9 (zy mC (zc (dOp wU (zy o3 (zc (zf 0) (zc (dOp wU (dC (.int 3)) (zf 8)) zq))) (zf 8)) (zc (zf 1) zq)))) (sIf (zu (dOp gNe (jt [7] (zy sr (zc (zf 7) (zc (zf 9) zq)))) (xq tZ (zc (wC [none,some 9] (iS (zf 4)) (.one 0) (zy sr (zc (zf 0) (zc (zf 1) zq)))) zq)))) (xL (dC (.bl false))) yx))) (ds:=zW 0 4)
    (sd:=[some (.val (.scr ns)),some (.val (.int n)),some (.val (.int many)),some (.val (.int most)),some (.val (.lst hd)),some (.val (.lst ds)),some (.val (.lst hd)),some (.own false (frD last)),none,none])
    (P:=fun _ sd=>∃u8 u9:Option SV,sd=[some (.val (.scr ns)),some (.val (.int n)),some (.val (.int many)),some (.val (.int most)),some (.val (.lst hd)),some (.val (.lst ds)),some (.val (.lst hd)),some (.own false (frD last)),u8,u9]) ⟨none,none,rfl⟩ (by
     rintro i x sd hx ⟨u8,u9,rfl⟩;obtain⟨rfl,hi⟩:=vg hx;have fc:o3 [.scr ns,.int (3+(i:Int))]=.ok (.int (wf ns (3+i:Nat))):=by rw[<- fW ns (3+i)];congr 3
     obtain⟨w,hw⟩:∃w,wf ns (3+i:Nat)+(i:Int)=w:=⟨_,rfl⟩;have fh:=f_z20 (c:=w) (n:=n) (by omega) n2;obtain⟨v,w1,w2,w3⟩:=ctx (tU w n.toNat) (by unfold tU;rw[Zql,ZA]) fsz;generalize (tU w n.toNat).map D.int=hh at fh w1 w2;generalize ((f::fs).map fun x=>yP x (tU w n.toNat)).map D.int=mm at w2 w3;refine⟨[some (.val (.scr ns)),some (.val (.int n)),some (.val (.int many)),some (.val (.int most)),some (.val (.lst hd)),some (.val (.lst ds)),some (.val (.lst hd)),some (.own false (frD last)),some (.val (.int (i:Int))),some (.val (.lst hh))],?_,_,_,rfl⟩;simp at fc hw;simp[fc,hw,fh,w1,w2,w3,lz4,qG])
   subst hsd1;have r4:ww [.int 4]=.ok (zW 0 4):=yJ (by omega) (by omega);have fz:last.length<sizeLine:=z9 (by omega);simp[pG,je,fc0,fc1,fc2,hn,hm,hb,gm,hmost,ftu,ff,fmade,lz4,copy,lz5,lenE,mx,c,fa,isf] at ll nfr e1 ⊢;have ol:gP (some (some (.own false (frD last))))=.ok (last.map rwD):=rfl;simp[ll,nfr,efr,nsame,r4,e1,same,fa,fz,qG,ol]
end My
set_option maxHeartbeats 4000000
namespace My
open PySem L2 L2.DL
noncomputable def top (i:Nat):Stmt:=PySem.Challenge.pw_allfirst_k09_all_of_forms.main.body.getD i (.Pass ⟨0,0,0,0⟩)
structure Mg (mg:Str->Option Value):Prop where
 bool_:mg "bool" = none
 dict_:mg "dict" = none
 int_:mg "int" = none
 isinstance_:mg "isinstance" = none
 len_:mg "len" = none
 list_:mg "list" = none
 max_:mg "max" = none
 min_:mg "min" = none
 range_:mg "range" = none
 set_:mg "set" = none
 sorted_:mg "sorted" = none
 sum_:mg "sum" = none
 tuple_:mg "tuple" = none
section
variable {P:Program}{w:World}{K:W.Frag}{mg:Str->Option Value}{base:Heap}{f:Addr}{fd:FuncData}
abbrev eJ:Stmt:=top 14
theorem sc_z8:FnScope ["script", "k"] ["script", "k"] (zj eJ):=yS
theorem ok_z8 {k:Nat}(F:Fun K "_law_cell_at" "_law_cell_at" eJ f fd)(m:Mg mg)  : FnOk P w K mg base CX0 (k+1) f fd ["script", "k"] (SpD K o3):=by
 have sc:=sc_z8;refine pX (N:=["script", "k"]) (ps:=["script", "k"]) (g:=gR) F sc fun cdv A outer s H E hr=>?_;unfold gR;exact(zd (yQ (zU o_lt (zb (pv 1)) (zT (x := "len") o5 rfl m.len_ tJ (za (zb (pv 0)) ze)) (zK _)) (zg (zN (x4 (yV hr) (zb (pv 0)) (zb (pv 1)) (fun _ _=>rfl) (fun _ _=>rfl)))) zG) (zg (zN zi)))
abbrev gz:Stmt:=top 24
theorem sc_z18:FnScope ["row", "hours", "late", "thing", "wait"] ["row", "hours"] (zj gz):=yS
theorem ok_z18 {k:Nat}(F:Fun K "_law_done" "_law_done" gz f fd)(m:Mg mg)  : FnOk P w K mg base CX0 (k+1) f fd ["row", "hours"] (SpD K mE):=by
 have sc:=sc_z18;refine pX (N:=["row", "hours", "late", "thing", "wait"]) (ps:=["row", "hours"]) (g:=jL) F sc fun cdv A outer s H E hr=>?_;unfold jL;exact(zd (yg (i:=2) sc.nd rfl (.inl rfl) qc_non) (zd (yE PassesOwn.never rfl (yd (zb (pv 0))) (l8 [3,4] (kC rfl (wB (zI (i:=3) sc.nd rfl (.inl rfl)) (wB (zI (i:=4) sc.nd rfl (.inl rfl)) oO)))) (zg (yQ (QW.qt (so (qt_isN (zb (pv 2))) (uZ (zU iF (yU wd (x4 (yV hr) (zb (pv 1)) (zb (pv 3)) (fun _ _=>rfl) (fun _ _=>rfl)) (zb (pv 4))) (zb (pv 2)) (zK _))))) (zg (yg (i:=2) sc.nd rfl (.inl rfl) (yU wd (x4 (yV hr) (zb (pv 1)) (zb (pv 3)) (fun _ _=>rfl) (fun _ _=>rfl)) (zb (pv 4))))) zG))) (zg (zN (zb (pv 2))))))
abbrev gf:Stmt:=top 25
theorem sc_z19:FnScope ["form", "hours"] ["form", "hours"] (zj gf):=yS
theorem ok_z19 {k:Nat}(F:Fun K "_law_comes" "_law_comes" gf f fd)(m:Mg mg)(c_z18:zA P w K mg base "_law_done" k ["row", "hours"] (SpD K mE)):FnOk P w K mg base CX0 (k+1) f fd ["form", "hours"] (SpD K sr):=by
 have sc:=sc_z19;refine pX (N:=["form", "hours"]) (ps:=["form", "hours"]) (g:=jJ) F sc fun cdv A outer s H E hr=>?_;unfold jJ;exact(zg (zN (zT (x := "min") (b_minL rfl) rfl m.min_ iJ (za (QN.qe (uG ["row", "hours"] [none,some 1] rfl rfl (yd (zb (pv 0))) (fun _ _ _ _ _=>(zO (pgn 0 (vJ ["row", "hours"])))) (fun _ _ _ _ _=>(wT c_z18 hr rfl (za (zb (pv 0)) (za (zb (pv 1)) ze)))))) ze))))
abbrev ez:Stmt:=top 15
theorem sc_z9:FnScope ["cell", "salt", "mixed"] ["cell", "salt"] (zj ez):=yS
theorem ok_z9 {k:Nat}(F:Fun K "_law_mixed" "_law_mixed" ez f fd)(m:Mg mg)  : FnOk P w K mg base CX0 (k+1) f fd ["cell", "salt"] (SpD K jO):=by
 have sc:=sc_z9;refine pX (N:=["cell", "salt", "mixed"]) (ps:=["cell", "salt"]) (g:=eu) F sc fun cdv A outer s H E hr=>?_;unfold eu;exact(zd (yg (i:=2) sc.nd rfl (.inl rfl) (yU xV (yU gk (yU wd (yU xV (zb (pv 0)) zi) (zb (pv 1))) zi) zi)) (zg (zN (yU xV (yU gk (zb (pv 2)) (zb (pv 2))) zi))))
abbrev hJ:Stmt:=top 17
theorem sc_z11:FnScope ["cell", "salt", "mixed", "size"] ["cell", "salt"] (zj hJ):=yS
theorem ok_z11 {k:Nat}(F:Fun K "_law_number" "_law_number" hJ f fd)(m:Mg mg)(c_z9:zA P w K mg base "_law_mixed" k ["cell", "salt"] (SpD K jO)):FnOk P w K mg base CX0 (k+1) f fd ["cell", "salt"] (SpD K vP):=by
 have sc:=sc_z11;refine pX (N:=["cell", "salt", "mixed", "size"]) (ps:=["cell", "salt"]) (g:=m8) F sc fun cdv A outer s H E hr=>?_;unfold m8;exact(zd (yg (i:=2) sc.nd rfl (.inl rfl) (wT c_z9 hr rfl (za (zb (pv 0)) (za (zb (pv 1)) ze)))) (zd (yQ (zU iF (yU xV (zb (pv 2)) zi) zi (zK _)) (zg (zN (yU fu (yU xV (yU ul (zb (pv 2)) zi) zi) zi))) zG) (zd (yg (i:=3) sc.nd rfl (.inl rfl) (yU xV (yU gk (yU ul (zb (pv 0)) zi) (yU wd (zb (pv 1)) zi)) (yU o_pow zi zi))) (zd (yQ (zU (n9 hr.units) (yU xV (yU ul (zb (pv 2)) zi) zi) zi (zK _)) (zg (zN (zb (pv 3)))) zG) (zg (zN (fP lB (zb (pv 3)))))))))
abbrev iO:Stmt:=top 18
theorem sc_z12:FnScope ["cell", "things", "mask", "row", "thing"] ["cell", "things"] (zj iO):=yS
theorem ok_z12 {k:Nat}(F:Fun K "_law_row" "_law_row" iO f fd)(m:Mg mg)(c_z9:zA P w K mg base "_law_mixed" k ["cell", "salt"] (SpD K jO))(c_z11:zA P w K mg base "_law_number" k ["cell", "salt"] (SpD K vP)):FnOk P w K mg base CX0 (k+1) f fd ["cell", "things"] (SpD K kR):=by
 have sc:=sc_z12;refine pX (N:=["cell", "things", "mask", "row", "thing"]) (ps:=["cell", "things"]) (g:=jB) F sc fun cdv A outer s H E hr=>?_;unfold jB;exact(zd (yg (i:=2) sc.nd rfl (.inl rfl) (wT c_z9 hr rfl (za (zb (pv 0)) (za zi ze)))) (zd (xB (i:=3) sc.nd rfl (.inl rfl) (xJ ze)) (zd (yE PassesOwn.never rfl (xc rfl m.range_ (za (zb (pv 1)) ze)) (zO (zI (i:=4) sc.nd rfl (.inl rfl))) (zd (yQ (zU (n9 hr.units) (yU xV (zb (pv 2)) zi) zi (zK _)) (zg (yf (pv 3) (tY (za (zb (pv 4)) (za (wT c_z11 hr rfl (za (zb (pv 0)) (za (yU wd zi (zb (pv 4))) ze))) ze))) (fun h1 h2=>vG PySem.F.plainAttrs_list PySem.F.slot_list_append PySem.F.type_list_append ye h1 h2))) zG) (zg (yg (i:=2) sc.nd rfl (.inl rfl) (yU ul (zb (pv 2)) zi))))) (zd (yQ (pI [3] (zU (n9 hr.units) (zb (pv 3)) (QN.qe (xJ ze)) (zK _))) (zg (yf (pv 3) (tY (za (yU xV (zb (pv 0)) (zb (pv 1))) (za (wT c_z11 hr rfl (za (zb (pv 0)) (za zi ze))) ze))) (fun h1 h2=>vG PySem.F.plainAttrs_list PySem.F.slot_list_append PySem.F.type_list_append ye h1 h2))) zG) (zg (sN [3] (zN (uq (x := "tuple") rH rfl m.tuple_ w6 (za (zb (pv 3)) ze)))))))))
abbrev iM:Stmt:=top 19
theorem sc_z13:FnScope ["row", "cell", "things", "waits", "other", "thing", "mixed"] ["row", "cell", "things"] (zj iM):=yS
theorem ok_z13 {k:Nat}(F:Fun K "_law_varied" "_law_varied" iM f fd)(m:Mg mg)(c_z9:zA P w K mg base "_law_mixed" k ["cell", "salt"] (SpD K jO))(c_z11:zA P w K mg base "_law_number" k ["cell", "salt"] (SpD K vP)):FnOk P w K mg base CX0 (k+1) f fd ["row", "cell", "things"] (SpD K lV):=by
 have sc:=sc_z13;refine pX (N:=["row", "cell", "things", "waits", "other", "thing", "mixed"]) (ps:=["row", "cell", "things"]) (g:=jU) F sc fun cdv A outer s H E hr=>?_;unfold jU
 exact(zd (yg (i:=3) sc.nd rfl (.inl rfl) (QN.qe (wm (x := "dict") (mf rfl) rfl m.dict_ rq (za (zb (pv 0)) ze)))) (zd (xB (i:=4) sc.nd rfl (.inl rfl) (xJ ze)) (zd (yE PassesOwn.never rfl (xc rfl m.range_ (za (zb (pv 2)) ze)) (zO (zI (i:=5) sc.nd rfl (.inl rfl))) (zd (yg (i:=6) sc.nd rfl (.inl rfl) (wT c_z9 hr rfl (za (zb (pv 1)) (za (yU wd zi (zb (pv 5))) ze)))) (zd (yQ (QW.qt (qH (qt_in hr.units (zb (pv 5)) (zb (pv 3))) (tH (zU iF (yU xV (zb (pv 6)) zi) zi (zK _))))) (zg (yf (pv 4) (tY (za (zb (pv 5)) (za (yU wd (x4 (yV hr) (zb (pv 3)) (zb (pv 5)) (fun _ _=>rfl) (fun _ _=>rfl)) (x4 (yV hr) (QN.qe (xJ (za zi (za zi (za zi (za (fP lB zi) ze)))))) (yU xV (yU ul (zb (pv 6)) zi) zi) (fun _ _=>rfl) (fun _ _=>rfl))) ze))) (fun h1 h2=>vG PySem.F.plainAttrs_list PySem.F.slot_list_append PySem.F.type_list_append ye h1 h2))) zG) (zg (yQ (QW.qt (qH (u7 hr.units (zb (pv 5)) (zb (pv 3))) (tH (zU (n9 hr.units) (yU xV (zb (pv 6)) zi) zi (zK _))))) (zg (yf (pv 4) (tY (za (zb (pv 5)) (za (wT c_z11 hr rfl (za (zb (pv 1)) (za (yU wd zi (zb (pv 5))) ze))) ze))) (fun h1 h2=>vG PySem.F.plainAttrs_list PySem.F.slot_list_append PySem.F.type_list_append ye h1 h2))) zG))))) (zd (yQ (pI [4] (zU (n9 hr.units) (zb (pv 4)) (QN.qe (xJ ze)) (zK _))) (zg (zN (zb (pv 0)))) zG) (zg (sN [4] (zN (uq (x := "tuple") rH rfl m.tuple_ w6 (za (zb (pv 4)) ze)))))))))
abbrev iK:Stmt:=top 20
theorem sc_z14:FnScope ["cells", "things", "rows", "cell"] ["cells", "things"] (zj iK):=yS
theorem ok_z14 {k:Nat}(F:Fun K "_law_list" "_law_list" iK f fd)(m:Mg mg)(c_z12:zA P w K mg base "_law_row" k ["cell", "things"] (SpD K kR))(c_z13:zA P w K mg base "_law_varied" k ["row", "cell", "things"] (SpD K lV)):FnOk P w K mg base CX0 (k+1) f fd ["cells", "things"] (SpN K kM):=by
 have sc:=sc_z14;refine iD (N:=["cells", "things", "rows", "cell"]) (ps:=["cells", "things"]) (g:=jN) F sc fun cdv A outer s H E hr=>?_;unfold jN;exact(zd (xB (i:=2) sc.nd rfl (.inl rfl) (xJ ze)) (zd (yE PassesOwn.never rfl (yd (zb (pv 0))) (zO (zI (i:=3) sc.nd rfl (.inl rfl))) (zg (yQ (QW.qt (qH (pI [2] (zU (gb hr.units) (zb (pv 2)) (QN.qe (xJ ze)) (zK _))) (tH (zU iF (yU xV (zb (pv 3)) zi) zi (zK _))))) (zg (yf (pv 2) (wT c_z13 hr rfl (za (o7 (yV hr) (pv 2) (yU xV (yU ul (zb (pv 3)) zi) (mG [2] (zT (x := "len") o5 rfl m.len_ tJ (za (zb (pv 2)) ze)))) (fun _ _=>rfl) (fun _ _=>rfl)) (za (zb (pv 3)) (za (zb (pv 1)) ze)))) (fun h1 h2=>vG PySem.F.plainAttrs_list PySem.F.slot_list_append PySem.F.type_list_append ye h1 h2))) (zg (yf (pv 2) (wT c_z12 hr rfl (za (zb (pv 3)) (za (zb (pv 1)) ze))) (fun h1 h2=>vG PySem.F.plainAttrs_list PySem.F.slot_list_append PySem.F.type_list_append ye h1 h2)))))) (zg (xF (pv 2)))))
abbrev iV:Stmt:=top 21
theorem sc_z15:FnScope ["row", "other", "waits", "pair"] ["row", "other"] (zj iV):=yS
theorem ok_z15 {k:Nat}(F:Fun K "_law_beneath" "_law_beneath" iV f fd)(m:Mg mg)  : FnOk P w K mg base CX0 (k+1) f fd ["row", "other"] (SpD K mI):=by
 have sc:=sc_z15;refine pX (N:=["row", "other", "waits", "pair"]) (ps:=["row", "other"]) (g:=jF) F sc fun cdv A outer s H E hr=>?_;unfold jF;exact(zd (yg (i:=2) sc.nd rfl (.inl rfl) (QN.qe (wm (x := "dict") (mf rfl) rfl m.dict_ rq (za (zb (pv 1)) ze)))) (zd (yE PassesOwn.never rfl (yd (zb (pv 0))) (zO (zI (i:=3) sc.nd rfl (.inl rfl))) (zg (yQ (QW.qt (so (u7 hr.units (x4 (yV hr) (zb (pv 3)) zi (fun _ _=>rfl) (fun _ _=>rfl)) (zb (pv 2))) (uZ (zU iF (x4 (yV hr) (zb (pv 3)) zi (fun _ _=>rfl) (fun _ _=>rfl)) (x4 (yV hr) (zb (pv 2)) (x4 (yV hr) (zb (pv 3)) zi (fun _ _=>rfl) (fun _ _=>rfl)) (fun _ _=>rfl) (fun _ _=>rfl)) (zK _))))) (zg (zN vh)) zG))) (zg (zN vh))))
abbrev gy:Stmt:=top 22
theorem sc_z16:FnScope ["rows", "least", "row", "beneath"] ["rows"] (zj gy):=yS
theorem ok_z16 {k:Nat}(F:Fun K "_law_thin" "_law_thin" gy f fd)(m:Mg mg)(c_z15:zA P w K mg base "_law_beneath" k ["row", "other"] (SpD K mI)):FnOk P w K mg base CX0 (k+1) f fd ["rows"] (SpN K qp):=by
 have sc:=sc_z16;refine iD (N:=["rows", "least", "row", "beneath"]) (ps:=["rows"]) (g:=ju) F sc fun cdv A outer s H E hr=>?_;unfold ju;exact(zd (xB (i:=1) sc.nd rfl (.inl rfl) (xJ ze)) (zd (yE PassesOwn.never rfl (yd (zb (pv 0))) (zO (zI (i:=2) sc.nd rfl (.inr rfl))) (zd (wt ["one", "row"] [none,some 2] sc.nd rfl (.inl rfl) rfl rfl (yd (zb (pv 0))) (fun _ _ _ _ _=>(zO (pgn 0 (vJ ["one", "row"])))) (fun _ _ _ _ _=>(QW.qt (qH (zU (gb hr.units) (zb (pv 0)) (zb (pv 1)) (zK _)) (tH (x8 (wT c_z15 hr rfl (za (zb (pv 0)) (za (zb (pv 1)) ze)))))))) (fun _ _ _ _ _=>(zb (pv 0)))) (zg (yQ (QW.qt (qH (zU (n9 hr.units) (zb (pv 3)) (QN.qe (xJ ze)) (zK _)) (tH (pI [1] (u7 hr.units (zb (pv 2)) (zb (pv 1))))))) (zg (yf (pv 1) (zb (pv 2)) (fun h1 h2=>vG PySem.F.plainAttrs_list PySem.F.slot_list_append PySem.F.type_list_append ye h1 h2))) zG)))) (zg (sN [1] (rL (nT (x := "sorted") (rj hr.units) rfl m.sorted_ vf (za (zb (pv 1)) ze)))))))
abbrev gB:Stmt:=top 23
theorem sc_z17:FnScope ["cells", "many", "things", "rows", "forms", "k"] ["cells", "many", "things"] (zj gB):=yS
theorem ok_z17 {k:Nat}(F:Fun K "_law_forms" "_law_forms" gB f fd)(m:Mg mg)(c_z14:zA P w K mg base "_law_list" k ["cells", "things"] (SpN K kM))(c_z16:zA P w K mg base "_law_thin" k ["rows"] (SpN K qp)):FnOk P w K mg base CX0 (k+1) f fd ["cells", "many", "things"] (SpN K k6):=by
 have sc:=sc_z17;refine iD (N:=["cells", "many", "things", "rows", "forms", "k"]) (ps:=["cells", "many", "things"]) (g:=jy) F sc fun cdv A outer s H E hr=>?_;unfold jy;exact(zd (yg (i:=3) sc.nd rfl (.inl rfl) (QN.qe (oH c_z14 hr rfl (za (zb (pv 0)) (za (zb (pv 2)) ze))))) (zd (xB (i:=4) sc.nd rfl (.inl rfl) (xJ ze)) (zd (yE PassesOwn.never rfl (xc rfl m.range_ (za (zb (pv 1)) ze)) (zO (zI (i:=5) sc.nd rfl (.inl rfl))) (zd (yf (pv 4) (QN.qe (oH c_z16 hr rfl (za (QN.qe (rN (zb (pv 3)) (vF (zb (pv 5))) vH (vF (zb (pv 1))))) ze))) (fun h1 h2=>vG PySem.F.plainAttrs_list PySem.F.slot_list_append PySem.F.type_list_append ye h1 h2)) (zg (yQ (zU (n9 hr.units) (o7 (yV hr) (pv 4) (zb (pv 5)) (fun _ _=>rfl) (fun _ _=>rfl)) (QN.qe (xJ ze)) (zK _)) (zg (qs_lput (pv 4) (zb (pv 5)) (QN.qe (xJ (za (tY (za (tY (za (yU xV (zb (pv 5)) (zb (pv 2))) (za zi ze))) ze)) ze))))) zG)))) (zg (xF (pv 4))))))
abbrev gg:Stmt:=top 26
theorem sc_z20:FnScope ["cell", "things"] ["cell", "things"] (zj gg):=yS
theorem ok_z20 {k:Nat}(F:Fun K "_law_hours" "_law_hours" gg f fd)(m:Mg mg)(c_z11:zA P w K mg base "_law_number" k ["cell", "salt"] (SpD K vP)):FnOk P w K mg base CX0 (k+1) f fd ["cell", "things"] (SpN K mC):=by
 have sc:=sc_z20;refine iD (N:=["cell", "things"]) (ps:=["cell", "things"]) (g:=js) F sc fun cdv A outer s H E hr=>?_;unfold js;exact(zg (rL (uG ["thing", "cell"] [none,some 0] rfl rfl (xc rfl m.range_ (za (zb (pv 1)) ze)) (fun _ _ _ _ _=>(zO (pgn 0 (vJ ["thing", "cell"])))) (fun _ _ _ _ _=>(wT c_z11 hr rfl (za (yU ul (zb (pv 1)) (yU wd zi (zb (pv 0)))) (za (yU wd zi (zb (pv 0))) ze)))))))
abbrev eF:Stmt:=top 13
theorem sc_z7:FnScope ["found"] ["found"] (zj eF):=yS
theorem ok_z7 {k:Nat}(F:Fun K "_law_whole" "_law_whole" eF f fd)(m:Mg mg)  : FnOk P w K mg base CX0 (k+1) f fd ["found"] (SpD K gG):=by
 have sc:=sc_z7;refine pX (N:=["found"]) (ps:=["found"]) (g:=fZ) F sc fun cdv A outer s H E hr=>?_;unfold fZ;exact(zg (zN (hW (zT (x := "isinstance") mY rfl m.isinstance_ yD (za (zb (pv 0)) (za (lE (n := "int") (x := "int") rfl m.int_ bt_int rfl) ze))) (gi (q_not (zT (x := "isinstance") mY rfl m.isinstance_ yD (za (zb (pv 0)) (za (lE (n := "bool") (x := "bool") rfl m.bool_ bt_bool rfl) ze))))))))
abbrev g7:Stmt:=top 27
theorem sc_z21:FnScope ["found", "row", "pair"] ["found"] (zj g7):=yS
theorem ok_z21 {k:Nat}(F:Fun K "_law_is_form" "_law_is_form" g7 f fd)(m:Mg mg)(c_z7:zA P w K mg base "_law_whole" k ["found"] (SpD K gG)):FnOk P w K mg base CX0 (k+1) f fd ["found"] (SpD K kG):=by
 have sc:=sc_z21;refine pX (N:=["found", "row", "pair"]) (ps:=["found"]) (g:=jH) F sc fun cdv A outer s H E hr=>?_;unfold jH;exact(zd (yQ (QW.qt (so (vv (x8 (zT (x := "isinstance") mY rfl m.isinstance_ yD (za (zb (pv 0)) (za (lE (n := "list") (x := "list") rfl m.list_ kX rfl) ze))))) (uZ (zU (n9 hr.units) (zb (pv 0)) (QN.qe (xJ ze)) (zK _))))) (zg (zN vh)) zG) (zd (yE PassesOwn.never rfl (yd (zb (pv 0))) (zO (zI (i:=1) sc.nd rfl (.inl rfl))) (zd (yQ (QW.qt (so (vv (x8 (zT (x := "isinstance") mY rfl m.isinstance_ yD (za (zb (pv 1)) (za (lE (n := "tuple") (x := "tuple") rfl m.tuple_ w6 rfl) ze))))) (uZ (zU (n9 hr.units) (zb (pv 1)) (tY ze) (zK _))))) (zg (zN vh)) zG) (zg (yE PassesOwn.never rfl (yd (zb (pv 1))) (zO (zI (i:=2) sc.nd rfl (.inl rfl))) (zg (yQ (QW.qt (so (vv (x8 (zT (x := "isinstance") mY rfl m.isinstance_ yD (za (zb (pv 2)) (za (lE (n := "tuple") (x := "tuple") rfl m.tuple_ w6 rfl) ze))))) (so (zU (gb hr.units) (zT (x := "len") o5 rfl m.len_ tJ (za (zb (pv 2)) ze)) zi (zK _)) (so (vv (x8 (wT c_z7 hr rfl (za (x4 (yV hr) (zb (pv 2)) zi (fun _ _=>rfl) (fun _ _=>rfl)) ze)))) (uZ (vv (x8 (wT c_z7 hr rfl (za (x4 (yV hr) (zb (pv 2)) zi (fun _ _=>rfl) (fun _ _=>rfl)) ze))))))))) (zg (zN vh)) zG)))))) (zg (zN vh))))
abbrev iZ:Stmt:=top 28
theorem sc_z22:FnScope ["row", "other", "pairs", "thing", "waits"] ["row", "other"] (zj iZ):=yS
theorem ok_z22 {k:Nat}(F:Fun K "_law_joined" "_law_joined" iZ f fd)(m:Mg mg)  : FnOk P w K mg base CX0 (k+1) f fd ["row", "other"] (SpD K pL):=by
 have sc:=sc_z22;refine pX (N:=["row", "other", "pairs", "thing", "waits"]) (ps:=["row", "other"]) (g:=jE) F sc fun cdv A outer s H E hr=>?_;unfold jE;exact(zd (xB (i:=2) sc.nd rfl (.inl rfl) (xJ ze)) (zd (yE PassesOwn.never rfl (xc rfl m.range_ (za zi ze)) (zO (zI (i:=3) sc.nd rfl (.inr rfl))) (zd (wt ["pair", "thing"] [none,some 3] sc.nd rfl (.inl rfl) rfl rfl (yd (yU wd (zb (pv 0)) (zb (pv 1)))) (fun _ _ _ _ _=>(zO (pgn 0 (vJ ["pair", "thing"])))) (fun _ _ _ _ _=>(zU (n9 hr.units) (x4 (yV hr) (zb (pv 0)) zi (fun _ _=>rfl) (fun _ _=>rfl)) (zb (pv 1)) (zK _))) (fun _ _ _ _ _=>(x4 (yV hr) (zb (pv 0)) zi (fun _ _=>rfl) (fun _ _=>rfl)))) (zg (yQ (zU (gb hr.units) (zb (pv 4)) (QN.qe (xJ ze)) (zK _)) (zg (yf (pv 2) (tY (za (zb (pv 3)) (za (zT (x := "max") (lL rfl) rfl m.max_ qj (za (zb (pv 4)) ze)) ze))) (fun h1 h2=>vG PySem.F.plainAttrs_list PySem.F.slot_list_append PySem.F.type_list_append ye h1 h2))) zG)))) (zg (sN [2] (zN (uq (x := "tuple") rH rfl m.tuple_ w6 (za (zb (pv 2)) ze)))))))
abbrev g9:Stmt:=top 29
theorem sc_z23:FnScope ["forms", "made", "form", "rows", "row"] ["forms"] (zj g9):=yS
theorem ok_z23 {k:Nat}(F:Fun K "_law_made" "_law_made" g9 f fd)(m:Mg mg)(c_z22:zA P w K mg base "_law_joined" k ["row", "other"] (SpD K pL))(c_z16:zA P w K mg base "_law_thin" k ["rows"] (SpN K qp)):FnOk P w K mg base CX0 (k+1) f fd ["forms"] (SpN K jh):=by
 have sc:=sc_z23;refine iD (N:=["forms", "made", "form", "rows", "row"]) (ps:=["forms"]) (g:=j6) F sc fun cdv A outer s H E hr=>?_;unfold j6;exact(zd (xB (i:=1) sc.nd rfl (.inl rfl) (xJ (za (x4 (yV hr) (zb (pv 0)) zi (fun _ _=>rfl) (fun _ _=>rfl)) ze))) (zd (yE PassesOwn.never rfl (yd (QN.qe (rN (zb (pv 0)) (vF zi) vH vH))) (zO (zI (i:=2) sc.nd rfl (.inl rfl))) (zd (yg (i:=3) sc.nd rfl (.inl rfl) (QN.qe (xJ ze))) (zd (yE PassesOwn.never rfl (yd (o7 (yV hr) (pv 1) (fP lB zi) (fun _ _=>rfl) (fun _ _=>rfl))) (zO (zI (i:=4) sc.nd rfl (.inr rfl))) (zg (yg (i:=3) sc.nd rfl (.inl rfl) (yU wd (zb (pv 3)) (QN.qe (uG ["other", "row"] [none,some 4] rfl rfl (yd (zb (pv 2))) (fun _ _ _ _ _=>(zO (pgn 0 (vJ ["other", "row"])))) (fun _ _ _ _ _=>(wT c_z22 hr rfl (za (zb (pv 1)) (za (zb (pv 0)) ze)))))))))) (zg (yf (pv 1) (QN.qe (oH c_z16 hr rfl (za (zb (pv 3)) ze))) (fun h1 h2=>vG PySem.F.plainAttrs_list PySem.F.slot_list_append PySem.F.type_list_append ye h1 h2)))))) (zg (xF (pv 1)))))
abbrev eB:Stmt:=top 4
theorem sc_z0:FnScope ["row", "waits", "thing", "wait"] ["row", "waits"] (zj eB):=yS
theorem ok_z0 {k:Nat}(F:Fun K "fits_in" "fits_in" eB f fd)(m:Mg mg)  : FnOk P w K mg base CX0 (k+1) f fd ["row", "waits"] (SpD K fF):=by
 have sc:=sc_z0;refine pX (N:=["row", "waits", "thing", "wait"]) (ps:=["row", "waits"]) (g:=ef) F sc fun cdv A outer s H E hr=>?_;unfold ef;exact(zd (yE PassesOwn.never rfl (yd (zb (pv 0))) (l8 [2,3] (kC rfl (wB (zI (i:=2) sc.nd rfl (.inl rfl)) (wB (zI (i:=3) sc.nd rfl (.inl rfl)) oO)))) (zg (yQ (QW.qt (so (u7 hr.units (zb (pv 2)) (zb (pv 1))) (uZ (zU iF (zb (pv 3)) (x4 (yV hr) (zb (pv 1)) (zb (pv 2)) (fun _ _=>rfl) (fun _ _=>rfl)) (zK _))))) (zg (zN vh)) zG))) (zg (zN vh)))
abbrev eR:Stmt:=top 7
theorem sc_z3:FnScope ["row", "kept", "waits", "other"] ["row", "kept"] (zj eR):=yS
theorem ok_z3 {k:Nat}(F:Fun K "is_covered" "is_covered" eR f fd)(m:Mg mg)(c_z0:zA P w K mg base "fits_in" k ["row", "waits"] (SpD K fF)):FnOk P w K mg base CX0 (k+1) f fd ["row", "kept"] (SpD K pU):=by
 have sc:=sc_z3;refine pX (N:=["row", "kept", "waits", "other"]) (ps:=["row", "kept"]) (g:=fX) F sc fun cdv A outer s H E hr=>?_;unfold fX;exact(zd (yg (i:=2) sc.nd rfl (.inl rfl) (QN.qe (wm (x := "dict") (mf rfl) rfl m.dict_ rq (za (zb (pv 0)) ze)))) (zd (yE PassesOwn.never rfl (yd (zb (pv 1))) (zO (zI (i:=3) sc.nd rfl (.inl rfl))) (zg (yQ (x8 (wT c_z0 hr rfl (za (zb (pv 3)) (za (zb (pv 2)) ze)))) (zg (zN vh)) zG))) (zg (zN vh))))
abbrev eC:Stmt:=top 5
theorem sc_z1:FnScope ["row", "other", "waits", "thing", "wait"] ["row", "other"] (zj eC):=yS
theorem ok_z1 {k:Nat}(F:Fun K "joined" "joined" eC f fd)(m:Mg mg)  : FnOk P w K mg base CX0 (k+1) f fd ["row", "other"] (SpD K hX):=by
 have sc:=sc_z1;refine pX (N:=["row", "other", "waits", "thing", "wait"]) (ps:=["row", "other"]) (g:=fV) F sc fun cdv A outer s H E hr=>?_;unfold fV;exact(zd (xB (i:=2) sc.nd rfl (.inl rfl) (wm (x := "dict") (mf rfl) rfl m.dict_ rq (za (zb (pv 0)) ze))) (zd (yE PassesOwn.never rfl (yd (zb (pv 1))) (l8 [3,4] (kC rfl (wB (zI (i:=3) sc.nd rfl (.inl rfl)) (wB (zI (i:=4) sc.nd rfl (.inl rfl)) oO)))) (zg (qs_dput (yV hr) (pv 2) (zb (pv 3)) (zT (x := "max") (io rfl) rfl m.max_ qj (za (zb (pv 4)) (za (mG [2] (q_get2 (yV hr) (zb (pv 2)) (zb (pv 3)) (zb (pv 4)) ⟨rfl,rfl,rfl,rfl⟩)) ze)))))) (zg (sN [2] (zN (uq (x := "tuple") rH rfl m.tuple_ w6 (za (q_sortItems (fun h=>uu (call_sortedItems rfl) rfl m.sorted_ vf (r9 (pe_bm0 PySem.F.plainAttrs_dict PySem.F.slot_dict_items PySem.F.type_dict_items mt_items h) ml)) (zb (pv 2))) ze)))))))
abbrev eN:Stmt:=top 10
theorem sc_z5:FnScope ["form", "other", "rows", "rest", "row"] ["form", "other"] (zj eN):=yS
theorem ok_z5 {k:Nat}(F:Fun K "each_joined" "each_joined" eN f fd)(m:Mg mg)(c_z3:zA P w K mg base "is_covered" k ["row", "kept"] (SpD K pU))(c_z1:zA P w K mg base "joined" k ["row", "other"] (SpD K hX)):FnOk P w K mg base CX0 (k+1) f fd ["form", "other"] (SpN K gM):=by
 have sc:=sc_z5;refine iD (N:=["form", "other", "rows", "rest", "row"]) (ps:=["form", "other"]) (g:=fU) F sc fun cdv A outer s H E hr=>?_;unfold fU;exact(zd (xB (i:=2) sc.nd rfl (.inl rfl) (q_opN o_addL (QN.qe (oV ["row", "other"] [none,some 1] rfl rfl (yd (zb (pv 0))) (fun _ _ _ _ _=>(zO (pgn 0 (vJ ["row", "other"])))) (fun _ _ _ _ _=>(x8 (wT c_z3 hr rfl (za (zb (pv 0)) (za (zb (pv 1)) ze))))) (fun _ _ _ _ _=>(zb (pv 0))))) (QN.qe (oV ["row", "form"] [none,some 0] rfl rfl (yd (zb (pv 1))) (fun _ _ _ _ _=>(zO (pgn 0 (vJ ["row", "form"])))) (fun _ _ _ _ _=>(x8 (wT c_z3 hr rfl (za (zb (pv 0)) (za (zb (pv 1)) ze))))) (fun _ _ _ _ _=>(zb (pv 0))))))) (zd (wt ["row", "form"] [none,some 0] sc.nd rfl (.inl rfl) rfl rfl (yd (zb (pv 1))) (fun _ _ _ _ _=>(zO (pgn 0 (vJ ["row", "form"])))) (fun _ _ _ _ _=>(vv (x8 (wT c_z3 hr rfl (za (zb (pv 0)) (za (zb (pv 1)) ze)))))) (fun _ _ _ _ _=>(zb (pv 0)))) (zd (yE PassesOwn.never rfl (yd (zb (pv 0))) (zO (zI (i:=4) sc.nd rfl (.inr rfl))) (zg (yQ (vv (x8 (wT c_z3 hr rfl (za (zb (pv 4)) (za (zb (pv 1)) ze))))) (zg (qs_extend (pv 2) (uG ["other_row", "row"] [none,some 4] rfl rfl (yd (zb (pv 3))) (fun _ _ _ _ _=>(zO (pgn 0 (vJ ["other_row", "row"])))) (fun _ _ _ _ _=>(wT c_z1 hr rfl (za (zb (pv 1)) (za (zb (pv 0)) ze))))) (fun h1 h2=>vG PySem.F.plainAttrs_list PySem.F.slot_list_extend PySem.F.type_list_extend mt_extend h1 h2))) zG))) (zg (xF (pv 2))))))
abbrev eE:Stmt:=top 6
theorem sc_z2:FnScope ["rows", "enough", "kept", "row"] ["rows", "enough"] (zj eE):=yS
theorem ok_z2 {k:Nat}(F:Fun K "lowest" "lowest" eE f fd)(m:Mg mg)(c_z3:zA P w K mg base "is_covered" k ["row", "kept"] (SpD K pU)):FnOk P w K mg base CX0 (k+1) f fd ["rows", "enough"] (SpN K gU):=by
 have sc:=sc_z2;refine iD (N:=["rows", "enough", "kept", "row"]) (ps:=["rows", "enough"]) (g:=ee) F sc fun cdv A outer s H E hr=>?_;unfold ee;exact(zd (xB (i:=2) sc.nd rfl (.inl rfl) (xJ ze)) (zd (yE PassesOwn.never rfl (yd (QN.qe (q_sortLen (fun h=>L2.ST.pe_sortLen rfl m.sorted_ rfl m.len_ h) (za (QN.qe (q_sortSet (fun h=>uu (L2.ST.call_sortedSet rfl hr.units) rfl m.sorted_ vf (r9 (uI (L2.ST.call_setRows rfl hr.units) rfl m.set_ L2.bt_set h) ml)) (za (zb (pv 0)) ze))) ze)))) (zO (zI (i:=3) sc.nd rfl (.inl rfl))) (zd (yQ (zU (n9 hr.units) (mG [2] (zT (x := "len") o5 rfl m.len_ tJ (za (zb (pv 2)) ze))) (zb (pv 1)) (zK _)) (zg qs_break) zG) (zg (yQ (vv (x8 (mG [2] (wT c_z3 hr rfl (za (zb (pv 3)) (za (zb (pv 2)) ze)))))) (zg (yf (pv 2) (zb (pv 3)) (fun h1 h2=>vG PySem.F.plainAttrs_list PySem.F.slot_list_append PySem.F.type_list_append ye h1 h2))) zG)))) (zg (xF (pv 2)))))
abbrev eK:Stmt:=top 11
theorem sc_z6:FnScope ["rows", "most", "kept"] ["rows", "most"] (zj eK):=yS
theorem ok_z6 {k:Nat}(F:Fun K "form_within" "form_within" eK f fd)(m:Mg mg)(c_z2:zA P w K mg base "lowest" k ["rows", "enough"] (SpN K gU)){C_TooMany:Addr}(x_TooMany:Exc K mg "TooMany" C_TooMany):FnOk P w K mg base (CXE P w) (k+1) f fd ["rows", "most"] (mW K mT):=by
 have sc:=sc_z6;refine gZ (N:=["rows", "most", "kept"]) (ps:=["rows", "most"]) (g:=fG) F sc fun cdv A outer s H E hr=>?_;unfold fG;exact(zd (yg (i:=2) sc.nd rfl (.inl rfl) (QN.qe (jX c_z2 hr rfl (za (zb (pv 0)) (za (yU wd (zb (pv 1)) zi) ze))))) (zd (yQ (zU iF (zT (x := "len") o5 rfl m.len_ tJ (za (zb (pv 2)) ze)) (zb (pv 1)) (zK _)) (zg (qs_raise raises_def x_TooMany rfl rfl (q_fmt (by decide) (zb (pv 1))))) zG) (zg (rL (nT (x := "sorted") (rj hr.units) rfl m.sorted_ vf (za (zb (pv 2)) ze))))))
abbrev eM:Stmt:=top 9
theorem sc_z4:FnScope ["forms", "most", "told", "form"] ["forms", "most"] (zj eM):=yS
theorem ok_z4 {k:Nat}(F:Fun K "all_of" "all_of" eM f fd)(m:Mg mg)(c_z5:zA P w K mg base "each_joined" k ["form", "other"] (SpN K gM))(c_z6:yu P w K mg base "form_within" k ["rows", "most"] (mW K mT)):FnOk P w K mg base (CXE P w) (k+1) f fd ["forms", "most"] (mW K mU):=by
 have sc:=sc_z4;refine gZ (N:=["forms", "most", "told", "form"]) (ps:=["forms", "most"]) (g:=fD) F sc fun cdv A outer s H E hr=>?_;unfold fD;exact(zd (xB (i:=2) sc.nd rfl (.inl rfl) (md c_z6 sX hr rfl (za (x4 (yV hr) (zb (pv 0)) zi (fun _ _=>rfl) (fun _ _=>rfl)) (za (zb (pv 1)) ze)))) (zd (yE passes_def rfl (yd (QN.qe (rN (zb (pv 0)) (vF zi) vH vH))) (zO (zI (i:=3) sc.nd rfl (.inl rfl))) (zg (sN [2] (xB (i:=2) sc.nd rfl (.inl rfl) (md c_z6 sX hr rfl (za (QN.qe (jX c_z5 hr rfl (za (zb (pv 2)) (za (zb (pv 3)) ze)))) (za (zb (pv 1)) ze))))))) (zg (xF (pv 2)))))
abbrev iW:Stmt:=top 30
theorem sc_z24:FnScope ["forms", "most", "refused"] ["forms", "most"] (zj iW):=yS
theorem ok_z24 {k:Nat}(F:Fun K "_law_refused" "_law_refused" iW f fd)(m:Mg mg)(c_z4:yu P w K mg base "all_of" k ["forms", "most"] (mW K mU)){C_TooMany:Addr}(x_TooMany:Exc K mg "TooMany" C_TooMany):FnOk P w K mg base CX0 (k+1) f fd ["forms", "most"] (SpD K ko):=by
 have sc:=sc_z24;refine pX (N:=["forms", "most", "refused"]) (ps:=["forms", "most"]) (g:=jv) F sc fun cdv A outer s H E hr=>?_;unfold jv;exact(zd (yg (i:=2) sc.nd rfl (.inl rfl) vh) (zd (qs_tryB rfl rfl (qb_expr (yu.d c_z4) hr rfl (za (zb (pv 0)) (za (zb (pv 1)) ze))) x_TooMany rfl (fun _=>(zg (yg (i:=2) sc.nd rfl (.inl rfl) vh)))) (zg (zN (zb (pv 2))))))
abbrev gh:Stmt:=top 16
theorem sc_z10:FnScope ["script", "start", "most", "many"] ["script", "start", "most"] (zj gh):=yS
theorem ok_z10 {k:Nat}(F:Fun K "_law_turns" "_law_turns" gh f fd)(m:Mg mg)  : FnOk P w K mg base CX0 (k+1) f fd ["script", "start", "most"] (SpN K mZ):=by
 have sc:=sc_z10;refine iD (N:=["script", "start", "most", "many"]) (ps:=["script", "start", "most"]) (g:=jP) F sc fun cdv A outer s H E hr=>?_;unfold jP;exact(zd (yg (i:=3) sc.nd rfl (.inl rfl) (zT (x := "min") (b_min2 rfl) rfl m.min_ iJ (za (zb (pv 2)) (za (zT (x := "max") (io rfl) rfl m.max_ qj (za zi (za (yU fu (zT (x := "len") o5 rfl m.len_ tJ (za (zb (pv 0)) ze)) (zb (pv 1))) ze))) ze)))) (zg (rL (uG ["k", "script", "start", "most"] [none,some 0,some 1,some 2] rfl rfl (xc rfl m.range_ (za (zb (pv 3)) ze)) (fun _ _ _ _ _=>(zO (pgn 0 (vJ ["k", "script", "start", "most"])))) (fun _ _ _ _ _=>(zT (x := "sum") (b_sum rfl) rfl m.sum_ bt_sum (za (QN.qe (rN (zb (pv 1)) (vF (yU wd (zb (pv 2)) (zb (pv 0)))) vH (vF (zb (pv 3))))) ze)))))))
abbrev iN:Stmt:=top 31
theorem sc_law:FnScope ["script", "things", "many", "most", "forms", "made", "handed", "found", "k", "hours"] ["script"] (zj iN):=yS
theorem ok_law {k:Nat}(F:Fun K "law" "law" iN f fd)(m:Mg mg)(c_z8:zA P w K mg base "_law_cell_at" k ["script", "k"] (SpD K o3))(c_z19:zA P w K mg base "_law_comes" k ["form", "hours"] (SpD K sr))(c_z17:zA P w K mg base "_law_forms" k ["cells", "many", "things"] (SpN K k6))(c_z20:zA P w K mg base "_law_hours" k ["cell", "things"] (SpN K mC))(c_z21:zA P w K mg base "_law_is_form" k ["found"] (SpD K kG))(c_z23:zA P w K mg base "_law_made" k ["forms"] (SpN K jh))(c_z24:zA P w K mg base "_law_refused" k ["forms", "most"] (SpD K ko))(c_z10:zA P w K mg base "_law_turns" k ["script", "start", "most"] (SpN K mZ))(c_z4:yu P w K mg base "all_of" k ["forms", "most"] (mW K mU)):FnOk P w K mg base CX0 (k+1) f fd ["script"] (SpD K pG):=by
 have sc:=sc_law;refine pX (N:=["script", "things", "many", "most", "forms", "made", "handed", "found", "k", "hours"]) (ps:=["script"]) (g:=je) F sc fun cdv A outer s H E hr=>?_;unfold je
 exact(zd (yg (i:=1) sc.nd rfl (.inl rfl) (x4 (yV hr) (QN.qe (xJ (za zi (za zi (za zi (za zi (za zi (za zi ze)))))))) (yU xV (wT c_z8 hr rfl (za (zb (pv 0)) (za zi ze))) zi) (fun _ _=>rfl) (fun _ _=>rfl))) (zd (yg (i:=2) sc.nd rfl (.inl rfl) (yU wd zi (yU xV (wT c_z8 hr rfl (za (zb (pv 0)) (za zi ze))) zi))) (zd (yg (i:=3) sc.nd rfl (.inl rfl) (yU wd zi (yU xV (yU ul (wT c_z8 hr rfl (za (zb (pv 0)) (za zi ze))) zi) (x4 (yV hr) (QN.qe (xJ (za zi (za zi ze)))) (yU xV (wT c_z8 hr rfl (za (zb (pv 0)) (za zi ze))) zi) (fun _ _=>rfl) (fun _ _=>rfl))))) (zd (yg (i:=4) sc.nd rfl (.inl rfl) (QN.qe (oH c_z17 hr rfl (za (QN.qe (oH c_z10 hr rfl (za (zb (pv 0)) (za zi (za zi ze))))) (za (zb (pv 2)) (za (zb (pv 1)) ze)))))) (zd (yg (i:=5) sc.nd rfl (.inl rfl) (QN.qe (oH c_z23 hr rfl (za (zb (pv 4)) ze)))) (zd (qs_setComp ["form"] [none] sc.nd rfl (.inl rfl) rfl rfl (yd (zb (pv 4))) (fun _ _ _ _ _=>(zO (pgn 0 (vJ ["form"])))) (fun _ _ _ _ _=>(QN.qe (wm (x := "list") b_list rfl m.list_ kX (za (zb (pv 0)) ze))))) (zd (yQ (zU iF (zT (x := "max") (lL rfl) rfl m.max_ qj (za (QN.qe (uG ["form"] [none] rfl rfl (yd (zb (pv 5))) (fun _ _ _ _ _=>(zO (pgn 0 (vJ ["form"])))) (fun _ _ _ _ _=>(zT (x := "len") o5 rfl m.len_ tJ (za (zb (pv 0)) ze))))) ze)) (zb (pv 3)) (zK _)) (zg (zN (hW (wT c_z24 hr rfl (za (zb (pv 6)) (za (zb (pv 3)) ze))) (gi (gw (n9 hr.units) (zb (pv 6)) (zb (pv 4)) (zK _)))))) zG) (zd (xB (i:=7) sc.nd rfl (.inl rfl) (md c_z4 ji hr rfl (za (zb (pv 6)) (za (zb (pv 3)) ze)))) (zd (yQ (QW.qt (so (vv (x8 (mG [7] (wT c_z21 hr rfl (za (zb (pv 7)) ze))))) (so (pI [7] (zU (gb hr.units) (zb (pv 7)) (x4 (yV hr) (zb (pv 5)) (fP lB zi) (fun _ _=>rfl) (fun _ _=>rfl)) (zK _))) (uZ (zU (gb hr.units) (zb (pv 6)) (zb (pv 4)) (zK _)))))) (zg (zN vh)) zG) (zd (yE PassesOwn.never rfl (xc rfl m.range_ (za zi ze)) (zO (zI (i:=8) sc.nd rfl (.inl rfl))) (zd (yg (i:=9) sc.nd rfl (.inr rfl) (QN.qe (oH c_z20 hr rfl (za (yU wd (wT c_z8 hr rfl (za (zb (pv 0)) (za (yU wd zi (zb (pv 8))) ze))) (zb (pv 8))) (za (zb (pv 1)) ze))))) (zg (yQ (zU (gb hr.units) (mG [7] (wT c_z19 hr rfl (za (zb (pv 7)) (za (zb (pv 9)) ze)))) (zT (x := "max") (lL rfl) rfl m.max_ qj (za (QN.qe (uG ["form", "hours"] [none,some 9] rfl rfl (yd (zb (pv 4))) (fun _ _ _ _ _=>(zO (pgn 0 (vJ ["form", "hours"])))) (fun _ _ _ _ _=>(wT c_z19 hr rfl (za (zb (pv 0)) (za (zb (pv 1)) ze)))))) ze)) (zK _)) (zg (zN vh)) zG)))) (zd (yf (pv 7) (tY (za (tY (za zi (za zi ze))) ze)) (fun h1 h2=>vG PySem.F.plainAttrs_list PySem.F.slot_list_append PySem.F.type_list_append ye h1 h2)) (zg (zN (hW (gw (n9 hr.units) (zb (pv 6)) (zb (pv 4)) (zK _)) (gi (gw (n9 hr.units) (QN.qe (md c_z4 ji hr rfl (za (zb (pv 6)) (za (zb (pv 3)) ze)))) (x4 (yV hr) (zb (pv 5)) (fP lB zi) (fun _ _=>rfl) (fun _ _=>rfl)) (zK _)))))))))))))))))
end
def oQ (K:W.Frag):Sp:=fun vs H Q _=>∃(a:Addr) (ns:List Int),vs=[.ref a]/\SqL K H a (ns.map V.int)/\ns.length<=63/\∀H',Q (.bl true) H'
theorem law_imp (K:W.Frag)(vs:List V)(H:Hp)(Q:VK)(E:XK)(h:oQ K vs H Q E):SpD K pG vs H Q E:=by
 refine zc2d h fun a ns zr2 hS hl q=>?_;subst zr2;refine⟨H,[.scr ns],yw.refl _,zn.mk (IsD.scr_iff.mpr ⟨a,rfl,hS⟩) .nil,?_⟩;rw[law_true ns hl];intro v F' H' e i;rw[IsD.bl_iff.mp i];exact q H'
theorem all_mk {l:W.OpenLaw}{w:World}{K:W.Frag}{h:Heap}{mg:Str->Option Value}{fa:Addr}(X:K.In h)(G:h.Ns mainGlobals mg)(hfa:mg "law" = some (.ref fa))
 {C_TooMany:Addr}
 (d_z8:yz K "_law_cell_at" eJ)
 (d_z18:yz K "_law_done" gz)
 (d_z19:yz K "_law_comes" gf)
 (d_z9:yz K "_law_mixed" ez)
 (d_z11:yz K "_law_number" hJ)
 (d_z12:yz K "_law_row" iO)
 (d_z13:yz K "_law_varied" iM)
 (d_z14:yz K "_law_list" iK)
 (d_z15:yz K "_law_beneath" iV)
 (d_z16:yz K "_law_thin" gy)
 (d_z17:yz K "_law_forms" gB)
 (d_z20:yz K "_law_hours" gg)
 (d_z7:yz K "_law_whole" eF)
 (d_z21:yz K "_law_is_form" g7)
 (d_z22:yz K "_law_joined" iZ)
 (d_z23:yz K "_law_made" g9)
 (d_z0:yz K "fits_in" eB)
 (d_z3:yz K "is_covered" eR)
 (d_z1:yz K "joined" eC)
 (d_z5:yz K "each_joined" eN)
 (d_z2:yz K "lowest" eE)
 (d_z6:yz K "form_within" eK)
 (d_z4:yz K "all_of" eM)
 (d_z24:yz K "_law_refused" iW)
 (d_z10:yz K "_law_turns" gh)
 (d_law:yz K "law" iN)
 (a_TooMany:W.nsIn K mainGlobals "TooMany" = some (some (.ref C_TooMany))) (q_TooMany:W.excIn K C_TooMany [.type "ValueError",.type "Exception",.type "BaseException",.type "object"] "ValueError.__new__" = true)
 (z_bool:W.nsIn K mainGlobals "bool" = some none)
 (z_dict:W.nsIn K mainGlobals "dict" = some none)
 (z_int:W.nsIn K mainGlobals "int" = some none)
 (z_isinstance:W.nsIn K mainGlobals "isinstance" = some none)
 (z_len:W.nsIn K mainGlobals "len" = some none)
 (z_list:W.nsIn K mainGlobals "list" = some none)
 (z_max:W.nsIn K mainGlobals "max" = some none)
 (z_min:W.nsIn K mainGlobals "min" = some none)
 (z_range:W.nsIn K mainGlobals "range" = some none)
 (z_set:W.nsIn K mainGlobals "set" = some none)
 (z_sorted:W.nsIn K mainGlobals "sorted" = some none)
 (z_sum:W.nsIn K mainGlobals "sum" = some none)
 (z_tuple:W.nsIn K mainGlobals "tuple" = some none) :
 ∃fd:FuncData,(∀(s:Shared) (v:Value),BindsTo s fd ⟨[v],[]⟩ [("script",v)])/\∀base:Heap,K.In base->base.Ns mainGlobals mg->FnOk l.prog w K mg base CX0 7 fa fd ["script"] (oQ K):=by
 refine zc2b d_law fun f_law fd_law a_law pG=>?_;have e:=hfa.symm.trans (W.mg_of X G a_law)
 first|exact zqn e|exact zqb e|(obtain rfl:=Zqi e)|cases e
 have m:Mg mg:=⟨W.mg_none_of X G z_bool,W.mg_none_of X G z_dict,W.mg_none_of X G z_int,W.mg_none_of X G z_isinstance,W.mg_none_of X G z_len,W.mg_none_of X G z_list,W.mg_none_of X G z_max,W.mg_none_of X G z_min,W.mg_none_of X G z_range,W.mg_none_of X G z_set,W.mg_none_of X G z_sorted,W.mg_none_of X G z_sum,W.mg_none_of X G z_tuple⟩;have x_TooMany:Exc K mg "TooMany" C_TooMany:=⟨a_TooMany,W.mg_of X G a_TooMany,q_TooMany⟩;refine⟨fd_law,(by obtain⟨_,_,_,_,_,_,_,_,_,rfl,_,_⟩:=id pG.ex;exact fun s v=>.of_eq rfl),fun base _ _=>?_⟩;have C_z8:=d_z8.callee (P:=l.prog) (w:=w) (base:=base) X G (fun F=>ok_z8 (k:=0) F m ) fun _ _ _ _ _ _=>us2 fun _ _=>rfl;have C_z18:=d_z18.callee (P:=l.prog) (w:=w) (base:=base) X G (fun F=>ok_z18 (k:=0) F m ) fun _ _ _ _ _ _=>us2 fun _ _=>rfl;have C_z19:=d_z19.callee (P:=l.prog) (w:=w) (base:=base) X G (fun F=>ok_z19 (k:=1) F m (C_z18.mono (by decide))) fun _ _ _ _ _ _=>us2 fun _ _=>rfl;have C_z9:=d_z9.callee (P:=l.prog) (w:=w) (base:=base) X G (fun F=>ok_z9 (k:=0) F m ) fun _ _ _ _ _ _=>us2 fun _ _=>rfl;have C_z11:=d_z11.callee (P:=l.prog) (w:=w) (base:=base) X G (fun F=>ok_z11 (k:=1) F m (C_z9.mono (by decide))) fun _ _ _ _ _ _=>us2 fun _ _=>rfl;have C_z12:=d_z12.callee (P:=l.prog) (w:=w) (base:=base) X G (fun F=>ok_z12 (k:=2) F m (C_z9.mono (by decide)) (C_z11.mono (by decide))) fun _ _ _ _ _ _=>us2 fun _ _=>rfl
 have C_z13:=d_z13.callee (P:=l.prog) (w:=w) (base:=base) X G (fun F=>ok_z13 (k:=2) F m (C_z9.mono (by decide)) (C_z11.mono (by decide))) fun _ _ _ _ _ _=>us3 fun _ _ _=>rfl;have C_z14:=d_z14.callee (P:=l.prog) (w:=w) (base:=base) X G (fun F=>ok_z14 (k:=3) F m (C_z12.mono (by decide)) (C_z13.mono (by decide))) fun _ _ _ _ _ _=>us2 fun _ _=>rfl;have C_z15:=d_z15.callee (P:=l.prog) (w:=w) (base:=base) X G (fun F=>ok_z15 (k:=0) F m ) fun _ _ _ _ _ _=>us2 fun _ _=>rfl;have C_z16:=d_z16.callee (P:=l.prog) (w:=w) (base:=base) X G (fun F=>ok_z16 (k:=1) F m (C_z15.mono (by decide))) fun _ _ _ _ _ _=>us1 fun _=>rfl;have C_z17:=d_z17.callee (P:=l.prog) (w:=w) (base:=base) X G (fun F=>ok_z17 (k:=4) F m (C_z14.mono (by decide)) (C_z16.mono (by decide))) fun _ _ _ _ _ _=>us3 fun _ _ _=>rfl;have C_z20:=d_z20.callee (P:=l.prog) (w:=w) (base:=base) X G (fun F=>ok_z20 (k:=2) F m (C_z11.mono (by decide))) fun _ _ _ _ _ _=>us2 fun _ _=>rfl;have C_z7:=d_z7.callee (P:=l.prog) (w:=w) (base:=base) X G (fun F=>ok_z7 (k:=0) F m ) fun _ _ _ _ _ _=>us1 fun _=>rfl;have C_z21:=d_z21.callee (P:=l.prog) (w:=w) (base:=base) X G (fun F=>ok_z21 (k:=1) F m (C_z7.mono (by decide))) fun _ _ _ _ _ _=>us1 fun _=>rfl;have C_z22:=d_z22.callee (P:=l.prog) (w:=w) (base:=base) X G (fun F=>ok_z22 (k:=0) F m ) fun _ _ _ _ _ _=>us2 fun _ _=>rfl;have C_z23:=d_z23.callee (P:=l.prog) (w:=w) (base:=base) X G (fun F=>ok_z23 (k:=2) F m (C_z22.mono (by decide)) (C_z16.mono (by decide))) fun _ _ _ _ _ _=>us1 fun _=>rfl
 have C_z0:=d_z0.callee (P:=l.prog) (w:=w) (base:=base) X G (fun F=>ok_z0 (k:=0) F m ) fun _ _ _ _ _ _=>us2 fun _ _=>rfl;have C_z3:=d_z3.callee (P:=l.prog) (w:=w) (base:=base) X G (fun F=>ok_z3 (k:=1) F m (C_z0.mono (by decide))) fun _ _ _ _ _ _=>us2 fun _ _=>rfl;have C_z1:=d_z1.callee (P:=l.prog) (w:=w) (base:=base) X G (fun F=>ok_z1 (k:=0) F m ) fun _ _ _ _ _ _=>us2 fun _ _=>rfl;have C_z5:=d_z5.callee (P:=l.prog) (w:=w) (base:=base) X G (fun F=>ok_z5 (k:=2) F m (C_z3.mono (by decide)) (C_z1.mono (by decide))) fun _ _ _ _ _ _=>us2 fun _ _=>rfl;have C_z2:=d_z2.callee (P:=l.prog) (w:=w) (base:=base) X G (fun F=>ok_z2 (k:=2) F m (C_z3.mono (by decide))) fun _ _ _ _ _ _=>us2 fun _ _=>rfl;have C_z6:=d_z6.calleeX (P:=l.prog) (w:=w) (base:=base) X G (fun F=>ok_z6 (k:=3) F m (C_z2.mono (by decide)) x_TooMany) fun _ _ _ _ _ _=>us2 fun _ _=>rfl;have C_z4:=d_z4.calleeX (P:=l.prog) (w:=w) (base:=base) X G (fun F=>ok_z4 (k:=4) F m (C_z5.mono (by decide)) (C_z6.mono (by decide))) fun _ _ _ _ _ _=>us2 fun _ _=>rfl;have C_z24:=d_z24.callee (P:=l.prog) (w:=w) (base:=base) X G (fun F=>ok_z24 (k:=5) F m (C_z4.mono (by decide)) x_TooMany) fun _ _ _ _ _ _=>us2 fun _ _=>rfl;have C_z10:=d_z10.callee (P:=l.prog) (w:=w) (base:=base) X G (fun F=>ok_z10 (k:=0) F m ) fun _ _ _ _ _ _=>us3 fun _ _ _=>rfl
 exact((ok_law (k:=6) (P:=l.prog) (w:=w) (base:=base) pG m (C_z8.mono (by decide)) (C_z19.mono (by decide)) (C_z17.mono (by decide)) (C_z20.mono (by decide)) (C_z21.mono (by decide)) (C_z23.mono (by decide)) (C_z24.mono (by decide)) (C_z10.mono (by decide)) (C_z4.mono (by decide))).mono (by decide)).imp (law_imp K)
theorem walk {l:W.OpenLaw}{q:Program}{loose:List Str}{XP:(Str->Option Value)->Heap->Prop}{YP:World->Heap->Prop}{d:DefRec}{K:Params->W.Frag}(hn:l.most=some 63)(hdf:d.params.defaults=[])
 (hY:∀(w:World) (h:Heap),YP w h->(K w.params).In h)
 (F:∀(w:World) (mg:Str->Option Value) (fa:Addr) (h:Heap),(K w.params).In h->h.Ns mainGlobals mg->mg d.name=some (.ref fa) ->
  ∃fd:FuncData,(∀(s:Shared) (u:Value),BindsTo s fd ⟨[u],[]⟩ [("script",u)])/\∀base:Heap,(K w.params).In base->base.Ns mainGlobals mg->FnOk l.prog w (K w.params) mg base CX0 7 fa fd ["script"] (oQ (K w.params))) :
 W.WalkO q loose XP YP l.row.toRowW d [] (fun f vs=>PySem.call f vs) :=
 L2.walk_of (n:=63) (k:=7) (x := "script") (CX:=fun _=>CX0) (sp:=fun w=>oQ (K w.params)) hn (by decide) hdf ⟨rfl,by decide,by decide⟩ hY F (fun _ _ a ns hl _ hS=>⟨a,ns,rfl,hS,hl,fun _=>rfl⟩) fun _ _ _ _ _ z=>z
end My
open PySem PySem.W PyProof.Rows
set_option maxRecDepth 100000 in
set_option maxHeartbeats 0 in
theorem PySem.Challenge.cw_allfirst_k09_all_of_forms_holds : PySem.Challenge.rw_allfirst_k09_all_of_forms.Holds := by
 w_on;o_law;k_head;(case hw=>w_witness2)
 k_fill
 refine My.walk (l:=PySem.Challenge.rw_allfirst_k09_all_of_forms) rfl rfl (fun w h Y=>PySem.W.kIn_of Y) ?F
 case F =>
  intro w mg fa h KX G hmg;refine' My.all_mk KX G hmg ?d_z8 ?d_z18 ?d_z19 ?d_z9 ?d_z11 ?d_z12 ?d_z13 ?d_z14 ?d_z15 ?d_z16 ?d_z17 ?d_z20 ?d_z7 ?d_z21 ?d_z22 ?d_z23 ?d_z0 ?d_z3 ?d_z1 ?d_z5 ?d_z2 ?d_z6 ?d_z4 ?d_z24 ?d_z10 ?d_law ?a_TooMany ?q_TooMany ?z_bool ?z_dict ?z_int ?z_isinstance ?z_len ?z_list ?z_max ?z_min ?z_range ?z_set ?z_sorted ?z_sum ?z_tuple
  (case d_z8|d_z18|d_z19|d_z9|d_z11|d_z12|d_z13|d_z14|d_z15|d_z16|d_z17|d_z20|d_z7|d_z21|d_z22|d_z23|d_z0|d_z3|d_z1|d_z5|d_z2|d_z6|d_z4|d_z24|d_z10|d_law=>refine' ⟨_,_,?a,L2.fun_mk ?l ?c ?k⟩;(case a=>k_is);(case l=>k_is);(case c=>k_is);(case k=>k_is))
  (case a_TooMany=>k_is)
  (case q_TooMany=>k_exc)
  (case z_bool|z_dict|z_int|z_isinstance|z_len|z_list|z_max|z_min|z_range|z_set|z_sorted|z_sum|z_tuple=>k_is)
