import PyProof.Rows.All
import Wide.All
import OpenK.AllK
import Wide.FinOn
import Lean
import PyProof.EqAt
import PyProof.EqKinds
import PyProof.TupleCall
import PyProof.P3Eq
import PyProof.NeData
import PySem.Challenge.RW_allfirst_k59_whole_books_read_back
set_option Elab.async false
set_option linter.all false
set_option maxRecDepth 100000
open PySem PySem.Spec PyProof.Rows
theorem Zqi.{u} {α:Type u}{a b:α}(h:some a=some b):a=b:=Option.some.inj h
theorem Zqg.{u} {α:Type u}{l:List α}{i:Nat}(h:i<l.length):l[i]? = some l[i]:=List.getElem?_eq_getElem h
theorem Zqs.{u} {α:Type u}{a:α}{l:List α}:a∈a::l:=List.mem_cons_self
theorem Zqm.{u} {α:Type u}(y:α){a:α}{l:List α}(h:a∈l):a∈y::l:=List.mem_cons_of_mem y h
theorem Zql.{u,v} {α:Type u}{β:Type v}{l:List α}(f:α->β):(l.map f).length=l.length:=List.length_map f
namespace L2
abbrev Key:=Sum Int Str
def ze1:Key->Value->Bool
 | .inl k,v=>Value.isInt k v
 | .inr x,v=>Value.isStrOf x v
def keyH (w:World):Key->Int
 | .inl k=>hashInt k
 | .inr x=>hashStr w x
theorem zaI:∀ {k:Key} {v:Value},ze1 k v=true->(∃ i t,k=Sum.inl i/\v=Value.int i t)\/(∃ x t,k=Sum.inr x/\v=Value.str x t)
 | .inl i,v,h=>by
  obtain ⟨t,e⟩:=Value.isInt_shape (k:=i) (v:=v) h;exact .inl ⟨i,t,rfl,e⟩
 | .inr x,v,h=>by
  obtain ⟨t,e⟩:=Value.isStrOf_shape (x:=x) (v:=v) h;exact .inr ⟨x,t,rfl,e⟩
theorem zjg (i:Int)(t:Tok):ze1 (.inl i) (.int i t)=true:=by simp [ze1,Value.isInt]
theorem zk2 (x:Str)(t:Tok):ze1 (.inr x) (.str x t)=true:=by simp [ze1,Value.isStrOf]
theorem zr7 (a b:Int):decide ((Sum.inl a:Key)=Sum.inl b)=(a == b):=by
 by_cases e:a=b
 ·subst e;simp
 ·have h:¬ (Sum.inl a:Key)=Sum.inl b:=fun q=>e (Sum.inl.inj q);rw [decide_eq_false h];exact (beq_eq_false_iff_ne.mpr e).symm
theorem zrV (a b:Str):decide ((Sum.inr a:Key)=Sum.inr b)=decide (a=b):=by
 by_cases e:a=b
 ·subst e;simp
 ·have h:¬ (Sum.inr a:Key)=Sum.inr b:=fun q=>e (Sum.inr.inj q);rw [decide_eq_false h,decide_eq_false e]
theorem zqH (a:Int)(b:Str):decide ((Sum.inl a:Key)=Sum.inr b)=false:=decide_eq_false (fun q=>nomatch q)
theorem zrA (a:Str)(b:Int):decide ((Sum.inr a:Key)=Sum.inl b)=false:=decide_eq_false (fun q=>nomatch q)
def zaF (prog:Program)(w:World):PySem.KeyKind prog w Key where
 is:=ze1
 hash:=keyH w
 inj:=fun v a b ha hb=>by
  rcases zaI ha with ⟨i,t,rfl,rfl⟩|⟨x,t,rfl,rfl⟩
  ·rcases zaI hb with ⟨j,u,rfl,e⟩|⟨y,u,rfl,e⟩
   ·injection e with e1 _;rw [e1]
   ·exact nomatch e
  ·rcases zaI hb with ⟨j,u,rfl,e⟩|⟨y,u,rfl,e⟩
   ·exact nomatch e
   ·injection e with e1 _;rw [e1]
 byValue:=fun k v h=>by
  rcases zaI h with ⟨i,t,rfl,rfl⟩|⟨x,t,rfl,rfl⟩<;>rfl
 pyHash:=fun hv h=>by
  rcases zaI hv with ⟨i,t,rfl,rfl⟩|⟨x,t,rfl,rfl⟩
  ·exact wpAny_pyHash_int h
  ·exact wpAny_pyHash_str h
 eqBool:=fun hu hv h=>by
  rcases zaI hu with ⟨i,t,rfl,rfl⟩|⟨x,t,rfl,rfl⟩
  ·rcases zaI hv with ⟨j,u,rfl,rfl⟩|⟨y,u,rfl,rfl⟩
   ·rw [zr7] at h;exact wpAny_eqBool_int h
   ·rw [zqH] at h;exact SeqAt.EqAt.int_str i t y u _ _ _ _ h
  ·rcases zaI hv with ⟨j,u,rfl,rfl⟩|⟨y,u,rfl,rfl⟩
   ·rw [zrA] at h;exact SeqAt.EqAt.str_int x t j u _ _ _ _ h
   ·rw [zrV] at h;exact wpAny_eqBool_str h
 «strs»:=fun k x t v h=>by
  rcases zaI h with ⟨i,u,rfl,e⟩|⟨y,u,rfl,e⟩
  ·exact nomatch e
  ·injection e with e1 _
   subst e1;cases v<;>rfl
theorem zgU (prog:Program)(w:World)(i:Int)(t:Tok):(zaF prog w).is (.inl i) (.int i t)=true:=zjg i t
theorem zgA (prog:Program)(w:World)(x:Str)(t:Tok):(zaF prog w).is (.inr x) (.str x t)=true:=zk2 x t
inductive V where
 |non|bl (b:Bool)|int (i:Int)|str (x:Str)|byt (b:Array UInt8)|flt (b:UInt64)|ref (a:Addr)|ty (n:String)
 deriving DecidableEq
def RelV:V->Value->Prop
 | .non,u=>u=Value.none
 | .bl b,u=>u=Value.bool b
 | .int i,u=>∃ t,u=Value.int i t
 | .str x,u=>∃ t,u=Value.str x t
 | .byt b,u=>∃ t,u=Value.bytes b t
 | .flt b,u=>∃ t,u=Value.float b t
 | .ref a,u=>u=Value.ref a
 | .ty n,u=>u=Value.type n
abbrev Vals:List V->List Value->Prop:=Paired RelV
theorem Vals.length {xs:List V}{us:List Value}(r:Vals xs us):xs.length=us.length:=Paired.length r
theorem Vals.get:∀ {xs:List V} {us:List Value} {i:Nat} {x:V},Vals xs us->xs[i]? = some x->∃ u,us[i]? = some u/\RelV x u
 |_,_,_,_,.nil,e=>by simp at e
 |_,_,0,_,.cons r _,e=>by simp at e;subst e;exact ⟨_,rfl,r⟩
 |_,_,i+1,x,.cons _ t,e=>by
  obtain ⟨u,h1,h2⟩:=Vals.get (i:=i) (x:=x) t (by simpa using e);exact ⟨u,by simpa using h1,h2⟩
theorem Vals.set {x:V}{u:Value}(r:RelV x u):∀ {xs:List V} {us:List Value} (i:Nat),Vals xs us->Vals (xs.set i x) (us.set i u)
 |_,_,_,.nil=>.nil
 |_,_,0,.cons _ t=>.cons r t
 |_,_,i+1,.cons q t=>.cons q (Vals.set r i t)
theorem Vals.append:∀ {xs ys:List V} {us ws:List Value},Vals xs us->Vals ys ws->Vals (xs++ys) (us++ws):=fun h s=>by
 induction h with
 |nil=>exact s
 |cons r _ ih=>exact .cons r ih
theorem Vals.none_of:∀ {xs:List V} {us:List Value} {i:Nat},Vals xs us->xs[i]? = none->us[i]? = none:=fun {xs us i} r e=>by
 have h1:=r.length;have h2:xs.length<=i:=List.getElem?_eq_none_iff.mp e;exact List.getElem?_eq_none_iff.mpr (by omega)
def RelO:Option V->Option Value->Prop
 |some v,some u=>RelV v u
 |none,none=>True
 |_,_=>False
def KV {κ : Type}:List (κ × V)->List (κ × Value)->Prop:=Paired fun (p:κ × V) (q:κ × Value)=>p.1=q.1/\RelV p.2 q.2
def kV:Key->V
 | .inl i=>.int i
 | .inr x=>.str x
inductive HO where
 |lst (xs:List V)
 |tup (xs:List V)
 |dK (kvs:List (Key×V))|dT (kvs:List (List Key×V))
 |set (S:Int->Bool) (n:Nat)
 |ins (C dx:Addr) (fs:List (Str×V))
 |own (x:Addr)
 |xd (fs:List (Str×V))
 |met (f x:Addr)
 |rng (lo hi:Int)
 |frz (o:Obj) (u:HO)
 |tbl (ps:Array Value)
 |ext (φ : Heap->Prop)
abbrev Hp:=Addr->Option HO
def upd (H:Hp)(a:Addr)(o:HO):Hp:=fun b=>if b=a then some o else H b
theorem zai {H:Hp}{a:Addr}{o:HO}:upd H a o a=some o:=by unfold upd;rw [if_pos rfl]
theorem zaj {H:Hp}{a b:Addr}{o:HO}(h:b≠a):upd H a o b=H b:=by unfold upd;rw [if_neg h]
theorem ne_of {H:Hp}{a b:Addr}{o u:HO}(h:H a=some o)(h':H b=some u)(d:o≠u):a≠b:=by
 intro e;subst e;rw [h] at h';exact d (Zqi h')
theorem zaC {H:Hp}{a b:Addr}{o:HO}(h:H a=some o)(h':H b=none):a≠b:=by
 intro e;subst e;rw [h] at h';cases h'
section
variable (P:Program)(w:World)
def zbg (H:Hp)(h:Heap)(a:Addr):HO->Prop
 | .lst xs=>xs.length<=sizeLine/\∃ (its:List Value) (n:Nat),Vals xs its/\h.get? a=some { cls:=.type "list",data:=.seq its.toArray n }
 | .tup xs=>(xs.length<=sizeLine/\∃ o,h.get? a=some o/\o.dict=none)/\∃ its:List Value,Vals xs its/\IsTup h a its.toArray
 | .dK kvs=>kvs.length<=sizeLine/\(a == sysModules)=false/\∃ vs,KV kvs vs/\h.DictOf (zaF P w) a vs
 | .dT kvs=>kvs.length<=sizeLine/\(a == sysModules)=false/\∃ xs:List (List Key×Addr×Value),
  Paired (fun (p:List Key×V) (q:List Key×Addr×Value)=>p.1=q.1/\H q.2.1=some (.tup (p.1.map kV))/\RelV p.2 q.2.2) kvs xs /\
  ∃ o es ep,h.get? a=some o/\o.ExactDict/\o.data=.dict es ep/\es.toList=xs.map (entryOfKey (tupleKind (zaF P w)))/\(xs.map (·.1)).Nodup
 | .set S n=>h.SetOf (intKind P w) a S n
 | .ins C dx fs=>H dx=some (.own a)/\fs.length<=1000/\dx≠a/\h.get? a=some (W.instObj C dx) /\
  ∃ mA,h.Ns1 dx mA/\(∀ f,RelO (fs.lookup f) (mA f))/\PySem.Within mA (fs.map (·.1))
 | .own _=>∃ o,h.get? a=some o
 | .xd fs=>∃ mA,h.Ns1 a mA/\∀ f,RelO (fs.lookup f) (mA f)
 | .rng lo hi=>∃ t u v,h.get? a=some { cls:=.type "range",data:=.fields #[.int lo t,.int hi u,.int 1 v] }
 | .frz o u=>h.get? a=some o/\zbg H h a u
 | .tbl ps=>h.get? a=some { cls:=.none,data:=.fields ps }
 | .met f x=>h.get? a=some (W.methodObj (.ref f) (.ref x))
 | .ext φ => φ h/\(∃ o,h.get? a=some o)/\∀ h1 h2:Heap,φ h1->(∀ o,h1.get? a=some o->h2.get? a=some o) -> φ h2
def HOk (H:Hp)(h:Heap):Prop:=∀ a o,H a=some o->zbg P w H h a o
end
section
variable {P:Program}{w:World}{H H':Hp}{h h':Heap}{a:Addr}{o:HO}
theorem zbg.lt (x:zbg P w H h a o):a<h.objs.size:=by
 cases o with
 |lst xs=>obtain ⟨_,_,_,_,e⟩:=x;exact Heap.lt_size e
 |tup xs=>obtain ⟨_,_,_,p⟩:=x;exact p.lt
 |dK kvs=>obtain ⟨_,_,_,_,o,_,_,e,_⟩:=x;exact Heap.lt_size e
 |dT kvs=>obtain ⟨_,_,_,_,o,_,_,e,_⟩:=x;exact Heap.lt_size e
 |set S n=>obtain ⟨o,_,_,_,e,_⟩:=x;exact Heap.lt_size e
 |ins C dx fs=>obtain ⟨_,_,_,e,_⟩:=x;exact Heap.lt_size e
 |own y=>obtain ⟨_,e⟩:=x;exact Heap.lt_size e
 |xd fs=>obtain ⟨_,⟨_,_,_,e,_⟩,_⟩:=x;exact Heap.lt_size e
 |rng lo hi=>obtain ⟨_,_,_,e⟩:=x;exact Heap.lt_size e
 |frz ob u=>obtain ⟨e,_⟩:=x;exact Heap.lt_size e
 |tbl ps=>exact Heap.lt_size (show h.get? a=some _ from x)
 |met f y=>exact Heap.lt_size (show h.get? a=some _ from x)
 |ext φ => obtain ⟨_,⟨_,e⟩,_⟩:=x;exact Heap.lt_size e
theorem Paired.mapP {α β : Type}{F G:α -> β -> Prop}:∀ {l₁:List α} {l₂:List β},Paired F l₁ l₂->(∀ a b,F a b->G a b)->Paired G l₁ l₂:=fun h f=>by
 induction h with
 |nil=>exact .nil
 |cons r _ ih=>exact .cons (f _ _ r) ih
theorem zbg.stay (x:zbg P w H h a o)(k:∀ b u,(b=a\/H b=some (.own a))->h.get? b=some u->h'.get? b=some u)
 (ho:∀ b,H b=some (.own a)->H' b=some (.own a)) (ht:∀ b xs,H b=some (.tup xs)->H' b=some (.tup xs)):zbg P w H' h' a o:=by
 induction o with
 |lst xs=>obtain ⟨z,its,n,r,e⟩:=x;exact ⟨z,its,n,r,k _ _ (.inl rfl) e⟩
 |tup xs=>obtain ⟨⟨z,od,ed,dd⟩,its,r,ob,e,c⟩:=x;exact ⟨⟨z,od,k _ _ (.inl rfl) ed,dd⟩,its,r,ob,k _ _ (.inl rfl) e,c⟩
 |dK kvs=>obtain ⟨z,y,vs,r,ob,es,ep,e,c⟩:=x;exact ⟨z,y,vs,r,ob,es,ep,k _ _ (.inl rfl) e,c⟩
 |dT kvs =>
  obtain ⟨z,y,xs,r,ob,es,ep,e,c⟩:=x;exact ⟨z,y,xs,Paired.mapP r fun p q z=>⟨z.1,ht _ _ z.2.1,z.2.2⟩,ob,es,ep,k _ _ (.inl rfl) e,c⟩
 |set S n=>obtain ⟨ob,es,ep,t,e,c⟩:=x;exact ⟨ob,es,ep,t,k _ _ (.inl rfl) e,c⟩
 |ins C dx fs =>
  obtain ⟨d,z,ne,e,mA,⟨od,es,ep,e2,c⟩,r⟩:=x;exact ⟨ho _ d,z,ne,k _ _ (.inl rfl) e,mA,⟨od,es,ep,k _ _ (.inr d) e2,c⟩,r⟩
 |own y=>obtain ⟨ob,e⟩:=x;exact ⟨ob,k _ _ (.inl rfl) e⟩
 |xd fs=>obtain ⟨mA,⟨od,es,ep,e,c⟩,r⟩:=x;exact ⟨mA,⟨od,es,ep,k _ _ (.inl rfl) e,c⟩,r⟩
 |rng lo hi=>obtain ⟨t,u,v,e⟩:=x;exact ⟨t,u,v,k _ _ (.inl rfl) e⟩
 |frz ob u ih=>obtain ⟨e,q⟩:=x;exact ⟨k _ _ (.inl rfl) e,ih q⟩
 |tbl ps =>
  have e:h.get? a=some { cls:=.none,data:=.fields ps }:=x;show h'.get? a=some { cls:=.none,data:=.fields ps };exact k a _ (.inl rfl) e
 |met f y =>
  have e:h.get? a=some (W.methodObj (.ref f) (.ref y)):=x;show h'.get? a=some (W.methodObj (.ref f) (.ref y));exact k a _ (.inl rfl) e
 |ext φ => obtain ⟨p,⟨o,e⟩,st⟩:=x;exact ⟨st _ _ p fun o q=>k _ _ (.inl rfl) q,⟨o,k _ _ (.inl rfl) e⟩,st⟩
theorem HOk.lt (x:HOk P w H h)(e:H a=some o):a<h.objs.size:=(x a o e).lt
theorem HOk.fresh (x:HOk P w H h)(e:h.objs.size<=a):H a=none:=by
 cases q:H a with
 |none=>rfl
 |some u=>exact absurd (Nat.lt_of_lt_of_le (x.lt q) e) (Nat.lt_irrefl _)
theorem HOk.kept (x:HOk P w H h)(k:∀ b u,h.get? b=some u->h'.get? b=some u):HOk P w H h':=fun a o e =>
 (x a o e).stay (fun b u _ q=>k b u q) (fun _ q=>q) fun _ _ q=>q
theorem HOk.laid (x:HOk P w H h)(k:∀ b u,h.get? b=some u->h'.get? b=some u)(hp:h.objs.size<=a)(new:zbg P w (upd H a o) h' a o):HOk P w (upd H a o) h':=fun b u e=>by
 have hn:=x.fresh hp;by_cases hb:b=a
 ·subst hb;rw [zai] at e;cases e;exact new
 ·rw [zaj hb] at e;exact (x b u e).stay (fun c v _ q=>k c v q) (fun c q=>by rw [zaj (zaC q hn)];exact q) fun c xs q=>by rw [zaj (zaC q hn)];exact q
end
def Rd (H:Hp)(a:Addr)(u:HO):Prop:=H a=some u\/∃ o,H a=some (.frz o u)
theorem Rd.ok {P:Program}{w:World}{H:Hp}{h:Heap}{a:Addr}{u:HO}(r:Rd H a u)(x:HOk P w H h):zbg P w H h a u:=by
 rcases r with r|⟨o,r⟩
 ·exact x a u r
 ·obtain ⟨_,q⟩:=x a _ r;exact q
def Mut:Option HO->Prop
 |some (.lst _)=>True
 |some (.dK _)=>True
 |some (.dT _)=>True
 |some (.set _ _)=>True
 |some (.ins _ _ _)=>True
 |some (.ext _)=>True
 |_=>False
section
variable {P:Program}{w:World}{H:Hp}{h h':Heap}{x e:Addr}{o':HO}
theorem HOk.write (ok:HOk P w H h)(mu:Mut (H x))(he:e=x\/H e=some (.own x))(k:∀ b u,b≠e->h.get? b=some u->h'.get? b=some u)(heo:∃ u,h'.get? e=some u)
 (new:zbg P w (upd H x o') h' x o'):HOk P w (upd H x o') h':=fun b u q=>by
 have nown:∀ c y,H c=some (.own y)->c≠x:=fun c y r z=>by subst z;rw [r] at mu;exact mu
 have ntup:∀ c xs,H c=some (.tup xs)->c≠x:=fun c xs r z=>by subst z;rw [r] at mu;exact mu
 by_cases hb:b=x
 ·subst hb;rw [zai] at q;cases q;exact new
 ·rw [zaj hb] at q;by_cases hbe:b=e
  ·have q':H b=some (.own x):=by
    rcases he with z|z
    ·exact absurd (hbe.trans z) hb
    ·rw [hbe];exact z
   rw [q] at q';cases q';obtain ⟨v,hv⟩:=heo;exact ⟨v,by rw [hbe];exact hv⟩
  ·refine (ok b u q).stay (fun c v hc r=>k c v ?_ r) (fun c r=>by rw [zaj (nown c b r)];exact r) fun c xs r=>by rw [zaj (ntup c xs r)];exact r
   rcases hc with rfl|hc
   ·exact hbe
   ·rintro rfl;rcases he with z|z
    ·exact nown c b hc z
    ·rw [hc] at z;cases z;exact hb rfl
end
structure Un (fs ex:List Addr)(H H':Hp)(h h':Heap):Prop where
 keep:∀ b o,h.get? b=some o->H b=none->b∉fs->b∉ex->h'.get? b=some o
 slot:∀ b o,h.get? b=some o->H b=none->b∈fs->b∉ex->∃ sl,h'.get? b=some { o with slots:=sl }
 free:∀ b o,h.get? b=some o->H b=none->b∉ex->H' b=none
 there:∀ b o,h.get? b=some o->b∉ex->∃ o',h'.get? b=some o'
 tups:∀ b xs,H b=some (.tup xs)->H' b=some (.tup xs)
 frzs:∀ b o u,H b=some (.frz o u)->H' b=some (.frz o u)
 tbls:∀ b ps,H b=some (.tbl ps)->∃ more,H' b=some (.tbl (ps++more))
section
variable {fs fs' ex ex':List Addr}{H H1 H2:Hp}{h h1 h2 h':Heap}{a x e:Addr}{o:HO}
theorem Un.any (u:Un fs ex H H1 h h1){b:Addr}{ob:Obj}(q:h.get? b=some ob)(n:H b=none)(hx:b∉ex):∃ sl,h1.get? b=some { ob with slots:=sl }:=by
 by_cases hb:b∈fs
 ·exact u.slot b ob q n hb hx
 ·exact ⟨ob.slots,u.keep b ob q n hb hx⟩
theorem Un.kept (k:∀ b u,h.get? b=some u->h'.get? b=some u):Un fs ex H H h h' :=
 ⟨fun b ob q _ _ _=>k b ob q,fun b ob q _ _ _=>⟨ob.slots,k b ob q⟩,fun _ _ _ n _=>n,fun b ob q _=>⟨ob,k b ob q⟩,fun _ _ q=>q,fun _ _ _ q=>q,fun _ ps q=>⟨#[],by rw [q];simp⟩⟩
theorem Un.refl:Un fs ex H H h h:=Un.kept fun _ _ q=>q
theorem Un.laid (k:∀ b u,h.get? b=some u->h'.get? b=some u)(hp:h.objs.size<=a)(hn:H a=none):Un fs ex H (upd H a o) h h' where
 keep:=fun b u q _ _ _=>k b u q
 slot:=fun b u q _ _ _=>⟨u.slots,k b u q⟩
 free:=fun b u q n _=>by rw [zaj (Nat.ne_of_lt (Nat.lt_of_lt_of_le (Heap.lt_size q) hp))];exact n
 there:=fun b u q _=>⟨u,k b u q⟩
 tups:=fun b xs q=>by rw [zaj (zaC q hn)];exact q
 frzs:=fun b u xs q=>by rw [zaj (zaC q hn)];exact q
 tbls:=fun b ps q=>⟨#[],by rw [zaj (zaC q hn),q];simp⟩
theorem Un.write (mu:Mut (H x))(he:e=x\/H e=some (.own x))(k:∀ b u,b≠e->h.get? b=some u->h'.get? b=some u)(heo:∃ u,h'.get? e=some u):Un fs ex H (upd H x o) h h':=by
 have hx:∀ b,H b=none->b≠x:=fun b n z=>by subst z;rw [n] at mu;exact mu
 have hb:∀ b,H b=none->b≠e:=fun b n z=>by
  subst z;rcases he with r|r
  ·exact hx b n r
  ·rw [n] at r;cases r
 have hm:∀ b u,H b=some u->¬ Mut (some u)->b≠x:=fun b u q nm z=>by subst z;rw [q] at mu;exact nm mu
 refine ⟨fun b u q n _ _=>k b u (hb b n) q,fun b u q n _ _=>⟨u.slots,k b u (hb b n) q⟩,fun b u q n _=>by rw [zaj (hx b n)];exact n,fun b u q _=>?_,
  fun b xs q=>by rw [zaj (hm b _ q fun z=>z)];exact q,fun b u xs q=>by rw [zaj (hm b _ q fun z=>z)];exact q,fun b ps q=>⟨#[],by rw [zaj (hm b _ q fun z=>z),q];simp⟩⟩
 by_cases hbe:b=e
 ·subst hbe;exact heo
 ·exact ⟨u,k b u hbe q⟩
end
def trk (h:Heap)(H:Hp):List Addr:=(List.range h.objs.size).filter fun a=>(H a).isSome
def hidT (h:Heap)(H:Hp):Heap:=W.hideAll h (trk h H)
theorem zk8 (h:Heap)(H:Hp):(hidT h H).objs.size=h.objs.size:=W.hideAll_size _ _
theorem zmA {h:Heap}{H:Hp}{b:Addr}{o:Obj}(e:h.get? b=some o)(n:H b=none):(hidT h H).get? b=some o :=
 W.hideAll_get _ e fun hm=>by
  have q:(H b).isSome=true:=(List.mem_filter.mp hm).2;rw [n] at q;simp at q
theorem zoW {h:Heap}{H:Hp}{b:Addr}{o:Obj}(e:(hidT h H).get? b=some o):h.get? b=some o/\H b=none:=by
 have e':h.get? b=some o:=W.of_hideAll (trk h H) e;refine ⟨e',?_⟩;cases q:H b with
 |none=>rfl
 |some x =>
  have hm:b∈trk h H:=List.mem_filter.mpr ⟨List.mem_range.mpr (Heap.lt_size e'),by simp [q]⟩;have z:(hidT h H).get? b=none:=W.hideAll_none (trk h H) hm;rw [z] at e;cases e
structure Mod (K:W.Frag)(mg:Str->Option Value)(base:Heap):Prop where
 kin:K.In base
 glob:base.Ns mainGlobals mg
 blt:∃ mb,base.Ns builtinsNs mb/\∀ x:Str,x ≠ "__name__" -> mb x=bootBuiltins x
 nolimit:base.NoLimit
structure Cx where
 prog:Program
 w:World
 K:W.Frag
 mg:Str->Option Value
 base:Heap
 A:Around
 N:List Str
 s₀:Shared
 H₀:Hp
 env:Env
 outer:List Env
 stack:List Env
 ex:List Addr
 fn:Str->Bool
 calm:Bool
 pn:List (Addr×Obj)
 xe:Value->Shared->Prop
def frs (l:List Env):List Addr:=l.filterMap (·.frame)
abbrev Cx.fs (X:Cx):List Addr:=frs X.outer
def Vis (sc:Scope)(x:Str):Prop:=sc.names.lookup x=some .local\/sc.names.lookup x=some .cell\/sc.names.lookup x=some .free
def Loc (sc:Scope)(x:Str):Prop:=sc.names.lookup x=some .local\/sc.names.lookup x=some .cell
def Look (env:Env)(h:Heap)(m:Str->Option Value)(x:Str)(u:Value):Prop :=
 (env.kindOf x=some .local/\m x=some u)\/((env.kindOf x=some .cell\/env.kindOf x=some .free)/\∃ c,env.cells.lookup x=some c/\h.IsCell c (some u))
structure Cx.Ok (X:Cx):Prop where
 mod:Mod X.K X.mg X.base
 kind:X.env.scope.kind=.function
 glob:X.env.globals=mainGlobals
 blt:X.env.builtins=builtinsNs
 above:X.s₀.heap.objs.size<=X.env.locals
 inj:∀ x y c,X.env.cells.lookup x=some c->X.env.cells.lookup y=some c->x=y
 has:∀ x,(X.env.kindOf x=some .cell\/X.env.kindOf x=some .free)->∃ c,X.env.cells.lookup x=some c
 cab:∀ x c,X.fn x=true->X.env.cells.lookup x=some c->X.s₀.heap.objs.size<=c
 hd:X.calm=true->X.A.handled=none
 frames:X.A.frames=some X.stack
 stk:X.stack=X.outer\/(X.stack=X.env::X.outer/\X.env.frame=some X.env.locals)
 exf:∀ b∈X.ex,b≠X.env.locals/\∀ x c,X.env.cells.lookup x=some c->c≠b
 bs:∀ b o,X.base.get? b=some o->X.s₀.heap.get? b=some o/\X.H₀ b=none
 bsz:X.base.objs.size<=X.s₀.heap.objs.size
 noex:∀ b o,X.base.get? b=some o->b∉X.ex
 exfs:∀ b∈X.ex,b∉X.fs
 funs:X.s₀.heap.FunFrames X.base X.outer
 frf:∀ b∈X.fs,X.H₀ b=none
structure Inv (X:Cx)(pins:List (Addr×Obj))(σ : List (Option V))(H:Hp)(s:Shared):Prop where
 ok:X.Ok
 os:s.os=X.s₀.os
 bare:AllBare s.gens
 base:Un X.fs X.ex X.H₀ H X.s₀.heap s.heap
 loc:∃ m,s.heap.Ns X.env.locals m/\∀ (i:Nat) (x:Str) (v:V),X.N[i]? = some x -> σ[i]? = some (some v)->Vis X.env.scope x->∃ u,RelV v u/\Look X.env s.heap m x u
 cell:∀ x c,X.env.cells.lookup x=some c->∃ v,s.heap.IsCell c v
 free:H X.env.locals=none
 freeC:∀ x c,X.env.cells.lookup x=some c->H c=none
 pin:∀ p∈X.pn++pins,s.heap.get? p.1=some p.2/\H p.1=none/\p.1≠X.env.locals/\p.1∉X.fs/\∀ v,p.2.data ≠ .cell v
 hok:HOk X.prog X.w H s.heap
 len:σ.length=X.N.length
section
variable {X:Cx}{pins:List (Addr×Obj)}{σ : List (Option V)}{H H':Hp}{s:Shared}{h':Heap}
theorem Cx.Ok.nofr (ok:X.Ok){b:Addr}{o:Obj}(e:X.base.get? b=some o):b∉X.fs:=fun hb=>by
 have:=(ok.funs.mem hb).1;rw [e] at this;cases this
theorem Inv.bs (I:Inv X pins σ H s):∀ b o,X.base.get? b=some o->s.heap.get? b=some o/\H b=none:=fun b o e =>
 ⟨I.base.keep b o (I.ok.bs b o e).1 (I.ok.bs b o e).2 (I.ok.nofr e) (I.ok.noex b o e),I.base.free b o (I.ok.bs b o e).1 (I.ok.bs b o e).2 (I.ok.noex b o e)⟩
theorem Inv.bk (I:Inv X pins σ H s):∀ b o,X.base.get? b=some o->s.heap.get? b=some o:=fun b o e=>(I.bs b o e).1
theorem Inv.mod (I:Inv X pins σ H s):Mod X.K X.mg X.base:=I.ok.mod
theorem Inv.kIn (I:Inv X pins σ H s):X.K.In s.heap:=I.ok.mod.kin.keeps I.bk
theorem Inv.lt (I:Inv X pins σ H s):X.env.locals<s.heap.objs.size:=let ⟨_,hn,_⟩:=I.loc;hn.lt
theorem Inv.sz (I:Inv X pins σ H s):X.s₀.heap.objs.size<=s.heap.objs.size:=Nat.le_trans I.ok.above (Nat.le_of_lt I.lt)
theorem Inv.nofs (I:Inv X pins σ H s){a:Addr}(h:s.heap.objs.size<=a):a∉X.fs:=fun hb=>by
 obtain ⟨_,o,ho,_⟩:=I.ok.funs.mem hb;exact absurd (Nat.lt_of_lt_of_le (Heap.lt_size ho) (Nat.le_trans I.sz h)) (Nat.lt_irrefl _)
theorem Inv.cne (I:Inv X pins σ H s):∀ x c,X.env.cells.lookup x=some c->c≠X.env.locals:=fun x c e z=>by
 obtain ⟨v,o,ho,hd⟩:=I.cell x c e;obtain ⟨m,⟨o',es,ep,ho',hd',_⟩,_⟩:=I.loc;rw [z,ho'] at ho;cases ho;rw [hd'] at hd;cases hd
theorem Inv.funs (I:Inv X pins σ H s):s.heap.FunFrames X.base X.outer:=by
 have all:∀ (l:List Env),(∀ b∈frs l,b∈X.fs)->X.s₀.heap.FunFrames X.base l->s.heap.FunFrames X.base l:=by
  intro l
  induction l with
  |nil=>intro _ _;trivial
  |cons env r ih =>
   intro hs hl;obtain ⟨hk,⟨L,o,hf,hn,ho,hd⟩,hr⟩:=hl;have hL:L∈X.fs:=hs L (by unfold frs;rw [List.filterMap_cons,hf];exact Zqs);obtain ⟨sl,e⟩:=I.base.slot L o ho (I.ok.frf L hL) hL fun z=>I.ok.exfs L z hL;exact ⟨hk,⟨L,_,hf,hn,e,hd⟩,ih (fun b hb=>hs b (by unfold frs;rw [List.filterMap_cons,hf];exact Zqm _ hb)) hr⟩
 exact all X.outer (fun _ hb=>hb) I.ok.funs
theorem Inv.stack (I:Inv X pins σ H s):s.heap.FunFrames X.base X.stack:=by
 rcases I.ok.stk with e|⟨e,hf⟩
 ·rw [e];exact I.funs
 ·rw [e];obtain ⟨m,hn,_⟩:=I.loc;refine .cons (by rw [I.ok.kind];decide) hf hn ?_ I.funs;exact Heap.get?_none_of_le (Nat.le_trans I.ok.bsz I.ok.above)
theorem Inv.stkSub (I:Inv X pins σ H s):∀ b∈frs X.stack,b∈X.env.locals::X.fs:=fun b hb=>by
 rcases I.ok.stk with e|⟨e,hf⟩
 ·rw [e] at hb;exact Zqm _ hb
 ·rw [e] at hb;unfold frs at hb;rw [List.filterMap_cons,hf] at hb;exact hb
theorem Inv.stkFree (I:Inv X pins σ H s):∀ b∈frs X.stack,H b=none:=fun b hb=>by
 rcases List.mem_cons.mp (I.stkSub b hb) with e|hb
 ·rw [e];exact I.free
 ·obtain ⟨_,o,ho,_⟩:=I.ok.funs.mem hb;exact I.base.free b o ho (I.ok.frf b hb) fun z=>I.ok.exfs b z hb
theorem Inv.step {g':Array GenState}{t':Nat}{d':Drawn}{ch:List Addr}(I:Inv X pins σ H s)
 (hch:∀ b∈ch,(b∈X.ex\/X.s₀.heap.objs.size<=b)/\b≠X.env.locals/\(∀ x c,X.env.cells.lookup x=some c->c≠b)/\∀ p∈X.pn++pins,p.1≠b)
 (keep:∀ b o,b≠X.env.locals->b∉X.fs->b∉ch->s.heap.get? b=some o->H b=none->h'.get? b=some o)
 (slot:∀ b o,b≠X.env.locals->b∈X.fs->b∉ch->s.heap.get? b=some o->H b=none->∃ sl,h'.get? b=some { o with slots:=sl }) (free:∀ b o,b∉ch->s.heap.get? b=some o->H b=none->H' b=none)
 (there:∀ b o,b∉ch->s.heap.get? b=some o->∃ o',h'.get? b=some o')
 (tups:∀ b xs,H b=some (.tup xs)->H' b=some (.tup xs)) (frzs:∀ b o u,H b=some (.frz o u)->H' b=some (.frz o u)) (tbls:∀ b ps,H b=some (.tbl ps)->∃ more,H' b=some (.tbl (ps++more)))
 (ns:∀ m,s.heap.Ns X.env.locals m->h'.Ns X.env.locals m) (hok:HOk X.prog X.w H' h') (hg:AllBare g') :
 Inv X pins σ H' { s with heap:=h',gens:=g',drawn:=d',toks:=t' }:=by
 have neL:∀ b o,X.s₀.heap.get? b=some o->b≠X.env.locals:=fun b o e=>Nat.ne_of_lt (Nat.lt_of_lt_of_le (Heap.lt_size e) I.ok.above);have neC:∀ b o,X.s₀.heap.get? b=some o->b∉X.ex->b∉ch:=fun b o e hx hb=>by
  rcases (hch b hb).1 with z|z
  ·exact hx z
  ·exact absurd (Nat.lt_of_lt_of_le (Heap.lt_size e) z) (Nat.lt_irrefl _)
 have cellK:∀ x c,X.env.cells.lookup x=some c->∀ v,s.heap.IsCell c v->h'.IsCell c v:=fun x c e v ⟨o,ho,hd⟩=>by
  have nch:c∉ch:=fun z=>(hch c z).2.2.1 x c e rfl;by_cases hc:c∈X.fs
  ·obtain ⟨sl,q⟩:=slot c o (I.cne x c e) hc nch ho (I.freeC x c e);exact ⟨_,q,hd⟩
  ·exact ⟨o,keep c o (I.cne x c e) hc nch ho (I.freeC x c e),hd⟩
 refine ⟨I.ok,I.os,hg,⟨fun b o e n hb hx=>?_,fun b o e n hb hx=>?_,fun b o e n hx=>?_,fun b o e hx=>?_,fun b xs e=>tups b xs (I.base.tups b xs e),fun b o xs e=>frzs b o xs (I.base.frzs b o xs e),fun b ps e=>?_⟩,?_,fun x c e=>?_,?_,fun x c e=>?_,fun p hp=>?_,hok,I.len⟩
 ·exact keep b o (neL b o e) hb (neC b o e hx) (I.base.keep b o e n hb hx) (I.base.free b o e n hx)
 ·obtain ⟨sl,e1⟩:=I.base.slot b o e n hb hx;obtain ⟨sl',e2⟩:=slot b _ (neL b o e) hb (neC b o e hx) e1 (I.base.free b o e n hx);exact ⟨sl',e2⟩
 ·obtain ⟨o',e1⟩:=I.base.there b o e hx;exact free b o' (neC b o e hx) e1 (I.base.free b o e n hx)
 ·obtain ⟨o',e1⟩:=I.base.there b o e hx;exact there b o' (neC b o e hx) e1
 ·obtain ⟨m1,e1⟩:=I.base.tbls b ps e;obtain ⟨m2,e2⟩:=tbls b _ e1;exact ⟨m1++m2,by rw [e2,Array.append_assoc]⟩
 ·obtain ⟨m,hn,hl⟩:=I.loc;refine ⟨m,ns m hn,fun i x v e1 e2 e3=>?_⟩;obtain ⟨u,r,l⟩:=hl i x v e1 e2 e3;refine ⟨u,r,?_⟩;rcases l with l|⟨k,c,e,z⟩
  ·exact .inl l
  ·exact .inr ⟨k,c,e,cellK x c e _ z⟩
 ·obtain ⟨v,z⟩:=I.cell x c e;exact ⟨v,cellK x c e v z⟩
 ·obtain ⟨m,⟨o,_,_,ho,_⟩,_⟩:=I.loc;exact free _ o (fun z=>(hch _ z).2.1 rfl) ho I.free
 ·obtain ⟨v,o,ho,hd⟩:=I.cell x c e;exact free c o (fun z=>(hch c z).2.2.1 x c e rfl) ho (I.freeC x c e)
 ·obtain ⟨e,n,ne,nf,d⟩:=I.pin p hp;have nch:p.1∉ch:=fun z=>(hch p.1 z).2.2.2 p hp rfl;exact ⟨keep p.1 p.2 ne nf nch e n,free p.1 p.2 nch e n,ne,nf,d⟩
theorem Inv.un {t':Nat}(I:Inv X pins σ H s)(u:Un X.fs [] H H' s.heap h')(hok:HOk X.prog X.w H' h'):Inv X pins σ H' { s with heap:=h',toks:=t' }:=by
 obtain ⟨m,⟨o,es,ep,ho,r⟩,_⟩:=id I.loc;obtain ⟨sl,hL⟩:=u.any ho I.free (by simp);exact I.step (g':=s.gens) (d':=s.drawn) (ch:=[]) (fun _ z=>nomatch z) (fun b o _ hb _ e n=>u.keep b o e n hb (by simp)) (fun b o _ hb _ e n=>u.slot b o e n hb (by simp)) (fun b o _ e n=>u.free b o e n (by simp)) (fun b o _ e=>u.there b o e (by simp)) u.tups u.frzs u.tbls (fun m' hm=>by
  obtain ⟨o',es',ep',ho',r'⟩:=hm;rw [ho] at ho';cases ho';exact ⟨_,es',ep',hL,r'⟩) hok I.bare
theorem Inv.call {g':Array GenState}{t':Nat}{d':Drawn}{ch:List Addr}(I:Inv X pins σ H s)(u:Un (frs X.stack) ch H H' s.heap h')(hok:HOk X.prog X.w H' h')(hg:AllBare g')
 (hch:∀ b∈ch,(b∈X.ex\/X.s₀.heap.objs.size<=b)/\b≠X.env.locals/\(∀ x c,X.env.cells.lookup x=some c->c≠b)/\∀ p∈X.pn++pins,p.1≠b) :
 Inv X pins σ H' { s with heap:=h',gens:=g',drawn:=d',toks:=t' }:=by
 obtain ⟨m,⟨o,es,ep,ho,r⟩,_⟩:=id I.loc;obtain ⟨sl,hL⟩:=u.any ho I.free fun z=>(hch _ z).2.1 rfl;exact I.step (ch:=ch) hch (fun b o hL hb hc e n=>u.keep b o e n (fun z=>(List.mem_cons.mp (I.stkSub b z)).elim hL hb) hc) (fun b o _ _ hc e n=>u.any e n hc) (fun b o hc e n=>u.free b o e n hc) (fun b o hc e=>u.there b o e hc) u.tups u.frzs u.tbls (fun m' hm=>by
  obtain ⟨o',es',ep',ho',r'⟩:=hm;rw [ho] at ho';cases ho';exact ⟨_,es',ep',hL,r'⟩) hok hg
theorem Inv.turned {t':Nat}{it:Addr}(I:Inv X pins σ H s)(k:∀ b o,b≠it->s.heap.get? b=some o->h'.get? b=some o)(hn:H it=none)(hL:it≠X.env.locals)
 (h1:it∈X.ex\/X.s₀.heap.objs.size<=it) (h2:∀ x c,X.env.cells.lookup x=some c->c≠it) (h3:∀ p∈X.pn++pins,p.1≠it):Inv X pins σ H { s with heap:=h',toks:=t' }:=by
 have nit:∀ b u,H b=some u->b≠it:=fun b u e z=>by rw [z,hn] at e;cases e
 refine I.step (g':=s.gens) (d':=s.drawn) (ch:=[it]) (fun b hb=>?_) (fun b o _ _ hc e _=>k b o (fun z=>hc (by simp [z])) e) (fun b o _ _ hc e _=>⟨o.slots,k b o (fun z=>hc (by simp [z])) e⟩) (fun _ _ _ _ n=>n)
  (fun b o hc e=>⟨o,k b o (fun z=>hc (by simp [z])) e⟩) (fun _ _ e=>e) (fun _ _ _ e=>e) (fun b ps e=>⟨#[],by rw [e];simp⟩) (fun m hm=>?_) (fun b u e=>?_) I.bare
 ·have e:b=it:=by simpa using hb
  subst e;exact ⟨h1,hL,h2,h3⟩
 ·obtain ⟨o,es,ep,ho,r⟩:=hm;exact ⟨o,es,ep,k _ o (Ne.symm hL) ho,r⟩
 ·refine (I.hok b u e).stay (fun c v hc q=>k c v ?_ q) (fun _ q=>q) fun _ _ q=>q;rcases hc with z|z
  ·rw [z];exact nit b u e
  ·exact nit c _ z
theorem Inv.tok (I:Inv X pins σ H s)(t:Nat):Inv X pins σ H { s with toks:=t }:=I.un (h':=s.heap) (t':=t) Un.refl I.hok
theorem Inv.kept {t':Nat}(I:Inv X pins σ H s)(k:∀ b u,s.heap.get? b=some u->h'.get? b=some u):Inv X pins σ H { s with heap:=h',toks:=t' }:=I.un (Un.kept k) (I.hok.kept k)
theorem Inv.laid {a:Addr}{o:HO}{t':Nat}(I:Inv X pins σ H s)(k:∀ b u,s.heap.get? b=some u->h'.get? b=some u)(hp:s.heap.objs.size<=a)(new:zbg X.prog X.w (upd H a o) h' a o) :
 Inv X pins σ (upd H a o) { s with heap:=h',toks:=t' }:=I.un (Un.laid k hp (I.hok.fresh hp)) (I.hok.laid k hp new)
theorem Inv.write {x e:Addr}{o:HO}{t':Nat}(I:Inv X pins σ H s)(mu:Mut (H x))(he:e=x\/H e=some (.own x))(k:∀ b u,b≠e->s.heap.get? b=some u->h'.get? b=some u)(heo:∃ u,h'.get? e=some u)
 (new:zbg X.prog X.w (upd H x o) h' x o):Inv X pins σ (upd H x o) { s with heap:=h',toks:=t' }:=I.un (Un.write mu he k heo) (I.hok.write mu he k heo new)
theorem Inv.pins_of {pins':List (Addr×Obj)}(I:Inv X pins σ H s)(h:∀ p∈pins',s.heap.get? p.1=some p.2/\H p.1=none/\p.1≠X.env.locals/\p.1∉X.fs/\∀ v,p.2.data ≠ .cell v):Inv X pins' σ H s :=
 ⟨I.ok,I.os,I.bare,I.base,I.loc,I.cell,I.free,I.freeC,fun p hp=>(List.mem_append.mp hp).elim (fun z=>I.pin p (List.mem_append_left _ z)) (h p),I.hok,I.len⟩
theorem zhM {N:List Str}(hN:N.Nodup){i j:Nat}{x:Str}(a:N[i]? = some x)(b:N[j]? = some x):i=j:=by
 obtain ⟨h1,e1⟩:=List.getElem?_eq_some_iff.mp a;obtain ⟨h2,e2⟩:=List.getElem?_eq_some_iff.mp b;exact (List.getElem_inj hN).mp (e1.trans e2.symm)
theorem zlp {M:Model}{A:Around}{E:Value->Shared->Prop}{i:Nat}{x:Str}{v:V}{u:Value}{Q:Unit->Shared->Prop}(I:Inv X pins σ H s)(hN:X.N.Nodup)(hi:X.N[i]? = some x)(hx:Loc X.env.scope x)(r:RelV v u)
 (h:∀ s',Inv X pins (σ.set i (some v)) H s'->(∃ a,Heap.SameBut a s.heap s'.heap/\(a=X.env.locals\/X.env.cells.lookup x=some a))->Q () s') (hf:X.fn x=true\/X.env.scope.names.lookup x=some .local:=by first|exact .inl rfl|exact .inr rfl|assumption):wpAny M A (storeName X.env x u) Q E s:=by
 obtain ⟨m,hn,hl⟩:=id I.loc;have hcls:(X.env.scope.kind == .class||(X.env.scope.kind == .module&&X.env.locals != X.env.globals))=false:=by rw [I.ok.kind];rfl
 have hiσ : i < σ.length:=by rw [I.len];exact (List.getElem?_eq_some_iff.mp hi).1
 have cne:=I.cne;have tracked:∀ {a:Addr} {h':Heap},(∃ o,s.heap.get? a=some o/\H a=none)->Heap.SameBut a s.heap h'->HOk X.prog X.w H h':=fun {a h'} ha hs b ob e=>by
  obtain ⟨_,_,hfree⟩:=ha;refine (I.hok b ob e).stay (fun c w' hc q=>(hs.2 c ?_).trans q) (fun _ q=>q) fun _ _ q=>q;rintro rfl;rcases hc with rfl|hc
  ·rw [hfree] at e;cases e
  ·rw [hfree] at hc;cases hc
 rcases hx with hk|hk
 ·refine wpAny_storeName_local hk hn (fun h' hn' hs=>?_) hcls;obtain ⟨oL,_,_,hoL,_⟩:=id hn;refine h _ ⟨I.ok,I.os,I.bare,⟨fun b o e n hb hx=>?_,fun b o e n hb hx=>?_,I.base.free,fun b o e hx=>?_,I.base.tups,I.base.frzs,I.base.tbls⟩,⟨_,hn',fun j y v' e1 e2 e3=>?_⟩,fun y c e=>?_,I.free,I.freeC,fun p hp=>?_,tracked ⟨oL,hoL,I.free⟩ hs,by simpa using I.len⟩ ⟨_,hs,.inl rfl⟩
  ·exact (hs.2 b (Nat.ne_of_lt (Nat.lt_of_lt_of_le (Heap.lt_size e) I.ok.above))).trans (I.base.keep b o e n hb hx)
  ·obtain ⟨sl,e1⟩:=I.base.slot b o e n hb hx;exact ⟨sl,(hs.2 b (Nat.ne_of_lt (Nat.lt_of_lt_of_le (Heap.lt_size e) I.ok.above))).trans e1⟩
  ·obtain ⟨o',e1⟩:=I.base.there b o e hx;exact ⟨o',(hs.2 b (Nat.ne_of_lt (Nat.lt_of_lt_of_le (Heap.lt_size e) I.ok.above))).trans e1⟩
  ·by_cases hj:j=i
   ·subst hj;rw [hi] at e1;cases e1;rw [List.getElem?_set_self hiσ] at e2;cases e2;exact ⟨u,r,.inl ⟨hk,by simp⟩⟩
   ·rw [List.getElem?_set_ne (Ne.symm hj)] at e2;obtain ⟨u',r',q⟩:=hl j y v' e1 e2 e3;refine ⟨u',r',?_⟩;rcases q with ⟨k,e⟩|⟨k,c,e,z⟩
    ·refine .inl ⟨k,?_⟩;have:y≠x:=fun e=>hj (zhM hN e1 (e ▸ hi));simp [this,e]
    ·exact .inr ⟨k,c,e,z.sameBut hs (cne y c e)⟩
  ·obtain ⟨w',z⟩:=I.cell y c e;exact ⟨w',z.sameBut hs (cne y c e)⟩
  ·obtain ⟨e,n,ne,nf,d⟩:=I.pin p hp;exact ⟨(hs.2 p.1 ne).trans e,n,ne,nf,d⟩
 ·have hfn:X.fn x=true:=by
   rcases hf with z|z
   ·exact z
   ·rw [z] at hk;cases hk
  obtain ⟨c,hc⟩:=I.ok.has x (.inl hk);obtain ⟨w',z⟩:=I.cell x c hc;refine wpAny_storeName_cell I.ok.kind hk hc z (fun h' hc' hs=>?_);obtain ⟨oc,hoc,hocd⟩:=id z;refine h { s with heap:=h' } ⟨I.ok,I.os,I.bare,⟨fun b o e n hb hx=>?_,fun b o e n hb hx=>?_,I.base.free,fun b o e hx=>?_,I.base.tups,I.base.frzs,I.base.tbls⟩,⟨m,hn.sameBut hs (Ne.symm (cne x c hc)),fun j y v' e1 e2 e3=>?_⟩,fun y c' e=>?_,I.free,I.freeC,fun p hp=>?_,tracked ⟨oc,hoc,I.freeC x c hc⟩ hs,by simpa using I.len⟩ ⟨c,hs,.inr hc⟩
  ·exact (hs.2 b (Nat.ne_of_lt (Nat.lt_of_lt_of_le (Heap.lt_size e) (I.ok.cab x c hfn hc)))).trans (I.base.keep b o e n hb hx)
  ·obtain ⟨sl,e1⟩:=I.base.slot b o e n hb hx;exact ⟨sl,(hs.2 b (Nat.ne_of_lt (Nat.lt_of_lt_of_le (Heap.lt_size e) (I.ok.cab x c hfn hc)))).trans e1⟩
  ·obtain ⟨o',e1⟩:=I.base.there b o e hx;exact ⟨o',(hs.2 b (Nat.ne_of_lt (Nat.lt_of_lt_of_le (Heap.lt_size e) (I.ok.cab x c hfn hc)))).trans e1⟩
  ·by_cases hj:j=i
   ·subst hj;rw [hi] at e1;cases e1;rw [List.getElem?_set_self hiσ] at e2;cases e2;exact ⟨u,r,.inr ⟨.inl hk,c,hc,hc'⟩⟩
   ·rw [List.getElem?_set_ne (Ne.symm hj)] at e2;obtain ⟨u',r',q⟩:=hl j y v' e1 e2 e3;refine ⟨u',r',?_⟩;rcases q with q|⟨k,c',e,z'⟩
    ·exact .inl q
    ·refine .inr ⟨k,c',e,z'.sameBut hs ?_⟩;rintro rfl;exact hj (zhM hN e1 (I.ok.inj _ _ _ e hc ▸ hi))
  ·by_cases hcc:c'=c
   ·subst hcc;exact ⟨_,hc'⟩
   ·obtain ⟨w2,z2⟩:=I.cell y c' e;exact ⟨w2,z2.sameBut hs hcc⟩
  ·obtain ⟨e,n,ne,nf,d⟩:=I.pin p hp;refine ⟨(hs.2 p.1 ?_).trans e,n,ne,nf,d⟩;intro q;rw [q,hoc] at e;have q':oc=p.2:=Zqi e;exact d w' (by rw [<- q'];exact hocd)
theorem zdA {M:Model}{A:Around}{E:Value->Shared->Prop}{i:Nat}{x:Str}{v:V}{u:Value}{Q:Unit->Shared->Prop}(I:Inv X pins σ H s)(hN:X.N.Nodup)(hi:X.N[i]? = some x)(hx:Loc X.env.scope x)(r:RelV v u)
 (h:∀ s',Inv X pins (σ.set i (some v)) H s'->Q () s') (hf:X.fn x=true\/X.env.scope.names.lookup x=some .local:=by first|exact .inl rfl|exact .inr rfl|assumption):wpAny M A (storeName X.env x u) Q E s :=
 zlp I hN hi hx r (fun s' I' _=>h s' I') hf
theorem Inv.call' {s':Shared}{ch:List Addr}(I:Inv X pins σ H s)(ho:s'.os=s.os)(u:Un (frs X.stack) ch H H' s.heap s'.heap)(hok:HOk X.prog X.w H' s'.heap)(hg:AllBare s'.gens)
 (hch:∀ b∈ch,(b∈X.ex\/X.s₀.heap.objs.size<=b)/\b≠X.env.locals/\(∀ x c,X.env.cells.lookup x=some c->c≠b)/\∀ p∈X.pn++pins,p.1≠b):Inv X pins σ H' s':=by
 obtain ⟨h',g',d',t',o'⟩:=s';have e:o'=s.os:=ho;subst e;exact I.call (g':=g') (t':=t') (d':=d') u hok hg hch
end
abbrev XK:=Value->Option Addr->Hp->Prop
abbrev St:=List (Option V)
abbrev VK:=V->Hp->Prop
abbrev TE:=St->Hp->VK->Prop
abbrev TT:=St->Hp->(Bool->Hp->Prop)->Prop
abbrev TA:=St->Hp->(List V->Hp->Prop)->Prop
structure Ends where
 nx:St->Hp->Prop
 rt:VK
 bk:St->Hp->Prop:=fun _ _=>False
 ct:St->Hp->Prop:=fun _ _=>False
abbrev TS:=Ends->St->Hp->Prop
def EP (X:Cx)(pins:List (Addr×Obj))(σ : St)(Q:VK)(u:Value)(s':Shared):Prop:=∃ v H',Inv X pins σ H' s'/\RelV v u/\Q v H'
def TP (X:Cx)(pins:List (Addr×Obj))(σ : St)(Q:Bool->Hp->Prop)(b:Bool)(s':Shared):Prop:=∃ H',Inv X pins σ H' s'/\Q b H'
def AP (X:Cx)(pins:List (Addr×Obj))(σ : St)(Q:List V->Hp->Prop)(us:List Value)(s':Shared):Prop:=∃ vs H',Inv X pins σ H' s'/\Vals vs us/\Q vs H'
def SP (X:Cx)(pins:List (Addr×Obj))(D:Ends)(f:Flow)(s':Shared):Prop :=
 match f with
 | .next=>∃ σ' H',Inv X pins σ' H' s'/\D.nx σ' H'
 | .brk=>∃ σ' H',Inv X pins σ' H' s'/\D.bk σ' H'
 | .cont=>∃ σ' H',Inv X pins σ' H' s'/\D.ct σ' H'
 | .ret u=>∃ v σ' H',Inv X pins σ' H' s'/\RelV v u/\D.rt v H'
def PE (X:Cx)(e:Expr)(t:TE):Prop :=
 ∀ (pins:List (Addr×Obj)) (s:Shared) (σ : St) (H:Hp) (Q:VK),Inv X pins σ H s->t σ H Q->wpAny (model X.prog X.w) X.A (eval e X.env) (EP X pins σ Q) X.xe s
def PT (X:Cx)(e:Expr)(t:TT):Prop :=
 ∀ (pins:List (Addr×Obj)) (s:Shared) (σ : St) (H:Hp) (Q:Bool->Hp->Prop),Inv X pins σ H s->t σ H Q->wpAny (model X.prog X.w) X.A (isTrue e X.env (eval e X.env)) (TP X pins σ Q) X.xe s
def PW (X:Cx)(e:Expr)(t:TT):Prop :=
 ∀ (whole:Sem Value) (pins:List (Addr×Obj)) (s:Shared) (σ : St) (H:Hp) (Q:Bool->Hp->Prop),Inv X pins σ H s->t σ H Q->wpAny (model X.prog X.w) X.A (isTrue e X.env whole) (TP X pins σ Q) X.xe s
theorem PW.pt {X:Cx}{e:Expr}{t:TT}(h:PW X e t):PT X e t:=h _
def PA (X:Cx)(es:List Expr)(t:TA):Prop :=
 ∀ (pos:Pos) (pins:List (Addr×Obj)) (s:Shared) (σ : St) (H:Hp) (Q:List V->Hp->Prop),Inv X pins σ H s->t σ H Q->wpAny (model X.prog X.w) X.A (spliced (backTo pos (starEach es X.env))) (AP X pins σ Q) X.xe s
def PS (X:Cx)(st:Stmt)(t:TS):Prop :=
 ∀ (pins:List (Addr×Obj)) (s:Shared) (σ : St) (H:Hp) (D:Ends),Inv X pins σ H s->t D σ H->wpAny (model X.prog X.w) X.A (exec st X.env) (SP X pins D) X.xe s
def PSs (X:Cx)(st:List Stmt)(t:TS):Prop :=
 ∀ (pins:List (Addr×Obj)) (s:Shared) (σ : St) (H:Hp) (D:Ends),Inv X pins σ H s->t D σ H->wpAny (model X.prog X.w) X.A (execs st X.env) (SP X pins D) X.xe s
theorem thn {α : Type}{t:Sem α}{Q Q' : α -> Shared->Prop}{M:Model}{A:Around}{E:Value->Shared->Prop}{s:Shared}(h:wpAny M A t Q E s)(hQ:∀ a s,Q a s->Q' a s):wpAny M A t Q' E s:=wpAny_mono h hQ fun _ _ x=>x
section
variable {X:Cx}
def tVar (i:Nat):TE:=fun σ H Q=>∃ v,σ[i]? = some (some v)/\Q v H
def tC (v:V):TE:=fun _ H Q=>Q v H
theorem zqr {i:Nat}{x:Str}{pos:Pos}(hN:X.N[i]? = some x)(hv:Vis X.env.scope x)(hd:(x == ("__debug__" : Str))=false:=by decide)(hcd:(x == ("__classdict__" : Str))=false:=by decide):PE X (.Name x pos) (tVar i):=by
 intro pins s σ H Q I h;obtain ⟨v,e,h⟩:=h;obtain ⟨m,hn,hl⟩:=I.loc;obtain ⟨u,r,l⟩:=hl i x v hN e hv;have fin:EP X pins σ Q u s:=⟨v,H,I,r,h⟩;rcases l with ⟨hk,hm⟩|⟨hk,c,hc,hcell⟩
 ·exact wpAny_Name (wpAny_loadName_local I.ok.kind hk hn hm fin) hd
 ·rcases hk with hk|hk
  ·exact wpAny_Name (wpAny_loadName_cell I.ok.kind hk hc hcell fin) hd
  ·exact wpAny_Name (wpAny_loadName_free I.ok.kind hk hc hcell fin hcd) hd
theorem zsn {i j pos}:PE X (.Constant (.int i) j pos) (tC (.int i)):=fun _ _ _ H _ I h=>wpAny_Constant_int ⟨.int i,H,I.tok _,⟨_,rfl⟩,h⟩
theorem pe_bl {b j pos}:PE X (.Constant (.bool b) j pos) (tC (.bl b)):=fun _ _ _ H _ I h=>Constant_bool ⟨.bl b,H,I,rfl,h⟩
theorem zqT {j pos}:PE X (.Constant .none j pos) (tC .non):=fun _ _ _ H _ I h=>Constant_none ⟨.non,H,I,rfl,h⟩
theorem zox {x j pos}:PE X (.Constant (.str x) j pos) (tC (.str x)):=fun _ _ _ H _ I h=>Calls.Constant_str ⟨.str x,H,I.tok _,⟨_,rfl⟩,h⟩
def Gl (X:Cx)(x:Str):Prop:=X.env.kindOf x=some .globalImplicit
theorem zfw {E:Value->Shared->Prop}{pins:List (Addr×Obj)}{s:Shared}{σ : St}{H:Hp}{x:Str}{u:Value}{pos:Pos}{Q:Value->Shared->Prop}(I:Inv X pins σ H s)(hg:Gl X x)(hm:X.mg x=some u)(h:Q u s)
 (hd:(x == ("__debug__" : Str))=false:=by decide):wpAny (model X.prog X.w) X.A (eval (.Name x pos) X.env) Q E s :=
 Calls.Name_function_global I.ok.kind hg (Calls.loadGlobal_global (by rw [I.ok.glob];exact I.mod.glob.keeps I.bk) hm h) hd
theorem zdK {E:Value->Shared->Prop}{pins:List (Addr×Obj)}{s:Shared}{σ : St}{H:Hp}{x:Str}{u:Value}{pos:Pos}{Q:Value->Shared->Prop}(I:Inv X pins σ H s)(hg:Gl X x)(hm:X.mg x=none)(hv:bootBuiltins x=some u)(h:Q u s)
 (hn:x ≠ "__name__" := by decide) (hd:(x == ("__debug__" : Str))=false:=by decide):wpAny (model X.prog X.w) X.A (eval (.Name x pos) X.env) Q E s:=by
 obtain ⟨mb,h1,h2⟩:=I.mod.blt;exact Calls.Name_function_global I.ok.kind hg (Calls.loadGlobal_builtin (by rw [I.ok.glob];exact I.mod.glob.keeps I.bk) hm (by rw [I.ok.blt];exact h1.keeps I.bk) ((h2 x hn).trans hv) h) hd
theorem zkX {x:Str}{v:V}{u:Value}{pos:Pos}(hg:Gl X x)(hm:X.mg x=some u)(r:RelV v u)(hd:(x == ("__debug__" : Str))=false:=by decide):PE X (.Name x pos) (tC v) :=
 fun _ _ _ H _ I h=>zfw I hg hm ⟨v,H,I,r,h⟩ hd
theorem zpr {x:Str}{v:V}{u:Value}{pos:Pos}(hg:Gl X x)(hm:X.mg x=none)(hv:bootBuiltins x=some u)(r:RelV v u)(hn:x ≠ "__name__" := by decide)(hd:(x == ("__debug__" : Str))=false:=by decide):PE X (.Name x pos) (tC v) :=
 fun _ _ _ H _ I h=>zdK I hg hm hv ⟨v,H,I,r,h⟩ hn hd
variable {a b:Expr}{ta tb:TE}{pos:Pos}
def PC (X:Cx)(op:CmpOp)(a b:Expr)(t:TE):Prop :=
 ∀ (pins:List (Addr×Obj)) (s:Shared) (σ : St) (H:Hp) (Q:VK),Inv X pins σ H s->t σ H Q ->
  wpAny (model X.prog X.w) X.A (eval a X.env) (fun v s₁=>wpAny (model X.prog X.w) X.A (eval b X.env) (fun u s₂=>wpAny (model X.prog X.w) X.A (compareOp op v u) (EP X pins σ Q) X.xe s₂) X.xe s₁) X.xe s
theorem zhG (b:Expr){op:CmpOp}(h:op ≠ .In)(h2:op ≠ .NotIn):behindInMarks op b=false:=by
 have e1:(op == CmpOp.In)=false:=by cases op<;>first|rfl|exact absurd rfl h
 have e2:(op == CmpOp.NotIn)=false:=by cases op<;>first|rfl|exact absurd rfl h2
 cases b<;>first|rfl|(show (_&&(_||_)&&_)=false;rw [e1,e2,Bool.or_self,Bool.and_false,Bool.false_and])
def zrY (ta:TE):TE:=fun σ H Q=>ta σ H fun x H1=>Q (.bl (!decide (x=.non))) H1
theorem RelV.none_iff {x:V}{v:Value}(r:RelV x v):(v == Value.none)=decide (x=.non):=by
 cases x with
 |non=>cases r;rfl
 |bl _=>cases r;rfl
 |int _=>obtain ⟨t,rfl⟩:=r;rfl
 |str _=>obtain ⟨t,rfl⟩:=r;rfl
 |byt _=>obtain ⟨t,rfl⟩:=r;rfl
 |flt _=>obtain ⟨t,rfl⟩:=r;rfl
 |ref _=>cases r;rfl
 |ty _=>cases r;rfl
theorem zoP {j pos'}(ha:PE X a ta):PC X .IsNot a (.Constant .none j pos') (zrY ta):=by
 intro pins s σ H Q I h;refine thn (ha pins s σ H _ I h) fun v s1 ⟨x,H1,I1,r1,q1⟩=>?_;exact Constant_none (isnot_none_gen ⟨.bl _,H1,I1,by rw [r1.none_iff];rfl,q1⟩)
def tB (t:TE):TT:=fun σ H Q=>t σ H fun x H1=>∃ c,x=.bl c/\Q c H1
theorem zrG {op:CmpOp}{t:TE}(h:PC X op a b t)(h1:behindInMarks op b=false:=by first|exact zhG _ (by decide) (by decide)|rfl):PE X (.Compare a [op] [b] pos) t:=fun pins s σ H Q I hw=>wpAny_Compare1 (h pins s σ H Q I hw) h1
theorem zjk {op:CmpOp}{t:TE}(h:PC X op a b t)(h1:behindInMarks op b=false:=by first|exact zhG _ (by decide) (by decide)|rfl):PT X (.Compare a [op] [b] pos) (tB t):=by
 intro pins s σ H Q I hw;refine wpAny_isTrue_Compare1 (thn (h pins s σ H _ I hw) fun v s1 h1=>thn h1 fun u s2 h2=>thn h2 fun c s3 ⟨x,H1,I1,r1,q1⟩=>?_) h1;obtain ⟨d,rfl,q⟩:=q1;cases r1;exact wpAny_truthy_bool ⟨H1,I1,q⟩
theorem znU {e:Expr}{t:TE}(h:PE X e t)(he:∀ whole,isTrue e X.env whole=(do let v <- whole;standAt e.pos;holding [v] (truthy v)):=by intro _;rfl):PT X e (tB t):=by
 intro pins s σ H Q I hw;refine isTrue_plain (thn (h pins s σ H _ I hw) fun v s1 ⟨x,H1,I1,r1,q1⟩=>?_) (he _);obtain ⟨d,rfl,q⟩:=q1;cases r1;exact wpAny_truthy_bool ⟨H1,I1,q⟩
variable {tA tB':TT}{rest:List Expr}
def tAnd (t u:TT):TT:=fun σ H Q=>t σ H fun c H1=>if c=true then u σ H1 Q else Q false H1
def tOr (t u:TT):TT:=fun σ H Q=>t σ H fun c H1=>if c=true then Q true H1 else u σ H1 Q
def tNot (t:TT):TT:=fun σ H Q=>t σ H fun c H1=>Q (!c) H1
theorem zpb (ha:PT X a tA):PW X (.BoolOp .And [a] pos) tA:=by
 intro wh pins s σ H Q I h;refine isTrue_and (thn (ha pins s σ H Q I h) fun c s1 e=>?_);cases c with
 |true=>exact isTrue_and_nil e
 |false=>exact e
theorem zsz (ha:PT X a tA):PW X (.BoolOp .Or [a] pos) tA:=by
 intro wh pins s σ H Q I h;refine isTrue_or (thn (ha pins s σ H Q I h) fun c s1 e=>?_);cases c with
 |false=>exact isTrue_or_nil e
 |true=>exact e
theorem zsy (ha:PT X a tA)(hb:PW X (.BoolOp .And (b::rest) pos) tB'):PW X (.BoolOp .And (a::b::rest) pos) (tAnd tA tB'):=by
 intro wh pins s σ H Q I h;refine isTrue_and (thn (ha pins s σ H _ I h) fun c s1 ⟨H1,I1,q1⟩=>?_);cases c with
 |true=>exact hb wh pins s1 σ H1 Q I1 q1
 |false=>exact ⟨H1,I1,q1⟩
theorem pw_or (ha:PT X a tA)(hb:PW X (.BoolOp .Or (b::rest) pos) tB'):PW X (.BoolOp .Or (a::b::rest) pos) (tOr tA tB'):=by
 intro wh pins s σ H Q I h;refine isTrue_or (thn (ha pins s σ H _ I h) fun c s1 ⟨H1,I1,q1⟩=>?_);cases c with
 |true=>exact ⟨H1,I1,q1⟩
 |false=>exact hb wh pins s1 σ H1 Q I1 q1
theorem znE (ha:PT X a tA):PT X (.UnaryOp .Not a pos) (tNot tA):=by
 intro pins s σ H Q I h;exact isTrue_not (ha pins s σ H (fun c H1=>Q (!c) H1) I h)
def tAndV (ta tb:TE):TE:=fun σ H Q=>ta σ H fun x H1=>∃ c,x=.bl c/\if c=true then tb σ H1 Q else Q (.bl false) H1
def tOrV (ta tb:TE):TE:=fun σ H Q=>ta σ H fun x H1=>∃ c,x=.bl c/\if c=true then Q (.bl true) H1 else tb σ H1 Q
def tNotV (ta:TE):TE:=fun σ H Q=>ta σ H fun x H1=>∃ c,x=.bl c/\Q (.bl (!c)) H1
theorem znD {op}{t:TE}(h:PE X a t):PE X (.BoolOp op [a] pos) t:=fun pins s σ H Q I hw=>BoolOp_one (h pins s σ H Q I hw)
theorem zoz (ha:PE X a ta)(hb:PE X (.BoolOp .And (b::rest) pos) tb):PE X (.BoolOp .And (a::b::rest) pos) (tAndV ta tb):=by
 intro pins s σ H Q I h;refine BoolOp_and (thn (ha pins s σ H _ I h) fun v s1 ⟨x,H1,I1,r1,q1⟩=>?_);obtain ⟨c,rfl,q1⟩:=q1;cases r1;refine wpAny_truthy_bool ?_;cases c with
 |true=>exact hb pins s1 σ H1 Q I1 q1
 |false=>exact ⟨.bl false,H1,I1,rfl,q1⟩
theorem pe_or (ha:PE X a ta)(hb:PE X (.BoolOp .Or (b::rest) pos) tb):PE X (.BoolOp .Or (a::b::rest) pos) (tOrV ta tb):=by
 intro pins s σ H Q I h;refine BoolOp_or (thn (ha pins s σ H _ I h) fun v s1 ⟨x,H1,I1,r1,q1⟩=>?_);obtain ⟨c,rfl,q1⟩:=q1;cases r1;refine wpAny_truthy_bool ?_;cases c with
 |false=>exact hb pins s1 σ H1 Q I1 q1
 |true=>exact ⟨.bl true,H1,I1,rfl,q1⟩
theorem zsh (ha:PE X a ta):PE X (.UnaryOp .Not a pos) (tNotV ta):=by
 intro pins s σ H Q I h;refine UnaryOp_ (thn (ha pins s σ H _ I h) fun v s1 ⟨x,H1,I1,r1,q1⟩=>?_);obtain ⟨c,rfl,q1⟩:=q1;cases r1;exact not_of (wpAny_truthy_bool ⟨.bl (!c),H1,I1,rfl,q1⟩)
def tIf (t:TT)(ta tb:TE):TE:=fun σ H Q=>t σ H fun c H1=>if c=true then ta σ H1 Q else tb σ H1 Q
theorem zmx {c:Expr}(hc:PT X c tA)(ha:PE X a ta)(hb:PE X b tb):PE X (.IfExp c a b pos) (tIf tA ta tb):=by
 intro pins s σ H Q I h;refine wpAny_IfExp (thn (hc pins s σ H _ I h) fun d s1 ⟨H1,I1,q1⟩=>?_);cases d with
 |true=>exact ha pins s1 σ H1 Q I1 q1
 |false=>exact hb pins s1 σ H1 Q I1 q1
end
def SqL (K:W.Frag)(H:Hp)(a:Addr)(xs:List V):Prop :=
 Rd H a (.lst xs) \/
  ∃ (o:Obj) (its:Array Value) (n:Nat),K.lookup a=some o/\o.cls=.type "list" /\ o.dict=none/\o.data=.seq its n/\its.size<=sizeLine/\Vals xs its.toList
def SqT (K:W.Frag)(H:Hp)(a:Addr)(xs:List V):Prop :=
 Rd H a (.tup xs) \/
  ∃ (o:Obj) (its:Array Value) (n:Nat),K.lookup a=some o/\o.cls=.type "tuple" /\ o.data=.seq its n/\its.size<=sizeLine/\Vals xs its.toList
def absV:Value->Option V
 | .none=>some .non
 | .bool b=>some (.bl b)
 | .int i _=>some (.int i)
 | .str x _=>some (.str x)
 | .bytes b _=>some (.byt b)
 | .float b _=>some (.flt b)
 | .ref a=>some (.ref a)
 | .type n=>some (.ty n)
 |_=>none
theorem RelV.abs {x:V}{u:Value}(r:RelV x u):absV u=some x:=by
 cases x with
 |non=>cases r;rfl
 |bl _=>cases r;rfl
 |int _=>obtain ⟨t,rfl⟩:=r;rfl
 |str _=>obtain ⟨t,rfl⟩:=r;rfl
 |byt _=>obtain ⟨t,rfl⟩:=r;rfl
 |flt _=>obtain ⟨t,rfl⟩:=r;rfl
 |ref _=>cases r;rfl
 |ty _=>cases r;rfl
theorem RelV.inj {x y:V}{u:Value}(r:RelV x u)(q:RelV y u):x=y:=Zqi (r.abs.symm.trans q.abs)
theorem Vals.inj:∀ {xs ys:List V} {us:List Value},Vals xs us->Vals ys us->xs=ys:=fun {xs ys us} g h=>by
 induction g generalizing ys with
 |nil=>cases h;rfl
 |cons r _ ih =>
  cases h with
  |cons r' t'=>rw [r.inj r',ih t']
section
variable {X:Cx}{pins:List (Addr×Obj)}{σ : St}{H:Hp}{s:Shared}{a:Addr}{xs ys:List V}
theorem SqL.of {K:W.Frag}(h:H a=some (.lst xs)):SqL K H a xs:=.inl (.inl h)
theorem SqT.of {K:W.Frag}(h:H a=some (.tup xs)):SqT K H a xs:=.inl (.inl h)
theorem Inv.list (I:Inv X pins σ H s)(h:SqL X.K H a xs):∃ its:List Value,Vals xs its/\PlainL s.heap a its.toArray/\xs.length<=sizeLine:=by
 rcases h with h|⟨o,its,n,hk,hc,hd,hs,hz,r⟩
 ·obtain ⟨z,its,n,r,e⟩:=h.ok I.hok;exact ⟨its,r,⟨_,n,e,rfl,rfl,rfl⟩,z⟩
 ·refine ⟨its.toList,r,⟨o,n,I.kIn a o hk,hc,hd,by simpa using hs⟩,?_⟩;have e:=r.length;simp only [Array.length_toList] at e;omega
theorem Inv.tuple (I:Inv X pins σ H s)(h:SqT X.K H a xs):∃ its:List Value,Vals xs its/\IsTup s.heap a its.toArray/\xs.length<=sizeLine:=by
 rcases h with h|⟨o,its,n,hk,hc,hs,hz,r⟩
 ·obtain ⟨z,its,r,p⟩:=h.ok I.hok;exact ⟨its,r,p,z.1⟩
 ·refine ⟨its.toList,r,⟨o,I.kIn a o hk,hc,n,by simpa using hs⟩,?_⟩;have e:=r.length;simp only [Array.length_toList] at e;omega
theorem Inv.list_inj (I:Inv X pins σ H s)(h:SqL X.K H a xs)(h':SqL X.K H a ys):xs=ys:=by
 obtain ⟨its,r,⟨o,n,e,_,_,d⟩,_⟩:=I.list h;obtain ⟨its',r',⟨o',n',e',_,_,d'⟩,_⟩:=I.list h';rw [e] at e';cases e';rw [d] at d';injection d' with d1 _
 have:its=its':=by simpa using congrArg Array.toList d1
 subst this;exact r.inj r'
theorem Inv.tuple_inj (I:Inv X pins σ H s)(h:SqT X.K H a xs)(h':SqT X.K H a ys):xs=ys:=by
 obtain ⟨its,r,⟨o,e,_,n,d⟩,_⟩:=I.tuple h;obtain ⟨its',r',⟨o',e',_,n',d'⟩,_⟩:=I.tuple h';rw [e] at e';cases e';rw [d] at d';injection d' with d1 _
 have:its=its':=by simpa using congrArg Array.toList d1
 subst this;exact r.inj r'
end
abbrev Cx.wish (X:Cx)(E:Value->Shared->Prop):Cx:={ X with xe:=E }
abbrev Cx.nox (X:Cx):Cx:=X.wish fun _ _=>False
theorem Cx.Ok.wish {X:Cx}(ok:X.Ok)(E:Value->Shared->Prop):(X.wish E).Ok :=
 ⟨ok.mod,ok.kind,ok.glob,ok.blt,ok.above,ok.inj,ok.has,ok.cab,ok.hd,ok.frames,ok.stk,ok.exf,ok.bs,ok.bsz,ok.noex,ok.exfs,ok.funs,ok.frf⟩
theorem Cx.Ok.unwish {X:Cx}{E:Value->Shared->Prop}(ok:(X.wish E).Ok):X.Ok :=
 ⟨ok.mod,ok.kind,ok.glob,ok.blt,ok.above,ok.inj,ok.has,ok.cab,ok.hd,ok.frames,ok.stk,ok.exf,ok.bs,ok.bsz,ok.noex,ok.exfs,ok.funs,ok.frf⟩
section
variable {X:Cx}{pins:List (Addr×Obj)}{σ : St}{H:Hp}{s:Shared}{E:Value->Shared->Prop}
theorem Inv.wish (I:Inv X pins σ H s)(E:Value->Shared->Prop):Inv (X.wish E) pins σ H s:=⟨I.ok.wish E,I.os,I.bare,I.base,I.loc,I.cell,I.free,I.freeC,I.pin,I.hok,I.len⟩
theorem Inv.unwish (I:Inv (X.wish E) pins σ H s):Inv X pins σ H s:=⟨I.ok.unwish,I.os,I.bare,I.base,I.loc,I.cell,I.free,I.freeC,I.pin,I.hok,I.len⟩
theorem SP.unwish {D:Ends}{f:Flow}{s':Shared}(h:SP (X.wish E) pins D f s'):SP X pins D f s':=by
 cases f with
 |next=>obtain ⟨σ',H',I,q⟩:=h;exact ⟨σ',H',I.unwish,q⟩
 |brk=>obtain ⟨σ',H',I,q⟩:=h;exact ⟨σ',H',I.unwish,q⟩
 |cont=>obtain ⟨σ',H',I,q⟩:=h;exact ⟨σ',H',I.unwish,q⟩
 |ret u=>obtain ⟨v,σ',H',I,r,q⟩:=h;exact ⟨v,σ',H',I.unwish,r,q⟩
theorem PSs.nox {st:List Stmt}{t:TS}(h:PSs X.nox st t):PSs X st t:=fun pins s σ H D I hw =>
 wpAny_mono (h pins s σ H D (I.wish _) hw) (fun _ _ q=>q.unwish) fun _ _ z=>False.elim z
end
section
variable {X:Cx}{st:Stmt}{rest:List Stmt}{t u:TS}{e:Expr}{te:TE}{pos:Pos}
def tNext:TS:=fun D σ H=>D.nx σ H
def tSeq (t u:TS):TS:=fun D σ H=>t { D with nx:=u D } σ H
theorem zgJ:PSs X [] tNext:=fun _ _ σ H _ I h=>wpAny_execs_nil ⟨σ,H,I,h⟩
theorem zfi (h1:PS X st t)(h2:PSs X rest u):PSs X (st::rest) (tSeq t u):=by
 intro pins s σ H D I h;refine wpAny_execs_cons (thn (h1 pins s σ H { D with nx:=u D } I h) fun f s1 q=>?_);cases f with
 |next =>
  obtain ⟨σ',H',I',q⟩:=q;exact h2 pins s1 σ' H' D I' q
 |ret v=>exact q
 |brk=>exact q
 |cont=>exact q
theorem zjB (h1:PS X st t):PSs X [st] t:=by
 intro pins s σ H D I h;refine wpAny_execs_cons (thn (h1 pins s σ H D I h) fun f s1 q=>?_);cases f with
 |next=>exact wpAny_execs_nil q
 |ret v=>exact q
 |brk=>exact q
 |cont=>exact q
theorem Inv.quiet {pins:List (Addr×Obj)}{σ : St}{H:Hp}{s:Shared}(I:Inv X pins σ H s):interactive X.env=false:=by simp [interactive,I.ok.kind]
def tDrop (te:TE):TS:=fun D σ H=>te σ H fun _ H1=>D.nx σ H1
theorem zcN (he:PE X e te)(hs:swapsWith e none pos.line X.env=pure false:=by rfl):PS X (.Expr e pos) (tDrop te):=by
 intro pins s σ H D I h;exact wpAny_Expr_any (thn (he pins s σ H _ I h) fun v s1 ⟨x,H1,I1,r1,q1⟩=>⟨σ,H1,I1,q1⟩) I.quiet hs
def tRet (te:TE):TS:=fun D σ H=>te σ H D.rt
theorem zid (he:PE X e te):PS X (.Return (some e) pos) (tRet te):=by
 intro pins s σ H D I h;exact wpAny_Return_some (thn (he pins s σ H _ I h) fun v s1 ⟨x,H1,I1,r1,q1⟩=>⟨x,σ,H1,I1,r1,q1⟩)
def tIfS (c:TT)(t u:TS):TS:=fun D σ H=>c σ H fun b H1=>if b=true then t D σ H1 else u D σ H1
theorem zqm {c:Expr}{a b:List Stmt}{tc:TT}(hc:PT X c tc)(ha:PSs X a t)(hb:PSs X b u):PS X (.If c a b pos) (tIfS tc t u):=by
 intro pins s σ H D I h;refine wpAny_If (thn (hc pins s σ H _ I h) fun d s1 ⟨H1,I1,q1⟩=>?_);cases d with
 |true=>exact ha pins s1 σ H1 D I1 q1
 |false=>exact hb pins s1 σ H1 D I1 q1
end
abbrev TG:=V->St->Hp->(St->Hp->Prop)->Prop
abbrev TGs:=List V->St->Hp->(St->Hp->Prop)->Prop
def PG (X:Cx)(target:Expr)(t:TG):Prop :=
 ∀ (pins:List (Addr×Obj)) (s:Shared) (σ : St) (H:Hp) (v:V) (u:Value) (Q:St->Hp->Prop),Inv X pins σ H s->RelV v u->t v σ H Q ->
  wpAny (model X.prog X.w) X.A (assign target X.env u) (fun _ s'=>∃ σ' H',Inv X pins σ' H' s'/\Q σ' H') X.xe s
def PGs (X:Cx)(ts:List Expr)(t:TGs):Prop :=
 ∀ (pins:List (Addr×Obj)) (s:Shared) (σ : St) (H:Hp) (vs:List V) (us:List Value) (Q:St->Hp->Prop),Inv X pins σ H s->Vals vs us->t vs σ H Q ->
  wpAny (model X.prog X.w) X.A (assignInOrder ((assignEach ts X.env).map (·.2)) us) (fun _ s'=>∃ σ' H',Inv X pins σ' H' s'/\Q σ' H') X.xe s
abbrev TSet:=V->V->V->Hp->(Hp->Prop)->Prop
def PSet (X:Cx)(t:TSet):Prop :=
 ∀ (pins:List (Addr×Obj)) (s:Shared) (σ : St) (H:Hp) (o i v:V) (ov iv u:Value) (Q:Hp->Prop),Inv X pins σ H s->RelV o ov->RelV i iv->RelV v u->t o i v H Q ->
  wpAny (model X.prog X.w) X.A (setItem ov iv u) (fun _ s'=>∃ H',Inv X pins σ H' s'/\Q H') X.xe s
abbrev TIp:=V->V->Hp->VK->Prop
def PIp (X:Cx)(op:Operator)(t:TIp):Prop :=
 ∀ (pins:List (Addr×Obj)) (s:Shared) (σ : St) (H:Hp) (x y:V) (v u:Value) (Q:VK),Inv X pins σ H s->RelV x v->RelV y u->t x y H Q ->
  wpAny (model X.prog X.w) X.A (inplaceOp op v u) (EP X pins σ Q) X.xe s
section
variable {X:Cx}{pos:Pos}
def ze0 (i:Nat):TG:=fun v σ H Q=>Q (σ.set i (some v)) H
theorem za7 {i:Nat}{x:Str}(hN:X.N.Nodup)(hi:X.N[i]? = some x)(hx:Loc X.env.scope x)(hf:X.fn x=true\/X.env.scope.names.lookup x=some .local:=by first|exact .inl rfl|exact .inr rfl|assumption):PG X (.Name x pos) (ze0 i):=by
 intro pins s σ H v u Q I r h;exact wpAny_assign_Name (zdA I hN hi hx r (fun s' I'=>⟨_,H,I',h⟩) hf)
def gNil:TGs:=fun vs σ H Q=>vs=[]/\Q σ H
def zqJ (t:TG)(u:TGs):TGs:=fun vs σ H Q=>∃ v r,vs=v::r/\t v σ H fun σ' H'=>u r σ' H' Q
theorem zbh:PGs X [] gNil:=by
 intro pins s σ H vs us Q I r h;obtain ⟨e,h⟩:=h;subst e;cases r;exact assignInOrder_nil ⟨σ,H,I,h⟩
theorem zao {e:Expr}{es:List Expr}{t:TG}{u:TGs}(h1:PG X e t)(h2:PGs X es u)
 (hs:(assignEach (e::es) X.env).map (·.2)=assign e X.env::(assignEach es X.env).map (·.2):=by rfl):PGs X (e::es) (zqJ t u):=by
 intro pins s σ H vs us Q I r h;obtain ⟨v,vr,e1,h⟩:=h;subst e1;cases r with
 |cons r rr =>
  rw [hs];refine assignInOrder_cons (thn (h1 pins s σ H _ _ _ I r h) fun _ s1 ⟨σ1,H1,I1,q1⟩=>?_);exact h2 pins s1 σ1 H1 _ _ Q I1 rr q1
def gTup (K:W.Frag)(n:Nat)(t:TGs):TG:=fun v σ H Q=>∃ a xs,v=.ref a/\SqT K H a xs/\xs.length=n/\t xs σ H Q
theorem zbD {es:List Expr}{k:Nat}{t:TGs}{n:Nat}(hc:X.calm=true)(h:PGs X es t)
 (hn:(assignEach es X.env).length=n:=by rfl) (hst:(assignEach es X.env).findIdx? (·.1)=none:=by rfl):PG X (.Tuple es k pos) (gTup X.K n t):=by
 intro pins s σ H v u Q I r hw;obtain ⟨a,xs,e1,hq,hl,hw⟩:=hw;subst e1;cases r;obtain ⟨its,rv,ht,hz⟩:=I.tuple hq;refine assign_Tuple_tuple (I.ok.hd hc) ht (by simp [hn,<- hl,rv.length]) hst fun h' hx=>?_;have I1:Inv X pins σ H { s with heap:=h' }:=I.kept (t':=s.toks) fun b o e=>hx b o (Nat.ne_of_lt (Heap.lt_size e)) e;exact h pins _ σ H xs _ Q I1 (by simpa using rv) hw
def gSub (to ti:TE)(t:TSet):TG:=fun v σ H Q=>to σ H fun o H1=>ti σ H1 fun i H2=>t o i v H2 fun H3=>Q σ H3
theorem zr8 {o i:Expr}{to ti:TE}{t:TSet}(ho:PE X o to)(hi:PE X i ti)(hs:PSet X t)
 (ha:∀ v,assign (.Subscript o i pos) X.env v=(do
  let ov <- holding [v] (eval o X.env)
  let iv <- holding [v,ov] (eval i X.env)
  standAt pos
  holding [v,ov,iv] (setItem ov iv v)
  release [v,ov,iv] []):=by intro _;rfl):PG X (.Subscript o i pos) (gSub to ti t):=by
 intro pins s σ H v u Q I r h;rw [ha];refine wpAny_bind (wpAny_holding (thn (ho pins s σ H _ I h) fun ov s1 ⟨x,H1,I1,r1,q1⟩=>?_));refine wpAny_bind (wpAny_holding (thn (hi pins s1 σ H1 _ I1 q1) fun iv s2 ⟨y,H2,I2,r2,q2⟩=>?_));refine wpAny_bind (wpAny_standAt (wpAny_bind (wpAny_holding (thn (hs pins s2 σ H2 x y v ov iv u _ I2 r1 r2 r q2) fun _ s3 ⟨H3,I3,q3⟩=>?_))));exact wpAny_release ⟨σ,H3,I3,q3⟩
def tAsg (te:TE)(g:TG):TS:=fun D σ H=>te σ H fun x H1=>g x σ H1 D.nx
theorem zqy {tg e:Expr}{te:TE}{g:TG}(he:PE X e te)(hg:PG X tg g)(hs:swapsWithSole [tg] e pos.line X.env=pure false:=by rfl)(hw:swappedStores [tg] e X.env=pure none:=by rfl)
 (h1:(assignEach [tg] X.env).map (·.2)=[assign tg X.env]:=by rfl):PS X (.Assign [tg] e pos) (tAsg te g):=by
 intro pins s σ H D I h;refine wpAny_Assign_stores (thn (he pins s σ H _ I h) fun v s1 ⟨x,H1,I1,r1,q1⟩=>?_) hs hw;rw [h1];exact thn (hg pins s1 σ H1 x v _ I1 r1 q1) fun _ s2 q=>q
theorem zkr {i:Nat}{x:Str}{e:Expr}{te:TE}{pos':Pos}(hN:X.N.Nodup)(hi:X.N[i]? = some x)(hx:Loc X.env.scope x)(he:PE X e te)(hs:swapsWith e (some (.Name x pos')) pos.line X.env=pure false:=by rfl)(hf:X.fn x=true\/X.env.scope.names.lookup x=some .local:=by first|exact .inl rfl|exact .inr rfl|assumption) :
 PS X (.Assign [.Name x pos'] e pos) (tAsg te (ze0 i)):=by
 intro pins s σ H D I h;refine wpAny_Assign_Name (thn (he pins s σ H _ I h) fun v s1 ⟨y,H1,I1,r1,q1⟩=>?_) hs;exact zdA I1 hN hi hx r1 (fun s2 I2=>⟨_,H1,I2,q1⟩) hf
def tAug (i:Nat)(te:TE)(ti:TIp):TS:=fun D σ H=>∃ x,σ[i]? = some (some x)/\te σ H fun y H1=>ti x y H1 fun z H2=>D.nx (σ.set i (some z)) H2
theorem zra {i:Nat}{x:Str}{e:Expr}{te:TE}{op:Operator}{ti:TIp}{pos':Pos}(hN:X.N.Nodup)(hi:X.N[i]? = some x)(hx:Loc X.env.scope x)(he:PE X e te)(ho:PIp X op ti)(hf:X.fn x=true\/X.env.scope.names.lookup x=some .local:=by first|exact .inl rfl|exact .inr rfl|assumption) :
 PS X (.AugAssign (.Name x pos') op e pos) (tAug i te ti):=by
 intro pins s σ H D I h;obtain ⟨v,e1,h⟩:=h;obtain ⟨m,hn,hl⟩:=I.loc;have vis:Vis X.env.scope x:=by rcases hx with k|k;exact .inl k;exact .inr (.inl k)
 obtain ⟨u,r,l⟩:=hl i x v hi e1 vis;refine wpAny_AugAssign_Name ?_;have go:wpAny (model X.prog X.w) X.A (eval e X.env) (fun w s₂=>wpAny (model X.prog X.w) X.A (inplaceOp op u w) (fun r s₃=>wpAny (model X.prog X.w) X.A (storeName X.env x r) (fun _=>SP X pins D .next) X.xe s₃) X.xe s₂) X.xe s:=by
  refine thn (he pins s σ H _ I h) fun w s1 ⟨y,H1,I1,r1,q1⟩=>?_;refine thn (ho pins s1 σ H1 v y u w _ I1 r r1 q1) fun z s2 ⟨zv,H2,I2,r2,q2⟩=>?_;exact zdA I2 hN hi hx r2 (fun s3 I3=>⟨_,H2,I3,q2⟩) hf
 rcases l with ⟨hk,hm⟩|⟨hk,c,hc,hcell⟩
 ·exact wpAny_loadName_local I.ok.kind hk hn hm go
 ·rcases hk with hk|hk
  ·exact wpAny_loadName_cell I.ok.kind hk hc hcell go
  ·rcases hx with k|k
   ·have:X.env.scope.names.lookup x=some .free:=hk;rw [k] at this;cases this
   ·have:X.env.scope.names.lookup x=some .free:=hk;rw [k] at this;cases this
def ipI (f:Int->Int->Int):TIp:=fun x y H Q=>∃ i j,x=.int i/\y=.int j/\Q (.int (f i j)) H
theorem zrS:PIp X .Add (ipI fun i j=>i+j):=by
 intro pins s σ H x y v u Q I r1 r2 h;obtain ⟨i,j,e1,e2,q⟩:=h;subst e1;subst e2;obtain ⟨t,rfl⟩:=r1;obtain ⟨t',rfl⟩:=r2;exact iadd_int ⟨.int _,H,I.tok _,⟨_,rfl⟩,q⟩
end
section
variable {X:Cx}{pos:Pos}
def zsd (c:TT)(tb:TS):TS:=fun D σ H=>∃ W:Nat->St->Hp->Prop,(∃ m,W m σ H)/\∀ m σ H,W m σ H ->
 c σ H fun b H1=>if b=true then ∃ N:St->Hp->Prop,(∀ σ' H',N σ' H'->∃ m',m'<m/\W m' σ' H')/\tb { D with nx:=N,ct:=N,bk:=D.nx } σ H1 else D.nx σ H1
theorem zni {c:Expr}{body:List Stmt}{tc:TT}{tb:TS}(hp:PassesOwn (model X.prog X.w) X.A X.env X.xe)(hc:PT X c tc)(hb:PSs X body tb):PS X (.While c body [] pos) (zsd tc tb):=by
 intro pins s σ H D I h;obtain ⟨W,⟨m0,w0⟩,turn⟩:=h;refine wpAny_While (codeAny_whileLoop (fun n s'=>∃ σ' H',Inv X pins σ' H' s'/\W n σ' H') ?_ m0 ⟨σ,H,I,w0⟩);rintro n s1 ⟨σ1,H1,I1,w1⟩;refine wpAny_passesOwn hp (thn (hc pins s1 σ1 H1 _ I1 (turn n σ1 H1 w1)) fun b s2 ⟨H2,I2,q2⟩=>?_);cases b with
 |true =>
  obtain ⟨N,hN,q2⟩:=q2;rw [if_pos rfl];refine wpAny_passesOwn hp (thn (hb pins s2 σ1 H2 _ I2 q2) fun f s3 q3=>?_);cases f with
  |next =>
   obtain ⟨σ3,H3,I3,n3⟩:=q3;obtain ⟨m',hm,w3⟩:=hN σ3 H3 n3;exact ⟨m',hm,σ3,H3,I3,w3⟩
  |cont =>
   obtain ⟨σ3,H3,I3,n3⟩:=q3;obtain ⟨m',hm,w3⟩:=hN σ3 H3 n3;exact ⟨m',hm,σ3,H3,I3,w3⟩
  |brk=>exact q3
  |ret v=>exact q3
 |false =>
  rw [if_neg Bool.false_ne_true];exact wpAny_execs_nil ⟨σ1,H2,I2,q2⟩
end
structure It where
 go:Nat->Hp->Prop
 yld:Nat->Hp->V->Hp->Prop
 stop:Nat->Hp->Prop
def FpOk (X:Cx)(pins:List (Addr×Obj))(H:Hp)(b:Addr):Prop :=
 H b=none/\b≠X.env.locals/\b∉X.fs/\(b∈X.ex\/X.s₀.heap.objs.size<=b)/\(∀ x c,X.env.cells.lookup x=some c->c≠b)/\∀ p∈X.pn++pins,p.1≠b
theorem Inv.fpOk {X:Cx}{pins:List (Addr×Obj)}{σ : St}{H H':Hp}{s:Shared}{b:Addr}(I:Inv X pins σ H s)(hb:s.heap.objs.size<=b)(hn:H' b=none):FpOk X pins H' b:=by
 refine ⟨hn,Nat.ne_of_gt (Nat.lt_of_lt_of_le I.lt hb),I.nofs hb,.inr (Nat.le_trans I.sz hb),fun x c e z=>?_,fun p hp z=>?_⟩
 ·obtain ⟨v,q⟩:=I.cell x c e;exact absurd (Nat.lt_of_lt_of_le q.lt (by rw [z];exact hb)) (Nat.lt_irrefl _)
 ·exact absurd (Nat.lt_of_lt_of_le (Heap.lt_size (I.pin p hp).1) (by rw [z];exact hb)) (Nat.lt_irrefl _)
structure Turn (P:Program)(w:World)(K:W.Frag)(tg:Expr)(J:It)(fp:List Addr)(it:Addr)(tn:Nat->Heap->Prop):Prop where
 mem:it∈fp
 obj:∀ i h,tn i h->∀ b∈fp,∃ o,h.get? b=some o/\∀ v,o.data ≠ .cell v
 keep:∀ i h h',tn i h->(∀ b∈fp,∀ o,h.get? b=some o->h'.get? b=some o)->tn i h'
 item:∀ (X:Cx),X.prog=P->X.w=w->X.K=K->X.calm=true->∀ (i:Nat) (pins:List (Addr×Obj)) (s:Shared) (σ : St) (H:Hp) (E:Value->Shared->Prop),Inv X pins σ H s->(∀ b∈fp,FpOk X pins H b)->tn i s.heap->J.go i H ->
  wpAny (model P w) X.A (pyNext (.ref it)) (fun r s1=>∃ u,r=some u /\
   wpAny (model P w) X.A (letOwnedTupleGo tg (.ref it) u) (fun _ s2=>∃ x H',Inv X pins σ H' s2/\RelV x u/\J.yld i H x H'/\tn (i+1) s2.heap/\∀ b∈fp,H' b=none) E s1) E s
 done:∀ (X:Cx),X.prog=P->X.w=w->X.K=K->X.calm=true->∀ (i:Nat) (pins:List (Addr×Obj)) (s:Shared) (σ : St) (H:Hp) (E:Value->Shared->Prop),Inv X pins σ H s->(∀ b∈fp,FpOk X pins H b)->tn i s.heap->J.stop i H ->
  wpAny (model P w) X.A (pyNext (.ref it)) (fun r s1=>r=none/\Inv X pins σ H s1) E s
 self:∀ (A:Around) (i:Nat) (s:Shared) (Q:Value->Shared->Prop) (E:Value->Shared->Prop),tn i s.heap->Q (.ref it) s->wpAny (model P w) A (pyIter (.ref it)) Q E s
abbrev TI:=St->Hp->(It->Hp->Prop)->Prop
def PIE (X:Cx)(pins:List (Addr×Obj))(σ : St)(tg:Expr)(R:It->Hp->Prop)(itv:Value)(s2:Shared):Prop :=
 ∃ (it:Addr) (fp:List Addr) (tn:Nat->Heap->Prop) (J:It) (H':Hp),itv=.ref it/\Inv X pins σ H' s2/\Turn X.prog X.w X.K tg J fp it tn/\tn 0 s2.heap/\(∀ b∈fp,FpOk X pins H' b)/\R J H'
def PI (X:Cx)(tg iter:Expr)(wi:TI):Prop :=
 ∀ (pins:List (Addr×Obj)) (s:Shared) (σ : St) (H:Hp) (R:It->Hp->Prop),Inv X pins σ H s->wi σ H R ->
  wpAny (model X.prog X.w) X.A (eval iter X.env) (fun v s1=>wpAny (model X.prog X.w) X.A (pyIter v) (PIE X pins σ tg R) X.xe s1) X.xe s
theorem zkd {M:Model}{A:Around}{E:Value->Shared->Prop}{s:Shared}{tg:Expr}{it:Addr}{u:Value}{o:Obj}{n:String}{vs:Array Value}{Q:Unit->Shared->Prop}(ho:s.heap.get? it=some o)(hc:o.cls=.type n)(hd:o.data=.fields vs)
 (hn : ["enumerate", "zip", "dict_itemiterator", "dict_reverseitemiterator", "odict_iterator", "itertools.zip_longest", "itertools.pairwise"].contains n=false) (hQ:Q () s):wpAny M A (letOwnedTupleGo tg (.ref it) u) Q E s:=by
 unfold letOwnedTupleGo;cases tg<;>first
  |exact wpAny_pure hQ
  | (cases u<;>first
   |exact wpAny_pure hQ
   | (
    refine wpAny_bind (wpAny_load ho ?_);rw [hc,hd];show wpAny M A (if (["enumerate", "zip", "dict_itemiterator", "dict_reverseitemiterator", "odict_iterator", "itertools.zip_longest", "itertools.pairwise"].contains n&&vs[0]? == some (rawInt _))=true then _ else _) Q E s;rw [if_neg (by intro h;rw [hn,Bool.false_and] at h;cases h)];exact wpAny_pure hQ))
def Itl (K:W.Frag)(a:Addr):It :=
 ⟨fun i H=>∃ xs x,SqL K H a xs/\xs[i]? = some x,fun i H x H'=>H'=H/\∀ xs,SqL K H a xs->xs[i]? = some x,fun i H=>∃ xs,SqL K H a xs/\xs.length<=i⟩
def Itt (K:W.Frag)(a:Addr):It :=
 ⟨fun i H=>∃ xs x,SqT K H a xs/\xs[i]? = some x,fun i H x H'=>H'=H/\∀ xs,SqT K H a xs->xs[i]? = some x,fun i H=>∃ xs,SqT K H a xs/\xs.length<=i⟩
def Itr (lo:Int)(n:Nat):It:=⟨fun i _=>i<n,fun i H x H'=>H'=H/\x=.int (lo+i),fun i _=>n<=i⟩
theorem zjV {P:Program}{w:World}{K:W.Frag}{tg:Expr}(a it:Addr):Turn P w K tg (Itl K a) [it] it (fun i h=>h.IsListIter it a i) where
 mem:=by simp
 obj:=fun i h st b hb=>by
  have e:b=it:=by simpa using hb
  subst e;obtain ⟨o,e,c,d⟩:=st;exact ⟨o,e,fun v z=>by rw [d] at z;cases z⟩
 keep:=fun i h h' st k=>st.at fun o e=>k it (by simp) o e
 item:=by
  intro X hP hw hK hc i pins s σ H E I hf st hg;subst hP hw hK;obtain ⟨xs,x,hq,hx⟩:=hg;obtain ⟨its,rv,p,hz⟩:=I.list hq;obtain ⟨u,hu,ru⟩:=rv.get hx;obtain ⟨f0,f1,f2,f3,f4,f5⟩:=hf it (by simp);refine wpAny_pyNext_list_item st p.isList (x:=u) (by simpa using hu) fun h' st' sb=>?_;have I1:Inv X pins σ H { s with heap:=h' }:=I.turned (t':=s.toks) (fun b o hb e=>(sb.2 b hb).trans e) f0 f1 f3 f4 f5;obtain ⟨o,e,c,d⟩:=id st';exact ⟨u,rfl,zkd (s:={ s with heap:=h' }) e c d (by decide) ⟨x,H,I1,ru,⟨rfl,fun ys hy=>by rw [I.list_inj hy hq];exact hx⟩,st',fun b hb=>(hf b hb).1⟩⟩
 done:=by
  intro X hP hw hK hc i pins s σ H E I hf st hg;subst hP hw hK;obtain ⟨xs,hq,hx⟩:=hg;obtain ⟨its,rv,p,hz⟩:=I.list hq;obtain ⟨f0,f1,f2,f3,f4,f5⟩:=hf it (by simp);have hl:=rv.length;exact wpAny_pyNext_list_end (I.ok.hd hc) st p.isList (by simp;omega) fun h' eb=>⟨rfl,I.turned (t':=s.toks) (fun b o hb e=>eb b o hb e) f0 f1 f3 f4 f5⟩
 self:=fun _ _ _ _ _ st h=>wpAny_pyIter_listiter st h
theorem zij {P:Program}{w:World}{K:W.Frag}{tg:Expr}(a it:Addr):Turn P w K tg (Itt K a) [it] it (fun i h=>h.IsTupleIter it a i) where
 mem:=by simp
 obj:=fun i h st b hb=>by
  have e:b=it:=by simpa using hb
  subst e;obtain ⟨o,e,c,d⟩:=st;exact ⟨o,e,fun v z=>by rw [d] at z;cases z⟩
 keep:=fun i h h' st k=>st.at fun o e=>k it (by simp) o e
 item:=by
  intro X hP hw hK hc i pins s σ H E I hf st hg;subst hP hw hK;obtain ⟨xs,x,hq,hx⟩:=hg;obtain ⟨its,rv,p,hz⟩:=I.tuple hq;obtain ⟨u,hu,ru⟩:=rv.get hx;obtain ⟨f0,f1,f2,f3,f4,f5⟩:=hf it (by simp);refine wpAny_pyNext_tuple_item st (show s.heap.IsTuple a its.toArray from p) (x:=u) (by simpa using hu) fun h' st' sb=>?_;have I1:Inv X pins σ H { s with heap:=h' }:=I.turned (t':=s.toks) (fun b o hb e=>(sb.2 b hb).trans e) f0 f1 f3 f4 f5;obtain ⟨o,e,c,d⟩:=id st';exact ⟨u,rfl,zkd (s:={ s with heap:=h' }) e c d (by decide) ⟨x,H,I1,ru,⟨rfl,fun ys hy=>by rw [I.tuple_inj hy hq];exact hx⟩,st',fun b hb=>(hf b hb).1⟩⟩
 done:=by
  intro X hP hw hK hc i pins s σ H E I hf st hg;subst hP hw hK;obtain ⟨xs,hq,hx⟩:=hg;obtain ⟨its,rv,p,hz⟩:=I.tuple hq;obtain ⟨f0,f1,f2,f3,f4,f5⟩:=hf it (by simp);have hl:=rv.length;exact wpAny_pyNext_tuple_end (I.ok.hd hc) st (show s.heap.IsTuple a its.toArray from p) (by simp;omega) fun h' eb=>⟨rfl,I.turned (t':=s.toks) (fun b o hb e=>eb b o hb e) f0 f1 f3 f4 f5⟩
 self:=fun _ _ _ _ _ st h=>wpAny_pyIter_tupleiter st h
theorem ziX {P:Program}{w:World}{K:PySem.W.Frag}{tg:Expr}(it:Addr)(lo:Int)(n:Nat):Turn P w K tg (Itr lo n) [it] it (fun i h=>IsRangeIter h it (lo+(i:Nat)*1) ((n:Int)-(i:Nat)) 1) where
 mem:=by simp
 obj:=fun i h st b hb=>by
  have e:b=it:=by simpa using hb
  subst e;exact ⟨_,st,fun v z=>by
   have z':Data.fields _=Data.cell v:=z;cases z'⟩
 keep:=fun i h h' st k=>k it (by simp) _ st
 item:=by
  intro X hP hw hK hc i pins s σ H E I hf st hg;subst hP hw hK;obtain ⟨f0,f1,f2,f3,f4,f5⟩:=hf it (by simp);have W:=Walks.range (prog:=X.prog) (w:=X.w) (I.ok.hd hc) it lo 1 n;refine W.item i s _ _ hg st fun v h' tk hv st' kk=>?_;obtain ⟨t,rfl⟩:=hv;have I1:Inv X pins σ H { s with heap:=h',toks:=tk }:=I.turned (fun b o hb e=>kk b o (by simpa using hb) e) f0 f1 f3 f4 f5;refine ⟨_,rfl,zkd (s:={ s with heap:=h',toks:=tk }) (n := "range_iterator") st' rfl rfl (by decide) ⟨.int (lo+i),H,I1,⟨t,?_⟩,⟨rfl,rfl⟩,st',fun b hb=>(hf b hb).1⟩⟩;rw [Int.mul_one]
 done:=by
  intro X hP hw hK hc i pins s σ H E I hf st hg;subst hP hw hK;obtain ⟨f0,f1,f2,f3,f4,f5⟩:=hf it (by simp);exact wpAny_pyNext_range_end (I.ok.hd hc) st (by have:n<=i:=hg;omega) fun h' eb=>⟨rfl,I.turned (t':=s.toks) (fun b o hb e=>eb b o hb e) f0 f1 f3 f4 f5⟩
 self:=fun _ _ _ _ _ st h=>wpAny_pyIter_rangeiter st h
section
variable {X:Cx}{tg:Expr}
def iList (K:W.Frag)(tl:TE):TI:=fun σ H R=>tl σ H fun x H1=>∃ a,x=.ref a/\(∃ xs,SqL K H1 a xs)/\R (Itl K a) H1
def iTup (K:W.Frag)(tl:TE):TI:=fun σ H R=>tl σ H fun x H1=>∃ a,x=.ref a/\(∃ xs,SqT K H1 a xs)/\R (Itt K a) H1
theorem zpC {l:Expr}{tl:TE}(hl:PE X l tl):PI X tg l (iList X.K tl):=by
 intro pins s σ H R I h;refine thn (hl pins s σ H _ I h) fun v s1 ⟨x,H1,I1,r1,q1⟩=>?_;obtain ⟨a,e,⟨xs,hq⟩,q⟩:=q1;subst e;cases r1;obtain ⟨its,rv,p,hz⟩:=I1.list hq;refine wpAny_pyIter_list p.isList ?_;refine ⟨s1.heap.objs.size,[s1.heap.objs.size],_,_,H1,rfl,I1.kept (t':=s1.toks) fun b o e=>Heap.get?_push_of_some _ e,zjV a _,⟨_,Heap.get?_push_size _ rfl,rfl,rfl⟩,fun b hb=>?_,q⟩;have e:b=s1.heap.objs.size:=by simpa using hb
 subst e;exact I1.fpOk (Nat.le_refl _) (I1.hok.fresh (Nat.le_refl _))
theorem zqL {l:Expr}{tl:TE}(hl:PE X l tl):PI X tg l (iTup X.K tl):=by
 intro pins s σ H R I h;refine thn (hl pins s σ H _ I h) fun v s1 ⟨x,H1,I1,r1,q1⟩=>?_;obtain ⟨a,e,⟨xs,hq⟩,q⟩:=q1;subst e;cases r1;obtain ⟨its,rv,p,hz⟩:=I1.tuple hq;refine wpAny_pyIter_tuple (show s1.heap.IsTuple a its.toArray from p) ?_;refine ⟨s1.heap.objs.size,[s1.heap.objs.size],_,_,H1,rfl,I1.kept (t':=s1.toks) fun b o e=>Heap.get?_push_of_some _ e,zij a _,⟨_,Heap.get?_push_size _ rfl,rfl,rfl⟩,fun b hb=>?_,q⟩;have e:b=s1.heap.objs.size:=by simpa using hb
 subst e;exact I1.fpOk (Nat.le_refl _) (I1.hok.fresh (Nat.le_refl _))
theorem zmQ {pins:List (Addr×Obj)}{σ : St}{H:Hp}{s:Shared}{R:It->Hp->Prop}{E:Value->Shared->Prop}{lo hi:Int}{t u v:Tok}{tk:Nat}(I:Inv X pins σ H s)(h1 : -(2 ^ 62)<=lo)(h2:lo<2 ^ 62)(h3 : -(2 ^ 62)<=hi)(h4:hi<2 ^ 62)
 (q:R (Itr lo (hi-lo).toNat) H):wpAny (model X.prog X.w) X.A (pyIter (.ref s.heap.objs.size)) (PIE X pins σ tg R) E { s with heap:=s.heap.push { cls:=.type "range",data:=.fields #[.int lo t,.int hi u,.int 1 v] },toks:=tk }:=by
 refine wpAny_pyIter_range (IsRange.new ..) (small_one h1 h2 h3 h4) ?_;have I1:Inv X pins σ H { s with heap:=s.heap.push { cls:=.type "range",data:=.fields #[.int lo t,.int hi u,.int 1 v] },toks:=tk }:=I.kept fun b o e=>Heap.get?_push_of_some _ e;refine ⟨(s.heap.push { cls:=.type "range",data:=.fields #[.int lo t,.int hi u,.int 1 v] }).objs.size,[(s.heap.push { cls:=.type "range",data:=.fields #[.int lo t,.int hi u,.int 1 v] }).objs.size],_,_,H,rfl,
  I1.kept (t':=tk) fun b o e=>Heap.get?_push_of_some _ e,ziX _ lo (hi-lo).toNat,?_,fun b hb=>?_,q⟩
 ·have e1:lo+((0:Nat):Int)*1=lo:=by simp
  have e2:(((hi-lo).toNat:Nat):Int)-((0:Nat):Int)=Builtin.Range.rangeSize lo hi 1:=by rw [rangeSize_one];split<;>omega
  show IsRangeIter _ _ (lo+((0:Nat):Int)*1) ((((hi-lo).toNat:Nat):Int)-((0:Nat):Int)) 1;rw [e1,e2];exact Heap.get?_push_size _ rfl
 ·have e:b=(s.heap.push { cls:=.type "range",data:=.fields #[.int lo t,.int hi u,.int 1 v] }).objs.size:=by simpa using hb
  subst e;exact I1.fpOk (Nat.le_refl _) (I1.hok.fresh (Nat.le_refl _))
def iRng1 (ta:TA):TI:=fun σ H R=>ta σ H fun vs H1=>∃ j:Int,vs=[.int j] /\ -(2 ^ 62)<=j/\j<2 ^ 62/\R (Itr 0 j.toNat) H1
theorem zkl {a:Expr}{ta:TA}{p pos:Pos}(hg:Gl X "range")(hm:X.mg "range" = none)(ha:PA X [a] ta)(hs:starEach [a] X.env=[(false,eval a X.env)]:=by rfl):PI X tg (.Call (.Name "range" p) [a] [] pos) (iRng1 ta):=by
 intro pins s σ H R I h;refine Call_ (zdK I hg hm boot_range (PyProof.Rows.callWith_type1 (thn (ha pos pins s σ H _ I h) fun us s1 ⟨vs,H1,I1,r1,q1⟩=>?_) hs rfl));obtain ⟨j,e,q1,q2,q⟩:=q1;subst e;cases r1 with
 |cons r rr =>
  cases rr;obtain ⟨t,rfl⟩:=r;exact call_range_1 (zmQ I1 (by omega) (by omega) q1 q2 (by simpa using q))
def tFor (wi:TI)(g:TG)(tb:TS):TS:=fun D σ H=>wi σ H fun J H1=>∃ W:Nat->Nat->St->Hp->Prop,(∃ m,W 0 m σ H1)/\∀ i m σ H,W i m σ H ->
 (J.stop i H/\D.nx σ H)\/(J.go i H/\∃ N:St->Hp->Prop,(∀ σ' H',N σ' H'->∃ m',m'<m/\W (i+1) m' σ' H')/\∀ x H',J.yld i H x H'->g x σ H' fun σ2 H2=>tb { D with nx:=N,ct:=N,bk:=D.nx } σ2 H2)
def zfH (fp:List Addr)(h:Heap):List (Addr×Obj):=fp.filterMap fun b=>(h.get? b).map fun o=>(b,o)
theorem zc6 {fp:List Addr}{h:Heap}{b:Addr}{o:Obj}(hb:b∈fp)(e:h.get? b=some o):(b,o)∈zfH fp h:=List.mem_filterMap.mpr ⟨b,hb,by rw [e];rfl⟩
theorem zlf {fp:List Addr}{h:Heap}{p:Addr×Obj}(hp:p∈zfH fp h):p.1∈fp/\h.get? p.1=some p.2:=by
 obtain ⟨b,hb,e⟩:=List.mem_filterMap.mp hp;cases q:h.get? b with
 |none=>rw [q] at e;cases e
 |some o =>
  rw [q] at e;have e':(b,o)=p:=Zqi e;subst e';exact ⟨hb,q⟩
theorem Inv.pinned {pins:List (Addr×Obj)}{σ : St}{H:Hp}{s:Shared}{fp:List Addr}(I:Inv X pins σ H s)(hf:∀ b∈fp,FpOk X pins H b)(ho:∀ b∈fp,∃ o,s.heap.get? b=some o/\∀ v,o.data ≠ .cell v):Inv X (pins++zfH fp s.heap) σ H s :=
 I.pins_of fun p hp=>(List.mem_append.mp hp).elim (fun z=>I.pin p (List.mem_append_right _ z)) fun z=>by
  obtain ⟨hb,e⟩:=zlf z;obtain ⟨f0,f1,f2,_⟩:=hf p.1 hb;obtain ⟨o,e',d⟩:=ho p.1 hb;rw [e] at e';cases e';exact ⟨e,f0,f1,f2,d⟩
theorem Inv.unpinned {pins pl:List (Addr×Obj)}{σ : St}{H:Hp}{s:Shared}(I:Inv X (pins++pl) σ H s):Inv X pins σ H s:=I.pins_of fun p hp=>I.pin p (List.mem_append_right _ (List.mem_append_left _ hp))
theorem znS {iter:Expr}{body:List Stmt}{wi:TI}{g:TG}{tb:TS}{pos:Pos}(hp:PassesOwn (model X.prog X.w) X.A X.env X.xe)(hc:X.calm=true)(hi:PI X tg iter wi)(hg:PG X tg g)(hb:PSs X body tb)
 (hs:∀ x,foldedSetIterable iter X.env x=pure x:=by intro _;rfl):PS X (.For tg iter body [] pos) (tFor wi g tb):=by
 intro pins s σ H D I h;refine wpAny_For (thn (hi pins s σ H _ I h) fun v s1 h1=>thn h1 fun itv s2 h2=>?_) hs;obtain ⟨it,fp,tn,J,H2,e,I2,T,st2,f2,W,⟨m0,w0⟩,turn⟩:=h2;subst e;have stat:∀ {H':Hp},(∀ b∈fp,H' b=none)->∀ b∈fp,FpOk X pins H' b:=fun hn b hb=>⟨hn b hb,(f2 b hb).2⟩;refine codeAny_forLoop_any (fun n s'=>∃ i σ' H',Inv X pins σ' H' s'/\tn i s'.heap/\(∀ b∈fp,H' b=none)/\W i n σ' H') ?_ m0 ⟨0,σ,H2,I2,st2,fun b hb=>(f2 b hb).1,w0⟩;rintro n s3 ⟨i,σ3,H3,I3,st3,fr3,w3⟩;rcases turn i n σ3 H3 w3 with ⟨stop,qn⟩|⟨go,N,hN,step⟩
 ·refine wpAny_passesOwn hp (thn (T.done X rfl rfl rfl hc i pins s3 σ3 H3 X.xe I3 (stat fr3) st3 stop) fun r s4 ⟨hr,I4⟩=>?_);subst hr;exact wpAny_execs_nil ⟨σ3,H3,I4,qn⟩
 ·refine wpAny_passesOwn hp (thn (T.item X rfl rfl rfl hc i pins s3 σ3 H3 X.xe I3 (stat fr3) st3 go) fun r s4 ⟨u,hr,h4⟩=>?_);subst hr;refine wpAny_passesOwn hp (thn h4 fun _ s5 ⟨x,H5,I5,r5,y5,st5,fr5⟩=>?_);have I5':=I5.pinned (stat fr5) (T.obj _ _ st5);refine wpAny_passesOwn hp (thn (hg _ s5 σ3 H5 x u _ I5' r5 (step x H5 y5)) fun _ s6 ⟨σ6,H6,I6,q6⟩=>?_);refine wpAny_passesOwn hp (thn (hb _ s6 σ6 H6 _ I6 q6) fun f s7 q7=>?_);have again:∀ {σ7:St} {H7:Hp},Inv X (pins++zfH fp s5.heap) σ7 H7 s7->N σ7 H7->∃ m,m<n/\∃ i σ' H',Inv X pins σ' H' s7/\tn i s7.heap/\(∀ b∈fp,H' b=none)/\W i m σ' H':=fun {σ7 H7} I7 n7=>by
   obtain ⟨m',hm,w7⟩:=hN σ7 H7 n7;refine ⟨m',hm,i+1,σ7,H7,I7.unpinned,T.keep _ _ _ st5 fun b hb o e=>(I7.pin (b,o) (List.mem_append_right _ (List.mem_append_right _ (zc6 hb e)))).1,fun b hb=>?_,w7⟩;obtain ⟨o,e,d⟩:=T.obj _ _ st5 b hb;exact (I7.pin (b,o) (List.mem_append_right _ (List.mem_append_right _ (zc6 hb e)))).2.1
  cases f with
  |next=>obtain ⟨σ7,H7,I7,n7⟩:=q7;exact again I7 n7
  |cont=>obtain ⟨σ7,H7,I7,n7⟩:=q7;exact again I7 n7
  |brk=>obtain ⟨σ7,H7,I7,q7⟩:=q7;exact ⟨σ7,H7,I7.unpinned,q7⟩
  |ret v=>obtain ⟨x7,σ7,H7,I7,r7,q7⟩:=q7;exact ⟨x7,σ7,H7,I7.unpinned,r7,q7⟩
end
abbrev R2:=V->V->Hp->VK->Prop
def OpR (X:Cx)(f:Value->Value->Sem Value)(r:R2):Prop :=
 ∀ (pins:List (Addr×Obj)) (s:Shared) (σ : St) (H:Hp) (x y:V) (v u:Value) (Q:VK),Inv X pins σ H s->RelV x v->RelV y u->r x y H Q ->
  wpAny (model X.prog X.w) X.A (f v u) (EP X pins σ Q) X.xe s
def UnR (X:Cx)(f:Value->Sem Value)(r:V->Hp->VK->Prop):Prop :=
 ∀ (pins:List (Addr×Obj)) (s:Shared) (σ : St) (H:Hp) (x:V) (v:Value) (Q:VK),Inv X pins σ H s->RelV x v->r x H Q ->
  wpAny (model X.prog X.w) X.A (f v) (EP X pins σ Q) X.xe s
def zaN (X:Cx)(f:Value)(r:List V->Hp->VK->Prop):Prop :=
 ∀ (pins:List (Addr×Obj)) (s:Shared) (σ : St) (H:Hp) (xs:List V) (us:List Value) (Q:VK),Inv X pins σ H s->Vals xs us->r xs H Q ->
  wpAny (model X.prog X.w) X.A (call f us) (EP X pins σ Q) X.xe s
def tOp (r:R2)(ta tb:TE):TE:=fun σ H Q=>ta σ H fun x H1=>tb σ H1 fun y H2=>r x y H2 Q
def tUn (r:V->Hp->VK->Prop)(ta:TE):TE:=fun σ H Q=>ta σ H fun x H1=>r x H1 Q
def rI (C:Int->Int->Prop)(g:Int->Int->V):R2:=fun x y H Q=>∃ i j,x=.int i/\y=.int j/\C i j/\Q (g i j) H
def rI0 (g:Int->Int->V):R2:=fun x y H Q=>∃ i j,x=.int i/\y=.int j/\Q (g i j) H
def rU (g:Int->V):V->Hp->VK->Prop:=fun x H Q=>∃ i,x=.int i/\Q (g i) H
section
variable {X:Cx}{a b c:Expr}{ta tb tc:TE}{pos:Pos}
theorem binT (ha:PE X a ta)(hb:PE X b tb){pins:List (Addr×Obj)}{s:Shared}{σ : St}{H:Hp}{R:V->V->Hp->Prop}(I:Inv X pins σ H s)
 (h:ta σ H fun x H1=>tb σ H1 fun y H2=>R x y H2) {Q:Value->Shared->Prop} {f:Value->Value->Sem Value}
 (hf:∀ v u s2 x y H2,Inv X pins σ H2 s2->RelV x v->RelV y u->R x y H2->wpAny (model X.prog X.w) X.A (f v u) Q X.xe s2) :
 wpAny (model X.prog X.w) X.A (eval a X.env) (fun v s₁=>wpAny (model X.prog X.w) X.A (eval b X.env) (fun u s₂=>wpAny (model X.prog X.w) X.A (f v u) Q X.xe s₂) X.xe s₁) X.xe s:=by
 refine thn (ha pins s σ H _ I h) fun v s1 ⟨x,H1,I1,r1,q1⟩=>?_;refine thn (hb pins s1 σ H1 _ I1 q1) fun u s2 ⟨y,H2,I2,r2,q2⟩=>?_;exact hf v u s2 x y H2 I2 r1 r2 q2
theorem zqY {op:Operator}{r:R2}(ho:OpR X (binaryOp op) r)(ha:PE X a ta)(hb:PE X b tb):PE X (.BinOp a op b pos) (tOp r ta tb):=by
 intro pins s σ H Q I h;exact wpAny_BinOp (binT ha hb I h fun v u s2 x y H2 I2 rx ry q=>ho pins s2 σ H2 x y v u Q I2 rx ry q)
theorem pe_un {op:UnaryOp}{r:V->Hp->VK->Prop}(ho:UnR X (unaryOp op) r)(ha:PE X a ta):PE X (.UnaryOp op a pos) (tUn r ta):=by
 intro pins s σ H Q I h;exact UnaryOp_ (thn (ha pins s σ H _ I h) fun v s1 ⟨x,H1,I1,r1,q1⟩=>ho pins s1 σ H1 x v Q I1 r1 q1)
theorem opI {f:Value->Value->Sem Value}{C:Int->Int->Prop}{g:Int->Int->Int}
 (rule:∀ (i j:Int) (t u:Tok) (s:Shared) (Q:Value->Shared->Prop) (E:Value->Shared->Prop),C i j->Q (.int (g i j) s.toks) { s with toks:=s.toks+1 }->wpAny (model X.prog X.w) X.A (f (.int i t) (.int j u)) Q E s) :
 OpR X f (rI C fun i j=>.int (g i j)):=by
 intro pins s σ H x y v u Q I rx ry h;obtain ⟨i,j,rfl,rfl,hc,q⟩:=h;obtain ⟨t,rfl⟩:=rx;obtain ⟨t',rfl⟩:=ry;exact rule i j t t' s _ _ hc ⟨.int (g i j),H,I.tok _,⟨_,rfl⟩,q⟩
theorem opI0 {f:Value->Value->Sem Value}{g:Int->Int->Int}
 (rule:∀ (i j:Int) (t u:Tok) (s:Shared) (Q:Value->Shared->Prop) (E:Value->Shared->Prop),Q (.int (g i j) s.toks) { s with toks:=s.toks+1 }->wpAny (model X.prog X.w) X.A (f (.int i t) (.int j u)) Q E s) :
 OpR X f (rI0 fun i j=>.int (g i j)):=by
 intro pins s σ H x y v u Q I rx ry h;obtain ⟨i,j,rfl,rfl,q⟩:=h;obtain ⟨t,rfl⟩:=rx;obtain ⟨t',rfl⟩:=ry;exact rule i j t t' s _ _ ⟨.int (g i j),H,I.tok _,⟨_,rfl⟩,q⟩
theorem opB0 {f:Value->Value->Sem Value}{g:Int->Int->Bool}
 (rule:∀ (i j:Int) (t u:Tok) (s:Shared) (Q:Value->Shared->Prop) (E:Value->Shared->Prop),Q (.bool (g i j)) s->wpAny (model X.prog X.w) X.A (f (.int i t) (.int j u)) Q E s) :
 OpR X f (rI0 fun i j=>.bl (g i j)):=by
 intro pins s σ H x y v u Q I rx ry h;obtain ⟨i,j,rfl,rfl,q⟩:=h;obtain ⟨t,rfl⟩:=rx;obtain ⟨t',rfl⟩:=ry;exact rule i j t t' s _ _ ⟨.bl (g i j),H,I,rfl,q⟩
def CDiv (i j:Int):Prop:=0<j/\j<1073741824
def CPow (i j:Int):Prop:=0<=j/\j<=1000000/\i.natAbs<2 ^ 64
theorem zqG:OpR X (binaryOp .Add) (rI0 fun i j=>.int (i+j)):=opI0 fun _ _ _ _ _ _ _ q=>add_int q
theorem zsJ:OpR X (binaryOp .Sub) (rI0 fun i j=>.int (i-j)):=opI0 fun _ _ _ _ _ _ _ q=>sub_int q
theorem zpA:OpR X (binaryOp .FloorDiv) (rI CDiv fun i j=>.int (i / j)):=opI fun i j _ _ _ _ _ hc q=>by
 have h1:(0:Int)<j:=hc.1;have h2:j<1073741824:=hc.2;exact floordiv_int (by omega) (by rw [Int.fdiv_eq_ediv_of_nonneg i (by omega)];exact q) (.inl (PyProof.noPylong_small (by omega)))
theorem zs6:OpR X (binaryOp .Mod) (rI (fun _ j=>0<j) fun i j=>.int (i % j)):=opI fun i j _ _ _ _ _ hc q=>by
 have h1:(0:Int)<j:=hc;exact mod_int' (by omega) (by rw [Int.fmod_eq_emod_of_nonneg i (by omega)];exact q)
theorem zrd:OpR X (binaryOp .Pow) (rI CPow fun i j=>.int (i ^ j.toNat)):=opI fun _ _ _ _ _ _ _ hc q=>pow_int_small hc.1 hc.2.1 hc.2.2 q
theorem unI {f:Value->Sem Value}{g:Int->Int}
 (rule:∀ (i:Int) (t:Tok) (s:Shared) (Q:Value->Shared->Prop) (E:Value->Shared->Prop),Q (.int (g i) s.toks) { s with toks:=s.toks+1 }->wpAny (model X.prog X.w) X.A (f (.int i t)) Q E s) :
 UnR X f (rU fun i=>.int (g i)):=by
 intro pins s σ H x v Q I rx h;obtain ⟨i,rfl,q⟩:=h;obtain ⟨t,rfl⟩:=rx;exact rule i t s _ _ ⟨.int (g i),H,I.tok _,⟨_,rfl⟩,q⟩
theorem zrx:UnR X (unaryOp .USub) (rU fun i=>.int (-i)):=unI fun _ _ _ _ _ q=>neg_int q
end
def scal:V->V->Bool
 | .non,.non=>true | .non,.int _=>true | .int _,.non=>true | .non,.bl _=>true | .bl _,.non=>true | .non,.str _=>true | .str _,.non=>true
 | .int _,.int _=>true | .bl _,.bl _=>true | .str _,.str _=>true | .byt _,.byt _=>true
 | .int _,.str _=>true | .str _,.int _=>true | .bl _,.str _=>true | .str _,.bl _=>true
 |_,_=>false
def rEq:R2:=fun x y H Q=>scal x y=true/\Q (.bl (decide (x=y))) H
def rNe:R2:=fun x y H Q=>scal x y=true/\Q (.bl (!decide (x=y))) H
theorem zky {i j:Int}:decide (V.int i=V.int j)=(i == j):=by
 rw [Bool.eq_iff_iff];simp
theorem znQ {i j:Bool}:decide (V.bl i=V.bl j)=(i == j):=by
 rw [Bool.eq_iff_iff];simp
theorem zjx {i j:Str}:decide (V.str i=V.str j)=(i == j):=by
 rw [Bool.eq_iff_iff];simp
theorem zk3 {i j:Array UInt8}:decide (V.byt i=V.byt j)=(i.toList == j.toList):=by
 rw [Bool.eq_iff_iff];cases i;cases j;simp
section
variable {X:Cx}{a b c:Expr}{ta tb tc:TE}{pos:Pos}
theorem zaG {pins:List (Addr×Obj)}{σ : St}{H:Hp}{s:Shared}{Q:VK}{k k':Bool}(I:Inv X pins σ H s)(q:Q (.bl k) H)(e:k=k'):EP X pins σ Q (.bool k') s:=by
 subst e;exact ⟨.bl k,H,I,rfl,q⟩
theorem op_eq:OpR X (compareOp .Eq) rEq:=by
 intro pins s σ H x y v u Q I rx ry h;obtain ⟨hs,q⟩:=h;cases x with
 |non =>
  cases rx;cases y with
  |non=>cases ry;exact PySem.EqNone.eq_none_none (zaG I q (by simp))
  |bl j=>cases ry;exact PySem.EqNone.eq_none_bool (zaG I q (by simp))
  |int j=>obtain ⟨t',rfl⟩:=ry;exact PySem.EqNone.eq_none_int (zaG I q (by simp))
  |str j=>obtain ⟨t',rfl⟩:=ry;exact PySem.EqNone.eq_none_str (zaG I q (by simp))
  |_=>exact absurd (show false=true from hs) Bool.false_ne_true
 |bl i =>
  cases rx;cases y with
  |non=>cases ry;exact PySem.EqNone.eq_bool_none (zaG I q (by simp))
  |bl j=>cases ry;exact eq_bool (zaG I q znQ)
  |str j=>obtain ⟨t',rfl⟩:=ry;exact PySem.EqMixed.eq_bool_str (zaG I q (by simp))
  |_=>exact absurd (show false=true from hs) Bool.false_ne_true
 |int i =>
  obtain ⟨t,rfl⟩:=rx;cases y with
  |non=>cases ry;exact PySem.EqNone.eq_int_none (zaG I q (by simp))
  |int j=>obtain ⟨t',rfl⟩:=ry;exact eq_int (zaG I q zky)
  |str j=>obtain ⟨t',rfl⟩:=ry;exact PySem.EqMixed.eq_int_str (zaG I q (by simp))
  |_=>exact absurd (show false=true from hs) Bool.false_ne_true
 |str i =>
  obtain ⟨t,rfl⟩:=rx;cases y with
  |non=>cases ry;exact PySem.EqNone.eq_str_none (zaG I q (by simp))
  |bl j=>cases ry;exact PySem.EqMixed.eq_str_bool (zaG I q (by simp))
  |int j=>obtain ⟨t',rfl⟩:=ry;exact PySem.EqMixed.eq_str_int (zaG I q (by simp))
  |str j=>obtain ⟨t',rfl⟩:=ry;exact eq_str (zaG I q zjx)
  |_=>exact absurd (show false=true from hs) Bool.false_ne_true
 |byt i =>
  obtain ⟨t,rfl⟩:=rx;cases y with
  |byt j=>obtain ⟨t',rfl⟩:=ry;exact W.eq_bytes (zaG I q zk3)
  |_=>exact absurd (show false=true from hs) Bool.false_ne_true
 |_=>cases y<;>exact absurd (show false=true from hs) Bool.false_ne_true
theorem op_ne:OpR X (compareOp .NotEq) rNe:=by
 intro pins s σ H x y v u Q I rx ry h;obtain ⟨hs,q⟩:=h;cases x with
 |non =>
  cases rx;cases y with
  |non=>cases ry;exact PySem.EqNone.ne_none_none (zaG I q (by simp))
  |bl j=>cases ry;exact PySem.EqNone.ne_none_bool (zaG I q (by simp))
  |int j=>obtain ⟨t',rfl⟩:=ry;exact PySem.EqNone.ne_none_int (zaG I q (by simp))
  |str j=>obtain ⟨t',rfl⟩:=ry;exact PySem.EqNone.ne_none_str (zaG I q (by simp))
  |_=>exact absurd (show false=true from hs) Bool.false_ne_true
 |bl i =>
  cases rx;cases y with
  |non=>cases ry;exact PySem.EqNone.ne_bool_none (zaG I q (by simp))
  |bl j=>cases ry;exact ne_bool (zaG I q (congrArg not znQ))
  |str j=>obtain ⟨t',rfl⟩:=ry;exact PySem.EqMixed.ne_bool_str (zaG I q (by simp))
  |_=>exact absurd (show false=true from hs) Bool.false_ne_true
 |int i =>
  obtain ⟨t,rfl⟩:=rx;cases y with
  |non=>cases ry;exact PySem.EqNone.ne_int_none (zaG I q (by simp))
  |int j=>obtain ⟨t',rfl⟩:=ry;exact ne_int (zaG I q (congrArg not zky))
  |str j=>obtain ⟨t',rfl⟩:=ry;exact PySem.EqMixed.ne_int_str (zaG I q (by simp))
  |_=>exact absurd (show false=true from hs) Bool.false_ne_true
 |str i =>
  obtain ⟨t,rfl⟩:=rx;cases y with
  |non=>cases ry;exact PySem.EqNone.ne_str_none (zaG I q (by simp))
  |bl j=>cases ry;exact PySem.EqMixed.ne_str_bool (zaG I q (by simp))
  |int j=>obtain ⟨t',rfl⟩:=ry;exact PySem.EqMixed.ne_str_int (zaG I q (by simp))
  |str j=>obtain ⟨t',rfl⟩:=ry;exact ne_str (zaG I q (congrArg not zjx))
  |_=>exact absurd (show false=true from hs) Bool.false_ne_true
 |byt i =>
  obtain ⟨t,rfl⟩:=rx;cases y with
  |byt j=>obtain ⟨t',rfl⟩:=ry;exact W.ne_bytes (zaG I q (congrArg not zk3))
  |_=>exact absurd (show false=true from hs) Bool.false_ne_true
 |_=>cases y<;>exact absurd (show false=true from hs) Bool.false_ne_true
theorem op_lt:OpR X (compareOp .Lt) (rI0 fun i j=>.bl (decide (i<j))):=opB0 fun _ _ _ _ _ _ _ q=>lt_int q
theorem op_le:OpR X (compareOp .LtE) (rI0 fun i j=>.bl (decide (i<=j))):=opB0 fun _ _ _ _ _ _ _ q=>le_int q
theorem op_gt:OpR X (compareOp .Gt) (rI0 fun i j=>.bl (decide (j<i))):=opB0 fun _ _ _ _ _ _ _ q=>gt_int q
theorem op_ge:OpR X (compareOp .GtE) (rI0 fun i j=>.bl (decide (j<=i))):=opB0 fun _ _ _ _ _ _ _ q=>ge_int q
theorem zlK:OpR X (compareOp .In) (fun x y H Q=>∃ i j,x=.str i/\y=.str j/\Q (.bl (!(Builtin.Str.occurrences j i 0 j.length 1).isEmpty)) H):=by
 intro pins s σ H x y v u Q I rx ry h;obtain ⟨i,j,rfl,rfl,q⟩:=h;obtain ⟨t,rfl⟩:=rx;obtain ⟨t',rfl⟩:=ry;exact in_str (zaG I q rfl)
theorem zfZ:OpR X (compareOp .NotIn) (fun x y H Q=>∃ i j,x=.str i/\y=.str j/\Q (.bl (!(!(Builtin.Str.occurrences j i 0 j.length 1).isEmpty))) H):=by
 intro pins s σ H x y v u Q I rx ry h;obtain ⟨i,j,rfl,rfl,q⟩:=h;obtain ⟨t,rfl⟩:=rx;obtain ⟨t',rfl⟩:=ry;exact notIn_str (zaG I q rfl)
theorem zaB (b:Expr){op:CmpOp}(h:op ≠ .In:=by decide)(h2:op ≠ .NotIn:=by decide):behindInMarks op b=false:=by
 have e1:(op == CmpOp.In)=false:=by cases op<;>first|rfl|exact absurd rfl h
 have e2:(op == CmpOp.NotIn)=false:=by cases op<;>first|rfl|exact absurd rfl h2
 cases b<;>first|rfl|(show (_&&(_||_)&&_)=false;rw [e1,e2,Bool.or_self,Bool.and_false,Bool.false_and])
theorem zkk {op:CmpOp}{r:R2}(ho:OpR X (compareOp op) r)(ha:PE X a ta)(hb:PE X b tb)(hm:behindInMarks op b=false):PE X (.Compare a [op] [b] pos) (tOp r ta tb):=by
 intro pins s σ H Q I h;exact wpAny_Compare1 (binT ha hb I h fun v u s2 x y H2 I2 rx ry q=>ho pins s2 σ H2 x y v u Q I2 rx ry q) hm
def zqB (t:TE):TT:=fun σ H Q=>t σ H fun x H'=>∃ k,x=.bl k/\Q k H'
theorem zf8 {op:CmpOp}{r:R2}(ho:OpR X (compareOp op) r)(ha:PE X a ta)(hb:PE X b tb)(hm:behindInMarks op b=false):PT X (.Compare a [op] [b] pos) (zqB (tOp r ta tb)):=by
 intro pins s σ H Q I h;refine wpAny_isTrue_Compare1 (thn (ha pins s σ H _ I h) fun v s1 ⟨x,H1,I1,r1,q1⟩=>thn (hb pins s1 σ H1 _ I1 q1) fun u s2 ⟨y,H2,I2,r2,q2⟩ =>
  thn (ho pins s2 σ H2 x y v u _ I2 r1 r2 q2) fun c s3 ⟨z,H3,I3,r3,k,e,q3⟩=>?_) hm
 subst e;cases r3;exact wpAny_truthy_bool ⟨H3,I3,q3⟩
def zk1 (r r':R2)(ta tb tc:TE):TE:=fun σ H Q=>ta σ H fun x H1=>tb σ H1 fun y H2=>r x y H2 fun z H3=>∃ k,z=.bl k /\
 (if k=true then tc σ H3 fun w' H4=>r' y w' H4 Q else Q (.bl false) H3)
theorem znn {op op':CmpOp}{r r':R2}(ho:OpR X (compareOp op) r)(ho':OpR X (compareOp op') r')(ha:PE X a ta)(hb:PE X b tb)(hc:PE X c tc)
 (hm:lastMarks [op,op'] [b,c]=false:=by with_unfolding_all rfl):PE X (.Compare a [op,op'] [b,c] pos) (zk1 r r' ta tb tc):=by
 intro pins s σ H Q I h;refine Compare_chain (thn (ha pins s σ H _ I h) fun v s1 ⟨x,H1,I1,r1,q1⟩=>chain_link (thn (hb pins s1 σ H1 _ I1 q1) fun u s2 ⟨y,H2,I2,r2,q2⟩ =>
  thn (ho pins s2 σ H2 x y v u _ I2 r1 r2 q2) fun d s3 ⟨z,H3,I3,r3,k,e,q3⟩=>?_)) hm
 subst e;cases r3;refine wpAny_truthy_bool ?_;cases k with
 |false=>exact ite_ff ⟨.bl false,H3,I3,rfl,q3⟩
 |true=>exact ite_tt (chain_last (thn (hc pins s3 σ H3 _ I3 q3) fun w' s4 ⟨z',H4,I4,r4,q4⟩=>ho' pins s4 σ H4 y z' u w' Q I4 r2 r4 q4))
theorem zmU {op op':CmpOp}{r r':R2}(ho:OpR X (compareOp op) r)(ho':OpR X (compareOp op') r')(ha:PE X a ta)(hb:PE X b tb)(hc:PE X c tc)
 (hm:lastMarks [op,op'] [b,c]=false:=by with_unfolding_all rfl):PT X (.Compare a [op,op'] [b,c] pos) (zqB (zk1 r r' ta tb tc)):=by
 intro pins s σ H Q I h;refine isTrue_chain (thn (ha pins s σ H _ I h) fun v s1 ⟨x,H1,I1,r1,q1⟩=>test_link (thn (hb pins s1 σ H1 _ I1 q1) fun u s2 ⟨y,H2,I2,r2,q2⟩ =>
  thn (ho pins s2 σ H2 x y v u _ I2 r1 r2 q2) fun d s3 ⟨z,H3,I3,r3,k,e,q3⟩=>?_)) hm
 subst e;cases r3;refine wpAny_truthy_bool ?_;cases k with
 |false =>
  obtain ⟨k',e',q'⟩:=q3;cases e';exact ite_ff ⟨H3,I3,q'⟩
 |true =>
  refine ite_tt (test_last (thn (hc pins s3 σ H3 _ I3 q3) fun w' s4 ⟨z',H4,I4,r4,q4⟩=>thn (ho' pins s4 σ H4 y z' u w' _ I4 r2 r4 q4) fun d' s5 ⟨z2,H5,I5,r5,k2,e2,q5⟩=>?_));subst e2;cases r5;exact wpAny_truthy_bool ⟨H5,I5,q5⟩
theorem zeN:(sizeLine:Nat)<2 ^ 63:=by rw [sizeLine_eq];decide
theorem zir:OpR X (binaryOp .Add) (fun x y H Q=>∃ i j,x=.str i/\y=.str j/\i.length+j.length<=sizeLine/\Q (.str (i++j)) H):=by
 intro pins s σ H x y v u Q I rx ry h;obtain ⟨i,j,rfl,rfl,hz,q⟩:=h;obtain ⟨t,rfl⟩:=rx;obtain ⟨t',rfl⟩:=ry;exact add_str (fun t' tk=>⟨.str (i++j),H,I.tok _,⟨_,rfl⟩,q⟩) hz
theorem zcF {x:V}{us:List Value}(r:Vals [x] us):∃ u,us=[u]/\RelV x u:=by
 cases r with
 |cons r1 r2=>cases r2;exact ⟨_,rfl,r1⟩
theorem zsr {x y:V}{us:List Value}(r:Vals [x,y] us):∃ u w',us=[u,w']/\RelV x u/\RelV y w':=by
 cases r with
 |cons r1 r2 =>
  cases r2 with
  |cons r3 r4=>cases r4;exact ⟨_,_,rfl,r1,r3⟩
theorem zn5:zaN X (.builtin "abs") (fun xs H Q=>∃ i,xs=[.int i]/\Q (.int (if i<0 then -i else i)) H):=by
 intro pins s σ H xs us Q I r h;obtain ⟨i,rfl,q⟩:=h;obtain ⟨u,rfl,t,rfl⟩:=zcF r;exact call_abs_int fun u tk=>⟨.int (if i<0 then -i else i),H,I.tok _,⟨_,rfl⟩,q⟩
theorem zli (hc:X.calm=true):zaN X (.builtin "min") (fun xs H Q=>∃ i j,xs=[.int i,.int j]/\Q (.int (if j<i then j else i)) H):=by
 intro pins s σ H xs us Q I r h;obtain ⟨i,j,rfl,q⟩:=h;obtain ⟨u,w',rfl,⟨t,rfl⟩,⟨t',rfl⟩⟩:=zsr r;refine min_two_ints (I.ok.hd hc) fun h' tk k=>⟨_,H,I.kept k,?_,q⟩;by_cases hj:j<i
 ·rw [if_pos hj,if_pos hj];exact ⟨_,rfl⟩
 ·rw [if_neg hj,if_neg hj];exact ⟨_,rfl⟩
end
structure ObjM (h:Heap)(x dx C:Addr)(mA:Str->Option Value):Prop where
 obj:h.get? x=some (W.instObj C dx)
 ns:h.Ns1 dx mA
 ne:dx≠x
theorem zlr {h:Heap}{dx:Addr}{mA:Str->Option Value}(n:h.Ns1 dx mA):∃ od,h.get? dx=some od/\∀ name,W.lookIn name od=some (mA name):=by
 obtain ⟨o,es,ep,ho,hd,hk,_,hm⟩:=n;refine ⟨o,ho,fun name=>?_⟩;have e:=hm name;unfold nsFind findBy at e;rw [<- Array.find?_toList] at e;unfold W.lookIn;rw [hd];dsimp only
 split
 ·rename_i y q;rw [q] at e;exact congrArg some e
 ·rename_i q;rw [q] at e;have a:es.toList.any (·.refKey)=false:=by
   rw [List.any_eq_false];intro y hy;obtain ⟨z,t,hkey⟩:=hk y (Array.mem_toList_iff.mp hy);simp [DictEntry.refKey,hkey]
  have a':¬ es.toList.any (·.refKey)=true:=by rw [a];exact Bool.false_ne_true
  rw [if_neg a'];exact congrArg some e
theorem ObjM.look {h:Heap}{x dx C:Addr}{mA:Str->Option Value}(I:ObjM h x dx C mA):∃ od,W.InstAt h x (W.instObj C dx) C (some od)/\∀ name,W.lookIn name od=some (mA name) :=
 let ⟨od,ho,hl⟩:=zlr I.ns
 ⟨od,⟨I.obj,rfl,rfl,ho⟩,hl⟩
section
variable {prog:Program}{w:World}{A:Around}{E:Value->Shared->Prop}{s:Shared}{K:W.Frag}{x dx C f:Addr}{mA:Str->Option Value}{name:Str}{v:Value}
theorem zpo {expr:Bool}{Q:Value->Shared->Prop}(X:K.In s.heap)(I:ObjM s.heap x dx C mA)(hg:W.plainGet K C name=true)(hh:W.hasDictIn K C=true)
 (ha:W.findIn K (.ref C) name=some none) (hv:mA name=some v) (hv':W.handedIn v=true) (h:Q v { s with toks:=s.toks+1 }) :
 wpAny (model prog w) A (getAttr (.ref x) name expr) Q E s:=by
 obtain ⟨od,J,hl⟩:=I.look;exact W.get_value X J (W.plainGet_of hg).1 (W.findObj_own hh ha rfl (by rw [hl,hv])) hv' h
theorem zpS {ns:List Str}{Q:Unit->Shared->Prop}(X:K.In s.heap)(I:ObjM s.heap x dx C mA)
 (hs:W.findIn K (.ref C) "__setattr__" = some (some (.builtin "object.__setattr__"))) (hp:W.plainOver K C=true) (ht:W.takerIn K C name=some none) (hh:W.hasDictIn K C=true)
 (hw:PySem.Within mA ns) (hsz:ns.length<=sizeLine)
 (h:∀ h',ObjM h' x dx C (fun y=>if y=name then some v else mA y)->Heap.SameBut dx s.heap h'->Q () { s with heap:=h',toks:=s.toks+2 }) :
 wpAny (model prog w) A (setAttr (.ref x) name v) Q E s:=by
 obtain ⟨od,J,hl⟩:=I.look;refine W.set_plain X J hs (W.osa_open (s:={ s with toks:=s.toks+1 }) (r:=none) X J hp ht fun b=>?_);obtain ⟨cd,hc,hd'⟩:=W.any_some hh;have hx:s.heap.get? x=some ⟨.ref C,some dx,.plain,#[]⟩:=I.obj;refine wpAny_bind (wpAny_pure (wpAny_bind (wpAny_bind (wpAny_loadPart hx (wpAny_bind (W.Looks.here (s:={ s with toks:=s.toks+1 }) (W.looks_clsIn X hc) ?_))))));rw [hd'];refine wpAny_pure (a:=some dx) (wpAny_bind (wpAny_pure (wpAny_bind ?_)));refine wpAny_nsSet1 (s:={ s with toks:=s.toks+1 }) I.ns fun h' hn2 hs2=>?_;obtain ⟨oD,esD,epD,hoD,hdD,hcD⟩:=hn2.count (PySem.Within.cons name v hw);refine wpAny_bind (wpAny_lookBehind hoD (by rw [hdD];exact pastItsLine_dict (Nat.le_trans hcD (by rw [List.length_cons];omega))) ?_);exact wpAny_pure (h _ ⟨(hs2.2 _ (Ne.symm I.ne)).trans I.obj,hn2,I.ne⟩ hs2)
theorem zmj {R:Result->Shared->Prop}{vs:List Value}{kw:List (Str×Value)}(X:K.In s.heap)(hm:W.makesIn K C=true)
 (hi:W.findIn K (.ref C) "__init__" = some (some (.ref f))) (hf:W.typeIn K (.ref f)=some (.type "function"))
 (h:codeAny (model prog w) (A.under (.builtin "type.__call__" ⟨.ref C::vs,kw⟩)) (.call (.ref f) ⟨.ref (s.heap.objs.size+1)::vs,kw⟩) (W.InitBack (s.heap.objs.size+1) R)
  { s with heap:=(s.heap.push W.emptyDict).push (W.instObj C s.heap.objs.size) }) :
 codeAny (model prog w) A (.call (.ref C) ⟨vs,kw⟩) R s:=by
 obtain ⟨hh,g,d,t,os⟩:=s;exact W.make_core (W.makes_of X hm) (W.looks_findIn X hi) (fun self=>W.bind_fn X self hf) (.inl rfl) h
end
def putF (f:Str)(v:V):List (Str×V)->List (Str×V)
 | []=>[(f,v)]
 | (g,x)::r=>if g=f then (g,v)::r else (g,x)::putF f v r
theorem zev (f g:Str)(v:V):∀ fs:List (Str×V),(putF f v fs).lookup g=if g=f then some v else fs.lookup g
 | []=>by
  show List.lookup g [(f,v)]=_;by_cases h:g=f
  ·have hb:(g == f)=true:=beq_iff_eq.mpr h;simp only [List.lookup,hb,if_pos h]
  ·have hb:(g == f)=false:=beq_eq_false_iff_ne.mpr h;simp only [List.lookup,hb,if_neg h]
 | (k,x)::r=>by
  have ih:=zev f g v r;rw [show putF f v ((k,x)::r)=(if k=f then (k,v)::r else (k,x)::putF f v r) from rfl];by_cases hk:k=f
  ·rw [if_pos hk];by_cases h:g=k
   ·have hb:(g == k)=true:=beq_iff_eq.mpr h;simp only [List.lookup,hb,if_pos (h.trans hk)]
   ·have hb:(g == k)=false:=beq_eq_false_iff_ne.mpr h;simp only [List.lookup,hb,if_neg (fun e:g=f=>h (e.trans hk.symm))]
  ·rw [if_neg hk];by_cases h:g=k
   ·have hb:(g == k)=true:=beq_iff_eq.mpr h;simp only [List.lookup,hb,if_neg (fun e:g=f=>hk (h.symm.trans e))]
   ·have hb:(g == k)=false:=beq_eq_false_iff_ne.mpr h;simp only [List.lookup,hb];exact ih
theorem zeh (f:Str)(v:V):∀ fs:List (Str×V),f∈(putF f v fs).map (·.1)/\∀ g,g∈fs.map (·.1)->g∈(putF f v fs).map (·.1)
 | []=>⟨by simp [putF],fun g h=>by simp at h⟩
 | (k,x)::r=>by
  obtain ⟨i1,i2⟩:=zeh f v r;rw [show putF f v ((k,x)::r)=(if k=f then (k,v)::r else (k,x)::putF f v r) from rfl];by_cases hk:k=f
  ·rw [if_pos hk];subst hk;exact ⟨by simp,fun g h=>by simpa using h⟩
  ·rw [if_neg hk];refine ⟨?_,fun g h=>?_⟩
   ·rw [List.map_cons];exact Zqm _ i1
   ·rw [List.map_cons] at h ⊢;rcases List.mem_cons.mp h with e|e
    ·exact List.mem_cons.mpr (.inl e)
    ·exact Zqm _ (i2 g e)
theorem zeq (f:Str)(v:V):∀ fs:List (Str×V),(putF f v fs).length<=fs.length+1
 | []=>by simp [putF]
 | (k,x)::r=>by
  have ih:=zeq f v r;rw [show putF f v ((k,x)::r)=(if k=f then (k,v)::r else (k,x)::putF f v r) from rfl];by_cases hk:k=f
  ·rw [if_pos hk,List.length_cons,List.length_cons];omega
  ·rw [if_neg hk,List.length_cons,List.length_cons];omega
theorem RelO.some_of {v:V}{o:Option Value}(r:RelO (some v) o):∃ u,o=some u/\RelV v u:=by
 cases o with
 |none=>exact (show False from r).elim
 |some u=>exact ⟨u,rfl,r⟩
theorem zjK {v:V}{u:Value}(r:RelV v u):W.handedIn u=true:=by
 cases v with
 |non=>cases (show u=Value.none from r);rfl
 |bl b=>cases (show u=Value.bool b from r);rfl
 |int i=>obtain ⟨t,e⟩:=(show ∃ t,u=Value.int i t from r);cases e;rfl
 |str x=>obtain ⟨t,e⟩:=(show ∃ t,u=Value.str x t from r);cases e;rfl
 |byt b=>obtain ⟨t,e⟩:=(show ∃ t,u=Value.bytes b t from r);cases e;rfl
 |flt b=>obtain ⟨t,e⟩:=(show ∃ t,u=Value.float b t from r);cases e;rfl
 |ref a=>cases (show u=Value.ref a from r);rfl
 |ty n=>cases (show u=Value.type n from r);rfl
section
variable {P:Program}{w:World}{H H':Hp}{h h':Heap}{a C dx:Addr}{fs fs':List (Str×V)}
theorem zfn (hok:HOk P w H h)(e:H a=some (.ins C dx fs)):∃ mA,ObjM h a dx C mA/\(∀ f,RelO (fs.lookup f) (mA f))/\PySem.Within mA (fs.map (·.1))/\fs.length<=1000/\H dx=some (.own a):=by
 obtain ⟨d,z,ne,ob,mA,n,r,q⟩:=(show zbg P w H h a (.ins C dx fs) from hok a _ e);exact ⟨mA,⟨ob,n,ne⟩,r,q,z,d⟩
end
structure Cls (K:W.Frag)(C:Addr):Prop where
 pg:W.plainGet K C Str.empty=true
 hd:W.hasDictIn K C=true
 po:W.plainOver K C=true
 sa:W.findIn K (.ref C) "__setattr__" = some (some (.builtin "object.__setattr__"))
theorem Cls.get {K:W.Frag}{C:Addr}(c:Cls K C)(f:Str):W.plainGet K C f=true:=c.pg
def zd0 (K:W.Frag)(C:Addr)(f:Str):Prop:=W.findIn K (.ref C) f=some none
theorem zd0.taker {K:W.Frag}{C:Addr}{f:Str}(n:zd0 K C f):W.takerIn K C f=some none:=by
 unfold W.takerIn;rw [show W.findIn K (.ref C) f=some none from n];rfl
section
variable {X:Cx}{pins:List (Addr×Obj)}{σ : St}{H:Hp}{s:Shared}{a C dx:Addr}{fs:List (Str×V)}{f:Str}{v:V}{A:Around}{E:Value->Shared->Prop}
theorem zig {b:Bool}{Q:Value->Shared->Prop}(I:Inv X pins σ H s)(e:H a=some (.ins C dx fs))(c:Cls X.K C)(n:zd0 X.K C f)(l:fs.lookup f=some v)
 (h:∀ u s',Inv X pins σ H s'->RelV v u->Q u s'):wpAny (model X.prog X.w) A (getAttr (.ref a) f b) Q E s:=by
 obtain ⟨mA,O,r,_,_,_⟩:=zfn I.hok e;obtain ⟨u,hu,ru⟩:=RelO.some_of (v:=v) (o:=mA f) (by rw [<- l];exact r f);exact zpo I.kIn O (c.get f) c.hd n hu (zjK ru) (h u _ (I.tok _) ru)
theorem ziP {y:V}{u:Value}{Q:Unit->Shared->Prop}(I:Inv X pins σ H s)(e:H a=some (.ins C dx fs))(c:Cls X.K C)(n:zd0 X.K C f)(hl:fs.length<1000)(ry:RelV y u)
 (h:∀ s',Inv X pins σ (upd H a (.ins C dx (putF f y fs))) s'->Q () s'):wpAny (model X.prog X.w) A (setAttr (.ref a) f u) Q E s:=by
 obtain ⟨mA,O,r,wi,_,ho⟩:=zfn I.hok e;have hz:(fs.map (·.1)).length<=sizeLine:=by rw [Zql,sizeLine_eq];omega
 refine zpS I.kIn O c.sa c.po n.taker c.hd wi hz fun h' O' sb=>h _ ?_;have hd:∃ o,h'.get? dx=some o:=let ⟨o,_,_,e',_⟩:=O'.ns;⟨o,e'⟩
 refine I.write (x:=a) (e:=dx) (by rw [e];exact True.intro) (.inr ho) (fun b q hb z=>(sb.2 b hb).trans z) hd ?_;refine ⟨by rw [zaj O.ne];exact ho,?_,O.ne,O'.obj,_,O'.ns,fun g=>?_,fun g hg=>?_⟩
 ·have:=zeq f y fs;omega
 ·show RelO ((putF f y fs).lookup g) (if g=f then some u else mA g);rw [zev];by_cases q:g=f
  ·rw [if_pos q,if_pos q];exact ry
  ·rw [if_neg q,if_neg q];exact r g
 ·by_cases q:g=f
  ·rw [q];exact (zeh f y fs).1
  ·refine (zeh f y fs).2 g (wi g fun z=>hg ?_);show (if g=f then some u else mA g)=none;rw [if_neg q];exact z
theorem Inv.made (I:Inv X pins σ H s):Inv X pins σ (upd (upd H s.heap.objs.size (.own (s.heap.objs.size+1))) (s.heap.objs.size+1) (.ins C s.heap.objs.size []))
 { s with heap:=(s.heap.push W.emptyDict).push (W.instObj C s.heap.objs.size) }:=by
 have e1:(s.heap.push W.emptyDict).get? s.heap.objs.size=some W.emptyDict:=Heap.get?_push_size s.heap rfl;have e2:((s.heap.push W.emptyDict).push (W.instObj C s.heap.objs.size)).get? (s.heap.objs.size+1)=some (W.instObj C s.heap.objs.size):=by
  have:=Heap.get?_push_size (s.heap.push W.emptyDict) (o:=W.instObj C s.heap.objs.size) rfl
  rwa [Heap.size_push] at this
 have e3:(s.heap.push W.emptyDict).Ns s.heap.objs.size (fun _=>none):=⟨W.emptyDict,#[],_,e1,rfl,(fun e he=>absurd he (by simp)),fun _=>rfl⟩;have I1:=I.laid (a:=s.heap.objs.size) (o:=.own (s.heap.objs.size+1)) (h':=s.heap.push W.emptyDict) (t':=s.toks) (fun b u q=>Heap.get?_push_of_some _ q) (Nat.le_refl _) ⟨_,e1⟩;refine I1.laid (a:=s.heap.objs.size+1) (o:=.ins C s.heap.objs.size []) (t':=s.toks) (fun b u q=>Heap.get?_push_of_some _ q) (Nat.le_of_eq (Heap.size_push _ _)) ?_;have ne:s.heap.objs.size≠s.heap.objs.size+1:=Nat.ne_of_lt (Nat.lt_succ_self _);refine ⟨by rw [zaj ne,zai],Nat.zero_le _,ne,e2,fun _=>none,(Heap.Ns1.of_empty e3).at fun o q=>Heap.get?_push_of_some _ q,fun _=>True.intro,fun y hy=>absurd rfl hy⟩
theorem zoH {prog:Program}{w:World}{env:Env}{e:Expr}{f:Str}{pos:Pos}{s:Shared}{Q:Value->Shared->Prop}(hb:attributeBase e f env (eval e env)=eval e env)
 (h:wpAny (model prog w) A (eval e env) (fun o s₁=>wpAny (model prog w) A (getAttr o f true) Q E s₁) E s):wpAny (model prog w) A (eval (.Attribute e f pos) env) Q E s :=
 Attribute_any_ h (by rw [arm_eval_Attribute,hb])
end
def tFld (K:W.Frag)(ta:TE)(f:Str):TE:=fun σ H Q=>ta σ H fun x H1=>∃ a C dx fs v,x=.ref a/\H1 a=some (.ins C dx fs)/\Cls K C/\zd0 K C f/\fs.lookup f=some v/\Q v H1
def sFld (K:W.Frag)(ta tv:TE)(f:Str):TS:=fun D σ H=>tv σ H fun y H1=>ta σ H1 fun x H2=>∃ a C dx fs,x=.ref a/\H2 a=some (.ins C dx fs)/\Cls K C/\zd0 K C f/\fs.length<1000 /\
 D.nx σ (upd H2 a (.ins C dx (putF f y fs)))
section
variable {X:Cx}{o e value:Expr}{f:Str}{pos pos' tpos:Pos}{ta tv:TE}
theorem zob (he:PE X e ta)(hb:attributeBase e f X.env (eval e X.env)=eval e X.env):PE X (.Attribute e f pos) (tFld X.K ta f):=by
 intro pins s σ H Q I h;refine zoH hb (thn (he pins s σ H _ I h) fun u s1 ⟨x,H1,I1,rx,a,C,dx,fs,v,ex,ea,c,n,l,q⟩=>?_);subst ex;obtain rfl:u=Value.ref a:=rx;exact zig I1 ea c n l fun u' s2 I2 ru=>⟨v,H1,I2,ru,q⟩
theorem znO (ha:PE X o ta)(hv:PE X value tv)(hs:swapsWith value (some (.Attribute o f pos')) pos.line X.env=pure false):PS X (.Assign [.Attribute o f pos'] value pos) (sFld X.K ta tv f):=by
 intro pins s σ H D I h;refine plainObj_wpAny_Assign_Attribute (thn (hv pins s σ H _ I h) fun u s1 ⟨y,H1,I1,ry,q⟩=>thn (ha pins s1 σ H1 _ I1 q) fun ov s2 ⟨x,H2,I2,rx,a,C,dx,fs,ex,ea,c,n,l,q2⟩=>?_) hs;subst ex;obtain rfl:ov=Value.ref a:=rx;exact ziP I2 ea c n l ry fun s3 I3=>⟨σ,_,I3,q2⟩
end
section
variable {X:Cx}{pins:List (Addr×Obj)}{σ : St}{H:Hp}{s:Shared}{A:Around}{E:Value->Shared->Prop}{Q:Value->Shared->Prop}{c:Value}{b:Bool}
inductive TyOf (K:W.Frag)(H:Hp):V->Value->Prop where
 |non:TyOf K H .non (.type "NoneType")
 |bl (x:Bool):TyOf K H (.bl x) (.type "bool")
 |int (i:Int):TyOf K H (.int i) (.type "int")
 |str (x:Str):TyOf K H (.str x) (.type "str")
 |flt (x:UInt64):TyOf K H (.flt x) (.type "float")
 |lst {a:Addr} {xs:List V} (e:H a=some (.lst xs)):TyOf K H (.ref a) (.type "list")
 |frz {a:Addr} {o:Obj} {xs:List V} (e:H a=some (.frz o (.lst xs))):TyOf K H (.ref a) (.type "list")
 |tup {a:Addr} {xs:List V} (e:H a=some (.tup xs)):TyOf K H (.ref a) (.type "tuple")
 |dK {a:Addr} {kvs:List (Key×V)} (e:H a=some (.dK kvs)):TyOf K H (.ref a) (.type "dict")
 |dT {a:Addr} {kvs:List (List Key×V)} (e:H a=some (.dT kvs)):TyOf K H (.ref a) (.type "dict")
 |ins {a C dx:Addr} {fs:List (Str×V)} (e:H a=some (.ins C dx fs)) (cl:Cls K C) (ha:W.findIn K (.ref C) "__class__" = some (some (.builtin "object.__class__")))
  (hn:W.specialIn K (.builtin "object.__class__") "__get__" = some (some (.builtin "getset_descriptor.__get__"))) (htk:W.takesIn K (.builtin "object.__class__")=some true)
  (hm:W.mroIn K C (.type "object")=some true):TyOf K H (.ref a) (.ref C)
theorem zkN {x:V}{u t:Value}(I:Inv X pins σ H s)(rx:RelV x u)(ty:TyOf X.K H x t)(e:W.kitOne X.K t c=some b)(h:∀ tk,Q (.bool b) { s with toks:=tk }) :
 wpAny (model X.prog X.w) A (call (.builtin "isinstance") [u,c]) Q E s:=by
 cases ty with
 |non=>cases (show u=Value.none from rx);exact W.kia_one W.kitx_none I.kIn True.intro e (fun z=>nomatch z) h
 |bl y=>cases (show u=Value.bool y from rx);exact W.kia_one W.kitx_bool I.kIn True.intro e (fun z=>nomatch z) h
 |int i=>obtain ⟨t,q⟩:=(show ∃ t,u=Value.int i t from rx);cases q;exact W.kia_one W.kitx_int I.kIn True.intro e (fun z=>nomatch z) h
 |str y=>obtain ⟨t,q⟩:=(show ∃ t,u=Value.str y t from rx);cases q;exact W.kia_one W.kitx_str I.kIn True.intro e (fun z=>nomatch z) h
 |flt y=>obtain ⟨t,q⟩:=(show ∃ t,u=Value.float y t from rx);cases q;exact W.kia_one W.kitx_float I.kIn True.intro e (fun z=>nomatch z) h
 | @lst a xs ea =>
  cases (show u=Value.ref a from rx);obtain ⟨_,_,n,_,h1⟩:=(show zbg X.prog X.w H s.heap a (.lst xs) from I.hok a _ ea);exact W.kia_one W.kitx_list I.kIn ⟨_,h1,rfl⟩ e (fun z=>nomatch z) h
 | @frz a ob xs ea =>
  cases (show u=Value.ref a from rx);obtain ⟨_,_,_,n,_,h1⟩:=(show zbg X.prog X.w H s.heap a (.frz ob (.lst xs)) from I.hok a _ ea);exact W.kia_one W.kitx_list I.kIn ⟨_,h1,rfl⟩ e (fun z=>nomatch z) h
 | @tup a xs ea =>
  cases (show u=Value.ref a from rx);obtain ⟨_,_,_,p⟩:=(show zbg X.prog X.w H s.heap a (.tup xs) from I.hok a _ ea);obtain ⟨o,h1,h2,_⟩:=p;exact W.kia_one W.kitx_tuple I.kIn ⟨o,h1,h2⟩ e (fun z=>nomatch z) h
 | @dK a kvs ea =>
  cases (show u=Value.ref a from rx);obtain ⟨_,_,vs,_,p⟩:=(show zbg X.prog X.w H s.heap a (.dK kvs) from I.hok a _ ea);obtain ⟨o,es,ep,h1,h2,_⟩:=p;exact W.kia_one W.kitx_dict I.kIn ⟨o,h1,h2.1⟩ e (fun z=>nomatch z) h
 | @dT a kvs ea =>
  cases (show u=Value.ref a from rx);obtain ⟨_,_,xs,_,o,es,ep,h1,h2,_⟩:=(show zbg X.prog X.w H s.heap a (.dT kvs) from I.hok a _ ea);exact W.kia_one W.kitx_dict I.kIn ⟨o,h1,h2.1⟩ e (fun z=>nomatch z) h
 | @ins a C dx fs ea cl ha hn htk hm =>
  cases (show u=Value.ref a from rx);obtain ⟨mA,O,_⟩:=zfn I.hok ea;obtain ⟨od,J,_⟩:=O.look;exact W.kia_one (W.kitx_own (cl.get _) cl.hd ha hn htk hm) I.kIn J e (fun z=>nomatch z) h
end
structure Room (k:Nat)(A:Around):Prop where
 hd:A.handled=none
 dp:A.depth+3*k+5<recursionLimit
 un:A.units+16*k+200<cLine
theorem Room.mono {j k:Nat}{A:Around}(r:Room k A)(h:j<=k):Room j A:=⟨r.hd,by have:=r.dp;omega,by have:=r.un;omega⟩
theorem Room.deeper {k:Nat}{A:Around}(r:Room (k+1) A)(env:Env):Room k (A.deeper env) :=
 ⟨r.hd,by have:=r.dp;show A.depth+1+3*k+5<_;omega,by have:=r.un;show A.units+3+16*k+200<_;omega⟩
theorem ziC {A:Around}{C:Addr}{us:List Value}{kw:List (Str×Value)}:(A.under (.builtin "type.__call__" ⟨.ref C::us,kw⟩)).depth=A.depth+1:=by
 first|rfl|simp [Around.under,Code.weight,Code.isCreation,Code.isGuard,Code.isCaller,Code.frames,Code.isFrame,guardIds]
theorem ziS {A:Around}{C:Addr}{us:List Value}{kw:List (Str×Value)}:(A.under (.builtin "type.__call__" ⟨.ref C::us,kw⟩)).units=A.units+1:=by
 first|rfl|simp [Around.under,Code.cUnits,Code.frames,Code.isFrame]
theorem Room.make {k:Nat}{A:Around}(r:Room (k+1) A)(C:Addr)(us:List Value)(kw:List (Str×Value)):Room k (A.under (.builtin "type.__call__" ⟨.ref C::us,kw⟩)) :=
 ⟨r.hd,by have:=r.dp;rw [ziC];omega,by have:=r.un;rw [ziS];omega⟩
theorem Room.depth {k:Nat}{A:Around}(r:Room k A):A.depth<recursionLimit:=by have:=r.dp;omega
theorem Room.units {k:Nat}{A:Around}(r:Room k A):A.units+64<cLine:=by have:=r.un;omega
def tNil:TA:=fun _ H Q=>Q [] H
def zrh (ta:TE)(tr:TA):TA:=fun σ H Q=>ta σ H fun x H1=>tr σ H1 fun xs H2=>Q (x::xs) H2
section
variable {X:Cx}{e:Expr}{es:List Expr}{te:TE}{t:TA}{pos:Pos}
theorem zdy:PA X [] tNil:=fun _ _ _ _ H Q I h=>Calls.spliced_nil ⟨[],H,I,.nil,h⟩
theorem zcz (ha:PE X e te)(hr:PA X es t)(hs:starEach (e::es) X.env=(false,eval e X.env)::starEach es X.env:=by rfl):PA X (e::es) (zrh te t):=by
 intro pos pins s σ H Q I h;rw [hs];show wpAny _ _ (spliced ((false,eval e X.env)::backTo pos (starEach es X.env))) _ _ s;refine Calls.spliced_cons (thn (ha pins s σ H _ I h) fun u s1 ⟨x,H1,I1,r1,q1⟩=>?_);exact thn (hr pos pins s1 σ H1 _ I1 q1) fun us s2 ⟨xs,H2,I2,r2,q2⟩=>⟨x::xs,H2,I2,.cons r1 r2,q2⟩
def tTup (t:TA):TE:=fun σ H Q=>t σ H fun xs H1=>xs.length<=sizeLine/\∀ p,H1 p=none->Q (.ref p) (upd H1 p (.tup xs))
def tLst (t:TA):TE:=fun σ H Q=>t σ H fun xs H1=>xs.length<=sizeLine/\∀ p,H1 p=none->Q (.ref p) (upd H1 p (.lst xs))
theorem zsq {x1}(h:PA X es t):PE X (.Tuple es x1 pos) (tTup t):=by
 intro pins s σ H Q I hq;refine wpAny_Tuple_spliced (thn (h pos pins s σ H _ I hq) fun us s1 ⟨xs,H1,I1,r,z,q⟩=>⟨by rw [<- r.length];exact z,?_⟩);have hf:H1 s1.heap.objs.size=none:=I1.hok.fresh (Nat.le_refl _);refine ⟨.ref s1.heap.objs.size,upd H1 s1.heap.objs.size (.tup xs),I1.laid (t':=s1.toks) (fun b u e=>Heap.get?_push_of_some _ e) (Nat.le_refl _) ?_,rfl,q _ hf⟩;exact ⟨⟨z,⟨_,Heap.get?_push_size _ rfl,rfl⟩⟩,us,r,⟨_,Heap.get?_push_size _ rfl,rfl,_,rfl⟩⟩
theorem zop (h:PA X es t):PE X (.List es pos) (tLst t):=by
 intro pins s σ H Q I hq;refine wpAny_List_spliced (thn (h pos pins s σ H _ I hq) fun us s1 ⟨xs,H1,I1,r,z,q⟩=>⟨by rw [<- r.length];exact z,?_⟩);have hf:H1 s1.heap.objs.size=none:=I1.hok.fresh (Nat.le_refl _);refine ⟨.ref s1.heap.objs.size,upd H1 s1.heap.objs.size (.lst xs),I1.laid (t':=s1.toks) (fun b u e=>Heap.get?_push_of_some _ e) (Nat.le_refl _) ?_,rfl,q _ hf⟩;exact ⟨z,us,0,r,Heap.get?_push_size _ rfl⟩
end
abbrev Sp:=List V->Hp->VK->XK->Prop
abbrev CXT:=List Env->Hp->Shared->XK->Value->Shared->Prop
structure Env0 (P:Program)(w:World)(K:W.Frag)(mg:Str->Option Value)(base:Heap)(A:Around)(outer:List Env)(s:Shared)(H:Hp):Prop where
 frames:A.frames=some outer
 mod:Mod K mg base
 bs:∀ b o,base.get? b=some o->s.heap.get? b=some o/\H b=none
 bsz:base.objs.size<=s.heap.objs.size
 funs:s.heap.FunFrames base outer
 frf:∀ b∈frs outer,H b=none
 hok:HOk P w H s.heap
 bare:AllBare s.gens
def CE (outer:List Env)(P:Program)(w:World)(H:Hp)(s:Shared)(Q:VK)(u:Value)(s':Shared):Prop :=
 ∃ v H',s'.os=s.os/\AllBare s'.gens/\Un (frs outer) [] H H' s.heap s'.heap/\HOk P w H' s'.heap/\RelV v u/\Q v H'
def CR (CX:CXT)(outer:List Env)(P:Program)(w:World)(H:Hp)(s:Shared)(Q:VK)(E:XK)(r:Result)(s':Shared):Prop :=
 match r with
 | .ok (.ret u)=>CE outer P w H s Q u s'
 | .ok _=>False
 | .error e=>CX outer H s E e s'
structure FnOk (P:Program)(w:World)(K:W.Frag)(mg:Str->Option Value)(base:Heap)(CX:CXT)(k:Nat)(f:Addr)(fd:FuncData)(ps:List Str)(sp:Sp):Prop where
 len:∀ vs H Q E,sp vs H Q E->vs.length=ps.length
 run:∀ (A:Around) (outer:List Env) (s:Shared) (H:Hp) (args:Args) (us:List Value) (vs:List V) (Q:VK) (E:XK),Room k A->Env0 P w K mg base A outer s H->BindsTo s fd args (ps.zip us)->Vals vs us->sp vs H Q E ->
  codeAny (model P w) A (.call (.ref f) args) (CR CX outer P w H s Q E) s
theorem FnOk.mono {P:Program}{w:World}{K:W.Frag}{mg:Str->Option Value}{base:Heap}{CX:CXT}{j k:Nat}{f:Addr}{fd:FuncData}{ps:List Str}{sp:Sp}(F:FnOk P w K mg base CX j f fd ps sp)(h:j<=k) :
 FnOk P w K mg base CX k f fd ps sp:=⟨F.len,fun A outer s H args us vs Q E hr=>F.run A outer s H args us vs Q E (hr.mono h)⟩
theorem FnOk.imp {P:Program}{w:World}{K:W.Frag}{mg:Str->Option Value}{base:Heap}{CX:CXT}{k:Nat}{f:Addr}{fd:FuncData}{ps:List Str}{sp sp':Sp}(F:FnOk P w K mg base CX k f fd ps sp)
 (h:∀ vs H Q E,sp' vs H Q E->sp vs H Q E):FnOk P w K mg base CX k f fd ps sp' :=
 ⟨fun vs H Q E q=>F.len vs H Q E (h _ _ _ _ q),fun A outer s H args us vs Q E hr he hb hv hs=>F.run A outer s H args us vs Q E hr he hb hv (h _ _ _ _ hs)⟩
theorem Env0.make {P:Program}{w:World}{K:W.Frag}{mg:Str->Option Value}{base:Heap}{A:Around}{outer:List Env}{s:Shared}{H:Hp}(e:Env0 P w K mg base A outer s H)(C:Addr)(us:List Value)(kw:List (Str×Value)) :
 Env0 P w K mg base (A.under (.builtin "type.__call__" ⟨.ref C::us,kw⟩)) outer s H:=⟨by first|exact e.frames|(simpa [Around.under,Code.envs,Code.isFrame,pushEnvs] using e.frames),e.mod,e.bs,e.bsz,e.funs,e.frf,e.hok,e.bare⟩
section
variable {X:Cx}{pins:List (Addr×Obj)}{σ : St}{H:Hp}{s s':Shared}
theorem Inv.env0 (I:Inv X pins σ H s):Env0 X.prog X.w X.K X.mg X.base X.A X.stack s H :=
 ⟨I.ok.frames,I.ok.mod,I.bs,Nat.le_trans I.ok.bsz I.sz,I.stack,I.stkFree,I.hok,I.bare⟩
theorem Inv.after {Q:VK}{u:Value}(I:Inv X pins σ H s)(h:CE X.stack X.prog X.w H s Q u s'):EP X pins σ Q u s':=by
 obtain ⟨v,H',os,bare,un,hok,r,q⟩:=h;obtain ⟨hh,g,d,t,os'⟩:=s';obtain rfl:os'=s.os:=os;exact ⟨v,H',I.call (h':=hh) (g':=g) (d':=d) (t':=t) (ch:=[]) un hok bare (fun b z=>absurd z (by simp)),r,q⟩
end
def zq4 (sp:Sp)(dvs:List V)(E:XK)(t:TA):TE:=fun σ H Q=>t σ H fun vs H1=>sp (vs++dvs) H1 Q E
def tMake (C:Addr)(sp:Sp)(dvs:List V)(E:XK)(t:TA):TE:=fun σ H Q=>t σ H fun vs H1=>∀ x dx,H1 x=none->H1 dx=none->dx≠x ->
 sp (.ref x::(vs++dvs)) (upd (upd H1 dx (.own x)) x (.ins C dx [])) (fun v H2=>v=.non/\Q (.ref x) H2) E
def zey (K:W.Frag)(fd:FuncData)(ps:List Str)(ds:List Value):Prop :=
 ∀ (s:Shared) (us:List Value),K.In s.heap->(us++ds).length=ps.length->BindsTo s fd ⟨us,[]⟩ (ps.zip (us++ds))
theorem zey.all {K:W.Frag}{fd:FuncData}{ps:List Str}(h:∀ us:List Value,us.length=ps.length->bindArgs fd ⟨us,[]⟩=pure (ps.zip us)):zey K fd ps []:=fun s us _ hl=>by
 rw [List.append_nil] at hl ⊢;exact .of_eq (h us hl)
def zgb (CX:CXT)(X:Cx)(E:XK):Prop:=∀ (pins:List (Addr×Obj)) (σ : St) (H:Hp) (s:Shared) (e:Value) (s':Shared),Inv X pins σ H s->CX X.stack H s E e s'->X.xe e s'
section
variable {X:Cx}{CX:CXT}{k:Nat}{f C:Addr}{fd:FuncData}{ps:List Str}{sp:Sp}{dvs:List V}{ds:List Value}{E:XK}{x m:Str}{p pos apos:Pos}{e o:Expr}{es:List Expr}{ta:TE}{t:TA}
theorem zqu {pins:List (Addr×Obj)}{σ : St}{H:Hp}{s:Shared}{Q:VK}{us:List Value}{vs:List V}(F:FnOk X.prog X.w X.K X.mg X.base CX k f fd ps sp)(hr:Room k X.A)(hb:zey X.K fd ps ds)(hd:Vals dvs ds)(hx:zgb CX X E)
 (I:Inv X pins σ H s) (r:Vals vs us) (h:sp (vs++dvs) H Q E):wpAny (model X.prog X.w) X.A (call (.ref f) us) (EP X pins σ Q) X.xe s:=by
 have r2:Vals (vs++dvs) (us++ds):=r.append hd;have hl:(us++ds).length=ps.length:=by rw [<- r2.length];exact F.len _ _ _ _ h
 refine wpAny_call (codeAny_mono (F.run X.A X.stack s H ⟨us,[]⟩ (us++ds) (vs++dvs) Q E hr I.env0 (hb s us I.kIn hl) r2 h) fun r s' hq=>?_);cases r with
 |error e=>exact hx pins σ H s e s' I hq
 |ok fl =>
  cases fl with
  |ret u=>exact I.after hq
  |next=>exact False.elim hq
  |brk=>exact False.elim hq
  |cont=>exact False.elim hq
theorem zpw (F:FnOk X.prog X.w X.K X.mg X.base CX k f fd ps sp)(hr:Room k X.A)(hg:Gl X x)(hm:X.mg x=some (.ref f))(hk:W.keepIn X.K (.ref f)=true)(hb:zey X.K fd ps ds)(hd:Vals dvs ds)(hx:zgb CX X E)
 (ha:PA X (e::es) t) (hdb:(x == ("__debug__" : Str))=false:=by decide) (he:starEach (e::es) X.env=(false,eval e X.env)::starEach es X.env:=by rfl) (hpl:(backTo pos (starEach es X.env)).any (·.1)=false:=by rfl) :
 PE X (.Call (.Name x p) (e::es) [] pos) (zq4 sp dvs E t):=by
 intro pins s σ H Q I h;refine wpAny_Call_Name_kw (zfw I hg hm ?_ hdb);refine W.callWith_K (h₀:=X.base) I.ok.mod.kin hk (thn (ha pos pins s σ H _ I h) fun us s1 ⟨vs,H1,I1,r,q⟩=>⟨I1.kIn,?_⟩) he hpl;exact zqu F hr hb hd hx I1 r q
structure Mk (K:W.Frag)(C f:Addr):Prop where
 makes:W.makesIn K C=true
 init:W.findIn K (.ref C) "__init__" = some (some (.ref f))
 fn:W.isFn K (.ref f)=true
 kp:W.keepIn K (.ref C)=true
theorem zmo {pins:List (Addr×Obj)}{σ : St}{H:Hp}{s:Shared}{Q:VK}{us:List Value}{vs:List V}(M:Mk X.K C f)(F:FnOk X.prog X.w X.K X.mg X.base CX k f fd ps sp)(hr:Room (k+1) X.A)(hb:zey X.K fd ps ds)(hd:Vals dvs ds)
 (hx:zgb CX X E) (I:Inv X pins σ H s) (r:Vals vs us)
 (h:∀ x dx,H x=none->H dx=none->dx≠x->sp (.ref x::(vs++dvs)) (upd (upd H dx (.own x)) x (.ins C dx [])) (fun v H2=>v=.non/\Q (.ref x) H2) E) :
 wpAny (model X.prog X.w) X.A (call (.ref C) us) (EP X pins σ Q) X.xe s:=by
 have hq:=h (s.heap.objs.size+1) s.heap.objs.size (I.hok.fresh (Nat.le_succ _)) (I.hok.fresh (Nat.le_refl _)) (Nat.ne_of_lt (Nat.lt_succ_self _));have I2:=Inv.made (C:=C) I;have r2:Vals (V.ref (s.heap.objs.size+1)::(vs++dvs)) (Value.ref (s.heap.objs.size+1)::(us++ds)):=.cons rfl (r.append hd);have hl:(Value.ref (s.heap.objs.size+1)::us++ds).length=ps.length:=by
  have e:=r2.length;rw [F.len _ _ _ _ hq] at e;exact e.symm
 refine wpAny_call (zmj (f:=f) I.kIn M.makes M.init (beq_iff_eq.mp M.fn) (codeAny_mono (F.run _ X.stack _ _ ⟨Value.ref (s.heap.objs.size+1)::us,[]⟩ (Value.ref (s.heap.objs.size+1)::(us++ds)) _ _ E (hr.make C us [])
  (I2.env0.make C us []) (hb _ (Value.ref (s.heap.objs.size+1)::us) I2.kIn hl) r2 hq) fun r s' hq'=>?_))
 cases r with
 |error e=>exact hx pins σ _ _ e s' I2 hq'
 |ok fl =>
  cases fl with
  |ret u =>
   obtain ⟨v,H',I3,rv,ev,q3⟩:=I2.after hq';subst ev;exact ⟨rv,⟨V.ref (s.heap.objs.size+1),H',I3,rfl,q3⟩⟩
  |next=>exact False.elim hq'
  |brk=>exact False.elim hq'
  |cont=>exact False.elim hq'
theorem zlJ (M:Mk X.K C f)(F:FnOk X.prog X.w X.K X.mg X.base CX k f fd ps sp)(hr:Room (k+1) X.A)(hg:Gl X x)(hm:X.mg x=some (.ref C))(hb:zey X.K fd ps ds)(hd:Vals dvs ds)(hx:zgb CX X E)
 (ha:PA X (e::es) t) (hdb:(x == ("__debug__" : Str))=false:=by decide) (he:starEach (e::es) X.env=(false,eval e X.env)::starEach es X.env:=by rfl) (hpl:(backTo pos (starEach es X.env)).any (·.1)=false:=by rfl) :
 PE X (.Call (.Name x p) (e::es) [] pos) (tMake C sp dvs E t):=by
 intro pins s σ H Q I h;refine wpAny_Call_Name_kw (zfw I hg hm ?_ hdb);refine W.callWith_K (h₀:=X.base) I.ok.mod.kin M.kp (thn (ha pos pins s σ H _ I h) fun us s1 ⟨vs,H1,I1,r,q⟩=>⟨I1.kIn,?_⟩) he hpl;exact zmo M F hr hb hd hx I1 r q
end
section
variable {X:Cx}{CX:CXT}{k:Nat}{f C:Addr}{fd:FuncData}{ps ks:List Str}{sp:Sp}{E:XK}{x m:Str}{p pos apos kpos:Pos}{e o:Expr}{es:List Expr}{kws:List Keyword}{te ta:TE}{t tk:TA}{nm:Option Str}
variable {g:List Value->List Value->List Value}{gV:List V->List V->List V}
end
structure FnScope (N P:List Str)(sc:Scope):Prop where
 kind:sc.kind=.function
 co:sc.isCoroutine=false
 gen:sc.isGenerator=false
 nd:N.Nodup
 pre:N.take P.length=P
 par:∀ x∈P,sc.names.lookup x=some .local\/sc.names.lookup x=some .cell
 nofree:∀ y∈sc.names,y.2 ≠ .free
theorem zg4 {kindOf:Str->Option NameKind}{x:Str}:∀ {binds:List (Str×Value)} {m:Str->Option Value},(∀ v,(x,v)∉binds)->bindL kindOf binds m x=m x
 | [],_,_=>rfl
 | (n,v)::r,m,h=>by
  unfold bindL;rw [zg4 fun w hw=>h w (Zqm _ hw)]
  split
  ·have:x≠n:=by rintro rfl;exact h v Zqs
   simp [this]
  ·rfl
theorem zgt {kindOf:Str->Option NameKind}{x:Str}:∀ {binds:List (Str×Value)} {m:Str->Option Value},(∀ v,(x,v)∉binds)->bindC kindOf binds m x=m x
 | [],_,_=>rfl
 | (n,v)::r,m,h=>by
  unfold bindC;rw [zgt fun w hw=>h w (Zqm _ hw)]
  split
  ·rfl
  ·have:x≠n:=by rintro rfl;exact h v Zqs
   simp [this]
theorem zg2 {kindOf:Str->Option NameKind}{x:Str}{v:Value}:∀ {P:List Str} {vs:List Value} {i:Nat} {m:Str->Option Value},P.Nodup->P[i]? = some x->vs[i]? = some v->kindOf x=some .local ->
 bindL kindOf (P.zip vs) m x=some v
 | [],_,_,_,_,h,_,_=>by simp at h
 |_::_,[],_,_,_,_,h,_=>by simp at h
 |p::P,w::vs,0,m,nd,h1,h2,hk=>by
  simp at h1 h2;subst h1;subst h2;show bindL kindOf ((p,w)::P.zip vs) m p=_;unfold bindL;rw [zg4 fun v hv=>(List.nodup_cons.mp nd).1 (List.of_mem_zip hv).1,if_pos hk];simp
 |p::P,w::vs,i+1,m,nd,h1,h2,hk=>by
  show bindL kindOf ((p,w)::P.zip vs) m x=_;unfold bindL;exact zg2 (i:=i) (List.nodup_cons.mp nd).2 (by simpa using h1) (by simpa using h2) hk
theorem zfD {kindOf:Str->Option NameKind}{x:Str}{v:Value}:∀ {P:List Str} {vs:List Value} {i:Nat} {m:Str->Option Value},P.Nodup->P[i]? = some x->vs[i]? = some v->kindOf x≠some .local ->
 bindC kindOf (P.zip vs) m x=some v
 | [],_,_,_,_,h,_,_=>by simp at h
 |_::_,[],_,_,_,_,h,_=>by simp at h
 |p::P,w::vs,0,m,nd,h1,h2,hk=>by
  simp at h1 h2;subst h1;subst h2;show bindC kindOf ((p,w)::P.zip vs) m p=_;unfold bindC;rw [zgt fun v hv=>(List.nodup_cons.mp nd).1 (List.of_mem_zip hv).1,if_neg hk];simp
 |p::P,w::vs,i+1,m,nd,h1,h2,hk=>by
  show bindC kindOf ((p,w)::P.zip vs) m x=_;unfold bindC;exact zfD (i:=i) (List.nodup_cons.mp nd).2 (by simpa using h1) (by simpa using h2) hk
def start (N:List Str)(vs:List V):St:=vs.map some++List.replicate (N.length-vs.length) none
def cxOf (CX:CXT)(P:Program)(w:World)(K:W.Frag)(mg:Str->Option Value)(base:Heap)(N:List Str)(qual:Str)(scope:Scope)(f:Addr)(cd:Value)(A:Around)(outer:List Env)(s:Shared)(H:Hp)(E:XK):Cx where
 prog:=P
 w:=w
 K:=K
 mg:=mg
 base:=base
 A:=A.deeper (envOfC qual scope s.heap.objs.size f cd)
 N:=N
 s₀:=s
 H₀:=H
 env:=envOfC qual scope s.heap.objs.size f cd
 outer:=outer
 stack:=envOfC qual scope s.heap.objs.size f cd::outer
 ex:=[]
 calm:=true
 fn:=fun _=>true
 pn:=[]
 xe:=fun e s'=>wpAny (model P w) (A.deeper (envOfC qual scope s.heap.objs.size f cd)) (leaving (envOfC qual scope s.heap.objs.size f cd) e) (fun _ s''=>CX outer H s E e s'') (fun e' s''=>CX outer H s E e' s'') s'
theorem zib {sc:Scope}{n:Nat}{x:Str}(h:sc.names.lookup x=some .cell):∃ c,(cellsFrom n sc.names []).lookup x=some c:=by
 have q:=W.cellsFrom_some sc.names n [] (.inl h);exact Option.isSome_iff_exists.mp q
theorem zl1 {CX:CXT}{P:Program}{w:World}{K:W.Frag}{mg:Str->Option Value}{base:Heap}{N ps:List Str}{qual:Str}{scope:Scope}{f:Addr}{cd:Value}{A:Around}{outer:List Env}{s s1:Shared}{H:Hp}{E:XK}{us:List Value}{vs:List V}
 (S:FnScope N ps scope) (hd:A.handled=none) (e0:Env0 P w K mg base A outer s H) (hl:vs.length=ps.length) (r:Vals vs us)
 (x:InCallC s s.heap.objs.size (bindL (envOfC qual scope s.heap.objs.size f cd).kindOf (ps.zip us) fun _=>none) (cellsFrom (s.heap.objs.size+1) scope.names []) (bindC (envOfC qual scope s.heap.objs.size f cd).kindOf (ps.zip us) fun _=>none) s1) :
 Inv (cxOf CX P w K mg base N qual scope f cd A outer s H E) [] (start N vs) H s1:=by
 have hpl:ps.length<=N.length:=by have:=congrArg List.length S.pre;rw [List.length_take] at this;omega
 obtain ⟨h1,tk,rfl,hk⟩:=x.done;have noA:∀ b:Addr,b∉(cxOf CX P w K mg base N qual scope f cd A outer s H E).ex:=fun b z=>absurd (show b∈([]:List Addr) from z) (by simp);refine ⟨⟨e0.mod,S.kind,rfl,rfl,Nat.le_refl _,fun y z c h1 h2=>?_,fun y hy=>?_,fun y c _ h=>?_,fun _=>hd,Around.frames_deeper e0.frames,.inr ⟨rfl,rfl⟩,fun b z=>absurd z (noA b),e0.bs,e0.bsz,fun b _ _=>noA b,fun b z=>absurd z (noA b),e0.funs,e0.frf⟩,
  rfl,e0.bare,Un.kept hk,⟨_,x.toInCall.ns,fun i y v h1 h2 h3=>?_⟩,fun y c h=>⟨_,x.cell y c h⟩,e0.hok.fresh (Nat.le_refl _),fun y c h=>?_,fun p hp=>absurd (show p∈([]:List (Addr×Obj)) from hp) (by simp),e0.hok.kept hk,?_⟩
 ·exact name_of_addr x.apart (PySem.mem_of_lookup h1) (PySem.mem_of_lookup h2)
 ·have hy:scope.names.lookup y=some .cell\/scope.names.lookup y=some .free:=hy;rcases hy with hy|hy
  ·exact zib hy
  ·exact absurd rfl (S.nofree _ (PySem.mem_of_lookup hy))
 ·exact Nat.le_of_lt (x.above y c (PySem.mem_of_lookup h))
 ·have hi:i<vs.length:=by
   unfold start at h2;by_cases hi:i<vs.length
   ·exact hi
   ·rw [List.getElem?_append_right (by simpa using hi)] at h2;rw [List.getElem?_replicate] at h2
    split at h2<;>cases h2
  have ha:vs[i]? = some v:=by
   unfold start at h2;rw [List.getElem?_append_left (by simpa using hi),List.getElem?_map] at h2;cases e:vs[i]? with
   |none=>rw [e] at h2;cases h2
   |some a=>rw [e] at h2;cases h2;rfl
  obtain ⟨u,hu,rv⟩:=r.get ha;have hp:ps[i]? = some y:=by
   rw [<- S.pre,List.getElem?_take_of_lt (by omega)];exact h1
  have ndP:ps.Nodup:=by rw [<- S.pre];exact S.nd.sublist (List.take_sublist _ _)
  refine ⟨u,rv,?_⟩;rcases S.par y (List.mem_of_getElem? hp) with k|k
  ·exact .inl ⟨k,zg2 ndP hp hu k⟩
  ·obtain ⟨c,e⟩:=zib (n:=s.heap.objs.size+1) k;refine .inr ⟨.inl k,c,e,?_⟩;have q:=x.cell y c e;rw [zfD ndP hp hu (by show scope.names.lookup y≠_;rw [k];decide)] at q;exact q
 ·exact e0.hok.fresh (Nat.le_of_lt (x.above y c (PySem.mem_of_lookup h)))
 ·unfold start;show _=N.length;rw [List.length_append,Zql,List.length_replicate];omega
theorem fn_of {CX:CXT}{P:Program}{w:World}{K:W.Frag}{mg:Str->Option Value}{base:Heap}{k:Nat}{f:Addr}{name qual:Str}{params:Arguments}{body:List Stmt}{scope:Scope}{dV kV doc pm cdv ct oc:Value}{an od:Option Addr}
 {osl:Array (Option Value)} {N ps:List Str} {sp:Sp} (lk:K.lookup f=some ⟨oc,od,.func (W.fnOf name qual params body scope dV kV doc pm an cdv ct),osl⟩) (hcd:W.codeIn K cdv qual=true) (S:FnScope N ps scope)
 (len:∀ vs H Q E,sp vs H Q E->vs.length=ps.length)
 (hbody:∀ (A:Around) (outer:List Env) (s:Shared) (H:Hp) (vs:List V) (Q:VK) (E:XK),Room k (A.deeper (envOfC qual scope s.heap.objs.size f cdv))->sp vs H Q E ->
  ∃ t,PSs (cxOf CX P w K mg base N qual scope f cdv A outer s H E) body t/\t { nx:=fun _ H'=>Q .non H',rt:=Q } (start N vs) H) :
 FnOk P w K mg base CX (k+1) f (W.fnOf name qual params body scope dV kV doc pm an cdv ct) ps sp:=by
 refine ⟨len,fun A outer s H args us vs Q E hr e0 hb r hsp=>?_⟩;have hl:=len _ _ _ _ hsp;have KX:K.In s.heap:=e0.mod.kin.keeps fun b o e=>(e0.bs b o e).1;have lim:s.heap.NoLimit:=e0.mod.nolimit.keeps fun b o e=>(e0.bs b o e).1;have hkind:∀ y∈ps.zip us,scope.names.lookup y.1=some .local\/(scope.names.lookup y.1=some .cell/\((cellsFrom (s.heap.objs.size+1) scope.names []).lookup y.1).isSome=true):=fun ⟨n,v⟩ hy=>by
  rcases S.par n (List.of_mem_zip hy).1 with q|q
  ·exact .inl q
  ·exact .inr ⟨q,W.cellsFrom_some _ _ _ (.inl q)⟩
 refine codeAny_call_function hr.depth (KX _ _ lk) rfl S.co S.gen rfl (W.codeRec_of KX hcd) (hb _ _ _ _ ?_);refine wpAny_newFunctionEnv_cells S.kind hkind fun env he s1 x=>?_;subst he;refine ⟨lim.keeps x.toInCall.keep,codeAny_func ?_⟩;obtain ⟨t,ht,hq⟩:=hbody A outer s H vs Q E (hr.deeper _) hsp;have I:Inv (cxOf CX P w K mg base N qual scope f cdv A outer s H E) [] (start N vs) H s1:=zl1 S hr.hd e0 hl r x;refine wpAny_mono (ht [] s1 (start N vs) H _ I hq) (fun fl s' hs=>?_) fun e s' hs=>hs;have fin:∀ {σ':St} {H':Hp} {v:V} {u:Value},Inv (cxOf CX P w K mg base N qual scope f cdv A outer s H E) [] σ' H' s'->RelV v u->Q v H'->CE outer P w H s Q u s' :=
  fun {σ' H' v u} J rv q=>⟨v,H',J.os,J.bare,J.base,J.hok,rv,q⟩
 cases fl with
 |ret u =>
  obtain ⟨v,σ',H',J,rv,q⟩:=hs;exact fin J rv q
 |next =>
  obtain ⟨σ',H',J,q⟩:=hs;exact fin (v:=V.non) (u:=Value.none) J rfl q
 |brk =>
  obtain ⟨_,_,_,q⟩:=hs;exact False.elim q
 |cont =>
  obtain ⟨_,_,_,q⟩:=hs;exact False.elim q
section
variable {X:Cx}{x:Str}{p pos:Pos}{e:Expr}{es:List Expr}{t:TA}{id T:String}{r:List V->Hp->VK->Prop}
def tCB (r:List V->Hp->VK->Prop)(t:TA):TE:=fun σ H Q=>t σ H fun vs H1=>r vs H1 Q
theorem zhQ (hc:zaN X (.builtin id) r)(hg:Gl X x)(hm:X.mg x=none)(hv:bootBuiltins x=some (.builtin id))(ha:PA X (e::es) t)(hn:x ≠ "__name__" := by decide)(hdb:(x == ("__debug__" : Str))=false:=by decide)
 (he:starEach (e::es) X.env=(false,eval e X.env)::starEach es X.env:=by rfl) (hpl:(backTo pos (starEach es X.env)).any (·.1)=false:=by rfl):PE X (.Call (.Name x p) (e::es) [] pos) (tCB r t):=by
 intro pins s σ H Q I h;refine wpAny_Call_Name_kw (zdK I hg hm hv ?_ hn hdb);exact PyProof.Rows.callWith_builtin1 (thn (ha pos pins s σ H _ I h) fun us s1 ⟨vs,H1,I1,r1,q1⟩=>hc pins s1 σ H1 vs us Q I1 r1 q1) he hpl
theorem zdb (hc:zaN X (.type T) r)(hg:Gl X x)(hm:X.mg x=none)(hv:bootBuiltins x=some (.type T))(ha:PA X (e::es) t)(hn:x ≠ "__name__" := by decide)(hdb:(x == ("__debug__" : Str))=false:=by decide)
 (he:starEach (e::es) X.env=(false,eval e X.env)::starEach es X.env:=by rfl) (hpl:(backTo pos (starEach es X.env)).any (·.1)=false:=by rfl):PE X (.Call (.Name x p) (e::es) [] pos) (tCB r t):=by
 intro pins s σ H Q I h;refine wpAny_Call_Name_kw (zdK I hg hm hv ?_ hn hdb);exact PyProof.Rows.callWith_type1 (thn (ha pos pins s σ H _ I h) fun us s1 ⟨vs,H1,I1,r1,q1⟩=>hc pins s1 σ H1 vs us Q I1 r1 q1) he hpl
end
end L2
namespace HT
open PySem PyProof.Rows
section
open PySem.SeqAt
open PySem.AutoSeq1 (wpAny_loadPart')
open PySem.MeetsSeq PySem.MeetsSeq2 PySem.MeetsSeq3
end
section
variable {prog:Program}{w:World}{A:Around}{E:Value->Shared->Prop}{s:Shared}
theorem cat_tup {t b:Addr}{vs ws:List Value}{Q:Value->Shared->Prop}(ht:IsTup s.heap t vs.toArray)(hb:IsTup s.heap b ws.toArray)(hv:vs ≠ [])
 (h1:ws=[]->Q (.ref t) s) (h2:ws ≠ []->Q (.ref s.heap.objs.size) { s with heap:=s.heap.push { cls:=.type "tuple",data:=.seq (vs++ws).toArray } })
 (hsz:vs.length+ws.length<=sizeLine):wpAny (model prog w) A (binaryOp .Add (.ref t) (.ref b)) Q E s:=by
 obtain ⟨⟨cls,dd,data,sl⟩,ho,hc,n,hd⟩:=id ht;obtain ⟨⟨cls2,dd2,data2,sl2⟩,ho2,hc2,n2,hd2⟩:=id hb;simp only at hc hd hc2 hd2;subst hc hd hc2 hd2;have e:vs.toArray++ws.toArray=(vs++ws).toArray:=by simp
 by_cases hw:ws=[]
 ·exact concat_meets ⟨_,ho,rfl⟩ ⟨_,ho2,rfl⟩ noFill_tuple_add seq_tuple_add PySem.F.slot_tuple_add PySem.F.entry_tuple_add (PySem.F.args_tuple_add_2 _ _)
   (tuple_addW1 t b vs.toArray ws.toArray n n2 dd dd2 sl sl2 (by simpa using hv) (by simp [hw])) ⟨ho,ho2,h1 hw⟩
 ·refine concat_meets ⟨_,ho,rfl⟩ ⟨_,ho2,rfl⟩ noFill_tuple_add seq_tuple_add PySem.F.slot_tuple_add PySem.F.entry_tuple_add (PySem.F.args_tuple_add_2 _ _)
   (tuple_addW2 t b vs.toArray ws.toArray n n2 dd dd2 sl sl2 (by simpa using hv) (by simpa using hw) (by rw [List.size_toArray,List.size_toArray];exact hsz)) ⟨ho,ho2,?_⟩
  rw [e];exact h2 hw
end
end HT
namespace L2
abbrev TO:=St->Hp->(Option Int->Hp->Prop)->Prop
def PO (X:Cx)(e:Option Expr)(t:TO):Prop :=
 ∀ (pins:List (Addr×Obj)) (s:Shared) (σ : St) (H:Hp) (Q:Option Int->Hp->Prop),Inv X pins σ H s->t σ H Q ->
  wpAny (model X.prog X.w) X.A (evalPart e X.env) (fun u s'=>∃ o H',Inv X pins σ H' s'/\IsPart u o/\Q o H') X.xe s
def zp5:TO:=fun _ H Q=>Q none H
def tPart (t:TE):TO:=fun σ H Q=>t σ H fun x H1=>∃ i,x=.int i/\Q (some i) H1
theorem ziV {ns:List Int}:∀ {us:List Value},Vals (ns.map V.int) us->IntsAre us ns:=by
 induction ns with
 |nil=>intro us r;rw [List.map_nil] at r;cases r;exact .nil
 |cons n ns ih =>
  intro us r;rw [List.map_cons] at r;cases r with
  |cons r1 r2 =>
   obtain ⟨t,e⟩:=r1;subst e;exact .cons n t (ih r2)
section
variable {X:Cx}{e:Expr}{te:TE}{lo hi:Option Expr}{tl th:TO}{pos p2:Pos}
theorem zoE:PO X none zp5:=by
 intro pins s σ H Q I h;rw [evalPart_none];exact wpAny_pure ⟨none,H,I,.none,h⟩
theorem zo8 (h:PE X e te):PO X (some e) (tPart te):=by
 intro pins s σ H Q I hw;rw [evalPart_some];refine thn (h pins s σ H _ I hw) fun u s1 ⟨x,H1,I1,r1,q1⟩=>?_;obtain ⟨i,rfl,q⟩:=q1;obtain ⟨t,rfl⟩:=r1;exact ⟨some i,H1,I1,.int i t,q⟩
def rCatT (K:W.Frag):R2:=fun x y H Q=>∃ a b xs ys,x=.ref a/\y=.ref b/\SqT K H a xs/\SqT K H b ys/\xs ≠ []/\xs.length+ys.length<=sizeLine /\
 (ys=[]->Q (.ref a) H)/\(ys ≠ []->∀ p,H p=none->Q (.ref p) (upd H p (.tup (xs++ys))))
theorem Vals.nil_iff {xs:List V}{us:List Value}(r:Vals xs us):us=[]↔xs=[]:=by
 cases r with
 |nil=>simp
 |cons _ _=>simp
theorem zl8:OpR X (binaryOp .Add) (rCatT X.K):=by
 intro pins s σ H x y v u Q I rx ry h;obtain ⟨a,b,xs,ys,rfl,rfl,ha,hb,hx,hz,q1,q2⟩:=h;cases rx;cases ry;obtain ⟨its,r1,p1,_⟩:=I.tuple ha;obtain ⟨its2,r2,p2,_⟩:=I.tuple hb;refine HT.cat_tup p1 p2 (fun z=>hx (r1.nil_iff.mp z)) (fun z=>⟨.ref a,H,I,rfl,q1 (r2.nil_iff.mp z)⟩) (fun z=>?_) (by rw [<- r1.length,<- r2.length];exact hz);refine ⟨.ref s.heap.objs.size,_,I.laid (t':=s.toks) (o:=.tup (xs++ys)) (fun b ob q=>Heap.get?_push_of_some _ q) (Nat.le_refl _) ?_,rfl,q2 (fun w=>z (r2.nil_iff.mpr w)) _ (I.hok.fresh (Nat.le_refl _))⟩;exact ⟨⟨by rw [List.length_append];exact hz,⟨_,Heap.get?_push_size _ rfl,rfl⟩⟩,_,r1.append r2,IsTup.new _ _⟩
end
def ixN (n:Nat)(i:Int):Option Nat:=if 0<=i then (if i<n then some i.toNat else none) else if -(n:Int)<=i then some (i+n).toNat else none
def atI {α : Type}(xs:List α)(i:Int):Option α := (ixN xs.length i).bind fun j=>xs[j]?
theorem zlD {n:Nat}{i:Int}{j:Nat}(h:ixN n i=some j):seqIndex? i n=some j/\j<n /\ -(n:Int)<=i/\i<n:=by
 unfold ixN at h;by_cases h0:0<=i
 ·rw [if_pos h0] at h;by_cases h1:i<n
  ·rw [if_pos h1] at h;have e:i.toNat=j:=Zqi h;exact ⟨by rw [seqIndex_of h0 h1,e],by omega,by omega,h1⟩
  ·rw [if_neg h1] at h;cases h
 ·rw [if_neg h0] at h;by_cases h1 : -(n:Int)<=i
  ·rw [if_pos h1] at h;have e:(i+n).toNat=j:=Zqi h;exact ⟨by rw [seqIndex_neg (by omega) h1,e],by omega,h1,by omega⟩
  ·rw [if_neg h1] at h;cases h
theorem zgM {α : Type}{xs:List α}{i:Int}{v:α}(h:atI xs i=some v):∃ j,seqIndex? i xs.length=some j/\xs[j]? = some v/\j<xs.length /\ -(xs.length:Int)<=i/\i<xs.length:=by
 unfold atI at h;cases e:ixN xs.length i with
 |none=>rw [e] at h;cases h
 |some j =>
  rw [e] at h;obtain ⟨h1,h2,h3,h4⟩:=zlD e;exact ⟨j,h1,h,h2,h3,h4⟩
def zgG (b:Expr):Prop:=∀ o i,subscripted b false o i=operate [o,i] (getItem o i)
def IxR (X:Cx)(r:R2):Prop :=
 ∀ (value slice:Expr) (pins:List (Addr×Obj)) (s:Shared) (σ : St) (H:Hp) (x y:V) (v u:Value) (Q:VK),Inv X pins σ H s->RelV x v->RelV y u->r x y H Q ->
  subscripted slice false v u=operate [v,u] (getItem v u)->wpAny (model X.prog X.w) X.A (subscriptTail value slice v u) (EP X pins σ Q) X.xe s
def MtR (X:Cx)(id:String)(r:V->List V->Hp->VK->Prop):Prop :=
 ∀ (pins:List (Addr×Obj)) (s:Shared) (σ : St) (H:Hp) (x:V) (xs:List V) (v:Value) (us:List Value) (Q:VK),Inv X pins σ H s->RelV x v->Vals xs us->r x xs H Q ->
  wpAny (model X.prog X.w) X.A (call (.builtin id) (v::us)) (EP X pins σ Q) X.xe s
section
variable {X:Cx}{a b:Expr}{ta tb:TE}{pos:Pos}
theorem IxR.or {r r':R2}(h:IxR X r)(h':IxR X r'):IxR X (fun x y H Q=>r x y H Q\/r' x y H Q):=by
 intro value slice pins s σ H x y v u Q I rx ry q hs;rcases q with q|q
 ·exact h value slice pins s σ H x y v u Q I rx ry q hs
 ·exact h' value slice pins s σ H x y v u Q I rx ry q hs
theorem zqI {r:R2}(hr:IxR X r)(ha:PE X a ta)(hb:PE X b tb)(hs:zgG b):PE X (.Subscript a b pos) (tOp r ta tb):=by
 intro pins s σ H Q I h;exact Subscript_ (binT ha hb I h fun v u s2 x y H2 I2 rx ry q=>hr a b pins s2 σ H2 x y v u Q I2 rx ry q (hs _ _))
def rIxL (K:W.Frag):R2:=fun x y H Q=>∃ p xs i v,x=.ref p/\y=.int i/\SqL K H p xs/\atI xs i=some v/\Q v H
def rIxT (K:W.Frag):R2:=fun x y H Q=>∃ p xs i v,x=.ref p/\y=.int i/\SqT K H p xs/\atI xs i=some v/\Q v H
def rIxS:R2:=fun x y H Q=>∃ z i c,x=.str z/\y=.int i/\z.length<=sizeLine/\atI z.cps.toList i=some c/\Q (.str ⟨#[c]⟩) H
theorem zjs:IxR X (rIxL X.K):=by
 intro value slice pins s σ H x y v u Q I rx ry h hs;obtain ⟨p,xs,i,z,rfl,rfl,hq,he,q⟩:=h;cases rx;obtain ⟨t,rfl⟩:=ry;obtain ⟨its,r,pl,hz⟩:=I.list hq;obtain ⟨j,h1,h2,h3,h4,h5⟩:=zgM he;obtain ⟨w,ew,rw'⟩:=r.get h2;have hl:=r.length;have hn:=zeN;have fin:EP X pins σ Q w s:=⟨z,H,I,rw',q⟩;by_cases h0:0<=i
 ·have hj:i.toNat=j:=by
   rw [seqIndex_of h0 h5] at h1;exact Zqi h1
  exact item_listR pl.isList h0 (by omega) (by rw [hj];simpa using ew) fin hs
 ·have hj:(i+(its.toArray.size:Int)).toNat=j:=by
   rw [seqIndex_neg (by omega) h4] at h1;rw [List.size_toArray,<- hl];exact Zqi h1
  exact subscriptTail_builtinR (x:=w) pl.isList.typeIs slot_list_getitem.lookup
   (wpAny_getItem_list_neg (Q:=fun r s'=>r=w/\EP X pins σ Q r s') pl.isList (by omega) (by rw [List.size_toArray]<;>omega) (by omega) (by rw [hj];simpa using ew) ⟨rfl,fin⟩) hs
theorem zrs:IxR X (rIxT X.K):=by
 intro value slice pins s σ H x y v u Q I rx ry h hs;obtain ⟨p,xs,i,z,rfl,rfl,hq,he,q⟩:=h;cases rx;obtain ⟨t,rfl⟩:=ry;obtain ⟨its,r,pl,hz⟩:=I.tuple hq;obtain ⟨j,h1,h2,h3,h4,h5⟩:=zgM he;obtain ⟨w,ew,rw'⟩:=r.get h2;have hl:=r.length;have hn:=zeN;have fin:EP X pins σ Q w s:=⟨z,H,I,rw',q⟩;exact subscriptTail_builtinR (x:=w) pl.typeIs slot_tuple_getitem.lookup
  (getItem_tuple (j:=j) (Q:=fun r s'=>r=w/\EP X pins σ Q r s') pl (by omega) (by omega) (by rw [List.size_toArray,<- hl];exact h1) (by simpa using ew) ⟨rfl,fin⟩) hs
theorem zrn:IxR X rIxS:=by
 intro value slice pins s σ H x y v u Q I rx ry h hs;obtain ⟨z,i,c,rfl,rfl,hz,he,q⟩:=h;obtain ⟨t,rfl⟩:=rx;obtain ⟨t',rfl⟩:=ry;obtain ⟨j,h1,h2,h3,h4,h5⟩:=zgM he;have hl:z.cps.toList.length=z.length:=by simp [Str.length]
 rw [hl] at h1 h4 h5;have hn:=zeN;exact tail_any (typeIs_str s z t) slot_str_getitem.lookup (getItem_str (c:=c) (by
  have e1:decide (i < -(2 ^ 63:Int))=false:=decide_eq_false (by omega);have e2:decide (i ≥ 2 ^ 63)=false:=decide_eq_false (by omega);rw [e1,e2,Bool.or_false]) (by rw [h1];simpa using h2) ⟨.str ⟨#[c]⟩,H,I.tok _,⟨_,rfl⟩,q⟩) hs
def rIx (K:W.Frag):R2:=fun x y H Q=>rIxL K x y H Q\/rIxT K x y H Q\/rIxS x y H Q
theorem zsc:IxR X (rIx X.K):=zjs.or (zrs.or zrn)
theorem zin (its:List Value)(n j:Nat)(u:Value):Obj.mapSeq (·.setIfInBounds j u) { cls:=.type "list",data:=.seq its.toArray n }={ cls:=.type "list",data:=.seq (its.set j u).toArray n }:=by
 simp [Obj.mapSeq]
theorem Inv.lst {pins:List (Addr×Obj)}{σ : St}{H:Hp}{s:Shared}{p:Addr}{xs:List V}(I:Inv X pins σ H s)(h:H p=some (.lst xs)) :
 ∃ (its:List Value) (n:Nat),Vals xs its/\s.heap.get? p=some { cls:=.type "list",data:=.seq its.toArray n }/\xs.length<=sizeLine:=by
 obtain ⟨z,its,n,r,e⟩:=I.hok p _ h;exact ⟨its,n,r,e,z⟩
theorem Inv.lstUpd {pins:List (Addr×Obj)}{σ : St}{H:Hp}{s:Shared}{p:Addr}{xs ys:List V}{its its':List Value}{n n':Nat}{f:Obj->Obj}(I:Inv X pins σ H s)(h:H p=some (.lst xs))
 (ho:s.heap.get? p=some { cls:=.type "list",data:=.seq its.toArray n }) (hf:f { cls:=.type "list",data:=.seq its.toArray n }={ cls:=.type "list",data:=.seq its'.toArray n' }) (r:Vals ys its') (hz:ys.length<=sizeLine) (t:Nat) :
 Inv X pins σ (upd H p (.lst ys)) { s with heap:=s.heap.update p f,toks:=t }:=by
 have e:(s.heap.update p f).get? p=some { cls:=.type "list",data:=.seq its'.toArray n' }:=by
  rw [Heap.get?_update_self f ho (by rw [hf]<;>rfl),hf]
 refine I.write (x:=p) (e:=p) (by rw [h];trivial) (.inl rfl) (fun b u hb q=>(Heap.get?_update_other _ _ (Ne.symm hb)).trans q) ⟨_,e⟩ ?_;exact ⟨hz,its',n',r,e⟩
def rSetL:V->V->V->Hp->(Hp->Prop)->Prop:=fun o i v H Q=>∃ p xs k j,o=.ref p/\i=.int k/\H p=some (.lst xs)/\ixN xs.length k=some j/\Q (upd H p (.lst (xs.set j v)))
theorem zma:PSet X rSetL:=by
 intro pins s σ H o i v ov iv u Q I ro ri rv h;obtain ⟨p,xs,k,j,rfl,rfl,hp,hj,q⟩:=h;cases ro;obtain ⟨t,rfl⟩:=ri;obtain ⟨its,n,r,ho,hz⟩:=I.lst hp;obtain ⟨h1,h2,h3,h4⟩:=zlD hj;have hl:=r.length;have hn:=zeN;have I':Inv X pins σ (upd H p (.lst (xs.set j v))) { s with heap:=s.heap.update p (Obj.mapSeq (·.setIfInBounds j u)) } :=
  I.lstUpd hp ho (zin its n j u) (r.set rv j) (by rw [List.length_set];exact hz) s.toks
 by_cases h0:0<=k
 ·have hk:k.toNat=j:=by
   rw [seqIndex_of h0 h4] at h1;exact Zqi h1
  exact W.ki_setAt ho h0 (by omega) (by rw [List.size_toArray,<- hl];exact h4) (by rw [hk];exact ⟨_,I',q⟩)
 ·have hk:(k+(its.toArray.size:Int)).toNat=j:=by
   rw [seqIndex_neg (by omega) h3] at h1;rw [List.size_toArray,<- hl];exact Zqi h1
  exact W.ki_setBack ho (by omega) (by rw [List.size_toArray,<- hl];exact h3) (by omega) (by rw [hk];exact ⟨_,I',q⟩)
theorem zfT:zaN X (.builtin "len") (fun xs H Q=>∃ p ys,xs=[.ref p]/\(SqL X.K H p ys\/SqT X.K H p ys)/\Q (.int ys.length) H):=by
 intro pins s σ H xs us Q I r h;obtain ⟨p,ys,rfl,hq,q⟩:=h;obtain ⟨u,rfl,rx⟩:=zcF r;cases rx;have hn:=zeN;rcases hq with hq|hq
 ·obtain ⟨its,r',pl,hz⟩:=I.list hq;have hlen:=r'.length;exact Calls.call_len_list pl.isList (by simp only [List.size_toArray]<;>omega) ⟨.int ys.length,H,I.tok _,⟨s.toks+1,by rw [List.size_toArray,hlen]⟩,q⟩
 ·obtain ⟨its,r',pl,hz⟩:=I.tuple hq;have hlen:=r'.length;exact len_tuple pl (by simp only [List.size_toArray]<;>omega) ⟨.int ys.length,H,I.tok _,⟨s.toks+1,by rw [List.size_toArray,hlen]⟩,q⟩
theorem zgc:zaN X (.builtin "len") (fun xs H Q=>∃ z,xs=[.str z]/\z.length<=sizeLine/\Q (.int z.length) H):=by
 intro pins s σ H xs us Q I r h;obtain ⟨z,rfl,hz,q⟩:=h;obtain ⟨u,rfl,t,rfl⟩:=zcF r;have hn:=zeN;exact len_str (by omega) ⟨.int z.length,H,I.tok _,⟨_,rfl⟩,q⟩
theorem zaN.or {f:Value}{r r':List V->Hp->VK->Prop}(h:zaN X f r)(h':zaN X f r'):zaN X f (fun xs H Q=>r xs H Q\/r' xs H Q):=by
 intro pins s σ H xs us Q I rs q;rcases q with q|q
 ·exact h pins s σ H xs us Q I rs q
 ·exact h' pins s σ H xs us Q I rs q
theorem zdz:zaN X (.type "list") (fun xs H Q=>∃ p ys,xs=[.ref p]/\(SqL X.K H p ys\/SqT X.K H p ys)/\∀ l,H l=none->Q (.ref l) (upd H l (.lst ys))):=by
 intro pins s σ H xs us Q I r h;obtain ⟨p,ys,rfl,hq,q⟩:=h;obtain ⟨u,rfl,rx⟩:=zcF r;cases rx;have fin:∀ (its:List Value),Vals ys its->ys.length<=sizeLine->∀ (h':Heap) (c':Nat),(∀ b o',s.heap.get? b=some o'->h'.get? b=some o') ->
  h'.get? s.heap.objs.size=some { cls:=.type "list",dict:=none,data:=.seq its.toArray c',slots:=#[] }->EP X pins σ Q (.ref s.heap.objs.size) { s with heap:=h' }:=fun its r' hz h' c' kp e =>
  ⟨.ref s.heap.objs.size,_,I.laid (t':=s.toks) kp (Nat.le_refl _) (show zbg X.prog X.w _ h' _ (.lst ys) from ⟨hz,its,c',r',e⟩),rfl,q _ (I.hok.fresh (Nat.le_refl _))⟩
 rcases hq with hq|hq
 ·obtain ⟨its,r',pl,hz⟩:=I.list hq;have hlen:=r'.length;obtain ⟨o,ho,hc,n,hd⟩:=pl.isList;exact call_list_seq p (.inl rfl) ho hc hd (fun h' c' kp e=>fin its r' hz h' c' kp e) (by simp only [List.size_toArray]<;>omega)
 ·obtain ⟨its,r',pl,hz⟩:=I.tuple hq;have hlen:=r'.length;obtain ⟨o,ho,hc,n,hd⟩:=pl;exact call_list_seq p (.inr rfl) ho hc hd (fun h' c' kp e=>fin its r' hz h' c' kp e) (by simp only [List.size_toArray]<;>omega)
theorem zfb:zaN X (.type "tuple") (fun xs H Q=>∃ p ys,xs=[.ref p]/\((SqL X.K H p ys/\∀ l,H l=none->Q (.ref l) (upd H l (.tup ys)))\/(SqT X.K H p ys/\Q (.ref p) H))):=by
 intro pins s σ H xs us Q I r h;obtain ⟨p,ys,rfl,h⟩:=h;obtain ⟨u,rfl,rx⟩:=zcF r;cases rx;rcases h with ⟨hq,q⟩|⟨hq,q⟩
 ·obtain ⟨its,r',pl,hz⟩:=I.list hq;have hlen:=r'.length;refine call_tuple_list pl.isList (fun h' kp=>?_) (by simp only [List.size_toArray]<;>omega);have I1:Inv X pins σ H { s with heap:=h' }:=I.kept (t':=s.toks) kp;have I2:Inv X pins σ (upd H h'.objs.size (.tup ys)) { s with heap:=h'.push { cls:=.type "tuple",data:=.seq its.toArray } } :=
   I1.laid (t':=s.toks) (fun b o e=>Heap.get?_push_of_some _ e) (Nat.le_refl _) (show zbg X.prog X.w _ _ _ (.tup ys) from ⟨⟨hz,⟨_,Heap.get?_push_size _ rfl,rfl⟩⟩,its,r',IsTup.new _ _⟩)
  exact ⟨.ref h'.objs.size,_,I2,rfl,q _ (I1.hok.fresh (Nat.le_refl _))⟩
 ·obtain ⟨its,r',pl,hz⟩:=I.tuple hq;exact call_tuple_same pl ⟨.ref p,H,I,rfl,q⟩
def tyV (K:W.Frag)(T:String)(x:V)(H:Hp):Prop:=match x with
 | .str _=>T = "str"
 | .int _=>T = "int"
 | .ref p=>(T = "list" /\ ∃ xs,SqL K H p xs)\/(T = "tuple" /\ ∃ o,K.lookup p=some o/\o.cls=.type "tuple" /\ o.dict=none) \/
  (T = "dict" /\ ((∃ kvs,H p=some (.dK kvs))\/∃ kvs,H p=some (.dT kvs)))\/(T = "set" /\ ∃ S n,H p=some (.set S n))
 |_=>False
theorem znZ {pins:List (Addr×Obj)}{σ : St}{H:Hp}{s:Shared}{T:String}{x:V}{v:Value}(I:Inv X pins σ H s)(r:RelV x v)(ty:tyV X.K T x H) :
 s.TypeIs v T/\∀ a,v=.ref a->∃ ob,s.heap.get? a=some ob/\ob.dict=none:=by
 cases x with
 |str z =>
  obtain ⟨t,rfl⟩:=r;cases (show T = "str" from ty);exact ⟨typeIs_str s z t,fun _ e=>nomatch e⟩
 |int i =>
  obtain ⟨t,rfl⟩:=r;cases (show T = "int" from ty);exact ⟨typeIs_int s i t,fun _ e=>nomatch e⟩
 |ref p =>
  cases r;rcases ty with ⟨rfl,xs,hq⟩|⟨rfl,o,hk,hc,hd⟩|⟨rfl,hk⟩|⟨rfl,S,n,hk⟩
  ·obtain ⟨its,_,pl,_⟩:=I.list hq;refine ⟨pl.isList.typeIs,fun a e=>?_⟩;cases e;obtain ⟨o,n,e,c,hd,_⟩:=pl;exact ⟨o,e,hd⟩
  ·refine ⟨⟨o,I.kIn p o hk,hc⟩,fun a e=>?_⟩;cases e;exact ⟨o,I.kIn _ o hk,hd⟩
  ·have z:∃ o,s.heap.get? p=some o/\o.ExactDict:=by
    rcases hk with ⟨kvs,hk⟩|⟨kvs,hk⟩
    ·obtain ⟨_,_,_,_,o,_,_,e,ex,_⟩:=I.hok p _ hk;exact ⟨o,e,ex⟩
    ·obtain ⟨_,_,_,_,o,_,_,e,ex,_⟩:=I.hok p _ hk;exact ⟨o,e,ex⟩
   obtain ⟨o,e,ex⟩:=z;refine ⟨⟨o,e,ex.1⟩,fun a e2=>?_⟩;cases e2;exact ⟨o,e,ex.2.1⟩
  ·obtain ⟨o,_,_,_,e,ex,_⟩:=I.hok p _ hk;refine ⟨⟨o,e,ex.1⟩,fun a e2=>?_⟩;cases e2;exact ⟨o,e,ex.2.1⟩
 |_=>exact False.elim ty
def tBM0 (K:W.Frag)(T:String)(r:V->List V->Hp->VK->Prop)(to:TE):TE:=fun σ H Q=>to σ H fun x H1=>tyV K T x H1/\r x [] H1 Q
def tBM (K:W.Frag)(T:String)(r:V->List V->Hp->VK->Prop)(to:TE)(t:TA):TE:=fun σ H Q=>to σ H fun x H1=>tyV K T x H1/\t σ H1 fun xs H2=>r x xs H2 Q
variable {o e:Expr}{es:List Expr}{to:TE}{t:TA}{name:Str}{apos cpos:Pos}{T id:String}{r:V->List V->Hp->VK->Prop}
theorem zok (pa:PlainAttrs T)(slot:Slot T name id)(hty:typeOf (.builtin id)=pure (.type "method_descriptor"))(hm:MtR X id r)(ho:PE X o to)
 (hbase:attributeBase o name X.env (eval o X.env)=eval o X.env:=by rfl) (hline:(apos.endLine == cpos.line)=true:=by rfl):PE X (.Call (.Attribute o name apos) [] [] cpos) (tBM0 X.K T r to):=by
 intro pins s σ H Q I h;refine wpAny_Call_method0_late hbase hline (thn (ho pins s σ H _ I h) fun v s1 ⟨x,H1,I1,r1,ty,q1⟩=>?_);obtain ⟨h1,h2⟩:=znZ I1 r1 ty;exact ⟨T,id,pa,slot,hty,h1,h2,Calls.callWith_builtin rfl (PySem.evalArgs_none (hm pins s1 σ H1 x [] v [] Q I1 r1 .nil q1))⟩
theorem zbT (pa:PlainAttrs T)(slot:Slot T name id)(hty:typeOf (.builtin id)=pure (.type "method_descriptor"))(hm:MtR X id r)(ho:PE X o to)(ha:PA X (e::es) t)
 (hbase:attributeBase o name X.env (eval o X.env)=eval o X.env:=by rfl)
 (hfew:((backTo cpos (starEach (e::es) X.env)).all (fun x => !x.1)&&(backToKw cpos (keywordEach [] X.env)).all (fun x=>x.1.isSome)
  && decide ((e::es).length+([]:List Keyword).length+(if ([]:List Keyword).isEmpty then 0 else 1)<30))=true:=by rfl)
 (hline:(apos.endLine == cpos.line)=true:=by rfl) (hs:starEach (e::es) X.env=(false,eval e X.env)::starEach es X.env:=by rfl) (hplain:(backTo cpos (starEach es X.env)).any (·.1)=false:=by rfl) :
 PE X (.Call (.Attribute o name apos) (e::es) [] cpos) (tBM X.K T r to t):=by
 intro pins s σ H Q I h;refine wpAny_Call_method_late hbase hfew hline rfl (thn (ho pins s σ H _ I h) fun v s1 ⟨x,H1,I1,r1,ty,q1⟩=>?_);obtain ⟨h1,h2⟩:=znZ I1 r1 ty;refine ⟨T,id,pa,slot,hty,h1,h2,?_⟩;have hA:=ha cpos pins s1 σ H1 _ I1 q1;rw [hs] at hA ⊢;refine Calls.callWith_builtin (by show (false||(backTo cpos (starEach es X.env)).any (·.1))=false;rw [hplain]<;>rfl) (Calls.evalArgs_plain ?_);exact thn hA fun us s2 ⟨vs,H2,I2,r2,q2⟩=>hm pins s2 σ H2 x vs v us Q I2 r1 r2 q2
end
def MtM (X:Cx)(id:String)(r:V->List V->Hp->VK->Prop):Prop :=
 ∀ (pins:List (Addr×Obj)) (s:Shared) (σ : St) (H:Hp) (x:V) (xs:List V) (v:Value) (us:List Value) (Q:VK),Inv X pins σ H s->RelV x v->Vals xs us->r x xs H Q ->
  wpAny (model X.prog X.w) X.A (call (.builtin id) (v::us)) (EP X pins σ Q) X.xe s
theorem Vals.one:∀ {x:V} {us:List Value},Vals [x] us->∃ u,us=[u]/\RelV x u:=fun h=>by
 cases h with
 |cons r t=>cases t;exact ⟨_,rfl,r⟩
theorem Vals.two:∀ {x y:V} {us:List Value},Vals [x,y] us->∃ u v,us=[u,v]/\RelV x u/\RelV y v:=fun h=>by
 cases h with
 |cons r t =>
  cases t with
  |cons r' t=>cases t;exact ⟨_,_,rfl,r,r'⟩
theorem Vals.zero:∀ {us:List Value},Vals [] us->us=[]
 |_,.nil=>rfl
section
variable {X:Cx}{pins:List (Addr×Obj)}{σ : St}{H:Hp}{s:Shared}{l b:Addr}{xs ys zs:List V}
theorem Inv.lset {its its':List Value}{n:Nat}{f:Array Value->Array Value}{t':Nat}(I:Inv X pins σ H s)(hH:H l=some (.lst xs))
 (e:s.heap.get? l=some { cls:=.type "list",data:=.seq its.toArray n }) (hf:f its.toArray=its'.toArray) (hv:Vals ys its') (hz:ys.length<=sizeLine) :
 Inv X pins σ (upd H l (.lst ys)) { s with heap:=s.heap.update l (Obj.mapSeq f),toks:=t' }:=by
 have q:=PySem.IsL.update e f;rw [hf] at q;refine I.write (x:=l) (e:=l) (by rw [hH];exact trivial) (.inl rfl) (fun b' u hb hu=>(Heap.get?_update_other s.heap (Obj.mapSeq f) (Ne.symm hb)).trans hu) ⟨_,q⟩ ?_;exact ⟨hz,its',_,hv,q⟩
theorem Inv.lnew {its:List Value}{t':Nat}(I:Inv X pins σ H s)(hv:Vals ys its)(hz:ys.length<=sizeLine) :
 Inv X pins σ (upd H s.heap.objs.size (.lst ys)) { s with heap:=s.heap.push { cls:=.type "list",data:=.seq its.toArray },toks:=t' } :=
 I.laid (fun _ _ q=>Heap.get?_push_of_some _ q) (Nat.le_refl _) ⟨hz,its,0,hv,Heap.get?_push_size _ rfl⟩
theorem Inv.fresh (I:Inv X pins σ H s):H s.heap.objs.size=none:=I.hok.fresh (Nat.le_refl _)
theorem Inv.lstM (I:Inv X pins σ H s)(hH:H l=some (.lst xs)):xs.length<=sizeLine/\∃ (its:List Value) (n:Nat),Vals xs its/\xs.length=its.length/\s.heap.get? l=some { cls:=.type "list",data:=.seq its.toArray n }:=by
 obtain ⟨z,its,n,r,e⟩:=I.hok l _ hH;exact ⟨z,its,n,r,r.length,e⟩
theorem zlU {n:Nat}(h:n<=sizeLine):Builtin.List.listTooLong n=false:=by
 unfold Builtin.List.listTooLong;exact decide_eq_false (by omega)
end
section
variable {X:Cx}
def zg9:V->List V->Hp->VK->Prop:=fun x vs H Q=>∃ l xs y,x=.ref l/\vs=[y]/\H l=some (.lst xs)/\xs.length<sizeLine/\Q .non (upd H l (.lst (xs++[y])))
theorem zbb:MtM X "list.append" zg9:=by
 intro pins s σ H x vs v us Q I rx rv h;obtain ⟨l,xs,y,rfl,rfl,hH,hz,q⟩:=h;cases rx;obtain ⟨u,rfl,ru⟩:=rv.one;obtain ⟨z,its,n,r,hl,e⟩:=I.lstM hH;refine call_meets F.slot_list_append ⟨_,e,rfl⟩ F.entry_list_append (F.args_list_append_2 _ _) (PySem.list_append l its.toArray n u (by rw [List.size_toArray];omega)) ⟨e,?_⟩;refine ⟨.non,_,I.lset (its':=its++[u]) hH e (by simp) (r.append (.cons ru .nil)) ?_,rfl,q⟩;rw [List.length_append,List.length_singleton];omega
def zle:V->List V->Hp->VK->Prop:=fun x vs H Q=>∃ l b xs zs,x=.ref l/\vs=[.ref b]/\H l=some (.lst xs)/\H b=some (.lst zs)/\xs.length+zs.length<=sizeLine/\Q .non (upd H l (.lst (xs++zs)))
theorem zkZ:MtM X "list.extend" zle:=by
 intro pins s σ H x vs v us Q I rx rv h;obtain ⟨l,b,xs,zs,rfl,rfl,hH,hB,hz,q⟩:=h;cases rx;obtain ⟨u,rfl,ru⟩:=rv.one;cases ru;obtain ⟨z,its,n,r,hl,e⟩:=I.lstM hH;obtain ⟨z2,its2,n2,r2,hl2,e2⟩:=I.lstM hB;have hsz:its.toArray.size+its2.toArray.size<=sizeLine:=by rw [List.size_toArray,List.size_toArray];omega
 have hlong:¬ (!its.toArray.isEmpty&&Builtin.List.listTooLong (its.toArray.size+its2.toArray.size))=true:=by
  rw [zlU hsz,Bool.and_false];exact Bool.false_ne_true
 refine call_meets F.slot_list_extend ⟨_,e,rfl⟩ F.entry_list_extend (F.args_list_extend_2 _ _)
  (AutoSeq1.list_extend_list_list_0 l its.toArray n b its2.toArray n2 hlong (by rw [List.size_toArray];omega) (by omega)) ⟨e,e2,?_⟩
 refine ⟨.non,_,I.lset (its':=its++its2) hH e (by simp) (r.append r2) ?_,rfl,q⟩;rw [List.length_append];omega
def zrv:V->List V->Hp->VK->Prop:=fun x vs H Q=>∃ l xs,x=.ref l/\vs=[]/\H l=some (.lst xs)/\Q .non (upd H l (.lst []))
theorem zmC:MtM X "list.clear" zrv:=by
 intro pins s σ H x vs v us Q I rx rv h;obtain ⟨l,xs,rfl,rfl,hH,q⟩:=h;cases rx;have hus:=rv.zero;subst hus;obtain ⟨z,its,n,r,hl,e⟩:=I.lstM hH;refine call_meets F.slot_list_clear ⟨_,e,rfl⟩ F.entry_list_clear (F.args_list_clear_1 _) (AutoSeq1.list_clear_list_0 l its.toArray n (by rw [List.size_toArray];omega)) ⟨e,?_⟩;exact ⟨.non,_,I.lset (its':=[]) (ys:=[]) hH e rfl .nil (Nat.zero_le _),rfl,q⟩
end
section
variable {prog:Program}{w:World}{A:Around}{E:Value->Shared->Prop}{s:Shared}
set_option maxRecDepth 100000 in
end
section
variable {X:Cx}
end
section
variable {κ : Type}[DecidableEq κ]
def valV (kvs:List (κ × V))(k:κ):Option V:=(kvs.find? fun kv=>decide (kv.1=k)).map (·.2)
def putK (kvs:List (κ × V))(k:κ)(v:V):List (κ × V) :=
 if (kvs.any fun kv=>decide (kv.1=k))=true then kvs.map (fun kv=>if kv.1=k then (kv.1,v) else kv) else kvs++[(k,v)]
theorem zfv {p:κ × V}{r:List (κ × V)}{k:κ}(e:p.1=k):valV (p::r) k=some p.2:=by simp [valV,List.find?_cons,e]
theorem zf3 {p:κ × V}{r:List (κ × V)}{k:κ}(e:¬ p.1=k):valV (p::r) k=valV r k:=by simp [valV,List.find?_cons,e]
theorem zhV (k:κ):∀ kvs:List (κ × V),(kvs.any fun kv=>decide (kv.1=k))=(valV kvs k).isSome
 | []=>rfl
 |p::r=>by
  rw [List.any_cons];by_cases e:p.1=k
  ·simp only [zfv e,decide_eq_true e,Bool.true_or,Option.isSome_some]
  ·rw [zf3 e,decide_eq_false e,Bool.false_or];exact zhV k r
theorem zcK (kvs:List (κ × V))(k:κ)(v:V):(putK kvs k v).length<=kvs.length+1:=by
 unfold putK
 split
 ·rw [Zql];omega
 ·rw [List.length_append,List.length_cons,List.length_nil];omega
theorem RelO.isSome_eq {o:Option V}{u:Option Value}(r:RelO o u):o.isSome=u.isSome:=by
 cases o with
 |none=>cases u with
  |none=>rfl
  |some _=>exact (show False from r).elim
 |some _=>cases u with
  |none=>exact (show False from r).elim
  |some _=>rfl
theorem RelO.getD {o:Option V}{u:Option Value}{d:V}{d':Value}(r:RelO o u)(rd:RelV d d'):RelV (o.getD d) (u.getD d'):=by
 cases o with
 |none=>cases u with
  |none=>exact rd
  |some _=>exact (show False from r).elim
 |some _=>cases u with
  |none=>exact (show False from r).elim
  |some _=>exact r
theorem KV.val {kvs:List (κ × V)}{vs:List (κ × Value)}(r:KV kvs vs)(k:κ):RelO (valV kvs k) (valueAt vs k):=by
 unfold KV at r
 induction r with
 |nil=>exact True.intro
 | @cons p q ps qs h t ih =>
  obtain ⟨h1,h2⟩:=h;by_cases e:p.1=k
  ·have e':q.1=k:=h1.symm.trans e;have b:valueAt (q::qs) k=some q.2:=by simp [valueAt,List.find?_cons,e']
   rw [zfv e,b];exact h2
  ·have e':¬ q.1=k:=fun z=>e (h1.trans z);have b:valueAt (q::qs) k=valueAt qs k:=by simp [valueAt,List.find?_cons,e']
   rw [zf3 e,b];exact ih
theorem KV.any {kvs:List (κ × V)}{vs:List (κ × Value)}(r:KV kvs vs)(k:κ):(kvs.any fun kv=>decide (kv.1=k))=vs.any fun kv=>decide (kv.1=k):=by
 unfold KV at r
 induction r with
 |nil=>rfl
 |cons h t ih=>rw [List.any_cons,List.any_cons,ih,h.1]
theorem KV.repl {kvs:List (κ × V)}{vs:List (κ × Value)}(r:KV kvs vs)(k:κ){y:V}{u:Value}(ry:RelV y u) :
 KV (kvs.map fun kv=>if kv.1=k then (kv.1,y) else kv) (vs.map fun kv=>if kv.1=k then (kv.1,u) else kv):=by
 unfold KV at r ⊢
 induction r with
 |nil=>exact .nil
 | @cons p q ps qs h t ih =>
  rw [List.map_cons,List.map_cons];refine .cons ?_ ih;obtain ⟨h1,h2⟩:=h;by_cases e:p.1=k
  ·rw [if_pos e,if_pos (h1.symm.trans e)];exact ⟨h1,ry⟩
  ·rw [if_neg e,if_neg (fun z=>e (h1.trans z))];exact ⟨h1,h2⟩
theorem KV.put {kvs:List (κ × V)}{vs:List (κ × Value)}(r:KV kvs vs)(k:κ){y:V}{u:Value}(ry:RelV y u):KV (putK kvs k y) (stored vs k u):=by
 unfold putK stored;rw [r.any k];by_cases e:(vs.any fun kv=>decide (kv.1=k))=true
 ·rw [if_pos e,if_pos e];exact r.repl k ry
 ·rw [if_neg e,if_neg e];exact Paired.snoc r ⟨rfl,ry⟩
theorem KV.length {kvs:List (κ × V)}{vs:List (κ × Value)}(r:KV kvs vs):kvs.length=vs.length:=Paired.length r
end
theorem zgv {P:Program}{w:World}{k:Key}{u:Value}(r:RelV (kV k) u):(zaF P w).is k u=true:=by
 cases k with
 |inl i=>obtain ⟨t,e⟩:=(show ∃ t,u=Value.int i t from r);subst e;exact zgU P w i t
 |inr x=>obtain ⟨t,e⟩:=(show ∃ t,u=Value.str x t from r);subst e;exact zgA P w x t
theorem zfV {P:Program}{w:World}:∀ {ks:List Key} {us:List Value},Vals (ks.map kV) us->ItemsAre (zaF P w) ks us
 | [],_,r=>by rw [List.map_nil] at r;cases r;exact .nil
 |k::ks,_,r=>by
  rw [List.map_cons] at r;cases r with
  |cons h t=>exact .cons (zgv h) (zfV t)
abbrev KT (H:Hp):List (List Key×V)->List (List Key×Addr×Value)->Prop:=Paired fun p q=>p.1=q.1/\H q.2.1=some (.tup (p.1.map kV))/\RelV p.2 q.2.2
theorem KT.val {H:Hp}{kvs:List (List Key×V)}{xs:List (List Key×Addr×Value)}(r:KT H kvs xs)(k:List Key):RelO (valV kvs k) ((atKey xs k).map (·.2)):=by
 induction r with
 |nil=>exact True.intro
 | @cons p q ps qs h t ih =>
  obtain ⟨h1,_,h2⟩:=h;by_cases e:p.1=k
  ·have e':q.1=k:=h1.symm.trans e;have b:atKey (q::qs) k=some q.2:=by simp [atKey,List.find?_cons,e']
   rw [zfv e,b];exact h2
  ·have e':¬ q.1=k:=fun z=>e (h1.trans z);have b:atKey (q::qs) k=atKey qs k:=by simp [atKey,List.find?_cons,e']
   rw [zf3 e,b];exact ih
theorem KT.repl {H:Hp}{kvs:List (List Key×V)}{xs:List (List Key×Addr×Value)}(r:KT H kvs xs)(k:List Key){y:V}{u:Value}(ry:RelV y u) :
 KT H (kvs.map fun kv=>if kv.1=k then (kv.1,y) else kv) (xs.map (putAt k u)):=by
 induction r with
 |nil=>exact .nil
 | @cons p q ps qs h t ih =>
  rw [List.map_cons,List.map_cons];refine .cons ?_ ih;obtain ⟨h1,h2,h3⟩:=h;unfold putAt;by_cases e:p.1=k
  ·rw [if_pos e,if_pos (h1.symm.trans e)];exact ⟨h1,h2,ry⟩
  ·rw [if_neg e,if_neg (fun z=>e (h1.trans z))];exact ⟨h1,h2,h3⟩
theorem KT.put {H:Hp}{kvs:List (List Key×V)}{xs:List (List Key×Addr×Value)}(r:KT H kvs xs)(k:List Key){b:Addr}{y:V}{u:Value}(hb:H b=some (.tup (k.map kV)))(ry:RelV y u) :
 KT H (putK kvs k y) (storedH xs k b u):=by
 have e:(kvs.any fun kv=>decide (kv.1=k))=(atKey xs k).isSome:=by
  rw [zhV,(r.val k).isSome_eq,Option.isSome_map]
 unfold putK storedH;rw [e];by_cases q:(atKey xs k).isSome=true
 ·rw [if_pos q,if_pos q];exact r.repl k ry
 ·rw [if_neg q,if_neg q];exact Paired.snoc r ⟨rfl,hb,ry⟩
theorem KT.keeps {H H':Hp}{kvs:List (List Key×V)}{xs:List (List Key×Addr×Value)}(r:KT H kvs xs)(ht:∀ b ys,H b=some (.tup ys)->H' b=some (.tup ys)):KT H' kvs xs :=
 Paired.mapP r fun _ _ z=>⟨z.1,ht _ _ z.2.1,z.2.2⟩
section
variable {P:Program}{w:World}{H:Hp}{h:Heap}{a:Addr}
theorem zsH {u:HO}(ok:HOk P w H h)(e:Rd H a u):zbg P w H h a u:=e.ok ok
theorem zgi {kvs:List (Key×V)}(ok:HOk P w H h)(e:Rd H a (.dK kvs)):kvs.length<=sizeLine/\(a == sysModules)=false/\∃ vs,KV kvs vs/\h.DictOf (zaF P w) a vs :=
 show zbg P w H h a (.dK kvs) from zsH ok e
theorem znz {kvs:List (Key×V)}(ok:HOk P w H h)(e:H a=some (.dK kvs)):kvs.length<=sizeLine/\(a == sysModules)=false/\∃ vs,KV kvs vs/\h.DictOf (zaF P w) a vs:=zgi ok (.inl e)
theorem zeJ {ks:List Key}(ok:HOk P w H h)(e:H a=some (.tup (ks.map kV))):(tupleKind (zaF P w)).is h ks a:=by
 obtain ⟨_,its,r,o,h1,h2,n,h3⟩:=(show zbg P w H h a (.tup (ks.map kV)) from ok a _ e);exact ⟨o,its.toArray,n,h1,h2,h3,by simpa using zfV r⟩
theorem zhf {kvs:List (List Key×V)}(ok:HOk P w H h)(e:Rd H a (.dT kvs)):kvs.length<=sizeLine/\(a == sysModules)=false /\
 ∃ xs,KT H kvs xs/\h.DictOfH (tupleKind (zaF P w)) a xs:=by
 obtain ⟨z,y,xs,r,o,es,ep,h1,h2,h3,h4,h5⟩:=(show zbg P w H h a (.dT kvs) from zsH ok e);refine ⟨z,y,xs,r,o,es,ep,h1,h2,h3,h4,fun x hx=>?_,h5⟩;have all:∀ {l:List (List Key×V)} {m:List (List Key×Addr×Value)},KT H l m->∀ x∈m,(tupleKind (zaF P w)).is h x.1 x.2.1:=by
  intro l m q
  induction q with
  |nil=>intro x hx;exact nomatch hx
  | @cons p q ps qs hq t ih =>
   intro x hx;rcases List.mem_cons.mp hx with e|hx
   ·subst e;exact zeJ ok (by rw [<- hq.1];exact hq.2.1)
   ·exact ih x hx
 exact all r x hx
theorem dt_of {kvs:List (List Key×V)}(ok:HOk P w H h)(e:H a=some (.dT kvs)):kvs.length<=sizeLine/\(a == sysModules)=false /\
 ∃ xs,KT H kvs xs/\h.DictOfH (tupleKind (zaF P w)) a xs:=zhf ok (.inl e)
end
def DGet (H:Hp)(a:Addr)(y:V)(r:Option V):Prop :=
 (∃ kvs k,Rd H a (.dK kvs)/\y=kV k/\r=valV kvs k)\/∃ kvs k b,Rd H a (.dT kvs)/\y=.ref b/\H b=some (.tup (k.map kV))/\r=valV kvs k
def DPut (H:Hp)(a:Addr)(y v:V)(H':Hp):Prop :=
 (∃ kvs k,H a=some (.dK kvs)/\y=kV k/\kvs.length<sizeLine/\H'=upd H a (.dK (putK kvs k v))) \/
 ∃ kvs k b,H a=some (.dT kvs)/\y=.ref b/\H b=some (.tup (k.map kV))/\kvs.length<sizeLine/\H'=upd H a (.dT (putK kvs k v))
theorem DGet.k {H:Hp}{a:Addr}{kvs:List (Key×V)}{k:Key}(e:H a=some (.dK kvs)):DGet H a (kV k) (valV kvs k):=.inl ⟨kvs,k,.inl e,rfl,rfl⟩
theorem DPut.k {H:Hp}{a:Addr}{kvs:List (Key×V)}{k:Key}{v:V}(e:H a=some (.dK kvs))(hl:kvs.length<sizeLine):DPut H a (kV k) v (upd H a (.dK (putK kvs k v))):=.inl ⟨kvs,k,e,rfl,hl,rfl⟩
section
variable {X:Cx}{pins:List (Addr×Obj)}{σ : St}{H:Hp}{s:Shared}{a:Addr}{y v:V}{u r:Value}{o:Option V}{A:Around}{E:Value->Shared->Prop}
theorem Inv.big (I:Inv X pins σ H s):sysModules<s.heap.objs.size:=by
 have h:mainGlobals<s.heap.objs.size:=(I.mod.glob.keeps I.bk).lt;exact Nat.lt_trans (by decide) h
theorem zkB {Q:Value->Shared->Prop}(hu:A.units+1<cLine)(I:Inv X pins σ H s)(g:DGet H a y (some v))(ry:RelV y u)(h:∀ w' s',Inv X pins σ H s'->RelV v w'->Q w' s') :
 wpAny (model X.prog X.w) A (getItem (.ref a) u) Q E s:=by
 rcases g with ⟨kvs,k,e,ey,l⟩|⟨kvs,k,b,e,ey,eb,l⟩
 ·subst ey;obtain ⟨z,hd,vs,rel,dd⟩:=zgi I.hok e;obtain ⟨w',hw,rw'⟩:=RelO.some_of (v:=v) (o:=valueAt vs k) (by rw [l];exact rel.val k);exact wpAny_getItem_of (zgv ry) dd.mapOf hw (h w' _ (I.tok _) rw')
 ·subst ey;cases (show u=Value.ref b from ry);obtain ⟨z,hd,xs,rel,dd⟩:=zhf I.hok e;obtain ⟨w',hw,rw'⟩:=RelO.some_of (v:=v) (o:=(atKey xs k).map (·.2)) (by rw [l];exact rel.val k);obtain ⟨p,hp,hp2⟩:=Option.map_eq_some_iff.mp hw;refine wpAny_getItem_heap (tupleKind_room_in1 hu) (zeJ I.hok eb) dd hp ?_;rw [hp2];exact h w' _ (I.tok _) rw'
theorem d_in {Q:Value->Shared->Prop}(hu:A.units+1<cLine)(I:Inv X pins σ H s)(g:DGet H a y o)(ry:RelV y u)(h:∀ s',Inv X pins σ H s'->Q (.bool o.isSome) s') :
 wpAny (model X.prog X.w) A (compareOp .In u (.ref a)) Q E s:=by
 rcases g with ⟨kvs,k,e,ey,l⟩|⟨kvs,k,b,e,ey,eb,l⟩
 ·subst ey;obtain ⟨z,hd,vs,rel,dd⟩:=zgi I.hok e;refine wpAny_in_of (zgv ry) hd dd.mapOf ?_;rw [<- (rel.val k).isSome_eq,<- l];exact h _ (I.tok _)
 ·subst ey;cases (show u=Value.ref b from ry);obtain ⟨z,hd,xs,rel,dd⟩:=zhf I.hok e;refine wpAny_in_heap (tupleKind_room_in1 hu) (zeJ I.hok eb) hd dd ?_;have q:=(rel.val k).isSome_eq;rw [Option.isSome_map] at q;rw [<- q,<- l];exact h _ (I.tok _)
theorem zpi {Q:Value->Shared->Prop}(hu:A.units+1<cLine)(I:Inv X pins σ H s)(g:DGet H a y o)(ry:RelV y u)(h:∀ s',Inv X pins σ H s'->Q (.bool (!o.isSome)) s') :
 wpAny (model X.prog X.w) A (compareOp .NotIn u (.ref a)) Q E s:=by
 rcases g with ⟨kvs,k,e,ey,l⟩|⟨kvs,k,b,e,ey,eb,l⟩
 ·subst ey;obtain ⟨z,hd,vs,rel,dd⟩:=zgi I.hok e;refine wpAny_notIn_of (zgv ry) hd dd.mapOf ?_;rw [<- (rel.val k).isSome_eq,<- l];exact h _ (I.tok _)
 ·subst ey;cases (show u=Value.ref b from ry);obtain ⟨z,hd,xs,rel,dd⟩:=zhf I.hok e;refine wpAny_notIn_heap (tupleKind_room_in1 hu) (zeJ I.hok eb) hd dd ?_;have q:=(rel.val k).isSome_eq;rw [Option.isSome_map] at q;rw [<- q,<- l];exact h _ (I.tok _)
theorem zgS {h':Heap}{t':Nat}{ob:HO}(I:Inv X pins σ H s)(mu:Mut (H a))(hs:Heap.SameBut a s.heap h')(he:∃ q,h'.get? a=some q)(new:zbg X.prog X.w (upd H a ob) h' a ob) :
 Inv X pins σ (upd H a ob) { s with heap:=h',toks:=t' } :=
 I.write (x:=a) (e:=a) mu (.inl rfl) (fun b q hb z=>(hs.2 b hb).trans z) he new
theorem znN {P:Program}{w:World}{H':Hp}{h':Heap}{kvs:List (Key×V)}{vs:List (Key×Value)}(z:kvs.length<=sizeLine)(hd:(a == sysModules)=false)(rel:KV kvs vs)(dd:h'.DictOf (zaF P w) a vs) :
 zbg P w H' h' a (.dK kvs):=⟨z,hd,vs,rel,dd⟩
theorem zkp {H':Hp}{Q:Unit->Shared->Prop}(hu:A.units+1<cLine)(I:Inv X pins σ H s)(g:DPut H a y v H')(ry:RelV y u)(rv:RelV v r)(h:∀ s',Inv X pins σ H' s'->Q () s') :
 wpAny (model X.prog X.w) A (setItem (.ref a) u r) Q E s:=by
 rcases g with ⟨kvs,k,e,ey,l,eH⟩|⟨kvs,k,b,e,ey,eb,l,eH⟩
 ·subst ey eH;obtain ⟨z,hd,vs,rel,dd⟩:=znz I.hok e;have hz:vs.length<=sizeLine:=by rw [<- rel.length];exact z
  have hl:(putK kvs k v).length<=sizeLine:=by have:=zcK kvs k v;omega
  refine wpAny_setItem_pairs (hsz:=hz) (zgv ry) dd fun h' dd' hs=>h _ ?_;have he:∃ q,h'.get? a=some q:=let ⟨q,_,_,hq,_⟩:=dd';⟨q,hq⟩
  exact zgS I (by rw [e];exact True.intro) hs he (znN hl hd (rel.put k rv) dd')
 ·subst ey eH;cases (show u=Value.ref b from ry);obtain ⟨z,hd,xs,rel,dd⟩:=dt_of I.hok e;have hz:xs.length<=sizeLine:=by rw [<- Paired.length rel];exact z
  have hl:(putK kvs k v).length<=sizeLine:=by have:=zcK kvs k v;omega
  refine wpAny_setItem_heap (hsz:=hz) (tupleKind_room_in1 hu) (zeJ I.hok eb) dd fun h' dd' hs=>h _ ?_;obtain ⟨q,es,ep,hq,h2,h3,h4,_,h5⟩:=dd';refine zgS I (by rw [e];exact True.intro) hs ⟨q,hq⟩ ⟨hl,hd,_,(rel.put k eb rv).keeps fun c ys ec=>?_,q,es,ep,hq,h2,h3,h4,h5⟩;rw [zaj (ne_of ec e (fun z=>nomatch z))];exact ec
end
section
variable {X:Cx}{pins:List (Addr×Obj)}{σ : St}{H:Hp}{s:Shared}{a:Addr}{kvs:List (Key×V)}{k:Key}{u:Value}{A:Around}{E:Value->Shared->Prop}
theorem d_len {Q:Value->Shared->Prop}(I:Inv X pins σ H s)(e:Rd H a (.dK kvs))(h:∀ t s',Inv X pins σ H s'->Q (.int kvs.length t) s'):wpAny (model X.prog X.w) A (call (.builtin "len") [.ref a]) Q E s:=by
 obtain ⟨z,hd,vs,rel,dd⟩:=zgi I.hok e;refine call_len_dict hd dd (by rw [<- rel.length];rw [sizeLine_eq] at z;omega) ?_;rw [<- rel.length];exact h _ _ (I.tok _)
end
def NoSl (i:Expr):Prop:=∀ ov iv,subscripted i false ov iv=operate [ov,iv] (getItem ov iv)
theorem zoM {prog:Program}{w:World}{A:Around}{E:Value->Shared->Prop}{s:Shared}{env:Env}{value slice:Expr}{pos:Pos}{T id:String}{Q:Value->Shared->Prop}
 (hl:typeLookup (.type T) "__getitem__" = pure (some (.builtin id))) (hs:NoSl slice)
 (h:wpAny (model prog w) A (eval value env) (fun o s₁=>wpAny (model prog w) A (eval slice env) (fun i s₂=>s₂.TypeIs o T/\wpAny (model prog w) A (getItem o i) Q E s₂) E s₁) E s) :
 wpAny (model prog w) A (eval (.Subscript value slice pos) env) Q E s:=by
 refine Subscript_ (wpAny_mono h (fun o s₁ h₁=>wpAny_mono h₁ (fun i s₂ h₂=>?_) fun _ _ x=>x) fun _ _ x=>x);obtain ⟨hT,h₂⟩:=h₂;unfold subscriptTail;refine wpAny_bind ?_;rw [getitemInPython_of_ne hT.not_modules];refine wpAny_bind (wpAny_specialOf hT hl ?_);have fin:wpAny (model prog w) A (subscripted slice false o i) (fun r s₃=>wpAny (model prog w) A (letTemporaryGo value o r >>= fun _=>pure r) Q E s₃) E s₂:=by
  rw [hs o i];exact wpAny_operating (wpAny_mono h₂ (fun r s₃ h₃=>wpAny_bind (wpAny_letTemporaryGo (wpAny_pure h₃))) fun _ _ x=>x)
 first
  |exact wpAny_pure (wpAny_bind fin)
  |exact wpAny_bind (wpAny_pure (wpAny_bind fin))
  |exact wpAny_bind fin
theorem zgT {X:Cx}{pins:List (Addr×Obj)}{σ : St}{H:Hp}{s:Shared}{a:Addr}{y:V}{o:Option V}(I:Inv X pins σ H s)(g:DGet H a y o):s.TypeIs (.ref a) "dict" := by
 rcases g with ⟨kvs,k,e,_,_⟩|⟨kvs,k,b,e,_,_,_⟩
 ·obtain ⟨_,_,vs,_,dd⟩:=zgi I.hok e;exact dd.typeIs
 ·obtain ⟨_,_,xs,_,dd⟩:=zhf I.hok e;exact dd.typeIs
def tDGet (td ty:TE):TE:=fun σ H Q=>td σ H fun x H1=>ty σ H1 fun y H2=>∃ a v,x=.ref a/\DGet H2 a y (some v)/\Q v H2
def tDIn (ty td:TE):TE:=fun σ H Q=>ty σ H fun y H1=>td σ H1 fun x H2=>∃ a o,x=.ref a/\DGet H2 a y o/\Q (.bl o.isSome) H2
def zpj (ty td:TE):TE:=fun σ H Q=>ty σ H fun y H1=>td σ H1 fun x H2=>∃ a o,x=.ref a/\DGet H2 a y o/\Q (.bl (!o.isSome)) H2
def sDPut (td ty tv:TE):TS:=fun D σ H=>tv σ H fun v H1=>td σ H1 fun x H2=>ty σ H2 fun y H3=>∃ a H4,x=.ref a/\DPut H3 a y v H4/\D.nx σ H4
section
variable {X:Cx}{o i e value:Expr}{pos pos' tpos:Pos}{td ty tv:TE}
theorem zpz (hu:X.A.units+1<cLine)(ho:PE X o td)(hi:PE X i ty)(hs:NoSl i):PE X (.Subscript o i pos) (tDGet td ty):=by
 intro pins s σ H Q I h;refine zoM PySem.F.slot_dict_getitem.lookup hs (thn (ho pins s σ H _ I h) fun u s1 ⟨x,H1,I1,rx,q1⟩=>thn (hi pins s1 σ H1 _ I1 q1) fun iv s2 ⟨y,H2,I2,ry,a,v,ex,g,q2⟩=>?_);subst ex;obtain rfl:u=Value.ref a:=rx;exact ⟨zgT I2 g,zkB hu I2 g ry fun w' s3 I3 rw'=>⟨v,H2,I3,rw',q2⟩⟩
theorem zsw (hu:X.A.units+1<cLine)(hi:PE X i ty)(ho:PE X o td):PC X .In i o (tDIn ty td):=by
 intro pins s σ H Q I h;refine thn (hi pins s σ H _ I h) fun iv s1 ⟨y,H1,I1,ry,q1⟩=>thn (ho pins s1 σ H1 _ I1 q1) fun u s2 ⟨x,H2,I2,rx,a,ov,ex,g,q2⟩=>?_;subst ex;obtain rfl:u=Value.ref a:=rx;exact d_in hu I2 g ry fun s3 I3=>⟨.bl ov.isSome,H2,I3,rfl,q2⟩
theorem zgk (hu:X.A.units+1<cLine)(hi:PE X i ty)(ho:PE X o td):PC X .NotIn i o (zpj ty td):=by
 intro pins s σ H Q I h;refine thn (hi pins s σ H _ I h) fun iv s1 ⟨y,H1,I1,ry,q1⟩=>thn (ho pins s1 σ H1 _ I1 q1) fun u s2 ⟨x,H2,I2,rx,a,ov,ex,g,q2⟩=>?_;subst ex;obtain rfl:u=Value.ref a:=rx;exact zpi hu I2 g ry fun s3 I3=>⟨.bl (!ov.isSome),H2,I3,rfl,q2⟩
theorem zoJ (hu:X.A.units+1<cLine)(ho:PE X o td)(hi:PE X i ty)(hv:PE X value tv)(hs:swapsWith value (some (.Subscript o i pos')) pos.line X.env=pure false) :
 PS X (.Assign [.Subscript o i pos'] value pos) (sDPut td ty tv):=by
 intro pins s σ H D I h;refine wpAny_Assign_Subscript (thn (hv pins s σ H _ I h) fun r s1 ⟨v,H1,I1,rv,q1⟩=>thn (ho pins s1 σ H1 _ I1 q1) fun u s2 ⟨x,H2,I2,rx,q2⟩=>thn (hi pins s2 σ H2 _ I2 q2) fun iv s3 ⟨y,H3,I3,ry,a,H4,ex,g,q3⟩=>?_) hs;subst ex;obtain rfl:u=Value.ref a:=rx;exact zkp hu I3 g ry rv fun s4 I4=>⟨σ,H4,I4,q3⟩
end
theorem zlP {P:Program}{w:World}{H:Hp}(h:Heap)(hb:sysModules<h.objs.size):zbg P w H (h.push { cls:=.type "dict",data:=.dict #[] }) h.objs.size (.dK []) :=
 ⟨Nat.zero_le _,beq_eq_false_iff_ne.mpr (Ne.symm (Nat.ne_of_lt hb)),[],.nil,Heap.DictOf.new h⟩
def zro:TE:=fun _ H Q=>∀ p,H p=none->Q (.ref p) (upd H p (.dK []))
section
variable {X:Cx}{pos:Pos}
theorem zn4:PE X (.Dict [] [] pos) zro:=fun pins s σ H Q I h =>
 wpAny_Dict_empty ⟨.ref s.heap.objs.size,_,I.laid (a:=s.heap.objs.size) (o:=.dK []) (t':=s.toks) (fun _ _ q=>Heap.get?_push_of_some _ q) (Nat.le_refl _) (zlP s.heap I.big),rfl,h _ (I.hok.fresh (Nat.le_refl _))⟩
end
structure M1 (X:Cx)(o:Expr)(m:Str)(apos:Pos)(e:Expr)(cpos:Pos):Prop where
 base:attributeBase o m X.env (eval o X.env)=eval o X.env
 few:((backTo cpos (starEach [e] X.env)).all (fun x => !x.1)&&(backToKw cpos (keywordEach [] X.env)).all (fun x=>x.1.isSome)
  && decide (([e]:List Expr).length+([]:List Keyword).length+(if ([]:List Keyword).isEmpty then 0 else 1)<30))=true
 line:(apos.endLine == cpos.line)=true
 trees:backTo cpos (starEach [e] X.env)=[(false,eval e X.env)]
def IsD (H:Hp)(a:Addr):Prop:=(∃ kvs,Rd H a (.dK kvs))\/∃ kvs,Rd H a (.dT kvs)
theorem zrl {X:Cx}{pins:List (Addr×Obj)}{σ : St}{H:Hp}{s:Shared}{a:Addr}(I:Inv X pins σ H s)(d:IsD H a) :
 s.TypeIs (.ref a) "dict" /\ (∀ b,Value.ref a=.ref b->∃ ob,s.heap.get? b=some ob/\ob.dict=none)/\(a == sysModules)=false:=by
 rcases d with ⟨kvs,e⟩|⟨kvs,e⟩
 ·obtain ⟨_,hd,vs,_,dd⟩:=zgi I.hok e;refine ⟨dd.typeIs,fun b q=>?_,hd⟩;cases q;obtain ⟨ob,_,_,h1,h2,_⟩:=dd;exact ⟨ob,h1,h2.2.1⟩
 ·obtain ⟨_,hd,xs,_,dd⟩:=zhf I.hok e;refine ⟨dd.typeIs,fun b q=>?_,hd⟩;cases q;obtain ⟨ob,_,_,h1,h2,_⟩:=dd;exact ⟨ob,h1,h2.2.1⟩
section
variable {X:Cx}{pins:List (Addr×Obj)}{σ : St}{H:Hp}{s:Shared}{a:Addr}{y d:V}{u r:Value}{o:Option V}{A:Around}{E:Value->Shared->Prop}
theorem zsC {Q:Value->Shared->Prop}(hu:A.units+1<cLine)(I:Inv X pins σ H s)(g:DGet H a y o)(ry:RelV y u)(h:∀ w' s',Inv X pins σ H s'->RelV (o.getD .non) w'->Q w' s') :
 wpAny (model X.prog X.w) A (call (.builtin "dict.get") [.ref a,u]) Q E s:=by
 rcases g with ⟨kvs,k,e,ey,l⟩|⟨kvs,k,b,e,ey,eb,l⟩
 ·subst ey;obtain ⟨z,hd,vs,rel,dd⟩:=zgi I.hok e;refine call_meetsIn PySem.F.slot_dict_get dd.typeIs PySem.F.entry_dict_get (PySem.F.args_dict_get_2 _ _) (meets_dict_get (zaF X.prog X.w) a (zgv ry) hd) ⟨_,dd.mapOf,h _ _ (I.tok _) ?_⟩;rw [l];exact (rel.val k).getD rfl
 ·subst ey;cases (show u=Value.ref b from ry);obtain ⟨z,hd,xs,rel,dd⟩:=zhf I.hok e;refine call_meetsIn PySem.F.slot_dict_get dd.typeIs PySem.F.entry_dict_get (PySem.F.args_dict_get_2 _ _) (meetsH_dict_get (tupleKind (zaF X.prog X.w)) a b hd) ⟨tupleKind_room_in1 hu,k,xs,zeJ I.hok eb,dd,h _ _ (I.tok _) ?_⟩;rw [l];exact (rel.val k).getD rfl
end
def zq3 (td ty:TE):TE:=fun σ H Q=>td σ H fun x H1=>∃ a,x=.ref a/\IsD H1 a/\ty σ H1 fun y H2=>∃ o,DGet H2 a y o/\Q (o.getD .non) H2
section
variable {X:Cx}{o e f:Expr}{apos cpos:Pos}{td ty tx:TE}
theorem znk (hu:X.A.units+1<cLine)(ho:PE X o td)(he:PE X e ty)(m:M1 X o "get" apos e cpos):PE X (.Call (.Attribute o "get" apos) [e] [] cpos) (zq3 td ty):=by
 intro pins s σ H Q I h;refine wpAny_Call_method m.base m.few m.line PySem.F.plainAttrs_dict PySem.F.slot_dict_get PySem.F.type_dict_get (thn (ho pins s σ H _ I h) fun u s1 ⟨x,H1,I1,rx,a,ex,d,q1⟩=>?_);subst ex;obtain rfl:u=Value.ref a:=rx;obtain ⟨t1,t2,_⟩:=zrl I1 d;refine ⟨t1,t2,?_⟩;rw [m.trees];refine Calls.callWith_builtin rfl (Calls.evalArgs_plain (Calls.spliced_cons (thn (he pins s1 σ H1 _ I1 q1) fun iv s2 ⟨y,H2,I2,ry,ov,g,q2⟩=>Calls.spliced_nil ?_)));exact zsC hu I2 g ry fun w' s3 I3 rw'=>⟨_,H2,I3,rw',q2⟩
end
section
variable {X:Cx}{pins:List (Addr×Obj)}{σ : St}{H:Hp}{s:Shared}{a:Addr}{kvs:List (Key×V)}{A:Around}{E:Value->Shared->Prop}
end
section
variable {X:Cx}{pins:List (Addr×Obj)}{σ : St}{H:Hp}{s:Shared}{a:Addr}{y:V}{u:Value}{A:Around}{E:Value->Shared->Prop}
end
end L2
namespace Att
open PySem PySem.W PySem.Calls PyProof.Rows
theorem zen {P:Params}{h:Heap}:∀ (ns:List Int) (vs:List Value),WellAll P h vs (ns.map WData.int)->IntsAre vs ns:=by
 intro ns
 induction ns with
 |nil =>
  intro vs w;rw [List.map_nil] at w;cases w;exact .nil
 |cons n ns ih =>
  intro vs w;rw [List.map_cons] at w;cases w with
  |cons a b =>
   cases a;exact .cons _ _ (ih _ b)
theorem zlH {l:OpenLaw}{n:Nat}(hn:l.most=some n){P:Params}{h:Heap}{args:List WData}{vals:List Value}
 (hpre:l.row.toRowW.claim.pre args=true) (hwl:WellAll P h vals args) :
 ∃ a vs ns,vals=[Value.ref a]/\args=[WData.list (ns.map WData.int)]/\h.get? a=some { cls:=.type "list",data:=.seq vs.toArray }/\IntsAre vs ns/\ns.length<=n:=by
 have hsh:WShape.hasAll [] args [.list .int]=true:=(pre_splitW hpre).1;have hc:l.pre.holds [] { args:=args }=true:=(pre_splitW hpre).2;obtain ⟨d,r,rfl,h1,h2⟩:=hasAllW_cons hsh;obtain rfl:=hasAllW_nil h2;obtain ⟨xs,rfl,h3⟩:=hasW_list h1;obtain ⟨ns,rfl⟩:=items_int h3;have hlen:ns.length<=n:=by
  unfold OpenLaw.pre at hc;have h4:(WTm.not (.lt (.lit (.int (n:Int))) (.len (.arg 0)))).holds [] { args:=[.list (ns.map .int)] }=true:=by
   have h4:=(holds_andW hc).1;rw [hn] at h4;exact h4
  have h5:=condW_of h4 (w_not (w_lt w_lit (w_len_list (w_arg rfl))));rw [Zql] at h5;refine Nat.le_of_not_lt fun q=>?_;have q':(n:Int)<((ns.length:Nat):Int):=by omega
  first
   | (rw [decide_eq_true q'] at h5;exact absurd h5 (by decide))
   | (simp at h5;omega)
 cases hwl with
 |cons w1 w2 =>
  cases w2;cases w1 with
  |list ho hall=>exact ⟨_,_,ns,rfl,rfl,ho,zen ns _ hall,hlen⟩
theorem zjo (l:OpenLaw)(args:List WData):l.row.toRowW.claim.post args (.bool true) args=true :=
 postW_of (r:=l.row.toRowW) (X:=(true == true))
  (show WShape.has [] (.bool true) .bool=true by first|rfl|decide|simp [WShape.has,WShape.arms,WShape.armsAll])
  (show (WTm.eq .res (.lit (.bool true))).value [] { args:=args,res:=some (.bool true),after:=args }=some (.bool (true == true)) from w_eq_bool (w_res rfl) w_lit) rfl
theorem attach_call {l:OpenLaw}{n:Nat}{q:Program}{loose:List Str}{XP:(Str->Option Value)->Heap->Prop}{YP:World->Heap->Prop}{d:DefRec}
 (hn:l.most=some n) (hdf:d.params.defaults=[])
 (call:∀ (w:World) (s₀ s₁:Shared) (mg mb:Str->Option Value) (fa:Addr) (o:Obj) (pm cd doc:Value) (a:Addr) (vs:List Value) (ns:List Int),
  Ground q loose [] XP w s₀ mg mb s₁.heap->YP w s₁.heap ->
  s₁.heap.get? fa=some o->o.data=.func (docDef d.name d.params d.body d.scope pm cd doc)->s₁.heap.CodeRec cd d.name->mg d.name=some (.ref fa) ->
  s₁.heap.get? a=some { cls:=.type "list",data:=.seq vs.toArray }->IntsAre vs ns->ns.length<=n->s₁.gens = #[] ->
  codeAny (model l.prog w) callerA (.call (.ref fa) ⟨[.ref a],[]⟩) (fun r s'=>r=.ok (.ret (.bool true))/\OldK s₁.heap s'.heap/\s'.os=s₁.os/\AllBare s'.gens) s₁) :
 WalkO q loose XP YP l.row.toRowW d [] (fun f vs=>PySem.call f vs):=by
 intro w s₀ s₁ mg mb G Y fa o pm cd doc dV kV ho hd hcd hD hmg hg args vals as hpre hlay hrd hwl hlo;obtain rfl:dV=.none:=Dflts.none hD hdf;obtain rfl:kV=.none:=Dflts.noKw hD;obtain ⟨a,vs,ns,rfl,rfl,hobj,hints,hlen⟩:=zlH hn hpre hwl;refine enter_call (codeAny_mono (call w s₀ s₁ mg mb fa o pm cd doc a vs ns G Y ho (fd_plain hd) hcd hmg hobj hints hlen hg) fun r s' hq=>?_);obtain ⟨rfl,h2,h3,h4⟩:=hq;exact ⟨.inl ⟨.bool true,.bool true,[],rfl,fun _=>rfl,.bool true,zjo l _,fun _=>⟨List.Pairwise.nil,fun _ hm=>(nomatch hm)⟩⟩,h2,h3,h4⟩
section
variable {prog:Program}{w:World}{A:Around}{E:Value->Shared->Prop}{s:Shared}{K:Frag}
end
end Att
namespace L2
theorem zlC:∀ {vs:List Value} {ns:List Int},IntsAre vs ns->Vals (ns.map V.int) vs:=fun h=>by
 induction h with
 |nil=>exact .nil
 |cons n t _ ih=>exact .cons ⟨t,rfl⟩ ih
def Only (H:Hp):Prop:=∀ b,H b=none\/∃ o xs,H b=some (.frz o (.lst xs))
theorem zmD {P:Program}{w:World}{K:W.Frag}{mg mb:Str->Option Value}{CX:CXT}{k:Nat}{fa a:Addr}{fd:FuncData}{x:Str}{sp:Sp}{s₁:Shared}{vs:List Value}{ns:List Int}
 (KX:K.In s₁.heap) (hns:s₁.heap.Ns mainGlobals mg) (hb:s₁.heap.Ns builtinsNs mb) (hbb:∀ x:Str,x ≠ "__name__" -> mb x=bootBuiltins x) (hlim:s₁.heap.NoLimit) (hg:s₁.gens = #[])
 (ha:s₁.heap.get? a=some { cls:=.type "list",data:=.seq vs.toArray }) (hi:IntsAre vs ns) (hl:ns.length<=sizeLine) (hr:Room k callerA)
 (F:∀ base:Heap,K.In base->base.Ns mainGlobals mg->FnOk P w K mg base CX k fa fd [x] sp) (hbind:∀ (s:Shared) (u:Value),BindsTo s fd ⟨[u],[]⟩ [(x,u)])
 (hsp:∀ H:Hp,Only H->SqL K H a (ns.map V.int)->sp [.ref a] H (fun v _=>v=.bl true) fun _ _ _=>False)
 (hCX:∀ H e s',CX [] H s₁ (fun _ _ _=>False) e s'->False) :
 codeAny (model P w) callerA (.call (.ref fa) ⟨[.ref a],[]⟩) (fun r s'=>r=.ok (.ret (.bool true))/\OldK s₁.heap s'.heap/\s'.os=s₁.os/\AllBare s'.gens) s₁:=by
 have rv:=zlC hi;have lenV:=hi.length;have core:∀ H:Hp,Only H->SqL K H a (ns.map V.int)->HOk P w H s₁.heap->(∀ b,H b≠none->b=a)->(H a≠none->K.lookup a=none) ->
  codeAny (model P w) callerA (.call (.ref fa) ⟨[.ref a],[]⟩) (fun r s'=>r=.ok (.ret (.bool true))/\OldK s₁.heap s'.heap/\s'.os=s₁.os/\AllBare s'.gens) s₁:=by
  intro H hO hS hok hA hK;have base_of:∀ {b:Addr} {o:Obj},s₁.heap.get? b=some o->H b=none->(hidT s₁.heap H).get? b=some o:=fun e n=>zmA e n;have noA:∀ {b:Addr} {o:Obj} {es:Array DictEntry} {ep:Nat},s₁.heap.get? b=some o->o.data=.dict es ep->H b=none:=fun {b o es ep} e d=>by
   cases q:H b with
   |none=>rfl
   |some u =>
    have e':b=a:=hA b (by rw [q];simp);subst e';rw [ha] at e;cases e;have d':Data.seq vs.toArray _=Data.dict es ep:=d;cases d'
  have nsK:∀ {b:Addr} {m:Str->Option Value},s₁.heap.Ns b m->(hidT s₁.heap H).Ns b m:=fun {b m} ⟨o,es,ep,e,d,r⟩=>⟨o,es,ep,base_of e (noA e d),d,r⟩;have hKb:K.In (hidT s₁.heap H):=fun b o e=>base_of (KX b o e) (by
   cases q:H b with
   |none=>rfl
   |some u =>
    have e':b=a:=hA b (by rw [q];simp);subst e';rw [hK (by rw [q];simp)] at e;cases e)
  have hM:Mod K mg (hidT s₁.heap H):=⟨hKb,nsK hns,⟨mb,nsK hb,hbb⟩,let ⟨mc,h1,h2⟩:=hlim;⟨mc,nsK h1,h2⟩⟩;have e0:Env0 P w K mg (hidT s₁.heap H) callerA [] s₁ H:=⟨rfl,hM,fun b o e=>zoW e,Nat.le_of_eq (zk8 _ _),trivial,fun b hb=>absurd (show b∈([]:List Addr) from hb) (by simp),hok,.of_eq hg⟩;refine codeAny_mono ((F _ hKb (nsK hns)).run callerA [] s₁ H ⟨[.ref a],[]⟩ [.ref a] [.ref a] _ _ hr e0 (hbind s₁ (.ref a)) (.cons rfl .nil) (hsp H hO hS)) fun r s' h=>?_;cases r with
  |error e=>exact (hCX H e s' h).elim
  |ok fl =>
   cases fl with
   |next=>exact False.elim h
   |brk=>exact False.elim h
   |cont=>exact False.elim h
   |ret u =>
    obtain ⟨v,H',os,bare,un,hok',r',q⟩:=h;have q':v=.bl true:=q;subst q';obtain rfl:u=Value.bool true:=r';refine ⟨rfl,OldK.of_keep fun b o e=>?_,os,bare⟩;cases q:H b with
    |none=>exact un.keep b o e q (by intro z;exact absurd (show b∈([]:List Addr) from z) (by simp)) (by simp)
    |some u =>
     rcases hO b with z|⟨ob,xs,z⟩
     ·rw [q] at z;cases z
     ·have z2:=un.frzs b ob _ z;obtain ⟨e1,_⟩:=hok b _ z;obtain ⟨e2,_⟩:=hok' b _ z2;rw [e] at e1;cases e1;exact e2
 cases hk:K.lookup a with
 |some o =>
  have e:=KX a o hk;rw [ha] at e;cases e;refine core (fun _=>none) (fun _=>.inl rfl) (.inr ⟨_,vs.toArray,_,hk,rfl,rfl,rfl,by rw [List.size_toArray,lenV];exact hl,by simpa using rv⟩) (fun b u z=>by have z':(none:Option HO)=some u:=z;cases z') (fun b z=>absurd rfl z) fun z=>absurd rfl z
 |none =>
  refine core (fun b=>if b=a then some (.frz { cls:=.type "list",data:=.seq vs.toArray } (.lst (ns.map V.int))) else none) (fun b=>?_) (.inl (.inr ⟨{ cls:=.type "list",data:=.seq vs.toArray },if_pos rfl⟩)) (fun b u z=>?_) (fun b z=>?_) fun _=>hk
  ·by_cases hb:b=a
   ·exact .inr ⟨_,_,if_pos hb⟩
   ·exact .inl (if_neg hb)
  ·by_cases hb:b=a
   ·have z':=(if_pos hb).symm.trans z;cases z';subst hb;exact ⟨ha,by rw [Zql];exact hl,vs,_,rv,ha⟩
   ·have z':=(if_neg hb).symm.trans z;cases z'
  ·by_cases hb:b=a
   ·exact hb
   ·exact absurd (if_neg hb) z
theorem walk_of {l:W.OpenLaw}{n k:Nat}{q:Program}{loose:List Str}{XP:(Str->Option Value)->Heap->Prop}{YP:World->Heap->Prop}{d:DefRec}{K:Params->W.Frag}{CX:World->CXT}{sp:World->Sp}{x:Str}
 (hn:l.most=some n) (hn2:n<=sizeLine) (hdf:d.params.defaults=[]) (hr:Room k callerA)
 (hY:∀ (w:World) (h:Heap),YP w h->(K w.params).In h)
 (F:∀ (w:World) (mg:Str->Option Value) (fa:Addr) (h:Heap),(K w.params).In h->h.Ns mainGlobals mg->mg d.name=some (.ref fa) ->
  ∃ fd:FuncData,(∀ (s:Shared) (u:Value),BindsTo s fd ⟨[u],[]⟩ [(x,u)]) /\
   ∀ base:Heap,(K w.params).In base->base.Ns mainGlobals mg->FnOk l.prog w (K w.params) mg base (CX w) k fa fd [x] (sp w))
 (hsp:∀ (w:World) (H:Hp) (a:Addr) (ns:List Int),ns.length<=n->Only H->SqL (K w.params) H a (ns.map V.int)->sp w [.ref a] H (fun v _=>v=.bl true) fun _ _ _=>False)
 (hCX:∀ (w:World) (H:Hp) (s:Shared) (e:Value) (s':Shared),CX w [] H s (fun _ _ _=>False) e s'->False) :
 W.WalkO q loose XP YP l.row.toRowW d [] (fun f vs=>PySem.call f vs):=by
 refine Att.attach_call hn hdf fun w s₀ s₁ mg mb fa o pm cd doc a vs ns G Y ho hd hcd hmg hobj hints hlen hg=>?_;have KX:=hY w _ Y;obtain ⟨fd,hb,hF⟩:=F w mg fa _ KX G.T.g hmg;exact zmD KX G.T.g G.T.b G.T.builtins G.T.nolimit hg hobj hints (Nat.le_trans hlen hn2) hr hF hb (fun H hO hS=>hsp w H a ns hlen hO hS) fun H e s'=>hCX w H s₁ e s'
def zds (s:Stmt)(j:Nat):Stmt:=match s with
 | .ClassDef _ _ _ body _ _ _ _ _ _ _=>body.getD j (.Pass ⟨0,0,0,0⟩)
 |_=>.Pass ⟨0,0,0,0⟩
def zdo (s:Stmt):Arguments:=match s with
 | .FunctionDef _ a _ _ _ _ _ _ _ _=>a
 |_=>{ posonlyargs:=[],args:=[],vararg:=none,kwonlyargs:=[],kw_defaults:=[],kwarg:=none,defaults:=[] }
def zbz (s:Stmt):List Stmt:=match s with
 | .FunctionDef _ _ b _ _ _ _ _ _ _=>b
 |_=>[]
def za3 (s:Stmt):Scope:=match s with
 | .FunctionDef _ _ _ _ _ _ sc _ _ _=>sc
 |_=>{ kind:=.function,names:=[],isGenerator:=false,isCoroutine:=false }
abbrev CX0:CXT:=fun _ _ _ _ _ _=>False
abbrev E0:XK:=fun _ _ _=>False
theorem zo9 {X:Cx}:zgb CX0 X E0:=fun _ _ _ _ _ _ _ h=>h.elim
structure Fun (K:W.Frag)(x qual:Str)(st:Stmt)(f:Addr)(fd:FuncData):Prop where
 ex:∃ (oc:Value) (od:Option Addr) (kV doc pm:Value) (an:Option Addr) (cdv ct:Value) (osl:Array (Option Value)),
  fd=W.fnOf x qual (zdo st) (zbz st) (za3 st) .none kV doc pm an cdv ct/\K.lookup f=some ⟨oc,od,.func fd,osl⟩/\W.codeIn K cdv qual=true
 kp:W.keepIn K (.ref f)=true
section
variable {P:Program}{w:World}{K:W.Frag}{mg:Str->Option Value}{base:Heap}
theorem Fun.ok {x qual:Str}{st:Stmt}{f:Addr}{fd:FuncData}{N ps:List Str}{k:Nat}{sp:Sp}(F:Fun K x qual st f fd)(S:FnScope N ps (za3 st))(len:∀ vs H Q E,sp vs H Q E->vs.length=ps.length)
 (hbody:∀ (cdv:Value) (A:Around) (outer:List Env) (s:Shared) (H:Hp) (vs:List V) (Q:VK) (E:XK),Room k (A.deeper (envOfC qual (za3 st) s.heap.objs.size f cdv))->sp vs H Q E ->
  ∃ t,PSs (cxOf CX0 P w K mg base N qual (za3 st) f cdv A outer s H E).nox (zbz st) t/\t { nx:=fun _ H'=>Q .non H',rt:=Q } (start N vs) H):FnOk P w K mg base CX0 (k+1) f fd ps sp:=by
 obtain ⟨oc,od,kV,doc,pm,an,cdv,ct,osl,rfl,lk,hcd⟩:=F.ex;refine fn_of lk hcd S len fun A outer s H vs Q E hr hsp=>?_;obtain ⟨t,h,q⟩:=hbody cdv A outer s H vs Q E hr hsp;exact ⟨t,h.nox,q⟩
theorem Fun.binds {x qual:Str}{st:Stmt}{f:Addr}{fd:FuncData}{ps:List Str}(F:Fun K x qual st f fd)
 (h:∀ (kV doc pm:Value) (an:Option Addr) (cdv ct:Value) (us:List Value),us.length=ps.length->bindArgs (W.fnOf x qual (zdo st) (zbz st) (za3 st) .none kV doc pm an cdv ct) ⟨us,[]⟩=pure (ps.zip us)):zey K fd ps []:=by
 obtain ⟨oc,od,kV,doc,pm,an,cdv,ct,osl,rfl,lk,hcd⟩:=F.ex;exact .all (h kV doc pm an cdv ct)
theorem fun_mk {x qual:Str}{st:Stmt}{f:Addr}{oc:Value}{od an:Option Addr}{osl:Array (Option Value)}{kV doc pm cdv ct:Value}(l:K.lookup f=some ⟨oc,od,.func (W.fnOf x qual (zdo st) (zbz st) (za3 st) .none kV doc pm an cdv ct),osl⟩)
 (c:W.codeIn K cdv qual=true) (k:W.keepIn K (.ref f)=true):Fun K x qual st f (W.fnOf x qual (zdo st) (zbz st) (za3 st) .none kV doc pm an cdv ct):=⟨⟨oc,od,kV,doc,pm,an,cdv,ct,osl,rfl,l,c⟩,k⟩
end
theorem zaw {A:Around}{k:Nat}(hr:Room k A):A.units+1<cLine:=Nat.lt_of_le_of_lt (Nat.add_le_add_left (by decide:1<=64) _) hr.units
theorem zgf {n:Nat}(h:n<=1000):n<sizeLine:=Nat.lt_of_le_of_lt h (by decide)
section
variable {X:Cx}
theorem pv (i:Nat){x:Str}{pos:Pos}(hN:X.N[i]? = some x:=by rfl)(hv:Vis X.env.scope x:=by first|exact Or.inl rfl|exact Or.inr (Or.inl rfl)|exact Or.inr (Or.inr rfl))(hd:(x == ("__debug__" : Str))=false:=by decide)
 (hcd:(x == ("__classdict__" : Str))=false:=by decide):PE X (.Name x pos) (tVar i):=zqr hN hv hd hcd
end
def Same (H H':Hp):Prop:=∀ b o,H b=some o->H' b=some o
theorem Same.refl (H:Hp):Same H H:=fun _ _ h=>h
theorem Same.trans {H H1 H2:Hp}(a:Same H H1)(b:Same H1 H2):Same H H2:=fun c o h=>b c o (a c o h)
theorem Same.free {H H':Hp}(e:Same H H'){l:Addr}(h:H' l=Option.none):H l=Option.none:=by
 cases q:H l with
 |none=>rfl
 |some o =>
  rw [e l o q] at h;cases h
theorem Same.seq {K:W.Frag}{H H':Hp}{a:Addr}{xs:List V}(e:Same H H')(h:SqL K H a xs):SqL K H' a xs:=by
 rcases h with (h|⟨o,h⟩)|h
 ·exact .inl (.inl (e _ _ h))
 ·exact .inl (.inr ⟨o,e _ _ h⟩)
 ·exact .inr h
section
variable {X:Cx}
theorem zln:zaN X (.builtin "len") (fun xs H Q=>∃ a kvs,xs=[V.ref a]/\H a=some (.dK kvs)/\Q (.int kvs.length) H):=by
 intro pins s σ H xs us Q I r h;obtain ⟨a,kvs,rfl,ha,q⟩:=h;obtain ⟨u,rfl,ru⟩:=zcF r;cases ru;exact d_len I (.inl ha) fun t s' I'=>⟨.int kvs.length,H,I',⟨t,rfl⟩,q⟩
end
section
variable {κ : Type}[DecidableEq κ]
end
end L2
theorem zqn {P:Prop}{α : Type}{z:α}(h:none=some z):P:=by cases  h
theorem zqb {P:Prop}(h:false=true):P:=by cases  h
namespace L2
theorem zdU (env:Env):∀ (names:List (Str×NameKind)) (acc:List (Str×Addr)),(∀ y∈names,y.2=.free->∃ c,env.cells.lookup y.1=some c) ->
 ∃ cl,(forIn names acc fun (x:Str×NameKind) (r:List (Str×Addr))=>(match x with
  | (name,kind)=>if (kind == NameKind.free)=true then do let a <- cellOf env name;pure (ForInStep.yield ((name,a)::r)) else pure (ForInStep.yield r):Sem (ForInStep (List (Str×Addr)))))=(pure cl:Sem (List (Str×Addr))) /\
  (∀ x c,cl.lookup x=some c->env.cells.lookup x=some c\/acc.lookup x=some c)/\(∀ x c,acc.lookup x=some c->∃ c',cl.lookup x=some c')/\∀ y∈names,y.2=.free->∃ c,cl.lookup y.1=some c
 | [],acc,_=>⟨acc,rfl,fun _ _ h=>.inr h,fun x c h=>⟨c,h⟩,fun _ h=>nomatch h⟩
 | (n,k)::r,acc,h=>by
  rw [List.forIn_cons];cases hk:(k == NameKind.free) with
  |true =>
   have hk':k=.free:=by cases k<;>first|rfl|(exact absurd hk (by decide))
   obtain ⟨c,hc⟩:=h (n,k) Zqs hk';obtain ⟨cl,e,h1,h2,h3⟩:=zdU env r ((n,c)::acc) fun y hy=>h y (Zqm _ hy);refine ⟨cl,?_,fun x c' hx=>?_,fun x c' hx=>?_,fun y hy hf=>?_⟩
   ·simp only [hk,if_true,cellOf,hc];exact e
   ·rcases h1 x c' hx with q|q
    ·exact .inl q
    ·rw [List.lookup_cons] at q;cases hb:x == n with
     |true =>
      rw [hb] at q;cases q;have:x=n:=by simpa using hb
      subst this;exact .inl hc
     |false=>rw [hb] at q;exact .inr q
   ·cases hb:x == n with
    |true=>exact h2 x c (by rw [List.lookup_cons,hb])
    |false=>exact h2 x c' (by rw [List.lookup_cons,hb];exact hx)
   ·rcases List.mem_cons.mp hy with rfl|hy
    ·exact h2 n c (by rw [List.lookup_cons,beq_self_eq_true])
    ·exact h3 y hy hf
  |false =>
   obtain ⟨cl,e,h1,h2,h3⟩:=zdU env r acc fun y hy=>h y (Zqm _ hy);refine ⟨cl,?_,h1,h2,fun y hy hf=>?_⟩
   ·simp only [hk,Bool.false_eq_true,if_false];exact e
   ·rcases List.mem_cons.mp hy with rfl|hy
    ·rw [show k=.free from hf] at hk;exact absurd hk (by decide)
    ·exact h3 y hy hf
theorem zpx (env:Env)(scope:Scope)(h:∀ y∈scope.names,y.2=.free->∃ c,env.cells.lookup y.1=some c) :
 ∃ cl,closureFor scope env=pure cl/\(∀ x c,cl.lookup x=some c->env.cells.lookup x=some c)/\∀ y∈scope.names,y.2=.free->∃ c,cl.lookup y.1=some c:=by
 obtain ⟨cl,e,h1,_,h3⟩:=zdU env scope.names [] h;refine ⟨cl,?_,fun x c hx=>(h1 x c hx).elim id (fun q=>by simp at q),h3⟩;simp only [closureFor]
 first
 | (rw [e];rfl)
 |exact (congrArg (· >>= fun cs=>pure cs) e)
theorem zbK {env:Env}{x:Str}:∀ {names:List (Str×NameKind)},
 (names.lookup x=some .free->(names.map fun (n,k)=>if (k == NameKind.free&&env.scope.kind == .function&&env.kindOf n == some .cell) then (n,NameKind.cell) else (n,k)).lookup x=some .cell\/(names.map fun (n,k)=>if (k == NameKind.free&&env.scope.kind == .function&&env.kindOf n == some .cell) then (n,NameKind.cell) else (n,k)).lookup x=some .free) /\
 (∀ k',(names.map fun (n,k)=>if (k == NameKind.free&&env.scope.kind == .function&&env.kindOf n == some .cell) then (n,NameKind.cell) else (n,k)).lookup x=some k'->(k'=.cell\/k'=.free)->names.lookup x=some .free\/names.lookup x=some .cell)
 | []=>⟨fun h=>by simp at h,fun _ h=>by simp at h⟩
 | (n,k)::r=>by
  obtain ⟨ih1,ih2⟩:=@zbK env x r;simp only [List.map_cons];cases hx:x == n with
  |true =>
   refine ⟨fun h=>?_,fun k' h hk'=>?_⟩
   ·simp only [List.lookup_cons,hx] at h;obtain rfl:=Zqi h;by_cases hc:(NameKind.free == NameKind.free&&env.scope.kind == .function&&env.kindOf n == some .cell)=true
    ·rw [if_pos hc];simp [List.lookup_cons,hx]
    ·rw [if_neg hc];simp [List.lookup_cons,hx]
   ·rw [List.lookup_cons,hx];by_cases hq:(k == NameKind.free&&env.scope.kind == .function&&env.kindOf n == some .cell)=true
    ·have:k=.free:=by
      cases k<;>first|rfl|(simp at hq)
     rw [this];exact .inl rfl
    ·rw [if_neg hq] at h;simp only [List.lookup_cons,hx] at h;have h:k=k':=by simpa using h
     subst h;rcases hk' with z|z
     ·rw [z];exact .inr rfl
     ·rw [z];exact .inl rfl
  |false =>
   refine ⟨fun h=>?_,fun k' h hk'=>?_⟩
   ·simp only [List.lookup_cons,hx] at h
    split<;>simp only [List.lookup_cons,hx]<;>exact ih1 h
   ·rw [List.lookup_cons,hx];refine ih2 k' ?_ hk'
    split at h<;>simp only [List.lookup_cons,hx] at h<;>exact h
theorem zbm:∀ (names:List (Str×NameKind)) (n:Nat) (acc:List (Str×Addr)),cellsFrom n names acc=cellsFrom n names []++acc
 | [],_,_=>rfl
 | (name,kind)::r,n,acc=>by
  unfold cellsFrom
  split
  ·rw [zbm r (n+1) ((name,n)::acc),zbm r (n+1) [(name,n)],List.append_assoc];rfl
  ·exact zbm r n acc
theorem zce {x:Str}{c:Addr}:∀ (names:List (Str×NameKind)) (n:Nat) (acc:List (Str×Addr)),(x,c)∈cellsFrom n names acc->(x,c)∈acc\/(x,NameKind.cell)∈names
 | [],_,_,h=>.inl h
 | (name,kind)::r,n,acc,h=>by
  unfold cellsFrom at h
  split at h
  ·rename_i hk;rcases zce r (n+1) ((name,n)::acc) h with z|z
   ·rcases List.mem_cons.mp z with z|z
    ·cases z;have:kind=.cell:=by cases kind<;>first|rfl|(exact absurd hk (by decide))
     subst this;exact .inr Zqs
    ·exact .inl z
   ·exact .inr (Zqm _ z)
  ·rcases zce r n acc h with z|z
   ·exact .inl z
   ·exact .inr (Zqm _ z)
def zlq:Option NameKind->Bool
 |some .cell=>true
 |_=>false
theorem zhe {o:Option NameKind}(h:zlq o=true):o=some .cell:=by
 cases o with
 |none=>exact zqb h
 |some k=>cases k<;>first|rfl|exact zqb h
structure CellsAt (scope:Scope)(env:Env)(cl:List (Str×Addr))(C:Addr)(h1:Heap):Prop where
 from_:∀ x c,cl.lookup x=some c->(env.cells.lookup x=some c/\scope.names.lookup x≠some .cell)\/(C<c/\h1.IsCell c none)
 free:∀ x,scope.names.lookup x=some .free->∃ c,cl.lookup x=some c/\env.cells.lookup x=some c
 own:∀ x,scope.names.lookup x=some .cell->∃ c,cl.lookup x=some c
 inj:∀ x y c,cl.lookup x=some c->cl.lookup y=some c->x=y
theorem ziK {scope:Scope}{env:Env}{cl:List (Str×Addr)}{h0:Heap}{C:Addr}(he:∀ x c,cl.lookup x=some c->env.cells.lookup x=some c)(hf:∀ y∈scope.names,y.2=.free->∃ c,cl.lookup y.1=some c)
 (inj:∀ x y c,env.cells.lookup x=some c->env.cells.lookup y=some c->x=y) (low:∀ x c,env.cells.lookup x=some c->c<=C) (hC:h0.objs.size=C+1) (hc:∀ y∈scope.names,y.2=.cell->scope.names.lookup y.1=some .cell) :
 CellsAt scope env (cellsFrom (C+1) scope.names cl) C (pushCells h0 scope.names):=by
 have ok:=cellsFrom_ok scope.names h0 (C+1) [] ⟨fun _ _ hm=>(nomatch hm),List.Pairwise.nil⟩ (Nat.le_of_eq hC.symm);rw [hC] at ok;have look:∀ x c,(cellsFrom (C+1) scope.names cl).lookup x=some c->((x,c)∈cellsFrom (C+1) scope.names [] )\/(cl.lookup x=some c/\scope.names.lookup x≠some .cell):=fun x c e=>by
  rw [zbm,List.lookup_append] at e;cases q:(cellsFrom (C+1) scope.names []).lookup x with
  |some d =>
   rw [q] at e;have e:some d=some c:=e;obtain rfl:=Zqi e;exact .inl (PySem.mem_of_lookup q)
  |none =>
   rw [q] at e;refine .inr ⟨e,fun z=>?_⟩;have:=W.cellsFrom_some scope.names (C+1) [] (.inl z);rw [q] at this;exact zqb this
 refine ⟨fun x c e=>?_,fun x e=>?_,fun x e=>?_,fun x y c e1 e2=>?_⟩
 ·rcases look x c e with z|⟨z1,z2⟩
  ·exact .inr ⟨(ok.empty x c z).2,(ok.empty x c z).1⟩
  ·exact .inl ⟨he x c z1,z2⟩
 ·obtain ⟨c,hc'⟩:=hf (x,.free) (PySem.mem_of_lookup e) rfl;refine ⟨c,?_,he x c hc'⟩;rw [zbm,List.lookup_append];cases q:(cellsFrom (C+1) scope.names []).lookup x with
  |some d =>
   rcases zce _ _ _ (PySem.mem_of_lookup q) with z|z
   ·cases z
   ·have:=hc (x,.cell) z rfl;rw [e] at this;cases this
  |none=>exact hc'
 ·exact Option.isSome_iff_exists.mp (W.cellsFrom_some scope.names (C+1) cl (.inl e))
 ·rcases look x c e1 with z|⟨z1,_⟩<;>rcases look y c e2 with w|⟨w1,_⟩
  ·exact PySem.name_of_addr ok.apart z w
  ·exact absurd (low y c (he y c w1)) (Nat.not_le_of_lt (ok.empty x c z).2)
  ·exact absurd (low x c (he x c z1)) (Nat.not_le_of_lt (ok.empty y c w).2)
  ·exact inj x y c (he x c z1) (he y c w1)
theorem zd4 {M:Model}{A:Around}{E:Value->Shared->Prop}{s:Shared}{scope:Scope}{globals:Addr}{cl:List (Str×Addr)}{qual:Str}{env:Env}{Q:Env->Shared->Prop}
 (hQ:Q (newEnv scope s.heap.objs.size globals (cellsFrom (s.heap.objs.size+1) scope.names cl) qual none .none (some env) builtinsNs) { s with heap:=pushCells (s.heap.push { cls:=.type "dict",data:=.dict #[] }) scope.names }) :
 wpAny M A (newFunctionEnv scope globals cl [] qual none .none (some env)) Q E s:=by
 simp only [newFunctionEnv,Option.isSome_some,if_true];refine wpAny_bind (wpAny_alloc ?_);refine wpAny_bind (wpAny_layCells _ (fun name kind cells=>by cases hkc:kind == NameKind.cell<;>simp [hkc]) _ _ _ _ ?_);rw [show ({ s with heap:=s.heap.push { cls:=.type "dict",data:=.dict #[] } }:Shared).heap.objs.size=s.heap.objs.size+1 from Heap.size_push ..];rw [List.forIn_nil];exact wpAny_bind (wpAny_pure (wpAny_pure hQ))
def zgZ (X:Cx)(C:Addr):Value->Shared->Prop:=fun x s'=>∃ m,s'.heap.Ns C m/\∀ h',Heap.SameBut C s'.heap h'->∀ cenv:Env,cenv.locals=C->wpAny (model X.prog X.w) X.A (passOn "comprehension.variables-let-go" x cenv:Sem Value) (fun _ _=>False) X.xe { s' with heap:=h' }
def za4 (X:Cx)(scope:Scope)(N:List Str)(cl:List (Str×Addr))(C:Addr)(s:Shared)(H:Hp)(ex:List Addr):Cx where
 prog:=X.prog
 w:=X.w
 K:=X.K
 mg:=X.mg
 base:=X.base
 A:=X.A
 N:=N
 s₀:=s
 H₀:=H
 env:=compEnvC scope cl C X.env
 outer:=X.stack
 stack:=X.stack
 ex:=ex
 fn:=fun x=>zlq (scope.names.lookup x)
 calm:=X.calm
 pn:=[]
 xe:=notedBy (model X.prog X.w) X.A (compEnvC scope cl C X.env) (zgZ X C)
def zfJ (X:Cx)(C:Addr)(s:Shared)(H:Hp)(ex:List Addr):Prop:=∃ pins σ,Inv X pins σ H s/\(∀ b∈ex,FpOk X pins H b)/\s.heap.objs.size<=C
def zho (cap:List (Option Nat))(σ : St):St:=cap.map fun o=>o.bind fun j=>(σ[j]?).join
structure CompOk (X:Cx)(scope:Scope)(N:List Str)(cap:List (Option Nat)):Prop where
 kind:scope.kind=.function
 loc:∀ y∈scope.names,y.2=.local->scope.names.lookup y.1=some .local
 cell:∀ y∈scope.names,y.2=.cell->scope.names.lookup y.1=some .cell
 free:∀ y∈scope.names,y.2=.free->X.env.kindOf y.1=some .cell\/X.env.kindOf y.1=some .free
 len:cap.length=N.length
 cap:∀ (i j:Nat) (x:Str),cap[i]? = some (some j)->N[i]? = some x->X.N[j]? = some x/\scope.names.lookup x=some .free
def zbt (scope:Scope)(env:Env)(N' N:List Str)(cap:List (Option Nat)):Bool :=
 decide (scope.kind=.function)&&scope.names.all (fun y => !decide (y.2=.local)||decide (scope.names.lookup y.1=some .local))&&scope.names.all (fun y => !decide (y.2=.cell)||decide (scope.names.lookup y.1=some .cell)) &&
 scope.names.all (fun y => !decide (y.2=.free)||(decide (env.kindOf y.1=some .cell)||decide (env.kindOf y.1=some .free)))&&decide (cap.length=N'.length) &&
 (N'.zip cap).all (fun p=>match p.2 with|none=>true|some j=>decide (N[j]? = some p.1)&&decide (scope.names.lookup p.1=some .free))
theorem CompOk.of {X:Cx}{scope:Scope}{N:List Str}{cap:List (Option Nat)}(h:zbt scope X.env N X.N cap=true):CompOk X scope N cap:=by
 unfold zbt at h;simp only [Bool.and_eq_true,List.all_eq_true,decide_eq_true_eq,Bool.or_eq_true,Bool.not_eq_true',decide_eq_false_iff_not] at h;obtain ⟨⟨⟨⟨⟨h1,h2⟩,h3⟩,h4⟩,h5⟩,h6⟩:=h;refine ⟨h1,fun y hy hl=>?_,fun y hy hl=>?_,fun y hy hf=>?_,h5,fun i j x e1 e2=>?_⟩
 ·rcases h2 y hy with z|z
  ·exact absurd hl z
  ·exact z
 ·rcases h3 y hy with z|z
  ·exact absurd hl z
  ·exact z
 ·rcases h4 y hy with z|z
  ·exact absurd hf z
  ·exact z
 ·have hm:(x,some j)∈N.zip cap:=by
   refine List.mem_of_getElem? (i:=i) ?_;rw [List.getElem?_zip_eq_some];exact ⟨e2,e1⟩
  have q:=h6 (x,some j) hm;simpa using q
section
variable {X:Cx}{scope:Scope}{N:List Str}{cap:List (Option Nat)}{pins:List (Addr×Obj)}{σ : St}{H:Hp}{s:Shared}{cl:List (Str×Addr)}{C D:Addr}{fp:List Addr}
theorem zmL {h1:Heap}{tk:Nat}{m:Str->Option Value}(ok:CompOk X scope N cap)(I:Inv X pins σ H s)(hf:∀ b∈fp,FpOk X pins H b)(hlt:∀ b∈fp,b<s.heap.objs.size)
 (hcl:CellsAt scope X.env cl C h1)
 (hC:s.heap.objs.size<=C) (old:∀ b o,s.heap.get? b=some o->h1.get? b=some o) (hns:h1.Ns C m) :
 Inv (za4 X scope N cl C s H fp) [] (zho cap σ) H { s with heap:=h1,toks:=tk }:=by
 have kf:∀ x,(za4 X scope N cl C s H fp).env.kindOf x=some .cell\/(za4 X scope N cl C s H fp).env.kindOf x=some .free->scope.names.lookup x=some .free\/scope.names.lookup x=some .cell:=fun x h=>by
  rcases h with h|h
  ·exact (zbK (env:=X.env) (x:=x) (names:=scope.names)).2 _ h (.inl rfl)
  ·exact (zbK (env:=X.env) (x:=x) (names:=scope.names)).2 _ h (.inr rfl)
 refine ⟨⟨I.ok.mod,ok.kind,I.ok.glob,I.ok.blt,hC,hcl.inj,fun x h=>?_,fun x c z e=>?_,I.ok.hd,I.ok.frames,.inl rfl,fun b hb=>⟨?_,fun x c e=>?_⟩,I.bs,Nat.le_trans I.ok.bsz I.sz,
  fun b o e hb=>?_,fun b hb z=>?_,I.stack,I.stkFree⟩,rfl,I.bare,Un.kept old,⟨m,hns,fun i x v e1 e2 e3=>?_⟩,fun x c e=>?_,I.hok.fresh hC,fun x c e=>?_,fun p hp=>absurd hp (by show ¬ p∈([]:List (Addr×Obj))++[];simp),I.hok.kept old,?_⟩
 ·rcases kf x h with q|q
  ·obtain ⟨c,e,_⟩:=hcl.free x q;exact ⟨c,e⟩
  ·exact hcl.own x q
 ·rcases hcl.from_ x c e with ⟨_,q⟩|⟨q,_⟩
  ·exact absurd (zhe z) q
  ·exact Nat.le_trans hC (Nat.le_of_lt q)
 ·exact Nat.ne_of_lt (Nat.lt_of_lt_of_le (hlt b hb) hC)
 ·rcases hcl.from_ x c e with ⟨q,_⟩|⟨q,_⟩
  ·exact (hf b hb).2.2.2.2.1 x c q
  ·exact Nat.ne_of_gt (Nat.lt_trans (Nat.lt_of_lt_of_le (hlt b hb) hC) q)
 ·rcases (hf b hb).2.2.2.1 with z|z
  ·exact I.ok.noex b o e z
  ·exact absurd (Nat.lt_of_lt_of_le (Heap.lt_size e) (Nat.le_trans I.ok.bsz z)) (Nat.lt_irrefl _)
 ·rcases List.mem_cons.mp (I.stkSub b z) with q|q
  ·exact (hf b hb).2.1 q
  ·exact (hf b hb).2.2.1 q
 ·have e1:N[i]? = some x:=e1;have hc:∃ j,cap[i]? = some (some j) /\ σ[j]? = some (some v):=by
   have e2:(cap.map fun o=>o.bind fun j=>(σ[j]?).join)[i]? = some (some v):=e2;rw [List.getElem?_map] at e2;cases q:cap[i]? with
   |none=>rw [q] at e2;exact zqn e2
   |some o =>
    rw [q] at e2;cases o with
    |none=>cases e2
    |some j =>
     have e2:some ((σ[j]?).join)=some (some v):=e2;cases q2:σ[j]? with
     |none=>rw [q2] at e2;cases e2
     |some w=>rw [q2] at e2;exact ⟨j,rfl,by cases e2;exact q2⟩
  obtain ⟨j,c1,c2⟩:=hc;obtain ⟨n1,n2⟩:=ok.cap i j x c1 e1;obtain ⟨m0,_,hl⟩:=I.loc;have fr:=ok.free (x,.free) (PySem.mem_of_lookup n2) rfl;obtain ⟨u,r,l⟩:=hl j x v n1 c2 (fr.elim (fun z=>.inr (.inl z)) fun z=>.inr (.inr z));refine ⟨u,r,.inr ⟨(zbK (env:=X.env) (x:=x) (names:=scope.names)).1 n2,?_⟩⟩;rcases l with ⟨k,_⟩|⟨_,c,ec,z⟩
  ·have k:X.env.kindOf x=some .local:=k;rcases fr with f|f<;>· rw [k] at f;cases f
  ·obtain ⟨c',e',e''⟩:=hcl.free x n2;rw [ec] at e'';obtain rfl:=Zqi e'';exact ⟨c,e',z.keeps old⟩
 ·rcases hcl.from_ x c e with ⟨q,_⟩|⟨_,q⟩
  ·obtain ⟨v,z⟩:=I.cell x c q;exact ⟨v,z.keeps old⟩
  ·exact ⟨none,q⟩
 ·rcases hcl.from_ x c e with ⟨q,_⟩|⟨q,_⟩
  ·exact I.freeC x c q
  ·exact I.hok.fresh (Nat.le_trans hC (Nat.le_of_lt q))
 ·show (cap.map _).length=N.length;rw [Zql];exact ok.len
theorem zmv {σ':St}{H':Hp}{s':Shared}{ys:List V}{its:List Value}{k:Nat}{h':Heap}{Q:VK}(I:Inv X pins σ H s)(hf:∀ b∈fp,FpOk X pins H b)(hC:s.heap.objs.size<=C)(hD:s.heap.objs.size<=D)(hDC:D≠C)
 (J:Inv (za4 X scope N cl C s H fp) [] σ' H' s') (hd:s'.heap.get? D=some { cls:=.type "list",data:=.seq its.toArray k }) (hn:H' D=none) (rv:Vals ys its) (hz:ys.length<=sizeLine) (hs:Heap.SameBut C s'.heap h')
 (q:Q (.ref D) (upd H' D (.lst ys))):EP X pins σ Q (.ref D) { s' with heap:=h' }:=by
 have nC:∀ b o,s.heap.get? b=some o->b≠C:=fun b o e=>Nat.ne_of_lt (Nat.lt_of_lt_of_le (Heap.lt_size e) hC);have nD:∀ b o,s.heap.get? b=some o->b≠D:=fun b o e=>Nat.ne_of_lt (Nat.lt_of_lt_of_le (Heap.lt_size e) hD);have tD:∀ b u,H' b=some u->b≠D:=fun b u e z=>by rw [z,hn] at e;exact zqn e
 have tC:∀ b u,H' b=some u->b≠C:=fun b u e z=>by
  have:=J.free;rw [z] at e;rw [show H' C=none from this] at e;exact zqn e
 have B:Un (frs X.stack) fp H H' s.heap s'.heap:=J.base;refine ⟨.ref D,upd H' D (.lst ys),I.call' (s':={ s' with heap:=h' }) (ch:=fp) J.os ?_ ?_ J.bare (fun b hb=>⟨(hf b hb).2.2.2.1,(hf b hb).2.1,(hf b hb).2.2.2.2.1,(hf b hb).2.2.2.2.2⟩),rfl,q⟩
 ·refine ⟨fun b o e n hb hx=>(hs.2 b (nC b o e)).trans (B.keep b o e n hb hx),fun b o e n hb hx=>?_,fun b o e n hx=>?_,fun b o e hx=>?_,fun b xs e=>?_,fun b o u e=>?_,fun b ps e=>?_⟩
  ·obtain ⟨sl,z⟩:=B.slot b o e n hb hx;exact ⟨sl,(hs.2 b (nC b o e)).trans z⟩
  ·rw [zaj (nD b o e)];exact B.free b o e n hx
  ·obtain ⟨o',z⟩:=B.there b o e hx;exact ⟨o',(hs.2 b (nC b o e)).trans z⟩
  ·have z:=B.tups b xs e;rw [zaj (tD b _ z)];exact z
  ·have z:=B.frzs b o u e;rw [zaj (tD b _ z)];exact z
  ·obtain ⟨more,z⟩:=B.tbls b ps e;exact ⟨more,by rw [zaj (tD b _ z)];exact z⟩
 ·intro b u e;by_cases hb:b=D
  ·subst hb;rw [zai] at e;obtain rfl:=Zqi e;exact ⟨hz,its,k,rv,(hs.2 b hDC).trans hd⟩
  ·rw [zaj hb] at e;refine (J.hok b u e).stay (fun c v hc z=>(hs.2 c ?_).trans z) (fun c z=>by rw [zaj (tD c _ z)];exact z) (fun c xs z=>by rw [zaj (tD c _ z)];exact z);rcases hc with hc|hc
   ·rw [hc];exact tC b u e
   ·exact tC c _ hc
end
def compR (cap:List (Option Nat))(g:TG)(te:TE)(σ : St)(Q:VK):It->Hp->Prop:=fun J H1=>∃ W:Nat->Nat->List V->St->Hp->Prop,(∃ m,W 0 m [] (zho cap σ) H1)/\∀ i m ys σ' H',W i m ys σ' H'->ys.length<sizeLine /\
 (
  (J.stop i H'/\∀ D,H' D=none->Q (.ref D) (upd H' D (.lst ys))) \/
  (J.go i H'/\∀ x H2,J.yld i H' x H2->g x σ' H2 fun σ2 H3=>te σ2 H3 fun y H4=>∃ m',m'<m/\W (i+1) m' (ys++[y]) σ2 H4))
def ziL (cap:List (Option Nat))(wi:TI)(g:TG)(te:TE):TE:=fun σ H Q=>wi σ H (compR cap g te σ Q)
def zpq (cap:List (Option Nat))(g:TG)(tt:TT)(te:TE)(σ : St)(Q:VK):It->Hp->Prop:=fun J H1=>∃ W:Nat->Nat->List V->St->Hp->Prop,(∃ m,W 0 m [] (zho cap σ) H1)/\∀ i m ys σ' H',W i m ys σ' H'->ys.length<sizeLine /\
 (
  (J.stop i H'/\∀ D,H' D=none->Q (.ref D) (upd H' D (.lst ys))) \/
  (J.go i H'/\∀ x H2,J.yld i H' x H2->g x σ' H2 fun σ2 H3=>tt σ2 H3 fun b H4=>if b=true then te σ2 H4 (fun y H5=>∃ m',m'<m/\W (i+1) m' (ys++[y]) σ2 H5) else ∃ m',m'<m/\W (i+1) m' ys σ2 H4))
def zeU (cap:List (Option Nat))(wi:TI)(g:TG)(tt:TT)(te:TE):TE:=fun σ H Q=>wi σ H (zpq cap g tt te σ Q)
section
variable {X:Cx}{tg iter elt c:Expr}{scope:Scope}{pos:Pos}{wi:TI}{g:TG}{te:TE}{tt:TT}
def zed (X:Cx)(pins:List (Addr×Obj))(σ : St)(Q:VK)(use:Option (Value->Sem Unit))(R:Value->Shared->Prop):Prop :=
 ∀ (C D:Addr) (m:Str->Option Value) (s5:Shared) (r:Flow),s5.heap.Ns C m->¬ C=X.env.locals->C∉X.fs->X.s₀.heap.objs.size<=C->(∀ x c,X.env.cells.lookup x=some c->c≠C)->(∀ p∈X.pn++pins,p.1≠C) ->
  (∀ h',Heap.SameBut C s5.heap h'->EP X pins σ (fun v H'=>H' C=none/\Q v H') (.ref D) { s5 with heap:=h' })->compPost (model X.prog X.w) X.A X.xe use R (.ref D) C (.ok r) s5
theorem zn3 {pins:List (Addr×Obj)}{σ : St}{Q:VK}:zed X pins σ Q none (EP X pins σ Q):=fun C D m s5 r hm _ _ _ _ _ k=>⟨m,hm,fun h' hs'=>by
 obtain ⟨v,H',I',rv,_,q⟩:=k h' hs';exact ⟨v,H',I',rv,q⟩⟩
def TurnI (X:Cx)(tg elt:Expr)(it acc:Value)(env:Env)(R:Result->Shared->Prop)(I:Nat->Shared->Prop)(test:(Bool->Shared->Prop)->Shared->Prop)(n:Nat)(s:Shared):Prop :=
 let E:Value->Shared->Prop:=notedBy (model X.prog X.w) X.A env fun e s'=>R (.error e) s'
 wpAny (model X.prog X.w) X.A (pyNext it) (fun r s1=>match r with
  |none=>R (.ok .next) s1
  |some v=>wpAny (model X.prog X.w) X.A (letOwnedTupleGo tg it v) (fun _ s2=>wpAny (model X.prog X.w) X.A (assign tg env v) (fun _ s3=>test (fun ok s4=>if ok=true then wpAny (model X.prog X.w) X.A (eval elt env) (fun x s5=>wpAny (model X.prog X.w) X.A (call (.builtin "list.append") [acc,x]) (fun _ s6=>∃ m,m<n/\I m s6) E s5) E s4 else ∃ m,m<n/\I m s4) s3) E s2) E s1) E s
theorem zhE {ifs:List Expr}(N:List Str){test:Env->(Result->Shared->Prop)->(Bool->Shared->Prop)->Shared->Prop}
 (lp:∀ {it acc:Value} {env:Env} {R:Result->Shared->Prop} {s:Shared} (I:Nat->Shared->Prop),(∀ n s,I n s->TurnI X tg elt it acc env R I (test env R) n s)->∀ n,I n s->codeAny (model X.prog X.w) X.A (.compLoop (.ListComp elt [⟨tg,iter,ifs,0⟩] scope pos) 0 it acc env) R s)
 (ht:∀ cl C s H ex {pins:List (Addr×Obj)} {s7:Shared} {σ7:St} {H7:Hp} {R:Result->Shared->Prop} {q:Bool->Hp->Prop} {Q:Bool->Shared->Prop},zfJ X C s H ex->(∀ e s',zgZ X C e s'->R (.error e) s')->Inv (za4 X scope N cl C s H ex) pins σ7 H7 s7->tt σ7 H7 q->(∀ b s8 H8,Inv (za4 X scope N cl C s H ex) pins σ7 H8 s8->q b H8->Q b s8)->test (compEnvC scope cl C X.env) R Q s7)
 (cap:List (Option Nat)) (hc:X.calm=true) (okB:zbt scope X.env N X.N cap=true) (hi:PI X tg iter wi) (hg:∀ cl C s H ex,PG (za4 X scope N cl C s H ex) tg g) (he:∀ cl C s H ex,zfJ X C s H ex->PE (za4 X scope N cl C s H ex) elt te)
 (hs:∀ x,foldedSetIterable iter X.env x=pure x) {use:Option (Value->Sem Unit)} {R:Value->Shared->Prop} {fpos:Pos} {pins:List (Addr×Obj)} {s:Shared} {σ : St} {H:Hp} {Q:VK} (I:Inv X pins σ H s) (h:zeU cap wi g tt te σ H Q) (fin:zed X pins σ Q use R) :
 wpAny (model X.prog X.w) X.A (comprehension (.ListComp elt [⟨tg,iter,ifs,0⟩] scope pos) scope X.env fpos (newList []) false (eval iter X.env) use) R X.xe s:=by
 have ok:=CompOk.of okB;obtain ⟨cl0,hcl,hcl1,hcl2⟩:=zpx X.env scope fun y hy hf=>I.ok.has y.1 (ok.free y hy hf);refine wpAny_comprehension_free (use:=use) rfl hs hcl ok.kind ok.loc (thn (hi pins s σ H _ I h) fun xv s1 h1=>thn h1 fun itv s2 h2=>?_);obtain ⟨it,fp,tn,J,H2,e,I2,T,st2,f2,W,⟨m0,w0⟩,turn⟩:=h2;subst e;have hlt:∀ b∈fp,b<s2.heap.objs.size:=fun b hb=>let ⟨_,e,_⟩:=T.obj _ _ st2 b hb;Heap.lt_size e
 refine wpAny_newObj_type (zd4 ?_);dsimp only;generalize hP:s2.heap.push { cls:=.type "list",dict:=none,data:=.seq ([]:List Value).toArray }=P2;have hC:P2.objs.size=s2.heap.objs.size+1:=by rw [<- hP,Heap.size_push]
 have hDC:s2.heap.objs.size≠P2.objs.size:=by rw [hC];exact Nat.ne_of_lt (Nat.lt_succ_self _)
 have hCle:s2.heap.objs.size<=P2.objs.size:=by rw [hC];exact Nat.le_succ _
 have below:∀ b,b<s2.heap.objs.size->b≠P2.objs.size/\b≠s2.heap.objs.size:=fun b hb=>⟨by rw [hC];exact Nat.ne_of_lt (Nat.lt_succ_of_lt hb),Nat.ne_of_lt hb⟩;have hcc:CellsAt scope X.env (cellsFrom (P2.objs.size+1) scope.names cl0) P2.objs.size (pushCells (P2.push { cls:=.type "dict",data:=.dict #[] }) scope.names) :=
  ziK hcl1 hcl2 I2.ok.inj (fun x c e=>Nat.le_trans (Nat.le_of_lt (let ⟨_,_,ho,_⟩:=I2.cell x c e;Heap.lt_size ho)) hCle) (Heap.size_push ..) ok.cell
 have hns1:(pushCells (P2.push { cls:=.type "dict",data:=.dict #[] }) scope.names).Ns P2.objs.size (fun _=>none):=(Heap.Ns.new P2 (.type "dict")).keeps (pushCells_keeps _ _);generalize cellsFrom (P2.objs.size+1) scope.names cl0=cl at hcc ⊢;have old:∀ b o,s2.heap.get? b=some o->(pushCells (P2.push { cls:=.type "dict",data:=.dict #[] }) scope.names).get? b=some o:=fun b o e=>pushCells_keeps _ _ b o (Heap.get?_push_of_some _ (hP ▸ Heap.get?_push_of_some _ e));have hacc:(pushCells (P2.push { cls:=.type "dict",data:=.dict #[] }) scope.names).get? s2.heap.objs.size=some { cls:=.type "list",data:=.seq ([]:List Value).toArray 0 }:=pushCells_keeps _ _ _ _ (Heap.get?_push_of_some _ (hP ▸ Heap.get?_push_size _ rfl));generalize pushCells (P2.push { cls:=.type "dict",data:=.dict #[] }) scope.names=g1 at hcc hns1 old hacc ⊢;have stat:∀ {H':Hp} {pl:List (Addr×Obj)},(∀ b∈fp,H' b=none)->(∀ p∈pl,p.1∉fp)->∀ b∈fp,FpOk (za4 X scope N cl P2.objs.size s2 H2 fp) pl H' b:=fun {H' pl} hn hp b hb=>by
  refine ⟨hn b hb,(below b (hlt b hb)).1,fun z=>?_,.inl hb,fun x c e=>?_,fun p hq z=>?_⟩
  ·rcases List.mem_cons.mp (I2.stkSub b z) with q|q
   ·exact (f2 b hb).2.1 q
   ·exact (f2 b hb).2.2.1 q
  ·rcases hcc.from_ x c e with ⟨q,_⟩|⟨q,_⟩
   ·exact (f2 b hb).2.2.2.2.1 x c q
   ·exact Nat.ne_of_gt (Nat.lt_trans (Nat.lt_of_lt_of_le (hlt b hb) hCle) q)
  ·have hq:p∈([]:List (Addr×Obj))++pl:=hq;rw [List.nil_append] at hq;exact hp p hq (by rw [z];exact hb)
 have nD:s2.heap.objs.size∉fp:=fun z=>absurd (hlt _ z) (Nat.lt_irrefl _);have loop:∀ s3:Shared,s3={ s2 with heap:=g1 } ->
  codeAny (model X.prog X.w) X.A (.compLoop (.ListComp elt [⟨tg,iter,ifs,0⟩] scope pos) 0 (.ref it) (.ref s2.heap.objs.size) (compEnvC scope cl P2.objs.size X.env))
   (compPost (model X.prog X.w) X.A X.xe use R (.ref s2.heap.objs.size) P2.objs.size) s3:=by
  rintro s3 rfl;have I0:=zmL (tk:=s2.toks) ok I2 f2 hlt hcc hCle old hns1;refine lp (fun n s'=>∃ i ys its k σ' H',Inv (za4 X scope N cl P2.objs.size s2 H2 fp) [] σ' H' s'/\tn i s'.heap/\(∀ b∈fp,H' b=none)/\s'.heap.get? s2.heap.objs.size=some { cls:=.type "list",data:=.seq (List.toArray its) k } /\
   H' s2.heap.objs.size=none/\Vals ys its/\W i n ys σ' H') ?_ m0
   ⟨0,[],[],0,zho cap σ,H2,I0,T.keep _ _ _ st2 (fun b _ o e=>old b o e),fun b hb=>(f2 b hb).1,hacc,I2.hok.fresh (Nat.le_refl _),.nil,w0⟩
  have cat:zfJ X P2.objs.size s2 H2 fp:=⟨_,_,I2,f2,hCle⟩;have ce:∀ e s',zgZ X P2.objs.size e s'->compPost (model X.prog X.w) X.A X.xe use R (.ref s2.heap.objs.size) P2.objs.size (.error e) s':=fun e s' h=>by cases use<;>exact h
  have xe:∀ e s',(za4 X scope N cl P2.objs.size s2 H2 fp).xe e s'->notedBy (model X.prog X.w) X.A (compEnvC scope cl P2.objs.size X.env) (fun e s'=>compPost (model X.prog X.w) X.A X.xe use R (.ref s2.heap.objs.size) P2.objs.size (.error e) s') e s':=fun e s' h=>wpAny_mono h (fun _ s2 q=>ce e s2 q) fun e s2 q=>ce e s2 q;rintro n s4 ⟨i,ys,its,k,σ4,H4,I4,st4,fr4,hd4,hn4,rv4,w4⟩;obtain ⟨hz,tn4⟩:=turn i n ys σ4 H4 w4;have J4:Inv (za4 X scope N cl P2.objs.size s2 H2 fp) [(s2.heap.objs.size,{ cls:=.type "list",data:=.seq its.toArray k })] σ4 H4 s4:=I4.pins_of fun p hp=>by
   have e:=List.mem_singleton.mp hp;subst e;refine ⟨hd4,hn4,hDC,?_,fun v z=>by cases z⟩;exact fun z=>absurd (Nat.lt_of_lt_of_le (by
    rcases List.mem_cons.mp (I2.stkSub _ z) with q|q
    ·exact Nat.lt_of_le_of_lt (Nat.le_of_eq q) I2.lt
    ·obtain ⟨_,o,ho,_⟩:=I2.ok.funs.mem q;exact Nat.lt_of_lt_of_le (Heap.lt_size ho) I2.sz) (Nat.le_refl s2.heap.objs.size)) (Nat.lt_irrefl _)
  have np:∀ p ∈ [(s2.heap.objs.size,({ cls:=.type "list",data:=.seq its.toArray k }:Obj))],p.1∉fp:=fun p hp=>by
   have e:=List.mem_singleton.mp hp;subst e;exact nD
  rcases tn4 with ⟨stop,qn⟩|⟨go,step⟩
  ·refine wpAny_mono (T.done (za4 X scope N cl P2.objs.size s2 H2 fp) rfl rfl rfl hc i _ s4 σ4 H4 (fun _ _=>False) J4 (stat fr4 np) st4 stop) (fun r s5 h5=>?_) fun _ _ f=>f.elim;obtain ⟨rfl,I5⟩:=h5;obtain ⟨m,hm,_⟩:=id I5.loc;have p5:=I5.pin (s2.heap.objs.size,_) (List.mem_append_right _ Zqs);refine fin _ _ m _ _ hm (Nat.ne_of_gt (Nat.lt_of_lt_of_le I2.lt hCle)) (I2.nofs hCle) (Nat.le_trans I2.sz hCle) (fun x c e z=>?_) (fun p hp z=>?_) fun h' hs'=>zmv I2 f2 hCle (Nat.le_refl _) hDC (I5.pins_of fun p hp=>nomatch hp) p5.1 p5.2.1 rv4 (Nat.le_of_lt hz) hs' ⟨by rw [zaj (Ne.symm hDC)];exact I5.free,qn _ p5.2.1⟩
   ·obtain ⟨v,o,ho,hd⟩:=I2.cell x c e;have:=Heap.lt_size ho;rw [z] at this;exact absurd (Nat.lt_of_lt_of_le this hCle) (Nat.lt_irrefl _)
   ·have:=Heap.lt_size (I2.pin p hp).1;rw [z] at this;exact absurd (Nat.lt_of_lt_of_le this hCle) (Nat.lt_irrefl _)
  ·refine wpAny_mono (T.item (za4 X scope N cl P2.objs.size s2 H2 fp) rfl rfl rfl hc i _ s4 σ4 H4 (fun _ _=>False) J4 (stat fr4 np) st4 go) (fun r s5 h5=>?_) fun _ _ f=>f.elim;obtain ⟨u,rfl,h5⟩:=h5;refine wpAny_mono h5 (fun _ s6 h6=>?_) fun _ _ f=>f.elim;obtain ⟨x,H6,I6,r6,y6,st6,fr6⟩:=h6;have I6':=I6.pinned (stat fr6 np) (T.obj _ _ st6);refine wpAny_mono (hg cl P2.objs.size s2 H2 fp _ s6 σ4 H6 x u _ I6' r6 (step x H6 y6)) (fun _ s7 h7=>?_) xe;obtain ⟨σ7,H7,I7,q7⟩:=h7;refine ht cl P2.objs.size s2 H2 fp cat ce I7 q7 fun bv s8 H8 I8 q8=>?_;have keepT:∀ (H9:Hp) (s9:Shared) (σ9:St),Inv (za4 X scope N cl P2.objs.size s2 H2 fp) ([(s2.heap.objs.size,{ cls:=.type "list",data:=.seq its.toArray k })]++zfH fp s6.heap) σ9 H9 s9->(∀ b∈fp,∀ o,s6.heap.get? b=some o->s9.heap.get? b=some o)/\∀ b∈fp,H9 b=none:=fun H9 s9 σ9 I9=>by
    refine ⟨fun b hb o e=>(I9.pin (b,o) (List.mem_append_right _ (List.mem_append_right _ (zc6 hb e)))).1,fun b hb=>?_⟩;obtain ⟨o,e,d⟩:=T.obj _ _ st6 b hb;exact (I9.pin (b,o) (List.mem_append_right _ (List.mem_append_right _ (zc6 hb e)))).2.1
   have p8:=I8.pin (s2.heap.objs.size,_) (List.mem_append_right _ (List.mem_append_left _ Zqs));cases bv with
   |false =>
    rw [if_neg (by simp)] at q8 ⊢;obtain ⟨m',hm',w8⟩:=q8;obtain ⟨z1,z2⟩:=keepT _ _ _ I8;exact ⟨m',hm',i+1,ys,its,k,σ7,H8,I8.pins_of (fun p hp=>nomatch hp),T.keep _ _ _ st6 z1,z2,p8.1,p8.2.1,rv4,w8⟩
   |true =>
    rw [if_pos rfl] at q8 ⊢;refine wpAny_mono (he cl P2.objs.size s2 H2 fp cat _ s8 σ7 H8 _ I8 q8) (fun yv s9 h9=>?_) xe;obtain ⟨y,H9,I9,ry,m',hm',w9⟩:=h9;have p9:=I9.pin (s2.heap.objs.size,_) (List.mem_append_right _ (List.mem_append_left _ Zqs));have hl:=rv4.length;refine append_at (hsz:=by show its.toArray.size<=sizeLine;rw [List.size_toArray,<- hl];exact Nat.le_of_lt hz) p9.1 fun h10 hs10 hd10=>?_;have I10:Inv (za4 X scope N cl P2.objs.size s2 H2 fp) [] σ7 H9 { s9 with heap:=h10 }:=(I9.pins_of (pins':=[]) fun p hp=>nomatch hp).turned (t':=s9.toks) (it:=s2.heap.objs.size) (fun b o hb e=>(hs10.2 b hb).trans e) p9.2.1 hDC (.inr (Nat.le_refl _))
     (fun x c e z=>by
      obtain ⟨v,o,ho,hd⟩:=I9.cell x c e;rw [z,p9.1] at ho;cases ho;cases hd) (fun p hp=>absurd hp (by show ¬ p∈([]:List (Addr×Obj))++[];simp))
    obtain ⟨z1,z2⟩:=keepT _ _ _ I9;refine ⟨m',hm',i+1,ys++[y],its++[yv],k+1,σ7,H9,I10,T.keep _ _ _ st6 (fun b hb o e=>?_),z2,?_,p9.2.1,Vals.append rv4 (.cons ry .nil),w9⟩
    ·have hb':b≠s2.heap.objs.size:=fun z=>nD (by rw [<- z];exact hb);exact (hs10.2 b hb').trans (z1 b hb o e)
    ·refine hd10.trans ?_;simp
 exact codeAny_compStart_list (loop _ rfl) (T.self _ 0 _ _ _ (T.keep _ _ _ st2 (fun b _ o e=>old b o e)) (loop _ rfl))
theorem zlo (N:List Str)(cap:List (Option Nat))(hc:X.calm=true)(okB:zbt scope X.env N X.N cap=true)(hi:PI X tg iter wi)(hg:∀ cl C s H ex,PG (za4 X scope N cl C s H ex) tg g)(he:∀ cl C s H ex,zfJ X C s H ex->PE (za4 X scope N cl C s H ex) elt te)
 (hs:∀ x,foldedSetIterable iter X.env x=pure x) {use:Option (Value->Sem Unit)} {R:Value->Shared->Prop} {fpos:Pos} {pins:List (Addr×Obj)} {s:Shared} {σ : St} {H:Hp} {Q:VK} (I:Inv X pins σ H s) (h:ziL cap wi g te σ H Q) (fin:zed X pins σ Q use R) :
 wpAny (model X.prog X.w) X.A (comprehension (.ListComp elt [⟨tg,iter,[],0⟩] scope pos) scope X.env fpos (newList []) false (eval iter X.env) use) R X.xe s :=
 zhE (tt:=fun _ H q=>q true H) (test:=fun _ _ Q s=>Q true s) N (fun I turn n h=>W.kcp_loop I turn n h) (fun _ _ _ _ _ _ _ _ _ _ _ _ _ _ I q k=>k true _ _ I q) cap hc okB hi hg he hs I h fin
theorem zmS (N:List Str)(cap:List (Option Nat))(hc:X.calm=true)(okB:zbt scope X.env N X.N cap=true)(hi:PI X tg iter wi)(hg:∀ cl C s H ex,PG (za4 X scope N cl C s H ex) tg g)(he:∀ cl C s H ex,zfJ X C s H ex->PE (za4 X scope N cl C s H ex) elt te)
 (hs:∀ x,foldedSetIterable iter X.env x=pure x:=by intro _;rfl):PE X (.ListComp elt [⟨tg,iter,[],0⟩] scope pos) (ziL cap wi g te):=by
 intro pins s σ H Q I h;rw [eval_ListComp];exact zlo N cap hc okB hi hg he hs I h zn3
theorem zkQ (N:List Str)(cap:List (Option Nat))(hc:X.calm=true)(okB:zbt scope X.env N X.N cap=true)(hi:PI X tg iter wi)(hg:∀ cl C s H ex,PG (za4 X scope N cl C s H ex) tg g)(he:∀ cl C s H ex,PE (za4 X scope N cl C s H ex) elt te)
 (hs:∀ x,foldedSetIterable iter X.env x=pure x:=by intro _;rfl):PE X (.ListComp elt [⟨tg,iter,[],0⟩] scope pos) (ziL cap wi g te):=zmS N cap hc okB hi hg (fun cl C s H ex _=>he cl C s H ex) hs
end
section
variable {X:Cx}
theorem znq:zaN X (.builtin "isinstance") (fun xs H Q=>∃ x n t b,xs=[x,.ty n]/\TyOf X.K H x t/\W.kitOne X.K t (.type n)=some b/\Q (.bl b) H):=by
 intro pins s σ H xs us Q I r h;obtain ⟨x,n,t,b,rfl,ty,e,q⟩:=h;obtain ⟨u,w',rfl,rx,rn⟩:=zsr r;obtain rfl:w'=Value.type n:=rn;exact zkN I rx ty e fun tk=>⟨.bl b,H,I.tok tk,rfl,q⟩
def zcS (P:Program)(w:World)(K:W.Frag)(mg:Str->Option Value)(base:Heap)(name:Str)(k:Nat)(ps:List Str)(sp:Sp):Prop :=
 ∃ f fd,FnOk P w K mg base CX0 k f fd ps sp/\zey K fd ps []/\W.keepIn K (.ref f)=true/\mg name=some (.ref f)
theorem zcS.mono {P:Program}{w:World}{K:W.Frag}{mg:Str->Option Value}{base:Heap}{name:Str}{j k:Nat}{ps:List Str}{sp:Sp}(c:zcS P w K mg base name j ps sp)(h:j<=k):zcS P w K mg base name k ps sp:=by
 obtain ⟨f,fd,F,r⟩:=c;exact ⟨f,fd,F.mono h,r⟩
theorem zoF {name:Str}{k:Nat}{ps:List Str}{sp:Sp}{p pos:Pos}{e:Expr}{es:List Expr}{t:TA}(c:zcS X.prog X.w X.K X.mg X.base name k ps sp)(hr:Room k X.A)(hg:Gl X name)(ha:PA X (e::es) t)
 (hdb:(name == ("__debug__" : Str))=false:=by decide) (he:starEach (e::es) X.env=(false,eval e X.env)::starEach es X.env:=by rfl) (hpl:(backTo pos (starEach es X.env)).any (·.1)=false:=by rfl) :
 PE X (.Call (.Name name p) (e::es) [] pos) (zq4 sp [] E0 t):=by
 obtain ⟨f,fd,F,b,hk,hm⟩:=c;exact zpw F hr hg hm hk b .nil zo9 ha hdb he hpl
end
theorem zbf {H:Hp}{p:Addr}(h:H p=none)(o:HO):Same H (upd H p o):=fun b u q=>by rw [zaj (zaC q h)];exact q
theorem small {n:Nat}(h:n<=1000):n<=sizeLine:=Nat.le_of_lt (zgf h)
theorem zdE {H H':Hp}{l:Addr}(o:HO)(s:Same H H')(h:H l=none):Same H (upd H' l o):=fun b u e=>by
 rw [zaj (zaC e h)];exact s b u e
section
variable {X:Cx}{pos:Pos}
end
theorem za5:bootBuiltins "len" = some (.builtin "len"):=boot_len
theorem zsu:bootBuiltins "min" = some (.builtin "min"):=boot_min
theorem zaA:bootBuiltins "isinstance" = some (.builtin "isinstance"):=boot_isinstance
theorem zs7:bootBuiltins "sum" = some (.builtin "sum"):=boot_sum
theorem zrK:bootBuiltins "int" = some (.type "int"):=boot_int
theorem zoK:bootBuiltins "bool" = some (.type "bool"):=boot_bool
theorem zb2:bootBuiltins "list" = some (.type "list"):=boot_list
theorem zdi:bootBuiltins "tuple" = some (.type "tuple"):=boot_tuple
theorem bt_set:bootBuiltins "set" = some (.type "set"):=boot_set
section
variable {prog:Program}{w:World}{K:Type}[DecidableEq K]{knd:KeyKind prog w K}
end
section
variable {prog:Program}{w:World}{K:Type}[DecidableEq K]{A:Around}{E:Value->Shared->Prop}{s:Shared}
end
section
variable {X:Cx}
end
def Once (r:List (Int×Int)):Prop:=(r.map (·.1)).Nodup
section
variable {X:Cx}{tg iter elt c:Expr}{scope:Scope}{pos:Pos}{wi:TI}{g:TG}{te:TE}{tt:TT}
theorem zjz (N:List Str)(cap:List (Option Nat))(hc:X.calm=true)(okB:zbt scope X.env N X.N cap=true)(hi:PI X tg iter wi)(hg:∀ cl C s H ex,PG (za4 X scope N cl C s H ex) tg g)(ht:∀ cl C s H ex,PT (za4 X scope N cl C s H ex) c tt)(he:∀ cl C s H ex,PE (za4 X scope N cl C s H ex) elt te)
 (hs:∀ x,foldedSetIterable iter X.env x=pure x) {use:Option (Value->Sem Unit)} {R:Value->Shared->Prop} {fpos:Pos} {pins:List (Addr×Obj)} {s:Shared} {σ : St} {H:Hp} {Q:VK} (I:Inv X pins σ H s) (h:zeU cap wi g tt te σ H Q) (fin:zed X pins σ Q use R) :
 wpAny (model X.prog X.w) X.A (comprehension (.ListComp elt [⟨tg,iter,[c],0⟩] scope pos) scope X.env fpos (newList []) false (eval iter X.env) use) R X.xe s :=
 zhE (test:=fun env R Q s=>wpAny (model X.prog X.w) X.A (isTrue c env (eval c env)) Q (notedBy (model X.prog X.w) X.A env fun e s'=>R (.error e) s') s) N (fun I turn n h=>W.kct_loop I turn n h)
  (fun cl C s H ex _ _ _ _ _ _ _ _ hR I q k=>wpAny_mono (ht cl C s H ex _ _ _ _ _ I q) (fun b s8 z=>by obtain ⟨H8,I8,q8⟩:=z;exact k b s8 H8 I8 q8) fun e s' hx=>wpAny_mono hx (fun _ s'' z=>hR _ _ z) fun _ _ z=>hR _ _ z) cap hc okB hi hg (fun cl C s H ex _=>he cl C s H ex) hs I h fin
end
section
variable {X:Cx}
def zlG (vw d:Addr):HO:=.ext fun h=>h.IsItemsView vw d
theorem zmw:MtR X "dict.items" (fun x vs H Q=>∃ d kvs,x=.ref d/\vs=[]/\H d=some (.dK kvs)/\∀ p,H p=none->Q (.ref p) (upd H p (zlG p d))):=by
 intro pins s σ H x vs v us Q I rx rv h;obtain ⟨d,kvs,rfl,rfl,hd,q⟩:=h;obtain rfl:v=Value.ref d:=rx;obtain rfl:us=[]:=Vals.zero rv;obtain ⟨z,lo,ws,rel,dd⟩:=znz I.hok hd;refine call_meetsIn PySem.F.slot_dict_items dd.typeIs PySem.F.entry_dict_items (PySem.F.args_dict_items_1 _) (meets_dict_items (zaF X.prog X.w) d lo) ⟨⟨ws,dd⟩,?_⟩;refine ⟨.ref s.heap.objs.size,upd H s.heap.objs.size (zlG s.heap.objs.size d),I.laid (t':=s.toks) (fun b o e=>Heap.get?_push_of_some _ e) (Nat.le_refl _) ?_,rfl,q _ (I.hok.fresh (Nat.le_refl _))⟩;exact ⟨⟨_,Heap.get?_push_size _ rfl,rfl,rfl⟩,⟨_,Heap.get?_push_size _ rfl⟩,fun h1 h2 z kk=>by
  obtain ⟨o,e,r⟩:=z;exact ⟨o,kk o e,r⟩⟩
end
def jw:Option Int->Option Int->Option Int
 |none,b=>b
 |some x,none=>some x
 |some x,some y=>some (if x > y then x else y)
end L2
namespace L2.DL
theorem zeZ {c:Prop}{_:Decidable c}{α : Type}{a z:α}(h:(if c then some a else none)=some z):c/\a=z:=by
 by_cases q:c
 ·rw [if_pos q] at h;exact ⟨q,Zqi h⟩
 ·rw [if_neg q] at h;exact zqn h
inductive D where
 |non|bl (b:Bool)|int (i:Int)|str (x:Str)|ty (n:String)|scr (ns:List Int)
 |tup (ds:List D)|lst (ds:List D)|dct (ks:List Key) (ds:List D)|ins (c:Str) (fs:List Str) (ds:List D)
 |exc (c:Str)|ucl (c:Str)
 |adr (a:Addr)|dcf (ks:List Key) (ds:List D)
 |pin (a:Addr) (d:D)
inductive Res (α : Type) where
 |ok (a:α)|ex (c:Str) (fs:List D)|no
def Res.bind {α β : Type}(r:Res α)(g:α -> Res β):Res β := match r with
 | .ok a=>g a
 | .ex c fs=>.ex c fs
 | .no=>.no
def Res.need {α : Type}(r:Res α)(p:α -> Prop)(q:Str->List D->Prop):Prop:=match r with
 | .ok a=>p a
 | .ex c fs=>q c fs
 | .no=>False
@[simp] theorem Res.bind_ok {α β : Type}(a:α)(g:α -> Res β):(Res.ok a).bind g=g a:=rfl
theorem Res.need_bind {α β : Type}{r:Res α}{g:α -> Res β}{p:β -> Prop}{q:Str->List D->Prop}(h:(r.bind g).need p q):r.need (fun a=>(g a).need p q) q:=by
 cases r<;>exact h
theorem Res.need.mono {α : Type}{r:Res α}{p p' : α -> Prop}{q q':Str->List D->Prop}(h:r.need p q)(hp:∀ a,p a->p' a)(hq:∀ c fs,q c fs->q' c fs):r.need p' q':=by
 cases r with
 |ok a=>exact hp a h
 |ex c fs=>exact hq c fs h
 |no=>exact h
theorem Res.need.monoE {α : Type}{r:Res α}{p p' : α -> Prop}{q q':Str->List D->Prop}(h:r.need p q)(hp:∀ a,r=.ok a->p a->p' a)(hq:∀ c fs,q c fs->q' c fs):r.need p' q':=by
 cases r with
 |ok a=>exact hp a rfl h
 |ex c fs=>exact hq c fs h
 |no=>exact h
def ExcO (C x:Addr):HO:=.ext fun h=>∃ o,h.get? x=some o/\o.cls=.ref C
def TupD (_:W.Frag)(H:Hp)(a:Addr)(xs:List V):Prop:=H a=some (.tup xs)
theorem TupD.same {K:W.Frag}{H H':Hp}{a:Addr}{xs:List V}(e:Same H H')(h:TupD K H a xs):TupD K H' a xs:=e _ _ h
theorem TupD.of {K:W.Frag}{H:Hp}{a:Addr}{xs:List V}(h:H a=some (.tup xs)):TupD K H a xs:=h
theorem TupD.sq {K:W.Frag}{H:Hp}{a:Addr}{xs:List V}(h:TupD K H a xs):SqT K H a xs:=SqT.of h
def LstD (_:W.Frag)(H:Hp)(a:Addr)(xs:List V):Prop:=Rd H a (.lst xs)
theorem LstD.same {K:W.Frag}{H H':Hp}{a:Addr}{xs:List V}(e:Same H H')(h:LstD K H a xs):LstD K H' a xs:=h.imp (fun q=>e _ _ q) fun ⟨o,q⟩=>⟨o,e _ _ q⟩
theorem LstD.of {K:W.Frag}{H:Hp}{a:Addr}{xs:List V}(h:H a=some (.lst xs)):LstD K H a xs:=.inl h
theorem LstD.sq {K:W.Frag}{H:Hp}{a:Addr}{xs:List V}(h:LstD K H a xs):SqL K H a xs:=.inl h
section
variable (K:W.Frag)
mutual
def IsD (H:Hp):D->V->Prop
 | .non,v=>v=.non
 | .bl b,v=>v=.bl b
 | .int i,v=>v=.int i
 | .str x,v=>v=.str x
 | .ty n,v=>v=.ty n
 | .scr ns,v=>∃ a,v=.ref a/\SqL K H a (ns.map V.int)
 | .tup ds,v=>∃ a xs,v=.ref a/\TupD K H a xs/\IsDs H ds xs
 | .lst ds,v=>∃ a xs,v=.ref a/\LstD K H a xs/\IsDs H ds xs
 | .dct ks ds,v=>∃ a xs,v=.ref a/\H a=some (.dK (ks.zip xs))/\ks.length=xs.length/\IsDs H ds xs
 | .ins c fs ds,v=>∃ a C dx xs,v=.ref a/\W.nsIn K mainGlobals c=some (some (.ref C))/\H a=some (.ins C dx (fs.zip xs))/\fs.length=xs.length/\IsDs H ds xs
 | .exc c,v=>∃ a C,v=.ref a/\W.nsIn K mainGlobals c=some (some (.ref C))/\H a=some (ExcO C a)
 | .ucl c,v=>∃ C,v=.ref C/\W.nsIn K mainGlobals c=some (some (.ref C))
 | .adr a,v=>v=.ref a
 | .dcf ks ds,v=>∃ a o xs,v=.ref a/\H a=some (.frz o (.dK (ks.zip xs)))/\ks.length=xs.length/\IsDs H ds xs
 | .pin a d,v=>v=.ref a/\IsD H d v
def IsDs (H:Hp):List D->List V->Prop
 | [],xs=>xs=[]
 |d::ds,xs=>∃ x r,xs=x::r/\IsD H d x/\IsDs H ds r
end
end
section
variable {K:W.Frag}{H H':Hp}
theorem IsD.non_iff {v:V}:IsD K H .non v↔v=.non:=.rfl
theorem IsD.bl_iff {b:Bool}{v:V}:IsD K H (.bl b) v↔v=.bl b:=.rfl
theorem IsD.int_iff {i:Int}{v:V}:IsD K H (.int i) v↔v=.int i:=.rfl
theorem IsD.str_iff {x:Str}{v:V}:IsD K H (.str x) v↔v=.str x:=.rfl
theorem IsD.ty_iff {n:String}{v:V}:IsD K H (.ty n) v↔v=.ty n:=.rfl
theorem IsD.scr_iff {ns:List Int}{v:V}:IsD K H (.scr ns) v↔∃ a,v=.ref a/\SqL K H a (ns.map V.int):=.rfl
theorem IsD.tup_iff {ds:List D}{v:V}:IsD K H (.tup ds) v↔∃ a xs,v=.ref a/\TupD K H a xs/\IsDs K H ds xs:=.rfl
theorem IsD.lst_iff {ds:List D}{v:V}:IsD K H (.lst ds) v↔∃ a xs,v=.ref a/\LstD K H a xs/\IsDs K H ds xs:=.rfl
theorem IsD.dct_iff {ks:List Key}{ds:List D}{v:V}:IsD K H (.dct ks ds) v↔∃ a xs,v=.ref a/\H a=some (.dK (ks.zip xs))/\ks.length=xs.length/\IsDs K H ds xs:=.rfl
theorem IsD.ins_iff {c:Str}{fs:List Str}{ds:List D}{v:V}:IsD K H (.ins c fs ds) v↔∃ a C dx xs,v=.ref a/\W.nsIn K mainGlobals c=some (some (.ref C))/\H a=some (.ins C dx (fs.zip xs))/\fs.length=xs.length/\IsDs K H ds xs:=.rfl
theorem IsD.exc_iff {c:Str}{v:V}:IsD K H (.exc c) v↔∃ a C,v=.ref a/\W.nsIn K mainGlobals c=some (some (.ref C))/\H a=some (ExcO C a):=.rfl
theorem IsD.ucl_iff {c:Str}{v:V}:IsD K H (.ucl c) v↔∃ C,v=.ref C/\W.nsIn K mainGlobals c=some (some (.ref C)):=.rfl
theorem IsD.adr_iff {a:Addr}{v:V}:IsD K H (.adr a) v↔v=.ref a:=.rfl
theorem IsD.dcf_iff {ks:List Key}{ds:List D}{v:V}:IsD K H (.dcf ks ds) v↔∃ a o xs,v=.ref a/\H a=some (.frz o (.dK (ks.zip xs)))/\ks.length=xs.length/\IsDs K H ds xs:=.rfl
theorem IsD.pin_iff {a:Addr}{d:D}{v:V}:IsD K H (.pin a d) v↔v=.ref a/\IsD K H d v:=.rfl
theorem IsDs.nil_iff {xs:List V}:IsDs K H [] xs↔xs=[]:=.rfl
theorem IsDs.cons_iff {d:D}{ds:List D}{xs:List V}:IsDs K H (d::ds) xs↔∃ x r,xs=x::r/\IsD K H d x/\IsDs K H ds r:=.rfl
mutual
theorem IsD.same (e:Same H H'):∀ (d:D) (v:V),IsD K H d v->IsD K H' d v
 | .non,_,h=>h
 | .bl _,_,h=>h
 | .int _,_,h=>h
 | .str _,_,h=>h
 | .ty _,_,h=>h
 | .scr _,_,h=>by
  obtain ⟨a,h1,h2⟩:=IsD.scr_iff.mp h;exact IsD.scr_iff.mpr ⟨a,h1,Same.seq e h2⟩
 | .tup ds,_,h=>by
  obtain ⟨a,xs,h1,h2,h3⟩:=IsD.tup_iff.mp h;exact IsD.tup_iff.mpr ⟨a,xs,h1,h2.same e,IsDs.same e ds xs h3⟩
 | .lst ds,_,h=>by
  obtain ⟨a,xs,h1,h2,h3⟩:=IsD.lst_iff.mp h;exact IsD.lst_iff.mpr ⟨a,xs,h1,h2.same e,IsDs.same e ds xs h3⟩
 | .dct ks ds,_,h=>by
  obtain ⟨a,xs,h1,h2,h4,h3⟩:=IsD.dct_iff.mp h;exact IsD.dct_iff.mpr ⟨a,xs,h1,e _ _ h2,h4,IsDs.same e ds xs h3⟩
 | .ins c fs ds,_,h=>by
  obtain ⟨a,C,dx,xs,h1,h5,h2,h4,h3⟩:=IsD.ins_iff.mp h;exact IsD.ins_iff.mpr ⟨a,C,dx,xs,h1,h5,e _ _ h2,h4,IsDs.same e ds xs h3⟩
 | .exc _,_,h=>by
  obtain ⟨a,C,h1,h2,h3⟩:=IsD.exc_iff.mp h;exact IsD.exc_iff.mpr ⟨a,C,h1,h2,e _ _ h3⟩
 | .ucl _,_,h=>h
 | .adr _,_,h=>h
 | .dcf ks ds,_,h=>by
  obtain ⟨a,o,xs,h1,h2,h4,h3⟩:=IsD.dcf_iff.mp h;exact IsD.dcf_iff.mpr ⟨a,o,xs,h1,e _ _ h2,h4,IsDs.same e ds xs h3⟩
 | .pin a d,v,h=>IsD.pin_iff.mpr ⟨(IsD.pin_iff.mp h).1,IsD.same e d v (IsD.pin_iff.mp h).2⟩
theorem IsDs.same (e:Same H H'):∀ (ds:List D) (xs:List V),IsDs K H ds xs->IsDs K H' ds xs
 | [],_,h=>h
 |d::ds,_,h=>by
  obtain ⟨x,r,h1,h2,h3⟩:=IsDs.cons_iff.mp h;exact IsDs.cons_iff.mpr ⟨x,r,h1,IsD.same e d x h2,IsDs.same e ds r h3⟩
end
theorem IsDs.mk {d:D}{ds:List D}{x:V}{xs:List V}(h:IsD K H d x)(r:IsDs K H ds xs):IsDs K H (d::ds) (x::xs):=IsDs.cons_iff.mpr ⟨x,xs,rfl,h,r⟩
theorem IsDs.nil:IsDs K H [] []:=IsDs.nil_iff.mpr rfl
theorem IsDs.length:∀ {ds:List D} {xs:List V},IsDs K H ds xs->xs.length=ds.length
 | [],xs,h=>by rw [IsDs.nil_iff] at h;subst h;rfl
 |d::ds,xs,h=>by
  rw [IsDs.cons_iff] at h;obtain ⟨x,r,rfl,_,h3⟩:=h;rw [List.length_cons,List.length_cons,IsDs.length h3]
theorem IsDs.get:∀ {ds:List D} {xs:List V} {i:Nat} {d:D},IsDs K H ds xs->ds[i]? = some d->∃ x,xs[i]? = some x/\IsD K H d x
 | [],_,_,_,_,e=>by exact zqn e
 |d::ds,xs,i,e,h,q=>by
  rw [IsDs.cons_iff] at h;obtain ⟨x,r,rfl,h2,h3⟩:=h;cases i with
  |zero=>cases q;exact ⟨x,rfl,h2⟩
  |succ i=>exact IsDs.get (i:=i) h3 q
theorem IsDs.getV {ds:List D}{xs:List V}{i:Nat}{x:V}(h:IsDs K H ds xs)(q:xs[i]? = some x):∃ d,ds[i]? = some d/\IsD K H d x:=by
 have hl:=h.length;have hi:i<ds.length:=by rw [<- hl];exact (List.getElem?_eq_some_iff.mp q).1
 obtain ⟨y,h1,h2⟩:=h.get (Zqg hi);rw [q] at h1;obtain rfl:=Zqi h1;exact ⟨_,Zqg hi,h2⟩
theorem IsDs.append:∀ {ds es:List D} {xs ys:List V},IsDs K H ds xs->IsDs K H es ys->IsDs K H (ds++es) (xs++ys)
 | [],_,xs,_,h,h'=>by rw [IsDs.nil_iff] at h;subst h;exact h'
 |d::ds,_,xs,_,h,h'=>by
  rw [IsDs.cons_iff] at h;obtain ⟨x,r,rfl,h2,h3⟩:=h;exact IsDs.mk h2 (IsDs.append h3 h')
theorem IsDs.snoc {ds:List D}{xs:List V}{d:D}{x:V}(h:IsDs K H ds xs)(h':IsD K H d x):IsDs K H (ds++[d]) (xs++[x]):=h.append (.mk h' .nil)
theorem IsDs.set:∀ (n:Nat) {ds:List D} {xs:List V} {d:D} {x:V},IsDs K H ds xs->IsD K H d x->IsDs K H (ds.set n d) (xs.set n x)
 |_,[],xs,_,_,h,_=>by rw [IsDs.nil_iff] at h;subst h;exact .nil
 | 0,d::ds,xs,_,_,h,q=>by
  rw [IsDs.cons_iff] at h;obtain ⟨x,r,rfl,h2,h3⟩:=h;exact IsDs.mk q h3
 |n+1,d::ds,xs,_,_,h,q=>by
  rw [IsDs.cons_iff] at h;obtain ⟨x,r,rfl,h2,h3⟩:=h;exact IsDs.mk h2 (IsDs.set n h3 q)
theorem IsDs.ints:∀ (ns:List Int),IsDs K H (ns.map D.int) (ns.map V.int)
 | []=>.nil
 |n::ns=>.mk (IsD.int_iff.mpr rfl) (IsDs.ints ns)
theorem IsDs.ints_iff:∀ {ns:List Int} {xs:List V},IsDs K H (ns.map D.int) xs->xs=ns.map V.int
 | [],_,h=>IsDs.nil_iff.mp h
 |n::ns,xs,h=>by
  rw [List.map_cons,IsDs.cons_iff] at h;obtain ⟨x,r,rfl,h2,h3⟩:=h;rw [IsD.int_iff] at h2;rw [h2,IsDs.ints_iff h3];rfl
end
structure Ext (F H F' H':Hp):Prop where
 ff:Same F F'
 fh:Same F' H'
 hh:Same H H'
 new:∀ a,F a=none->H a≠none->F' a=none
theorem Ext.refl {F H:Hp}(h:Same F H):Ext F H F H:=⟨.refl _,h,.refl _,fun _ e _=>e⟩
theorem Ext.trans {F H F1 H1 F2 H2:Hp}(a:Ext F H F1 H1)(b:Ext F1 H1 F2 H2):Ext F H F2 H2 :=
 ⟨a.ff.trans b.ff,b.fh,a.hh.trans b.hh,fun x e n=>b.new x (a.new x e n) (by
  cases q:H x with
  |none=>exact absurd q n
  |some o=>rw [a.hh _ _ q];simp)⟩
theorem zas {F H:Hp}{p:Addr}(h:Same F H)(hp:H p=none):F p=none:=h.free hp
theorem Ext.alloc {F H:Hp}{p:Addr}(h:Same F H)(hp:H p=none)(o:HO):Ext F H (upd F p o) (upd H p o) :=
 ⟨zbf (h.free hp) o,fun b u e=>by
  by_cases q:b=p
  ·subst q;rw [zai] at e ⊢;exact e
  ·rw [zaj q] at e ⊢;exact h _ _ e,zbf hp o,fun a e n=>by
  have q:a≠p:=fun z=>n (by rw [z];exact hp);rw [zaj q];exact e⟩
theorem Ext.keep {F H:Hp}{p:Addr}(h:Same F H)(hp:H p=none)(o:HO):Ext F H F (upd H p o) :=
 ⟨.refl _,h.trans (zbf hp o),zbf hp o,fun _ e _=>e⟩
theorem Ext.grow {F H H':Hp}(h:Same F H)(hh:Same H H'):Ext F H F H':=⟨.refl _,h.trans hh,hh,fun _ e _=>e⟩
inductive SV where
 |val (d:D)|own (p:Bool) (d:D)
structure Bs where
 F0:Hp
 H0:Hp
 pa:Nat->Option (Addr×List V)
abbrev SD:=List (Option SV)
def zck (K:W.Frag)(F H:Hp)(l:Addr):D->Prop
 | .lst ds=>∃ xs,H l=some (.lst xs)/\IsDs K F ds xs
 | .dct ks ds=>∃ xs,H l=some (.dK (ks.zip xs))/\ks.length=xs.length/\IsDs K F ds xs
 | .ins c fs ds=>∃ C dx xs,W.nsIn K mainGlobals c=some (some (.ref C))/\H l=some (.ins C dx (fs.zip xs))/\fs.length=xs.length/\IsDs K F ds xs
 |_=>False
theorem zck.has {K:W.Frag}{F H:Hp}{l:Addr}{d:D}(h:zck K F H l d):∃ o,H l=some o:=by
 cases d with
 |lst ds=>obtain ⟨xs,e,_⟩:=h;exact ⟨_,e⟩
 |dct ks ds=>obtain ⟨xs,e,_⟩:=h;exact ⟨_,e⟩
 |ins c fs ds=>obtain ⟨C,dx,xs,_,e,_⟩:=h;exact ⟨_,e⟩
 |_=>exact False.elim h
theorem zck.ext {K:W.Frag}{F H F' H':Hp}{l:Addr}{d:D}(h:zck K F H l d)(ff:Same F F')(hh:∀ o,H l=some o->H' l=some o):zck K F' H' l d:=by
 cases d with
 |lst ds=>obtain ⟨xs,e,q⟩:=h;exact ⟨xs,hh _ e,IsDs.same ff _ _ q⟩
 |dct ks ds=>obtain ⟨xs,e,z,q⟩:=h;exact ⟨xs,hh _ e,z,IsDs.same ff _ _ q⟩
 |ins c fs ds=>obtain ⟨C,dx,xs,k,e,z,q⟩:=h;exact ⟨C,dx,xs,k,hh _ e,z,IsDs.same ff _ _ q⟩
 |_=>exact False.elim h
theorem zck.frz {K:W.Frag}{F H:Hp}{l:Addr}{d:D}{o:HO}(h:zck K F H l d)(e:H l=Option.some o)(n:F l=none):IsD K (upd F l o) d (.ref l):=by
 cases d with
 |lst ds =>
  obtain ⟨xs,e',q⟩:=h;rw [e] at e';obtain rfl:=Zqi e';exact IsD.lst_iff.mpr ⟨l,xs,rfl,.of zai,IsDs.same (zbf n _) _ _ q⟩
 |dct ks ds =>
  obtain ⟨xs,e',z,q⟩:=h;rw [e] at e';obtain rfl:=Zqi e';exact IsD.dct_iff.mpr ⟨l,xs,rfl,zai,z,IsDs.same (zbf n _) _ _ q⟩
 |ins c fs ds =>
  obtain ⟨C,dx,xs,k,e',z,q⟩:=h;rw [e] at e';obtain rfl:=Zqi e';exact IsD.ins_iff.mpr ⟨l,C,dx,xs,rfl,k,zai,z,IsDs.same (zbf n _) _ _ q⟩
 |_=>exact False.elim h
def znr (H:Hp)(l:Addr)(o:Option (Addr×List V)):Prop:=∃ xs,o=some (l,xs)/\H l=some (.lst xs)
structure RS (K:W.Frag)(B:Bs)(F H:Hp)(sd:SD)(σ : St):Prop where
 ext:Ext B.F0 B.H0 F H
 len:σ.length=sd.length
 val:∀ {i:Nat} {d:D},sd[i]? = some (some (.val d))->∃ v,σ[i]? = some (some v)/\IsD K F d v
 own:∀ {i:Nat} {p:Bool} {d:D},sd[i]? = some (some (.own p d))->∃ l,σ[i]? = some (some (.ref l))/\B.H0 l=none/\F l=none/\zck K F H l d/\(p=true->znr H l (B.pa i))
 apart:∀ {i j:Nat} {p q:Bool} {d e:D} {l:Addr},i≠j->sd[i]? = some (some (.own p d))->sd[j]? = some (some (.own q e)) -> σ[i]? = some (some (.ref l)) -> σ[j]? ≠ some (some (.ref l))
section
variable {K:W.Frag}{B:Bs}{F H F' H':Hp}{sd:SD}{σ : St}
theorem znr.mono {l:Addr}{o:Option (Addr×List V)}(h:znr H l o)(k:∀ u,H l=some u->H' l=some u):znr H' l o:=let ⟨xs,h1,h2⟩:=h;⟨xs,h1,k _ h2⟩
theorem RS.step (r:RS K B F H sd σ)(e:Ext F H F' H'):RS K B F' H' sd σ where
 ext:=r.ext.trans e
 len:=r.len
 val:=fun h=>let ⟨v,h1,h2⟩:=r.val h;⟨v,h1,IsD.same e.ff _ _ h2⟩
 own:=fun h=>by
  obtain ⟨l,h1,h2,h3,h4,h5⟩:=r.own h;obtain ⟨o,ho⟩:=h4.has;exact ⟨l,h1,h2,e.new l h3 (by rw [ho];simp),h4.ext e.ff fun o q=>e.hh _ _ q,fun p=>(h5 p).mono fun u q=>e.hh _ _ q⟩
 apart:=r.apart
theorem zau {α : Type}{l:List α}{i j:Nat}{a:α}(h:i≠j):(l.set i a)[j]? = l[j]? := List.getElem?_set_ne h
theorem za0 {α : Type}{l:List α}{i:Nat}{a b:α}(h:(l.set i a)[i]? = some b):b=a/\i<l.length:=by
 have hi:i<l.length:=by
  have:=(List.getElem?_eq_some_iff.mp h).1
  rwa [List.length_set] at this
 rw [List.getElem?_set_self hi] at h;exact ⟨(Zqi h).symm,hi⟩
theorem RS.setVal {i:Nat}{d:D}{v:V}(r:RS K B F H sd σ)(h:IsD K F d v):RS K B F H (sd.set i (some (.val d))) (σ.set i (some v)) where
 ext:=r.ext
 len:=by rw [List.length_set,List.length_set,r.len]
 val:=fun {j e} q=>by
  by_cases z:i=j
  ·subst z;obtain ⟨e1,hi⟩:=za0 q;cases e1;exact ⟨v,List.getElem?_set_self (by rw [r.len];exact hi),h⟩
  ·rw [zau z] at q ⊢;exact r.val q
 own:=fun {j p e} q=>by
  by_cases z:i=j
  ·subst z;obtain ⟨e1,_⟩:=za0 q;cases e1
  ·rw [zau z] at q ⊢;exact r.own q
 apart:=fun {j k p1 p2 d1 d2 l} n q1 q2 q3=>by
  have z1:i≠j:=fun z=>by subst z;obtain ⟨e1,_⟩:=za0 q1;cases e1
  have z2:i≠k:=fun z=>by subst z;obtain ⟨e1,_⟩:=za0 q2;cases e1
  rw [zau z1] at q1 q3;rw [zau z2] at q2 ⊢;exact r.apart n q1 q2 q3
theorem RS.setOwn {i:Nat}{d:D}{l:Addr}(r:RS K B F H sd σ)(h0:B.H0 l=none)(hf:F l=none)(h:zck K F H l d)(fr:∀ (j:Nat) (p:Bool) (e:D),sd[j]? = some (some (SV.own p e)) -> σ[j]? ≠ some (some (.ref l))) :
 RS K B F H (sd.set i (some (.own false d))) (σ.set i (some (.ref l))) where
 ext:=r.ext
 len:=by rw [List.length_set,List.length_set,r.len]
 val:=fun {j e} q=>by
  by_cases z:i=j
  ·subst z;obtain ⟨e1,_⟩:=za0 q;cases e1
  ·rw [zau z] at q ⊢;exact r.val q
 own:=fun {j p e} q=>by
  by_cases z:i=j
  ·subst z;obtain ⟨e1,hi⟩:=za0 q;cases e1;exact ⟨l,List.getElem?_set_self (by rw [r.len];exact hi),h0,hf,h,fun z=>by cases z⟩
  ·rw [zau z] at q ⊢;exact r.own q
 apart:=fun {j k p1 p2 d1 d2 m} n q1 q2 q3=>by
  by_cases z1:i=j
  ·subst z1;obtain ⟨_,hi⟩:=za0 q1;rw [zau n] at q2 ⊢;rw [List.getElem?_set_self (by rw [r.len];exact hi)] at q3;cases q3;exact fr k p2 d2 q2
  ·rw [zau z1] at q1 q3;by_cases z2:i=k
   ·subst z2;obtain ⟨_,hi⟩:=za0 q2;rw [List.getElem?_set_self (by rw [r.len];exact hi)];intro e;cases e;exact fr j p1 d1 q1 q3
   ·rw [zau z2] at q2 ⊢;exact r.apart n q1 q2 q3
theorem RS.chg {i:Nat}{p:Bool}{d d':D}{l:Addr}{o:HO}(r:RS K B F H sd σ)(hi:sd[i]? = some (some (.own p d)))(hl:σ[i]? = some (some (.ref l)))(h:zck K F (upd H l o) l d') :
 RS K B F (upd H l o) (sd.set i (some (.own false d'))) σ := by
 obtain ⟨l',e1,h0,hf,_,_⟩:=r.own hi;rw [hl] at e1;cases e1;have hil:i<sd.length:=(List.getElem?_eq_some_iff.mp hi).1;refine ⟨⟨r.ext.ff,zdE o r.ext.fh hf,zdE o r.ext.hh h0,r.ext.new⟩,by rw [List.length_set,r.len],fun {j e} q=>?_,fun {j p e} q=>?_,fun {j k p1 p2 d1 d2 m} n q1 q2 q3=>?_⟩
 ·by_cases z:i=j
  ·subst z;obtain ⟨e1,_⟩:=za0 q;cases e1
  ·rw [zau z] at q;exact r.val q
 ·by_cases z:i=j
  ·subst z;obtain ⟨e1,_⟩:=za0 q;cases e1;exact ⟨l,hl,h0,hf,h,fun z=>by cases z⟩
  ·rw [zau z] at q;obtain ⟨m,m1,m2,m3,m4,m5⟩:=r.own q;have ne:m≠l:=fun e=>r.apart z hi q hl (by rw [<- e];exact m1);exact ⟨m,m1,m2,m3,m4.ext (.refl _) fun u q'=>by rw [zaj ne];exact q',fun p=>(m5 p).mono fun u q'=>by rw [zaj ne];exact q'⟩
 ·have g:∀ {j:Nat} {p:Bool} {e:D},(sd.set i (some (.own false d')))[j]? = some (some (.own p e))->∃ p' e',sd[j]? = some (some (.own p' e')):=fun {j p e} q=>by
   by_cases z:i=j
   ·subst z;exact ⟨_,d,hi⟩
   ·rw [zau z] at q;exact ⟨p,e,q⟩
  obtain ⟨_,_,p1⟩:=g q1;obtain ⟨_,_,p2⟩:=g q2;exact r.apart n p1 p2 q3
theorem RS.frz1 {i:Nat}{p:Bool}{d:D}(r:RS K B F H sd σ)(hi:sd[i]? = some (some (.own p d))):∃ F',Same F F'/\RS K B F' H (sd.set i (some (.val d))) σ := by
 obtain ⟨l,hl,h0,hf,ho,_⟩:=r.own hi;obtain ⟨o,e⟩:=ho.has;have hil:i<sd.length:=(List.getElem?_eq_some_iff.mp hi).1;have sF:Same F (upd F l o):=zbf hf o;refine ⟨upd F l o,sF,⟨r.ext.ff.trans sF,fun b u q=>?_,r.ext.hh,fun a q1 q2=>?_⟩,by rw [List.length_set,r.len],fun {j x} q=>?_,fun {j p x} q=>?_,fun {j k p1 p2 d1 d2 m} n q1 q2 q3=>?_⟩
 ·by_cases z:b=l
  ·subst z;rw [zai] at q;cases q;exact e
  ·rw [zaj z] at q;exact r.ext.fh _ _ q
 ·have z:a≠l:=fun z=>q2 (by rw [z];exact h0);rw [zaj z];exact r.ext.new a q1 q2
 ·by_cases z:i=j
  ·subst z;obtain ⟨e1,_⟩:=za0 q;cases e1;exact ⟨_,hl,ho.frz e hf⟩
  ·rw [zau z] at q;obtain ⟨v,v1,v2⟩:=r.val q;exact ⟨v,v1,IsD.same sF _ _ v2⟩
 ·by_cases z:i=j
  ·subst z;obtain ⟨e1,_⟩:=za0 q;cases e1
  ·rw [zau z] at q;obtain ⟨m,m1,m2,m3,m4,m5⟩:=r.own q;have ne:m≠l:=fun e=>r.apart z hi q hl (by rw [<- e];exact m1);exact ⟨m,m1,m2,by rw [zaj ne];exact m3,m4.ext sF fun u q'=>q',m5⟩
 ·have z1:i≠j:=fun z=>by subst z;obtain ⟨e1,_⟩:=za0 q1;cases e1
  have z2:i≠k:=fun z=>by subst z;obtain ⟨e1,_⟩:=za0 q2;cases e1
  rw [zau z1] at q1;rw [zau z2] at q2;exact r.apart n q1 q2 q3
def frzD:List Nat->SD->SD
 | [],sd=>sd
 |i::is,sd=>frzD is (match sd[i]? with
  |some (some (.own _ d))=>sd.set i (some (.val d))
  |_=>sd)
theorem RS.frz:∀ (is:List Nat) {F:Hp} {sd:SD},RS K B F H sd σ -> ∃ F',Same F F'/\RS K B F' H (frzD is sd) σ
 | [],F,sd,r=>⟨F,.refl _,r⟩
 |i::is,F,sd,r=>by
  unfold frzD
  split
  ·rename_i p d h;obtain ⟨F1,s1,r1⟩:=r.frz1 h;obtain ⟨F2,s2,r2⟩:=RS.frz is r1;exact ⟨F2,s1.trans s2,r2⟩
  ·exact RS.frz is r
end
def ExcIs (K:W.Frag)(F H:Hp)(c:Str)(fs:List D)(cv:Value)(a:Option Addr):Prop :=
 ∃ C,cv=.ref C/\W.nsIn K mainGlobals c=some (some (.ref C))/\(fs=[]\/∃ p n d x,fs=[d]/\a=some p/\H p=some (.xd [(n,x)])/\IsD K F d x)
def XW (K:W.Frag)(E:XK)(F H:Hp)(c:Str)(fs:List D):Prop:=∀ cv a F' H',Ext F H F' H'->ExcIs K F' H' c fs cv a->E cv a H'
theorem XW.ext {K:W.Frag}{E:XK}{F H F' H':Hp}{c:Str}{fs:List D}(h:XW K E F H c fs)(e:Ext F H F' H'):XW K E F' H' c fs:=fun cv a F2 H2 e2 q=>h cv a F2 H2 (e.trans e2) q
abbrev FE:=SD->Res D
abbrev FT:=SD->Res Bool
abbrev FA:=SD->Res (List D)
def OkD (K:W.Frag)(F H:Hp)(Q:VK)(d:D):Prop:=∀ v F' H',Ext F H F' H'->IsD K F' d v->Q v H'
def OkB (F H:Hp)(Q:Bool->Hp->Prop)(b:Bool):Prop:=∀ F' H',Ext F H F' H'->Q b H'
def OkA (K:W.Frag)(F H:Hp)(Q:List V->Hp->Prop)(ds:List D):Prop:=∀ vs F' H',Ext F H F' H'->IsDs K F' ds vs->Q vs H'
def OkN (K:W.Frag)(F H:Hp)(Q:VK)(d:D):Prop:=∀ l F' H',Ext F H F' H'->H l=none->F' l=none->zck K F' H' l d->Q (.ref l) H'
def tD (K:W.Frag)(E:XK)(f:FE):TE:=fun σ H Q=>∃ B F sd,RS K B F H sd σ /\ (f sd).need (OkD K F H Q) (XW K E F H)
def tDT (K:W.Frag)(E:XK)(f:FT):TT:=fun σ H Q=>∃ B F sd,RS K B F H sd σ /\ (f sd).need (OkB F H Q) (XW K E F H)
def tDA (K:W.Frag)(E:XK)(f:FA):TA:=fun σ H Q=>∃ B F sd,RS K B F H sd σ /\ (f sd).need (OkA K F H Q) (XW K E F H)
def tDN (K:W.Frag)(E:XK)(f:FE):TE:=fun σ H Q=>∃ B F sd,RS K B F H sd σ /\ (f sd).need (OkN K F H Q) (XW K E F H)
abbrev QE (X:Cx)(E:XK)(e:Expr)(f:FE):Prop:=PE X e (tD X.K E f)
abbrev QT (X:Cx)(E:XK)(e:Expr)(f:FT):Prop:=PT X e (tDT X.K E f)
abbrev QW (X:Cx)(E:XK)(e:Expr)(f:FT):Prop:=PW X e (tDT X.K E f)
abbrev QA (X:Cx)(E:XK)(es:List Expr)(f:FA):Prop:=PA X es (tDA X.K E f)
abbrev QN (X:Cx)(E:XK)(e:Expr)(f:FE):Prop:=PE X e (tDN X.K E f)
theorem PE.weak {X:Cx}{e:Expr}{t t':TE}(h:PE X e t)(w:∀ σ H Q,t' σ H Q->t σ H Q):PE X e t':=fun pins s σ H Q I q=>h pins s σ H Q I (w _ _ _ q)
theorem PT.weak {X:Cx}{e:Expr}{t t':TT}(h:PT X e t)(w:∀ σ H Q,t' σ H Q->t σ H Q):PT X e t':=fun pins s σ H Q I q=>h pins s σ H Q I (w _ _ _ q)
theorem PW.weak {X:Cx}{e:Expr}{t t':TT}(h:PW X e t)(w:∀ σ H Q,t' σ H Q->t σ H Q):PW X e t':=fun whole pins s σ H Q I q=>h whole pins s σ H Q I (w _ _ _ q)
theorem PA.weak {X:Cx}{e:List Expr}{t t':TA}(h:PA X e t)(w:∀ σ H Q,t' σ H Q->t σ H Q):PA X e t':=fun pos pins s σ H Q I q=>h pos pins s σ H Q I (w _ _ _ q)
theorem PS.weak {X:Cx}{e:Stmt}{t t':TS}(h:PS X e t)(w:∀ D σ H,t' D σ H->t D σ H):PS X e t':=fun pins s σ H D I q=>h pins s σ H D I (w _ _ _ q)
theorem PSs.weak {X:Cx}{e:List Stmt}{t t':TS}(h:PSs X e t)(w:∀ D σ H,t' D σ H->t D σ H):PSs X e t':=fun pins s σ H D I q=>h pins s σ H D I (w _ _ _ q)
theorem PI.weak {X:Cx}{tg e:Expr}{t t':TI}(h:PI X tg e t)(w:∀ σ H R,t' σ H R->t σ H R):PI X tg e t':=fun pins s σ H R I q=>h pins s σ H R I (w _ _ _ q)
section
variable {K:W.Frag}{E:XK}{F H F' H':Hp}
theorem OkD.ext {Q:VK}{d:D}(h:OkD K F H Q d)(e:Ext F H F' H'):OkD K F' H' Q d:=fun v F2 H2 e2 q=>h v F2 H2 (e.trans e2) q
theorem OkB.ext {Q:Bool->Hp->Prop}{b:Bool}(h:OkB F H Q b)(e:Ext F H F' H'):OkB F' H' Q b:=fun F2 H2 e2=>h F2 H2 (e.trans e2)
theorem OkN.ext {Q:VK}{d:D}(h:OkN K F H Q d)(e:Ext F H F' H'):OkN K F' H' Q d:=fun l F2 H2 e2 q=>h l F2 H2 (e.trans e2) (zas e.hh q)
theorem zlF {Q:VK}{r:Res D}(h:r.need (OkD K F H Q) (XW K E F H))(e:Ext F H F' H'):r.need (OkD K F' H' Q) (XW K E F' H'):=h.mono (fun _ q=>q.ext e) fun _ _ q=>q.ext e
theorem zss {Q:Bool->Hp->Prop}{r:Res Bool}(h:r.need (OkB F H Q) (XW K E F H))(e:Ext F H F' H'):r.need (OkB F' H' Q) (XW K E F' H'):=h.mono (fun _ q=>q.ext e) fun _ _ q=>q.ext e
theorem needN {Q:VK}{r:Res D}(h:r.need (OkN K F H Q) (XW K E F H))(e:Ext F H F' H'):r.need (OkN K F' H' Q) (XW K E F' H'):=h.mono (fun _ q=>q.ext e) fun _ _ q=>q.ext e
theorem OkD.new {Q:VK}{d:D}(h:OkD K F H Q d):OkN K F H Q d:=fun l F' H' e n n' o=>by
 obtain ⟨u,hu⟩:=o.has;refine h (.ref l) (upd F' l u) H' ⟨e.ff.trans (zbf n' u),fun b v q=>?_,e.hh,fun a q1 q2=>?_⟩ (o.frz hu n')
 ·by_cases z:b=l
  ·subst z;rw [zai] at q;cases q;exact hu
  ·rw [zaj z] at q;exact e.fh _ _ q
 ·have z:a≠l:=fun z=>q2 (by rw [z];exact n);rw [zaj z];exact e.new a q1 q2
end
section
variable {X:Cx}{E:XK}
theorem QN.qe {e:Expr}{f:FE}(h:QN X E e f):QE X E e f:=PE.weak h fun σ H Q ⟨B,F,sd,r,n⟩=>⟨B,F,sd,r,n.mono (fun _ q=>q.new) fun _ _ q=>q⟩
def dVar (i:Nat):FE:=fun sd=>match sd[i]? with
 |some (some (.val d))=>.ok d
 |_=>.no
def dC (d:D):FE:=fun _=>.ok d
theorem q_var {i:Nat}{e:Expr}(h:PE X e (tVar i)):QE X E e (dVar i):=PE.weak h fun σ H Q ⟨B,F,sd,r,n⟩=>by
 unfold dVar at n
 split at n
 ·rename_i d q;obtain ⟨v,h1,h2⟩:=r.val q;exact ⟨v,h1,n v F H (.refl r.ext.fh) h2⟩
 ·exact n.elim
theorem zcO {e:Expr}{v:V}{d:D}(h:PE X e (tC v))(i:∀ F,IsD X.K F d v):QE X E e (dC d):=PE.weak h fun σ H Q ⟨B,F,sd,r,n⟩=>n v F H (.refl r.ext.fh) (i F)
theorem zad {i j pos}:QE X E (.Constant (.int i) j pos) (dC (.int i)):=zcO zsn fun _=>IsD.int_iff.mpr rfl
theorem zeg {b j pos}:QE X E (.Constant (.bool b) j pos) (dC (.bl b)):=zcO pe_bl fun _=>IsD.bl_iff.mpr rfl
theorem ze9 {j pos}:QE X E (.Constant .none j pos) (dC .non):=zcO zqT fun _=>IsD.non_iff.mpr rfl
theorem zaJ {x j pos}:QE X E (.Constant (.str x) j pos) (dC (.str x)):=zcO zox fun _=>IsD.str_iff.mpr rfl
def Res.ofO {α : Type}:Option α -> Res α
 |some a=>.ok a
 |none=>.no
@[simp] theorem Res.ofO_some {α : Type}(a:α):Res.ofO (some a)=.ok a:=rfl
theorem Res.need_ofO {α : Type}{o:Option α}{p:α -> Prop}{q:Str->List D->Prop}(h:(Res.ofO o).need p q):∃ a,o=some a/\p a:=by
 cases o with
 |none=>exact h.elim
 |some a=>exact ⟨a,rfl,h⟩
def dOp (g:D->D->Option D)(fa fb:FE):FE:=fun sd=>(fa sd).bind fun x=>(fb sd).bind fun y=>.ofO (g x y)
def dUn (g:D->Option D)(fa:FE):FE:=fun sd=>(fa sd).bind fun x=>.ofO (g x)
def rD2 (K:W.Frag)(g:D->D->Option D):R2:=fun v w H Q=>∃ F d e z,Same F H/\IsD K F d v/\IsD K F e w/\g d e=some z/\OkD K F H Q z
def rD2N (K:W.Frag)(g:D->D->Option D):R2:=fun v w H Q=>∃ F d e z,Same F H/\IsD K F d v/\IsD K F e w/\g d e=some z/\OkN K F H Q z
def rD1 (K:W.Frag)(g:D->Option D):V->Hp->VK->Prop:=fun v H Q=>∃ F d z,Same F H/\IsD K F d v/\g d=some z/\OkD K F H Q z
def rDA (K:W.Frag)(g:List D->Option D):List V->Hp->VK->Prop:=fun vs H Q=>∃ F ds z,Same F H/\IsDs K F ds vs/\g ds=some z/\OkD K F H Q z
def rDAN (K:W.Frag)(g:List D->Option D):List V->Hp->VK->Prop:=fun vs H Q=>∃ F ds z,Same F H/\IsDs K F ds vs/\g ds=some z/\OkN K F H Q z
theorem zju {K:W.Frag}{g:D->D->Option D}{fa fb:FE}{σ : St}{H:Hp}{Q:VK}(h:tD K E (dOp g fa fb) σ H Q):tOp (rD2 K g) (tD K E fa) (tD K E fb) σ H Q:=by
 obtain ⟨B,F,sd,r,n⟩:=h;refine ⟨B,F,sd,r,(Res.need_bind n).mono (fun x n1 v F1 H1 e1 i1=>?_) fun _ _ q=>q⟩;refine ⟨B,F1,sd,r.step e1,(Res.need_bind n1).mono (fun y n2 w F2 H2 e2 i2=>?_) fun _ _ q=>q.ext e1⟩;obtain ⟨z,hz,q⟩:=Res.need_ofO n2;exact ⟨F2,x,y,z,e2.fh,IsD.same e2.ff _ _ i1,i2,hz,q.ext (e1.trans e2)⟩
theorem zrb {K:W.Frag}{g:D->D->Option D}{fa fb:FE}{σ : St}{H:Hp}{Q:VK}(h:tDN K E (dOp g fa fb) σ H Q):tOp (rD2N K g) (tD K E fa) (tD K E fb) σ H Q:=by
 obtain ⟨B,F,sd,r,n⟩:=h;refine ⟨B,F,sd,r,(Res.need_bind n).mono (fun x n1 v F1 H1 e1 i1=>?_) fun _ _ q=>q⟩;refine ⟨B,F1,sd,r.step e1,(Res.need_bind n1).mono (fun y n2 w F2 H2 e2 i2=>?_) fun _ _ q=>q.ext e1⟩;obtain ⟨z,hz,q⟩:=Res.need_ofO n2;exact ⟨F2,x,y,z,e2.fh,IsD.same e2.ff _ _ i1,i2,hz,q.ext (e1.trans e2)⟩
theorem tD_un {K:W.Frag}{g:D->Option D}{fa:FE}{σ : St}{H:Hp}{Q:VK}(h:tD K E (dUn g fa) σ H Q):tUn (rD1 K g) (tD K E fa) σ H Q:=by
 obtain ⟨B,F,sd,r,n⟩:=h;refine ⟨B,F,sd,r,(Res.need_bind n).mono (fun x n1 v F1 H1 e1 i1=>?_) fun _ _ q=>q⟩;obtain ⟨z,hz,q⟩:=Res.need_ofO n1;exact ⟨F1,x,z,e1.fh,i1,hz,q.ext e1⟩
abbrev OpD (X:Cx)(f:Value->Value->Sem Value)(g:D->D->Option D):Prop:=OpR X f (rD2 X.K g)
abbrev OpDN (X:Cx)(f:Value->Value->Sem Value)(g:D->D->Option D):Prop:=OpR X f (rD2N X.K g)
theorem OpR.weak {f:Value->Value->Sem Value}{r r':R2}(h:OpR X f r)(w:∀ x y H Q,r' x y H Q->r x y H Q):OpR X f r':=fun pins s σ H x y v u Q I rx ry q=>h pins s σ H x y v u Q I rx ry (w _ _ _ _ q)
theorem UnR.weak {f:Value->Sem Value}{r r':V->Hp->VK->Prop}(h:UnR X f r)(w:∀ x H Q,r' x H Q->r x H Q):UnR X f r':=fun pins s σ H x v Q I rx q=>h pins s σ H x v Q I rx (w _ _ _ q)
theorem zaN.weak {f:Value}{r r':List V->Hp->VK->Prop}(h:zaN X f r)(w:∀ x H Q,r' x H Q->r x H Q):zaN X f r':=fun pins s σ H x v Q I rx q=>h pins s σ H x v Q I rx (w _ _ _ q)
theorem IxR.weak {r r':R2}(h:IxR X r)(w:∀ x y H Q,r' x y H Q->r x y H Q):IxR X r':=fun value slice pins s σ H x y v u Q I rx ry q e=>h value slice pins s σ H x y v u Q I rx ry (w _ _ _ _ q) e
variable {a b:Expr}{fa fb:FE}{pos:Pos}
theorem q_op {op:Operator}{g:D->D->Option D}(ho:OpD X (binaryOp op) g)(ha:QE X E a fa)(hb:QE X E b fb):QE X E (.BinOp a op b pos) (dOp g fa fb):=PE.weak (zqY ho ha hb) fun _ _ _ h=>zju h
theorem q_opN {op:Operator}{g:D->D->Option D}(ho:OpDN X (binaryOp op) g)(ha:QE X E a fa)(hb:QE X E b fb):QN X E (.BinOp a op b pos) (dOp g fa fb):=PE.weak (zqY ho ha hb) fun _ _ _ h=>zrb h
theorem q_un {op:UnaryOp}{g:D->Option D}(ho:UnR X (unaryOp op) (rD1 X.K g))(ha:QE X E a fa):QE X E (.UnaryOp op a pos) (dUn g fa):=PE.weak (pe_un ho ha) fun _ _ _ h=>tD_un h
theorem zge {op:CmpOp}{g:D->D->Option D}(ho:OpD X (compareOp op) g)(ha:QE X E a fa)(hb:QE X E b fb)(hm:behindInMarks op b=false):QE X E (.Compare a [op] [b] pos) (dOp g fa fb):=PE.weak (zkk ho ha hb hm) fun _ _ _ h=>zju h
def zal (fa:FE):FT:=fun sd=>(fa sd).bind fun x=>match x with
 | .bl b=>.ok b
 |_=>.no
theorem zbu {K:W.Frag}{σ : St}{H:Hp}{Q:Bool->Hp->Prop}(h:tDT K E (zal fa) σ H Q):tD K E fa σ H (fun x H'=>∃ k,x=.bl k/\Q k H'):=by
 obtain ⟨B,F,sd,r,n⟩:=h;refine ⟨B,F,sd,r,(Res.need_bind n).mono (fun x n1 v F1 H1 e1 i1=>?_) fun _ _ q=>q⟩;cases x with
 |bl k=>exact ⟨k,IsD.bl_iff.mp i1,n1 F1 H1 e1⟩
 |_=>exact n1.elim
theorem zaH {op:CmpOp}{g:D->D->Option D}(ho:OpD X (compareOp op) g)(ha:QE X E a fa)(hb:QE X E b fb)(hm:behindInMarks op b=false):QT X E (.Compare a [op] [b] pos) (zal (dOp g fa fb)) :=
 PT.weak (zf8 ho ha hb hm) fun σ H Q h=>by
  have h:=zbu h;exact zju h
theorem zbp (ha:QE X E a fa)(he:∀ whole,isTrue a X.env whole=(do let v <- whole;standAt a.pos;holding [v] (truthy v)):=by intro _;rfl):QT X E a (zal fa):=PT.weak (znU ha he) fun σ H Q q=>zbu q
def zb7 (f:FT):FT:=fun sd=>(f sd).bind fun b=>.ok (!b)
def zbB (f g:FT):FT:=fun sd=>(f sd).bind fun b=>if b then g sd else .ok false
def dOrT (f g:FT):FT:=fun sd=>(f sd).bind fun b=>if b then .ok true else g sd
variable {f g:FT}{rest:List Expr}
theorem zbM (ha:QT X E a f):QT X E (.UnaryOp .Not a pos) (zb7 f):=PT.weak (znE ha) fun σ H Q ⟨B,F,sd,r,n⟩ =>
 ⟨B,F,sd,r,(Res.need_bind n).mono (fun _ q=>q) fun _ _ q=>q⟩
theorem zbO (ha:QT X E a f):QW X E (.BoolOp .And [a] pos) f:=zpb ha
theorem zdO (ha:QT X E a f):QW X E (.BoolOp .Or [a] pos) f:=zsz ha
theorem zbW (ha:QT X E a f)(hb:QW X E (.BoolOp .And (b::rest) pos) g):QW X E (.BoolOp .And (a::b::rest) pos) (zbB f g):=PW.weak (zsy ha hb) fun σ H Q ⟨B,F,sd,r,n⟩=>by
 refine ⟨B,F,sd,r,(Res.need_bind n).mono (fun k n1 F1 H1 e1=>?_) fun _ _ q=>q⟩;cases k with
 |true=>exact ⟨B,F1,sd,r.step e1,zss n1 e1⟩
 |false=>exact n1 F1 H1 e1
theorem ze7 (ha:QT X E a f)(hb:QW X E (.BoolOp .Or (b::rest) pos) g):QW X E (.BoolOp .Or (a::b::rest) pos) (dOrT f g):=PW.weak (pw_or ha hb) fun σ H Q ⟨B,F,sd,r,n⟩=>by
 refine ⟨B,F,sd,r,(Res.need_bind n).mono (fun k n1 F1 H1 e1=>?_) fun _ _ q=>q⟩;cases k with
 |true=>exact n1 F1 H1 e1
 |false=>exact ⟨B,F1,sd,r.step e1,zss n1 e1⟩
theorem QW.qt {e:Expr}(h:QW X E e f):QT X E e f:=PW.pt h
def zgy (fa fb:FE):FE:=fun sd=>(zal fa sd).bind fun b=>if b then fb sd else .ok (.bl false)
def dOrV (fa fb:FE):FE:=fun sd=>(zal fa sd).bind fun b=>if b then .ok (.bl true) else fb sd
def zpv (fa:FE):FE:=fun sd=>(zal fa sd).bind fun b=>.ok (.bl !b)
theorem zjj {op}(h:QE X E a fa):QE X E (.BoolOp op [a] pos) fa:=znD h
theorem zik (ha:QE X E a fa)(hb:QE X E (.BoolOp .And (b::rest) pos) fb):QE X E (.BoolOp .And (a::b::rest) pos) (zgy fa fb):=PE.weak (zoz ha hb) fun σ H Q ⟨B,F,sd,r,n⟩=>by
 refine zbu (K:=X.K) (E:=E) (Q:=fun c H1=>if c=true then tD X.K E fb σ H1 Q else Q (.bl false) H1) ⟨B,F,sd,r,(Res.need_bind n).mono (fun k n1 F1 H1 e1=>?_) fun _ _ q=>q⟩;cases k with
 |true=>exact ⟨B,F1,sd,r.step e1,zlF n1 e1⟩
 |false=>exact n1 _ F1 H1 e1 (IsD.bl_iff.mpr rfl)
theorem q_or (ha:QE X E a fa)(hb:QE X E (.BoolOp .Or (b::rest) pos) fb):QE X E (.BoolOp .Or (a::b::rest) pos) (dOrV fa fb):=PE.weak (pe_or ha hb) fun σ H Q ⟨B,F,sd,r,n⟩=>by
 refine zbu (K:=X.K) (E:=E) (Q:=fun c H1=>if c=true then Q (.bl true) H1 else tD X.K E fb σ H1 Q) ⟨B,F,sd,r,(Res.need_bind n).mono (fun k n1 F1 H1 e1=>?_) fun _ _ q=>q⟩;cases k with
 |true=>exact n1 _ F1 H1 e1 (IsD.bl_iff.mpr rfl)
 |false=>exact ⟨B,F1,sd,r.step e1,zlF n1 e1⟩
theorem q_not (ha:QE X E a fa):QE X E (.UnaryOp .Not a pos) (zpv fa):=PE.weak (zsh ha) fun σ H Q ⟨B,F,sd,r,n⟩=>by
 refine zbu (K:=X.K) (E:=E) (Q:=fun c H1=>Q (.bl (!c)) H1) ⟨B,F,sd,r,(Res.need_bind n).mono (fun k n1 F1 H1 e1=>?_) fun _ _ q=>q⟩;exact n1 _ F1 H1 e1 (IsD.bl_iff.mpr rfl)
def dIf (c:FT)(fa fb:FE):FE:=fun sd=>(c sd).bind fun k=>if k then fa sd else fb sd
theorem zf5 {c:Expr}(hc:QT X E c f)(ha:QE X E a fa)(hb:QE X E b fb):QE X E (.IfExp c a b pos) (dIf f fa fb):=PE.weak (zmx hc ha hb) fun σ H Q ⟨B,F,sd,r,n⟩=>by
 refine ⟨B,F,sd,r,(Res.need_bind n).mono (fun k n1 F1 H1 e1=>?_) fun _ _ q=>q⟩;cases k with
 |true=>exact ⟨B,F1,sd,r.step e1,zlF n1 e1⟩
 |false=>exact ⟨B,F1,sd,r.step e1,zlF n1 e1⟩
def dNil:FA:=fun _=>.ok []
def zab (fa:FE)(fr:FA):FA:=fun sd=>(fa sd).bind fun x=>(fr sd).bind fun xs=>.ok (x::xs)
theorem zac:QA X E [] dNil:=PA.weak zdy fun σ H Q ⟨B,F,sd,r,n⟩=>n [] F H (.refl r.ext.fh) .nil
theorem zaa {e:Expr}{es:List Expr}{fe:FE}{fr:FA}(ha:QE X E e fe)(hr:QA X E es fr)(hs:starEach (e::es) X.env=(false,eval e X.env)::starEach es X.env:=by rfl):QA X E (e::es) (zab fe fr) :=
 PA.weak (zcz ha hr hs) fun σ H Q ⟨B,F,sd,r,n⟩=>by
  refine ⟨B,F,sd,r,(Res.need_bind n).mono (fun x n1 v F1 H1 e1 i1=>?_) fun _ _ q=>q⟩;refine ⟨B,F1,sd,r.step e1,(Res.need_bind n1).mono (fun xs n2 vs F2 H2 e2 i2=>?_) fun _ _ q=>q.ext e1⟩;exact n2 _ F2 H2 (e1.trans e2) (.mk (IsD.same e2.ff _ _ i1) i2)
def dLst (fr:FA):FE:=fun sd=>(fr sd).bind fun xs=>if xs.length<=1000 then .ok (.lst xs) else .no
def dTup (fr:FA):FE:=fun sd=>(fr sd).bind fun xs=>if xs.length<=1000 then .ok (.tup xs) else .no
theorem zcX {es:List Expr}{fr:FA}(h:QA X E es fr):QN X E (.List es pos) (dLst fr):=PE.weak (zop h) fun σ H Q ⟨B,F,sd,r,n⟩=>by
 refine ⟨B,F,sd,r,(Res.need_bind n).mono (fun xs n1 vs F1 H1 e1 i1=>?_) fun _ _ q=>q⟩
 split at n1
 ·rename_i hl;have hz:=i1.length;refine ⟨small (by omega),fun p hp=>?_⟩;exact n1 p F1 (upd H1 p (.lst vs)) (e1.trans (.keep e1.fh hp _)) (zas e1.hh hp) (zas e1.fh hp) ⟨vs,zai,i1⟩
 ·exact n1.elim
theorem zcw {es:List Expr}{x1}{fr:FA}(h:QA X E es fr):QE X E (.Tuple es x1 pos) (dTup fr):=PE.weak (zsq h) fun σ H Q ⟨B,F,sd,r,n⟩=>by
 refine ⟨B,F,sd,r,(Res.need_bind n).mono (fun xs n1 vs F1 H1 e1 i1=>?_) fun _ _ q=>q⟩
 split at n1
 ·rename_i hl;have hz:=i1.length;refine ⟨small (by omega),fun p hp=>?_⟩;have ea:=Ext.alloc e1.fh hp (.tup vs);exact n1 _ _ _ (e1.trans ea) (IsD.tup_iff.mpr ⟨p,vs,rfl,.of zai,IsDs.same ea.ff _ _ i1⟩)
 ·exact n1.elim
def SpD (K:W.Frag)(Fn:List D->Res D):Sp:=fun vs H Q _=>∃ F ds,Same F H/\IsDs K F ds vs/\(Fn ds).need (OkD K F H Q) (XW K E0 F H)
def SpN (K:W.Frag)(Fn:List D->Res D):Sp:=fun vs H Q _=>∃ F ds,Same F H/\IsDs K F ds vs/\(Fn ds).need (OkN K F H Q) (XW K E0 F H)
def zav (Fn:List D->Res D)(fr:FA):FE:=fun sd=>(fr sd).bind Fn
theorem q_fn {name:Str}{k:Nat}{ps:List Str}{Fn:List D->Res D}{p:Pos}{e:Expr}{es:List Expr}{fr:FA}(c:zcS X.prog X.w X.K X.mg X.base name k ps (SpD X.K Fn))(hr:Room k X.A)(hg:Gl X name)(ha:QA X E0 (e::es) fr)
 (hdb:(name == ("__debug__" : Str))=false:=by decide) (he:starEach (e::es) X.env=(false,eval e X.env)::starEach es X.env:=by rfl) (hpl:(backTo pos (starEach es X.env)).any (·.1)=false:=by rfl) :
 QE X E0 (.Call (.Name name p) (e::es) [] pos) (zav Fn fr):=PE.weak (zoF c hr hg ha hdb he hpl) fun σ H Q ⟨B,F,sd,r,n⟩=>by
 refine ⟨B,F,sd,r,(Res.need_bind n).mono (fun xs n1 vs F1 H1 e1 i1=>?_) fun _ _ q=>q⟩;show SpD X.K Fn (vs++[]) H1 Q E0;rw [List.append_nil];exact ⟨F1,xs,e1.fh,i1,zlF n1 e1⟩
theorem zkR {name:Str}{k:Nat}{ps:List Str}{Fn:List D->Res D}{p:Pos}{e:Expr}{es:List Expr}{fr:FA}(c:zcS X.prog X.w X.K X.mg X.base name k ps (SpN X.K Fn))(hr:Room k X.A)(hg:Gl X name)(ha:QA X E0 (e::es) fr)
 (hdb:(name == ("__debug__" : Str))=false:=by decide) (he:starEach (e::es) X.env=(false,eval e X.env)::starEach es X.env:=by rfl) (hpl:(backTo pos (starEach es X.env)).any (·.1)=false:=by rfl) :
 QN X E0 (.Call (.Name name p) (e::es) [] pos) (zav Fn fr):=PE.weak (zoF c hr hg ha hdb he hpl) fun σ H Q ⟨B,F,sd,r,n⟩=>by
 refine ⟨B,F,sd,r,(Res.need_bind n).mono (fun xs n1 vs F1 H1 e1 i1=>?_) fun _ _ q=>q⟩;show SpN X.K Fn (vs++[]) H1 Q E0;rw [List.append_nil];exact ⟨F1,xs,e1.fh,i1,needN n1 e1⟩
def dBlt (g:List D->Option D)(fr:FA):FE:=fun sd=>(fr sd).bind fun xs=>.ofO (g xs)
theorem zam {id:String}{x:Str}{p:Pos}{e:Expr}{es:List Expr}{g:List D->Option D}{fr:FA}(hc:zaN X (.builtin id) (rDA X.K g))(hg:Gl X x)(hm:X.mg x=none)(hv:bootBuiltins x=some (.builtin id))(ha:QA X E (e::es) fr)(hn:x ≠ "__name__" := by decide)(hdb:(x == ("__debug__" : Str))=false:=by decide)
 (he:starEach (e::es) X.env=(false,eval e X.env)::starEach es X.env:=by rfl) (hpl:(backTo pos (starEach es X.env)).any (·.1)=false:=by rfl):QE X E (.Call (.Name x p) (e::es) [] pos) (dBlt g fr) :=
 PE.weak (zhQ hc hg hm hv ha hn hdb he hpl) fun σ H Q ⟨B,F,sd,r,n⟩=>by
  refine ⟨B,F,sd,r,(Res.need_bind n).mono (fun xs n1 vs F1 H1 e1 i1=>?_) fun _ _ q=>q⟩;obtain ⟨z,hz,q⟩:=Res.need_ofO n1;exact ⟨F1,xs,z,e1.fh,i1,hz,q.ext e1⟩
theorem zf2 {T:String}{x:Str}{p:Pos}{e:Expr}{es:List Expr}{g:List D->Option D}{fr:FA}(hc:zaN X (.type T) (rDA X.K g))(hg:Gl X x)(hm:X.mg x=none)(hv:bootBuiltins x=some (.type T))(ha:QA X E (e::es) fr)(hn:x ≠ "__name__" := by decide)(hdb:(x == ("__debug__" : Str))=false:=by decide)
 (he:starEach (e::es) X.env=(false,eval e X.env)::starEach es X.env:=by rfl) (hpl:(backTo pos (starEach es X.env)).any (·.1)=false:=by rfl):QE X E (.Call (.Name x p) (e::es) [] pos) (dBlt g fr) :=
 PE.weak (zdb hc hg hm hv ha hn hdb he hpl) fun σ H Q ⟨B,F,sd,r,n⟩=>by
  refine ⟨B,F,sd,r,(Res.need_bind n).mono (fun xs n1 vs F1 H1 e1 i1=>?_) fun _ _ q=>q⟩;obtain ⟨z,hz,q⟩:=Res.need_ofO n1;exact ⟨F1,xs,z,e1.fh,i1,hz,q.ext e1⟩
theorem zcu {T:String}{x:Str}{p:Pos}{e:Expr}{es:List Expr}{g:List D->Option D}{fr:FA}(hc:zaN X (.type T) (rDAN X.K g))(hg:Gl X x)(hm:X.mg x=none)(hv:bootBuiltins x=some (.type T))(ha:QA X E (e::es) fr)(hn:x ≠ "__name__" := by decide)(hdb:(x == ("__debug__" : Str))=false:=by decide)
 (he:starEach (e::es) X.env=(false,eval e X.env)::starEach es X.env:=by rfl) (hpl:(backTo pos (starEach es X.env)).any (·.1)=false:=by rfl):QN X E (.Call (.Name x p) (e::es) [] pos) (dBlt g fr) :=
 PE.weak (zdb hc hg hm hv ha hn hdb he hpl) fun σ H Q ⟨B,F,sd,r,n⟩=>by
  refine ⟨B,F,sd,r,(Res.need_bind n).mono (fun xs n1 vs F1 H1 e1 i1=>?_) fun _ _ q=>q⟩;obtain ⟨z,hz,q⟩:=Res.need_ofO n1;exact ⟨F1,xs,z,e1.fh,i1,hz,q.ext e1⟩
def zec:D->Bool
 | .tup _=>false
 | .lst _=>false
 | .dct _ _=>false
 | .ins _ _ _=>false
 | .exc _=>false
 | .dcf _ _=>false
 | .pin _ _=>false
 | .scr _=>false
 |_=>true
theorem IsD.scal {K:W.Frag}{F F':Hp}{d:D}{v:V}(s:zec d=true)(h:IsD K F d v):IsD K F' d v:=by
 cases d with
 |tup _=>exact zqb s
 |lst _=>exact zqb s
 |dct _ _=>exact zqb s
 |ins _ _ _=>exact zqb s
 |exc _=>exact zqb s
 |dcf _ _=>exact zqb s
 |pin _ _=>exact zqb s
 |scr _=>exact zqb s
 |_=>exact h
def Res.bare {α : Type}(r:Res α):Res α := match r with
 | .ok a=>.ok a
 | .ex c []=>.ex c []
 |_=>.no
theorem Res.need_bare {α : Type}{K:W.Frag}{F H F1:Hp}{r:Res α}{p:α -> Prop}(sF:Same F H)(h:r.bare.need p (XW K E0 F H)):r.need p (XW K E0 F1 H):=by
 cases r with
 |ok a=>exact h
 |no=>exact h
 |ex c fs =>
  cases fs with
  |nil=>exact fun cv a F2 H2 e2 ⟨C,h1,h2,_⟩=>h cv none F H2 (.grow sF e2.hh) ⟨C,h1,h2,.inl rfl⟩
  |cons d r=>exact h.elim
def dTmp (is:List Nat)(f:FE):FE:=fun sd=>(f (frzD is sd)).bare.bind fun d=>if zec d then .ok d else .no
theorem zpL {e:Expr}{fe:FE}(is:List Nat)(h:QE X E0 e fe):QE X E0 e (dTmp is fe):=PE.weak h fun σ H Q ⟨B,F,sd,r,n⟩=>by
 obtain ⟨F1,s1,r1⟩:=r.frz is;refine ⟨B,F1,_,r1,(Res.need_bare r.ext.fh (Res.need_bind n)).mono (fun d n1 v F2 H2 e2 i2=>?_) fun c fs q=>q⟩
 split at n1
 ·rename_i hs;exact n1 v F H2 (.grow r.ext.fh e2.hh) (i2.scal hs)
 ·exact n1.elim
end
inductive Out where
 |next (sd:SD)|ret (d:D)|brk (sd:SD)|cont (sd:SD)
def OkM (K:W.Frag)(F H:Hp)(Q:VK)(d:D):Prop:=if zec d=true then OkD K F H Q d else OkN K F H Q d
def RetOk (K:W.Frag)(m:Option Bool)(B:Bs)(Q:VK)(d:D):Prop:=match m with
 |some true=>OkN K B.F0 B.H0 Q d
 |some false=>OkD K B.F0 B.H0 Q d
 |none=>OkM K B.F0 B.H0 Q d
def zea (K:W.Frag)(m:Option Bool)(B:Bs)(F:Hp)(T:Ends):Out->Prop
 | .next sd=>∀ σ F' H',Same F F'->RS K B F' H' sd σ -> T.nx σ H'
 | .brk sd=>∀ σ F' H',Same F F'->RS K B F' H' sd σ -> T.bk σ H'
 | .cont sd=>∀ σ F' H',Same F F'->RS K B F' H' sd σ -> T.ct σ H'
 | .ret d=>RetOk K m B T.rt d
abbrev FS:=SD->Res Out
def tDS (K:W.Frag)(E:XK)(m:Option Bool)(g:FS):TS:=fun T σ H=>∃ B F sd,RS K B F H sd σ /\ (g sd).need (zea K m B F T) (XW K E B.F0 B.H0)
abbrev QS (X:Cx)(E:XK)(m:Option Bool)(st:Stmt)(g:FS):Prop:=PS X st (tDS X.K E m g)
abbrev QSs (X:Cx)(E:XK)(m:Option Bool)(st:List Stmt)(g:FS):Prop:=PSs X st (tDS X.K E m g)
section
variable {K:W.Frag}{E:XK}{m:Option Bool}{B:Bs}{F F' H:Hp}{T:Ends}
theorem zea.mono {o:Out}(h:zea K m B F T o)(e:Same F F'):zea K m B F' T o:=by
 cases o with
 |next sd=>exact fun σ F2 H2 s r=>h σ F2 H2 (e.trans s) r
 |brk sd=>exact fun σ F2 H2 s r=>h σ F2 H2 (e.trans s) r
 |cont sd=>exact fun σ F2 H2 s r=>h σ F2 H2 (e.trans s) r
 |ret d=>exact h
end
section
variable {X:Cx}{E:XK}{m:Option Bool}{st:Stmt}{sts:List Stmt}{g g1 g2:FS}{pos:Pos}
def zaP:FS:=fun sd=>.ok (.next sd)
def sSeq (g1 g2:FS):FS:=fun sd=>(g1 sd).bind fun o=>match o with
 | .next sd'=>g2 sd'
 |o=>.ok o
theorem za8:QSs X E m [] zaP:=PSs.weak zgJ fun T σ H ⟨B,F,sd,r,n⟩=>n σ F H (.refl _) r
theorem zag (h:QS X E m st g):QSs X E m [st] g:=zjB h
theorem zah (h1:QS X E m st g1)(h2:QSs X E m sts g2):QSs X E m (st::sts) (sSeq g1 g2):=PSs.weak (zfi h1 h2) fun T σ H ⟨B,F,sd,r,n⟩=>by
 refine ⟨B,F,sd,r,(Res.need_bind n).mono (fun o n1=>?_) fun _ _ q=>q⟩;cases o with
 |next sd'=>exact fun σ' F' H' s r'=>⟨B,F',sd',r',n1.mono (fun o q=>q.mono s) fun _ _ q=>q⟩
 |ret d=>exact n1
 |brk sd'=>exact n1
 |cont sd'=>exact n1
theorem zqC (is:List Nat)(h:QS X E m st g):QS X E m st (fun sd=>g (frzD is sd)):=PS.weak h fun T σ H ⟨B,F,sd,r,n⟩=>by
 obtain ⟨F1,s1,r1⟩:=r.frz is;exact ⟨B,F1,_,r1,n.mono (fun _ q=>q.mono s1) fun _ _ q=>q⟩
variable {e:Expr}{fe:FE}
def sSet (i:Nat)(f:FE):FS:=fun sd=>(f sd).bind fun d=>.ok (.next (sd.set i (some (.val d))))
def sOwn (i:Nat)(f:FE):FS:=fun sd=>(f sd).bind fun d=>.ok (.next (sd.set i (some (.own false d))))
theorem zaQ {i:Nat}{x:Str}{pos':Pos}(hN:X.N.Nodup)(hi:X.N[i]? = some x)(hx:Loc X.env.scope x)(he:QE X E e fe)(hs:swapsWith e (some (.Name x pos')) pos.line X.env=pure false:=by rfl)
 (hf:X.fn x=true\/X.env.scope.names.lookup x=some .local:=by first|exact .inl rfl|exact .inr rfl):QS X E m (.Assign [.Name x pos'] e pos) (sSet i fe):=PS.weak (zkr hN hi hx he hs hf) fun T σ H ⟨B,F,sd,r,n⟩=>by
 refine ⟨B,F,sd,r,(Res.need_bind n).mono (fun d n1 v F1 H1 e1 i1=>?_) fun _ _ q=>q.ext r.ext⟩;exact n1 _ F1 H1 e1.ff ((r.step e1).setVal i1)
theorem zeD {i:Nat}{x:Str}{pos':Pos}(hN:X.N.Nodup)(hi:X.N[i]? = some x)(hx:Loc X.env.scope x)(he:QN X E e fe)(hs:swapsWith e (some (.Name x pos')) pos.line X.env=pure false:=by rfl)
 (hf:X.fn x=true\/X.env.scope.names.lookup x=some .local:=by first|exact .inl rfl|exact .inr rfl):QS X E m (.Assign [.Name x pos'] e pos) (sOwn i fe):=PS.weak (zkr hN hi hx he hs hf) fun T σ H ⟨B,F,sd,r,n⟩=>by
 refine ⟨B,F,sd,r,(Res.need_bind n).mono (fun d n1 l F1 H1 e1 h1 h2 h3=>?_) fun _ _ q=>q.ext r.ext⟩;refine n1 _ F1 H1 e1.ff ((r.step e1).setOwn (zas r.ext.hh h1) h2 h3 fun j p d' q1 q2=>?_);obtain ⟨l',p1,_,_,p4,_⟩:=r.own q1;rw [p1] at q2;cases q2;obtain ⟨o,ho⟩:=p4.has;rw [h1] at ho;exact zqn ho
def sRet (f:FE):FS:=fun sd=>(f sd).bind fun d=>.ok (.ret d)
theorem zaD (he:QE X E e fe):QS X E false (.Return (some e) pos) (sRet fe):=PS.weak (zid he) fun T σ H ⟨B,F,sd,r,n⟩=>by
 refine ⟨B,F,sd,r,(Res.need_bind n).mono (fun d n1 v F1 H1 e1 i1=>?_) fun _ _ q=>q.ext r.ext⟩;exact n1 v F1 H1 (r.ext.trans e1) i1
theorem zlL (he:QN X E e fe):QS X E true (.Return (some e) pos) (sRet fe):=PS.weak (zid he) fun T σ H ⟨B,F,sd,r,n⟩=>by
 refine ⟨B,F,sd,r,(Res.need_bind n).mono (fun d n1 l F1 H1 e1 h1 h2 h3=>?_) fun _ _ q=>q.ext r.ext⟩;exact n1 l F1 H1 (r.ext.trans e1) (zas r.ext.hh h1) h2 h3
def zcM (i:Nat):FS:=fun sd=>match sd[i]? with
 |some (some (.own _ d))=>.ok (.ret d)
 |_=>.no
theorem zdM {i:Nat}(he:PE X e (tVar i)):QS X E true (.Return (some e) pos) (zcM i):=PS.weak (zid he) fun T σ H ⟨B,F,sd,r,n⟩=>by
 unfold zcM at n
 split at n
 ·rename_i d q;obtain ⟨l,h1,h2,h3,h4,_⟩:=r.own q;exact ⟨.ref l,h1,n l F H r.ext h2 h3 h4⟩
 ·exact n.elim
def zfP (f:FE):FS:=fun sd=>(f sd).bind fun _=>.ok (.next sd)
theorem zel (he:QE X E e fe)(hs:swapsWith e none pos.line X.env=pure false:=by rfl):QS X E m (.Expr e pos) (zfP fe):=PS.weak (zcN he hs) fun T σ H ⟨B,F,sd,r,n⟩=>by
 refine ⟨B,F,sd,r,(Res.need_bind n).mono (fun d n1 v F1 H1 e1 i1=>?_) fun _ _ q=>q.ext r.ext⟩;exact n1 σ F1 H1 e1.ff (r.step e1)
def sIf (c:FT)(g1 g2:FS):FS:=fun sd=>(c sd).bind fun b=>if b then g1 sd else g2 sd
theorem zbr {c:Expr}{a b:List Stmt}{fc:FT}(hc:QT X E c fc)(ha:QSs X E m a g1)(hb:QSs X E m b g2):QS X E m (.If c a b pos) (sIf fc g1 g2):=PS.weak (zqm hc ha hb) fun T σ H ⟨B,F,sd,r,n⟩=>by
 refine ⟨B,F,sd,r,(Res.need_bind n).mono (fun b n1 F1 H1 e1=>?_) fun _ _ q=>q.ext r.ext⟩;cases b with
 |true=>exact ⟨B,F1,sd,r.step e1,n1.mono (fun _ q=>q.mono e1.ff) fun _ _ q=>q⟩
 |false=>exact ⟨B,F1,sd,r.step e1,n1.mono (fun _ q=>q.mono e1.ff) fun _ _ q=>q⟩
def zcm (i:Nat)(f:FE):FS:=fun sd=>match sd[i]? with
 |some (some (.own false (.lst ds)))=>(f sd).bind fun d=>if ds.length<sizeLine then .ok (.next (sd.set i (some (.own false (.lst (ds++[d])))))) else .no
 |_=>.no
theorem zfK {i:Nat}{o:Expr}{apos cpos:Pos}(ho:PE X o (tVar i))(he:QE X E e fe)
 (hp:∀ {to:TE} {t:TA},PE X o to->PA X [e] t->PE X (.Call (.Attribute o "append" apos) [e] [] cpos) (tBM X.K "list" zg9 to t))
 (hs:swapsWith (.Call (.Attribute o "append" apos) [e] [] cpos) none pos.line X.env=pure false:=by rfl)
 (hst:starEach [e] X.env=(false,eval e X.env)::starEach [] X.env:=by rfl):QS X E m (.Expr (.Call (.Attribute o "append" apos) [e] [] cpos) pos) (zcm i fe) :=
 PS.weak (zcN (hp ho (zaa he zac hst)) hs) fun T σ H ⟨B,F,sd,r,n⟩=>by
  unfold zcm at n
  split at n
  ·rename_i ds hi;obtain ⟨l,h1,h2,h3,⟨xs,h4,h5⟩,_⟩:=r.own hi;refine ⟨.ref l,h1,.inl ⟨rfl,xs,SqL.of h4⟩,B,F,sd,r,?_⟩;unfold zab dNil;show ((fe sd).bind fun x=>.ok [x]).need _ _;have n2:=Res.need_bind n;cases q:fe sd with
   |no=>rw [q] at n2;exact n2
   |ex c fs=>rw [q] at n2;exact n2.ext r.ext
   |ok d =>
    rw [q] at n2;intro vs F1 H1 e1 i1;rw [IsDs.cons_iff] at i1;obtain ⟨v,w,rfl,i2,i3⟩:=i1;rw [IsDs.nil_iff] at i3;subst i3;have n3:(if ds.length<sizeLine then Res.ok (Out.next (sd.set i (some (.own false (.lst (ds++[d])))))) else .no).need (zea X.K m B F T) (XW X.K E B.F0 B.H0):=n2
    split at n3
    ·rename_i hz;have hl:=h5.length;refine ⟨l,xs,v,rfl,rfl,e1.hh _ _ h4,by omega,?_⟩;have r1:=r.step e1;exact n3 σ F1 _ e1.ff (r1.chg hi h1 ⟨xs++[v],zai,(IsDs.same e1.ff _ _ h5).snoc i2⟩)
    ·exact n3.elim
  ·exact n.elim
def zdr (i:Nat)(f:FE):FS:=fun sd=>match sd[i]? with
 |some (some (.own false (.lst ds)))=>(f sd).bind fun d=>match d with
  | .lst es=>if ds.length+es.length<=sizeLine then .ok (.next (sd.set i (some (.own false (.lst (ds++es)))))) else .no
  |_=>.no
 |_=>.no
theorem zkO {i:Nat}{o:Expr}{apos cpos:Pos}(ho:PE X o (tVar i))(he:QN X E e fe)
 (hp:∀ {to:TE} {t:TA},PE X o to->PA X [e] t->PE X (.Call (.Attribute o "extend" apos) [e] [] cpos) (tBM X.K "list" zle to t))
 (hs:swapsWith (.Call (.Attribute o "extend" apos) [e] [] cpos) none pos.line X.env=pure false:=by rfl)
 (hst:starEach [e] X.env=(false,eval e X.env)::starEach [] X.env:=by rfl):QS X E m (.Expr (.Call (.Attribute o "extend" apos) [e] [] cpos) pos) (zdr i fe) :=
 PS.weak (zcN (hp ho (zcz he zdy hst)) hs) fun T σ H ⟨B,F,sd,r,n⟩=>by
  unfold zdr at n
  split at n
  ·rename_i ds hi;obtain ⟨l,h1,h2,h3,⟨xs,h4,h5⟩,_⟩:=r.own hi;refine ⟨.ref l,h1,.inl ⟨rfl,xs,SqL.of h4⟩,B,F,sd,r,(Res.need_bind n).mono (fun d n1 b F1 H1 e1 i1 i2 i3=>?_) fun _ _ q=>q.ext r.ext⟩;cases d with
   |lst es =>
    obtain ⟨ys,g1,g2⟩:=i3;have n3:(if ds.length+es.length<=sizeLine then Res.ok (Out.next (sd.set i (some (.own false (.lst (ds++es)))))) else .no).need (zea X.K m B F T) (XW X.K E B.F0 B.H0):=n1
    split at n3
    ·rename_i hz;have hl:=h5.length;have hl2:=g2.length;refine ⟨l,b,xs,ys,rfl,rfl,e1.hh _ _ h4,g1,by omega,?_⟩;have r1:=r.step e1;exact n3 σ F1 _ e1.ff (r1.chg hi h1 ⟨xs++ys,zai,(IsDs.same e1.ff _ _ h5).append g2⟩)
    ·exact n3.elim
   |_=>exact n1.elim
  ·exact n.elim
inductive Tg where
 |one (i:Nat)|tup (is:List Nat)
def setAll:List Nat->List D->SD->SD
 |i::is,d::ds,sd=>setAll is ds (sd.set i (some (.val d)))
 |_,_,sd=>sd
def zbl:Tg->D->SD->Res SD
 | .one i,d,sd=>.ok (sd.set i (some (.val d)))
 | .tup is,.tup ds,sd=>if ds.length=is.length then .ok (setAll is ds sd) else .no
 |_,_,_=>.no
def zfl:List Nat->List V->St->St
 |i::is,v::vs,σ => zfl is vs (σ.set i (some v))
 |_,_,σ => σ
theorem RS.setAll {K:W.Frag}{B:Bs}{F H:Hp}:∀ {is:List Nat} {ds:List D} {vs:List V} {sd:SD} {σ : St},RS K B F H sd σ -> IsDs K F ds vs->RS K B F H (setAll is ds sd) (zfl is vs σ)
 | [],ds,vs,sd,σ,r,_=>r
 |i::is,[],vs,sd,σ,r,h=>by
  rw [IsDs.nil_iff] at h;subst h;exact r
 |i::is,d::ds,vs,sd,σ,r,h=>by
  rw [IsDs.cons_iff] at h;obtain ⟨v,w,rfl,h1,h2⟩:=h;exact RS.setAll (is:=is) (ds:=ds) (vs:=w) (r.setVal (i:=i) h1) h2
theorem RS.forget {K:W.Frag}{B:Bs}{F H:Hp}{sd sd':SD}{σ : St}(r:RS K B F H sd σ)(hl:sd'.length=sd.length)(h:∀ (i:Nat) (x:SV),sd'[i]? = some (some x)->sd[i]? = some (some x)):RS K B F H sd' σ :=
 ⟨r.ext,by rw [r.len,hl],fun q=>r.val (h _ _ q),fun q=>r.own (h _ _ q),fun n q1 q2 q3=>r.apart n (h _ _ q1) (h _ _ q2) q3⟩
def gT:Tg->W.Frag->TG
 | .one i,_=>ze0 i
 | .tup is,K=>fun v σ H Q=>∃ a xs,v=.ref a/\SqT K H a xs/\xs.length=is.length/\Q (zfl is xs σ) H
theorem zl5 {K:W.Frag}{tg:Tg}{B:Bs}{F H:Hp}{sd:SD}{σ : St}{d:D}{v:V}{p:SD->Prop}{q:Str->List D->Prop}{Q:St->Hp->Prop}(r:RS K B F H sd σ)(hi:IsD K F d v)(n:(zbl tg d sd).need p q)
 (h:∀ sd' σ',p sd'->zbl tg d sd=.ok sd'->RS K B F H sd' σ'->Q σ' H):gT tg K v σ H Q:=by
 cases tg with
 |one i=>exact h _ _ n rfl (r.setVal hi)
 |tup is =>
  cases d with
  |tup ds =>
   rw [IsD.tup_iff] at hi;obtain ⟨a,xs,rfl,h1,h2⟩:=hi;have eb:zbl (.tup is) (.tup ds) sd=if ds.length=is.length then .ok (setAll is ds sd) else .no:=rfl
   by_cases hl:ds.length=is.length
   ·rw [if_pos hl] at eb;rw [eb] at n;exact ⟨a,xs,rfl,(h1.same r.ext.fh).sq,by rw [h2.length,hl],h _ _ n eb (r.setAll h2)⟩
   ·rw [if_neg hl] at eb;rw [eb] at n;exact n.elim
  |_=>exact n.elim
abbrev QG (X:Cx)(e:Expr)(tg:Tg):Prop:=PG X e (gT tg X.K)
def Walk (K:W.Frag)(F1:Hp)(J:It)(ds:List D):Prop:=∀ (i:Nat) (F2 H2:Hp),Same F1 F2->Same F2 H2 ->
 (i<ds.length->J.go i H2/\∀ x H3,J.yld i H2 x H3->∃ d F3,ds[i]? = some d/\Ext F2 H2 F3 H3/\IsD K F3 d x)/\(ds.length<=i->J.stop i H2)
def tDI (K:W.Frag)(E:XK)(f:FA):TI:=fun σ H R=>∃ B F sd,RS K B F H sd σ /\ (f sd).need (fun ds=>∀ J F' H',Ext F H F' H'->Walk K F' J ds->R J H') (XW K E F H)
abbrev QI (X:Cx)(E:XK)(tg iter:Expr)(f:FA):Prop:=PI X tg iter (tDI X.K E f)
def forD (b:D->FS):List D->FS
 | [],sd=>.ok (.next sd)
 |x::xs,sd=>(b x sd).bind fun o=>match o with
  | .next sd'=>forD b xs sd'
  | .cont sd'=>forD b xs sd'
  | .brk sd'=>.ok (.next sd')
  | .ret d=>.ok (.ret d)
def sFor (it:FA)(tg:Tg)(b:FS):FS:=fun sd=>(it sd).bind fun ds=>forD (fun x sd=>(zbl tg x sd).bind b) ds sd
theorem zb4 {tg iter:Expr}{body:List Stmt}{fi:FA}{t:Tg}(hp:PassesOwn (model X.prog X.w) X.A X.env X.xe)(hc:X.calm=true)(hi:QI X E tg iter fi)(hg:QG X tg t)(hb:QSs X E m body g)
 (hss:∀ x,foldedSetIterable iter X.env x=pure x:=by intro _;rfl):QS X E m (.For tg iter body [] pos) (sFor fi t g):=PS.weak (znS hp hc hi hg hb hss) fun T σ H ⟨B,F,sd,r,n⟩=>by
 refine ⟨B,F,sd,r,(Res.need_bind n).mono (fun ds n1 J F1 H1 e1 wk=>?_) fun _ _ q=>q.ext r.ext⟩;refine ⟨fun i k σ H=>k=ds.length-i/\i<=ds.length/\∃ F2 sd,Same F1 F2/\RS X.K B F2 H sd σ /\ (forD (fun x sd=>(zbl t x sd).bind g) (ds.drop i) sd).need (zea X.K m B F2 T) (XW X.K E B.F0 B.H0),
  ⟨ds.length,rfl,Nat.zero_le _,F1,sd,.refl _,r.step e1,n1.mono (fun _ q=>q.mono e1.ff) fun _ _ q=>q⟩,?_⟩
 rintro i k σ2 H2 ⟨rfl,hi,F2,sd2,s2,r2,n2⟩;obtain ⟨w1,w2⟩:=wk i F2 H2 s2 r2.ext.fh;by_cases hlt:i<ds.length
 ·obtain ⟨go,yl⟩:=w1 hlt;refine .inr ⟨go,fun σ' H'=>∃ F3 sd3,Same F1 F3/\RS X.K B F3 H' sd3 σ'/\(forD (fun x sd=>(zbl t x sd).bind g) (ds.drop (i+1)) sd3).need (zea X.K m B F3 T) (XW X.K E B.F0 B.H0),
   fun σ' H' ⟨F3,sd3,q1,q2,q3⟩=>⟨ds.length-(i+1),by omega,rfl,hlt,F3,sd3,q1,q2,q3⟩,fun x H3 y=>?_⟩
  obtain ⟨d,F3,hd,e3,i3⟩:=yl x H3 y;rw [List.drop_eq_getElem_cons hlt] at n2;have hd':ds[i]=d:=by rw [Zqg hlt] at hd;exact Zqi hd
  rw [hd'] at n2;have r3:=r2.step e3;unfold forD at n2;have n3:=Res.need_bind (Res.need_bind n2);refine zl5 r3 i3 n3 fun sd' σ' n4 _ r4=>?_;refine ⟨B,F3,sd',r4,n4.mono (fun o n5=>?_) fun _ _ q=>q⟩;cases o with
  |next sd5=>exact fun σ5 F5 H5 s5 r5=>⟨F5,sd5,(s2.trans e3.ff).trans s5,r5,n5.mono (fun _ q=>q.mono (e3.ff.trans s5)) fun _ _ q=>q⟩
  |cont sd5=>exact fun σ5 F5 H5 s5 r5=>⟨F5,sd5,(s2.trans e3.ff).trans s5,r5,n5.mono (fun _ q=>q.mono (e3.ff.trans s5)) fun _ _ q=>q⟩
  |brk sd5=>exact fun σ5 F5 H5 s5 r5=>n5 σ5 F5 H5 (e3.ff.trans s5) r5
  |ret d=>exact n5
 ·have he:i=ds.length:=by omega
  refine .inl ⟨w2 (by omega),?_⟩;subst he;rw [List.drop_length] at n2;exact n2 σ2 F2 H2 (.refl _) r2
def mapD {α β : Type}(f:α -> Res β):List α -> Res (List β)
 | []=>.ok []
 |x::xs=>(f x).bind fun y=>(mapD f xs).bind fun ys=>.ok (y::ys)
def capD (cap:List (Option Nat))(sd:SD):SD:=cap.map fun o=>o.bind fun j=>match sd[j]? with
 |some (some (.val d))=>some (.val d)
 |_=>none
def zcZ (sd:SD)(i:Nat):Bool:=match sd[i]? with
 |some none=>true
 |_=>false
def zdk (sd:SD):Tg->Bool
 | .one i=>zcZ sd i
 | .tup is=>is.all (zcZ sd)
def zbX (cap:List (Option Nat))(it:FA)(tg:Tg)(f:FE):FE:=fun sd=>(it sd).bind fun ds=>if zdk (capD cap sd) tg=true/\ds.length<sizeLine then
 (mapD (fun x=>(zbl tg x (capD cap sd)).bind f) ds).bind fun ys=>.ok (.lst ys) else .no
theorem RS.cap {K:W.Frag}{B:Bs}{F H:Hp}{sd:SD}{σ : St}(cap:List (Option Nat))(r:RS K B F H sd σ):RS K B F H (capD cap sd) (zho cap σ):=by
 have key:∀ {i:Nat} {x:SV},(capD cap sd)[i]? = some (some x)->∃ j d,cap[i]? = some (some j)/\sd[j]? = some (some (.val d))/\x=.val d:=fun {i x} q=>by
  unfold capD at q;rw [List.getElem?_map] at q;cases hc:cap[i]? with
  |none=>rw [hc] at q;exact zqn q
  |some o =>
   rw [hc] at q;cases o with
   |none=>cases q
   |some j =>
    have q:(match sd[j]? with
     |some (some (.val d))=>some (SV.val d)
     |_=>none)=some x:=Zqi q
    split at q
    ·rename_i d hd;exact ⟨j,d,rfl,hd,(Zqi q).symm⟩
    ·exact zqn q
 refine ⟨r.ext,by unfold capD zho;rw [Zql,Zql],fun {i d} q=>?_,fun {i p d} q=>?_,fun {i j p p' d e l} _ q=>?_⟩
 ·obtain ⟨j,d',h1,h2,h3⟩:=key q;cases h3;obtain ⟨v,v1,v2⟩:=r.val h2;refine ⟨v,?_,v2⟩;unfold zho;rw [List.getElem?_map,h1];show some (Option.bind (some j) fun j=>(σ[j]?).join)=_;rw [Option.bind_some,v1];rfl
 ·obtain ⟨j,d',h1,h2,h3⟩:=key q;cases h3
 ·obtain ⟨j,d',h1,h2,h3⟩:=key q;cases h3
theorem zcE:∀ (is:List Nat) (ds:List D) (sd0 sd:SD),is.all (zcZ sd0)=true->sd.length=sd0.length->(∀ (i:Nat) (x:SV),sd0[i]? = some (some x)->sd[i]? = some (some x)) ->
 (setAll is ds sd).length=sd0.length/\∀ (i:Nat) (x:SV),sd0[i]? = some (some x)->(setAll is ds sd)[i]? = some (some x)
 | [],ds,sd0,sd,_,hl,h=>⟨hl,h⟩
 |i::is,[],sd0,sd,_,hl,h=>⟨hl,h⟩
 |i::is,d::ds,sd0,sd,hn,hl,h=>by
  rw [List.all_cons,Bool.and_eq_true] at hn;refine zcE is ds sd0 (sd.set i (some (.val d))) hn.2 (by rw [List.length_set,hl]) fun j x q=>?_;have ne:i≠j:=fun z=>by
   subst z;have:=hn.1;unfold zcZ at this;rw [q] at this;exact zqb this
  rw [zau ne];exact h j x q
theorem zdt {tg:Tg}{sd0 sd:SD}{d:D}(hn:zdk sd0 tg=true)(h:zbl tg d sd0=.ok sd):sd0.length=sd.length/\∀ (i:Nat) (x:SV),sd0[i]? = some (some x)->sd[i]? = some (some x):=by
 cases tg with
 |one i =>
  cases h;have:=zcE [i] [d] sd0 sd0 (by rw [List.all_cons,List.all_nil,Bool.and_true];exact hn) rfl fun _ _ q=>q;exact ⟨this.1.symm,this.2⟩
 |tup is =>
  cases d with
  |tup ds =>
   have eb:zbl (.tup is) (.tup ds) sd0=if ds.length=is.length then .ok (setAll is ds sd0) else .no:=rfl
   rw [eb] at h
   split at h
   ·cases h;have:=zcE is ds sd0 sd0 hn rfl fun _ _ q=>q;exact ⟨this.1.symm,this.2⟩
   ·cases h
  |_=>cases h
theorem zkx {α β : Type}{f:α -> Res β}{xs:List α}{i:Nat}{x:α}{p:List β -> Prop}{q:Str->List D->Prop}(hx:xs[i]? = some x)(h:(mapD f (xs.drop i)).need p q):(f x).need (fun y=>(mapD f (xs.drop (i+1))).need (fun ys=>p (y::ys)) q) q:=by
 have hlt:i<xs.length:=(List.getElem?_eq_some_iff.mp hx).1;rw [List.drop_eq_getElem_cons hlt] at h;have e:xs[i]=x:=by rw [Zqg hlt] at hx;exact Zqi hx
 rw [e] at h;unfold mapD at h;refine (Res.need_bind h).mono (fun y h1=>?_) fun _ _ z=>z;exact (Res.need_bind h1).mono (fun ys h2=>h2) fun _ _ z=>z
theorem zhP {K:W.Frag}{t:Tg}{fi:FA}{f:FE}{cap:List (Option Nat)}{σ : St}{H:Hp}{Q:VK}(hh:tDN K E (zbX cap fi t f) σ H Q):ziL cap (tDI K E fi) (gT t K) (tD K E f) σ H Q:=by
 obtain ⟨B,F,sd,r,n⟩:=hh;refine ⟨B,F,sd,r,(Res.need_bind n).mono (fun ds n1 J F1 H1 e1 wk=>?_) fun _ _ q=>q⟩
 split at n1
 ·rename_i hh;obtain ⟨hn,hz⟩:=hh;refine ⟨fun i k ys σ H2=>k=ds.length-i/\i<=ds.length/\∃ F2 es,Ext F1 H1 F2 H2/\RS K B F2 H2 (capD cap sd) σ /\ IsDs K F2 es ys/\es.length=i /\
   (mapD (fun x=>(zbl t x (capD cap sd)).bind f) (ds.drop i)).need (fun rs=>OkN K F2 H2 Q (.lst (es++rs))) (XW K E F2 H2),⟨ds.length,rfl,Nat.zero_le _,F1,[],.refl e1.fh,(r.step e1).cap cap,.nil,rfl,?_⟩,?_⟩
  ·exact (Res.need_bind n1).mono (fun rs q=>(show OkN K F H Q (.lst rs) from q).ext e1) fun _ _ q=>q.ext e1
  rintro i k ys σ2 H2 ⟨rfl,hi,F2,es,e2,r2,i2,hl,n2⟩;have ly:=i2.length;refine ⟨by omega,?_⟩;obtain ⟨w1,w2⟩:=wk i F2 H2 e2.ff e2.fh;by_cases hlt:i<ds.length
  ·obtain ⟨go,yl⟩:=w1 hlt;refine .inr ⟨go,fun x H3 y=>?_⟩;obtain ⟨d,F3,hd,e3,i3⟩:=yl x H3 y;have n3:=zkx hd n2;have r3:=r2.step e3;refine zl5 (K:=K) r3 i3 (Res.need_bind n3) fun sd' σ' n4 hb r4=>?_;obtain ⟨b1,b2⟩:=zdt hn hb;refine ⟨B,F3,sd',r4,n4.mono (fun y n5 v F4 H4 e4 i4=>?_) fun _ _ q=>q.ext e3⟩;refine ⟨ds.length-(i+1),by omega,rfl,hlt,F4,es++[y],(e2.trans e3).trans e4,(r4.step e4).forget b1 b2,(IsDs.same (e3.ff.trans e4.ff) _ _ i2).snoc i4,by rw [List.length_append,hl];rfl,?_⟩;refine n5.mono (fun rs q=>?_) fun _ _ q=>q.ext (e3.trans e4);rw [List.append_assoc];exact q.ext (e3.trans e4)
  ·have he:i=ds.length:=by omega
   subst he;refine .inl ⟨w2 (Nat.le_refl _),fun D hD=>?_⟩;rw [List.drop_length] at n2;have q:OkN K F2 H2 Q (.lst (es++[])):=n2;rw [List.append_nil] at q;exact q D F2 _ (.keep r2.ext.fh hD _) hD (zas r2.ext.fh hD) ⟨ys,zai,i2⟩
 ·exact n1.elim
theorem zbL {tg iter elt:Expr}{scope:Scope}{t:Tg}{fi:FA}{f:FE}(N:List Str)(cap:List (Option Nat))(hc:X.calm=true)(okB:zbt scope X.env N X.N cap=true)(hi:QI X E tg iter fi)
 (hg:∀ cl C s H ex,QG (za4 X scope N cl C s H ex) tg t) (he:∀ cl C s H ex,QE (za4 X scope N cl C s H ex) E elt f) (hs:∀ x,foldedSetIterable iter X.env x=pure x:=by intro _;rfl) :
 QN X E (.ListComp elt [⟨tg,iter,[],0⟩] scope pos) (zbX cap fi t f):=PE.weak (zkQ (g:=gT t X.K) (te:=tD X.K E f) N cap hc okB hi hg he hs) fun _ _ _ h=>zhP h
def zaS (n:Nat)(ds:List D):SD:=ds.map (fun d=>some (.val d))++List.replicate (n-ds.length) none
def runD (n ar:Nat)(g:FS)(ds:List D):Res D:=if ds.length=ar then (g (zaS n ds)).bind fun o=>match o with
 | .ret d=>.ok d
 | .next _=>.ok .non
 |_=>.no else .no
def runN (n ar:Nat)(g:FS)(ds:List D):Res D:=if ds.length=ar then (g (zaS n ds)).bind fun o=>match o with
 | .ret d=>.ok d
 |_=>.no else .no
theorem RS.start {K:W.Frag}{F H:Hp}{N:List Str}{ds:List D}{vs:List V}(s:Same F H)(h:IsDs K F ds vs):RS K ⟨F,H,fun _=>none⟩ F H (zaS N.length ds) (start N vs):=by
 have key:∀ {i:Nat} {x:SV},(zaS N.length ds)[i]? = some (some x)->∃ d,ds[i]? = some d/\x=.val d:=fun {i x} q=>by
  unfold zaS at q;by_cases hi:i<ds.length
  ·rw [List.getElem?_append_left (by rw [Zql];exact hi),List.getElem?_map,Zqg hi] at q;exact ⟨ds[i],Zqg hi,(Zqi (Zqi q)).symm⟩
  ·rw [List.getElem?_append_right (by rw [Zql];omega),List.getElem?_replicate] at q
   split at q<;>(first|exact zqn q|cases q)
 refine ⟨.refl s,by unfold zaS L2.start;simp [h.length],fun {i d} q=>?_,fun {i p d} q=>?_,fun {i j p p' d e l} _ q=>?_⟩
 ·obtain ⟨d',h1,h2⟩:=key q;cases h2;obtain ⟨v,v1,v2⟩:=h.get h1;refine ⟨v,?_,v2⟩;unfold L2.start;rw [List.getElem?_append_left (by rw [Zql];exact (List.getElem?_eq_some_iff.mp v1).1),List.getElem?_map,v1];rfl
 ·obtain ⟨_,_,h2⟩:=key q;cases h2
 ·obtain ⟨_,_,h2⟩:=key q;cases h2
section
variable {P:Program}{w:World}{K:W.Frag}{mg:Str->Option Value}{base:Heap}{x qual:Str}{f:Addr}{fd:FuncData}{N ps:List Str}{k:Nat}
theorem fn_d {g:FS}(F:Fun K x qual st f fd)(S:FnScope N ps (za3 st))
 (hb:∀ (cdv:Value) (A:Around) (outer:List Env) (s:Shared) (H:Hp) (E:XK),Room k (A.deeper (envOfC qual (za3 st) s.heap.objs.size f cdv))->QSs (cxOf CX0 P w K mg base N qual (za3 st) f cdv A outer s H E).nox E0 false (zbz st) g) :
 FnOk P w K mg base CX0 (k+1) f fd ps (SpD K (runD N.length ps.length g)):=by
 refine F.ok S (fun vs H Q E ⟨F,ds,_,h,n⟩=>?_) fun cdv A outer s H vs Q E hr ⟨F,ds,hs,h,n⟩=>⟨_,hb cdv A outer s H E hr,?_⟩
 ·unfold runD at n
  split at n
  ·rw [h.length];assumption
  ·exact n.elim
 ·unfold runD at n
  split at n
  ·refine ⟨⟨F,H,fun _=>none⟩,F,_,RS.start hs h,(Res.need_bind n).mono (fun o n1=>?_) fun _ _ q=>q⟩;cases o with
   |next sd=>exact fun σ F' H' _ r=>n1 .non F' H' r.ext (IsD.non_iff.mpr rfl)
   |ret d=>exact n1
   |brk sd=>exact n1.elim
   |cont sd=>exact n1.elim
  ·exact n.elim
theorem fn_n {g:FS}(F:Fun K x qual st f fd)(S:FnScope N ps (za3 st))
 (hb:∀ (cdv:Value) (A:Around) (outer:List Env) (s:Shared) (H:Hp) (E:XK),Room k (A.deeper (envOfC qual (za3 st) s.heap.objs.size f cdv))->QSs (cxOf CX0 P w K mg base N qual (za3 st) f cdv A outer s H E).nox E0 true (zbz st) g) :
 FnOk P w K mg base CX0 (k+1) f fd ps (SpN K (runN N.length ps.length g)):=by
 refine F.ok S (fun vs H Q E ⟨F,ds,_,h,n⟩=>?_) fun cdv A outer s H vs Q E hr ⟨F,ds,hs,h,n⟩=>⟨_,hb cdv A outer s H E hr,?_⟩
 ·unfold runN at n
  split at n
  ·rw [h.length];assumption
  ·exact n.elim
 ·unfold runN at n
  split at n
  ·refine ⟨⟨F,H,fun _=>none⟩,F,_,RS.start hs h,(Res.need_bind n).mono (fun o n1=>?_) fun _ _ q=>q⟩;cases o with
   |next sd=>exact n1.elim
   |ret d=>exact n1
   |brk sd=>exact n1.elim
   |cont sd=>exact n1.elim
  ·exact n.elim
end
end
def prD (p:Int×Int):D:=.tup [.int p.1,.int p.2]
def rwD (r:List (Int×Int)):D:=.tup (r.map prD)
def zcr {α : Type}(f:D->Option α):List D->Option (List α)
 | []=>some []
 |d::ds=>(f d).bind fun x=>(zcr f ds).map fun xs=>x::xs
def zi7:D->Option Int
 | .int i=>some i
 |_=>none
theorem zdj {α β : Type}{f:D->Option α}{g:β -> D}{k:β -> α}(h:∀ x,f (g x)=some (k x)):∀ l:List β,zcr f (l.map g)=some (l.map k)
 | []=>rfl
 |x::r=>by rw [List.map_cons];unfold zcr;rw [h,zdj h r];rfl
theorem zdY {α : Type}{f:D->Option α}{g:α -> D}(h:∀ d x,f d=some x->d=g x):∀ {ds:List D} {l:List α},zcr f ds=some l->ds=l.map g
 | [],l,e=>by cases e;rfl
 |d::ds,l,e=>by
  unfold zcr at e;cases h1:f d with
  |none=>rw [h1] at e;exact zqn e
  |some x =>
   cases h2:zcr f ds with
   |none=>rw [h1,h2] at e;exact zqn e
   |some xs =>
    rw [h1,h2] at e;obtain rfl:=Zqi e;rw [List.map_cons,<- h d x h1,<- zdY h h2]
theorem zj2 {d:D}{i:Int}(h:zi7 d=some i):d=.int i:=by
 cases d with
 |int j=>cases h;rfl
 |_=>exact zqn h
theorem zih {ds:List D}{l:List Int}(h:zcr zi7 ds=some l):ds=l.map D.int:=zdY (fun _ _=>zj2) h
theorem ziU (l:List Int):zcr zi7 (l.map D.int)=some l:=by
 have h:=zdj (f:=zi7) (g:=D.int) (k:=fun i:Int=>i) (fun _=>rfl) l;rw [h,List.map_id']
section
variable {K:W.Frag}{H:Hp}
end
section
variable {X:Cx}{E:XK}
def gI (f:Int->Int->D):D->D->Option D
 | .int i,.int j=>some (f i j)
 |_,_=>none
def gIc (c:Int->Int->Bool)(f:Int->Int->D):D->D->Option D
 | .int i,.int j=>if c i j then some (f i j) else none
 |_,_=>none
theorem zj4 {h:Value->Value->Sem Value}{f:Int->Int->D}{g:Int->Int->V}(o:OpR X h (rI0 g))(hg:∀ i j F,IsD X.K F (f i j) (g i j)):OpD X h (gI f):=OpR.weak o fun x y H Q ⟨F,d,e,z,sF,id,ie,hz,q⟩=>by
 cases d with
 |int i =>
  cases e with
  |int j=>cases hz;exact ⟨i,j,IsD.int_iff.mp id,IsD.int_iff.mp ie,q _ F H (.refl sF) (hg i j F)⟩
  |_=>exact zqn hz
 |_=>exact zqn hz
theorem zhJ {h:Value->Value->Sem Value}{C:Int->Int->Prop}{c:Int->Int->Bool}{f:Int->Int->D}{g:Int->Int->V}(o:OpR X h (rI C g))(hc:∀ i j,c i j=true->C i j)(hg:∀ i j F,IsD X.K F (f i j) (g i j)):OpD X h (gIc c f):=OpR.weak o fun x y H Q ⟨F,d,e,z,sF,id,ie,hz,q⟩=>by
 cases d with
 |int i =>
  cases e with
  |int j =>
   have hz:(if c i j then some (f i j) else none)=some z:=hz
   split at hz
   ·rename_i hcc;cases hz;exact ⟨i,j,IsD.int_iff.mp id,IsD.int_iff.mp ie,hc i j hcc,q _ F H (.refl sF) (hg i j F)⟩
   ·exact zqn hz
  |_=>exact zqn hz
 |_=>exact zqn hz
theorem isI (i:Int)(F:Hp):IsD X.K F (.int i) (.int i):=IsD.int_iff.mpr rfl
theorem isB (b:Bool)(F:Hp):IsD X.K F (.bl b) (.bl b):=IsD.bl_iff.mpr rfl
def gSub:=gI fun i j=>.int (i-j)
def bigB:Nat:=10715086071862673209484250490600018105614048117055336074437503883703510511249361224931983788156958581275946729175531468251871452856923140435984577574698574803934567774824230985421074605062371141877954182153046474983581941267398767559165543946077062914571196477686542167660429831652624386837205668069376
def zgq (i j:Int):Bool:=(Nat.blt i.natAbs 18446744073709551616||Nat.blt j.natAbs 18446744073709551616)||(Nat.blt i.natAbs bigB&&Nat.blt j.natAbs bigB)
theorem zhW {k:Int}(h:k.natAbs<bigB):Builtin.Int.intBits k<=2 ^ 20:=by
 have e:bigB<=2 ^ 1000:=Nat.le_of_ble_eq_true rfl;have hn:k.natAbs<2 ^ 1000:=Nat.lt_of_lt_of_le h e;unfold Builtin.Int.intBits
 split
 ·exact Nat.zero_le _
 ·have l:k.natAbs.log2<1000:=by
   rcases Nat.eq_zero_or_pos k.natAbs with h0|hp
   ·rw [h0];decide
   ·exact (Nat.log2_lt (Nat.ne_of_gt hp)).mpr hn
  have e:(2:Nat) ^ 20=1048576:=by decide
  omega
theorem zmn {i j:Int}(h:zgq i j=true):IntMulOk i j:=by
 unfold zgq at h;rw [Bool.or_eq_true,Bool.or_eq_true,Bool.and_eq_true,Nat.blt_eq,Nat.blt_eq,Nat.blt_eq,Nat.blt_eq] at h;rcases h with (h|h)|⟨h1,h2⟩
 ·exact .of_left (intBits_le_64 (by omega) (by omega))
 ·exact .of_right (intBits_le_64 (by omega) (by omega))
 ·exact .of_bits (zhW h1) (zhW h2)
theorem zoU:OpR X (binaryOp .Mult) (rI (fun i j=>zgq i j=true) fun i j=>.int (i*j)):=opI fun _ _ _ _ _ _ _ hc q=>mul_int q (zmn hc)
def gMul:=gIc zgq fun i j=>.int (i*j)
def zd1:=gIc (fun _ j=>Nat.blt 0 j.toNat&&Nat.blt j.toNat 1073741824) fun i j=>.int (i / j)
def gMod:=gIc (fun _ j=>Nat.blt 0 j.toNat) fun i j=>.int (i % j)
def gPow:=gIc (fun i j=>Nat.ble (-j).toNat 0&&(Nat.ble j.toNat 1000000&&Nat.blt i.natAbs 18446744073709551616)) fun i j=>.int (i ^ j.toNat)
def gLt:=gI fun i j=>.bl (decide (i<j))
def gLe:=gI fun i j=>.bl (decide (i<=j))
def gGt:=gI fun i j=>.bl (decide (j<i))
def gGe:=gI fun i j=>.bl (decide (j<=i))
theorem zpy:OpD X (binaryOp .Sub) gSub:=zj4 zsJ fun _ _ F=>isI _ F
theorem zlV:OpD X (binaryOp .Mult) gMul:=zhJ zoU (fun i j h=>h) fun _ _ F=>isI _ F
theorem zeL:OpD X (binaryOp .FloorDiv) zd1:=zhJ zpA (fun i j h=>by rw [Bool.and_eq_true,Nat.blt_eq,Nat.blt_eq] at h;unfold CDiv;omega) fun _ _ F=>isI _ F
theorem zdg:OpD X (binaryOp .Mod) gMod:=zhJ zs6 (fun i j h=>by rw [Nat.blt_eq] at h;omega) fun _ _ F=>isI _ F
theorem zoR:OpD X (binaryOp .Pow) gPow:=zhJ zrd (fun i j h=>by rw [Bool.and_eq_true,Bool.and_eq_true,Nat.ble_eq,Nat.ble_eq,Nat.blt_eq] at h;unfold CPow;omega) fun _ _ F=>isI _ F
theorem o_lt:OpD X (compareOp .Lt) gLt:=zj4 op_lt fun _ _ F=>isB _ F
theorem o_le:OpD X (compareOp .LtE) gLe:=zj4 op_le fun _ _ F=>isB _ F
theorem o_gt:OpD X (compareOp .Gt) gGt:=zj4 op_gt fun _ _ F=>isB _ F
theorem o_ge:OpD X (compareOp .GtE) gGe:=zj4 op_ge fun _ _ F=>isB _ F
def gNeg:D->Option D
 | .int i=>some (.int (-i))
 |_=>none
theorem zdc:UnR X (unaryOp .USub) (rD1 X.K gNeg):=UnR.weak zrx fun x H Q ⟨F,d,z,sF,id,hz,q⟩=>by
 cases d with
 |int i=>cases hz;exact ⟨i,IsD.int_iff.mp id,q _ F H (.refl sF) (isI _ F)⟩
 |_=>exact zqn hz
def gAdd:D->D->Option D
 | .int i,.int j=>some (.int (i+j))
 | .str x,.str y=>if x.length+y.length<=sizeLine then some (.str (x++y)) else none
 | .tup a,.tup b=>if a ≠ []/\b ≠ []/\a.length+b.length<=sizeLine then some (.tup (a++b)) else none
 | .lst a,.lst b=>if a.length+b.length<=sizeLine then some (.lst (a++b)) else none
 |_,_=>none
def rCat' (K:W.Frag):R2:=fun x y H Q=>∃ l b xs zs,x=.ref l/\y=.ref b/\LstD K H l xs/\LstD K H b zs/\xs.length+zs.length<=sizeLine/\∀ p,H p=none->Q (.ref p) (upd H p (.lst (xs++zs)))
theorem zjZ:OpR X (binaryOp .Add) (rCat' X.K):=by
 intro pins s σ H x y v u Q I rx ry h;obtain ⟨l,b,xs,zs,rfl,rfl,hl,hb,hz,q⟩:=h;obtain rfl:v=Value.ref l:=rx;obtain rfl:u=Value.ref b:=ry;obtain ⟨_,its,n,r1,e1⟩:=hl.ok I.hok;obtain ⟨_,its2,n2,r2,e2⟩:=hb.ok I.hok;have hl1:=r1.length;have hl2:=r2.length;refine PySem.P.add_list e1 e2 ?_ (by rw [List.size_toArray,List.size_toArray];omega);have ea:its.toArray++its2.toArray=(its++its2).toArray:=by simp
 rw [ea];exact ⟨.ref _,_,I.lnew (t':=s.toks) (r1.append r2) (by rw [List.length_append];omega),rfl,q _ I.fresh⟩
theorem zbQ:OpD X (binaryOp .Add) gAdd:=by
 intro pins s σ H x y v u Q I rx ry ⟨F,d,e,z,sF,id,ie,hz,q⟩;cases d with
 |int i =>
  cases e with
  |int j=>cases hz;exact zqG pins s σ H x y v u Q I rx ry ⟨i,j,IsD.int_iff.mp id,IsD.int_iff.mp ie,q _ F H (.refl sF) (isI _ F)⟩
  |_=>exact zqn hz
 |str a =>
  cases e with
  |str b =>
   have hz:(if a.length+b.length<=sizeLine then some (D.str (a++b)) else none)=some z:=hz
   split at hz
   ·rename_i hl;cases hz;exact zir pins s σ H x y v u Q I rx ry ⟨a,b,IsD.str_iff.mp id,IsD.str_iff.mp ie,hl,q _ F H (.refl sF) (IsD.str_iff.mpr rfl)⟩
   ·exact zqn hz
  |_=>exact zqn hz
 |tup a =>
  cases e with
  |tup b =>
   have hz:(if a ≠ []/\b ≠ []/\a.length+b.length<=sizeLine then some (D.tup (a++b)) else none)=some z:=hz
   split at hz
   ·rename_i hl;obtain rfl:=Zqi hz;rw [IsD.tup_iff] at id ie;obtain ⟨la,xs,rfl,h1,h2⟩:=id;obtain ⟨lb,ys,rfl,h3,h4⟩:=ie;have l1:=h2.length;have l2:=h4.length;have x0:xs ≠ []:=fun z=>hl.1 (List.length_eq_zero_iff.mp (by rw [<- l1,z];rfl));have y0:ys ≠ []:=fun z=>hl.2.1 (List.length_eq_zero_iff.mp (by rw [<- l2,z];rfl));refine zl8 pins s σ H _ _ v u Q I rx ry ⟨la,lb,xs,ys,rfl,rfl,(h1.same sF).sq,(h3.same sF).sq,x0,by have:=hl.2.2;omega,fun z=>absurd z y0,fun _ p hp=>?_⟩;have ea:=Ext.alloc sF hp (.tup (xs++ys));exact q _ _ _ ea (IsD.tup_iff.mpr ⟨p,_,rfl,.of zai,IsDs.same ea.ff _ _ (h2.append h4)⟩)
   ·exact zqn hz
  |_=>exact zqn hz
 |lst a =>
  cases e with
  |lst b =>
   have hz:(if a.length+b.length<=sizeLine then some (D.lst (a++b)) else none)=some z:=hz
   split at hz
   ·rename_i hl;obtain rfl:=Zqi hz;rw [IsD.lst_iff] at id ie;obtain ⟨la,xs,rfl,h1,h2⟩:=id;obtain ⟨lb,ys,rfl,h3,h4⟩:=ie;have l1:=h2.length;have l2:=h4.length;refine zjZ pins s σ H _ _ v u Q I rx ry ⟨la,lb,xs,ys,rfl,rfl,h1.same sF,h3.same sF,by omega,fun p hp=>?_⟩;have ea:=Ext.alloc sF hp (.lst (xs++ys));exact q _ _ _ ea (IsD.lst_iff.mpr ⟨p,_,rfl,.of zai,IsDs.same ea.ff _ _ (h2.append h4)⟩)
   ·exact zqn hz
  |_=>exact zqn hz
 |_=>exact zqn hz
mutual
def toPy:D->PyData
 | .non=>.none
 | .bl b=>.bool b
 | .int i=>.int i
 | .str x=>.str x
 | .tup ds=>.tuple (ze3 ds)
 | .lst ds=>.list (ze3 ds)
 | .ty _=>.none
 | .scr _=>.none
 | .dct _ _=>.none
 | .ins _ _ _=>.none
 | .exc _=>.none
 | .ucl _=>.none
 | .adr _=>.none
 | .dcf _ _=>.none
 | .pin _ _=>.none
def ze3:List D->List PyData
 | []=>[]
 |d::ds=>toPy d::ze3 ds
end
def plN:Nat->D->Bool
 | 0,_=>false
 |_+1,.int _=>true
 |_+1,.str x=>PyData.strOk x
 |_+1,.non=>true
 |n+1,.tup ds=>ds.all (plN n)
 |n+1,.lst ds=>ds.all (plN n)
 |_+1,_=>false
theorem zeK:∀ (n:Nat) (d:D),plN n d=true->(toPy d).canLay0=true/\(toPy d).depth<=n:=fun n=>by
 induction n with
 |zero=>intro _ h;exact zqb h
 |succ n ihn =>
  intro d h;have all:∀ ds:List D,ds.all (plN n)=true->PyData.canLayAll0 (ze3 ds)=true/\PyData.depthAll (ze3 ds)<=n:=by
   intro ds
   induction ds with
   |nil=>intro _;exact ⟨rfl,Nat.zero_le _⟩
   |cons d ds ih =>
    intro h;rw [List.all_cons,Bool.and_eq_true] at h;obtain ⟨h1,h2⟩:=ihn d h.1;obtain ⟨h3,h4⟩:=ih h.2;exact ⟨Bool.and_eq_true_iff.mpr ⟨h1,h3⟩,Nat.max_le.mpr ⟨h2,h4⟩⟩
  cases d with
  |int i=>exact ⟨rfl,Nat.zero_le _⟩
  |str i=>exact ⟨h,Nat.zero_le _⟩
  |non=>exact ⟨rfl,Nat.zero_le _⟩
  |tup ds=>exact ⟨(all ds h).1,Nat.succ_le_succ (all ds h).2⟩
  |lst ds=>exact ⟨(all ds h).1,Nat.succ_le_succ (all ds h).2⟩
  |_=>exact zqb h
theorem D.ne {d e:D}(h:(d.ctorIdx == e.ctorIdx)=false):¬ d=e:=fun q=>by
 rw [q,beq_self_eq_true] at h;cases  h
theorem zj3:∀ (n:Nat) (d e:D),plN n d=true->plN n e=true->(PyData.eqv (toPy d) (toPy e)=true↔d=e):=fun n=>by
 induction n with
 |zero=>intro _ _ h;exact zqb h
 |succ n ihn =>
  intro d e h h';have all:∀ ds es:List D,ds.all (plN n)=true->es.all (plN n)=true->(PyData.eqvAll (ze3 ds) (ze3 es)=true↔ds=es):=by
   intro ds
   induction ds with
   |nil =>
    intro es _ _;cases es with
    |nil=>exact iff_of_true rfl rfl
    |cons e es=>exact iff_of_false Bool.false_ne_true (fun q=>List.cons_ne_nil _ _ q.symm)
   |cons d ds ih =>
    intro es h1 h2;cases es with
    |nil=>exact iff_of_false Bool.false_ne_true (List.cons_ne_nil _ _)
    |cons e es =>
     rw [List.all_cons,Bool.and_eq_true] at h1 h2;show (PyData.eqv (toPy d) (toPy e)&&PyData.eqvAll (ze3 ds) (ze3 es))=true↔_;rw [Bool.and_eq_true_iff,ihn d e h1.1 h2.1,ih es h1.2 h2.2,List.cons.injEq]
  cases d with
  |int i =>
   cases e with
   |int j=>exact ⟨fun q=>congrArg D.int (beq_iff_eq.mp q),fun q=>beq_iff_eq.mpr (D.int.inj q)⟩
   |str _=>exact iff_of_false Bool.false_ne_true (D.ne rfl)
   |non=>exact iff_of_false Bool.false_ne_true (D.ne rfl)
   |tup _=>exact iff_of_false Bool.false_ne_true (D.ne rfl)
   |lst _=>exact iff_of_false Bool.false_ne_true (D.ne rfl)
   |_=>exact zqb h'
  |str i =>
   cases e with
   |str j=>exact ⟨fun q=>congrArg D.str (of_decide_eq_true q),fun q=>decide_eq_true (D.str.inj q)⟩
   |int _=>exact iff_of_false Bool.false_ne_true (D.ne rfl)
   |non=>exact iff_of_false Bool.false_ne_true (D.ne rfl)
   |tup _=>exact iff_of_false Bool.false_ne_true (D.ne rfl)
   |lst _=>exact iff_of_false Bool.false_ne_true (D.ne rfl)
   |_=>exact zqb h'
  |non =>
   cases e with
   |non=>exact iff_of_true rfl rfl
   |int _=>exact iff_of_false Bool.false_ne_true (D.ne rfl)
   |str _=>exact iff_of_false Bool.false_ne_true (D.ne rfl)
   |tup _=>exact iff_of_false Bool.false_ne_true (D.ne rfl)
   |lst _=>exact iff_of_false Bool.false_ne_true (D.ne rfl)
   |_=>exact zqb h'
  |tup ds =>
   cases e with
   |tup es=>exact (all ds es h h').trans ⟨fun q=>congrArg D.tup q,fun q=>D.tup.inj q⟩
   |int _=>exact iff_of_false Bool.false_ne_true (D.ne rfl)
   |str _=>exact iff_of_false Bool.false_ne_true (D.ne rfl)
   |non=>exact iff_of_false Bool.false_ne_true (D.ne rfl)
   |lst _=>exact iff_of_false Bool.false_ne_true (D.ne rfl)
   |_=>exact zqb h'
  |lst ds =>
   cases e with
   |lst es=>exact (all ds es h h').trans ⟨fun q=>congrArg D.lst q,fun q=>D.lst.inj q⟩
   |int _=>exact iff_of_false Bool.false_ne_true (D.ne rfl)
   |str _=>exact iff_of_false Bool.false_ne_true (D.ne rfl)
   |non=>exact iff_of_false Bool.false_ne_true (D.ne rfl)
   |tup _=>exact iff_of_false Bool.false_ne_true (D.ne rfl)
   |_=>exact zqb h'
  |_=>exact zqb h
theorem zci {P:Program}{w:World}{K:W.Frag}{H:Hp}{h:Heap}(ok:HOk P w H h):∀ (n:Nat) (d:D) (v:V) (u:Value),plN n d=true->IsD K H d v->RelV v u->∃ as,Reads h u (toPy d) as
 | 0,_,_,_,p,_,_=>by exact zqb p
 |n+1,d,v,u,p,q,r=>by
  have all:∀ (ds:List D) (xs:List V) (us:List Value),ds.all (plN n)=true->IsDs K H ds xs->Vals xs us->∃ as,ReadsAll h us (ze3 ds) as:=by
   intro ds
   induction ds with
   |nil =>
    intro xs us _ h1 h2;rw [IsDs.nil_iff] at h1;subst h1;cases h2;exact ⟨_,.nil⟩
   |cons d ds ih =>
    intro xs us hp h1 h2;rw [List.all_cons,Bool.and_eq_true] at hp;rw [IsDs.cons_iff] at h1;obtain ⟨x,rs,rfl,h3,h4⟩:=h1;cases h2 with
    |cons r1 r2 =>
     obtain ⟨as,ra⟩:=zci ok n d x _ hp.1 h3 r1;obtain ⟨bs,rb⟩:=ih rs _ hp.2 h4 r2;exact ⟨_,.cons ra rb⟩
  cases d with
  |int i =>
   rw [IsD.int_iff] at q;subst q;obtain ⟨t,rfl⟩:=(show ∃ t,u=Value.int i t from r);exact ⟨_,.int i t⟩
  |str x =>
   rw [IsD.str_iff] at q;subst q;obtain ⟨t,rfl⟩:=(show ∃ t,u=Value.str x t from r);exact ⟨_,.str x t⟩
  |non =>
   rw [IsD.non_iff] at q;subst q;obtain rfl:u=Value.none:=r;exact ⟨_,.none⟩
  |tup ds =>
   rw [IsD.tup_iff] at q;obtain ⟨a,xs,rfl,h2,h3⟩:=q;obtain rfl:u=Value.ref a:=r;obtain ⟨_,its,rv,o,e,c,n',dt⟩:=(show zbg P w H h a (.tup xs) from ok a _ h2);obtain ⟨as,ra⟩:=all ds xs its p h3 rv;exact ⟨_,.tuple e c dt (by simpa using ra)⟩
  |lst ds =>
   rw [IsD.lst_iff] at q;obtain ⟨a,xs,rfl,h2,h3⟩:=q;obtain rfl:u=Value.ref a:=r;obtain ⟨_,its,n',rv,e⟩:=h2.ok ok;obtain ⟨as,ra⟩:=all ds xs its p h3 rv;exact ⟨_,.list e rfl rfl (by simpa using ra)⟩
  |_=>exact zqb p
noncomputable section
open Classical
def sameD (d e:D):Bool:=decide (d=e)
theorem zbc (d:D):sameD d d=true:=decide_eq_true rfl
theorem zdm {d e:D}:sameD d e=true↔d=e:=decide_eq_true_iff
theorem zbI {d e:D}:sameD d e=false↔d≠e:=decide_eq_false_iff_not
def gEq:D->D->Option D
 | .bl a,.bl b=>some (.bl (a == b))
 |d,e=>if plN 12 d&&plN 12 e then some (.bl (sameD d e)) else none
def gNe:D->D->Option D
 | .bl a,.bl b=>some (.bl (a != b))
 |d,e=>if plN 12 d&&plN 12 e then some (.bl (!sameD d e)) else none
end
theorem zgs {d e:D}(h1:plN 12 d=true)(h2:plN 12 e=true):gEq d e=some (.bl (sameD d e)):=by
 unfold gEq
 split
 ·exact zqb h1
 ·rw [h1,h2];rfl
theorem zjA {d e:D}(h1:plN 12 d=true)(h2:plN 12 e=true):gNe d e=some (.bl (!sameD d e)):=by
 unfold gNe
 split
 ·exact zqb h1
 ·rw [h1,h2];rfl
theorem zoO (i j:Int):gEq (.int i) (.int j)=some (.bl (decide (i=j))):=by
 rw [zgs rfl rfl]
 congr 2
 by_cases h:i=j
 ·rw [decide_eq_true h,h,zbc]
 ·rw [decide_eq_false h,zbI.mpr fun z=>h (by injection z)]
theorem zpp (i j:Int):gNe (.int i) (.int j)=some (.bl (!decide (i=j))):=by
 rw [zjA rfl rfl]
 congr 3
 by_cases h:i=j
 ·rw [decide_eq_true h,h,zbc]
 ·rw [decide_eq_false h,zbI.mpr fun z=>h (by injection z)]
theorem o_eq (hu:X.A.units+64<cLine):OpD X (compareOp .Eq) gEq:=by
 intro pins s σ H x y v u Q I rx ry ⟨F,d,e,z,sF,id,ie,hz,q⟩;unfold gEq at hz
 split at hz
 ·rename_i a b;obtain rfl:=Zqi hz;refine op_eq pins s σ H x y v u Q I rx ry ⟨?_,?_⟩
  ·rw [IsD.bl_iff.mp id,IsD.bl_iff.mp ie];rfl
  ·rw [IsD.bl_iff.mp id,IsD.bl_iff.mp ie];refine q _ F H (.refl sF) ?_;rw [IsD.bl_iff];cases a<;>cases b<;>rfl
 ·split at hz
  ·rename_i hp;rw [Bool.and_eq_true] at hp;obtain rfl:=Zqi hz;obtain ⟨as,ra⟩:=zci I.hok 12 d x v hp.1 (IsD.same sF _ _ id) rx;obtain ⟨bs,rb⟩:=zci I.hok 12 e y u hp.2 (IsD.same sF _ _ ie) ry;obtain ⟨l1,z1⟩:=zeK 12 d hp.1;obtain ⟨l2,z2⟩:=zeK 12 e hp.2;refine PySem.SeqAt.compareEq_reads ra rb l1 l2 (by omega) ?_;have hb:PyData.eqv (toPy d) (toPy e)=sameD d e:=Bool.eq_iff_iff.mpr ((zj3 12 d e hp.1 hp.2).trans zdm.symm);rw [hb];exact ⟨.bl _,H,I,rfl,q _ F H (.refl sF) (isB _ F)⟩
  ·exact zqn hz
theorem o_ne (hu:X.A.units+64<cLine):OpD X (compareOp .NotEq) gNe:=by
 intro pins s σ H x y v u Q I rx ry ⟨F,d,e,z,sF,id,ie,hz,q⟩;unfold gNe at hz
 split at hz
 ·rename_i a b;obtain rfl:=Zqi hz;refine op_ne pins s σ H x y v u Q I rx ry ⟨?_,?_⟩
  ·rw [IsD.bl_iff.mp id,IsD.bl_iff.mp ie];rfl
  ·rw [IsD.bl_iff.mp id,IsD.bl_iff.mp ie];refine q _ F H (.refl sF) ?_;rw [IsD.bl_iff];cases a<;>cases b<;>rfl
 ·split at hz
  ·rename_i hp;rw [Bool.and_eq_true] at hp;obtain rfl:=Zqi hz;obtain ⟨as,ra⟩:=zci I.hok 12 d x v hp.1 (IsD.same sF _ _ id) rx;obtain ⟨bs,rb⟩:=zci I.hok 12 e y u hp.2 (IsD.same sF _ _ ie) ry;obtain ⟨l1,z1⟩:=zeK 12 d hp.1;obtain ⟨l2,z2⟩:=zeK 12 e hp.2;refine PySem.SeqAt.compareNe_reads ra rb l1 l2 (by omega) ?_;have hb:PyData.eqv (toPy d) (toPy e)=sameD d e:=Bool.eq_iff_iff.mpr ((zj3 12 d e hp.1 hp.2).trans zdm.symm);rw [hb];exact ⟨.bl _,H,I,rfl,q _ F H (.refl sF) (isB _ F)⟩
  ·exact zqn hz
end
theorem PE.or {X:Cx}{e:Expr}{t t':TE}(h:PE X e t)(h':PE X e t'):PE X e (fun σ H Q=>t σ H Q\/t' σ H Q):=fun pins s σ H Q I q=>q.elim (h pins s σ H Q I) (h' pins s σ H Q I)
theorem PT.or {X:Cx}{e:Expr}{t t':TT}(h:PT X e t)(h':PT X e t'):PT X e (fun σ H Q=>t σ H Q\/t' σ H Q):=fun pins s σ H Q I q=>q.elim (h pins s σ H Q I) (h' pins s σ H Q I)
def zbx:D->Option Key
 | .int i=>some (.inl i)
 | .str x=>some (.inr x)
 |_=>none
theorem zc5 {K:W.Frag}{H:Hp}{d:D}{k:Key}{v:V}(h:zbx d=some k)(i:IsD K H d v):v=kV k:=by
 cases d with
 |int j=>cases h;exact IsD.int_iff.mp i
 |str x=>cases h;exact IsD.str_iff.mp i
 |_=>exact zqn h
def valD:List Key->List D->Key->Option D
 |k::ks,d::ds,q=>if k=q then some d else valD ks ds q
 |_,_,_=>none
theorem zkb (k q:Key)(v:V)(r:List (Key×V)):valV ((k,v)::r) q=if k=q then some v else valV r q:=by
 unfold valV;rw [List.find?_cons];by_cases h:k=q
 ·rw [if_pos h,decide_eq_true h];rfl
 ·rw [if_neg h,decide_eq_false h]
theorem zl6 {k q:Key}{ks:List Key}{d:D}{ds:List D}:valD (k::ks) (d::ds) q=if k=q then some d else valD ks ds q:=rfl
theorem zdV {K:W.Frag}{H:Hp}(q:Key):∀ {ks:List Key} {ds:List D} {xs:List V},ks.length=xs.length->IsDs K H ds xs ->
 (∀ d,valD ks ds q=some d->∃ x,valV (ks.zip xs) q=some x/\IsD K H d x)/\(valD ks ds q=none->valV (ks.zip xs) q=none)
 | [],ds,xs,hl,h=>by
  have:xs=[]:=List.length_eq_zero_iff.mp hl.symm;subst this;refine ⟨fun d e=>?_,fun _=>rfl⟩;cases ds<;>exact zqn e
 |k::ks,[],xs,hl,h=>by
  rw [IsDs.nil_iff] at h;subst h;cases hl
 |k::ks,d::ds,xs,hl,h=>by
  rw [IsDs.cons_iff] at h;obtain ⟨x,r,rfl,h1,h2⟩:=h;have ih:=zdV q (ks:=ks) (Nat.succ.inj hl) h2;rw [List.zip_cons_cons,zkb];rw [zl6];by_cases hk:k=q
  ·rw [if_pos hk,if_pos hk];exact ⟨fun d' e=>by cases e;exact ⟨x,rfl,h1⟩,fun e=>by cases e⟩
  ·rw [if_neg hk,if_neg hk];exact ih
def chgD:List Key->List D->Key->D->List D
 |k::ks,d::ds,q,v=>(if k=q then v else d)::chgD ks ds q v
 |_,_,_,_=>[]
def chgV:List Key->List V->Key->V->List V
 |k::ks,d::ds,q,v=>(if k=q then v else d)::chgV ks ds q v
 |_,_,_,_=>[]
theorem zjX {k q:Key}{ks:List Key}{d v:D}{ds:List D}:chgD (k::ks) (d::ds) q v=(if k=q then v else d)::chgD ks ds q v:=rfl
theorem zkc {k q:Key}{ks:List Key}{d v:V}{ds:List V}:chgV (k::ks) (d::ds) q v=(if k=q then v else d)::chgV ks ds q v:=rfl
theorem zot {K:W.Frag}{H:Hp}{q:Key}{d:D}{v:V}(hv:IsD K H d v):∀ {ks:List Key} {ds:List D} {xs:List V},ks.length=xs.length->IsDs K H ds xs->IsDs K H (chgD ks ds q d) (chgV ks xs q v)/\(chgV ks xs q v).length=ks.length /\
 (ks.zip xs).map (fun kv=>if kv.1=q then (kv.1,v) else kv)=ks.zip (chgV ks xs q v)
 | [],ds,xs,hl,h=>by
  have:xs=[]:=List.length_eq_zero_iff.mp hl.symm;subst this;refine ⟨?_,rfl,rfl⟩;cases ds<;>exact .nil
 |k::ks,[],xs,hl,h=>by
  rw [IsDs.nil_iff] at h;subst h;cases hl
 |k::ks,d'::ds,xs,hl,h=>by
  rw [IsDs.cons_iff] at h;obtain ⟨x,r,rfl,h1,h2⟩:=h;obtain ⟨i1,i2,i3⟩:=zot (q:=q) hv (ks:=ks) (Nat.succ.inj hl) h2;rw [zjX,zkc];refine ⟨IsDs.mk ?_ i1,by rw [List.length_cons,i2];rfl,?_⟩
  ·by_cases hk:k=q
   ·rw [if_pos hk,if_pos hk];exact hv
   ·rw [if_neg hk,if_neg hk];exact h1
  ·rw [List.zip_cons_cons,List.map_cons,i3,List.zip_cons_cons];by_cases hk:k=q
   ·rw [if_pos hk,if_pos hk]
   ·rw [if_neg hk,if_neg hk]
def hasK (q:Key)(ks:List Key):Bool:=ks.any fun k=>decide (k=q)
theorem zkU (q:Key):∀ {ks:List Key} {xs:List V},ks.length=xs.length->((ks.zip xs).any fun kv=>decide (kv.1=q))=hasK q ks
 | [],xs,_=>rfl
 |k::ks,[],h=>by cases h
 |k::ks,x::xs,h=>by
  rw [List.zip_cons_cons,List.any_cons,zkU q (Nat.succ.inj h)];rfl
def zfE (ks:List Key)(q:Key):List Key:=if hasK q ks=true then ks else ks++[q]
def zgE (ks:List Key)(ds:List D)(q:Key)(v:D):List D:=if hasK q ks=true then chgD ks ds q v else ds++[v]
theorem zl0 {K:W.Frag}{H:Hp}{q:Key}{d:D}{v:V}{ks:List Key}{ds:List D}{xs:List V}(hl:ks.length=xs.length)(h:IsDs K H ds xs)(hv:IsD K H d v) :
 ∃ ys,putK (ks.zip xs) q v=(zfE ks q).zip ys/\(zfE ks q).length=ys.length/\IsDs K H (zgE ks ds q d) ys:=by
 unfold putK zfE zgE;rw [zkU q hl];by_cases hm:hasK q ks=true
 ·rw [if_pos hm,if_pos hm,if_pos hm];obtain ⟨h1,h2,h3⟩:=zot (q:=q) hv hl h;exact ⟨_,h3,h2.symm,h1⟩
 ·rw [if_neg hm,if_neg hm,if_neg hm];exact ⟨xs++[v],by rw [List.zip_append hl];rfl,by simp [hl],h.snoc hv⟩
section
variable {X:Cx}{E:XK}{m:Option Bool}{a b o i e:Expr}{fa fb fo fi fv:FE}{pos pos' apos cpos:Pos}
theorem zj7 {K:W.Frag}{H:Hp}{ds:List D}{xs:List V}{k:Int}{d:D}(h:IsDs K H ds xs)(e:atI ds k=some d):∃ x,atI xs k=some x/\IsD K H d x:=by
 unfold atI at e ⊢;rw [h.length];cases hj:ixN ds.length k with
 |none=>rw [hj] at e;exact zqn e
 |some j =>
  rw [hj] at e;exact h.get e
def gIx:D->D->Option D
 | .lst ds,.int k=>atI ds k
 | .tup ds,.int k=>atI ds k
 | .scr ns,.int k=>(atI ns k).map .int
 | .str x,.int k=>if x.length<=sizeLine then (atI x.cps.toList k).map fun c=>.str ⟨#[c]⟩ else none
 | .dct ks ds,k=>(zbx k).bind fun q=>valD ks ds q
 | .dcf ks ds,k=>(zbx k).bind fun q=>valD ks ds q
 |_,_=>none
theorem znV {K:W.Frag}{H:Hp}{d:D}{ks:List Key}{ds:List D}{v:V}(hd:d=.dct ks ds\/d=.dcf ks ds)(h:IsD K H d v):∃ a xs,v=.ref a/\Rd H a (.dK (ks.zip xs))/\ks.length=xs.length/\IsDs K H ds xs:=by
 rcases hd with rfl|rfl
 ·obtain ⟨a,xs,h1,h2,h3⟩:=IsD.dct_iff.mp h;exact ⟨a,xs,h1,.inl h2,h3⟩
 ·obtain ⟨a,o,xs,h1,h2,h3⟩:=IsD.dcf_iff.mp h;exact ⟨a,xs,h1,.inr ⟨o,h2⟩,h3⟩
theorem zgC {H H':Hp}{a:Addr}{u:HO}(e:Same H H')(h:Rd H a u):Rd H' a u:=h.imp (fun q=>e _ _ q) fun ⟨o,q⟩=>⟨o,e _ _ q⟩
theorem zly {H:Hp}{a:Addr}{kvs:List (Key×V)}{k:Key}(e:Rd H a (.dK kvs)):DGet H a (kV k) (valV kvs k):=.inl ⟨kvs,k,e,rfl,rfl⟩
theorem zpM:IxR X (rD2 X.K fun d e=>match d with
 | .dct _ _=>none
 | .dcf _ _=>none
 |d=>gIx d e):=IxR.weak zsc fun x y H Q ⟨F,d,e,z,sF,id,ie,hz,q⟩=>by
 cases d with
 |lst ds =>
  cases e with
  |int k =>
   rw [IsD.lst_iff] at id;obtain ⟨p,xs,rfl,h1,h2⟩:=id;obtain ⟨x,hx,i2⟩:=zj7 h2 (show atI ds k=some z from hz);exact .inl ⟨p,xs,k,x,rfl,IsD.int_iff.mp ie,(h1.same sF).sq,hx,q _ F H (.refl sF) i2⟩
  |_=>exact zqn hz
 |tup ds =>
  cases e with
  |int k =>
   rw [IsD.tup_iff] at id;obtain ⟨p,xs,rfl,h1,h2⟩:=id;obtain ⟨x,hx,i2⟩:=zj7 h2 (show atI ds k=some z from hz);exact .inr (.inl ⟨p,xs,k,x,rfl,IsD.int_iff.mp ie,(h1.same sF).sq,hx,q _ F H (.refl sF) i2⟩)
  |_=>exact zqn hz
 |scr ns =>
  cases e with
  |int k =>
   rw [IsD.scr_iff] at id;obtain ⟨p,rfl,h1⟩:=id;obtain ⟨j,hj,hz⟩:=Option.map_eq_some_iff.mp (show (atI ns k).map D.int=some z from hz);subst hz;refine .inl ⟨p,_,k,.int j,rfl,IsD.int_iff.mp ie,Same.seq sF h1,?_,q _ F H (.refl sF) (isI _ F)⟩;unfold atI at hj ⊢;rw [Zql];cases hx:ixN ns.length k with
   |none=>rw [hx] at hj;exact zqn hj
   |some i=>rw [hx] at hj;show (ns.map V.int)[i]? = _;rw [List.getElem?_map,show ns[i]? = some j from hj];rfl
  |_=>exact zqn hz
 |str t =>
  cases e with
  |int k =>
   have hz:(if t.length<=sizeLine then (atI t.cps.toList k).map fun c=>D.str ⟨#[c]⟩ else none)=some z:=hz
   split at hz
   ·rename_i hl;cases hc:atI t.cps.toList k with
    |none=>rw [hc] at hz;exact zqn hz
    |some c =>
     rw [hc] at hz;obtain rfl:=Zqi hz;exact .inr (.inr ⟨t,k,c,IsD.str_iff.mp id,IsD.int_iff.mp ie,hl,hc,q _ F H (.refl sF) (IsD.str_iff.mpr rfl)⟩)
   ·exact zqn hz
  |_=>exact zqn hz
 |_=>exact zqn hz
theorem zaz (hu:X.A.units+1<cLine)(ha:QE X E a fa)(hb:QE X E b fb)(hs:zgG b)(hs2:NoSl b):QE X E (.Subscript a b pos) (dOp gIx fa fb) :=
 PE.weak (PE.or (zpz hu ha hb hs2) (zqI (zpM) ha hb hs)) fun σ H Q h=>by
  obtain ⟨B,F,sd,r,n⟩:=h;by_cases hd:∃ d ks ds,fa sd=.ok d/\(d=.dct ks ds\/d=.dcf ks ds)
  ·obtain ⟨d,ks,ds,hd,hc⟩:=hd;refine .inl ⟨B,F,sd,r,(Res.need_bind n).monoE (fun x hx n1 v F1 H1 e1 i1=>?_) fun _ _ q=>q⟩;rw [hd] at hx;cases hx;refine ⟨B,F1,sd,r.step e1,(Res.need_bind n1).mono (fun y n2 w F2 H2 e2 i2=>?_) fun _ _ q=>q.ext e1⟩;obtain ⟨z,hz,q⟩:=Res.need_ofO n2;obtain ⟨k,hk,hz⟩:=Option.bind_eq_some_iff.mp (show (zbx y).bind (fun q=>valD ks ds q)=some z by rcases hc with rfl|rfl<;>exact hz);obtain ⟨p,xs,rfl,h1,h2,h3⟩:=znV hc i1;obtain ⟨x,hx,ix⟩:=(zdV k h2 h3).1 z hz;refine ⟨p,x,rfl,?_,q x F2 H2 (e1.trans e2) (IsD.same e2.ff _ _ ix)⟩;rw [zc5 hk i2,<- hx];exact zly (zgC e2.hh (zgC e1.fh h1))
  ·refine .inr (zju ⟨B,F,sd,r,?_⟩);unfold dOp at n ⊢;cases hx:fa sd with
   |ok d =>
    rw [hx] at n;cases d with
    |dct ks ds=>exact absurd ⟨_,ks,ds,hx,.inl rfl⟩ hd
    |dcf ks ds=>exact absurd ⟨_,ks,ds,hx,.inr rfl⟩ hd
    |_=>exact n
   |no=>rw [hx] at n;exact n
   |ex c fs=>rw [hx] at n;exact n
noncomputable def gIn (neg:Bool):D->D->Option D
 |k,.dct ks ds=>(zbx k).map fun q=>.bl (if neg then !(valD ks ds q).isSome else (valD ks ds q).isSome)
 |k,.dcf ks ds=>(zbx k).map fun q=>.bl (if neg then !(valD ks ds q).isSome else (valD ks ds q).isSome)
 |d,.lst ds=>if plN 12 d&&ds.all (plN 12) then some (.bl (if neg then !ds.any (fun e=>sameD e d) else ds.any fun e=>sameD e d)) else none
 |d,.tup ds=>if plN 12 d&&ds.all (plN 12) then some (.bl (if neg then !ds.any (fun e=>sameD e d) else ds.any fun e=>sameD e d)) else none
 |_,_=>none
theorem zoe {K:W.Frag}{H:Hp}:∀ (n:Nat) (d e:D) (v:V),plN n d=true->plN n e=true->IsD K H d v->IsD K H e v->d=e
 | 0,_,_,_,h,_,_,_=>by exact zqb h
 |n+1,d,e,v,hd,he,h1,h2=>by
  have all:∀ (ds es:List D) (xs:List V),ds.all (plN n)=true->es.all (plN n)=true->IsDs K H ds xs->IsDs K H es xs->ds=es:=by
   intro ds
   induction ds with
   |nil =>
    intro es xs _ _ h1 h2;rw [IsDs.nil_iff] at h1;subst h1;have:=h2.length;exact (List.length_eq_zero_iff.mp this.symm).symm
   |cons d ds ih =>
    intro es xs p1 p2 h1 h2;rw [List.all_cons,Bool.and_eq_true] at p1;rw [IsDs.cons_iff] at h1;obtain ⟨x,r,rfl,h3,h4⟩:=h1;cases es with
    |nil=>rw [IsDs.nil_iff] at h2;cases h2
    |cons e es =>
     rw [List.all_cons,Bool.and_eq_true] at p2;rw [IsDs.cons_iff] at h2;obtain ⟨x',r',e',h5,h6⟩:=h2;cases e';rw [zoe n d e x p1.1 p2.1 h3 h5,ih es r p1.2 p2.2 h4 h6]
  have ne:∀ {a:Addr} {xs ys:List V},TupD K H a xs->LstD K H a ys->False:=fun {a xs ys} q1 q2=>by
   rcases q2 with q2|⟨o,q2⟩
   ·rw [q1] at q2;cases q2
   ·rw [q1] at q2;cases q2
  cases d with
  |int i =>
   rw [IsD.int_iff] at h1;subst h1;cases e with
   |int j=>rw [IsD.int_iff] at h2;cases h2;rfl
   |str j=>rw [IsD.str_iff] at h2;cases h2
   |non=>rw [IsD.non_iff] at h2;cases h2
   |tup es=>rw [IsD.tup_iff] at h2;obtain ⟨_,_,z,_⟩:=h2;cases z
   |lst es=>rw [IsD.lst_iff] at h2;obtain ⟨_,_,z,_⟩:=h2;cases z
   |_=>exact zqb he
  |str i =>
   rw [IsD.str_iff] at h1;subst h1;cases e with
   |int j=>rw [IsD.int_iff] at h2;cases h2
   |str j=>rw [IsD.str_iff] at h2;cases h2;rfl
   |non=>rw [IsD.non_iff] at h2;cases h2
   |tup es=>rw [IsD.tup_iff] at h2;obtain ⟨_,_,z,_⟩:=h2;cases z
   |lst es=>rw [IsD.lst_iff] at h2;obtain ⟨_,_,z,_⟩:=h2;cases z
   |_=>exact zqb he
  |non =>
   rw [IsD.non_iff] at h1;subst h1;cases e with
   |int j=>rw [IsD.int_iff] at h2;cases h2
   |str j=>rw [IsD.str_iff] at h2;cases h2
   |non=>rfl
   |tup es=>rw [IsD.tup_iff] at h2;obtain ⟨_,_,z,_⟩:=h2;cases z
   |lst es=>rw [IsD.lst_iff] at h2;obtain ⟨_,_,z,_⟩:=h2;cases z
   |_=>exact zqb he
  |tup ds =>
   rw [IsD.tup_iff] at h1;obtain ⟨a,xs,rfl,q1,q2⟩:=h1;cases e with
   |int j=>rw [IsD.int_iff] at h2;cases h2
   |str j=>rw [IsD.str_iff] at h2;cases h2
   |non=>rw [IsD.non_iff] at h2;cases h2
   |tup es =>
    rw [IsD.tup_iff] at h2;obtain ⟨a',xs',e',q3,q4⟩:=h2;cases e';have q1':H a=some (.tup xs):=q1;rw [show H a=some (.tup xs') from q3] at q1';cases q1';rw [all ds es _ hd he q2 q4]
   |lst es =>
    rw [IsD.lst_iff] at h2;obtain ⟨a',xs',e',q3,q4⟩:=h2;cases e';exact (ne q1 q3).elim
   |_=>exact zqb he
  |lst ds =>
   rw [IsD.lst_iff] at h1;obtain ⟨a,xs,rfl,q1,q2⟩:=h1;cases e with
   |int j=>rw [IsD.int_iff] at h2;cases h2
   |str j=>rw [IsD.str_iff] at h2;cases h2
   |non=>rw [IsD.non_iff] at h2;cases h2
   |tup es =>
    rw [IsD.tup_iff] at h2;obtain ⟨a',xs',e',q3,q4⟩:=h2;cases e';exact (ne q3 q1).elim
   |lst es =>
    rw [IsD.lst_iff] at h2;obtain ⟨a',xs',e',q3,q4⟩:=h2;cases e';have:xs=xs':=by
     rcases q1 with q1|⟨_,q1⟩<;>rcases q3 with q3|⟨_,q3⟩<;>rw [q1] at q3<;>cases q3<;>rfl
    subst this;rw [all ds es _ hd he q2 q4]
   |_=>exact zqb he
  |_=>exact zqb hd
def ValIs (K:W.Frag)(H:Hp)(d:D)(u:Value):Prop:=∃ v,RelV v u/\IsD K H d v
noncomputable def eqTo (K:W.Frag)(H:Hp)(d:D)(u:Value):Bool:=@decide (ValIs K H d u) (Classical.propDecidable _)
theorem zjJ {K:W.Frag}{H:Hp}{d e:D}{v:V}{u:Value}(hd:plN 12 d=true)(he:plN 12 e=true)(h:IsD K H e v)(r:RelV v u):eqTo K H d u=sameD e d:=by
 unfold eqTo;by_cases q:e=d
 ·rw [q,zbc];exact @decide_eq_true _ (Classical.propDecidable _) ⟨v,r,q ▸ h⟩
 ·rw [zbI.mpr q];refine @decide_eq_false _ (Classical.propDecidable _) fun ⟨v',r',h'⟩=>q ?_;rw [r'.inj r] at h';exact zoe 12 e d v he hd h h'
theorem any_eq {P:Program}{w:World}{K:W.Frag}{A:Around}{s:Shared}{H:Hp}(hu:A.units+60<cLine)(ok:HOk P w H s.heap){d:D}{x:V}{v:Value}(hp:plN 12 d=true)(hx:IsD K H d x)(rx:RelV x v) :
 ∀ {ds:List D} {xs:List V} {us:List Value},ds.all (plN 12)=true->IsDs K H ds xs->Vals xs us->us.map (eqTo K H d)=ds.map (fun e=>sameD e d)/\∀ u∈us,SeqAt.EqAt A s u v (eqTo K H d u):=by
 intro ds
 induction ds with
 |nil =>
  intro xs us _ h1 h2;rw [IsDs.nil_iff] at h1;subst h1;cases h2;exact ⟨rfl,fun u hu=>nomatch hu⟩
 |cons e ds ih =>
  intro xs us hq h1 h2;rw [List.all_cons,Bool.and_eq_true] at hq;rw [IsDs.cons_iff] at h1;obtain ⟨y,rs,rfl,h3,h4⟩:=h1;cases h2 with
  |cons r1 r2 =>
   obtain ⟨i1,i2⟩:=ih hq.2 h4 r2;obtain ⟨as,ra⟩:=zci ok 12 e y _ hq.1 h3 r1;obtain ⟨cs,rb⟩:=zci ok 12 d x v hp hx rx;obtain ⟨l1,z1⟩:=zeK 12 e hq.1;obtain ⟨l2,z2⟩:=zeK 12 d hp;have es:=zjJ hp hq.1 h3 r1;refine ⟨by rw [List.map_cons,List.map_cons,i1,es],fun u hm=>?_⟩;rcases List.mem_cons.mp hm with hm|hm
   ·subst hm;rw [es,<- (Bool.eq_iff_iff.mpr ((zj3 12 e d hq.1 hp).trans zdm.symm):PyData.eqv (toPy e) (toPy d)=sameD e d)];exact SeqAt.eqAt_reads (toPy e) (toPy d) A s _ v as cs ra rb l1 l2 (by omega)
   ·exact i2 u hm
theorem any_map' {α : Type}{f:α -> Bool}{l:List α}:l.any f=(l.map f).any id:=by rw [List.any_map];rfl
theorem zkS (hu:X.A.units+64<cLine)(neg:Bool):OpR X (compareOp (if neg then .NotIn else .In)) (rD2 X.K fun d e=>match e with
 | .dct _ _=>none
 | .dcf _ _=>none
 |e=>gIn neg d e):=by
 intro pins s σ H x y v u Q I rx ry ⟨F,d,e,z,sF,id,ie,hz,q⟩;have id':=IsD.same sF _ _ id;cases e with
 |lst ds =>
  have hz:(if plN 12 d&&ds.all (plN 12) then some (D.bl (if neg then !ds.any (fun e=>sameD e d) else ds.any fun e=>sameD e d)) else none)=some z:=hz
  split at hz
  ·rename_i hp;rw [Bool.and_eq_true] at hp;obtain rfl:=Zqi hz;rw [IsD.lst_iff] at ie;obtain ⟨p,xs,rfl,h1,h2⟩:=ie;obtain rfl:u=Value.ref p:=ry;obtain ⟨its,ri,pl,hl⟩:=I.list (h1.same sF).sq;obtain ⟨k1,k2⟩:=any_eq (A:=X.A.in1) (by show X.A.units+1+60<cLine;omega) I.hok hp.1 id' rx hp.2 (IsDs.same sF _ _ h2) ri;have ea:its.toArray.any (eqTo X.K H d)=ds.any (fun e=>sameD e d):=by
    rw [show its.toArray.any (eqTo X.K H d)=its.any (eqTo X.K H d) by simp,any_map',k1,<- any_map']
   cases neg with
   |true =>
    refine SeqAt.notIn_listAt (eqTo X.K H d) pl.isList (fun w hw=>k2 w (by simpa using hw)) ⟨.bl _,H,I,rfl,?_⟩;rw [ea];exact q _ F H (.refl sF) (isB _ F)
   |false =>
    refine SeqAt.in_listAt (eqTo X.K H d) pl.isList (fun w hw=>k2 w (by simpa using hw)) ⟨.bl _,H,I,rfl,?_⟩;rw [ea];exact q _ F H (.refl sF) (isB _ F)
  ·exact zqn hz
 |tup ds =>
  have hz:(if plN 12 d&&ds.all (plN 12) then some (D.bl (if neg then !ds.any (fun e=>sameD e d) else ds.any fun e=>sameD e d)) else none)=some z:=hz
  split at hz
  ·rename_i hp;rw [Bool.and_eq_true] at hp;obtain rfl:=Zqi hz;rw [IsD.tup_iff] at ie;obtain ⟨p,xs,rfl,h1,h2⟩:=ie;obtain rfl:u=Value.ref p:=ry;obtain ⟨its,ri,pl,hl⟩:=I.tuple (h1.same sF).sq;obtain ⟨k1,k2⟩:=any_eq (A:=X.A.in1) (by show X.A.units+1+60<cLine;omega) I.hok hp.1 id' rx hp.2 (IsDs.same sF _ _ h2) ri;have ea:its.toArray.any (eqTo X.K H d)=ds.any (fun e=>sameD e d):=by
    rw [show its.toArray.any (eqTo X.K H d)=its.any (eqTo X.K H d) by simp,any_map',k1,<- any_map']
   cases neg with
   |true =>
    refine SeqAt.notIn_tupleAt (eqTo X.K H d) pl (fun w hw=>k2 w (by simpa using hw)) ⟨.bl _,H,I,rfl,?_⟩;rw [ea];exact q _ F H (.refl sF) (isB _ F)
   |false =>
    refine SeqAt.in_tupleAt (eqTo X.K H d) pl (fun w hw=>k2 w (by simpa using hw)) ⟨.bl _,H,I,rfl,?_⟩;rw [ea];exact q _ F H (.refl sF) (isB _ F)
  ·exact zqn hz
 |_=>exact zqn hz
theorem zp7 {K:W.Frag}{neg:Bool}{σ : St}{H:Hp}{Q:VK}(h:tD K E (dOp (gIn neg) fa fb) σ H Q) :
 (fun σ H Q=>tD K E fa σ H fun y H1=>tD K E fb σ H1 fun x H2=>∃ a o,x=.ref a/\DGet H2 a y o/\Q (.bl (if neg then !o.isSome else o.isSome)) H2) σ H Q\/tOp (rD2 K fun d e=>match e with
 | .dct _ _=>none
 | .dcf _ _=>none
 |e=>gIn neg d e) (tD K E fa) (tD K E fb) σ H Q:=by
 obtain ⟨B,F,sd,r,n⟩:=h;by_cases hd:∃ d ks ds,fb sd=.ok d/\(d=.dct ks ds\/d=.dcf ks ds)
 ·obtain ⟨d,ks,ds,hd,hc⟩:=hd;refine .inl ⟨B,F,sd,r,(Res.need_bind n).mono (fun x n1 v F1 H1 e1 i1=>?_) fun _ _ q=>q⟩;refine ⟨B,F1,sd,r.step e1,(Res.need_bind n1).monoE (fun y hy n2 w F2 H2 e2 i2=>?_) fun _ _ q=>q.ext e1⟩;rw [hd] at hy;cases hy;obtain ⟨z,hz,q⟩:=Res.need_ofO n2;obtain ⟨k,hk,hz⟩:=Option.map_eq_some_iff.mp (show (zbx x).map (fun q=>D.bl (if neg then !(valD ks ds q).isSome else (valD ks ds q).isSome))=some z by rcases hc with rfl|rfl<;>exact hz);subst hz;obtain ⟨p,xs,rfl,h1,h2,h3⟩:=znV hc i2;obtain ⟨g1,g2⟩:=zdV k h2 h3;refine ⟨p,valV (ks.zip xs) k,rfl,?_,?_⟩
  ·rw [zc5 hk i1];exact zly (zgC e2.fh h1)
  ·have es:(valV (ks.zip xs) k).isSome=(valD ks ds k).isSome:=by
    cases hv:valD ks ds k with
    |none=>rw [g2 hv];rfl
    |some d=>obtain ⟨x,hx,_⟩:=g1 d hv;rw [hx];rfl
   rw [es];exact q _ F2 H2 (e1.trans e2) (IsD.bl_iff.mpr rfl)
 ·refine .inr (zju ⟨B,F,sd,r,?_⟩);unfold dOp at n ⊢;cases hx:fa sd with
  |ok d =>
   rw [hx] at n;cases hy:fb sd with
   |ok e =>
    rw [hy] at n;cases e with
    |dct ks ds=>exact absurd ⟨_,ks,ds,hy,.inl rfl⟩ hd
    |dcf ks ds=>exact absurd ⟨_,ks,ds,hy,.inr rfl⟩ hd
    |_=>exact n
   |no=>rw [hy] at n;exact n
   |ex c fs=>rw [hy] at n;exact n
  |no=>rw [hx] at n;exact n
  |ex c fs=>rw [hx] at n;exact n
theorem zo2 (hu:X.A.units+64<cLine)(ha:QE X E a fa)(hb:QE X E b fb)(hm:behindInMarks .NotIn b=false:=by rfl):QE X E (.Compare a [.NotIn] [b] pos) (dOp (gIn true) fa fb) :=
 PE.weak (PE.or (zrG (zgk (by omega) ha hb) hm) (zkk (zkS hu true) ha hb hm)) fun σ H Q h=>zp7 h
theorem zm4 (hu:X.A.units+64<cLine)(ha:QE X E a fa)(hb:QE X E b fb)(hm:behindInMarks .In b=false:=by rfl):QT X E (.Compare a [.In] [b] pos) (zal (dOp (gIn false) fa fb)) :=
 PT.weak (PT.or (zjk (zsw (by omega) ha hb) hm) (zf8 (zkS hu false) ha hb hm)) fun σ H Q h=>zp7 (zbu h)
theorem zfp (hu:X.A.units+64<cLine)(ha:QE X E a fa)(hb:QE X E b fb)(hm:behindInMarks .NotIn b=false:=by rfl):QT X E (.Compare a [.NotIn] [b] pos) (zal (dOp (gIn true) fa fb)) :=
 PT.weak (PT.or (zjk (zgk (by omega) ha hb) hm) (zf8 (zkS hu true) ha hb hm)) fun σ H Q h=>zp7 (zbu h)
end
section
variable {X:Cx}{E:XK}{m:Option Bool}{a b o i e f tg:Expr}{fa fb fo fi fv:FE}{fr:FA}{pos pos' apos cpos p:Pos}
theorem zcg {K:W.Frag}{H:Hp}{d:D}{vs:List V}(h:IsDs K H [d] vs):∃ v,vs=[v]/\IsD K H d v:=by
 rw [IsDs.cons_iff] at h;obtain ⟨v,r,rfl,h1,h2⟩:=h;rw [IsDs.nil_iff] at h2;subst h2;exact ⟨v,rfl,h1⟩
theorem zkJ {K:W.Frag}{H:Hp}{d e:D}{vs:List V}(h:IsDs K H [d,e] vs):∃ v w,vs=[v,w]/\IsD K H d v/\IsD K H e w:=by
 rw [IsDs.cons_iff] at h;obtain ⟨v,r,rfl,h1,h2⟩:=h;obtain ⟨w,rfl,h3⟩:=zcg h2;exact ⟨v,w,rfl,h1,h3⟩
def gLen:List D->Option D
 | [.lst ds]=>some (.int ds.length)
 | [.tup ds]=>some (.int ds.length)
 | [.dct ks _]=>some (.int ks.length)
 | [.scr ns]=>some (.int ns.length)
 | [.str x]=>if x.length<=sizeLine then some (.int x.length) else none
 |_=>none
def LenP (ds:List D)(z:D):Prop:=(∃ es,ds=[.lst es]/\z=.int es.length)\/(∃ es,ds=[.tup es]/\z=.int es.length)\/(∃ ks es,ds=[.dct ks es]/\z=.int ks.length)\/(∃ ns,ds=[.scr ns]/\z=.int ns.length)\/∃ x,x.length<=sizeLine/\ds=[.str x]/\z=.int x.length
theorem zng {ds:List D}{z:D}(hz:gLen ds=some z):LenP ds z:=by
 cases ds with
 |nil=>exact zqn hz
 |cons d ds =>
  cases ds with
  |nil =>
   cases d with
   |lst ds=>exact .inl ⟨_,rfl,(Zqi hz).symm⟩
   |tup ds=>exact .inr (.inl ⟨_,rfl,(Zqi hz).symm⟩)
   |dct ks ds=>exact .inr (.inr (.inl ⟨_,_,rfl,(Zqi hz).symm⟩))
   |scr ns=>exact .inr (.inr (.inr (.inl ⟨_,rfl,(Zqi hz).symm⟩)))
   |str x=>exact let q:=zeZ hz;.inr (.inr (.inr (.inr ⟨_,q.1,rfl,q.2.symm⟩)))
   |_=>exact zqn hz
  |cons e ds=>cases d<;>exact zqn hz
theorem zaT:zaN X (.builtin "len") (rDA X.K gLen):=zaN.weak (zaN.or zfT (zaN.or zln zgc)) fun xs H Q ⟨F,ds,z,sF,id,hz,q⟩=>by
 rcases zng hz with ⟨es,rfl,rfl⟩|⟨es,rfl,rfl⟩|⟨ks,es,rfl,rfl⟩|⟨ns,rfl,rfl⟩|⟨x,hl,rfl,rfl⟩
 ·obtain ⟨v,rfl,h⟩:=zcg id;rw [IsD.lst_iff] at h;obtain ⟨a,ys,rfl,h1,h2⟩:=h;rw [<- h2.length] at q;exact .inl ⟨a,ys,rfl,.inl (h1.same sF).sq,q _ F H (.refl sF) (isI _ F)⟩
 ·obtain ⟨v,rfl,h⟩:=zcg id;rw [IsD.tup_iff] at h;obtain ⟨a,ys,rfl,h1,h2⟩:=h;rw [<- h2.length] at q;exact .inl ⟨a,ys,rfl,.inr (h1.same sF).sq,q _ F H (.refl sF) (isI _ F)⟩
 ·obtain ⟨v,rfl,h⟩:=zcg id;rw [IsD.dct_iff] at h;obtain ⟨a,ys,rfl,h1,h2,h3⟩:=h;refine .inr (.inl ⟨a,_,rfl,sF _ _ h1,?_⟩);rw [List.length_zip,<- h2,Nat.min_self];exact q _ F H (.refl sF) (isI _ F)
 ·obtain ⟨v,rfl,h⟩:=zcg id;rw [IsD.scr_iff] at h;obtain ⟨a,rfl,h1⟩:=h;refine .inl ⟨a,_,rfl,.inl (Same.seq sF h1),?_⟩;rw [Zql];exact q _ F H (.refl sF) (isI _ F)
 ·obtain ⟨v,rfl,h⟩:=zcg id;rw [IsD.str_iff] at h;subst h;exact .inr (.inr ⟨_,rfl,hl,q _ F H (.refl sF) (isI _ F)⟩)
def zg7:List D->Option D
 | [.int i,.int j]=>some (.int (if j<i then j else i))
 |_=>none
def IntsP (ds:List D):Prop:=∃ i j,ds=[.int i,.int j]
theorem zpd {ds:List D}{z:D}(hz:zg7 ds=some z):IntsP ds:=by
 cases ds with
 |nil=>exact zqn hz
 |cons d ds =>
  cases ds with
  |nil=>cases d<;>exact zqn hz
  |cons e ds =>
   cases d with
   |int i =>
    cases e with
    |int j =>
     cases ds with
     |nil=>exact ⟨_,_,rfl⟩
     |cons _ _=>exact zqn hz
    |_=>exact zqn hz
   |_=>exact zqn hz
theorem zrf (hc:X.calm=true):zaN X (.builtin "min") (rDA X.K zg7):=zaN.weak (zli hc) fun xs H Q ⟨F,ds,z,sF,id,hz,q⟩=>by
 obtain ⟨i,j,rfl⟩:=zpd hz;obtain rfl:=Zqi hz;obtain ⟨v,w,rfl,h1,h2⟩:=zkJ id;exact ⟨_,_,by rw [IsD.int_iff.mp h1,IsD.int_iff.mp h2],q _ F H (.refl sF) (isI _ F)⟩
def zhL:D->Option (List Int)
 | .lst ds=>zcr zi7 ds
 |_=>none
theorem zjb {K:W.Frag}{H:Hp}{d:D}{ns:List Int}{v:V}(h:zhL d=some ns)(i:IsD K H d v):∃ a,v=.ref a/\LstD K H a (ns.map V.int):=by
 cases d with
 |lst ds =>
  rw [IsD.lst_iff] at i;obtain ⟨a,xs,rfl,h1,h2⟩:=i;rw [zih (show zcr zi7 ds=some ns from h)] at h2;rw [IsDs.ints_iff h2] at h1;exact ⟨a,rfl,h1⟩
 |_=>exact zqn h
theorem zix (ns:List Int):zhL (.lst (ns.map D.int))=some ns:=ziU ns
def tyN:D->Option String
 | .non=>some "NoneType"
 | .bl _=>some "bool"
 | .int _=>some "int"
 | .str _=>some "str"
 | .lst _=>some "list"
 | .tup _=>some "tuple"
 | .dct _ _=>some "dict"
 |_=>none
def tyIn (t n:String):Bool:=(t == n)||(t == "bool" && n == "int")
def zek (t n:String):Bool:=["NoneType", "bool", "int", "str", "list", "tuple", "dict"].contains t&&["bool", "int", "str", "list", "tuple", "dict"].contains n
theorem zpf (K:W.Frag)(t n:String)(h:zek t n=true):W.kitOne K (.type t) (.type n)=some (tyIn t n):=by
 unfold zek at h;rw [Bool.and_eq_true,List.contains_iff_mem,List.contains_iff_mem] at h;obtain ⟨h1,h2⟩:=h;simp only [List.mem_cons,List.not_mem_nil,or_false] at h1 h2;rcases h1 with rfl|rfl|rfl|rfl|rfl|rfl|rfl<;>rcases h2 with rfl|rfl|rfl|rfl|rfl|rfl<;>first|rfl|kernel_rfl
def gIsi:List D->Option D
 | [d,.ty n]=>(tyN d).bind fun t=>if zek t n then some (.bl (tyIn t n)) else none
 |_=>none
theorem zrB {K:W.Frag}{H:Hp}{d:D}{v:V}{t:String}(h:tyN d=some t)(i:IsD K H d v):TyOf K H v (.type t):=by
 cases d with
 |non=>cases h;rw [IsD.non_iff.mp i];exact .non
 |bl b=>cases h;rw [IsD.bl_iff.mp i];exact .bl b
 |int j=>cases h;rw [IsD.int_iff.mp i];exact .int j
 |str x=>cases h;rw [IsD.str_iff.mp i];exact .str x
 |lst ds =>
  obtain rfl:=Zqi h;rw [IsD.lst_iff] at i;obtain ⟨a,xs,rfl,h1,_⟩:=i;rcases h1 with h1|⟨o,h1⟩
  ·exact .lst h1
  ·exact .frz h1
 |tup ds =>
  obtain rfl:=Zqi h;rw [IsD.tup_iff] at i;obtain ⟨a,xs,rfl,h1,_⟩:=i;exact .tup h1
 |dct ks ds =>
  obtain rfl:=Zqi h;rw [IsD.dct_iff] at i;obtain ⟨a,xs,rfl,h1,_⟩:=i;exact .dK h1
 |ty n=>exact zqn h
 |scr n=>exact zqn h
 |ins C fs ds=>exact zqn h
 |exc c=>exact zqn h
 |ucl c=>exact zqn h
 |adr c=>exact zqn h
 |dcf c ds=>exact zqn h
 |pin c ds=>exact zqn h
def IsiP (ds:List D)(z:D):Prop:=∃ d n t,ds=[d,.ty n]/\tyN d=some t/\zek t n=true/\z=.bl (tyIn t n)
theorem zna {ds:List D}{z:D}(hz:gIsi ds=some z):IsiP ds z:=by
 cases ds with
 |nil=>exact zqn hz
 |cons d ds =>
  cases ds with
  |nil=>exact zqn hz
  |cons e ds =>
   cases ds with
   |nil =>
    cases e with
    |ty n =>
     obtain ⟨t,h1,hz⟩:=Option.bind_eq_some_iff.mp (show (tyN d).bind (fun t=>if zek t n then some (D.bl (tyIn t n)) else none)=some z from hz);exact ⟨d,n,t,rfl,h1,(zeZ hz).1,(zeZ hz).2.symm⟩
    |_=>exact zqn hz
   |cons _ _=>cases e<;>exact zqn hz
theorem zfS:zaN X (.builtin "isinstance") (rDA X.K gIsi):=zaN.weak znq fun xs H Q ⟨F,ds,z,sF,id,hz,q⟩=>by
 obtain ⟨d,n,t,rfl,h1,hk,rfl⟩:=zna hz;obtain ⟨v,w,rfl,h2,h3⟩:=zkJ id;exact ⟨v,_,_,_,by rw [IsD.ty_iff.mp h3],zrB h1 (IsD.same sF _ _ h2),zpf _ _ _ hk,q _ F H (.refl sF) (isB _ F)⟩
theorem zfX {n:String}{x:Str}{u:Value}(hg:Gl X x)(hm:X.mg x=none)(hv:bootBuiltins x=some u)(r:RelV (.ty n) u)(hn:x ≠ "__name__" := by decide)(hd:(x == ("__debug__" : Str))=false:=by decide):QE X E (.Name x pos) (dC (.ty n)) :=
 zcO (zpr (v:=.ty n) hg hm hv r hn hd) fun _=>IsD.ty_iff.mpr rfl
def zcT:List D->Option D
 | [.lst ds]=>some (.lst ds)
 | [.tup ds]=>some (.lst ds)
 | [.scr ns]=>some (.lst (ns.map .int))
 |_=>none
def ListP (ds:List D)(z:D):Prop:=(∃ es,ds=[.lst es]/\z=.lst es)\/(∃ es,ds=[.tup es]/\z=.lst es)\/∃ ns,ds=[.scr ns]/\z=.lst (ns.map .int)
theorem zjR {ds:List D}{z:D}(hz:zcT ds=some z):ListP ds z:=by
 cases ds with
 |nil=>exact zqn hz
 |cons d ds =>
  cases ds with
  |nil =>
   cases d with
   |lst ds=>exact .inl ⟨_,rfl,(Zqi hz).symm⟩
   |tup ds=>exact .inr (.inl ⟨_,rfl,(Zqi hz).symm⟩)
   |scr ns=>exact .inr (.inr ⟨_,rfl,(Zqi hz).symm⟩)
   |_=>exact zqn hz
  |cons e ds=>cases d<;>exact zqn hz
theorem zgg:zaN X (.type "list") (rDAN X.K zcT):=zaN.weak zdz fun xs H Q ⟨F,ds,z,sF,id,hz,q⟩=>by
 have fin:∀ {es:List D} {ys:List V},IsDs X.K F es ys->OkN X.K F H Q (.lst es)->∀ l,H l=none->Q (.ref l) (upd H l (.lst ys)):=fun {es ys} h q l hl =>
  q l F _ (.keep sF hl _) hl (zas sF hl) ⟨ys,zai,h⟩
 rcases zjR hz with ⟨es,rfl,rfl⟩|⟨es,rfl,rfl⟩|⟨ns,rfl,rfl⟩
 ·obtain ⟨v,rfl,h⟩:=zcg id;rw [IsD.lst_iff] at h;obtain ⟨a,ys,rfl,h1,h2⟩:=h;exact ⟨a,ys,rfl,.inl (h1.same sF).sq,fin h2 q⟩
 ·obtain ⟨v,rfl,h⟩:=zcg id;rw [IsD.tup_iff] at h;obtain ⟨a,ys,rfl,h1,h2⟩:=h;exact ⟨a,ys,rfl,.inr (h1.same sF).sq,fin h2 q⟩
 ·obtain ⟨v,rfl,h⟩:=zcg id;rw [IsD.scr_iff] at h;obtain ⟨a,rfl,h1⟩:=h;exact ⟨a,_,rfl,.inl (Same.seq sF h1),fin (IsDs.ints _) q⟩
def zfQ:List D->Option D
 | [.lst ds]=>some (.tup ds)
 | [.tup ds]=>some (.tup ds)
 |_=>none
def TupP (ds:List D)(z:D):Prop:=(∃ es,ds=[.lst es]/\z=.tup es)\/∃ es,ds=[.tup es]/\z=.tup es
theorem ziv {ds:List D}{z:D}(hz:zfQ ds=some z):TupP ds z:=by
 cases ds with
 |nil=>exact zqn hz
 |cons d ds =>
  cases ds with
  |nil =>
   cases d with
   |lst ds=>exact .inl ⟨_,rfl,(Zqi hz).symm⟩
   |tup ds=>exact .inr ⟨_,rfl,(Zqi hz).symm⟩
   |_=>exact zqn hz
  |cons e ds=>cases d<;>exact zqn hz
theorem zkj:zaN X (.type "tuple") (rDA X.K zfQ):=zaN.weak zfb fun xs H Q ⟨F,ds,z,sF,id,hz,q⟩=>by
 rcases ziv hz with ⟨es,rfl,rfl⟩|⟨es,rfl,rfl⟩
 ·obtain ⟨v,rfl,h⟩:=zcg id;rw [IsD.lst_iff] at h;obtain ⟨a,ys,rfl,h1,h2⟩:=h;refine ⟨a,ys,rfl,.inl ⟨(h1.same sF).sq,fun l hl=>?_⟩⟩;have ea:=Ext.alloc sF hl (.tup ys);exact q _ _ _ ea (IsD.tup_iff.mpr ⟨l,ys,rfl,.of zai,IsDs.same ea.ff _ _ h2⟩)
 ·obtain ⟨v,rfl,h⟩:=zcg id;have h':=h;rw [IsD.tup_iff] at h;obtain ⟨a,ys,rfl,h1,h2⟩:=h;exact ⟨a,ys,rfl,.inr ⟨(h1.same sF).sq,q _ F H (.refl sF) h'⟩⟩
def zgK:FE:=fun _=>.ok (.dct [] [])
theorem zlt:QN X E (.Dict [] [] pos) zgK:=PE.weak zn4 fun σ H Q ⟨B,F,sd,r,n⟩=>fun p hp=>n p F _ (.keep r.ext.fh hp _) hp (zas r.ext.fh hp) ⟨[],zai,rfl,.nil⟩
def zhh (i:Nat)(fk fv:FE):FS:=fun sd=>(fv sd).bind fun v=>match sd[i]? with
 |some (some (.own false (.dct ks ds)))=>(fk sd).bind fun k=>match zbx k with
  |some q=>if ks.length<sizeLine then .ok (.next (sd.set i (some (.own false (.dct (zfE ks q) (zgE ks ds q v)))))) else .no
  |none=>.no
 |_=>.no
theorem zkE {j:Nat}(hu:X.A.units+1<cLine)(ho:PE X o (tVar j))(hi:QE X E i fi)(hv:QE X E e fv)(hs:swapsWith e (some (.Subscript o i pos')) pos.line X.env=pure false:=by rfl) :
 QS X E m (.Assign [.Subscript o i pos'] e pos) (zhh j fi fv):=PS.weak (zoJ hu ho hi hv hs) fun T σ H ⟨B,F,sd,r,n⟩=>by
 refine ⟨B,F,sd,r,(Res.need_bind n).mono (fun d n1 v F1 H1 e1 i1=>?_) fun _ _ q=>q.ext r.ext⟩
 split at n1
 ·rename_i ks ds hj;obtain ⟨l,h1,h2,h3,⟨xs,h4,h5,h6⟩,_⟩:=(r.step e1).own hj;refine ⟨.ref l,h1,B,F1,sd,r.step e1,(Res.need_bind n1).mono (fun k n2 w F2 H2 e2 i2=>?_) fun _ _ q=>q.ext (r.step e1).ext⟩
  split at n2
  ·rename_i q hk
   split at n2
   ·rename_i hz;obtain ⟨ys,y1,y2,y3⟩:=zl0 (K:=X.K) (q:=q) h5 (IsDs.same e2.ff _ _ h6) (IsD.same e2.ff _ _ i1);have hH:=e2.hh _ _ h4;refine ⟨l,_,rfl,(by rw [zc5 hk i2];exact DPut.k hH (by rw [List.length_zip];omega)),?_⟩;exact n2 σ F2 _ (e1.ff.trans e2.ff) (((r.step e1).step e2).chg hj h1 ⟨ys,by rw [zai,y1],y2,y3⟩)
   ·exact n2.elim
  ·exact n2.elim
 ·exact n1.elim
def zmz:D->Option (List D)
 | .lst ds=>some ds
 | .scr ns=>some (ns.map .int)
 |_=>none
def walkT:D->Option (List D)
 | .tup ds=>some ds
 |_=>none
def iL (f:FE):FA:=fun sd=>(f sd).bind fun d=>.ofO (zmz d)
def iT (f:FE):FA:=fun sd=>(f sd).bind fun d=>.ofO (walkT d)
theorem zc3 {K:W.Frag}{F1:Hp}{J:It}{ds:List D}{xs:List V}{S:Hp->Prop}(h:IsDs K F1 ds xs)(sm:∀ F H,Same F1 F->Same F H->S H)(g:∀ i H x,S H->xs[i]? = some x->J.go i H)(st:∀ i H,S H->xs.length<=i->J.stop i H)
 (yl:∀ i H x H',S H->J.yld i H x H'->H'=H/\xs[i]? = some x):Walk K F1 J ds:=fun i F2 H2 s1 s2=>by
 have hS:=sm F2 H2 s1 s2;refine ⟨fun hi=>?_,fun hi=>st i H2 hS (by rw [h.length];exact hi)⟩;obtain ⟨x,hx,_⟩:=h.get (Zqg hi);refine ⟨g i H2 x hS hx,fun y H3 hy=>?_⟩;obtain ⟨rfl,hy'⟩:=yl i H2 y H3 hS hy;obtain ⟨d,hd,id⟩:=h.getV hy';exact ⟨d,F2,hd,.refl s2,IsD.same s1 _ _ id⟩
theorem zoV (h:QE X E e fa):QI X E tg e (iL fa):=PI.weak (zpC h) fun σ H R ⟨B,F,sd,r,n⟩=>by
 refine ⟨B,F,sd,r,(Res.need_bind n).mono (fun d n1 v F1 H1 e1 i1=>?_) fun _ _ q=>q⟩;obtain ⟨ds,hz,q⟩:=Res.need_ofO n1;cases d with
 |lst es =>
  obtain rfl:=Zqi hz;rw [IsD.lst_iff] at i1;obtain ⟨a,xs,rfl,h1,h2⟩:=i1;refine ⟨a,rfl,⟨xs,(h1.same e1.fh).sq⟩,q _ F1 H1 e1 (zc3 (S:=fun H=>SqL X.K H a xs) h2 (fun F H s1 s2=>((h1.same s1).same s2).sq) (fun i H x hS hx=>⟨xs,x,hS,hx⟩) (fun i H hS hi=>⟨xs,hS,hi⟩) fun i H x H' hS hy=>⟨hy.1,hy.2 xs hS⟩)⟩
 |scr ns =>
  obtain rfl:=Zqi hz;rw [IsD.scr_iff] at i1;obtain ⟨a,rfl,h1⟩:=i1;refine ⟨a,rfl,⟨_,Same.seq e1.fh h1⟩,q _ F1 H1 e1 (zc3 (S:=fun H=>SqL X.K H a (ns.map V.int)) (IsDs.ints ns) (fun F H s1 s2=>Same.seq s2 (Same.seq s1 h1)) (fun i H x hS hx=>⟨_,x,hS,hx⟩) (fun i H hS hi=>⟨_,hS,hi⟩) fun i H x H' hS hy=>⟨hy.1,hy.2 _ hS⟩)⟩
 |_=>exact zqn hz
theorem zrj (h:QE X E e fa):QI X E tg e (iT fa):=PI.weak (zqL h) fun σ H R ⟨B,F,sd,r,n⟩=>by
 refine ⟨B,F,sd,r,(Res.need_bind n).mono (fun d n1 v F1 H1 e1 i1=>?_) fun _ _ q=>q⟩;obtain ⟨ds,hz,q⟩:=Res.need_ofO n1;cases d with
 |tup es =>
  obtain rfl:=Zqi hz;rw [IsD.tup_iff] at i1;obtain ⟨a,xs,rfl,h1,h2⟩:=i1;refine ⟨a,rfl,⟨xs,(h1.same e1.fh).sq⟩,q _ F1 H1 e1 (zc3 (S:=fun H=>SqT X.K H a xs) h2 (fun F H s1 s2=>((h1.same s1).same s2).sq) (fun i H x hS hx=>⟨xs,x,hS,hx⟩) (fun i H hS hi=>⟨xs,hS,hi⟩) fun i H x H' hS hy=>⟨hy.1,hy.2 xs hS⟩)⟩
 |_=>exact zqn hz
def PIor {X:Cx}{tg e:Expr}{t t':TI}(h:PI X tg e t)(h':PI X tg e t'):PI X tg e (fun σ H R=>t σ H R\/t' σ H R):=fun pins s σ H R I q=>q.elim (h pins s σ H R I) (h' pins s σ H R I)
def zhq:D->Option (List D)
 | .lst ds=>some ds
 | .scr ns=>some (ns.map .int)
 | .tup ds=>some ds
 |_=>none
def iS (f:FE):FA:=fun sd=>(f sd).bind fun d=>.ofO (zhq d)
theorem zaX (h:QE X E e fa):QI X E tg e (iS fa):=PI.weak (PIor (zoV (E:=E) h) (zrj (E:=E) h)) fun σ H R ⟨B,F,sd,r,n⟩=>by
 by_cases hd:∃ ds,fa sd=.ok (.tup ds)
 ·obtain ⟨ds,hd⟩:=hd;refine .inr ⟨B,F,sd,r,?_⟩;unfold iS at n;unfold iT;rw [hd] at n ⊢;exact n
 ·refine .inl ⟨B,F,sd,r,?_⟩;unfold iS at n;unfold iL;cases hx:fa sd with
  |ok d =>
   rw [hx] at n;cases d with
   |tup ds=>exact absurd ⟨ds,hx⟩ hd
   |_=>exact n
  |no=>rw [hx] at n;exact n
  |ex c fs=>rw [hx] at n;exact n
def zbd (lo:Int)(n:Nat):List D:=(List.range n).map fun k:Nat=>.int (lo+k)
def zd3 (j:Int):Bool:=Nat.ble j.toNat 1000000000&&Nat.ble (-j).toNat 1000000000
theorem zhS {j:Int}(h:zd3 j=true) : -(2 ^ 62)<=j/\j<2 ^ 62:=by
 unfold zd3 at h;rw [Bool.and_eq_true,Nat.ble_eq,Nat.ble_eq] at h;omega
theorem zfm {j:Int}(h1 : -1000000000<=j)(h2:j<=1000000000):zd3 j=true:=by
 unfold zd3;rw [Bool.and_eq_true,Nat.ble_eq,Nat.ble_eq];omega
def iR1 (fr:FA):FA:=fun sd=>(fr sd).bind fun ds=>match ds with
 | [.int j]=>if zd3 j then .ok (zbd 0 j.toNat) else .no
 |_=>.no
theorem ziR {K:W.Frag}{F1:Hp}(lo:Int)(n:Nat):Walk K F1 (Itr lo n) (zbd lo n):=fun i F2 H2 s1 s2=>by
 have hl:(zbd lo n).length=n:=by unfold zbd;rw [Zql,List.length_range]
 rw [hl];refine ⟨fun hi=>⟨hi,fun x H3 hy=>?_⟩,fun hi=>hi⟩;obtain ⟨rfl,rfl⟩:=hy;refine ⟨.int (lo+i),F2,?_,.refl s2,IsD.int_iff.mpr rfl⟩;unfold zbd;rw [List.getElem?_map,List.getElem?_range hi];rfl
theorem zcl {a:Expr}(hg:Gl X "range")(hm:X.mg "range" = none)(ha:QA X E [a] fr)(hs:starEach [a] X.env=[(false,eval a X.env)]:=by rfl):QI X E tg (.Call (.Name "range" p) [a] [] pos) (iR1 fr):=PI.weak (zkl hg hm ha hs) fun σ H R ⟨B,F,sd,r,n⟩=>by
 refine ⟨B,F,sd,r,(Res.need_bind n).mono (fun ds n1 vs F1 H1 e1 i1=>?_) fun _ _ q=>q⟩
 split at n1
 ·split at n1
  ·rename_i j hj;obtain ⟨v,rfl,h⟩:=zcg i1;rw [IsD.int_iff.mp h];exact ⟨j,rfl,(zhS hj).1,(zhS hj).2,n1 _ F1 H1 e1 (ziR 0 _)⟩
  ·exact n1.elim
 ·exact n1.elim
end
section
variable {X:Cx}{E:XK}{m:Option Bool}{a b o i e f tg:Expr}{fa fb fo fi fv:FE}{fr:FA}{pos pos' apos cpos p:Pos}
theorem PG.weak {e:Expr}{t t':TG}(h:PG X e t)(w:∀ v σ H Q,t' v σ H Q->t v σ H Q):PG X e t':=fun pins s σ H v u Q I r q=>h pins s σ H v u Q I r (w _ _ _ _ q)
def zkA:List Nat->TGs
 | []=>gNil
 |i::is=>zqJ (ze0 i) (zkA is)
theorem zfF:∀ {is:List Nat} {xs:List V} {σ : St} {H:Hp} {Q:St->Hp->Prop},xs.length=is.length->Q (zfl is xs σ) H->zkA is xs σ H Q
 | [],xs,σ,H,Q,hl,q=>⟨List.length_eq_zero_iff.mp hl,q⟩
 |i::is,[],σ,H,Q,hl,q=>by cases hl
 |i::is,x::xs,σ,H,Q,hl,q=>⟨x,xs,rfl,zfF (is:=is) (xs:=xs) (Nat.succ.inj hl) q⟩
theorem zbj {i:Nat}{e:Expr}(h:PG X e (ze0 i)):QG X e (.one i):=h
theorem zbE (is:List Nat){e:Expr}(h:PG X e (gTup X.K is.length (zkA is))):QG X e (.tup is):=PG.weak h fun v σ H Q ⟨a,xs,e,h1,h2,q⟩=>⟨a,xs,e,h1,h2,zfF h2 q⟩
def zez (tg:Tg)(c:FT)(f:FE)(sd:SD):List D->Res (List D)
 | []=>.ok []
 |x::xs=>(zbl tg x sd).bind fun s=>(c s).bind fun b=>if b then (f s).bind fun y=>(zez tg c f sd xs).bind fun ys=>.ok (y::ys) else zez tg c f sd xs
def zdR (cap:List (Option Nat))(it:FA)(tg:Tg)(c:FT)(f:FE):FE:=fun sd=>(it sd).bind fun ds=>if zdk (capD cap sd) tg=true/\ds.length<sizeLine then
 (zez tg c f (capD cap sd) ds).bind fun ys=>.ok (.lst ys) else .no
theorem ziO {K:W.Frag}{t:Tg}{fi:FA}{fc:FT}{f:FE}{cap:List (Option Nat)}{σ : St}{H:Hp}{Q:VK}(hh:tDN K E (zdR cap fi t fc f) σ H Q):zeU cap (tDI K E fi) (gT t K) (tDT K E fc) (tD K E f) σ H Q:=by
 obtain ⟨B,F,sd,r,n⟩:=hh;refine ⟨B,F,sd,r,(Res.need_bind n).mono (fun ds n1 J F1 H1 e1 wk=>?_) fun _ _ q=>q⟩
 split at n1
 ·rename_i hh;obtain ⟨hn,hz⟩:=hh;refine ⟨fun i k ys σ H2=>k=ds.length-i/\i<=ds.length/\∃ F2 es,Ext F1 H1 F2 H2/\RS K B F2 H2 (capD cap sd) σ /\ IsDs K F2 es ys/\es.length<=i /\
   (zez t fc f (capD cap sd) (ds.drop i)).need (fun rs=>OkN K F2 H2 Q (.lst (es++rs))) (XW K E F2 H2),⟨ds.length,rfl,Nat.zero_le _,F1,[],.refl e1.fh,(r.step e1).cap cap,.nil,Nat.le_refl _,?_⟩,?_⟩
  ·exact (Res.need_bind n1).mono (fun rs q=>(show OkN K F H Q (.lst rs) from q).ext e1) fun _ _ q=>q.ext e1
  rintro i k ys σ2 H2 ⟨rfl,hi,F2,es,e2,r2,i2,hl,n2⟩;have ly:=i2.length;refine ⟨by omega,?_⟩;obtain ⟨w1,w2⟩:=wk i F2 H2 e2.ff e2.fh;by_cases hlt:i<ds.length
  ·obtain ⟨go,yl⟩:=w1 hlt;refine .inr ⟨go,fun x H3 y=>?_⟩;obtain ⟨d,F3,hd,e3,i3⟩:=yl x H3 y;rw [List.drop_eq_getElem_cons hlt] at n2;have hd':ds[i]=d:=by rw [Zqg hlt] at hd;exact Zqi hd
   rw [hd'] at n2;unfold zez at n2;have r3:=r2.step e3;refine zl5 (K:=K) r3 i3 (Res.need_bind n2) fun sd' σ' n4 hb r4=>?_;obtain ⟨b1,b2⟩:=zdt hn hb;refine ⟨B,F3,sd',r4,(Res.need_bind n4).mono (fun b n5 F4 H4 e4=>?_) fun _ _ q=>q.ext e3⟩;cases b with
   |true =>
    refine ⟨B,F4,sd',r4.step e4,(Res.need_bind n5).mono (fun y n6 v F5 H5 e5 i5=>?_) fun _ _ q=>q.ext (e3.trans e4)⟩;refine ⟨ds.length-(i+1),by omega,rfl,hlt,F5,es++[y],((e2.trans e3).trans e4).trans e5,((r4.step e4).step e5).forget b1 b2,(IsDs.same ((e3.ff.trans e4.ff).trans e5.ff) _ _ i2).snoc i5,by rw [List.length_append];exact Nat.succ_le_succ hl,?_⟩;refine (Res.need_bind n6).mono (fun rs q=>?_) fun _ _ q=>q.ext ((e3.trans e4).trans e5);rw [List.append_assoc];exact (show OkN K F2 H2 Q (.lst (es++y::rs)) from q).ext ((e3.trans e4).trans e5)
   |false =>
    refine ⟨ds.length-(i+1),by omega,rfl,hlt,F4,es,(e2.trans e3).trans e4,(r4.step e4).forget b1 b2,IsDs.same (e3.ff.trans e4.ff) _ _ i2,Nat.le_succ_of_le hl,?_⟩;exact (show (zez t fc f (capD cap sd) (ds.drop (i+1))).need _ _ from n5).mono (fun rs q=>q.ext (e3.trans e4)) fun _ _ q=>q.ext (e3.trans e4)
  ·have he:i=ds.length:=by omega
   subst he;refine .inl ⟨w2 (Nat.le_refl _),fun D hD=>?_⟩;rw [List.drop_length] at n2;have q:OkN K F2 H2 Q (.lst (es++[])):=n2;rw [List.append_nil] at q;exact q D F2 _ (.keep r2.ext.fh hD _) hD (zas r2.ext.fh hD) ⟨ys,zai,i2⟩
 ·exact n1.elim
end
section
variable {P:Program}{w:World}{K:W.Frag}{mg:Str->Option Value}{base:Heap}{f:Addr}{fd:FuncData}{ps:List Str}{k:Nat}
theorem fn_no:FnOk P w K mg base CX0 k f fd ps (SpD K fun _=>.no):=⟨fun _ _ _ _ ⟨_,_,_,_,n⟩=>n.elim,fun _ _ _ _ _ _ _ _ _ _ _ _ _ ⟨_,_,_,_,n⟩=>n.elim⟩
end
section
variable {X:Cx}{E:XK}{m:Option Bool}{a b o i e f tg:Expr}{fa fb fo fi fv:FE}{fr:FA}{pos pos' apos cpos p:Pos}
def gIsN (neg:Bool):D->Option D
 | .non=>some (.bl (!neg))
 |_=>some (.bl neg)
def zqM:D->Bool
 | .non=>true
 |_=>false
theorem zno {K:W.Frag}{H:Hp}{d:D}{v:V}(h:IsD K H d v):decide (v=.non)=zqM d:=by
 cases d with
 |non=>rw [IsD.non_iff.mp h];rfl
 |bl b=>rw [IsD.bl_iff.mp h];rfl
 |int b=>rw [IsD.int_iff.mp h];rfl
 |str b=>rw [IsD.str_iff.mp h];rfl
 |ty b=>rw [IsD.ty_iff.mp h];rfl
 |scr b=>obtain ⟨a,rfl,_⟩:=IsD.scr_iff.mp h;rfl
 |tup b=>obtain ⟨a,_,rfl,_⟩:=IsD.tup_iff.mp h;rfl
 |lst b=>obtain ⟨a,_,rfl,_⟩:=IsD.lst_iff.mp h;rfl
 |dct b c=>obtain ⟨a,_,rfl,_⟩:=IsD.dct_iff.mp h;rfl
 |ins b c d=>obtain ⟨a,_,_,_,rfl,_⟩:=IsD.ins_iff.mp h;rfl
 |exc b=>obtain ⟨a,_,rfl,_⟩:=IsD.exc_iff.mp h;rfl
 |ucl b=>obtain ⟨a,rfl,_⟩:=IsD.ucl_iff.mp h;rfl
 |adr b=>rw [IsD.adr_iff.mp h];rfl
 |dcf b c=>obtain ⟨a,_,_,rfl,_⟩:=IsD.dcf_iff.mp h;rfl
 |pin b c=>rw [(IsD.pin_iff.mp h).1];rfl
theorem zji {K:W.Frag}{σ : St}{H:Hp}{Q:VK}(h:tD K E (dUn (gIsN true) fa) σ H Q):zrY (tD K E fa) σ H Q:=by
 obtain ⟨B,F,sd,r,n⟩:=h;refine ⟨B,F,sd,r,(Res.need_bind n).mono (fun x n1 v F1 H1 e1 i1=>?_) fun _ _ q=>q⟩;show Q (V.bl !decide (v=V.non)) H1;rw [zno i1];cases x<;>exact n1 _ F1 H1 e1 (IsD.bl_iff.mpr rfl)
theorem zdS {j pos'}(ha:QE X E a fa):QT X E (.Compare a [.IsNot] [.Constant .none j pos'] pos) (zal (dUn (gIsN true) fa)):=PT.weak (zjk (zoP ha)) fun _ _ _ h=>zji (zbu h)
end
end L2.DL
namespace L2
section
variable {X:Cx}{tg iter elt c:Expr}{scope:Scope}{pos:Pos}{wi:TI}{g:TG}{te:TE}{tt:TT}
theorem zjm {y:Str}{py:Pos}{iy:Nat}{pins:List (Addr×Obj)}{σ : St}{DD:Ends}(hNN:X.N.Nodup)(hiy:X.N[iy]? = some y)(hyy:Loc X.env.scope y)(hyf:X.fn y=true\/X.env.scope.names.lookup y=some .local) :
 zed X pins σ (fun v H'=>DD.nx (σ.set iy (some v)) H') (some (assign (.Name y py) X.env)) (fun _ s'=>SP X pins DD .next s'):=fun C D m s5 r hm nC nF sz cC pC k=>by
 obtain ⟨v5,H5,K5,rv5,fC,q5⟩:=k s5.heap ⟨rfl,fun _ _=>rfl⟩;obtain ⟨oC,esC,epC,hoC,hdC,hrC⟩:=id hm;have KP:Inv X (pins++[(C,oC)]) σ H5 { s5 with heap:=s5.heap }:=K5.pins_of fun p hp=>by
  rcases List.mem_append.mp hp with hp|hp
  ·exact K5.pin p (List.mem_append_right _ hp)
  ·have e:=List.mem_singleton.mp hp;subst e;exact ⟨hoC,fC,nC,nF,fun v z=>by rw [show oC.data=_ from z] at hdC;cases hdC⟩
 refine wpAny_assign_Name (zdA KP hNN hiy hyy rv5 (fun s6 I6=>?_) hyf);have p6:=I6.pin (C,oC) (List.mem_append_right _ (List.mem_append_right _ Zqs));refine ⟨m,⟨oC,esC,epC,p6.1,hdC,hrC⟩,fun h' hs'=>⟨_,H5,?_,q5⟩⟩;exact (I6.pins_of (pins':=pins) fun p hp=>I6.pin p (List.mem_append_right _ (List.mem_append_left _ hp))).turned (t':=s6.toks) (it:=C) (fun b o hb e=>(hs'.2 b hb).trans e) fC nC (.inr sz) cC pC
theorem zi6 {y:Str}{py spos:Pos}{iy:Nat}(hsw:swapsWith (.ListComp elt [⟨tg,iter,[],0⟩] scope pos) (some (.Name y py)) spos.line X.env=pure true)(hNN:X.N.Nodup)(hiy:X.N[iy]? = some y)(hyy:Loc X.env.scope y)(hyf:X.fn y=true\/X.env.scope.names.lookup y=some .local)(N:List Str)(cap:List (Option Nat))(hc:X.calm=true)(okB:zbt scope X.env N X.N cap=true)(hi:PI X tg iter wi)(hg:∀ cl C s H ex,PG (za4 X scope N cl C s H ex) tg g)(he:∀ cl C s H ex,PE (za4 X scope N cl C s H ex) elt te)
 (hs:∀ x,foldedSetIterable iter X.env x=pure x:=by intro _;rfl):PS X (.Assign [.Name y py] (.ListComp elt [⟨tg,iter,[],0⟩] scope pos) spos) (tAsg (ziL cap wi g te) (ze0 iy)):=by
 intro pins s σ H DD I h;rw [exec_Assign_Name_used _ _ _ _ hsw];refine wpAny_bind (wpAny_standAt (wpAny_bind ?_));refine wpAny_bind (wpAny_mono (zlo (use:=some (assign (.Name y py) X.env)) (R:=fun _ s'=>SP X pins DD .next s') N cap hc okB hi hg (fun cl C s H ex _=>he cl C s H ex) hs I h (zjm hNN hiy hyy hyf)) (fun _ s' hq=>wpAny_pure (wpAny_pure hq)) fun _ _ e=>e)
theorem zfY {y:Str}{py spos:Pos}{iy:Nat}(hsw:swapsWith (.ListComp elt [⟨tg,iter,[c],0⟩] scope pos) (some (.Name y py)) spos.line X.env=pure true)(hNN:X.N.Nodup)(hiy:X.N[iy]? = some y)(hyy:Loc X.env.scope y)(hyf:X.fn y=true\/X.env.scope.names.lookup y=some .local)(N:List Str)(cap:List (Option Nat))(hc:X.calm=true)(okB:zbt scope X.env N X.N cap=true)(hi:PI X tg iter wi)(hg:∀ cl C s H ex,PG (za4 X scope N cl C s H ex) tg g)(ht:∀ cl C s H ex,PT (za4 X scope N cl C s H ex) c tt)(he:∀ cl C s H ex,PE (za4 X scope N cl C s H ex) elt te)
 (hs:∀ x,foldedSetIterable iter X.env x=pure x:=by intro _;rfl):PS X (.Assign [.Name y py] (.ListComp elt [⟨tg,iter,[c],0⟩] scope pos) spos) (tAsg (zeU cap wi g tt te) (ze0 iy)):=by
 intro pins s σ H DD I h;rw [exec_Assign_Name_used _ _ _ _ hsw];refine wpAny_bind (wpAny_standAt (wpAny_bind ?_));refine wpAny_bind (wpAny_mono (zjz (use:=some (assign (.Name y py) X.env)) (R:=fun _ s'=>SP X pins DD .next s') N cap hc okB hi hg ht he hs I h (zjm hNN hiy hyy hyf)) (fun _ s' hq=>wpAny_pure (wpAny_pure hq)) fun _ _ e=>e)
end
end L2
namespace L2.DL
section
variable {X:Cx}{E:XK}{m:Option Bool}{tg iter elt c:Expr}{scope:Scope}{pos spos py:Pos}{y:Str}{iy:Nat}{t:Tg}{fi:FA}{fc:FT}{f:FE}
theorem zp3 {K:W.Frag}{te:TE}{i:Nat}{fe:FE}(w:∀ σ H Q,tDN K E fe σ H Q->te σ H Q){T:Ends}{σ : St}{H:Hp}(h:tDS K E m (sSet i fe) T σ H):tAsg te (ze0 i) T σ H:=w _ _ _ (by
 obtain ⟨B,F,sd,r,n⟩:=h;refine ⟨B,F,sd,r,(Res.need_bind n).mono (fun d n1=>OkD.new fun v F1 H1 e1 i1=>?_) fun _ _ q=>q.ext r.ext⟩;exact n1 _ F1 H1 e1.ff ((r.step e1).setVal i1))
theorem zpa {K:W.Frag}{te:TE}{i:Nat}{fe:FE}(w:∀ σ H Q,tDN K E fe σ H Q->te σ H Q){T:Ends}{σ : St}{H:Hp}(h:tDS K E m (sOwn i fe) T σ H):tAsg te (ze0 i) T σ H:=w _ _ _ (by
 obtain ⟨B,F,sd,r,n⟩:=h;refine ⟨B,F,sd,r,(Res.need_bind n).mono (fun d n1 l F1 H1 e1 h1 h2 h3=>?_) fun _ _ q=>q.ext r.ext⟩;refine n1 _ F1 H1 e1.ff ((r.step e1).setOwn (zas r.ext.hh h1) h2 h3 fun j p d' q1 q2=>?_);obtain ⟨l',p1,_,_,p4,_⟩:=r.own q1;rw [p1] at q2;cases q2;obtain ⟨o,ho⟩:=p4.has;rw [h1] at ho;exact zqn ho)
theorem ziz (N:List Str)(cap:List (Option Nat))(hNN:X.N.Nodup)(hiy:X.N[iy]? = some y)(hyy:Loc X.env.scope y)(hc:X.calm=true)(okB:zbt scope X.env N X.N cap=true)(hi:QI X E tg iter fi)
 (hg:∀ cl C s H ex,QG (za4 X scope N cl C s H ex) tg t) (he:∀ cl C s H ex,QE (za4 X scope N cl C s H ex) E elt f) (hsw:swapsWith (.ListComp elt [⟨tg,iter,[],0⟩] scope pos) (some (.Name y py)) spos.line X.env=pure true:=by rfl)
 (hyf:X.fn y=true\/X.env.scope.names.lookup y=some .local:=by first|exact .inl rfl|exact .inr rfl) (hs:∀ x,foldedSetIterable iter X.env x=pure x:=by intro _;rfl) :
 QS X E m (.Assign [.Name y py] (.ListComp elt [⟨tg,iter,[],0⟩] scope pos) spos) (sSet iy (zbX cap fi t f)):=by
 have hh:=zi6 (g:=gT t X.K) (te:=tD X.K E f) hsw hNN hiy hyy hyf N cap hc okB hi hg he hs;exact PS.weak hh fun T σ H h=>zp3 (fun _ _ _ q=>zhP q) h
end
def zr0:Option (Option SV)->Res D
 |some (some (.val d))=>.ok d
 |_=>.no
@[simp] theorem zrg (d:D):zr0 (some (some (.val d)))=.ok d:=rfl
@[simp] theorem ev_var (i:Nat)(sd:SD):dVar i sd=zr0 sd[i]? := rfl
@[simp] theorem ev_C (d:D)(sd:SD):dC d sd=.ok d:=rfl
@[simp] theorem ev_op (g:D->D->Option D)(fa fb:FE)(sd:SD):dOp g fa fb sd=(fa sd).bind fun x=>(fb sd).bind fun y=>.ofO (g x y):=rfl
@[simp] theorem ev_un (g:D->Option D)(fa:FE)(sd:SD):dUn g fa sd=(fa sd).bind fun x=>.ofO (g x):=rfl
def bOf:D->Res Bool
 | .bl b=>.ok b
 |_=>.no
@[simp] theorem bOf_bl (b:Bool):bOf (.bl b)=.ok b:=rfl
@[simp] theorem ev_bool (fa:FE)(sd:SD):zal fa sd=(fa sd).bind bOf:=by
 unfold zal;cases fa sd with
 |ok d=>cases d<;>rfl
 |ex c fs=>rfl
 |no=>rfl
@[simp] theorem ev_notT (f:FT)(sd:SD):zb7 f sd=(f sd).bind fun b=>.ok (!b):=rfl
@[simp] theorem ev_andT (f g:FT)(sd:SD):zbB f g sd=(f sd).bind fun b=>if b then g sd else .ok false:=rfl
@[simp] theorem ev_orT (f g:FT)(sd:SD):dOrT f g sd=(f sd).bind fun b=>if b then .ok true else g sd:=rfl
@[simp] theorem ev_andV (fa fb:FE)(sd:SD):zgy fa fb sd=(zal fa sd).bind fun b=>if b then fb sd else .ok (.bl false):=rfl
@[simp] theorem ev_orV (fa fb:FE)(sd:SD):dOrV fa fb sd=(zal fa sd).bind fun b=>if b then .ok (.bl true) else fb sd:=rfl
@[simp] theorem ev_notV (fa:FE)(sd:SD):zpv fa sd=(zal fa sd).bind fun b=>.ok (.bl !b):=rfl
@[simp] theorem ev_if (c:FT)(fa fb:FE)(sd:SD):dIf c fa fb sd=(c sd).bind fun k=>if k then fa sd else fb sd:=rfl
@[simp] theorem ev_nil (sd:SD):dNil sd=.ok []:=rfl
@[simp] theorem ev_cons (fa:FE)(fr:FA)(sd:SD):zab fa fr sd=(fa sd).bind fun x=>(fr sd).bind fun xs=>.ok (x::xs):=rfl
@[simp] theorem ev_lst (fr:FA)(sd:SD):dLst fr sd=(fr sd).bind fun xs=>if xs.length<=1000 then .ok (.lst xs) else .no:=rfl
@[simp] theorem ev_tup (fr:FA)(sd:SD):dTup fr sd=(fr sd).bind fun xs=>if xs.length<=1000 then .ok (.tup xs) else .no:=rfl
@[simp] theorem ev_call (Fn:List D->Res D)(fr:FA)(sd:SD):zav Fn fr sd=(fr sd).bind Fn:=rfl
@[simp] theorem ev_blt (g:List D->Option D)(fr:FA)(sd:SD):dBlt g fr sd=(fr sd).bind fun xs=>.ofO (g xs):=rfl
@[simp] theorem bare_ok {α : Type}(a:α):(Res.ok a).bare=.ok a:=rfl
@[simp] theorem ev_tmp (is:List Nat)(f:FE)(sd:SD):dTmp is f sd=(f (frzD is sd)).bare.bind fun d=>if zec d then .ok d else .no:=rfl
@[simp] theorem scal_int (i:Int):zec (.int i)=true:=rfl
@[simp] theorem scal_str (i:Str):zec (.str i)=true:=rfl
@[simp] theorem frzD_nil (sd:SD):frzD [] sd=sd:=rfl
def frz1 (i:Nat)(sd:SD):Option (Option SV)->SD
 |some (some (.own _ d))=>sd.set i (some (.val d))
 |_=>sd
@[simp] theorem frz1_own (i:Nat)(sd:SD)(p:Bool)(d:D):frz1 i sd (some (some (.own p d)))=sd.set i (some (.val d)):=rfl
@[simp] theorem zqs (i:Nat)(is:List Nat)(sd:SD):frzD (i::is) sd=frzD is (frz1 i sd sd[i]?):=by
 show frzD is _=frzD is _
 congr 1
def seqK (g:FS):Out->Res Out
 | .next sd=>g sd
 |o=>.ok o
@[simp] theorem zsa (g:FS)(sd:SD):seqK g (.next sd)=g sd:=rfl
@[simp] theorem seqK_ret (g:FS)(d:D):seqK g (.ret d)=.ok (.ret d):=rfl
@[simp] theorem zrr (g1 g2:FS)(sd:SD):sSeq g1 g2 sd=(g1 sd).bind (seqK g2):=by
 unfold sSeq;cases g1 sd with
 |ok o=>cases o<;>rfl
 |ex c fs=>rfl
 |no=>rfl
@[simp] theorem ev_next (sd:SD):zaP sd=.ok (.next sd):=rfl
@[simp] theorem zst (i:Nat)(f:FE)(sd:SD):sSet i f sd=(f sd).bind fun d=>.ok (.next (sd.set i (some (.val d)))):=rfl
@[simp] theorem ev_own (i:Nat)(f:FE)(sd:SD):sOwn i f sd=(f sd).bind fun d=>.ok (.next (sd.set i (some (.own false d)))):=rfl
@[simp] theorem ev_ret (f:FE)(sd:SD):sRet f sd=(f sd).bind fun d=>.ok (.ret d):=rfl
def ownV:Option (Option SV)->Res D
 |some (some (.own _ d))=>.ok d
 |_=>.no
@[simp] theorem ownV_own (p:Bool)(d:D):ownV (some (some (.own p d)))=.ok d:=rfl
@[simp] theorem zqK (i:Nat)(sd:SD):zcM i sd=(ownV sd[i]?).bind fun d=>.ok (.ret d):=by
 unfold zcM;cases sd[i]? with
 |none=>rfl
 |some o =>
  cases o with
  |none=>rfl
  |some v=>cases v<;>rfl
@[simp] theorem ev_drop (f:FE)(sd:SD):zfP f sd=(f sd).bind fun _=>.ok (.next sd):=rfl
@[simp] theorem ev_ifS (c:FT)(g1 g2:FS)(sd:SD):sIf c g1 g2 sd=(c sd).bind fun b=>if b then g1 sd else g2 sd:=rfl
def ownL:Option (Option SV)->Res (List D)
 |some (some (.own false (.lst ds)))=>.ok ds
 |_=>.no
@[simp] theorem ownL_own (ds:List D):ownL (some (some (.own false (.lst ds))))=.ok ds:=rfl
@[simp] theorem zrW (i:Nat)(f:FE)(sd:SD):zcm i f sd=(ownL sd[i]?).bind fun ds=>(f sd).bind fun d=>if ds.length<sizeLine then .ok (.next (sd.set i (some (.own false (.lst (ds++[d])))))) else .no:=by
 unfold zcm;cases sd[i]? with
 |none=>rfl
 |some o =>
  cases o with
  |none=>rfl
  |some v =>
   cases v with
   |val d=>rfl
   |own p d=>cases p<;>cases d<;>rfl
def zq0:D->Res (List D)
 | .lst es=>.ok es
 |_=>.no
@[simp] theorem zrF (es:List D):zq0 (.lst es)=.ok es:=rfl
@[simp] theorem zr5 (i:Nat)(f:FE)(sd:SD):zdr i f sd=(ownL sd[i]?).bind fun ds=>(f sd).bind fun d=>(zq0 d).bind fun es=>if ds.length+es.length<=sizeLine then .ok (.next (sd.set i (some (.own false (.lst (ds++es)))))) else .no:=by
 unfold zdr;cases sd[i]? with
 |none=>rfl
 |some o =>
  cases o with
  |none=>rfl
  |some v =>
   cases v with
   |val d=>rfl
   |own p d =>
    cases p with
    |true=>cases d<;>rfl
    |false =>
     cases d with
     |lst ds =>
      show (f sd).bind _=(f sd).bind _;cases f sd with
      |ok x=>cases x<;>rfl
      |ex c fs=>rfl
      |no=>rfl
     |_=>rfl
def ownK:Option (Option SV)->Res (List Key×List D)
 |some (some (.own false (.dct ks ds)))=>.ok (ks,ds)
 |_=>.no
@[simp] theorem ownK_own (ks:List Key)(ds:List D):ownK (some (some (.own false (.dct ks ds))))=.ok (ks,ds):=rfl
@[simp] theorem ev_dput (i:Nat)(fk fv:FE)(sd:SD):zhh i fk fv sd=(fv sd).bind fun v=>(ownK sd[i]?).bind fun o=>(fk sd).bind fun k=>(Res.ofO (zbx k)).bind fun q=>if o.1.length<sizeLine then .ok (.next (sd.set i (some (.own false (.dct (zfE o.1 q) (zgE o.1 o.2 q v)))))) else .no:=by
 unfold zhh;cases fv sd with
 |ok v =>
  show (match sd[i]? with
   |some (some (.own false (.dct ks ds)))=>_
   |_=>_)=(ownK sd[i]?).bind _
  cases sd[i]? with
  |none=>rfl
  |some o =>
   cases o with
   |none=>rfl
   |some w =>
    cases w with
    |val d=>rfl
    |own p d =>
     cases p with
     |true=>cases d<;>rfl
     |false =>
      cases d with
      |dct ks ds =>
       show (fk sd).bind _=(fk sd).bind _;cases fk sd with
       |ok k=>show (match zbx k with|some q=>_|none=>_)=(Res.ofO (zbx k)).bind _;cases zbx k<;>rfl
       |ex c fs=>rfl
       |no=>rfl
      |_=>rfl
 |ex c fs=>rfl
 |no=>rfl
def outV:Out->Res D
 | .ret d=>.ok d
 | .next _=>.ok .non
 |_=>.no
@[simp] theorem outV_ret (d:D):outV (.ret d)=.ok d:=rfl
@[simp] theorem zqx (sd:SD):outV (.next sd)=.ok .non:=rfl
theorem zko (n ar:Nat)(g:FS)(ds:List D)(h:ds.length=ar):runD n ar g ds=(g (zaS n ds)).bind outV:=by
 unfold runD;rw [if_pos h];cases g (zaS n ds) with
 |ok o=>cases o<;>rfl
 |ex c fs=>rfl
 |no=>rfl
def outN:Out->Res D
 | .ret d=>.ok d
 |_=>.no
@[simp] theorem outN_ret (d:D):outN (.ret d)=.ok d:=rfl
theorem zs3 (n ar:Nat)(g:FS)(ds:List D)(h:ds.length=ar):runN n ar g ds=(g (zaS n ds)).bind outN:=by
 unfold runN;rw [if_pos h];cases g (zaS n ds) with
 |ok o=>cases o<;>rfl
 |ex c fs=>rfl
 |no=>rfl
@[simp] theorem run_d1 (n:Nat)(g:FS)(a:D):runD n 1 g [a]=(g (some (.val a)::List.replicate (n-1) none)).bind outV:=zko n 1 g [a] rfl
@[simp] theorem zrZ (n:Nat)(g:FS)(a b:D):runD n 2 g [a,b]=(g (some (.val a)::some (.val b)::List.replicate (n-2) none)).bind outV:=zko n 2 g [a,b] rfl
@[simp] theorem run_d3 (n:Nat)(g:FS)(a b c:D):runD n 3 g [a,b,c]=(g (some (.val a)::some (.val b)::some (.val c)::List.replicate (n-3) none)).bind outV:=zko n 3 g [a,b,c] rfl
@[simp] theorem zqW (n:Nat)(g:FS)(a b c d:D):runD n 4 g [a,b,c,d]=(g (some (.val a)::some (.val b)::some (.val c)::some (.val d)::List.replicate (n-4) none)).bind outV:=zko n 4 g [a,b,c,d] rfl
@[simp] theorem run_n1 (n:Nat)(g:FS)(a:D):runN n 1 g [a]=(g (some (.val a)::List.replicate (n-1) none)).bind outN:=zs3 n 1 g [a] rfl
@[simp] theorem run_n2 (n:Nat)(g:FS)(a b:D):runN n 2 g [a,b]=(g (some (.val a)::some (.val b)::List.replicate (n-2) none)).bind outN:=zs3 n 2 g [a,b] rfl
@[simp] theorem gAdd_int (i j:Int):gAdd (.int i) (.int j)=some (.int (i+j)):=rfl
@[simp] theorem gSub_int (i j:Int):gSub (.int i) (.int j)=some (.int (i-j)):=rfl
@[simp] theorem gNeg_int (i:Int):gNeg (.int i)=some (.int (-i)):=rfl
@[simp] theorem gLt_int (i j:Int):gLt (.int i) (.int j)=some (.bl (decide (i<j))):=rfl
@[simp] theorem gLe_int (i j:Int):gLe (.int i) (.int j)=some (.bl (decide (i<=j))):=rfl
@[simp] theorem gGt_int (i j:Int):gGt (.int i) (.int j)=some (.bl (decide (j<i))):=rfl
@[simp] theorem gGe_int (i j:Int):gGe (.int i) (.int j)=some (.bl (decide (j<=i))):=rfl
@[simp] theorem gEq_int' (i j:Int):gEq (.int i) (.int j)=some (.bl (decide (i=j))):=zoO i j
@[simp] theorem gNe_int' (i j:Int):gNe (.int i) (.int j)=some (.bl (!decide (i=j))):=zpp i j
@[simp] theorem gNe_bl (a b:Bool):gNe (.bl a) (.bl b)=some (.bl (a != b)):=rfl
theorem zfs {i j:Int}(h:zgq i j=true):gMul (.int i) (.int j)=some (.int (i*j)):=by
 show (if zgq i j then _ else _)=_;rw [if_pos h]
theorem zfq {i j:Int}(h1 : -18446744073709551616<i)(h2:i<18446744073709551616):zgq i j=true:=by
 unfold zgq;rw [Bool.or_eq_true,Bool.or_eq_true,Nat.blt_eq,Nat.blt_eq];exact .inl (by omega)
@[simp] theorem zjW {i j:Int}(h:0<j):gMod (.int i) (.int j)=some (.int (i % j)):=by
 show (if Nat.blt 0 j.toNat then _ else _)=_;rw [if_pos (by rw [Nat.blt_eq];omega)]
@[simp] theorem zlQ {i j:Int}(h:0<j)(h2:j<1073741824):zd1 (.int i) (.int j)=some (.int (i / j)):=by
 show (if Nat.blt 0 j.toNat&&Nat.blt j.toNat 1073741824 then _ else _)=_;rw [if_pos (by rw [Bool.and_eq_true,Nat.blt_eq,Nat.blt_eq];omega)]
@[simp] theorem zmZ (ds:List D):gLen [.lst ds]=some (.int ds.length):=rfl
@[simp] theorem gLen_tup (ds:List D):gLen [.tup ds]=some (.int ds.length):=rfl
@[simp] theorem gLen_scr (ns:List Int):gLen [.scr ns]=some (.int ns.length):=rfl
@[simp] theorem zkG (i j:Int):zg7 [.int i,.int j]=some (.int (if j<i then j else i)):=rfl
@[simp] theorem zqF (ds:List D):zcT [.lst ds]=some (.lst ds):=rfl
@[simp] theorem zql (ds:List D):zfQ [.lst ds]=some (.tup ds):=rfl
@[simp] theorem gIx_lst (ds:List D)(k:Int):gIx (.lst ds) (.int k)=atI ds k:=rfl
@[simp] theorem gIx_scr (ns:List Int)(k:Int):gIx (.scr ns) (.int k)=(atI ns k).map .int:=rfl
def zs8:D->Res (List Key×List D)
 | .dct ks ds=>.ok (ks,ds)
 |_=>.no
@[simp] theorem ev_iS (f:FE)(sd:SD):iS f sd=(f sd).bind fun d=>.ofO (zhq d):=rfl
@[simp] theorem zre (ds:List D):zhq (.lst ds)=some ds:=rfl
@[simp] theorem zsb (ds:List D):zhq (.tup ds)=some ds:=rfl
def zcQ:List D->Res (List D)
 | [.int j]=>if zd3 j then .ok (zbd 0 j.toNat) else .no
 |_=>.no
@[simp] theorem ev_iR1 (fr:FA)(sd:SD):iR1 fr sd=(fr sd).bind zcQ:=by
 unfold iR1;cases fr sd with
 |ok ds=>show (match ds with|[.int j]=>_|_=>_)=zcQ ds;unfold zcQ;rfl
 |ex c fs=>rfl
 |no=>rfl
theorem zbU {j:Int}(h1 : -1000000000<=j)(h2:j<=1000000000):zcQ [.int j]=.ok (zbd 0 j.toNat):=if_pos (zfm h1 h2)
theorem zhU {lo:Int}{n i:Nat}{x:D}(h:(zbd lo n)[i]? = some x):x=.int (lo+i)/\i<n:=by
 unfold zbd at h;rw [List.getElem?_map] at h;by_cases hi:i<n
 ·rw [List.getElem?_range hi] at h;exact ⟨(Zqi h).symm,hi⟩
 ·rw [List.getElem?_eq_none (by rw [List.length_range];omega)] at h;exact zqn h
theorem zes (lo:Int)(n:Nat):(zbd lo n).length=n:=by unfold zbd;rw [Zql,List.length_range]
def forT (tg:Tg)(b:FS)(ds:List D)(sd:SD):Res Out:=forD (fun x sd=>(zbl tg x sd).bind b) ds sd
@[simp] theorem ev_for (it:FA)(tg:Tg)(b:FS)(sd:SD):sFor it tg b sd=(it sd).bind fun ds=>forT tg b ds sd:=rfl
@[simp] theorem zqq (i:Nat)(d:D)(sd:SD):zbl (.one i) d sd=.ok (sd.set i (some (.val d))):=rfl
@[simp] theorem zq5 (i j:Nat)(a b:D)(sd:SD):zbl (.tup [i,j]) (.tup [a,b]) sd=.ok ((sd.set i (some (.val a))).set j (some (.val b))):=rfl
@[simp] theorem zqe (i j:Nat)(p:Int×Int)(sd:SD):zbl (.tup [i,j]) (prD p) sd=.ok ((sd.set i (some (.val (.int p.1)))).set j (some (.val (.int p.2)))):=rfl
theorem zbo {tg:Tg}{b:FS}{ds:List D}{sd:SD}(P:Nat->SD->Prop)(h0:P 0 sd)(hs:∀ (i:Nat) (x:D) (sd:SD),ds[i]? = some x->P i sd->∃ sd',(zbl tg x sd).bind b=.ok (.next sd')/\P (i+1) sd'):∃ sd',forT tg b ds sd=.ok (.next sd')/\P ds.length sd':=by
 have key:∀ (k i:Nat) (sd:SD),ds.length-i=k->i<=ds.length->P i sd->∃ sd',forT tg b (ds.drop i) sd=.ok (.next sd')/\P ds.length sd':=by
  intro k
  induction k with
  |zero =>
   intro i sd e hi p;have:i=ds.length:=by omega
   subst this;rw [List.drop_length];exact ⟨sd,rfl,p⟩
  |succ k ih =>
   intro i sd e hi p;have hlt:i<ds.length:=by omega
   rw [List.drop_eq_getElem_cons hlt];obtain ⟨sd',h1,h2⟩:=hs i ds[i] sd (Zqg hlt) p;obtain ⟨sd2,h3,h4⟩:=ih (i+1) sd' (by omega) hlt h2;refine ⟨sd2,?_,h4⟩;unfold forT forD;rw [h1];exact h3
 have:=key ds.length 0 sd (by omega) (Nat.zero_le _) h0
 rwa [List.drop_zero] at this
theorem zie {α β γ : Type}{f:α -> Res β}{k:γ -> α}{g:γ -> β}{xs:List γ}(h:∀ x∈xs,f (k x)=.ok (g x)):mapD f (xs.map k)=.ok (xs.map g):=by
 induction xs with
 |nil=>rfl
 |cons x xs ih =>
  rw [List.map_cons];unfold mapD;rw [h x Zqs,ih fun y hy=>h y (Zqm _ hy)];rfl
def mapE (tg:Tg)(f:FE)(c:SD)(ds:List D):Res (List D):=mapD (fun x=>(zbl tg x c).bind f) ds
@[simp] theorem ev_comp (cap:List (Option Nat))(it:FA)(tg:Tg)(f:FE)(sd:SD):zbX cap it tg f sd=(it sd).bind fun ds=>if zdk (capD cap sd) tg=true/\ds.length<sizeLine then (mapE tg f (capD cap sd) ds).bind fun ys=>.ok (.lst ys) else .no:=rfl
def capV:Option (Option SV)->Option SV
 |some (some (.val d))=>some (.val d)
 |_=>none
@[simp] theorem capV_val (d:D):capV (some (some (.val d)))=some (.val d):=rfl
@[simp] theorem capD_nil (sd:SD):capD [] sd=[]:=rfl
@[simp] theorem capD_n (cap:List (Option Nat))(sd:SD):capD (none::cap) sd=none::capD cap sd:=rfl
@[simp] theorem capD_s (j:Nat)(cap:List (Option Nat))(sd:SD):capD (some j::cap) sd=capV sd[j]? :: capD cap sd:=rfl
@[simp] theorem zqk (sd:SD)(i:Nat):zdk sd (.one i)=zcZ sd i:=rfl
@[simp] theorem zqd (sd:SD)(is:List Nat):zdk sd (.tup is)=is.all (zcZ sd):=rfl
@[simp] theorem noneAt_0 (sd:SD):zcZ (none::sd) 0=true:=rfl
@[simp] theorem noneAt_s (o:Option SV)(sd:SD)(i:Nat):zcZ (o::sd) (i+1)=zcZ sd i:=rfl
theorem zbq {α : Type}{tg:Tg}{f:FE}{c:SD}{k:α -> D}{g:α -> D}{xs:List α}(h:∀ x∈xs,(zbl tg (k x) c).bind f=.ok (g x)):mapE tg f c (xs.map k)=.ok (xs.map g):=zie h
theorem zeQ {tg:Tg}{f:FE}{c:SD}{lo:Int}{n:Nat}{g:Nat->D}(h:∀ i,i<n->(zbl tg (.int (lo+i)) c).bind f=.ok (g i)):mapE tg f c (zbd lo n)=.ok ((List.range n).map g):=zie fun i hi=>h i (List.mem_range.mp hi)
@[simp] theorem zrJ (cap:List (Option Nat))(it:FA)(tg:Tg)(c:FT)(f:FE)(sd:SD):zdR cap it tg c f sd=(it sd).bind fun ds=>if zdk (capD cap sd) tg=true/\ds.length<sizeLine then (zez tg c f (capD cap sd) ds).bind fun ys=>.ok (.lst ys) else .no:=rfl
theorem zn0 {α : Type}{tg:Tg}{c:FT}{f:FE}{sd:SD}{k:α -> D}{s:α -> SD}{p:α -> Bool}{g:α -> D}{xs:List α}(h1:∀ x∈xs,zbl tg (k x) sd=.ok (s x))(h2:∀ x∈xs,c (s x)=.ok (p x))(h3:∀ x∈xs,p x=true->f (s x)=.ok (g x)) :
 zez tg c f sd (xs.map k)=.ok ((xs.filter p).map g):=by
 induction xs with
 |nil=>rfl
 |cons x xs ih =>
  have ih:=ih (fun y hy=>h1 y (Zqm _ hy)) (fun y hy=>h2 y (Zqm _ hy)) (fun y hy=>h3 y (Zqm _ hy));rw [List.map_cons,List.filter_cons];unfold zez;rw [h1 x Zqs,Res.bind_ok,h2 x Zqs,Res.bind_ok];cases q:p x with
  |true =>
   rw [if_pos rfl,if_pos rfl,h3 x Zqs q,Res.bind_ok,ih];rfl
  |false =>
   rw [if_neg (by simp),if_neg (by simp),ih]
theorem zat {n:Nat}(h:n<=1000):n<sizeLine:=zgf h
@[simp] theorem zon (i:Int):gIsi [.int i,.ty "bool"]=some (.bl false):=rfl
@[simp] theorem zo0 (i:Int):gIsi [.int i,.ty "list"]=some (.bl false):=rfl
@[simp] theorem zlS (i:Int):gIsi [.int i,.ty "tuple"]=some (.bl false):=rfl
@[simp] theorem znJ (x:Str):gIsi [.str x,.ty "bool"]=some (.bl false):=rfl
@[simp] theorem zoh (x:Str):gIsi [.str x,.ty "list"]=some (.bl false):=rfl
@[simp] theorem zms (x:Str):gIsi [.str x,.ty "tuple"]=some (.bl false):=rfl
@[simp] theorem zoa (ds:List D):gIsi [.lst ds,.ty "list"]=some (.bl true):=rfl
@[simp] theorem zn8 (ds:List D):gIsi [.lst ds,.ty "tuple"]=some (.bl false):=rfl
@[simp] theorem zoj (ds:List D):gIsi [.tup ds,.ty "list"]=some (.bl false):=rfl
@[simp] theorem zmb (ds:List D):gIsi [.tup ds,.ty "tuple"]=some (.bl true):=rfl
def zbF {α : Type}(xs:List α)(lo hi st:Option Int):List α := (sliceRange (sliceBounds lo hi st xs.length).1 (sliceBounds lo hi st xs.length).2.1 (sliceBounds lo hi st xs.length).2.2).filterMap (xs[·]?)
theorem zhB (its:List Value)(lo hi st:Option Int):slicePick its.toArray lo hi st=(zbF its lo hi st).toArray:=by
 unfold slicePick zbF;rw [List.size_toArray]
 congr 2
 funext i
 simp
theorem zjN {xs:List V}{its:List Value}(r:Vals xs its)(lo hi st:Option Int):Vals (zbF xs lo hi st) (zbF its lo hi st):=by
 unfold zbF;rw [r.length];generalize sliceRange _ _ _=ix
 induction ix with
 |nil=>exact .nil
 |cons i ix ih =>
  rw [List.filterMap_cons,List.filterMap_cons];cases hx:xs[i]? with
  |none=>rw [r.none_of hx];exact ih
  |some x =>
   obtain ⟨u,hu,ru⟩:=r.get hx;rw [hu];exact .cons ru ih
theorem zpn {K:W.Frag}{H:Hp}{ds:List D}{xs:List V}(r:IsDs K H ds xs)(lo hi st:Option Int):IsDs K H (zbF ds lo hi st) (zbF xs lo hi st):=by
 unfold zbF;rw [r.length];generalize sliceRange _ _ _=ix
 induction ix with
 |nil=>exact .nil
 |cons i ix ih =>
  rw [List.filterMap_cons,List.filterMap_cons];cases hx:ds[i]? with
  |none =>
   have hn:xs[i]? = none:=List.getElem?_eq_none_iff.mpr (by rw [r.length];exact List.getElem?_eq_none_iff.mp hx);rw [hn];exact ih
  |some x =>
   obtain ⟨u,hu,ru⟩:=r.get hx;rw [hu];exact .mk ru ih
theorem zhN {α β : Type}(f:α -> β)(xs:List α)(lo hi st:Option Int):zbF (xs.map f) lo hi st=(zbF xs lo hi st).map f:=by
 unfold zbF;rw [Zql];generalize sliceRange _ _ _=ix
 induction ix with
 |nil=>rfl
 |cons i ix ih =>
  rw [List.filterMap_cons,List.filterMap_cons,List.getElem?_map];cases xs[i]? with
  |none=>exact ih
  |some x=>show f x::_=_;rw [ih];rfl
theorem znj {α : Type}(xs:List α)(lo hi st:Option Int):(zbF xs lo hi st).length<=xs.length:=by
 have h:=slicePick_size_le (xs.map fun _=>Value.none).toArray lo hi st;rw [zhB,List.size_toArray,List.size_toArray,zhN,Zql,Zql] at h;exact h
section
variable {X:Cx}{E:XK}{m:Option Bool}{a b o i e f tg:Expr}{fa fb fo fi fv fe:FE}{fr:FA}{pos pos' apos cpos p p2:Pos}{lo hi st:Option Expr}
abbrev FO:=SD->Res (Option Int)
def tDO (K:W.Frag)(E:XK)(f:FO):TO:=fun σ H Q=>∃ B F sd,RS K B F H sd σ /\ (f sd).need (fun o=>∀ F' H',Ext F H F' H'->Q o H') (XW K E F H)
def zcD:FO:=fun _=>.ok none
def ziG (f:FE):FO:=fun sd=>(f sd).bind fun d=>match d with
 | .int i=>.ok (some i)
 |_=>.no
abbrev QO (X:Cx)(E:XK)(e:Option Expr)(f:FO):Prop:=PO X e (tDO X.K E f)
theorem PO.weak {e:Option Expr}{t t':TO}(h:PO X e t)(w:∀ σ H Q,t' σ H Q->t σ H Q):PO X e t':=fun pins s σ H Q I q=>h pins s σ H Q I (w _ _ _ q)
theorem zdI:QO X E none zcD:=PO.weak zoE fun σ H Q ⟨B,F,sd,r,n⟩=>n F H (.refl r.ext.fh)
theorem zgP (h:QE X E e fe):QO X E (some e) (ziG fe):=PO.weak (zo8 h) fun σ H Q ⟨B,F,sd,r,n⟩=>by
 refine ⟨B,F,sd,r,(Res.need_bind n).mono (fun d n1 v F1 H1 e1 i1=>?_) fun _ _ q=>q⟩;cases d with
 |int i=>exact ⟨i,IsD.int_iff.mp i1,n1 F1 H1 e1⟩
 |_=>exact n1.elim
def rSl3 (K:W.Frag):V->Option Int->Option Int->Option Int->Hp->VK->Prop:=fun x lo hi st H Q=>∃ a xs,x=.ref a/\SqL K H a xs/\st≠some 0/\∀ p,H p=none->Q (.ref p) (upd H p (.lst (zbF xs lo hi st)))
def tSl3 (r:V->Option Int->Option Int->Option Int->Hp->VK->Prop)(te:TE)(tl th ts:TO):TE:=fun σ H Q=>te σ H fun x H1=>tl σ H1 fun l H2=>th σ H2 fun u H3=>ts σ H3 fun c H4=>r x l u c H4 Q
theorem zjr {te:TE}{tl th ts:TO}(he:PE X e te)(hl:PO X lo tl)(hu:PO X hi th)(hs:PO X st ts):PE X (.Subscript e (.Slice lo hi st p2) pos) (tSl3 (rSl3 X.K) te tl th ts):=by
 intro pins s σ H Q I h;refine Subscript_ (thn (he pins s σ H _ I h) fun v s1 ⟨x,H1,I1,r1,q1⟩=>?_);refine wpAny_Slice (thn (hl pins s1 σ H1 _ I1 q1) fun vl s2 ⟨l,H2,I2,pl,q2⟩=>thn (hu pins s2 σ H2 _ I2 q2) fun vu s3 ⟨u,H3,I3,pu,q3⟩=>thn (hs pins s3 σ H3 _ I3 q3) fun vs s4 ⟨c,H4,I4,ps,q4⟩=>?_);obtain ⟨a,xs,rfl,hx,h0,q⟩:=q4;obtain rfl:v=Value.ref a:=r1;have I5:Inv X pins σ H4 { s4 with heap:=s4.heap.push { cls:=.type "slice",data:=.fields #[vl,vu,vs] } }:=I4.kept (t':=s4.toks) fun b ob q=>Heap.get?_push_of_some _ q;obtain ⟨its,r,ht,hz⟩:=I5.list hx;have hlen:=r.length;show wpAny (model X.prog X.w) X.A (subscriptTail e (.Slice lo hi st p2) (.ref a) (.ref s4.heap.objs.size)) (EP X pins σ Q) X.xe { s4 with heap:=s4.heap.push { cls:=.type "slice",data:=.fields #[vl,vu,vs] } }
 suffices fin:wpAny (model X.prog X.w) X.A (getItem (.ref a) (.ref s4.heap.objs.size)) (EP X pins σ Q) X.xe { s4 with heap:=s4.heap.push { cls:=.type "slice",data:=.fields #[vl,vu,vs] } } by
  cases st with
  |none=>exact tail_any (ops:=[.ref s4.heap.objs.size,.ref a]) ht.isList.typeIs slot_list_getitem.lookup fin (by with_unfolding_all rfl)
  |some c=>exact tail_any (ops:=[.ref a,.ref s4.heap.objs.size]) ht.isList.typeIs slot_list_getitem.lookup fin (by with_unfolding_all rfl)
 refine wpAny_getItem_list_slice ht.isList (Heap.IsSliceOf.new ..) pl pu ps h0 ?_ (by rw [List.size_toArray]<;>omega);rw [zhB];refine ⟨.ref _,_,I5.laid (t':=s4.toks) (o:=.lst (zbF xs l u c)) (fun b ob q=>Heap.get?_push_of_some _ q) (Nat.le_refl _) ?_,rfl,q _ (I5.hok.fresh (Nat.le_refl _))⟩;exact ⟨Nat.le_trans (znj xs l u c) hz,_,0,zjN r l u c,Heap.get?_push_size _ rfl⟩
def gSl:D->Option Int->Option Int->Option Int->Option D
 | .lst ds,lo,hi,st=>if st=some 0 then none else some (.lst (zbF ds lo hi st))
 | .scr ns,lo,hi,st=>if st=some 0 then none else some (.lst ((zbF ns lo hi st).map .int))
 |_,_,_,_=>none
def dSl (fe:FE)(fl fh fs:FO):FE:=fun sd=>(fe sd).bind fun d=>(fl sd).bind fun l=>(fh sd).bind fun h=>(fs sd).bind fun c=>.ofO (gSl d l h c)
theorem zjw {fl fh fs:FO}(he:QE X E e fe)(hl:QO X E lo fl)(hu:QO X E hi fh)(hs:QO X E st fs):QN X E (.Subscript e (.Slice lo hi st p2) pos) (dSl fe fl fh fs):=PE.weak (zjr he hl hu hs) fun σ H Q ⟨B,F,sd,r,n⟩=>by
 refine ⟨B,F,sd,r,(Res.need_bind n).mono (fun d n1 v F1 H1 e1 i1=>?_) fun _ _ q=>q⟩;refine ⟨B,F1,sd,r.step e1,(Res.need_bind n1).mono (fun l n2 F2 H2 e2=>?_) fun _ _ q=>q.ext e1⟩;refine ⟨B,F2,sd,(r.step e1).step e2,(Res.need_bind n2).mono (fun h n3 F3 H3 e3=>?_) fun _ _ q=>q.ext (e1.trans e2)⟩;refine ⟨B,F3,sd,((r.step e1).step e2).step e3,(Res.need_bind n3).mono (fun c n4 F4 H4 e4=>?_) fun _ _ q=>q.ext ((e1.trans e2).trans e3)⟩;obtain ⟨z,hz,q⟩:=Res.need_ofO n4;have e14:=((e2.trans e3).trans e4);have eA:=e1.trans e14;cases d with
 |lst ds =>
  have hz:(if c=some 0 then none else some (D.lst (zbF ds l h c)))=some z:=hz
  split at hz
  ·exact zqn hz
  ·rename_i h0;obtain rfl:=Zqi hz;rw [IsD.lst_iff] at i1;obtain ⟨a,xs,rfl,h1,h2⟩:=i1;exact ⟨a,xs,rfl,((h1.same e14.ff).same e14.fh).sq,h0,fun p hp=>q p F4 _ (eA.trans (.keep e4.fh hp _)) (zas eA.hh hp) (zas e4.fh hp) ⟨_,zai,zpn (IsDs.same e14.ff _ _ h2) l h c⟩⟩
 |scr ns =>
  have hz:(if c=some 0 then none else some (D.lst ((zbF ns l h c).map .int)))=some z:=hz
  split at hz
  ·exact zqn hz
  ·rename_i h0;obtain rfl:=Zqi hz;rw [IsD.scr_iff] at i1;obtain ⟨a,rfl,h1⟩:=i1;refine ⟨a,_,rfl,Same.seq e14.fh (Same.seq e14.ff h1),h0,fun p hp=>q p F4 _ (eA.trans (.keep e4.fh hp _)) (zas eA.hh hp) (zas e4.fh hp) ⟨_,zai,?_⟩⟩;rw [zhN];exact IsDs.ints _
 |_=>exact zqn hz
@[simp] theorem ev_sl (fe:FE)(fl fh fs:FO)(sd:SD):dSl fe fl fh fs sd=(fe sd).bind fun d=>(fl sd).bind fun l=>(fh sd).bind fun h=>(fs sd).bind fun c=>.ofO (gSl d l h c):=rfl
@[simp] theorem zrk (sd:SD):zcD sd=.ok none:=rfl
def znR:D->Res (Option Int)
 | .int i=>.ok (some i)
 |_=>.no
@[simp] theorem zqh (i:Int):znR (.int i)=.ok (some i):=rfl
@[simp] theorem ev_part (f:FE)(sd:SD):ziG f sd=(f sd).bind znR:=by
 unfold ziG;cases f sd with
 |ok d=>cases d<;>rfl
 |ex c fs=>rfl
 |no=>rfl
@[simp] theorem gSl_lst0 (ds:List D)(lo hi:Option Int):gSl (.lst ds) lo hi none=some (.lst (zbF ds lo hi none)):=rfl
end
end L2.DL
namespace L2
section
variable {X:Cx}
theorem zlw (hc:X.calm=true):zaN X (.builtin "sum") (fun xs H Q=>∃ (a:Addr) (ns:List Int),xs=[.ref a]/\SqL X.K H a (ns.map V.int)/\Q (.int ns.sum) H):=by
 intro pins s σ H xs us Q I r h;obtain ⟨a,ns,rfl,hl,q⟩:=h;obtain ⟨u,rfl,ru⟩:=zcF r;obtain rfl:u=Value.ref a:=ru;obtain ⟨its,rv,p,hz⟩:=I.list hl;have hi:IntsAre its ns:=ziV rv;obtain ⟨ys,e⟩:=hi.allInts.items;have hns:ns=ys.toList.map (·.1):=by
  rw [<- hi.numsOf,<- nums_intItems,<- e]
 have hl':=p.isList;rw [e] at hl';refine sum_intListG (I.ok.hd hc) hl' fun h' tk t' hk=>?_;refine ⟨.int ns.sum,H,I.kept hk,⟨t',?_⟩,q⟩;rw [preSum_eq,List.take_of_length_le (by simp),<- hns]
theorem zlR {bs:List Bool}{its:List Value}(r:Vals (bs.map V.bl) its)(i:Nat)(v:Value)(h:its.toArray[i]? = some v):v=.bool (bs.getD i false):=by
 have h':its[i]? = some v:=by simpa using h
 have hi:i<its.length:=(List.getElem?_eq_some_iff.mp h').1;have hl:=r.length;rw [Zql] at hl;have hb:bs[i]? = some bs[i]:=Zqg (by omega);obtain ⟨u,hu,ru⟩:=r.get (i:=i) (x:=.bl bs[i]) (by rw [List.getElem?_map,hb];rfl);rw [h'] at hu;obtain rfl:=Zqi hu;rw [show v=Value.bool bs[i] from ru,List.getD_eq_getElem?_getD,hb];rfl
theorem zlz (bs:List Bool):(List.range bs.length).all (fun i=>bs.getD i false)=bs.all id:=by
 apply Bool.eq_iff_iff.mpr;rw [List.all_eq_true,List.all_eq_true];constructor
 ·intro h b hb;obtain ⟨i,hi,rfl⟩:=List.getElem_of_mem hb;have:=h i (List.mem_range.mpr hi);rw [List.getD_eq_getElem?_getD,Zqg hi] at this;exact this
 ·intro h i hi;have hi:=List.mem_range.mp hi;rw [List.getD_eq_getElem?_getD,Zqg hi];exact h _ (List.getElem_mem hi)
theorem zla (hc:X.calm=true):zaN X (.builtin "all") (fun xs H Q=>∃ (a:Addr) (bs:List Bool),xs=[.ref a]/\SqL X.K H a (bs.map V.bl)/\Q (.bl (bs.all id)) H):=by
 intro pins s σ H xs us Q I r h;obtain ⟨a,bs,rfl,hl,q⟩:=h;obtain ⟨u,rfl,ru⟩:=zcF r;obtain rfl:u=Value.ref a:=ru;obtain ⟨its,rv,p,hz⟩:=I.list hl;have hlt:a<s.heap.objs.size:=by obtain ⟨_,e,_⟩:=p.isList;exact Heap.lt_size e
 have hlen:=rv.length;rw [Zql] at hlen;refine call_all_walk (wpAny_pyIter_list p.isList ⟨_,_,_,_,_,_,fun i=>bs.getD i false,rfl,Walks.list (A:=X.A.in1) (I.ok.hd hc) s.heap.objs.size a (Nat.ne_of_lt hlt) its.toArray,⟨⟨_,Heap.get?_push_size _ rfl,rfl,rfl⟩,p.isList.push _⟩,?_,fun h' tk hk=>?_⟩)
 ·intro i v s' Q' E' hP hQ;have hv:=zlR rv i v hP;subst hv;exact wpAny_of_eq rfl hQ
 ·rw [List.size_toArray,<- hlen,zlz];refine ⟨.bl _,H,I.kept (t':=tk) fun b o e=>hk b o ?_ (Heap.get?_push_of_some _ e),rfl,q⟩;intro hm;have e':=List.mem_singleton.mp hm;rw [e'] at e;exact Nat.lt_irrefl _ (Heap.lt_size e)
theorem zm9:OpR X (binaryOp .Add) (fun x y H Q=>∃ a b ys,x=.ref a/\y=.ref b/\SqT X.K H a []/\SqT X.K H b ys/\Q (.ref b) H):=by
 intro pins s σ H x y v u Q I rx ry h;obtain ⟨a,b,ys,rfl,rfl,ha,hb,q⟩:=h;obtain rfl:v=Value.ref a:=rx;obtain rfl:u=Value.ref b:=ry;obtain ⟨its,r1,p1,_⟩:=I.tuple ha;obtain ⟨its2,r2,p2,_⟩:=I.tuple hb;have e0:its=[]:=r1.nil_iff.mpr rfl;subst e0;obtain ⟨⟨cls,dd,data,sl⟩,ho,hc,n,hd⟩:=id p1;obtain ⟨⟨cls2,dd2,data2,sl2⟩,ho2,hc2,n2,hd2⟩:=id p2;simp only at hc hd hc2 hd2;subst hc hd hc2 hd2;exact concat_meets ⟨_,ho,rfl⟩ ⟨_,ho2,rfl⟩ noFill_tuple_add seq_tuple_add PySem.F.slot_tuple_add PySem.F.entry_tuple_add (PySem.F.args_tuple_add_2 _ _)
  (tuple_addW0 a b #[] its2.toArray n n2 dd dd2 sl sl2 rfl) ⟨ho,ho2,.ref b,H,I,rfl,q⟩
end
end L2
namespace L2.DL
def blOf:D->Option Bool
 | .bl i=>some i
 |_=>none
theorem zmM {d:D}{i:Bool}(h:blOf d=some i):d=.bl i:=by
 cases d with
 |bl j=>cases h;rfl
 |_=>exact zqn h
theorem IsDs.bls_iff {K:W.Frag}{H:Hp}:∀ {bs:List Bool} {xs:List V},IsDs K H (bs.map D.bl) xs->xs=bs.map V.bl
 | [],_,h=>IsDs.nil_iff.mp h
 |b::bs,_,h=>by
  rw [List.map_cons,IsDs.cons_iff] at h;obtain ⟨x,r,rfl,h1,h2⟩:=h;rw [IsD.bl_iff.mp h1,IsDs.bls_iff h2];rfl
def zm5:D->Option (List Bool)
 | .lst ds=>zcr blOf ds
 |_=>none
theorem znt {K:W.Frag}{H:Hp}{d:D}{ns:List Bool}{v:V}(h:zm5 d=some ns)(i:IsD K H d v):∃ a,v=.ref a/\LstD K H a (ns.map V.bl):=by
 cases d with
 |lst ds =>
  rw [IsD.lst_iff] at i;obtain ⟨a,xs,rfl,h1,h2⟩:=i;rw [zdY (fun _ _=>zmM) (show zcr blOf ds=some ns from h)] at h2;rw [IsDs.bls_iff h2] at h1;exact ⟨a,rfl,h1⟩
 |_=>exact zqn h
theorem zlx (ns:List Bool):zm5 (.lst (ns.map D.bl))=some ns:=by
 have h:=zdj (f:=blOf) (g:=D.bl) (k:=fun i:Bool=>i) (fun _=>rfl) ns;rw [List.map_id'] at h;exact h
def gSum:List D->Option D
 | [d]=>(zhL d).bind fun ns=>some (.int ns.sum)
 |_=>none
def gAll:List D->Option D
 | [d]=>(zm5 d).bind fun ns=>some (.bl (ns.all id))
 |_=>none
section
variable {X:Cx}{E:XK}{m:Option Bool}{a b o i e f tg:Expr}{fa fb fo fi fv fe:FE}{fr:FA}{pos pos' apos cpos p p2:Pos}{lo hi st:Option Expr}
theorem b_sum (hc:X.calm=true):zaN X (.builtin "sum") (rDA X.K gSum):=zaN.weak (zlw hc) fun xs H Q ⟨F,ds,z,sF,id,hz,q⟩=>by
 unfold gSum at hz
 split at hz
 ·obtain ⟨ns,h1,hz⟩:=Option.bind_eq_some_iff.mp hz;obtain rfl:=Zqi hz;obtain ⟨v,rfl,h⟩:=zcg id;obtain ⟨a,rfl,h2⟩:=zjb h1 h;exact ⟨a,ns,rfl,(h2.same sF).sq,q _ F H (.refl sF) (isI _ F)⟩
 ·exact zqn hz
theorem znh (hc:X.calm=true):zaN X (.builtin "all") (rDA X.K gAll):=zaN.weak (zla hc) fun xs H Q ⟨F,ds,z,sF,id,hz,q⟩=>by
 unfold gAll at hz
 split at hz
 ·obtain ⟨ns,h1,hz⟩:=Option.bind_eq_some_iff.mp hz;obtain rfl:=Zqi hz;obtain ⟨v,rfl,h⟩:=zcg id;obtain ⟨a,rfl,h2⟩:=znt h1 h;exact ⟨a,ns,rfl,(h2.same sF).sq,q _ F H (.refl sF) (isB _ F)⟩
 ·exact zqn hz
def zm2:D->D->Option D
 | .tup a,.tup b=>if a.length+b.length<=sizeLine then some (.tup (a++b)) else none
 |_,_=>none
theorem zqO:OpD X (binaryOp .Add) zm2:=by
 intro pins s σ H x y v u Q I rx ry ⟨F,d,e,z,sF,id,ie,hz,q⟩;cases d with
 |tup a =>
  cases e with
  |tup b =>
   have hz:(if a.length+b.length<=sizeLine then some (D.tup (a++b)) else none)=some z:=hz
   split at hz
   ·rename_i hl;obtain rfl:=Zqi hz;have id':=id;have ie':=ie;rw [IsD.tup_iff] at id ie;obtain ⟨la,xs,rfl,h1,h2⟩:=id;obtain ⟨lb,ys,rfl,h3,h4⟩:=ie;have l1:=h2.length;have l2:=h4.length;by_cases x0:xs=[]
    ·subst x0;have ea:a=[]:=List.length_eq_zero_iff.mp (by rw [<- l1];rfl);subst ea;exact zm9 pins s σ H _ _ v u Q I rx ry ⟨la,lb,ys,rfl,rfl,(h1.same sF).sq,(h3.same sF).sq,q _ F H (.refl sF) ie'⟩
    ·refine zl8 pins s σ H _ _ v u Q I rx ry ⟨la,lb,xs,ys,rfl,rfl,(h1.same sF).sq,(h3.same sF).sq,x0,by omega,fun z=>?_,fun _ p hp=>?_⟩
     ·subst z;have eb:b=[]:=List.length_eq_zero_iff.mp (by rw [<- l2];rfl);subst eb;rw [List.append_nil] at q;exact q _ F H (.refl sF) id'
     ·have ea:=Ext.alloc sF hp (.tup (xs++ys));exact q _ _ _ ea (IsD.tup_iff.mpr ⟨p,_,rfl,.of zai,(IsDs.same ea.ff _ _ h2).append (IsDs.same ea.ff _ _ h4)⟩)
   ·exact zqn hz
  |_=>exact zqn hz
 |_=>exact zqn hz
end
@[simp] theorem zki (ns:List Int):gSum [.lst (ns.map .int)]=some (.int ns.sum):=by
 show (zhL _).bind _=_;rw [zix];rfl
theorem zdC (ns:List Bool):gAll [.lst (ns.map .bl)]=some (.bl (ns.all id)):=by
 show (zm5 _).bind _=_;rw [zlx];rfl
end L2.DL
namespace L2
theorem zh6:bootBuiltins "all" = some (.builtin "all"):=boot_all
end L2
namespace L2.DL
end L2.DL
namespace L2
section
variable {X:Cx}{pins:List (Addr×Obj)}{σ : St}{H:Hp}{s:Shared}{h':Heap}
theorem Inv.turnedL {t':Nat}{ch:List Addr}(I:Inv X pins σ H s)(k:∀ b o,b∉ch->s.heap.get? b=some o->h'.get? b=some o)(hf:∀ b∈ch,FpOk X pins H b):Inv X pins σ H { s with heap:=h',toks:=t' }:=by
 have nit:∀ b u,H b=some u->b∉ch:=fun b u e z=>by rw [(hf b z).1] at e;exact zqn e
 refine I.step (g':=s.gens) (d':=s.drawn) (ch:=ch) (fun b hb=>?_) (fun b o _ _ hc e _=>k b o hc e) (fun b o _ _ hc e _=>⟨o.slots,k b o hc e⟩) (fun _ _ _ _ n=>n)
  (fun b o hc e=>⟨o,k b o hc e⟩) (fun _ _ e=>e) (fun _ _ _ e=>e) (fun b ps e=>⟨#[],by rw [e];simp⟩) (fun m hm=>?_) (fun b u e=>?_) I.bare
 ·obtain ⟨_,f1,_,f3,f4,f5⟩:=hf b hb;exact ⟨f3,f1,f4,f5⟩
 ·obtain ⟨o,es,ep,ho,r⟩:=hm;exact ⟨o,es,ep,k _ o (fun z=>(hf _ z).2.1 rfl) ho,r⟩
 ·refine (I.hok b u e).stay (fun c v hc q=>k c v ?_ q) (fun _ q=>q) fun _ _ q=>q;rcases hc with z|z
  ·rw [z];exact nit b u e
  ·exact nit c _ z
theorem FpOk.upd {b T:Addr}{o:HO}(h:FpOk X pins H b)(n:b≠T):FpOk X pins (upd H T o) b:=⟨(zaj n).trans h.1,h.2⟩
theorem Inv.paired {t':Nat}{ch:List Addr}{x y:V}{u v:Value}(I:Inv X pins σ H s)(rx:RelV x u)(ry:RelV y v)(hf:∀ b∈ch,FpOk X pins H b)(hc:∀ b∈ch,b≠s.heap.objs.size)
 (hT:h'.get? s.heap.objs.size=some { cls:=.type "tuple",data:=.seq #[u,v] }) (k:∀ b o,b∉ch->s.heap.get? b=some o->h'.get? b=some o) :
 Inv X pins σ (upd H s.heap.objs.size (.tup [x,y])) { s with heap:=h',toks:=t' }:=by
 have I1:Inv X pins σ (upd H s.heap.objs.size (.tup [x,y])) { s with heap:=s.heap.push { cls:=.type "tuple",data:=.seq #[u,v] },toks:=s.toks } :=
  I.laid (t':=s.toks) (fun b o e=>Heap.get?_push_of_some _ e) (Nat.le_refl _) ⟨⟨by simp only [sizeLine_eq,List.length_cons,List.length_nil];omega,_,Heap.get?_push_size _ rfl,rfl⟩,[u,v],.cons rx (.cons ry .nil),_,Heap.get?_push_size _ rfl,rfl,_,rfl⟩
 refine Inv.turnedL (s:={ s with heap:=s.heap.push { cls:=.type "tuple",data:=.seq #[u,v] },toks:=s.toks }) (h':=h') (t':=t') (ch:=ch) I1 (fun b o hb e=>?_) fun b hb=>(hf b hb).upd (hc b hb);have e:(s.heap.push { cls:=.type "tuple",data:=.seq #[u,v] }).get? b=some o:=e;rcases Heap.get?_push_cases e with ⟨rfl,rfl⟩|e
 ·exact hT
 ·exact k b o hb e
end
def Ite (K:W.Frag)(a:Addr):It :=
 ⟨fun i H=>∃ xs x,SqL K H a xs/\xs[i]? = some x,
  fun i H v H'=>∃ T x,v=.ref T/\H T=none/\H'=upd H T (.tup [.int i,x])/\∀ xs,SqL K H a xs->xs[i]? = some x,
  fun i H=>∃ xs,SqL K H a xs/\xs.length<=i⟩
def zqV (e it a:Addr)(i:Nat)(h:Heap):Prop:=(∃ old,IsEnum h e it i old)/\h.IsListIter it a i
theorem zje {P:Program}{w:World}{K:W.Frag}{elts:List Expr}{kx}{pos:Pos}(a e it:Addr)(hne:e≠it):Turn P w K (.Tuple elts kx pos) (Ite K a) [e,it] e (zqV e it a) where
 mem:=by simp
 obj:=fun i h st c hc=>by
  obtain ⟨⟨old,he⟩,⟨o1,e1,c1,d1⟩⟩:=st;simp only [List.mem_cons,List.not_mem_nil,or_false] at hc;rcases hc with rfl|rfl
  ·exact ⟨_,he,fun v q=>by cases q⟩
  ·exact ⟨_,e1,fun v q=>by rw [d1] at q;cases q⟩
 keep:=fun i h h' st kk=>⟨(let ⟨old,he⟩:=st.1;⟨old,kk e (by simp) _ he⟩),st.2.at fun o q=>kk it (by simp) o q⟩
 item:=by
  intro X hP hw hK hc i pins s σ H E I hf st hg;subst hP hw hK;obtain ⟨xs,x,ha,hx⟩:=hg;obtain ⟨its,rv,p,hz⟩:=I.list ha;obtain ⟨u,hu,ru⟩:=rv.get hx;obtain ⟨⟨old,he⟩,hit⟩:=id st;obtain ⟨o1,e1,_⟩:=id hit;refine wpAny_pyNext_enum_item he hit p.isList (x:=u) (by simpa using hu) hne fun h' a1 a2 a3 a4 kk=>?_;refine ⟨_,rfl,wpAny_letOwnedTupleGo_enum (s:={ s with heap:=h',toks:=s.toks+1 }) a1 fun h2 b1 sb=>?_⟩;have sb:Heap.SameBut e h' h2:=sb;have lt:∀ {c o},s.heap.get? c=some o->c≠s.heap.objs.size:=fun q=>Nat.ne_of_lt (Heap.lt_size q);have lts:∀ c ∈ [e,it],c≠s.heap.objs.size:=fun c hc=>by
   simp only [List.mem_cons,List.not_mem_nil,or_false] at hc;rcases hc with rfl|rfl
   ·exact lt he
   ·exact lt e1
  have hTe:s.heap.objs.size≠e:=fun q=>lt he q.symm;have I2:=I.paired (t':=s.toks+1) (h':=h2) (ch:=[e,it]) (x:=.int i) (u:=.int i s.toks) ⟨_,rfl⟩ ru hf lts (sb.extBut _ _ hTe a3) (fun c o hc q=>by
   simp only [List.mem_cons,List.not_mem_nil,or_false,not_or] at hc;exact sb.extBut c o hc.1 (kk c o hc.1 hc.2 q))
  refine ⟨.ref s.heap.objs.size,_,I2,rfl,⟨_,x,rfl,I.hok.fresh (Nat.le_refl _),rfl,fun zs hq=>by rw [I.list_inj hq ha];exact hx⟩,⟨⟨u,?_⟩,a2.extBut sb.extBut (Ne.symm hne)⟩,fun c hc=>(zaj (lts c hc)).trans (hf c hc).1⟩;have q:(((i+1:Nat)):Int)=(i:Int)+1:=by omega
  rw [q];exact b1
 done:=by
  intro X hP hw hK hc i pins s σ H E I hf st hg;subst hP hw hK;obtain ⟨xs,ha,hx⟩:=hg;obtain ⟨its,rv,p,hz⟩:=I.list ha;have l1:=rv.length;obtain ⟨⟨old,he⟩,hit⟩:=id st;refine wpAny_pyNext_enum_end (I.ok.hd hc) he hit p.isList (by simp;omega) fun h' eb=>⟨rfl,I.turnedL (t':=s.toks) (ch:=[it]) (fun c o hc q=>?_) fun c hc=>hf c ?_⟩
  ·exact eb c o (fun z=>hc (by simp [z])) q
  ·have:c=it:=by simpa using hc
   subst this;simp
 self:=fun _ _ _ _ _ st h=>wpAny_pyIter_enum st.1.choose_spec h
section
variable {X:Cx}
def iEnum (K:W.Frag)(ta:TA):TI:=fun σ H R=>ta σ H fun vs H1=>∃ a,vs=[.ref a]/\(∃ xs,SqL K H1 a xs)/\R (Ite K a) H1
theorem zo5 {a:Expr}{ta:TA}{p pos:Pos}{elts:List Expr}{kx}{tp:Pos}(hg:Gl X "enumerate")(hm:X.mg "enumerate" = none)(ha:PA X [a] ta)(hs:starEach [a] X.env=[(false,eval a X.env)]:=by rfl) :
 PI X (.Tuple elts kx tp) (.Call (.Name "enumerate" p) [a] [] pos) (iEnum X.K ta):=by
 intro pins s σ H R I h;refine Call_ (zdK I hg hm (show bootBuiltins "enumerate" = some (.type "enumerate") by kernel_rfl) (PyProof.Rows.callWith_type1 (thn (ha pos pins s σ H _ I h) fun us s1 ⟨vs,H1,I1,r1,q1⟩=>?_) hs rfl));obtain ⟨a,e,⟨xs,h1⟩,q⟩:=q1;subst e;cases r1 with
 |cons r rr =>
  cases rr;cases r;obtain ⟨its,rv,p,hz⟩:=I1.list h1;refine call_enumerate_list p.isList fun h' z1 z2 z3 kk=>wpAny_pyIter_enum z1 ?_;refine ⟨s1.heap.objs.size+1,[s1.heap.objs.size+1,s1.heap.objs.size],_,_,H1,rfl,I1.kept (t':=s1.toks) kk,zje a (s1.heap.objs.size+1) s1.heap.objs.size (Nat.succ_ne_self _),⟨⟨_,z1⟩,z2⟩,fun c hc=>?_,q⟩;have hc':s1.heap.objs.size<=c:=by
   simp only [List.mem_cons,List.not_mem_nil,or_false] at hc;rcases hc with rfl|rfl<;>first|exact Nat.le_refl _|exact Nat.le_add_right _ _
  exact I1.fpOk hc' (I1.hok.fresh hc')
end
end L2
namespace L2.DL
theorem zh9 {K:W.Frag}{F:Hp}{d:D}{ds:List D}{v:V}(h:zmz d=some ds)(i:IsD K F d v):∃ a xs,v=.ref a/\SqL K F a xs/\IsDs K F ds xs:=by
 cases d with
 |lst es =>
  obtain rfl:=Zqi h;rw [IsD.lst_iff] at i;obtain ⟨a,xs,rfl,h1,h2⟩:=i;exact ⟨a,xs,rfl,h1.sq,h2⟩
 |scr ns =>
  obtain rfl:=Zqi h;rw [IsD.scr_iff] at i;obtain ⟨a,rfl,h1⟩:=i;exact ⟨a,_,rfl,h1,IsDs.ints ns⟩
 |_=>exact zqn h
def zew (xs:List D):List D:=List.zipWith (fun (k:Nat) x=>D.tup [.int k,x]) (List.range xs.length) xs
def zmk:List D->Res (List D)
 | [d]=>(Res.ofO (zmz d)).bind fun xs=>.ok (zew xs)
 |_=>.no
def iEn (fr:FA):FA:=fun sd=>(fr sd).bind zmk
@[simp] theorem ev_iEn (fr:FA)(sd:SD):iEn fr sd=(fr sd).bind zmk:=rfl
@[simp] theorem zqw (xs:List D):zmk [.lst xs]=.ok (zew xs):=rfl
theorem zhy (ds:List D)(i:Nat):(zew ds)[i]? = ds[i]?.map fun x=>D.tup [.int i,x]:=by
 unfold zew;rw [List.getElem?_zipWith];by_cases h:i<ds.length
 ·rw [List.getElem?_range h,Zqg h];rfl
 ·rw [List.getElem?_eq_none (show ds.length<=i by omega)];cases (List.range ds.length)[i]?<;>rfl
theorem zlB (ds:List D):(zew ds).length=ds.length:=by unfold zew;rw [List.length_zipWith,List.length_range,Nat.min_self]
theorem zjp {K:W.Frag}{F1:Hp}{a:Addr}{ds:List D}{xs:List V}(q1:SqL K F1 a xs)(i1:IsDs K F1 ds xs):Walk K F1 (Ite K a) (zew ds):=fun i F2 H2 s1 s2=>by
 have p1:=Same.seq s2 (Same.seq s1 q1);have l1:=i1.length;rw [zlB];refine ⟨fun hi=>?_,fun hi=>⟨xs,p1,by omega⟩⟩;obtain ⟨x,hx,ix⟩:=i1.get (Zqg hi);refine ⟨⟨xs,x,p1,hx⟩,fun v H3 yl=>?_⟩;obtain ⟨T,x',rfl,hT,rfl,f1⟩:=yl;have ex:=f1 xs p1;rw [hx] at ex;obtain rfl:=Zqi ex;have ea:=Ext.alloc s2 hT (.tup [.int i,x]);refine ⟨.tup [.int i,ds[i]],_,?_,ea,IsD.tup_iff.mpr ⟨T,_,rfl,.of zai,.mk (IsD.int_iff.mpr rfl) (.mk (IsD.same (s1.trans ea.ff) _ _ ix) .nil)⟩⟩;rw [zhy,Zqg hi];rfl
section
variable {X:Cx}{E:XK}{fr:FA}{p pos tp:Pos}{elts:List Expr}
theorem zo3 {a:Expr}{kx}(hg:Gl X "enumerate")(hm:X.mg "enumerate" = none)(ha:QA X E [a] fr)(hs:starEach [a] X.env=[(false,eval a X.env)]:=by rfl):QI X E (.Tuple elts kx tp) (.Call (.Name "enumerate" p) [a] [] pos) (iEn fr):=PI.weak (zo5 hg hm ha hs) fun σ H R ⟨B,F,sd,r,n⟩=>by
 refine ⟨B,F,sd,r,(Res.need_bind n).mono (fun ds n1 vs F1 H1 e1 i1=>?_) fun _ _ q=>q⟩;unfold zmk at n1
 split at n1
 ·obtain ⟨xs,hx,n2⟩:=Res.need_ofO (Res.need_bind n1);obtain ⟨v,rfl,h⟩:=zcg i1;obtain ⟨la,us,rfl,g1,g2⟩:=zh9 hx h;exact ⟨la,rfl,⟨_,Same.seq e1.fh g1⟩,n2 _ F1 H1 e1 (zjp g1 g2)⟩
 ·exact n1.elim
def gAbs:List D->Option D
 | [.int i]=>some (.int (if i<0 then -i else i))
 |_=>none
@[simp] theorem gAbs_int (i:Int):gAbs [.int i]=some (.int (if i<0 then -i else i)):=rfl
theorem b_abs:zaN X (.builtin "abs") (rDA X.K gAbs):=zaN.weak zn5 fun xs H Q ⟨F,ds,z,sF,id,hz,q⟩=>by
 unfold gAbs at hz
 split at hz
 ·obtain rfl:=Zqi hz;obtain ⟨v,rfl,h⟩:=zcg id;exact ⟨_,by rw [IsD.int_iff.mp h],q _ F H (.refl sF) (isI _ F)⟩
 ·exact zqn hz
theorem zrm:bootBuiltins "abs" = some (.builtin "abs"):=by kernel_rfl
end
end L2.DL
namespace L2.ST
open PySem
def zoL (t:SetTable):Nat->SetTable.Probe->SetTable.Probe
 | 0,p=>p
 |n+1,p=>zoL t n (t.advance p)
open PySem
def UpA (xs:Array Nat):Prop:=∀ i j,i<j->j<xs.size->xs.getD i 0<xs.getD j 0
def occ (t:SetTable)(j:Nat):Prop:=∃ i,i<t.place.size/\t.place.getD i 0=j
def Way (t:SetTable)(o:Nat->Prop)(x:Int)(y:Nat):Prop:=∃ n,(zoL t n (t.probeStart x)).j=y/\∀ m,m<n->o (zoL t m (t.probeStart x)).j
structure TabOk (t:SetTable)(hs:Array Int):Prop where
 size:t.place.size=hs.size
 up:UpA t.place
 le:∀ i,i<t.place.size->t.place.getD i 0<=t.mask
 nod:t.dummies = #[]
 pow:∃ k,t.mask+1=2 ^ k
 room:t.place.size<=t.mask
 ways:∀ i,i<t.place.size->Way t (occ t) (hs.getD i 0) (t.place.getD i 0)
open PySem
structure SetIs (hp:Heap)(a:Addr)(es:Array (Int×Value))(t:SetTable):Prop where
 at_:∃ ep,hp.get? a=some { cls:=.type "set",dict:=none,data:=.set es ep t,slots:=#[] }
 tab:TabOk t (es.map (·.1))
 seven:7<=t.mask
 most:t.mask<=8*es.size+7
 room:es.size*5<t.mask*3
 refs:∀ i (hi:i<es.size),∃ b,es[i].2=.ref b
variable {prog:Program}{w:World}{A:Around}{E:Value->Shared->Prop}{s:Shared}
def Holds (hsh:Value->Int)(hp:Heap)(S:Addr)(ld:Bool)(D:List Value):Prop:=∃ es t,SetIs hp S es t/\es.toList.Perm (D.map fun v=>(hsh v,v))/\t.led=ld/\t.plain=true
section
variable {prog:Program}{w:World}{A:Around}{E:Value->Shared->Prop}{s:Shared}
end
section
variable {prog:Program}{w:World}{A:Around}{E:Value->Shared->Prop}{s:Shared}
def ledW (w:World):Bool:=!w.params.followText "set-order"
theorem zgh (a:Value){Q₁:Value->Shared->Prop}
 (h:Q₁ (.ref s.heap.objs.size) { s with heap:=s.heap.push { cls:=.type "set",dict:=none,data:=.set #[] 0 (.fresh 0 0 (ledW w)) } }) :
 codeAny (model prog w) A (.call (.builtin "set.__new__") ⟨[.type "set",a],[]⟩) (wants Q₁ E) s:=by
 refine codeAny_of_tree ?_;show wpAny _ A.in1 (do checkBuiltinCall "set.__new__" ⟨[.type "set",a],[]⟩;again (.builtin "set.__new__" ⟨[.type "set",a],[]⟩)) _ _ s;refine wpAny_bind (wpAny_of_eq (F.newCall_set_1 a) (wpAny_pure ⟨plainId_quiet F.plain_set_new _,codeAny_builtin F.entry_set_new ?_⟩));rw [Around.under_plainId F.plain_set_new _];unfold Builtin.«set.__new__» Builtin.Frozenset.newClass;have hsub:=sub_set_self;obtain ⟨hp,g,d,tk,os⟩:=s;dsimp only
 wp_walk
 refine wpAny_askSetting (wpAny_pure ?_);dsimp only;simp only [newObj];refine wpAny_bind (wpAny_alloc (wpAny_pure ?_));exact wpAny_pure h
end
section
variable {X:Cx}
end
end L2.ST
namespace L2.DL
open PySem PySem.Spec PyProof.Rows L2.ST
section
variable {X:Cx}{E:XK}{fr:FA}{es:List Expr}{e:Expr}
end
theorem bt_set:bootBuiltins "set" = some (.type "set"):=by kernel_rfl
end L2.DL
namespace L2
section
variable {P:Program}{w:World}{K:W.Frag}{mg:Str->Option Value}{base:Heap}{N:List Str}{qual:Str}{scope:Scope}{f:Addr}{cd:Value}{A:Around}{outer:List Env}{s:Shared}{H:Hp}{E:XK}
end
section
variable {X:Cx}{E:XK}{name:Str}{k:Nat}{ps:List Str}{sp:Sp}{p pos:Pos}{e:Expr}{es:List Expr}{t:TA}
end
end L2
namespace L2.DL
def Res.strict {α : Type}:Res α -> Res α
 | .ok a=>.ok a
 |_=>.no
@[simp] theorem Res.strict_ok {α : Type}(a:α):(Res.ok a).strict=.ok a:=rfl
theorem Res.need_strict {α : Type}{r:Res α}{p:α -> Prop}{q q':Str->List D->Prop}(h:r.strict.need p q):r.need p q':=by
 cases r with
 |ok a=>exact h
 |ex c fs=>exact h.elim
 |no=>exact h
section
variable {X:Cx}{E:XK}{name:Str}{k:Nat}{ps:List Str}{Fn:List D->Res D}{p pos:Pos}{e:Expr}{es:List Expr}{fr:FA}
end
section
variable {P:Program}{w:World}{K:W.Frag}{mg:Str->Option Value}{base:Heap}{x qual:Str}{f:Addr}{fd:FuncData}{N ps:List Str}{k:Nat}{st:Stmt}
end
def zhO (g':D->D->Option D)(fc:FE)(sd:SD)(y:D):D->Res D
 | .bl true=>(fc sd).bind fun w=>.ofO (g' y w)
 | .bl false=>.ok (.bl false)
 |_=>.no
@[simp] theorem chainK_t (g':D->D->Option D)(fc:FE)(sd:SD)(y:D):zhO g' fc sd y (.bl true)=(fc sd).bind fun w=>.ofO (g' y w):=rfl
@[simp] theorem chainK_f (g':D->D->Option D)(fc:FE)(sd:SD)(y:D):zhO g' fc sd y (.bl false)=.ok (.bl false):=rfl
def zb5 (g g':D->D->Option D)(fa fb fc:FE):FE:=fun sd=>(fa sd).bind fun x=>(fb sd).bind fun y=>(Res.ofO (g x y)).bind (zhO g' fc sd y)
@[simp] theorem ev_chain (g g':D->D->Option D)(fa fb fc:FE)(sd:SD):zb5 g g' fa fb fc sd=(fa sd).bind fun x=>(fb sd).bind fun y=>(Res.ofO (g x y)).bind (zhO g' fc sd y):=rfl
section
variable {X:Cx}{E:XK}{a b c:Expr}{fa fb fc:FE}{g g':D->D->Option D}{pos:Pos}
theorem zhD {K:W.Frag}{σ : St}{H:Hp}{Q:VK}(h:tD K E (zb5 g g' fa fb fc) σ H Q):zk1 (rD2 K g) (rD2 K g') (tD K E fa) (tD K E fb) (tD K E fc) σ H Q:=by
 obtain ⟨B,F,sd,r,n⟩:=h;refine ⟨B,F,sd,r,(Res.need_bind n).mono (fun x n1 v F1 H1 e1 i1=>?_) fun _ _ q=>q⟩;refine ⟨B,F1,sd,r.step e1,(Res.need_bind n1).mono (fun y n2 w F2 H2 e2 i2=>?_) fun _ _ q=>q.ext e1⟩;obtain ⟨z,hz,n3⟩:=Res.need_ofO (Res.need_bind n2);refine ⟨F2,x,y,z,e2.fh,IsD.same e2.ff _ _ i1,i2,hz,fun v3 F3 H3 e3 i3=>?_⟩;cases z with
 |bl k =>
  refine ⟨k,IsD.bl_iff.mp i3,?_⟩;cases k with
  |true =>
   rw [if_pos rfl];refine ⟨B,F3,sd,((r.step e1).step e2).step e3,(Res.need_bind n3).mono (fun u n4 v4 F4 H4 e4 i4=>?_) fun _ _ q=>q.ext (e1.trans (e2.trans e3))⟩;obtain ⟨z',hz',q⟩:=Res.need_ofO n4;exact ⟨F4,y,u,z',e4.fh,IsD.same (e3.ff.trans e4.ff) _ _ i2,i4,hz',q.ext (e1.trans (e2.trans (e3.trans e4)))⟩
  |false =>
   rw [if_neg (by decide)];exact n3 _ F3 H3 (e1.trans (e2.trans e3)) (IsD.bl_iff.mpr rfl)
 |_=>exact n3.elim
theorem zo6 {op op':CmpOp}(ho:OpR X (compareOp op) (rD2 X.K g))(ho':OpR X (compareOp op') (rD2 X.K g'))(ha:QE X E a fa)(hb:QE X E b fb)(hc:QE X E c fc)
 (hm:lastMarks [op,op'] [b,c]=false:=by with_unfolding_all rfl):QE X E (.Compare a [op,op'] [b,c] pos) (zb5 g g' fa fb fc):=PE.weak (znn ho ho' ha hb hc hm) fun _ _ _ h=>zhD h
end
def delH (H:Hp)(l:Addr):Hp:=fun a=>if a=l then none else H a
theorem zlv {H:Hp}{l:Addr}:Same (delH H l) H:=fun a o e=>by
 unfold delH at e
 split at e
 ·exact zqn e
 ·exact e
theorem zpF {H:Hp}{l:Addr}:delH H l l=none:=by unfold delH;rw [if_pos rfl]
theorem zpc {H:Hp}{l a:Addr}(h:a≠l):delH H l a=H a:=by unfold delH;rw [if_neg h]
section
variable {P:Program}{w:World}{K:W.Frag}{mg:Str->Option Value}{base:Heap}{x qual:Str}{st:Stmt}{f:Addr}{fd:FuncData}{N ps:List Str}{k j:Nat}
end
section
variable {X:Cx}{pos:Pos}
def zpW:D->D->Option D
 | .lst a,.lst b=>if a.length+b.length<=sizeLine then some (.lst (a++b)) else none
 |_,_=>none
theorem zsl:OpDN X (binaryOp .Add) zpW:=OpR.weak zjZ fun x y H Q ⟨F,d,e,z,sF,id,ie,hz,q⟩=>by
 cases d with
 |lst a =>
  cases e with
  |lst b =>
   have hz:(if a.length+b.length<=sizeLine then some (D.lst (a++b)) else none)=some z:=hz
   split at hz
   ·rename_i hl;obtain rfl:=Zqi hz;rw [IsD.lst_iff] at id ie;obtain ⟨l,xs,rfl,h1,h2⟩:=id;obtain ⟨l',ys,rfl,h3,h4⟩:=ie;have l1:=h2.length;have l2:=h4.length;exact ⟨l,l',xs,ys,rfl,rfl,h1.same sF,h3.same sF,by omega,fun p hp=>q p F _ (.keep sF hp _) hp (zas sF hp) ⟨_,zai,h2.append h4⟩⟩
   ·exact zqn hz
  |_=>exact zqn hz
 |_=>exact zqn hz
end
end L2.DL
namespace L2
def zhm (K:W.Frag)(x:Str)(st:Stmt):Prop:=∃ f fd,W.nsIn K mainGlobals x=some (some (.ref f))/\Fun K x x st f fd
theorem zhm.callee {P:Program}{w:World}{K:W.Frag}{h base:Heap}{mg:Str->Option Value}{x:Str}{st:Stmt}{k:Nat}{ps:List Str}{sp:Sp}(X:K.In h)(G:h.Ns mainGlobals mg)(d:zhm K x st)
 (ok:∀ {f:Addr} {fd:FuncData},Fun K x x st f fd->FnOk P w K mg base CX0 k f fd ps sp)
 (hb:∀ (kV doc pm:Value) (an:Option Addr) (cdv ct:Value) (us:List Value),us.length=ps.length->bindArgs (W.fnOf x x (zdo st) (zbz st) (za3 st) .none kV doc pm an cdv ct) ⟨us,[]⟩=pure (ps.zip us)):zcS P w K mg base x k ps sp:=by
 obtain ⟨f,fd,a,F⟩:=d;exact ⟨f,fd,ok F,F.binds hb,F.kp,W.mg_of X G a⟩
end L2
namespace L2.DL
section
variable {X:Cx}{E:XK}
theorem znK {c:Str}{C:Addr}{pos:Pos}(ns:W.nsIn X.K mainGlobals c=some (some (.ref C)))(mgc:X.mg c=some (.ref C))(hg:Gl X c)(hd:(c == ("__debug__" : Str))=false:=by decide):QE X E (.Name c pos) (dC (.ucl c)) :=
 zcO (v:=.ref C) (fun pins s σ H Q I h=>zfw I hg mgc ⟨.ref C,H,I,rfl,h⟩ hd) fun F=>IsD.ucl_iff.mpr ⟨C,rfl,ns⟩
end
end L2.DL
namespace L2
def Its (x:Str):It:=⟨fun i _=>i<x.cps.size,fun i H y H'=>H'=H/\∃ c,x.cps[i]? = some c/\y=.str ⟨#[c]⟩,fun i _=>x.cps.size<=i⟩
theorem zmO {P:Program}{w:World}{K:W.Frag}{tg:Expr}(it:Addr)(x:Str)(t:Tok):Turn P w K tg (Its x) [it] it (fun i h=>h.IsStrIter it "str_ascii_iterator" x t i) where
 mem:=by simp
 obj:=fun i h st b hb=>by
  have e:b=it:=by simpa using hb
  subst e;obtain ⟨o,ho,_,hd⟩:=st;exact ⟨o,ho,fun v z=>by rw [hd] at z;cases z⟩
 keep:=fun i h h' st k=>let ⟨o,ho,r⟩:=st;⟨o,k it (by simp) o ho,r⟩
 item:=by
  intro X hP hw hK hc i pins s σ H E I hf st hg;subst hP hw hK;obtain ⟨f0,f1,f2,f3,f4,f5⟩:=hf it (by simp);have hg:i<x.cps.size:=hg;refine wpAny_pyNext_ascii_item st (c:=x.cps[i]) (by simp [hg]) fun h' st' sb=>?_;have I1:Inv X pins σ H { s with heap:=h',toks:=s.toks+1 }:=I.turned (fun b o hb e=>(sb.2 b hb).trans e) f0 f1 f3 f4 f5;obtain ⟨o,e,c,d⟩:=id st';exact ⟨_,rfl,zkd (s:={ s with heap:=h',toks:=s.toks+1 }) e c d (by decide) ⟨.str ⟨#[x.cps[i]]⟩,H,I1,⟨_,rfl⟩,⟨rfl,_,by simp [hg],rfl⟩,st',fun b hb=>(hf b hb).1⟩⟩
 done:=by
  intro X hP hw hK hc i pins s σ H E I hf st hg;subst hP hw hK;obtain ⟨f0,f1,f2,f3,f4,f5⟩:=hf it (by simp);have hg:x.cps.size<=i:=hg;exact wpAny_pyNext_ascii_end (I.ok.hd hc) st (by simp [hg]) fun h' eb=>⟨rfl,I.turned (t':=s.toks) (fun b o hb e=>eb b o hb e) f0 f1 f3 f4 f5⟩
 self:=fun _ _ _ _ _ st h=>wpAny_pyIter_striter_ascii st h
section
variable {X:Cx}{tg:Expr}
def iStrT (tl:TE):TI:=fun σ H R=>tl σ H fun y H1=>∃ x,y=.str x/\x.cps.all (· < 128)=true/\R (Its x) H1
theorem zrU {l:Expr}{tl:TE}(hl:PE X l tl):PI X tg l (iStrT tl):=by
 intro pins s σ H R I h;refine thn (hl pins s σ H _ I h) fun v s1 ⟨y,H1,I1,r1,q1⟩=>?_;obtain ⟨x,rfl,ha,q⟩:=q1;obtain ⟨t,rfl⟩:=r1;refine wpAny_pyIter_ascii ha ?_;refine ⟨s1.heap.objs.size,[s1.heap.objs.size],_,_,H1,rfl,I1.kept (t':=s1.toks) fun b o e=>Heap.get?_push_of_some _ e,zmO _ x t,⟨_,Heap.get?_push_size _ rfl,rfl,rfl⟩,fun b hb=>?_,q⟩;have e:b=s1.heap.objs.size:=by simpa using hb
 subst e;exact I1.fpOk (Nat.le_refl _) (I1.hok.fresh (Nat.le_refl _))
theorem zjq {e:Expr}{lo hi:Option Expr}{p2 pos:Pos}{te:TE}{tl th:TO}(he:PE X e te)(hl:PO X lo tl)(hu:PO X hi th) :
 PE X (.Subscript e (.Slice lo hi none p2) pos) (fun σ H Q=>te σ H fun x H1=>tl σ H1 fun l H2=>th σ H2 fun u H3=>∃ z,x=.str z/\z.length<=sizeLine/\Q (.str (Txt.slice z l u)) H3):=by
 intro pins s σ H Q I h;refine Subscript_ (thn (he pins s σ H _ I h) fun v s1 ⟨x,H1,I1,r1,q1⟩=>?_);refine wpAny_Slice (thn (hl pins s1 σ H1 _ I1 q1) fun vl s2 ⟨l,H2,I2,pl,q2⟩=>thn (hu pins s2 σ H2 _ I2 q2) fun vu s3 ⟨u,H3,I3,pu,q3⟩=>?_);obtain ⟨z,rfl,hz,q⟩:=q3;obtain ⟨t,rfl⟩:=r1;rw [evalPart_none];refine wpAny_pure ?_;have I5:Inv X pins σ H3 { s3 with heap:=s3.heap.push { cls:=.type "slice",data:=.fields #[vl,vu,.none] } }:=I3.kept (t':=s3.toks) fun b ob q=>Heap.get?_push_of_some _ q;show wpAny (model X.prog X.w) X.A (subscriptTail e (.Slice lo hi none p2) (.str z t) (.ref s3.heap.objs.size)) (EP X pins σ Q) X.xe { s3 with heap:=s3.heap.push { cls:=.type "slice",data:=.fields #[vl,vu,.none] } }
 suffices fin:wpAny (model X.prog X.w) X.A (getItem (.str z t) (.ref s3.heap.objs.size)) (EP X pins σ Q) X.xe { s3 with heap:=s3.heap.push { cls:=.type "slice",data:=.fields #[vl,vu,.none] } } by
  exact tail_any (ops:=[.ref s3.heap.objs.size,.str z t]) (typeIs_str _ z t) slot_str_getitem.lookup fin (by with_unfolding_all rfl)
 obtain ⟨l',hl'⟩:∃ l':Option (Int×Tok),vl=partValue l'/\l'.map (·.1)=l:=by
  cases pl with
  |none=>exact ⟨none,rfl,rfl⟩
  |int i t=>exact ⟨some (i,t),rfl,rfl⟩
 obtain ⟨u',hu'⟩:∃ u':Option (Int×Tok),vu=partValue u'/\u'.map (·.1)=u:=by
  cases pu with
  |none=>exact ⟨none,rfl,rfl⟩
  |int i t=>exact ⟨some (i,t),rfl,rfl⟩
 refine wpAny_getItem_str_slice (l:=l') (u:=u') (st:=none) ⟨_,Heap.get?_push_size _ rfl,rfl,by rw [hl'.1,hu'.1];rfl⟩ rfl ?_;have le:=Txt.slice_le z l u;have es:Txt.slice z l u=if ((1:Int) == 1&&(slicePicked z l' u' none).length == z.length)=true then z else ⟨((slicePicked z l' u' none).filterMap (z.cps[·]?)).toArray⟩:=by
  unfold Txt.slice slicePicked;rw [hl'.2,hu'.2];rfl
 unfold sliceMade;rw [es] at q le;by_cases c:((1:Int) == 1&&(slicePicked z l' u' none).length == z.length)=true
 ·rw [if_pos c] at q;have c':(((none:Option (Int×Tok)).map (·.1)).getD 1 == 1&&(slicePicked z l' u' none).length == z.length)=true:=c;rw [if_pos c'];exact ⟨.str z,H3,I5,⟨_,rfl⟩,q⟩
 ·rw [if_neg c] at q le;have c':¬ (((none:Option (Int×Tok)).map (·.1)).getD 1 == 1&&(slicePicked z l' u' none).length == z.length)=true:=c;rw [if_neg c'];exact ⟨by omega,.str _,H3,I5.tok _,⟨_,rfl⟩,q⟩
theorem zqS (hu:X.A.units+64<cLine)(neg:Bool):OpR X (compareOp (if neg then .NotIn else .In)) (fun x y H Q=>∃ (d:DL.D) (ws:List Str) (p:Addr),DL.IsD X.K H d x/\DL.plN 12 d=true/\(ws.map DL.D.str).all (DL.plN 12)=true/\y=.ref p/\SqT X.K H p (ws.map V.str) /\
 Q (.bl (if neg then !(ws.map DL.D.str).any (fun e=>DL.sameD e d) else (ws.map DL.D.str).any fun e=>DL.sameD e d)) H):=by
 intro pins s σ H x y v u Q I rx ry ⟨d,ws,p,id,hp,hw,hy,hq,q⟩;subst hy;obtain rfl:u=Value.ref p:=ry;obtain ⟨its,ri,pl,hl⟩:=I.tuple hq;have iw:∀ ws:List Str,DL.IsDs X.K H (ws.map DL.D.str) (ws.map V.str):=fun ws=>by
  induction ws with
  |nil=>exact .nil
  |cons w ws ih=>exact .mk (DL.IsD.str_iff.mpr rfl) ih
 obtain ⟨k1,k2⟩:=DL.any_eq (A:=X.A.in1) (by show X.A.units+1+60<cLine;omega) I.hok hp id rx hw (iw ws) ri;have ea:its.toArray.any (DL.eqTo X.K H d)=(ws.map DL.D.str).any (fun e=>DL.sameD e d):=by
  rw [show its.toArray.any (DL.eqTo X.K H d)=its.any (DL.eqTo X.K H d) by simp,DL.any_map',k1,<- DL.any_map']
 cases neg with
 |true =>
  refine SeqAt.notIn_tupleAt (DL.eqTo X.K H d) pl (fun w hw=>k2 w (by simpa using hw)) ⟨.bl _,H,I,rfl,?_⟩;rw [ea];exact q
 |false =>
  refine SeqAt.in_tupleAt (DL.eqTo X.K H d) pl (fun w hw=>k2 w (by simpa using hw)) ⟨.bl _,H,I,rfl,?_⟩;rw [ea];exact q
end
end L2
namespace L2.DL
def ascB (x:Str):Bool:=x.cps.all (· < 128)
def chD (x:Str):List D:=x.cps.toList.map fun c=>.str ⟨#[c]⟩
def iStr (f:FE):FA:=fun sd=>(f sd).bind fun d=>match d with
 | .str x=>if ascB x=true then .ok (chD x) else .no
 |_=>.no
@[simp] theorem ev_iStr (f:FE)(sd:SD):iStr f sd=(f sd).bind fun d=>match d with
 | .str x=>if ascB x=true then .ok (chD x) else .no
 |_=>.no:=rfl
def gInS (neg:Bool):D->D->Option D
 | .str c,.str x=>some (.bl (if neg then !(!(Builtin.Str.occurrences x c 0 x.length 1).isEmpty) else !(Builtin.Str.occurrences x c 0 x.length 1).isEmpty))
 |_,_=>none
theorem zdF (neg:Bool)(c:Nat)(x:Str):gInS neg (.str ⟨#[c]⟩) (.str x)=some (.bl (if neg then !decide (c∈x.cps.toList) else decide (c∈x.cps.toList))):=by
 show some (D.bl (if neg then !(!(Builtin.Str.occurrences x ⟨#[c]⟩ 0 x.length 1).isEmpty) else !(Builtin.Str.occurrences x ⟨#[c]⟩ 0 x.length 1).isEmpty))=_;rw [PySem.StrLaws.found_one]
def gSlS:D->Option Int->Option Int->Option D
 | .str x,l,u=>if x.length<=sizeLine then some (.str (Txt.slice x l u)) else none
 |_,_,_=>none
def dSlS (fe:FE)(fl fh:FO):FE:=fun sd=>(fe sd).bind fun d=>(fl sd).bind fun l=>(fh sd).bind fun h=>.ofO (gSlS d l h)
@[simp] theorem ev_slS (fe:FE)(fl fh:FO)(sd:SD):dSlS fe fl fh sd=(fe sd).bind fun d=>(fl sd).bind fun l=>(fh sd).bind fun h=>.ofO (gSlS d l h):=rfl
section
variable {X:Cx}{E:XK}{tg e a b:Expr}{fe fa fb:FE}{lo hi:Option Expr}{p2 pos p:Pos}
theorem znL (h:QE X E e fe):QI X E tg e (iStr fe):=PI.weak (zrU h) fun σ H R ⟨B,F,sd,r,n⟩=>by
 refine ⟨B,F,sd,r,(Res.need_bind n).mono (fun d n1 v F1 H1 e1 i1=>?_) fun _ _ q=>q⟩;cases d with
 |str x =>
  have n1:(if ascB x=true then Res.ok (chD x) else Res.no).need (fun ds=>∀ J F' H',Ext F H F' H'->Walk X.K F' J ds->R J H') (XW X.K E F H):=n1
  split at n1
  ·rename_i ha;have ic:∀ l:List Nat,IsDs X.K F1 (l.map fun c=>D.str ⟨#[c]⟩) (l.map fun c=>V.str ⟨#[c]⟩):=fun l=>by
    induction l with
    |nil=>exact .nil
    |cons c l ih=>exact .mk (IsD.str_iff.mpr rfl) ih
   refine ⟨x,IsD.str_iff.mp i1,ha,n1 (Its x) F1 H1 e1 (zc3 (S:=fun _=>True) (xs:=x.cps.toList.map fun c=>V.str ⟨#[c]⟩) (ic _) (fun _ _ _ _=>trivial) (fun i H y _ hy=>?_) (fun i H _ hi=>?_) fun i H y H' _ hy=>?_)⟩
   ·have:=(List.getElem?_eq_some_iff.mp hy).1;rw [Zql,Array.length_toList] at this;exact this
   ·rw [Zql,Array.length_toList] at hi;exact hi
   ·obtain ⟨h1,c,hc,h2⟩:=hy;refine ⟨h1,?_⟩;rw [List.getElem?_map,Array.getElem?_toList,hc,h2];rfl
  ·exact n1.elim
 |_=>exact n1.elim
theorem zrI (neg:Bool):OpD X (compareOp (if neg then .NotIn else .In)) (gInS neg):=by
 intro pins s σ H x y v u Q I rx ry ⟨F,d,e,z,sF,id,ie,hz,q⟩;cases d with
 |str c =>
  cases e with
  |str t =>
   obtain rfl:=Zqi hz;have e1:=IsD.str_iff.mp id;have e2:=IsD.str_iff.mp ie;cases neg with
   |true=>exact zfZ pins s σ H x y v u Q I rx ry ⟨c,t,e1,e2,q _ F H (.refl sF) (isB _ F)⟩
   |false=>exact zlK pins s σ H x y v u Q I rx ry ⟨c,t,e1,e2,q _ F H (.refl sF) (isB _ F)⟩
  |_=>exact zqn hz
 |_=>exact zqn hz
theorem zj9:OpD X (compareOp .In) (gInS false):=zrI false
theorem zqR:OpD X (compareOp .NotIn) (gInS true):=zrI true
theorem zmr {fl fh:FO}(he:QE X E e fe)(hl:QO X E lo fl)(hu:QO X E hi fh):QE X E (.Subscript e (.Slice lo hi none p2) pos) (dSlS fe fl fh):=PE.weak (zjq he hl hu) fun σ H Q ⟨B,F,sd,r,n⟩=>by
 refine ⟨B,F,sd,r,(Res.need_bind n).mono (fun d n1 v F1 H1 e1 i1=>?_) fun _ _ q=>q⟩;refine ⟨B,F1,sd,r.step e1,(Res.need_bind n1).mono (fun l n2 F2 H2 e2=>?_) fun _ _ q=>q.ext e1⟩;refine ⟨B,F2,sd,(r.step e1).step e2,(Res.need_bind n2).mono (fun h n3 F3 H3 e3=>?_) fun _ _ q=>q.ext (e1.trans e2)⟩;obtain ⟨z,hz,q⟩:=Res.need_ofO n3;cases d with
 |str x =>
  have hz:(if x.length<=sizeLine then some (D.str (Txt.slice x l h)) else none)=some z:=hz
  split at hz
  ·rename_i hx;obtain rfl:=Zqi hz;exact ⟨x,IsD.str_iff.mp i1,hx,q _ F3 H3 ((e1.trans e2).trans e3) (IsD.str_iff.mpr rfl)⟩
  ·exact zqn hz
 |_=>exact zqn hz
theorem zfx {x v:Str}{t:Tok}(hm:X.mg x=some (.str v t))(hg:Gl X x)(hd:(x == ("__debug__" : Str))=false:=by decide):QE X E (.Name x pos) (dC (.str v)):=zcO (zkX (v:=.str v) hg hm ⟨t,rfl⟩ hd) fun F=>IsD.str_iff.mpr rfl
structure KTup (K:W.Frag)(mg:Str->Option Value)(x:Str)(ws:List Str):Prop where
 ex:∃ p,mg x=some (.ref p)/\∀ H,SqT K H p (ws.map V.str)
theorem zsp {K:W.Frag}{neg:Bool}{ws:List Str}{p:Addr}{σ : St}{H:Hp}{Q:VK}(hq:∀ H,SqT K H p (ws.map V.str))(h:tD K E (dOp (gIn neg) fa (dC (.tup (ws.map .str)))) σ H Q) :
 tOp (fun x y H Q=>∃ (d:D) (ws:List Str) (p:Addr),IsD K H d x/\plN 12 d=true/\(ws.map D.str).all (plN 12)=true/\y=.ref p/\SqT K H p (ws.map V.str) /\
 Q (.bl (if neg then !(ws.map D.str).any (fun e=>sameD e d) else (ws.map D.str).any fun e=>sameD e d)) H) (tD K E fa) (tC (.ref p)) σ H Q:=by
 obtain ⟨B,F,sd,r,n⟩:=h;refine ⟨B,F,sd,r,(Res.need_bind n).mono (fun x n1 v F1 H1 e1 i1=>?_) fun _ _ q=>q⟩;have n1:(Res.ofO (gIn neg x (.tup (ws.map .str)))).need (OkD K F H Q) (XW K E F H):=n1;obtain ⟨z,hz,q⟩:=Res.need_ofO n1;have hz:(if plN 12 x&&(ws.map D.str).all (plN 12) then some (D.bl (if neg then !(ws.map D.str).any (fun e=>sameD e x) else (ws.map D.str).any fun e=>sameD e x)) else none)=some z:=hz
 split at hz
 ·rename_i hp;rw [Bool.and_eq_true] at hp;obtain rfl:=Zqi hz;exact ⟨x,ws,p,IsD.same e1.fh _ _ i1,hp.1,hp.2,rfl,hq _,q _ F1 H1 e1 (IsD.bl_iff.mpr rfl)⟩
 ·exact zqn hz
theorem zq1 {g:Str}{ws:List Str}(hu:X.A.units+64<cLine)(k:KTup X.K X.mg g ws)(hg:Gl X g)(ha:QE X E a fa)(hd:(g == ("__debug__" : Str))=false:=by decide):QT X E (.Compare a [.In] [.Name g p] pos) (zal (dOp (gIn false) fa (dC (.tup (ws.map .str))))):=by
 obtain ⟨q,hm,hs⟩:=k.ex;exact PT.weak (zf8 (zqS hu false) ha (zkX (v:=.ref q) hg hm rfl hd) rfl) fun σ H Q h=>zsp hs (zbu h)
theorem zc4 {c:Expr}{fc:FE}{g g':D->D->Option D}{op op':CmpOp}(ho:OpR X (compareOp op) (rD2 X.K g))(ho':OpR X (compareOp op') (rD2 X.K g'))(ha:QE X E a fa)(hb:QE X E b fb)(hc:QE X E c fc)
 (hm:lastMarks [op,op'] [b,c]=false:=by with_unfolding_all rfl):QT X E (.Compare a [op,op'] [b,c] pos) (zal (zb5 g g' fa fb fc)):=PT.weak (zmU ho ho' ha hb hc hm) fun _ _ _ h=>zhD (zbu h)
end
structure ClsD (K:W.Frag)(mg:Str->Option Value)(c:Str)(C:Addr)(fs:List Str):Prop where
 ns:W.nsIn K mainGlobals c=some (some (.ref C))
 mgc:mg c=some (.ref C)
 cls:Cls K C
 no:∀ f∈fs,zd0 K C f
def fldD (f:Str):List Str->List D->Option D
 |g::gs,d::ds=>if g=f then some d else fldD f gs ds
 |_,_=>none
theorem zkC {K:W.Frag}{H:Hp}{f:Str}:∀ {fs:List Str} {ds:List D} {xs:List V} {d:D},IsDs K H ds xs->fs.length=xs.length->fldD f fs ds=some d->∃ x,(fs.zip xs).lookup f=some x/\IsD K H d x
 | [],ds,xs,d,_,_,h=>by unfold fldD at h;exact zqn h
 |g::gs,[],xs,d,i,l,h=>by
  rw [IsDs.nil_iff] at i;subst i;cases l
 |g::gs,e::ds,xs,d,i,l,h=>by
  obtain ⟨x,r,rfl,i1,i2⟩:=IsDs.cons_iff.mp i;unfold fldD at h;rw [List.zip_cons_cons];by_cases q:g=f
  ·rw [if_pos q] at h;obtain rfl:=Zqi h;have hb:(f == g)=true:=beq_iff_eq.mpr q.symm;exact ⟨x,by simp only [List.lookup,hb],i1⟩
  ·rw [if_neg q] at h;obtain ⟨y,h1,h2⟩:=zkC (fs:=gs) i2 (by simpa using l) h;have hb:(f == g)=false:=beq_eq_false_iff_ne.mpr fun z=>q z.symm;exact ⟨y,by simp only [List.lookup,hb];exact h1,h2⟩
noncomputable def gFld (c f:Str):D->Option D
 | .ins c' fs ds=>if c'=c then fldD f fs ds else none
 |_=>none
section
variable {X:Cx}{E:XK}{e:Expr}{fe:FE}{pos:Pos}
theorem zaV {c f:Str}{C:Addr}{fs:List Str}(k:ClsD X.K X.mg c C fs)(hf:f∈fs)(he:QE X E e fe)(hb:attributeBase e f X.env (eval e X.env)=eval e X.env:=by rfl):QE X E (.Attribute e f pos) (dUn (gFld c f) fe):=PE.weak (zob he hb) fun σ H Q ⟨B,F,sd,r,n⟩=>by
 refine ⟨B,F,sd,r,(Res.need_bind n).mono (fun d n1 v F1 H1 e1 i1=>?_) fun _ _ q=>q⟩;obtain ⟨z,hz,q⟩:=Res.need_ofO n1;cases d with
 |ins c' gs ds =>
  have hw:(if c'=c then fldD f gs ds else none)=some z:=hz;by_cases hc:c'=c
  ·rw [if_pos hc] at hw;subst hc;obtain ⟨a,C',dx,xs,rfl,hC,hH,hl,hi⟩:=IsD.ins_iff.mp i1;rw [k.ns] at hC;cases hC;obtain ⟨x,h1,h2⟩:=zkC hi hl hw;exact ⟨a,C,dx,_,x,rfl,e1.fh _ _ hH,k.cls,k.no f hf,h1,q _ F1 H1 e1 h2⟩
  ·rw [if_neg hc] at hw;exact zqn hw
 |_=>exact zqn hz
end
theorem zft (f:Str)(v:V):∀ fs:List (Str×V),f∉fs.map (·.1)->putF f v fs=fs++[(f,v)]
 | [],_=>rfl
 | (g,x)::r,h=>by
  rw [List.map_cons,List.mem_cons,not_or] at h;show (if g=f then (g,v)::r else (g,x)::putF f v r)=_;rw [if_neg (fun z=>h.1 z.symm),zft f v r h.2];rfl
def tI (K:W.Frag)(c:Str)(names:List Str)(g:FA):TS:=fun T σ H=>∃ B F sd x C dx fs xs ds0,RS K B F H sd σ /\ (∀ (i:Nat) (p:Bool) (d:D),sd[i]? ≠ some (some (SV.own p d))) /\ σ[0]? = some (some (.ref x))/\B.H0 x=none/\F x=none/\W.nsIn K mainGlobals c=some (some (.ref C))/\H x=some (.ins C dx (fs.zip xs))/\fs.length=xs.length/\(fs++names).Nodup/\(fs++names).length<900/\IsDs K F ds0 xs /\
 (g sd).need (fun ds=>∀ F' H' xs',Ext B.F0 B.H0 F' H'->F' x=none->H' x=some (.ins C dx ((fs++names).zip xs'))->(fs++names).length=xs'.length->IsDs K F' (ds0++ds) xs'->T.nx σ H') (XW K E0 B.F0 B.H0)
section
variable {X:Cx}{o e:Expr}{fe:FE}{g:FA}{pos pos':Pos}{ss:List Stmt}{c f:Str}{C:Addr}{fs names:List Str}
theorem znG:PSs X [] (tI X.K c [] dNil):=PSs.weak zgJ fun T σ H ⟨B,F,sd,x,C,dx,fs,xs,ds0,r,no,h0,h1,h2,hC,hH,hl,hn,hm,hi,n⟩=>by
 have n:∀ F' H' xs',Ext B.F0 B.H0 F' H'->F' x=none->H' x=some (.ins C dx ((fs++[]).zip xs'))->(fs++[]).length=xs'.length->IsDs X.K F' (ds0++[]) xs'->T.nx σ H':=n;simp only [List.append_nil] at n;exact n F H xs r.ext h2 hH hl hi
theorem zf6 (k:ClsD X.K X.mg c C fs)(hf:f∈fs)(ho:PE X o (tVar 0))(he:QE X E0 e fe)(hr:PSs X ss (tI X.K c names g))(hs:swapsWith e (some (.Attribute o f pos')) pos.line X.env=pure false:=by rfl) :
 PSs X (.Assign [.Attribute o f pos'] e pos::ss) (tI X.K c (f::names) (zab fe g)):=PSs.weak (zfi (znO ho he hs) hr) fun T σ H ⟨B,F,sd,x,C',dx,gs,xs,ds0,r,no,h0,h1,h2,hC,hH,hl,hn,hm,hi,n⟩=>by
 refine ⟨B,F,sd,r,(Res.need_bind n).mono (fun d n1 v F1 H1 e1 i1=>?_) fun _ _ q=>q.ext r.ext⟩;have c1:C'=C:=by
  rw [k.ns] at hC;cases hC;rfl
 subst c1;have hH1:=e1.hh _ _ hH;have hF1:F1 x=none:=e1.new x h2 (by rw [hH];simp);have lz:(gs.zip xs).map (·.1)=gs:=by rw [List.map_fst_zip (by omega)]
 have hfn:f∉gs:=fun z=>by
  have:=(List.nodup_append.mp hn).2.2 f z f (Zqs ..);exact this rfl
 have ll:(gs.zip xs).length<1000:=by
  rw [List.length_zip];simp at hm;omega
 refine ⟨.ref x,h0,x,C',dx,_,rfl,hH1,k.cls,k.no f hf,ll,?_⟩;rw [zft f v _ (by rw [lz];exact hfn)];have ez:gs.zip xs++[(f,v)]=(gs++[f]).zip (xs++[v]):=by rw [List.zip_append hl];rfl
 rw [ez];have r1:=r.step e1;have hi1:IsDs X.K F1 (ds0++[d]) (xs++[v]):=IsDs.snoc (IsDs.same e1.ff _ _ hi) i1;refine ⟨B,F1,sd,x,C',dx,gs++[f],xs++[v],ds0++[d],⟨⟨r1.ext.ff,fun a o e=>?_,fun a o e=>?_,r1.ext.new⟩,r1.len,r1.val,fun q=>absurd q (no _ _ _),fun _ q _ _=>absurd q (no _ _ _)⟩,no,h0,h1,hF1,hC,zai,by simp [hl],by simpa using hn,by simpa using hm,hi1,(Res.need_bind n1).mono (fun ds n2 F2 H2 xs2 e2 f2 q1 q2 q3=>?_) fun _ _ q=>q⟩
 ·rw [zaj (zaC e hF1)];exact r1.ext.fh _ _ e
 ·rw [zaj (zaC e h1)];exact r1.ext.hh _ _ e
 ·exact n2 F2 H2 xs2 e2 f2 (by simpa using q1) (by simpa using q2) (by simpa using q3)
end
def SpI (K:W.Frag)(c:Str)(names:List Str)(Fn:List D->Res (List D)):Sp:=fun vs H Q _=>∃ F ds x C dx us,Same F H/\vs=.ref x::us/\IsDs K F ds us/\F x=none/\W.nsIn K mainGlobals c=some (some (.ref C))/\H x=some (.ins C dx []) /\
 (Fn ds).need (fun es=>∀ F' H' xs,Ext F (delH H x) F' H'->F' x=none->H' x=some (.ins C dx (names.zip xs))->names.length=xs.length->IsDs K F' es xs->Q .non H') (XW K E0 F (delH H x))
def runI (n ar:Nat)(g:FA)(ds:List D):Res (List D):=if ds.length+1=ar then g (none::zaS (n-1) ds) else .no
theorem RS.startI {K:W.Frag}{F H:Hp}{N:List Str}{ds:List D}{us:List V}{x:Addr}(s:Same F H)(h:IsDs K F ds us) :
 RS K ⟨F,delH H x,fun _=>none⟩ F H (none::zaS N.length ds) (some (.ref x)::L2.start N us)/\∀ (i:Nat) (p:Bool) (d:D),(none::zaS N.length ds:SD)[i]? ≠ some (some (SV.own p d)):=by
 have r0:=RS.start (N:=N) s h;have no:∀ (i:Nat) (p:Bool) (d:D),(none::zaS N.length ds:SD)[i]? ≠ some (some (SV.own p d)):=fun i p d q=>by
  cases i with
  |zero=>cases q
  |succ i =>
   obtain ⟨l,_,h2,_,h4,_⟩:=r0.own (i:=i) (p:=p) (d:=d) q;obtain ⟨o,ho⟩:=h4.has;have h2:H l=none:=h2;rw [h2] at ho;exact zqn ho
 refine ⟨⟨⟨.refl _,s,zlv,fun _ e _=>e⟩,by simp [r0.len],fun {i d} q=>?_,fun q=>absurd q (no _ _ _),fun _ q _ _=>absurd q (no _ _ _)⟩,no⟩;cases i with
 |zero=>cases q
 |succ i=>exact r0.val (i:=i) q
section
variable {P:Program}{w:World}{K:W.Frag}{mg:Str->Option Value}{base:Heap}{x qual:Str}{st:Stmt}{f:Addr}{fd:FuncData}{N ps:List Str}{k:Nat}
theorem fn_i {c y:Str}{names:List Str}{g:FA}(F:Fun K x qual st f fd)(S:FnScope (y::N) ps (za3 st))(hn:names.Nodup)(hm:names.length<900)
 (hb:∀ (cdv:Value) (A:Around) (outer:List Env) (s:Shared) (H:Hp) (E:XK),Room k (A.deeper (envOfC qual (za3 st) s.heap.objs.size f cdv))->PSs (cxOf CX0 P w K mg base (y::N) qual (za3 st) f cdv A outer s H E).nox (zbz st) (tI K c names g)) :
 FnOk P w K mg base CX0 (k+1) f fd ps (SpI K c names (runI (y::N).length ps.length g)):=by
 refine F.ok S (fun vs H Q E ⟨F,ds,x,C,dx,us,_,e,i,_,_,_,n⟩=>?_) fun cdv A outer s H vs Q E hr ⟨F,ds,x,C,dx,us,hs,e,i,hf,hC,hH,n⟩=>⟨_,hb cdv A outer s H E hr,?_⟩
 ·unfold runI at n
  split at n
  ·rename_i h;rw [e,<- h,List.length_cons,i.length]
  ·exact n.elim
 ·subst e;unfold runI at n
  split at n
  ·have es:L2.start (y::N) (.ref x::us)=some (.ref x)::L2.start N us:=by
    unfold L2.start;simp
   rw [es];obtain ⟨r,no⟩:=RS.startI (N:=N) (x:=x) hs i;exact ⟨_,F,_,x,C,dx,[],[],[],r,no,rfl,zpF,hf,hC,hH,rfl,hn,hm,.nil,n⟩
  ·exact n.elim
end
def MkD (P:Program)(w:World)(K:W.Frag)(mg:Str->Option Value)(base:Heap)(c:Str)(names:List Str)(k:Nat)(ps:List Str)(Fn:List D->Res (List D)):Prop :=
 ∃ C f fd,ClsD K mg c C names/\Mk K C f/\FnOk P w K mg base CX0 k f fd ps (SpI K c names Fn)/\zey K fd ps []
def zkz (c:Str)(names:List Str)(Fn:List D->Res (List D))(fa:FA):FE:=fun sd=>(fa sd).bind fun ds=>(Fn ds).bind fun es=>.ok (.ins c names es)
section
variable {X:Cx}{pos:Pos}
theorem zoy {c:Str}{names:List Str}{k:Nat}{ps:List Str}{Fn:List D->Res (List D)}{p:Pos}{e:Expr}{es:List Expr}{fa:FA}(M:MkD X.prog X.w X.K X.mg X.base c names k ps Fn)(hr:Room (k+1) X.A)(hg:Gl X c)(ha:QA X E0 (e::es) fa)
 (hdb:(c == ("__debug__" : Str))=false:=by decide) (he:starEach (e::es) X.env=(false,eval e X.env)::starEach es X.env:=by rfl) (hpl:(backTo pos (starEach es X.env)).any (·.1)=false:=by rfl) :
 QN X E0 (.Call (.Name c p) (e::es) [] pos) (zkz c names Fn fa):=by
 obtain ⟨C,f,fd,kd,mk,F,b⟩:=M;refine PE.weak (zlJ mk F hr hg kd.mgc b .nil zo9 ha hdb he hpl) fun σ H Q ⟨B,F,sd,r,n⟩=>?_;refine ⟨B,F,sd,r,(Res.need_bind n).mono (fun ds n1 vs F1 H1 e1 i1 x dx nx ndx ne=>?_) fun _ _ q=>q⟩;have n2:=Res.need_bind n1;have hF1:F1 x=none:=by
  cases q:F1 x with
  |none=>rfl
  |some o=>rw [e1.fh _ _ q] at nx;cases nx
 have hH0:H x=none:=by
  cases q:H x with
  |none=>rfl
  |some o=>rw [e1.hh _ _ q] at nx;cases nx
 have s1:∀ {G:Hp},Same G H1->Same G (delH (upd (upd H1 dx (.own x)) x (.ins C dx [])) x):=fun {G} s a o q=>by
  have q1:=s _ _ q;rw [zpc (zaC q1 nx),zaj (zaC q1 nx),zaj (zaC q1 ndx)];exact q1
 have s2:Same F1 (upd (upd H1 dx (.own x)) x (.ins C dx [])):=fun a o q=>by
  have q1:=e1.fh _ _ q;rw [zaj (zaC q1 nx),zaj (zaC q1 ndx)];exact q1
 have ed:Ext F H F1 (delH (upd (upd H1 dx (.own x)) x (.ins C dx [])) x):=⟨e1.ff,s1 e1.fh,s1 e1.hh,e1.new⟩;rw [List.append_nil];refine ⟨F1,ds,x,C,dx,vs,s2,rfl,i1,hF1,kd.ns,zai,n2.mono (fun es n3 F2 H2 xs e2 f2 h2 l2 i2=>⟨rfl,?_⟩) fun _ _ q=>q.ext ed⟩;exact n3 x F2 H2 (ed.trans e2) hH0 f2 ⟨C,dx,xs,kd.ns,h2,l2,i2⟩
end
def zpX (K:W.Frag)(c qual:Str)(fs:List Str)(st:Stmt):Prop:=∃ C fI fdI,W.nsIn K mainGlobals c=some (some (.ref C))/\Cls K C/\(∀ f∈fs,zd0 K C f)/\Mk K C fI/\Fun K "__init__" qual st fI fdI
def zjy (F F':Hp):Prop:=∀ a xs,F' a=some (.tup xs)->F a=some (.tup xs)
section
variable {K:W.Frag}{B:Bs}{F H F' H':Hp}{sd:SD}{σ : St}
theorem RS.frz1C {i:Nat}{p:Bool}{d:D}(r:RS K B F H sd σ)(hi:sd[i]? = some (some (.own p d))):∃ F',Same F F'/\zjy F F'/\RS K B F' H (sd.set i (some (.val d))) σ := by
 obtain ⟨l,hl,h0,hf,ho,_⟩:=r.own hi;obtain ⟨o,e⟩:=ho.has;have hil:i<sd.length:=(List.getElem?_eq_some_iff.mp hi).1;have sF:Same F (upd F l o):=zbf hf o;have nt:zjy F (upd F l o):=fun a xs q=>by
  by_cases z:a=l
  ·subst z;rw [zai] at q;obtain rfl:=Zqi q;cases d with
   |lst ds=>obtain ⟨_,h,_⟩:=ho;rw [e] at h;cases h
   |dct ks ds=>obtain ⟨_,h,_⟩:=ho;rw [e] at h;cases h
   |ins c fs ds=>obtain ⟨_,_,_,_,h,_⟩:=ho;rw [e] at h;cases h
   |_=>exact ho.elim
  ·rw [zaj z] at q;exact q
 refine ⟨upd F l o,sF,nt,⟨r.ext.ff.trans sF,fun b u q=>?_,r.ext.hh,fun a q1 q2=>?_⟩,by rw [List.length_set,r.len],fun {j x} q=>?_,fun {j p x} q=>?_,fun {j k p1 p2 d1 d2 m} n q1 q2 q3=>?_⟩
 ·by_cases z:b=l
  ·subst z;rw [zai] at q;cases q;exact e
  ·rw [zaj z] at q;exact r.ext.fh _ _ q
 ·have z:a≠l:=fun z=>q2 (by rw [z];exact h0);rw [zaj z];exact r.ext.new a q1 q2
 ·by_cases z:i=j
  ·subst z;obtain ⟨e1,_⟩:=za0 q;cases e1;exact ⟨_,hl,ho.frz e hf⟩
  ·rw [zau z] at q;obtain ⟨v,v1,v2⟩:=r.val q;exact ⟨v,v1,IsD.same sF _ _ v2⟩
 ·by_cases z:i=j
  ·subst z;obtain ⟨e1,_⟩:=za0 q;cases e1
  ·rw [zau z] at q;obtain ⟨m,m1,m2,m3,m4,m5⟩:=r.own q;have ne:m≠l:=fun e=>r.apart z hi q hl (by rw [<- e];exact m1);exact ⟨m,m1,m2,by rw [zaj ne];exact m3,m4.ext sF fun u q'=>q',m5⟩
 ·have z1:i≠j:=fun z=>by subst z;obtain ⟨e1,_⟩:=za0 q1;cases e1
  have z2:i≠k:=fun z=>by subst z;obtain ⟨e1,_⟩:=za0 q2;cases e1
  rw [zau z1] at q1;rw [zau z2] at q2;exact r.apart n q1 q2 q3
theorem RS.frzC:∀ (is:List Nat) {F:Hp} {sd:SD},RS K B F H sd σ -> ∃ F',Same F F'/\zjy F F'/\RS K B F' H (frzD is sd) σ
 | [],F,sd,r=>⟨F,.refl _,fun _ _ q=>q,r⟩
 |i::is,F,sd,r=>by
  unfold frzD
  split
  ·rename_i p d h;obtain ⟨F1,s1,t1,r1⟩:=r.frz1C h;obtain ⟨F2,s2,t2,r2⟩:=RS.frzC is r1;exact ⟨F2,s1.trans s2,fun a xs q=>t1 a xs (t2 a xs q),r2⟩
  ·exact RS.frzC is r
def zlW:D->Bool
 | .tup ds=>ds.all zec
 |d=>zec d
def zex (F H F2:Hp):Hp:=fun a=>match H a,F2 a with
 |none,some (.tup xs)=>some (.tup xs)
 |_,_=>F a
theorem IsDs.scals:∀ {ds:List D} {xs:List V},ds.all zec=true->IsDs K F ds xs->IsDs K F' ds xs
 | [],xs,_,h=>by rw [IsDs.nil_iff] at h ⊢;exact h
 |d::ds,xs,s,h=>by
  obtain ⟨x,r,rfl,h1,h2⟩:=IsDs.cons_iff.mp h;rw [List.all_cons,Bool.and_eq_true] at s;exact IsDs.cons_iff.mpr ⟨x,r,rfl,h1.scal s.1,IsDs.scals s.2 h2⟩
theorem zjT {F1 F2 H2:Hp}(s:Same F H)(s1:Same F F1)(e:Ext F1 H F2 H2):Ext F H (zex F H F2) H2:=by
 refine ⟨fun a o q=>?_,fun a o q=>?_,e.hh,fun a q1 q2=>?_⟩
 ·unfold zex;rw [s _ _ q];exact q
 ·unfold zex at q
  split at q
  ·rename_i h1 h2;obtain rfl:=Zqi q;exact e.fh _ _ h2
  ·exact e.hh _ _ (s _ _ q)
 ·unfold zex;cases h:H a with
  |none=>exact absurd h q2
  |some o=>exact q1
theorem zmm {F1 F2 H2:Hp}(s:Same F H)(s1:Same F F1)(nt:zjy F F1)(e:Ext F1 H F2 H2){d:D}{v:V}(hd:zlW d=true)(i:IsD K F2 d v):IsD K (zex F H F2) d v:=by
 cases d with
 |tup ds =>
  obtain ⟨a,xs,rfl,h1,h2⟩:=IsD.tup_iff.mp i;refine IsD.tup_iff.mpr ⟨a,xs,rfl,?_,IsDs.scals hd h2⟩;have h1:F2 a=some (.tup xs):=h1;show zex F H F2 a=some (.tup xs);unfold zex;cases h:H a with
  |none=>rw [h1]
  |some o =>
   show F a=some (.tup xs);cases q:F1 a with
   |none=>rw [e.new a q (by rw [h];simp)] at h1;exact zqn h1
   |some u =>
    have:=e.ff _ _ q;rw [h1] at this;obtain rfl:=Zqi this;exact nt _ _ q
 |_=>exact i.scal hd
theorem zfI {F1 F2 H2:Hp}(s:Same F H)(s1:Same F F1)(nt:zjy F F1)(e:Ext F1 H F2 H2):∀ {ds:List D} {xs:List V},ds.all zlW=true->IsDs K F2 ds xs->IsDs K (zex F H F2) ds xs
 | [],xs,_,h=>by rw [IsDs.nil_iff] at h ⊢;exact h
 |d::ds,xs,hd,h=>by
  obtain ⟨x,r,rfl,h1,h2⟩:=IsDs.cons_iff.mp h;rw [List.all_cons,Bool.and_eq_true] at hd;exact IsDs.cons_iff.mpr ⟨x,r,rfl,zmm s s1 nt e hd.1 h1,zfI s s1 nt e hd.2 h2⟩
def zpP:D->Bool
 | .lst ds=>ds.all zlW
 |_=>false
def zjF (is:List Nat)(f:FE):FE:=fun sd=>(f (frzD is sd)).bare.bind fun d=>if zpP d then .ok d else .no
theorem tmpN {fe:FE}{is:List Nat}{Q:VK}(h:tDN K E0 (zjF is fe) σ H Q):tDN K E0 fe σ H Q:=by
 obtain ⟨B,F,sd,r,n⟩:=h;obtain ⟨F1,s1,nt,r1⟩:=r.frzC is;refine ⟨B,F1,_,r1,(Res.need_bare r.ext.fh (Res.need_bind n)).mono (fun d n1 l F2 H2 e2 h1 h2 h3=>?_) fun c fs q=>q⟩
 split at n1
 ·rename_i hs;cases d with
  |lst ds =>
   obtain ⟨xs,g1,g2⟩:=h3;refine n1 l (zex F H F2) H2 (zjT r.ext.fh s1 e2) h1 ?_ ⟨xs,g1,zfI r.ext.fh s1 nt e2 hs g2⟩;unfold zex;rw [h1,h2];cases q:F l with
   |none=>rfl
   |some o=>rw [r.ext.fh _ _ q] at h1;cases h1
  |_=>exact zqb hs
 ·exact n1.elim
end
section
variable {X:Cx}
end
section
variable {X:Cx}{m:Option Bool}{tg iter elt c:Expr}{scope:Scope}{pos spos py:Pos}{y:Str}{iy:Nat}{t:Tg}{fi:FA}{fc:FT}{f:FE}
theorem zf0 (is:List Nat)(N:List Str)(cap:List (Option Nat))(hNN:X.N.Nodup)(hiy:X.N[iy]? = some y)(hyy:Loc X.env.scope y)(hc:X.calm=true)(okB:zbt scope X.env N X.N cap=true)(hi:QI X E0 tg iter fi)
 (hg:∀ cl C s H ex,QG (za4 X scope N cl C s H ex) tg t) (ht:∀ cl C s H ex,QT (za4 X scope N cl C s H ex) E0 c fc) (he:∀ cl C s H ex,QE (za4 X scope N cl C s H ex) E0 elt f) (hsw:swapsWith (.ListComp elt [⟨tg,iter,[c],0⟩] scope pos) (some (.Name y py)) spos.line X.env=pure true:=by rfl)
 (hyf:X.fn y=true\/X.env.scope.names.lookup y=some .local:=by first|exact .inl rfl|exact .inr rfl) (hs:∀ x,foldedSetIterable iter X.env x=pure x:=by intro _;rfl) :
 QS X E0 m (.Assign [.Name y py] (.ListComp elt [⟨tg,iter,[c],0⟩] scope pos) spos) (sOwn iy (zjF is (zdR cap fi t fc f))):=by
 have hh:=zfY (g:=gT t X.K) (tt:=tDT X.K E0 fc) (te:=tD X.K E0 f) hsw hNN hiy hyy hyf N cap hc okB hi hg ht he hs;exact PS.weak hh fun T σ H h=>zpa (fun _ _ _ q=>ziO (tmpN q)) h
end
abbrev FJ:=Str->SD->Res D
def jNil:FJ:=fun acc _=>if acc.length<=sizeLine then .ok (.str acc) else .no
def jCon (x:Str)(r:FJ):FJ:=fun acc sd=>if (acc++x).length<=sizeLine then r (acc++x) sd else .no
def jFv (g:D->Option Str)(fe:FE)(r:FJ):FJ:=fun acc sd=>(fe sd).bind fun d=>match g d with
 |some z=>if z.length<=sizeLine/\(acc++z).length<=sizeLine then r (acc++z) sd else .no
 |none=>.no
def zbs:D->Option Str
 | .str x=>some x
 | .int a=>if a.natAbs.log2<1920 then some (Str.ofString (toString a)) else none
 |_=>none
def QJ (X:Cx)(E:XK)(es:List Expr)(f:FJ):Prop:=∀ (pins:List (Addr×Obj)) (s:Shared) (σ : St) (H:Hp) (acc:Str) (Q:VK),Inv X pins σ H s->tD X.K E (f acc) σ H Q ->
 Joins (model X.prog X.w) X.A X.xe (evalEach es X.env) acc (fun out s1=>out.length<=sizeLine/\EP X pins σ Q (.str out s1.toks) { s1 with toks:=s1.toks+1 }) s
section
variable {X:Cx}{E:XK}{es:List Expr}{e:Expr}{fe:FE}{r:FJ}{x:Str}{p p1 p2 pos:Pos}{k}
theorem zeP:QJ X E [] jNil:=fun pins s σ H acc Q I ⟨B,F,sd,r,n⟩=>by
 unfold jNil at n
 split at n
 ·rename_i h;exact ⟨h,.str acc,H,I.tok _,⟨_,rfl⟩,n _ F H (.refl r.ext.fh) (IsD.str_iff.mpr rfl)⟩
 ·exact n.elim
theorem zeb (hr:QJ X E es r):QJ X E (.Constant (.str x) k p1::es) (jCon x r):=fun pins s σ H acc Q I ⟨B,F,sd,rs,n⟩=>by
 unfold jCon at n
 split at n
 ·rename_i h;show wpAny _ _ (eval (.Constant (.str x) k p1) X.env) _ _ s;refine thn (zox pins s σ H (fun y H1=>y=.str x/\H1=H) I ⟨rfl,rfl⟩) fun u s1 ⟨y,H1,I1,r1,e1,e2⟩=>?_;subst e1 e2;obtain ⟨t1,rfl⟩:=r1;exact ⟨x,t1,rfl,h,hr pins s1 σ H1 _ Q I1 ⟨B,F,sd,rs,n⟩⟩
 ·exact n.elim
theorem zbR (he:QE X E e fe)(hr:QJ X E es r):QJ X E (.FormattedValue e (-1) none p2::es) (jFv zbs fe r):=fun pins s σ H acc Q I ⟨B,F,sd,rs,n⟩=>by
 show wpAny _ _ (eval (.FormattedValue e (-1) none p2) X.env) _ _ s;refine wpAny_FormattedValue_plain (thn (he pins s σ H (fun y H1=>∃ z:Str,(y=.str z\/∃ a:Int,y=.int a/\a.natAbs.log2<1920/\z=Str.ofString (toString a))/\z.length<=sizeLine/\(acc++z).length<=sizeLine/\tD X.K E (r (acc++z)) σ H1 Q) I ⟨B,F,sd,rs,(Res.need_bind n).mono (fun d n1 y F1 H1 e1 i1=>?_) fun _ _ q=>q⟩) fun u s1 ⟨y,H1,I1,r1,z,e1,l1,l2,q⟩=>?_)
 ·have key:∃ z,zbs d=some z:=by
   cases h:zbs d with
   |none=>rw [h] at n1;exact n1.elim
   |some z=>exact ⟨z,rfl⟩
  obtain ⟨z,hz⟩:=key;rw [hz] at n1;have n1:(if z.length<=sizeLine/\(acc++z).length<=sizeLine then r (acc++z) sd else .no).need (OkD X.K F H Q) (XW X.K E F H):=n1
  split at n1
  ·rename_i h;refine ⟨z,?_,h.1,h.2,B,F1,sd,rs.step e1,n1.mono (fun d q=>q.ext e1) fun _ _ q=>q.ext e1⟩;unfold zbs at hz
   split at hz
   ·cases hz;exact .inl (IsD.str_iff.mp i1)
   ·split at hz
    ·rename_i hl;obtain rfl:=Zqi hz;exact .inr ⟨_,IsD.int_iff.mp i1,hl,rfl⟩
    ·exact zqn hz
   ·exact zqn hz
  ·exact n1.elim
 ·rcases e1 with e1|⟨a,e1,ha,rfl⟩
  ·subst e1;obtain ⟨t1,rfl⟩:=r1;refine wpAny_formatField_str ⟨_,_,rfl,l2,?_⟩ ⟨_,_,rfl,l2,?_⟩ l1
   ·exact hr pins _ σ H1 _ Q I1 q
   ·exact hr pins _ σ H1 _ Q (I1.tok _) q
  ·subst e1;obtain ⟨t1,rfl⟩:=r1;refine wpAny_formatField_int ha ⟨_,_,rfl,l2,?_⟩;exact hr pins _ σ H1 _ Q (I1.tok _) q
theorem zeO {a b:Expr}{f:FJ}(h:QJ X E (a::b::es) f):QE X E (.JoinedStr (a::b::es) pos) (f Str.empty):=fun pins s σ H Q I q=>wpAny_JoinedStr (h pins s σ H Str.empty Q I q)
end
end L2.DL
namespace L2
open PySem
theorem zaO {N P:List Str}{sc:Scope}(a:sc.kind=.function:=by rfl)(b:sc.isCoroutine=false:=by rfl)(c:sc.isGenerator=false:=by rfl)(d:N.Nodup:=by decide +kernel)(e:N.take P.length=P:=by rfl)
 (f:∀ x∈P,sc.names.lookup x=some .local\/sc.names.lookup x=some .cell:=by decide +kernel) (g:∀ y∈sc.names,y.2 ≠ .free:=by decide +kernel):FnScope N P sc:=⟨a,b,c,d,e,f,g⟩
theorem pgn {X:Cx}{x:Str}{pos:Pos}(i:Nat)(hN:X.N.Nodup)(hi:X.N[i]? = some x:=by rfl)(hx:Loc X.env.scope x:=by first|exact .inl rfl|exact .inr rfl)(hf:X.fn x=true\/X.env.scope.names.lookup x=some .local:=by first|exact .inl rfl|exact .inr rfl|assumption):PG X (.Name x pos) (ze0 i):=za7 hN hi hx hf
section
variable {p:List Value->Prop}
theorem us1 (h:∀ a,p [a]):∀ us:List Value,us.length=1->p us:=fun us e=>by
 obtain ⟨a,rfl⟩:=List.length_eq_one_iff.mp e;exact h a
theorem us2 (h:∀ a b,p [a,b]):∀ us:List Value,us.length=2->p us:=fun us e=>by
 cases us with
 |nil=>exact absurd e (by decide)
 |cons a us=>exact us1 (p:=fun us=>p (a::us)) (fun b=>h a b) us (Nat.succ.inj e)
theorem us3 (h:∀ a b c,p [a,b,c]):∀ us:List Value,us.length=3->p us:=fun us e=>by
 cases us with
 |nil=>exact absurd e (by decide)
 |cons a us=>exact us2 (p:=fun us=>p (a::us)) (fun b c=>h a b c) us (Nat.succ.inj e)
theorem us4 (h:∀ a b c d,p [a,b,c,d]):∀ us:List Value,us.length=4->p us:=fun us e=>by
 cases us with
 |nil=>exact absurd e (by decide)
 |cons a us=>exact us3 (p:=fun us=>p (a::us)) (fun b c d=>h a b c d) us (Nat.succ.inj e)
theorem us5 (h:∀ a b c d e,p [a,b,c,d,e]):∀ us:List Value,us.length=5->p us:=fun us e=>by
 cases us with
 |nil=>exact absurd e (by decide)
 |cons a us=>exact us4 (p:=fun us=>p (a::us)) (fun b c d e=>h a b c d e) us (Nat.succ.inj e)
end
end L2
namespace L2.DL
section
variable {X:Cx}{E:XK}{o e:Expr}{fo fa:FE}{apos cpos:Pos}
def ziT (fo fk:FE):FE:=fun sd=>(fo sd).bind fun d=>match d with
 | .dct ks ds=>(fk sd).bind fun k=>.ofO ((zbx k).map fun q=>(valD ks ds q).getD .non)
 |_=>.no
@[simp] theorem ev_get1 (fo fk:FE)(sd:SD):ziT fo fk sd=(fo sd).bind fun d=>(zs8 d).bind fun o=>(fk sd).bind fun k=>.ofO ((zbx k).map fun q=>(valD o.1 o.2 q).getD .non):=by
 unfold ziT;cases fo sd with
 |ok d=>cases d<;>rfl
 |ex c fs=>rfl
 |no=>rfl
theorem zqX (hu:X.A.units+1<cLine)(ho:QE X E o fo)(he:QE X E e fa)(mm:M1 X o "get" apos e cpos):QE X E (.Call (.Attribute o "get" apos) [e] [] cpos) (ziT fo fa):=PE.weak (znk hu ho he mm) fun σ H Q ⟨B,F,sd,r,n⟩=>by
 refine ⟨B,F,sd,r,(Res.need_bind n).mono (fun d n1 v F1 H1 e1 i1=>?_) fun _ _ q=>q⟩;cases d with
 |dct ks ds =>
  rw [IsD.dct_iff] at i1;obtain ⟨p,xs,rfl,h1,h2,h3⟩:=i1;have hp:=e1.fh _ _ h1;refine ⟨p,rfl,.inl ⟨_,.inl hp⟩,B,F1,sd,r.step e1,(Res.need_bind n1).mono (fun k n2 w F2 H2 e2 i2=>?_) fun _ _ q=>q.ext e1⟩;obtain ⟨z,hz,q⟩:=Res.need_ofO n2;obtain ⟨k',hk,hz⟩:=Option.map_eq_some_iff.mp hz;subst hz;obtain ⟨g1,g2⟩:=zdV k' h2 h3;refine ⟨valV (ks.zip xs) k',?_,?_⟩
  ·rw [zc5 hk i2];exact DGet.k (e2.hh _ _ hp)
  ·cases hv:valD ks ds k' with
   |none =>
    rw [hv] at q;rw [g2 hv];exact q _ F2 H2 (e1.trans e2) (IsD.non_iff.mpr rfl)
   |some d =>
    rw [hv] at q;obtain ⟨y,hy,iy⟩:=g1 d hv;rw [hy];exact q _ F2 H2 (e1.trans e2) (IsD.same e2.ff _ _ iy)
 |_=>exact n1.elim
end
end L2.DL
namespace L2.ST
def inK (k:Key)(D:List Key):Bool:=D.any fun x=>decide (x=k)
theorem zgI {k:Key}{D:List Key}:inK k D=true↔k∈D:=by
 unfold inK;rw [List.any_eq_true];exact ⟨fun ⟨x,hx,e⟩=>by rw [<- of_decide_eq_true e];exact hx,fun h=>⟨k,h,decide_eq_true rfl⟩⟩
def zer (D:List Key)(k:Key):List Key:=if inK k D=true then D else D++[k]
def dedL (ks:List Key):List Key:=ks.foldl zer []
theorem zjU (ks:List Key)(k:Key):dedL (ks++[k])=zer (dedL ks) k:=by
 unfold dedL;rw [List.foldl_append];rfl
theorem zgo (D:List Key)(k:Key):(zer D k).length=if inK k D then D.length else D.length+1:=by
 unfold zer;cases h:inK k D
 ·rw [if_neg (by simp),if_neg (by simp),List.length_append];rfl
 ·rw [if_pos rfl,if_pos rfl]
theorem zkq (D:List Key)(k k':Key):inK k' (zer D k)=(inK k' D||decide (k'=k)):=by
 unfold zer;by_cases h:inK k D=true
 ·rw [if_pos h];by_cases e:k'=k
  ·rw [e,h];rfl
  ·rw [decide_eq_false e,Bool.or_false]
 ·rw [if_neg h,Bool.eq_iff_iff,Bool.or_eq_true,zgI,zgI,decide_eq_true_eq,List.mem_append,List.mem_singleton]
theorem zfN:∀ (ks D:List Key),(ks.foldl zer D).length<=D.length+ks.length
 | [],D=>Nat.le_refl _
 |k::ks,D=>by
  have h:=zfN ks (zer D k);rw [zgo] at h;rw [List.foldl_cons,List.length_cons]
  split at h<;>omega
theorem zhK (ks:List Key):(dedL ks).length<=ks.length:=by
 have:=zfN ks [];rw [List.length_nil,Nat.zero_add] at this;exact this
theorem zei:∀ (ks D:List Key),(D++ks).Nodup->ks.foldl zer D=D++ks
 | [],D,_=>(List.append_nil _).symm
 |k::ks,D,h=>by
  have hn:k∉D:=fun z=>by
   rw [List.nodup_append] at h;exact h.2.2 k z k Zqs rfl
  have e:zer D k=D++[k]:=if_neg fun z=>hn (zgI.mp z);rw [List.foldl_cons,e,zei ks (D++[k]) (by rw [List.append_assoc];exact h),List.append_assoc];rfl
theorem dedL_nodup {ks:List Key}(h:ks.Nodup):dedL ks=ks:=zei ks [] h
theorem zmY {k:Key}{v:Value}(h:ze1 k v=true):v.scannable=true:=by
 rcases zaI h with ⟨i,t,rfl,rfl⟩|⟨x,t,rfl,rfl⟩<;>rfl
abbrev HasK (prog:Program)(w:World)(h:Heap)(S:Addr)(D:List Key):Prop:=h.SetOf (zaF prog w) S (fun k=>inK k D) D.length
theorem HasK.congr {prog:Program}{w:World}{h:Heap}{S:Addr}{T:Key->Bool}{n:Nat}{D:List Key}(H:h.SetOf (zaF prog w) S T n)(e:∀ k,T k=inK k D)(en:n=D.length):HasK prog w h S D:=by
 have:T=fun k=>inK k D:=funext e;subst this;subst en;exact H
section
variable {prog:Program}{w:World}{A:Around}{R:Result->Shared->Prop}{I:Addr}{fp wr:List Addr}{G:Array GenState->Array GenState->Prop}{n:Nat}{P:Nat->Value->Prop}{St:Nat->Shared->Prop}
theorem HasK.keep {hp hp':Heap}{S:Addr}{D:List Key}(H:HasK prog w hp S D)(k:∀ o,hp.get? S=some o->hp'.get? S=some o):HasK prog w hp' S D:=by
 obtain ⟨o,es,ep,t,ho,r⟩:=H;exact ⟨o,es,ep,t,k _ ho,r⟩
theorem zkD {ks:List Key}(W:WalksS prog w A.in1 I fp wr G ks.length P St)(S:Addr)(hSf:S∉fp)
 (hval:∀ i v k,P i v->ks[i]? = some k->ze1 k v=true) (hn:ks.length<=999) :
 ∀ (k i:Nat) (s:Shared),ks.length-i=k->i<=ks.length->St i s->HasK prog w s.heap S (dedL (ks.take i)) ->
  (∀ s',Moved (S::wr) G s s'->HasK prog w s'.heap S (dedL ks)->R (.ok (.ret .none)) s') ->
  codeAny (model prog w) A (.builtin "set.update.loop" ⟨[.ref S,.ref I],[]⟩) R s:=by
 have hSw:S∉wr:=fun h=>hSf (W.sub _ h);have hsub:∀ b∈wr,b∈S::wr:=fun b hb=>Zqm _ hb;intro k
 induction k with
 |zero =>
  intro i s hk hi hst H hR;have hin:i=ks.length:=by omega
  subst hin;rw [List.take_length] at H;refine codeAny_builtin F.entry_set_update_loop ?_;rw [Around.under_plainId F.plain_set_update_loop _];show wpAny _ A.in1 (pyNext (.ref I) >>= _) _ _ s;refine wpAny_bind (W.done s _ _ hst fun s' hm=>?_);show wpAny _ A.in1 (ret Value.none) _ _ s';exact wpAny_pure (hR s' (hm.mono hsub) (H.keep fun o e=>hm.heap S _ hSw e))
 |succ k ih =>
  intro i s hk hi hst H hR;have hlt:i<ks.length:=by omega
  have hki:ks[i]? = some ks[i]:=Zqg hlt;refine codeAny_builtin F.entry_set_update_loop ?_;rw [Around.under_plainId F.plain_set_update_loop _];show wpAny _ A.in1 (pyNext (.ref I) >>= _) _ _ s;refine wpAny_bind (W.item i s _ _ hlt hst fun v s' hP hst' hm=>?_);have hv:=hval i v _ hP hki;have H':=H.keep (hp':=s'.heap) fun o e=>hm.heap S _ hSw e;show wpAny _ A.in1 (holding [v] (setAdd S v) >>= _) _ _ s';refine wpAny_bind (wpAny_holding ?_);unfold setAdd;refine wpAny_holding ?_;refine wpAny_bind ((zaF prog w).pyHash (k:=ks[i]) hv ?_);have hl:=zhK (ks.take i);have ht:(ks.take i).length=i:=by rw [List.length_take];omega
  refine wpAny_setAddHashed_of (knd:=zaF prog w) (s:={ s' with toks:=s'.toks+1 }) hv (zmY hv) H' (by unfold scanBound;omega) fun h' hsb H2=>?_;have e1:dedL (ks.take (i+1))=zer (dedL (ks.take i)) ks[i]:=by
   rw [List.take_succ,hki];exact zjU _ _
  have H3:HasK prog w h' S (dedL (ks.take (i+1))):=by
   rw [e1];exact HasK.congr H2 (fun k'=>(zkq _ _ _).symm) (zgo _ _).symm
  refine wpAny_pure ⟨plainId_quiet F.plain_set_update_loop _,ih (i+1) _ (by omega) hlt (W.frame _ s' _ _ hst' (Nat.le_succ _) fun b hb o e=>?_) H3 fun s'' hm'' H''=>?_⟩
  ·rw [hsb.2 b (fun h:b=S=>hSf (by rw [<- h];exact hb))];exact e
  ·refine hR s'' (Moved.trans W.gtrans ((hm.mono hsub).then_heap (Nat.le_succ _) fun b o hb e=>?_) hm'') H'';rw [hsb.2 b (fun h:b=S=>hb (by rw [h];exact Zqs))];exact e
end
section
variable {prog:Program}{w:World}{A:Around}{E:Value->Shared->Prop}{s:Shared}
theorem zi4 {hp:Heap}{S:Addr}{led:Bool}(ho:hp.get? S=some { cls:=.type "set",dict:=none,data:=.set #[] 0 (.fresh 0 0 led) }):HasK prog w hp S [] :=
 ⟨_,#[],0,_,ho,⟨rfl,rfl,rfl⟩,rfl,fun e he=>by simp at he,fun k=>by simp [inK],(by unfold scanBound;decide),rfl,rfl⟩
set_option maxRecDepth 100000 in
set_option maxHeartbeats 3200000 in
theorem zeW {l:Addr}{items:Array Value}{ks:List Key}{Q:Value->Shared->Prop}(hh:A.handled=none)(hl:s.heap.IsList l items)(hsz:items.size=ks.length)
 (hval:∀ (i:Nat) (v:Value) (k:Key),items[i]? = some v->ks[i]? = some k->ze1 k v=true) (hn:ks.length<=999)
 (h:∀ (h':Heap) (tk:Nat),HasK prog w h' s.heap.objs.size (dedL ks)->(∀ b o,b<s.heap.objs.size->s.heap.get? b=some o->h'.get? b=some o)->Q (.ref s.heap.objs.size) { s with heap:=h',toks:=tk }) :
 wpAny (model prog w) A (call (.type "set") [.ref l]) Q E s:=by
 have cn:=fun A:Around=>zgh (prog:=prog) (w:=w) (A:=A) (E:=E) (s:=s) (.ref l) (Q₁:=fun obj s₁=>obj=.ref s.heap.objs.size/\s₁={ s with heap:=s.heap.push { cls:=.type "set",dict:=none,data:=.set #[] 0 (.fresh 0 0 (ledW w)) } }) ⟨rfl,rfl⟩;generalize ledW w=led at cn;obtain ⟨c,tl,hmro⟩:=F.called_set.mro;have hmade:=F.called_set.made;have hsub:=F.called_set.sub;refine wpAny_call (codeAny_of_tree ?_);show wpAny _ _ (callAny (.type "set") _) _ _ _;refine wpAny_pure ⟨Code.quiet_builtin _ (by decide +kernel),codeAny_builtin F.entry_type_call ?_⟩;rw [Around.under_plain (weight_type_call_type "set" [.ref l] []) rfl];have h1:=F.called_set.notType;have h2:=F.called_set.canCreate;have hct:=F.typeCall_set_1 (.ref l)
 repeat (any_goals (first|assumption|wp_step))
 refine codeAny_mono (cn _) fun r s₁ hr=>?_;cases r with
 |error e=>exact hr
 |ok fl =>
  cases fl with
  |ret obj =>
   obtain ⟨rfl,rfl⟩:=hr;generalize hno:({ cls:=.type "set",dict:=none,data:=.set #[] 0 (.fresh 0 0 led) }:Obj)=no at *;have hS:(s.heap.push no).get? s.heap.objs.size=some no:=Heap.get?_push_size _ (by rw [<- hno];rfl);have hT:Shared.TypeIs { s with heap:=s.heap.push no } (.ref s.heap.objs.size) "set" := ⟨_,hS,by rw [<- hno]⟩;have hli:=F.called_set.init.lookup;have hbi:=F.called_set.init.bind (.ref s.heap.objs.size)
   repeat (any_goals (first|assumption|wp_step))
   refine codeAny_mono (codeAny_call_builtin (R:=wants (fun r s₂=>r=.none/\∃ h' tk,s₂={ s with heap:=h',toks:=tk }/\HasK prog w h' s.heap.objs.size (dedL ks) /\
    (∀ b o,b<s.heap.objs.size->s.heap.get? b=some o->h'.get? b=some o)) E) F.called_set.init.plain F.entry_set_init (check_set_init_1 hT ?_)) fun r₂ s₂ hr₂=>?_
   ·obtain ⟨ol,hol,hcl,nl,hdl⟩:=hl;obtain ⟨ocls,odict,odata,oslots⟩:=ol;simp only at hcl hdl;subst hcl;subst hdl;have hol':(s.heap.push no).get? l=some { cls:=.type "list",dict:=odict,data:=.seq items nl,slots:=oslots }:=Heap.get?_push_of_some _ hol;have hsls:=F.sub_list_set;have hslf:=F.sub_list_frozenset;have hne:(Value.type "list" == Value.type "dict")=false:=by decide
    have hl1:(s.heap.push no).IsList l items:=⟨_,hol',rfl,nl,rfl⟩;subst hno;unfold Builtin.«set.__init__» noKeywords Builtin.Frozenset.updateFrom;generalize hPI:pyIter=PI
    wp_walk
    subst hPI;refine wpAny_pyIter_list hl1 ?_;refine wpAny_bind (wpAny_runValue ?_);have hlS:l<s.heap.objs.size:=Heap.lt_size hol;have hh3:A.in1.in1.in1.handled=none:=by simp [hh]
    generalize hno:({ cls:=.type "set",dict:=none,data:=.set #[] 0 (.fresh 0 0 led) }:Obj)=no at *;have szp:(s.heap.push no).objs.size=s.heap.objs.size+1:=Heap.size_push ..;have hneI:l≠(s.heap.push no).objs.size:=by rw [szp];exact Nat.ne_of_lt (Nat.lt_succ_of_lt hlS)
    have hSf:s.heap.objs.size ∉ [(s.heap.push no).objs.size,l]:=by
     simp only [List.mem_cons,List.not_mem_nil,or_false,not_or];exact ⟨by rw [szp];exact Nat.ne_of_lt (Nat.lt_succ_self _),Nat.ne_of_gt hlS⟩
    have W:=(Walks.list (prog:=prog) (w:=w) hh3 _ l hneI items).toS;rw [hsz] at W;refine zkD W s.heap.objs.size hSf (fun i v k hv hk=>hval i v k hv hk) hn (ks.length-0) 0 _ rfl (Nat.zero_le _)
     ⟨⟨_,Heap.get?_push_size _ rfl,rfl,rfl⟩,(hl1.push _)⟩ (zi4 (by rw [hno];exact Heap.get?_push_of_some _ hS)) fun s' hm H'=>?_
    ·obtain ⟨h',g',d',tk',os'⟩:=s';have eg:g'=s.gens:=hm.gens;have ed:d'=s.drawn:=hm.drawn;have eo:os'=s.os:=hm.os;subst eg;subst ed;subst eo;show wpAny _ _ _ _ _ _;refine wpAny_pure ?_;show wpAny _ _ (ret Value.none) _ _ _;refine wpAny_pure ⟨rfl,h',tk',rfl,H',fun b o hb e=>?_⟩;exact hm.heap b o (by simp only [List.mem_cons,List.not_mem_nil,or_false,not_or];exact ⟨Nat.ne_of_lt hb,by rw [szp];exact Nat.ne_of_lt (Nat.lt_succ_of_lt hb)⟩) (Heap.get?_push_of_some _ (Heap.get?_push_of_some _ e))
   ·cases r₂ with
    |error e=>exact hr₂
    |ok fl₂ =>
     cases fl₂ with
     |ret r =>
      obtain ⟨rfl,h',tk,rfl,hS',hk'⟩:=hr₂
      repeat (any_goals (first|assumption|wp_step))
      exact h _ _ hS' hk'
     |_=>exact hr₂.elim
  |_=>exact hr.elim
end
def zn9 (X:Cx)(S:Addr)(n:Nat):HO:=.ext fun h=>∃ T,h.SetOf (zaF X.prog X.w) S T n
def zqD (X:Cx):List V->Hp->VK->Prop:=fun xs H Q=>∃ a ks,xs=[.ref a]/\Rd H a (.lst (ks.map kV))/\ks.length<=999/\∀ S,H S=none->Q (.ref S) (upd H S (zn9 X S (dedL ks).length))
def zrL (X:Cx):List V->Hp->VK->Prop:=fun xs H Q=>∃ S n,xs=[.ref S]/\H S=some (zn9 X S n)/\n<=999/\Q (.int n) H
section
variable {X:Cx}
theorem call_setK (hc:X.calm=true):zaN X (.type "set") (zqD X):=by
 intro pins s σ H xs us Q I rv h;obtain ⟨a,ks,rfl,ha,hn,q⟩:=h;obtain ⟨u,rfl,ru⟩:=zcF rv;obtain rfl:u=Value.ref a:=ru;obtain ⟨its,ri,pl,hz⟩:=I.list (.inl ha);have l2:=ri.length;rw [Zql] at l2;refine zeW (I.ok.hd hc) pl.isList (ks:=ks) (by rw [List.size_toArray];omega) (fun i v k hv hk=>?_) hn fun h' tk H' kk=>?_
 ·obtain ⟨v',hv',rr⟩:=ri.get (i:=i) (x:=kV k) (by rw [List.getElem?_map,hk];rfl);rw [List.getElem?_toArray,hv'] at hv;obtain rfl:=Zqi hv;exact zgv (P:=X.prog) (w:=X.w) rr
 ·refine ⟨.ref s.heap.objs.size,upd H s.heap.objs.size (zn9 X s.heap.objs.size (dedL ks).length),I.laid (t':=tk) (fun b o e=>kk b o (Heap.lt_size e) e) (Nat.le_refl _) ?_,rfl,q _ (I.hok.fresh (Nat.le_refl _))⟩;obtain ⟨o,es,ep,t,ho,r⟩:=id H';refine ⟨⟨_,H'⟩,⟨_,ho⟩,fun h1 h2 z kp=>?_⟩;obtain ⟨T,o,es,ep,t,ho,r⟩:=z;exact ⟨T,o,es,ep,t,kp _ ho,r⟩
theorem call_lenK:zaN X (.builtin "len") (zrL X):=by
 intro pins s σ H xs us Q I rv h;obtain ⟨S,n,rfl,hS,hn,q⟩:=h;obtain ⟨u,rfl,ru⟩:=zcF rv;obtain rfl:u=Value.ref S:=ru;obtain ⟨⟨T,o,es,ep,t,ho,hex,hd,_,_,hb,hf,he⟩,_,_⟩:=(show zbg X.prog X.w H s.heap S (zn9 X S n) from I.hok S _ hS);exact call_len_set ho hex hd hf (by omega) ⟨.int n,H,I.tok _,⟨_,by rw [he]⟩,q⟩
end
end L2.ST
namespace L2.DL
open PySem PySem.Spec PyProof.Rows L2.ST
def znb:List D->Option D
 | [.lst ds]=>(zcr zbx ds).bind fun ks=>if ks.length<=999 then some (.int (dedL ks).length) else none
 |_=>none
theorem zf9 {K:W.Frag}{F:Hp}:∀ {ds:List D} {ks:List Key} {vs:List V},zcr zbx ds=some ks->IsDs K F ds vs->vs=ks.map kV
 | [],ks,vs,h,i=>by
  rw [IsDs.nil_iff] at i;obtain rfl:=Zqi h;exact i
 |d::ds,ks,vs,h,i=>by
  rw [IsDs.cons_iff] at i;obtain ⟨x,r,rfl,h2,h3⟩:=i;obtain ⟨k,hk,h⟩:=Option.bind_eq_some_iff.mp (show (zbx d).bind (fun x=>(zcr zbx ds).map fun xs=>x::xs)=some ks from h);obtain ⟨l,hl,rfl⟩:=Option.map_eq_some_iff.mp h;rw [zc5 hk h2,zf9 hl h3];rfl
section
variable {X:Cx}{E:XK}{fr:FA}{es:List Expr}{e:Expr}
theorem zsL (h:∀ {ta:TA},PA X es ta->PE X e (tCB (zrL X) (zrh (tCB (zqD X) ta) tNil)))(ha:QA X E es fr):QE X E e (dBlt znb fr):=PE.weak (h ha) fun σ H Q ⟨B,F,sd,r,n⟩=>by
 refine ⟨B,F,sd,r,(Res.need_bind n).mono (fun ds n1 vs F1 H1 e1 i1=>?_) fun _ _ q=>q⟩;obtain ⟨z,hz,q⟩:=Res.need_ofO n1;unfold znb at hz
 split at hz
 ·obtain ⟨ks,h1,hz⟩:=Option.bind_eq_some_iff.mp hz
  split at hz
  ·rename_i hc;obtain rfl:=Zqi hz;obtain ⟨v,rfl,h⟩:=zcg i1;rw [IsD.lst_iff] at h;obtain ⟨a,ys,rfl,g1,g2⟩:=h;obtain rfl:=zf9 h1 g2;have hl:=zhK ks;refine ⟨a,ks,rfl,g1.same e1.fh,hc,fun S hS=>⟨S,_,rfl,zai,by omega,?_⟩⟩;exact q _ F1 _ (e1.trans (.keep e1.fh hS _)) (IsD.int_iff.mpr rfl)
  ·exact zqn hz
 ·exact zqn hz
end
end L2.DL
namespace L2
section
variable {X:Cx}{pins:List (Addr×Obj)}{σ : St}{H:Hp}{s:Shared}
theorem Inv.freeze {d:Addr}{o:Obj}{kvs:List (Key×V)}(I:Inv X pins σ H s)(h:H d=some (.dK kvs))(ho:s.heap.get? d=some o):Inv X pins σ (upd H d (.frz o (.dK kvs))) s:=by
 refine I.step (h':=s.heap) (g':=s.gens) (d':=s.drawn) (t':=s.toks) (ch:=[]) (fun b hb=>nomatch hb) (fun b o _ _ _ e _=>e) (fun b o _ _ _ e _=>⟨o.slots,e⟩) (fun b o _ _ n=>?_) (fun b o _ e=>⟨o,e⟩) (fun b xs e=>?_) (fun b o u e=>?_) (fun b ps e=>⟨#[],?_⟩) (fun m hm=>hm) (fun b u e=>?_) I.bare
 ·rw [zaj fun z=>by rw [z,h] at n;cases n];exact n
 ·rw [zaj fun z=>by rw [z,h] at e;cases e];exact e
 ·rw [zaj fun z=>by rw [z,h] at e;cases e];exact e
 ·rw [zaj (fun z=>by rw [z,h] at e;cases e),e];simp
 ·by_cases nb:b=d
  ·subst nb;rw [zai] at e;obtain rfl:=Zqi e;exact ⟨ho,(I.hok b _ h).stay (fun _ _ _ q=>q) (fun c q=>by rw [zaj fun z=>by rw [z,h] at q;cases q];exact q) fun c xs q=>by rw [zaj fun z=>by rw [z,h] at q;cases q];exact q⟩
  ·rw [zaj nb] at e;exact (I.hok b u e).stay (fun _ _ _ q=>q) (fun c q=>by rw [zaj fun z=>by rw [z,h] at q;cases q];exact q) fun c xs q=>by rw [zaj fun z=>by rw [z,h] at q;cases q];exact q
end
def Itd (d:Addr)(o:Obj)(kvs:List (Key×V)):It :=
 ⟨fun i H=>H d=some (.frz o (.dK kvs))/\i<kvs.length,
  fun i H v H'=>∃ T k x,v=.ref T/\H T=none/\H'=upd H T (.tup [kV k,x])/\kvs[i]? = some (k,x),
  fun i H=>H d=some (.frz o (.dK kvs))/\kvs.length<=i⟩
def zsj (it d:Addr)(n ep i:Nat)(h:Heap):Prop:=∃ ok ov,IsItemIter h it d i n ep ok ov
theorem KV.at {κ : Type}:∀ {l1:List (κ × V)} {l2:List (κ × Value)} {i:Nat} {a:κ × V},KV l1 l2->l1[i]? = some a->∃ v,l2[i]? = some (a.1,v)/\RelV a.2 v:=by
 intro l1 l2 i a hkv;unfold KV at hkv
 induction hkv generalizing i with
 |nil=>intro e;simp at e
 | @cons p q _ _ hh tt ih =>
  cases i with
  |zero =>
   intro e1;simp at e1;subst e1;exact ⟨q.2,by rw [hh.1];rfl,hh.2⟩
  |succ i =>
   intro e1;obtain ⟨v,h1,h2⟩:=ih (by simpa using e1);exact ⟨v,by simpa using h1,h2⟩
theorem kV_of {k:Key}{v:Value}(h:ze1 k v=true):RelV (kV k) v:=by
 rcases zaI h with ⟨i,t,rfl,rfl⟩|⟨x,t,rfl,rfl⟩
 ·exact ⟨t,rfl⟩
 ·exact ⟨t,rfl⟩
theorem zou {X:Cx}{pins:List (Addr×Obj)}{σ : St}{H:Hp}{s:Shared}{d:Addr}{o:Obj}{kvs:List (Key×V)}{ep:Nat}(hep:∀ es ep',o.data=.dict es ep'->ep'=ep)(I:Inv X pins σ H s)(h:H d=some (.frz o (.dK kvs))) :
 ∃ vs,KV kvs vs/\s.heap.DictAt (zaF X.prog X.w) d vs ep:=by
 obtain ⟨ho,_,_,vs,rel,o',es,ep',e1,e2,e3,r⟩:=(show zbg X.prog X.w H s.heap d (.frz o (.dK kvs)) from I.hok d _ h);rw [ho] at e1;obtain rfl:=Zqi e1;have:=hep es ep' e3;subst this;exact ⟨vs,rel,o,es,ho,e2,e3,r⟩
theorem zlc:entryFor table "dict_itemiterator.__iter__" = some Builtin.«dict_keyiterator.__iter__» :=
 entryFor_alias (id' := "dict_keyiterator.__iter__") (by kernel_rfl) (by first|rfl|decide +kernel) (by decide +kernel) (by kernel_rfl)
theorem zi8 {P:Program}{w:World}{K:W.Frag}{elts:List Expr}{kx}{pos:Pos}(d it:Addr)(o:Obj)(kvs:List (Key×V))(ep:Nat)(hep:∀ es ep',o.data=.dict es ep'->ep'=ep):Turn P w K (.Tuple elts kx pos) (Itd d o kvs) [it] it (zsj it d kvs.length ep) where
 mem:=by simp
 obj:=fun i h st c hc=>by
  obtain ⟨ok,ov,he⟩:=st;rw [List.mem_singleton.mp hc];exact ⟨_,he,fun v q=>by cases q⟩
 keep:=fun i h h' st kk=>by
  obtain ⟨ok,ov,he⟩:=st;exact ⟨ok,ov,kk it (by simp) _ he⟩
 item:=by
  intro X hP hw hK hc i pins s σ H E I hf st hg;subst hP hw hK;obtain ⟨hd,hi⟩:=hg;obtain ⟨vs,rel,hat⟩:=zou hep I hd;obtain ⟨ok,ov,he⟩:=st;have hl:kvs.length=vs.length:=rel.length;rw [hl] at he;obtain ⟨v,hv,rv⟩:=KV.at rel (Zqg hi);refine wpAny_pyNext_items_item he hat hv fun key h' hkey heo ht hz kk=>?_;refine ⟨_,rfl,wpAny_letOwnedTupleGo_items (s:={ s with heap:=h' }) heo fun h2 b1 sb=>?_⟩;have sb:Heap.SameBut it h' h2:=sb;have lt:it≠s.heap.objs.size:=Nat.ne_of_lt (Heap.lt_size he);have I2:=I.paired (t':=s.toks) (h':=h2) (ch:=[it]) (kV_of hkey) rv hf (fun c hc=>by rw [List.mem_singleton.mp hc];exact lt) (sb.extBut _ _ (Ne.symm lt) ht) (fun c o hc q=>by
   have hc:c≠it:=fun z=>hc (by simp [z]);exact sb.extBut c o hc (kk c o hc q))
  refine ⟨.ref s.heap.objs.size,_,I2,rfl,⟨_,_,_,rfl,I.hok.fresh (Nat.le_refl _),rfl,Zqg hi⟩,⟨key,v,by rw [hl];exact b1⟩,fun c hc=>?_⟩;rw [List.mem_singleton.mp hc];exact (zaj lt).trans (hf it (by simp)).1
 done:=by
  intro X hP hw hK hc i pins s σ H E I hf st hg;subst hP hw hK;obtain ⟨hd,hi⟩:=hg;obtain ⟨vs,rel,hat⟩:=zou hep I hd;obtain ⟨ok,ov,he⟩:=st;have hl:kvs.length=vs.length:=rel.length;rw [hl] at he;refine wpAny_pyNext_items_end (I.ok.hd hc) he hat (List.getElem?_eq_none (by omega)) fun h' eb=>⟨rfl,I.turnedL (t':=s.toks) (ch:=[it]) (fun c o hc q=>?_) fun c hc=>hf c hc⟩;exact eb c o (fun z=>hc (by simp [z])) q
 self:=fun A i s Q E st h=>by
  obtain ⟨ok,ov,he⟩:=st;have hT:s.TypeIs (.ref it) "dict_itemiterator" := ⟨_,he,rfl⟩;refine wpAny_pyIter_slot hT PySem.F.slot_dict_itemiterator_iter (wpAny_call_entry PySem.F.slot_dict_itemiterator_iter hT zlc ?_ (PySem.F.args_dict_itemiterator_iter_1 _));show wpAny _ _ (ret (.ref it)) _ _ s;exact wpAny_pure ⟨_,rfl, "dict_itemiterator",_,hT,PySem.F.slot_dict_itemiterator_next.lookup,h⟩
section
variable {X:Cx}
def rView:V->List V->Hp->VK->Prop:=fun x vs H Q=>∃ d kvs,x=.ref d/\vs=[]/\H d=some (.dK kvs)/\∀ p,H p=none->Q (.ref p) (upd H p (zlG p d))
def zqp (R:It->Hp->Prop):VK:=fun x H2=>∃ p d kvs,x=.ref p/\H2 p=some (zlG p d)/\H2 d=some (.dK kvs)/\∀ o,R (Itd d o kvs) (upd H2 d (.frz o (.dK kvs)))
def zso (K:W.Frag)(te:TE):TI:=fun σ H R=>tBM0 K "dict" rView te σ H (zqp R)
theorem zn7 {e:Expr}{te:TE}{apos cpos:Pos}{elts:List Expr}{kx}{tp:Pos}(he:PE X e te)
 (hbase:attributeBase e "items" X.env (eval e X.env)=eval e X.env:=by rfl) (hline:(apos.endLine == cpos.line)=true:=by rfl) :
 PI X (.Tuple elts kx tp) (.Call (.Attribute e "items" apos) [] [] cpos) (zso X.K te):=by
 intro pins s σ H R I h;refine thn (zok PySem.F.plainAttrs_dict PySem.F.slot_dict_items PySem.F.type_dict_items zmw he hbase hline pins s σ H _ I h) fun u s1 ⟨x,H2,I1,r1,p,d,kvs,ex,hp,hd2,q⟩=>?_;subst ex;obtain rfl:u=Value.ref p:=r1;obtain ⟨hview,_,_⟩:=(show zbg X.prog X.w _ s1.heap p (zlG p d) from I1.hok p _ hp);obtain ⟨_,_,vs,rel,o,es,ep,d1,d2,d3,dr⟩:=znz I1.hok hd2;have hat:s1.heap.DictAt (zaF X.prog X.w) d vs ep:=⟨o,es,d1,d2,d3,dr⟩;have hl:kvs.length=vs.length:=rel.length;have I2:=I1.freeze hd2 d1;refine wpAny_pyIter_items hview hat ?_;refine ⟨s1.heap.objs.size,[s1.heap.objs.size],_,_,_,rfl,I2.kept (t':=s1.toks) (fun b o e=>Heap.get?_push_of_some _ e),zi8 d s1.heap.objs.size o kvs ep (fun es' ep' z=>by rw [d3] at z;cases z;rfl),⟨_,_,by rw [hl];exact Heap.get?_push_size _ rfl⟩,fun c hc=>?_,q o⟩;rw [List.mem_singleton.mp hc];exact I2.fpOk (Nat.le_refl _) (I2.hok.fresh (Nat.le_refl _))
end
end L2
namespace L2.DL
def keyD:Key->D
 | .inl i=>.int i
 | .inr x=>.str x
def zeo (ks:List Key)(ds:List D):List D:=List.zipWith (fun k x=>D.tup [keyD k,x]) ks ds
def zhR:D->Res (List D)
 | .dct ks ds=>.ok (zeo ks ds)
 |_=>.no
def iIt (f:FE):FA:=fun sd=>(f sd).bind zhR
@[simp] theorem ev_iIt (f:FE)(sd:SD):iIt f sd=(f sd).bind zhR:=rfl
theorem zoN (K:W.Frag)(F:Hp)(k:Key):IsD K F (keyD k) (kV k):=by
 cases k with
 |inl i=>exact IsD.int_iff.mpr rfl
 |inr x=>exact IsD.str_iff.mpr rfl
theorem zis {K:W.Frag}{F1:Hp}{d:Addr}{o:Obj}{ks:List Key}{ds:List D}{xs:List V}(h:F1 d=some (.frz o (.dK (ks.zip xs))))(hl:ks.length=xs.length)(i1:IsDs K F1 ds xs):Walk K F1 (Itd d o (ks.zip xs)) (zeo ks ds):=fun i F2 H2 s1 s2=>by
 have p1:=s2 _ _ (s1 _ _ h);have l1:=i1.length;have lz:(ks.zip xs).length=ks.length:=by rw [List.length_zip];omega
 have li:(zeo ks ds).length=ks.length:=by unfold zeo;rw [List.length_zipWith];omega
 rw [li];refine ⟨fun hi=>⟨⟨p1,by omega⟩,fun v H3 yl=>?_⟩,fun hi=>⟨p1,by omega⟩⟩;obtain ⟨T,k,x,rfl,hT,rfl,hk⟩:=yl;have hd:i<ds.length:=by omega
 obtain ⟨x',hx,ix⟩:=i1.get (Zqg hd);rw [List.getElem?_zip_eq_some] at hk;obtain ⟨hk,hx2⟩:=hk;have hk:ks[i]? = some k:=hk;have hx2:xs[i]? = some x:=hx2;rw [hx] at hx2;cases  hx2;have ea:=Ext.alloc s2 hT (.tup [kV k,x]);refine ⟨.tup [keyD k,ds[i]],_,?_,ea,IsD.tup_iff.mpr ⟨T,_,rfl,.of zai,.mk (zoN K _ k) (.mk (IsD.same (s1.trans ea.ff) _ _ ix) .nil)⟩⟩;unfold zeo;rw [List.getElem?_zipWith,hk,Zqg hd]
section
variable {X:Cx}{E:XK}{f:FE}{tp apos cpos:Pos}{elts:List Expr}{e:Expr}
theorem zny {kx}(hn:QN X E e f)(hbase:attributeBase e "items" X.env (eval e X.env)=eval e X.env:=by rfl)(hline:(apos.endLine == cpos.line)=true:=by rfl) :
 QI X E (.Tuple elts kx tp) (.Call (.Attribute e "items" apos) [] [] cpos) (iIt f):=PI.weak (zn7 hn hbase hline) fun σ H R ⟨B,F,sd,r,n⟩=>by
 refine ⟨B,F,sd,r,(Res.need_bind n).mono (fun z n1 l F1 H1 e1 hl fl ow=>?_) fun _ _ q=>q⟩;unfold zhR at n1
 split at n1
 ·rename_i ks ds;obtain ⟨xs,h1,h2,h3⟩:=ow;refine ⟨.inr (.inr (.inl ⟨rfl,.inl ⟨_,h1⟩⟩)),l,ks.zip xs,rfl,rfl,h1,fun p hp=>⟨p,l,ks.zip xs,rfl,zai,?_,fun o=>?_⟩⟩
  ·have hlp:l≠p:=fun z=>by rw [z,hp] at h1;exact zqn h1
   exact (zaj hlp).trans h1
  ·have fp:F1 p=none:=zas e1.fh hp;have Hp:H p=none:=zas e1.hh hp;have hlp:l≠p:=fun z=>by rw [z,hp] at h1;exact zqn h1
   refine n1 _ (upd F1 l (.frz o (.dK (ks.zip xs)))) _ ⟨e1.ff.trans (zbf fl _),fun b u q=>?_,fun b u q=>?_,fun b q1 q2=>?_⟩ (zis zai h2 (IsDs.same (zbf fl _) _ _ h3))
   ·by_cases z:b=l
    ·subst z;rw [zai] at q ⊢;exact q
    ·rw [zaj z] at q ⊢;have:b≠p:=fun y=>by rw [y,fp] at q;exact zqn q
     rw [zaj this];exact e1.fh _ _ q
   ·have z:b≠l:=fun y=>by rw [y,hl] at q;exact zqn q
    have y:b≠p:=fun y=>by rw [y,Hp] at q;exact zqn q
    rw [zaj z,zaj y];exact e1.hh _ _ q
   ·have z:b≠l:=fun y=>q2 (by rw [y];exact hl);rw [zaj z];exact e1.new b q1 q2
 ·exact n1.elim
end
def aug1 (i:Nat)(sd:SD):Option (Option SV)->Res D->Res Out
 |some (some (.val (.int a))),r=>r.bind fun d=>match d with
  | .int b=>.ok (.next (sd.set i (some (.val (.int (a+b))))))
  |_=>.no
 |_,_=>.no
def sAug (i:Nat)(f:FE):FS:=fun sd=>aug1 i sd sd[i]? (f sd)
@[simp] theorem ev_aug (i:Nat)(f:FE)(sd:SD):sAug i f sd=aug1 i sd sd[i]? (f sd):=rfl
@[simp] theorem aug1_int (i:Nat)(sd:SD)(a b:Int):aug1 i sd (some (some (.val (.int a)))) (.ok (.int b))=.ok (.next (sd.set i (some (.val (.int (a+b)))))):=rfl
theorem zr9 {X:Cx}{E:XK}{m:Option Bool}{e:Expr}{fe:FE}{pos:Pos}{i:Nat}{x:Str}{pos':Pos}(hN:X.N.Nodup)(hi:X.N[i]? = some x)(hx:Loc X.env.scope x)(he:QE X E e fe)
 (hf:X.fn x=true\/X.env.scope.names.lookup x=some .local:=by first|exact .inl rfl|exact .inr rfl):QS X E m (.AugAssign (.Name x pos') .Add e pos) (sAug i fe):=PS.weak (zra hN hi hx he zrS hf) fun T σ H ⟨B,F,sd,r,n⟩=>by
 unfold sAug at n;generalize hq:sd[i]? = q at n;cases q with
 |none=>exact False.elim n
 |some q=>cases q with
  |none=>exact False.elim n
  |some q=>cases q with
   |own p d=>exact False.elim n
   |val d=>cases d with
    |int a =>
     obtain ⟨v,h1,h2⟩:=r.val hq;rw [IsD.int_iff] at h2;subst h2;have n:((fe sd).bind fun d=>match d with
      | .int b=>Res.ok (Out.next (sd.set i (some (.val (.int (a+b))))))
      |_=>.no).need _ _:=n
     refine ⟨_,h1,B,F,sd,r,(Res.need_bind n).mono (fun d n1 v F1 H1 e1 i1=>?_) fun _ _ q=>q.ext r.ext⟩;cases d with
     |int b =>
      rw [IsD.int_iff] at i1;exact ⟨_,_,rfl,i1,n1 _ F1 H1 e1.ff ((r.step e1).setVal (IsD.int_iff.mpr rfl))⟩
     |_=>exact False.elim n1
    |_=>exact False.elim n
section
variable {X:Cx}{E:XK}{e:Expr}
end
end L2.DL
namespace L2
section
variable {X:Cx}
end
end L2
namespace L2.DL
section
variable {X:Cx}{E:XK}{m:Option Bool}{pos:Pos}
end
section
variable {P:Program}{w:World}{K:W.Frag}{mg:Str->Option Value}{base:Heap}{x qual:Str}{st:Stmt}{f:Addr}{fd:FuncData}{N ps:List Str}{k j:Nat}
end
section
variable {X:Cx}{pos:Pos}
section
variable {E:XK}{m:Option Bool}
end
theorem znm {K:W.Frag}{C:Addr}:W.kitOne K (.ref C) (.ref C)=some true:=by
 unfold W.kitOne;rw [if_pos (beq_iff_eq.mpr rfl)]
end
abbrev HP:=List (Addr×D)
def hpAt:HP->Addr->Option D
 | [],_=>none
 |p::r,a=>if a=p.1 then some p.2 else hpAt r a
def zax:HP->Addr->D->HP
 | [],_,_=>[]
 |p::r,a,d=>if a=p.1 then (p.1,d)::r else p::zax r a d
theorem zmN (a:Addr):hpAt [] a=none:=rfl
theorem zaf (p:Addr×D)(r:HP)(a:Addr):hpAt (p::r) a=if a=p.1 then some p.2 else hpAt r a:=rfl
theorem zbn:∀ {hp:HP} {a:Addr} {d:D} (b:Addr),hpAt hp a≠none->hpAt (zax hp a d) b=if b=a then some d else hpAt hp b
 | [],a,d,b,h=>absurd rfl h
 |p::r,a,d,b,h=>by
  unfold zax;by_cases z:a=p.1
  ·rw [if_pos z,zaf,zaf];show (if b=p.1 then some d else _)=_;rw [<- z];by_cases y:b=a
   ·rw [if_pos y,if_pos y]
   ·rw [if_neg y,if_neg y,if_neg y]
  ·rw [if_neg z,zaf,zaf];rw [zaf,if_neg z] at h;rw [zbn b h];by_cases y:b=p.1
   ·rw [if_pos y,if_pos y,if_neg fun x=>z (by rw [<- x,y])]
   ·rw [if_neg y,if_neg y]
structure RT (K:W.Frag)(B B':Bs)(F H:Hp)(sd:SD)(hp:HP)(σ : St):Prop where
 rs:RS K B' F H sd σ
 f0:B'.F0=B.F0
 pa:B'.pa=B.pa
 out:∀ a,hpAt hp a=none->B'.H0 a=B.H0 a
 obj:∀ a d,hpAt hp a=some d->B.F0 a=none/\B.H0 a=none/\zck K F B'.H0 a d
section
variable {K:W.Frag}{B B':Bs}{F F' H H':Hp}{sd sd':SD}{hp:HP}{σ σ':St}{a:Addr}{d:D}
theorem RT.sub (t:RT K B B' F H sd hp σ):Same B.H0 B'.H0:=fun a o e=>by
 cases q:hpAt hp a with
 |none=>rw [t.out a q];exact e
 |some d=>rw [(t.obj a d q).2.1] at e;exact zqn e
theorem RT.ext0 (t:RT K B B' F H sd hp σ){F2 H2:Hp}(e:Ext B'.F0 B'.H0 F2 H2):Ext B.F0 B.H0 F2 H2 :=
 ⟨by rw [<- t.f0];exact e.ff,e.fh,t.sub.trans e.hh,fun a h0 h1=>e.new a (by rw [t.f0];exact h0) fun z=>h1 (zas t.sub z)⟩
theorem RT.go (t:RT K B B' F H sd hp σ)(s:Same F F')(r:RS K B' F' H' sd' σ'):RT K B B' F' H' sd' hp σ' :=
 ⟨r,t.f0,t.pa,t.out,fun a d h=>let ⟨h1,h2,h3⟩:=t.obj a d h;⟨h1,h2,h3.ext s fun _ q=>q⟩⟩
theorem RT.free (t:RT K B B' F H sd hp σ)(h:hpAt hp a=some d):F a=none:=by
 obtain ⟨h1,h2,h3⟩:=t.obj a d h;obtain ⟨o,ho⟩:=h3.has;exact t.rs.ext.new a (by rw [t.f0];exact h1) (by rw [ho];simp)
theorem RT.lies (t:RT K B B' F H sd hp σ)(h:hpAt hp a=some d):zck K F H a d:=(t.obj a d h).2.2.ext (.refl _) fun o q=>t.rs.ext.hh _ _ q
theorem RT.no_own (t:RT K B B' F H sd hp σ)(h:hpAt hp a=some d){l:Addr}(hl:B'.H0 l=none):l≠a:=fun z=>by
 obtain ⟨o,ho⟩:=(t.obj a d h).2.2.has;rw [<- z,hl] at ho;exact zqn ho
theorem RT.start (r:RS K B F H sd σ):RT K B B F H sd [] σ := ⟨r,rfl,rfl,fun _ _=>rfl,fun a d h=>by cases h⟩
theorem RT.xw {E:XK}{c:Str}{fs:List D}(t:RT K B B' F H sd hp σ)(h:XW K E B.F0 B.H0 c fs):XW K E B'.F0 B'.H0 c fs:=fun cv a F2 H2 e q=>h cv a F2 H2 (t.ext0 e) q
theorem RT.chg (t:RT K B B' F H sd hp σ){d':D}{o:HO}(ha:hpAt hp a=some d)(h:zck K F (upd H a o) a d'):RT K B ⟨B'.F0,upd B'.H0 a o,B'.pa⟩ F (upd H a o) sd (zax hp a d') σ := by
 have hf:=t.free ha;obtain ⟨b1,b2,b3⟩:=t.obj a d ha;have hn:hpAt hp a≠none:=by rw [ha];simp
 refine ⟨⟨⟨t.rs.ext.ff,zdE o t.rs.ext.fh hf,fun b u e=>?_,fun b h0 h1=>?_⟩,t.rs.len,t.rs.val,fun {i p e} q=>?_,t.rs.apart⟩,t.f0,t.pa,fun b hb=>?_,fun b e hb=>?_⟩
 ·have e:upd B'.H0 a o b=some u:=e;by_cases z:b=a
  ·subst z;rw [zai] at e ⊢;exact e
  ·rw [zaj z] at e ⊢;exact t.rs.ext.hh _ _ e
 ·by_cases z:b=a
  ·rw [z];exact hf
  ·exact t.rs.ext.new b h0 fun y=>h1 (by show upd B'.H0 a o b=none;rw [zaj z];exact y)
 ·obtain ⟨l,l1,l2,l3,l4,l5⟩:=t.rs.own q;have ne:=t.no_own ha l2;exact ⟨l,l1,(zaj ne).trans l2,l3,l4.ext (.refl _) (fun u q'=>by rw [zaj ne];exact q'),fun z=>(l5 z).mono fun u q'=>by rw [zaj ne];exact q'⟩
 ·rw [zbn b hn] at hb;by_cases z:b=a
  ·rw [if_pos z] at hb;exact zqn hb.symm
  ·rw [if_neg z] at hb;show upd B'.H0 a o b=B.H0 b;rw [zaj z];exact t.out b hb
 ·rw [zbn b hn] at hb;by_cases z:b=a
  ·rw [if_pos z] at hb;obtain rfl:=Zqi hb;subst z;exact ⟨b1,b2,h.ext (.refl _) fun u q=>by show upd B'.H0 b o b=some u;rw [zai] at q ⊢;exact q⟩
  ·rw [if_neg z] at hb;obtain ⟨c1,c2,c3⟩:=t.obj b e hb;exact ⟨c1,c2,c3.ext (.refl _) fun u q=>by show upd B'.H0 a o b=some u;rw [zaj z];exact q⟩
def addF (F H0:Hp)(hp:HP):Hp:=fun a=>match hpAt hp a with
 |some _=>H0 a
 |none=>F a
end
section
variable {K:W.Frag}{B:Bs}{F H:Hp}{sd:SD}{hp:HP}{σ : St}
theorem znd {α : Type}{l:List α}{i:Nat}{a:α}(h:l[i]? = some a):l.set i a=l:=by
 apply List.ext_getElem?;intro j;by_cases z:i=j
 ·subst z;rw [List.getElem?_set_self (List.getElem?_eq_some_iff.mp h).1,h]
 ·rw [List.getElem?_set_ne z]
theorem RS.reval {i:Nat}{d d':D}(r:RS K B F H sd σ)(hi:sd[i]? = some (some (.val d)))(h:∀ v,IsD K F d v->IsD K F d' v):RS K B F H (sd.set i (some (.val d'))) σ := by
 obtain ⟨v,h1,h2⟩:=r.val hi;have:=r.setVal (i:=i) (h v h2);rw [znd h1] at this;exact this
end
section
variable {K:W.Frag}{E:XK}{m:Option Bool}{B B':Bs}{F F' H:Hp}{T:Ends}{sd:SD}{hp:HP}{σ : St}
end
section
variable {X:Cx}{E:XK}{m:Option Bool}{st:Stmt}{sts:List Stmt}{g:FS}{g1 g2:FS2}{pos pos':Pos}{o i e:Expr}{fo fi fv:FE}
end
section
variable {X:Cx}{E:XK}{m:Option Bool}{pos pos':Pos}
end
def Lent (K:W.Frag)(F H:Hp)(hp:HP):Prop:=∀ a d,hpAt hp a=some d->F a=none/\zck K F H a d
theorem RT.lent {K:W.Frag}{B B':Bs}{F H:Hp}{sd:SD}{hp:HP}{σ : St}(t:RT K B B' F H sd hp σ):Lent K F H hp:=fun _ _ h=>⟨t.free h,t.lies h⟩
section
variable {X:Cx}{E:XK}{m:Option Bool}{a e o:Expr}{fe fa fo fv:FE}{f2:FE2}{pos p:Pos}
end
section
variable {K:W.Frag}{B B':Bs}{F H:Hp}{sd:SD}{hp:HP}{σ : St}
end
section
variable {X:Cx}{E:XK}{m:Option Bool}{pos pos':Pos}
end
section
variable {X:Cx}{o e:Expr}{fe:FE2}{g:FA2}{pos pos':Pos}{ss:List Stmt}{c f:Str}{C:Addr}{fs names:List Str}
end
section
variable {P:Program}{w:World}{K:W.Frag}{mg:Str->Option Value}{base:Heap}{x qual:Str}{st:Stmt}{f:Addr}{fd:FuncData}{N ps:List Str}{k:Nat}
end
section
variable {X:Cx}{pos:Pos}
end
theorem zcp:∀ {hp:HP} {a:Addr},hpAt hp a=none↔a∉hp.map (·.1)
 | [],a=>by simp [zmN]
 |p::r,a=>by
  rw [zaf,List.map_cons,List.mem_cons,not_or];by_cases z:a=p.1
  ·rw [if_pos z];exact ⟨fun h=>(nomatch h),fun h=>absurd z h.1⟩
  ·rw [if_neg z,zcp (hp:=r)];exact ⟨fun h=>⟨z,h⟩,fun h=>h.2⟩
def hide (H:Hp)(hp:HP):Hp:=fun a=>match hpAt hp a with
 |none=>H a
 |some _=>none
theorem zaY {H:Hp}{hp:HP}{a:Addr}(h:hpAt hp a=none):hide H hp a=H a:=by unfold hide;rw [h]
theorem zfk {H:Hp}{hp:HP}{a:Addr}{d:D}(h:hpAt hp a=some d):hide H hp a=none:=by unfold hide;rw [h]
section
variable {K:W.Frag}{B B':Bs}{F F' H H':Hp}{sd:SD}{hp hp':HP}{σ : St}
theorem RT.hidden (t:RT K B B' F H sd hp σ):Ext B.F0 B.H0 F (hide H hp):=by
 have e:=t.ext0 t.rs.ext;refine ⟨e.ff,fun a o q=>?_,fun a o q=>?_,e.new⟩
 ·cases z:hpAt hp a with
  |none=>rw [zaY z];exact e.fh _ _ q
  |some d=>rw [t.free z] at q;exact zqn q
 ·cases z:hpAt hp a with
  |none=>rw [zaY z];exact e.hh _ _ q
  |some d=>rw [(t.obj a d z).2.1] at q;exact zqn q
end
section
variable {P:Program}{w:World}{K:W.Frag}{mg:Str->Option Value}{base:Heap}{x qual:Str}{st:Stmt}{f:Addr}{fd:FuncData}{N ps:List Str}{k:Nat}
end
section
variable {X:Cx}{pos:Pos}
end
section
variable {X:Cx}{E:XK}{m:Option Bool}{e o:Expr}{f:FX}{pos pos':Pos}
end
def sNo:FS:=fun _=>.no
theorem zd6 {X:Cx}{E:XK}{m:Option Bool}{st:Stmt}:QS X E m st sNo:=fun pins s σ H T I ⟨B,F,sd,r,n⟩=>n.elim
structure Ev where
 P:Program
 w:World
 K:W.Frag
 mg:Str->Option Value
 base:Heap
 C:Nat->Addr
 t:Nat->Tok
abbrev Ca (e:Ev):=zcS e.P e.w e.K e.mg e.base
def Dfs (K:W.Frag)(T:Nat->Stmt):List (Str×Nat)->Prop
 | []=>True
 |p::r=>zhm K p.1 (T p.2)/\Dfs K T r
def Nn (K:W.Frag):List Str->Prop
 | []=>True
 |x::r=>W.nsIn K mainGlobals x=some none/\Nn K r
theorem dfs_cons {K:W.Frag}{T:Nat->Stmt}{x:Str}{i:Nat}{r:List (Str×Nat)}(h:zhm K x (T i))(q:Dfs K T r):Dfs K T ((x,i)::r):=⟨h,q⟩
theorem nn_cons {K:W.Frag}{x:Str}{r:List Str}(h:W.nsIn K mainGlobals x=some none)(q:Nn K r):Nn K (x::r):=⟨h,q⟩
theorem zog {K:W.Frag}{T:Nat->Stmt}:∀ {l:List (Str×Nat)} {j:Nat} {p:Str×Nat},Dfs K T l->l[j]? = some p->zhm K p.1 (T p.2)
 | [],j,p,_,h=>by simp at h
 |q::r,0,p,d,h=>by
  obtain rfl:q=p:=by simpa using h
  exact d.1
 |q::r,j+1,p,d,h=>zog d.2 (by simpa using h)
theorem zr6 {K:W.Frag}{h:Heap}{mg:Str->Option Value}(X:K.In h)(G:h.Ns mainGlobals mg):∀ {l:List Str},Nn K l->∀ x∈l,mg x=none
 | [],_,x,q=>by simp at q
 |y::r,d,x,q=>by
  rcases List.mem_cons.mp q with z|z
  ·rw [z];exact W.mg_none_of X G d.1
  ·exact zr6 X G d.2 x z
abbrev Mgs (mg:Str->Option Value)(bl:List Str):Prop:=∀ x∈bl,mg x=none
theorem zar {mg:Str->Option Value}{bl:List Str}{x:Str}(m:Mgs mg bl)(h:x∈bl:=by decide):mg x=none:=m x h
structure Al (e:Ev)(T:Nat->Stmt)(tbl:List (Str×Nat))(bl:List Str):Prop where
 h:∃ h,e.K.In h/\h.Ns mainGlobals e.mg
 d:Dfs e.K T tbl
 m:Mgs e.mg bl
section
variable {e:Ev}{T:Nat->Stmt}{tbl:List (Str×Nat)}{bl:List Str}{x:Str}{k:Nat}{ps:List Str}{sp:Sp}
abbrev zrO (x:Str)(st:Stmt)(ps:List Str):Prop:=∀ (kV doc pm:Value) (an:Option Addr) (cdv ct:Value) (us:List Value),us.length=ps.length->bindArgs (W.fnOf x x (zdo st) (zbz st) (za3 st) .none kV doc pm an cdv ct) ⟨us,[]⟩=pure (ps.zip us)
theorem mkC (a:Al e T tbl bl)(j i:Nat)(ok:∀ {f:Addr} {fd:FuncData},Fun e.K x x (T i) f fd->FnOk e.P e.w e.K e.mg e.base CX0 k f fd ps sp)(h:tbl[j]? = some (x,i):=by rfl)
 (hb:zrO x (T i) ps:=by intro _ _ _ _ _ _;first|exact us2 fun _ _=>rfl|exact us3 fun _ _ _=>rfl|exact us1 fun _=>rfl|exact us4 fun _ _ _ _=>rfl|exact us5 fun _ _ _ _ _=>rfl|exact us6 fun _ _ _ _ _ _=>rfl):Ca e x k ps sp:=by
 obtain ⟨_,X,G⟩:=a.h;exact (show zhm e.K x (T i) from zog a.d h).callee X G ok hb
end
theorem ndx {X:Cx}(h:X.N.Nodup:=by dsimp only [za4,cxOf,Cx.nox];decide +kernel):X.N.Nodup:=h
theorem qv {X:Cx}{E:XK}(i:Nat){x:Str}{pos:Pos}(hN:X.N[i]? = some x:=by rfl)(hv:autoParam (Vis X.env.scope x) pv._auto_2)(hd:(x == ("__debug__" : Str))=false:=by decide)(hcd:(x == ("__classdict__" : Str))=false:=by decide):QE X E (.Name x pos) (dVar i):=q_var (pv i hN hv hd hcd)
inductive Wr (α : Type) where
 |ok (a:α)|ex (c:Str) (fs:List D)|no|new (hp:HP) (k:Addr->Wr α)
def Wr.bind {α β : Type}:Wr α -> (α -> Wr β)->Wr β
 | .ok a,g=>g a
 | .ex c fs,_=>.ex c fs
 | .no,_=>.no
 | .new hp k,g=>.new hp fun a=>(k a).bind g
def Wr.need {α : Type}:Wr α -> (α -> Prop)->(Str->List D->Prop)->Prop
 | .ok a,p,_=>p a
 | .ex c fs,_,q=>q c fs
 | .no,_,_=>False
 | .new hp k,p,q=>∀ a,hpAt hp a=none->(k a).need p q
def Wr.of {α : Type}:Res α -> Wr α
 | .ok a=>.ok a
 | .ex c fs=>.ex c fs
 | .no=>.no
@[simp] theorem Wr.bind_ok {α β : Type}(a:α)(g:α -> Wr β):(Wr.ok a).bind g=g a:=rfl
@[simp] theorem Wr.bind_new {α β : Type}(hp:HP)(k:Addr->Wr α)(g:α -> Wr β):(Wr.new hp k).bind g=.new hp fun a=>(k a).bind g:=rfl
@[simp] theorem Wr.need_ok {α : Type}(a:α)(p:α -> Prop)(q:Str->List D->Prop):(Wr.ok a).need p q=p a:=rfl
@[simp] theorem Wr.need_new {α : Type}(hp:HP)(k:Addr->Wr α)(p:α -> Prop)(q:Str->List D->Prop):(Wr.new hp k).need p q = ∀ a,hpAt hp a=none->(k a).need p q:=rfl
@[simp] theorem Wr.of_ok {α : Type}(a:α):Wr.of (Res.ok a)=.ok a:=rfl
theorem Wr.need_bind {α β : Type}{p:β -> Prop}{q:Str->List D->Prop}{g:α -> Wr β}:∀ {r:Wr α},(r.bind g).need p q↔r.need (fun a=>(g a).need p q) q
 | .ok _=>.rfl
 | .ex _ _=>.rfl
 | .no=>.rfl
 | .new _ k=>forall_congr' fun a=>imp_congr .rfl (Wr.need_bind (r:=k a))
theorem Wr.need.mono {α : Type}{p p' : α -> Prop}{q q':Str->List D->Prop}(hp:∀ a,p a->p' a)(hq:∀ c fs,q c fs->q' c fs):∀ {r:Wr α},r.need p q->r.need p' q'
 | .ok _,h=>hp _ h
 | .ex _ _,h=>hq _ _ h
 | .no,h=>h
 | .new _ k,h=>fun a z=>Wr.need.mono hp hq (r:=k a) (h a z)
theorem Wr.need_of {α : Type}{r:Res α}{p:α -> Prop}{q:Str->List D->Prop}:(Wr.of r).need p q↔r.need p q:=by cases r<;>exact .rfl
theorem Wr.nb {α β : Type}{p:β -> Prop}{q:Str->List D->Prop}{g:α -> Wr β}{r:Wr α}(h:(r.bind g).need p q){p' : α -> Prop}(k:∀ a,(g a).need p q->p' a):r.need p' q:=(Wr.need_bind.mp h).mono k fun _ _ z=>z
theorem Wr.nbo {α β : Type}{p:β -> Prop}{q q':Str->List D->Prop}{g:α -> Wr β}{r:Res α}(h:((Wr.of r).bind g).need p q){p' : α -> Prop}(k:∀ a,(g a).need p q->p' a)(k':∀ c fs,q c fs->q' c fs):r.need p' q':=(Wr.need_of.mp (Wr.need_bind.mp h)).mono k k'
def dr (hp:HP):Nat->D->D
 | 0,d=>d
 |n+1,.adr a=>match hpAt hp a with
  |some d=>dr hp n d
  |none=>.adr a
 |n+1,.lst ds=>.lst (ds.map (dr hp n))
 |n+1,.tup ds=>.tup (ds.map (dr hp n))
 |n+1,.dct ks ds=>.dct ks (ds.map (dr hp n))
 |n+1,.ins c fs ds=>.ins c fs (ds.map (dr hp n))
 |_+1,d=>d
def drI (n:Nat)(hp:HP):List Nat->SD->SD
 | [],sd=>sd
 |i::is,sd=>drI n hp is (match sd[i]? with
  |some (some (.val d))=>sd.set i (some (.val (dr hp n d)))
  |_=>sd)
section
variable {K:W.Frag}{B B':Bs}{F H F' H':Hp}{sd:SD}{hp hp':HP}{σ : St}
theorem IsDs.mapOf {g:D->D}(h:∀ d v,IsD K F d v->IsD K F (g d) v):∀ {ds:List D} {xs:List V},IsDs K F ds xs->IsDs K F (ds.map g) xs
 | [],_,i=>i
 |d::ds,xs,i=>by
  obtain ⟨x,r,h1,h2,h3⟩:=IsDs.cons_iff.mp i;exact IsDs.cons_iff.mpr ⟨x,r,h1,h d x h2,IsDs.mapOf h h3⟩
theorem IsD.dr (ho:∀ a d,hpAt hp a=some d->IsD K F d (.ref a)):∀ (n:Nat) (d:D) (v:V),IsD K F d v->IsD K F (dr hp n d) v
 | 0,_,_,h=>h
 |n+1,.adr a,v,h=>by
  obtain rfl:=IsD.adr_iff.mp h;unfold L2.DL.dr
  split
  ·rename_i d q;exact IsD.dr ho n d _ (ho a d q)
  ·exact h
 |n+1,.lst ds,v,h=>by
  obtain ⟨a,xs,h1,h2,h3⟩:=IsD.lst_iff.mp h;exact IsD.lst_iff.mpr ⟨a,xs,h1,h2,IsDs.mapOf (IsD.dr ho n) h3⟩
 |n+1,.tup ds,v,h=>by
  obtain ⟨a,xs,h1,h2,h3⟩:=IsD.tup_iff.mp h;exact IsD.tup_iff.mpr ⟨a,xs,h1,h2,IsDs.mapOf (IsD.dr ho n) h3⟩
 |n+1,.dct ks ds,v,h=>by
  obtain ⟨a,xs,h1,h2,h4,h3⟩:=IsD.dct_iff.mp h;exact IsD.dct_iff.mpr ⟨a,xs,h1,h2,h4,IsDs.mapOf (IsD.dr ho n) h3⟩
 |n+1,.ins c fs ds,v,h=>by
  obtain ⟨a,C,dx,xs,h1,h5,h2,h4,h3⟩:=IsD.ins_iff.mp h;exact IsD.ins_iff.mpr ⟨a,C,dx,xs,h1,h5,h2,h4,IsDs.mapOf (IsD.dr ho n) h3⟩
 |_+1,.non,_,h=>h
 |_+1,.bl _,_,h=>h
 |_+1,.int _,_,h=>h
 |_+1,.str _,_,h=>h
 |_+1,.ty _,_,h=>h
 |_+1,.scr _,_,h=>h
 |_+1,.exc _,_,h=>h
 |_+1,.ucl _,_,h=>h
 |_+1,.dcf _ _,_,h=>h
 |_+1,.pin _ _,_,h=>h
theorem RS.drI (ho:∀ a d,hpAt hp a=some d->IsD K F d (.ref a))(n:Nat):∀ (is:List Nat) {sd:SD},RS K B F H sd σ -> RS K B F H (drI n hp is sd) σ
 | [],sd,r=>r
 |i::is,sd,r=>by
  unfold L2.DL.drI
  split
  ·rename_i d h;exact RS.drI ho n is (r.reval h fun v q=>IsD.dr ho n d v q)
  ·exact RS.drI ho n is r
def zc8:Nat->D->Bool
 |n+1,.tup ds=>ds.all (zc8 n)
 |_,d=>zec d
theorem IsDs.flatOf {g:D->Bool}(h:∀ d v,g d=true->IsD K F d v->IsD K F' d v):∀ {ds:List D} {xs:List V},ds.all g=true->IsDs K F ds xs->IsDs K F' ds xs
 | [],_,_,i=>i
 |d::ds,xs,s,i=>by
  obtain ⟨x,r,h1,h2,h3⟩:=IsDs.cons_iff.mp i;rw [List.all_cons,Bool.and_eq_true] at s;exact IsDs.cons_iff.mpr ⟨x,r,h1,h d x s.1 h2,IsDs.flatOf h s.2 h3⟩
theorem IsD.flat (hk:∀ a xs,F a=some (.tup xs)->F' a=some (.tup xs)):∀ (n:Nat) (d:D) (v:V),zc8 n d=true->IsD K F d v->IsD K F' d v
 | 0,d,v,s,h=>h.scal (by cases d<;>exact s)
 |n+1,d,v,s,h=>by
  cases d with
  |tup ds =>
   obtain ⟨a,xs,h1,h2,h3⟩:=IsD.tup_iff.mp h;exact IsD.tup_iff.mpr ⟨a,xs,h1,.of (hk a xs h2),IsDs.flatOf (IsD.flat hk n) s h3⟩
  |_=>exact h.scal s
theorem zck.noTup {a:Addr}{d:D}{o:HO}(h:zck K F H a d)(e:H a=Option.some o)(xs:List V):o ≠ .tup xs:=fun z=>by
 subst z;cases d with
 |lst ds=>obtain ⟨_,q,_⟩:=h;rw [e] at q;cases q
 |dct ks ds=>obtain ⟨_,q,_⟩:=h;rw [e] at q;cases q
 |ins c fs ds=>obtain ⟨_,_,_,_,q,_⟩:=h;rw [e] at q;cases q
 |_=>exact h
theorem RT.frzA (t:RT K B B' F H sd hp σ):Same F (addF F B'.H0 hp)/\RS K B (addF F B'.H0 hp) H sd σ /\ ∀ a d,hpAt hp a=some d->IsD K (addF F B'.H0 hp) d (.ref a):=by
 have s0:∀ b d,hpAt hp b=some d->addF F B'.H0 hp b=B'.H0 b:=fun b d e=>by unfold addF;rw [e]
 have s1:∀ b,hpAt hp b=none->addF F B'.H0 hp b=F b:=fun b e=>by unfold addF;rw [e]
 have sF:Same F (addF F B'.H0 hp):=fun b u e=>by
  cases q:hpAt hp b with
  |none=>rw [s1 b q];exact e
  |some d=>rw [t.free q] at e;exact zqn e
 refine ⟨sF,⟨⟨?_,fun b u e=>?_,t.sub.trans t.rs.ext.hh,fun b h0 h1=>?_⟩,t.rs.len,fun q=>let ⟨v,h1,h2⟩:=t.rs.val q;⟨v,h1,IsD.same sF _ _ h2⟩,fun {i p e} q=>?_,t.rs.apart⟩,fun b e hb=>?_⟩
 ·rw [<- t.f0];exact t.rs.ext.ff.trans sF
 ·cases q:hpAt hp b with
  |none=>rw [s1 b q] at e;exact t.rs.ext.fh _ _ e
  |some d=>rw [s0 b d q] at e;exact t.rs.ext.hh _ _ e
 ·cases q:hpAt hp b with
  |none=>rw [s1 b q];exact t.rs.ext.new b (by rw [t.f0];exact h0) (by rw [t.out b q];exact h1)
  |some d=>exact absurd (t.obj b d q).2.1 h1
 ·obtain ⟨l,l1,l2,l3,l4,l5⟩:=t.rs.own q;have hl:hpAt hp l=none:=by
   cases z:hpAt hp l with
   |none=>rfl
   |some d'=>exact absurd rfl (t.no_own z l2)
  exact ⟨l,l1,zas t.sub l2,by rw [s1 l hl];exact l3,l4.ext sF fun _ q=>q,fun z=>by rw [<- t.pa];exact l5 z⟩
 ·obtain ⟨c1,c2,c3⟩:=t.obj b e hb;obtain ⟨o,ho⟩:=c3.has;refine IsD.same (fun c u q=>?_) _ _ (c3.frz ho (t.free hb));by_cases z:c=b
  ·subst z;rw [zai] at q;rw [s0 c e hb,ho];exact q
  ·rw [zaj z] at q;exact sF _ _ q
theorem RT.thaw (t:RT K B B' F H sd hp σ){F2 H2:Hp}(e:Ext (addF F B'.H0 hp) H F2 H2):RT K B B' (hide F2 hp) H2 sd hp σ /\ Same F (hide F2 hp)/\∀ a xs,F2 a=some (.tup xs)->hide F2 hp a=some (.tup xs):=by
 obtain ⟨s1,r1,ho⟩:=t.frzA;have sF:Same F (hide F2 hp):=fun a o q=>by
  cases z:hpAt hp a with
  |none=>rw [zaY z];exact e.ff _ _ (s1 _ _ q)
  |some d=>rw [t.free z] at q;exact zqn q
 have ex:Ext F H (hide F2 hp) H2:=⟨sF,fun a o q=>by
  cases z:hpAt hp a with
  |none=>rw [zaY z] at q;exact e.fh _ _ q
  |some d=>rw [zfk z] at q;exact zqn q,e.hh,fun a h0 h1=>by
  cases z:hpAt hp a with
  |none=>rw [zaY z];exact e.new a (by unfold addF;rw [z];exact h0) h1
  |some d=>exact zfk z⟩
 refine ⟨t.go sF (t.rs.step ex),sF,fun a xs q=>?_⟩;cases z:hpAt hp a with
 |none=>rw [zaY z];exact q
 |some d =>
  obtain ⟨_,_,c3⟩:=t.obj a d z;obtain ⟨o,ho⟩:=c3.has;have q1:=e.ff a o (by unfold addF;rw [z];exact ho);rw [q] at q1;exact absurd (Zqi q1).symm (c3.noTup ho xs)
theorem RT.newO (t:RT K B B' F H sd hp σ){a:Addr}{d:D}{o:HO}(ha:H a=none)(h:zck K F (upd H a o) a d):hpAt hp a=none/\RT K B ⟨B'.F0,upd B'.H0 a o,B'.pa⟩ F (upd H a o) sd ((a,d)::hp) σ := by
 have hn:hpAt hp a=none:=by
  cases z:hpAt hp a with
  |none=>rfl
  |some d' =>
   obtain ⟨u,hu⟩:=(t.lies z).has;rw [ha] at hu;exact zqn hu
 have hf:F a=none:=zas t.rs.ext.fh ha;have h0:B'.H0 a=none:=zas t.rs.ext.hh ha;have b0:B.H0 a=none:=by rw [<- t.out a hn];exact h0
 refine ⟨hn,⟨⟨t.rs.ext.ff,zdE o t.rs.ext.fh hf,fun b u e=>?_,fun b q0 q1=>?_⟩,t.rs.len,t.rs.val,fun {i p e} q=>?_,t.rs.apart⟩,t.f0,t.pa,fun b hb=>?_,fun b e hb=>?_⟩
 ·have e:upd B'.H0 a o b=some u:=e;by_cases z:b=a
  ·subst z;rw [zai] at e ⊢;exact e
  ·rw [zaj z] at e ⊢;exact t.rs.ext.hh _ _ e
 ·by_cases z:b=a
  ·rw [z];exact hf
  ·exact t.rs.ext.new b q0 fun y=>q1 (by show upd B'.H0 a o b=none;rw [zaj z];exact y)
 ·obtain ⟨l,l1,l2,l3,l4,l5⟩:=t.rs.own q;have ne:l≠a:=fun z=>by
   obtain ⟨u,hu⟩:=l4.has;rw [z,ha] at hu;exact zqn hu
  exact ⟨l,l1,(zaj ne).trans l2,l3,l4.ext (.refl _) (fun u q'=>by rw [zaj ne];exact q'),fun z=>(l5 z).mono fun u q'=>by rw [zaj ne];exact q'⟩
 ·rw [zaf] at hb;by_cases z:b=a
  ·rw [if_pos z] at hb;exact zqn hb.symm
  ·rw [if_neg z] at hb;show upd B'.H0 a o b=B.H0 b;rw [zaj z];exact t.out b hb
 ·rw [zaf] at hb;by_cases z:b=a
  ·rw [if_pos z] at hb;obtain rfl:=Zqi hb;subst z;exact ⟨by rw [<- t.f0];exact zas t.rs.ext.ff hf,b0,h.ext (.refl _) fun u q=>by show upd B'.H0 b o b=some u;rw [zai] at q ⊢;exact q⟩
  ·rw [if_neg z] at hb;obtain ⟨c1,c2,c3⟩:=t.obj b e hb;exact ⟨c1,c2,c3.ext (.refl _) fun u q=>by show upd B'.H0 a o b=some u;rw [zaj z];exact q⟩
structure ExtV (K:W.Frag)(F H:Hp)(hp:HP)(F' H':Hp)(hp':HP):Prop where
 ff:Same F F'
 fh:Same F' H'
 hh:∀ a o,hpAt hp a=none->H a=some o->H' a=some o
 new:∀ a,F a=none->H a≠none->F' a=none
 len:Lent K F' H' hp'
 dom:∀ a,hpAt hp' a=none->hpAt hp a=none
 frs:∀ a,hpAt hp a=none->hpAt hp' a≠none->H a=none
theorem RT.callV (t:RT K B B' F H sd hp σ)(w:ExtV K F H hp F' H' hp'):∃ B2,RT K B B2 F' H' sd hp' σ := by
 have h0:∀ a,(match hpAt hp' a with
  |none=>B'.H0 a
  |some _=>H' a)=if hpAt hp' a=none then B'.H0 a else H' a:=fun a=>by cases hpAt hp' a<;>rfl
 refine ⟨⟨B'.F0,fun a=>match hpAt hp' a with
  |none=>B'.H0 a
  |some _=>H' a,B'.pa⟩,⟨⟨t.rs.ext.ff.trans w.ff,w.fh,fun a o e=>?_,fun a q0 q1=>?_⟩,t.rs.len,fun q=>let ⟨v,h1,h2⟩:=t.rs.val q;⟨v,h1,IsD.same w.ff _ _ h2⟩,fun {i p e} q=>?_,t.rs.apart⟩,t.f0,t.pa,fun a ha=>?_,fun a d ha=>?_⟩
 ·have e:(match hpAt hp' a with
   |none=>B'.H0 a
   |some _=>H' a)=some o:=e
  cases z:hpAt hp' a with
  |none=>rw [z] at e;exact w.hh a o (w.dom a z) (t.rs.ext.hh _ _ e)
  |some d=>rw [z] at e;exact e
 ·have q1:(match hpAt hp' a with
   |none=>B'.H0 a
   |some _=>H' a)≠none:=q1
  cases z:hpAt hp' a with
  |none =>
   rw [z] at q1;exact w.new a (t.rs.ext.new a q0 q1) fun y=>q1 (zas t.rs.ext.hh y)
  |some d=>exact (w.len a d z).1
 ·obtain ⟨l,l1,l2,l3,l4,l5⟩:=t.rs.own q;have hl:hpAt hp l=none:=by
   cases z:hpAt hp l with
   |none=>rfl
   |some d'=>exact absurd rfl (t.no_own z l2)
  obtain ⟨o,ho⟩:=l4.has;have hl':hpAt hp' l=none:=by
   cases z:hpAt hp' l with
   |none=>rfl
   |some d' =>
    have:=w.frs l hl (by rw [z];simp);rw [ho] at this;exact zqn this.symm
  refine ⟨l,l1,?_,w.new l l3 (by rw [ho];simp),l4.ext w.ff fun u q=>w.hh _ _ hl q,fun z=>(l5 z).mono fun u q=>w.hh _ _ hl q⟩;show (match hpAt hp' l with
   |none=>B'.H0 l
   |some _=>H' l)=none
  rw [hl'];exact l2
 ·show (match hpAt hp' a with
   |none=>B'.H0 a
   |some _=>H' a)=B.H0 a
  rw [ha];exact t.out a (w.dom a ha)
 ·have key:B.F0 a=none/\B.H0 a=none:=by
   cases z:hpAt hp a with
   |none =>
    have hH:=w.frs a z (by rw [ha];simp);exact ⟨by rw [<- t.f0];exact zas t.rs.ext.ff (zas t.rs.ext.fh hH),by rw [<- t.out a z];exact zas t.rs.ext.hh hH⟩
   |some d0=>exact ⟨(t.obj a d0 z).1,(t.obj a d0 z).2.1⟩
  refine ⟨key.1,key.2,(w.len a d ha).2.ext (.refl _) fun o q=>?_⟩;show (match hpAt hp' a with
   |none=>B'.H0 a
   |some _=>H' a)=some o
  rw [ha];exact q
end
abbrev FV:=SD->HP->Wr (D×HP)
abbrev FVA:=SD->HP->Wr (List D×HP)
abbrev FVT:=SD->HP->Wr (Bool×HP)
def OkV (K:W.Frag)(B:Bs)(F:Hp)(sd:SD)(σ : St)(Q:VK)(p:D×HP):Prop:=∀ v B2 F' H',Same F F'->RT K B B2 F' H' sd p.2 σ -> IsD K F' p.1 v->Q v H'
def tDV (K:W.Frag)(E:XK)(f:FV):TE:=fun σ H Q=>∃ B B' F sd hp,RT K B B' F H sd hp σ /\ (f sd hp).need (OkV K B F sd σ Q) (XW K E B.F0 B.H0)
abbrev QV (X:Cx)(E:XK)(e:Expr)(f:FV):Prop:=PE X e (tDV X.K E f)
def tDVA (K:W.Frag)(E:XK)(f:FVA):TA:=fun σ H Q=>∃ B B' F sd hp,RT K B B' F H sd hp σ /\ (f sd hp).need (fun p=>∀ vs B2 F' H',Same F F'->RT K B B2 F' H' sd p.2 σ -> IsDs K F' p.1 vs->Q vs H') (XW K E B.F0 B.H0)
abbrev QVA (X:Cx)(E:XK)(es:List Expr)(f:FVA):Prop:=PA X es (tDVA X.K E f)
def tDVT (K:W.Frag)(E:XK)(f:FVT):TT:=fun σ H Q=>∃ B B' F sd hp,RT K B B' F H sd hp σ /\ (f sd hp).need (fun p=>∀ B2 F' H',Same F F'->RT K B B2 F' H' sd p.2 σ -> Q p.1 H') (XW K E B.F0 B.H0)
abbrev QVT (X:Cx)(E:XK)(e:Expr)(f:FVT):Prop:=PT X e (tDVT X.K E f)
section
variable {X:Cx}{E:XK}{m:Option Bool}{a b e o i:Expr}{es:List Expr}{fe fa fb fo fi:FE}{ft:FT}{vo vi ve:FV}{fr:FVA}{pos pos':Pos}
def vL (f:FE):FV:=fun sd hp=>(Wr.of (f sd)).bind fun d=>.ok (d,hp)
theorem zae (h:QE X E e fe):QV X E e (vL fe):=PE.weak h fun σ H Q ⟨B,B',F,sd,hp,t,n⟩=>⟨B',F,sd,t.rs,Wr.nbo n (fun d n1 v F1 H1 e1 i1=>n1 v B' F1 H1 e1.ff (t.go e1.ff (t.rs.step e1)) i1) fun _ _ q=>q.ext (t.ext0 t.rs.ext)⟩
def vLT (f:FT):FVT:=fun sd hp=>(Wr.of (f sd)).bind fun d=>.ok (d,hp)
theorem zhY (h:QT X E e ft):QVT X E e (vLT ft):=PT.weak h fun σ H Q ⟨B,B',F,sd,hp,t,n⟩=>⟨B',F,sd,t.rs,Wr.nbo n (fun d n1 F1 H1 e1=>n1 B' F1 H1 e1.ff (t.go e1.ff (t.rs.step e1))) fun _ _ q=>q.ext (t.ext0 t.rs.ext)⟩
def vRd (k:Nat)(is:List Nat)(f:FE):FV:=fun sd hp=>(Wr.of (f (drI k hp is sd)).strict).bind fun d=>if zc8 8 d then .ok (d,hp) else .no
theorem zcH (k:Nat)(is:List Nat)(h:QE X E e fe):QV X E e (vRd k is fe):=PE.weak h fun σ H Q ⟨B,B',F,sd,hp,t,n⟩=>by
 obtain ⟨s1,r1,ho⟩:=t.frzA;refine ⟨B,_,_,r1.drI ho k is,(Res.need_strict (Wr.need_of.mp (Wr.need_bind.mp n))).mono (fun d n1 v F2 H2 e2 i2=>?_) fun c fs q=>q⟩
 split at n1
 ·rename_i hs;obtain ⟨t2,s2,k2⟩:=t.thaw e2;exact n1 v B' _ H2 s2 t2 (IsD.flat k2 8 d v hs i2)
 ·exact n1.elim
def vRdT (k:Nat)(is:List Nat)(f:FT):FVT:=fun sd hp=>(Wr.of (f (drI k hp is sd)).strict).bind fun d=>.ok (d,hp)
theorem zdu (k:Nat)(is:List Nat)(h:QT X E e ft):QVT X E e (vRdT k is ft):=PT.weak h fun σ H Q ⟨B,B',F,sd,hp,t,n⟩=>by
 obtain ⟨s1,r1,ho⟩:=t.frzA;refine ⟨B,_,_,r1.drI ho k is,(Res.need_strict (Wr.need_of.mp (Wr.need_bind.mp n))).mono (fun d n1 F2 H2 e2=>?_) fun c fs q=>q⟩;obtain ⟨t2,s2,k2⟩:=t.thaw e2;exact n1 B' _ H2 s2 t2
def vIxK (o:D)(q:D×HP):Wr (D×HP):=match o with
 | .adr a=>match hpAt q.2 a with
  |some (.lst es)=>(Wr.of (.ofO (gIx (.lst es) q.1))).bind fun z=>.ok (z,q.2)
  |_=>.no
 |_=>.no
def vIx (fo fi:FV):FV:=fun sd hp=>(fo sd hp).bind fun p=>(fi sd p.2).bind (vIxK p.1)
theorem ze4 (ho:QV X E o vo)(hi:QV X E i vi)(hs:zgG i):QV X E (.Subscript o i pos) (vIx vo vi):=PE.weak (zqI zjs ho hi hs) fun σ H Q ⟨B,B',F,sd,hp,t,n⟩=>by
 refine ⟨B,B',F,sd,hp,t,Wr.nb n fun p n1 v B1 F1 H1 s1 t1 i1=>⟨B,B1,F1,sd,p.2,t1,Wr.nb n1 fun q n2 w B2 F2 H2 s2 t2 i2=>?_⟩⟩;unfold vIxK at n2
 split at n2
 ·rename_i a hp1;rw [hp1] at i1;obtain rfl:=IsD.adr_iff.mp i1
  split at n2
  ·rename_i es ha;obtain ⟨xs,g1,g2⟩:=t2.lies ha;obtain ⟨z,hz,k⟩:=Res.need_ofO (Wr.need_of.mp (Wr.need_bind.mp n2));obtain ⟨y,hp2⟩:=q;cases y with
   |int k' =>
    obtain ⟨x,hx,ix⟩:=zj7 g2 (show atI es k'=some z from hz);exact ⟨a,xs,k',x,rfl,IsD.int_iff.mp i2,SqL.of g1,hx,k _ B2 F2 H2 (s1.trans s2) t2 ix⟩
   |_=>exact zqn hz
  ·exact n2.elim
 ·exact n2.elim
noncomputable def zl9 (c f:Str)(p:D×HP):Wr (D×HP):=match p.1 with
 | .adr a=>match hpAt p.2 a with
  |some d=>(Wr.of (.ofO (gFld c f d))).bind fun z=>.ok (z,p.2)
  |_=>.no
 |_=>.no
noncomputable def vFld (c f:Str)(fo:FV):FV:=fun sd hp=>(fo sd hp).bind (zl9 c f)
theorem zeB {c f:Str}{C:Addr}{fs:List Str}(k:ClsD X.K X.mg c C fs)(hf:f∈fs)(he:QV X E e ve)(hb:attributeBase e f X.env (eval e X.env)=eval e X.env:=by rfl):QV X E (.Attribute e f pos) (vFld c f ve):=PE.weak (zob he hb) fun σ H Q ⟨B,B',F,sd,hp,t,n⟩=>by
 refine ⟨B,B',F,sd,hp,t,Wr.nb n fun p n1 v B1 F1 H1 s1 t1 i1=>?_⟩;unfold zl9 at n1
 split at n1
 ·rename_i a hp1;rw [hp1] at i1;obtain rfl:=IsD.adr_iff.mp i1
  split at n1
  ·rename_i d ha;have ow:=t1.lies ha;obtain ⟨z,hz,q⟩:=Res.need_ofO (Wr.need_of.mp (Wr.need_bind.mp n1));cases d with
   |ins c' gs ds =>
    have hw:(if c'=c then fldD f gs ds else none)=some z:=hz;by_cases hc:c'=c
    ·rw [if_pos hc] at hw;subst hc;obtain ⟨C',dx,xs,hC,hH,hl,hi⟩:=ow;rw [k.ns] at hC;cases hC;obtain ⟨x,h1,h2⟩:=zkC hi hl hw;exact ⟨a,C,dx,_,x,rfl,hH,k.cls,k.no f hf,h1,q _ B1 F1 H1 s1 t1 h2⟩
    ·rw [if_neg hc] at hw;exact zqn hw
   |_=>exact zqn hz
  ·exact n1.elim
 ·exact n1.elim
def vNil:FVA:=fun _ hp=>.ok ([],hp)
def zaq (f:FV)(g:FVA):FVA:=fun sd hp=>(f sd hp).bind fun p=>(g sd p.2).bind fun q=>.ok (p.1::q.1,q.2)
theorem zaL:QVA X E [] vNil:=PA.weak zdy fun σ H Q ⟨B,B',F,sd,hp,t,n⟩=>n [] B' F H (.refl _) t .nil
theorem zan (ha:QV X E e ve)(hr:QVA X E es fr)(hs:starEach (e::es) X.env=(false,eval e X.env)::starEach es X.env:=by rfl):QVA X E (e::es) (zaq ve fr):=PA.weak (zcz ha hr hs) fun σ H Q ⟨B,B',F,sd,hp,t,n⟩=>by
 refine ⟨B,B',F,sd,hp,t,Wr.nb n fun p n1 v B1 F1 H1 s1 t1 i1=>⟨B,B1,F1,sd,p.2,t1,Wr.nb n1 fun q n2 vs B2 F2 H2 s2 t2 i2=>?_⟩⟩;exact n2 (v::vs) B2 F2 H2 (s1.trans s2) t2 (.mk (IsD.same s2 _ _ i1) i2)
def vLst (fr:FVA):FV:=fun sd hp=>(fr sd hp).bind fun p=>if p.1.length<=1000 then .new p.2 fun a=>.ok (.adr a,(a,.lst p.1)::p.2) else .no
theorem zcn (h:QVA X E es fr):QV X E (.List es pos) (vLst fr):=PE.weak (zop h) fun σ H Q ⟨B,B',F,sd,hp,t,n⟩=>by
 refine ⟨B,B',F,sd,hp,t,Wr.nb n fun p n1 vs B1 F1 H1 s1 t1 i1=>?_⟩
 split at n1
 ·rename_i hl;have hz:=i1.length;refine ⟨small (by omega),fun q hq=>?_⟩;obtain ⟨hn,t2⟩:=t1.newO (d:=.lst p.1) hq ⟨vs,zai,i1⟩;exact n1 q hn _ _ F1 _ s1 t2 (IsD.adr_iff.mpr rfl)
 ·exact n1.elim
def SpV (K:W.Frag)(Fn:List D->HP->Wr (D×HP)):Sp:=fun vs H Q _=>∃ F ds hp,Same F H/\IsDs K F ds vs/\Lent K F H hp/\(Fn ds hp).need (fun p=>∀ v F' H',ExtV K F H hp F' H' p.2->IsD K F' p.1 v->Q v H') (XW K E0 F (hide H hp))
def zcq (Fn:List D->HP->Wr (D×HP))(fr:FVA):FV:=fun sd hp=>(fr sd hp).bind fun p=>Fn p.1 p.2
theorem zco {name:Str}{k:Nat}{ps:List Str}{Fn:List D->HP->Wr (D×HP)}{p:Pos}(c:zcS X.prog X.w X.K X.mg X.base name k ps (SpV X.K Fn))(hr:Room k X.A)(hg:Gl X name)(ha:QVA X E0 (e::es) fr)
 (hdb:(name == ("__debug__" : Str))=false:=by decide) (he:starEach (e::es) X.env=(false,eval e X.env)::starEach es X.env:=by rfl) (hpl:(backTo pos (starEach es X.env)).any (·.1)=false:=by rfl) :
 QV X E0 (.Call (.Name name p) (e::es) [] pos) (zcq Fn fr):=PE.weak (zoF c hr hg ha hdb he hpl) fun σ H Q ⟨B,B',F,sd,hp,t,n⟩=>by
 refine ⟨B,B',F,sd,hp,t,Wr.nb n fun p n1 vs B1 F1 H1 s1 t1 i1=>?_⟩;show SpV X.K Fn (vs++[]) H1 Q E0;rw [List.append_nil];refine ⟨F1,p.1,p.2,t1.rs.ext.fh,i1,t1.lent,n1.mono (fun q n2 v F2 H2 w i=>?_) fun _ _ q=>q.ext t1.hidden⟩;obtain ⟨B2,t2⟩:=t1.callV w;exact n2 v B2 F2 H2 (s1.trans w.ff) t2 i
end
inductive Out3 where
 |next (sd:SD) (hp:HP)|ret (d:D) (hp:HP)|brk (sd:SD) (hp:HP)|cont (sd:SD) (hp:HP)
def zem (K:W.Frag)(B:Bs)(F:Hp)(T:Ends):Out3->Prop
 | .next sd hp=>∀ σ B' F' H',Same F F'->RT K B B' F' H' sd hp σ -> T.nx σ H'
 | .brk sd hp=>∀ σ B' F' H',Same F F'->RT K B B' F' H' sd hp σ -> T.bk σ H'
 | .cont sd hp=>∀ σ B' F' H',Same F F'->RT K B B' F' H' sd hp σ -> T.ct σ H'
 | .ret d hp=>∀ v σ sd B' F' H',Same F F'->RT K B B' F' H' sd hp σ -> IsD K F' d v->T.rt v H'
theorem zem.mono {K:W.Frag}{B:Bs}{F F':Hp}{T:Ends}{o:Out3}(h:zem K B F T o)(e:Same F F'):zem K B F' T o:=by
 cases o with
 |next sd hp=>exact fun σ B2 F2 H2 s r=>h σ B2 F2 H2 (e.trans s) r
 |brk sd hp=>exact fun σ B2 F2 H2 s r=>h σ B2 F2 H2 (e.trans s) r
 |cont sd hp=>exact fun σ B2 F2 H2 s r=>h σ B2 F2 H2 (e.trans s) r
 |ret d hp=>exact fun v σ sd B2 F2 H2 s r i=>h v σ sd B2 F2 H2 (e.trans s) r i
abbrev FVS:=SD->HP->Wr Out3
def tVS (K:W.Frag)(E:XK)(g:FVS):TS:=fun T σ H=>∃ B B' F sd hp,RT K B B' F H sd hp σ /\ (g sd hp).need (zem K B F T) (XW K E B.F0 B.H0)
abbrev VS (X:Cx)(E:XK)(st:Stmt)(g:FVS):Prop:=PS X st (tVS X.K E g)
abbrev VSs (X:Cx)(E:XK)(st:List Stmt)(g:FVS):Prop:=PSs X st (tVS X.K E g)
def up3 (hp:HP):Out->Wr Out3
 | .next sd=>.ok (.next sd hp)
 | .ret _=>.no
 | .brk sd=>.ok (.brk sd hp)
 | .cont sd=>.ok (.cont sd hp)
section
variable {X:Cx}{E:XK}{m:Option Bool}{st:Stmt}{sts:List Stmt}{g:FS}{g1 g2:FVS}{pos pos':Pos}{o i e:Expr}{vo vi ve:FV}
def zL (g:FS):FVS:=fun sd hp=>(Wr.of (g sd)).bind (up3 hp)
theorem zb0 (h:QS X E m st g):VS X E st (zL g):=PS.weak h fun T σ H ⟨B,B',F,sd,hp,t,n⟩=>⟨B',F,sd,t.rs,Wr.nbo n (fun o n1=>by
 cases o with
 |next sd'=>exact fun σ' F' H' s r=>n1 σ' B' F' H' s (t.go s r)
 |brk sd'=>exact fun σ' F' H' s r=>n1 σ' B' F' H' s (t.go s r)
 |cont sd'=>exact fun σ' F' H' s r=>n1 σ' B' F' H' s (t.go s r)
 |ret d=>exact n1.elim) fun _ _ q=>t.xw q⟩
def zcI:FVS:=fun sd hp=>.ok (.next sd hp)
def zK (g2:FVS):Out3->Wr Out3
 | .next sd' hp'=>g2 sd' hp'
 |o=>.ok o
def zSeq (g1 g2:FVS):FVS:=fun sd hp=>(g1 sd hp).bind (zK g2)
theorem zbC:VSs X E [] zcI:=PSs.weak zgJ fun T σ H ⟨B,B',F,sd,hp,t,n⟩=>n σ B' F H (.refl _) t
theorem zaE (h:VS X E st g1):VSs X E [st] g1:=zjB h
theorem zak (h1:VS X E st g1)(h2:VSs X E sts g2):VSs X E (st::sts) (zSeq g1 g2):=PSs.weak (zfi h1 h2) fun T σ H ⟨B,B',F,sd,hp,t,n⟩=>by
 refine ⟨B,B',F,sd,hp,t,Wr.nb n fun o n1=>?_⟩;cases o with
 |next sd' hp'=>exact fun σ' B2 F' H' s r'=>⟨B,B2,F',sd',hp',r',n1.mono (fun o q=>q.mono s) fun _ _ q=>q⟩
 |ret d hp'=>exact n1
 |brk sd' hp'=>exact n1
 |cont sd' hp'=>exact n1
def zRet (f:FV):FVS:=fun sd hp=>(f sd hp).bind fun p=>.ok (.ret p.1 p.2)
theorem zcb (h:QV X E e ve):VS X E (.Return (some e) pos) (zRet ve):=PS.weak (zid h) fun T σ H ⟨B,B',F,sd,hp,t,n⟩=>⟨B,B',F,sd,hp,t,Wr.nb n fun p n1 v B1 F1 H1 s1 t1 i1=>n1 v σ sd B1 F1 H1 s1 t1 i1⟩
def ziH (f:FV):FVS:=fun sd hp=>(f sd hp).bind fun p=>.ok (.next sd p.2)
theorem zlE (h:QV X E e ve)(hs:swapsWith e none pos.line X.env=pure false:=by rfl):VS X E (.Expr e pos) (ziH ve):=PS.weak (zcN h hs) fun T σ H ⟨B,B',F,sd,hp,t,n⟩=>⟨B,B',F,sd,hp,t,Wr.nb n fun p n1 v B1 F1 H1 s1 t1 i1=>n1 σ B1 F1 H1 s1 t1⟩
def zSet (i:Nat)(f:FV):FVS:=fun sd hp=>(f sd hp).bind fun p=>.ok (.next (sd.set i (some (.val p.1))) p.2)
theorem zbZ {i:Nat}{x:Str}{p1:Pos}(hN:X.N.Nodup)(hi:X.N[i]? = some x)(hx:Loc X.env.scope x)(he:QV X E e ve)(hs:swapsWith e (some (.Name x pos')) p1.line X.env=pure false:=by rfl)(hf:X.fn x=true\/X.env.scope.names.lookup x=some .local:=by first|exact .inl rfl|exact .inr rfl) :
 VS X E (.Assign [.Name x pos'] e p1) (zSet i ve):=PS.weak (zkr hN hi hx he hs hf) fun T σ H ⟨B,B',F,sd,hp,t,n⟩=>by
 refine ⟨B,B',F,sd,hp,t,Wr.nb n fun p n1 v B1 F1 H1 s1 t1 i1=>?_⟩;exact n1 _ B1 F1 H1 s1 (t1.go (.refl _) (t1.rs.setVal i1))
def zIf (c:FVT)(g1 g2:FVS):FVS:=fun sd hp=>(c sd hp).bind fun p=>if p.1 then g1 sd p.2 else g2 sd p.2
theorem zep {c:Expr}{a b:List Stmt}{fc:FVT}(hc:QVT X E c fc)(ha:VSs X E a g1)(hb:VSs X E b g2):VS X E (.If c a b pos) (zIf fc g1 g2):=PS.weak (zqm hc ha hb) fun T σ H ⟨B,B',F,sd,hp,t,n⟩=>by
 refine ⟨B,B',F,sd,hp,t,Wr.nb n fun p n1 B1 F1 H1 s1 t1=>?_⟩;obtain ⟨b,hp1⟩:=p;cases b with
 |true=>exact ⟨B,B1,F1,sd,hp1,t1,(show (g1 sd hp1).need _ _ from n1).mono (fun _ q=>q.mono s1) fun _ _ q=>q⟩
 |false=>exact ⟨B,B1,F1,sd,hp1,t1,(show (g2 sd hp1).need _ _ from n1).mono (fun _ q=>q.mono s1) fun _ _ q=>q⟩
def zfo (sd:SD)(a:Addr)(q:D×HP):Wr Out3:=match hpAt q.2 a with
 |some (.lst es)=>if es.length<sizeLine then .ok (.next sd (zax q.2 a (.lst (es++[q.1])))) else .no
 |_=>.no
def zhp (fe:FV)(sd:SD)(p:D×HP):Wr Out3:=match p.1 with
 | .adr a=>match hpAt p.2 a with
  |some (.lst _)=>(fe sd p.2).bind (zfo sd a)
  |_=>.no
 |_=>.no
def zApp (fo fe:FV):FVS:=fun sd hp=>(fo sd hp).bind (zhp fe sd)
theorem zdh {apos cpos:Pos}(ho:QV X E o vo)(he:QV X E e ve)
 (hp:∀ {to:TE} {t:TA},PE X o to->PA X [e] t->PE X (.Call (.Attribute o "append" apos) [e] [] cpos) (tBM X.K "list" zg9 to t))
 (hs:swapsWith (.Call (.Attribute o "append" apos) [e] [] cpos) none pos.line X.env=pure false:=by rfl)
 (hst:starEach [e] X.env=(false,eval e X.env)::starEach [] X.env:=by rfl):VS X E (.Expr (.Call (.Attribute o "append" apos) [e] [] cpos) pos) (zApp vo ve) :=
 PS.weak (zcN (hp ho (zcz he zdy hst)) hs) fun T σ H ⟨B,B',F,sd,hp,t,n⟩=>by
  refine ⟨B,B',F,sd,hp,t,Wr.nb n fun p n1 v B1 F1 H1 s1 t1 i1=>?_⟩;unfold zhp at n1
  split at n1
  ·rename_i a hp1;rw [hp1] at i1;obtain rfl:=IsD.adr_iff.mp i1
   split at n1
   ·rename_i es0 ha0;obtain ⟨xs0,k1,k2⟩:=t1.lies ha0;refine ⟨.inl ⟨rfl,xs0,SqL.of k1⟩,B,B1,F1,sd,p.2,t1,Wr.nb n1 fun q n2 w B2 F2 H2 s2 t2 i2=>?_⟩;unfold zfo at n2
    split at n2
    ·rename_i es ha
     split at n2
     ·rename_i hz;obtain ⟨xs,g1,g2⟩:=t2.lies ha;have hl:=g2.length;refine ⟨a,xs,w,rfl,rfl,g1,by omega,?_⟩;exact n2 σ _ F2 _ (s1.trans s2) (t2.chg ha ⟨xs++[w],zai,g2.snoc i2⟩)
     ·exact n2.elim
    ·exact n2.elim
   ·exact n1.elim
  ·exact n1.elim
def zfW (sd:SD)(d:D)(a:Addr)(q:D×HP):Wr Out3:=match hpAt q.2 a with
 |some (.lst es)=>match q.1 with
  | .int k=>match ixN es.length k with
   |some j=>.ok (.next sd (zax q.2 a (.lst (es.set j d))))
   |none=>.no
  |_=>.no
 |_=>.no
def zmt (fi:FV)(sd:SD)(d:D)(p:D×HP):Wr Out3:=match p.1 with
 | .adr a=>(fi sd p.2).bind (zfW sd d a)
 |_=>.no
def zPut (fo fi fv:FV):FVS:=fun sd hp=>(fv sd hp).bind fun p=>(fo sd p.2).bind (zmt fi sd p.1)
theorem zlb (ho:QV X E o vo)(hi:QV X E i vi)(hv:QV X E e ve)(ha:∀ v,assign (.Subscript o i pos') X.env v=(do
 let ov <- holding [v] (eval o X.env)
 let iv <- holding [v,ov] (eval i X.env)
 standAt pos'
 holding [v,ov,iv] (setItem ov iv v)
 release [v,ov,iv] []):=by intro _;rfl) (hs:swapsWithSole [.Subscript o i pos'] e pos.line X.env=pure false:=by rfl) (hw:swappedStores [.Subscript o i pos'] e X.env=pure none:=by rfl)
 (h1:(assignEach [.Subscript o i pos'] X.env).map (·.2)=[assign (.Subscript o i pos') X.env]:=by rfl):VS X E (.Assign [.Subscript o i pos'] e pos) (zPut vo vi ve):=PS.weak (zqy hv (zr8 ho hi zma ha) hs hw h1) fun T σ H ⟨B,B',F,sd,hp,t,n⟩=>by
 refine ⟨B,B',F,sd,hp,t,Wr.nb n fun p n1 v B1 F1 H1 s1 t1 i1=>⟨B,B1,F1,sd,p.2,t1,Wr.nb n1 fun p2 n2 v2 B2 F2 H2 s2 t2 i2=>?_⟩⟩;unfold zmt at n2
 split at n2
 ·rename_i a hp1;rw [hp1] at i2;obtain rfl:=IsD.adr_iff.mp i2;refine ⟨B,B2,F2,sd,p2.2,t2,Wr.nb n2 fun q n3 w B3 F3 H3 s3 t3 i3=>?_⟩;unfold zfW at n3
  split at n3
  ·rename_i es ha
   split at n3
   ·rename_i k hk1;rw [hk1] at i3
    split at n3
    ·rename_i j hk;obtain ⟨xs,g1,g2⟩:=t3.lies ha;have hl:=g2.length;refine ⟨a,xs,k,j,rfl,IsD.int_iff.mp i3,g1,by rw [hl];exact hk,?_⟩;exact n3 σ _ F3 _ ((s1.trans s2).trans s3) (t3.chg ha ⟨_,zai,g2.set j (IsD.same (s2.trans s3) _ _ i1)⟩)
    ·exact n3.elim
   ·exact n3.elim
  ·exact n3.elim
 ·exact n2.elim
def forZ (b:D->FVS):List D->FVS
 | [],sd,hp=>.ok (.next sd hp)
 |x::xs,sd,hp=>(b x sd hp).bind fun o=>match o with
  | .next sd' hp'=>forZ b xs sd' hp'
  | .cont sd' hp'=>forZ b xs sd' hp'
  | .brk sd' hp'=>.ok (.next sd' hp')
  | .ret d hp'=>.ok (.ret d hp')
def zda (tg:Tg)(b:FVS)(x:D):FVS:=fun sd hp=>(Wr.of (zbl tg x sd)).bind fun s=>b s hp
def zFor (it:FA)(tg:Tg)(b:FVS):FVS:=fun sd hp=>(Wr.of (it sd)).bind fun ds=>forZ (zda tg b) ds sd hp
theorem zoB {T:Ends}{B B1:Bs}{F1 H1:Hp}{sd:SD}{hp:HP}{σ : St}{t:Tg}{J:It}{ds:List D}(wk:Walk X.K F1 J ds)(r:RT X.K B B1 F1 H1 sd hp σ)(n1:(forZ (zda t g1) ds sd hp).need (zem X.K B F1 T) (XW X.K E B.F0 B.H0)) :
 ∃ W:Nat->Nat->St->Hp->Prop,(∃ m,W 0 m σ H1)/\∀ i m' σ H,W i m' σ H->(J.stop i H/\T.nx σ H)\/(J.go i H/\∃ N:St->Hp->Prop,(∀ σ' H',N σ' H'->∃ m2,m2<m'/\W (i+1) m2 σ' H')/\∀ x H',J.yld i H x H'->gT t X.K x σ H' fun σ2 H2=>tVS X.K E g1 { T with nx:=N,ct:=N,bk:=T.nx } σ2 H2):=by
 refine ⟨fun i k σ H=>k=ds.length-i/\i<=ds.length/\∃ B2 F2 sd hp,Same F1 F2/\RT X.K B B2 F2 H sd hp σ /\ (forZ (zda t g1) (ds.drop i) sd hp).need (zem X.K B F2 T) (XW X.K E B.F0 B.H0),
  ⟨ds.length,rfl,Nat.zero_le _,B1,F1,sd,hp,.refl _,r,n1⟩,?_⟩
 rintro i k σ2 H2 ⟨rfl,hi,B2,F2,sd2,hp2,s2,r2,n2⟩;obtain ⟨w1,w2⟩:=wk i F2 H2 s2 r2.rs.ext.fh;by_cases hlt:i<ds.length
 ·obtain ⟨go,yl⟩:=w1 hlt;refine .inr ⟨go,fun σ' H'=>∃ B3 F3 sd3 hp3,Same F1 F3/\RT X.K B B3 F3 H' sd3 hp3 σ'/\(forZ (zda t g1) (ds.drop (i+1)) sd3 hp3).need (zem X.K B F3 T) (XW X.K E B.F0 B.H0),
   fun σ' H' ⟨B3,F3,sd3,hp3,q1,q2,q3⟩=>⟨ds.length-(i+1),by omega,rfl,hlt,B3,F3,sd3,hp3,q1,q2,q3⟩,fun x H3 y=>?_⟩
  obtain ⟨d,F3,hd,e3,i3⟩:=yl x H3 y;rw [List.drop_eq_getElem_cons hlt] at n2;have hd':ds[i]=d:=by rw [Zqg hlt] at hd;exact Zqi hd
  rw [hd'] at n2;have r3:=r2.go e3.ff (r2.rs.step e3);unfold forZ at n2;have n3:(zbl t d sd2).need _ _:=Wr.need_of.mp (Wr.need_bind.mp (Wr.need_bind.mp n2));refine zl5 r3.rs i3 n3 fun sd' σ' n4 _ r4=>?_;refine ⟨B,B2,F3,sd',hp2,r3.go (.refl _) r4,n4.mono (fun o n5=>?_) fun _ _ q=>q⟩;cases o with
  |next sd5 hp5=>exact fun σ5 B5 F5 H5 s5 r5=>⟨B5,F5,sd5,hp5,(s2.trans e3.ff).trans s5,r5,n5.mono (fun _ q=>q.mono (e3.ff.trans s5)) fun _ _ q=>q⟩
  |cont sd5 hp5=>exact fun σ5 B5 F5 H5 s5 r5=>⟨B5,F5,sd5,hp5,(s2.trans e3.ff).trans s5,r5,n5.mono (fun _ q=>q.mono (e3.ff.trans s5)) fun _ _ q=>q⟩
  |brk sd5 hp5=>exact fun σ5 B5 F5 H5 s5 r5=>n5 σ5 B5 F5 H5 (e3.ff.trans s5) r5
  |ret d hp5=>exact fun v σ5 sd5 B5 F5 H5 s5 r5 i5=>n5 v σ5 sd5 B5 F5 H5 (e3.ff.trans s5) r5 i5
 ·have he:i=ds.length:=by omega
  refine .inl ⟨w2 (by omega),?_⟩;subst he;rw [List.drop_length] at n2;exact n2 σ2 B2 F2 H2 (.refl _) r2
theorem zom {tg iter:Expr}{body:List Stmt}{it:FA}{t:Tg}(hp:PassesOwn (model X.prog X.w) X.A X.env X.xe)(hc:X.calm=true)(hi:QI X E tg iter it)(hg:QG X tg t)(hb:VSs X E body g1)
 (hss:∀ x,foldedSetIterable iter X.env x=pure x:=by intro _;rfl):VS X E (.For tg iter body [] pos) (zFor it t g1):=PS.weak (znS hp hc hi hg hb hss) fun T σ H ⟨B,B',F,sd,hp,r,n⟩=>by
 refine ⟨B',F,sd,r.rs,Wr.nbo n (fun ds n1 J F1 H1 e1 wk=>?_) fun _ _ q=>q.ext (r.ext0 r.rs.ext)⟩;exact zoB wk (r.go e1.ff (r.rs.step e1)) (n1.mono (fun _ q=>q.mono e1.ff) fun _ _ q=>q)
end
def outZ:Out3->Wr (D×HP)
 | .ret d hp=>.ok (d,hp)
 | .next _ hp=>.ok (.non,hp)
 |_=>.no
def runV (n ar:Nat)(g:FVS)(ds:List D)(hp:HP):Wr (D×HP):=if ds.length=ar then ((g (zaS n ds) hp).bind outZ).bind fun p=>if hp.all fun z=>(hpAt p.2 z.1).isSome then .ok p else .no else .no
section
variable {P:Program}{w:World}{K:W.Frag}{mg:Str->Option Value}{base:Heap}{x qual:Str}{st:Stmt}{f:Addr}{fd:FuncData}{N ps:List Str}{k:Nat}
theorem zfz:∀ {hp:HP} {a:Addr} {d:D},hpAt hp a=some d->∃ z∈hp,z.1=a
 | [],a,d,h=>by cases h
 |p::r,a,d,h=>by
  rw [zaf] at h;by_cases z:a=p.1
  ·exact ⟨p,Zqs,z.symm⟩
  ·rw [if_neg z] at h;obtain ⟨y,h1,h2⟩:=zfz h;exact ⟨y,Zqm _ h1,h2⟩
theorem fn_v {g:FVS}(F:Fun K x qual st f fd)(S:FnScope N ps (za3 st))
 (hb:∀ (cdv:Value) (A:Around) (outer:List Env) (s:Shared) (H:Hp) (E:XK),Room k (A.deeper (envOfC qual (za3 st) s.heap.objs.size f cdv))->VSs (cxOf CX0 P w K mg base N qual (za3 st) f cdv A outer s H E).nox E0 (zbz st) g) :
 FnOk P w K mg base CX0 (k+1) f fd ps (SpV K (runV N.length ps.length g)):=by
 refine F.ok S (fun vs H Q E ⟨F,ds,hp,_,i,_,n⟩=>?_) fun cdv A outer s H vs Q E hr ⟨F,ds,hp,hs,i,ln,n⟩=>⟨_,hb cdv A outer s H E hr,?_⟩
 ·unfold runV at n
  split at n
  ·rw [i.length];assumption
  ·exact n.elim
 ·unfold runV at n
  split at n
  ·have t:RT K ⟨F,hide H hp,fun _=>none⟩ ⟨F,H,fun _=>none⟩ F H (zaS N.length ds) hp (L2.start N vs):=⟨RS.start hs i,rfl,rfl,fun a ha=>(zaY ha).symm,fun a d ha=>⟨(ln a d ha).1,zfk ha,(ln a d ha).2⟩⟩;have fin:∀ {d:D} {hp':HP} {v:V} {σ':St} {sd':SD} {B2:Bs} {F' H':Hp},(Wr.need (if hp.all fun z=>(hpAt hp' z.1).isSome then (.ok (d,hp'):Wr (D×HP)) else .no) (fun p=>∀ v F' H',ExtV K F H hp F' H' p.2->IsD K F' p.1 v->Q v H') (XW K E0 F (hide H hp))) ->
    Same F F'->RT K ⟨F,hide H hp,fun _=>none⟩ B2 F' H' sd' hp' σ'->IsD K F' d v->Q v H':=fun {d hp' v σ' sd' B2 F' H'} n1 s1 t1 i1=>by
    split at n1
    ·rename_i hd;have dom:∀ a,hpAt hp' a=none->hpAt hp a=none:=fun a ha=>by
      cases z:hpAt hp a with
      |none=>rfl
      |some d0 =>
       obtain ⟨y,y1,y2⟩:=zfz z;have:=List.all_eq_true.mp hd y y1;rw [y2,ha] at this;cases this
     have e:=t1.ext0 t1.rs.ext;refine n1 v F' H' ⟨s1,t1.rs.ext.fh,fun a o ha q=>e.hh a o ((zaY ha).trans q),fun a h0 h1=>?_,t1.lent,dom,fun a z y=>?_⟩ i1
     ·cases z:hpAt hp a with
      |none=>exact e.new a h0 fun y=>h1 ((zaY z).symm.trans y)
      |some d =>
       cases y:hpAt hp' a with
       |none=>rw [dom a y] at z;cases z
       |some d'=>exact t1.free y
     ·cases y':hpAt hp' a with
      |none=>exact absurd y' y
      |some d' =>
       have:=(t1.obj a d' y').2.1;rw [<- zaY (H:=H) z];exact this
    ·exact n1.elim
   refine ⟨_,_,F,_,hp,t,Wr.nb (Wr.need_bind.mp n |> fun q=>Wr.need_bind.mpr q |> fun q=>(Wr.need_bind.mp q)) fun o n1=>?_⟩;cases o with
   |next sd' hp'=>exact fun σ' B2 F' H' s1 t1=>fin n1 s1 t1 (IsD.non_iff.mpr rfl)
   |ret d hp'=>exact fun v σ' sd' B2 F' H' s1 t1 i1=>fin n1 s1 t1 i1
   |brk sd' hp'=>exact n1.elim
   |cont sd' hp'=>exact n1.elim
  ·exact n.elim
theorem zpB {g:FVS}{S':List D->Res D}{kk:Nat}(F:Fun K x qual st f fd)(S:FnScope N ps (za3 st))
 (hw:∀ ds d,S' ds=.ok d->ds.length=ps.length/\((g (zaS N.length ds) []).bind outZ).need (fun p=>dr p.2 kk p.1=d) fun _ _=>False) (hx:∀ ds,∀ c fs,S' ds ≠ .ex c fs)
 (hb:∀ (cdv:Value) (A:Around) (outer:List Env) (s:Shared) (H:Hp) (E:XK),Room k (A.deeper (envOfC qual (za3 st) s.heap.objs.size f cdv))->VSs (cxOf CX0 P w K mg base N qual (za3 st) f cdv A outer s H E).nox E0 (zbz st) g) :
 FnOk P w K mg base CX0 (k+1) f fd ps (SpD K S'):=by
 refine F.ok S (fun vs H Q E ⟨F,ds,_,i,n⟩=>?_) fun cdv A outer s H vs Q E hr ⟨F,ds,hs,i,n⟩=>⟨_,hb cdv A outer s H E hr,?_⟩
 ·cases q:S' ds with
  |ok d=>rw [i.length];exact (hw ds d q).1
  |ex c fs=>exact absurd q (hx ds c fs)
  |no=>rw [q] at n;exact n.elim
 ·cases q:S' ds with
  |ex c fs=>exact absurd q (hx ds c fs)
  |no=>rw [q] at n;exact n.elim
  |ok d =>
   rw [q] at n;have n:OkD K F H Q d:=n;have t:=RT.start (RS.start (N:=N) hs i);have fin:∀ {d':D} {hp':HP} {v:V} {σ':St} {sd':SD} {B2:Bs} {F' H':Hp},dr hp' kk d'=d->RT K ⟨F,H,fun _=>none⟩ B2 F' H' sd' hp' σ'->IsD K F' d' v->Q v H':=fun {d' hp' v σ' sd' B2 F' H'} hd t1 i1=>by
    obtain ⟨s1,r1,ho⟩:=t1.frzA;have:=IsD.dr ho kk d' v (IsD.same s1 _ _ i1);rw [hd] at this;exact n v _ _ r1.ext this
   refine ⟨_,_,F,_,[],t,(Wr.need_bind.mp (hw ds d q).2).mono (fun o n1=>?_) fun _ _ z=>z.elim⟩;cases o with
   |next sd' hp'=>exact fun σ' B2 F' H' s1 t1=>fin n1 t1 (IsD.non_iff.mpr rfl)
   |ret d hp'=>exact fun v σ' sd' B2 F' H' s1 t1 i1=>fin n1 t1 i1
   |brk sd' hp'=>exact n1.elim
   |cont sd' hp'=>exact n1.elim
end
end L2.DL
namespace L2
def ItrS (lo c:Int)(n:Nat):It:=⟨fun i _=>i<n,fun i H x H'=>H'=H/\x=.int (lo+i*c),fun i _=>n<=i⟩
theorem zgW {P:Program}{w:World}{K:PySem.W.Frag}{tg:Expr}(it:Addr)(lo c:Int)(n:Nat):Turn P w K tg (ItrS lo c n) [it] it (fun i h=>IsRangeIter h it (lo+(i:Nat)*c) ((n:Int)-(i:Nat)) c) where
 mem:=by simp
 obj:=fun i h st b hb=>by
  have e:b=it:=by simpa using hb
  subst e;exact ⟨_,st,fun v z=>by
   have z':Data.fields _=Data.cell v:=z;cases z'⟩
 keep:=fun i h h' st k=>k it (by simp) _ st
 item:=by
  intro X hP hw hK hc i pins s σ H E I hf st hg;subst hP hw hK;obtain ⟨f0,f1,f2,f3,f4,f5⟩:=hf it (by simp);have W:=Walks.range (prog:=X.prog) (w:=X.w) (I.ok.hd hc) it lo c n;refine W.item i s _ _ hg st fun v h' tk hv st' kk=>?_;obtain ⟨t,rfl⟩:=hv;have I1:Inv X pins σ H { s with heap:=h',toks:=tk }:=I.turned (fun b o hb e=>kk b o (by simpa using hb) e) f0 f1 f3 f4 f5;exact ⟨_,rfl,zkd (s:={ s with heap:=h',toks:=tk }) (n := "range_iterator") st' rfl rfl (by decide) ⟨.int (lo+i*c),H,I1,⟨t,rfl⟩,⟨rfl,rfl⟩,st',fun b hb=>(hf b hb).1⟩⟩
 done:=by
  intro X hP hw hK hc i pins s σ H E I hf st hg;subst hP hw hK;obtain ⟨f0,f1,f2,f3,f4,f5⟩:=hf it (by simp);exact wpAny_pyNext_range_end (I.ok.hd hc) st (by have:n<=i:=hg;omega) fun h' eb=>⟨rfl,I.turned (t':=s.toks) (fun b o hb e=>eb b o hb e) f0 f1 f3 f4 f5⟩
 self:=fun _ _ _ _ _ st h=>wpAny_pyIter_rangeiter st h
section
variable {X:Cx}{tg:Expr}
theorem zkF {a b:Int}(ha : -1000000000<=a)(ha':a<=1000000000)(hb : -1000000000<=b)(hb':b<=1000000000):Builtin.Range.small a b 2=true:=by
 unfold Builtin.Range.small Builtin.Range.rangeSize;simp only [Builtin.Range.rangeFitsLong,Bool.and_eq_true,Bool.or_eq_true,decide_eq_true_eq,beq_iff_eq,show (2:Int) > 0 by decide,if_true]
 split<;>omega
def iRng3 (ta:TA):TI:=fun σ H R=>ta σ H fun vs H1=>∃ i j:Int,vs=[.int i,.int j,.int 2]/\(-1000000000<=i/\i<=1000000000 /\ -1000000000<=j/\j<=1000000000)/\R (ItrS i 2 ((j-i+1) / 2).toNat) H1
theorem zkT {a b c:Expr}{ta:TA}{p pos:Pos}(hg:Gl X "range")(hm:X.mg "range" = none)(ha:PA X [a,b,c] ta)(hs:starEach [a,b,c] X.env=[(false,eval a X.env),(false,eval b X.env),(false,eval c X.env)]:=by rfl)(hs2:starEach [b,c] X.env=[(false,eval b X.env),(false,eval c X.env)]:=by rfl) :
 PI X tg (.Call (.Name "range" p) [a,b,c] [] pos) (iRng3 ta):=by
 intro pins s σ H R I h;refine Call_ (zdK I hg hm boot_range (PyProof.Rows.callWith_type1 (thn (ha pos pins s σ H _ I h) fun us s1 ⟨vs,H1,I1,r1,q1⟩=>?_) (by rw [hs,hs2]) (by rw [hs2];rfl)));obtain ⟨i,j,e,⟨q1,q2,q3,q4⟩,q⟩:=q1;subst e;cases r1 with
 |cons r rr =>
  cases rr with
  |cons r' rr =>
   cases rr with
   |cons r'' rr =>
    cases rr;obtain ⟨t,rfl⟩:=r;obtain ⟨u,rfl⟩:=r';obtain ⟨v,rfl⟩:=r'';refine call_range_3 (by decide) ?_ (.inl (PyProof.noPylong_of_log2 (by decide)));refine wpAny_pyIter_range (IsRange.new ..) (zkF q1 q2 q3 q4) ?_;have I2:Inv X pins σ H1 { s1 with heap:=s1.heap.push { cls:=.type "range",data:=.fields #[.int i t,.int j u,.int 2 v] },toks:=s1.toks }:=I1.kept fun b o e=>Heap.get?_push_of_some _ e;refine ⟨(s1.heap.push { cls:=.type "range",data:=.fields #[.int i t,.int j u,.int 2 v] }).objs.size,[(s1.heap.push { cls:=.type "range",data:=.fields #[.int i t,.int j u,.int 2 v] }).objs.size],_,_,H1,rfl,
     I2.kept (t':=s1.toks) fun b o e=>Heap.get?_push_of_some _ e,zgW _ i 2 ((j-i+1) / 2).toNat,?_,fun b hb=>?_,q⟩
    ·have e1:i+((0:Nat):Int)*2=i:=by simp
     have e2:((((j-i+1) / 2).toNat:Nat):Int)-((0:Nat):Int)=Builtin.Range.rangeSize i j 2:=by
      unfold Builtin.Range.rangeSize;rw [if_pos (by decide)]
      split<;>omega
     show IsRangeIter _ _ (i+((0:Nat):Int)*2) (((((j-i+1) / 2).toNat:Nat):Int)-((0:Nat):Int)) 2;rw [e1,e2];exact Heap.get?_push_size _ rfl
    ·have e:b=(s1.heap.push { cls:=.type "range",data:=.fields #[.int i t,.int j u,.int 2 v] }).objs.size:=by simpa using hb
     subst e;exact I2.fpOk (Nat.le_refl _) (I2.hok.fresh (Nat.le_refl _))
end
end L2
namespace L2.DL
def zcx (lo c:Int)(n:Nat):List D:=(List.range n).map fun k:Nat=>.int (lo+k*c)
theorem zgV {K:W.Frag}{F1:Hp}(lo c:Int)(n:Nat):Walk K F1 (ItrS lo c n) (zcx lo c n):=fun i F2 H2 s1 s2=>by
 have hl:(zcx lo c n).length=n:=by unfold zcx;rw [Zql,List.length_range]
 rw [hl];refine ⟨fun hi=>⟨hi,fun x H3 hy=>?_⟩,fun hi=>hi⟩;obtain ⟨rfl,rfl⟩:=hy;refine ⟨.int (lo+i*c),F2,?_,.refl s2,IsD.int_iff.mpr rfl⟩;unfold zcx;rw [List.getElem?_map,List.getElem?_range hi];rfl
def iR3 (fr:FA):FA:=fun sd=>(fr sd).bind fun ds=>match ds with
 | [.int i,.int j,.int 2]=>if zd3 i&&zd3 j then .ok (zcx i 2 ((j-i+1) / 2).toNat) else .no
 |_=>.no
section
variable {X:Cx}{E:XK}{m:Option Bool}{tg:Expr}{p pos:Pos}{fr:FA}
theorem zk9 {a b c:Expr}(hg:Gl X "range")(hm:X.mg "range" = none)(ha:QA X E [a,b,c] fr)(hs:starEach [a,b,c] X.env=[(false,eval a X.env),(false,eval b X.env),(false,eval c X.env)]:=by rfl)(hs2:starEach [b,c] X.env=[(false,eval b X.env),(false,eval c X.env)]:=by rfl):QI X E tg (.Call (.Name "range" p) [a,b,c] [] pos) (iR3 fr):=PI.weak (zkT hg hm ha hs hs2) fun σ H R ⟨B,F,sd,r,n⟩=>by
 refine ⟨B,F,sd,r,(Res.need_bind n).mono (fun ds n1 vs F1 H1 e1 i1=>?_) fun _ _ q=>q⟩
 split at n1
 ·split at n1
  ·rename_i i j hj;obtain ⟨x,r1,rfl,h,i2⟩:=IsDs.cons_iff.mp i1;obtain ⟨y,z,rfl,h',h''⟩:=zkJ i2;rw [IsD.int_iff.mp h,IsD.int_iff.mp h',IsD.int_iff.mp h''];rw [Bool.and_eq_true] at hj;have k1 : -1000000000<=i/\i<=1000000000:=by have:=hj.1;unfold zd3 at this;rw [Bool.and_eq_true,Nat.ble_eq,Nat.ble_eq] at this;omega
   have k2 : -1000000000<=j/\j<=1000000000:=by have:=hj.2;unfold zd3 at this;rw [Bool.and_eq_true,Nat.ble_eq,Nat.ble_eq] at this;omega
   exact ⟨i,j,rfl,⟨k1.1,k1.2,k2.1,k2.2⟩,n1 _ F1 H1 e1 (zgV i 2 _)⟩
  ·exact n1.elim
 ·exact n1.elim
def zbJ (c:FT)(b:FS):Nat->FS
 | 0,_=>.no
 |n+1,sd=>(c sd).bind fun t=>if t then (b sd).bind fun o=>match o with
  | .next sd'=>zbJ c b n sd'
  | .cont sd'=>zbJ c b n sd'
  | .brk sd'=>.ok (.next sd')
  | .ret d=>.ok (.ret d) else .ok (.next sd)
theorem znC {c:Expr}{body:List Stmt}{fc:FT}{g:FS}(k:Nat)(hp:PassesOwn (model X.prog X.w) X.A X.env X.xe)(hc:QT X E c fc)(hb:QSs X E m body g):QS X E m (.While c body [] pos) (zbJ fc g k):=PS.weak (zni hp hc hb) fun T σ H ⟨B,F,sd,r,n⟩=>by
 refine ⟨fun j σ H=>∃ F2 sd2,Same F F2/\RS X.K B F2 H sd2 σ /\ (zbJ fc g j sd2).need (zea X.K m B F2 T) (XW X.K E B.F0 B.H0),⟨k,F,sd,.refl _,r,n⟩,?_⟩;rintro j σ2 H2 ⟨F2,sd2,s2,r2,n2⟩;cases j with
 |zero=>exact n2.elim
 |succ j =>
  refine ⟨B,F2,sd2,r2,(Res.need_bind n2).mono (fun t n3 F3 H3 e3=>?_) fun _ _ q=>q.ext r2.ext⟩;cases t with
  |true =>
   rw [if_pos rfl] at n3;rw [if_pos rfl];refine ⟨fun σ' H'=>∃ F4 sd4,Same F F4/\RS X.K B F4 H' sd4 σ'/\(zbJ fc g j sd4).need (zea X.K m B F4 T) (XW X.K E B.F0 B.H0),fun σ' H' q=>⟨j,Nat.lt_succ_self _,q⟩,B,F3,sd2,r2.step e3,(Res.need_bind n3).mono (fun o n4=>?_) fun _ _ q=>q⟩;cases o with
   |next sd5=>exact fun σ5 F5 H5 s5 r5=>⟨F5,sd5,(s2.trans e3.ff).trans s5,r5,n4.mono (fun _ q=>q.mono (e3.ff.trans s5)) fun _ _ q=>q⟩
   |cont sd5=>exact fun σ5 F5 H5 s5 r5=>⟨F5,sd5,(s2.trans e3.ff).trans s5,r5,n4.mono (fun _ q=>q.mono (e3.ff.trans s5)) fun _ _ q=>q⟩
   |brk sd5=>exact fun σ5 F5 H5 s5 r5=>n4 σ5 F5 H5 (e3.ff.trans s5) r5
   |ret d=>exact n4
  |false =>
   rw [if_neg Bool.false_ne_true] at n3;rw [if_neg Bool.false_ne_true];exact n3 σ2 F3 H3 e3.ff (r2.step e3)
def rTx (K:W.Frag)(g:Str->D->Option D):V->List V->Hp->VK->Prop:=fun x vs H Q=>∃ F a e z v,Same F H/\x=.str a/\vs=[v]/\IsD K F e v/\g a e=some z/\OkD K F H Q z
def rTxN (K:W.Frag)(g:Str->D->Option D):V->List V->Hp->VK->Prop:=fun x vs H Q=>∃ F a e z v,Same F H/\x=.str a/\vs=[v]/\IsD K F e v/\g a e=some z/\OkN K F H Q z
def dTxt (g:Str->D->Option D)(fo fe:FE):FE:=fun sd=>(fo sd).bind fun d=>match d with
 | .str x=>(fe sd).bind fun e=>.ofO (g x e)
 |_=>.no
theorem znA {name id:String}{g:Str->D->Option D}{o e:Expr}{fo fe:FE}{apos cpos:Pos}(ho:QE X E o fo)(he:QE X E e fe)
 (hp:∀ {to:TE} {t:TA},PE X o to->PA X [e] t->PE X (.Call (.Attribute o name apos) [e] [] cpos) (tBM X.K "str" (rTx X.K g) to t)) (hst:starEach [e] X.env=(false,eval e X.env)::starEach [] X.env:=by rfl) :
 QE X E (.Call (.Attribute o name apos) [e] [] cpos) (dTxt g fo fe):=PE.weak (hp ho (zcz he zdy hst)) fun σ H Q ⟨B,F,sd,r,n⟩=>by
 refine ⟨B,F,sd,r,(Res.need_bind n).mono (fun d n1 v F1 H1 e1 i1=>?_) fun _ _ q=>q⟩;cases d with
 |str x =>
  obtain rfl:=IsD.str_iff.mp i1;refine ⟨rfl,B,F1,sd,r.step e1,(Res.need_bind n1).mono (fun y n2 w F2 H2 e2 i2=>?_) fun _ _ q=>q.ext e1⟩;obtain ⟨z,hz,q⟩:=Res.need_ofO n2;exact ⟨F2,x,y,z,w,e2.fh,rfl,rfl,i2,hz,q.ext (e1.trans e2)⟩
 |_=>exact n1.elim
theorem zhC {name id:String}{g:Str->D->Option D}{o e:Expr}{fo fe:FE}{apos cpos:Pos}(ho:QE X E o fo)(he:QE X E e fe)
 (hp:∀ {to:TE} {t:TA},PE X o to->PA X [e] t->PE X (.Call (.Attribute o name apos) [e] [] cpos) (tBM X.K "str" (rTxN X.K g) to t)) (hst:starEach [e] X.env=(false,eval e X.env)::starEach [] X.env:=by rfl) :
 QN X E (.Call (.Attribute o name apos) [e] [] cpos) (dTxt g fo fe):=PE.weak (hp ho (zcz he zdy hst)) fun σ H Q ⟨B,F,sd,r,n⟩=>by
 refine ⟨B,F,sd,r,(Res.need_bind n).mono (fun d n1 v F1 H1 e1 i1=>?_) fun _ _ q=>q⟩;cases d with
 |str x =>
  obtain rfl:=IsD.str_iff.mp i1;refine ⟨rfl,B,F1,sd,r.step e1,(Res.need_bind n1).mono (fun y n2 w F2 H2 e2 i2=>?_) fun _ _ q=>q.ext e1⟩;obtain ⟨z,hz,q⟩:=Res.need_ofO n2;exact ⟨F2,x,y,z,w,e2.fh,rfl,rfl,i2,hz,q.ext (e1.trans e2)⟩
 |_=>exact n1.elim
def zdx:List D->Option (List Str)
 | []=>some []
 | .str x::r=>(zdx r).map (x :: ·)
 |_=>none
theorem zeF:∀ (ws:List Str),zdx (ws.map D.str)=some ws
 | []=>rfl
 |w::ws=>by
  show (zdx (ws.map D.str)).map (w :: ·)=_;rw [zeF ws];rfl
theorem zgw {K:W.Frag}{F:Hp}:∀ {ds:List D} {ws:List Str} {xs:List V} {us:List Value},zdx ds=some ws->IsDs K F ds xs->Vals xs us->∃ l:List (Str×Tok),us=strValues l/\l.map (·.1)=ws
 | [],ws,xs,us,h,i,r=>by
  obtain rfl:=Zqi h;rw [IsDs.nil_iff] at i;subst i;cases r;exact ⟨[],rfl,rfl⟩
 |d::ds,ws,xs,us,h,i,r=>by
  obtain ⟨x,r',rfl,i1,i2⟩:=IsDs.cons_iff.mp i;cases d with
  |str w =>
   obtain ⟨ws',h1,rfl⟩:=Option.map_eq_some_iff.mp (show (zdx ds).map (w :: ·)=some ws from h);obtain rfl:=IsD.str_iff.mp i1;cases r with
   |cons ra rb =>
    obtain ⟨t,rfl⟩:=ra;obtain ⟨l,rfl,rfl⟩:=zgw h1 i2 rb;exact ⟨(w,t)::l,rfl,rfl⟩
  |_=>exact zqn h
def zi9 (x:Str):D->Option D
 | .lst ds=>(zdx ds).bind fun ws=>if JoinOk x ws then some (.str (Txt.join x ws)) else none
 |_=>none
theorem zg8:MtR X "str.join" (rTx X.K zi9):=by
 intro pins s σ H x vs v us Q I rx rv h;obtain ⟨F,a,e,z,w,sF,rfl,rfl,ie,hz,q⟩:=h;obtain ⟨t,rfl⟩:=rx;obtain ⟨u,rfl,ru⟩:=zcF rv;cases e with
 |lst ds =>
  obtain ⟨ws,h1,h2⟩:=Option.bind_eq_some_iff.mp (show (zdx ds).bind (fun ws=>if JoinOk a ws then some (.str (Txt.join a ws)) else none)=some z from hz)
  split at h2
  ·rename_i hk;obtain rfl:=Zqi h2;obtain ⟨p,xs,rfl,hp,hi⟩:=IsD.lst_iff.mp ie;obtain rfl:u=Value.ref p:=ru;obtain ⟨its,ri,pl,hl⟩:=I.list (hp.same sF).sq;obtain ⟨l,rfl,rfl⟩:=zgw h1 hi ri;exact SC.join pl.isList rfl hk fun t' k=>⟨.str _,H,I.tok _,⟨_,rfl⟩,q _ F H (.refl sF) (IsD.str_iff.mpr rfl)⟩
  ·exact zqn h2
 |_=>exact zqn hz
def zfy (x:Str):D->Option D
 | .str y=>some (.bl (Txt.startswith x y))
 |_=>none
theorem zlk:MtR X "str.startswith" (rTx X.K zfy):=by
 intro pins s σ H x vs v us Q I rx rv h;obtain ⟨F,a,e,z,w,sF,rfl,rfl,ie,hz,q⟩:=h;obtain ⟨t,rfl⟩:=rx;obtain ⟨u,rfl,ru⟩:=zcF rv;cases e with
 |str y =>
  obtain rfl:=Zqi hz;obtain rfl:=IsD.str_iff.mp ie;obtain ⟨t',rfl⟩:=ru;exact call_gives PySem.F.slot_str_startswith (typeIs_str _ _ _) PySem.F.entry_str_startswith (PySem.F.args_str_startswith_2 _ _) (gives_str_startswith a y t t') ⟨.bl _,H,I,rfl,q _ F H (.refl sF) (IsD.bl_iff.mpr rfl)⟩
 |_=>exact zqn hz
def zcC (x:Str):D->Option D
 | .str y=>if (y.length == 0)=false/\x.length+2<=sizeLine then some (.lst ((Txt.split x y).map .str)) else none
 |_=>none
theorem zgl:∀ l:List (Str×Tok),Vals ((l.map (·.1)).map V.str) (strValues l)
 | []=>.nil
 |p::l=>.cons ⟨p.2,rfl⟩ (zgl l)
theorem zgu {K:W.Frag}{F:Hp}:∀ ws:List Str,IsDs K F (ws.map D.str) (ws.map V.str)
 | []=>.nil
 |w::ws=>.mk (IsD.str_iff.mpr rfl) (zgu ws)
theorem zdH:MtR X "str.split" (rTxN X.K zcC):=by
 intro pins s σ H x vs v us Q I rx rv h;obtain ⟨F,a,e,z,w,sF,rfl,rfl,ie,hz,q⟩:=h;obtain ⟨t,rfl⟩:=rx;obtain ⟨u,rfl,ru⟩:=zcF rv;cases e with
 |str y =>
  obtain rfl:=IsD.str_iff.mp ie;obtain ⟨t',rfl⟩:=ru;have hz:(if (y.length == 0)=false/\a.length+2<=sizeLine then some (D.lst ((Txt.split a y).map .str)) else none)=some z:=hz
  split at hz
  ·rename_i hk;obtain rfl:=Zqi hz;obtain ⟨hy,hsz⟩:=hk;have hn:(Builtin.Str.partsBetween a (Builtin.Str.occurrences a y 0 a.length (a.length+1)) y.length).length<=sizeLine:=by
    have e1:=StrLaws.occ_length_le a y 0 a.length (a.length+1);rw [PySem.length_partsBetween];omega
   have fin:∀ (l:List (Str×Tok)) (tk:Nat),l.map (·.1)=Txt.split a y->l.length<=sizeLine->EP X pins σ Q (.ref s.heap.objs.size) { s with heap:=s.heap.push { cls:=.type "list",data:=.seq (strValues l).toArray },toks:=tk }:=fun l tk el hl=>by
    have I1:=I.laid (a:=s.heap.objs.size) (o:=.lst ((Txt.split a y).map V.str)) (h':=s.heap.push { cls:=.type "list",data:=.seq (strValues l).toArray }) (t':=tk) (fun b u q=>Heap.get?_push_of_some _ q) (Nat.le_refl _)
     ⟨by rw [<- el,Zql,Zql];exact hl,strValues l,0,by rw [<- el];exact zgl l,Heap.get?_push_size _ rfl⟩
    exact ⟨.ref s.heap.objs.size,_,I1,rfl,q s.heap.objs.size F _ (.keep sF (I.hok.fresh (Nat.le_refl _)) _) (I.hok.fresh (Nat.le_refl _)) (zas sF (I.hok.fresh (Nat.le_refl _))) ⟨_,zai,zgu _⟩⟩
   cases h1:(decide (a.length<y.length)||decide (Builtin.Str.strKind a<Builtin.Str.strKind y))
   ·cases hf:(Builtin.Str.occurrences a y 0 a.length (a.length+1)).isEmpty
    ·refine call_meets PySem.F.slot_str_split (typeIs_str _ _ _) PySem.F.entry_str_split (PySem.F.args_str_split_2 _ _) (meets_str_split_sep a y t t' h1 hy hf (by omega) hn) ?_;show wants _ _ _ { s with toks:=_,heap:=s.heap.push { cls:=.type "list",data:=.seq (strsFrom s.toks (Builtin.Str.partsBetween a (Builtin.Str.occurrences a y 0 a.length (a.length+1)) y.length)).toArray } };rw [strsFrom_eq];refine fin (numbered s.toks _) _ ((numbered_texts _ _).trans ((if_neg (ne_true_of_eq_false h1)).trans (if_neg (ne_true_of_eq_false hf))).symm) ?_;have:=congrArg List.length (numbered_texts s.toks (Builtin.Str.partsBetween a (Builtin.Str.occurrences a y 0 a.length (a.length+1)) y.length));rw [Zql] at this;omega
    ·exact call_meets PySem.F.slot_str_split (typeIs_str _ _ _) PySem.F.entry_str_split (PySem.F.args_str_split_2 _ _) (meets_str_split_not_found a y t t' h1 hy hf) (fin [(a,t)] s.toks ((if_neg (ne_true_of_eq_false h1)).trans (if_pos hf)).symm (by simp;omega))
   ·exact call_meets PySem.F.slot_str_split (typeIs_str _ _ _) PySem.F.entry_str_split (PySem.F.args_str_split_2 _ _) (meets_str_split_cannot_occur a y t t' h1) (fin [(a,t)] s.toks (if_pos h1).symm (by simp;omega))
  ·exact zqn hz
 |_=>exact zqn hz
end
structure ClsI (K:W.Frag)(C:Addr):Prop where
 cl:W.findIn K (.ref C) "__class__" = some (some (.builtin "object.__class__"))
 gt:W.specialIn K (.builtin "object.__class__") "__get__" = some (some (.builtin "getset_descriptor.__get__"))
 tk:W.takesIn K (.builtin "object.__class__")=some true
 mr:W.mroIn K C (.type "object")=some true
def zjI (K:W.Frag)(c:Str):Prop:=∃ C,W.nsIn K mainGlobals c=some (some (.ref C))/\ClsI K C
noncomputable def zf1 (c:Str):List D->Option D
 | [.ins c' _ _,.ucl u]=>if c'=c/\u=c then some (.bl true) else none
 |_=>none
section
variable {X:Cx}
theorem zoo {c:Str}{C:Addr}{fs:List Str}(k:ClsD X.K X.mg c C fs)(z:zjI X.K c):zaN X (.builtin "isinstance") (rDA X.K (zf1 c)):=by
 intro pins s σ H xs ws Q I r ⟨F,ds,y,sF,id,hz,q⟩;unfold zf1 at hz
 split at hz
 ·rename_i c' gs es u
  split at hz
  ·rename_i h;obtain ⟨rfl,rfl⟩:=h;cases hz;obtain ⟨v1,v2,rfl,i1,i2⟩:=zkJ id;obtain ⟨u1,u2,rfl,ra,rb⟩:=r.two;obtain ⟨a,C1,dx,xs,rfl,hC,hF,_⟩:=IsD.ins_iff.mp i1;obtain ⟨U,rfl,hU⟩:=IsD.ucl_iff.mp i2;obtain rfl:u1=Value.ref a:=ra;obtain rfl:u2=Value.ref U:=rb;obtain ⟨C2,hC2,zi⟩:=z;rw [k.ns] at hC hU hC2;cases hC;cases hU;cases hC2;obtain ⟨mA,O,_⟩:=zfn I.hok (sF _ _ hF);obtain ⟨od,hi,_⟩:=O.look;exact W.kia_one (W.kitx_own (k.cls.get _) k.cls.hd zi.cl zi.gt zi.tk zi.mr) I.kIn hi znm (fun z=>nomatch z) fun tk=>⟨.bl _,H,I.tok _,rfl,q _ F H (.refl sF) (IsD.bl_iff.mpr rfl)⟩
  ·exact zqn hz
 ·exact zqn hz
end
@[simp] theorem ev_vL (f:FE)(sd:SD)(hp:HP):vL f sd hp=(Wr.of (f sd)).bind fun d=>.ok (d,hp):=rfl
@[simp] theorem ev_vLT (f:FT)(sd:SD)(hp:HP):vLT f sd hp=(Wr.of (f sd)).bind fun d=>.ok (d,hp):=rfl
@[simp] theorem ev_vRd (k:Nat)(is:List Nat)(f:FE)(sd:SD)(hp:HP):vRd k is f sd hp=(Wr.of (f (drI k hp is sd)).strict).bind fun d=>if zc8 8 d then .ok (d,hp) else .no:=rfl
@[simp] theorem ev_vRdT (k:Nat)(is:List Nat)(f:FT)(sd:SD)(hp:HP):vRdT k is f sd hp=(Wr.of (f (drI k hp is sd)).strict).bind fun d=>.ok (d,hp):=rfl
@[simp] theorem drI_nil (n:Nat)(hp:HP)(sd:SD):drI n hp [] sd=sd:=rfl
def dr1 (n:Nat)(hp:HP)(i:Nat)(sd:SD):Option (Option SV)->SD
 |some (some (.val d))=>sd.set i (some (.val (dr hp n d)))
 |_=>sd
@[simp] theorem dr1_val (n:Nat)(hp:HP)(i:Nat)(sd:SD)(d:D):dr1 n hp i sd (some (some (.val d)))=sd.set i (some (.val (dr hp n d))):=rfl
@[simp] theorem drI_cons (n:Nat)(hp:HP)(i:Nat)(is:List Nat)(sd:SD):drI n hp (i::is) sd=drI n hp is (dr1 n hp i sd sd[i]?):=by
 show drI n hp is _=drI n hp is _
 congr 1
@[simp] theorem ev_vIx (fo fi:FV)(sd:SD)(hp:HP):vIx fo fi sd hp=(fo sd hp).bind fun p=>(fi sd p.2).bind (vIxK p.1):=rfl
theorem zcJ {a:Addr}{q:D×HP}{es:List D}(h:hpAt q.2 a=some (.lst es)):vIxK (.adr a) q=(Wr.of (.ofO (gIx (.lst es) q.1))).bind fun z=>.ok (z,q.2):=by
 unfold vIxK;simp only [h]
@[simp] theorem ev_vNil (sd:SD)(hp:HP):vNil sd hp=.ok ([],hp):=rfl
@[simp] theorem ev_vCons (f:FV)(g:FVA)(sd:SD)(hp:HP):zaq f g sd hp=(f sd hp).bind fun p=>(g sd p.2).bind fun q=>.ok (p.1::q.1,q.2):=rfl
@[simp] theorem ev_vLst (fr:FVA)(sd:SD)(hp:HP):vLst fr sd hp=(fr sd hp).bind fun p=>if p.1.length<=1000 then .new p.2 fun a=>.ok (.adr a,(a,.lst p.1)::p.2) else .no:=rfl
@[simp] theorem ev_vCall (Fn:List D->HP->Wr (D×HP))(fr:FVA)(sd:SD)(hp:HP):zcq Fn fr sd hp=(fr sd hp).bind fun p=>Fn p.1 p.2:=rfl
@[simp] theorem ev_zL (g:FS)(sd:SD)(hp:HP):zL g sd hp=(Wr.of (g sd)).bind (up3 hp):=rfl
@[simp] theorem up3_next (hp:HP)(sd:SD):up3 hp (.next sd)=.ok (.next sd hp):=rfl
@[simp] theorem ev_zNext (sd:SD)(hp:HP):zcI sd hp=.ok (.next sd hp):=rfl
@[simp] theorem zj8 (g1 g2:FVS)(sd:SD)(hp:HP):zSeq g1 g2 sd hp=(g1 sd hp).bind (zK g2):=rfl
@[simp] theorem zK_next (g:FVS)(sd:SD)(hp:HP):zK g (.next sd hp)=g sd hp:=rfl
@[simp] theorem zK_ret (g:FVS)(d:D)(hp:HP):zK g (.ret d hp)=.ok (.ret d hp):=rfl
@[simp] theorem ev_zRet (f:FV)(sd:SD)(hp:HP):zRet f sd hp=(f sd hp).bind fun p=>.ok (.ret p.1 p.2):=rfl
@[simp] theorem ev_zDrop (f:FV)(sd:SD)(hp:HP):ziH f sd hp=(f sd hp).bind fun p=>.ok (.next sd p.2):=rfl
@[simp] theorem ev_zSet (i:Nat)(f:FV)(sd:SD)(hp:HP):zSet i f sd hp=(f sd hp).bind fun p=>.ok (.next (sd.set i (some (.val p.1))) p.2):=rfl
@[simp] theorem ev_zIf (c:FVT)(g1 g2:FVS)(sd:SD)(hp:HP):zIf c g1 g2 sd hp=(c sd hp).bind fun p=>if p.1 then g1 sd p.2 else g2 sd p.2:=rfl
@[simp] theorem ev_zApp (fo fe:FV)(sd:SD)(hp:HP):zApp fo fe sd hp=(fo sd hp).bind (zhp fe sd):=rfl
theorem zb9 {fe:FV}{sd:SD}{a:Addr}{hp:HP}{es:List D}(h:hpAt hp a=some (.lst es)):zhp fe sd (.adr a,hp)=(fe sd hp).bind (zfo sd a):=by
 unfold zhp;simp only [h]
theorem zb8 {sd:SD}{a:Addr}{d:D}{hp:HP}{es:List D}(h:hpAt hp a=some (.lst es))(hl:es.length<sizeLine):zfo sd a (d,hp)=.ok (.next sd (zax hp a (.lst (es++[d])))):=by
 unfold zfo;simp only [h];rw [if_pos hl]
@[simp] theorem ev_zPut (fo fi fv:FV)(sd:SD)(hp:HP):zPut fo fi fv sd hp=(fv sd hp).bind fun p=>(fo sd p.2).bind (zmt fi sd p.1):=rfl
@[simp] theorem zsA (fi:FV)(sd:SD)(d:D)(a:Addr)(hp:HP):zmt fi sd d (.adr a,hp)=(fi sd hp).bind (zfW sd d a):=rfl
theorem zeR {sd:SD}{d:D}{a:Addr}{k:Int}{j:Nat}{hp:HP}{es:List D}(h:hpAt hp a=some (.lst es))(hk:ixN es.length k=some j):zfW sd d a (.int k,hp)=.ok (.next sd (zax hp a (.lst (es.set j d)))):=by
 unfold zfW;simp only [h,hk]
@[simp] theorem outZ_ret (d:D)(hp:HP):outZ (.ret d hp)=.ok (d,hp):=rfl
theorem zcs {hp:HP}{a:Addr}{d:D}(n:Nat)(h:hpAt hp a=some d):dr hp (n+1) (.adr a)=dr hp n d:=by
 show (match hpAt hp a with
  |some d=>dr hp n d
  |none=>.adr a)=_
 rw [h]
@[simp] theorem flat_int (n:Nat)(i:Int):zc8 n (.int i)=true:=by cases n<;>rfl
@[simp] theorem flat_str (n:Nat)(i:Str):zc8 n (.str i)=true:=by cases n<;>rfl
@[simp] theorem flat_bl (n:Nat)(i:Bool):zc8 n (.bl i)=true:=by cases n<;>rfl
@[simp] theorem flat_non (n:Nat):zc8 n .non=true:=by cases n<;>rfl
theorem zbV {hp:HP}{a b:Addr}{d:D}(h:hpAt hp b≠none):(hpAt (zax hp a d) b)≠none:=by
 by_cases z:hpAt hp a=none
 ·have:zax hp a d=hp:=by
   clear h
   induction hp with
   |nil=>rfl
   |cons p r ih =>
    rw [zaf] at z;by_cases y:a=p.1
    ·rw [if_pos y] at z;cases z
    ·rw [if_neg y] at z;unfold zax;rw [if_neg y,ih z]
  rw [this];exact h
 ·rw [zbn b z]
  split
  ·simp
  ·exact h
theorem zaR {hp:HP}{a:Addr}{d:D}(h:hpAt hp a≠none):hpAt (zax hp a d) a=some d:=by rw [zbn a h,if_pos rfl]
theorem zap {hp:HP}{a b:Addr}{d:D}(h:hpAt hp a≠none)(n:b≠a):hpAt (zax hp a d) b=hpAt hp b:=by rw [zbn b h,if_neg n]
theorem zc0 {n ar:Nat}{g:FVS}{ds:List D}{hp:HP}{P:D×HP->Prop}{Q:Str->List D->Prop}(ha:ds.length=ar)(h:((g (zaS n ds) hp).bind outZ).need (fun p=>(∀ a,hpAt hp a≠none->hpAt p.2 a≠none)/\P p) Q):(runV n ar g ds hp).need P Q:=by
 unfold runV;rw [if_pos ha];refine Wr.need_bind.mpr (h.mono (fun p hq=>?_) fun _ _ q=>q);have:(hp.all fun z=>(hpAt p.2 z.1).isSome)=true:=List.all_eq_true.mpr fun z hz=>by
  have h1:hpAt hp z.1≠none:=by
   rw [Ne,zcp];exact fun y=>y (List.mem_map.mpr ⟨z,hz,rfl⟩)
  have:=hq.1 z.1 h1;cases y:hpAt p.2 z.1 with
  |none=>exact absurd y this
  |some d=>rfl
 rw [if_pos this];exact hq.2
end L2.DL
namespace L2
def zps (it:Addr):Array Value:=#[.none,.bool false,.ref it,rawInt 1,.none,.none]
def ziY (l:Addr):Obj:={ cls:=.type "list_iterator",data:=.fields #[.ref l,.int 0 0] }
def znx (it:Addr):Obj:={ cls:=.type "enumerate",data:=.fields (zps it) }
def zfC (h:Heap)(l:Addr):Heap:=(h.push (ziY l)).push (znx h.objs.size)
set_option maxHeartbeats 1000000 in
theorem zhl (l:Addr)(us:Array Value)(k:Nat)(dx:Option Addr)(sl:Array (Option Value))(t:Tok) :
 Meets (Builtin.«enumerate.__new__» ⟨[.type "enumerate",.ref l],[("start",.int 1 t)]⟩) (fun _ R s=>s.heap.get? l=some ⟨.type "list",dx,.seq us k,sl⟩/\R (.ok (.ret (.ref (s.heap.push (ziY l)).objs.size))) { s with heap:=zfC s.heap l }) :=
 .of_wp fun prog w A R s q=>by
  obtain ⟨hh,hg,hd,tk,os⟩:=s;have q0:=q.1;have q1:=q.2;have hsub:=sub_enumerate;have hL:Heap.IsList (Shared.heap ⟨hh,hg,hd,tk,os⟩) l us:=⟨_,q0,rfl,k,rfl⟩
  wp_walk using AutoSeq1.wpAny_loadPart' q0
  refine wpAny_stack_any fun _=>wpAny_pure ?_
  split
  ·rename_i c _ _ _ _ _;cases (c == Value.type "enumerate")<;>(wp_walk using AutoSeq1.wpAny_loadPart' q0,wpAny_pyIter_list hL;exact ⟨_,rfl,q1⟩)
  ·wp_walk using AutoSeq1.wpAny_loadPart' q0,wpAny_pyIter_list hL
   exact ⟨_,rfl,q1⟩
section
variable {prog:Program}{w:World}{A:Around}{E:Value->Shared->Prop}{s:Shared}
theorem initK {self a:Value}{kw:List (Str×Value)}:Meets (Builtin.«object.__init__» ⟨[self,a],kw⟩) (fun _ R s=>s.TypeIs self "enumerate" /\ R (.ok (.ret .none)) s):=by
 have m1:=PySem.F.called_enumerate.init.lookup;have m2:=PySem.F.called_enumerate.made;have m3:(some "enumerate.__new__" != some "object.__new__")=true:=by decide
 refine Meets.of_wp fun prog w A R s q=>?_;have q1:=q.1;have q2:=q.2
 repeat (any_goals (first|assumption|wp_step))
 exact ⟨_,rfl,q2⟩
theorem zoA (a:Value)(t:Tok):checkTypeCall "enumerate" ⟨[a],[("start",.int 1 t)]⟩=pure ():=by kernel_rfl
theorem zpg (a:Value)(t:Tok):checkBuiltinCall "enumerate.__new__" ⟨[.type "enumerate",a],[("start",.int 1 t)]⟩=pure ():=by kernel_rfl
theorem zpY (o a:Value)(t:Tok):argsOk "object.__init__" ⟨[o,a],[("start",.int 1 t)]⟩:=by
 unfold argsOk;rw [signature?_of (id := "object.__init__") (n:=['_','_','t','i','n','i','_','_']) (o:=['t','c','e','j','b','o']) (by kernel_rfl) PySem.F.owner_object]
 kernel_rfl
theorem ziD {l:Addr}{us:Array Value}{t:Tok}{Q:Value->Shared->Prop}(hL:s.heap.IsList l us)(q:Q (.ref (s.heap.objs.size+1)) { s with heap:=zfC s.heap l }) :
 wpAny (model prog w) A (call (.type "enumerate") [.ref l] [("start",.int 1 t)]) Q E s:=by
 obtain ⟨⟨cc,dx,dt,sl⟩,l0,l1,k,l2⟩:=hL;obtain rfl:cc=.type "list" := l1;obtain rfl:dt=.seq us k:=l2;have T:=PySem.F.called_enumerate;obtain ⟨c0,cs,hmro⟩:=T.mro;have hm:=T.made;have hsb:=T.sub;have hnt:=T.notType;have hcc:=T.canCreate;have c1:=zoA (.ref l) t;have hz:(s.heap.push (ziY l)).objs.size=s.heap.objs.size+1:=Heap.size_push ..;refine wpAny_call (codeAny_of_tree (show wpAny _ _ (callAny (.type "enumerate") ⟨[.ref l],[("start",.int 1 t)]⟩) _ _ _ from ?_));refine wpAny_pure ⟨Code.quiet_builtin _ (by decide +kernel),codeAny_builtin PySem.F.entry_type_call ?_⟩;rw [Around.under_plain (weight_type_call_type "enumerate" [.ref l] [("start",.int 1 t)]) (units_type_call_type "enumerate" [.ref l] [("start",.int 1 t)])]
 repeat (any_goals (first|assumption|wp_step))
 have made:=zhl l us k dx sl t prog w A.in1 (wants (fun o s1=>o=.ref (s.heap.objs.size+1)/\s1={ s with heap:=zfC s.heap l }) E) s ⟨l0,by rw [hz];exact ⟨rfl,rfl⟩⟩;refine codeAny_mono (codeAny_call_builtin T.plain PySem.F.entry_enumerate_new (wpAny_of_eq (zpg (.ref l) t) made)) fun r s1 h1=>?_;cases r with
 |error e=>exact h1
 |ok f =>
  cases f with
  |ret o =>
   obtain ⟨rfl,rfl⟩:=h1;have hT:Shared.TypeIs { s with heap:=zfC s.heap l } (.ref (s.heap.objs.size+1)) "enumerate" := ⟨znx s.heap.objs.size,by
    have:=Heap.get?_push_size (s.heap.push (ziY l)) (o:=znx s.heap.objs.size) rfl;rw [hz] at this;exact this,rfl⟩
   have i1:=T.init.lookup;have i2:=T.init.bind (.ref (s.heap.objs.size+1))
   repeat (any_goals (first|assumption|wp_step))
   refine codeAny_mono (codeAny_call_builtin T.init.plain PySem.F.entry_object_init (T.init.check _ _ _ _ _ _ _ _ hT (zpY _ (.ref l) t) (initK prog w A.in1 (wants (fun z s2=>z=.none/\Q (.ref (s.heap.objs.size+1)) s2) E) _ ⟨hT,rfl,q⟩))) fun r2 s2 h2=>?_;cases r2 with
   |error e=>exact h2
   |ok f2 =>
    cases f2 with
    |ret z =>
     obtain ⟨rfl,q2⟩:=h2
     repeat (any_goals (first|assumption|wp_step))
    |_=>exact h2.elim
  |_=>exact h1.elim
theorem zry (hh:A.handled=none)(it a:Addr)(us:Array Value):Draws prog w A it [it,a] (us.size+1) (fun j x=>us[j-1]? = some x) (fun j h=>∃ i,j=i+1/\h.IsListIter it a i/\h.IsList a us/\it≠a) where
 live:=fun j h ⟨i,_,⟨o,e,_⟩,_⟩=>⟨o,e⟩
 frame:=fun j h h' ⟨i,e,h1,h2,h3⟩ kk=>⟨i,e,h1.at fun o q=>kk it (by simp) o q,(let ⟨o,e,r⟩:=h2;⟨o,kk a (by simp) o e,r⟩),h3⟩
 item:=fun j s Q E hj ⟨i,e,h1,h2,h3⟩ hQ=>by
  subst e;have hi:i<us.size:=by omega
  refine wpAny_nextOf_list_item h1 h2 (x:=us[i]) (by simp [hi]) fun h' k1 k2=>?_;exact hQ us[i] h' s.toks (by simp [hi]) ⟨i+1,rfl,k1,(let ⟨o,e,r⟩:=h2;⟨o,(k2.2 a h3.symm).trans e,r⟩),h3⟩ k2
 done:=fun s Q E ⟨i,e,h1,h2,h3⟩ hE=>by
  have hi:i=us.size:=by omega
  exact wpAny_nextOf_list_end hh h1 h2 (by simp [hi]) hE
theorem zrR (hh:A.handled=none)(it a:Addr)(us:Array Value){i:Nat}(hle:us.size<=i):Draws prog w A it [it,a] (i+1) (fun _ _=>True) (fun j h=>j=i+1/\h.IsListIter it a i/\h.IsList a us) where
 live:=fun j h ⟨_,⟨o,e,_⟩,_⟩=>⟨o,e⟩
 frame:=fun j h h' ⟨e,h1,h2⟩ kk=>⟨e,h1.at fun o q=>kk it (by simp) o q,(let ⟨o,e,r⟩:=h2;⟨o,kk a (by simp) o e,r⟩)⟩
 item:=fun j s Q E hj ⟨e,_⟩ hQ=>by omega
 done:=fun s Q E ⟨_,h1,h2⟩ hE=>wpAny_nextOf_list_end hh h1 h2 (by simp [hle]) hE
end
def Ite1 (K:W.Frag)(a:Addr):It :=
 ⟨fun i H=>∃ xs x,SqL K H a xs/\xs[i]? = some x,
  fun i H v H'=>∃ T x,v=.ref T/\H T=none/\H'=upd H T (.tup [.int ((i:Int)+1),x])/\∀ xs,SqL K H a xs->xs[i]? = some x,
  fun i H=>∃ xs,SqL K H a xs/\xs.length<=i⟩
def zpe (e it a:Addr)(i:Nat)(h:Heap):Prop:=(∃ old,IsEnum h e it ((i:Int)+1) old)/\h.IsListIter it a i
theorem ziw {P:Program}{w:World}{K:W.Frag}{elts:List Expr}{kx}{pos:Pos}(a e it:Addr)(hne:e≠it):Turn P w K (.Tuple elts kx pos) (Ite1 K a) [e,it] e (zpe e it a) where
 mem:=by simp
 obj:=fun i h st c hc=>by
  obtain ⟨⟨old,he⟩,⟨o1,e1,c1,d1⟩⟩:=st;simp only [List.mem_cons,List.not_mem_nil,or_false] at hc;rcases hc with rfl|rfl
  ·exact ⟨_,he,fun v q=>by cases q⟩
  ·exact ⟨_,e1,fun v q=>by rw [d1] at q;cases q⟩
 keep:=fun i h h' st kk=>⟨(let ⟨old,he⟩:=st.1;⟨old,kk e (by simp) _ he⟩),st.2.at fun o q=>kk it (by simp) o q⟩
 item:=by
  intro X hP hw hK hc i pins s σ H E I hf st hg;subst hP hw hK;obtain ⟨xs,x,ha,hx⟩:=hg;obtain ⟨its,rv,p,hz⟩:=I.list ha;obtain ⟨u,hu,ru⟩:=rv.get hx;obtain ⟨⟨old,he⟩,hit⟩:=id st;obtain ⟨o1,e1,c1,_⟩:=id hit;have hia:it≠a:=fun z=>by
   obtain ⟨o2,e2,c2,_⟩:=p.isList;rw [<- z,e1] at e2;cases e2;rw [c1] at c2;exact absurd c2 (by decide)
  have hea:e≠a:=fun z=>by
   obtain ⟨o2,e2,c2,_⟩:=p.isList;rw [<- z,he] at e2;cases e2;exact absurd (show Value.type "enumerate" = Value.type "list" from c2) (by decide)
  have hi:i<its.length:=(List.getElem?_eq_some_iff.mp hu).1;have D:=zry (prog:=X.prog) (w:=X.w) (A:=X.A.in1) (show X.A.in1.handled=none from I.ok.hd hc) it a its.toArray;have he':IsEnum s.heap e it ((i+1:Nat):Int) old:=by rw [show ((i+1:Nat):Int)=(i:Int)+1 by omega];exact he
  refine wpAny_pyNext_enum_itemD D he' ⟨i,rfl,hit,p.isList,hia⟩ (by simp;omega) hne (by simp [hne,hea]) fun y h' tk hy a1 a2 a3 a4 kk=>?_;have hy:its.toArray[i]? = some y:=by simpa using hy
  have hyu:u=y:=by
   have:its[i]? = some y:=by simpa using hy
   rw [hu] at this;exact Zqi this
  subst hyu;obtain ⟨i',ei,b2,_,_⟩:=a2;obtain rfl:i'=i+1:=by omega
  refine ⟨_,rfl,wpAny_letOwnedTupleGo_enum (s:={ s with heap:=h',toks:=tk+1 }) a1 fun h2 b1 sb=>?_⟩;have sb:Heap.SameBut e h' h2:=sb;have lt:∀ {c o},s.heap.get? c=some o->c≠s.heap.objs.size:=fun q=>Nat.ne_of_lt (Heap.lt_size q);have lts:∀ c ∈ [e,it],c≠s.heap.objs.size:=fun c hc=>by
   simp only [List.mem_cons,List.not_mem_nil,or_false] at hc;rcases hc with rfl|rfl
   ·exact lt he
   ·exact lt e1
  have hTe:s.heap.objs.size≠e:=fun q=>lt he q.symm;have I2:=I.paired (t':=tk+1) (h':=h2) (ch:=[e,it]) (x:=.int ((i:Int)+1)) (u:=.int ((i+1:Nat):Int) tk) ⟨tk,by rw [show ((i+1:Nat):Int)=(i:Int)+1 by omega]⟩ ru hf lts (sb.extBut _ _ hTe a3) (fun c o hc q=>by
   simp only [List.mem_cons,List.not_mem_nil,or_false,not_or] at hc;exact sb.extBut c o hc.1 (kk c o hc.1 hc.2 q))
  refine ⟨.ref s.heap.objs.size,_,I2,rfl,⟨_,x,rfl,I.hok.fresh (Nat.le_refl _),rfl,fun zs hq=>by rw [I.list_inj hq ha];exact hx⟩,⟨⟨u,?_⟩,b2.extBut sb.extBut (Ne.symm hne)⟩,fun c hc=>(zaj (lts c hc)).trans (hf c hc).1⟩;have q:(((i+1:Nat)):Int)=(i:Int)+1:=by omega
  rw [q];rw [q] at b1;exact b1
 done:=by
  intro X hP hw hK hc i pins s σ H E I hf st hg;subst hP hw hK;obtain ⟨xs,ha,hx⟩:=hg;obtain ⟨its,rv,p,hz⟩:=I.list ha;have l1:=rv.length;obtain ⟨⟨old,he⟩,hit⟩:=id st;obtain ⟨o1,e1,c1,_⟩:=id hit;refine wpAny_pyNext_enum_endD (zrR (prog:=X.prog) (w:=X.w) (A:=X.A.in1) (show X.A.in1.handled=none from I.ok.hd hc) it a its.toArray (i:=i) (by simp;omega)) he ⟨rfl,hit,p.isList⟩ fun h' eb=>⟨rfl,I.turnedL (t':=s.toks) (ch:=[it]) (fun c o hc q=>?_) fun c hc=>hf c ?_⟩
  ·exact eb c o (fun z=>hc (by simp [z])) q
  ·have:c=it:=by simpa using hc
   subst this;simp
 self:=fun _ _ _ _ _ st h=>wpAny_pyIter_enum st.1.choose_spec h
section
variable {X:Cx}
def zq9 (K:W.Frag)(ta:TA):TI:=fun σ H R=>ta σ H fun vs H1=>∃ a,vs=[.ref a]/\(∃ xs,SqL K H1 a xs)/\R (Ite1 K a) H1
theorem zgx {M:Model}{A:Around}{E:Value->Shared->Prop}{s:Shared}{env:Env}{pos:Pos}{T:String}{e:Expr}{rest:List Expr}{kws:List Keyword}{Q:Value->Shared->Prop}
 (h:wpAny M A (spliced (backTo pos (starEach (e::rest) env))) (fun vs s1=>wpAny M A (evalAll ((backToKw pos (keywordEach kws env)).map (·.2))) (fun ks s2=>wpAny M A (call (.type T) vs (((backToKw pos (keywordEach kws env)).filterMap (·.1)).zip ks)) Q E s2) E s1) E s)
 (he:backTo pos (starEach (e::rest) env)=(false,eval e env)::backTo pos (starEach rest env):=by rfl) (hpl:(backTo pos (starEach (e::rest) env)).any (·.1)=false:=by rfl)
 (hall:(backToKw pos (keywordEach kws env)).all (·.1.isSome)=true:=by rfl) (hkw:(backToKw pos (keywordEach kws env)).any (·.1.isNone)=false:=by rfl) :
 wpAny M A (callWith pos (.type T) [] (backTo pos (starEach (e::rest) env)) (backToKw pos (keywordEach kws env))) Q E s:=by
 have ev:wpAny M A (evalArgs (.type T) true (backTo pos (starEach (e::rest) env)) (backToKw pos (keywordEach kws env))) (fun a s1=>wpAny M A (call (.type T) ([]++a.pos) a.kw) Q E s1) E s:=by
  rw [he] at h ⊢;exact evalArgs_kwB hall h
 unfold callWith;refine wpAny_bind (wpAny_holding (wpAny_mono ev (fun a s1 q=>wpAny_bind (wpAny_standAt ?_)) fun _ _ z=>z));simp only [hpl,hkw,Bool.or_false];exact wpAny_bind (wpAny_pure (wpAny_bind (wpAny_mono q (fun r s2 z=>wpAny_bind (wpAny_holding (wpAny_point (wpAny_pure z)))) fun _ _ z=>z)))
theorem zm6 {a:Expr}{ta:TA}{p pos kp np:Pos}{nk}{elts:List Expr}{kx}{tp:Pos}(hg:Gl X "enumerate")(hm:X.mg "enumerate" = none)(ha:PA X [a] ta)(he:backTo pos (starEach [a] X.env)=(false,eval a X.env)::backTo pos (starEach [] X.env):=by rfl)(hpl:(backTo pos (starEach [a] X.env)).any (·.1)=false:=by rfl) :
 PI X (.Tuple elts kx tp) (.Call (.Name "enumerate" p) [a] [⟨some "start",.Constant (.int 1) nk np,kp⟩] pos) (zq9 X.K ta):=by
 intro pins s σ H R I h;refine wpAny_Call_Name_kw (zdK I hg hm (show bootBuiltins "enumerate" = some (.type "enumerate") by kernel_rfl) ?_ (by decide) (by decide));refine zgx (thn (ha pos pins s σ H _ I h) fun us s1 ⟨vs,H1,I1,r1,q1⟩=>?_) he hpl;refine kws_cons (wpAny_Constant_int ?_);refine kws_nil ?_;obtain ⟨a,e,⟨xs,h1⟩,q⟩:=q1;subst e;obtain ⟨u,rfl,ru⟩:=zcF r1;obtain rfl:u=Value.ref a:=ru;obtain ⟨its,rv,p,hz⟩:=I1.list h1;refine ziD (s:={ s1 with toks:=s1.toks+1 }) p.isList ?_;have hz2:(s1.heap.push (ziY a)).objs.size=s1.heap.objs.size+1:=Heap.size_push ..;have z1:IsEnum (zfC s1.heap a) (s1.heap.objs.size+1) s1.heap.objs.size (((0:Nat):Int)+1) .none:=by
  have:=Heap.get?_push_size (s1.heap.push (ziY a)) (o:=znx s1.heap.objs.size) rfl;rw [hz2] at this;exact this
 have z2:(zfC s1.heap a).IsListIter s1.heap.objs.size a 0:=⟨_,Heap.get?_push_of_some _ (Heap.get?_push_size _ rfl),rfl,rfl⟩;refine wpAny_pyIter_enum (s:={ s1 with toks:=s1.toks+1,heap:=zfC s1.heap a }) z1 ?_;refine ⟨s1.heap.objs.size+1,[s1.heap.objs.size+1,s1.heap.objs.size],_,_,H1,rfl,I1.kept (t':=s1.toks+1) (h':=zfC s1.heap a) (fun b o y=>Heap.get?_push_of_some _ (Heap.get?_push_of_some _ y)),ziw a (s1.heap.objs.size+1) s1.heap.objs.size (Nat.succ_ne_self _),⟨⟨_,z1⟩,z2⟩,fun c hc=>?_,q⟩;have hc':s1.heap.objs.size<=c:=by
  simp only [List.mem_cons,List.not_mem_nil,or_false] at hc;rcases hc with rfl|rfl<;>first|exact Nat.le_refl _|exact Nat.le_add_right _ _
 exact I1.fpOk hc' (I1.hok.fresh hc')
end
end L2
namespace L2.DL
def zdw (xs:List D):List D:=List.zipWith (fun (k:Nat) x=>D.tup [.int ((k:Int)+1),x]) (List.range xs.length) xs
def zif:List D->Res (List D)
 | [d]=>(Res.ofO (zmz d)).bind fun xs=>.ok (zdw xs)
 |_=>.no
def iEn1 (fr:FA):FA:=fun sd=>(fr sd).bind zif
@[simp] theorem ev_iEn1 (fr:FA)(sd:SD):iEn1 fr sd=(fr sd).bind zif:=rfl
@[simp] theorem zqg (xs:List D):zif [.lst xs]=.ok (zdw xs):=rfl
theorem zgj (ds:List D)(i:Nat):(zdw ds)[i]? = ds[i]?.map fun x=>D.tup [.int ((i:Int)+1),x]:=by
 unfold zdw;rw [List.getElem?_zipWith];by_cases h:i<ds.length
 ·rw [List.getElem?_range h,Zqg h];rfl
 ·rw [List.getElem?_eq_none (show ds.length<=i by omega)];cases (List.range ds.length)[i]?<;>rfl
theorem ziN (ds:List D):(zdw ds).length=ds.length:=by unfold zdw;rw [List.length_zipWith,List.length_range,Nat.min_self]
theorem zit {K:W.Frag}{F1:Hp}{a:Addr}{ds:List D}{xs:List V}(q1:SqL K F1 a xs)(i1:IsDs K F1 ds xs):Walk K F1 (Ite1 K a) (zdw ds):=fun i F2 H2 s1 s2=>by
 have p1:=Same.seq s2 (Same.seq s1 q1);have l1:=i1.length;rw [ziN];refine ⟨fun hi=>?_,fun hi=>⟨xs,p1,by omega⟩⟩;obtain ⟨x,hx,ix⟩:=i1.get (Zqg hi);refine ⟨⟨xs,x,p1,hx⟩,fun v H3 yl=>?_⟩;obtain ⟨T,x',rfl,hT,rfl,f1⟩:=yl;have ex:=f1 xs p1;rw [hx] at ex;obtain rfl:=Zqi ex;have ea:=Ext.alloc s2 hT (.tup [.int ((i:Int)+1),x]);refine ⟨.tup [.int ((i:Int)+1),ds[i]],_,?_,ea,IsD.tup_iff.mpr ⟨T,_,rfl,.of zai,.mk (IsD.int_iff.mpr rfl) (.mk (IsD.same (s1.trans ea.ff) _ _ ix) .nil)⟩⟩;rw [zgj,Zqg hi];rfl
section
variable {X:Cx}{E:XK}{fr:FA}{p pos tp kp np:Pos}{elts:List Expr}
theorem znw {a:Expr}{kx nk}(hg:Gl X "enumerate")(hm:X.mg "enumerate" = none)(ha:QA X E [a] fr)(he:backTo pos (starEach [a] X.env)=(false,eval a X.env)::backTo pos (starEach [] X.env):=by rfl)(hpl:(backTo pos (starEach [a] X.env)).any (·.1)=false:=by rfl) :
 QI X E (.Tuple elts kx tp) (.Call (.Name "enumerate" p) [a] [⟨some "start",.Constant (.int 1) nk np,kp⟩] pos) (iEn1 fr):=PI.weak (zm6 hg hm ha he hpl) fun σ H R ⟨B,F,sd,r,n⟩=>by
 refine ⟨B,F,sd,r,(Res.need_bind n).mono (fun ds n1 vs F1 H1 e1 i1=>?_) fun _ _ q=>q⟩;unfold zif at n1
 split at n1
 ·obtain ⟨xs,hx,n2⟩:=Res.need_ofO (Res.need_bind n1);obtain ⟨v,rfl,h⟩:=zcg i1;obtain ⟨la,us,rfl,g1,g2⟩:=zh9 hx h;exact ⟨la,rfl,⟨_,Same.seq e1.fh g1⟩,n2 _ F1 H1 e1 (zit g1 g2)⟩
 ·exact n1.elim
end
section
variable {X:Cx}{E:XK}{a b e o:Expr}{es rest:List Expr}{fa fb fe:FE}{va vb vo ve:FV}{fr:FVA}{ft:FVT}{pos pos' p:Pos}
noncomputable def zd2 (c f:Str)(sd:SD)(d:D)(q:D×HP):Wr Out3:=match q.1 with
 | .adr a=>match hpAt q.2 a with
  |some (.ins c' fs ds)=>if c'=c/\f∉fs/\fs.length<900 then .ok (.next sd (zax q.2 a (.ins c' (fs++[f]) (ds++[d])))) else .no
  |_=>.no
 |_=>.no
noncomputable def zFld (c f:Str)(fo fv:FV):FVS:=fun sd hp=>(fv sd hp).bind fun p=>(fo sd p.2).bind (zd2 c f sd p.1)
theorem zdZ {c f:Str}{C:Addr}{fs:List Str}(k:ClsD X.K X.mg c C fs)(hf:f∈fs)(ho:QV X E o vo)(he:QV X E e ve)(hs:swapsWith e (some (.Attribute o f pos')) pos.line X.env=pure false:=by rfl) :
 VS X E (.Assign [.Attribute o f pos'] e pos) (zFld c f vo ve):=PS.weak (znO ho he hs) fun T σ H ⟨B,B',F,sd,hp,t,n⟩=>by
 refine ⟨B,B',F,sd,hp,t,Wr.nb n fun p n1 v B1 F1 H1 s1 t1 i1=>⟨B,B1,F1,sd,p.2,t1,Wr.nb n1 fun q n2 w B2 F2 H2 s2 t2 i2=>?_⟩⟩;unfold zd2 at n2
 split at n2
 ·rename_i a hq;rw [hq] at i2;obtain rfl:=IsD.adr_iff.mp i2
  split at n2
  ·rename_i c' gs ds ha
   split at n2
   ·rename_i hc;obtain ⟨rfl,hn,hl⟩:=hc;obtain ⟨C',dx,xs,hC,hH,lz,hi⟩:=t2.lies ha;have e0:=hC;rw [k.ns] at e0;cases e0;have lk:(gs.zip xs).map (·.1)=gs:=by rw [List.map_fst_zip (by omega)]
    refine ⟨a,C,dx,_,rfl,hH,k.cls,k.no f hf,by rw [List.length_zip];omega,?_⟩;rw [zft f v _ (by rw [lk];exact hn)];have ez:gs.zip xs++[(f,v)]=(gs++[f]).zip (xs++[v]):=by rw [List.zip_append lz];rfl
    rw [ez];exact n2 σ _ F2 _ (s1.trans s2) (t2.chg ha ⟨C,dx,_,hC,zai,by simp [lz],hi.snoc (IsD.same s2 _ _ i1)⟩)
   ·exact n2.elim
  ·exact n2.elim
 ·exact n2.elim
def MkV (P:Program)(w:World)(K:W.Frag)(mg:Str->Option Value)(base:Heap)(c:Str)(names:List Str)(k:Nat)(ps:List Str)(Fn:List D->HP->Wr (D×HP)):Prop :=
 ∃ C f fd,ClsD K mg c C names/\Mk K C f/\FnOk P w K mg base CX0 k f fd ps (SpV K Fn)/\zey K fd ps []
def ze8 (x:Addr)(q:D×HP):Wr (D×HP):=match q.1 with
 | .non=>.ok (.adr x,q.2)
 |_=>.no
def zlm (c:Str)(Fn:List D->HP->Wr (D×HP))(fr:FVA):FV:=fun sd hp=>(fr sd hp).bind fun p=>.new p.2 fun x=>(Fn (.adr x::p.1) ((x,.ins c [] [])::p.2)).bind (ze8 x)
theorem zgD {c:Str}{names:List Str}{k:Nat}{ps:List Str}{Fn:List D->HP->Wr (D×HP)}(M:MkV X.prog X.w X.K X.mg X.base c names k ps Fn)(hr:Room (k+1) X.A)(hg:Gl X c)(ha:QVA X E0 (e::es) fr)
 (hdb:(c == ("__debug__" : Str))=false:=by decide) (he:starEach (e::es) X.env=(false,eval e X.env)::starEach es X.env:=by rfl) (hpl:(backTo pos (starEach es X.env)).any (·.1)=false:=by rfl) :
 QV X E0 (.Call (.Name c p) (e::es) [] pos) (zlm c Fn fr):=by
 obtain ⟨C,f,fd,kd,mk,Fo,b⟩:=M;refine PE.weak (zlJ mk Fo hr hg kd.mgc b .nil zo9 ha hdb he hpl) fun σ H Q ⟨B,B',F,sd,hp,t,n⟩=>?_;refine ⟨B,B',F,sd,hp,t,Wr.nb n fun p n1 vs B1 F1 H1 s1 t1 i1 x dx nx ndx ne=>?_⟩;have t1':RT X.K B B1 F1 (upd H1 dx (.own x)) sd p.2 σ := t1.go (.refl _) (t1.rs.step (.keep t1.rs.ext.fh ndx _));have nx':upd H1 dx (.own x) x=none:=by rw [zaj ne.symm];exact nx
 obtain ⟨hn,t2⟩:=t1'.newO (o:=.ins C dx []) (d:=.ins c [] []) nx' ⟨C,dx,[],kd.ns,zai,rfl,.nil⟩;have n2:=Wr.need_bind.mp (n1 x hn);show SpV X.K Fn (.ref x::(vs++[])) _ _ E0;rw [List.append_nil];refine ⟨F1,.adr x::p.1,_,t2.rs.ext.fh,.mk (IsD.adr_iff.mpr rfl) i1,t2.lent,n2.mono (fun q n3 v F2 H2 w i2=>?_) fun _ _ q=>q.ext t2.hidden⟩;unfold ze8 at n3
 split at n3
 ·rename_i hq;rw [hq] at i2;obtain ⟨B3,t3⟩:=t2.callV w;exact ⟨IsD.non_iff.mp i2,n3 _ B3 F2 H2 (s1.trans w.ff) t3 (IsD.adr_iff.mpr rfl)⟩
 ·exact n3.elim
def bOfV (p:D×HP):Wr (Bool×HP):=match p.1 with
 | .bl b=>.ok (b,p.2)
 |_=>.no
def zgY (f:FV):FVT:=fun sd hp=>(f sd hp).bind bOfV
theorem zfR {K:W.Frag}{σ : St}{H:Hp}{Q:Bool->Hp->Prop}(h:tDVT K E (zgY va) σ H Q):tB (tDV K E va) σ H Q:=by
 obtain ⟨B,B',F,sd,hp,t,n⟩:=h;refine ⟨B,B',F,sd,hp,t,Wr.nb n fun p n1 v B1 F1 H1 s1 t1 i1=>?_⟩;unfold bOfV at n1
 split at n1
 ·rename_i c hc;rw [hc] at i1;exact ⟨c,IsD.bl_iff.mp i1,n1 B1 F1 H1 s1 t1⟩
 ·exact n1.elim
theorem zoS (ha:QV X E a va)(he:∀ whole,isTrue a X.env whole=(do let v <- whole;standAt a.pos;holding [v] (truthy v)):=by intro _;rfl):QVT X E a (zgY va):=PT.weak (znU ha he) fun _ _ _ q=>zfR q
def zm7 (f:FVT):FVT:=fun sd hp=>(f sd hp).bind fun p=>.ok (!p.1,p.2)
theorem zpJ (ha:QVT X E a ft):QVT X E (.UnaryOp .Not a pos) (zm7 ft):=PT.weak (znE ha) fun σ H Q ⟨B,B',F,sd,hp,t,n⟩=>⟨B,B',F,sd,hp,t,Wr.nb n fun p n1 B1 F1 H1 s1 t1=>n1 B1 F1 H1 s1 t1⟩
def vAnd (fa fb:FV):FV:=fun sd hp=>(zgY fa sd hp).bind fun p=>if p.1 then fb sd p.2 else .ok (.bl false,p.2)
theorem zr4 (ha:QV X E a va)(hb:QV X E (.BoolOp .And (b::rest) pos) vb):QV X E (.BoolOp .And (a::b::rest) pos) (vAnd va vb):=PE.weak (zoz ha hb) fun σ H Q ⟨B,B',F,sd,hp,t,n⟩=>by
 refine zfR (K:=X.K) (E:=E) (Q:=fun c H1=>if c=true then tDV X.K E vb σ H1 Q else Q (.bl false) H1) ⟨B,B',F,sd,hp,t,Wr.nb n fun p n1 B1 F1 H1 s1 t1=>?_⟩;obtain ⟨c,hp1⟩:=p;cases c with
 |true=>exact ⟨B,B1,F1,sd,hp1,t1,(show (vb sd hp1).need _ _ from n1).mono (fun q z v B2 F2 H2 s2 t2 i2=>z v B2 F2 H2 (s1.trans s2) t2 i2) fun _ _ z=>z⟩
 |false=>exact (show OkV X.K B F sd σ Q (.bl false,hp1) from n1) _ B1 F1 H1 s1 t1 (IsD.bl_iff.mpr rfl)
theorem zrT {op}(h:QV X E a va):QV X E (.BoolOp op [a] pos) va:=znD h
@[simp] theorem ev_vTest (f:FV)(sd:SD)(hp:HP):zgY f sd hp=(f sd hp).bind bOfV:=rfl
@[simp] theorem bOfV_bl (b:Bool)(hp:HP):bOfV (.bl b,hp)=.ok (b,hp):=rfl
@[simp] theorem ev_vNotT (f:FVT)(sd:SD)(hp:HP):zm7 f sd hp=(f sd hp).bind fun p=>.ok (!p.1,p.2):=rfl
@[simp] theorem ev_vAnd (fa fb:FV)(sd:SD)(hp:HP):vAnd fa fb sd hp=(zgY fa sd hp).bind fun p=>if p.1 then fb sd p.2 else .ok (.bl false,p.2):=rfl
@[simp] theorem ev_zFld (c f:Str)(fo fv:FV)(sd:SD)(hp:HP):zFld c f fo fv sd hp=(fv sd hp).bind fun p=>(fo sd p.2).bind (zd2 c f sd p.1):=rfl
@[simp] theorem ev_vMake (c:Str)(Fn:List D->HP->Wr (D×HP))(fr:FVA)(sd:SD)(hp:HP):zlm c Fn fr sd hp=(fr sd hp).bind fun p=>.new p.2 fun x=>(Fn (.adr x::p.1) ((x,.ins c [] [])::p.2)).bind (ze8 x):=rfl
@[simp] theorem ziE (x:Addr)(hp:HP):ze8 x (.non,hp)=.ok (.adr x,hp):=rfl
@[simp] theorem ev_vFld (c f:Str)(fo:FV)(sd:SD)(hp:HP):vFld c f fo sd hp=(fo sd hp).bind (zl9 c f):=rfl
theorem zc1 {c f:Str}{a:Addr}{hp:HP}{d z:D}(h:hpAt hp a=some d)(hz:gFld c f d=some z):zl9 c f (.adr a,hp)=.ok (z,hp):=by
 unfold zl9;simp only [h,hz];rfl
theorem zcf {c f:Str}{sd:SD}{d:D}{a:Addr}{hp:HP}{fs:List Str}{ds:List D}(h:hpAt hp a=some (.ins c fs ds))(hn:f∉fs)(hl:fs.length<900):zd2 c f sd d (.adr a,hp)=.ok (.next sd (zax hp a (.ins c (fs++[f]) (ds++[d])))):=by
 unfold zd2;simp [h,hn,hl]
end
end L2.DL
namespace L2
section
variable {X:Cx}
def zj6:V->List V->Hp->VK->Prop:=fun x vs H Q=>∃ a kvs k v,x=.ref a/\vs=[kV k,v]/\H a=some (.dK kvs)/\kvs.length<sizeLine/\(∀ w,valV kvs k=some w->Q w H)/\(valV kvs k=none->Q v (upd H a (.dK (putK kvs k v))))
theorem zjY:MtM X "dict.setdefault" zj6:=by
 intro pins s σ H x vs v us Q I rx rv h;obtain ⟨a,kvs,k,y,rfl,rfl,hH,hz,q1,q2⟩:=h;obtain rfl:v=Value.ref a:=rx;obtain ⟨u1,u2,rfl,r1,r2⟩:=rv.two;obtain ⟨z,hd,ws,rel,dd⟩:=znz I.hok hH;refine call_meetsIn PySem.F.slot_dict_setdefault dd.typeIs PySem.F.entry_dict_setdefault (PySem.F.args_dict_setdefault_3 _ _ _) (kt_meets_setdefault (zaF X.prog X.w) a (zgv r1) hd u2) ⟨ws,dd,by rw [<- rel.length];exact z,fun w hw=>?_,fun hn h' dd' hs=>?_⟩
 ·have:=rel.val k;rw [hw] at this;cases e:valV kvs k with
  |none=>rw [e] at this;exact this.elim
  |some y' =>
   rw [e] at this;exact ⟨y',H,I.tok _,this,q1 y' e⟩
 ·have:=rel.val k;rw [hn] at this;have e:valV kvs k=none:=by
   cases e:valV kvs k with
   |none=>rfl
   |some y'=>rw [e] at this;exact this.elim
  have he:∃ q,h'.get? a=some q:=let ⟨q,_,_,hq,_⟩:=dd';⟨q,hq⟩
  have hl:(putK kvs k y).length<=sizeLine:=by have:=zcK kvs k y;omega
  exact ⟨y,_,zgS I (by rw [hH];exact True.intro) hs he (znN hl hd (rel.put k r2) dd'),r2,q2 e⟩
end
end L2
namespace L2.DL
def zfh (j:Nat)(sd:SD)(ks:List Key)(ds:List D)(v:D):Option Key->Res Out
 |some q=>if ks.length<sizeLine then match valD ks ds q with
  |some _=>.ok (.next sd)
  |none=>.ok (.next (sd.set j (some (.own false (.dct (zfE ks q) (zgE ks ds q v)))))) else .no
 |none=>.no
def zdn (j:Nat)(fk fv:FE):FS:=fun sd=>match sd[j]? with
 |some (some (.own false (.dct ks ds)))=>(fk sd).bind fun k=>(fv sd).bind fun v=>zfh j sd ks ds v (zbx k)
 |_=>.no
section
variable {X:Cx}{E:XK}{m:Option Bool}{o e1 e2:Expr}{fk fv:FE}{pos:Pos}
theorem zj1 {j:Nat}{apos cpos:Pos}(ho:PE X o (tVar j))(h1:QE X E e1 fk)(h2:QE X E e2 fv)
 (hp:∀ {to:TE} {t:TA},PE X o to->PA X [e1,e2] t->PE X (.Call (.Attribute o "setdefault" apos) [e1,e2] [] cpos) (tBM X.K "dict" zj6 to t))
 (hs:swapsWith (.Call (.Attribute o "setdefault" apos) [e1,e2] [] cpos) none pos.line X.env=pure false:=by rfl)
 (hst:starEach [e1,e2] X.env=(false,eval e1 X.env)::starEach [e2] X.env:=by rfl) (hst2:starEach [e2] X.env=(false,eval e2 X.env)::starEach [] X.env:=by rfl) :
 QS X E m (.Expr (.Call (.Attribute o "setdefault" apos) [e1,e2] [] cpos) pos) (zdn j fk fv):=PS.weak (zcN (hp ho (zaa h1 (zaa h2 zac hst2) hst)) hs) fun T σ H ⟨B,F,sd,r,n⟩=>by
 unfold zdn at n
 split at n
 ·rename_i ks ds hj;obtain ⟨l,g1,g2,g3,⟨xs,g4,g5,g6⟩,_⟩:=r.own hj;refine ⟨.ref l,g1,.inr (.inr (.inl ⟨rfl,.inl ⟨_,g4⟩⟩)),B,F,sd,r,?_⟩;have n':(zab fk (zab fv dNil) sd).need (fun zs=>∀ k v,zs=[k,v]->(zfh j sd ks ds v (zbx k)).need (zea X.K m B F T) (XW X.K E B.F0 B.H0)) (XW X.K E B.F0 B.H0):=by
   show ((fk sd).bind fun x=>((fv sd).bind fun y=>(Res.ok []).bind fun ys=>.ok (y::ys)).bind fun xs=>.ok (x::xs)).need _ _;cases hk:fk sd with
   |ok k =>
    rw [hk] at n;cases hv:fv sd with
    |ok v =>
     rw [hv] at n;intro k' v' hz;cases hz;exact n
    |ex c fs=>rw [hv] at n;exact n
    |no=>rw [hv] at n;exact n.elim
   |ex c fs=>rw [hk] at n;exact n
   |no=>rw [hk] at n;exact n.elim
  refine n'.monoE (fun zs hzs n1 vs F1 H1 e1 i1=>?_) fun _ _ q=>q.ext r.ext;obtain ⟨k,v,rfl⟩:∃ k v,zs=[k,v]:=by
   have hzs:((fk sd).bind fun x=>((fv sd).bind fun y=>(Res.ok []).bind fun ys=>.ok (y::ys)).bind fun xs=>.ok (x::xs))=.ok zs:=hzs;cases hk:fk sd with
   |ok k =>
    rw [hk] at hzs;cases hv:fv sd with
    |ok v=>rw [hv] at hzs;cases hzs;exact ⟨k,v,rfl⟩
    |ex c fs=>rw [hv] at hzs;cases hzs
    |no=>rw [hv] at hzs;cases hzs
   |ex c fs=>rw [hk] at hzs;cases hzs
   |no=>rw [hk] at hzs;cases hzs
  have n2:=n1 k v rfl;obtain ⟨v1,v2,rfl,j1,j2⟩:=zkJ i1;unfold zfh at n2
  split at n2
  ·rename_i q hq
   split at n2
   ·rename_i hz;have r1:=r.step e1;have hH:=e1.hh _ _ g4;have g6':=IsDs.same e1.ff _ _ g6;obtain ⟨w1,w2⟩:=zdV (K:=X.K) (H:=F1) q g5 g6';refine ⟨l,_,q,v2,rfl,by rw [zc5 hq j1],hH,by rw [List.length_zip];omega,fun w hw=>?_,fun hw=>?_⟩
    ·cases hd:valD ks ds q with
     |none=>rw [w2 hd] at hw;exact zqn hw
     |some d =>
      rw [hd] at n2;exact n2 σ F1 H1 e1.ff r1
    ·cases hd:valD ks ds q with
     |some d =>
      obtain ⟨x,hx,_⟩:=w1 d hd;rw [hw] at hx;exact zqn hx
     |none =>
      rw [hd] at n2;obtain ⟨ys,y1,y2,y3⟩:=zl0 (K:=X.K) (q:=q) g5 g6' j2;exact n2 σ F1 _ e1.ff (r1.chg hj g1 ⟨ys,by rw [zai,y1],y2,y3⟩)
   ·exact n2.elim
  ·exact n2.elim
 ·exact n.elim
def zlg:List D->Option D
 | [.str x]=>if x.length<=640 then (intText? x).map .int else none
 |_=>none
theorem zqo:zaN X (.type "int") (rDA X.K zlg):=by
 intro pins s σ H xs ws Q I r ⟨F,ds,z,sF,id,hz,q⟩;unfold zlg at hz
 split at hz
 ·rename_i x
  split at hz
  ·rename_i hl;obtain ⟨n,hn,rfl⟩:=Option.map_eq_some_iff.mp hz;obtain ⟨v,rfl,hv⟩:=zcg id;obtain rfl:=IsD.str_iff.mp hv;obtain ⟨u,rfl,ru⟩:=zcF r;obtain ⟨t,rfl⟩:=ru;exact W.KIN.call_text hn hl ⟨.int n,H,I.tok _,⟨_,rfl⟩,q _ F H (.refl sF) (IsD.int_iff.mpr rfl)⟩
  ·exact zqn hz
 ·exact zqn hz
end
def gNeL:D->D->Option D
 | .lst ds,.lst []=>some (.bl (!ds.isEmpty))
 |_,_=>none
section
variable {X:Cx}
theorem o_neL (hu:X.A.units+64<cLine):OpD X (compareOp .NotEq) gNeL:=by
 intro pins s σ H x y v u Q I rx ry ⟨F,d,e,z,sF,id,ie,hz,q⟩;unfold gNeL at hz
 split at hz
 ·rename_i ds;obtain rfl:=Zqi hz;obtain ⟨p,xs,rfl,hp,hi⟩:=IsD.lst_iff.mp id;obtain ⟨p',xs',rfl,hp',hi'⟩:=IsD.lst_iff.mp ie;obtain rfl:v=Value.ref p:=rx;obtain rfl:u=Value.ref p':=ry;obtain ⟨its,ri,pl,hl⟩:=I.list (hp.same sF).sq;obtain ⟨its',ri',pl',hl'⟩:=I.list (hp'.same sF).sq;have l1:=hi.length;have l2:=hi'.length;have l3:=ri.length;have l4:=ri'.length;rw [List.length_nil] at l2;have n2:its'.toArray.size=0:=by rw [List.size_toArray];omega
  by_cases c:ds=[]
  ·subst c;rw [List.length_nil] at l1;have n1:its.toArray.size=0:=by rw [List.size_toArray];omega
   exact PySem.SeqAt.RcNeAt.lists (e:=fun _=>true) pl.isList pl'.isList (by omega) (by omega) (fun j j1 _=>by omega) X.prog X.w _ _ (by rw [n1];exact ⟨.bl _,H,I,rfl,q _ F H (.refl sF) (isB _ F)⟩)
  ·have n0:ds.length≠0:=fun z=>c (List.length_eq_zero_iff.mp z);have n1:its.toArray.size≠0:=by rw [List.size_toArray];omega
   have cb:(!ds.isEmpty)=true:=by cases ds with
    |nil=>exact absurd rfl c
    |cons a l=>rfl
   rw [cb] at q;exact PySem.SeqAt.RcNeAt.lists_lengths pl.isList pl'.isList (by rw [n2];simpa using n1) (by omega) X.prog X.w _ _ ⟨.bl _,H,I,rfl,q _ F H (.refl sF) (isB _ F)⟩
 ·exact zqn hz
end
section
variable {K:W.Frag}{B B' B2:Bs}{F H F' H':Hp}{sd sd':SD}{hp hp':HP}{σ σ':St}
theorem RT.extV (t1:RT K ⟨F,hide H hp,fun _=>none⟩ B2 F' H' sd' hp' σ')(s1:Same F F')(hd:(hp.all fun z=>(hpAt hp' z.1).isSome)=true):ExtV K F H hp F' H' hp':=by
 have dom:∀ a,hpAt hp' a=none->hpAt hp a=none:=fun a ha=>by
  cases z:hpAt hp a with
  |none=>rfl
  |some d0 =>
   obtain ⟨y,y1,y2⟩:=zfz z;have:=List.all_eq_true.mp hd y y1;rw [y2,ha] at this;cases this
 have e:=t1.ext0 t1.rs.ext;refine ⟨s1,t1.rs.ext.fh,fun a o ha q=>e.hh a o ((zaY ha).trans q),fun a h0 h1=>?_,t1.lent,dom,fun a z y=>?_⟩
 ·cases z:hpAt hp a with
  |none=>exact e.new a h0 fun y=>h1 ((zaY z).symm.trans y)
  |some d =>
   cases y:hpAt hp' a with
   |none=>rw [dom a y] at z;cases z
   |some d'=>exact t1.free y
 ·cases y':hpAt hp' a with
  |none=>exact absurd y' y
  |some d' =>
   have:=(t1.obj a d' y').2.1;rw [<- zaY (H:=H) z];exact this
theorem zpV (cap:List (Option Nat))(sd:SD)(i:Nat)(p:Bool)(d:D):(capD cap sd)[i]? ≠ some (some (.own p d)):=fun q=>by
 unfold capD at q;rw [List.getElem?_map] at q;cases hc:cap[i]? with
 |none=>rw [hc] at q;cases q
 |some o =>
  rw [hc] at q;cases o with
  |none=>cases q
  |some j =>
   have q:(match sd[j]? with
    |some (some (.val d))=>some (SV.val d)
    |_=>none)=some (SV.own p d):=Zqi q
   split at q<;>cases q
theorem RS.rebase (r:RS K B F H sd σ)(no:∀ (i:Nat) (p:Bool) (d:D),sd[i]? ≠ some (some (.own p d))):RS K ⟨F,H,fun _=>none⟩ F H sd σ :=
 ⟨.refl r.ext.fh,r.len,r.val,fun q=>absurd q (no _ _ _),fun _ q=>absurd q (no _ _ _)⟩
end
section
variable {X:Cx}{E:XK}{m:Option Bool}{a e o:Expr}{st:Stmt}{g1:FVS}{ve vo:FV}{pos p:Pos}
theorem zsG (is:List Nat)(h:VS X E st g1):VS X E st (fun sd hp=>g1 (frzD is sd) hp):=PS.weak h fun T σ H ⟨B,B',F,sd,hp,t,n⟩=>by
 obtain ⟨F1,s1,r1⟩:=t.rs.frz is;exact ⟨B,B',F1,_,hp,t.go s1 r1,n.mono (fun _ q=>q.mono s1) fun _ _ q=>q⟩
def lstV (p:D×HP):Option (List D):=match p.1 with
 | .lst es=>some es
 | .tup es=>some es
 | .adr a=>match hpAt p.2 a with
  |some (.lst es)=>some es
  |_=>none
 |_=>none
def zeM (p:D×HP):Wr (D×HP):=match lstV p with
 |some es=>.new p.2 fun a=>.ok (.adr a,(a,.lst es)::p.2)
 |none=>.no
def zkY (f:FV):FV:=fun sd hp=>(f sd hp).bind zeM
theorem zgH {x:Str}(ha:QV X E a ve)(hg:Gl X x)(hm:X.mg x=none)(hv:bootBuiltins x=some (.type "list"))(hn:x ≠ "__name__" := by decide)(hdb:(x == ("__debug__" : Str))=false:=by decide)
 (he:starEach [a] X.env=(false,eval a X.env)::starEach [] X.env:=by rfl) (hpl:(backTo pos (starEach [] X.env)).any (·.1)=false:=by rfl):QV X E (.Call (.Name x p) [a] [] pos) (zkY ve) :=
 PE.weak (zdb zdz hg hm hv (zcz ha zdy he) hn hdb he hpl) fun σ H Q ⟨B,B',F,sd,hp,t,n⟩=>by
  refine ⟨B,B',F,sd,hp,t,Wr.nb n fun q n1 v B1 F1 H1 s1 t1 i1=>?_⟩;unfold zeM at n1
  split at n1
  ·rename_i es hes;have fin:∀ {ys:List V},IsDs X.K F1 es ys->∀ l,H1 l=none->Q (.ref l) (upd H1 l (.lst ys)):=fun {ys} hi l hl=>by
    obtain ⟨h1,h2⟩:=t1.newO (d:=.lst es) hl ⟨ys,zai,hi⟩;exact n1 l h1 _ _ F1 _ s1 h2 (IsD.adr_iff.mpr rfl)
   unfold lstV at hes
   split at hes
   ·rename_i ds hq;obtain rfl:=Zqi hes;rw [hq] at i1;obtain ⟨b,ys,rfl,h1,h2⟩:=IsD.lst_iff.mp i1;exact ⟨b,ys,rfl,.inl (h1.same t1.rs.ext.fh).sq,fin h2⟩
   ·rename_i ds hq;obtain rfl:=Zqi hes;rw [hq] at i1;obtain ⟨b,ys,rfl,h1,h2⟩:=IsD.tup_iff.mp i1;exact ⟨b,ys,rfl,.inr (h1.same t1.rs.ext.fh).sq,fin h2⟩
   ·rename_i b hq;rw [hq] at i1;obtain rfl:=IsD.adr_iff.mp i1
    split at hes
    ·rename_i ds hb;obtain rfl:=Zqi hes;obtain ⟨ys,g1,g2⟩:=t1.lies hb;exact ⟨b,ys,rfl,.inl (SqL.of g1),fin g2⟩
    ·cases hes
   ·cases hes
  ·exact n1.elim
def zkt (sd:SD)(p:D×HP):Wr Out3:=match p.1 with
 | .adr a=>match hpAt p.2 a with
  |some (.lst _)=>.ok (.next sd (zax p.2 a (.lst [])))
  |_=>.no
 |_=>.no
def zClr (fo:FV):FVS:=fun sd hp=>(fo sd hp).bind (zkt sd)
theorem zrt {apos cpos:Pos}(ho:QV X E o vo)(hbase:attributeBase o "clear" X.env (eval o X.env)=eval o X.env:=by rfl)(hline:(apos.endLine == cpos.line)=true:=by rfl)
 (hs:swapsWith (.Call (.Attribute o "clear" apos) [] [] cpos) none pos.line X.env=pure false:=by rfl):VS X E (.Expr (.Call (.Attribute o "clear" apos) [] [] cpos) pos) (zClr vo) :=
 PS.weak (zcN (zok PySem.F.plainAttrs_list PySem.F.slot_list_clear PySem.F.type_list_clear zmC ho hbase hline) hs) fun T σ H ⟨B,B',F,sd,hp,t,n⟩=>by
  refine ⟨B,B',F,sd,hp,t,Wr.nb n fun p n1 v B1 F1 H1 s1 t1 i1=>?_⟩;unfold zkt at n1
  split at n1
  ·rename_i a hp1;rw [hp1] at i1;obtain rfl:=IsD.adr_iff.mp i1
   split at n1
   ·rename_i es ha;obtain ⟨xs,k1,k2⟩:=t1.lies ha;exact ⟨.inl ⟨rfl,xs,SqL.of k1⟩,a,xs,rfl,rfl,k1,n1 σ _ F1 _ s1 (t1.chg ha ⟨[],zai,.nil⟩)⟩
   ·exact n1.elim
  ·exact n1.elim
def mapV (tg:Tg)(f:FV)(c:SD):List D->HP->Wr (List D×HP)
 | [],hp=>.ok ([],hp)
 |x::xs,hp=>(Wr.of (zbl tg x c)).bind fun s=>(f s hp).bind fun p=>if (hp.all fun z=>(hpAt p.2 z.1).isSome)=true then (mapV tg f c xs p.2).bind fun q=>.ok (p.1::q.1,q.2) else .no
def newL (q:List D×HP):Wr (D×HP):=.new q.2 fun a=>.ok (.adr a,(a,.lst q.1)::q.2)
def zne (cap:List (Option Nat))(it:FA)(tg:Tg)(f:FV):FV:=fun sd hp=>(Wr.of (it sd)).bind fun ds=>if zdk (capD cap sd) tg=true/\ds.length<sizeLine then (mapV tg f (capD cap sd) ds hp).bind newL else .no
theorem zlY {K:W.Frag}{t:Tg}{fi:FA}{f:FV}{cap:List (Option Nat)}{σ : St}{H:Hp}{Q:VK}(hh:tDV K E (zne cap fi t f) σ H Q):ziL cap (tDI K E fi) (gT t K) (tDV K E f) σ H Q:=by
 obtain ⟨B,B',F,sd,hp,t0,n⟩:=hh;refine ⟨B',F,sd,t0.rs,Wr.nbo n (fun ds n1 J F1 H1 e1 wk=>?_) fun _ _ q=>q.ext (t0.ext0 t0.rs.ext)⟩
 split at n1
 ·rename_i hh;obtain ⟨hn,hz⟩:=hh;have t1:=t0.go e1.ff (t0.rs.step e1);refine ⟨fun i k ys σ2 H2=>k=ds.length-i/\i<=ds.length/\∃ B2 B3 F2 es hp2,Same F F2/\Same F1 F2/\RT K B B2 F2 H2 sd hp2 σ /\ RS K B3 F2 H2 (capD cap sd) σ2/\IsDs K F2 es ys/\es.length=i /\
   (mapV t f (capD cap sd) (ds.drop i) hp2).need (fun q=>(newL (es++q.1,q.2)).need (OkV K B F sd σ Q) (XW K E B.F0 B.H0)) (XW K E B.F0 B.H0),⟨ds.length,rfl,Nat.zero_le _,_,_,F1,[],hp,e1.ff,.refl _,t1,t1.rs.cap cap,.nil,rfl,Wr.need_bind.mp n1⟩,?_⟩
  rintro i k ys σ2 H2 ⟨rfl,hi,B2,B3,F2,es,hp2,s0,s2,t2,r2,i2,hl,n2⟩;have ly:=i2.length;refine ⟨by omega,?_⟩;obtain ⟨w1,w2⟩:=wk i F2 H2 s2 t2.rs.ext.fh;by_cases hlt:i<ds.length
  ·obtain ⟨go,yl⟩:=w1 hlt;refine .inr ⟨go,fun x H3 y=>?_⟩;obtain ⟨d,F3,hd,e3,i3⟩:=yl x H3 y;have hd':ds[i]=d:=by rw [Zqg hlt] at hd;exact Zqi hd
   rw [List.drop_eq_getElem_cons hlt,hd'] at n2;unfold mapV at n2;have n3:=Wr.need_of.mp (Wr.need_bind.mp n2);have t3:=t2.go e3.ff (t2.rs.step e3);refine zl5 (K:=K) ((r2.step e3).rebase (zpV cap sd)) i3 n3 fun sd' σ' n4 hb r4=>?_;obtain ⟨b1,b2⟩:=zdt hn hb;have t4:RT K ⟨F3,hide H3 hp2,fun _=>none⟩ ⟨F3,H3,fun _=>none⟩ F3 H3 sd' hp2 σ':=⟨r4,rfl,rfl,fun a ha=>(zaY ha).symm,fun a d ha=>⟨(t3.lent a d ha).1,zfk ha,(t3.lent a d ha).2⟩⟩;refine ⟨_,_,F3,sd',hp2,t4,(Wr.need_bind.mp n4).mono (fun q n5 v B5 F5 H5 s5 t5 i5=>?_) fun _ _ q=>q.ext t3.hidden⟩
   split at n5
   ·rename_i hd5;obtain ⟨B6,t6⟩:=t3.callV (t5.extV s5 hd5);refine ⟨ds.length-(i+1),by omega,rfl,hlt,B6,B5,F5,es++[q.1],q.2,(s0.trans e3.ff).trans s5,(s2.trans e3.ff).trans s5,t6,t5.rs.forget b1 b2,(IsDs.same (e3.ff.trans s5) _ _ i2).snoc i5,by rw [List.length_append,hl];rfl,?_⟩;refine (Wr.need_bind.mp n5).mono (fun z n6=>?_) fun _ _ z=>z;rw [List.append_assoc];exact n6
   ·exact n5.elim
  ·have he:i=ds.length:=by omega
   subst he;refine .inl ⟨w2 (Nat.le_refl _),fun D hD=>?_⟩;rw [List.drop_length] at n2;have n3:(newL (es++[],hp2)).need (OkV K B F sd σ Q) (XW K E B.F0 B.H0):=n2;rw [List.append_nil] at n3;obtain ⟨h1,t5⟩:=t2.newO (d:=.lst es) hD ⟨ys,zai,i2⟩;exact n3 D h1 _ _ F2 _ s0 t5 (IsD.adr_iff.mpr rfl)
 ·exact n1.elim
theorem zpU {tg iter elt:Expr}{scope:Scope}{t:Tg}{fi:FA}{f:FV}(N:List Str)(cap:List (Option Nat))(hc:X.calm=true)(okB:zbt scope X.env N X.N cap=true)(hi:QI X E tg iter fi)
 (hg:∀ cl C s H ex,QG (za4 X scope N cl C s H ex) tg t) (he:∀ cl C s H ex,QV (za4 X scope N cl C s H ex) E elt f) (hs:∀ x,foldedSetIterable iter X.env x=pure x:=by intro _;rfl) :
 QV X E (.ListComp elt [⟨tg,iter,[],0⟩] scope pos) (zne cap fi t f):=PE.weak (zkQ (g:=gT t X.K) (te:=tDV X.K E f) N cap hc okB hi hg he hs) fun _ _ _ h=>zlY h
@[simp] theorem ev_vList (f:FV)(sd:SD)(hp:HP):zkY f sd hp=(f sd hp).bind zeM:=rfl
@[simp] theorem zqf (es:List D)(hp:HP):zeM (.lst es,hp)=.new hp fun a=>.ok (.adr a,(a,.lst es)::hp):=rfl
theorem ziA {a:Addr}{es:List D}{hp:HP}(h:hpAt hp a=some (.lst es)):zeM (.adr a,hp)=.new hp fun b=>.ok (.adr b,(b,.lst es)::hp):=by
 unfold zeM lstV;simp only [h]
@[simp] theorem ev_zClr (f:FV)(sd:SD)(hp:HP):zClr f sd hp=(f sd hp).bind (zkt sd):=rfl
theorem zmR {sd:SD}{a:Addr}{es:List D}{hp:HP}(h:hpAt hp a=some (.lst es)):zkt sd (.adr a,hp)=.ok (.next sd (zax hp a (.lst []))):=by
 unfold zkt;simp only [h]
@[simp] theorem ev_vComp (cap:List (Option Nat))(it:FA)(tg:Tg)(f:FV)(sd:SD)(hp:HP):zne cap it tg f sd hp=(Wr.of (it sd)).bind fun ds=>if zdk (capD cap sd) tg=true/\ds.length<sizeLine then (mapV tg f (capD cap sd) ds hp).bind newL else .no:=rfl
end
end L2.DL
set_option maxHeartbeats 4000000
namespace My
open PySem L2 L2.DL
@[simp high] theorem gt1 {α : Type}(a0 a1:α)(l:List α):(a0::a1::l)[1]? = some a1:=rfl
@[simp high] theorem se1 {α : Type}(a0 a1 v:α)(l:List α):(a0::a1::l).set 1 v=a0::v::l:=rfl
@[simp high] theorem gt2 {α : Type}(a0 a1 a2:α)(l:List α):(a0::a1::a2::l)[2]? = some a2:=rfl
@[simp high] theorem se2 {α : Type}(a0 a1 a2 v:α)(l:List α):(a0::a1::a2::l).set 2 v=a0::a1::v::l:=rfl
@[simp high] theorem gt3 {α : Type}(a0 a1 a2 a3:α)(l:List α):(a0::a1::a2::a3::l)[3]? = some a3:=rfl
@[simp high] theorem se3 {α : Type}(a0 a1 a2 a3 v:α)(l:List α):(a0::a1::a2::a3::l).set 3 v=a0::a1::a2::v::l:=rfl
@[simp high] theorem gt4 {α : Type}(a0 a1 a2 a3 a4:α)(l:List α):(a0::a1::a2::a3::a4::l)[4]? = some a4:=rfl
@[simp high] theorem se4 {α : Type}(a0 a1 a2 a3 a4 v:α)(l:List α):(a0::a1::a2::a3::a4::l).set 4 v=a0::a1::a2::a3::v::l:=rfl
@[simp high] theorem gt5 {α : Type}(a0 a1 a2 a3 a4 a5:α)(l:List α):(a0::a1::a2::a3::a4::a5::l)[5]? = some a5:=rfl
@[simp high] theorem se5 {α : Type}(a0 a1 a2 a3 a4 a5 v:α)(l:List α):(a0::a1::a2::a3::a4::a5::l).set 5 v=a0::a1::a2::a3::a4::v::l:=rfl
@[simp high] theorem gt6 {α : Type}(a0 a1 a2 a3 a4 a5 a6:α)(l:List α):(a0::a1::a2::a3::a4::a5::a6::l)[6]? = some a6:=rfl
@[simp high] theorem se6 {α : Type}(a0 a1 a2 a3 a4 a5 a6 v:α)(l:List α):(a0::a1::a2::a3::a4::a5::a6::l).set 6 v=a0::a1::a2::a3::a4::a5::v::l:=rfl
@[simp high] theorem gt7 {α : Type}(a0 a1 a2 a3 a4 a5 a6 a7:α)(l:List α):(a0::a1::a2::a3::a4::a5::a6::a7::l)[7]? = some a7:=rfl
@[simp high] theorem se7 {α : Type}(a0 a1 a2 a3 a4 a5 a6 a7 v:α)(l:List α):(a0::a1::a2::a3::a4::a5::a6::a7::l).set 7 v=a0::a1::a2::a3::a4::a5::a6::v::l:=rfl
@[simp high] theorem gt8 {α : Type}(a0 a1 a2 a3 a4 a5 a6 a7 a8:α)(l:List α):(a0::a1::a2::a3::a4::a5::a6::a7::a8::l)[8]? = some a8:=rfl
@[simp high] theorem se8 {α : Type}(a0 a1 a2 a3 a4 a5 a6 a7 a8 v:α)(l:List α):(a0::a1::a2::a3::a4::a5::a6::a7::a8::l).set 8 v=a0::a1::a2::a3::a4::a5::a6::a7::v::l:=rfl
@[simp high] theorem gt9 {α : Type}(a0 a1 a2 a3 a4 a5 a6 a7 a8 a9:α)(l:List α):(a0::a1::a2::a3::a4::a5::a6::a7::a8::a9::l)[9]? = some a9:=rfl
@[simp high] theorem se9 {α : Type}(a0 a1 a2 a3 a4 a5 a6 a7 a8 a9 v:α)(l:List α):(a0::a1::a2::a3::a4::a5::a6::a7::a8::a9::l).set 9 v=a0::a1::a2::a3::a4::a5::a6::a7::a8::v::l:=rfl
def zcL (ns:List Int)(k:Int):Int:=ns.getD k.toNat 0
def nthI (hs:List Int)(t:Int):Int:=hs.getD t.toNat 0
theorem zol:plN 12 (.lst [])=true:=rfl
theorem zdv {α : Type}(f:α -> D)(l:List α):sameD (.lst (l.map f)) (.lst [])=l.isEmpty:=by
 cases l with
 |nil=>exact zbc _
 |cons x r=>exact zbI.mpr fun h=>by injection h with h;cases h
theorem zbG {α : Type}{l:List α}{k:Nat}(h:k<l.length):atI l (k:Int)=l[k]? := by
 unfold atI ixN;rw [if_pos (by omega),if_pos (by omega),Int.toNat_natCast];rfl
theorem zcy {α : Type}{f:α -> D}{l:List α}{i:Nat}{x:D}(h:(l.map f)[i]? = some x):∃ p,l[i]? = some p/\x=f p:=by
 rw [List.getElem?_map] at h;cases q:l[i]? with
 |none=>rw [q] at h;cases h
 |some p=>rw [q] at h;exact ⟨p,rfl,(Zqi h).symm⟩
structure RowOk (n:Int)(r:List (Int×Int)):Prop where
 ne:r ≠ []
 once:Once r
 mem:∀ p∈r,0<=p.1/\p.1<n
 len:r.length<=12
def frD (f:List (List (Int×Int))):D:=.lst (f.map rwD)
theorem zf4 {α : Type}(l:List α)(x y:α):(l++[x]).set l.length y=l++[y]:=by
 induction l with
 |nil=>rfl
 |cons a l ih=>show a::(l++[x]).set l.length y=_;rw [ih];rfl
@[simp] theorem gList_fr (f:List (List (Int×Int))):zcT [frD f]=some (frD f):=rfl
@[simp] theorem walkS_fr (f:List (List (Int×Int))):zhq (frD f)=some (f.map rwD):=rfl
@[simp] theorem walkS_rw (r:List (Int×Int)):zhq (rwD r)=some (r.map prD):=rfl
@[simp] theorem gLen_fr (f:List (List (Int×Int))):gLen [frD f]=some (.int f.length):=by show some (D.int (f.map rwD).length)=_;rw [Zql]
@[simp] theorem zpG (f:List (List (Int×Int))):gIsi [frD f,.ty "list"]=some (.bl true):=rfl
@[simp] theorem znT (f:List (Int×Int)):gIsi [rwD f,.ty "tuple"]=some (.bl true):=rfl
@[simp] theorem znY (p:Int×Int):gIsi [prD p,.ty "tuple"]=some (.bl true):=rfl
@[simp] theorem gLen_pr (p:Int×Int):gLen [prD p]=some (.int 2):=rfl
@[simp] theorem gIx_pr0 (p:Int×Int):gIx (prD p) (.int 0)=some (.int p.1):=rfl
@[simp] theorem gIx_pr1 (p:Int×Int):gIx (prD p) (.int 1)=some (.int p.2):=rfl
theorem pl_rw (n:Nat)(r:List (Int×Int)):plN (n+3) (rwD r)=true:=by
 show (r.map prD).all (plN (n+2))=true;rw [List.all_map,List.all_eq_true];exact fun p _=>rfl
structure FormOk (n:Int)(f:List (List (Int×Int))):Prop where
 ne:f ≠ []
 rows:∀ r∈f,RowOk n r
 len:f.length<=100
def Rise (r:List (Int×Int)):Prop:=(r.map (·.1)).Pairwise (· < ·)
theorem zmG (j n:Nat):min (j:Int) (n:Int)=((min j n:Nat):Int):=by
 rcases Nat.le_total j n with h|h
 ·rw [Nat.min_eq_left h,Int.min_eq_left (Int.ofNat_le.mpr h)]
 ·rw [Nat.min_eq_right h,Int.min_eq_right (Int.ofNat_le.mpr h)]
theorem zgr {α : Type}(l:List α){k:Int}(h0:0<=k):zbF l (some k) none none=l.drop k.toNat:=by
 have e:sliceBounds (some k) none none l.length=(((min k.toNat l.length:Nat):Int),(l.length:Int),1):=by
  obtain ⟨j,rfl⟩:=Int.eq_ofNat_of_zero_le h0;unfold sliceBounds;simp only [Option.getD_none];simp;rw [if_neg (Int.not_lt.mpr h0),zmG];exact Int.max_eq_right (Int.natCast_nonneg _)
 unfold zbF;rw [e];show (sliceRange _ _ 1).filterMap _=_;have p:=pick_run l.toArray (min k.toNat l.length) (l.length-min k.toNat l.length);rw [sliceRange_one];have ep:(fun x:Nat=>l[x]?)=fun x:Nat=>l.toArray[x]? := by funext x;simp
 rw [ep,p];simp;by_cases c:k.toNat<=l.length
 ·rw [Nat.min_eq_left c,List.take_of_length_le (by simp)]
 ·rw [Nat.min_eq_right (by omega),List.drop_eq_nil_of_le (Nat.le_refl _),List.drop_eq_nil_of_le (by omega)];exact List.take_nil
structure ThingsOk (ts:List Int):Prop where
 ne:ts ≠ []
 len:ts.length<=4
 rng:∀ t∈ts,0<=t/\t<12
 up:ts.Pairwise (· < ·)
theorem zl4 {r:List (Int×Int)}(h:Rise r):Once r:=by
 unfold Rise at h;unfold Once List.Nodup;exact h.imp fun h e=>by omega
structure Over (f:List (List (Int×Int)))(hs:List Int):Prop where
 ne:f ≠ []
 rne:∀ r∈f,r ≠ []
 once:∀ r∈f,Once r
 bnd:∀ r∈f,∀ p∈r,0<=p.1/\p.1<(hs.length:Int)
structure RoundOk (n:Int)(fs:List (List (List (Int×Int)))):Prop where
 len:(fs.length:Int)=n
 low:1<=n
 most:n<=12
 forms:∀ f∈fs,FormOk n f
theorem RoundOk.over {n:Int}{fs:List (List (List (Int×Int)))}(R:RoundOk n fs){hs:List Int}(h:hs.length=fs.length):∀ f∈fs,Over f hs:=fun f hf=>⟨(R.forms f hf).ne,fun r hr=>((R.forms f hf).rows r hr).ne,fun r hr=>((R.forms f hf).rows r hr).once,fun r hr p hp=>by
 have:=((R.forms f hf).rows r hr).mem p hp;have:=R.len;omega⟩
def rdD (fs:List (List (List (Int×Int)))):D:=.lst (fs.map frD)
@[simp] theorem walkS_rd (fs:List (List (List (Int×Int)))):zhq (rdD fs)=some (fs.map frD):=rfl
open L2.ST
structure PairsOk (ts:List Int)(r:List (Int×Int)):Prop where
 ne:r ≠ []
 len:r.length<=4
 mem:∀ p∈r,p.1∈ts
 up:r.Pairwise fun p q=>p.1<q.1
theorem zoX {r:List (Int×Int)}(h:r.Pairwise fun p q=>p.1<q.1):Once r:=by
 unfold Once List.Nodup;rw [List.pairwise_map];exact h.imp fun h e=>by omega
theorem PairsOk.row {ts:List Int}{r:List (Int×Int)}(T:ThingsOk ts)(P:PairsOk ts r):RowOk 12 r:=⟨P.ne,zoX P.up,fun p hp=>T.rng _ (P.mem p hp),Nat.le_trans P.len (by omega)⟩
structure JRow (r:List (Int×Int)):Prop where
 ne:r ≠ []
 rise:Rise r
 bnd:∀ p∈r,0<=p.1/\p.1<12
theorem JRow.once {r:List (Int×Int)}(h:JRow r):Once r:=zl4 h.rise
theorem JRow.len {r:List (Int×Int)}(h:JRow r):r.length<=12:=by
 have up:(r.map (·.1)).Pairwise (· < ·):=h.rise;have key:∀ (l:List Int) (a:Int),l.Pairwise (· < ·)->(∀ x∈l,a<=x/\x<12)->(l.length:Int)<=max 0 (12-a):=by
  intro l
  induction l with
  |nil=>intro a _ _;simp;omega
  |cons x l ih =>
   intro a hp hb;rw [List.pairwise_cons] at hp;have h1:=hb x Zqs;have:=ih (x+1) hp.2 fun y hy=>⟨by have:=hp.1 y hy;omega,(hb y (Zqm _ hy)).2⟩;rw [List.length_cons];omega
 have:=key _ 0 up fun x hx=>by
  obtain ⟨p,hp,rfl⟩:=List.mem_map.mp hx;exact h.bnd p hp
 rw [Zql] at this;omega
def asc (x:Str):Prop:=x.cps.all (· < 128)=true
theorem zbP {x:Str}:asc x↔∀ c∈x.cps.toList,c<128:=by
 unfold asc;rw [<- Array.all_toList,List.all_eq_true];exact ⟨fun h c hc=>of_decide_eq_true (h c hc),fun h c hc=>decide_eq_true (h c hc)⟩
theorem za9 (a b:Str):(a++b).length=a.length+b.length:=Array.size_append
theorem za6 (a b:Str):(a++b).cps.toList=a.cps.toList++b.cps.toList:=Array.toList_append
theorem zlI {a b:Str}(ha:asc a)(hb:asc b):asc (a++b):=zbP.mpr fun c hc=>by
 rw [za6] at hc;rcases List.mem_append.mp hc with h|h
 ·exact zbP.mp ha c h
 ·exact zbP.mp hb c h
structure TxtOk (n:Nat)(x:Str):Prop where
 len:x.length<=n
 asc:asc x
theorem TxtOk.app {m n:Nat}{a b:Str}(ha:TxtOk m a)(hb:TxtOk n b):TxtOk (m+n) (a++b):=⟨by rw [za9];have:=ha.len;have:=hb.len;omega,zlI ha.asc hb.asc⟩
theorem TxtOk.mono {m n:Nat}{a:Str}(ha:TxtOk m a)(h:m<=n):TxtOk n a:=⟨Nat.le_trans ha.len h,ha.asc⟩
theorem zrN {c:Nat}(h:c<128):TxtOk 1 ⟨#[c]⟩:=⟨Nat.le_refl _,zbP.mpr fun d hd=>by rw [List.mem_singleton.mp hd];exact h⟩
theorem zba {n:Nat}{x:Str}(h:(decide (x.length<=n)&&x.cps.all (· < 128))=true):TxtOk n x:=by
 rw [Bool.and_eq_true] at h;exact ⟨of_decide_eq_true h.1,h.2⟩
theorem zd7 {n:Nat}{a:Str}(ha:TxtOk n a)(h:n<=1000):gLen [.str a]=some (.int a.length):=if_pos (small (by have:=ha.len;omega))
theorem zlh {n:Nat}{a:Str}{k:Int}(ha:TxtOk n a)(h:n<=1000)(k0:0<=k)(k1:k<(a.length:Int)):∃ c,gIx (.str a) (.int k)=some (.str ⟨#[c]⟩)/\a.cps.toList[k.toNat]? = some c/\c<128:=by
 have hl:k.toNat<a.cps.toList.length:=by
  rw [Array.length_toList];have:a.length=a.cps.size:=rfl;omega
 refine ⟨a.cps.toList[k.toNat],?_,Zqg hl,zbP.mp ha.asc _ (List.getElem_mem hl)⟩;show (if a.length<=sizeLine then (atI a.cps.toList k).map fun c=>D.str ⟨#[c]⟩ else none)=_;rw [if_pos (small (by have:=ha.len;omega))];have e:atI a.cps.toList k=some a.cps.toList[k.toNat]:=by
  unfold atI ixN;rw [if_pos k0,if_pos (by rw [Array.length_toList];exact k1)];exact Zqg hl
 rw [e];rfl
theorem zio:∀ k:Fin 26,(("abcdefghijklmnopqrstuvwxyz" : Str).cps.toList)[k.val]? = some (97+k.val):=by decide +kernel
def low (x:Str):Prop:=∀ c∈x.cps.toList,97<=c/\c<123
@[simp] theorem run_d5 (n:Nat)(g:FS)(a b c d e:D):runD n 5 g [a,b,c,d,e]=(g (some (.val a)::some (.val b)::some (.val c)::some (.val d)::some (.val e)::List.replicate (n-5) none)).bind outV:=zko n 5 g [a,b,c,d,e] rfl
structure Pl where
 name:Str
 givens:List Str
 rows:List (Str×Str×List (Int×Int))
def rowD (r:Str×Str×List (Int×Int)):D:=.tup [.str r.1,.str r.2.1,rwD r.2.2]
def zoI (p:Pl):D:=.tup [.str p.name,.lst (p.givens.map .str),.lst (p.rows.map rowD)]
def zaW (p:Pl):D:=.ins "Plan" ["name", "givens", "rows"] [.str p.name,.lst (p.givens.map .str),.lst (p.rows.map rowD)]
def zaU (ps:List Pl):D:=.ins "Book" ["plans"] [.lst (ps.map zaW)]
def prtD (p:Str×Int):D:=.tup [.str p.1,.int p.2]
structure ItOk (ahead:Int)(its:List (Int×Int)):Prop where
 rng:∀ p∈its,0<=p.1/\p.1<ahead
 far:∀ p∈its,-1000000000000000000000000000000<p.2/\p.2<1000000000000000000000000000000
@[simp] theorem gIx_row0 (r:Str×Str×List (Int×Int)):gIx (rowD r) (.int 0)=some (.str r.1):=rfl
@[simp] theorem gIx_row1 (r:Str×Str×List (Int×Int)):gIx (rowD r) (.int 1)=some (.str r.2.1):=rfl
@[simp] theorem gIx_row2 (r:Str×Str×List (Int×Int)):gIx (rowD r) (.int 2)=some (rwD r.2.2):=rfl
@[simp] theorem zrH (p:Pl):gIx (zoI p) (.int 0)=some (.str p.name):=rfl
@[simp] theorem zq7 (p:Pl):gIx (zoI p) (.int 1)=some (.lst (p.givens.map .str)):=rfl
@[simp] theorem zsI (p:Pl):gIx (zoI p) (.int 2)=some (.lst (p.rows.map rowD)):=rfl
@[simp] theorem gIx_prt0 (p:Str×Int):gIx (prtD p) (.int 0)=some (.str p.1):=rfl
@[simp] theorem gIx_prt1 (p:Str×Int):gIx (prtD p) (.int 1)=some (.int p.2):=rfl
@[simp] theorem zq2 (ps:List Pl):gFld "Book" "plans" (zaU ps)=some (.lst (ps.map zaW)):=rfl
@[simp] theorem fld_name (p:Pl):gFld "Plan" "name" (zaW p)=some (.str p.name):=rfl
@[simp] theorem zqa (p:Pl):gFld "Plan" "givens" (zaW p)=some (.lst (p.givens.map .str)):=rfl
@[simp] theorem fld_rows (p:Pl):gFld "Plan" "rows" (zaW p)=some (.lst (p.rows.map rowD)):=rfl
def zb1 (ps:List Pl):List (Str×Int):=ps.map fun p=>(p.name,(p.givens.length:Int))
def HowOk (parts:List (Str×Int))(how:Str)(n:Nat):Prop:=how = "all" \/ how = "first" \/ (how,(n:Int))∈parts
theorem zca {n:Nat}{x:Str}(h:asc x):plN (n+1) (.str x)=true:=by
 show PyData.strOk x=true;unfold PyData.strOk;rw [<- Array.all_toList,List.all_eq_true];exact fun c hc=>decide_eq_true (Nat.lt_trans (zbP.mp h c hc) (by omega))
theorem zpm {α : Type}{f:α -> D}{l:List α}(h:plN 12 (.lst (l.map f))=true):gNe (.lst (l.map f)) (.lst [])=some (.bl (!l.isEmpty)):=by
 rw [zjA h zol,zdv]
theorem zlj {α : Type}{f:α -> D}{l:List α}(h:plN 12 (.lst (l.map f))=true):gEq (.lst (l.map f)) (.lst [])=some (.bl l.isEmpty):=by
 rw [zgs h zol,zdv]
theorem zby {x y:Str}(h:x.cps.toList=y.cps.toList):x=y:=by
 cases x;cases y;exact congrArg Str.mk (Array.ext' h)
def signs (l:List Nat):Bool:=l[0]? == some 120||l[0]? == some 121||l[0]? == some 113||l[2]? == some 113
structure WB (ps:List Pl):Prop where
 l1:1<=ps.length
 l2:ps.length<=20
 nd:(ps.map (·.name)).Nodup
 ok:∀ p∈ps,TxtOk 12 p.name/\1<=p.name.length/\p.name ≠ "all" /\ p.name ≠ "first"
 how:∀ (i:Nat) (p:Pl),ps[i]? = some p->∀ r∈p.rows,r.2.1 = "all" \/ r.2.1 = "first" \/ r.2.1∈(ps.take i).map (·.name)
 sz:∀ p∈ps,p.rows.length<=40/\p.givens.length<=12
@[simp] theorem ev_tmpN (is:List Nat)(f:FE)(sd:SD):zjF is f sd=(f (frzD is sd)).bare.bind fun d=>if zpP d then .ok d else .no:=rfl
@[simp] theorem ev_make (c:Str)(names:List Str)(Fn:List D->Res (List D))(fa:FA)(sd:SD):zkz c names Fn fa sd=(fa sd).bind fun ds=>(Fn ds).bind fun es=>.ok (.ins c names es):=rfl
@[simp] theorem zsf (i j k:Nat)(r:Str×Str×List (Int×Int))(sd:SD):zbl (.tup [i,j,k]) (rowD r) sd=.ok (((sd.set i (some (.val (.str r.1)))).set j (some (.val (.str r.2.1)))).set k (some (.val (rwD r.2.2)))):=rfl
@[simp] theorem zr3 (x:Str):zbx (.str x)=some (.inr x):=rfl
def dT (t:List (Str×Int)):D:=.dct (t.map fun p=>.inr p.1) (t.map fun p=>.int p.2)
def lkT (t:List (Str×Int))(x:Str):Option Int:=(t.find? fun p=>decide (p.1=x)).map (·.2)
theorem zhb {a b:Str}:((Sum.inr a:Key)=.inr b)↔a=b:=⟨fun z=>by injection z,fun z=>by rw [z]⟩
theorem zgO:∀ (t:List (Str×Int)) (x:Str),valD (t.map fun p=>.inr p.1) (t.map fun p=>.int p.2) (.inr x)=(lkT t x).map .int
 | [],_=>rfl
 |p::t,x=>by
  rw [List.map_cons,List.map_cons];unfold valD lkT;rw [List.find?_cons];by_cases h:p.1=x
  ·rw [if_pos (zhb.mpr h),decide_eq_true h];rfl
  ·rw [if_neg (fun z=>h (zhb.mp z)),decide_eq_false h];exact zgO t x
@[simp] theorem gIx_T (t:List (Str×Int))(x:Str):gIx (dT t) (.str x)=(lkT t x).map .int:=zgO t x
@[simp] theorem gIn_T (neg:Bool)(t:List (Str×Int))(x:Str):gIn neg (.str x) (dT t)=some (.bl (if neg then !(lkT t x).isSome else (lkT t x).isSome)):=by
 show some (D.bl (if neg then !(valD (t.map fun p=>.inr p.1) (t.map fun p=>.int p.2) (.inr x)).isSome else (valD (t.map fun p=>.inr p.1) (t.map fun p=>.int p.2) (.inr x)).isSome))=_;rw [zgO,Option.isSome_map]
theorem zrQ (t:List (Str×Int))(x:Str):hasK (.inr x) (t.map fun p=>.inr p.1)=t.any fun p=>decide (p.1=x):=by
 unfold hasK;rw [List.any_map]
 congr 1
 funext p
 exact decide_eq_decide.mpr zhb
theorem zpR {t:List (Str×Int)}{x:Str}(h:x∉t.map (·.1))(v:Int):D.dct (zfE (t.map fun p=>.inr p.1) (.inr x)) (zgE (t.map fun p=>.inr p.1) (t.map fun p=>.int p.2) (.inr x) (.int v))=dT (t++[(x,v)]):=by
 have hk:hasK (.inr x) (t.map fun p=>.inr p.1)=false:=by
  rw [zrQ,List.any_eq_false];intro p hp z;exact h (List.mem_map.mpr ⟨p,hp,of_decide_eq_true z⟩)
 unfold zfE zgE dT;rw [hk,if_neg (by simp),if_neg (by simp),List.map_append,List.map_append];rfl
theorem zeV {t:List (Str×Int)}{x:Str}:lkT t x=none↔x∉t.map (·.1):=by
 unfold lkT;rw [Option.map_eq_none_iff,List.find?_eq_none];constructor
 ·intro h z;obtain ⟨p,hp,e⟩:=List.mem_map.mp z;exact h p hp (decide_eq_true e)
 ·intro h p hp z;exact h (List.mem_map.mpr ⟨p,hp,of_decide_eq_true z⟩)
theorem zq8 {a b:List (Str×Int)}{x:Str}(h:x∉a.map (·.1)):lkT (a++b) x=lkT b x:=by
 unfold lkT;rw [List.find?_append,show a.find? (fun p=>decide (p.1=x))=none from Option.map_eq_none_iff.mp (zeV.mpr h)];rfl
theorem zsx (x:Str)(v:Int)(b:List (Str×Int)):lkT ((x,v)::b) x=some v:=by
 unfold lkT;rw [List.find?_cons,decide_eq_true rfl];rfl
def isP (how:Str):Bool:=!(decide (how = "all")||decide (how = "first"))
def wt1 (t:List (Str×Int))(p:Pl):Int:=p.rows.length+((p.rows.filter fun r=>isP r.2.1).map fun r=>(lkT t r.2.1).getD 0).sum
def wtS (t:List (Str×Int))(p:Pl):List (Str×Int):=t++[(p.name,wt1 t p)]
def wtF (ps:List Pl):List (Str×Int):=ps.foldl wtS []
theorem zfc (ps:List Pl)(p:Pl):wtF (ps++[p])=wtF ps++[(p.name,wt1 (wtF ps) p)]:=by
 unfold wtF;rw [List.foldl_append];rfl
theorem zgR:∀ (l:List Pl) (t:List (Str×Int)),∃ u,l.foldl wtS t=t++u
 | [],t=>⟨[],by simp⟩
 |p::l,t=>by
  obtain ⟨u,e⟩:=zgR l (wtS t p);exact ⟨(p.name,wt1 t p)::u,by rw [List.foldl_cons,e];unfold wtS;simp⟩
theorem zlA:∀ (l:List Pl) (t:List (Str×Int)),(l.foldl wtS t).map (·.1)=t.map (·.1)++l.map (·.name)
 | [],t=>by simp
 |p::l,t=>by
  rw [List.foldl_cons,zlA l];unfold wtS;simp
theorem zc7 (l:List Pl):(wtF l).map (·.1)=l.map (·.name):=by
 unfold wtF;rw [zlA];rfl
theorem WB.fresh {ps:List Pl}(W:WB ps){i:Nat}{p:Pl}(hi:ps[i]? = some p):p.name∉(wtF (ps.take i)).map (·.1):=by
 rw [zc7];intro z;have hlt:i<ps.length:=(List.getElem?_eq_some_iff.mp hi).1;obtain ⟨y,hy,e⟩:=List.mem_map.mp z;obtain ⟨j,hj,ej⟩:=List.getElem_of_mem hy;rw [List.length_take] at hj;have nd:=List.pairwise_iff_getElem.mp (List.pairwise_map.mp W.nd) j i (by omega) hlt (by omega);rw [List.getElem_take] at ej;apply nd;rw [ej,e,(List.getElem?_eq_some_iff.mp hi).2]
theorem WB.at {ps:List Pl}(W:WB ps){i:Nat}{p:Pl}(hi:ps[i]? = some p):lkT (wtF ps) p.name=some (wt1 (wtF (ps.take i)) p):=by
 have hlt:i<ps.length:=(List.getElem?_eq_some_iff.mp hi).1;have e:wtF ps=(ps.drop (i+1)).foldl wtS (wtF (ps.take i)++[(p.name,wt1 (wtF (ps.take i)) p)]):=by
  rw [<- zfc];unfold wtF;rw [<- List.foldl_append]
  congr 1
  have tk:ps.take (i+1)=ps.take i++[p]:=by rw [List.take_succ,hi];rfl
  rw [<- tk,List.take_append_drop]
 obtain ⟨u,hu⟩:=zgR (ps.drop (i+1)) (wtF (ps.take i)++[(p.name,wt1 (wtF (ps.take i)) p)]);rw [e,hu,List.append_assoc,zq8 (W.fresh hi)];exact zsx _ _ _
theorem WB.part {ps:List Pl}(W:WB ps){i:Nat}{p:Pl}(hi:ps[i]? = some p){r:Str×Str×List (Int×Int)}(hr:r∈p.rows):(lkT (wtF (ps.take i)) r.2.1).isSome=isP r.2.1:=by
 have out:∀ w:Str,(∀ y∈ps,y.name≠w)->lkT (wtF (ps.take i)) w=none:=fun w hw=>zeV.mpr (by
  rw [zc7];intro z;obtain ⟨y,hy,e⟩:=List.mem_map.mp z;exact hw y (List.mem_of_mem_take hy) e)
 rcases W.how i p hi r hr with z|z|z
 ·rw [z,out "all" fun y hy=>(W.ok y hy).2.2.1]
  decide +kernel
 ·rw [z,out "first" fun y hy=>(W.ok y hy).2.2.2]
  decide +kernel
 ·have h1:(lkT (wtF (ps.take i)) r.2.1).isSome=true:=by
   cases h:lkT (wtF (ps.take i)) r.2.1 with
   |some v=>rfl
   |none=>exact absurd (by rw [zc7];exact z) (zeV.mp h)
  rw [h1];obtain ⟨y,hy,e⟩:=List.mem_map.mp z;have ok:=W.ok y (List.mem_of_mem_take hy);unfold isP;rw [<- e,decide_eq_false ok.2.2.1,decide_eq_false ok.2.2.2];rfl
theorem WB.hasc {ps:List Pl}(W:WB ps){i:Nat}{p:Pl}(hi:ps[i]? = some p){r:Str×Str×List (Int×Int)}(hr:r∈p.rows):asc r.2.1:=by
 rcases W.how i p hi r hr with z|z|z
 ·rw [z];exact (zba (n:=3) (by decide +kernel)).asc
 ·rw [z];exact (zba (n:=5) (by decide +kernel)).asc
 ·obtain ⟨y,hy,e⟩:=List.mem_map.mp z;rw [<- e];exact (W.ok y (List.mem_of_mem_take hy)).1.asc
theorem zjd {α : Type}(f:α -> Int)(l:List α):zpP (.lst (l.map fun r=>D.int (f r)))=true:=by
 show (l.map fun r=>D.int (f r)).all zlW=true;rw [List.all_eq_true];intro x hx;obtain ⟨y,_,rfl⟩:=List.mem_map.mp hx;rfl
theorem zm0 {α : Type}(f:α -> Int)(l:List α):gSum [.lst (l.map fun r=>D.int (f r))]=some (.int (l.map f).sum):=by
 rw [<- zki,List.map_map];rfl
theorem zrD {ps:List Pl}(W:WB ps)(i:Nat):(wtF (ps.take i)).length<=20:=by
 have e:(wtF (ps.take i)).length=((wtF (ps.take i)).map (·.1)).length:=by rw [Zql]
 rw [e,zc7,Zql,List.length_take];have:=W.l2;omega
def isL (c:Nat):Bool:=decide (97<=c)&&decide (c<123)
def isG (c:Nat):Bool:=decide (48<=c)&&decide (c<58)
def kept:List Str:=["plan", "given", "all", "first", "part"]
def zhn (x:Str):Bool:=decide (1<=x.length)&&(decide (x.length<=12)&&((kept.all fun w => !decide (w=x))&&(isL (x.cps.toList.headD 0)&&x.cps.toList.all fun c=>isL c||isG c)))
def nmOk (x:Str):Prop:=TxtOk 12 x/\zhn x=true
theorem nmOk.ne {x:Str}(h:nmOk x):1<=x.length/\x ≠ "all" /\ x ≠ "first" := by
 have h:=h.2;unfold zhn at h;rw [Bool.and_eq_true,Bool.and_eq_true,Bool.and_eq_true,decide_eq_true_eq] at h;have k:=List.all_eq_true.mp h.2.2.1;have ka:=k "all" (by decide +kernel);have kf:=k "first" (by decide +kernel);exact ⟨h.1,fun z=>by rw [z] at ka;simp at ka,fun z=>by rw [z] at kf;simp at kf⟩
structure PL (ahead:List Pl)(p:Pl):Prop where
 nm:nmOk p.name
 fresh:∀ q∈ahead,q.name≠p.name
 tn:∀ x∈p.givens++p.rows.map (·.1),nmOk x
 td:(p.givens++p.rows.map (·.1)).Nodup
 g1:1<=p.givens.length
 g2:p.givens.length<=12
 r1:1<=p.rows.length
 r2:p.rows.length<=40
 its:∀ (k:Nat) (r:Str×Str×List (Int×Int)),p.rows[k]? = some r->ItOk ((p.givens.length:Int)+k) r.2.2/\1<=r.2.2.length/\r.2.2.length<=40
 how:∀ r∈p.rows,HowOk (zb1 ahead) r.2.1 r.2.2.length
 wt:wt1 (wtF ahead) p<=2000
def LB (ps:List Pl):Prop:=∀ (i:Nat) (p:Pl),ps[i]? = some p->PL (ps.take i) p
theorem LB.snoc {ps:List Pl}{p:Pl}(h:LB ps)(hp:PL ps p):LB (ps++[p]):=fun k x hk=>by
 by_cases z:k<ps.length
 ·rw [List.getElem?_append_left z] at hk;rw [List.take_append_of_le_length (by omega)];exact h k x hk
 ·rw [List.getElem?_append_right (by omega)] at hk;have kz:k-ps.length=0:=by
   cases e:k-ps.length with
   |zero=>rfl
   |succ j=>rw [e] at hk;simp at hk
  rw [kz] at hk;cases hk;have:k=ps.length:=by omega
  rw [this,List.take_left' rfl];exact hp
theorem LB.mem {ps:List Pl}(h:LB ps){p:Pl}(hp:p∈ps):∃ i,PL (ps.take i) p:=by
 obtain ⟨i,hi⟩:=List.getElem?_of_mem hp;exact ⟨i,h i p hi⟩
theorem LB.wb {ps:List Pl}(h:LB ps)(l1:1<=ps.length)(l2:ps.length<=20):WB ps:=by
 refine ⟨l1,l2,?_,fun p hp=>?_,fun i p hi r hr=>?_,fun p hp=>?_⟩
 ·rw [List.nodup_iff_pairwise_ne,List.pairwise_map,List.pairwise_iff_getElem];intro i j hi hj hij;refine (h j ps[j] (Zqg hj)).fresh ps[i] ?_;exact List.mem_of_getElem? (i:=i) (by rw [List.getElem?_take,if_pos hij];exact Zqg hi)
 ·obtain ⟨i,P⟩:=h.mem hp;obtain ⟨a,b,c⟩:=P.nm.ne;exact ⟨P.nm.1,a,b,c⟩
 ·rcases (h i p hi).how r hr with z|z|z
  ·exact .inl z
  ·exact .inr (.inl z)
  ·obtain ⟨y,hy,ey⟩:=List.mem_map.mp z;exact .inr (.inr (List.mem_map.mpr ⟨y,hy,congrArg Prod.fst ey⟩))
 ·obtain ⟨i,P⟩:=h.mem hp;exact ⟨P.r2,P.g2⟩
theorem zld {ps:List Pl}:∀ n,∀ q∈wtF (ps.take n),∃ i p,ps[i]? = some p/\q=(p.name,wt1 (wtF (ps.take i)) p)
 | 0,q,h=>by rw [List.take_zero] at h;cases h
 |n+1,q,h=>by
  cases hp:ps[n]? with
  |none =>
   have l:=List.getElem?_eq_none_iff.mp hp;rw [List.take_of_length_le (show ps.length<=n+1 by omega)] at h;have e:ps.take n=ps:=List.take_of_length_le l;exact zld n q (by rw [e];exact h)
  |some p =>
   have tk:ps.take (n+1)=ps.take n++[p]:=by rw [List.take_succ,hp];rfl
   rw [tk,zfc] at h;rcases List.mem_append.mp h with z|z
   ·exact zld n q z
   ·exact ⟨n,p,hp,List.mem_singleton.mp z⟩
theorem LB.wts {ps:List Pl}(h:LB ps):∀ q∈wtF ps,q.2<=2000:=fun q hq=>by
 obtain ⟨i,p,hi,e⟩:=zld ps.length q (by rw [List.take_length];exact hq);rw [e];exact (h i p hi).wt
def bnd:Nat->Int
 | 0=>0
 |n+1=>6+6*bnd n
theorem zkv {ps:List Pl}{p:Pl}(h:p∈ps):(p.name,(p.givens.length:Int))∈zb1 ps:=List.mem_map.mpr ⟨p,h,rfl⟩
def chN (i:Nat):Nat:=if i<26 then 97+i else 22+i
def digN:Nat->Nat->List Nat
 | 0,_=>[]
 |f+1,n=>if n=0 then [] else chN (n % 36)::digN f (n / 36)
def zgm (m:Nat):List Nat:=chN (m % 26)::digN 59 (m / 26)
def mkS (l:List Nat):Str:=⟨l.toArray⟩
def zbk (m:Nat):Str:=mkS (zgm m)
theorem zl7 (a:List Nat):(mkS a).length=a.length:=by
 show a.toArray.size=_;simp
def zcj:Str := "abcdefghijklmnopqrstuvwxyz0123456789"
theorem zmf:zcj.cps.toList=(List.range 36).map chN:=by decide +kernel
theorem zpK:zcj.length<=sizeLine:=small (show zcj.length<=1000 by decide +kernel)
theorem zhv {k:Int}(h0:0<=k)(h1:k<36):gIx (.str zcj) (.int k)=some (.str ⟨#[chN k.toNat]⟩):=by
 show (if zcj.length<=sizeLine then (atI zcj.cps.toList k).map fun c=>D.str ⟨#[c]⟩ else none)=_;rw [if_pos zpK,zmf];have e:atI ((List.range 36).map chN) k=some (chN k.toNat):=by
  have hk:k=((k.toNat:Nat):Int):=by omega
  rw [hk,zbG (by simp;omega),List.getElem?_map,List.getElem?_range (by omega)];rfl
 rw [e];rfl
theorem zj0 {i:Nat}(hi:i<36):chN i<128:=by
 unfold chN
 split<;>omega
def zga:List Nat->Nat
 | []=>0
 |c::r=>(if 97<=c then c-97 else c-22)+36*zga r
def valW:List Nat->Nat
 | []=>0
 |c::r=>(if 97<=c then c-97 else c-22)+26*zga r
theorem zj5 {i:Nat}(hi:i<36):(if 97<=chN i then chN i-97 else chN i-22)=i:=by
 unfold chN;by_cases h:i<26
 ·rw [if_pos h,if_pos (by omega)];omega
 ·rw [if_neg h,if_neg (by omega)];omega
theorem zhw:∀ (f n:Nat),n<36 ^ f->zga (digN f n)=n
 | 0,n,h=>by
  have:n=0:=by simpa using h
  rw [this];rfl
 |f+1,n,h=>by
  unfold digN;by_cases z:n=0
  ·rw [if_pos z,z];rfl
  ·rw [if_neg z];show (if 97<=chN (n % 36) then chN (n % 36)-97 else chN (n % 36)-22)+36*zga (digN f (n / 36))=n;rw [zj5 (Nat.mod_lt _ (by omega)),zhw f (n / 36) (by rw [Nat.pow_succ] at h;exact Nat.div_lt_of_lt_mul (by omega))];omega
theorem zhX:∀ (f g n:Nat),n<36 ^ g->(digN f n).length<=g
 | 0,g,n,h=>Nat.zero_le _
 |f+1,g,n,h=>by
  unfold digN;by_cases z:n=0
  ·rw [if_pos z];exact Nat.zero_le _
  ·rw [if_neg z];cases g with
   |zero=>simp at h;omega
   |succ g =>
    have:=zhX f g (n / 36) (by rw [Nat.pow_succ] at h;exact Nat.div_lt_of_lt_mul (by omega));rw [List.length_cons];omega
theorem zf7:∀ (f n c:Nat),c∈digN f n->∃ i,i<36/\c=chN i
 | 0,n,c,h=>by cases h
 |f+1,n,c,h=>by
  unfold digN at h;by_cases z:n=0
  ·rw [if_pos z] at h;cases h
  ·rw [if_neg z] at h;rcases List.mem_cons.mp h with rfl|h
   ·exact ⟨n % 36,Nat.mod_lt _ (by omega),rfl⟩
   ·exact zf7 f (n / 36) c h
theorem zr2:36 ^ 11<=36 ^ 59:=by decide +kernel
theorem zjL {m n:Nat}(hm:m<26*36 ^ 11)(hn:n<26*36 ^ 11)(h:zbk m=zbk n):m=n:=by
 have e:zgm m=zgm n:=by
  have:=congrArg (fun s:Str=>s.cps.toList) h;exact this
 have key:∀ k,k<26*36 ^ 11->valW (zgm k)=k:=fun k hk=>by
  show (if 97<=chN (k % 26) then chN (k % 26)-97 else chN (k % 26)-22)+26*zga (digN 59 (k / 26))=k;rw [zj5 (by omega),zhw 59 (k / 26) (Nat.lt_of_lt_of_le (Nat.div_lt_of_lt_mul hk) zr2)];omega
 rw [<- key m hm,<- key n hn,e]
theorem zet (m:Nat):asc (zbk m):=zbP.mpr fun c hc=>by
 have hc:c∈zgm m:=hc;rcases List.mem_cons.mp hc with rfl|hc
 ·exact zj0 (by omega)
 ·obtain ⟨i,hi,rfl⟩:=zf7 _ _ _ hc;exact zj0 hi
theorem zlu {m:Nat}(hm:m<26*36 ^ 11):(zbk m).length<=12:=by
 have e:(zbk m).length=(zgm m).length:=zl7 _;have:=zhX 59 11 (m / 26) (Nat.div_lt_of_lt_mul hm);rw [e];show (digN 59 (m / 26)).length+1<=12;omega
theorem zmh {m:Nat}(hm:m<26*36 ^ 11):TxtOk 12 (zbk m):=⟨zlu hm,zet m⟩
def zcv:List Str:=["plan", "given", "all", "first", "part"]
def IsW (x:Str):Prop:=∃ m,m<26*36 ^ 11/\x=zbk m/\x∉zcv
theorem IsW.ok {x:Str}(h:IsW x):TxtOk 12 x:=by
 obtain ⟨m,hm,rfl,_⟩:=h;exact zmh hm
theorem zfB {α : Type}[DecidableEq α]:∀ {l m:List α},l.Nodup->(∀ x∈l,x∈m)->l.length<=m.length
 | [],_,_,_=>Nat.zero_le _
 |a::l,m,hn,h=>by
  obtain ⟨h1,h2⟩:=List.nodup_cons.mp hn;have ha:=h a Zqs;have:=zfB (l:=l) (m:=m.erase a) h2 fun x hx=>(List.mem_erase_of_ne fun z=>h1 (by rw [<- z];exact hx)).mpr (h x (Zqm _ hx));rw [List.length_erase_of_mem ha] at this;have hp:0<m.length:=List.length_pos_of_mem ha;rw [List.length_cons];omega
theorem zkw {n:Nat}{us:List Str}(h:n+us.length+6<26*36 ^ 11):∃ k,k<us.length+6/\zbk (n+k)∉us/\zbk (n+k)∉zcv:=by
 refine Classical.byContradiction fun hc=>?_;have hall:∀ x∈(List.range (us.length+6)).map fun k=>zbk (n+k),x∈us++zcv:=fun x hx=>by
  obtain ⟨k,hk,rfl⟩:=List.mem_map.mp hx;rw [List.mem_range] at hk;refine Classical.byContradiction fun hn=>hc ⟨k,hk,fun z=>hn (List.mem_append_left _ z),fun z=>hn (List.mem_append_right _ z)⟩
 have hnd:((List.range (us.length+6)).map fun k=>zbk (n+k)).Nodup:=by
  refine List.pairwise_map.mpr ((List.nodup_range (n:=us.length+6)).imp_of_mem fun {a b} ha hb hne e=>?_);rw [List.mem_range] at ha hb;have:=zjL (by omega) (by omega) e;omega
 have:=zfB hnd hall;rw [Zql,List.length_range,List.length_append] at this;have e:zcv.length=5:=rfl;omega
theorem zkV {n:Nat}{xs:List Str}(h:∀ x∈xs,asc x):(xs.map D.str).all (plN (n+1))=true:=List.all_eq_true.mpr fun d hd=>by
 obtain ⟨x,hx,rfl⟩:=List.mem_map.mp hd;exact zca (h x hx)
theorem zhH (x:Str)(xs:List Str):(xs.map D.str).any (fun e=>sameD e (.str x))=decide (x∈xs):=by
 by_cases h:x∈xs
 ·rw [decide_eq_true h];exact List.any_eq_true.mpr ⟨.str x,List.mem_map.mpr ⟨x,h,rfl⟩,zbc _⟩
 ·rw [decide_eq_false h];refine List.any_eq_false.mpr fun d hd=>?_;obtain ⟨y,hy,rfl⟩:=List.mem_map.mp hd;rw [zdm];exact fun z=>h (by cases z;exact hy)
theorem zh4 {neg:Bool}{x:Str}{xs:List Str}(hx:asc x)(h:∀ y∈xs,asc y):gIn neg (.str x) (.lst (xs.map D.str))=some (.bl (if neg then !decide (x∈xs) else decide (x∈xs))):=by
 have e1:plN 12 (.str x)=true:=zca hx;have e2:(xs.map D.str).all (plN 12)=true:=zkV (n:=11) h;show (if plN 12 (.str x)&&(xs.map D.str).all (plN 12) then some (D.bl (if neg then !(xs.map D.str).any (fun e=>sameD e (.str x)) else (xs.map D.str).any fun e=>sameD e (.str x))) else none)=_;rw [e1,e2,zhH];rfl
theorem zdT {neg:Bool}{x:Str}{xs:List Str}(hx:asc x)(h:∀ y∈xs,asc y):gIn neg (.str x) (.tup (xs.map D.str))=some (.bl (if neg then !decide (x∈xs) else decide (x∈xs))):=by
 have e1:plN 12 (.str x)=true:=zca hx;have e2:(xs.map D.str).all (plN 12)=true:=zkV (n:=11) h;show (if plN 12 (.str x)&&(xs.map D.str).all (plN 12) then some (D.bl (if neg then !(xs.map D.str).any (fun e=>sameD e (.str x)) else (xs.map D.str).any fun e=>sameD e (.str x))) else none)=_;rw [e1,e2,zhH];rfl
theorem zmJ:∀ y∈zcv,asc y:=by
 intro y hy;have:y = "plan" \/ y = "given" \/ y = "all" \/ y = "first" \/ y = "part" := by simpa [zcv] using hy
 rcases this with rfl|rfl|rfl|rfl|rfl<;>unfold asc<;>decide +kernel
theorem zme (a:List Nat)(c:Nat):mkS a++⟨#[c]⟩=mkS (a++[c]):=zby (by rw [za6];rfl)
def zk4 (tg:Tg)(b:FS)(xs:List D):Out->Res Out
 | .next sd=>forT tg b xs sd
 | .cont sd=>forT tg b xs sd
 | .brk sd=>.ok (.next sd)
 | .ret d=>.ok (.ret d)
theorem zcR (tg:Tg)(b:FS)(x:D)(xs:List D)(sd:SD):forT tg b (x::xs) sd=((zbl tg x sd).bind b).bind (zk4 tg b xs):=by
 show ((zbl tg x sd).bind b).bind _=_;exact congrArg _ (funext fun o=>by cases o<;>rfl)
@[simp] theorem zqj (tg:Tg)(b:FS)(xs:List D)(sd:SD):zk4 tg b xs (.next sd)=forT tg b xs sd:=rfl
@[simp] theorem zrX (tg:Tg)(b:FS)(xs:List D)(d:D):zk4 tg b xs (.ret d)=.ok (.ret d):=rfl
def whK (c:FT)(b:FS)(n:Nat):Out->Res Out
 | .next sd=>zbJ c b n sd
 | .cont sd=>zbJ c b n sd
 | .brk sd=>.ok (.next sd)
 | .ret d=>.ok (.ret d)
theorem zeA (c:FT)(b:FS)(n:Nat)(sd:SD):zbJ c b (n+1) sd=(c sd).bind fun t=>if t then (b sd).bind (whK c b n) else .ok (.next sd):=by
 have e:(fun o:Out=>match o with
  | .next sd'=>zbJ c b n sd'
  | .cont sd'=>zbJ c b n sd'
  | .brk sd'=>.ok (.next sd')
  | .ret d=>.ok (.ret d))=whK c b n:=funext fun o=>by cases o<;>rfl
 rw [<- e];rfl
@[simp] theorem whK_next (c:FT)(b:FS)(n:Nat)(sd:SD):whK c b n (.next sd)=zbJ c b n sd:=rfl
@[simp] theorem bind3_ok (a b c:D)(sd:SD):zbl (.tup [0,1,2]) (.tup [a,b,c]) sd=.ok (((sd.set 0 (some (.val a))).set 1 (some (.val b))).set 2 (some (.val c))):=rfl
def numT (n:Int):Str:=Str.ofString (toString n)
def itT (x:Str)(w:Int):Str:=if w=0 then x else if 0<w then x ++ "+" ++ numT w else x++numT w
def nmIn (xs:List Str)(k:Int):Str:=xs.getD k.toNat Str.empty
def itsT (xs:List Str)(its:List (Int×Int)):Str:=Txt.join ", " (its.map fun p=>itT (nmIn xs p.1) p.2)
def wayT (how:Str):Str:=if how = "all" \/ how = "first" then how else "part " ++ how
def rowT (xs:List Str)(r:Str×Str×List (Int×Int)):Str := " " ++ r.1 ++ " " ++ wayT r.2.1 ++ " " ++ itsT xs r.2.2
def za2 (p:Pl):List Str:=[("plan " : Str)++p.name]++p.givens.map (fun g=>(" given " : Str)++g)++p.rows.map (rowT (p.givens++p.rows.map (·.1)))
def zaM (ps:List Pl):List Str:=ps.flatMap za2
def ze2 (ps:List Pl):Str:=Txt.join "\n" (zaM ps)
theorem zd5 (a:Str):(Str.empty:Str)++a=a:=zby (by rw [za6];rfl)
theorem jcon {x acc:Str}{r:FJ}{sd:SD}(h:(acc++x).length<=1000000):jCon x r acc sd=r (acc++x) sd:=if_pos (Nat.le_trans h (by decide +kernel))
theorem jfv {g:D->Option Str}{fe:FE}{r:FJ}{acc z:Str}{sd:SD}{d:D}(h1:fe sd=.ok d)(h2:g d=some z)(h:(acc++z).length<=1000000):jFv g fe r acc sd=r (acc++z) sd:=by
 unfold jFv;rw [h1];show (match g d with
  |some z=>if z.length<=sizeLine/\(acc++z).length<=sizeLine then r (acc++z) sd else .no
  |none=>.no)=_
 rw [h2];have hz:z.length<=(acc++z).length:=by rw [za9];omega
 have hs:1000000<=sizeLine:=by decide +kernel
 exact if_pos ⟨by omega,by omega⟩
theorem jnil {acc:Str}{sd:SD}(h:acc.length<=1000000):jNil acc sd=.ok (.str acc):=if_pos (Nat.le_trans h (by decide +kernel))
theorem zpH {n:Int}(h1 : -1000000000000000000000000000000<n)(h2:n<1000000000000000000000000000000):n.natAbs.log2<100:=by
 by_cases z:n.natAbs=0
 ·rw [z];decide
 ·rw [Nat.log2_lt z];exact Nat.lt_of_lt_of_le (show n.natAbs<1000000000000000000000000000000 by omega) (by decide +kernel)
theorem zct (a b c:Str):a++b++c=a++(b++c):=zby (by simp only [za6,List.append_assoc])
theorem zmc {n:Int}(h1 : -1000000000000000000000000000000<n)(h2:n<1000000000000000000000000000000):(numT n).length<=31:=by
 unfold numT;rw [PySem.ofString_length];have p:(10:Nat) ^ 30=1000000000000000000000000000000:=by decide +kernel
 exact int_text_length_le10 (k:=30) (by omega) (by rw [p];omega)
theorem zdf (m:Nat):(numT (m:Int)).cps.toList=(Nat.toDigits 10 m).map Char.toNat:=by
 have:=PyProof.Rows.text_ofNat m;unfold numT;rw [show ((m:Nat):Int)=Int.ofNat m from rfl,this]
theorem zfd (m:Nat):numT (-((m+1:Nat):Int))=("-" : Str)++numT ((m+1:Nat):Int):=by
 have e:toString (-((m+1:Nat):Int)) = "-" ++ Nat.repr (m+1):=rfl;have e2:toString ((m+1:Nat):Int)=Nat.repr (m+1):=rfl;unfold numT;rw [e,e2];refine zby ?_;rw [za6,PySem.Str.ofString_eq_toList,PySem.Str.ofString_eq_toList,PySem.Str.ofString_eq_toList,String.toList_append,List.map_append]
theorem zmd (n:Int):asc (numT n):=by
 have key:∀ m:Nat,asc (numT (m:Int)):=fun m=>zbP.mpr fun c hc=>by
  rw [zdf] at hc;obtain ⟨ch,hch,rfl⟩:=List.mem_map.mp hc;have:=Nat.isDigit_of_mem_toDigits (by decide) (by decide) hch;have h9:ch.toNat<=57:=by
   unfold Char.isDigit at this;simp at this;exact this.2
  omega
 by_cases h:0<=n
 ·obtain ⟨m,rfl⟩:=Int.eq_ofNat_of_zero_le h;exact key m
 ·obtain ⟨m,rfl⟩:∃ m:Nat,n = -((m+1:Nat):Int):=⟨(-n-1).toNat,by omega⟩;rw [zfd];exact zlI (by unfold asc;decide +kernel) (key (m+1))
theorem zgB {n:Int}(h1 : -1000000000000000000000000000000<n)(h2:n<1000000000000000000000000000000):TxtOk 31 (numT n):=⟨zmc h1 h2,zmd n⟩
theorem zor {x:Str}{w:Int}(hx:TxtOk 12 x)(h1 : -1000000000000000000000000000000<w)(h2:w<1000000000000000000000000000000):TxtOk 44 (itT x w):=by
 unfold itT
 split
 ·exact hx.mono (by omega)
 ·split
  ·exact ((hx.app (n:=1) (zba (by decide +kernel))).app (zgB h1 h2)).mono (by omega)
  ·exact (hx.app (zgB h1 h2)).mono (by omega)
theorem zbw (sep x y:Str)(r:List Str):Txt.join sep (x::y::r)=x++sep++Txt.join sep (y::r):=by
 unfold Txt.join;rw [StrLaws.glued_eq_join,StrLaws.glued_eq_join];rfl
theorem zbe (sep x:Str):Txt.join sep [x]=x:=by
 unfold Txt.join;rw [StrLaws.glued_eq_join];rfl
theorem zh3 (sep:Str):Txt.join sep []=Str.empty:=by
 unfold Txt.join;rw [StrLaws.glued_eq_join];rfl
theorem zef {sep:Str}{m n:Nat}(hs:TxtOk m sep):∀ {xs:List Str} {k:Nat},(∀ x∈xs,TxtOk n x)->xs.length<=k->TxtOk (k*(n+m)) (Txt.join sep xs)
 | [],k,_,_=>by rw [zh3];exact ⟨Nat.zero_le _,by unfold asc;decide +kernel⟩
 | [x],k,h,hl=>by
  rw [zbe];refine (h x Zqs).mono ?_;have:1*(n+m)<=k*(n+m):=Nat.mul_le_mul_right _ (by simpa using hl);omega
 |x::y::r,k,h,hl=>by
  rw [zbw];cases k with
  |zero=>simp at hl
  |succ k =>
   have:=zef hs (xs:=y::r) (k:=k) (fun z hz=>h z (Zqm _ hz)) (by simpa using hl);refine (((h x Zqs).app hs).app this).mono ?_;rw [Nat.succ_mul];omega
theorem zdW {sep:Str}{m n k:Nat}{xs:List Str}(hs:sep.length<=m)(h:∀ x∈xs,x.length<=n)(hl:xs.length<=k)(hk:k*n+k*m<=16777216):JoinOk sep xs=true:=by
 unfold JoinOk;rw [Bool.not_eq_true'];refine StrLaws.joinFits h ?_;have a1:xs.length*n<=k*n:=Nat.mul_le_mul_right _ hl;have a2:xs.length*sep.length<=k*m:=Nat.mul_le_mul hl hs;omega
theorem zdp {sep:Str}{xs:List Str}(h:JoinOk sep xs=true):zi9 sep (.lst (xs.map .str))=some (.str (Txt.join sep xs)):=by
 show (zdx (xs.map D.str)).bind _=_;rw [zeF];exact if_pos h
theorem zgz {m n:Nat}{a b:Str}(ha:TxtOk m a)(hb:TxtOk n b)(h:m+n<=1000000):gAdd (.str a) (.str b)=some (.str (a++b)):=if_pos (Nat.le_trans (show a.length+b.length<=1000000 by have:=ha.len;have:=hb.len;omega) (by decide +kernel))
structure PlT (p:Pl):Prop where
 nm:TxtOk 12 p.name
 gs:∀ g∈p.givens,TxtOk 12 g
 gl:p.givens.length<=12
 rl:p.rows.length<=32
 rs:∀ r∈p.rows,TxtOk 12 r.1/\TxtOk 12 r.2.1/\r.2.2.length<=44/\∀ i∈r.2.2,0<=i.1/\i.1<((p.givens.length+p.rows.length:Nat):Int) /\ -1000000000000000000000000000000<i.2/\i.2<1000000000000000000000000000000
def thT (p:Pl):List Str:=p.givens++p.rows.map (·.1)
theorem PlT.th {p:Pl}(h:PlT p):∀ x∈thT p,TxtOk 12 x:=fun x hx=>by
 rcases List.mem_append.mp hx with z|z
 ·exact h.gs x z
 ·obtain ⟨r,hr,rfl⟩:=List.mem_map.mp z;exact (h.rs r hr).1
theorem zgN (p:Pl):(thT p).length=p.givens.length+p.rows.length:=by unfold thT;rw [List.length_append,Zql]
theorem zls {xs:List Str}{k:Int}(h0:0<=k)(h1:k<(xs.length:Int)):gIx (.lst (xs.map .str)) (.int k)=some (.str (nmIn xs k))/\nmIn xs k∈xs:=by
 obtain ⟨j,rfl⟩:∃ j:Nat,k=j:=⟨k.toNat,by omega⟩;have hj:j<xs.length:=by omega
 have e:nmIn xs (j:Int)=xs[j]:=by
  unfold nmIn;rw [Int.toNat_natCast,List.getD_eq_getElem?_getD,Zqg hj];rfl
 rw [e];refine ⟨?_,List.getElem_mem _⟩;show atI (xs.map D.str) (j:Int)=_;rw [zbG (by rw [Zql];exact hj),List.getElem?_map,Zqg hj];rfl
theorem zg6 {x:Str}(h:TxtOk 12 x):TxtOk 17 (wayT x):=by
 unfold wayT
 split
 ·exact h.mono (by omega)
 ·exact ((zba (n:=5) (x := "part ") (by decide +kernel)).app h).mono (by omega)
theorem zjM {xs:List Str}{its:List (Int×Int)}(hx:∀ x∈xs,TxtOk 12 x)(hl:its.length<=44)(h:∀ i∈its,0<=i.1/\i.1<(xs.length:Int) /\ -1000000000000000000000000000000<i.2/\i.2<1000000000000000000000000000000) :
 (∀ y∈its.map (fun p=>itT (nmIn xs p.1) p.2),TxtOk 44 y)/\TxtOk 2024 (itsT xs its)/\JoinOk ", " (its.map fun p=>itT (nmIn xs p.1) p.2)=true:=by
 have a:∀ y∈its.map (fun p=>itT (nmIn xs p.1) p.2),TxtOk 44 y:=fun y hy=>by
  obtain ⟨p,hp,rfl⟩:=List.mem_map.mp hy;obtain ⟨h0,h1,h2,h3⟩:=h p hp;exact zor (hx _ (zls h0 h1).2) h2 h3
 have sp:TxtOk 2 (", " : Str):=zba (by decide +kernel);refine ⟨a,(zef sp a (k:=44) (by rw [Zql];exact hl)).mono (by omega),zdW (m:=2) (n:=44) (k:=44) sp.len (fun y hy=>(a y hy).len) (by rw [Zql];exact hl) (by omega)⟩
theorem zeH:TxtOk 1 (" " : Str):=zba (by decide +kernel)
theorem zpT {xs:List Str}{r:Str×Str×List (Int×Int)}(h1:TxtOk 12 r.1)(h2:TxtOk 12 r.2.1)(h3:TxtOk 2024 (itsT xs r.2.2)):TxtOk 2056 (rowT xs r) :=
 (((((zeH.app h1).app zeH).app (zg6 h2)).app zeH).app h3).mono (by omega)
theorem zdQ {p:Pl}(h:PlT p):(∀ y∈za2 p,TxtOk 2056 y)/\(za2 p).length<=45:=by
 refine ⟨fun y hy=>?_,?_⟩
 ·unfold za2 at hy;rcases List.mem_append.mp hy with hy|hy
  ·rcases List.mem_append.mp hy with hy|hy
   ·rw [List.mem_singleton.mp hy];exact ((zba (n:=5) (x := "plan ") (by decide +kernel)).app h.nm).mono (by omega)
   ·obtain ⟨g,hg,rfl⟩:=List.mem_map.mp hy;exact ((zba (n:=7) (x := " given ") (by decide +kernel)).app (h.gs g hg)).mono (by omega)
  ·obtain ⟨r,hr,rfl⟩:=List.mem_map.mp hy;obtain ⟨a,b,c,d⟩:=h.rs r hr;exact zpT a b (zjM (xs:=thT p) h.th c (fun i hi=>by rw [zgN];exact d i hi)).2.1
 ·unfold za2;rw [List.length_append,List.length_append,Zql,Zql,List.length_singleton];have:=h.gl;have:=h.rl;omega
theorem zcc:∀ {ps:List Pl},(∀ p∈ps,PlT p)->(∀ y∈zaM ps,TxtOk 2056 y)/\(zaM ps).length<=ps.length*45
 | [],_=>⟨fun y hy=>(by cases hy),Nat.zero_le _⟩
 |p::ps,h=>by
  obtain ⟨a,b⟩:=zdQ (h p Zqs);obtain ⟨c,d⟩:=zcc (ps:=ps) fun q hq=>h q (Zqm _ hq);refine ⟨fun y hy=>?_,?_⟩
  ·rcases List.mem_append.mp (show y∈za2 p++zaM ps from hy) with z|z
   ·exact a y z
   ·exact c y z
  ·show (za2 p++zaM ps).length<=_;rw [List.length_append,List.length_cons,Nat.succ_mul];omega
theorem zhz {ps:List Pl}(h:∀ p∈ps,PlT p)(hl:ps.length<=32):TxtOk 2962080 (ze2 ps)/\JoinOk "\n" (zaM ps)=true:=by
 obtain ⟨a,b⟩:=zcc h;have nl:TxtOk 1 ("\n" : Str):=zba (by decide +kernel);exact ⟨(zef nl a (k:=1440) (by omega)).mono (by omega),zdW (m:=1) (n:=2056) (k:=1440) nl.len (fun y hy=>(a y hy).len) (by omega) (by omega)⟩
def zbN (q:Pl):D:=.lst [.str q.name,.lst (q.givens.map .str),.lst (q.rows.map rowD)]
@[simp] theorem zqc (q:Pl):gIx (zbN q) (.int 0)=some (.str q.name):=rfl
@[simp] theorem zqi (q:Pl):gIx (zbN q) (.int 1)=some (.lst (q.givens.map .str)):=rfl
@[simp] theorem zpZ (q:Pl):gIx (zbN q) (.int 2)=some (.lst (q.rows.map rowD)):=rfl
def ldD (ld:List Int):D:=.lst (ld.map .int)
def plsD (ps:List Pl):D:=.lst (ps.map zbN)
structure AtP (hp:HP)(a:Addr×Addr×Addr)(q:Pl):Prop where
 pl:hpAt hp a.1=some (.lst [.str q.name,.adr a.2.1,.adr a.2.2])
 gv:hpAt hp a.2.1=some (.lst (q.givens.map .str))
 rw_:hpAt hp a.2.2=some (.lst (q.rows.map rowD))
def adrs (as:List (Addr×Addr×Addr)):List Addr:=as.flatMap fun a=>[a.1,a.2.1,a.2.2]
def AllP (hp:HP):List (Addr×Addr×Addr)->List Pl->Prop
 | [],ps=>ps=[]
 |a::as,ps=>∃ q r,ps=q::r/\AtP hp a q/\AllP hp as r
structure StB (hp:HP)(p l:Addr)(as:List (Addr×Addr×Addr))(a:Addr×Addr×Addr)(ps:List Pl)(q:Pl)(ld:List Int):Prop where
 hp_:hpAt hp p=some (.lst ((as++[a]).map fun b=>.adr b.1))
 hl:hpAt hp l=some (.lst (ld.map .int))
 all:AllP hp as ps
 at_:AtP hp a q
 nd:(p::l::adrs (as++[a])).Nodup
theorem AllP.len {hp:HP}:∀ {as:List (Addr×Addr×Addr)} {ps:List Pl},AllP hp as ps->ps.length=as.length
 | [],ps,h=>by rw [show ps=[] from h];rfl
 |a::as,ps,h=>by
  obtain ⟨q,r,rfl,_,h⟩:=h;rw [List.length_cons,List.length_cons,h.len]
theorem AllP.snoc {hp:HP}{a:Addr×Addr×Addr}{q:Pl}(ha:AtP hp a q):∀ {as:List (Addr×Addr×Addr)} {ps:List Pl},AllP hp as ps->AllP hp (as++[a]) (ps++[q])
 | [],ps,h=>by rw [show ps=[] from h];exact ⟨q,[],rfl,ha,rfl⟩
 |b::as,ps,h=>by
  obtain ⟨q',r,rfl,hb,h⟩:=h;exact ⟨q',r++[q],rfl,hb,h.snoc ha⟩
theorem zdB (as bs:List (Addr×Addr×Addr)):adrs (as++bs)=adrs as++adrs bs:=List.flatMap_append
theorem AtP.mono {hp hp':HP}{a:Addr×Addr×Addr}{q:Pl}(h:AtP hp a q)(e:∀ b ∈ [a.1,a.2.1,a.2.2],hpAt hp' b=hpAt hp b):AtP hp' a q :=
 ⟨(e _ (by simp)).trans h.pl,(e _ (by simp)).trans h.gv,(e _ (by simp)).trans h.rw_⟩
theorem AllP.mono {hp hp':HP}:∀ {as:List (Addr×Addr×Addr)} {ps:List Pl},AllP hp as ps->(∀ b∈adrs as,hpAt hp' b=hpAt hp b)->AllP hp' as ps
 | [],ps,h,_=>h
 |a::as,ps,h,e=>by
  obtain ⟨q,r,rfl,ha,h⟩:=h;refine ⟨q,r,rfl,ha.mono fun b hb=>e b ?_,h.mono fun b hb=>e b ?_⟩
  ·exact List.mem_flatMap.mpr ⟨a,Zqs,hb⟩
  ·obtain ⟨c,hc,hb⟩:=List.mem_flatMap.mp hb;exact List.mem_flatMap.mpr ⟨c,Zqm _ hc,hb⟩
theorem AtP.has {hp:HP}{a:Addr×Addr×Addr}{q:Pl}(h:AtP hp a q):∀ c ∈ [a.1,a.2.1,a.2.2],hpAt hp c≠none:=fun c hc=>by
 have:c=a.1\/c=a.2.1\/c=a.2.2:=by simpa using hc
 rcases this with rfl|rfl|rfl
 ·rw [h.pl];simp
 ·rw [h.gv];simp
 ·rw [h.rw_];simp
theorem AllP.has {hp:HP}:∀ {as:List (Addr×Addr×Addr)} {ps:List Pl},AllP hp as ps->∀ c∈adrs as,hpAt hp c≠none
 | [],_,_,c,hc=>by cases hc
 |a::as,ps,h,c,hc=>by
  obtain ⟨q,r,rfl,ha,h⟩:=h;rcases List.mem_append.mp (show c ∈ [a.1,a.2.1,a.2.2]++adrs as from hc) with z|z
  ·exact ha.has c z
  ·exact h.has c z
theorem zee (hp:HP)(n:Nat)(x:Str):dr hp n (.str x)=.str x:=by cases n<;>rfl
theorem zkm (hp:HP)(n:Nat)(x:Int):dr hp n (.int x)=.int x:=by cases n<;>rfl
theorem dr_pr (hp:HP)(n:Nat)(x:Int×Int):dr hp n (prD x)=prD x:=by
 cases n with
 |zero=>rfl
 |succ n =>
  show D.tup [dr hp n (.int x.1),dr hp n (.int x.2)]=_;rw [zkm,zkm];rfl
theorem zd8 {α : Type}{f:α -> D}{g:D->D}(h:∀ x,g (f x)=f x)(l:List α):(l.map f).map g=l.map f:=by
 rw [List.map_map];exact List.map_congr_left fun x _=>h x
theorem dr_rw (hp:HP)(n:Nat)(r:List (Int×Int)):dr hp n (rwD r)=rwD r:=by
 cases n with
 |zero=>rfl
 |succ n =>
  show D.tup ((r.map prD).map (dr hp n))=_;rw [zd8 (dr_pr hp n)];rfl
theorem zs5 (hp:HP)(n:Nat)(r:Str×Str×List (Int×Int)):dr hp n (rowD r)=rowD r:=by
 cases n with
 |zero=>rfl
 |succ n =>
  show D.tup [dr hp n (.str r.1),dr hp n (.str r.2.1),dr hp n (rwD r.2.2)]=_;rw [zee,zee,dr_rw];rfl
theorem zjQ (hp:HP)(n:Nat)(r:List Str):dr hp n (.lst (r.map .str))=.lst (r.map .str):=by
 cases n with
 |zero=>rfl
 |succ n =>
  show D.lst ((r.map D.str).map (dr hp n))=_;rw [zd8 (zee hp n)]
theorem zpN (hp:HP)(n:Nat)(r:List Int):dr hp n (.lst (r.map .int))=.lst (r.map .int):=by
 cases n with
 |zero=>rfl
 |succ n =>
  show D.lst ((r.map D.int).map (dr hp n))=_;rw [zd8 (zkm hp n)]
theorem zoD (hp:HP)(n:Nat)(r:List (Str×Str×List (Int×Int))):dr hp n (.lst (r.map rowD))=.lst (r.map rowD):=by
 cases n with
 |zero=>rfl
 |succ n =>
  show D.lst ((r.map rowD).map (dr hp n))=_;rw [zd8 (zs5 hp n)]
theorem AtP.dr {hp:HP}{a:Addr×Addr×Addr}{q:Pl}(h:AtP hp a q)(n:Nat):dr hp (n+3) (.adr a.1)=zbN q:=by
 rw [zcs _ h.pl];show D.lst [L2.DL.dr hp (n+1) (.str q.name),L2.DL.dr hp (n+1) (.adr a.2.1),L2.DL.dr hp (n+1) (.adr a.2.2)]=_;rw [zee,zcs _ h.gv,zcs _ h.rw_,zjQ,zoD];rfl
theorem AllP.dr {hp:HP}(n:Nat):∀ {as:List (Addr×Addr×Addr)} {ps:List Pl},AllP hp as ps->(as.map fun b=>D.adr b.1).map (dr hp (n+3))=ps.map zbN
 | [],ps,h=>by rw [show ps=[] from h];rfl
 |a::as,ps,h=>by
  obtain ⟨q,r,rfl,ha,h⟩:=h;rw [List.map_cons,List.map_cons,ha.dr,h.dr n];rfl
section
variable {hp hp':HP}{p l:Addr}{as:List (Addr×Addr×Addr)}{a:Addr×Addr×Addr}{ps:List Pl}{q:Pl}{ld:List Int}
theorem StB.dp (h:StB hp p l as a ps q ld):dr hp 5 (.adr p)=plsD (ps++[q]):=by
 rw [zcs _ h.hp_];show D.lst (((as++[a]).map fun b=>D.adr b.1).map (dr hp 3))=_;rw [AllP.dr 0 (h.all.snoc h.at_)];rfl
theorem StB.dl (h:StB hp p l as a ps q ld):dr hp 5 (.adr l)=ldD ld:=by rw [zcs _ h.hl,zpN];rfl
theorem StB.da (h:StB hp p l as a ps q ld):dr hp 5 (.adr a.1)=zbN q:=h.at_.dr 2
theorem StB.len (h:StB hp p l as a ps q ld):as.length=ps.length:=h.all.len.symm
theorem StB.ne (h:StB hp p l as a ps q ld):p≠l/\p≠a.1/\p≠a.2.1/\p≠a.2.2/\l≠a.1/\l≠a.2.1/\l≠a.2.2/\a.1≠a.2.1/\a.1≠a.2.2/\a.2.1≠a.2.2/\∀ b∈adrs as,b≠p/\b≠l/\b≠a.1/\b≠a.2.1/\b≠a.2.2:=by
 have nd:=h.nd;rw [zdB] at nd;have m1:a.1∈adrs as++adrs [a]:=List.mem_append_right _ (by simp [adrs]);have m2:a.2.1∈adrs as++adrs [a]:=List.mem_append_right _ (by simp [adrs]);have m3:a.2.2∈adrs as++adrs [a]:=List.mem_append_right _ (by simp [adrs]);obtain ⟨n1,nd⟩:=List.nodup_cons.mp nd;obtain ⟨n2,nd⟩:=List.nodup_cons.mp nd;obtain ⟨n3,n4,n5⟩:=List.nodup_append.mp nd;have n4 : [a.1,a.2.1,a.2.2].Nodup:=by simpa [adrs] using n4
 obtain ⟨k1,k2⟩:=List.nodup_cons.mp n4;obtain ⟨k3,_⟩:=List.nodup_cons.mp k2;refine ⟨fun z=>n1 (by rw [z];exact Zqs),fun z=>n1 (by rw [z];exact Zqm _ m1),fun z=>n1 (by rw [z];exact Zqm _ m2),fun z=>n1 (by rw [z];exact Zqm _ m3),
  fun z=>n2 (by rw [z];exact m1),fun z=>n2 (by rw [z];exact m2),fun z=>n2 (by rw [z];exact m3),fun z=>k1 (by rw [z];simp),fun z=>k1 (by rw [z];simp),fun z=>k3 (by rw [z];simp),fun b hb=>?_⟩
 refine ⟨fun z=>n1 (by rw [<- z];exact Zqm _ (List.mem_append_left _ hb)),fun z=>n2 (by rw [<- z];exact List.mem_append_left _ hb),n5 b hb _ (by simp [adrs]),n5 b hb _ (by simp [adrs]),n5 b hb _ (by simp [adrs])⟩
theorem StB.upd (h:StB hp p l as a ps q ld){gs:List Str}{rs:List (Str×Str×List (Int×Int))}{ld':List Int}(e:∀ b,b≠a.2.1->b≠a.2.2->b≠l->hpAt hp' b=hpAt hp b)
 (hg:hpAt hp' a.2.1=some (.lst (gs.map .str))) (hr:hpAt hp' a.2.2=some (.lst (rs.map rowD))) (hl:hpAt hp' l=some (.lst (ld'.map .int))):StB hp' p l as a ps ⟨q.name,gs,rs⟩ ld':=by
 obtain ⟨h1,h2,h3,h4,h5,h6,h7,h8,h9,h10,h11⟩:=h.ne;refine ⟨(e p h3 h4 h1).trans h.hp_,hl,h.all.mono fun b hb=>?_,⟨(e _ h8 h9 h5.symm).trans h.at_.pl,hg,hr⟩,h.nd⟩;obtain ⟨k1,k2,k3,k4,k5⟩:=h11 b hb;exact e b k4 k5 k2
theorem StB.load (h:StB hp p l as a ps q ld)(ld':List Int):StB (zax hp l (ldD ld')) p l as a ps q ld':=by
 have hn:hpAt hp l≠none:=by rw [h.hl];simp
 obtain ⟨h1,h2,h3,h4,h5,h6,h7,h8,h9,h10,h11⟩:=h.ne;have:=h.upd (hp':=zax hp l (ldD ld')) (gs:=q.givens) (rs:=q.rows) (ld':=ld') (fun b _ _ z=>zap hn z) ((zap hn h6.symm).trans h.at_.gv) ((zap hn h7.symm).trans h.at_.rw_) (zaR hn);exact this
theorem StB.given (h:StB hp p l as a ps q ld)(gs:List Str):StB (zax hp a.2.1 (.lst (gs.map .str))) p l as a ps ⟨q.name,gs,q.rows⟩ ld:=by
 have hn:hpAt hp a.2.1≠none:=by rw [h.at_.gv];simp
 obtain ⟨h1,h2,h3,h4,h5,h6,h7,h8,h9,h10,h11⟩:=h.ne;exact h.upd (fun b z _ _=>zap hn z) (zaR hn) ((zap hn h10.symm).trans h.at_.rw_) ((zap hn h6).trans h.hl)
theorem StB.rows (h:StB hp p l as a ps q ld)(rs:List (Str×Str×List (Int×Int))):StB (zax hp a.2.2 (.lst (rs.map rowD))) p l as a ps ⟨q.name,q.givens,rs⟩ ld:=by
 have hn:hpAt hp a.2.2≠none:=by rw [h.at_.rw_];simp
 obtain ⟨h1,h2,h3,h4,h5,h6,h7,h8,h9,h10,h11⟩:=h.ne;exact h.upd (fun b _ z _=>zap hn z) ((zap hn h10).trans h.at_.gv) (zaR hn) ((zap hn h7).trans h.hl)
theorem zcA {α : Type}(l:List α)(x:α):atI (l++[x]) (-1)=some x:=by
 unfold atI ixN;rw [if_neg (by omega),if_pos (by rw [List.length_append,List.length_singleton];omega)];show (l++[x])[((-1:Int)+((l++[x]).length:Int)).toNat]? = _;rw [List.length_append,List.length_singleton,show ((-1:Int)+((l.length+1:Nat):Int)).toNat=l.length by omega];simp
theorem zkn {α : Type}(l:List α)(x:α):ixN (l++[x]).length (-1)=some l.length:=by
 unfold ixN;rw [if_neg (by omega),if_pos (by rw [List.length_append,List.length_singleton];omega)];rw [List.length_append,List.length_singleton]
 congr 1
 omega
theorem zoG (n:Nat)(p:Int×Int):zc8 (n+1) (prD p)=true:=by
 show [D.int p.1,D.int p.2].all (zc8 n)=true;simp
theorem zpD (n:Nat)(r:List (Int×Int)):zc8 (n+2) (rwD r)=true:=by
 show (r.map prD).all (zc8 (n+1))=true;rw [List.all_map,List.all_eq_true];exact fun x _=>zoG n x
theorem zfg (n:Nat)(r:Str×Str×List (Int×Int)):zc8 (n+3) (rowD r)=true:=by
 show [D.str r.1,D.str r.2.1,rwD r.2.2].all (zc8 (n+2))=true;simp [zpD]
end
theorem zhc {n ar:Nat}{g:FVS}{ds:List D}{hp hp':HP}{d:D}(ha:ds.length=ar)(e:(g (zaS n ds) hp).bind outZ=.ok (d,hp'))(k:∀ a,hpAt hp a≠none->hpAt hp' a≠none):runV n ar g ds hp=.ok (d,hp'):=by
 unfold runV;rw [if_pos ha,e];show (if _ then _ else _)=_;rw [if_pos];refine List.all_eq_true.mpr fun z hz=>?_;have h1:hpAt hp z.1≠none:=by
  rw [Ne,zcp];exact fun w=>w (List.mem_map.mpr ⟨z,hz,rfl⟩)
 have:=k _ h1;show (hpAt hp' z.1).isSome=true;cases w:hpAt hp' z.1 with
 |none=>exact absurd w this
 |some d=>rfl
theorem zhT {tg:Tg}{b:FVS}{Q:Str->List D->Prop}(P:Nat->SD->HP->Prop):∀ {ds:List D} {sd:SD} {hp:HP} (j:Nat),P j sd hp->(∀ (i:Nat) (x:D) (sd:SD) (hp:HP),ds[i]? = some x->P (j+i) sd hp->(zda tg b x sd hp).need (fun o=>∃ sd' hp',o=.next sd' hp'/\P (j+i+1) sd' hp') Q) ->
 (forZ (zda tg b) ds sd hp).need (fun o=>∃ sd' hp',o=.next sd' hp'/\P (j+ds.length) sd' hp') Q
 | [],sd,hp,j,h0,_=>⟨sd,hp,rfl,h0⟩
 |x::xs,sd,hp,j,h0,hs=>by
  unfold forZ;refine Wr.need_bind.mpr ((hs 0 x sd hp rfl h0).mono (fun o ho=>?_) fun _ _ y=>y);obtain ⟨sd',hp',rfl,h1⟩:=ho;have:=zhT P (tg:=tg) (b:=b) (Q:=Q) (ds:=xs) (sd:=sd') (hp:=hp') (j+1) h1 fun i y sd2 hp2 hy h2=>by
   have:=hs (i+1) y sd2 hp2 hy (by rw [show j+(i+1)=j+1+i by omega];exact h2);rw [show j+(i+1)+1=j+1+i+1 by omega] at this;exact this
  rw [show j+1+xs.length=j+(x::xs).length by rw [List.length_cons];omega] at this;exact this
noncomputable def zde:FVS:=(zSeq (zFld "Book" "plans" (vL (dVar 0)) (zkY (vL (dVar 1)))) zcI)
noncomputable def zdJ:List D->HP->Wr (D×HP):=runV 2 2 zde
noncomputable def zjv:List D->Res (List D):=runI 2 2 (zab (dBlt zcT (zab (dVar 1) dNil)) dNil)
noncomputable def zcV:FVS:=(zSeq (zFld "Draft" "name" (vL (dVar 0)) (vL (dVar 1))) (zSeq (zFld "Draft" "givens" (vL (dVar 0)) (vLst vNil)) (zSeq (zFld "Draft" "rows" (vL (dVar 0)) (vLst vNil)) zcI)))
noncomputable def zff:List D->HP->Wr (D×HP):=runV 2 2 zcV
noncomputable def zcW:FVS:=(zSeq (zFld "Plan" "name" (vL (dVar 0)) (vL (dVar 1))) (zSeq (zFld "Plan" "givens" (vL (dVar 0)) (zkY (vL (dVar 2)))) (zSeq (zFld "Plan" "rows" (vL (dVar 0)) (zkY (vL (dVar 3)))) zcI)))
noncomputable def zeY:List D->HP->Wr (D×HP):=runV 4 4 zcW
noncomputable def zh0:List D->Res (List D):=runI 4 4 (zab (dVar 1) (zab (dBlt zcT (zab (dVar 2) dNil)) (zab (dBlt zcT (zab (dVar 3) dNil)) dNil)))
noncomputable def zlN:FS:=(sRet (zkz "Book" ["plans"] zjv (zab (zbX [none] (iS (dVar 0)) (.one 0) (zkz "Plan" ["name", "givens", "rows"] zh0 (zab (dOp gIx (dVar 0) (dC (.int 0))) (zab (dBlt zcT (zab (dOp gIx (dVar 0) (dC (.int 1))) dNil)) (zab (dBlt zcT (zab (dOp gIx (dVar 0) (dC (.int 2))) dNil)) dNil))))) dNil)))
noncomputable def zm8:List D->Res D:=runN 1 1 zlN
theorem f_z34 {ps:List Pl}(h:ps.length<=60):zm8 [plsD ps]=.ok (zaU ps):=by
 have key:mapE (.one 0) (zkz "Plan" ["name", "givens", "rows"] zh0 (zab (dOp gIx (dVar 0) (dC (.int 0))) (zab (dBlt zcT (zab (dOp gIx (dVar 0) (dC (.int 1))) dNil)) (zab (dBlt zcT (zab (dOp gIx (dVar 0) (dC (.int 2))) dNil)) dNil)))) [none] (ps.map zbN)=.ok (ps.map zaW):=zbq fun p hp=>by
  simp [zh0,runI,zaS,zaW]
 have hz:=zat (show ps.length<=1000 by omega);unfold plsD;simp [zm8,zlN,key,hz,zjv,runI,zaS,zaU]
noncomputable def zkW:FS:=(sSeq (sIf (zal (dOp gLt (dVar 1) (dBlt gLen (zab (dVar 0) dNil)))) (sRet (dOp gIx (dVar 0) (dVar 1))) zaP) (sRet (dC (.int 0))))
noncomputable def ze5:List D->Res D:=runD 2 2 zkW
theorem zph (ns:List Int)(k:Nat):ze5 [.scr ns,.int k]=.ok (.int (zcL ns k)):=by
 unfold zcL;rw [Int.toNat_natCast];by_cases h:k<ns.length
 ·have e:atI ns (k:Int)=some ns[k]:=by rw [zbG h];exact Zqg h
  have e2:ns.getD k 0=ns[k]:=by rw [List.getD_eq_getElem?_getD,Zqg h];rfl
  rw [e2];simp [ze5,zkW,h,e]
 ·have e2:ns.getD k 0=0:=by rw [List.getD_eq_getElem?_getD,List.getElem?_eq_none (by omega)];rfl
  rw [e2];simp [ze5,zkW,h]
noncomputable def zi5:FS:=(sSeq (sSet 1 (dOp gMod (dOp zd1 (dVar 0) (dC (.int 3))) (dOp gPow (dC (.int 10)) (dC (.int 30))))) (sSeq (sIf (zal (dOp gEq (dOp gMod (dVar 0) (dC (.int 3))) (dC (.int 0)))) (sRet (dC (.int 0))) zaP) (sSeq (sIf (zal (dOp gEq (dOp gMod (dVar 0) (dC (.int 3))) (dC (.int 1)))) (sRet (dVar 1)) zaP) (sRet (dOp gSub (dC (.int 0)) (dVar 1))))))
noncomputable def zil:List D->Res D:=runD 2 1 zi5
def numW (c:Int):Int:=if c % 3=0 then 0 else if c % 3=1 then c / 3 % 1000000000000000000000000000000 else 0-c / 3 % 1000000000000000000000000000000
theorem f_z29 (c:Int):zil [.int c]=.ok (.int (numW c)):=by
 have p:gPow (.int 10) (.int 30)=some (.int 1000000000000000000000000000000):=rfl;unfold numW;by_cases c1:c % 3=0
 ·simp [zil,zi5,c1,p]
 ·by_cases c2:c % 3=1
  ·simp [zil,zi5,c2,p]
  ·simp [zil,zi5,c1,c2,p]
theorem zfu (c:Int) : -1000000000000000000000000000000<numW c/\numW c<1000000000000000000000000000000:=by
 unfold numW
 split
 ·omega
 ·split<;>omega
noncomputable def zmi:FS:=(sRet (dTup (zab (dOp gMod (dVar 0) (dVar 1)) (zab (zav zil (zab (dOp zd1 (dVar 0) (dVar 1)) dNil)) dNil))))
noncomputable def zgp:List D->Res D:=runD 2 2 zmi
def zch (c a:Int):Int×Int:=(c % a,numW (c / a))
theorem zoT {c a:Int}(h0:0<a)(h1:a<1000000):zgp [.int c,.int a]=.ok (prD (zch c a)):=by
 have hn:=f_z29 (c / a);have g1:zd1 (.int c) (.int a)=some (.int (c / a)):=zlQ h0 (by omega);simp [zgp,zmi,h0,g1,hn];rfl
noncomputable def zg1:FVS:=(zSeq (zSet 5 (vIx (vL (dVar 0)) (vL (dUn gNeg (dC (.int 1)))))) (zSeq (zSet 6 (vRd 5 [5] (dOp gAdd (dBlt gLen (zab (dOp gIx (dVar 5) (dC (.int 1))) dNil)) (dBlt gLen (zab (dOp gIx (dVar 5) (dC (.int 2))) dNil))))) (zSeq (zSet 7 (vRd 5 [0] (dOp gIx (dVar 2) (dOp gMod (dOp gAdd (dBlt gLen (zab (dVar 0) dNil)) (dVar 6)) (dBlt gLen (zab (dVar 2) dNil)))))) (zSeq (zPut (vL (dVar 1)) (vL (dUn gNeg (dC (.int 1)))) (vRd 5 [1] (dOp gAdd (dOp gIx (dVar 1) (dUn gNeg (dC (.int 1)))) (dC (.int 1))))) (zSeq (zIf (vRdT 5 [0] (zbB (zal (dOp gEq (dOp gMod (dVar 3) (dC (.int 4))) (dC (.int 3)))) (zal (dOp gGt (dBlt gLen (zab (dVar 0) dNil)) (dC (.int 1)))))) (zSeq (zSet 8 (vRd 5 [0] (dOp gMod (dOp zd1 (dVar 3) (dC (.int 4))) (dOp gSub (dBlt gLen (zab (dVar 0) dNil)) (dC (.int 1)))))) (zIf (vRdT 5 [1] (zal (dOp gLe (dOp gAdd (dOp gIx (dVar 1) (dUn gNeg (dC (.int 1)))) (dOp gIx (dVar 1) (dVar 8))) (dC (.int 1900))))) (zSeq (zPut (vL (dVar 1)) (vL (dUn gNeg (dC (.int 1)))) (vRd 5 [1] (dOp gAdd (dOp gIx (dVar 1) (dUn gNeg (dC (.int 1)))) (dOp gIx (dVar 1) (dVar 8))))) (zSeq (zSet 9 (vRd 5 [0] (dBlt gLen (zab (dOp gIx (dOp gIx (dVar 0) (dVar 8)) (dC (.int 1))) dNil)))) (zRet (vRd 5 [0] (dTup (zab (dVar 7) (zab (dOp gIx (dOp gIx (dVar 0) (dVar 8)) (dC (.int 0))) (zab (dBlt zfQ (zab (zbX [none,some 4,some 6] (iR1 (zab (dVar 9) dNil)) (.one 0) (zav zgp (zab (dOp gAdd (dVar 1) (dOp gMul (dOp gMul (dC (.int 31)) (dVar 0)) (dVar 0))) (zab (dVar 2) dNil)))) dNil)) dNil)))))))) zcI)) zcI) (zRet (vL (dTup (zab (dVar 7) (zab (dOp gIx (dLst (zab (dC (.str "all")) (zab (dC (.str "first")) dNil))) (dOp gMod (dVar 3) (dC (.int 2)))) (zab (dTup (zab (zav zgp (zab (dVar 4) (zab (dVar 6) dNil))) dNil)) dNil)))))))))))
noncomputable def ziq:List D->HP->Wr (D×HP):=runV 10 5 zg1
def zay (q:Pl):Int:=(q.givens.length:Int)+(q.rows.length:Int)
def nmAt (ws:List Str)(k:Int):Str:=ws.getD (k % (ws.length:Int)).toNat Str.empty
def plAt (ps:List Pl)(k:Int):Pl:=ps.getD k.toNat ⟨Str.empty,[],[]⟩
def howF (what:Int):Str:=if what % 2=0 then "all" else "first"
def rowQ (ws:List Str)(ps:List Pl)(q:Pl)(ld:List Int)(x what cell:Int):(Str×Str×List (Int×Int))×Int :=
 if what % 4=3/\ps ≠ []/\x+1+nthI ld (what / 4 % (ps.length:Int))<=1900 then
  ((nmAt ws ((ps.length:Int)+1+zay q),(plAt ps (what / 4 % (ps.length:Int))).name,(List.range (plAt ps (what / 4 % (ps.length:Int))).givens.length).map fun j:Nat=>zch (cell+31*j*j) (zay q)),x+1+nthI ld (what / 4 % (ps.length:Int)))
 else ((nmAt ws ((ps.length:Int)+1+zay q),howF what,[zch cell (zay q)]),x+1)
theorem zjD {ws:List Str}(hw:0<ws.length)(k:Int):gIx (.lst (ws.map .str)) (.int (k % (ws.length:Int)))=some (.str (nmAt ws k)):=by
 have h0:0<=k % (ws.length:Int):=Int.emod_nonneg _ (by omega);have h1:k % (ws.length:Int)<(ws.length:Int):=Int.emod_lt_of_pos _ (by omega);obtain ⟨j,hj⟩:∃ j:Nat,k % (ws.length:Int)=j:=⟨(k % (ws.length:Int)).toNat,by omega⟩;show atI (ws.map D.str) (k % (ws.length:Int))=_;unfold nmAt;rw [hj,zbG (by rw [Zql];omega),Int.toNat_natCast,List.getElem?_map,List.getD_eq_getElem?_getD,Zqg (by omega)];rfl
theorem zqA {ps:List Pl}{k:Int}(h0:0<=k)(h1:k<(ps.length:Int))(q:Pl):atI ((ps++[q]).map zbN) k=some (zbN (plAt ps k)):=by
 obtain ⟨j,rfl⟩:∃ j:Nat,k=j:=⟨k.toNat,by omega⟩;unfold plAt;rw [zbG (by rw [Zql,List.length_append];omega),Int.toNat_natCast,List.getElem?_map,List.getElem?_append_left (by omega),List.getD_eq_getElem?_getD,Zqg (by omega)];rfl
theorem zrP {ld:List Int}{k:Int}(h0:0<=k)(h1:k<(ld.length:Int))(x:Int):atI ((ld++[x]).map D.int) k=some (.int (nthI ld k)):=by
 obtain ⟨j,rfl⟩:∃ j:Nat,k=j:=⟨k.toNat,by omega⟩;unfold nthI;rw [zbG (by rw [Zql,List.length_append];omega),Int.toNat_natCast,List.getElem?_map,List.getElem?_append_left (by omega),List.getD_eq_getElem?_getD,Zqg (by omega)];rfl
theorem f_z31 {hp:HP}{p l:Addr}{as:List (Addr×Addr×Addr)}{a:Addr×Addr×Addr}{ps:List Pl}{q:Pl}{ld:List Int}{x:Int}{ws:List Str}(h:StB hp p l as a ps q (ld++[x]))(hl:ld.length=ps.length)(hw:0<ws.length)(hq:0<zay q)(hq2:zay q<1000)(what cell:Int)
 (hs:∀ r∈ps,r.givens.length<=1000):∃ hp',(zg1 [some (.val (.adr p)),some (.val (.adr l)),some (.val (.lst (ws.map .str))),some (.val (.int what)),some (.val (.int cell)),none,none,none,none,none] hp).bind outZ=.ok (rowD (rowQ ws ps q ld x what cell).1,hp') /\
 (∀ b,b≠l->hpAt hp' b=hpAt hp b)/\StB hp' p l as a ps q (ld++[(rowQ ws ps q ld x what cell).2]):=by
 have e1:=h.dp;have e2:=h.da;have e3:=h.dl;have i1:vIxK (.adr p) (.int (-1),hp)=.ok (.adr a.1,hp):=by
  rw [zcJ (q:=(D.int (-1),hp)) h.hp_];show (Wr.of (.ofO (atI ((as++[a]).map fun b=>D.adr b.1) (-1)))).bind _=_;rw [List.map_append,List.map_singleton,zcA];rfl
 have g1:=zjD hw ((ps.length:Int)+1+zay q);have el:gLen [D.lst (ws.map D.str)]=some (.int (ws.length:Int)):=by show some (D.int ((ws.map D.str).length:Int))=_;rw [Zql]
 have ep:gLen [plsD (ps++[q])]=some (.int ((ps.length:Int)+1)):=by show some (D.int (((ps++[q]).map zbN).length:Int))=_;rw [Zql,List.length_append,List.length_singleton];simp
 have eg:gLen [D.lst (q.givens.map D.str)]=some (.int (q.givens.length:Int)):=by show some (D.int ((q.givens.map D.str).length:Int))=_;rw [Zql]
 have er:gLen [D.lst (q.rows.map rowD)]=some (.int (q.rows.length:Int)):=by show some (D.int ((q.rows.map rowD).length:Int))=_;rw [Zql]
 have ea:(q.givens.length:Int)+(q.rows.length:Int)=zay q:=rfl;have x1:gIx (ldD (ld++[x])) (.int (-1))=some (.int x):=by
  show atI ((ld++[x]).map D.int) (-1)=_;rw [List.map_append,List.map_singleton,zcA]
 have p1:∀ sd,zfW sd (.int (x+1)) l (.int (-1),hp)=.ok (.next sd (zax hp l (ldD (ld++[x+1])))):=fun sd=>by
  rw [zeR h.hl (j:=ld.length) (by rw [Zql];exact zkn ld x),List.map_append,List.map_singleton,<- List.length_map (f:=D.int) (as:=ld),zf4];unfold ldD;rw [List.map_append,List.map_singleton]
 have h1:=h.load (ld++[x+1]);have hn:hpAt hp l≠none:=by rw [h.hl];simp
 obtain ⟨hp1,hp1e⟩:∃ hp1,hp1=zax hp l (ldD (ld++[x+1])):=⟨_,rfl⟩;rw [<- hp1e] at h1;simp only [<- hp1e] at p1;have k1:∀ b,b≠l->hpAt hp1 b=hpAt hp b:=fun b hb=>by rw [hp1e];exact zap hn hb
 have f1:=h1.dp;have f3:=h1.dl;have fi:=zoT (c:=cell) hq (by omega);have hm2:gIx (.lst [D.str "all",D.str "first"]) (.int (what % 2))=some (.str (howF what)):=by
  unfold howF;have:what % 2=0\/what % 2=1:=by omega
  rcases this with z|z<;>rw [z]<;>rfl
 have small:(¬ (what % 4=3/\ps ≠ []/\x+1+nthI ld (what / 4 % (ps.length:Int))<=1900))->rowQ ws ps q ld x what cell=((nmAt ws ((ps.length:Int)+1+zay q),howF what,[zch cell (zay q)]),x+1):=fun z=>if_neg z;by_cases c1:what % 4=3
 ·by_cases c2:ps=[]
  ·have er:=small fun z=>z.2.1 c2;refine ⟨hp1,?_,k1,by rw [er];exact h1⟩;rw [er];have c3:¬ (1:Int)<(ps.length:Int)+1:=by rw [c2];decide
   simp [zg1,i1,e1,e2,e3,g1,el,ep,eg,er,ea,hw,x1,p1,f1,c1,c3,fi,hm2];rfl
  ·have c3:0<(ps.length:Int):=by have:=List.length_pos_iff.mpr c2;omega
   obtain ⟨t,ht⟩:∃ t,what / 4 % (ps.length:Int)=t:=⟨_,rfl⟩;have t0:0<=t:=by rw [<- ht];exact Int.emod_nonneg _ (by omega)
   have t1:t<(ps.length:Int):=by rw [<- ht];exact Int.emod_lt_of_pos _ c3
   have y1:gIx (ldD (ld++[x+1])) (.int (-1))=some (.int (x+1)):=by
    show atI ((ld++[x+1]).map D.int) (-1)=_;rw [List.map_append,List.map_singleton,zcA]
   have y2:gIx (ldD (ld++[x+1])) (.int t)=some (.int (nthI ld t)):=zrP t0 (by omega) (x+1);rw [ht] at small;by_cases c4:x+1+nthI ld t<=1900
   ·have er:rowQ ws ps q ld x what cell=((nmAt ws ((ps.length:Int)+1+zay q),(plAt ps t).name,(List.range (plAt ps t).givens.length).map fun j:Nat=>zch (cell+31*j*j) (zay q)),x+1+nthI ld t):=by
     unfold rowQ;rw [ht,if_pos ⟨c1,c2,c4⟩]
    have hn1:hpAt hp1 l≠none:=by rw [h1.hl];simp
    have h2:=h1.load (ld++[x+1+nthI ld t]);have p2:∀ sd,zfW sd (.int (x+1+nthI ld t)) l (.int (-1),hp1)=.ok (.next sd (zax hp1 l (ldD (ld++[x+1+nthI ld t])))):=fun sd=>by
     rw [zeR h1.hl (j:=ld.length) (by rw [Zql];exact zkn ld (x+1)),List.map_append,List.map_singleton,<- List.length_map (f:=D.int) (as:=ld),zf4];unfold ldD;rw [List.map_append,List.map_singleton]
    obtain ⟨hp2,hp2e⟩:∃ hp2,hp2=zax hp1 l (ldD (ld++[x+1+nthI ld t])):=⟨_,rfl⟩;rw [<- hp2e] at h2;simp only [<- hp2e] at p2;have k2:∀ b,b≠l->hpAt hp2 b=hpAt hp b:=fun b hb=>by rw [hp2e,zap hn1 hb];exact k1 b hb
    have w1:=h2.dp;have yp:gIx (plsD (ps++[q])) (.int t)=some (zbN (plAt ps t)):=zqA t0 t1 q;have hg:(plAt ps t).givens.length<=1000:=hs _ (by
     unfold plAt;rw [List.getD_eq_getElem?_getD,Zqg (by omega)];exact List.getElem_mem _)
    have yl:gLen [D.lst ((plAt ps t).givens.map D.str)]=some (.int ((plAt ps t).givens.length:Int)):=by show some (D.int (((plAt ps t).givens.map D.str).length:Int))=_;rw [Zql]
    have yr:zcQ [.int ((plAt ps t).givens.length:Int)]=.ok (zbd 0 (plAt ps t).givens.length):=by rw [zbU (by omega) (by omega),Int.toNat_natCast]
    refine ⟨hp2,?_,k2,by rw [er];exact h2⟩;rw [er];have c5:(1:Int)<(ps.length:Int)+1:=by omega
    have gm:gMod (.int (what / 4)) (.int (ps.length:Int))=some (.int t):=by rw [zjW c3,ht]
    have ym:mapE (.one 0) (zav zgp (zab (dOp gAdd (dVar 1) (dOp gMul (dOp gMul (dC (.int 31)) (dVar 0)) (dVar 0))) (zab (dVar 2) dNil))) [none,some (.val (.int cell)),some (.val (.int (zay q)))] (zbd 0 (plAt ps t).givens.length)=.ok ((List.range (plAt ps t).givens.length).map fun j:Nat=>prD (zch (cell+31*j*j) (zay q))):=zeQ fun j hj=>by
     have g31:gMul (.int 31) (.int (j:Int))=some (.int (31*j)):=zfs (zfq (by omega) (by omega));have g32:gMul (.int (31*(j:Int))) (.int (j:Int))=some (.int (31*j*j)):=zfs (zfq (by omega) (by omega));have fj:=zoT (c:=cell+31*j*j) hq (by omega);simp [g31,g32,fj]
    have yz:(zbd 0 (plAt ps t).givens.length).length<sizeLine:=by rw [zes];exact zat hg
    have ef:zc8 8 (.tup [.str (nmAt ws ((ps.length:Int)+1+zay q)),.str (plAt ps t).name,.tup ((List.range (plAt ps t).givens.length).map fun j:Nat=>prD (zch (cell+31*j*j) (zay q)))])=true:=by
     have:=zfg 5 (nmAt ws ((ps.length:Int)+1+zay q),(plAt ps t).name,(List.range (plAt ps t).givens.length).map fun j:Nat=>zch (cell+31*j*j) (zay q));unfold rowD rwD at this;rw [List.map_map] at this;exact this
    simp [zg1,i1,e1,e2,e3,g1,el,ep,eg,er,ea,hw,x1,p1,f1,f3,c1,c5,gm,y1,y2,c4,p2,w1,yp,yl,yr,ym,yz,ef];unfold rowD rwD;rw [List.map_map];rfl
   ·have er:=small fun z=>c4 z.2.2;refine ⟨hp1,?_,k1,by rw [er];exact h1⟩;rw [er];have c5:(1:Int)<(ps.length:Int)+1:=by omega
    have gm:gMod (.int (what / 4)) (.int (ps.length:Int))=some (.int t):=by rw [zjW c3,ht]
    simp [zg1,i1,e1,e2,e3,g1,el,ep,eg,er,ea,hw,x1,p1,f1,f3,c1,c5,gm,y1,y2,c4,fi,hm2];rfl
 ·have er:=small fun z=>c1 z.1;refine ⟨hp1,?_,k1,by rw [er];exact h1⟩;rw [er];simp [zg1,i1,e1,e2,e3,g1,el,ep,eg,er,ea,hw,x1,p1,f1,c1,fi,hm2];rfl
theorem zic {hp:HP}{p l:Addr}{as:List (Addr×Addr×Addr)}{a:Addr×Addr×Addr}{ps:List Pl}{q:Pl}{ld:List Int}{x:Int}{ws:List Str}(h:StB hp p l as a ps q (ld++[x]))(hl:ld.length=ps.length)(hw:0<ws.length)(hq:0<zay q)(hq2:zay q<1000)(what cell:Int)
 (hs:∀ r∈ps,r.givens.length<=1000):∃ hp',ziq [.adr p,.adr l,.lst (ws.map .str),.int what,.int cell] hp=.ok (rowD (rowQ ws ps q ld x what cell).1,hp') /\
 (∀ b,b≠l->hpAt hp' b=hpAt hp b)/\StB hp' p l as a ps q (ld++[(rowQ ws ps q ld x what cell).2]):=by
 obtain ⟨hp',e,k,h'⟩:=f_z31 h hl hw hq hq2 what cell hs;refine ⟨hp',zhc rfl e fun b hb=>?_,k,h'⟩;by_cases y:b=l
 ·rw [y,h'.hl];simp
 ·rw [k _ y];exact hb
noncomputable def ziy:FVS:=(zSeq (zSet 5 (vIx (vL (dVar 0)) (vL (dUn gNeg (dC (.int 1)))))) (zSeq (zL (sSet 6 (dOp gMod (dVar 3) (dC (.int 8))))) (zIf (vRdT 5 [5] (zbB (zal (dOp gEq (dVar 6) (dC (.int 0)))) (zal (dOp gNe (dOp gIx (dVar 5) (dC (.int 2))) (dLst dNil))))) (zSeq (zApp (vL (dVar 0)) (vLst (zaq (vRd 5 [0] (dOp gIx (dVar 2) (dBlt gLen (zab (dVar 0) dNil)))) (zaq (vLst (zaq (vRd 5 [0] (dOp gIx (dVar 2) (dOp gAdd (dBlt gLen (zab (dVar 0) dNil)) (dC (.int 1))))) vNil)) (zaq (vLst vNil) vNil))))) (zApp (vL (dVar 1)) (vL (dC (.int 0))))) (zIf (vRdT 5 [5] (zbB (zal (dOp gEq (dVar 6) (dC (.int 1)))) (zbB (zal (dOp gEq (dOp gIx (dVar 5) (dC (.int 2))) (dLst dNil))) (zal (dOp gLt (dBlt gLen (zab (dOp gIx (dVar 5) (dC (.int 1))) dNil)) (dC (.int 12))))))) (zApp (vIx (vL (dVar 5)) (vL (dC (.int 1)))) (vRd 5 [0,5] (dOp gIx (dVar 2) (dOp gMod (dOp gAdd (dBlt gLen (zab (dVar 0) dNil)) (dBlt gLen (zab (dOp gIx (dVar 5) (dC (.int 1))) dNil))) (dBlt gLen (zab (dVar 2) dNil)))))) (zIf (vRdT 5 [5] (zbB (zal (dOp gGt (dVar 6) (dC (.int 3)))) (zbB (zal (dOp gNe (dOp gIx (dVar 5) (dC (.int 2))) (dLst dNil))) (zal (dOp (gIn false) (dOp gIx (dOp gIx (dOp gIx (dVar 5) (dC (.int 2))) (dUn gNeg (dC (.int 1)))) (dC (.int 1))) (dTup (zab (dC (.str "all")) (zab (dC (.str "first")) dNil)))))))) (zSeq (zSet 7 (vRd 5 [5] (dOp gIx (dOp gIx (dVar 5) (dC (.int 2))) (dUn gNeg (dC (.int 1)))))) (zPut (vIx (vL (dVar 5)) (vL (dC (.int 2)))) (vL (dUn gNeg (dC (.int 1)))) (vRd 5 [5] (dTup (zab (dOp gIx (dVar 7) (dC (.int 0))) (zab (dOp gIx (dVar 7) (dC (.int 1))) (zab (dOp zm2 (dOp gIx (dVar 7) (dC (.int 2))) (dTup (zab (zav zgp (zab (dVar 4) (zab (dOp gSub (dOp gAdd (dBlt gLen (zab (dOp gIx (dVar 5) (dC (.int 1))) dNil)) (dBlt gLen (zab (dOp gIx (dVar 5) (dC (.int 2))) dNil))) (dC (.int 1))) dNil))) dNil))) dNil))))))) (zApp (vIx (vL (dVar 5)) (vL (dC (.int 2)))) (zcq ziq (zaq (vL (dVar 0)) (zaq (vL (dVar 1)) (zaq (vL (dVar 2)) (zaq (vL (dOp zd1 (dVar 3) (dC (.int 8)))) (zaq (vL (dVar 4)) vNil))))))))))))
noncomputable def zl3:List D->HP->Wr (D×HP):=runV 8 5 ziy
structure Bst where
 ps:List Pl
 q:Pl
 ld:List Int
 x:Int
def zcG (h:Str):Bool:=decide (h = "all")||decide (h = "first")
def zaK (rs:List (Str×Str×List (Int×Int))):Str×Str×List (Int×Int):=rs.getLast?.getD (Str.empty,Str.empty,[])
def ze6 (ws:List Str)(s:Bst)(what cell:Int):Bst :=
 if what % 8=0/\s.q.rows ≠ [] then ⟨s.ps++[s.q],⟨nmAt ws ((s.ps.length:Int)+1),[nmAt ws ((s.ps.length:Int)+1+1)],[]⟩,s.ld++[s.x],0⟩
 else if what % 8=1/\s.q.rows=[]/\s.q.givens.length<12 then ⟨s.ps,⟨s.q.name,s.q.givens++[nmAt ws ((s.ps.length:Int)+1+(s.q.givens.length:Int))],s.q.rows⟩,s.ld,s.x⟩
 else if 3<what % 8/\s.q.rows ≠ []/\zcG (zaK s.q.rows).2.1=true then ⟨s.ps,⟨s.q.name,s.q.givens,s.q.rows.dropLast++[((zaK s.q.rows).1,(zaK s.q.rows).2.1,(zaK s.q.rows).2.2++[zch cell (zay s.q-1)])]⟩,s.ld,s.x⟩
 else ⟨s.ps,⟨s.q.name,s.q.givens,s.q.rows++[(rowQ ws s.ps s.q s.ld s.x (what / 8) cell).1]⟩,s.ld,(rowQ ws s.ps s.q s.ld s.x (what / 8) cell).2⟩
structure Bsz (s:Bst):Prop where
 ll:s.ld.length=s.ps.length
 g1:1<=s.q.givens.length
 ga:∀ r∈s.ps++[s.q],r.givens.length<=12
 ra:s.q.rows.length<=100
 ta:∀ z∈s.q.rows,asc z.1/\asc z.2.1/\1<=z.2.2.length/\z.2.2.length<=100
 na:s.ps.length<=100
noncomputable def gr1:FVS:=(zSeq (zApp (vL (dVar 0)) (vLst (zaq (vRd 5 [0] (dOp gIx (dVar 2) (dBlt gLen (zab (dVar 0) dNil)))) (zaq (vLst (zaq (vRd 5 [0] (dOp gIx (dVar 2) (dOp gAdd (dBlt gLen (zab (dVar 0) dNil)) (dC (.int 1))))) vNil)) (zaq (vLst vNil) vNil))))) (zApp (vL (dVar 1)) (vL (dC (.int 0)))))
noncomputable def gr2:FVS:=(zApp (vIx (vL (dVar 5)) (vL (dC (.int 1)))) (vRd 5 [0,5] (dOp gIx (dVar 2) (dOp gMod (dOp gAdd (dBlt gLen (zab (dVar 0) dNil)) (dBlt gLen (zab (dOp gIx (dVar 5) (dC (.int 1))) dNil))) (dBlt gLen (zab (dVar 2) dNil))))))
noncomputable def gr3:FVS:=(zSeq (zSet 7 (vRd 5 [5] (dOp gIx (dOp gIx (dVar 5) (dC (.int 2))) (dUn gNeg (dC (.int 1)))))) (zPut (vIx (vL (dVar 5)) (vL (dC (.int 2)))) (vL (dUn gNeg (dC (.int 1)))) (vRd 5 [5] (dTup (zab (dOp gIx (dVar 7) (dC (.int 0))) (zab (dOp gIx (dVar 7) (dC (.int 1))) (zab (dOp zm2 (dOp gIx (dVar 7) (dC (.int 2))) (dTup (zab (zav zgp (zab (dVar 4) (zab (dOp gSub (dOp gAdd (dBlt gLen (zab (dOp gIx (dVar 5) (dC (.int 1))) dNil)) (dBlt gLen (zab (dOp gIx (dVar 5) (dC (.int 2))) dNil))) (dC (.int 1))) dNil))) dNil))) dNil)))))))
noncomputable def gr4:FVS:=(zApp (vIx (vL (dVar 5)) (vL (dC (.int 2)))) (zcq ziq (zaq (vL (dVar 0)) (zaq (vL (dVar 1)) (zaq (vL (dVar 2)) (zaq (vL (dOp zd1 (dVar 3) (dC (.int 8)))) (zaq (vL (dVar 4)) vNil)))))))
theorem gr_eq:ziy=(zSeq (zSet 5 (vIx (vL (dVar 0)) (vL (dUn gNeg (dC (.int 1)))))) (zSeq (zL (sSet 6 (dOp gMod (dVar 3) (dC (.int 8))))) (zIf (vRdT 5 [5] (zbB (zal (dOp gEq (dVar 6) (dC (.int 0)))) (zal (dOp gNe (dOp gIx (dVar 5) (dC (.int 2))) (dLst dNil))))) gr1 (zIf (vRdT 5 [5] (zbB (zal (dOp gEq (dVar 6) (dC (.int 1)))) (zbB (zal (dOp gEq (dOp gIx (dVar 5) (dC (.int 2))) (dLst dNil))) (zal (dOp gLt (dBlt gLen (zab (dOp gIx (dVar 5) (dC (.int 1))) dNil)) (dC (.int 12))))))) gr2 (zIf (vRdT 5 [5] (zbB (zal (dOp gGt (dVar 6) (dC (.int 3)))) (zbB (zal (dOp gNe (dOp gIx (dVar 5) (dC (.int 2))) (dLst dNil))) (zal (dOp (gIn false) (dOp gIx (dOp gIx (dOp gIx (dVar 5) (dC (.int 2))) (dUn gNeg (dC (.int 1)))) (dC (.int 1))) (dTup (zab (dC (.str "all")) (zab (dC (.str "first")) dNil)))))))) gr3 gr4))))):=rfl
theorem zhr {rs:List (Str×Str×List (Int×Int))}(h:∀ z∈rs,asc z.1/\asc z.2.1):plN 12 (.lst (rs.map rowD))=true:=by
 show (rs.map rowD).all (plN 11)=true;rw [List.all_eq_true];intro d hd;obtain ⟨z,hz,rfl⟩:=List.mem_map.mp hd;show [D.str z.1,D.str z.2.1,rwD z.2.2].all (plN 10)=true;rw [List.all_cons,List.all_cons,zca (h z hz).1,zca (h z hz).2,List.all_cons,pl_rw 7];rfl
theorem zd9 {rs:List (Str×Str×List (Int×Int))}(h:rs ≠ []):rs=rs.dropLast++[zaK rs]:=by
 unfold zaK;rw [List.getLast?_eq_getLast h];exact (List.dropLast_concat_getLast h).symm
section
variable {hp:HP}{p l:Addr}{as:List (Addr×Addr×Addr)}{a:Addr×Addr×Addr}{s:Bst}{ws:List Str}
abbrev grS (p l:Addr)(ws:List Str)(what cell:Int)(a:Addr):SD:=[some (.val (.adr p)),some (.val (.adr l)),some (.val (.lst (ws.map .str))),some (.val (.int what)),some (.val (.int cell)),some (.val (.adr a)),some (.val (.int (what % 8))),none]
theorem zmK (h:StB hp p l as a s.ps s.q (s.ld++[s.x]))(z:Bsz s)(what cell:Int):ziy [some (.val (.adr p)),some (.val (.adr l)),some (.val (.lst (ws.map .str))),some (.val (.int what)),some (.val (.int cell)),none,none,none] hp =
 if what % 8=0/\s.q.rows ≠ [] then gr1 (grS p l ws what cell a.1) hp else if what % 8=1/\s.q.rows=[]/\s.q.givens.length<12 then gr2 (grS p l ws what cell a.1) hp else if 3<what % 8/\s.q.rows ≠ []/\zcG (zaK s.q.rows).2.1=true then gr3 (grS p l ws what cell a.1) hp else gr4 (grS p l ws what cell a.1) hp:=by
 have i1:vIxK (.adr p) (.int (-1),hp)=.ok (.adr a.1,hp):=by
  rw [zcJ (q:=(D.int (-1),hp)) h.hp_];show (Wr.of (.ofO (atI ((as++[a]).map fun b=>D.adr b.1) (-1)))).bind _=_;rw [List.map_append,List.map_singleton,zcA];rfl
 have e2:=h.da;have pw:=zhr fun y hy=>⟨(z.ta y hy).1,(z.ta y hy).2.1⟩;have n1:=zpm pw;have n2:=zlj pw;have eg:gLen [D.lst (s.q.givens.map D.str)]=some (.int (s.q.givens.length:Int)):=by show some (D.int ((s.q.givens.map D.str).length:Int))=_;rw [Zql]
 have gl:((s.q.givens.length:Int)<12)↔s.q.givens.length<12:=by omega
 rw [gr_eq];by_cases hr:s.q.rows=[]
 ·rw [hr] at n1 n2;simp at n1 n2;by_cases c1:what % 8=1
  ·by_cases c2:s.q.givens.length<12
   ·simp [grS,i1,e2,hr,n1,n2,eg,c1,gl,c2]
   ·simp [grS,i1,e2,hr,n1,n2,eg,c1,gl,c2]
  ·by_cases c3:3<what % 8
   ·simp [grS,i1,e2,hr,n1,n2,eg,c1,c3]
   ·simp [grS,i1,e2,hr,n1,n2,eg,c1,c3]
 ·have hl:=zd9 hr;have hm:zaK s.q.rows∈s.q.rows:=by
   have:=List.mem_append_right s.q.rows.dropLast (List.mem_singleton.mpr (rfl:zaK s.q.rows=zaK s.q.rows));rw [<- hl] at this;exact this
  have hd:asc (zaK s.q.rows).2.1:=(z.ta _ hm).2.1;have x1:gIx (.lst (s.q.rows.map rowD)) (.int (-1))=some (rowD (zaK s.q.rows)):=by
   show atI (s.q.rows.map rowD) (-1)=_;have:s.q.rows.map rowD=s.q.rows.dropLast.map rowD++[rowD (zaK s.q.rows)]:=by
    conv=>lhs;rw [hl]
    simp
   rw [this,zcA]
  have x2:gIn false (.str (zaK s.q.rows).2.1) (.tup [D.str "all",D.str "first"])=some (.bl (zcG (zaK s.q.rows).2.1)):=by
   have:=zdT (neg:=false) (x:=(zaK s.q.rows).2.1) (xs:=["all", "first"]) hd (by
    intro y hy;have:y = "all" \/ y = "first" := by simpa using hy
    rcases this with rfl|rfl<;>unfold asc<;>decide +kernel)
   rw [show D.tup (List.map D.str ["all", "first"])=D.tup [D.str "all",D.str "first"] from rfl] at this;rw [this];unfold zcG;simp
  have hb:s.q.rows.isEmpty=false:=by cases e:s.q.rows with|nil=>exact absurd e hr|cons _ _=>rfl
  rw [hb] at n1 n2;by_cases c0:what % 8=0
  ·simp [grS,i1,e2,hr,n1,n2,eg,c0]
  ·by_cases c1:what % 8=1
   ·simp [grS,i1,e2,hr,n1,n2,eg,c1]
   ·by_cases c3:3<what % 8
    ·cases c4:zcG (zaK s.q.rows).2.1
     ·simp [grS,i1,e2,hr,n1,n2,eg,c0,c1,c3,x1,x2,c4]
     ·simp [grS,i1,e2,hr,n1,n2,eg,c0,c1,c3,x1,x2,c4]
    ·simp [grS,i1,e2,hr,n1,n2,eg,c0,c1,c3]
theorem zlZ (h:StB hp p l as a s.ps s.q (s.ld++[s.x])):vIxK (.adr a.1) (.int 1,hp)=.ok (.adr a.2.1,hp)/\vIxK (.adr a.1) (.int 2,hp)=.ok (.adr a.2.2,hp):=by
 constructor<;>rw [zcJ (es:=[.str s.q.name,.adr a.2.1,.adr a.2.2]) h.at_.pl]<;>rfl
theorem zsv (h:StB hp p l as a s.ps s.q (s.ld++[s.x]))(z:Bsz s)(hw:0<ws.length)(what cell:Int):gr2 (grS p l ws what cell a.1) hp=.ok (.next (grS p l ws what cell a.1) (zax hp a.2.1 (.lst ((s.q.givens++[nmAt ws ((s.ps.length:Int)+1+(s.q.givens.length:Int))]).map .str)))):=by
 have e1:=h.dp;have e2:=h.da;have ix:=(zlZ h).1;have g1:=zjD hw ((s.ps.length:Int)+1+(s.q.givens.length:Int));have el:gLen [D.lst (ws.map D.str)]=some (.int (ws.length:Int)):=by show some (D.int ((ws.map D.str).length:Int))=_;rw [Zql]
 have ep:gLen [plsD (s.ps++[s.q])]=some (.int ((s.ps.length:Int)+1)):=by show some (D.int (((s.ps++[s.q]).map zbN).length:Int))=_;rw [Zql,List.length_append,List.length_singleton];simp
 have eg:gLen [D.lst (s.q.givens.map D.str)]=some (.int (s.q.givens.length:Int)):=by show some (D.int ((s.q.givens.map D.str).length:Int))=_;rw [Zql]
 have hz:(s.q.givens.map D.str).length<sizeLine:=by rw [Zql];exact zat (by have:=z.ga s.q (by simp);omega)
 unfold gr2;simp [grS,ix,zb9 h.at_.gv,e1,e2,g1,el,ep,eg,hw,zb8 h.at_.gv hz]
theorem zs0 (h:StB hp p l as a s.ps s.q (s.ld++[s.x]))(z:Bsz s)(what cell:Int)(hr:s.q.rows ≠ []):∃ sd,gr3 (grS p l ws what cell a.1) hp=.ok (.next sd (zax hp a.2.2 (.lst ((s.q.rows.dropLast++[((zaK s.q.rows).1,(zaK s.q.rows).2.1,(zaK s.q.rows).2.2++[zch cell (zay s.q-1)])]).map rowD)))):=by
 have e2:=h.da;have ix:=(zlZ h).2;have hl:=zd9 hr;have hm:zaK s.q.rows∈s.q.rows:=by
  have:=List.mem_append_right s.q.rows.dropLast (List.mem_singleton.mpr (rfl:zaK s.q.rows=zaK s.q.rows));rw [<- hl] at this;exact this
 obtain ⟨_,_,z3,z4⟩:=z.ta _ hm;have hml:s.q.rows.map rowD=s.q.rows.dropLast.map rowD++[rowD (zaK s.q.rows)]:=by
  conv=>lhs;rw [hl]
  simp
 have x1:gIx (.lst (s.q.rows.map rowD)) (.int (-1))=some (rowD (zaK s.q.rows)):=by
  show atI (s.q.rows.map rowD) (-1)=_;rw [hml,zcA]
 have eg:gLen [D.lst (s.q.givens.map D.str)]=some (.int (s.q.givens.length:Int)):=by show some (D.int ((s.q.givens.map D.str).length:Int))=_;rw [Zql]
 have er:gLen [D.lst (s.q.rows.map rowD)]=some (.int (s.q.rows.length:Int)):=by show some (D.int ((s.q.rows.map rowD).length:Int))=_;rw [Zql]
 have ea:(s.q.givens.length:Int)+(s.q.rows.length:Int)=zay s.q:=rfl;have z1:=z.g1;have z5:=z.ga s.q (by simp);have z6:=z.ra;have fi:=zoT (c:=cell) (a:=zay s.q-1) (by unfold zay;have:=List.length_pos_iff.mpr hr;omega) (by unfold zay;omega);have ad:zm2 (rwD (zaK s.q.rows).2.2) (.tup [prD (zch cell (zay s.q-1))])=some (rwD ((zaK s.q.rows).2.2++[zch cell (zay s.q-1)])):=by
  show (if ((zaK s.q.rows).2.2.map prD).length+1<=sizeLine then some (D.tup ((zaK s.q.rows).2.2.map prD++[prD (zch cell (zay s.q-1))])) else none)=_;rw [if_pos (small (by rw [Zql];omega))];unfold rwD;rw [List.map_append,List.map_singleton]
 have ef:=zfg 5 ((zaK s.q.rows).1,(zaK s.q.rows).2.1,(zaK s.q.rows).2.2++[zch cell (zay s.q-1)]);have ef':zc8 8 (.tup [.str (zaK s.q.rows).1,.str (zaK s.q.rows).2.1,rwD ((zaK s.q.rows).2.2++[zch cell (zay s.q-1)])])=true:=ef;have eq:∀ sd d,zfW sd d a.2.2 (.int (-1),hp)=.ok (.next sd (zax hp a.2.2 (.lst (s.q.rows.dropLast.map rowD++[d])))):=fun sd d=>by
  rw [zeR h.at_.rw_ (j:=s.q.rows.dropLast.length) (by rw [hml,<- List.length_map (f:=rowD) (as:=s.q.rows.dropLast)];exact zkn _ _),hml,<- List.length_map (f:=rowD) (as:=s.q.rows.dropLast),zf4]
 have fr:=zfg 5 (zaK s.q.rows);refine ⟨[some (.val (.adr p)),some (.val (.adr l)),some (.val (.lst (ws.map .str))),some (.val (.int what)),some (.val (.int cell)),some (.val (.adr a.1)),some (.val (.int (what % 8))),some (.val (rowD (zaK s.q.rows)))],?_⟩;unfold gr3;simp [grS,ix,e2,x1,eg,er,ea,fi,ad,ef',fr,eq];rfl
theorem zqv (h:StB hp p l as a s.ps s.q (s.ld++[s.x]))(z:Bsz s)(hw:0<ws.length)(what cell:Int):∃ hp',gr4 (grS p l ws what cell a.1) hp=.ok (.next (grS p l ws what cell a.1) hp')/\(∀ b,hpAt hp b≠none->hpAt hp' b≠none) /\
 StB hp' p l as a s.ps ⟨s.q.name,s.q.givens,s.q.rows++[(rowQ ws s.ps s.q s.ld s.x (what / 8) cell).1]⟩ (s.ld++[(rowQ ws s.ps s.q s.ld s.x (what / 8) cell).2]):=by
 have ix:=(zlZ h).2;have z1:=z.g1;have z5:=z.ga s.q (by simp);have z6:=z.ra;obtain ⟨hp',e,k,h'⟩:=zic h z.ll hw (by unfold zay;omega) (by unfold zay;omega) (what / 8) cell fun r hr=>by have:=z.ga r (by simp [hr]);omega
 have hz:(s.q.rows.map rowD).length<sizeLine:=by rw [Zql];exact zat (by omega)
 have hk:=h'.rows (s.q.rows++[(rowQ ws s.ps s.q s.ld s.x (what / 8) cell).1]);refine ⟨zax hp' a.2.2 (.lst ((s.q.rows++[(rowQ ws s.ps s.q s.ld s.x (what / 8) cell).1]).map rowD)),?_,fun b hb=>zbV ?_,hk⟩
 ·unfold gr4;simp [grS,ix,zb9 h.at_.rw_,e,zb8 h'.at_.rw_ hz]
 ·by_cases y:b=l
  ·rw [y,h'.hl];simp
  ·rw [k _ y];exact hb
theorem zfa {k:Nat}(hk:k<ws.length):gIx (.lst (ws.map .str)) (.int (k:Int))=some (.str (nmAt ws (k:Int))):=by
 have:=zjD (ws:=ws) (by omega) (k:Int);rw [Int.emod_eq_of_lt (by omega) (by omega)] at this;exact this
theorem zse (h:StB hp p l as a s.ps s.q (s.ld++[s.x]))(z:Bsz s)(hw:s.ps.length+2<ws.length)(what cell:Int):(gr1 (grS p l ws what cell a.1) hp).need (fun o=>∃ sd hp' as' a',o=.next sd hp'/\(∀ b,hpAt hp b≠none->hpAt hp' b≠none) /\
 StB hp' p l as' a' (s.ps++[s.q]) ⟨nmAt ws ((s.ps.length:Int)+1),[nmAt ws ((s.ps.length:Int)+1+1)],[]⟩ ((s.ld++[s.x])++[0])) fun _ _=>False:=by
 have e1:=h.dp;have ep:gLen [plsD (s.ps++[s.q])]=some (.int ((s.ps.length:Int)+1)):=by show some (D.int (((s.ps++[s.q]).map zbN).length:Int))=_;rw [Zql,List.length_append,List.length_singleton];simp
 have g1:=zfa (ws:=ws) (k:=s.ps.length+1) (by omega);have g2:=zfa (ws:=ws) (k:=s.ps.length+1+1) (by omega);rw [show ((s.ps.length+1:Nat):Int)=(s.ps.length:Int)+1 by omega] at g1;rw [show ((s.ps.length+1+1:Nat):Int)=(s.ps.length:Int)+1+1 by omega] at g2;obtain ⟨n1,n2,n3,n4,n5,n6,n7,n8,n9,n10,n11⟩:=h.ne;have hap:(vLst (zaq (vRd 5 [0] (dOp gIx (dVar 2) (dBlt gLen (zab (dVar 0) dNil)))) (zaq (vLst (zaq (vRd 5 [0] (dOp gIx (dVar 2) (dOp gAdd (dBlt gLen (zab (dVar 0) dNil)) (dC (.int 1))))) vNil)) (zaq (vLst vNil) vNil)))) (grS p l ws what cell a.1) hp =
  .new hp fun g=>.new ((g,.lst [.str (nmAt ws ((s.ps.length:Int)+1+1))])::hp) fun r=>.new ((r,.lst [])::(g,.lst [.str (nmAt ws ((s.ps.length:Int)+1+1))])::hp) fun b=>.ok (.adr b,(b,.lst [.str (nmAt ws ((s.ps.length:Int)+1)),.adr g,.adr r])::(r,.lst [])::(g,.lst [.str (nmAt ws ((s.ps.length:Int)+1+1))])::hp):=by
  simp [grS,e1,ep,g1,g2]
 unfold gr1;rw [zj8];refine Wr.need_bind.mpr ?_;have e0:zApp (vL (dVar 0)) (vLst (zaq (vRd 5 [0] (dOp gIx (dVar 2) (dBlt gLen (zab (dVar 0) dNil)))) (zaq (vLst (zaq (vRd 5 [0] (dOp gIx (dVar 2) (dOp gAdd (dBlt gLen (zab (dVar 0) dNil)) (dC (.int 1))))) vNil)) (zaq (vLst vNil) vNil)))) (grS p l ws what cell a.1) hp =
  ((vLst (zaq (vRd 5 [0] (dOp gIx (dVar 2) (dBlt gLen (zab (dVar 0) dNil)))) (zaq (vLst (zaq (vRd 5 [0] (dOp gIx (dVar 2) (dOp gAdd (dBlt gLen (zab (dVar 0) dNil)) (dC (.int 1))))) vNil)) (zaq (vLst vNil) vNil)))) (grS p l ws what cell a.1) hp).bind (zfo (grS p l ws what cell a.1) p):=by
  show zhp _ (grS p l ws what cell a.1) (.adr p,hp)=_;rw [zb9 h.hp_]
 rw [e0,hap];intro g hg r hr b hb;rw [zaf] at hr;have rg:r≠g:=fun y=>by rw [if_pos y] at hr;cases hr
 rw [if_neg rg] at hr;rw [zaf] at hb;have br:b≠r:=fun y=>by rw [if_pos y] at hb;cases hb
 rw [if_neg br,zaf] at hb;have bg:b≠g:=fun y=>by rw [if_pos y] at hb;cases hb
 rw [if_neg bg] at hb;obtain ⟨h3,h3e⟩:∃ h3:HP,h3=(b,.lst [.str (nmAt ws ((s.ps.length:Int)+1)),.adr g,.adr r])::(r,.lst [])::(g,.lst [.str (nmAt ws ((s.ps.length:Int)+1+1))])::hp:=⟨_,rfl⟩;have old:∀ c,hpAt hp c≠none->hpAt h3 c=hpAt hp c/\c≠b/\c≠r/\c≠g:=fun c hc=>by
  have c1:c≠b:=fun y=>hc (by rw [y];exact hb);have c2:c≠r:=fun y=>hc (by rw [y];exact hr);have c3:c≠g:=fun y=>hc (by rw [y];exact hg);refine ⟨?_,c1,c2,c3⟩;rw [h3e,zaf,if_neg c1,zaf,if_neg c2,zaf,if_neg c3]
 have hb3:hpAt h3 b=some (.lst [.str (nmAt ws ((s.ps.length:Int)+1)),.adr g,.adr r]):=by rw [h3e,zaf,if_pos rfl]
 have hr3:hpAt h3 r=some (.lst []):=by rw [h3e,zaf,if_neg br.symm,zaf,if_pos rfl]
 have hg3:hpAt h3 g=some (.lst [.str (nmAt ws ((s.ps.length:Int)+1+1))]):=by rw [h3e,zaf,if_neg bg.symm,zaf,if_neg rg.symm,zaf,if_pos rfl]
 obtain ⟨op,pb,pr,pg⟩:=old p (by rw [h.hp_];simp);obtain ⟨ol,lb,lr,lg⟩:=old l (by rw [h.hl];simp);rw [h.hp_] at op;rw [h.hl] at ol;have la:=h.len;have zn:=z.na;show (zfo (grS p l ws what cell a.1) p (.adr b,_)).need _ _;rw [<- h3e,zb8 op (by rw [Zql,List.length_append,List.length_singleton];exact zat (by omega))];show (zApp (vL (dVar 1)) (vL (dC (.int 0))) (grS p l ws what cell a.1) _).need _ _;obtain ⟨h4,h4e⟩:∃ h4,h4=zax h3 p (.lst ((as++[a]).map (fun b=>D.adr b.1)++[.adr b])):=⟨_,rfl⟩;rw [<- h4e];have pn:hpAt h3 p≠none:=by rw [op];simp
 have ne4:∀ c,c≠p->hpAt h4 c=hpAt h3 c:=fun c hc=>by rw [h4e];exact zap pn hc
 have ol4:hpAt h4 l=some (.lst ((s.ld++[s.x]).map .int)):=(ne4 l n1.symm).trans ol;have hzl:((s.ld++[s.x]).map D.int).length<sizeLine:=by rw [Zql,List.length_append,List.length_singleton];exact zat (by have:=z.ll;omega)
 have e5:zApp (vL (dVar 1)) (vL (dC (.int 0))) (grS p l ws what cell a.1) h4=.ok (.next (grS p l ws what cell a.1) (zax h4 l (.lst ((s.ld++[s.x]).map D.int++[.int 0])))):=by
  show zhp _ (grS p l ws what cell a.1) (.adr l,h4)=_;rw [zb9 ol4];show zfo _ _ (.int 0,h4)=_;rw [zb8 ol4 hzl]
 rw [e5];have ln:hpAt h4 l≠none:=by rw [ol4];simp
 have fin:∀ c,c≠p->c≠l->hpAt (zax h4 l (.lst ((s.ld++[s.x]).map D.int++[.int 0]))) c=hpAt h3 c:=fun c c1 c2=>by rw [zap ln c2,ne4 c c1]
 refine ⟨_,_,as++[a],(b,g,r),rfl,fun c hc=>zbV (by rw [h4e];exact zbV (by rw [(old c hc).1];exact hc)),?_⟩;refine ⟨?_,?_,(h.all.mono fun c hc=>?_).snoc (h.at_.mono fun c hc=>?_),⟨?_,?_,?_⟩,?_⟩
 ·rw [zap ln n1,h4e,zaR pn];simp
 ·rw [zaR ln];simp
 ·obtain ⟨k1,k2,_⟩:=n11 c hc;exact (fin c k1 k2).trans (old c (h.all.has c hc)).1
 ·have hh:=h.at_.has c hc;have:c=a.1\/c=a.2.1\/c=a.2.2:=by simpa using hc
  refine (fin c ?_ ?_).trans (old c hh).1
  ·rcases this with rfl|rfl|rfl
   ·exact n2.symm
   ·exact n3.symm
   ·exact n4.symm
  ·rcases this with rfl|rfl|rfl
   ·exact n5.symm
   ·exact n6.symm
   ·exact n7.symm
 ·exact (fin b pb.symm lb.symm).trans hb3
 ·exact (fin g pg.symm lg.symm).trans hg3
 ·exact (fin r pr.symm lr.symm).trans hr3
 ·have nd:=h.nd;have has:∀ c∈p::l::adrs (as++[a]),hpAt hp c≠none:=fun c hc=>by
   rcases List.mem_cons.mp hc with rfl|hc
   ·rw [h.hp_];simp
   ·rcases List.mem_cons.mp hc with rfl|hc
    ·rw [h.hl];simp
    ·exact (h.all.snoc h.at_).has c hc
  rw [zdB];show ((p::l::adrs (as++[a]))++[b,g,r]).Nodup;refine List.nodup_append.mpr ⟨nd,?_,fun c hc d hd y=>?_⟩
  ·simp [bg,br,rg.symm]
  ·have oc:=old c (has c hc);have:d=b\/d=g\/d=r:=by simpa using hd
   rcases this with rfl|rfl|rfl
   ·exact oc.2.1 y
   ·exact oc.2.2.2 y
   ·exact oc.2.2.1 y
theorem zrc (h:StB hp p l as a s.ps s.q (s.ld++[s.x]))(z:Bsz s)(hw:s.ps.length+2<ws.length)(what cell:Int):(zl3 [.adr p,.adr l,.lst (ws.map .str),.int what,.int cell] hp).need (fun r=>∃ as' a',StB r.2 p l as' a' (ze6 ws s what cell).ps (ze6 ws s what cell).q ((ze6 ws s what cell).ld++[(ze6 ws s what cell).x])) fun _ _=>False:=by
 refine zc0 rfl ?_;show (Wr.bind (ziy [some (.val (.adr p)),some (.val (.adr l)),some (.val (.lst (ws.map .str))),some (.val (.int what)),some (.val (.int cell)),none,none,none] hp) outZ).need _ _;rw [zmK h z];unfold ze6
 split
 ·refine Wr.need_bind.mpr ((zse h z hw what cell).mono (fun o ho=>?_) fun _ _ y=>y);obtain ⟨sd,hp',as',a',rfl,k,h'⟩:=ho;exact ⟨k,as',a',h'⟩
 ·split
  ·rw [zsv h z (by omega)];exact ⟨fun b hb=>zbV hb,as,a,h.given _⟩
  ·split
   ·rename_i c;obtain ⟨sd,e⟩:=zs0 (ws:=ws) h z what cell c.2.1;rw [e];exact ⟨fun b hb=>zbV hb,as,a,h.rows _⟩
   ·obtain ⟨hp',e,k,h'⟩:=zqv (ws:=ws) h z (by omega) what cell;rw [e];exact ⟨k,as,a,h'⟩
end
noncomputable def zns:FS:=(sSeq (sSet 2 (dC (.str "abcdefghijklmnopqrstuvwxyz0123456789"))) (sSeq (sSet 3 (dLst (zab (dC (.str "plan")) (zab (dC (.str "given")) (zab (dC (.str "all")) (zab (dC (.str "first")) (zab (dC (.str "part")) dNil))))))) (sSeq (sFor (iR1 (zab (dOp gAdd (dBlt gLen (zab (dVar 1) dNil)) (dC (.int 6))) dNil)) (.one 4) (sSeq (sSet 5 (dOp gIx (dVar 2) (dOp gMod (dOp gAdd (dVar 0) (dVar 4)) (dC (.int 26))))) (sSeq (sSet 6 (dOp zd1 (dOp gAdd (dVar 0) (dVar 4)) (dC (.int 26)))) (sSeq (zbJ (zal (dOp gGt (dVar 6) (dC (.int 0)))) (sSeq (sSet 5 (dOp gAdd (dVar 5) (dOp gIx (dVar 2) (dOp gMod (dVar 6) (dC (.int 36)))))) (sSet 6 (dOp zd1 (dVar 6) (dC (.int 36))))) 60) (sIf (zbB (zal (dOp (gIn true) (dVar 5) (dVar 1))) (zal (dOp (gIn true) (dVar 5) (dVar 3)))) (sRet (dVar 5)) zaP))))) (sRet (dC (.str ""))))))
noncomputable def zja:List D->Res D:=runD 7 2 zns
def wC:FT:=zal (dOp gGt (dVar 6) (dC (.int 0)))
def wB:FS:=sSeq (sSet 5 (dOp gAdd (dVar 5) (dOp gIx (dVar 2) (dOp gMod (dVar 6) (dC (.int 36)))))) (sSet 6 (dOp zd1 (dVar 6) (dC (.int 36))))
theorem zeE {x0 x1 x3 x4:Option SV}:∀ (f n:Nat) (a:List Nat),n<36 ^ f->a.length+f<=100->zbJ wC wB (f+1) [x0,x1,some (.val (.str zcj)),x3,x4,some (.val (.str (mkS a))),some (.val (.int n))] =
 .ok (.next [x0,x1,some (.val (.str zcj)),x3,x4,some (.val (.str (mkS (a++digN f n)))),some (.val (.int 0))])
 |f,n,a,hn,ha=>by
  by_cases z:n=0
  ·subst z;have e:digN f 0=[]:=by cases f<;>simp [digN]
   rw [e,List.append_nil];rw [zeA];simp [wC]
  ·cases f with
   |zero=>simp at hn;omega
   |succ f =>
    have hg:=zhv (k:=(n:Int) % 36) (by omega) (by omega);rw [show ((n:Int) % 36).toNat=n % 36 by omega] at hg;have hs:gAdd (.str (mkS a)) (.str ⟨#[chN (n % 36)]⟩)=some (.str (mkS (a++[chN (n % 36)]))):=by
     rw [<- zme];refine if_pos (small ?_);rw [zl7];show a.length+1<=1000;omega
    have ih:=zeE (x0:=x0) (x1:=x1) (x3:=x3) (x4:=x4) f (n / 36) (a++[chN (n % 36)]) (by rw [Nat.pow_succ] at hn;exact Nat.div_lt_of_lt_mul (by omega)) (by rw [List.length_append,List.length_singleton];omega);have ed:digN (f+1) n=chN (n % 36)::digN f (n / 36):=by
     show (if n=0 then _ else _)=_;rw [if_neg z]
    rw [ed];rw [show a++chN (n % 36)::digN f (n / 36)=a++[chN (n % 36)]++digN f (n / 36) by simp,<- ih];rw [zeA];have hp:0<n:=by omega
    simp [wC,wB,hg,hs,hp]
noncomputable def nB:FS:=(sSeq (sSet 5 (dOp gIx (dVar 2) (dOp gMod (dOp gAdd (dVar 0) (dVar 4)) (dC (.int 26))))) (sSeq (sSet 6 (dOp zd1 (dOp gAdd (dVar 0) (dVar 4)) (dC (.int 26)))) (sSeq (zbJ wC wB 60) (sIf (zbB (zal (dOp (gIn true) (dVar 5) (dVar 1))) (zal (dOp (gIn true) (dVar 5) (dVar 3)))) (sRet (dVar 5)) zaP))))
theorem zka {n k:Nat}{us:List Str}{x5 x6:Option SV}(hn:n+k<26*36 ^ 11)(hu:∀ u∈us,asc u):∃ y5 y6,nB [some (.val (.int n)),some (.val (.lst (us.map .str))),some (.val (.str zcj)),some (.val (.lst (zcv.map .str))),some (.val (.int k)),x5,x6] =
 if zbk (n+k)∉us/\zbk (n+k)∉zcv then .ok (.ret (.str (zbk (n+k)))) else .ok (.next [some (.val (.int n)),some (.val (.lst (us.map .str))),some (.val (.str zcj)),some (.val (.lst (zcv.map .str))),some (.val (.int k)),y5,y6]):=by
 have hg:=zhv (k:=((n:Int)+k) % 26) (by omega) (by omega);rw [show (((n:Int)+k) % 26).toNat=(n+k) % 26 by omega] at hg;have hw:=zeE (x0:=some (.val (.int n))) (x1:=some (.val (.lst (us.map .str)))) (x3:=some (.val (.lst (zcv.map .str)))) (x4:=some (.val (.int k))) 59 ((n+k) / 26) [chN ((n+k) % 26)] (Nat.lt_of_lt_of_le (Nat.div_lt_of_lt_mul hn) zr2) (by simp);have ew:mkS ([chN ((n+k) % 26)]++digN 59 ((n+k) / 26))=zbk (n+k):=rfl;have e1:(⟨#[chN ((n+k) % 26)]⟩:Str)=mkS [chN ((n+k) % 26)]:=rfl;rw [e1] at hg;rw [ew,show (((n+k) / 26:Nat):Int)=((n:Int)+k) / 26 by omega] at hw;have h1:=zh4 (neg:=true) (zet (n+k)) hu;have h2:=zh4 (neg:=true) (zet (n+k)) zmJ;refine ⟨some (.val (.str (zbk (n+k)))),some (.val (.int 0)),?_⟩;unfold nB;simp [hg,hw,h1,h2];by_cases a:zbk (n+k)∈us
 ·simp [a]
 ·by_cases b:zbk (n+k)∈zcv
  ·simp [a,b]
  ·simp [a,b]
theorem zhA {n:Nat}{us:List Str}(hu:∀ u∈us,asc u):∀ (ks:List Nat) (x4 x5 x6:Option SV),(∀ k∈ks,n+k<26*36 ^ 11)->(∃ k∈ks,zbk (n+k)∉us/\zbk (n+k)∉zcv) ->
 ∃ k∈ks,(zbk (n+k)∉us/\zbk (n+k)∉zcv)/\forT (.one 4) nB (ks.map fun k:Nat=>D.int k) [some (.val (.int n)),some (.val (.lst (us.map .str))),some (.val (.str zcj)),some (.val (.lst (zcv.map .str))),x4,x5,x6]=.ok (.ret (.str (zbk (n+k))))
 | [],_,_,_,_,h=>by obtain ⟨k,hk,_⟩:=h;cases hk
 |k::ks,x4,x5,x6,hb,h=>by
  obtain ⟨y5,y6,e⟩:=zka (x5:=x5) (x6:=x6) (hb k Zqs) hu;by_cases c:zbk (n+k)∉us/\zbk (n+k)∉zcv
  ·refine ⟨k,Zqs,c,?_⟩;rw [if_pos c] at e;rw [List.map_cons,zcR];simp [e]
  ·rw [if_neg c] at e;obtain ⟨j,hj,c2,e2⟩:=zhA hu ks (some (.val (.int k))) y5 y6 (fun z hz=>hb z (Zqm _ hz)) (by
    obtain ⟨j,hj,cj⟩:=h;rcases List.mem_cons.mp hj with rfl|hj
    ·exact absurd cj c
    ·exact ⟨j,hj,cj⟩)
   refine ⟨j,Zqm _ hj,c2,?_⟩;rw [<- e2,List.map_cons,zcR];simp [e]
theorem f_z27 {n:Nat}{us:List Str}(hn:n+us.length+6<26*36 ^ 11)(hl:us.length<=100)(hu:∀ u∈us,asc u):∃ w,zja [.int n,.lst (us.map .str)]=.ok (.str w)/\IsW w/\w∉us:=by
 obtain ⟨k0,h1,h2⟩:=zkw hn;obtain ⟨k,hk,⟨c1,c2⟩,e⟩:=zhA hu (List.range (us.length+6)) none none none (fun k hk=>by rw [List.mem_range] at hk;omega) ⟨k0,List.mem_range.mpr h1,h2⟩;rw [List.mem_range] at hk;refine ⟨zbk (n+k),?_,⟨n+k,by omega,rfl,c2⟩,c1⟩;have hr:zcQ [.int ((us.length:Int)+6)]=.ok ((List.range (us.length+6)).map fun k:Nat=>D.int k):=by
  rw [zbU (by omega) (by omega)];show Res.ok ((List.range ((us.length:Int)+6).toNat).map fun k:Nat=>D.int (0+k))=_;rw [show ((us.length:Int)+6).toNat=us.length+6 by omega];simp
 show zja [.int n,.lst (us.map .str)]=_;unfold zja zns;rw [zrZ];have ek:D.lst [D.str "plan",D.str "given",D.str "all",D.str "first",D.str "part"]=.lst (zcv.map .str):=rfl;have el:D.str "abcdefghijklmnopqrstuvwxyz0123456789" = .str zcj:=rfl;have e':=e;unfold nB wC wB at e';simp [hr,ek,el,e']
noncomputable def znf:FS:=(sSeq (sSet 2 (dOp gMod (zav ze5 (zab (dVar 0) (zab (dC (.int 0)) dNil))) (dOp gMul (dC (.int 26)) (dOp gPow (dC (.int 36)) (dC (.int 10)))))) (sSeq (sSet 3 (dOp gIx (dLst (zab (dC (.int 1)) (zab (dC (.int 26)) (zab (dC (.int 936)) (zab (dC (.int 33696)) (zab (dC (.int 1213056)) dNil)))))) (dOp gMod (zav ze5 (zab (dVar 0) (zab (dC (.int 1)) dNil))) (dC (.int 5))))) (sSeq (sOwn 4 (dLst dNil)) (sSeq (sFor (iR1 (zab (dVar 1) dNil)) (.one 5) (zcm 4 (dTmp [4] (zav zja (zab (dOp gAdd (dVar 2) (dOp gMul (dVar 5) (dVar 3))) (zab (dVar 4) dNil)))))) (zcM 4)))))
noncomputable def zha:List D->Res D:=runN 6 2 znf
theorem f_z28 {ns:List Int}{many:Nat}(hm:many<=40):∃ ws:List Str,zha [.scr ns,.int many]=.ok (.lst (ws.map .str))/\ws.length=many/\ws.Nodup/\∀ w∈ws,IsW w:=by
 have c0:ze5 [.scr ns,.int 0]=.ok (.int (zcL ns 0)):=zph ns 0;have c1:ze5 [.scr ns,.int 1]=.ok (.int (zcL ns 1)):=zph ns 1;have p:gPow (.int 36) (.int 10)=some (.int 3656158440062976):=rfl;have pm:gMul (.int 26) (.int 3656158440062976)=some (.int 95060119441637376):=zfs (zfq (by omega) (by omega));have pb:(95060119441637376:Nat)*36=26*36 ^ 11:=by decide +kernel
 obtain ⟨b,hb,b0,b1⟩:∃ b:Nat,zcL ns 0 % 95060119441637376=(b:Int)/\0<=b/\b<95060119441637376:=⟨(zcL ns 0 % 95060119441637376).toNat,by omega,by omega,by omega⟩;obtain ⟨q,hq,q0,q5⟩:∃ q:Int,zcL ns 1 % 5=q/\0<=q/\q<5:=⟨_,rfl,by omega,by omega⟩;obtain ⟨st,hst,hs⟩:∃ st:Nat,atI [D.int 1,D.int 26,D.int 936,D.int 33696,D.int 1213056] q=some (.int st)/\st<=1213056:=by
  have:q=0\/q=1\/q=2\/q=3\/q=4:=by omega
  rcases this with rfl|rfl|rfl|rfl|rfl
  ·exact ⟨1,rfl,by omega⟩
  ·exact ⟨26,rfl,by omega⟩
  ·exact ⟨936,rfl,by omega⟩
  ·exact ⟨33696,rfl,by omega⟩
  ·exact ⟨1213056,rfl,by omega⟩
 have r1:zcQ [.int many]=.ok (zbd 0 many):=by rw [zbU (by omega) (by omega),Int.toNat_natCast]
 obtain ⟨sd,e,ws,u5,hsd,hl,hn,hw⟩:=zbo (tg:=.one 5) (b:=zcm 4 (dTmp [4] (zav zja (zab (dOp gAdd (dVar 2) (dOp gMul (dVar 5) (dVar 3))) (zab (dVar 4) dNil))))) (ds:=zbd 0 many) (sd:=[some (.val (.scr ns)),some (.val (.int many)),some (.val (.int b)),some (.val (.int st)),some (.own false (.lst [])),none])
  (P:=fun i sd=>∃ (ws:List Str) (u5:Option SV),sd=[some (.val (.scr ns)),some (.val (.int many)),some (.val (.int b)),some (.val (.int st)),some (.own false (.lst (ws.map .str))),u5]/\ws.length=i/\ws.Nodup/\∀ w∈ws,IsW w) ⟨[],none,rfl,rfl,.nil,fun w hw=>by cases hw⟩ (by
   rintro i x sd hx ⟨ws,u5,rfl,hl,hn,hw⟩;obtain ⟨rfl,hi⟩:=zhU hx;have hi':i*st<=40*1213056:=Nat.mul_le_mul (by omega) hs;obtain ⟨w,e,h1,h2⟩:=f_z27 (n:=b+i*st) (us:=ws) (by omega) (by omega) fun u hu=>(hw u hu).ok.asc;have gm:gMul (.int (i:Int)) (.int st)=some (.int ((i*st:Nat):Int)):=by
    rw [zfs (zfq (by omega) (by omega))];simp
   have hz:ws.length<sizeLine:=zat (by omega);refine ⟨[some (.val (.scr ns)),some (.val (.int many)),some (.val (.int b)),some (.val (.int st)),some (.own false (.lst ((ws++[w]).map .str))),some (.val (.int (0+(i:Int))))],?_,ws++[w],_,rfl,by simp [hl],?_,fun x hx=>?_⟩
   ·rw [show ((b+i*st:Nat):Int)=(b:Int)+((i*st:Nat):Int) by omega] at e;simp only [Int.natCast_mul] at e gm;simp [gm,e,hz]
   ·exact List.nodup_append.mpr ⟨hn,List.pairwise_singleton _ _,fun a ha c hc z=>h2 (by rw [List.mem_singleton.mp hc] at z;rw [<- z];exact ha)⟩
   ·rcases List.mem_append.mp hx with z|z
    ·exact hw x z
    ·rw [List.mem_singleton.mp z];exact h1)
 rw [zes] at hl;subst hsd;refine ⟨ws,?_,hl,hn,hw⟩;simp [zha,znf,c0,c1,p,pm,hb,hq,hst,r1,e]
noncomputable def zjt:FVS:=(zSeq (zL (sSet 1 (zav zha (zab (dVar 0) (zab (dC (.int 34)) dNil))))) (zSeq (zSet 2 (vLst (zaq (vLst (zaq (vL (dOp gIx (dVar 1) (dC (.int 0)))) (zaq (vLst (zaq (vL (dOp gIx (dVar 1) (dC (.int 1)))) vNil)) (zaq (vLst vNil) vNil)))) vNil))) (zSeq (zSet 3 (vLst (zaq (vL (dC (.int 0))) vNil))) (zSeq (zFor (iR3 (zab (dC (.int 2)) (zab (dBlt zg7 (zab (dBlt gLen (zab (dVar 0) dNil)) (zab (dC (.int 62)) dNil))) (zab (dC (.int 2)) dNil)))) (.one 4) (ziH (zcq zl3 (zaq (vL (dVar 2)) (zaq (vL (dVar 3)) (zaq (vL (dVar 1)) (zaq (vL (dOp gIx (dVar 0) (dVar 4))) (zaq (vL (zav ze5 (zab (dVar 0) (zab (dOp gAdd (dVar 4) (dC (.int 1))) dNil)))) vNil)))))))) (zSeq (zIf (vRdT 5 [2] (zal (dOp gEq (dOp gIx (dOp gIx (dVar 2) (dUn gNeg (dC (.int 1)))) (dC (.int 2))) (dLst dNil)))) (zApp (vIx (vIx (vL (dVar 2)) (vL (dUn gNeg (dC (.int 1))))) (vL (dC (.int 2)))) (zcq ziq (zaq (vL (dVar 2)) (zaq (vL (dVar 3)) (zaq (vL (dVar 1)) (zaq (vL (dC (.int 0))) (zaq (vL (dC (.int 0))) vNil))))))) zcI) (zRet (vL (dVar 2))))))))
structure RwW (ps:List Pl)(ahead:Int)(n:Nat)(r:Str×Str×List (Int×Int)):Prop where
 how:(zcG r.2.1=true/\r.2.2.length<=n+1)\/(zcG r.2.1=false/\∃ p∈ps,r.2.1=p.name/\r.2.2.length=p.givens.length)
 low:1<=r.2.2.length
 its:ItOk ahead r.2.2
structure PlW (ws:List Str)(i:Nat)(ps:List Pl)(n:Nat)(q:Pl):Prop where
 nm:q.name=nmAt ws (i:Int)
 th:∀ (k:Nat) (x:Str),(q.givens++q.rows.map (·.1))[k]? = some x->x=nmAt ws ((i:Int)+1+(k:Int))
 g1:1<=q.givens.length
 g12:q.givens.length<=12
 sz:i+q.givens.length+q.rows.length<=n+1
 rw_:∀ (k:Nat) (r:Str×Str×List (Int×Int)),q.rows[k]? = some r->RwW ps ((q.givens.length:Int)+(k:Int)) n r
structure BW (ws:List Str)(n:Nat)(s:Bst):Prop where
 all:∀ (i:Nat) (q:Pl),s.ps[i]? = some q->PlW ws i (s.ps.take i) n q/\q.rows ≠ []
 last:PlW ws s.ps.length s.ps n s.q
 ll:s.ld.length=s.ps.length
theorem RwW.mono {ps ps':List Pl}{ahead:Int}{n n':Nat}{r:Str×Str×List (Int×Int)}(h:RwW ps ahead n r)(hn:n<=n')(hp:∀ p∈ps,p∈ps'):RwW ps' ahead n' r :=
 ⟨h.how.imp (fun ⟨a,b⟩=>⟨a,by omega⟩) fun ⟨a,p,b,c⟩=>⟨a,p,hp p b,c⟩,h.low,h.its⟩
theorem PlW.mono {ws:List Str}{i:Nat}{ps:List Pl}{n n':Nat}{q:Pl}(h:PlW ws i ps n q)(hn:n<=n'):PlW ws i ps n' q :=
 ⟨h.nm,h.th,h.g1,h.g12,by have:=h.sz;omega,fun k r hr=>(h.rw_ k r hr).mono hn fun _ y=>y⟩
structure WsOk (ws:List Str):Prop where
 len:ws.length=34
 nd:ws.Nodup
 ok:∀ w∈ws,IsW w
theorem WsOk.at_ {ws:List Str}(W:WsOk ws)(k:Int):nmAt ws k∈ws:=by
 have h0:0<=k % (ws.length:Int):=Int.emod_nonneg _ (by have:=W.len;omega);have h1:k % (ws.length:Int)<(ws.length:Int):=Int.emod_lt_of_pos _ (by have:=W.len;omega);unfold nmAt;rw [List.getD_eq_getElem?_getD,Zqg (by omega)];exact List.getElem_mem _
theorem IsW.noHow {x:Str}(h:IsW x):zcG x=false:=by
 obtain ⟨m,_,_,hk⟩:=h;unfold zcG;rw [Bool.or_eq_false_iff];refine ⟨decide_eq_false fun z=>hk ?_,decide_eq_false fun z=>hk ?_⟩<;>rw [z]<;>simp [zcv]
theorem zoQ {h:Str}(e:zcG h=true):TxtOk 12 h:=by
 unfold zcG at e;rw [Bool.or_eq_true,decide_eq_true_eq,decide_eq_true_eq] at e;rcases e with rfl|rfl
 ·exact zba (by decide +kernel)
 ·exact zba (by decide +kernel)
section
variable {ws:List Str}{n:Nat}{s:Bst}
theorem BW.names (B:BW ws n s)(W:WsOk ws):∀ p∈s.ps++[s.q],p.name∈ws/\1<=p.givens.length/\p.givens.length<=12:=fun p hp=>by
 rcases List.mem_append.mp hp with z|z
 ·obtain ⟨i,hi⟩:=List.getElem?_of_mem z;have:=(B.all i p hi).1;exact ⟨by rw [this.nm];exact W.at_ _,this.g1,this.g12⟩
 ·rw [List.mem_singleton.mp z];exact ⟨by rw [B.last.nm];exact W.at_ _,B.last.g1,B.last.g12⟩
theorem PlW.rowTxt {i:Nat}{ps:List Pl}{q:Pl}(P:PlW ws i ps n q)(W:WsOk ws)(hp:∀ p∈ps,p.name∈ws/\1<=p.givens.length/\p.givens.length<=12):∀ z∈q.rows,IsW z.1/\TxtOk 12 z.2.1/\1<=z.2.2.length/\z.2.2.length<=n+13:=fun z hz=>by
 obtain ⟨k,hk⟩:=List.getElem?_of_mem hz;have R:=P.rw_ k z hk;have e:(q.givens++q.rows.map (·.1))[q.givens.length+k]? = some z.1:=by
  rw [List.getElem?_append_right (by omega),Nat.add_sub_cancel_left,List.getElem?_map,hk];rfl
 have:=P.th _ _ e;refine ⟨by rw [this];exact W.ok _ (W.at_ _),?_,R.low,?_⟩
 ·rcases R.how with ⟨a,_⟩|⟨_,p,b,c,_⟩
  ·exact zoQ a
  ·rw [c];exact (W.ok _ (hp p b).1).ok
 ·rcases R.how with ⟨_,a⟩|⟨_,p,b,_,c⟩
  ·omega
  ·have:=(hp p b).2.2;omega
theorem BW.sz (B:BW ws n s)(W:WsOk ws)(hn:n<=31):Bsz s:=by
 have L:=B.last.sz;have g1:=B.last.g1;refine ⟨B.ll,g1,fun r hr=>(B.names W r hr).2.2,by omega,fun z hz=>?_,by omega⟩;obtain ⟨a,b,c,d⟩:=B.last.rowTxt W (fun p hp=>B.names W p (by simp [hp])) z hz;exact ⟨a.ok.asc,b.asc,c,by omega⟩
theorem zeS {c a:Int}(h:0<a):0<=(zch c a).1/\(zch c a).1<a:=⟨Int.emod_nonneg _ (by omega),Int.emod_lt_of_pos _ h⟩
theorem zmT {ps:List Pl}{k:Int}(h0:0<=k)(h1:k<(ps.length:Int)):plAt ps k∈ps:=by
 unfold plAt;rw [List.getD_eq_getElem?_getD,Zqg (by omega)];exact List.getElem_mem _
theorem zpu (B:BW ws n s)(W:WsOk ws)(what cell:Int):(rowQ ws s.ps s.q s.ld s.x what cell).1.1=nmAt ws ((s.ps.length:Int)+1+zay s.q)/\RwW s.ps (zay s.q) n (rowQ ws s.ps s.q s.ld s.x what cell).1:=by
 have ha:0<zay s.q:=by unfold zay;have:=B.last.g1;omega
 unfold rowQ
 split
 ·rename_i c;have hp:0<(s.ps.length:Int):=by have:=List.length_pos_iff.mpr c.2.1;omega
  have t0:0<=what / 4 % (s.ps.length:Int):=Int.emod_nonneg _ (by omega);have t1:what / 4 % (s.ps.length:Int)<(s.ps.length:Int):=Int.emod_lt_of_pos _ hp;have pm:=zmT t0 t1;obtain ⟨p1,p2,p3⟩:=B.names W _ (List.mem_append_left _ pm);refine ⟨rfl,.inr ⟨(W.ok _ p1).noHow,_,pm,rfl,by simp⟩,by simpa using p2,fun p h=>?_,fun p h=>?_⟩
  ·obtain ⟨j,_,rfl⟩:=List.mem_map.mp h;exact zeS ha
  ·obtain ⟨j,_,rfl⟩:=List.mem_map.mp h;exact zfu _
 ·refine ⟨rfl,.inl ⟨?_,by simp⟩,by simp,fun p h=>?_,fun p h=>?_⟩
  ·show zcG (howF what)=true;unfold howF zcG
   split<;>simp
  ·rw [List.mem_singleton.mp h];exact zeS ha
  ·rw [List.mem_singleton.mp h];exact zfu _
theorem zh5 (B:BW ws n s)(W:WsOk ws)(what cell x:Int):BW ws (n+1) ⟨s.ps,⟨s.q.name,s.q.givens,s.q.rows++[(rowQ ws s.ps s.q s.ld s.x what cell).1]⟩,s.ld,x⟩:=by
 obtain ⟨r1,r2⟩:=zpu B W what cell;have L:=B.last;refine ⟨fun i q hi=>⟨(B.all i q hi).1.mono (by omega),(B.all i q hi).2⟩,⟨L.nm,fun k x hx=>?_,L.g1,L.g12,by have:=L.sz;simp;omega,fun k r hr=>?_⟩,B.ll⟩
 ·rw [List.map_append,List.map_singleton,<- List.append_assoc] at hx;rcases Nat.lt_or_ge k (s.q.givens++s.q.rows.map (·.1)).length with z|z
  ·rw [List.getElem?_append_left z] at hx;exact L.th k x hx
  ·rw [List.getElem?_append_right z,List.length_append,Zql] at hx;rw [List.length_append,Zql] at z;have hk:k-(s.q.givens.length+s.q.rows.length)=0:=by
    have:=(List.getElem?_eq_some_iff.mp hx).1;simp at this;omega
   rw [hk] at hx;have hx:(rowQ ws s.ps s.q s.ld s.x what cell).1.1=x:=Zqi hx;rw [<- hx,r1];show nmAt ws ((s.ps.length:Int)+1+zay s.q)=nmAt ws ((s.ps.length:Int)+1+(k:Int));unfold zay
   congr 1
   omega
 ·rcases Nat.lt_or_ge k s.q.rows.length with z|z
  ·rw [List.getElem?_append_left z] at hr;exact (L.rw_ k r hr).mono (by omega) fun _ y=>y
  ·rw [List.getElem?_append_right z] at hr;have hk:k-s.q.rows.length=0:=by
    have:=(List.getElem?_eq_some_iff.mp hr).1;simp at this;omega
   rw [hk] at hr;have hr:(rowQ ws s.ps s.q s.ld s.x what cell).1=r:=Zqi hr;rw [<- hr];have e:(s.q.givens.length:Int)+(k:Int)=zay s.q:=by unfold zay;omega
   rw [e];exact r2.mono (by omega) fun _ y=>y
theorem zpE (B:BW ws n s)(W:WsOk ws)(what cell:Int):BW ws (n+1) (ze6 ws s what cell):=by
 have L:=B.last;have up:∀ i q,s.ps[i]? = some q->PlW ws i (s.ps.take i) (n+1) q/\q.rows ≠ []:=fun i q hi=>⟨(B.all i q hi).1.mono (by omega),(B.all i q hi).2⟩;unfold ze6
 split
 ·rename_i c;refine ⟨fun i q hi=>?_,⟨by simp,fun k x hx=>?_,by simp,by simp,by have:=L.sz;have:=L.g1;simp;omega,fun k r hr=>by simp at hr⟩,by simp [B.ll]⟩
  ·have hi:(s.ps++[s.q])[i]? = some q:=hi;rcases Nat.lt_or_ge i s.ps.length with z|z
   ·rw [List.getElem?_append_left z] at hi;obtain ⟨u1,u2⟩:=up i q hi;rw [show (s.ps++[s.q]).take i=s.ps.take i by rw [List.take_append_of_le_length (by omega)]];exact ⟨u1,u2⟩
   ·have hl:=(List.getElem?_eq_some_iff.mp hi).1;simp at hl;have he:i=s.ps.length:=by omega
    subst he;rw [List.getElem?_append_right (Nat.le_refl _),Nat.sub_self] at hi;have hi:s.q=q:=Zqi hi;subst hi;rw [show (s.ps++[s.q]).take s.ps.length=s.ps by simp];exact ⟨L.mono (by omega),c.2⟩
  ·have hk:k=0:=by
    have:=(List.getElem?_eq_some_iff.mp hx).1;simp at this;omega
   subst hk;have hx:nmAt ws ((s.ps.length:Int)+1+1)=x:=Zqi hx;rw [<- hx];simp
 ·split
  ·rename_i c;refine ⟨up,⟨L.nm,fun k x hx=>?_,by simp,by simp;omega,by have:=L.sz;simp;omega,fun k r hr=>?_⟩,B.ll⟩
   ·have hx:(s.q.givens++[nmAt ws ((s.ps.length:Int)+1+(s.q.givens.length:Int))]++s.q.rows.map (·.1))[k]? = some x:=hx;rw [c.2.1,List.map_nil,List.append_nil] at hx;rcases Nat.lt_or_ge k s.q.givens.length with z|z
    ·rw [List.getElem?_append_left z] at hx;refine L.th k x ?_;rw [List.getElem?_append_left z];exact hx
    ·rw [List.getElem?_append_right z] at hx;have hk:k-s.q.givens.length=0:=by
      have:=(List.getElem?_eq_some_iff.mp hx).1;simp at this;omega
     rw [hk] at hx;have hx:nmAt ws ((s.ps.length:Int)+1+(s.q.givens.length:Int))=x:=Zqi hx;rw [<- hx];show _=nmAt ws ((s.ps.length:Int)+1+(k:Int))
     congr 1
     omega
   ·have hr:s.q.rows[k]? = some r:=hr;rw [c.2.1] at hr;simp at hr
  ·split
   ·rename_i c;have hl:=zd9 c.2.1;have lp:=List.length_pos_iff.mpr c.2.1;have ld:s.q.rows.dropLast.length=s.q.rows.length-1:=List.length_dropLast;have hlast:s.q.rows[s.q.rows.length-1]? = some (zaK s.q.rows):=by
     conv=>lhs;rw [hl]
     rw [List.getElem?_append_right (by rw [List.length_dropLast];simp)];simp
    refine ⟨up,⟨L.nm,fun k x hx=>?_,L.g1,L.g12,by have:=L.sz;simp;omega,fun k r hr=>?_⟩,B.ll⟩
    ·refine L.th k x ?_;rw [<- hx]
     congr 1
     show s.q.givens++s.q.rows.map (·.1)=s.q.givens++_
     congr 1
     conv=>lhs;rw [hl]
     simp
    ·have hr:(s.q.rows.dropLast++[((zaK s.q.rows).1,(zaK s.q.rows).2.1,(zaK s.q.rows).2.2++[zch cell (zay s.q-1)])])[k]? = some r:=hr;rcases Nat.lt_or_ge k s.q.rows.dropLast.length with z|z
     ·rw [List.getElem?_append_left z] at hr;refine (L.rw_ k r ?_).mono (by omega) fun _ y=>y
      conv=>lhs;rw [hl]
      rw [List.getElem?_append_left z];exact hr
     ·rw [List.getElem?_append_right z] at hr;have hk:k-s.q.rows.dropLast.length=0:=by
       have:=(List.getElem?_eq_some_iff.mp hr).1;simp at this;omega
      rw [hk] at hr;have hr:((zaK s.q.rows).1,(zaK s.q.rows).2.1,(zaK s.q.rows).2.2++[zch cell (zay s.q-1)])=r:=Zqi hr;have R:=L.rw_ _ _ hlast;have ek:((s.q.rows.length-1:Nat):Int)=(k:Int):=by omega
      rw [ek] at R;rw [<- hr];have ha:zay s.q-1=(s.q.givens.length:Int)+(k:Int):=by unfold zay;omega
      refine ⟨.inl ⟨c.2.2,?_⟩,by simp,fun p hp=>?_,fun p hp=>?_⟩
      ·rcases R.how with ⟨_,y⟩|⟨y,_⟩
       ·simp;omega
       ·rw [c.2.2] at y;cases y
      ·rcases List.mem_append.mp hp with y|y
       ·exact R.its.rng p y
       ·rw [List.mem_singleton.mp y,ha];exact zeS (by have:=L.g1;omega)
      ·rcases List.mem_append.mp hp with y|y
       ·exact R.its.far p y
       ·rw [List.mem_singleton.mp y];exact zfu _
   ·exact zh5 B W (what / 8) cell _
end
theorem znH (ns:List Int):∃ ws:List Str,zha [.scr ns,.int 34]=.ok (.lst (ws.map .str))/\ws.length=34/\ws.Nodup/\∀ w∈ws,IsW w:=f_z28 (many:=34) (by omega)
noncomputable def wsF (ns:List Int):List Str:=Classical.choose (znH ns)
theorem zcU (ns:List Int):zha [.scr ns,.int 34]=.ok (.lst ((wsF ns).map .str))/\WsOk (wsF ns):=by
 obtain ⟨h1,h2,h3,h4⟩:=Classical.choose_spec (znH ns);exact ⟨h1,h2,h3,h4⟩
noncomputable def bst0 (ns:List Int):Bst:=⟨[],⟨nmAt (wsF ns) 0,[nmAt (wsF ns) 1],[]⟩,[],0⟩
noncomputable def zaZ (ns:List Int):Nat->Bst
 | 0=>bst0 ns
 |j+1=>ze6 (wsF ns) (zaZ ns j) (zcL ns ((2+j*2:Nat):Int)) (zcL ns ((2+j*2+1:Nat):Int))
def za1 (ns:List Int):Nat:=((min (ns.length:Int) 62-2+1) / 2).toNat
noncomputable def endF (ns:List Int)(s:Bst):Bst:=if s.q.rows=[] then ⟨s.ps,⟨s.q.name,s.q.givens,s.q.rows++[(rowQ (wsF ns) s.ps s.q s.ld s.x 0 0).1]⟩,s.ld,(rowQ (wsF ns) s.ps s.q s.ld s.x 0 0).2⟩ else s
noncomputable def zdl (ns:List Int):Bst:=endF ns (zaZ ns (za1 ns))
noncomputable def zb6 (ns:List Int):List Pl:=(zdl ns).ps++[(zdl ns).q]
theorem zpk (ns:List Int):BW (wsF ns) 0 (bst0 ns):=by
 refine ⟨fun i q hi=>by simp [bst0] at hi,⟨rfl,fun k x hx=>?_,by simp [bst0],by simp [bst0],by simp [bst0],fun k r hr=>by simp [bst0] at hr⟩,rfl⟩;have hk:k=0:=by
  have:=(List.getElem?_eq_some_iff.mp hx).1;simp [bst0] at this;omega
 subst hk;exact (Zqi hx).symm
theorem zc2 (ns:List Int):∀ j,BW (wsF ns) j (zaZ ns j)
 | 0=>zpk ns
 |j+1=>zpE (zc2 ns j) (zcU ns).2 _ _
theorem zcY (ns:List Int):za1 ns<=30:=by
 unfold za1;omega
theorem zia (ns:List Int):BW (wsF ns) 31 (zdl ns)/\(zdl ns).q.rows ≠ []:=by
 have h:=zc2 ns (za1 ns);have hn:=zcY ns;unfold zdl endF
 split
 ·have:=zh5 h (zcU ns).2 0 0 (rowQ (wsF ns) (zaZ ns (za1 ns)).ps (zaZ ns (za1 ns)).q (zaZ ns (za1 ns)).ld (zaZ ns (za1 ns)).x 0 0).2;refine ⟨⟨fun i q hi=>⟨(this.all i q hi).1.mono (by omega),(this.all i q hi).2⟩,this.last.mono (by omega),this.ll⟩,by simp⟩
 ·rename_i c;exact ⟨⟨fun i q hi=>⟨(h.all i q hi).1.mono (by omega),(h.all i q hi).2⟩,h.last.mono (by omega),h.ll⟩,c⟩
noncomputable def zgF:List D->Res D
 | [.scr ns]=>.ok (plsD (zb6 ns))
 |_=>.no
theorem x_z33:∀ ds,∀ c fs,zgF ds ≠ .ex c fs:=fun ds c fs h=>by
 unfold zgF at h
 split at h<;>cases h
noncomputable def zmW:FVS:=(ziH (zcq zl3 (zaq (vL (dVar 2)) (zaq (vL (dVar 3)) (zaq (vL (dVar 1)) (zaq (vL (dOp gIx (dVar 0) (dVar 4))) (zaq (vL (zav ze5 (zab (dVar 0) (zab (dOp gAdd (dVar 4) (dC (.int 1))) dNil)))) vNil)))))))
noncomputable def pFor:FVS:=(zFor (iR3 (zab (dC (.int 2)) (zab (dBlt zg7 (zab (dBlt gLen (zab (dVar 0) dNil)) (zab (dC (.int 62)) dNil))) (zab (dC (.int 2)) dNil)))) (.one 4) zmW)
noncomputable def pIf:FVS:=(zIf (vRdT 5 [2] (zal (dOp gEq (dOp gIx (dOp gIx (dVar 2) (dUn gNeg (dC (.int 1)))) (dC (.int 2))) (dLst dNil)))) (zApp (vIx (vIx (vL (dVar 2)) (vL (dUn gNeg (dC (.int 1))))) (vL (dC (.int 2)))) (zcq ziq (zaq (vL (dVar 2)) (zaq (vL (dVar 3)) (zaq (vL (dVar 1)) (zaq (vL (dC (.int 0))) (zaq (vL (dC (.int 0))) vNil))))))) zcI)
theorem pl_eq:zjt=(zSeq (zL (sSet 1 (zav zha (zab (dVar 0) (zab (dC (.int 34)) dNil))))) (zSeq (zSet 2 (vLst (zaq (vLst (zaq (vL (dOp gIx (dVar 1) (dC (.int 0)))) (zaq (vLst (zaq (vL (dOp gIx (dVar 1) (dC (.int 1)))) vNil)) (zaq (vLst vNil) vNil)))) vNil))) (zSeq (zSet 3 (vLst (zaq (vL (dC (.int 0))) vNil))) (zSeq pFor (zSeq pIf (zRet (vL (dVar 2)))))))):=rfl
noncomputable abbrev plS (ns:List Int)(p l:Addr)(y:Option SV):SD:=[some (.val (.scr ns)),some (.val (.lst ((wsF ns).map .str))),some (.val (.adr p)),some (.val (.adr l)),y]
theorem zpQ {ns:List Int}{hp:HP}{p l:Addr}{a:Addr×Addr×Addr}(h0:StB hp p l [] a (bst0 ns).ps (bst0 ns).q ((bst0 ns).ld++[(bst0 ns).x])):(pFor (plS ns p l none) hp).need (fun o=>∃ y hp' as a',o=.next (plS ns p l y) hp'/\StB hp' p l as a' (zaZ ns (za1 ns)).ps (zaZ ns (za1 ns)).q ((zaZ ns (za1 ns)).ld++[(zaZ ns (za1 ns)).x])) fun _ _=>False:=by
 obtain ⟨hw,W⟩:=zcU ns;have hn:=zcY ns;have hr:iR3 (zab (dC (.int 2)) (zab (dBlt zg7 (zab (dBlt gLen (zab (dVar 0) dNil)) (zab (dC (.int 62)) dNil))) (zab (dC (.int 2)) dNil))) (plS ns p l none)=.ok (zcx 2 2 (za1 ns)):=by
  have hm:zg7 [.int (ns.length:Int),.int 62]=some (.int (min (ns.length:Int) 62)):=by
   rw [zkG]
   congr 2
   split<;>omega
  have hl:gLen [.scr ns]=some (.int (ns.length:Int)):=rfl;have hk:zd3 (min (ns.length:Int) 62)=true:=zfm (by omega) (by omega);have hk2:zd3 2=true:=zfm (by omega) (by omega);unfold iR3;simp [plS,hm,hl,hk,hk2,za1]
 unfold pFor zFor;rw [hr];have key:=zhT (tg:=.one 4) (b:=zmW) (Q:=fun _ _=>False) (fun j sd hp=>j<=za1 ns->∃ y as a',sd=plS ns p l y/\StB hp p l as a' (zaZ ns j).ps (zaZ ns j).q ((zaZ ns j).ld++[(zaZ ns j).x])) (ds:=zcx 2 2 (za1 ns)) (sd:=plS ns p l none) (hp:=hp) 0 (fun _=>⟨none,[],a,rfl,h0⟩) fun i x sd hp hx hP=>by
  have hi:i<za1 ns:=by
   have:=(List.getElem?_eq_some_iff.mp hx).1;unfold zcx at this;simpa using this
  have ex:x=.int ((2+i*2:Nat):Int):=by
   unfold zcx at hx;rw [List.getElem?_map,List.getElem?_range hi] at hx;have:=(Zqi hx).symm;rw [this];simp
  subst ex;rw [Nat.zero_add] at hP ⊢;obtain ⟨y,as,a',rfl,h⟩:=hP (by omega);have B:=zc2 ns i;have hlen:2+i*2<ns.length:=by unfold za1 at hi;omega
  have x1:gIx (.scr ns) (.int ((2+i*2:Nat):Int))=some (.int (zcL ns ((2+i*2:Nat):Int))):=by
   show (atI ns ((2+i*2:Nat):Int)).map D.int=_;rw [zbG hlen];unfold zcL;rw [Int.toNat_natCast,List.getD_eq_getElem?_getD,Zqg hlen];rfl
  have x2:=zph ns (2+i*2+1);have L:=B.last.sz;have G1:=B.last.g1;have fg:=zrc (ws:=wsF ns) h (B.sz W (by omega)) (by rw [W.len];omega) (zcL ns ((2+i*2:Nat):Int)) (zcL ns ((2+i*2+1:Nat):Int));have e:zda (.one 4) zmW (.int ((2+i*2:Nat):Int)) (plS ns p l y) hp=(zl3 [.adr p,.adr l,.lst ((wsF ns).map .str),.int (zcL ns ((2+i*2:Nat):Int)),.int (zcL ns ((2+i*2+1:Nat):Int))] hp).bind fun r=>.ok (.next (plS ns p l (some (.val (.int ((2+i*2:Nat):Int))))) r.2):=by
   rw [show ((2+i*2+1:Nat):Int)=((2+i*2:Nat):Int)+1 by omega] at x2 ⊢;generalize ((2+i*2:Nat):Int)=k at x1 x2 ⊢;unfold zda zmW;simp [plS,x1,x2]
  rw [e];refine Wr.need_bind.mpr (fg.mono (fun r hr=>?_) fun _ _ z=>z);obtain ⟨as',a2,h2⟩:=hr;exact ⟨_,_,rfl,fun _=>⟨_,as',a2,rfl,h2⟩⟩
 refine key.mono (fun o ho=>?_) fun _ _ z=>z;obtain ⟨sd,hp',rfl,hP⟩:=ho;have hl:(zcx 2 2 (za1 ns)).length=za1 ns:=by unfold zcx;simp
 rw [hl,Nat.zero_add] at hP;obtain ⟨y,as,a',rfl,h⟩:=hP (Nat.le_refl _);exact ⟨y,hp',as,a',rfl,h⟩
theorem zri {ns:List Int}{hp:HP}{p l:Addr}{as:List (Addr×Addr×Addr)}{a:Addr×Addr×Addr}{y:Option SV}(h:StB hp p l as a (zaZ ns (za1 ns)).ps (zaZ ns (za1 ns)).q ((zaZ ns (za1 ns)).ld++[(zaZ ns (za1 ns)).x])):∃ hp',pIf (plS ns p l y) hp=.ok (.next (plS ns p l y) hp')/\StB hp' p l as a (zdl ns).ps (zdl ns).q ((zdl ns).ld++[(zdl ns).x]):=by
 obtain ⟨hw,W⟩:=zcU ns;have B:=zc2 ns (za1 ns);have hn:=zcY ns;have z:=B.sz W (by omega);have e1:=h.dp;have pw:=zhr fun y hy=>⟨(z.ta y hy).1,(z.ta y hy).2.1⟩;have n2:=zlj pw;have x1:gIx (plsD ((zaZ ns (za1 ns)).ps++[(zaZ ns (za1 ns)).q])) (.int (-1))=some (zbN (zaZ ns (za1 ns)).q):=by
  show atI (((zaZ ns (za1 ns)).ps++[(zaZ ns (za1 ns)).q]).map zbN) (-1)=_;rw [List.map_append,List.map_singleton,zcA]
 have i1:vIxK (.adr p) (.int (-1),hp)=.ok (.adr a.1,hp):=by
  rw [zcJ (q:=(D.int (-1),hp)) h.hp_];show (Wr.of (.ofO (atI ((as++[a]).map fun b=>D.adr b.1) (-1)))).bind _=_;rw [List.map_append,List.map_singleton,zcA];rfl
 have ix:=(zlZ h).2;unfold zdl endF;by_cases c:(zaZ ns (za1 ns)).q.rows=[]
 ·rw [if_pos c];have z1:=z.g1;have z5:=z.ga (zaZ ns (za1 ns)).q (by simp);have z6:=z.ra;obtain ⟨hp',e,k,h'⟩:=zic h z.ll (ws:=wsF ns) (by rw [W.len];omega) (by unfold zay;omega) (by unfold zay;omega) 0 0 fun r hr=>by have:=z.ga r (by simp [hr]);omega
  have hz:((zaZ ns (za1 ns)).q.rows.map rowD).length<sizeLine:=by rw [Zql];exact zat (by omega)
  refine ⟨zax hp' a.2.2 (.lst (((zaZ ns (za1 ns)).q.rows++[(rowQ (wsF ns) (zaZ ns (za1 ns)).ps (zaZ ns (za1 ns)).q (zaZ ns (za1 ns)).ld (zaZ ns (za1 ns)).x 0 0).1]).map rowD)),?_,h'.rows _⟩;have cb:(zaZ ns (za1 ns)).q.rows.isEmpty=true:=by rw [c];rfl
  rw [cb] at n2;unfold pIf;simp [plS,e1,x1,n2,i1,ix,zb9 h.at_.rw_,e,zb8 h'.at_.rw_ hz]
 ·rw [if_neg c];refine ⟨hp,?_,h⟩;have cb:(zaZ ns (za1 ns)).q.rows.isEmpty=false:=by cases e:(zaZ ns (za1 ns)).q.rows with|nil=>exact absurd e c|cons _ _=>rfl
  rw [cb] at n2;unfold pIf;simp [plS,e1,x1,n2]
theorem zjc (ns:List Int):((zjt [some (.val (.scr ns)),none,none,none,none] []).bind outZ).need (fun p=>dr p.2 5 p.1=plsD (zb6 ns)) fun _ _=>False:=by
 obtain ⟨hw,W⟩:=zcU ns;have g0:gIx (.lst ((wsF ns).map .str)) (.int 0)=some (.str (nmAt (wsF ns) 0)):=zfa (ws:=wsF ns) (k:=0) (by rw [W.len];omega);have g1:gIx (.lst ((wsF ns).map .str)) (.int 1)=some (.str (nmAt (wsF ns) 1)):=zfa (ws:=wsF ns) (k:=1) (by rw [W.len];omega);rw [pl_eq];simp [hw,g0,g1];intro g hg r hr a ha p hp l hl;have split:∀ {c b:Addr} {d:D} {h:HP},hpAt ((c,d)::h) b=none->b≠c/\hpAt h b=none:=fun {c b d h} e=>by
  rw [zaf] at e;by_cases z:b=c
  ·rw [if_pos z] at e;cases e
  ·rw [if_neg z] at e;exact ⟨z,e⟩
 obtain ⟨rg,_⟩:=split hr;obtain ⟨ar,ha⟩:=split ha;obtain ⟨ag,_⟩:=split ha;obtain ⟨pa,hp⟩:=split hp;obtain ⟨pr,hp⟩:=split hp;obtain ⟨pg,_⟩:=split hp;obtain ⟨lp,hl⟩:=split hl;obtain ⟨la,hl⟩:=split hl;obtain ⟨lr,hl⟩:=split hl;obtain ⟨lg,_⟩:=split hl;have h0:StB [(l,D.lst [D.int 0]),(p,D.lst [D.adr a]),(a,D.lst [D.str (nmAt (wsF ns) 0),D.adr g,D.adr r]),(r,D.lst []),(g,D.lst [D.str (nmAt (wsF ns) 1)])] p l [] (a,g,r) (bst0 ns).ps (bst0 ns).q ((bst0 ns).ld++[(bst0 ns).x]):=by
  refine ⟨?_,?_,rfl,⟨?_,?_,?_⟩,?_⟩
  ·simp [zaf,lp.symm]
  ·simp [zaf,bst0]
  ·simp [zaf,la.symm,pa.symm,bst0]
  ·simp [zaf,lg.symm,pg.symm,ag.symm,rg.symm,bst0]
  ·simp [zaf,lr.symm,pr.symm,ar.symm,bst0]
  ·simp [adrs,lp,pa,pr,pg,la,lr,lg,ar,ag,rg,lp.symm,rg.symm]
 refine Wr.need_bind.mpr (Wr.need_bind.mpr ((zpQ h0).mono (fun o ho=>?_) fun _ _ z=>z));obtain ⟨y,hp',as,a',rfl,h1⟩:=ho;obtain ⟨hp2,e2,h2⟩:=zri (y:=y) h1;have e3:zK (zSeq pIf (zRet (vL (dVar 2)))) (.next (plS ns p l y) hp')=.ok (.ret (.adr p) hp2):=by
  show (zSeq pIf (zRet (vL (dVar 2)))) (plS ns p l y) hp'=_;rw [zj8,e2];simp [plS]
 rw [e3];exact h2.dp
theorem w_z33:∀ ds d,zgF ds=.ok d->ds.length=1/\((zjt (zaS 5 ds) []).bind outZ).need (fun p=>dr p.2 5 p.1=d) fun _ _=>False:=fun ds d h=>by
 unfold zgF at h
 split at h
 ·cases h;exact ⟨rfl,zjc _⟩
 ·cases h
noncomputable def zhd (self:List D->Res D):FS:=(sSeq (sIf (dOrT (zal (dBlt gIsi (zab (dVar 1) (zab (dC (.ty "tuple")) dNil)))) (zal (dBlt gIsi (zab (dVar 1) (zab (dC (.ty "list")) dNil))))) (sSeq (sIf (dOrT (zal (dOp gNe (dBlt gIsi (zab (dVar 0) (zab (dC (.ty "tuple")) dNil))) (dBlt gIsi (zab (dVar 1) (zab (dC (.ty "tuple")) dNil))))) (zal (dOp gNe (dBlt gIsi (zab (dVar 0) (zab (dC (.ty "list")) dNil))) (dBlt gIsi (zab (dVar 1) (zab (dC (.ty "list")) dNil)))))) (sRet (dC (.bl false))) zaP) (sSeq (sIf (zal (dOp gNe (dBlt gLen (zab (dVar 0) dNil)) (dBlt gLen (zab (dVar 1) dNil)))) (sRet (dC (.bl false))) zaP) (sRet (dBlt gAll (zab (zbX [none,some 0,some 1] (iR1 (zab (dBlt gLen (zab (dVar 1) dNil)) dNil)) (.one 0) (zav self (zab (dOp gIx (dVar 1) (dVar 0)) (zab (dOp gIx (dVar 2) (dVar 0)) dNil)))) dNil))))) zaP) (sRet (zgy (zpv (dBlt gIsi (zab (dVar 0) (zab (dC (.ty "bool")) dNil)))) (dOp gEq (dVar 0) (dVar 1)))))
noncomputable def zcP:Nat->List D->Res D
 | 0=>fun _=>.no
 |n+1=>runD 2 2 (zhd (zcP n))
def zo4:Nat->D->Prop
 | 0,_=>False
 |n+1,d=>(∃ x,d=.str x/\asc x)\/(∃ i,d=.int i)\/∃ ds,(d=.lst ds\/d=.tup ds)/\ds.length<=1000/\∀ e∈ds,zo4 n e
theorem zjS {n:Nat}{P:Nat->Bool}(h:∀ i,i<n->P i=true):gAll [.lst ((List.range n).map fun i=>.bl (P i))]=some (.bl true):=by
 have e:((List.range n).map fun i=>D.bl (P i))=((List.range n).map P).map .bl:=by rw [List.map_map];rfl
 have ga:=zdC ((List.range n).map P);rw [<- e] at ga;have ea:((List.range n).map P).all id=true:=List.all_eq_true.mpr fun x hx=>by
  obtain ⟨i,hi,rfl⟩:=List.mem_map.mp hx;exact h i (List.mem_range.mp hi)
 rw [ea] at ga;exact ga
theorem zg0 (n:Nat):gAll [.lst ((List.range n).map fun _=>.bl true)]=some (.bl true):=zjS (P:=fun _=>true) fun _ _=>rfl
theorem zeI:∀ (n:Nat) (d:D),zo4 n d->zcP n [d,d]=.ok (.bl true)
 | 0,d,h=>h.elim
 |n+1,d,h=>by
  rcases h with ⟨x,rfl,hx⟩|⟨i,rfl⟩|⟨ds,hd,hl,he⟩
  ·have e:gEq (.str x) (.str x)=some (.bl true):=by rw [zgs (zca hx) (zca hx),zbc]
   simp [zcP,zhd,e]
  ·simp [zcP,zhd]
  ·have hr:zcQ [.int (ds.length:Int)]=.ok (zbd 0 ds.length):=by rw [zbU (by omega) (by omega),Int.toNat_natCast]
   have hz:(zbd 0 ds.length).length<sizeLine:=by rw [zes];exact zat hl
   have hm:∀ D':List D->D,(D'=.lst\/D'=.tup)->mapE (.one 0) (zav (zcP n) (zab (dOp gIx (dVar 1) (dVar 0)) (zab (dOp gIx (dVar 2) (dVar 0)) dNil))) [none,some (.val (D' ds)),some (.val (D' ds))] (zbd 0 ds.length)=.ok ((List.range ds.length).map fun _=>.bl true):=fun D' hD=>zeQ fun k hk=>by
    have e1:gIx (D' ds) (.int (k:Int))=some ds[k]:=by
     rcases hD with rfl|rfl
     ·show atI ds (k:Int)=_;rw [zbG hk,Zqg hk]
     ·show atI ds (k:Int)=_;rw [zbG hk,Zqg hk]
    have e2:=zeI n ds[k] (he _ (List.getElem_mem hk));simp [e1,e2]
   rcases hd with rfl|rfl
   ·have m:=hm D.lst (.inl rfl);simp [zcP,zhd,hr,hz,m,zg0]
   ·have m:=hm D.tup (.inr rfl);simp [zcP,zhd,hr,hz,m,zg0]
noncomputable def zmH:FS:=(sSeq (sIf (dOrT (zb7 (zal (dBlt (zf1 "Book") (zab (dVar 0) (zab (dC (.ucl "Book")) dNil))))) (dOrT (zb7 (zal (dBlt gIsi (zab (dUn (gFld "Book" "plans") (dVar 0)) (zab (dC (.ty "list")) dNil))))) (zal (dOp gNe (dBlt gLen (zab (dUn (gFld "Book" "plans") (dVar 0)) dNil)) (dBlt gLen (zab (dVar 1) dNil)))))) (sRet (dC (.bl false))) zaP) (sSeq (sFor (iR1 (zab (dBlt gLen (zab (dVar 1) dNil)) dNil)) (.one 2) (sSeq (sSet 3 (dOp gIx (dUn (gFld "Book" "plans") (dVar 0)) (dVar 2))) (sIf (dOrT (zb7 (zal (dBlt (zf1 "Plan") (zab (dVar 3) (zab (dC (.ucl "Plan")) dNil))))) (zb7 (zal (zav (zcP 8) (zab (dLst (zab (dUn (gFld "Plan" "name") (dVar 3)) (zab (dUn (gFld "Plan" "givens") (dVar 3)) (zab (dUn (gFld "Plan" "rows") (dVar 3)) dNil)))) (zab (dOp gIx (dVar 1) (dVar 2)) dNil)))))) (sRet (dC (.bl false))) zaP))) (sRet (dC (.bl true)))))
noncomputable def zi3:List D->Res D:=runD 4 2 zmH
theorem zl2 {p:Pl}(h:PlT p):zo4 8 (zbN p):=by
 have hg:=h.gl;have hr:=h.rl;refine .inr (.inr ⟨_,.inl rfl,by simp,fun e he=>?_⟩);have:e=.str p.name\/e=.lst (p.givens.map .str)\/e=.lst (p.rows.map rowD):=by simpa using he
 rcases this with rfl|rfl|rfl
 ·exact .inl ⟨_,rfl,h.nm.asc⟩
 ·refine .inr (.inr ⟨_,.inl rfl,by rw [Zql];omega,fun e he=>?_⟩);obtain ⟨g,hg,rfl⟩:=List.mem_map.mp he;exact .inl ⟨_,rfl,(h.gs g hg).asc⟩
 ·refine .inr (.inr ⟨_,.inl rfl,by rw [Zql];omega,fun e he=>?_⟩);obtain ⟨r,hr,rfl⟩:=List.mem_map.mp he;obtain ⟨a,b,c,d⟩:=h.rs r hr;refine .inr (.inr ⟨_,.inr rfl,by simp,fun e he=>?_⟩);have:e=.str r.1\/e=.str r.2.1\/e=rwD r.2.2:=by simpa using he
  rcases this with rfl|rfl|rfl
  ·exact .inl ⟨_,rfl,a.asc⟩
  ·exact .inl ⟨_,rfl,b.asc⟩
  ·refine .inr (.inr ⟨_,.inr rfl,by rw [Zql];omega,fun e he=>?_⟩);obtain ⟨q,hq,rfl⟩:=List.mem_map.mp he;refine .inr (.inr ⟨_,.inr rfl,by simp,fun e he=>?_⟩);have:e=.int q.1\/e=.int q.2:=by simpa using he
   rcases this with rfl|rfl
   ·exact .inr (.inl ⟨_,rfl⟩)
   ·exact .inr (.inl ⟨_,rfl⟩)
theorem f_z36 {ps:List Pl}(h:∀ p∈ps,PlT p)(hl:ps.length<=32):zi3 [zaU ps,plsD ps]=.ok (.bl true):=by
 have i1:zf1 "Book" [zaU ps,.ucl "Book"]=some (.bl true):=by unfold zaU zf1;simp
 have e1:gLen [plsD ps]=some (.int (ps.length:Int)):=by show some (D.int ((ps.map zbN).length:Int))=_;rw [Zql]
 have hr:zcQ [.int (ps.length:Int)]=.ok (zbd 0 ps.length):=by rw [zbU (by omega) (by omega),Int.toNat_natCast]
 obtain ⟨sd,e,u2,u3,hsd⟩:=zbo (tg:=.one 2) (b:=(sSeq (sSet 3 (dOp gIx (dUn (gFld "Book" "plans") (dVar 0)) (dVar 2))) (sIf (dOrT (zb7 (zal (dBlt (zf1 "Plan") (zab (dVar 3) (zab (dC (.ucl "Plan")) dNil))))) (zb7 (zal (zav (zcP 8) (zab (dLst (zab (dUn (gFld "Plan" "name") (dVar 3)) (zab (dUn (gFld "Plan" "givens") (dVar 3)) (zab (dUn (gFld "Plan" "rows") (dVar 3)) dNil)))) (zab (dOp gIx (dVar 1) (dVar 2)) dNil)))))) (sRet (dC (.bl false))) zaP))) (ds:=zbd 0 ps.length) (sd:=[some (.val (zaU ps)),some (.val (plsD ps)),none,none])
  (P:=fun i sd=>∃ u2 u3:Option SV,sd=[some (.val (zaU ps)),some (.val (plsD ps)),u2,u3]) ⟨none,none,rfl⟩ (by
   rintro i x sd hx ⟨u2,u3,rfl⟩;obtain ⟨rfl,hi⟩:=zhU hx;have x1:gIx (.lst (ps.map zaW)) (.int (i:Int))=some (zaW ps[i]):=by
    show atI (ps.map zaW) (i:Int)=_;rw [zbG (by rw [Zql];exact hi),List.getElem?_map,Zqg hi];rfl
   have x2:gIx (plsD ps) (.int (i:Int))=some (zbN ps[i]):=by
    show atI (ps.map zbN) (i:Int)=_;rw [zbG (by rw [Zql];exact hi),List.getElem?_map,Zqg hi];rfl
   have i2:zf1 "Plan" [zaW ps[i],.ucl "Plan"]=some (.bl true):=by unfold zaW zf1;simp
   have a:=zeI 8 _ (zl2 (h _ (List.getElem_mem hi)));have a:zcP 8 [.lst [.str ps[i].name,.lst (ps[i].givens.map .str),.lst (ps[i].rows.map rowD)],zbN ps[i]]=.ok (.bl true):=a;exact ⟨[some (.val (zaU ps)),some (.val (plsD ps)),some (.val (.int (0+(i:Int)))),some (.val (zaW ps[i]))],by simp [x1,x2,i2,a],_,_,rfl⟩)
 subst hsd;simp [zi3,zmH,i1,e1,hr,e]
noncomputable def G_z0:FS:=(sSeq (sIf (dOrT (zb7 (zal (zb5 gLe gLe (dC (.int 1)) (dBlt gLen (zab (dVar 0) dNil)) (dC (.int 12))))) (dOrT (zal (dOp (gIn false) (dVar 0) (dC (.tup (List.map .str ["plan", "given", "all", "first", "part"]))))) (zal (dOp (gInS true) (dOp gIx (dVar 0) (dC (.int 0))) (dC (.str "abcdefghijklmnopqrstuvwxyz")))))) (sRet (dC (.bl false))) zaP) (sRet (dBlt gAll (zab (zbX [none] (iStr (dVar 0)) (.one 0) (dOrV (dOp (gInS false) (dVar 0) (dC (.str "abcdefghijklmnopqrstuvwxyz"))) (dOp (gInS false) (dVar 0) (dC (.str "0123456789"))))) dNil))))
noncomputable def F_z0:List D->Res D:=runD 1 1 G_z0
noncomputable def kB (x:Str):Bool:=(List.map D.str ["plan", "given", "all", "first", "part"]).any fun e=>sameD e (.str x)
def LT:List Nat:=("abcdefghijklmnopqrstuvwxyz" : Str).cps.toList
def FG:List Nat:=("0123456789" : Str).cps.toList
noncomputable def zjG (x:Str):Bool:=decide (1<=x.length/\x.length<=12)&&(!kB x&&(decide (x.cps.toList.headD 0∈LT)&&x.cps.toList.all fun c=>decide (c∈LT)||decide (c∈FG)))
theorem zmI {n:Nat}{x:Str}(h:TxtOk n x):gIn false (.str x) (.tup (List.map D.str ["plan", "given", "all", "first", "part"]))=some (.bl (kB x)):=by
 have p:plN 12 (.str x)=true:=by
  show PyData.strOk x=true;unfold PyData.strOk;rw [<- Array.all_toList,List.all_eq_true];exact fun c hc=>decide_eq_true (Nat.lt_trans (zbP.mp h.asc c hc) (by omega))
 have q:(List.map D.str ["plan", "given", "all", "first", "part"]).all (plN 12)=true:=by decide +kernel
 show (if plN 12 (.str x)&&(List.map D.str ["plan", "given", "all", "first", "part"]).all (plN 12) then some (D.bl (if false=true then _ else kB x)) else none)=_;rw [p,q];rfl
theorem f_z0 {n:Nat}{x:Str}(h:TxtOk n x)(hn:n<=1000):F_z0 [.str x]=.ok (.bl (zjG x)):=by
 have gl:=zd7 h hn;have gk:=zmI h;have ha:ascB x=true:=h.asc;unfold zjG;by_cases c:1<=x.length/\x.length<=12
 ·rw [decide_eq_true c,Bool.true_and];have c1:(1:Int)<=(x.length:Int):=by omega
  have c2:(x.length:Int)<=12:=by omega
  cases k:kB x with
  |true =>
   rw [k] at gk;simp [F_z0,G_z0,gl,c1,c2] at gk ⊢;simp [gk]
  |false =>
   rw [k] at gk;obtain ⟨c0,hx,h0,_⟩:=zlh (k:=0) h hn (by omega) (by omega);have hd:x.cps.toList.headD 0=c0:=by
    have h0:x.cps.toList[0]? = some c0:=h0;cases l:x.cps.toList with
    |nil=>rw [l] at h0;cases h0
    |cons a l'=>rw [l] at h0;exact Zqi h0
   have gi:=zdF true c0 "abcdefghijklmnopqrstuvwxyz";rw [hd];have key:mapE (.one 0) (dOrV (dOp (gInS false) (dVar 0) (dC (.str "abcdefghijklmnopqrstuvwxyz"))) (dOp (gInS false) (dVar 0) (dC (.str "0123456789")))) [none] (chD x)=.ok ((x.cps.toList.map fun c=>decide (c∈LT)||decide (c∈FG)).map .bl):=by
    rw [List.map_map];refine zbq fun c _=>?_;have g1:=zdF false c "abcdefghijklmnopqrstuvwxyz";have g2:=zdF false c "0123456789";have g1:gInS false (.str ⟨#[c]⟩) (.str "abcdefghijklmnopqrstuvwxyz")=some (.bl (decide (c∈LT))):=g1;have g2:gInS false (.str ⟨#[c]⟩) (.str "0123456789")=some (.bl (decide (c∈FG))):=g2;cases p:decide (c∈LT) with
    |true=>rw [p] at g1;simp [g1,p]
    |false=>rw [p] at g1;simp [g1,g2,p]
   have ga:=zdC (x.cps.toList.map fun c=>decide (c∈LT)||decide (c∈FG));have ea:(x.cps.toList.map fun c=>decide (c∈LT)||decide (c∈FG)).all id=x.cps.toList.all fun c=>decide (c∈LT)||decide (c∈FG):=by rw [List.all_map];rfl
   rw [ea] at ga;generalize (x.cps.toList.map fun c=>decide (c∈LT)||decide (c∈FG)).map D.bl=bs at key ga;have lz:(chD x).length<sizeLine:=zat (by unfold chD;rw [Zql,Array.length_toList];have:x.length=x.cps.size:=rfl;omega);have gi:gInS true (.str ⟨#[c0]⟩) (.str "abcdefghijklmnopqrstuvwxyz")=some (.bl (!decide (c0∈LT))):=gi;cases p:decide (c0∈LT) with
   |true =>
    rw [p] at gi;simp [F_z0,G_z0,gl,c1,c2] at gk hx ⊢;simp [gk,hx,gi,ha,lz,key,ga]
   |false =>
    rw [p] at gi;simp [F_z0,G_z0,gl,c1,c2] at gk hx ⊢;simp [gk,hx,gi]
 ·rw [decide_eq_false c,Bool.false_and];have c3:¬ ((1:Int)<=(x.length:Int)/\(x.length:Int)<=12):=by omega
  by_cases c1:(1:Int)<=(x.length:Int)
  ·have c2:¬ (x.length:Int)<=12:=fun z=>c3 ⟨c1,z⟩;simp [F_z0,G_z0,gl,c1,c2]
  ·simp [F_z0,G_z0,gl,c1]
noncomputable def zjh:FS:=(sSeq (sSet 2 (dSlS (dVar 1) (ziG (dBlt gLen (zab (dVar 0) dNil))) zcD)) (sRet (dIf (zbB (zal (dTxt zfy (dVar 1) (dVar 0))) (zal (zav F_z0 (zab (dVar 2) dNil)))) (dVar 2) (dC .non))))
noncomputable def zhi:List D->Res D:=runD 3 2 zjh
noncomputable def znu:FS:=(sRet (zgy (zb5 gLe gLe (dC (.int 1)) (dBlt gLen (zab (dVar 0) dNil)) (dC (.int 30))) (zgy (dOp gNe (dOp gIx (dVar 0) (dC (.int 0))) (dC (.str "0"))) (dBlt gAll (zab (zbX [none] (iStr (dVar 0)) (.one 0) (dOp (gInS false) (dVar 0) (dC (.str "0123456789")))) dNil)))))
noncomputable def zlX:List D->Res D:=runD 1 1 znu
noncomputable def ziF:FS:=(sSeq (sIf (zal (zav F_z0 (zab (dVar 0) dNil))) (sRet (dTup (zab (dVar 0) (zab (dC (.int 0)) dNil)))) zaP) (sSeq (sFor (iS (dTup (zab (dC (.str "+")) (zab (dC (.str "-")) dNil)))) (.one 1) (sSeq (sSet 2 (dTxt zcC (dVar 0) (dVar 1))) (sIf (zbB (zal (dOp gEq (dBlt gLen (zab (dVar 2) dNil)) (dC (.int 2)))) (zbB (zal (zav F_z0 (zab (dOp gIx (dVar 2) (dC (.int 0))) dNil))) (zal (zav zlX (zab (dOp gIx (dVar 2) (dC (.int 1))) dNil))))) (sRet (dTup (zab (dOp gIx (dVar 2) (dC (.int 0))) (zab (dBlt zlg (zab (dOp gAdd (dVar 1) (dOp gIx (dVar 2) (dC (.int 1)))) dNil)) dNil)))) zaP))) (sRet (dC .non))))
noncomputable def zfL:List D->Res D:=runD 3 1 ziF
noncomputable def zmB:FS:=(sSeq (sSet 3 (zbX [none] (iS (dTxt zcC (dTxt zi9 (dC (.str " ")) (dVar 2)) (dC (.str ", ")))) (.one 0) (zav zfL (zab (dVar 0) dNil)))) (sRet (dIf (zal (dOp (gIn false) (dC .non) (dVar 3))) (dC .non) (dTup (zab (dVar 0) (zab (dVar 1) (zab (dVar 3) dNil)))))))
noncomputable def zkL:List D->Res D:=runD 4 3 zmB
noncomputable def ziI:FS:=(sSeq (sSet 1 (dTxt zcC (dVar 0) (dC (.str " ")))) (sSeq (sIf (dOrT (zal (dOp gLt (dBlt gLen (zab (dVar 1) dNil)) (dC (.int 4)))) (dOrT (zal (dOp gNe (dOp gIx (dVar 1) (dC (.int 0))) (dC (.str "")))) (zb7 (zal (zav F_z0 (zab (dOp gIx (dVar 1) (dC (.int 1))) dNil)))))) (sRet (dC .non)) zaP) (sSeq (sIf (zal (dOp (gIn false) (dOp gIx (dVar 1) (dC (.int 2))) (dTup (zab (dC (.str "all")) (zab (dC (.str "first")) dNil))))) (sRet (zav zkL (zab (dOp gIx (dVar 1) (dC (.int 1))) (zab (dOp gIx (dVar 1) (dC (.int 2))) (zab (dSl (dVar 1) (ziG (dC (.int 3))) zcD zcD) dNil))))) zaP) (sSeq (sIf (zbB (zal (dOp gEq (dOp gIx (dVar 1) (dC (.int 2))) (dC (.str "part")))) (zal (zav F_z0 (zab (dOp gIx (dVar 1) (dC (.int 3))) dNil)))) (sRet (zav zkL (zab (dOp gIx (dVar 1) (dC (.int 1))) (zab (dOp gIx (dVar 1) (dC (.int 3))) (zab (dSl (dVar 1) (ziG (dC (.int 4))) zcD zcD) dNil))))) zaP) (sRet (dC .non))))))
noncomputable def zgL:List D->Res D:=runD 2 1 ziI
noncomputable def zgX:FVS:=(zSeq (zL (sSet 3 (zav zhi (zab (dC (.str " given ")) (zab (dVar 2) dNil))))) (zSeq (zL (sSet 4 (zav zgL (zab (dVar 2) dNil)))) (zSeq (zIf (vRdT 6 [0] (zbB (zal (dUn (gIsN true) (dVar 3))) (zal (dOp gEq (dUn (gFld "Draft" "rows") (dVar 0)) (dLst dNil))))) (zSeq (zApp (vFld "Draft" "givens" (vL (dVar 0))) (vL (dVar 3))) (zRet (vL (dC (.bl true))))) zcI) (zSeq (zIf (vLT (zal (dUn (gIsN true) (dVar 4)))) (zSeq (zApp (vFld "Draft" "rows" (vL (dVar 0))) (vL (dTup (zab (dVar 1) (zab (dVar 4) dNil))))) (zRet (vL (dC (.bl true))))) zcI) (zRet (vL (dC (.bl false))))))))
noncomputable def zk6:List D->HP->Wr (D×HP):=runV 5 3 zgX
noncomputable def zgQ:FVS:=(zSeq (zL (sSet 3 (zav zhi (zab (dC (.str "plan ")) (zab (dVar 2) dNil))))) (zSeq (zIf (vLT (zal (dUn (gIsN true) (dVar 3)))) (zSeq (zApp (vL (dVar 0)) (zlm "Draft" zff (zaq (vL (dVar 3)) vNil))) (zRet (vL (dC (.bl true))))) zcI) (zRet (vAnd (vRd 6 [0] (dOp gNeL (dVar 0) (dLst dNil))) (zcq zk6 (zaq (vIx (vL (dVar 0)) (vL (dUn gNeg (dC (.int 1))))) (zaq (vL (dVar 1)) (zaq (vL (dVar 2)) vNil))))))))
noncomputable def zdL:List D->HP->Wr (D×HP):=runV 4 3 zgQ
noncomputable def ziB:FVS:=(zSeq (zSet 1 (vLst vNil)) (zSeq (zFor (iEn1 (zab (dTxt zcC (dVar 0) (dC (.str "\n"))) dNil)) (.tup [2,3]) (zIf (zm7 (zgY (zcq zdL (zaq (vL (dVar 1)) (zaq (vL (dVar 2)) (zaq (vL (dVar 3)) vNil)))))) (zL sNo) zcI)) (zRet (vL (dVar 1)))))
def DrT (ds:List D)(d:D):Prop:=ds.length=1/\((ziB (zaS 4 ds) []).bind outZ).need (fun p=>dr p.2 6 p.1=d) fun _ _=>False
open Classical in
noncomputable def zgd:List D->Res D:=fun ds=>if h:∃ d,DrT ds d then .ok (choose h) else .no
theorem w_z11:∀ ds d,zgd ds=.ok d->ds.length=1/\((ziB (zaS 4 ds) []).bind outZ).need (fun p=>dr p.2 6 p.1=d) fun _ _=>False:=fun ds d h=>by
 unfold zgd at h
 split at h
 ·rename_i e;have:=Classical.choose_spec e;cases h;exact this
 ·cases h
theorem x_z11:∀ ds,∀ c fs,zgd ds ≠ .ex c fs:=fun ds c fs h=>by
 unfold zgd at h
 split at h<;>cases h
noncomputable def G_z3:FS:=(sRet (zgy (dBlt gAll (zab (zbX [none] (iS (dVar 0)) (.one 0) (zav F_z0 (zab (dVar 0) dNil))) dNil)) (dOp gEq (dBlt znb (zab (dVar 0) dNil)) (dBlt gLen (zab (dVar 0) dNil)))))
noncomputable def F_z3:List D->Res D:=runD 1 1 G_z3
theorem zsk:∀ k:Fin 10,FG[k.val]? = some (48+k.val):=by decide +kernel
theorem zos {c:Nat}(h:isL c=true):c∈LT:=by
 unfold isL at h;rw [Bool.and_eq_true,decide_eq_true_eq,decide_eq_true_eq] at h;have:=zio ⟨c-97,by omega⟩;rw [show 97+(c-97)=c by omega] at this;exact List.mem_of_getElem? this
theorem zoq {c:Nat}(h:isG c=true):c∈FG:=by
 unfold isG at h;rw [Bool.and_eq_true,decide_eq_true_eq,decide_eq_true_eq] at h;have:=zsk ⟨c-48,by omega⟩;rw [show 48+(c-48)=c by omega] at this;exact List.mem_of_getElem? this
theorem zhs {x:Str}(h:zhn x=true):zjG x=true:=by
 unfold zhn at h;rw [Bool.and_eq_true,Bool.and_eq_true,Bool.and_eq_true,Bool.and_eq_true,decide_eq_true_eq,decide_eq_true_eq] at h;obtain ⟨h1,h2,h3,h4,h5⟩:=h;have k:kB x=false:=by
  unfold kB;rw [List.any_eq_false];intro d hd;obtain ⟨w,hw,rfl⟩:=List.mem_map.mp hd;have:=List.all_eq_true.mp h3 w hw;rw [Bool.not_eq_true',decide_eq_false_iff_not] at this;rw [Bool.not_eq_true,zbI];intro z;injection z with z
  exact this z
 have a:(x.cps.toList.all fun c=>decide (c∈LT)||decide (c∈FG))=true:=by
  rw [List.all_eq_true] at h5 ⊢;intro c hc;rcases Bool.or_eq_true_iff.mp (h5 c hc) with z|z
  ·rw [decide_eq_true (zos z)];rfl
  ·rw [decide_eq_true (zoq z),Bool.or_true]
 unfold zjG;rw [decide_eq_true ⟨h1,h2⟩,k,decide_eq_true (zos h4),a];rfl
theorem zk0 {xs:List Str}(h:xs.Nodup)(hl:xs.length<=999):znb [.lst (xs.map .str)]=some (.int xs.length):=by
 have e:zcr zbx (xs.map .str)=some (xs.map Sum.inr):=zdj (f:=zbx) (g:=D.str) (k:=Sum.inr) (fun _=>rfl) xs;have nd:(xs.map (Sum.inr:Str->Key)).Nodup:=by
  rw [List.nodup_iff_pairwise_ne,List.pairwise_map];exact List.Pairwise.imp (fun {a b} n z=>n (by injection z)) (List.nodup_iff_pairwise_ne.mp h)
 show (zcr zbx (xs.map .str)).bind _=_;rw [e];show (if (xs.map (Sum.inr:Str->Key)).length<=999 then _ else _)=_;rw [Zql,if_pos hl,L2.ST.dedL_nodup nd,Zql]
theorem f_z3 {xs:List Str}(h1:∀ x∈xs,nmOk x)(h2:xs.Nodup)(h3:xs.length<=60):F_z3 [.lst (xs.map .str)]=.ok (.bl true):=by
 have key:mapE (.one 0) (zav F_z0 (zab (dVar 0) dNil)) [none] (xs.map .str)=.ok ((xs.map fun _=>true).map .bl):=by
  rw [List.map_map];exact zbq fun x hx=>by
   have:=f_z0 (h1 x hx).1 (by omega);rw [zhs (h1 x hx).2] at this;simp [this]
 have ga:=zdC (xs.map fun _=>true);rw [show (xs.map fun _=>true).all id=true by rw [List.all_map,List.all_eq_true];exact fun _ _=>rfl] at ga;have gl:=zk0 h2 (by omega);have hz:(xs.map D.str).length<sizeLine:=zat (by rw [Zql];omega);have ln:gLen [.lst (xs.map .str)]=some (.int xs.length):=by rw [zmZ,Zql]
 generalize (xs.map fun _=>true).map D.bl=bs at key ga;generalize xs.map D.str=ds at key gl hz ln ⊢;simp [F_z3,G_z3,hz,key,ga,gl] at ln ⊢;simp [ln]
noncomputable def G_z2:FS:=(sSeq (sIf (zb7 (zal (zav F_z3 (zab (zbX [none] (iS (dUn (gFld "Book" "plans") (dVar 0))) (.one 0) (dUn (gFld "Plan" "name") (dVar 0))) dNil)))) sNo zaP) (sFor (iS (dUn (gFld "Book" "plans") (dVar 0))) (.one 1) (sIf (zb7 (zal (zav F_z3 (zab (dOp gAdd (dUn (gFld "Plan" "givens") (dVar 1)) (zbX [none,none,none] (iS (dUn (gFld "Plan" "rows") (dVar 1))) (.tup [0,1,2]) (dVar 0))) dNil)))) sNo zaP)))
noncomputable def F_z2:List D->Res D:=runD 2 1 G_z2
theorem f_z2 {ps:List Pl}(L:LB ps)(W:WB ps):F_z2 [zaU ps]=.ok .non:=by
 have l2:=W.l2;have hz:=zat (show ps.length<=1000 by omega);have k0:mapE (.one 0) (dUn (gFld "Plan" "name") (dVar 0)) [none] (ps.map zaW)=.ok ((ps.map (·.name)).map .str):=by
  rw [List.map_map];exact zbq fun p _=>by simp
 have a0:=f_z3 (xs:=ps.map (·.name)) (fun x hx=>by
  obtain ⟨p,hp,rfl⟩:=List.mem_map.mp hx;obtain ⟨i,P⟩:=L.mem hp;exact P.nm) W.nd (by rw [Zql];omega)
 generalize (ps.map (·.name)).map D.str=ns at k0 a0;obtain ⟨sd1,e1,u1,hsd1⟩:=zbo (tg:=.one 1) (b:=(sIf (zb7 (zal (zav F_z3 (zab (dOp gAdd (dUn (gFld "Plan" "givens") (dVar 1)) (zbX [none,none,none] (iS (dUn (gFld "Plan" "rows") (dVar 1))) (.tup [0,1,2]) (dVar 0))) dNil)))) sNo zaP)) (ds:=ps.map zaW) (sd:=[some (.val (zaU ps)),none])
  (P:=fun i sd=>∃ u1:Option SV,sd=[some (.val (zaU ps)),u1]) ⟨none,rfl⟩ (by
   rintro i x sd hx ⟨u1,rfl⟩;obtain ⟨p,hp,rfl⟩:=zcy hx;have P:=L i p hp;have hg:=P.g2;have hr2:=P.r2;have hr:=zat (show p.rows.length<=1000 by omega);have k1:mapE (.tup [0,1,2]) (dVar 0) [none,none,none] (p.rows.map rowD)=.ok ((p.rows.map (·.1)).map .str):=by
    rw [List.map_map];exact zbq fun r _=>by simp
   have ga:gAdd (.lst (p.givens.map .str)) (.lst ((p.rows.map (·.1)).map .str))=some (.lst ((p.givens++p.rows.map (·.1)).map .str)):=by
    rw [List.map_append];exact if_pos (small (by rw [Zql,Zql,Zql];omega))
   have a1:=f_z3 (xs:=p.givens++p.rows.map (·.1)) P.tn P.td (by rw [List.length_append,Zql];omega);generalize (p.givens++p.rows.map (·.1)).map D.str=zs at ga a1;generalize (p.rows.map (·.1)).map D.str=ys at k1 ga;refine ⟨[some (.val (zaU ps)),some (.val (zaW p))],?_,_,rfl⟩;simp [hr,k1,ga,a1])
 subst hsd1;simp [F_z2,G_z2,hz,k0,a0,e1]
noncomputable def G_z9:FS:=(sRet (dOp (gIn true) (dVar 0) (dTup (zab (dC (.str "all")) (zab (dC (.str "first")) dNil)))))
noncomputable def F_z9:List D->Res D:=runD 1 1 G_z9
theorem f_z9 {how:Str}(h:asc how):F_z9 [.str how]=.ok (.bl (isP how)):=by
 have p:plN 12 (.str how)=true:=zca h;have q : [D.str "all",D.str "first"].all (plN 12)=true:=by decide +kernel
 have g:gIn true (.str how) (.tup [.str "all",.str "first"])=some (.bl (isP how)):=by
  show (if plN 12 (.str how)&&[D.str "all",D.str "first"].all (plN 12) then some (D.bl (if true=true then !([D.str "all",D.str "first"].any fun e=>sameD e (.str how)) else _)) else none)=_;rw [p,q];show some (D.bl (!([D.str "all",D.str "first"].any fun e=>sameD e (.str how))))=_;unfold isP sameD
  congr 3
  have e1:decide (("all" : Str)=how)=decide (how = "all"):=decide_eq_decide.mpr eq_comm;have e2:decide (("first" : Str)=how)=decide (how = "first"):=decide_eq_decide.mpr eq_comm;simp [e1,e2]
 simp [F_z9,G_z9,g]
noncomputable def G_z6:FS:=(sSeq (sOwn 1 zgK) (sFor (iS (dUn (gFld "Book" "plans") (dVar 0))) (.one 2) (sSeq (sFor (iS (dUn (gFld "Plan" "rows") (dVar 2))) (.tup [3,4,5]) (sIf (zbB (zal (zav F_z9 (zab (dVar 4) dNil))) (zal (dOp gNe (dTmp [1] (ziT (dVar 1) (dVar 4))) (dBlt gLen (zab (dVar 5) dNil))))) sNo zaP)) (zhh 1 (dUn (gFld "Plan" "name") (dVar 2)) (dBlt gLen (zab (dUn (gFld "Plan" "givens") (dVar 2)) dNil))))))
noncomputable def F_z6:List D->Res D:=runD 6 1 G_z6
theorem zmp {ps:List Pl}(nd:(ps.map (·.name)).Nodup){x:Str}{n:Int}(h:(x,n)∈zb1 ps):lkT (zb1 ps) x=some n:=by
 unfold lkT;cases e:(zb1 ps).find? fun p=>decide (p.1=x) with
 |none=>exact absurd (decide_eq_true rfl) (List.find?_eq_none.mp e (x,n) h)
 |some q =>
  have e1:=of_decide_eq_true (List.find?_some (p:=fun p:Str×Int=>decide (p.1=x)) e);have e2:=List.mem_of_find?_eq_some e;obtain ⟨a,ha,ea⟩:=List.mem_map.mp e2;obtain ⟨b,hb,eb⟩:=List.mem_map.mp h;have nm:a.name=b.name:=((congrArg Prod.fst ea).trans e1).trans (congrArg Prod.fst eb).symm;have ab:a=b:=by
   obtain ⟨i,hi,ei⟩:=List.getElem_of_mem ha;obtain ⟨j,hj,ej⟩:=List.getElem_of_mem hb;have pw:=List.pairwise_iff_getElem.mp (List.pairwise_map.mp (List.nodup_iff_pairwise_ne.mp nd));rcases Nat.lt_trichotomy i j with z|z|z
   ·exact absurd (by rw [ei,ej];exact nm) (pw i j hi hj z)
   ·subst z;rw [<- ei,<- ej]
   ·exact absurd (by rw [ei,ej];exact nm.symm) (pw j i hj hi z)
  show some q.2=some n;rw [<- ea,ab];exact congrArg some (congrArg Prod.snd eb)
theorem zim (ps:List Pl):(zb1 ps).map (·.1)=ps.map (·.name):=by
 unfold zb1;rw [List.map_map];rfl
theorem f_z6 {ps:List Pl}(L:LB ps)(W:WB ps):F_z6 [zaU ps]=.ok .non:=by
 obtain ⟨sd1,e1,u2,u3,u4,u5,hsd1⟩:=zbo (tg:=.one 2) (b:=(sSeq (sFor (iS (dUn (gFld "Plan" "rows") (dVar 2))) (.tup [3,4,5]) (sIf (zbB (zal (zav F_z9 (zab (dVar 4) dNil))) (zal (dOp gNe (dTmp [1] (ziT (dVar 1) (dVar 4))) (dBlt gLen (zab (dVar 5) dNil))))) sNo zaP)) (zhh 1 (dUn (gFld "Plan" "name") (dVar 2)) (dBlt gLen (zab (dUn (gFld "Plan" "givens") (dVar 2)) dNil))))) (ds:=ps.map zaW)
  (sd:=[some (.val (zaU ps)),some (.own false (.dct [] [])),none,none,none,none])
  (P:=fun i sd=>∃ u2 u3 u4 u5:Option SV,sd=[some (.val (zaU ps)),some (.own false (dT (zb1 (ps.take i)))),u2,u3,u4,u5]) ⟨none,none,none,none,rfl⟩ (by
   rintro i x sd hx ⟨u2,u3,u4,u5,rfl⟩;obtain ⟨p,hp,rfl⟩:=zcy hx;have P:=L i p hp;have il:=(List.getElem?_eq_some_iff.mp hp).1;have l2:=W.l2;have nd:((ps.take i).map (·.name)).Nodup:=by
    rw [List.map_take];exact List.Sublist.nodup (List.take_sublist _ _) W.nd
   obtain ⟨t,ht⟩:∃ t,zb1 (ps.take i)=t:=⟨_,rfl⟩;have fr:p.name∉t.map (·.1):=by
    rw [<- ht,zim,<- zc7];exact W.fresh hp
   have tl:t.length<=20:=by
    rw [<- ht];unfold zb1;rw [Zql,List.length_take];omega
   have lk:∀ r∈p.rows,isP r.2.1=true->lkT t r.2.1=some (r.2.2.length:Int):=fun r hr q=>by
    rcases P.how r hr with z|z|z
    ·rw [z] at q;exact absurd q (by decide +kernel)
    ·rw [z] at q;exact absurd q (by decide +kernel)
    ·rw [<- ht];exact zmp nd z
   obtain ⟨sd2,e2,v3,v4,v5,hsd2⟩:=zbo (tg:=.tup [3,4,5]) (b:=(sIf (zbB (zal (zav F_z9 (zab (dVar 4) dNil))) (zal (dOp gNe (dTmp [1] (ziT (dVar 1) (dVar 4))) (dBlt gLen (zab (dVar 5) dNil))))) sNo zaP)) (ds:=p.rows.map rowD)
    (sd:=[some (.val (zaU ps)),some (.own false (dT t)),some (.val (zaW p)),u3,u4,u5])
    (P:=fun _ sd=>∃ u3 u4 u5:Option SV,sd=[some (.val (zaU ps)),some (.own false (dT t)),some (.val (zaW p)),u3,u4,u5]) ⟨u3,u4,u5,rfl⟩ (by
     rintro j y sd hy ⟨u3,u4,u5,rfl⟩;obtain ⟨r,hr,rfl⟩:=zcy hy;have rm:r∈p.rows:=List.mem_of_getElem? hr;have fi:=f_z9 (W.hasc hp rm);have gl:gLen [rwD r.2.2]=some (.int r.2.2.length):=by show some (D.int (r.2.2.map prD).length)=_;rw [Zql]
     refine ⟨[some (.val (zaU ps)),some (.own false (dT t)),some (.val (zaW p)),some (.val (.str r.1)),some (.val (.str r.2.1)),some (.val (rwD r.2.2))],?_,_,_,_,rfl⟩;cases q:isP r.2.1 with
     |false =>
      rw [q] at fi;simp [fi]
     |true =>
      rw [q] at fi;have v:=zgO t r.2.1;rw [lk r rm q] at v;have dt:zs8 (dT t)=.ok (t.map fun p=>.inr p.1,t.map fun p=>.int p.2):=rfl;simp [fi,gl,dt,v,zec])
   subst hsd2;have pt:=zpR fr (p.givens.length:Int);have lz:=zat (show t.length<=1000 by omega);have tk:zb1 (ps.take (i+1))=t++[(p.name,(p.givens.length:Int))]:=by
    rw [List.take_succ,hp,<- ht];unfold zb1;rw [List.map_append];rfl
   have gk:ownK (some (some (.own false (dT t))))=.ok (t.map fun p=>.inr p.1,t.map fun p=>.int p.2):=rfl;refine ⟨[some (.val (zaU ps)),some (.own false (dT (t++[(p.name,(p.givens.length:Int))]))),some (.val (zaW p)),v3,v4,v5],?_,_,_,_,_,by rw [tk]⟩;rw [<- pt,ht];simp [e2,gk,lz])
 subst hsd1;simp [F_z6,G_z6,zgK,e1]
noncomputable def G_z5:FS:=(sSeq (sSet 1 (dBlt gLen (zab (dUn (gFld "Plan" "givens") (dVar 0)) dNil))) (sFor (iS (dUn (gFld "Plan" "rows") (dVar 0))) (.tup [2,3,4]) (sSeq (sIf (zb7 (zal (zb5 gLe gLe (dC (.int 1)) (dBlt gLen (zab (dVar 4) dNil)) (dC (.int 40))))) sNo zaP) (sSeq (sFor (iS (dVar 4)) (.tup [5,6]) (sSeq (sIf (zb7 (zal (zb5 gLe gLt (dC (.int 0)) (dVar 5) (dVar 1)))) sNo zaP) (sIf (zal (dOp gGe (dBlt gAbs (zab (dVar 6) dNil)) (dOp gPow (dC (.int 10)) (dC (.int 30))))) sNo zaP))) (sAug 1 (dC (.int 1)))))))
noncomputable def F_z5:List D->Res D:=runD 7 1 G_z5
theorem f_z5 {ahead:List Pl}{p:Pl}(P:PL ahead p):F_z5 [zaW p]=.ok .non:=by
 have pw:gPow (.int 10) (.int 30)=some (.int 1000000000000000000000000000000):=rfl;obtain ⟨sd1,e1,u2,u3,u4,u5,u6,hsd1⟩:=zbo (tg:=.tup [2,3,4]) (b:=(sSeq (sIf (zb7 (zal (zb5 gLe gLe (dC (.int 1)) (dBlt gLen (zab (dVar 4) dNil)) (dC (.int 40))))) sNo zaP) (sSeq (sFor (iS (dVar 4)) (.tup [5,6]) (sSeq (sIf (zb7 (zal (zb5 gLe gLt (dC (.int 0)) (dVar 5) (dVar 1)))) sNo zaP) (sIf (zal (dOp gGe (dBlt gAbs (zab (dVar 6) dNil)) (dOp gPow (dC (.int 10)) (dC (.int 30))))) sNo zaP))) (sAug 1 (dC (.int 1)))))) (ds:=p.rows.map rowD)
  (sd:=[some (.val (zaW p)),some (.val (.int p.givens.length)),none,none,none,none,none])
  (P:=fun i sd=>∃ u2 u3 u4 u5 u6:Option SV,sd=[some (.val (zaW p)),some (.val (.int ((p.givens.length:Int)+i))),u2,u3,u4,u5,u6]) ⟨none,none,none,none,none,by simp⟩ (by
   rintro i x sd hx ⟨u2,u3,u4,u5,u6,rfl⟩;obtain ⟨r,hr,rfl⟩:=zcy hx;obtain ⟨I,n1,n2⟩:=P.its i r hr;obtain ⟨g,hg⟩:∃ g:Int,(p.givens.length:Int)+i=g:=⟨_,rfl⟩;rw [hg] at I;obtain ⟨sd2,e2,v5,v6,hsd2⟩:=zbo (tg:=.tup [5,6]) (b:=(sSeq (sIf (zb7 (zal (zb5 gLe gLt (dC (.int 0)) (dVar 5) (dVar 1)))) sNo zaP) (sIf (zal (dOp gGe (dBlt gAbs (zab (dVar 6) dNil)) (dOp gPow (dC (.int 10)) (dC (.int 30))))) sNo zaP))) (ds:=r.2.2.map prD)
    (sd:=[some (.val (zaW p)),some (.val (.int g)),some (.val (.str r.1)),some (.val (.str r.2.1)),some (.val (rwD r.2.2)),u5,u6])
    (P:=fun _ sd=>∃ u5 u6:Option SV,sd=[some (.val (zaW p)),some (.val (.int g)),some (.val (.str r.1)),some (.val (.str r.2.1)),some (.val (rwD r.2.2)),u5,u6]) ⟨u5,u6,rfl⟩ (by
     rintro j y sd hy ⟨u5,u6,rfl⟩;obtain ⟨q,hq,rfl⟩:=zcy hy;have qm:q∈r.2.2:=List.mem_of_getElem? hq;obtain ⟨a1,a2⟩:=I.rng q qm;obtain ⟨b1,b2⟩:=I.far q qm;have ab:¬ (1000000000000000000000000000000:Int)<=(if q.2<0 then -q.2 else q.2):=by split<;>omega
     refine ⟨[some (.val (zaW p)),some (.val (.int g)),some (.val (.str r.1)),some (.val (.str r.2.1)),some (.val (rwD r.2.2)),some (.val (.int q.1)),some (.val (.int q.2))],?_,_,_,rfl⟩;simp [a1,a2,pw,ab])
   subst hsd2;have c1:(1:Int)<=(r.2.2.length:Int):=by omega
   have c2:(r.2.2.length:Int)<=40:=by omega
   have eg:g+1=(p.givens.length:Int)+((i+1:Nat):Int):=by omega
   refine ⟨[some (.val (zaW p)),some (.val (.int (g+1))),some (.val (.str r.1)),some (.val (.str r.2.1)),some (.val (rwD r.2.2)),v5,v6],?_,_,_,_,_,_,by rw [eg]⟩;have gl:gLen [rwD r.2.2]=some (.int r.2.2.length):=by show some (D.int (r.2.2.map prD).length)=_;rw [Zql]
   rw [hg];simp [gl,c1,c2,e2])
 subst hsd1;simp [F_z5,G_z5,e1]
noncomputable def G_z4:FS:=(sSeq (sIf (zb7 (zal (zb5 gLe gLe (dC (.int 1)) (dBlt gLen (zab (dUn (gFld "Book" "plans") (dVar 0)) dNil)) (dC (.int 20))))) sNo zaP) (sFor (iS (dUn (gFld "Book" "plans") (dVar 0))) (.one 1) (sSeq (sIf (zb7 (zal (zb5 gLe gLe (dC (.int 1)) (dBlt gLen (zab (dUn (gFld "Plan" "givens") (dVar 1)) dNil)) (dC (.int 12))))) sNo zaP) (sSeq (sIf (zb7 (zal (zb5 gLe gLe (dC (.int 1)) (dBlt gLen (zab (dUn (gFld "Plan" "rows") (dVar 1)) dNil)) (dC (.int 40))))) sNo zaP) (zfP (zav F_z5 (zab (dVar 1) dNil)))))))
noncomputable def F_z4:List D->Res D:=runD 2 1 G_z4
theorem f_z4 {ps:List Pl}(L:LB ps)(l1:1<=ps.length)(l2:ps.length<=20):F_z4 [zaU ps]=.ok .non:=by
 obtain ⟨sd1,e1,u1,hsd1⟩:=zbo (tg:=.one 1) (b:=(sSeq (sIf (zb7 (zal (zb5 gLe gLe (dC (.int 1)) (dBlt gLen (zab (dUn (gFld "Plan" "givens") (dVar 1)) dNil)) (dC (.int 12))))) sNo zaP) (sSeq (sIf (zb7 (zal (zb5 gLe gLe (dC (.int 1)) (dBlt gLen (zab (dUn (gFld "Plan" "rows") (dVar 1)) dNil)) (dC (.int 40))))) sNo zaP) (zfP (zav F_z5 (zab (dVar 1) dNil)))))) (ds:=ps.map zaW) (sd:=[some (.val (zaU ps)),none])
  (P:=fun i sd=>∃ u1:Option SV,sd=[some (.val (zaU ps)),u1]) ⟨none,rfl⟩ (by
   rintro i x sd hx ⟨u1,rfl⟩;obtain ⟨p,hp,rfl⟩:=zcy hx;have P:=L i p hp;have fi:=f_z5 P;have g1:=P.g1;have g2:=P.g2;have r1:=P.r1;have r2:=P.r2;have a1:(1:Int)<=(p.givens.length:Int):=by omega
   have a2:(p.givens.length:Int)<=12:=by omega
   have a3:(1:Int)<=(p.rows.length:Int):=by omega
   have a4:(p.rows.length:Int)<=40:=by omega
   refine ⟨[some (.val (zaU ps)),some (.val (zaW p))],?_,_,rfl⟩;simp [a1,a2,a3,a4,fi])
 subst hsd1;have b1:(1:Int)<=(ps.length:Int):=by omega
 have b2:(ps.length:Int)<=20:=by omega
 simp [F_z4,G_z4,b1,b2,e1]
noncomputable def G_z8:FS:=(sSeq (sOwn 1 zgK) (sSeq (sFor (iS (dUn (gFld "Book" "plans") (dVar 0))) (.one 2) (sSeq (sOwn 3 (zjF [1] (zdR [none,none,none,some 1] (iS (dUn (gFld "Plan" "rows") (dVar 2))) (.tup [0,1,2]) (zal (zav F_z9 (zab (dVar 1) dNil))) (dOp gIx (dVar 3) (dVar 1))))) (zhh 1 (dUn (gFld "Plan" "name") (dVar 2)) (dOp gAdd (dBlt gLen (zab (dUn (gFld "Plan" "rows") (dVar 2)) dNil)) (dTmp [3] (dBlt gSum (zab (dVar 3) dNil))))))) (zcM 1)))
noncomputable def F_z8:List D->Res D:=runN 4 1 G_z8
theorem f_z8 {ps:List Pl}(W:WB ps):F_z8 [zaU ps]=.ok (dT (wtF ps)):=by
 obtain ⟨sd1,e1,u2,u3,hsd1⟩:=zbo (tg:=.one 2) (b:=(sSeq (sOwn 3 (zjF [1] (zdR [none,none,none,some 1] (iS (dUn (gFld "Plan" "rows") (dVar 2))) (.tup [0,1,2]) (zal (zav F_z9 (zab (dVar 1) dNil))) (dOp gIx (dVar 3) (dVar 1))))) (zhh 1 (dUn (gFld "Plan" "name") (dVar 2)) (dOp gAdd (dBlt gLen (zab (dUn (gFld "Plan" "rows") (dVar 2)) dNil)) (dTmp [3] (dBlt gSum (zab (dVar 3) dNil))))))) (ds:=ps.map zaW)
  (sd:=[some (.val (zaU ps)),some (.own false (.dct [] [])),none,none])
  (P:=fun i sd=>∃ (u2 u3:Option SV),sd=[some (.val (zaU ps)),some (.own false (dT (wtF (ps.take i)))),u2,u3]) ⟨none,none,rfl⟩ (by
   rintro i x sd hx ⟨u2,u3,rfl⟩;obtain ⟨p,hp,rfl⟩:=zcy hx;have pm:p∈ps:=List.mem_of_getElem? hp;obtain ⟨t,ht⟩:∃ t,wtF (ps.take i)=t:=⟨_,rfl⟩;have fr:=W.fresh hp;have tl:=zrD W i;have prt:∀ r∈p.rows,(lkT t r.2.1).isSome=isP r.2.1:=fun r hr=>by rw [<- ht];exact W.part hp hr
   rw [ht] at fr tl;have hz:=zat (show p.rows.length<=1000 by have:=(W.sz p pm).1;omega);have key:zez (.tup [0,1,2]) (zal (zav F_z9 (zab (dVar 1) dNil))) (dOp gIx (dVar 3) (dVar 1)) [none,none,none,some (.val (dT t))] (p.rows.map rowD)=.ok ((p.rows.filter fun r=>isP r.2.1).map fun r=>D.int ((lkT t r.2.1).getD 0)):=zn0 (s:=fun r=>[some (.val (.str r.1)),some (.val (.str r.2.1)),some (.val (rwD r.2.2)),some (.val (dT t))]) (fun r _=>by simp) (fun r hr=>by
    have:=f_z9 (W.hasc hp hr);simp [this]) (fun r hr q=>by
    have h:=prt r hr;rw [q] at h;obtain ⟨v,hv⟩:=Option.isSome_iff_exists.mp h;simp [hv])
   have fl:=zjd (fun r:Str×Str×List (Int×Int)=>(lkT t r.2.1).getD 0) (p.rows.filter fun r=>isP r.2.1);have gs:=zm0 (fun r:Str×Str×List (Int×Int)=>(lkT t r.2.1).getD 0) (p.rows.filter fun r=>isP r.2.1);have pt:=zpR fr (wt1 t p);have lz:=zat (show t.length<=1000 by omega);have tk:ps.take (i+1)=ps.take i++[p]:=by rw [List.take_succ,hp];rfl
   have en:wtF (ps.take (i+1))=t++[(p.name,wt1 t p)]:=by rw [tk,zfc,ht]
   refine ⟨[some (.val (zaU ps)),some (.own false (dT (wtF (ps.take (i+1))))),some (.val (zaW p)),some (.own false (.lst ((p.rows.filter fun r=>isP r.2.1).map fun r=>D.int ((lkT t r.2.1).getD 0))))],?_,_,_,rfl⟩;rw [en,<- pt,ht];simp [key,hz,fl,gs];simp [dT,lz,wt1])
 rw [Zql,List.take_length] at hsd1;subst hsd1;simp [F_z8,G_z8,zgK,e1]
noncomputable def G_z7:FS:=(sFor (iIt (zav F_z8 (zab (dVar 0) dNil))) (.tup [1,2]) (sIf (zal (dOp gGt (dVar 2) (dC (.int 2000)))) sNo zaP))
noncomputable def F_z7:List D->Res D:=runD 3 1 G_z7
theorem zoC (t:List (Str×Int)):zeo (t.map fun p=>.inr p.1) (t.map fun p=>.int p.2)=t.map fun p=>D.tup [.str p.1,.int p.2]:=by
 unfold zeo;rw [List.zipWith_map]
 induction t with
 |nil=>rfl
 |cons p t ih=>rw [List.zipWith_cons_cons,ih];rfl
theorem f_z7 {ps:List Pl}(L:LB ps)(W:WB ps):F_z7 [zaU ps]=.ok .non:=by
 have fw:=f_z8 W;obtain ⟨t,ht⟩:∃ t,wtF ps=t:=⟨_,rfl⟩;have wt:=L.wts;rw [ht] at fw wt;obtain ⟨sd1,e1,u1,u2,hsd1⟩:=zbo (tg:=.tup [1,2]) (b:=(sIf (zal (dOp gGt (dVar 2) (dC (.int 2000)))) sNo zaP)) (ds:=t.map fun p=>D.tup [.str p.1,.int p.2])
  (sd:=[some (.val (zaU ps)),none,none])
  (P:=fun _ sd=>∃ u1 u2:Option SV,sd=[some (.val (zaU ps)),u1,u2]) ⟨none,none,rfl⟩ (by
   rintro i x sd hx ⟨u1,u2,rfl⟩;obtain ⟨q,hq,rfl⟩:=zcy hx;have:=wt q (List.mem_of_getElem? hq);have c:¬ (2000:Int)<q.2:=by omega
   refine ⟨[some (.val (zaU ps)),some (.val (.str q.1)),some (.val (.int q.2))],?_,_,_,rfl⟩;simp [c])
 subst hsd1;have it:zhR (dT t)=.ok (t.map fun p=>D.tup [.str p.1,.int p.2]):=by rw [<- zoC];rfl
 simp [F_z7,G_z7,fw,it,e1]
noncomputable def G_z1:FS:=(sSeq (zfP (zav F_z2 (zab (dVar 0) dNil))) (sSeq (zfP (zav F_z4 (zab (dVar 0) dNil))) (sSeq (zfP (zav F_z6 (zab (dVar 0) dNil))) (zfP (zav F_z7 (zab (dVar 0) dNil))))))
noncomputable def F_z1:List D->Res D:=runD 1 1 G_z1
theorem f_z1 {ps:List Pl}(L:LB ps)(l1:1<=ps.length)(l2:ps.length<=20):F_z1 [zaU ps]=.ok .non:=by
 have W:=L.wb l1 l2;have a:=f_z2 L W;have b:=f_z4 L l1 l2;have c:=f_z6 L W;have d:=f_z7 L W;simp [F_z1,G_z1,a,b,c,d]
noncomputable def zmq:FS:=(sSeq (sFor (iS (dVar 0)) (.tup [3,4]) (sIf (zal (dOp (gIn true) (dVar 3) (dVar 1))) sNo zaP)) (sRet (dBlt zfQ (zab (zbX [none,none,some 1] (iS (dVar 0)) (.tup [0,1]) (dTup (zab (dOp gIx (dVar 2) (dVar 0)) (zab (dVar 1) dNil)))) dNil))))
noncomputable def zi1:List D->Res D:=runD 5 3 zmq
noncomputable def znp:FS:=(sSeq (sOwn 1 zgK) (sSeq (sFor (iEn (zab (dVar 0) dNil)) (.tup [2,3]) (zdn 1 (dVar 3) (dVar 2))) (zcM 1)))
noncomputable def zml:List D->Res D:=runN 4 1 znp
noncomputable def zjf:FVS:=(zSeq (zL (sSet 1 (zav zml (zab (dOp gAdd (dUn (gFld "Draft" "givens") (dVar 0)) (zbX [none,none] (iS (dUn (gFld "Draft" "rows") (dVar 0))) (.tup [0,1]) (dOp gIx (dVar 1) (dC (.int 0))))) dNil)))) (zSeq (zL (sOwn 2 (dLst dNil))) (zSeq (zL (sFor (iS (dUn (gFld "Draft" "rows") (dVar 0))) (.tup [3,4]) (zcm 2 (dTup (zab (dOp gIx (dVar 4) (dC (.int 0))) (zab (dOp gIx (dVar 4) (dC (.int 1))) (zab (zav zi1 (zab (dOp gIx (dVar 4) (dC (.int 2))) (zab (dVar 1) (zab (dVar 3) dNil)))) dNil))))))) (fun sd hp=>(zRet (zlm "Plan" zeY (zaq (vL (dUn (gFld "Draft" "name") (dVar 0))) (zaq (vL (dUn (gFld "Draft" "givens") (dVar 0))) (zaq (vL (dVar 2)) vNil))))) (frzD [2] sd) hp))))
noncomputable def zfM:List D->HP->Wr (D×HP):=runV 5 1 zjf
noncomputable def zjP:FVS:=(zSeq (zSet 1 (zlm "Book" zdJ (zaq (zne [none] (iS (zav zgd (zab (dVar 0) dNil))) (.one 0) (zcq zfM (zaq (vL (dVar 0)) vNil))) vNil))) (zSeq (ziH (vRd 8 [1] (zav F_z1 (zab (dVar 1) dNil)))) (zRet (vL (dVar 1)))))
noncomputable def ziW:List D->HP->Wr (D×HP):=runV 2 1 zjP
theorem zjC {x s:Str}{i:Nat}:StrLaws.At x s x.length i↔i+s.length<=x.length/\(x.cps.toList.drop i).take s.length=s.cps.toList:=by
 unfold StrLaws.At;rw [StrLaws.subAt_eq,beq_iff_eq]
theorem zhx {x s:Str}{c:Nat}{t:List Nat}(hs:s.cps.toList=c::t):∀ (rs:List Str) (r:Str) (a:Nat) (cuts:List Nat) (f:Nat),a<=x.length->x.cps.toList.drop a=(Txt.join s (r::rs)).cps.toList->(∀ p∈r::rs,c∉p.cps.toList)->StrLaws.ChainG x s x.length a cuts f->(∀ k,f<=k->¬ StrLaws.At x s x.length k)->StrLaws.partsFrom x s.length a cuts=r::rs
 | [],r,a,[],f,ha,hx,fr,hG,hn=>by
  show [Builtin.Str.strSub x a x.length]=[r]
  congr 1
  apply zby;rw [StrLaws.strSub_toList,hx,zbe];apply List.take_of_length_le;have:=congrArg List.length hx;rw [zbe,List.length_drop] at this;rw [<- this];exact Nat.le_refl _
 | [],r,a,d::cs,f,ha,hx,fr,hG,hn=>by
  exfalso;have h2:=(zjC.mp hG.2.1).2;have e:x.cps.toList.drop d=r.cps.toList.drop (d-a):=by
   rw [<- zbe s r,<- hx,List.drop_drop]
   congr 1
   have:=hG.1;omega
  rw [e,hs] at h2;have:c∈(r.cps.toList.drop (d-a)).take s.length:=by rw [h2];exact Zqs
  exact fr r Zqs (List.mem_of_mem_drop (List.mem_of_mem_take this))
 |r2::rs,r,a,cuts,f,ha,hx,fr,hG,hn=>by
  rw [zbw,za6,za6] at hx;have sl:s.length=t.length+1:=by
   show s.cps.size=_;rw [<- Array.length_toList,hs];rfl
  have rl:r.length=r.cps.toList.length:=(Array.length_toList).symm;have lx:=congrArg List.length hx;have xl:x.cps.toList.length=x.length:=Array.length_toList;have sl':s.cps.toList.length=s.length:=Array.length_toList;rw [List.length_drop,List.length_append,List.length_append,xl,sl'] at lx;have hd:x.cps.toList.drop (a+r.length)=s.cps.toList++(Txt.join s (r2::rs)).cps.toList:=by
   rw [<- List.drop_drop,hx,rl,List.append_assoc,List.drop_left]
  have hA:StrLaws.At x s x.length (a+r.length):=by
   refine zjC.mpr ⟨by omega,?_⟩;rw [hd,<- sl',List.take_left]
  have no:∀ k,a<=k->k<a+r.length->¬ StrLaws.At x s x.length k:=fun k h1 h2 hk=>by
   have h3:=(zjC.mp hk).2;have e:x.cps.toList.drop k=(r.cps.toList++(s.cps.toList++(Txt.join s (r2::rs)).cps.toList)).drop (k-a):=by
    rw [<- List.append_assoc,<- hx,List.drop_drop]
    congr 1
    omega
   rw [e,List.drop_append_of_le_length (by omega),hs,sl] at h3;obtain ⟨b,l,hl⟩:∃ b l,r.cps.toList.drop (k-a)=b::l:=by
    cases hb:r.cps.toList.drop (k-a) with
    |nil =>
     have z:=congrArg List.length hb;rw [List.length_drop,List.length_nil] at z;omega
    |cons b l=>exact ⟨b,l,rfl⟩
   rw [hl,List.cons_append,List.take_succ_cons] at h3;injection h3 with h4 _
   exact fr r Zqs (List.mem_of_mem_drop (by rw [hl,h4];exact Zqs))
  cases cuts with
  |nil =>
   have ef:f=a:=hG;exact absurd hA (hn _ (by omega))
  |cons d cs =>
   obtain ⟨g1,g2,g3,g4⟩:=hG;have ed:d=a+r.length:=by
    rcases Nat.lt_trichotomy d (a+r.length) with h|h|h
    ·exact absurd g2 (no d g1 h)
    ·exact h
    ·exact absurd hA (g3 _ (by omega) h)
   subst ed;have e1:Builtin.Str.strSub x a (a+r.length)=r:=by
    apply zby;rw [StrLaws.strSub_toList,hx,show a+r.length-a=r.cps.toList.length by omega,List.append_assoc,List.take_left]
   show Builtin.Str.strSub x a (a+r.length)::StrLaws.partsFrom x s.length (a+r.length+s.length) cs=_;rw [e1,zhx hs rs r2 (a+r.length+s.length) cs f (by omega) (by rw [<- List.drop_drop,hd,<- sl',List.drop_left]) (fun p hp=>fr p (Zqm _ hp)) g4 hn]
theorem zbi {s:Str}{c:Nat}{t:List Nat}(hs:s.cps.toList=c::t)(hk:s.cps.all (· < 256)=true){r:Str}{rs:List Str}(fr:∀ p∈r::rs,c∉p.cps.toList):Txt.split (Txt.join s (r::rs)) s=r::rs:=by
 have sl:s.length=t.length+1:=by
  show s.cps.size=_;rw [<- Array.length_toList,hs];rfl
 obtain ⟨f,hG,hn⟩:=StrLaws.occ_tight (Txt.join s (r::rs)) s (by omega);have key:=zhx hs rs r 0 _ f (Nat.zero_le _) rfl fr hG hn;unfold Txt.split
 split
 ·rename_i hc;cases rs with
  |nil=>rw [zbe]
  |cons r2 rs =>
   rw [zbw] at hc;simp only [Bool.or_eq_true,decide_eq_true_eq,za9] at hc;rcases hc with h|h
   ·omega
   ·exfalso;unfold Builtin.Str.strKind at h;rw [if_pos hk] at h
    split at h
    ·omega
    ·split at h<;>omega
 ·split
  ·rename_i he;rw [List.isEmpty_iff.mp he] at key;refine Eq.trans ?_ key;show [_]=[_];rw [StrLaws.sub_whole]
  ·rw [StrLaws.partsBetween_eq];exact key
theorem ziM (a b:Str):Txt.startswith (a++b) a=true:=by
 show (decide (0+a.length<=(a++b).length)&&Builtin.Str.subAt (a++b) a 0)=true;rw [StrLaws.subAt_eq,za9,decide_eq_true (by omega),Bool.true_and,beq_iff_eq,za6,List.drop_zero];exact (congrArg (List.take · _) rfl).trans (by rw [show a.length=a.cps.toList.length from (Array.length_toList).symm,List.take_left])
theorem zeG {x y:Str}(h:(x.cps.toList).take y.length≠y.cps.toList):Txt.startswith x y=false:=by
 show (decide (0+y.length<=x.length)&&Builtin.Str.subAt x y 0)=false;rw [StrLaws.subAt_eq,List.drop_zero,beq_eq_false_iff_ne.mpr h,Bool.and_false]
theorem zjl {x y:Str}(hx:asc x)(hy:asc y):gNe (.str x) (.str y)=some (.bl (!decide (x=y))):=by
 rw [zjA (zca hx) (zca hy)];by_cases z:x=y
 ·rw [z,zbc,decide_eq_true rfl]
 ·rw [decide_eq_false z,zbI.mpr fun q=>z (D.str.inj q)]
theorem zov {x y:Str}(hx:asc x)(hy:asc y):gEq (.str x) (.str y)=some (.bl (decide (x=y))):=by
 rw [zgs (zca hx) (zca hy)];by_cases z:x=y
 ·rw [z,zbc,decide_eq_true rfl]
 ·rw [decide_eq_false z,zbI.mpr fun q=>z (D.str.inj q)]
theorem ziQ (a b:Str):Txt.slice (a++b) (some (a.length:Int)) none=b:=by
 have l:(a++b).cps.toList.length=a.length+b.length:=by rw [Array.length_toList];exact za9 a b
 have e:Txt.slice (a++b) (some (a.length:Int)) none=StrLaws.sliceText (a++b) (some (a.length:Int)) none:=rfl;rw [e,StrLaws.sliceText_from ⟨by omega,by rw [l];omega⟩];apply zby;show (((a++b).cps.toList.drop _).take _)=_;rw [l,za6,Int.toNat_natCast,show a.length=a.cps.toList.length from (Array.length_toList).symm,List.drop_left];refine List.take_of_length_le ?_;have:b.length=b.cps.toList.length:=(Array.length_toList).symm;omega
theorem zii {x y:Str}(hx:x.cps.toList=43::y.cps.toList)(hd:NumText.AllDigits y.cps.toList):intText? x=intText? y:=by
 have low:∀ c∈x.cps.toList,43<=c/\c<58:=by
  rw [hx];intro c hc;rcases List.mem_cons.mp hc with z|z
  ·omega
  ·have:=hd c z;omega
 have n1:numTextOf x=x.cps.toList:=if_pos (by
  rw [<- Array.all_toList,List.all_eq_true];intro c hc;have:=low c hc;exact decide_eq_true (by omega))
 have n2:numSeenOf x=x.cps.toList:=by
  show (numTextOf x).takeWhile _=_;rw [n1];exact NumText.takeWhile_all fun c hc=>bne_iff_ne.mpr (by have:=low c hc;omega)
 obtain ⟨m1,m2⟩:=numText_signs (x:=y) fun c hc=>.inr (hd c hc);have s1:NumText.sign (x.cps.toList.dropWhile NumText.blank)=(false,y.cps.toList):=by rw [hx,NumText.dropWhile_of (by decide)];rfl
 have s2:(NumText.sign (y.cps.toList.dropWhile NumText.blank))=(false,y.cps.toList):=by
  rw [NumText.dropWhile_digits hd];cases h:y.cps.toList with
  |nil=>rfl
  |cons c cs =>
   have:=(h ▸ hd).head;exact NumText.sign_of (by omega) (by omega)
 unfold intText?;rw [n1,n2,m1,m2,show NumText.core x.cps.toList=NumText.core y.cps.toList by unfold NumText.core;rw [s1,s2],s1,s2,beq_self_eq_true,beq_self_eq_true]
theorem zhu:∀ m:Nat,1<=m->((Nat.toDigits 10 m).map Char.toNat).headD 0≠48
 |m,h=>by
  by_cases g:m<10
  ·rw [Nat.toDigits_of_lt_base g];have:∀ k:Fin 10,1<=k.val->([Nat.digitChar k.val].map Char.toNat).headD 0≠48:=by decide
   exact this ⟨m,g⟩ h
  ·rw [Nat.toDigits_of_base_le (by omega) (by omega),List.map_append];have ih:=zhu (m / 10) (by omega);cases e:(Nat.toDigits 10 (m / 10)).map Char.toNat with
   |nil =>
    have:=congrArg List.length e;rw [Zql,List.length_nil] at this;have:=Nat.length_toDigits_pos (b:=10) (n:=m / 10);omega
   |cons c cs=>rw [e] at ih;exact ih
termination_by m=>m
theorem zkK:∀ (k m:Nat),m<10 ^ (k+1)->(Nat.toDigits 10 m).length<=k+1
 | 0,m,h=>by rw [Nat.toDigits_of_lt_base (by omega)];exact Nat.le_refl _
 |k+1,m,h=>by
  by_cases g:m<10
  ·rw [Nat.toDigits_of_lt_base g];exact Nat.le_add_left _ _
  ·rw [Nat.toDigits_of_base_le (by omega) (by omega),List.length_append];have:=zkK k (m / 10) (by rw [Nat.pow_succ] at h;omega);exact Nat.add_le_add_right this 1
theorem zp2 (m:Nat):1<=((Nat.toDigits 10 m).map Char.toNat).length:=by
 rw [Zql];exact Nat.length_toDigits_pos
theorem zjn (m:Nat):NumText.AllDigits (numT (m:Int)).cps.toList:=by
 rw [zdf];intro c hc;obtain ⟨d,h1,rfl⟩:=List.mem_map.mp hc;have:=Nat.isDigit_of_mem_toDigits (by decide) (by decide) h1;simp only [Char.isDigit,ge_iff_le,Bool.and_eq_true,decide_eq_true_eq] at this;exact ⟨this.1,this.2⟩
structure FigT (d:Str)(m:Nat):Prop where
 lo:1<=d.length
 hi:d.length<=30
 hd:d.cps.toList.headD 0≠48
 all:NumText.AllDigits d.cps.toList
 val:NumText.digitsVal d.cps.toList=m
theorem znX {m:Nat}(h1:1<=m)(h2:m<1000000000000000000000000000000):FigT (numT (m:Int)) m:=by
 have l:(numT (m:Int)).length=(Nat.toDigits 10 m).length:=by
  show (numT (m:Int)).cps.size=_;rw [<- Array.length_toList,zdf,Zql]
 have p:=zp2 m;rw [Zql] at p;exact ⟨by omega,by rw [l];exact zkK 29 m h2,by rw [zdf];exact zhu m h1,zjn m,by rw [zdf];exact W.KIN.val_back m⟩
theorem FigT.ok {d:Str}{m:Nat}(h:FigT d m):TxtOk 30 d:=⟨h.hi,zbP.mpr fun c hc=>by have:=h.all c hc;omega⟩
theorem FigT.plus {d:Str}{m:Nat}(h:FigT d m):intText? (("+" : Str)++d)=some (m:Int):=by
 have:=h.lo;rw [zii (y:=d) (by rw [za6];rfl) h.all,intText_digits h.all (fun z=>by have:d.length=d.cps.toList.length:=(Array.length_toList).symm;rw [z] at this;simp at this;omega) (by have:=h.hi;omega),h.val]
theorem FigT.minus {d:Str}{m:Nat}(h:FigT d m):intText? (("-" : Str)++d)=some (-(m:Int)):=by
 have:=h.lo;have:=h.hi;rw [intText_neg (cs:=d.cps.toList) (by rw [za6];rfl) h.all (fun z=>by have:d.length=d.cps.toList.length:=(Array.length_toList).symm;rw [z] at this;simp at this;omega) (by rw [za9];show 1+d.length<=_;omega),h.val]
theorem zqZ {d:Str}{m:Nat}(h:FigT d m):zlX [.str d]=.ok (.bl true):=by
 have gl:=zd7 h.ok (by omega);have c1:(1:Int)<=(d.length:Int):=by have:=h.lo;omega
 have c2:(d.length:Int)<=30:=by have:=h.hi;omega
 obtain ⟨c0,hx,h0,hk⟩:=zlh (k:=0) h.ok (by omega) (by omega) (by omega);have e0:c0≠48:=fun z=>h.hd (by
  have h0:d.cps.toList[0]? = some c0:=h0;cases l:d.cps.toList with
  |nil=>rw [l] at h0;cases h0
  |cons a l'=>rw [l] at h0;rw [<- z];exact Zqi h0)
 have a0:c0<128:=by have:=h.all c0 (List.mem_of_getElem? h0);omega
 have gn:gNe (.str ⟨#[c0]⟩) (.str "0")=some (.bl true):=by
  rw [zjl (zrN a0).asc (zba (n:=1) (by decide +kernel)).asc,decide_eq_false fun z=>e0 ?_]
  ·rfl
  ·have:(⟨#[c0]⟩:Str).cps.toList=("0" : Str).cps.toList:=by rw [z]
   have : [c0]=[48]:=this;injection this
 have ha:ascB d=true:=h.ok.asc;have key:mapE (.one 0) (dOp (gInS false) (dVar 0) (dC (.str "0123456789"))) [none] (chD d)=.ok ((d.cps.toList.map fun c=>decide (c∈FG)).map .bl):=by
  rw [List.map_map];refine zbq fun c _=>?_;have g2:=zdF false c "0123456789";have g2:gInS false (.str ⟨#[c]⟩) (.str "0123456789")=some (.bl (decide (c∈FG))):=g2;simp [g2]
 have ga:=zdC (d.cps.toList.map fun c=>decide (c∈FG));have ea:(d.cps.toList.map fun c=>decide (c∈FG)).all id=true:=by
  rw [List.all_map,List.all_eq_true];intro c hc;have z:=h.all c hc;exact decide_eq_true (zoq (by unfold isG;rw [decide_eq_true z.1,decide_eq_true (by omega)];rfl))
 rw [ea] at ga;generalize (d.cps.toList.map fun c=>decide (c∈FG)).map D.bl=bs at key ga;have lz:(chD d).length<sizeLine:=zat (by unfold chD;rw [Zql,Array.length_toList];have:d.length=d.cps.size:=rfl;have:=h.hi;omega);simp [zlX,znu,gl,c1,c2,hx,gn,ha,lz,key,ga]
theorem zp4 {x:Str}(h:nmOk x){c:Nat}(hc:c∈x.cps.toList):(isL c||isG c)=true:=by
 have z:=h.2;unfold zhn at z;simp only [Bool.and_eq_true] at z;exact List.all_eq_true.mp z.2.2.2.2 c hc
theorem zb3 {x:Str}(h:nmOk x){c:Nat}(hc:(isL c||isG c)=false):c∉x.cps.toList:=fun z=>by rw [zp4 h z] at hc;cases hc
theorem zfj {x:Str}(h:nmOk x):F_z0 [.str x]=.ok (.bl true):=by rw [f_z0 h.1 (by omega),zhs h.2]
theorem znF {n:Nat}{x:Str}{c:Nat}(h:TxtOk n x)(hn:n<=1000)(hc:c∈x.cps.toList)(h1:c∉LT)(h2:c∉FG):F_z0 [.str x]=.ok (.bl false):=by
 rw [f_z0 h hn];have:(x.cps.toList.all fun c=>decide (c∈LT)||decide (c∈FG))=false:=List.all_eq_false.mpr ⟨c,hc,by rw [decide_eq_false h1,decide_eq_false h2];exact Bool.false_ne_true⟩;unfold zjG;rw [this,Bool.and_false,Bool.and_false,Bool.and_false]
theorem zfe {d:Str}{m c:Nat}(h:FigT d m)(hc:c<48\/57<c):c∉d.cps.toList:=fun z=>by have:=h.all c z;omega
theorem zbA {n:Nat}{x s:Str}(h:TxtOk n x)(hn:n<=4000000)(hs:(s.length == 0)=false):zcC x (.str s)=some (.lst ((Txt.split x s).map .str)):=by
 refine if_pos ⟨hs,?_⟩;have:=h.len;exact Nat.le_trans (show x.length+2<=4000002 by omega) (by decide +kernel)
theorem at_i {l:List D}{k:Int}{d:D}(k0:0<=k)(h:l[k.toNat]? = some d):atI l k=some d:=by
 have hl:=(List.getElem?_eq_some_iff.mp h).1;unfold atI ixN;rw [if_pos k0,if_pos (by omega)];exact h
theorem at_0 (a:D)(l:List D):atI (a::l) 0=some a:=at_i (by omega) rfl
theorem at_1 (a b:D)(l:List D):atI (a::b::l) 1=some b:=at_i (by omega) rfl
theorem at_2 (a b c:D)(l:List D):atI (a::b::c::l) 2=some c:=at_i (by omega) rfl
theorem at_3 (a b c d:D)(l:List D):atI (a::b::c::d::l) 3=some d:=at_i (by omega) rfl
theorem zdD (s a b:Str):Txt.join s [a,b]=a++s++b:=by rw [zbw,zbe]
theorem f_z17 {x:Str}{w:Int}(hx:nmOk x)(h1 : -1000000000000000000000000000000<w)(h2:w<1000000000000000000000000000000):zfL [.str (itT x w)]=.ok (.tup [.str x,.int w]):=by
 have nx:=zfj hx;unfold itT;by_cases c0:w=0
 ·subst c0;simp [zfL,ziF,nx]
 ·rw [if_neg c0];by_cases c1:0<w
  ·rw [if_pos c1];obtain ⟨m,rfl⟩:=Int.eq_ofNat_of_zero_le (Int.le_of_lt c1);have f:=znX (m:=m) (by omega) (by omega);have k:TxtOk 44 (x ++ "+" ++ numT (m:Int)):=((hx.1.app (zba (n:=1) (by decide +kernel))).app f.ok).mono (by omega);have n0:F_z0 [.str (x ++ "+" ++ numT (m:Int))]=.ok (.bl false):=znF (c:=43) k (by omega) (by rw [za6,za6];simp;exact .inr (.inl (by decide +kernel))) (by decide +kernel) (by decide +kernel);have s1:=zbA (s := "+") k (by omega) (by decide +kernel);rw [<- zdD "+",zbi (c:=43) (t:=[]) rfl (by decide +kernel) (fun p hp=>by
    rcases List.mem_cons.mp hp with rfl|hp
    ·exact zb3 hx (by decide)
    ·rw [List.mem_singleton.mp hp];exact zfe f (by omega)),zdD] at s1
   have s1:zcC (x ++ "+" ++ numT (m:Int)) (.str "+")=some (.lst [.str x,.str (numT (m:Int))]):=s1;have fg:=zqZ f;have ga:=zgz (a := "+") (zba (n:=1) (by decide +kernel)) f.ok (by omega);have gi:zlg [.str (("+" : Str)++numT (m:Int))]=some (.int (m:Int)):=by
    show (if (("+" : Str)++numT (m:Int)).length<=640 then (intText? _).map D.int else none)=_;rw [if_pos (by rw [za9];have:=f.hi;show 1+_<=_;omega),f.plus];rfl
   simp [zfL,ziF,zcR,zk4,at_0,at_1,n0,dTxt,s1,nx,fg,ga,gi]
  ·rw [if_neg c1];obtain ⟨m,rfl⟩:∃ m:Nat,w = -((m+1:Nat):Int):=⟨(-w).toNat-1,by omega⟩;rw [zfd,<- zct];have f:=znX (m:=m+1) (by omega) (by omega);have k:TxtOk 44 (x ++ "-" ++ numT ((m+1:Nat):Int)):=((hx.1.app (zba (n:=1) (by decide +kernel))).app f.ok).mono (by omega);have n0:F_z0 [.str (x ++ "-" ++ numT ((m+1:Nat):Int))]=.ok (.bl false):=znF (c:=45) k (by omega) (by rw [za6,za6];simp;exact .inr (.inl (by decide +kernel))) (by decide +kernel) (by decide +kernel);have s0:=zbA (s := "+") k (by omega) (by decide +kernel);rw [<- zbe "+" (x ++ "-" ++ numT ((m+1:Nat):Int)),zbi (c:=43) (t:=[]) rfl (by decide +kernel) (fun p hp=>by
    rw [List.mem_singleton.mp hp,za6,za6];intro z;rcases List.mem_append.mp z with z|z
    ·rcases List.mem_append.mp z with z|z
     ·exact zb3 hx (by decide) z
     ·revert z;decide +kernel
    ·exact zfe f (by omega) z),zbe] at s0
   have s0:zcC (x ++ "-" ++ numT ((m+1:Nat):Int)) (.str "+")=some (.lst [.str (x ++ "-" ++ numT ((m+1:Nat):Int))]):=s0;have s1:=zbA (s := "-") k (by omega) (by decide +kernel);rw [<- zdD "-",zbi (c:=45) (t:=[]) rfl (by decide +kernel) (fun p hp=>by
    rcases List.mem_cons.mp hp with rfl|hp
    ·exact zb3 hx (by decide)
    ·rw [List.mem_singleton.mp hp];exact zfe f (by omega)),zdD] at s1
   have s1:zcC (x ++ "-" ++ numT ((m+1:Nat):Int)) (.str "-")=some (.lst [.str x,.str (numT ((m+1:Nat):Int))]):=s1;have fg:=zqZ f;have ga:=zgz (a := "-") (zba (n:=1) (by decide +kernel)) f.ok (by omega);have gi:zlg [.str (("-" : Str)++numT ((m+1:Nat):Int))]=some (.int (-((m+1:Nat):Int))):=by
    show (if (("-" : Str)++numT ((m+1:Nat):Int)).length<=640 then (intText? _).map D.int else none)=_;rw [if_pos (by rw [za9];have:=f.hi;show 1+_<=_;omega),f.minus];rfl
   generalize ((m+1:Nat):Int)=q at *;simp [zfL,ziF,zcR,zk4,at_0,at_1,n0,dTxt,s0,s1,nx,fg,ga,gi]
def rI (i:Str×Int):D:=.tup [.str i.1,.int i.2]
def ItR (i:Str×Int):Prop:=nmOk i.1 /\ -1000000000000000000000000000000<i.2/\i.2<1000000000000000000000000000000
def itx (i:Str×Int):Str:=itT i.1 i.2
def zbS:List Str->List Str
 | []=>[]
 | [x]=>[x]
 |x::y::r=>(x ++ ",")::zbS (y::r)
theorem zht (x:Str)(r:List Str):∃ y l,zbS (x::r)=y::l:=by
 cases r with
 |nil=>exact ⟨_,_,rfl⟩
 |cons y r=>exact ⟨_,_,rfl⟩
theorem zdq:∀ (x:Str) (r:List Str),Txt.join " " (zbS (x::r))=Txt.join ", " (x::r)
 |x,[]=>by show Txt.join " " [x]=_;rw [zbe,zbe]
 |x,y::r=>by
  have ih:=zdq y r;obtain ⟨z,l,e⟩:=zht y r;show Txt.join " " ((x ++ ",")::zbS (y::r))=_;rw [e] at ih ⊢;rw [zbw,ih,zbw,zct x,zct x,zct x]
  congr 1
theorem zeu:∀ l:List Str,(zbS l).length=l.length
 | []=>rfl
 | [_]=>rfl
 |x::y::r=>congrArg (· + 1) (zeu (y::r))
theorem zdP:∀ (l:List Str),∀ w∈zbS l,∃ x∈l,w=x\/w=x ++ ","
 | [],w,h=>nomatch h
 | [x],w,h=>⟨x,Zqs,.inl (List.mem_singleton.mp h)⟩
 |x::y::r,w,h=>by
  rcases List.mem_cons.mp h with z|z
  ·exact ⟨x,Zqs,.inr z⟩
  ·obtain ⟨a,h1,h2⟩:=zdP (y::r) w z;exact ⟨a,Zqm _ h1,h2⟩
theorem zkh {i:Str×Int}(h:ItR i):TxtOk 44 (itx i):=zor h.1.1 h.2.1 h.2.2
theorem zfr {i:Str×Int}(h:ItR i){c:Nat}(h1:(isL c||isG c)=false)(h2:c≠43)(h3:c≠45):c∉(itx i).cps.toList:=by
 have nf:=zb3 h.1 h1;have ng:∀ m:Nat,c∉(numT (m:Int)).cps.toList:=fun m z=>by
  have:=zjn m c z;have:isG c=true:=by unfold isG;rw [decide_eq_true (by omega),decide_eq_true (by omega)];rfl
  rw [this,Bool.or_true] at h1;cases h1
 unfold itx itT
 split
 ·exact nf
 ·split
  ·obtain ⟨m,e⟩:=Int.eq_ofNat_of_zero_le (show 0<=i.2 by omega);rw [e,za6,za6];intro z;rcases List.mem_append.mp z with z|z
   ·rcases List.mem_append.mp z with z|z
    ·exact nf z
    ·exact h2 (List.mem_singleton.mp z)
   ·exact ng m z
  ·obtain ⟨m,e⟩:∃ m:Nat,i.2 = -((m+1:Nat):Int):=⟨(-i.2).toNat-1,by omega⟩;rw [e,zfd,za6,za6];intro z;rcases List.mem_append.mp z with z|z
   ·exact nf z
   ·rcases List.mem_append.mp z with z|z
    ·exact h3 (List.mem_singleton.mp z)
    ·exact ng (m+1) z
theorem zi0 {its:List (Str×Int)}(h:∀ i∈its,ItR i):∀ w∈zbS (its.map itx),32∉w.cps.toList:=fun w hw=>by
 obtain ⟨x,hx,e⟩:=zdP _ w hw;obtain ⟨i,hi,rfl⟩:=List.mem_map.mp hx;have f:=zfr (h i hi) (c:=32) (by decide) (by omega) (by omega);rcases e with rfl|rfl
 ·exact f
 ·rw [za6];intro z;rcases List.mem_append.mp z with z|z
  ·exact f z
  ·exact absurd (show (32:Nat)=44 from List.mem_singleton.mp z) (by decide)
theorem zm3 {its:List (Str×Int)}(h:∀ i∈its,ItR i):∀ w∈zbS (its.map itx),TxtOk 45 w:=fun w hw=>by
 obtain ⟨x,hx,e⟩:=zdP _ w hw;obtain ⟨i,hi,rfl⟩:=List.mem_map.mp hx;have f:=zkh (h i hi);rcases e with rfl|rfl
 ·exact f.mono (by omega)
 ·exact f.app (zba (n:=1) (by decide +kernel))
theorem rI_pl {i:Str×Int}(h:ItR i):plN 12 (rI i)=true:=by
 show [D.str i.1,D.int i.2].all (plN 11)=true;rw [List.all_cons,zca h.1.1.asc];rfl
theorem f_z16 {n how:Str}{i:Str×Int}{its:List (Str×Int)}(h:∀ j∈i::its,ItR j)(hl:its.length<=43):zkL [.str n,.str how,.lst ((zbS ((i::its).map itx)).map .str)]=.ok (.tup [.str n,.str how,.lst ((i::its).map rI)]):=by
 have wl:=zeu ((i::its).map itx);rw [Zql,List.length_cons] at wl;have g1:=zdp (sep := " ") (zdW (m:=1) (n:=45) (k:=44) (by decide +kernel) (fun w hw=>(zm3 h w hw).len) (by omega) (by omega));rw [List.map_cons] at g1;rw [zdq,<- List.map_cons] at g1;have k:TxtOk 2024 (Txt.join ", " ((i::its).map itx)):=(zef (m:=2) (n:=44) (k:=44) (zba (by decide +kernel)) (fun x hx=>by obtain ⟨j,hj,rfl⟩:=List.mem_map.mp hx;exact zkh (h j hj)) (by rw [Zql,List.length_cons];omega)).mono (by omega);have g2:=zbA (s := ", ") k (by omega) (by decide +kernel);have sp:Txt.split (Txt.join ", " ((i::its).map itx)) ", " = (i::its).map itx:=zbi (c:=44) (t:=[32]) rfl (by decide +kernel) fun p hp=>by
  obtain ⟨j,hj,rfl⟩:=List.mem_map.mp (show p∈(i::its).map itx from hp);exact zfr (h j hj) (by decide) (by omega) (by omega)
 rw [sp,List.map_map] at g2;have key:mapE (.one 0) (zav zfL (zab (dVar 0) dNil)) [none] ((i::its).map (D.str ∘ itx))=.ok ((i::its).map rI):=zbq fun j hj=>by
  have e:=f_z17 (h j hj).1 (h j hj).2.1 (h j hj).2.2;have e:zfL [.str (itx j)]=.ok (rI j):=e;simp [e]
 have gn:gIn false .non (.lst ((i::its).map rI))=some (.bl false):=by
  have p:((i::its).map rI).all (plN 12)=true:=List.all_eq_true.mpr fun d hd=>by
   obtain ⟨j,hj,rfl⟩:=List.mem_map.mp hd;exact rI_pl (h j hj)
  show (if plN 12 D.non&&((i::its).map rI).all (plN 12) then some (D.bl (if false=true then _ else ((i::its).map rI).any fun e=>sameD e .non)) else none)=_;rw [p];have q:(((i::its).map rI).any fun e=>sameD e .non)=false:=List.any_eq_false.mpr fun d hd=>by
   obtain ⟨j,hj,rfl⟩:=List.mem_map.mp hd;rw [zbI.mpr (fun z=>by cases z)];exact Bool.false_ne_true
  rw [q];rfl
 have lz:((i::its).map (D.str ∘ itx)).length<sizeLine:=zat (by rw [Zql,List.length_cons];omega);generalize (i::its).map rI=rs at *;generalize (i::its).map (D.str ∘ itx)=xs at *;generalize Txt.join ", " ((i::its).map itx)=tx at *;generalize (zbS ((i::its).map itx)).map D.str=ws at *;simp [zkL,zmB,dTxt,g1,g2,key,lz,gn]
structure RowR (n how:Str)(its:List (Str×Int)):Prop where
 nm:nmOk n
 hw:how = "all" \/ how = "first" \/ nmOk how
 is:∀ i∈its,ItR i
 lo:1<=its.length
 hi:its.length<=44
def rowR (n how:Str)(its:List (Str×Int)):Str := " " ++ n ++ " " ++ wayT how ++ " " ++ Txt.join ", " (its.map itx)
def zg5 (n how:Str)(its:List (Str×Int)):D:=.tup [.str n,.str how,.lst (its.map rI)]
theorem RowR.ok {n how:Str}{its:List (Str×Int)}(R:RowR n how its):TxtOk 2056 (rowR n how its)/\TxtOk 12 how:=by
 have h2:TxtOk 12 how:=by
  rcases R.hw with rfl|rfl|h
  ·exact zba (by decide +kernel)
  ·exact zba (by decide +kernel)
  ·exact h.1
 have k:TxtOk 2024 (Txt.join ", " (its.map itx)):=(zef (m:=2) (n:=44) (k:=44) (zba (by decide +kernel)) (fun x hx=>by obtain ⟨j,hj,rfl⟩:=List.mem_map.mp hx;exact zkh (R.is j hj)) (by rw [Zql];exact R.hi)).mono (by omega);exact ⟨(((((zeH.app R.nm.1).app zeH).app (zg6 h2)).app zeH).app k).mono (by omega),h2⟩
theorem zhj (a:Str):("" : Str)++a=a:=zby (by rw [za6];rfl)
theorem znl (a:Str):("part" : Str)++(" " ++ a) = "part " ++ a:=zby (by simp only [za6,<- List.append_assoc];rfl)
theorem zcd (x y:Str)(r:List Str):Txt.join " " (x::y::r)=x ++ " " ++ Txt.join " " (y::r):=zbw _ _ _ _
theorem zks {x:Str}(hx:asc x):gIn false (.str x) (.tup [.str "all",.str "first"])=some (.bl (!isP x)):=by
 have e:=zdT (neg:=false) hx (xs:=["all", "first"]) (fun y hy=>by
  rcases List.mem_cons.mp hy with rfl|hy;· unfold asc;decide +kernel
  ·rw [List.mem_singleton.mp hy];unfold asc;decide +kernel)
 refine Eq.trans e ?_;unfold isP;by_cases z:x = "all"<;>by_cases q:x = "first"<;>simp [z,q]
theorem f_z15 {n how:Str}{its:List (Str×Int)}(R:RowR n how its):zgL [.str (rowR n how its)]=.ok (zg5 n how its):=by
 obtain ⟨k,hk⟩:=R.ok;have lo:=R.lo;have hi:=R.hi;have nn:=zfj R.nm;obtain ⟨i,r,rfl⟩:∃ i r,its=i::r:=by
  cases its with
  |nil=>have:=R.lo;simp at this
  |cons i r=>exact ⟨i,r,rfl⟩
 obtain ⟨w,ws,ew⟩:=zht (itx i) (r.map itx);have jw:=zdq (itx i) (r.map itx);rw [ew] at jw;have wl:=zeu (itx i::r.map itx);rw [ew] at wl;rw [List.length_cons,List.length_cons,Zql] at wl;rw [List.length_cons] at lo hi;have wf:=f_z16 (n:=n) (how:=how) R.is (by omega);rw [List.map_cons,ew] at wf;have fr:=zi0 R.is;rw [List.map_cons,ew] at fr;have g:=zbA (s := " ") k (by omega) (by decide +kernel);have n0:gNe (.str "") (.str "")=some (.bl false):=by
  have a:asc ("" : Str):=by unfold asc;decide +kernel
  rw [zjl a a,decide_eq_true rfl];rfl
 have h0:(32:Nat)∉("" : Str).cps.toList:=by decide +kernel
 have h1:(32:Nat)∉n.cps.toList:=zb3 R.nm (by decide);by_cases c:how = "all" \/ how = "first"
 ·have ip:isP how=false:=by unfold isP;rcases c with rfl|rfl<;>decide +kernel
  have e:rowR n how (i::r)=Txt.join " " ("" :: n::how::w::ws):=by
   unfold rowR;rw [show wayT how=how from if_pos c,zcd,zcd,zcd,jw,List.map_cons];simp only [zct,zhj]
  have h2:(32:Nat)∉how.cps.toList:=by rcases c with rfl|rfl<;>decide +kernel
  have sp:=zbi (s := " ") (c:=32) (t:=[]) rfl (by decide +kernel) (r := "") (rs:=n::how::w::ws) fun p hp=>by
   rcases List.mem_cons.mp hp with rfl|hp
   ·exact h0
   rcases List.mem_cons.mp hp with rfl|hp
   ·exact h1
   rcases List.mem_cons.mp hp with rfl|hp
   ·exact h2
   ·exact fr p hp
  rw [e,sp] at g;rw [e];have ga:=zks hk.asc;rw [ip] at ga;obtain ⟨z,hz⟩:∃ z:Int,z=((ws.length+1+1+1+1:Nat):Int):=⟨_,rfl⟩;have gl:gLen [.lst ((("" : Str)::n::how::w::ws).map .str)]=some (.int z):=by
   show some (D.int _)=_;simp only [Zql,List.length_cons];exact congrArg (fun a=>some (D.int a)) hz.symm
  have gs:gSl (.lst ((("" : Str)::n::how::w::ws).map .str)) (some 3) none none=some (.lst ((w::ws).map .str)):=by
   show some (D.lst (zbF _ (some 3) none none))=_;rw [zgr _ (by omega)];rfl
  have c4:¬ z<4:=by omega
  simp only [List.map_cons] at g gl gs wf;generalize Txt.join " " ("" :: n::how::w::ws)=tx at *;simp [zgL,ziI,dTxt,g,gl,gs,at_0,at_1,at_2,n0,nn,ga,wf,zg5,c4]
 ·have hn:nmOk how:=by
   rcases R.hw with z|z|z
   ·exact absurd (.inl z) c
   ·exact absurd (.inr z) c
   ·exact z
  have e:rowR n how (i::r)=Txt.join " " ("" :: n :: "part" :: how::w::ws):=by
   unfold rowR;rw [show wayT how = "part " ++ how from if_neg c,zcd,zcd,zcd,zcd,jw,List.map_cons];simp only [zct,zhj,znl]
  have h2:(32:Nat)∉how.cps.toList:=zb3 hn (by decide);have h3:(32:Nat)∉("part" : Str).cps.toList:=by decide +kernel
  have sp:=zbi (s := " ") (c:=32) (t:=[]) rfl (by decide +kernel) (r := "") (rs:=n :: "part" :: how::w::ws) fun p hp=>by
   rcases List.mem_cons.mp hp with rfl|hp
   ·exact h0
   rcases List.mem_cons.mp hp with rfl|hp
   ·exact h1
   rcases List.mem_cons.mp hp with rfl|hp
   ·exact h3
   rcases List.mem_cons.mp hp with rfl|hp
   ·exact h2
   ·exact fr p hp
  rw [e,sp] at g;rw [e];have ap:asc ("part" : Str):=by unfold asc;decide +kernel
  have ga:=zks ap;rw [show isP "part" = true by decide +kernel] at ga;have ge:=zov ap ap;rw [decide_eq_true rfl] at ge;have nh:=zfj hn;obtain ⟨z,hz⟩:∃ z:Int,z=((ws.length+1+1+1+1+1:Nat):Int):=⟨_,rfl⟩;have gl:gLen [.lst ((("" : Str)::n :: "part" :: how::w::ws).map .str)]=some (.int z):=by
   show some (D.int _)=_;simp only [Zql,List.length_cons];exact congrArg (fun a=>some (D.int a)) hz.symm
  have gs:gSl (.lst ((("" : Str)::n :: "part" :: how::w::ws).map .str)) (some 4) none none=some (.lst ((w::ws).map .str)):=by
   show some (D.lst (zbF _ (some 4) none none))=_;rw [zgr _ (by omega)];rfl
  have c4:¬ z<4:=by omega
  simp only [List.map_cons] at g gl gs wf;generalize Txt.join " " ("" :: n :: "part" :: how::w::ws)=tx at *;simp [zgL,ziI,dTxt,g,gl,gs,at_0,at_1,at_2,at_3,n0,nn,nh,ga,ge,wf,zg5,c4]
structure Dr where
 name:Str
 givens:List Str
 rows:List (Int×Str×Str×List (Str×Int))
def drwD (r:Int×Str×Str×List (Str×Int)):D:=.tup [.int r.1,zg5 r.2.1 r.2.2.1 r.2.2.2]
def zbH (q:Dr):D:=.ins "Draft" ["name", "givens", "rows"] [.str q.name,.lst (q.givens.map .str),.lst (q.rows.map drwD)]
structure AtR (hp:HP)(a:Addr×Addr×Addr)(q:Dr):Prop where
 pl:hpAt hp a.1=some (.ins "Draft" ["name", "givens", "rows"] [.str q.name,.adr a.2.1,.adr a.2.2])
 gv:hpAt hp a.2.1=some (.lst (q.givens.map .str))
 rw_:hpAt hp a.2.2=some (.lst (q.rows.map drwD))
def AllR (hp:HP):List (Addr×Addr×Addr)->List Dr->Prop
 | [],ps=>ps=[]
 |a::as,ps=>∃ q r,ps=q::r/\AtR hp a q/\AllR hp as r
structure StR (hp:HP)(p:Addr)(as:List (Addr×Addr×Addr))(qs:List Dr):Prop where
 hp_:hpAt hp p=some (.lst (as.map fun b=>.adr b.1))
 all:AllR hp as qs
 nd:(p::adrs as).Nodup
theorem AllR.snoc {hp:HP}{a:Addr×Addr×Addr}{q:Dr}(ha:AtR hp a q):∀ {as:List (Addr×Addr×Addr)} {ps:List Dr},AllR hp as ps->AllR hp (as++[a]) (ps++[q])
 | [],ps,h=>by rw [show ps=[] from h];exact ⟨q,[],rfl,ha,rfl⟩
 |b::as,ps,h=>by
  obtain ⟨q',r,rfl,hb,h⟩:=h;exact ⟨q',r++[q],rfl,hb,h.snoc ha⟩
theorem AllR.last {hp:HP}{q:Dr}:∀ {as:List (Addr×Addr×Addr)} {ps:List Dr},AllR hp as (ps++[q])->∃ bs a,as=bs++[a]/\AllR hp bs ps/\AtR hp a q
 | [],ps,h=>by have:=congrArg List.length (show ps++[q]=[] from h);simp at this
 |a::as,[],h=>by
  obtain ⟨q',r,e,ha,h⟩:=h;injection e with e1 e2
  subst e1 e2;cases as with
  |nil=>exact ⟨[],a,rfl,rfl,ha⟩
  |cons b as=>obtain ⟨_,_,e,_⟩:=h;cases e
 |a::as,p::ps,h=>by
  obtain ⟨q',r,e,ha,h⟩:=h;injection e with e1 e2
  subst e1 e2;obtain ⟨bs,c,rfl,h1,h2⟩:=h.last;exact ⟨a::bs,c,rfl,⟨_,_,rfl,ha,h1⟩,h2⟩
theorem AtR.mono {hp hp':HP}{a:Addr×Addr×Addr}{q:Dr}(h:AtR hp a q)(e:∀ b ∈ [a.1,a.2.1,a.2.2],hpAt hp' b=hpAt hp b):AtR hp' a q :=
 ⟨(e _ (by simp)).trans h.pl,(e _ (by simp)).trans h.gv,(e _ (by simp)).trans h.rw_⟩
theorem AllR.mono {hp hp':HP}:∀ {as:List (Addr×Addr×Addr)} {ps:List Dr},AllR hp as ps->(∀ b∈adrs as,hpAt hp' b=hpAt hp b)->AllR hp' as ps
 | [],ps,h,_=>h
 |a::as,ps,h,e=>by
  obtain ⟨q,r,rfl,ha,h⟩:=h;exact ⟨q,r,rfl,ha.mono fun b hb=>e b (List.mem_append_left _ hb),h.mono fun b hb=>e b (List.mem_append_right _ hb)⟩
theorem AtR.has {hp:HP}{a:Addr×Addr×Addr}{q:Dr}(h:AtR hp a q):∀ c ∈ [a.1,a.2.1,a.2.2],hpAt hp c≠none:=fun c hc=>by
 have:c=a.1\/c=a.2.1\/c=a.2.2:=by simpa using hc
 rcases this with rfl|rfl|rfl
 ·rw [h.pl];simp
 ·rw [h.gv];simp
 ·rw [h.rw_];simp
theorem AllR.has {hp:HP}:∀ {as:List (Addr×Addr×Addr)} {ps:List Dr},AllR hp as ps->∀ c∈adrs as,hpAt hp c≠none
 | [],_,_,c,hc=>by cases hc
 |a::as,ps,h,c,hc=>by
  obtain ⟨q,r,rfl,ha,h⟩:=h;rcases List.mem_append.mp (show c ∈ [a.1,a.2.1,a.2.2]++adrs as from hc) with z|z
  ·exact ha.has c z
  ·exact h.has c z
theorem AllR.len {hp:HP}:∀ {as:List (Addr×Addr×Addr)} {ps:List Dr},AllR hp as ps->as.length=ps.length
 | [],ps,h=>by rw [show ps=[] from h];rfl
 |a::as,ps,h=>by
  obtain ⟨q,r,rfl,_,h⟩:=h;rw [List.length_cons,List.length_cons,h.len]
theorem zdd (hp:HP)(l:List D):l.map (dr hp 0)=l:=by
 conv=>rhs;rw [<- List.map_id l]
 exact List.map_congr_left fun x _=>rfl
theorem AtR.dr4 {hp:HP}{a:Addr×Addr×Addr}{q:Dr}(h:AtR hp a q):dr hp 4 (.adr a.1)=zbH q:=by
 rw [zcs _ h.pl];show D.ins "Draft" ["name", "givens", "rows"] [L2.DL.dr hp 2 (.str q.name),L2.DL.dr hp 2 (.adr a.2.1),L2.DL.dr hp 2 (.adr a.2.2)]=_;rw [zee,zcs _ h.gv,zcs _ h.rw_];show D.ins "Draft" ["name", "givens", "rows"] [.str q.name,.lst ((q.givens.map D.str).map (L2.DL.dr hp 0)),.lst ((q.rows.map drwD).map (L2.DL.dr hp 0))]=_;rw [zdd,zdd];rfl
theorem AllR.dr {hp:HP}:∀ {as:List (Addr×Addr×Addr)} {ps:List Dr},AllR hp as ps->(as.map fun b=>D.adr b.1).map (dr hp 4)=ps.map zbH
 | [],ps,h=>by rw [show ps=[] from h];rfl
 |a::as,ps,h=>by
  obtain ⟨q,r,rfl,ha,h⟩:=h;rw [List.map_cons,List.map_cons,ha.dr4,h.dr];rfl
def zdX (qs:List Dr):D:=.lst (qs.map zbH)
theorem StR.dp {hp:HP}{p:Addr}{as:List (Addr×Addr×Addr)}{qs:List Dr}(h:StR hp p as qs):dr hp 6 (.adr p)=zdX qs:=by
 rw [zcs _ h.hp_];show D.lst ((as.map fun b=>D.adr b.1).map (dr hp 4))=_;rw [h.all.dr];rfl
theorem zhZ (a:Addr×Addr×Addr):adrs [a]=[a.1,a.2.1,a.2.2]:=rfl
theorem StR.ne {hp:HP}{p:Addr}{as:List (Addr×Addr×Addr)}{a:Addr×Addr×Addr}{qs:List Dr}(h:StR hp p (as++[a]) qs):p≠a.2.1/\p≠a.2.2/\a.1≠a.2.1/\a.1≠a.2.2/\a.2.1≠a.2.2/\∀ b∈adrs as,b≠a.2.1/\b≠a.2.2:=by
 have nd:=h.nd;rw [zdB,zhZ] at nd;obtain ⟨n1,nd⟩:=List.nodup_cons.mp nd;obtain ⟨n3,n4,n5⟩:=List.nodup_append.mp nd;obtain ⟨k1,k2⟩:=List.nodup_cons.mp n4;obtain ⟨k3,_⟩:=List.nodup_cons.mp k2;exact ⟨fun z=>n1 (by rw [z];simp),fun z=>n1 (by rw [z];simp),fun z=>k1 (by rw [z];simp),fun z=>k1 (by rw [z];simp),fun z=>k3 (by rw [z];simp),fun b hb=>⟨n5 b hb _ (by simp),n5 b hb _ (by simp)⟩⟩
theorem StR.given {hp:HP}{p:Addr}{as:List (Addr×Addr×Addr)}{a:Addr×Addr×Addr}{qs:List Dr}{q:Dr}(h:StR hp p (as++[a]) (qs++[q]))(ha:AtR hp a q)(hA:AllR hp as qs)(gs:List Str):StR (zax hp a.2.1 (.lst (gs.map .str))) p (as++[a]) (qs++[⟨q.name,gs,q.rows⟩]):=by
 have hn:hpAt hp a.2.1≠none:=by rw [ha.gv];simp
 obtain ⟨h1,h2,h3,h4,h5,h6⟩:=h.ne;exact ⟨(zap hn h1).trans h.hp_,AllR.snoc (q:=⟨q.name,gs,q.rows⟩) ⟨(zap hn h3).trans ha.pl,zaR hn,(zap hn h5.symm).trans ha.rw_⟩ (hA.mono fun b hb=>zap hn (h6 b hb).1),h.nd⟩
theorem StR.made {hp:HP}{p:Addr}{as:List (Addr×Addr×Addr)}{a:Addr×Addr×Addr}{qs:List Dr}{q:Dr}(h:StR hp p (as++[a]) (qs++[q]))(ha:AtR hp a q)(hA:AllR hp as qs)(rs:List (Int×Str×Str×List (Str×Int))):StR (zax hp a.2.2 (.lst (rs.map drwD))) p (as++[a]) (qs++[⟨q.name,q.givens,rs⟩]):=by
 have hn:hpAt hp a.2.2≠none:=by rw [ha.rw_];simp
 obtain ⟨h1,h2,h3,h4,h5,h6⟩:=h.ne;exact ⟨(zap hn h2).trans h.hp_,AllR.snoc (q:=⟨q.name,q.givens,rs⟩) ⟨(zap hn h4).trans ha.pl,(zap hn h5).trans ha.gv,zaR hn⟩ (hA.mono fun b hb=>zap hn (h6 b hb).2),h.nd⟩
theorem StR.plan {hp hp':HP}{p x g r:Addr}{as:List (Addr×Addr×Addr)}{qs:List Dr}{q:Dr}(h:StR hp p as qs)(hx:hpAt hp x=none)(hg:hpAt hp g=none)(hr:hpAt hp r=none)(d1:x≠g)(d2:x≠r)(d3:g≠r)(ha:AtR hp' (x,g,r) q)(hq:hpAt hp' p=some (.lst ((as++[(x,g,r)]).map fun b=>.adr b.1)))(e:∀ b,b≠x->b≠g->b≠r->b≠p->hpAt hp' b=hpAt hp b):StR hp' p (as++[(x,g,r)]) (qs++[q]):=by
 have hs:=h.all.has;obtain ⟨n1,n2⟩:=List.nodup_cons.mp h.nd;have pn:hpAt hp p≠none:=by rw [h.hp_];simp
 have ne:∀ {b c:Addr},hpAt hp b≠none->hpAt hp c=none->b≠c:=fun h1 h2 z=>h1 (by rw [z];exact h2);refine ⟨hq,AllR.snoc ha (h.all.mono fun b hb=>e b (ne (hs b hb) hx) (ne (hs b hb) hg) (ne (hs b hb) hr) fun z=>n1 (by rw [<- z];exact hb)),?_⟩;rw [zdB,zhZ];refine List.nodup_cons.mpr ⟨fun z=>?_,List.nodup_append.mpr ⟨n2,by simp [d1,d2,d3],fun b hb c hc=>?_⟩⟩
 ·rcases List.mem_append.mp z with z|z
  ·exact n1 z
  ·have:p=x\/p=g\/p=r:=by simpa using z
   rcases this with z|z|z
   ·exact ne pn hx z
   ·exact ne pn hg z
   ·exact ne pn hr z
 ·have:c=x\/c=g\/c=r:=by simpa using hc
  rcases this with rfl|rfl|rfl
  ·exact ne (hs b hb) hx
  ·exact ne (hs b hb) hg
  ·exact ne (hs b hb) hr
theorem zh7 {n:Nat}{a:Str}(ha:TxtOk n a)(h:n<=1000000)(l u:Option Int):gSlS (.str a) l u=some (.str (Txt.slice a l u)):=if_pos (by
 have:=ha.len;exact Nat.le_trans (show a.length<=1000000 by omega) (by decide +kernel))
theorem zow {n m:Nat}{st row:Str}(hs:TxtOk m st)(hm:m<=1000)(hr:TxtOk n row)(hn:n<=1000000)(h:Txt.startswith row st=false):zhi [.str st,.str row]=.ok .non:=by
 have gl:=zd7 hs hm;have gs:=zh7 hr hn (some (st.length:Int)) none;have g1:zfy row (.str st)=some (.bl false):=by show some (D.bl (Txt.startswith row st))=_;rw [h]
 simp [zhi,zjh,gl,gs,dTxt,g1]
theorem znM {m:Nat}{st x:Str}(hs:TxtOk m st)(hm:m<=900)(hx:nmOk x):zhi [.str st,.str (st++x)]=.ok (.str x):=by
 have gl:=zd7 hs (by omega);have gs:=zh7 (hs.app hx.1) (by omega) (some (st.length:Int)) none;rw [ziQ] at gs;have g1:zfy (st++x) (.str st)=some (.bl true):=by show some (D.bl (Txt.startswith (st++x) st))=_;rw [ziM]
 have nx:=zfj hx;simp [zhi,zjh,gl,gs,dTxt,g1,nx]
theorem zkg:TxtOk 5 ("plan " : Str):=zba (by decide +kernel)
theorem zdG:TxtOk 7 (" given " : Str):=zba (by decide +kernel)
theorem zo1 (y:Str):Txt.startswith (" " ++ y) "plan " = false:=zeG fun h=>by
 rw [za6] at h;have h:(32::y.cps.toList).take 5=[112,108,97,110,32]:=h;rw [List.take_succ_cons] at h;injection h with h
 cases h
theorem zn1 (x:Str):(" given " : Str)++x = " " ++ ("given " ++ x):=by
 rw [<- zct];exact congrArg (· ++ x) (zby (by decide +kernel))
theorem zeX {n how:Str}{its:List (Str×Int)}(R:RowR n how its):Txt.startswith (rowR n how its) " given " = false:=zeG fun h=>by
 unfold rowR at h;simp only [zct] at h;rw [za6,za6,za6] at h;generalize ((wayT how++((" " : Str)++Txt.join ", " (its.map itx)))).cps.toList=t at h;have h:(32::(n.cps.toList++(32::t))).take 7=[32,103,105,118,101,110,32]:=h;rw [List.take_succ_cons] at h;injection h with _ h
 have e:=List.take_append_drop 6 (n.cps.toList++(32::t));rw [h] at e;have f1:(n.cps.toList++(32::t)).takeWhile (fun c=>c != 32)=n.cps.toList:=by
  rw [List.takeWhile_append_of_pos fun c hc=>bne_iff_ne.mpr fun z=>zb3 R.nm (c:=32) (by decide) (by rw [<- z];exact hc)];simp
 rw [<- e] at f1;have f2 : [103,105,118,101,110]=n.cps.toList:=by
  rw [<- f1];rfl
 have f3:("given" : Str)=n:=zby (by rw [<- f2];decide +kernel);have z:=R.nm.2;unfold zhn at z;simp only [Bool.and_eq_true] at z;have:=List.all_eq_true.mp z.2.2.1 "given" (by decide +kernel);rw [decide_eq_true f3] at this;cases this
theorem zi2 {x:Str}(hx:nmOk x):zgL [.str (" given " ++ x)]=.ok .non:=by
 have k:=zdG.app hx.1;have g:=zbA (s := " ") k (by omega) (by decide +kernel);have e:(" given " : Str)++x=Txt.join " " ["", "given",x]:=by
  rw [zcd,zcd,zbe,zhj,<- zct,<- zct];exact congrArg (· ++ x) (zby (by decide +kernel))
 have sp:=zbi (s := " ") (c:=32) (t:=[]) rfl (by decide +kernel) (r := "") (rs:=["given",x]) fun p hp=>by
  rcases List.mem_cons.mp hp with rfl|hp
  ·decide +kernel
  rcases List.mem_cons.mp hp with rfl|hp
  ·decide +kernel
  ·rw [List.mem_singleton.mp hp];exact zb3 hx (by decide)
 rw [e,sp] at g;rw [e];simp only [List.map_cons,List.map_nil] at g;generalize Txt.join " " ["", "given",x]=tx at *;simp [zgL,ziI,dTxt,g]
section
variable {hp:HP}{a:Addr×Addr×Addr}{q:Dr}
theorem zeT {x:Str}(h:AtR hp a q)(hr:q.rows=[])(hx:nmOk x)(hl:q.givens.length<=1000)(k:Int):zk6 [.adr a.1,.int k,.str (" given " ++ x)] hp=.ok (.bl true,zax hp a.2.1 (.lst ((q.givens++[x]).map .str))):=by
 have e1:=znM zdG (by omega) hx;have e2:=zi2 hx;have hz:(q.givens.map D.str).length<sizeLine:=by rw [Zql];exact zat hl
 have dq:dr hp 6 (.adr a.1)=zbH q:=by
  rw [zcs _ h.pl];show D.ins "Draft" ["name", "givens", "rows"] [dr hp 4 (.str q.name),dr hp 4 (.adr a.2.1),dr hp 4 (.adr a.2.2)]=_;rw [zee,zcs _ h.gv,zcs _ h.rw_,zjQ,hr];unfold zbH;rw [hr];rfl
 have gf:gFld "Draft" "rows" (zbH q)=some (.lst []):=by unfold zbH;rw [hr];rfl
 have gg:gFld "Draft" "givens" (.ins "Draft" ["name", "givens", "rows"] [.str q.name,.adr a.2.1,.adr a.2.2])=some (.adr a.2.1):=rfl;have ge:gEq (.lst []) (.lst [])=some (.bl true):=by rw [zgs rfl rfl,zbc]
 refine zhc rfl ?_ fun b hb=>?_
 ·generalize (" given " : Str)++x=row at *;show ((zgX [some (.val (.adr a.1)),some (.val (.int k)),some (.val (.str row)),none,none] hp).bind outZ)=_;simp [zgX,e1,e2,dq,gf,ge,show gIsN true (D.str x)=some (.bl true) from rfl,zc1 h.pl gg,zb9 h.gv,zb8 h.gv hz]
 ·have hn:hpAt hp a.2.1≠none:=by rw [h.gv];simp
  rw [zbn b hn]
  split
  ·simp
  ·exact hb
theorem zgn {n how:Str}{its:List (Str×Int)}(h:AtR hp a q)(R:RowR n how its)(hl:q.rows.length<=1000)(k:Int):zk6 [.adr a.1,.int k,.str (rowR n how its)] hp=.ok (.bl true,zax hp a.2.2 (.lst ((q.rows++[(k,n,how,its)]).map drwD))):=by
 have e1:=zow zdG (by omega) R.ok.1 (by omega) (zeX R);have e2:=f_z15 R;have hz:(q.rows.map drwD).length<sizeLine:=by rw [Zql];exact zat hl
 have gg:gFld "Draft" "rows" (.ins "Draft" ["name", "givens", "rows"] [.str q.name,.adr a.2.1,.adr a.2.2])=some (.adr a.2.2):=rfl;refine zhc rfl ?_ fun b hb=>?_
 ·generalize rowR n how its=row at *;show ((zgX [some (.val (.adr a.1)),some (.val (.int k)),some (.val (.str row)),none,none] hp).bind outZ)=_;simp [zgX,e1,e2,zg5,drwD,show ∀ l,gIsN true (D.tup l)=some (.bl true) from fun _=>rfl,show gIsN true D.non=some (.bl false) from rfl,zc1 h.pl gg,zb9 h.rw_,zb8 h.rw_ hz]
 ·have hn:hpAt hp a.2.2≠none:=by rw [h.rw_];simp
  rw [zbn b hn]
  split
  ·simp
  ·exact hb
end
def NewR (hp:HP)(x:Addr)(nm:Str)(o:D×HP):Prop:=o.1=.non/\∃ g r,x≠g/\x≠r/\g≠r/\hpAt hp g=none/\hpAt hp r=none/\AtR o.2 (x,g,r) ⟨nm,[],[]⟩/\∀ b,b≠x->b≠g->b≠r->hpAt o.2 b=hpAt hp b
theorem zkf {hp:HP}{x:Addr}{nm:Str}(hx:hpAt hp x=none):(zff [.adr x,.str nm] ((x,.ins "Draft" [] [])::hp)).need (NewR hp x nm) fun _ _=>False:=by
 obtain ⟨H0,eH⟩:∃ H:HP,H=(x,D.ins "Draft" [] [])::hp:=⟨_,rfl⟩;have s0:hpAt H0 x=some (.ins "Draft" [] []):=by rw [eH,zaf,if_pos rfl]
 have k0:∀ b,b≠x->hpAt H0 b=hpAt hp b:=fun b z=>by rw [eH,zaf,if_neg z]
 rw [<- eH];have n0:hpAt H0 x≠none:=by rw [s0];simp
 unfold zff;refine zc0 rfl ?_;have e1:zd2 "Draft" "name" [some (.val (.adr x)),some (.val (.str nm))] (.str nm) (.adr x,H0)=.ok (.next [some (.val (.adr x)),some (.val (.str nm))] (zax H0 x (.ins "Draft" ["name"] [.str nm]))):=zcf s0 (by simp) (by simp);show ((zcV [some (.val (.adr x)),some (.val (.str nm))] H0).bind outZ).need _ _;have s1:hpAt (zax H0 x (.ins "Draft" ["name"] [.str nm])) x=some (.ins "Draft" ["name"] [.str nm]):=zaR n0;have k1:∀ b,b≠x->hpAt (zax H0 x (.ins "Draft" ["name"] [.str nm])) b=hpAt hp b:=fun b z=>(zap n0 z).trans (k0 b z);unfold zcV;simp [e1];generalize zax H0 x (.ins "Draft" ["name"] [.str nm])=H1 at *;intro g hg;have xg:x≠g:=fun z=>by rw [<- z,s1] at hg;cases hg
 obtain ⟨H2,eH2⟩:∃ H:HP,H=(g,D.lst [])::H1:=⟨_,rfl⟩;rw [<- eH2];have s2:hpAt H2 x=some (.ins "Draft" ["name"] [.str nm]):=by rw [eH2,zaf,if_neg xg,s1]
 have g2:hpAt H2 g=some (.lst []):=by rw [eH2,zaf,if_pos rfl]
 have k2:∀ b,b≠x->b≠g->hpAt H2 b=hpAt hp b:=fun b z y=>by rw [eH2,zaf,if_neg y,k1 b z]
 have n2:hpAt H2 x≠none:=by rw [s2];simp
 have e2:zd2 "Draft" "givens" [some (.val (.adr x)),some (.val (.str nm))] (.adr g) (.adr x,H2)=.ok (.next [some (.val (.adr x)),some (.val (.str nm))] (zax H2 x (.ins "Draft" ["name", "givens"] [.str nm,.adr g]))):=zcf s2 (by decide +kernel) (by simp);have s3:hpAt (zax H2 x (.ins "Draft" ["name", "givens"] [.str nm,.adr g])) x=some (.ins "Draft" ["name", "givens"] [.str nm,.adr g]):=zaR n2;have g3:hpAt (zax H2 x (.ins "Draft" ["name", "givens"] [.str nm,.adr g])) g=some (.lst []):=(zap n2 xg.symm).trans g2;have k3:∀ b,b≠x->b≠g->hpAt (zax H2 x (.ins "Draft" ["name", "givens"] [.str nm,.adr g])) b=hpAt hp b:=fun b z y=>(zap n2 z).trans (k2 b z y);simp [e2];generalize zax H2 x (.ins "Draft" ["name", "givens"] [.str nm,.adr g])=H3 at *;intro r hr;have xr:x≠r:=fun z=>by rw [<- z,s3] at hr;cases hr
 have gr:g≠r:=fun z=>by rw [<- z,g3] at hr;cases hr
 obtain ⟨H4,eH4⟩:∃ H:HP,H=(r,D.lst [])::H3:=⟨_,rfl⟩;rw [<- eH4];have s4:hpAt H4 x=some (.ins "Draft" ["name", "givens"] [.str nm,.adr g]):=by rw [eH4,zaf,if_neg xr,s3]
 have g4:hpAt H4 g=some (.lst []):=by rw [eH4,zaf,if_neg gr,g3]
 have r4:hpAt H4 r=some (.lst []):=by rw [eH4,zaf,if_pos rfl]
 have k4:∀ b,b≠x->b≠g->b≠r->hpAt H4 b=hpAt hp b:=fun b z y w=>by rw [eH4,zaf,if_neg w,k3 b z y]
 have n4:hpAt H4 x≠none:=by rw [s4];simp
 have e4:zd2 "Draft" "rows" [some (.val (.adr x)),some (.val (.str nm))] (.adr r) (.adr x,H4)=.ok (.next [some (.val (.adr x)),some (.val (.str nm))] (zax H4 x (.ins "Draft" ["name", "givens", "rows"] [.str nm,.adr g,.adr r]))):=zcf s4 (by decide +kernel) (by simp);have s5:hpAt (zax H4 x (.ins "Draft" ["name", "givens", "rows"] [.str nm,.adr g,.adr r])) x=some (.ins "Draft" ["name", "givens", "rows"] [.str nm,.adr g,.adr r]):=zaR n4;have k5:∀ b,b≠x->hpAt (zax H4 x (.ins "Draft" ["name", "givens", "rows"] [.str nm,.adr g,.adr r])) b=hpAt H4 b:=fun b z=>zap n4 z;rw [e4];generalize zax H4 x (.ins "Draft" ["name", "givens", "rows"] [.str nm,.adr g,.adr r])=H5 at *;have hg0:hpAt hp g=none:=by rw [<- k1 g xg.symm];exact hg
 have hr0:hpAt hp r=none:=by rw [<- k3 r xr.symm gr.symm];exact hr
 show (∀ b,hpAt H0 b≠none->hpAt H5 b≠none)/\NewR hp x nm (.non,H5);refine ⟨fun b hb=>?_,rfl,g,r,xg,xr,gr,hg0,hr0,⟨s5,(k5 g xg.symm).trans g4,(k5 r xr.symm).trans r4⟩,fun b z y w=>(k5 b z).trans (k4 b z y w)⟩;by_cases z:b=x
 ·rw [z,s5];simp
 ·have hb':hpAt hp b≠none:=by rw [<- k0 b z];exact hb
  rw [k5 b z,k4 b z (fun y=>hb' (by rw [y];exact hg0)) fun y=>hb' (by rw [y];exact hr0)];exact hb'
section
variable {hp:HP}{p:Addr}{as:List (Addr×Addr×Addr)}{qs:List Dr}
def RwT (p:Addr)(hp:HP)(qs':List Dr)(o:D×HP):Prop:=o.1=.bl true/\(∃ as',StR o.2 p as' qs')/\∀ b,hpAt hp b≠none->hpAt o.2 b≠none
theorem zn6 {x:Str}(h:StR hp p as qs)(hx:nmOk x)(hl:qs.length<=1000)(k:Int):(zdL [.adr p,.int k,.str ("plan " ++ x)] hp).need (RwT p hp (qs++[⟨x,[],[]⟩])) fun _ _=>False:=by
 have e1:=znM zkg (by omega) hx;unfold zdL;refine zc0 rfl ?_;generalize ("plan " : Str)++x=row at *;show ((zgQ [some (.val (.adr p)),some (.val (.int k)),some (.val (.str row)),none] hp).bind outZ).need _ _;unfold zgQ;simp [e1,show gIsN true (D.str x)=some (.bl true) from rfl,zb9 h.hp_];intro y hy;refine Wr.need_bind.mpr (Wr.need_bind.mpr (Wr.need_bind.mpr (Wr.need_bind.mpr (Wr.need_bind.mpr ((zkf hy).mono (fun o ho=>?_) fun _ _ z=>z)))));obtain ⟨d,H⟩:=o;obtain ⟨rfl,g,r,d1,d2,d3,hg,hr,ha,kp⟩:=ho;have pn:hpAt hp p≠none:=by rw [h.hp_];simp
 have py:p≠y:=fun z=>pn (by rw [z];exact hy);have pg:p≠g:=fun z=>pn (by rw [z];exact hg);have pr:p≠r:=fun z=>pn (by rw [z];exact hr);have hp2:hpAt H p=some (.lst (as.map fun b=>.adr b.1)):=(kp p py pg pr).trans h.hp_;have hz:(as.map fun b=>D.adr b.1).length<sizeLine:=by rw [Zql,h.all.len];exact zat hl
 show (Wr.need (ze8 y (.non,H)) _ _);rw [ziE];show (Wr.need (zfo _ p (.adr y,H)) _ _);rw [zb8 hp2 hz];have hn:hpAt H p≠none:=by rw [hp2];simp
 have st:StR (zax H p (.lst ((as.map fun b=>D.adr b.1)++[.adr y]))) p (as++[(y,g,r)]) (qs++[⟨x,[],[]⟩]):=by
  refine h.plan hy hg hr d1 d2 d3 (ha.mono fun b hb=>zap hn ?_) ?_ fun b b1 b2 b3 b4=>(zap hn b4).trans (kp b b1 b2 b3)
  ·have:b=y\/b=g\/b=r:=by simpa using hb
   rcases this with rfl|rfl|rfl
   ·exact py.symm
   ·exact pg.symm
   ·exact pr.symm
  ·rw [zaR hn,List.map_append];rfl
 have keep:∀ b,hpAt hp b≠none->hpAt (zax H p (.lst ((as.map fun b=>D.adr b.1)++[.adr y]))) b≠none:=fun b hb=>by
  rw [zbn b hn]
  split
  ·simp
  ·rw [kp b (fun z=>hb (by rw [z];exact hy)) (fun z=>hb (by rw [z];exact hg)) fun z=>hb (by rw [z];exact hr)];exact hb
 exact ⟨keep,rfl,⟨_,st⟩,keep⟩
theorem zfG {q q':Dr}{row:Str}{k:Int}{n:Nat}(h:StR hp p as (qs++[q]))(hr:TxtOk n row)(hn:n<=1000000)(hs:Txt.startswith row "plan " = false)
 (f:∀ (bs:List (Addr×Addr×Addr)) (a:Addr×Addr×Addr),as=bs++[a]->AllR hp bs qs->AtR hp a q->∃ hp',zk6 [.adr a.1,.int k,.str row] hp=.ok (.bl true,hp')/\StR hp' p as (qs++[q'])/\∀ b,hpAt hp b≠none->hpAt hp' b≠none) :
 (zdL [.adr p,.int k,.str row] hp).need (RwT p hp (qs++[q'])) fun _ _=>False:=by
 obtain ⟨bs,a,ea,hA,ha⟩:=h.all.last;obtain ⟨hp',e,st,keep⟩:=f bs a ea hA ha;have e1:=zow zkg (by omega) hr hn hs;have i1:vIxK (.adr p) (.int (-1),hp)=.ok (.adr a.1,hp):=by
  rw [zcJ (q:=(D.int (-1),hp)) h.hp_];show (Wr.of (.ofO (atI (as.map fun b=>D.adr b.1) (-1)))).bind _=_;rw [ea,List.map_append,List.map_singleton,zcA];rfl
 have dp:=h.dp;have gn:gNeL (zdX (qs++[q])) (.lst [])=some (.bl true):=by
  show some (D.bl (!((qs++[q]).map zbH).isEmpty))=_;simp
 unfold zdL;refine zc0 rfl ?_;show ((zgQ [some (.val (.adr p)),some (.val (.int k)),some (.val (.str row)),none] hp).bind outZ).need _ _;unfold zgQ;simp [e1,show gIsN true D.non=some (.bl false) from rfl,dp,gn,i1,e];exact ⟨keep,rfl,⟨_,st⟩,keep⟩
theorem zkH {q:Dr}{x:Str}(h:StR hp p as (qs++[q]))(hx:nmOk x)(hr:q.rows=[])(hl:q.givens.length<=1000)(k:Int):(zdL [.adr p,.int k,.str (" given " ++ x)] hp).need (RwT p hp (qs++[⟨q.name,q.givens++[x],q.rows⟩])) fun _ _=>False:=by
 refine zfG h (zdG.app hx.1) (by omega) (by rw [zn1];exact zo1 _) fun bs a ea hA ha=>⟨_,zeT ha hr hx hl k,?_,fun b hb=>?_⟩
 ·subst ea;exact h.given ha hA _
 ·rw [zbn b (by rw [ha.gv];simp)]
  split
  ·simp
  ·exact hb
theorem zm1 {q:Dr}{n how:Str}{its:List (Str×Int)}(h:StR hp p as (qs++[q]))(R:RowR n how its)(hl:q.rows.length<=1000)(k:Int):(zdL [.adr p,.int k,.str (rowR n how its)] hp).need (RwT p hp (qs++[⟨q.name,q.givens,q.rows++[(k,n,how,its)]⟩])) fun _ _=>False:=by
 refine zfG h R.ok.1 (by omega) (by unfold rowR;simp only [zct];exact zo1 _) fun bs a ea hA ha=>⟨_,zgn ha R hl k,?_,fun b hb=>?_⟩
 ·subst ea;exact h.made ha hA _
 ·rw [zbn b (by rw [ha.rw_];simp)]
  split
  ·simp
  ·exact hb
end
inductive Rd:Nat->List Str->List Dr->List Dr->Prop
 |nil (k:Nat) (qs:List Dr):Rd k [] qs qs
 |plan {k:Nat} {x:Str} {rs:List Str} {qs r:List Dr}:nmOk x->qs.length<=1000->Rd (k+1) rs (qs++[⟨x,[],[]⟩]) r->Rd k (("plan " ++ x)::rs) qs r
 |given {k:Nat} {x:Str} {rs:List Str} {qs r:List Dr} {q:Dr}:nmOk x->q.givens.length<=1000->q.rows=[]->Rd (k+1) rs (qs++[⟨q.name,q.givens++[x],q.rows⟩]) r->Rd k ((" given " ++ x)::rs) (qs++[q]) r
 |made {k:Nat} {n how:Str} {its:List (Str×Int)} {rs:List Str} {qs r:List Dr} {q:Dr}:RowR n how its->q.rows.length<=1000->Rd (k+1) rs (qs++[⟨q.name,q.givens,q.rows++[((k:Int)+1,n,how,its)]⟩]) r->Rd k (rowR n how its::rs) (qs++[q]) r
def numR:Nat->List Str->List D
 |_,[]=>[]
 |k,x::r=>.tup [.int ((k:Int)+1),.str x]::numR (k+1) r
theorem zk5:∀ (xs:List Str) (k i:Nat),(numR k xs)[i]? = xs[i]?.map fun x=>D.tup [.int (((k+i:Nat):Int)+1),.str x]
 | [],k,i=>by simp [numR]
 |x::xs,k,0=>rfl
 |x::xs,k,i+1=>by
  show (numR (k+1) xs)[i]? = xs[i]?.map _;rw [zk5 xs (k+1) i,show k+1+i=k+(i+1) by omega]
theorem zo7 (xs:List Str):zdw (xs.map .str)=numR 0 xs:=by
 apply List.ext_getElem?;intro i;rw [zgj,zk5,List.getElem?_map,Option.map_map,Nat.zero_add];rfl
noncomputable def doB:FVS:=(zIf (zm7 (zgY (zcq zdL (zaq (vL (dVar 1)) (zaq (vL (dVar 2)) (zaq (vL (dVar 3)) vNil)))))) (zL sNo) zcI)
theorem do_eq:ziB=(zSeq (zSet 1 (vLst vNil)) (zSeq (zFor (iEn1 (zab (dTxt zcC (dVar 0) (dC (.str "\n"))) dNil)) (.tup [2,3]) doB) (zRet (vL (dVar 1))))):=rfl
def zlO (t:D)(p:Addr)(r:List Dr)(o:Out3):Prop:=∃ x2 x3 hp' as',o=.next [some (.val t),some (.val (.adr p)),x2,x3] hp'/\StR hp' p as' r
theorem zsD {t:D}{p:Addr}{x2 x3:Option SV}{hp:HP}{row:Str}{k:Int}{qs':List Dr}(h:(zdL [.adr p,.int k,.str row] hp).need (RwT p hp qs') fun _ _=>False) :
 (zda (.tup [2,3]) doB (.tup [.int k,.str row]) [some (.val t),some (.val (.adr p)),x2,x3] hp).need (zlO t p qs') fun _ _=>False:=by
 have hb:zbl (.tup [2,3]) (.tup [.int k,.str row]) [some (.val t),some (.val (.adr p)),x2,x3]=.ok [some (.val t),some (.val (.adr p)),some (.val (.int k)),some (.val (.str row))]:=rfl;unfold zda;rw [hb];show (doB [some (.val t),some (.val (.adr p)),some (.val (.int k)),some (.val (.str row))] hp).need _ _;unfold doB;simp;refine Wr.need_bind.mpr (Wr.need_bind.mpr (Wr.need_bind.mpr (h.mono (fun o ho=>?_) fun _ _ z=>z)));obtain ⟨d,H⟩:=o;obtain ⟨rfl,⟨as',st⟩,_⟩:=ho;exact ⟨_,_,_,_,rfl,st⟩
theorem zjH {b:D->FVS}{x:D}{xs:List D}{sd:SD}{hp:HP}{P:Out3->Prop}{Q:Str->List D->Prop}(h:(b x sd hp).need (fun o=>∃ sd' hp',o=.next sd' hp'/\(forZ b xs sd' hp').need P Q) Q):(forZ b (x::xs) sd hp).need P Q:=by
 unfold forZ;refine Wr.need_bind.mpr (h.mono (fun o ho=>?_) fun _ _ z=>z);obtain ⟨sd',hp',rfl,h⟩:=ho;exact h
theorem zhg {t:D}{p:Addr}{x2 x3:Option SV}{hp:HP}{row:Str}{k:Int}{qs' r:List Dr}{ds:List D}(h:(zdL [.adr p,.int k,.str row] hp).need (RwT p hp qs') fun _ _=>False)
 (ih:∀ (x2 x3:Option SV) (hp:HP) (as:List (Addr×Addr×Addr)),StR hp p as qs'->(forZ (zda (.tup [2,3]) doB) ds [some (.val t),some (.val (.adr p)),x2,x3] hp).need (zlO t p r) fun _ _=>False) :
 (forZ (zda (.tup [2,3]) doB) (.tup [.int k,.str row]::ds) [some (.val t),some (.val (.adr p)),x2,x3] hp).need (zlO t p r) fun _ _=>False:=by
 have h2:=zsD (t:=t) (x2:=x2) (x3:=x3) h;generalize zda (.tup [2,3]) doB=b at *;apply zjH;refine h2.mono (fun o ho=>?_) fun _ _ z=>z;obtain ⟨y2,y3,hp',as',rfl,st'⟩:=ho;exact ⟨_,_,rfl,ih y2 y3 hp' as' st'⟩
theorem zpt {t:D}{p:Addr}:∀ {k:Nat} {rs:List Str} {qs r:List Dr},Rd k rs qs r->∀ (x2 x3:Option SV) (hp:HP) (as:List (Addr×Addr×Addr)),StR hp p as qs ->
 (forZ (zda (.tup [2,3]) doB) (numR k rs) [some (.val t),some (.val (.adr p)),x2,x3] hp).need (zlO t p r) fun _ _=>False:=by
 intro k rs qs r R
 induction R with
 |nil k qs =>
  intro x2 x3 hp as st;unfold numR forZ;exact ⟨x2,x3,hp,as,rfl,st⟩
 | @plan k x rs qs r hx hl _ ih =>
  intro x2 x3 hp as st;have h1:=zn6 st hx hl ((k:Int)+1);exact zhg h1 ih
 | @given k x rs qs r q hx hl hr _ ih =>
  intro x2 x3 hp as st;have h1:=zkH st hx hr hl ((k:Int)+1);exact zhg h1 ih
 | @made k n how its rs qs r q hR hl _ ih =>
  intro x2 x3 hp as st;have h1:=zm1 st hR hl ((k:Int)+1);exact zhg h1 ih
theorem zku (hp:HP):∃ a,hpAt hp a=none:=by
 have:∀ l:List Nat,∃ a,∀ b∈l,b<a:=fun l=>by
  induction l with
  |nil=>exact ⟨0,fun b h=>nomatch h⟩
  |cons c l ih =>
   obtain ⟨a,h⟩:=ih;refine ⟨a+c+1,fun b hb=>?_⟩;rcases List.mem_cons.mp hb with rfl|hb
   ·omega
   ·have:=h b hb;omega
 obtain ⟨a,h⟩:=this (hp.map (·.1));exact ⟨a,zcp.mpr fun z=>by have:=h a z;omega⟩
theorem zdN {α : Type}{p q:α -> Prop}:∀ {w:Wr α},(w.need p fun _ _=>False)->(w.need q fun _ _=>False)->∃ a,p a/\q a
 | .ok a,h1,h2=>⟨a,h1,h2⟩
 | .ex _ _,h1,_=>h1.elim
 | .no,h1,_=>h1.elim
 | .new hp k,h1,h2=>by
  obtain ⟨a,ha⟩:=zku hp;exact zdN (h1 a ha) (h2 a ha)
theorem f_z11 {n:Nat}{x:Str}{rs:List Str}{r:List Dr}(hx:TxtOk n x)(hn:n<=4000000)(hs:Txt.split x "\n" = rs)(R:Rd 0 rs [] r):zgd [.str x]=.ok (zdX r):=by
 have run:DrT [.str x] (zdX r):=by
  refine ⟨rfl,?_⟩;have g:=zbA (s := "\n") hx hn (by decide +kernel);rw [hs] at g;show ((ziB [some (.val (.str x)),none,none,none] []).bind outZ).need _ _;rw [do_eq];simp [dTxt,g,zFor];intro p hp;rw [zo7];have st:StR [(p,D.lst [])] p [] []:=⟨by rw [zaf,if_pos rfl];rfl,rfl,by simp [adrs]⟩;refine Wr.need_bind.mpr (Wr.need_bind.mpr ((zpt R none none _ _ st).mono (fun o ho=>?_) fun _ _ z=>z));obtain ⟨y2,y3,hp',as',rfl,st'⟩:=ho;exact st'.dp
 unfold zgd;rw [dif_pos ⟨_,run⟩];obtain ⟨a,h1,h2⟩:=zdN (Classical.choose_spec (⟨_,run⟩:∃ d,DrT [.str x] d)).2 run.2;rw [<- h1,h2]
def ixT (xs:List Str):List (Str×Int):=xs.zipIdx.map fun p=>(p.1,(p.2:Int))
theorem zh2 (xs:List Str):(ixT xs).map (·.1)=xs:=by
 unfold ixT;rw [List.map_map];show xs.zipIdx.map Prod.fst=xs;simp
theorem zmF (xs:List Str)(x:Str):ixT (xs++[x])=ixT xs++[(x,(xs.length:Int))]:=by
 unfold ixT;rw [List.zipIdx_append,List.map_append];simp
theorem zpO (xs:List Str):(ixT xs).length=xs.length:=by unfold ixT;simp
theorem zp9 {x:Str}{v:Int}:∀ {t:List (Str×Int)},(t.map (·.1)).Nodup->(x,v)∈t->lkT t x=some v
 | [],_,h=>nomatch h
 | (y,w)::t,nd,h=>by
  rw [List.map_cons] at nd;obtain ⟨n1,n2⟩:=List.nodup_cons.mp nd;rcases List.mem_cons.mp h with e|h
  ·cases e;exact zsx _ _ _
  ·have:y≠x:=fun z=>n1 (List.mem_map.mpr ⟨(x,v),h,z.symm⟩);have e:lkT ((y,w)::t) x=lkT t x:=by
    unfold lkT;rw [List.find?_cons,decide_eq_false this]
   rw [e];exact zp9 n2 h
theorem lk_ix {xs:List Str}(nd:xs.Nodup){k:Int}(h0:0<=k)(h1:k<(xs.length:Int)):lkT (ixT xs) (nmIn xs k)=some k:=by
 refine zp9 (by rw [zh2];exact nd) (List.mem_map.mpr ⟨(nmIn xs k,k.toNat),?_,by show (_,_)=_;congr 1;omega⟩);refine List.mem_of_getElem? (i:=k.toNat) ?_;rw [List.getElem?_zipIdx];unfold nmIn;rw [Zqg (by omega),List.getD_eq_getElem?_getD,Zqg (by omega)];simp
theorem f_z20 {xs:List Str}(nd:xs.Nodup)(hl:xs.length<=900):zml [.lst (xs.map .str)]=.ok (dT (ixT xs)):=by
 obtain ⟨sd1,e1,u2,u3,hsd1⟩:=zbo (tg:=.tup [2,3]) (b:=(zdn 1 (dVar 3) (dVar 2))) (ds:=zew (xs.map .str))
  (sd:=[some (.val (.lst (xs.map .str))),some (.own false (.dct [] [])),none,none])
  (P:=fun i sd=>∃ (u2 u3:Option SV),sd=[some (.val (.lst (xs.map .str))),some (.own false (dT (ixT (xs.take i)))),u2,u3]) ⟨none,none,rfl⟩ (by
   rintro i d sd hx ⟨u2,u3,rfl⟩;rw [zhy,List.getElem?_map] at hx;cases hi:xs[i]? with
   |none=>rw [hi] at hx;cases hx
   |some x =>
    rw [hi] at hx;obtain rfl:=Zqi hx;have il:=(List.getElem?_eq_some_iff.mp hi).1;have tk:xs.take (i+1)=xs.take i++[x]:=by rw [List.take_succ,hi];rfl
    have fr:x∉(ixT (xs.take i)).map (·.1):=by
     rw [zh2];have:=nd.sublist (List.take_sublist (i+1) xs);rw [tk] at this;exact fun z=>(List.nodup_append.mp this).2.2 x z x (by simp) rfl
    have tl:(xs.take i).length=i:=by rw [List.length_take];omega
    have en:ixT (xs.take (i+1))=ixT (xs.take i)++[(x,(i:Int))]:=by rw [tk,zmF,tl]
    have pt:=zpR fr (i:Int);have vt:=zgO (ixT (xs.take i)) x;rw [zeV.mpr fr] at vt;have lz:=zat (show (ixT (xs.take i)).length<=1000 by rw [zpO,tl];omega);refine ⟨[some (.val (.lst (xs.map .str))),some (.own false (dT (ixT (xs.take (i+1))))),some (.val (.int i)),some (.val (.str x))],?_,_,_,rfl⟩;rw [en,<- pt];generalize ixT (xs.take i)=t at *;show ((Res.ok _).bind _)=_;show zdn 1 (dVar 3) (dVar 2) [some (.val (.lst (xs.map .str))),some (.own false (dT t)),some (.val (.int i)),some (.val (.str x))]=_;unfold zdn;show zfh 1 _ (t.map fun p=>.inr p.1) (t.map fun p=>D.int p.2) (.int i) (zbx (.str x))=_;show (if (t.map fun p:Str×Int=>(Sum.inr p.1:Key)).length<sizeLine then (match valD (t.map fun p=>.inr p.1) (t.map fun p=>D.int p.2) (.inr x) with
     |some _=>_
     |none=>_) else _)=_
    rw [Zql,if_pos lz,vt];rfl)
 have el:(zew (xs.map D.str)).length=xs.length:=by unfold zew;simp
 rw [el,List.take_length] at hsd1;subst hsd1;simp [zml,znp,zgK,e1]
theorem f_z21 {xs:List Str}(nd:xs.Nodup)(hl:xs.length<=900){is:List (Int×Int)}(h:∀ i∈is,0<=i.1/\i.1<(xs.length:Int))(hn:is.length<=900)(m:Int):zi1 [.lst ((is.map fun i=>(nmIn xs i.1,i.2)).map rI),dT (ixT xs),.int m]=.ok (rwD is):=by
 have lk:∀ i∈is,lkT (ixT xs) (nmIn xs i.1)=some i.1:=fun i hi=>lk_ix nd (h i hi).1 (h i hi).2;generalize ixT xs=t at *;rw [List.map_map];obtain ⟨L,hL⟩:∃ L,L=is.map (rI ∘ fun i=>(nmIn xs i.1,i.2)):=⟨_,rfl⟩;rw [<- hL];obtain ⟨sd1,e1,u2,u3,hsd1⟩:=zbo (tg:=.tup [3,4]) (b:=(sIf (zal (dOp (gIn true) (dVar 3) (dVar 1))) sNo zaP)) (ds:=L)
  (sd:=[some (.val (.lst L)),some (.val (dT t)),some (.val (.int m)),none,none])
  (P:=fun i sd=>∃ (u3 u4:Option SV),sd=[some (.val (.lst L)),some (.val (dT t)),some (.val (.int m)),u3,u4]) ⟨none,none,rfl⟩ (by
   rintro i d sd hx ⟨u3,u4,rfl⟩;rw [hL] at hx;obtain ⟨p,hp,rfl⟩:=zcy hx;have hv:=lk p (List.mem_of_getElem? hp);have g:gIn true (.str (nmIn xs p.1)) (dT t)=some (.bl false):=by
    show (zbx (.str (nmIn xs p.1))).map (fun q=>D.bl (if true=true then !(valD (t.map fun p=>.inr p.1) (t.map fun p=>D.int p.2) q).isSome else _))=_;show some (D.bl (!(valD (t.map fun p=>.inr p.1) (t.map fun p=>D.int p.2) (.inr (nmIn xs p.1))).isSome))=_;rw [zgO,hv];rfl
   refine ⟨[some (.val (.lst L)),some (.val (dT t)),some (.val (.int m)),some (.val (.str (nmIn xs p.1))),some (.val (.int p.2))],?_,_,_,rfl⟩;simp [rI,g])
 have key:mapE (.tup [0,1]) (dTup (zab (dOp gIx (dVar 2) (dVar 0)) (zab (dVar 1) dNil))) [none,none,some (.val (dT t))] L=.ok (is.map prD):=by
  rw [hL];refine zbq fun p hp=>?_;have hv:=lk p hp;have g:gIx (dT t) (.str (nmIn xs p.1))=some (.int p.1):=by
   show valD (t.map fun p=>.inr p.1) (t.map fun p=>D.int p.2) (.inr (nmIn xs p.1))=_;rw [zgO,hv];rfl
  simp [rI,g,prD]
 have lz:L.length<sizeLine:=zat (by rw [hL,Zql];omega);subst hsd1;simp [zi1,zmq,e1,key,lz,rwD]
def dRow (xs:List Str)(z:Int×Str×Str×List (Int×Int)):Int×Str×Str×List (Str×Int):=(z.1,z.2.1,z.2.2.1,z.2.2.2.map fun i=>(nmIn xs i.1,i.2))
def thD (gs:List Str)(R:List (Int×Str×Str×List (Int×Int))):List Str:=gs++R.map (·.2.1)
structure DrOk (gs:List Str)(R:List (Int×Str×Str×List (Int×Int))):Prop where
 nd:(thD gs R).Nodup
 gl:gs.length<=400
 rl:R.length<=400
 is:∀ z∈R,z.2.2.2.length<=400/\∀ i∈z.2.2.2,0<=i.1/\i.1<((thD gs R).length:Int)
def bkR (ns:List (Str×List Str×List (Int×Str×Str×List (Int×Int)))):List Dr:=ns.map fun p=>⟨p.1,p.2.1,p.2.2.map (dRow (thD p.2.1 p.2.2))⟩
def bkP (ns:List (Str×List Str×List (Int×Str×Str×List (Int×Int)))):List Pl:=ns.map fun p=>⟨p.1,p.2.1,p.2.2.map (·.2)⟩
theorem znI {i:Nat}(h:i<36):(isL (chN i)||isG (chN i))=true:=by
 unfold chN isL isG;by_cases z:i<26
 ·rw [if_pos z,decide_eq_true (show 97<=97+i by omega),decide_eq_true (show 97+i<123 by omega)];rfl
 ·rw [if_neg z,decide_eq_true (show 48<=22+i by omega),decide_eq_true (show 22+i<58 by omega),Bool.and_self,Bool.or_true]
theorem IsW.nm {x:Str}(h:IsW x):nmOk x:=by
 refine ⟨h.ok,?_⟩;have hl:=h.ok.len;obtain ⟨m,hm,rfl,hk⟩:=h;have cl:(zbk m).cps.toList=chN (m % 26)::digN 59 (m / 26):=by show ((zgm m).toArray).toList=_;simp [zgm]
 have lo:1<=(zbk m).length:=by
  show 1<=(zbk m).cps.size;rw [<- Array.length_toList,cl,List.length_cons];omega
 have h26:m % 26<26:=Nat.mod_lt _ (by omega);have hd:isL (chN (m % 26))=true:=by
  unfold chN isL;rw [if_pos h26,decide_eq_true (by omega),decide_eq_true (by omega)];rfl
 have ka:(kept.all fun w => !decide (w=zbk m))=true:=List.all_eq_true.mpr fun w hw=>by
  rw [decide_eq_false fun z=>hk (by rw [<- z];exact hw)];rfl
 unfold zhn;rw [decide_eq_true lo,decide_eq_true hl,ka,cl,Bool.true_and,Bool.true_and,Bool.true_and,List.headD_cons,hd,Bool.true_and,List.all_eq_true];intro c hc;rcases List.mem_cons.mp hc with rfl|hc
 ·exact znI (by omega)
 ·obtain ⟨i,hi,rfl⟩:=zf7 _ _ _ hc;exact znI hi
structure AtB (hp:HP)(a:Addr×Addr×Addr)(q:Pl):Prop where
 pl:hpAt hp a.1=some (.ins "Plan" ["name", "givens", "rows"] [.str q.name,.adr a.2.1,.adr a.2.2])
 gv:hpAt hp a.2.1=some (.lst (q.givens.map .str))
 rw_:hpAt hp a.2.2=some (.lst (q.rows.map rowD))
def FrH (hp hp':HP):Prop:=∀ b,hpAt hp b≠none->hpAt hp' b=hpAt hp b
theorem FrH.trans {h1 h2 h3:HP}(a:FrH h1 h2)(b:FrH h2 h3):FrH h1 h3:=fun c hc=>by
 have:=a c hc;rw [b c (by rw [this];exact hc),this]
theorem FrH.keep {h1 h2:HP}(a:FrH h1 h2)(b:Addr)(hb:hpAt h1 b≠none):hpAt h2 b≠none:=by rw [a b hb];exact hb
theorem FrH.all {h1 h2:HP}(a:FrH h1 h2):(h1.all fun z=>(hpAt h2 z.1).isSome)=true:=List.all_eq_true.mpr fun z hz=>by
 have h1:hpAt h1 z.1≠none:=by
  rw [Ne,zcp];exact fun y=>y (List.mem_map.mpr ⟨z,hz,rfl⟩)
 have:=a.keep z.1 h1;cases y:hpAt h2 z.1 with
 |none=>exact absurd y this
 |some d=>rfl
theorem AtB.fr {hp hp':HP}{a:Addr×Addr×Addr}{q:Pl}(h:AtB hp a q)(f:FrH hp hp'):AtB hp' a q :=
 ⟨(f _ (by rw [h.pl];simp)).trans h.pl,(f _ (by rw [h.gv];simp)).trans h.gv,(f _ (by rw [h.rw_];simp)).trans h.rw_⟩
def AllB (hp:HP):List (Addr×Addr×Addr)->List Pl->Prop
 | [],ps=>ps=[]
 |a::as,ps=>∃ q r,ps=q::r/\AtB hp a q/\AllB hp as r
theorem AllB.fr {hp hp':HP}(f:FrH hp hp'):∀ {as:List (Addr×Addr×Addr)} {ps:List Pl},AllB hp as ps->AllB hp' as ps
 | [],ps,h=>h
 |a::as,ps,h=>by
  obtain ⟨q,r,rfl,ha,h⟩:=h;exact ⟨q,r,rfl,ha.fr f,h.fr f⟩
theorem AllB.mem {hp:HP}:∀ {as:List (Addr×Addr×Addr)} {ps:List Pl},AllB hp as ps->∀ a∈as,∃ q∈ps,AtB hp a q
 | [],ps,h,a,ha=>nomatch ha
 |b::as,ps,h,a,ha=>by
  obtain ⟨q,r,rfl,hb,h⟩:=h;rcases List.mem_cons.mp ha with rfl|ha
  ·exact ⟨q,Zqs,hb⟩
  ·obtain ⟨p,h1,h2⟩:=h.mem a ha;exact ⟨p,Zqm _ h1,h2⟩
theorem AllB.len {hp:HP}:∀ {as:List (Addr×Addr×Addr)} {ps:List Pl},AllB hp as ps->as.length=ps.length
 | [],ps,h=>by rw [show ps=[] from h];rfl
 |a::as,ps,h=>by
  obtain ⟨q,r,rfl,_,h⟩:=h;rw [List.length_cons,List.length_cons,h.len]
theorem AtB.dr4 {hp:HP}{a:Addr×Addr×Addr}{q:Pl}(h:AtB hp a q):dr hp 4 (.adr a.1)=zaW q:=by
 rw [zcs _ h.pl];show D.ins "Plan" ["name", "givens", "rows"] [L2.DL.dr hp 2 (.str q.name),L2.DL.dr hp 2 (.adr a.2.1),L2.DL.dr hp 2 (.adr a.2.2)]=_;rw [zee,zcs _ h.gv,zcs _ h.rw_];show D.ins "Plan" ["name", "givens", "rows"] [.str q.name,.lst ((q.givens.map D.str).map (L2.DL.dr hp 0)),.lst ((q.rows.map rowD).map (L2.DL.dr hp 0))]=_;rw [zdd,zdd];rfl
theorem AllB.dr {hp:HP}:∀ {as:List (Addr×Addr×Addr)} {ps:List Pl},AllB hp as ps->(as.map fun b=>D.adr b.1).map (dr hp 4)=ps.map zaW
 | [],ps,h=>by rw [show ps=[] from h];rfl
 |a::as,ps,h=>by
  obtain ⟨q,r,rfl,ha,h⟩:=h;rw [List.map_cons,List.map_cons,ha.dr4,h.dr];rfl
structure BkAt (hp:HP)(b l:Addr)(as:List (Addr×Addr×Addr))(ps:List Pl):Prop where
 bk:hpAt hp b=some (.ins "Book" ["plans"] [.adr l])
 pl:hpAt hp l=some (.lst (as.map fun a=>.adr a.1))
 all:AllB hp as ps
 ne:∀ a∈as,l≠a.2.1
theorem BkAt.dr8 {hp:HP}{b l:Addr}{as:List (Addr×Addr×Addr)}{ps:List Pl}(h:BkAt hp b l as ps):dr hp 8 (.adr b)=zaU ps:=by
 rw [zcs _ h.bk];show D.ins "Book" ["plans"] [L2.DL.dr hp 6 (.adr l)]=_;rw [zcs _ h.pl];show D.ins "Book" ["plans"] [.lst ((as.map fun b=>D.adr b.1).map (L2.DL.dr hp 4))]=_;rw [h.all.dr];rfl
theorem zn2 {hp:HP}{x:Addr}{nm:Str}{gs rs:List D}(hx:hpAt hp x=none):(zeY [.adr x,.str nm,.lst gs,.lst rs] ((x,.ins "Plan" [] [])::hp)).need (fun o=>o.1=.non/\FrH hp o.2/\∃ g r,hpAt o.2 x=some (.ins "Plan" ["name", "givens", "rows"] [.str nm,.adr g,.adr r])/\hpAt o.2 g=some (.lst gs)/\hpAt o.2 r=some (.lst rs)) fun _ _=>False:=by
 obtain ⟨H0,eH⟩:∃ H:HP,H=(x,D.ins "Plan" [] [])::hp:=⟨_,rfl⟩;have s0:hpAt H0 x=some (.ins "Plan" [] []):=by rw [eH,zaf,if_pos rfl]
 have k0:∀ b,b≠x->hpAt H0 b=hpAt hp b:=fun b z=>by rw [eH,zaf,if_neg z]
 rw [<- eH];have n0:hpAt H0 x≠none:=by rw [s0];simp
 unfold zeY;refine zc0 rfl ?_;obtain ⟨sd,esd⟩:∃ sd:SD,sd=[some (.val (.adr x)),some (.val (.str nm)),some (.val (.lst gs)),some (.val (.lst rs))]:=⟨_,rfl⟩;have e1:zd2 "Plan" "name" sd (.str nm) (.adr x,H0)=.ok (.next sd (zax H0 x (.ins "Plan" ["name"] [.str nm]))):=zcf s0 (by simp) (by simp);show ((zcW [some (.val (.adr x)),some (.val (.str nm)),some (.val (.lst gs)),some (.val (.lst rs))] H0).bind outZ).need _ _;have s1:hpAt (zax H0 x (.ins "Plan" ["name"] [.str nm])) x=some (.ins "Plan" ["name"] [.str nm]):=zaR n0;have k1:∀ b,b≠x->hpAt (zax H0 x (.ins "Plan" ["name"] [.str nm])) b=hpAt hp b:=fun b z=>(zap n0 z).trans (k0 b z);unfold zcW;rw [esd] at e1;simp [e1];generalize zax H0 x (.ins "Plan" ["name"] [.str nm])=H1 at *;intro g hg;have xg:x≠g:=fun z=>by rw [<- z,s1] at hg;cases hg
 obtain ⟨H2,eH2⟩:∃ H:HP,H=(g,D.lst gs)::H1:=⟨_,rfl⟩;rw [<- eH2];have s2:hpAt H2 x=some (.ins "Plan" ["name"] [.str nm]):=by rw [eH2,zaf,if_neg xg,s1]
 have g2:hpAt H2 g=some (.lst gs):=by rw [eH2,zaf,if_pos rfl]
 have k2:∀ b,b≠x->b≠g->hpAt H2 b=hpAt hp b:=fun b z y=>by rw [eH2,zaf,if_neg y,k1 b z]
 have n2:hpAt H2 x≠none:=by rw [s2];simp
 have e2:zd2 "Plan" "givens" sd (.adr g) (.adr x,H2)=.ok (.next sd (zax H2 x (.ins "Plan" ["name", "givens"] [.str nm,.adr g]))):=zcf s2 (by decide +kernel) (by simp);have s3:hpAt (zax H2 x (.ins "Plan" ["name", "givens"] [.str nm,.adr g])) x=some (.ins "Plan" ["name", "givens"] [.str nm,.adr g]):=zaR n2;have g3:hpAt (zax H2 x (.ins "Plan" ["name", "givens"] [.str nm,.adr g])) g=some (.lst gs):=(zap n2 xg.symm).trans g2;have k3:∀ b,b≠x->b≠g->hpAt (zax H2 x (.ins "Plan" ["name", "givens"] [.str nm,.adr g])) b=hpAt hp b:=fun b z y=>(zap n2 z).trans (k2 b z y);rw [esd] at e2;simp [e2];generalize zax H2 x (.ins "Plan" ["name", "givens"] [.str nm,.adr g])=H3 at *;intro r hr;have xr:x≠r:=fun z=>by rw [<- z,s3] at hr;cases hr
 have gr:g≠r:=fun z=>by rw [<- z,g3] at hr;cases hr
 obtain ⟨H4,eH4⟩:∃ H:HP,H=(r,D.lst rs)::H3:=⟨_,rfl⟩;rw [<- eH4];have s4:hpAt H4 x=some (.ins "Plan" ["name", "givens"] [.str nm,.adr g]):=by rw [eH4,zaf,if_neg xr,s3]
 have g4:hpAt H4 g=some (.lst gs):=by rw [eH4,zaf,if_neg gr,g3]
 have r4:hpAt H4 r=some (.lst rs):=by rw [eH4,zaf,if_pos rfl]
 have k4:∀ b,b≠x->b≠g->b≠r->hpAt H4 b=hpAt hp b:=fun b z y w=>by rw [eH4,zaf,if_neg w,k3 b z y]
 have n4:hpAt H4 x≠none:=by rw [s4];simp
 have e4:zd2 "Plan" "rows" sd (.adr r) (.adr x,H4)=.ok (.next sd (zax H4 x (.ins "Plan" ["name", "givens", "rows"] [.str nm,.adr g,.adr r]))):=zcf s4 (by decide +kernel) (by simp);have s5:hpAt (zax H4 x (.ins "Plan" ["name", "givens", "rows"] [.str nm,.adr g,.adr r])) x=some (.ins "Plan" ["name", "givens", "rows"] [.str nm,.adr g,.adr r]):=zaR n4;have k5:∀ b,b≠x->hpAt (zax H4 x (.ins "Plan" ["name", "givens", "rows"] [.str nm,.adr g,.adr r])) b=hpAt H4 b:=fun b z=>zap n4 z;rw [esd] at e4;rw [e4];generalize zax H4 x (.ins "Plan" ["name", "givens", "rows"] [.str nm,.adr g,.adr r])=H5 at *;have hg0:hpAt hp g=none:=by rw [<- k1 g xg.symm];exact hg
 have hr0:hpAt hp r=none:=by rw [<- k3 r xr.symm gr.symm];exact hr
 have fr:FrH hp H5:=fun b hb=>by
  have bx:b≠x:=fun z=>hb (by rw [z];exact hx);rw [k5 b bx,k4 b bx (fun y=>hb (by rw [y];exact hg0)) fun y=>hb (by rw [y];exact hr0)]
 show (∀ b,hpAt H0 b≠none->hpAt H5 b≠none)/\_;refine ⟨fun b hb=>?_,rfl,fr,g,r,s5,(k5 g xg.symm).trans g4,(k5 r xr.symm).trans r4⟩;by_cases z:b=x
 ·rw [z,s5];simp
 ·exact fr.keep b (by rw [<- k0 b z];exact hb)
theorem zmu {hp:HP}{x c:Addr}{es:List D}(hx:hpAt hp x=none)(hc:hpAt hp c=some (.lst es)):(zdJ [.adr x,.adr c] ((x,.ins "Book" [] [])::hp)).need (fun o=>o.1=.non/\FrH hp o.2/\∃ l,hpAt hp l=none/\hpAt o.2 x=some (.ins "Book" ["plans"] [.adr l])/\hpAt o.2 l=some (.lst es)) fun _ _=>False:=by
 obtain ⟨H0,eH⟩:∃ H:HP,H=(x,D.ins "Book" [] [])::hp:=⟨_,rfl⟩;have s0:hpAt H0 x=some (.ins "Book" [] []):=by rw [eH,zaf,if_pos rfl]
 have k0:∀ b,b≠x->hpAt H0 b=hpAt hp b:=fun b z=>by rw [eH,zaf,if_neg z]
 rw [<- eH];have cx:c≠x:=fun z=>by rw [z,hx] at hc;cases hc
 have c0:hpAt H0 c=some (.lst es):=(k0 c cx).trans hc;unfold zdJ;refine zc0 rfl ?_;obtain ⟨sd,esd⟩:∃ sd:SD,sd=[some (.val (.adr x)),some (.val (.adr c))]:=⟨_,rfl⟩;show ((zde [some (.val (.adr x)),some (.val (.adr c))] H0).bind outZ).need _ _;unfold zde;simp [ziA c0];intro l hl;have lx:l≠x:=fun z=>by rw [z,s0] at hl;cases hl
 obtain ⟨H1,eH1⟩:∃ H:HP,H=(l,D.lst es)::H0:=⟨_,rfl⟩;rw [<- eH1];have s1:hpAt H1 x=some (.ins "Book" [] []):=by rw [eH1,zaf,if_neg lx.symm,s0]
 have l1:hpAt H1 l=some (.lst es):=by rw [eH1,zaf,if_pos rfl]
 have k1:∀ b,b≠x->b≠l->hpAt H1 b=hpAt hp b:=fun b z y=>by rw [eH1,zaf,if_neg y,k0 b z]
 have n1:hpAt H1 x≠none:=by rw [s1];simp
 have e1:zd2 "Book" "plans" sd (.adr l) (.adr x,H1)=.ok (.next sd (zax H1 x (.ins "Book" ["plans"] [.adr l]))):=zcf s1 (by simp) (by simp);have s2:hpAt (zax H1 x (.ins "Book" ["plans"] [.adr l])) x=some (.ins "Book" ["plans"] [.adr l]):=zaR n1;have k2:∀ b,b≠x->hpAt (zax H1 x (.ins "Book" ["plans"] [.adr l])) b=hpAt H1 b:=fun b z=>zap n1 z;rw [esd] at e1;rw [e1];generalize zax H1 x (.ins "Book" ["plans"] [.adr l])=H2 at *;have hl0:hpAt hp l=none:=by rw [<- k0 l lx];exact hl
 have fr:FrH hp H2:=fun b hb=>by
  have bx:b≠x:=fun z=>hb (by rw [z];exact hx);rw [k2 b bx,k1 b bx fun y=>hb (by rw [y];exact hl0)]
 show (∀ b,hpAt H0 b≠none->hpAt H2 b≠none)/\_;refine ⟨fun b hb=>?_,rfl,fr,l,hl0,s2,(k2 l lx).trans l1⟩;by_cases z:b=x
 ·rw [z,s2];simp
 ·exact fr.keep b (by rw [<- k0 b z];exact hb)
def MadeP (hp:HP)(p:Pl)(o:D×HP):Prop:=FrH hp o.2/\∃ a:Addr×Addr×Addr,o.1=.adr a.1/\AtB o.2 a p
theorem f_z19 {hp:HP}{nm:Str}{gs:List Str}{R:List (Int×Str×Str×List (Int×Int))}(h:DrOk gs R):(zfM [zbH ⟨nm,gs,R.map (dRow (thD gs R))⟩] hp).need (MadeP hp ⟨nm,gs,R.map (·.2)⟩) fun _ _=>False:=by
 have tl:(thD gs R).length<=900:=by unfold thD;rw [List.length_append,Zql];have:=h.gl;have:=h.rl;omega
 have fn:=f_z20 h.nd tl;have fnd:∀ z∈R,zi1 [.lst ((z.2.2.2.map fun i=>(nmIn (thD gs R) i.1,i.2)).map rI),dT (ixT (thD gs R)),.int z.1]=.ok (rwD z.2.2.2):=fun z hz=>f_z21 h.nd tl (h.is z hz).2 (by have:=(h.is z hz).1;omega) z.1;obtain ⟨xs,ex⟩:∃ xs,xs=thD gs R:=⟨_,rfl⟩;have th:thD gs R=gs++R.map (·.2.1):=rfl;rw [<- ex] at fn fnd th ⊢;obtain ⟨L,hL⟩:∃ L,L=(R.map (dRow xs)).map drwD:=⟨_,rfl⟩;have hL2:L=R.map (drwD ∘ dRow xs):=by rw [hL,List.map_map]
 have ll:L.length=R.length:=by rw [hL2,Zql]
 have rl:=h.rl;have gl:=h.gl;have m1:mapE (.tup [0,1]) (dOp gIx (dVar 1) (dC (.int 0))) [none,none] L=.ok (R.map fun z=>.str z.2.1):=by
  rw [hL2];refine zbq fun z hz=>?_;have g:gIx (zg5 z.2.1 z.2.2.1 (z.2.2.2.map fun i=>(nmIn xs i.1,i.2))) (.int 0)=some (.str z.2.1):=at_0 _ _;simp [drwD,dRow,g]
 have g1:gAdd (.lst (gs.map .str)) (.lst (R.map fun z=>.str z.2.1))=some (.lst (xs.map .str)):=by
  show (if (gs.map D.str).length+(R.map fun z=>D.str z.2.1).length<=sizeLine then some (D.lst (gs.map D.str++R.map fun z=>D.str z.2.1)) else none)=_;rw [if_pos (small (by rw [Zql,Zql];omega)),th,List.map_append,List.map_map];rfl
 have dD:zbH ⟨nm,gs,R.map (dRow xs)⟩=.ins "Draft" ["name", "givens", "rows"] [.str nm,.lst (gs.map .str),.lst L]:=by rw [hL];rfl
 rw [dD];obtain ⟨dd,hdd⟩:∃ dd,dd=D.ins "Draft" ["name", "givens", "rows"] [.str nm,.lst (gs.map .str),.lst L]:=⟨_,rfl⟩;have f1:gFld "Draft" "name" dd=some (.str nm):=by rw [hdd];rfl
 have f2:gFld "Draft" "givens" dd=some (.lst (gs.map .str)):=by rw [hdd];rfl
 have f3:gFld "Draft" "rows" dd=some (.lst L):=by rw [hdd];rfl
 rw [<- hdd];generalize ixT xs=t at *;obtain ⟨sd1,e1,u3,u4,hsd1⟩:=zbo (tg:=.tup [3,4]) (b:=(zcm 2 (dTup (zab (dOp gIx (dVar 4) (dC (.int 0))) (zab (dOp gIx (dVar 4) (dC (.int 1))) (zab (zav zi1 (zab (dOp gIx (dVar 4) (dC (.int 2))) (zab (dVar 1) (zab (dVar 3) dNil)))) dNil)))))) (ds:=L)
  (sd:=[some (.val dd),some (.val (dT t)),some (.own false (.lst [])),none,none])
  (P:=fun i sd=>∃ (u3 u4:Option SV),sd=[some (.val dd),some (.val (dT t)),some (.own false (.lst ((R.take i).map fun z=>rowD z.2))),u3,u4]) ⟨none,none,rfl⟩ (by
   rintro i d sd hx ⟨u3,u4,rfl⟩;rw [hL2] at hx;obtain ⟨z,hz,rfl⟩:=zcy hx;have e:=fnd z (List.mem_of_getElem? hz);obtain ⟨md,hmd⟩:∃ md,md=zg5 z.2.1 z.2.2.1 (z.2.2.2.map fun i=>(nmIn xs i.1,i.2)):=⟨_,rfl⟩;have k0:gIx md (.int 0)=some (.str z.2.1):=by rw [hmd];exact at_0 _ _
   have k1:gIx md (.int 1)=some (.str z.2.2.1):=by rw [hmd];exact at_1 _ _ _
   have k2:gIx md (.int 2)=some (.lst ((z.2.2.2.map fun i=>(nmIn xs i.1,i.2)).map rI)):=by rw [hmd];exact at_2 _ _ _ _
   have tk:R.take (i+1)=R.take i++[z]:=by rw [List.take_add_one,hz];rfl
   have lz:=zat (show ((R.take i).map fun z=>rowD z.2).length<=1000 by rw [Zql,List.length_take];omega);refine ⟨[some (.val dd),some (.val (dT t)),some (.own false (.lst ((R.take (i+1)).map fun z=>rowD z.2))),some (.val (.int z.1)),some (.val md)],?_,_,_,rfl⟩;rw [tk,List.map_append];generalize (R.take i).map (fun z=>rowD z.2)=acc at *;generalize (z.2.2.2.map fun i=>(nmIn xs i.1,i.2)).map rI=its at *;show ((zbl (.tup [3,4]) (.tup [.int z.1,zg5 z.2.1 z.2.2.1 (z.2.2.2.map fun i=>(nmIn xs i.1,i.2))]) _).bind _)=_;rw [<- hmd];simp [k0,k1,k2,e,lz,rowD])
 rw [ll,List.take_length] at hsd1;subst hsd1;have lz:L.length<sizeLine:=zat (by omega);have pr:(R.map (·.2)).map rowD=R.map fun z=>rowD z.2:=by rw [List.map_map];rfl
 unfold zfM;refine zc0 rfl ?_;show ((zjf [some (.val dd),none,none,none,none] hp).bind outZ).need _ _;generalize hacc:R.map (fun z=>rowD z.2)=acc at *;simp [zjf,f1,f2,f3,m1,lz,g1,fn,e1];intro x hx;refine Wr.need_bind.mpr (Wr.need_bind.mpr (Wr.need_bind.mpr ((zn2 hx).mono (fun o ho=>?_) fun _ _ z=>z)));obtain ⟨d,H⟩:=o;obtain ⟨rfl,fr,g,r,h1,h2,h3⟩:=ho;exact ⟨fr.keep,fr,(x,g,r),rfl,h1,h2,by show hpAt H r=some (.lst ((R.map (·.2)).map rowD));rw [pr];exact h3⟩
theorem zeC:∀ (ns:List (Str×List Str×List (Int×Str×Str×List (Int×Int)))) (hp:HP),(∀ p∈ns,DrOk p.2.1 p.2.2)->(mapV (.one 0) (zcq zfM (zaq (vL (dVar 0)) vNil)) [none] ((bkR ns).map zbH) hp).need (fun q=>FrH hp q.2/\∃ as:List (Addr×Addr×Addr),q.1=(as.map fun a=>.adr a.1)/\AllB q.2 as (bkP ns)) fun _ _=>False
 | [],hp,_=>⟨fun _ _=>rfl,[],rfl,rfl⟩
 |p::ns,hp,h=>by
  have e:=f_z19 (hp:=hp) (nm:=p.1) (h p Zqs);show ((Wr.of (zbl (.one 0) (zbH ⟨p.1,p.2.1,p.2.2.map (dRow (thD p.2.1 p.2.2))⟩) [none])).bind _).need _ _;generalize zbH ⟨p.1,p.2.1,p.2.2.map (dRow (thD p.2.1 p.2.2))⟩=d at *;refine Wr.need_bind.mpr ?_;show (Wr.need (((zcq zfM (zaq (vL (dVar 0)) vNil)) [some (.val d)] hp).bind _) _ _);refine Wr.need_bind.mpr ?_;have e2:(zcq zfM (zaq (vL (dVar 0)) vNil)) [some (.val d)] hp=zfM [d] hp:=by simp
  rw [e2];refine e.mono (fun o ho=>?_) fun _ _ z=>z;obtain ⟨fr,a,e3,ha⟩:=ho;rw [if_pos fr.all];refine Wr.need_bind.mpr ((zeC ns o.2 fun q hq=>h q (Zqm _ hq)).mono (fun q hq=>?_) fun _ _ z=>z);obtain ⟨fr2,as,e4,hs⟩:=hq;exact ⟨fr.trans fr2,a::as,by show o.1::q.1=_;rw [e3,e4];rfl,_,_,rfl,ha.fr fr2,hs⟩
def RdT (hp:HP)(ps:List Pl)(o:D×HP):Prop:=(∀ b,hpAt hp b≠none->hpAt o.2 b≠none)/\∃ b l as,o.1=.adr b/\BkAt o.2 b l as ps
theorem f_z10 {hp:HP}{n:Nat}{x:Str}{rs:List Str}{ns:List (Str×List Str×List (Int×Str×Str×List (Int×Int)))}(hx:TxtOk n x)(hn:n<=4000000)(hs:Txt.split x "\n" = rs)(R:Rd 0 rs [] (bkR ns))(hd:∀ p∈ns,DrOk p.2.1 p.2.2)(L:LB (bkP ns))(l1:1<=ns.length)(l2:ns.length<=20):(ziW [.str x] hp).need (RdT hp (bkP ns)) fun _ _=>False:=by
 have e1:=f_z11 hx hn hs R;have e2:=f_z1 L (by unfold bkP;rw [Zql];exact l1) (by unfold bkP;rw [Zql];exact l2);have lz:((bkR ns).map zbH).length<sizeLine:=zat (by rw [Zql];unfold bkR;rw [Zql];omega);have pm:=zeC ns hp hd;unfold zdX at e1;unfold ziW;refine zc0 rfl ?_;show ((zjP [some (.val (.str x)),none] hp).bind outZ).need _ _;generalize (bkR ns).map zbH=qs at *;simp [zjP,e1,lz];simp only [Wr.need_bind];refine pm.mono (fun q hq=>?_) fun _ _ z=>z;obtain ⟨fr,as,e3,hs⟩:=hq;obtain ⟨q1,H⟩:=q;have e3:q1=as.map fun a=>.adr a.1:=e3;subst e3;intro c hc;have hc:hpAt H c=none:=hc;have fr:FrH hp H:=fr;have hs:AllB H as (bkP ns):=hs;obtain ⟨H1,eH1⟩:∃ H1:HP,H1=(c,D.lst (as.map fun a=>.adr a.1))::H:=⟨_,rfl⟩;have fr1:FrH H H1:=fun b hb=>by rw [eH1,zaf,if_neg fun z=>hb (by rw [z];exact hc)]
 have hcc:hpAt H1 c=some (.lst (as.map fun a=>.adr a.1)):=by rw [eH1,zaf,if_pos rfl]
 show ∀ y,hpAt ((c,D.lst (as.map fun a=>.adr a.1))::H) y=none->((zdJ [.adr y,.adr c] ((y,.ins "Book" [] [])::((c,D.lst (as.map fun a=>.adr a.1))::H))).bind (ze8 y)).need _ _;rw [<- eH1];intro y hy;refine Wr.need_bind.mpr ((zmu hy hcc).mono (fun o ho=>?_) fun _ _ z=>z);obtain ⟨d,H2⟩:=o;obtain ⟨rfl,fr2,l,hl,hb,hl2⟩:=ho;have frA:=fr.trans (fr1.trans fr2);have bk:BkAt H2 y l as (bkP ns):=⟨hb,hl2,(hs.fr fr1).fr fr2,fun a ha z=>by
  obtain ⟨q,_,hq⟩:=(hs.fr fr1).mem a ha;rw [z,hq.gv] at hl;cases hl⟩
 have d8:=bk.dr8;show (Wr.need (zK (zSeq (ziH (vRd 8 [1] (zav F_z1 (zab (dVar 1) dNil)))) (zRet (vL (dVar 1)))) (.next [some (.val (.str x)),some (.val (.adr y))] H2)) _ _);simp [d8,e2];exact ⟨frA.keep,frA.keep,y,l,as,rfl,bk⟩
noncomputable def ziu:FS:=(sSeq (sIf (zal (dOp gEq (dVar 1) (dC (.int 0)))) (sRet (dVar 0)) zaP) (sRet (dIf (zal (dOp gGt (dVar 1) (dC (.int 0)))) ((jFv zbs (dVar 0) (jCon "+" (jFv zbs (dVar 1) jNil))) Str.empty) ((jFv zbs (dVar 0) (jFv zbs (dVar 1) jNil)) Str.empty))))
noncomputable def zhk:List D->Res D:=runD 2 2 ziu
theorem f_z25 {x:Str}{w:Int}(hx:TxtOk 12 x)(h1 : -1000000000000000000000000000000<w)(h2:w<1000000000000000000000000000000):zhk [.str x,.int w]=.ok (.str (itT x w)):=by
 have hn:=zgB h1 h2;have ha:=hx.len;have hb:=hn.len;have gs:zbs (.int w)=some (numT w):=if_pos (Nat.lt_trans (zpH h1 h2) (by omega));unfold itT;by_cases c:w=0
 ·simp [zhk,ziu,c]
 ·by_cases d:0<w
  ·have e:(jFv zbs (dVar 0) (jCon "+" (jFv zbs (dVar 1) jNil))) Str.empty [some (.val (.str x)),some (.val (.int w))]=.ok (.str (x ++ "+" ++ numT w)):=by
    have l1:(("+" : Str)).length=1:=by decide +kernel
    rw [jfv (d:=.str x) (z:=x) rfl rfl (by rw [zd5];omega),zd5,jcon (by rw [za9];omega),jfv (d:=.int w) (z:=numT w) rfl gs (by rw [za9,za9];omega),jnil (by rw [za9,za9];omega)]
   simp [zhk,ziu,c,d,e]
  ·have e:(jFv zbs (dVar 0) (jFv zbs (dVar 1) jNil)) Str.empty [some (.val (.str x)),some (.val (.int w))]=.ok (.str (x++numT w)):=by
    rw [jfv (d:=.str x) (z:=x) rfl rfl (by rw [zd5];omega),zd5,jfv (d:=.int w) (z:=numT w) rfl gs (by rw [za9];omega),jnil (by rw [za9];omega)]
   simp [zhk,ziu,c,d,e]
noncomputable def znc:FS:=(sSeq (sSet 4 (dIf (zal (dOp (gIn false) (dVar 1) (dTup (zab (dC (.str "all")) (zab (dC (.str "first")) dNil))))) (dVar 1) ((jCon "part " (jFv zbs (dVar 1) jNil)) Str.empty))) (sSeq (sSet 5 (dTxt zi9 (dC (.str ", ")) (zbX [none,none,some 3] (iS (dVar 2)) (.tup [0,1]) (zav zhk (zab (dOp gIx (dVar 2) (dVar 0)) (zab (dVar 1) dNil)))))) (sRet ((jCon " " (jFv zbs (dVar 0) (jCon " " (jFv zbs (dVar 4) (jCon " " (jFv zbs (dVar 5) jNil)))))) Str.empty))))
noncomputable def zkM:List D->Res D:=runD 6 4 znc
theorem f_z24 {xs:List Str}{r:Str×Str×List (Int×Int)}(hx:∀ x∈xs,TxtOk 12 x)(h1:TxtOk 12 r.1)(h2:TxtOk 12 r.2.1)(hl:r.2.2.length<=44)(h:∀ i∈r.2.2,0<=i.1/\i.1<(xs.length:Int) /\ -1000000000000000000000000000000<i.2/\i.2<1000000000000000000000000000000) :
 zkM [.str r.1,.str r.2.1,rwD r.2.2,.lst (xs.map .str)]=.ok (.str (rowT xs r)):=by
 obtain ⟨a,b,c⟩:=zjM hx hl h;have mk:mapE (.tup [0,1]) (zav zhk (zab (dOp gIx (dVar 2) (dVar 0)) (zab (dVar 1) dNil))) [none,none,some (.val (.lst (xs.map .str)))] (r.2.2.map prD)=.ok (r.2.2.map fun p=>.str (itT (nmIn xs p.1) p.2)):=zbq fun p hp=>by
  obtain ⟨k0,k1,k2,k3⟩:=h p hp;obtain ⟨e1,e2⟩:=zls k0 k1;have e3:=f_z25 (hx _ e2) k2 k3;simp [e1,e3]
 have gj:=zdp c;rw [List.map_map] at gj;have gj:zi9 ", " (.lst (r.2.2.map fun p=>D.str (itT (nmIn xs p.1) p.2)))=some (.str (itsT xs r.2.2)):=gj;have hz:=zat (show r.2.2.length<=1000 by omega);have x2:gIn false (.str r.2.1) (.tup [D.str "all",D.str "first"])=some (.bl (decide (r.2.1 = "all" \/ r.2.1 = "first"))):=by
  have:=zdT (neg:=false) (x:=r.2.1) (xs:=["all", "first"]) h2.asc (by
   intro y hy;have:y = "all" \/ y = "first" := by simpa using hy
   rcases this with rfl|rfl<;>unfold asc<;>decide +kernel)
  rw [show D.tup (List.map D.str ["all", "first"])=D.tup [D.str "all",D.str "first"] from rfl] at this;rw [this];simp
 have l1:=h1.len;have l2:=h2.len;have l3:=b.len;have l4:=(zg6 h2).len;have ls:((" " : Str)).length=1:=by decide +kernel
 have lp:(("part " : Str)).length=5:=by decide +kernel
 have ew:∀ u5:Option SV,dIf (zal (dOp (gIn false) (dVar 1) (dTup (zab (dC (.str "all")) (zab (dC (.str "first")) dNil))))) (dVar 1) ((jCon "part " (jFv zbs (dVar 1) jNil)) Str.empty) [some (.val (.str r.1)),some (.val (.str r.2.1)),some (.val (rwD r.2.2)),some (.val (.lst (xs.map .str))),none,u5]=.ok (.str (wayT r.2.1)):=fun u5=>by
  unfold wayT;by_cases c1:r.2.1 = "all" \/ r.2.1 = "first"
  ·rw [if_pos c1];simp [x2,c1]
  ·rw [if_neg c1];have e:(jCon "part " (jFv zbs (dVar 1) jNil)) Str.empty [some (.val (.str r.1)),some (.val (.str r.2.1)),some (.val (rwD r.2.2)),some (.val (.lst (xs.map .str))),none,u5]=.ok (.str ("part " ++ r.2.1)):=by
    rw [jcon (by rw [zd5];omega),zd5,jfv (d:=.str r.2.1) (z:=r.2.1) rfl rfl (by rw [za9];omega),jnil (by rw [za9];omega)]
   simp [x2,c1,e]
 have er:(jCon " " (jFv zbs (dVar 0) (jCon " " (jFv zbs (dVar 4) (jCon " " (jFv zbs (dVar 5) jNil)))))) Str.empty [some (.val (.str r.1)),some (.val (.str r.2.1)),some (.val (rwD r.2.2)),some (.val (.lst (xs.map .str))),some (.val (.str (wayT r.2.1))),some (.val (.str (itsT xs r.2.2)))]=.ok (.str (rowT xs r)):=by
  rw [jcon (by rw [zd5];omega),zd5,jfv (d:=.str r.1) (z:=r.1) rfl rfl (by rw [za9];omega),jcon (by simp only [za9];omega),jfv (d:=.str (wayT r.2.1)) (z:=wayT r.2.1) rfl rfl (by simp only [za9];omega),jcon (by simp only [za9];omega),jfv (d:=.str (itsT xs r.2.2)) (z:=itsT xs r.2.2) rfl rfl (by simp only [za9];omega),jnil (by simp only [za9];omega)];rfl
 have ew0:=ew none;unfold zkM znc;rw [zqW];simp only [zrr,zst];show Res.bind (Res.bind (Res.bind (dIf _ _ _ [some (.val (.str r.1)),some (.val (.str r.2.1)),some (.val (rwD r.2.2)),some (.val (.lst (xs.map .str))),none,none]) _) _) _=_;rw [ew0];simp [mk,hz,dTxt,gj,er]
noncomputable def zmV:FS:=(sSeq (sSet 1 (dUn (gFld "Plan" "name") (dVar 0))) (sSeq (sSet 2 (dOp gAdd (dUn (gFld "Plan" "givens") (dVar 0)) (zbX [none,none,none] (iS (dUn (gFld "Plan" "rows") (dVar 0))) (.tup [0,1,2]) (dVar 0)))) (sSeq (sSet 3 (dOp gAdd (dLst (zab ((jCon "plan " (jFv zbs (dVar 1) jNil)) Str.empty) dNil)) (zbX [none] (iS (dUn (gFld "Plan" "givens") (dVar 0))) (.one 0) ((jCon " given " (jFv zbs (dVar 0) jNil)) Str.empty)))) (sRet (dOp zpW (dVar 3) (zbX [none,none,none,some 2] (iS (dUn (gFld "Plan" "rows") (dVar 0))) (.tup [0,1,2]) (zav zkM (zab (dVar 0) (zab (dVar 1) (zab (dVar 2) (zab (dVar 3) dNil)))))))))))
noncomputable def zjO:List D->Res D:=runN 4 1 zmV
theorem f_z23 {p:Pl}(h:PlT p):zjO [zaW p]=.ok (.lst ((za2 p).map .str)):=by
 have hl:=h.gl;have hr:=h.rl;have l5:(("plan " : Str)).length=5:=by decide +kernel
 have l7:((" given " : Str)).length=7:=by decide +kernel
 have ln:=h.nm.len;have m1:mapE (.tup [0,1,2]) (dVar 0) [none,none,none] (p.rows.map rowD)=.ok (p.rows.map fun r=>.str r.1):=zbq fun r hr=>by simp [rowD]
 have m2:mapE (.one 0) ((jCon " given " (jFv zbs (dVar 0) jNil)) Str.empty) [none] (p.givens.map .str)=.ok (p.givens.map fun g=>.str (" given " ++ g)):=zbq fun g hg=>by
  have:=(h.gs g hg).len;have e:(jCon " given " (jFv zbs (dVar 0) jNil)) Str.empty [some (.val (.str g))]=.ok (.str (" given " ++ g)):=by
   rw [jcon (by rw [zd5];omega),zd5,jfv (d:=.str g) (z:=g) rfl rfl (by rw [za9];omega),jnil (by rw [za9];omega)]
  simp [e]
 have m3:mapE (.tup [0,1,2]) (zav zkM (zab (dVar 0) (zab (dVar 1) (zab (dVar 2) (zab (dVar 3) dNil))))) [none,none,none,some (.val (.lst ((thT p).map .str)))] (p.rows.map rowD)=.ok (p.rows.map fun r=>.str (rowT (thT p) r)):=zbq fun r hr=>by
  obtain ⟨a,b,c,d⟩:=h.rs r hr;have e:=f_z24 (xs:=thT p) h.th a b c fun i hi=>by rw [zgN];exact d i hi
  simp [rowD,e]
 have z1:=zat (show p.rows.length<=1000 by omega);have z2:=zat (show p.givens.length<=1000 by omega);have e1:∀ sd:SD,sd[1]? = some (some (.val (.str p.name)))->(jCon "plan " (jFv zbs (dVar 1) jNil)) Str.empty sd=.ok (.str ("plan " ++ p.name)):=fun sd hs=>by
  rw [jcon (by rw [zd5];omega),zd5,jfv (d:=.str p.name) (z:=p.name) (by simp [hs]) rfl (by rw [za9];omega),jnil (by rw [za9];omega)]
 have g1:gAdd (.lst (p.givens.map .str)) (.lst (p.rows.map fun r=>.str r.1))=some (.lst ((thT p).map .str)):=by
  show (if (p.givens.map D.str).length+(p.rows.map fun r=>D.str r.1).length<=sizeLine then some (D.lst (p.givens.map D.str++p.rows.map fun r=>D.str r.1)) else none)=_;rw [if_pos (small (by rw [Zql,Zql];omega))];unfold thT;simp
 have g2:gAdd (.lst [.str ("plan " ++ p.name)]) (.lst (p.givens.map fun g=>.str (" given " ++ g)))=some (.lst (([("plan " : Str)++p.name]++p.givens.map fun g=>(" given " : Str)++g).map .str)):=by
  show (if 1+(p.givens.map fun g=>D.str (" given " ++ g)).length<=sizeLine then some (D.lst ([.str ("plan " ++ p.name)]++p.givens.map fun g=>D.str (" given " ++ g))) else none)=_;rw [if_pos (small (by rw [Zql];omega))];simp
 have g3:zpW (.lst (([("plan " : Str)++p.name]++p.givens.map fun g=>(" given " : Str)++g).map .str)) (.lst (p.rows.map fun r=>.str (rowT (thT p) r)))=some (.lst ((za2 p).map .str)):=by
  show (if (([("plan " : Str)++p.name]++p.givens.map fun g=>(" given " : Str)++g).map D.str).length+(p.rows.map fun r=>D.str (rowT (thT p) r)).length<=sizeLine then some (D.lst ((([("plan " : Str)++p.name]++p.givens.map fun g=>(" given " : Str)++g).map D.str)++p.rows.map fun r=>D.str (rowT (thT p) r))) else none)=_;rw [if_pos (small (by simp;omega))];unfold za2 thT;simp
 obtain ⟨L1,hL1⟩:∃ L1,L1=D.lst (([("plan " : Str)++p.name]++p.givens.map fun g=>(" given " : Str)++g).map .str):=⟨_,rfl⟩;rw [<- hL1] at g2 g3;obtain ⟨L2,hL2⟩:∃ L2,L2=D.lst ((thT p).map .str):=⟨_,rfl⟩;rw [<- hL2] at g1 m3;simp [zjO,zmV,m1,m2,m3,z1,z2,e1,g1,g2,g3]
noncomputable def zmg:FS:=(sSeq (sOwn 1 (dLst dNil)) (sSeq (sFor (iS (dUn (gFld "Book" "plans") (dVar 0))) (.one 2) (zdr 1 (zav zjO (zab (dVar 2) dNil)))) (fun sd=>(sRet (dTxt zi9 (dC (.str "\n")) (dVar 1))) (frzD [1] sd))))
noncomputable def ziZ:List D->Res D:=runD 3 1 zmg
theorem f_z22 {ps:List Pl}(h:∀ p∈ps,PlT p)(hl:ps.length<=32):ziZ [zaU ps]=.ok (.str (ze2 ps)):=by
 obtain ⟨b1,b2⟩:=zcc h;obtain ⟨_,b3⟩:=zhz h hl;obtain ⟨sd,e,u2,hsd⟩:=zbo (tg:=.one 2) (b:=zdr 1 (zav zjO (zab (dVar 2) dNil))) (ds:=ps.map zaW) (sd:=[some (.val (zaU ps)),some (.own false (.lst [])),none])
  (P:=fun i sd=>∃ u2:Option SV,sd=[some (.val (zaU ps)),some (.own false (.lst ((zaM (ps.take i)).map .str))),u2]) ⟨none,by simp [zaM]⟩ (by
   rintro i x sd hx ⟨u2,rfl⟩;obtain ⟨p,hp,rfl⟩:=zcy hx;have hi:=(List.getElem?_eq_some_iff.mp hp).1;have hm:=List.mem_of_getElem? hp;have f:=f_z23 (h p hm);have et:ps.take (i+1)=ps.take i++[p]:=by rw [List.take_succ,hp];rfl
   obtain ⟨c1,c2⟩:=zdQ (h p hm);obtain ⟨d1,d2⟩:=zcc (ps:=ps.take i) fun q hq=>h q (List.mem_of_mem_take hq);have hz:(zaM (ps.take i)).length+(za2 p).length<=sizeLine:=by
    rw [List.length_take] at d2;have d3:min i ps.length*45<=32*45:=Nat.mul_le_mul_right _ (by omega);exact Nat.le_trans (show _<=1000000 by omega) (by decide +kernel)
   refine ⟨[some (.val (zaU ps)),some (.own false (.lst ((zaM (ps.take (i+1))).map .str))),some (.val (zaW p))],?_,_,rfl⟩;have eb:zaM (ps.take (i+1))=zaM (ps.take i)++za2 p:=by
    rw [et];unfold zaM;rw [List.flatMap_append];simp
   rw [eb];simp [f,hz])
 rw [Zql,List.take_length] at hsd;subst hsd;have gj:=zdp b3;unfold ziZ zmg;simp [e,dTxt,gj];rfl
noncomputable def ziJ:FVS:=(zSeq (zL (sSet 1 (zav zgF (zab (dVar 0) dNil)))) (zSeq (zL (sSet 2 (zav zm8 (zab (dVar 1) dNil)))) (zSeq (zL (sSet 3 (zav ziZ (zab (dVar 2) dNil)))) (zSeq (zSet 4 (zcq ziW (zaq (vL (dVar 3)) vNil))) (zSeq (zIf (vRdT 8 [4] (dOrT (zb7 (zal (zav zi3 (zab (dVar 4) (zab (dVar 1) dNil))))) (zal (dOp gNe (zav ziZ (zab (dVar 4) dNil)) (dVar 3))))) (zRet (vL (dC (.bl false)))) zcI) (zSeq (zApp (vFld "Plan" "givens" (vIx (vFld "Book" "plans" (vL (dVar 4))) (vL (dC (.int 0))))) (vL (dC (.str "late")))) (zSeq (zClr (vFld "Plan" "rows" (vIx (vFld "Book" "plans" (vL (dVar 4))) (vL (dUn gNeg (dC (.int 1))))))) (zSeq (zSet 5 (zcq ziW (zaq (vL (dVar 3)) vNil))) (zRet (vRd 8 [5] (zgy (zav zi3 (zab (dVar 5) (zab (dVar 1) dNil))) (zgy (dOp gEq (zav ziZ (zab (dVar 5) dNil)) (dVar 3)) (zav zi3 (zab (dVar 2) (zab (dVar 1) dNil)))))))))))))))
theorem zbv {c:Nat}{a b:Str}(ha:c∉a.cps.toList)(hb:c∉b.cps.toList):c∉(a++b).cps.toList:=by
 rw [za6];exact fun z=>(List.mem_append.mp z).elim ha hb
theorem zfO {c:Nat}{s:Str}(hs:c∉s.cps.toList):∀ l:List Str,(∀ x∈l,c∉x.cps.toList)->c∉(Txt.join s l).cps.toList
 | [],_=>by rw [zh3];exact fun z=>nomatch z
 | [x],h=>by rw [zbe];exact h x Zqs
 |x::y::r,h=>by
  rw [zbw];exact zbv (zbv (h x Zqs) hs) (zfO hs (y::r) fun z hz=>h z (Zqm _ hz))
theorem znB {n how:Str}{its:List (Str×Int)}(R:RowR n how its):10∉(rowR n how its).cps.toList:=by
 have sp:(10:Nat)∉(" " : Str).cps.toList:=by decide +kernel
 have hw:10∉(wayT how).cps.toList:=by
  unfold wayT
  split
  ·rename_i h;rcases h with rfl|rfl<;>decide +kernel
  ·rename_i h;refine zbv (by decide +kernel) ?_;rcases R.hw with z|z|z
   ·exact absurd (.inl z) h
   ·exact absurd (.inr z) h
   ·exact zb3 z (by decide)
 unfold rowR;refine zbv (zbv (zbv (zbv (zbv sp (zb3 R.nm (by decide))) sp) hw) sp) (zfO (by decide +kernel) _ fun x hx=>?_);obtain ⟨i,hi,rfl⟩:=List.mem_map.mp hx;exact zfr (R.is i hi) (by decide) (by omega) (by omega)
theorem zoc (xs:List Str)(r:Str×Str×List (Int×Int)):rowT xs r=rowR r.1 r.2.1 (r.2.2.map fun i=>(nmIn xs i.1,i.2)):=by
 unfold rowT rowR itsT;rw [List.map_map];rfl
def zc9:Nat->List (Str×Str×List (Int×Int))->List (Int×Str×Str×List (Int×Int))
 |_,[]=>[]
 |k,r::rs=>((k:Int)+1,r)::zc9 (k+1) rs
theorem zbY:∀ (rs:List (Str×Str×List (Int×Int))) (k:Nat),(zc9 k rs).map (·.2)=rs
 | [],_=>rfl
 |r::rs,k=>congrArg (r :: ·) (zbY rs (k+1))
theorem zkP (rs:List (Str×Str×List (Int×Int)))(k:Nat):(zc9 k rs).length=rs.length:=by
 have:=congrArg List.length (zbY rs k)
 rwa [Zql] at this
theorem zfA {nm:Str}{rest:List Str}{qs r:List Dr}:∀ (gs g0:List Str) (k:Nat),(∀ g∈gs,nmOk g)->g0.length+gs.length<=1000->Rd (k+gs.length) rest (qs++[⟨nm,g0++gs,[]⟩]) r->Rd k (gs.map (fun g=>(" given " : Str)++g)++rest) (qs++[⟨nm,g0,[]⟩]) r
 | [],g0,k,_,_,h=>by rw [List.append_nil] at h;exact h
 |g::gs,g0,k,hn,hl,h=>by
  rw [List.length_cons] at hl h;refine .given (hn g Zqs) (by show g0.length<=1000;omega) rfl (zfA gs (g0++[g]) (k+1) (fun x hx=>hn x (Zqm _ hx)) (by rw [List.length_append,List.length_singleton];omega) ?_);rw [List.append_assoc,List.singleton_append,show k+1+gs.length=k+(gs.length+1) by omega];exact h
theorem zk7 {nm:Str}{gs xs:List Str}{rest:List Str}{qs r:List Dr}:∀ (rs:List (Str×Str×List (Int×Int))) (R0:List (Int×Str×Str×List (Str×Int))) (k:Nat),(∀ z∈rs,RowR z.1 z.2.1 (z.2.2.map fun i=>(nmIn xs i.1,i.2)))->R0.length+rs.length<=1000->Rd (k+rs.length) rest (qs++[⟨nm,gs,R0++(zc9 k rs).map (dRow xs)⟩]) r->Rd k (rs.map (rowT xs)++rest) (qs++[⟨nm,gs,R0⟩]) r
 | [],R0,k,_,_,h=>by
  have h:Rd k rest (qs++[⟨nm,gs,R0++[]⟩]) r:=h;rw [List.append_nil] at h;exact h
 |z::rs,R0,k,hn,hl,h=>by
  rw [List.length_cons] at hl h;rw [List.map_cons,List.cons_append,zoc];refine .made (hn z Zqs) (by show R0.length<=1000;omega) (zk7 rs (R0++[dRow xs ((k:Int)+1,z)]) (k+1) (fun x hx=>hn x (Zqm _ hx)) (by rw [List.length_append,List.length_singleton];omega) ?_);rw [List.append_assoc,List.singleton_append,show k+1+rs.length=k+(rs.length+1) by omega];exact h
def planN (k:Nat)(p:Pl):Str×List Str×List (Int×Str×Str×List (Int×Int)):=(p.name,p.givens,zc9 (k+1+p.givens.length) p.rows)
def zcB:Nat->List Pl->List (Str×List Str×List (Int×Str×Str×List (Int×Int)))
 |_,[]=>[]
 |k,p::ps=>planN k p::zcB (k+(za2 p).length) ps
theorem zg3:∀ (ps:List Pl) (k:Nat),bkP (zcB k ps)=ps
 | [],_=>rfl
 |p::ps,k=>by
  show Pl.mk p.name p.givens ((zc9 _ p.rows).map (·.2))::bkP (zcB _ ps)=_;rw [zbY,zg3 ps]
theorem znP (k:Nat)(p:Pl):thD p.givens (zc9 k p.rows)=thT p:=by
 unfold thD thT
 conv=>rhs;rw [<- zbY p.rows k]
 rw [List.map_map];rfl
structure PlR (p:Pl):Prop where
 nm:nmOk p.name
 gs:∀ g∈p.givens,nmOk g
 gl:p.givens.length<=400
 rl:p.rows.length<=400
 nd:(thT p).Nodup
 rs:∀ z∈p.rows,RowR z.1 z.2.1 (z.2.2.map fun i=>(nmIn (thT p) i.1,i.2))/\∀ i∈z.2.2,0<=i.1/\i.1<((thT p).length:Int)
theorem zpl {p:Pl}(h:PlR p){k:Nat}{rest:List Str}{qs r:List Dr}(hq:qs.length<=1000)(hr:Rd (k+(za2 p).length) rest (qs++[⟨p.name,p.givens,(zc9 (k+1+p.givens.length) p.rows).map (dRow (thT p))⟩]) r):Rd k (za2 p++rest) qs r:=by
 have gl:=h.gl;have rl:=h.rl;have e:za2 p++rest=(("plan " : Str)++p.name)::(p.givens.map (fun g=>(" given " : Str)++g)++(p.rows.map (rowT (thT p))++rest)):=by
  unfold za2 thT;simp
 have el:(za2 p).length=1+p.givens.length+p.rows.length:=by
  unfold za2;simp;omega
 rw [e];refine .plan h.nm hq (zfA p.givens [] (k+1) h.gs (by show 0+_<=_;omega) (zk7 p.rows [] (k+1+p.givens.length) (fun z hz=>(h.rs z hz).1) (by show 0+_<=_;omega) ?_));rw [List.nil_append,List.nil_append,show k+1+p.givens.length+p.rows.length=k+(za2 p).length by omega];exact hr
theorem zlM:∀ (ps:List Pl) (k:Nat) (qs:List Dr),(∀ p∈ps,PlR p)->qs.length+ps.length<=1000->Rd k (zaM ps) qs (qs++bkR (zcB k ps))
 | [],k,qs,_,_=>by rw [show qs++bkR (zcB k [])=qs from List.append_nil _];exact .nil _ _
 |p::ps,k,qs,h,hl=>by
  rw [List.length_cons] at hl;have hp:=h p Zqs;refine zpl hp (by omega) ?_;have ih:=zlM ps (k+(za2 p).length) (qs++[⟨p.name,p.givens,(zc9 (k+1+p.givens.length) p.rows).map (dRow (thT p))⟩]) (fun q hq=>h q (Zqm _ hq)) (by rw [List.length_append,List.length_singleton];omega);have e:qs++bkR (zcB k (p::ps))=qs++[⟨p.name,p.givens,(zc9 (k+1+p.givens.length) p.rows).map (dRow (thT p))⟩]++bkR (zcB (k+(za2 p).length) ps):=by
   show qs++(Dr.mk p.name p.givens ((zc9 (k+1+p.givens.length) p.rows).map (dRow (thD p.givens (zc9 (k+1+p.givens.length) p.rows))))::bkR (zcB (k+(za2 p).length) ps))=_;rw [znP,List.append_assoc,List.singleton_append]
  rw [e];exact ih
theorem zfU:∀ (ps:List Pl) (k:Nat),(∀ p∈ps,PlR p)->∀ q∈zcB k ps,DrOk q.2.1 q.2.2
 | [],_,_,q,hq=>nomatch hq
 |p::ps,k,h,q,hq=>by
  rcases List.mem_cons.mp hq with rfl|hq
  ·have hp:=h p Zqs;have et:=znP (k+1+p.givens.length) p;refine ⟨by show (thD p.givens (zc9 _ p.rows)).Nodup;rw [et];exact hp.nd,hp.gl,by show (zc9 _ p.rows).length<=400;rw [zkP];exact hp.rl,fun z hz=>?_⟩;have hz:z∈zc9 (k+1+p.givens.length) p.rows:=hz;have zm:z.2∈p.rows:=by rw [<- zbY p.rows (k+1+p.givens.length)];exact List.mem_map.mpr ⟨z,hz,rfl⟩
   obtain ⟨h1,h2⟩:=hp.rs z.2 zm;have h3:=h1.hi;rw [Zql] at h3;show z.2.2.2.length<=400/\∀ i∈z.2.2.2,0<=i.1/\i.1<((thD p.givens (zc9 _ p.rows)).length:Int);rw [et];exact ⟨by omega,h2⟩
  ·exact zfU ps _ (fun q hq=>h q (Zqm _ hq)) q hq
theorem LB.plr {ps:List Pl}(L:LB ps):∀ p∈ps,PlR p:=fun p hp=>by
 obtain ⟨i,hi⟩:=List.getElem?_of_mem hp;have P:=L i p hi;have hl:((thT p).length:Int)=(p.givens.length:Int)+p.rows.length:=by rw [zgN];omega
 refine ⟨P.nm,fun g hg=>P.tn g (List.mem_append_left _ hg),by have:=P.g2;omega,by have:=P.r2;omega,P.td,fun z hz=>?_⟩;obtain ⟨k,hk⟩:=List.getElem?_of_mem hz;obtain ⟨I,l1,l2⟩:=P.its k z hk;have kl:=(List.getElem?_eq_some_iff.mp hk).1;have rg:∀ i∈z.2.2,0<=i.1/\i.1<((thT p).length:Int):=fun i hi=>by
  have:=I.rng i hi;omega
 refine ⟨⟨P.tn z.1 (List.mem_append_right _ (List.mem_map.mpr ⟨z,hz,rfl⟩)),?_,fun j hj=>?_,by rw [Zql];exact l1,by rw [Zql];omega⟩,rg⟩
 ·rcases P.how z hz with h|h|h
  ·exact .inl h
  ·exact .inr (.inl h)
  ·obtain ⟨q,hq,e⟩:=List.mem_map.mp h;have hm:q∈ps:=List.mem_of_mem_take hq;obtain ⟨j,hj⟩:=L.mem hm;have en:q.name=z.2.1:=congrArg Prod.fst e;exact .inr (.inr (by rw [<- en];exact hj.nm))
 ·obtain ⟨i,hi,rfl⟩:=List.mem_map.mp hj;obtain ⟨r0,r1⟩:=rg i hi;exact ⟨P.tn _ (zls (xs:=thT p) r0 r1).2,I.far i hi⟩
theorem zkI {ps:List Pl}(h:∀ p∈ps,PlR p):∀ x∈zaM ps,10∉x.cps.toList:=fun x hx=>by
 obtain ⟨p,hp,hx⟩:=List.mem_flatMap.mp hx;have P:=h p hp;unfold za2 at hx;rcases List.mem_append.mp hx with hx|hx
 ·rcases List.mem_append.mp hx with hx|hx
  ·rw [List.mem_singleton.mp hx];exact zbv (by decide +kernel) (zb3 P.nm (by decide))
  ·obtain ⟨g,hg,rfl⟩:=List.mem_map.mp hx;exact zbv (by decide +kernel) (zb3 (P.gs g hg) (by decide))
 ·obtain ⟨z,hz,rfl⟩:=List.mem_map.mp hx;rw [zoc];exact znB (P.rs z hz).1
theorem zke {α : Type}{l:List α}{i:Nat}{x:α}(h:l[i]? = some x):l.take (i+1)=l.take i++[x]:=by rw [List.take_add_one,h];rfl
theorem wt_in {ps:List Pl}{i:Nat}{p:Pl}(h:ps[i]? = some p):(p.name,wt1 (wtF (ps.take i)) p)∈wtF ps:=by
 obtain ⟨u,hu⟩:=zgR (ps.drop (i+1)) (wtF (ps.take (i+1)));have e:wtF ps=wtF (ps.take (i+1))++u:=by
  rw [<- hu];unfold wtF;rw [<- List.foldl_append,List.take_append_drop]
 rw [e,zke h,zfc];simp
theorem wt_lk {ps:List Pl}(nd:(ps.map (·.name)).Nodup){i:Nat}{p:Pl}(h:ps[i]? = some p):lkT (wtF ps) p.name=some (wt1 (wtF (ps.take i)) p):=zp9 (by rw [zc7];exact nd) (wt_in h)
theorem zlT (t:List (Str×Int))(q:Pl)(r:Str×Str×List (Int×Int)):wt1 t ⟨q.name,q.givens,q.rows++[r]⟩=wt1 t q+1+(if isP r.2.1 then (lkT t r.2.1).getD 0 else 0):=by
 unfold wt1;show (((q.rows++[r]).length:Nat):Int)+(((q.rows++[r]).filter fun r=>isP r.2.1).map fun r=>(lkT t r.2.1).getD 0).sum=_;rw [List.filter_append,List.map_append,List.sum_append,List.length_append];cases c:isP r.2.1 with
 |true =>
  rw [List.filter_cons_of_pos (p:=fun r:Str×Str×List (Int×Int)=>isP r.2.1) c];simp;omega
 |false =>
  rw [List.filter_cons_of_neg (by rw [c];exact Bool.false_ne_true)];simp;omega
theorem zhI {ws:List Str}(W:WsOk ws){i:Nat}(h:i<34):ws[i]? = some (nmAt ws (i:Int)):=by
 have wl:=W.len;unfold nmAt;rw [Int.emod_eq_of_lt (by omega) (by omega),Int.toNat_natCast,List.getD_eq_getElem?_getD,Zqg (by omega)];rfl
theorem zh8 {ws:List Str}(W:WsOk ws){i j:Nat}(hi:i<34)(hj:j<34)(e:nmAt ws (i:Int)=nmAt ws (j:Int)):i=j:=by
 have a:=zhI W hi;have b:=zhI W hj;rw [<- e] at b;obtain ⟨a1,a2⟩:=List.getElem?_eq_some_iff.mp a;obtain ⟨b1,b2⟩:=List.getElem?_eq_some_iff.mp b;have nd:=W.nd;rw [List.Nodup,List.pairwise_iff_getElem] at nd;rcases Nat.lt_trichotomy i j with z|z|z
 ·exact absurd (a2.trans b2.symm) (nd i j a1 b1 z)
 ·exact z
 ·exact absurd (b2.trans a2.symm) (nd j i b1 a1 z)
theorem BW.nodup {ws:List Str}{n:Nat}{s:Bst}(B:BW ws n s)(W:WsOk ws)(hn:s.ps.length<33):((s.ps++[s.q]).map (·.name)).Nodup:=by
 have key:∀ (i:Nat) (x:Str),((s.ps++[s.q]).map (·.name))[i]? = some x->x=nmAt ws (i:Int)/\i<34:=fun i x h=>by
  rw [List.getElem?_map] at h;by_cases c:i<s.ps.length
  ·rw [List.getElem?_append_left c] at h;cases hi:s.ps[i]? with
   |none=>rw [hi] at h;cases h
   |some p =>
    rw [hi] at h;obtain rfl:=Zqi h;exact ⟨(B.all i p hi).1.nm,by omega⟩
  ·rw [List.getElem?_append_right (by omega)] at h;have:i-s.ps.length=0:=by
    rcases Nat.eq_zero_or_pos (i-s.ps.length) with z|z
    ·exact z
    ·rw [List.getElem?_eq_none (by simp;omega)] at h;cases h
   rw [this] at h;obtain rfl:=Zqi h;have ei:i=s.ps.length:=by omega
   exact ⟨by rw [ei];exact B.last.nm,by omega⟩
 rw [List.Nodup,List.pairwise_iff_getElem];intro i j hi hj hij e;obtain ⟨a,a'⟩:=key i _ (Zqg hi);obtain ⟨b,b'⟩:=key j _ (Zqg hj);have:=zh8 W a' b' (a.symm.trans (e.trans b));omega
structure GW (n:Nat)(s:Bst):Prop where
 two:2*s.ps.length<=n/\(s.q.rows ≠ []->2*s.ps.length+1<=n)
 ld:∀ (i:Nat) (p:Pl),s.ps[i]? = some p->nthI s.ld (i:Int)=wt1 (wtF (s.ps.take i)) p/\wt1 (wtF (s.ps.take i)) p<=1900+n
 x:s.x=wt1 (wtF s.ps) s.q
 xb:s.x<=1900+n
theorem GW.row {ws:List Str}{n:Nat}{s:Bst}(G:GW n s)(B:BW ws n s)(W:WsOk ws)(hn:n<=31)(what cell:Int):GW (n+1) ⟨s.ps,⟨s.q.name,s.q.givens,s.q.rows++[(rowQ ws s.ps s.q s.ld s.x what cell).1]⟩,s.ld,(rowQ ws s.ps s.q s.ld s.x what cell).2⟩:=by
 have two:=G.two;have xb:=G.xb;refine ⟨⟨by show 2*s.ps.length<=n+1;omega,fun _=>by show 2*s.ps.length+1<=n+1;omega⟩,fun i p hi=>⟨(G.ld i p hi).1,Int.le_trans (G.ld i p hi).2 (by omega)⟩,?_,?_⟩
 ·show (rowQ ws s.ps s.q s.ld s.x what cell).2=wt1 (wtF s.ps) ⟨s.q.name,s.q.givens,s.q.rows++[(rowQ ws s.ps s.q s.ld s.x what cell).1]⟩;rw [zlT,<- G.x];unfold rowQ
  split
  ·rename_i c;obtain ⟨_,c2,_⟩:=c;have pl:0<s.ps.length:=List.length_pos_iff.mpr c2;have k0:0<=what / 4 % (s.ps.length:Int):=Int.emod_nonneg _ (by omega);have k1:what / 4 % (s.ps.length:Int)<(s.ps.length:Int):=Int.emod_lt_of_pos _ (by omega);obtain ⟨k,hk⟩:∃ k:Nat,what / 4 % (s.ps.length:Int)=k:=⟨(what / 4 % (s.ps.length:Int)).toNat,by omega⟩;rw [hk] at k0 k1 ⊢;have kl:k<s.ps.length:=by omega
   have hp:s.ps[k]? = some (plAt s.ps (k:Int)):=by
    unfold plAt;rw [Int.toNat_natCast,List.getD_eq_getElem?_getD,Zqg kl];rfl
   have nd:=B.nodup W (by omega);rw [List.map_append] at nd;have lk:=wt_lk (List.nodup_append.mp nd).1 hp;have ip:isP (plAt s.ps (k:Int)).name=true:=by
    have hm:(plAt s.ps (k:Int)).name∈ws:=by rw [(B.all k _ hp).1.nm];exact W.at_ _
    have:=(W.ok _ hm).noHow;unfold isP;unfold zcG at this;rw [this];rfl
   show s.x+1+nthI s.ld (k:Int)=s.x+1+(if isP (plAt s.ps (k:Int)).name then (lkT (wtF s.ps) (plAt s.ps (k:Int)).name).getD 0 else 0);rw [ip,if_pos rfl,lk,(G.ld k _ hp).1];rfl
  ·have ip:isP (howF what)=false:=by unfold howF;split<;>decide +kernel
   show s.x+1=s.x+1+(if isP (howF what) then _ else 0);rw [ip];simp
 ·show (rowQ ws s.ps s.q s.ld s.x what cell).2<=_;unfold rowQ
  split
  ·rename_i c;have:=c.2.2;show s.x+1+_<=_;omega
  ·show s.x+1<=_;omega
theorem zmX (t:List (Str×Int))(nm nm':Str)(gs gs':List Str){rs rs':List (Str×Str×List (Int×Int))}(h:rs.map (·.2.1)=rs'.map (·.2.1)):wt1 t ⟨nm,gs,rs⟩=wt1 t ⟨nm',gs',rs'⟩:=by
 have key:∀ l:List (Str×Str×List (Int×Int)),((l.filter fun r=>isP r.2.1).map fun r=>(lkT t r.2.1).getD 0)=((l.map (·.2.1)).filter isP).map fun w=>(lkT t w).getD 0:=fun l=>by
  rw [List.filter_map,List.map_map];rfl
 unfold wt1;show ((rs.length:Nat):Int)+((rs.filter fun r=>isP r.2.1).map fun r=>(lkT t r.2.1).getD 0).sum=((rs'.length:Nat):Int)+((rs'.filter fun r=>isP r.2.1).map fun r=>(lkT t r.2.1).getD 0).sum;rw [key,key,h];have:=congrArg List.length h;rw [Zql,Zql] at this;rw [this]
theorem GW.up {n:Nat}{s s':Bst}(G:GW n s)(e1:s'.ps=s.ps)(e2:s'.ld=s.ld)(e3:s'.x=s.x)(e4:s'.q.rows.map (·.2.1)=s.q.rows.map (·.2.1)):GW (n+1) s':=by
 have two:=G.two;have xb:=G.xb;have em:s'.q.rows ≠ []->s.q.rows ≠ []:=fun h z=>h (by rw [z] at e4;exact List.map_eq_nil_iff.mp e4);refine ⟨⟨by rw [e1];omega,fun h=>by have:=two.2 (em h);rw [e1];omega⟩,fun i p hi=>?_,?_,by rw [e3];omega⟩
 ·rw [e1] at hi ⊢;rw [e2];exact ⟨(G.ld i p hi).1,Int.le_trans (G.ld i p hi).2 (by omega)⟩
 ·rw [e3,e1,G.x];exact zmX _ _ _ _ _ e4.symm
theorem zp8 {ws:List Str}{n:Nat}{s:Bst}(G:GW n s)(B:BW ws n s)(W:WsOk ws)(hn:n<=31)(what cell:Int):GW (n+1) (ze6 ws s what cell):=by
 unfold ze6
 split
 ·rename_i c;have two:=G.two.2 c.2;have xb:=G.xb;have ll:=B.ll;refine ⟨⟨by show 2*(s.ps++[s.q]).length<=n+1;rw [List.length_append,List.length_singleton];omega,fun h=>absurd rfl h⟩,fun i p hi=>?_,?_,by show (0:Int)<=_;omega⟩
  ·have hi:(s.ps++[s.q])[i]? = some p:=hi;show nthI (s.ld++[s.x]) (i:Int)=wt1 (wtF ((s.ps++[s.q]).take i)) p/\_;by_cases z:i<s.ps.length
   ·rw [List.getElem?_append_left z] at hi;obtain ⟨a,b⟩:=G.ld i p hi;have et:(s.ps++[s.q]).take i=s.ps.take i:=List.take_append_of_le_length (by omega);have en:nthI (s.ld++[s.x]) (i:Int)=nthI s.ld (i:Int):=by
     unfold nthI;rw [Int.toNat_natCast,List.getD_eq_getElem?_getD,List.getD_eq_getElem?_getD,List.getElem?_append_left (by omega)]
    rw [et,en];exact ⟨a,Int.le_trans b (by omega)⟩
   ·have il:=(List.getElem?_eq_some_iff.mp hi).1;rw [List.length_append,List.length_singleton] at il;have ei:i=s.ps.length:=by omega
    subst ei;rw [List.getElem?_append_right (Nat.le_refl _),Nat.sub_self] at hi;obtain rfl:=Zqi hi;have et:(s.ps++[s.q]).take s.ps.length=s.ps:=List.take_left;have en:nthI (s.ld++[s.x]) (s.ps.length:Int)=s.x:=by
     unfold nthI;rw [Int.toNat_natCast,List.getD_eq_getElem?_getD,<- ll,List.getElem?_append_right (Nat.le_refl _),Nat.sub_self];rfl
    rw [et,en,G.x];exact ⟨rfl,by rw [<- G.x];omega⟩
  ·show (0:Int)=wt1 (wtF (s.ps++[s.q])) ⟨_,_,[]⟩;unfold wt1;rfl
 ·split
  ·exact G.up rfl rfl rfl rfl
  ·split
   ·rename_i c;refine G.up rfl rfl rfl ?_;have e:=zd9 c.2.1;show (s.q.rows.dropLast++[((zaK s.q.rows).1,(zaK s.q.rows).2.1,_)]).map (fun r:Str×Str×List (Int×Int)=>r.2.1)=s.q.rows.map (·.2.1)
    conv=>rhs;rw [e]
    rw [List.map_append,List.map_append];rfl
   ·exact G.row B W hn _ _
theorem zh1 (ns:List Int):∀ j,j<=31->GW j (zaZ ns j)
 | 0,_=>by
  refine ⟨⟨Nat.le_refl _,fun h=>absurd rfl h⟩,fun i p hi=>?_,?_,?_⟩
  ·have hi:([]:List Pl)[i]? = some p:=hi;simp at hi
  ·show (0:Int)=wt1 (wtF []) ⟨_,_,[]⟩;unfold wt1;rfl
  ·show (0:Int)<=1900+((0:Nat):Int);omega
 |j+1,h=>zp8 (zh1 ns j (by omega)) (zc2 ns j) (zcU ns).2 (by omega) _ _
theorem znv (ns:List Int):GW 31 (zdl ns):=by
 have hn:=zcY ns;have G:=zh1 ns (za1 ns) (by omega);have up:∀ {n m:Nat} {s:Bst},n<=m->GW n s->GW m s:=fun {n m s} h g=>by
  have:=g.two;have:=g.xb;exact ⟨⟨by omega,fun z=>by have:=g.two.2 z;omega⟩,fun i p hi=>⟨(g.ld i p hi).1,Int.le_trans (g.ld i p hi).2 (by omega)⟩,g.x,by omega⟩
 unfold zdl endF
 split
 ·exact up (by omega) (G.row (zc2 ns _) (zcU ns).2 (by omega) 0 0)
 ·exact up (by omega) G
theorem PlW.pl {ws:List Str}{i:Nat}{ahead:List Pl}{q:Pl}(P:PlW ws i ahead 31 q)(W:WsOk ws)(hr:q.rows ≠ [])(hg:∀ p∈ahead,p.givens.length<=12)(fr:∀ p∈ahead,p.name≠q.name)(wt:wt1 (wtF ahead) q<=2000):PL ahead q:=by
 have sz:=P.sz;have g1:=P.g1;have nmw:∀ k:Int,nmOk (nmAt ws k):=fun k=>(W.ok _ (W.at_ k)).nm;have tl:(q.givens++q.rows.map (·.1)).length=q.givens.length+q.rows.length:=by rw [List.length_append,Zql]
 have lp:0<q.rows.length:=List.length_pos_iff.mpr hr;refine ⟨by rw [P.nm];exact nmw _,fr,fun x hx=>?_,?_,P.g1,P.g12,lp,by omega,fun k r hk=>?_,fun r hr=>?_,wt⟩
 ·obtain ⟨k,hk⟩:=List.getElem?_of_mem hx;rw [P.th k x hk];exact nmw _
 ·rw [List.Nodup,List.pairwise_iff_getElem];intro a b ha hb hab e;have e1:=P.th a _ (Zqg ha);have e2:=P.th b _ (Zqg hb);rw [tl] at ha hb;have e3:nmAt ws ((i+1+a:Nat):Int)=nmAt ws ((i+1+b:Nat):Int):=by
   rw [show ((i+1+a:Nat):Int)=(i:Int)+1+(a:Int) by omega,show ((i+1+b:Nat):Int)=(i:Int)+1+(b:Int) by omega,<- e1,<- e2];exact e
  have:=zh8 W (by omega) (by omega) e3;omega
 ·have R:=P.rw_ k r hk;refine ⟨R.its,R.low,?_⟩;rcases R.how with ⟨_,h⟩|⟨_,p,hp,_,h⟩
  ·omega
  ·have:=hg p hp;omega
 ·obtain ⟨k,hk⟩:=List.getElem?_of_mem hr;rcases (P.rw_ k r hk).how with ⟨h,_⟩|⟨_,p,hp,h1,h2⟩
  ·unfold zcG at h;rw [Bool.or_eq_true,decide_eq_true_eq,decide_eq_true_eq] at h;exact h.imp_right .inl
  ·refine .inr (.inr ?_);rw [h1,h2];exact zkv hp
theorem zmy (ns:List Int):LB (zb6 ns)/\1<=(zb6 ns).length/\(zb6 ns).length<=20:=by
 obtain ⟨B,rne⟩:=zia ns;have G:=znv ns;have W:=(zcU ns).2;have two:=G.two.2 rne;have nd:=B.nodup W (by omega);have nm:=B.names W;unfold zb6;generalize zdl ns=s at *;refine ⟨fun i p hi=>?_,by rw [List.length_append,List.length_singleton];omega,by rw [List.length_append,List.length_singleton];omega⟩;have il:=(List.getElem?_eq_some_iff.mp hi).1;have fr:∀ q∈(s.ps++[s.q]).take i,q.name≠p.name:=fun q hq e=>by
  obtain ⟨j,hj⟩:=List.getElem?_of_mem hq;have jl:=(List.getElem?_eq_some_iff.mp hj).1;rw [List.length_take] at jl;rw [List.getElem?_take_of_lt (by omega)] at hj;rw [List.Nodup,List.pairwise_iff_getElem] at nd;have a:((s.ps++[s.q]).map (·.name))[j]? = some q.name:=by rw [List.getElem?_map,hj];rfl
  have b:((s.ps++[s.q]).map (·.name))[i]? = some p.name:=by rw [List.getElem?_map,hi];rfl
  obtain ⟨a1,a2⟩:=List.getElem?_eq_some_iff.mp a;obtain ⟨b1,b2⟩:=List.getElem?_eq_some_iff.mp b;exact nd j i a1 b1 (by omega) (a2.trans (e.trans b2.symm))
 have hg:∀ q∈(s.ps++[s.q]).take i,q.givens.length<=12:=fun q hq=>(nm q (List.mem_of_mem_take hq)).2.2;by_cases c:i<s.ps.length
 ·have et:(s.ps++[s.q]).take i=s.ps.take i:=List.take_append_of_le_length (by omega);rw [et] at fr hg ⊢;rw [List.getElem?_append_left c] at hi;obtain ⟨P,hr⟩:=B.all i p hi;exact P.pl W hr hg fr (Int.le_trans (G.ld i p hi).2 (by omega))
 ·rw [List.length_append,List.length_singleton] at il;have ei:i=s.ps.length:=by omega
  subst ei;have et:(s.ps++[s.q]).take s.ps.length=s.ps:=List.take_left;rw [et] at fr hg ⊢;rw [List.getElem?_append_right (Nat.le_refl _),Nat.sub_self] at hi;obtain rfl:=Zqi hi;exact B.last.pl W rne hg fr (by rw [<- G.x];have:=G.xb;omega)
theorem zmE {hp:HP}{ps:List Pl}{n:Nat}(L:LB ps)(l1:1<=ps.length)(l2:ps.length<=20)(ht:TxtOk n (ze2 ps))(hn:n<=4000000):(ziW [.str (ze2 ps)] hp).need (RdT hp ps) fun _ _=>False:=by
 have P:=L.plr;have R:=zlM ps 0 [] P (by show 0+_<=_;omega);rw [List.nil_append] at R;obtain ⟨x,xs,ex⟩:∃ x xs,zaM ps=x::xs:=by
  cases ps with
  |nil=>simp at l1
  |cons p ps=>exact ⟨_,_,rfl⟩
 have sp:Txt.split (ze2 ps) "\n" = zaM ps:=by
  unfold ze2;rw [ex];exact zbi (c:=10) (t:=[]) rfl (by decide +kernel) fun y hy=>zkI P y (by rw [ex];exact hy)
 have bp:=zg3 ps 0;have bl:(zcB 0 ps).length=ps.length:=by
  have:=congrArg List.length bp;unfold bkP at this
  rwa [Zql] at this
 have:=f_z10 (hp:=hp) ht hn sp R (zfU ps 0 P) (by rw [bp];exact L) (by omega) (by omega);rw [bp] at this;exact this
def LwT (ds:List D)(d:D):Prop:=ds.length=1/\((ziJ (zaS 6 ds) []).bind outZ).need (fun p=>dr p.2 1 p.1=d) fun _ _=>False
open Classical in
noncomputable def zej:List D->Res D:=fun ds=>if h:∃ d,LwT ds d then .ok (choose h) else .no
theorem w_law:∀ ds d,zej ds=.ok d->ds.length=1/\((ziJ (zaS 6 ds) []).bind outZ).need (fun p=>dr p.2 1 p.1=d) fun _ _=>False:=fun ds d h=>by
 unfold zej at h
 split at h
 ·rename_i e;have:=Classical.choose_spec e;cases h;exact this
 ·cases h
theorem x_law:∀ ds,∀ c fs,zej ds ≠ .ex c fs:=fun ds c fs h=>by
 unfold zej at h
 split at h<;>cases h
theorem zjE (ns:List Int):(∀ p∈zb6 ns,PlT p)/\(zb6 ns).length<=32:=by
 obtain ⟨B,_⟩:=zia ns;have W:=(zcU ns).2;have nm:=B.names W;have one:∀ (i:Nat) (ps:List Pl) (q:Pl),(∀ p∈ps,p∈(zdl ns).ps)->PlW (wsF ns) i ps 31 q->PlT q:=fun i ps q hs P=>by
  have sz:=P.sz;have g1:=P.g1;have rt:=P.rowTxt W fun p hp=>nm p (List.mem_append_left _ (hs p hp));refine ⟨by rw [P.nm];exact (W.ok _ (W.at_ _)).ok,fun g hg=>?_,P.g12,by omega,fun r hr=>?_⟩
  ·obtain ⟨k,hk⟩:=List.getElem?_of_mem hg;have:(q.givens++q.rows.map (·.1))[k]? = some g:=by rw [List.getElem?_append_left (List.getElem?_eq_some_iff.mp hk).1];exact hk
   rw [P.th k g this];exact (W.ok _ (W.at_ _)).ok
  ·obtain ⟨a,b,c,d⟩:=rt r hr;obtain ⟨k,hk⟩:=List.getElem?_of_mem hr;have hkl:=(List.getElem?_eq_some_iff.mp hk).1;have R:=P.rw_ k r hk;refine ⟨a.ok,b,by omega,fun i hi=>?_⟩;have:=R.its.rng i hi;have f:=R.its.far i hi;exact ⟨this.1,by omega,f.1,f.2⟩
 unfold zb6;refine ⟨fun p hp=>?_,?_⟩
 ·rcases List.mem_append.mp hp with z|z
  ·obtain ⟨i,hi⟩:=List.getElem?_of_mem z;exact one i _ p (fun x hx=>List.mem_of_mem_take hx) (B.all i p hi).1
  ·rw [List.mem_singleton.mp z];exact one _ _ _ (fun x hx=>hx) B.last
 ·have:=B.last.sz;have:=B.last.g1;rw [List.length_append,List.length_singleton];omega
theorem law_true (ns:List Int)(h:ns.length<=63):zej [.scr ns]=.ok (.bl true):=by
 obtain ⟨t,l⟩:=zjE ns;obtain ⟨L,l1,l2⟩:=zmy ns;have e1:zgF [.scr ns]=.ok (plsD (zb6 ns)):=rfl;have e2:=f_z34 (ps:=zb6 ns) (by omega);have e3:=f_z22 t l;have e5:=f_z36 t l;obtain ⟨b1,b2⟩:=zhz t l;have gn:gNe (.str (ze2 (zb6 ns))) (.str (ze2 (zb6 ns)))=some (.bl false):=by
  rw [zjl b1.asc b1.asc,decide_eq_true rfl];rfl
 have ge:gEq (.str (ze2 (zb6 ns))) (.str (ze2 (zb6 ns)))=some (.bl true):=by rw [zov b1.asc b1.asc,decide_eq_true rfl]
 have rd:=fun hp=>zmE (hp:=hp) L l1 l2 b1 (by omega);have run:LwT [.scr ns] (.bl true):=by
  refine ⟨rfl,?_⟩;show ((ziJ [some (.val (.scr ns)),none,none,none,none,none] []).bind outZ).need _ _;generalize zb6 ns=ps at *;simp [ziJ,e1,e2,e3];simp only [Wr.need_bind];refine (rd []).mono (fun o ho=>?_) fun _ _ z=>z;obtain ⟨d,H⟩:=o;obtain ⟨_,b,q,as,e,bk⟩:=ho;have e:d=.adr b:=e;subst e;have d8:=bk.dr8;have al:=bk.all.len;obtain ⟨a0,ra,ea⟩:∃ a r,as=a::r:=by
   cases as with
   |nil=>rw [List.length_nil] at al;omega
   |cons a r=>exact ⟨a,r,rfl⟩
  obtain ⟨bs,z,ez⟩:∃ bs z,as=bs++[z]:=⟨as.dropLast,as.getLast (by rw [ea];simp),(List.dropLast_concat_getLast _).symm⟩;obtain ⟨p0,m0,A0⟩:=bk.all.mem a0 (by rw [ea];simp);obtain ⟨pz,_,Az⟩:=bk.all.mem z (by rw [ez];simp);have gb:gFld "Book" "plans" (.ins "Book" ["plans"] [.adr q])=some (.adr q):=rfl;have gp:∀ (nm:Str) (g r:Addr),gFld "Plan" "givens" (.ins "Plan" ["name", "givens", "rows"] [.str nm,.adr g,.adr r])=some (.adr g):=fun _ _ _=>rfl;have gr:∀ (nm:Str) (g r:Addr),gFld "Plan" "rows" (.ins "Plan" ["name", "givens", "rows"] [.str nm,.adr g,.adr r])=some (.adr r):=fun _ _ _=>rfl;have i0:vIxK (.adr q) (.int 0,H)=.ok (.adr a0.1,H):=by
   rw [zcJ (q:=(D.int 0,H)) bk.pl];show (Wr.of (.ofO (atI (as.map fun b=>D.adr b.1) 0))).bind _=_;rw [ea,List.map_cons,at_0];rfl
  obtain ⟨H',eH⟩:∃ H':HP,H'=zax H a0.2.1 (.lst (p0.givens.map .str++[.str "late"])):=⟨_,rfl⟩;have n0:hpAt H a0.2.1≠none:=by rw [A0.gv];simp
  have k0:∀ c,c≠a0.2.1->hpAt H' c=hpAt H c:=fun c hc=>by rw [eH];exact zap n0 hc
  have hz:(p0.givens.map D.str).length<sizeLine:=zat (by
   rw [Zql];have:=(t p0 m0).gl;omega)
  have bk1:hpAt H' b=some (.ins "Book" ["plans"] [.adr q]):=(k0 b fun z=>by have:=A0.gv;rw [<- z,bk.bk] at this;cases this).trans bk.bk;have pl1:hpAt H' q=some (.lst (as.map fun a=>.adr a.1)):=(k0 q (bk.ne a0 (by rw [ea];simp))).trans bk.pl;have zp1:hpAt H' z.1=some (.ins "Plan" ["name", "givens", "rows"] [.str pz.name,.adr z.2.1,.adr z.2.2]):=(k0 z.1 fun y=>by have:=A0.gv;rw [<- y,Az.pl] at this;cases this).trans Az.pl;obtain ⟨es,zr1⟩:∃ es,hpAt H' z.2.2=some (.lst es):=by
   by_cases y:z.2.2=a0.2.1
   ·rw [y,eH];exact ⟨_,zaR n0⟩
   ·exact ⟨_,(k0 _ y).trans Az.rw_⟩
  have i1:vIxK (.adr q) (.int (-1),H')=.ok (.adr z.1,H'):=by
   rw [zcJ (q:=(D.int (-1),H')) pl1];show (Wr.of (.ofO (atI (as.map fun b=>D.adr b.1) (-1)))).bind _=_;rw [ez,List.map_append,List.map_singleton,zcA];rfl
  have rd2:=rd (zax H' z.2.2 (.lst []));simp [d8,e5,e3,gn,zc1 bk.bk gb,i0,zc1 A0.pl (gp _ _ _),zb9 A0.gv,zb8 A0.gv hz];rw [<- eH];simp [zc1 bk1 gb,i1,zc1 zp1 (gr _ _ _),zmR zr1];simp only [Wr.need_bind];refine rd2.mono (fun o ho=>?_) fun _ _ z=>z;obtain ⟨d,H2⟩:=o;obtain ⟨_,b2,q2,as2,e,bk2⟩:=ho;have e:d=.adr b2:=e;subst e;have d82:=bk2.dr8;simp [d82,e5,e3,ge];rfl
 unfold zej;rw [dif_pos ⟨_,run⟩];obtain ⟨a,h1,h2⟩:=zdN (Classical.choose_spec (⟨_,run⟩:∃ d,LwT [.scr ns] d)).2 run.2;rw [<- h1,h2]
end My
set_option maxHeartbeats 4000000
namespace My
open PySem L2 L2.DL
def top (i:Nat):Stmt:=PySem.Challenge.pw_allfirst_k59_whole_books_read_back.main.body.getD i (.Pass ⟨0,0,0,0⟩)
abbrev tbl:List (Str×Nat):=List.zip (List.map Str.ofString ["_law_book_by", "_law_cell_at", "_law_number_by", "_law_item", "_law_row_by", "_law_grow", "_law_name_by", "_law_names_by", "_law_plans_by", "_law_alike", "_law_same", "is_name", "name_behind", "are_figures", "item_of", "with_items", "made_thing", "takes_thing", "takes_row", "drafts_of", "are_names", "look_at_names", "is_part", "look_at_parts", "look_at_items", "look_at_plans", "weights", "look_at_weights", "looked", "numbered", "numbers_of", "plan_of", "read", "item_text", "made_row", "plan_rows", "shown"]) [53,45,48,49,50,51,46,47,52,54,55,15,31,35,34,33,32,30,29,28,18,17,24,21,20,19,23,22,16,38,37,36,27,43,42,41,40]
abbrev bl:List Str:=List.map Str.ofString ["abs", "all", "bool", "enumerate", "int", "isinstance", "len", "list", "min", "range", "set", "sum", "tuple"]
structure All (e:Ev):Prop extends Al e top tbl bl where
 z_Book:zjI e.K "Book"
 z_Plan:zjI e.K "Plan"
 w_FIGURES:e.mg "FIGURES" = some (.str "0123456789" (e.t 0))
 y_KEPT_WORDS:KTup e.K e.mg "KEPT_WORDS" ["plan", "given", "all", "first", "part"]
 w_LETTERS:e.mg "LETTERS" = some (.str "abcdefghijklmnopqrstuvwxyz" (e.t 1))
 k_Book:ClsD e.K e.mg "Book" (e.C 0) ["plans"]
 l_Book:∃ f fd,Mk e.K (e.C 0) f/\Fun e.K "__init__" "Book.__init__" (zds (top 10) 0) f fd
 k_Draft:ClsD e.K e.mg "Draft" (e.C 1) ["name", "givens", "rows"]
 l_Draft:∃ f fd,Mk e.K (e.C 1) f/\Fun e.K "__init__" "Draft.__init__" (zds (top 26) 0) f fd
 k_Plan:ClsD e.K e.mg "Plan" (e.C 2) ["name", "givens", "rows"]
 l_Plan:∃ f fd,Mk e.K (e.C 2) f/\Fun e.K "__init__" "Plan.__init__" (zds (top 9) 0) f fd
section
variable {e:Ev}{k j:Nat}
theorem zrp (a:All e):MkD e.P e.w e.K e.mg e.base "Book" ["plans"] 1 ["self", "plans"] zjv:=by
 obtain ⟨f,fd,h1,h2⟩:=a.l_Book;have m:=a.m;have k:=a.k_Book;exact ⟨_,_,_,k,h1,fn_i (k:=0) (N:=["plans"]) (g:=(zab (dBlt zcT (zab (dVar 1) dNil)) dNil)) h2 (zaO (N:=["self", "plans"])) (by decide) (by decide) fun _ _ _ _ _ _ hr=>(zf6 k (by decide) (pv 0) (QN.qe (zcu (x := "list") zgg rfl (zar m) zb2 (zaa (qv 1) zac))) znG),h2.binds fun _ _ _ _ _ _=>us2 fun _ _=>rfl⟩
theorem zp0 (a:All e):MkV e.P e.w e.K e.mg e.base "Book" ["plans"] 1 ["self", "plans"] zdJ:=by
 obtain ⟨f,fd,h1,h2⟩:=a.l_Book;have m:=a.m;have k:=a.k_Book;exact ⟨_,_,_,k,h1,fn_v (k:=0) (N:=["self", "plans"]) (g:=zde) h2 (zaO (N:=["self", "plans"])) fun _ _ _ _ _ _ hr=>by
  unfold zde;exact (zak (zdZ k (by decide) (zae (qv 0)) (zgH (zae (qv 1)) rfl (zar m) zb2)) zbC),h2.binds fun _ _ _ _ _ _=>us2 fun _ _=>rfl⟩
theorem zoZ (a:All e):MkV e.P e.w e.K e.mg e.base "Draft" ["name", "givens", "rows"] 1 ["self", "name"] zff:=by
 obtain ⟨f,fd,h1,h2⟩:=a.l_Draft;have m:=a.m;have k:=a.k_Draft;exact ⟨_,_,_,k,h1,fn_v (k:=0) (N:=["self", "name"]) (g:=zcV) h2 (zaO (N:=["self", "name"])) fun _ _ _ _ _ _ hr=>by
  unfold zcV;exact (zak (zdZ k (by decide) (zae (qv 0)) (zae (qv 1))) (zak (zdZ k (by decide) (zae (qv 0)) (zcn zaL)) (zak (zdZ k (by decide) (zae (qv 0)) (zcn zaL)) zbC))),h2.binds fun _ _ _ _ _ _=>us2 fun _ _=>rfl⟩
theorem zqN (a:All e):MkD e.P e.w e.K e.mg e.base "Plan" ["name", "givens", "rows"] 1 ["self", "name", "givens", "rows"] zh0:=by
 obtain ⟨f,fd,h1,h2⟩:=a.l_Plan;have m:=a.m;have k:=a.k_Plan;exact ⟨_,_,_,k,h1,fn_i (k:=0) (N:=["name", "givens", "rows"]) (g:=(zab (dVar 1) (zab (dBlt zcT (zab (dVar 2) dNil)) (zab (dBlt zcT (zab (dVar 3) dNil)) dNil)))) h2 (zaO (N:=["self", "name", "givens", "rows"])) (by decide) (by decide) fun _ _ _ _ _ _ hr=>(zf6 k (by decide) (pv 0) (qv 1) (zf6 k (by decide) (pv 0) (QN.qe (zcu (x := "list") zgg rfl (zar m) zb2 (zaa (qv 2) zac))) (zf6 k (by decide) (pv 0) (QN.qe (zcu (x := "list") zgg rfl (zar m) zb2 (zaa (qv 3) zac))) znG))),h2.binds fun _ _ _ _ _ _=>us4 fun _ _ _ _=>rfl⟩
theorem zpI (a:All e):MkV e.P e.w e.K e.mg e.base "Plan" ["name", "givens", "rows"] 1 ["self", "name", "givens", "rows"] zeY:=by
 obtain ⟨f,fd,h1,h2⟩:=a.l_Plan;have m:=a.m;have k:=a.k_Plan;exact ⟨_,_,_,k,h1,fn_v (k:=0) (N:=["self", "name", "givens", "rows"]) (g:=zcW) h2 (zaO (N:=["self", "name", "givens", "rows"])) fun _ _ _ _ _ _ hr=>by
  unfold zcW;exact (zak (zdZ k (by decide) (zae (qv 0)) (zae (qv 1))) (zak (zdZ k (by decide) (zae (qv 0)) (zgH (zae (qv 2)) rfl (zar m) zb2)) (zak (zdZ k (by decide) (zae (qv 0)) (zgH (zae (qv 3)) rfl (zar m) zb2)) zbC))),h2.binds fun _ _ _ _ _ _=>us4 fun _ _ _ _=>rfl⟩
theorem zsm (a:All e):Ca e "_law_book_by" 3 ["plans"] (SpN e.K zm8) :=
 mkC a.toAl 0 53 fun F=>fn_n (N:=["plans"]) (g:=zlN) F zaO fun _ _ _ _ _ _ hr=>by
 have m:=a.m;have i_Book:=zrp a;have i_Plan:=zqN a;unfold zlN;exact (zag (zlL (zoy i_Book (hr.mono (by omega)) rfl (zaa (QN.qe (zbL ["plan"] [none] rfl rfl (zaX (qv 0)) (fun _ _ _ _ _=>(zbj (pgn 0 ndx))) (fun _ _ _ _ _=>(QN.qe (zoy i_Plan (hr.mono (by omega)) rfl (zaa (zaz (zaw hr) (qv 0) zad (fun _ _=>rfl) (fun _ _=>rfl)) (zaa (QN.qe (zcu (x := "list") zgg rfl (zar m) zb2 (zaa (zaz (zaw hr) (qv 0) zad (fun _ _=>rfl) (fun _ _=>rfl)) zac))) (zaa (QN.qe (zcu (x := "list") zgg rfl (zar m) zb2 (zaa (zaz (zaw hr) (qv 0) zad (fun _ _=>rfl) (fun _ _=>rfl)) zac))) zac)))))))) zac))))
theorem zoi (a:All e):Ca e "_law_cell_at" 1 ["script", "k"] (SpD e.K ze5) :=
 mkC a.toAl 1 45 fun F=>fn_d (N:=["script", "k"]) (g:=zkW) F zaO fun _ _ _ _ _ _ hr=>by
 have m:=a.m;unfold zkW;exact (zah (zbr (zaH o_lt (qv 1) (zam (x := "len") zaT rfl (zar m) za5 (zaa (qv 0) zac)) (zaB _)) (zag (zaD (zaz (zaw hr) (qv 0) (qv 1) (fun _ _=>rfl) (fun _ _=>rfl)))) za8) (zag (zaD zad)))
theorem zrz (a:All e):Ca e "_law_number_by" 1 ["cell"] (SpD e.K zil) :=
 mkC a.toAl 2 48 fun F=>fn_d (N:=["cell", "size"]) (g:=zi5) F zaO fun _ _ _ _ _ _ hr=>by
 unfold zi5;exact (zah (zaQ ndx rfl (.inl rfl) (q_op zdg (q_op zeL (qv 0) zad) (q_op zoR zad zad))) (zah (zbr (zaH (o_eq hr.units) (q_op zdg (qv 0) zad) zad (zaB _)) (zag (zaD zad)) za8) (zah (zbr (zaH (o_eq hr.units) (q_op zdg (qv 0) zad) zad (zaB _)) (zag (zaD (qv 1))) za8) (zag (zaD (q_op zpy zad (qv 1)))))))
theorem znW (a:All e):Ca e "_law_item" 2 ["cell", "ahead"] (SpD e.K zgp) :=
 mkC a.toAl 3 49 fun F=>fn_d (N:=["cell", "ahead"]) (g:=zmi) F zaO fun _ _ _ _ _ _ hr=>by
 have c_z29:=(zrz a).mono (k:=1) (by omega);unfold zmi;exact (zag (zaD (zcw (zaa (q_op zdg (qv 0) (qv 1)) (zaa (q_fn c_z29 hr rfl (zaa (q_op zeL (qv 0) (qv 1)) zac)) zac)))))
theorem zod (a:All e):Ca e "_law_row_by" 3 ["plans", "loads", "names", "what", "cell"] (SpV e.K ziq) :=
 mkC a.toAl 4 50 fun F=>fn_v (N:=["plans", "loads", "names", "what", "cell", "plan", "ahead", "name", "part", "many"]) (g:=zg1) F zaO fun _ _ _ _ _ _ hr=>by
 have m:=a.m;have c_z30:=(znW a).mono (k:=2) (by omega);unfold zg1
 exact (zak (zbZ ndx rfl (.inl rfl) (ze4 (zae (qv 0)) (zae (q_un zdc zad)) (fun _ _=>rfl))) (zak (zbZ ndx rfl (.inr rfl) (zcH 5 [5] (q_op zbQ (zam (x := "len") zaT rfl (zar m) za5 (zaa (zaz (zaw hr) (qv 5) zad (fun _ _=>rfl) (fun _ _=>rfl)) zac)) (zam (x := "len") zaT rfl (zar m) za5 (zaa (zaz (zaw hr) (qv 5) zad (fun _ _=>rfl) (fun _ _=>rfl)) zac))))) (zak (zbZ ndx rfl (.inl rfl) (zcH 5 [0] (zaz (zaw hr) (qv 2) (q_op zdg (q_op zbQ (zam (x := "len") zaT rfl (zar m) za5 (zaa (qv 0) zac)) (qv 6)) (zam (x := "len") zaT rfl (zar m) za5 (zaa (qv 2) zac))) (fun _ _=>rfl) (fun _ _=>rfl)))) (zak (zlb (zae (qv 1)) (zae (q_un zdc zad)) (zcH 5 [1] (q_op zbQ (zaz (zaw hr) (qv 1) (q_un zdc zad) (fun _ _=>rfl) (fun _ _=>rfl)) zad))) (zak (zep (zdu 5 [0] (QW.qt (zbW (zaH (o_eq hr.units) (q_op zdg (qv 3) zad) zad (zaB _)) (zbO (zaH o_gt (zam (x := "len") zaT rfl (zar m) za5 (zaa (qv 0) zac)) zad (zaB _)))))) (zak (zbZ ndx rfl (.inl rfl) (zcH 5 [0] (q_op zdg (q_op zeL (qv 3) zad) (q_op zpy (zam (x := "len") zaT rfl (zar m) za5 (zaa (qv 0) zac)) zad)))) (zaE (zep (zdu 5 [1] (zaH o_le (q_op zbQ (zaz (zaw hr) (qv 1) (q_un zdc zad) (fun _ _=>rfl) (fun _ _=>rfl)) (zaz (zaw hr) (qv 1) (qv 8) (fun _ _=>rfl) (fun _ _=>rfl))) zad (zaB _))) (zak (zlb (zae (qv 1)) (zae (q_un zdc zad)) (zcH 5 [1] (q_op zbQ (zaz (zaw hr) (qv 1) (q_un zdc zad) (fun _ _=>rfl) (fun _ _=>rfl)) (zaz (zaw hr) (qv 1) (qv 8) (fun _ _=>rfl) (fun _ _=>rfl))))) (zak (zbZ ndx rfl (.inl rfl) (zcH 5 [0] (zam (x := "len") zaT rfl (zar m) za5 (zaa (zaz (zaw hr) (zaz (zaw hr) (qv 0) (qv 8) (fun _ _=>rfl) (fun _ _=>rfl)) zad (fun _ _=>rfl) (fun _ _=>rfl)) zac)))) (zaE (zcb (zcH 5 [0] (zcw (zaa (qv 7) (zaa (zaz (zaw hr) (zaz (zaw hr) (qv 0) (qv 8) (fun _ _=>rfl) (fun _ _=>rfl)) zad (fun _ _=>rfl) (fun _ _=>rfl)) (zaa (zf2 (x := "tuple") zkj rfl (zar m) zdi (zaa (QN.qe (zbL ["j", "cell", "ahead"] [none,some 4,some 6] rfl rfl (zcl rfl (zar m) (zaa (qv 9) zac)) (fun _ _ _ _ _=>(zbj (pgn 0 ndx))) (fun _ _ _ _ _=>(q_fn c_z30 hr rfl (zaa (q_op zbQ (qv 1) (q_op zlV (q_op zlV zad (qv 0)) (qv 0))) (zaa (qv 2) zac)))))) zac)) zac))))))))) zbC))) zbC) (zaE (zcb (zae (zcw (zaa (qv 7) (zaa (zaz (zaw hr) (QN.qe (zcX (zaa zaJ (zaa zaJ zac)))) (q_op zdg (qv 3) zad) (fun _ _=>rfl) (fun _ _=>rfl)) (zaa (zcw (zaa (q_fn c_z30 hr rfl (zaa (qv 4) (zaa (qv 6) zac))) zac)) zac))))))))))))
theorem zrE (a:All e):Ca e "_law_grow" 4 ["plans", "loads", "names", "what", "cell"] (SpV e.K zl3) :=
 mkC a.toAl 5 51 fun F=>fn_v (N:=["plans", "loads", "names", "what", "cell", "plan", "kind", "row"]) (g:=ziy) F zaO fun _ _ _ _ _ _ hr=>by
 have m:=a.m;have c_z30:=(znW a).mono (k:=3) (by omega);have c_z31:=(zod a).mono (k:=3) (by omega);unfold ziy
 exact (zak (zbZ ndx rfl (.inl rfl) (ze4 (zae (qv 0)) (zae (q_un zdc zad)) (fun _ _=>rfl))) (zak (zb0 (m:=some false) (zaQ ndx rfl (.inl rfl) (q_op zdg (qv 3) zad))) (zaE (zep (zdu 5 [5] (QW.qt (zbW (zaH (o_eq hr.units) (qv 6) zad (zaB _)) (zbO (zaH (o_ne hr.units) (zaz (zaw hr) (qv 5) zad (fun _ _=>rfl) (fun _ _=>rfl)) (QN.qe (zcX zac)) (zaB _)))))) (zak (zdh (zae (qv 0)) (zcn (zan (zcH 5 [0] (zaz (zaw hr) (qv 2) (zam (x := "len") zaT rfl (zar m) za5 (zaa (qv 0) zac)) (fun _ _=>rfl) (fun _ _=>rfl))) (zan (zcn (zan (zcH 5 [0] (zaz (zaw hr) (qv 2) (q_op zbQ (zam (x := "len") zaT rfl (zar m) za5 (zaa (qv 0) zac)) zad) (fun _ _=>rfl) (fun _ _=>rfl))) zaL)) (zan (zcn zaL) zaL)))) (fun h1 h2=>zbT PySem.F.plainAttrs_list PySem.F.slot_list_append PySem.F.type_list_append zbb h1 h2)) (zaE (zdh (zae (qv 1)) (zae zad) (fun h1 h2=>zbT PySem.F.plainAttrs_list PySem.F.slot_list_append PySem.F.type_list_append zbb h1 h2)))) (zaE (zep (zdu 5 [5] (QW.qt (zbW (zaH (o_eq hr.units) (qv 6) zad (zaB _)) (zbW (zaH (o_eq hr.units) (zaz (zaw hr) (qv 5) zad (fun _ _=>rfl) (fun _ _=>rfl)) (QN.qe (zcX zac)) (zaB _)) (zbO (zaH o_lt (zam (x := "len") zaT rfl (zar m) za5 (zaa (zaz (zaw hr) (qv 5) zad (fun _ _=>rfl) (fun _ _=>rfl)) zac)) zad (zaB _))))))) (zaE (zdh (ze4 (zae (qv 5)) (zae zad) (fun _ _=>rfl)) (zcH 5 [0,5] (zaz (zaw hr) (qv 2) (q_op zdg (q_op zbQ (zam (x := "len") zaT rfl (zar m) za5 (zaa (qv 0) zac)) (zam (x := "len") zaT rfl (zar m) za5 (zaa (zaz (zaw hr) (qv 5) zad (fun _ _=>rfl) (fun _ _=>rfl)) zac))) (zam (x := "len") zaT rfl (zar m) za5 (zaa (qv 2) zac))) (fun _ _=>rfl) (fun _ _=>rfl))) (fun h1 h2=>zbT PySem.F.plainAttrs_list PySem.F.slot_list_append PySem.F.type_list_append zbb h1 h2))) (zaE (zep (zdu 5 [5] (QW.qt (zbW (zaH o_gt (qv 6) zad (zaB _)) (zbW (zaH (o_ne hr.units) (zaz (zaw hr) (qv 5) zad (fun _ _=>rfl) (fun _ _=>rfl)) (QN.qe (zcX zac)) (zaB _)) (zbO (zm4 hr.units (zaz (zaw hr) (zaz (zaw hr) (zaz (zaw hr) (qv 5) zad (fun _ _=>rfl) (fun _ _=>rfl)) (q_un zdc zad) (fun _ _=>rfl) (fun _ _=>rfl)) zad (fun _ _=>rfl) (fun _ _=>rfl)) (zcw (zaa zaJ (zaa zaJ zac))))))))) (zak (zbZ ndx rfl (.inl rfl) (zcH 5 [5] (zaz (zaw hr) (zaz (zaw hr) (qv 5) zad (fun _ _=>rfl) (fun _ _=>rfl)) (q_un zdc zad) (fun _ _=>rfl) (fun _ _=>rfl)))) (zaE (zlb (ze4 (zae (qv 5)) (zae zad) (fun _ _=>rfl)) (zae (q_un zdc zad)) (zcH 5 [5] (zcw (zaa (zaz (zaw hr) (qv 7) zad (fun _ _=>rfl) (fun _ _=>rfl)) (zaa (zaz (zaw hr) (qv 7) zad (fun _ _=>rfl) (fun _ _=>rfl)) (zaa (q_op zqO (zaz (zaw hr) (qv 7) zad (fun _ _=>rfl) (fun _ _=>rfl)) (zcw (zaa (q_fn c_z30 hr rfl (zaa (qv 4) (zaa (q_op zpy (q_op zbQ (zam (x := "len") zaT rfl (zar m) za5 (zaa (zaz (zaw hr) (qv 5) zad (fun _ _=>rfl) (fun _ _=>rfl)) zac)) (zam (x := "len") zaT rfl (zar m) za5 (zaa (zaz (zaw hr) (qv 5) zad (fun _ _=>rfl) (fun _ _=>rfl)) zac))) zad) zac))) zac))) zac)))))))) (zaE (zdh (ze4 (zae (qv 5)) (zae zad) (fun _ _=>rfl)) (zco c_z31 hr rfl (zan (zae (qv 0)) (zan (zae (qv 1)) (zan (zae (qv 2)) (zan (zae (q_op zeL (qv 3) zad)) (zan (zae (qv 4)) zaL)))))) (fun h1 h2=>zbT PySem.F.plainAttrs_list PySem.F.slot_list_append PySem.F.type_list_append zbb h1 h2)))))))))))
theorem zs4 (a:All e):Ca e "_law_name_by" 1 ["number", "used"] (SpD e.K zja) :=
 mkC a.toAl 6 46 fun F=>fn_d (N:=["number", "used", "letters", "words", "more", "name", "rest"]) (g:=zns) F zaO fun _ _ _ _ _ _ hr=>by
 have m:=a.m;unfold zns;exact (zah (zaQ ndx rfl (.inl rfl) zaJ) (zah (zaQ ndx rfl (.inl rfl) (QN.qe (zcX (zaa zaJ (zaa zaJ (zaa zaJ (zaa zaJ (zaa zaJ zac)))))))) (zah (zb4 PassesOwn.never rfl (zcl rfl (zar m) (zaa (q_op zbQ (zam (x := "len") zaT rfl (zar m) za5 (zaa (qv 1) zac)) zad) zac)) (zbj (za7 ndx rfl (.inl rfl))) (zah (zaQ ndx rfl (.inl rfl) (zaz (zaw hr) (qv 2) (q_op zdg (q_op zbQ (qv 0) (qv 4)) zad) (fun _ _=>rfl) (fun _ _=>rfl))) (zah (zaQ ndx rfl (.inl rfl) (q_op zeL (q_op zbQ (qv 0) (qv 4)) zad)) (zah (znC 60 PassesOwn.never (zaH o_gt (qv 6) zad (zaB _)) (zah (zaQ ndx rfl (.inl rfl) (q_op zbQ (qv 5) (zaz (zaw hr) (qv 2) (q_op zdg (qv 6) zad) (fun _ _=>rfl) (fun _ _=>rfl)))) (zag (zaQ ndx rfl (.inl rfl) (q_op zeL (qv 6) zad))))) (zag (zbr (QW.qt (zbW (zfp hr.units (qv 5) (qv 1)) (zbO (zfp hr.units (qv 5) (qv 3))))) (zag (zaD (qv 5))) za8)))))) (zag (zaD zaJ)))))
theorem zsg (a:All e):Ca e "_law_names_by" 2 ["script", "many"] (SpN e.K zha) :=
 mkC a.toAl 7 47 fun F=>fn_n (N:=["script", "many", "base", "step", "found", "k"]) (g:=znf) F zaO fun _ _ _ _ _ _ hr=>by
 have m:=a.m;have c_z26:=(zoi a).mono (k:=1) (by omega);have c_z27:=(zs4 a).mono (k:=1) (by omega);unfold znf;exact (zah (zaQ ndx rfl (.inl rfl) (q_op zdg (q_fn c_z26 hr rfl (zaa (qv 0) (zaa zad zac))) (q_op zlV zad (q_op zoR zad zad)))) (zah (zaQ ndx rfl (.inl rfl) (zaz (zaw hr) (QN.qe (zcX (zaa zad (zaa zad (zaa zad (zaa zad (zaa zad zac))))))) (q_op zdg (q_fn c_z26 hr rfl (zaa (qv 0) (zaa zad zac))) zad) (fun _ _=>rfl) (fun _ _=>rfl))) (zah (zeD ndx rfl (.inl rfl) (zcX zac)) (zah (zb4 PassesOwn.never rfl (zcl rfl (zar m) (zaa (qv 1) zac)) (zbj (za7 ndx rfl (.inl rfl))) (zag (zfK (pv 4) (zpL [4] (q_fn c_z27 hr rfl (zaa (q_op zbQ (qv 2) (q_op zlV (qv 5) (qv 3))) (zaa (qv 4) zac)))) (fun h1 h2=>zbT PySem.F.plainAttrs_list PySem.F.slot_list_append PySem.F.type_list_append zbb h1 h2)))) (zag (zdM (pv 4)))))))
theorem zsi (a:All e):Ca e "_law_plans_by" 5 ["script"] (SpD e.K zgF) :=
 mkC a.toAl 8 52 fun F=>zpB (kk:=5) (hw:=w_z33) (hx:=x_z33) (N:=["script", "names", "plans", "loads", "k"]) (g:=zjt) F zaO fun _ _ _ _ _ _ hr=>by
 have m:=a.m;have c_z26:=(zoi a).mono (k:=4) (by omega);have c_z32:=(zrE a).mono (k:=4) (by omega);have c_z28:=(zsg a).mono (k:=4) (by omega);have c_z31:=(zod a).mono (k:=4) (by omega);unfold zjt
 exact (zak (zb0 (m:=some false) (zaQ ndx rfl (.inl rfl) (QN.qe (zkR c_z28 hr rfl (zaa (qv 0) (zaa zad zac)))))) (zak (zbZ ndx rfl (.inl rfl) (zcn (zan (zcn (zan (zae (zaz (zaw hr) (qv 1) zad (fun _ _=>rfl) (fun _ _=>rfl))) (zan (zcn (zan (zae (zaz (zaw hr) (qv 1) zad (fun _ _=>rfl) (fun _ _=>rfl))) zaL)) (zan (zcn zaL) zaL)))) zaL))) (zak (zbZ ndx rfl (.inl rfl) (zcn (zan (zae zad) zaL))) (zak (zom PassesOwn.never rfl (zk9 rfl (zar m) (zaa zad (zaa (zam (x := "min") (zrf rfl) rfl (zar m) zsu (zaa (zam (x := "len") zaT rfl (zar m) za5 (zaa (qv 0) zac)) (zaa zad zac))) (zaa zad zac)))) (zbj (za7 ndx rfl (.inl rfl))) (zaE (zlE (zco c_z32 hr rfl (zan (zae (qv 2)) (zan (zae (qv 3)) (zan (zae (qv 1)) (zan (zae (zaz (zaw hr) (qv 0) (qv 4) (fun _ _=>rfl) (fun _ _=>rfl))) (zan (zae (q_fn c_z26 hr rfl (zaa (qv 0) (zaa (q_op zbQ (qv 4) zad) zac)))) zaL))))))))) (zak (zep (zdu 5 [2] (zaH (o_eq hr.units) (zaz (zaw hr) (zaz (zaw hr) (qv 2) (q_un zdc zad) (fun _ _=>rfl) (fun _ _=>rfl)) zad (fun _ _=>rfl) (fun _ _=>rfl)) (QN.qe (zcX zac)) (zaB _))) (zaE (zdh (ze4 (ze4 (zae (qv 2)) (zae (q_un zdc zad)) (fun _ _=>rfl)) (zae zad) (fun _ _=>rfl)) (zco c_z31 hr rfl (zan (zae (qv 2)) (zan (zae (qv 3)) (zan (zae (qv 1)) (zan (zae zad) (zan (zae zad) zaL)))))) (fun h1 h2=>zbT PySem.F.plainAttrs_list PySem.F.slot_list_append PySem.F.type_list_append zbb h1 h2))) zbC) (zaE (zcb (zae (qv 2)))))))))
theorem zp6 (a:All e)(c_z35:Ca e "_law_alike" (0+k) ["found", "due"] (SpD e.K (zcP j))):Ca e "_law_alike" (0+k+1) ["found", "due"] (SpD e.K (zcP (j+1))) :=
 mkC a.toAl 9 54 fun F=>fn_d (N:=["found", "due"]) (g:=(zhd (zcP j))) F zaO fun _ _ _ _ _ _ hr=>by
 have m:=a.m;unfold zhd
 exact (zah (zbr (QW.qt (ze7 (zbp (zam (x := "isinstance") zfS rfl (zar m) zaA (zaa (qv 1) (zaa (zfX (n := "tuple") (x := "tuple") rfl (zar m) zdi rfl) zac)))) (zdO (zbp (zam (x := "isinstance") zfS rfl (zar m) zaA (zaa (qv 1) (zaa (zfX (n := "list") (x := "list") rfl (zar m) zb2 rfl) zac))))))) (zah (zbr (QW.qt (ze7 (zaH (o_ne hr.units) (zam (x := "isinstance") zfS rfl (zar m) zaA (zaa (qv 0) (zaa (zfX (n := "tuple") (x := "tuple") rfl (zar m) zdi rfl) zac))) (zam (x := "isinstance") zfS rfl (zar m) zaA (zaa (qv 1) (zaa (zfX (n := "tuple") (x := "tuple") rfl (zar m) zdi rfl) zac))) (zaB _)) (zdO (zaH (o_ne hr.units) (zam (x := "isinstance") zfS rfl (zar m) zaA (zaa (qv 0) (zaa (zfX (n := "list") (x := "list") rfl (zar m) zb2 rfl) zac))) (zam (x := "isinstance") zfS rfl (zar m) zaA (zaa (qv 1) (zaa (zfX (n := "list") (x := "list") rfl (zar m) zb2 rfl) zac))) (zaB _))))) (zag (zaD zeg)) za8) (zah (zbr (zaH (o_ne hr.units) (zam (x := "len") zaT rfl (zar m) za5 (zaa (qv 0) zac)) (zam (x := "len") zaT rfl (zar m) za5 (zaa (qv 1) zac)) (zaB _)) (zag (zaD zeg)) za8) (zag (zaD (zam (x := "all") (znh rfl) rfl (zar m) zh6 (zaa (QN.qe (zbL ["k", "found", "due"] [none,some 0,some 1] rfl rfl (zcl rfl (zar m) (zaa (zam (x := "len") zaT rfl (zar m) za5 (zaa (qv 1) zac)) zac)) (fun _ _ _ _ _=>(zbj (pgn 0 ndx))) (fun _ _ _ _ _=>(q_fn c_z35 hr rfl (zaa (zaz (zaw hr) (qv 1) (qv 0) (fun _ _=>rfl) (fun _ _=>rfl)) (zaa (zaz (zaw hr) (qv 2) (qv 0) (fun _ _=>rfl) (fun _ _=>rfl)) zac)))))) zac)))))) za8) (zag (zaD (zik (q_not (zam (x := "isinstance") zfS rfl (zar m) zaA (zaa (qv 0) (zaa (zfX (n := "bool") (x := "bool") rfl (zar m) zoK rfl) zac)))) (zjj (zge (o_eq hr.units) (qv 0) (qv 1) (zaB _)))))))
theorem zll (a:All e):∀ j,Ca e "_law_alike" (0+j) ["found", "due"] (SpD e.K (zcP j))
 | 0=>mkC a.toAl 9 54 fun _=>fn_no
 |j+1=>zp6 (k:=j) a (zll a j)
theorem zs1 (a:All e):Ca e "_law_alike" 8 ["found", "due"] (SpD e.K (zcP 8)):=zll a 8
theorem zrM (a:All e):Ca e "_law_same" 9 ["book", "plans"] (SpD e.K zi3) :=
 mkC a.toAl 10 55 fun F=>fn_d (N:=["book", "plans", "k", "plan"]) (g:=zmH) F zaO fun _ _ _ _ _ _ hr=>by
 have m:=a.m;have c_z35:=(zs1 a).mono (k:=8) (by omega);have z_Book:=a.z_Book;have z_Plan:=a.z_Plan;have k_Book:=a.k_Book;have k_Plan:=a.k_Plan;unfold zmH;exact (zah (zbr (QW.qt (ze7 (zbM (zbp (zam (x := "isinstance") (zoo k_Book z_Book) rfl (zar m) zaA (zaa (qv 0) (zaa (znK k_Book.ns k_Book.mgc rfl) zac))))) (ze7 (zbM (zbp (zam (x := "isinstance") zfS rfl (zar m) zaA (zaa (zaV k_Book (by decide) (qv 0)) (zaa (zfX (n := "list") (x := "list") rfl (zar m) zb2 rfl) zac))))) (zdO (zaH (o_ne hr.units) (zam (x := "len") zaT rfl (zar m) za5 (zaa (zaV k_Book (by decide) (qv 0)) zac)) (zam (x := "len") zaT rfl (zar m) za5 (zaa (qv 1) zac)) (zaB _)))))) (zag (zaD zeg)) za8) (zah (zb4 PassesOwn.never rfl (zcl rfl (zar m) (zaa (zam (x := "len") zaT rfl (zar m) za5 (zaa (qv 1) zac)) zac)) (zbj (za7 ndx rfl (.inl rfl))) (zah (zaQ ndx rfl (.inl rfl) (zaz (zaw hr) (zaV k_Book (by decide) (qv 0)) (qv 2) (fun _ _=>rfl) (fun _ _=>rfl))) (zag (zbr (QW.qt (ze7 (zbM (zbp (zam (x := "isinstance") (zoo k_Plan z_Plan) rfl (zar m) zaA (zaa (qv 3) (zaa (znK k_Plan.ns k_Plan.mgc rfl) zac))))) (zdO (zbM (zbp (q_fn c_z35 hr rfl (zaa (QN.qe (zcX (zaa (zaV k_Plan (by decide) (qv 3)) (zaa (zaV k_Plan (by decide) (qv 3)) (zaa (zaV k_Plan (by decide) (qv 3)) zac))))) (zaa (zaz (zaw hr) (qv 1) (qv 2) (fun _ _=>rfl) (fun _ _=>rfl)) zac)))))))) (zag (zaD zeg)) za8)))) (zag (zaD zeg))))
theorem zmP (a:All e):Ca e "is_name" 1 ["text"] (SpD e.K F_z0) :=
 mkC a.toAl 11 15 fun F=>fn_d (N:=["text"]) (g:=G_z0) F zaO fun _ _ _ _ _ _ hr=>by
 have m:=a.m;have w_FIGURES:=a.w_FIGURES;have y_KEPT_WORDS:=a.y_KEPT_WORDS;have w_LETTERS:=a.w_LETTERS;unfold G_z0;exact (zah (zbr (QW.qt (ze7 (zbM (zc4 o_le o_le zad (zam (x := "len") zaT rfl (zar m) za5 (zaa (qv 0) zac)) zad)) (ze7 (zq1 (ws:=["plan", "given", "all", "first", "part"]) hr.units y_KEPT_WORDS rfl (qv 0)) (zdO (zaH zqR (zaz (zaw hr) (qv 0) zad (fun _ _=>rfl) (fun _ _=>rfl)) (zfx w_LETTERS rfl) rfl))))) (zag (zaD zeg)) za8) (zag (zaD (zam (x := "all") (znh rfl) rfl (zar m) zh6 (zaa (QN.qe (zbL ["sign"] [none] rfl rfl (znL (qv 0)) (fun _ _ _ _ _=>(zbj (pgn 0 ndx))) (fun _ _ _ _ _=>(q_or (zge zj9 (qv 0) (zfx w_LETTERS rfl) rfl) (zjj (zge zj9 (qv 0) (zfx w_FIGURES rfl) rfl)))))) zac)))))
theorem zof (a:All e):Ca e "name_behind" 2 ["start", "row"] (SpD e.K zhi) :=
 mkC a.toAl 12 31 fun F=>fn_d (N:=["start", "row", "name"]) (g:=zjh) F zaO fun _ _ _ _ _ _ hr=>by
 have m:=a.m;have c_z0:=(zmP a).mono (k:=1) (by omega);unfold zjh;exact (zah (zaQ ndx rfl (.inl rfl) (zmr (qv 1) (zgP (zam (x := "len") zaT rfl (zar m) za5 (zaa (qv 0) zac))) zdI)) (zag (zaD (zf5 (QW.qt (zbW (zbp (znA (id := "str.startswith") (qv 1) (qv 0) (fun h1 h2=>zbT PySem.F.plainAttrs_str PySem.F.slot_str_startswith PySem.F.type_str_startswith zlk h1 h2))) (zbO (zbp (q_fn c_z0 hr rfl (zaa (qv 2) zac)))))) (qv 2) ze9))))
theorem zqU (a:All e):Ca e "are_figures" 1 ["text"] (SpD e.K zlX) :=
 mkC a.toAl 13 35 fun F=>fn_d (N:=["text"]) (g:=znu) F zaO fun _ _ _ _ _ _ hr=>by
 have m:=a.m;have w_FIGURES:=a.w_FIGURES;unfold znu;exact (zag (zaD (zik (zo6 o_le o_le zad (zam (x := "len") zaT rfl (zar m) za5 (zaa (qv 0) zac)) zad) (zik (zge (o_ne hr.units) (zaz (zaw hr) (qv 0) zad (fun _ _=>rfl) (fun _ _=>rfl)) zaJ (zaB _)) (zjj (zam (x := "all") (znh rfl) rfl (zar m) zh6 (zaa (QN.qe (zbL ["sign"] [none] rfl rfl (znL (qv 0)) (fun _ _ _ _ _=>(zbj (pgn 0 ndx))) (fun _ _ _ _ _=>(zge zj9 (qv 0) (zfx w_FIGURES rfl) rfl)))) zac)))))))
theorem zrw (a:All e):Ca e "item_of" 2 ["text"] (SpD e.K zfL) :=
 mkC a.toAl 14 34 fun F=>fn_d (N:=["text", "sign", "sides"]) (g:=ziF) F zaO fun _ _ _ _ _ _ hr=>by
 have m:=a.m;have c_z18:=(zqU a).mono (k:=1) (by omega);have c_z0:=(zmP a).mono (k:=1) (by omega);unfold ziF;exact (zah (zbr (zbp (q_fn c_z0 hr rfl (zaa (qv 0) zac))) (zag (zaD (zcw (zaa (qv 0) (zaa zad zac))))) za8) (zah (zb4 PassesOwn.never rfl (zaX (zcw (zaa zaJ (zaa zaJ zac)))) (zbj (za7 ndx rfl (.inl rfl))) (zah (zaQ ndx rfl (.inl rfl) (QN.qe (zhC (id := "str.split") (qv 0) (qv 1) (fun h1 h2=>zbT PySem.F.plainAttrs_str PySem.F.slot_str_split PySem.F.type_str_split zdH h1 h2)))) (zag (zbr (QW.qt (zbW (zaH (o_eq hr.units) (zam (x := "len") zaT rfl (zar m) za5 (zaa (qv 2) zac)) zad (zaB _)) (zbW (zbp (q_fn c_z0 hr rfl (zaa (zaz (zaw hr) (qv 2) zad (fun _ _=>rfl) (fun _ _=>rfl)) zac))) (zbO (zbp (q_fn c_z18 hr rfl (zaa (zaz (zaw hr) (qv 2) zad (fun _ _=>rfl) (fun _ _=>rfl)) zac))))))) (zag (zaD (zcw (zaa (zaz (zaw hr) (qv 2) zad (fun _ _=>rfl) (fun _ _=>rfl)) (zaa (zf2 (x := "int") zqo rfl (zar m) zrK (zaa (q_op zbQ (qv 1) (zaz (zaw hr) (qv 2) zad (fun _ _=>rfl) (fun _ _=>rfl))) zac)) zac))))) za8)))) (zag (zaD ze9))))
theorem zsK (a:All e):Ca e "with_items" 3 ["name", "how", "words"] (SpD e.K zkL) :=
 mkC a.toAl 15 33 fun F=>fn_d (N:=["name", "how", "words", "items"]) (g:=zmB) F zaO fun _ _ _ _ _ _ hr=>by
 have m:=a.m;have c_z17:=(zrw a).mono (k:=2) (by omega);unfold zmB;exact (zah (ziz ["text"] [none] ndx rfl (.inl rfl) rfl rfl (zaX (QN.qe (zhC (id := "str.split") (znA (id := "str.join") zaJ (qv 2) (fun h1 h2=>zbT PySem.F.plainAttrs_str PySem.F.slot_str_join PySem.F.type_str_join zg8 h1 h2)) zaJ (fun h1 h2=>zbT PySem.F.plainAttrs_str PySem.F.slot_str_split PySem.F.type_str_split zdH h1 h2)))) (fun _ _ _ _ _=>(zbj (pgn 0 ndx))) (fun _ _ _ _ _=>(q_fn c_z17 hr rfl (zaa (qv 0) zac)))) (zag (zaD (zf5 (zm4 hr.units ze9 (qv 3)) ze9 (zcw (zaa (qv 0) (zaa (qv 1) (zaa (qv 3) zac))))))))
theorem zqz (a:All e):Ca e "made_thing" 4 ["row"] (SpD e.K zgL) :=
 mkC a.toAl 16 32 fun F=>fn_d (N:=["row", "words"]) (g:=ziI) F zaO fun _ _ _ _ _ _ hr=>by
 have m:=a.m;have c_z0:=(zmP a).mono (k:=3) (by omega);have c_z16:=(zsK a).mono (k:=3) (by omega);unfold ziI;exact (zah (zaQ ndx rfl (.inl rfl) (QN.qe (zhC (id := "str.split") (qv 0) zaJ (fun h1 h2=>zbT PySem.F.plainAttrs_str PySem.F.slot_str_split PySem.F.type_str_split zdH h1 h2)))) (zah (zbr (QW.qt (ze7 (zaH o_lt (zam (x := "len") zaT rfl (zar m) za5 (zaa (qv 1) zac)) zad (zaB _)) (ze7 (zaH (o_ne hr.units) (zaz (zaw hr) (qv 1) zad (fun _ _=>rfl) (fun _ _=>rfl)) zaJ (zaB _)) (zdO (zbM (zbp (q_fn c_z0 hr rfl (zaa (zaz (zaw hr) (qv 1) zad (fun _ _=>rfl) (fun _ _=>rfl)) zac)))))))) (zag (zaD ze9)) za8) (zah (zbr (zm4 hr.units (zaz (zaw hr) (qv 1) zad (fun _ _=>rfl) (fun _ _=>rfl)) (zcw (zaa zaJ (zaa zaJ zac)))) (zag (zaD (q_fn c_z16 hr rfl (zaa (zaz (zaw hr) (qv 1) zad (fun _ _=>rfl) (fun _ _=>rfl)) (zaa (zaz (zaw hr) (qv 1) zad (fun _ _=>rfl) (fun _ _=>rfl)) (zaa (QN.qe (zjw (qv 1) (zgP zad) zdI zdI)) zac)))))) za8) (zah (zbr (QW.qt (zbW (zaH (o_eq hr.units) (zaz (zaw hr) (qv 1) zad (fun _ _=>rfl) (fun _ _=>rfl)) zaJ (zaB _)) (zbO (zbp (q_fn c_z0 hr rfl (zaa (zaz (zaw hr) (qv 1) zad (fun _ _=>rfl) (fun _ _=>rfl)) zac)))))) (zag (zaD (q_fn c_z16 hr rfl (zaa (zaz (zaw hr) (qv 1) zad (fun _ _=>rfl) (fun _ _=>rfl)) (zaa (zaz (zaw hr) (qv 1) zad (fun _ _=>rfl) (fun _ _=>rfl)) (zaa (QN.qe (zjw (qv 1) (zgP zad) zdI zdI)) zac)))))) za8) (zag (zaD ze9))))))
theorem zrC (a:All e):Ca e "takes_thing" 5 ["draft", "number", "row"] (SpV e.K zk6) :=
 mkC a.toAl 17 30 fun F=>fn_v (N:=["draft", "number", "row", "given", "made"]) (g:=zgX) F zaO fun _ _ _ _ _ _ hr=>by
 have m:=a.m;have c_z15:=(zqz a).mono (k:=4) (by omega);have c_z14:=(zof a).mono (k:=4) (by omega);have k_Draft:=a.k_Draft;unfold zgX;exact (zak (zb0 (m:=some false) (zaQ ndx rfl (.inl rfl) (q_fn c_z14 hr rfl (zaa zaJ (zaa (qv 2) zac))))) (zak (zb0 (m:=some false) (zaQ ndx rfl (.inl rfl) (q_fn c_z15 hr rfl (zaa (qv 2) zac)))) (zak (zep (zdu 6 [0] (QW.qt (zbW (zdS (qv 3)) (zbO (zaH (o_eq hr.units) (zaV k_Draft (by decide) (qv 0)) (QN.qe (zcX zac)) (zaB _)))))) (zak (zdh (zeB k_Draft (by decide) (zae (qv 0))) (zae (qv 3)) (fun h1 h2=>zbT PySem.F.plainAttrs_list PySem.F.slot_list_append PySem.F.type_list_append zbb h1 h2)) (zaE (zcb (zae zeg)))) zbC) (zak (zep (zhY (zdS (qv 4))) (zak (zdh (zeB k_Draft (by decide) (zae (qv 0))) (zae (zcw (zaa (qv 1) (zaa (qv 4) zac)))) (fun h1 h2=>zbT PySem.F.plainAttrs_list PySem.F.slot_list_append PySem.F.type_list_append zbb h1 h2)) (zaE (zcb (zae zeg)))) zbC) (zaE (zcb (zae zeg)))))))
theorem zqt (a:All e):Ca e "takes_row" 6 ["drafts", "number", "row"] (SpV e.K zdL) :=
 mkC a.toAl 18 29 fun F=>fn_v (N:=["drafts", "number", "row", "name"]) (g:=zgQ) F zaO fun _ _ _ _ _ _ hr=>by
 have m:=a.m;have c_z14:=(zof a).mono (k:=5) (by omega);have c_z13:=(zrC a).mono (k:=5) (by omega);have i_Draft:=zoZ a;unfold zgQ;exact (zak (zb0 (m:=some false) (zaQ ndx rfl (.inl rfl) (q_fn c_z14 hr rfl (zaa zaJ (zaa (qv 2) zac))))) (zak (zep (zhY (zdS (qv 3))) (zak (zdh (zae (qv 0)) (zgD i_Draft (hr.mono (by omega)) rfl (zan (zae (qv 3)) zaL)) (fun h1 h2=>zbT PySem.F.plainAttrs_list PySem.F.slot_list_append PySem.F.type_list_append zbb h1 h2)) (zaE (zcb (zae zeg)))) zbC) (zaE (zcb (zr4 (zcH 6 [0] (zge (o_neL hr.units) (qv 0) (QN.qe (zcX zac)) (zaB _))) (zrT (zco c_z13 hr rfl (zan (ze4 (zae (qv 0)) (zae (q_un zdc zad)) (fun _ _=>rfl)) (zan (zae (qv 1)) (zan (zae (qv 2)) zaL))))))))))
theorem zqE (a:All e):Ca e "drafts_of" 7 ["text"] (SpD e.K zgd) :=
 mkC a.toAl 19 28 fun F=>zpB (kk:=6) (hw:=w_z11) (hx:=x_z11) (N:=["text", "drafts", "number", "row"]) (g:=ziB) F zaO fun _ _ _ _ _ _ hr=>by
 have m:=a.m;have c_z12:=(zqt a).mono (k:=6) (by omega);unfold ziB;exact (zak (zbZ ndx rfl (.inl rfl) (zcn zaL)) (zak (zom PassesOwn.never rfl (znw rfl (zar m) (zaa (QN.qe (zhC (id := "str.split") (qv 0) zaJ (fun h1 h2=>zbT PySem.F.plainAttrs_str PySem.F.slot_str_split PySem.F.type_str_split zdH h1 h2))) zac)) (zbE [2,3] (zbD rfl (zao (za7 ndx rfl (.inl rfl)) (zao (za7 ndx rfl (.inl rfl)) zbh)))) (zaE (zep (zpJ (zoS (zco c_z12 hr rfl (zan (zae (qv 1)) (zan (zae (qv 2)) (zan (zae (qv 3)) zaL)))))) (zaE (zb0 (m:=some false) zd6)) zbC))) (zaE (zcb (zae (qv 1))))))
theorem ok_z3 (a:All e):Ca e "are_names" 2 ["texts"] (SpD e.K F_z3) :=
 mkC a.toAl 20 18 fun F=>fn_d (N:=["texts"]) (g:=G_z3) F zaO fun _ _ _ _ _ _ hr=>by
 have m:=a.m;have c_z0:=(zmP a).mono (k:=1) (by omega);unfold G_z3;exact (zag (zaD (zik (zam (x := "all") (znh rfl) rfl (zar m) zh6 (zaa (QN.qe (zbL ["text"] [none] rfl rfl (zaX (qv 0)) (fun _ _ _ _ _=>(zbj (pgn 0 ndx))) (fun _ _ _ _ _=>(q_fn c_z0 hr rfl (zaa (qv 0) zac))))) zac)) (zjj (zge (o_eq hr.units) (zsL (fun h=>zhQ L2.ST.call_lenK rfl (zar m) za5 (zcz (zdb (L2.ST.call_setK rfl) rfl (zar m) L2.bt_set h) zdy)) (zaa (qv 0) zac)) (zam (x := "len") zaT rfl (zar m) za5 (zaa (qv 0) zac)) (zaB _))))))
theorem ok_z2 (a:All e):Ca e "look_at_names" 3 ["book"] (SpD e.K F_z2) :=
 mkC a.toAl 21 17 fun F=>fn_d (N:=["book", "plan"]) (g:=G_z2) F zaO fun _ _ _ _ _ _ hr=>by
 have c_z3:=(ok_z3 a).mono (k:=2) (by omega);have k_Book:=a.k_Book;have k_Plan:=a.k_Plan;unfold G_z2;exact (zah (zbr (zbM (zbp (q_fn c_z3 hr rfl (zaa (QN.qe (zbL ["plan"] [none] rfl rfl (zaX (zaV k_Book (by decide) (qv 0))) (fun _ _ _ _ _=>(zbj (pgn 0 ndx))) (fun _ _ _ _ _=>(zaV k_Plan (by decide) (qv 0))))) zac)))) (zag zd6) za8) (zag (zb4 PassesOwn.never rfl (zaX (zaV k_Book (by decide) (qv 0))) (zbj (za7 ndx rfl (.inl rfl))) (zag (zbr (zbM (zbp (q_fn c_z3 hr rfl (zaa (q_op zbQ (zaV k_Plan (by decide) (qv 1)) (QN.qe (zbL ["name", "how", "items"] [none,none,none] rfl rfl (zaX (zaV k_Plan (by decide) (qv 1))) (fun _ _ _ _ _=>(zbE [0,1,2] (zbD rfl (zao (pgn 0 ndx) (zao (pgn 1 ndx) (zao (pgn 2 ndx) zbh)))))) (fun _ _ _ _ _=>(qv 0))))) zac)))) (zag zd6) za8)))))
theorem zrq (a:All e):Ca e "is_part" 1 ["how"] (SpD e.K F_z9) :=
 mkC a.toAl 22 24 fun F=>fn_d (N:=["how"]) (g:=G_z9) F zaO fun _ _ _ _ _ _ hr=>by
 unfold G_z9;exact (zag (zaD (zo2 hr.units (qv 0) (zcw (zaa zaJ (zaa zaJ zac))))))
theorem ok_z6 (a:All e):Ca e "look_at_parts" 2 ["book"] (SpD e.K F_z6) :=
 mkC a.toAl 23 21 fun F=>fn_d (N:=["book", "givens", "plan", "name", "how", "items"]) (g:=G_z6) F zaO fun _ _ _ _ _ _ hr=>by
 have m:=a.m;have c_z9:=(zrq a).mono (k:=1) (by omega);have k_Book:=a.k_Book;have k_Plan:=a.k_Plan;unfold G_z6;exact (zah (zeD ndx rfl (.inl rfl) zlt) (zag (zb4 PassesOwn.never rfl (zaX (zaV k_Book (by decide) (qv 0))) (zbj (za7 ndx rfl (.inl rfl))) (zah (zb4 PassesOwn.never rfl (zaX (zaV k_Plan (by decide) (qv 2))) (zbE [3,4,5] (zbD rfl (zao (za7 ndx rfl (.inl rfl)) (zao (za7 ndx rfl (.inl rfl)) (zao (za7 ndx rfl (.inl rfl)) zbh))))) (zag (zbr (QW.qt (zbW (zbp (q_fn c_z9 hr rfl (zaa (qv 4) zac))) (zbO (zaH (o_ne hr.units) (zpL [1] (zqX (zaw hr) (qv 1) (qv 4) ⟨rfl,rfl,rfl,rfl⟩)) (zam (x := "len") zaT rfl (zar m) za5 (zaa (qv 5) zac)) (zaB _))))) (zag zd6) za8))) (zag (zkE (zaw hr) (pv 1) (zaV k_Plan (by decide) (qv 2)) (zam (x := "len") zaT rfl (zar m) za5 (zaa (zaV k_Plan (by decide) (qv 2)) zac))))))))
theorem ok_z5 (a:All e):Ca e "look_at_items" 1 ["plan"] (SpD e.K F_z5) :=
 mkC a.toAl 24 20 fun F=>fn_d (N:=["plan", "ahead", "name", "how", "items", "thing", "wait"]) (g:=G_z5) F zaO fun _ _ _ _ _ _ hr=>by
 have m:=a.m;have k_Plan:=a.k_Plan;unfold G_z5;exact (zah (zaQ ndx rfl (.inl rfl) (zam (x := "len") zaT rfl (zar m) za5 (zaa (zaV k_Plan (by decide) (qv 0)) zac))) (zag (zb4 PassesOwn.never rfl (zaX (zaV k_Plan (by decide) (qv 0))) (zbE [2,3,4] (zbD rfl (zao (za7 ndx rfl (.inl rfl)) (zao (za7 ndx rfl (.inl rfl)) (zao (za7 ndx rfl (.inl rfl)) zbh))))) (zah (zbr (zbM (zc4 o_le o_le zad (zam (x := "len") zaT rfl (zar m) za5 (zaa (qv 4) zac)) zad)) (zag zd6) za8) (zah (zb4 PassesOwn.never rfl (zaX (qv 4)) (zbE [5,6] (zbD rfl (zao (za7 ndx rfl (.inl rfl)) (zao (za7 ndx rfl (.inl rfl)) zbh)))) (zah (zbr (zbM (zc4 o_le o_lt zad (qv 5) (qv 1))) (zag zd6) za8) (zag (zbr (zaH o_ge (zam (x := "abs") b_abs rfl (zar m) zrm (zaa (qv 6) zac)) (q_op zoR zad zad) (zaB _)) (zag zd6) za8)))) (zag (zr9 ndx rfl (.inl rfl) zad)))))))
theorem ok_z4 (a:All e):Ca e "look_at_plans" 2 ["book"] (SpD e.K F_z4) :=
 mkC a.toAl 25 19 fun F=>fn_d (N:=["book", "plan"]) (g:=G_z4) F zaO fun _ _ _ _ _ _ hr=>by
 have m:=a.m;have c_z5:=(ok_z5 a).mono (k:=1) (by omega);have k_Book:=a.k_Book;have k_Plan:=a.k_Plan;unfold G_z4;exact (zah (zbr (zbM (zc4 o_le o_le zad (zam (x := "len") zaT rfl (zar m) za5 (zaa (zaV k_Book (by decide) (qv 0)) zac)) zad)) (zag zd6) za8) (zag (zb4 PassesOwn.never rfl (zaX (zaV k_Book (by decide) (qv 0))) (zbj (za7 ndx rfl (.inl rfl))) (zah (zbr (zbM (zc4 o_le o_le zad (zam (x := "len") zaT rfl (zar m) za5 (zaa (zaV k_Plan (by decide) (qv 1)) zac)) zad)) (zag zd6) za8) (zah (zbr (zbM (zc4 o_le o_le zad (zam (x := "len") zaT rfl (zar m) za5 (zaa (zaV k_Plan (by decide) (qv 1)) zac)) zad)) (zag zd6) za8) (zag (zel (q_fn c_z5 hr rfl (zaa (qv 1) zac)))))))))
theorem ok_z8 (a:All e):Ca e "weights" 2 ["book"] (SpN e.K F_z8) :=
 mkC a.toAl 26 23 fun F=>fn_n (N:=["book", "told", "plan", "parts"]) (g:=G_z8) F zaO fun _ _ _ _ _ _ hr=>by
 have m:=a.m;have c_z9:=(zrq a).mono (k:=1) (by omega);have k_Book:=a.k_Book;have k_Plan:=a.k_Plan;unfold G_z8;exact (zah (zeD ndx rfl (.inr rfl) zlt) (zah (zb4 PassesOwn.never rfl (zaX (zaV k_Book (by decide) (qv 0))) (zbj (za7 ndx rfl (.inl rfl))) (zah (zf0 [1] ["name", "how", "items", "told"] [none,none,none,some 1] ndx rfl (.inl rfl) rfl rfl (zaX (zaV k_Plan (by decide) (qv 2))) (fun _ _ _ _ _=>(zbE [0,1,2] (zbD rfl (zao (pgn 0 ndx) (zao (pgn 1 ndx) (zao (pgn 2 ndx) zbh)))))) (fun _ _ _ _ _=>(zbp (q_fn c_z9 hr rfl (zaa (qv 1) zac)))) (fun _ _ _ _ _=>(zaz (zaw hr) (qv 3) (qv 1) (fun _ _=>rfl) (fun _ _=>rfl)))) (zag (zkE (zaw hr) (pv 1) (zaV k_Plan (by decide) (qv 2)) (q_op zbQ (zam (x := "len") zaT rfl (zar m) za5 (zaa (zaV k_Plan (by decide) (qv 2)) zac)) (zpL [3] (zam (x := "sum") (b_sum rfl) rfl (zar m) zs7 (zaa (qv 3) zac)))))))) (zag (zdM (pv 1)))))
theorem ok_z7 (a:All e):Ca e "look_at_weights" 3 ["book"] (SpD e.K F_z7) :=
 mkC a.toAl 27 22 fun F=>fn_d (N:=["book", "name", "own"]) (g:=G_z7) F zaO fun _ _ _ _ _ _ hr=>by
 have c_z8:=(ok_z8 a).mono (k:=2) (by omega);unfold G_z7;exact (zag (zb4 PassesOwn.never rfl (zny (zkR c_z8 hr rfl (zaa (qv 0) zac))) (zbE [1,2] (zbD rfl (zao (za7 ndx rfl (.inl rfl)) (zao (za7 ndx rfl (.inl rfl)) zbh)))) (zag (zbr (zaH o_gt (qv 2) zad (zaB _)) (zag zd6) za8))))
theorem ok_z1 (a:All e):Ca e "looked" 4 ["book"] (SpD e.K F_z1) :=
 mkC a.toAl 28 16 fun F=>fn_d (N:=["book"]) (g:=G_z1) F zaO fun _ _ _ _ _ _ hr=>by
 have c_z2:=(ok_z2 a).mono (k:=3) (by omega);have c_z6:=(ok_z6 a).mono (k:=3) (by omega);have c_z4:=(ok_z4 a).mono (k:=3) (by omega);have c_z7:=(ok_z7 a).mono (k:=3) (by omega);unfold G_z1;exact (zah (zel (q_fn c_z2 hr rfl (zaa (qv 0) zac))) (zah (zel (q_fn c_z4 hr rfl (zaa (qv 0) zac))) (zah (zel (q_fn c_z6 hr rfl (zaa (qv 0) zac))) (zag (zel (q_fn c_z7 hr rfl (zaa (qv 0) zac)))))))
theorem zq6 (a:All e):Ca e "numbered" 1 ["items", "numbers", "row"] (SpD e.K zi1) :=
 mkC a.toAl 29 38 fun F=>fn_d (N:=["items", "numbers", "row", "name", "wait"]) (g:=zmq) F zaO fun _ _ _ _ _ _ hr=>by
 have m:=a.m;unfold zmq;exact (zah (zb4 PassesOwn.never rfl (zaX (qv 0)) (zbE [3,4] (zbD rfl (zao (za7 ndx rfl (.inl rfl)) (zao (za7 ndx rfl (.inl rfl)) zbh)))) (zag (zbr (zfp hr.units (qv 3) (qv 1)) (zag zd6) za8))) (zag (zaD (zf2 (x := "tuple") zkj rfl (zar m) zdi (zaa (QN.qe (zbL ["name", "wait", "numbers"] [none,none,some 1] rfl rfl (zaX (qv 0)) (fun _ _ _ _ _=>(zbE [0,1] (zbD rfl (zao (pgn 0 ndx) (zao (pgn 1 ndx) zbh))))) (fun _ _ _ _ _=>(zcw (zaa (zaz (zaw hr) (qv 2) (qv 0) (fun _ _=>rfl) (fun _ _=>rfl)) (zaa (qv 1) zac)))))) zac)))))
theorem zsF (a:All e):Ca e "numbers_of" 1 ["names"] (SpN e.K zml) :=
 mkC a.toAl 30 37 fun F=>fn_n (N:=["names", "numbers", "number", "name"]) (g:=znp) F zaO fun _ _ _ _ _ _ hr=>by
 have m:=a.m;unfold znp;exact (zah (zeD ndx rfl (.inl rfl) zlt) (zah (zb4 PassesOwn.never rfl (zo3 rfl (zar m) (zaa (qv 0) zac)) (zbE [2,3] (zbD rfl (zao (za7 ndx rfl (.inl rfl)) (zao (za7 ndx rfl (.inl rfl)) zbh)))) (zag (zj1 (pv 1) (qv 3) (qv 2) (fun h1 h2=>zbT PySem.F.plainAttrs_dict PySem.F.slot_dict_setdefault PySem.F.type_dict_setdefault zjY h1 h2)))) (zag (zdM (pv 1)))))
theorem zs2 (a:All e):Ca e "plan_of" 3 ["draft"] (SpV e.K zfM) :=
 mkC a.toAl 31 36 fun F=>fn_v (N:=["draft", "numbers", "rows", "number", "made"]) (g:=zjf) F zaO fun _ _ _ _ _ _ hr=>by
 have m:=a.m;have c_z21:=(zq6 a).mono (k:=2) (by omega);have c_z20:=(zsF a).mono (k:=2) (by omega);have k_Draft:=a.k_Draft;have iv_Plan:=zpI a;unfold zjf;exact (zak (zb0 (m:=some false) (zaQ ndx rfl (.inl rfl) (QN.qe (zkR c_z20 hr rfl (zaa (q_op zbQ (zaV k_Draft (by decide) (qv 0)) (QN.qe (zbL ["number", "made"] [none,none] rfl rfl (zaX (zaV k_Draft (by decide) (qv 0))) (fun _ _ _ _ _=>(zbE [0,1] (zbD rfl (zao (pgn 0 ndx) (zao (pgn 1 ndx) zbh))))) (fun _ _ _ _ _=>(zaz (zaw hr) (qv 1) zad (fun _ _=>rfl) (fun _ _=>rfl)))))) zac))))) (zak (zb0 (m:=some false) (zeD ndx rfl (.inl rfl) (zcX zac))) (zak (zb0 (m:=some false) (zb4 PassesOwn.never rfl (zaX (zaV k_Draft (by decide) (qv 0))) (zbE [3,4] (zbD rfl (zao (za7 ndx rfl (.inl rfl)) (zao (za7 ndx rfl (.inl rfl)) zbh)))) (zag (zfK (pv 2) (zcw (zaa (zaz (zaw hr) (qv 4) zad (fun _ _=>rfl) (fun _ _=>rfl)) (zaa (zaz (zaw hr) (qv 4) zad (fun _ _=>rfl) (fun _ _=>rfl)) (zaa (q_fn c_z21 hr rfl (zaa (zaz (zaw hr) (qv 4) zad (fun _ _=>rfl) (fun _ _=>rfl)) (zaa (qv 1) (zaa (qv 3) zac)))) zac)))) (fun h1 h2=>zbT PySem.F.plainAttrs_list PySem.F.slot_list_append PySem.F.type_list_append zbb h1 h2))))) (zaE (zsG [2] (zcb (zgD iv_Plan (hr.mono (by omega)) rfl (zan (zae (zaV k_Draft (by decide) (qv 0))) (zan (zae (zaV k_Draft (by decide) (qv 0))) (zan (zae (qv 2)) zaL))))))))))
theorem zsE (a:All e):Ca e "read" 8 ["text"] (SpV e.K ziW) :=
 mkC a.toAl 32 27 fun F=>fn_v (N:=["text", "book"]) (g:=zjP) F zaO fun _ _ _ _ _ _ hr=>by
 have c_z11:=(zqE a).mono (k:=7) (by omega);have c_z1:=(ok_z1 a).mono (k:=7) (by omega);have c_z19:=(zs2 a).mono (k:=7) (by omega);have iv_Book:=zp0 a;unfold zjP;exact (zak (zbZ ndx rfl (.inl rfl) (zgD iv_Book (hr.mono (by omega)) rfl (zan (zpU ["draft"] [none] rfl rfl (zaX (q_fn c_z11 hr rfl (zaa (qv 0) zac))) (fun _ _ _ _ _=>(zbj (pgn 0 ndx))) (fun _ _ _ _ _=>(zco c_z19 hr rfl (zan (zae (qv 0)) zaL)))) zaL))) (zak (zlE (zcH 8 [1] (q_fn c_z1 hr rfl (zaa (qv 1) zac)))) (zaE (zcb (zae (qv 1))))))
theorem zs9 (a:All e):Ca e "item_text" 1 ["name", "wait"] (SpD e.K zhk) :=
 mkC a.toAl 33 43 fun F=>fn_d (N:=["name", "wait"]) (g:=ziu) F zaO fun _ _ _ _ _ _ hr=>by
 unfold ziu;exact (zah (zbr (zaH (o_eq hr.units) (qv 1) zad (zaB _)) (zag (zaD (qv 0))) za8) (zag (zaD (zf5 (zaH o_gt (qv 1) zad (zaB _)) (zeO (zbR (qv 0) (zeb (zbR (qv 1) zeP)))) (zeO (zbR (qv 0) (zbR (qv 1) zeP)))))))
theorem zqP (a:All e):Ca e "made_row" 2 ["made", "how", "items", "things"] (SpD e.K zkM) :=
 mkC a.toAl 34 42 fun F=>fn_d (N:=["made", "how", "items", "things", "way", "texts"]) (g:=znc) F zaO fun _ _ _ _ _ _ hr=>by
 have m:=a.m;have c_z25:=(zs9 a).mono (k:=1) (by omega);unfold znc;exact (zah (zaQ ndx rfl (.inl rfl) (zf5 (zm4 hr.units (qv 1) (zcw (zaa zaJ (zaa zaJ zac)))) (qv 1) (zeO (zeb (zbR (qv 1) zeP))))) (zah (zaQ ndx rfl (.inl rfl) (znA (id := "str.join") zaJ (QN.qe (zbL ["thing", "wait", "things"] [none,none,some 3] rfl rfl (zaX (qv 2)) (fun _ _ _ _ _=>(zbE [0,1] (zbD rfl (zao (pgn 0 ndx) (zao (pgn 1 ndx) zbh))))) (fun _ _ _ _ _=>(q_fn c_z25 hr rfl (zaa (zaz (zaw hr) (qv 2) (qv 0) (fun _ _=>rfl) (fun _ _=>rfl)) (zaa (qv 1) zac)))))) (fun h1 h2=>zbT PySem.F.plainAttrs_str PySem.F.slot_str_join PySem.F.type_str_join zg8 h1 h2))) (zag (zaD (zeO (zeb (zbR (qv 0) (zeb (zbR (qv 4) (zeb (zbR (qv 5) zeP)))))))))))
theorem zru (a:All e):Ca e "plan_rows" 3 ["plan"] (SpN e.K zjO) :=
 mkC a.toAl 35 41 fun F=>fn_n (N:=["plan", "name", "things", "told"]) (g:=zmV) F zaO fun _ _ _ _ _ _ hr=>by
 have c_z24:=(zqP a).mono (k:=2) (by omega);have k_Plan:=a.k_Plan;unfold zmV;exact (zah (zaQ ndx rfl (.inl rfl) (zaV k_Plan (by decide) (qv 0))) (zah (zaQ ndx rfl (.inr rfl) (q_op zbQ (zaV k_Plan (by decide) (qv 0)) (QN.qe (zbL ["made", "how", "items"] [none,none,none] rfl rfl (zaX (zaV k_Plan (by decide) (qv 0))) (fun _ _ _ _ _=>(zbE [0,1,2] (zbD rfl (zao (pgn 0 ndx) (zao (pgn 1 ndx) (zao (pgn 2 ndx) zbh)))))) (fun _ _ _ _ _=>(qv 0)))))) (zah (zaQ ndx rfl (.inl rfl) (q_op zbQ (QN.qe (zcX (zaa (zeO (zeb (zbR (qv 1) zeP))) zac))) (QN.qe (zbL ["given"] [none] rfl rfl (zaX (zaV k_Plan (by decide) (qv 0))) (fun _ _ _ _ _=>(zbj (pgn 0 ndx))) (fun _ _ _ _ _=>(zeO (zeb (zbR (qv 0) zeP)))))))) (zag (zlL (q_opN zsl (qv 3) (QN.qe (zbL ["made", "how", "items", "things"] [none,none,none,some 2] rfl rfl (zaX (zaV k_Plan (by decide) (qv 0))) (fun _ _ _ _ _=>(zbE [0,1,2] (zbD rfl (zao (pgn 0 ndx) (zao (pgn 1 ndx) (zao (pgn 2 ndx) zbh)))))) (fun _ _ _ _ _=>(q_fn c_z24 hr rfl (zaa (qv 0) (zaa (qv 1) (zaa (qv 2) (zaa (qv 3) zac))))))))))))))
theorem zqQ (a:All e):Ca e "shown" 4 ["book"] (SpD e.K ziZ) :=
 mkC a.toAl 36 40 fun F=>fn_d (N:=["book", "rows", "plan"]) (g:=zmg) F zaO fun _ _ _ _ _ _ hr=>by
 have m:=a.m;have c_z23:=(zru a).mono (k:=3) (by omega);have k_Book:=a.k_Book;unfold zmg;exact (zah (zeD ndx rfl (.inl rfl) (zcX zac)) (zah (zb4 PassesOwn.never rfl (zaX (zaV k_Book (by decide) (qv 0))) (zbj (za7 ndx rfl (.inl rfl))) (zag (zkO (pv 1) (zkR c_z23 hr rfl (zaa (qv 2) zac)) (fun h1 h2=>zbT PySem.F.plainAttrs_list PySem.F.slot_list_extend PySem.F.type_list_extend zkZ h1 h2)))) (zag (zqC [1] (zaD (znA (id := "str.join") zaJ (qv 1) (fun h1 h2=>zbT PySem.F.plainAttrs_str PySem.F.slot_str_join PySem.F.type_str_join zg8 h1 h2)))))))
theorem zsB (a:All e){f:Addr}{fd:FuncData}(F:Fun e.K "law" "law" (top 56) f fd):FnOk e.P e.w e.K e.mg e.base CX0 10 f fd ["script"] (SpD e.K zej) :=
 zpB (kk:=1) (hw:=w_law) (hx:=x_law) (N:=["script", "plans", "book", "text", "found", "again"]) (g:=ziJ) F zaO fun _ _ _ _ _ _ hr=>by
 have m:=a.m;have c_z34:=(zsm a).mono (k:=9) (by omega);have c_z33:=(zsi a).mono (k:=9) (by omega);have c_z36:=(zrM a).mono (k:=9) (by omega);have c_z10:=(zsE a).mono (k:=9) (by omega);have c_z22:=(zqQ a).mono (k:=9) (by omega);have k_Book:=a.k_Book;have k_Plan:=a.k_Plan;unfold ziJ;exact (zak (zb0 (m:=some false) (zaQ ndx rfl (.inl rfl) (q_fn c_z33 hr rfl (zaa (qv 0) zac)))) (zak (zb0 (m:=some false) (zaQ ndx rfl (.inl rfl) (QN.qe (zkR c_z34 hr rfl (zaa (qv 1) zac))))) (zak (zb0 (m:=some false) (zaQ ndx rfl (.inl rfl) (q_fn c_z22 hr rfl (zaa (qv 2) zac)))) (zak (zbZ ndx rfl (.inl rfl) (zco c_z10 hr rfl (zan (zae (qv 3)) zaL))) (zak (zep (zdu 8 [4] (QW.qt (ze7 (zbM (zbp (q_fn c_z36 hr rfl (zaa (qv 4) (zaa (qv 1) zac))))) (zdO (zaH (o_ne hr.units) (q_fn c_z22 hr rfl (zaa (qv 4) zac)) (qv 3) (zaB _)))))) (zaE (zcb (zae zeg))) zbC) (zak (zdh (zeB k_Plan (by decide) (ze4 (zeB k_Book (by decide) (zae (qv 4))) (zae zad) (fun _ _=>rfl))) (zae zaJ) (fun h1 h2=>zbT PySem.F.plainAttrs_list PySem.F.slot_list_append PySem.F.type_list_append zbb h1 h2)) (zak (zrt (zeB k_Plan (by decide) (ze4 (zeB k_Book (by decide) (zae (qv 4))) (zae (q_un zdc zad)) (fun _ _=>rfl)))) (zak (zbZ ndx rfl (.inl rfl) (zco c_z10 hr rfl (zan (zae (qv 3)) zaL))) (zaE (zcb (zcH 8 [5] (zik (q_fn c_z36 hr rfl (zaa (qv 5) (zaa (qv 1) zac))) (zik (zge (o_eq hr.units) (q_fn c_z22 hr rfl (zaa (qv 5) zac)) (qv 3) (zaB _)) (zjj (q_fn c_z36 hr rfl (zaa (qv 2) (zaa (qv 1) zac)))))))))))))))))
end
def zhF (K:W.Frag):Sp:=fun vs H Q _=>∃ (a:Addr) (ns:List Int),vs=[.ref a]/\SqL K H a (ns.map V.int)/\ns.length<=63/\∀ H',Q (.bl true) H'
theorem zoY (K:W.Frag)(vs:List V)(H:Hp)(Q:VK)(E:XK)(h:zhF K vs H Q E):SpD K zej vs H Q E:=by
 obtain ⟨a,ns,rfl,hS,hl,q⟩:=h;refine ⟨H,[.scr ns],Same.refl _,IsDs.mk (IsD.scr_iff.mpr ⟨a,rfl,hS⟩) .nil,?_⟩;rw [law_true ns hl];intro v F' H' e i;rw [IsD.bl_iff.mp i];exact q H'
theorem all_mk {l:W.OpenLaw}{w:World}{K:W.Frag}{h:Heap}{mg:Str->Option Value}{fa:Addr}(X:K.In h)(G:h.Ns mainGlobals mg)(hfa:mg "law" = some (.ref fa))
 {t_FIGURES:Tok}
 {p_KEPT_WORDS:Addr} {dd_KEPT_WORDS:Option Addr} {n_KEPT_WORDS:Nat} {sl_KEPT_WORDS:Array (Option Value)} {t0_KEPT_WORDS t1_KEPT_WORDS t2_KEPT_WORDS t3_KEPT_WORDS t4_KEPT_WORDS:Tok}
 {t_LETTERS:Tok}
 (d:Dfs K top tbl) (z:Nn K bl) (dl:zhm K "law" (top 56))
 (z_Book:zjI K "Book")
 (z_Plan:zjI K "Plan")
 (g_FIGURES:W.nsIn K mainGlobals "FIGURES" = some (some (.str "0123456789" t_FIGURES)))
 (g_KEPT_WORDS:W.nsIn K mainGlobals "KEPT_WORDS" = some (some (.ref p_KEPT_WORDS))) (h_KEPT_WORDS:K.lookup p_KEPT_WORDS=some ⟨.type "tuple",dd_KEPT_WORDS,.seq #[.str "plan" t0_KEPT_WORDS,.str "given" t1_KEPT_WORDS,.str "all" t2_KEPT_WORDS,.str "first" t3_KEPT_WORDS,.str "part" t4_KEPT_WORDS] n_KEPT_WORDS,sl_KEPT_WORDS⟩)
 (g_LETTERS:W.nsIn K mainGlobals "LETTERS" = some (some (.str "abcdefghijklmnopqrstuvwxyz" t_LETTERS)))
 (l_Book:zpX K "Book" "Book.__init__" ["plans"] (zds (top 10) 0))
 (l_Draft:zpX K "Draft" "Draft.__init__" ["name", "givens", "rows"] (zds (top 26) 0))
 (l_Plan:zpX K "Plan" "Plan.__init__" ["name", "givens", "rows"] (zds (top 9) 0)) :
 ∃ fd:FuncData,(∀ (s:Shared) (v:Value),BindsTo s fd ⟨[v],[]⟩ [("script",v)])/\∀ base:Heap,K.In base->base.Ns mainGlobals mg->FnOk l.prog w K mg base CX0 10 fa fd ["script"] (zhF K):=by
 obtain ⟨f_law,fd_law,a_law,zej⟩:=dl;cases hfa.symm.trans (W.mg_of X G a_law);obtain ⟨D_Book,fI_Book,fdI_Book,l1_Book,l2_Book,l3_Book,l4_Book,l5_Book⟩:=l_Book;obtain ⟨D_Draft,fI_Draft,fdI_Draft,l1_Draft,l2_Draft,l3_Draft,l4_Draft,l5_Draft⟩:=l_Draft;obtain ⟨D_Plan,fI_Plan,fdI_Plan,l1_Plan,l2_Plan,l3_Plan,l4_Plan,l5_Plan⟩:=l_Plan;exact ⟨fd_law,(by obtain ⟨_,_,_,_,_,_,_,_,_,rfl,_,_⟩:=id zej.ex;exact fun s v=>.of_eq rfl),fun base _ _=>(zsB (e:=⟨l.prog,w,K,mg,base,fun n=>[D_Book,D_Draft,D_Plan].getD n 0,fun n=>[t_FIGURES,t_LETTERS].getD n t_FIGURES⟩) ⟨⟨⟨h,X,G⟩,d,zr6 X G z⟩,z_Book,z_Plan,W.mg_of X G g_FIGURES,⟨_,W.mg_of X G g_KEPT_WORDS,fun H=>.inr ⟨_,_,_,h_KEPT_WORDS,rfl,rfl,by show 5<=sizeLine;decide,.cons ⟨_,rfl⟩ (.cons ⟨_,rfl⟩ (.cons ⟨_,rfl⟩ (.cons ⟨_,rfl⟩ (.cons ⟨_,rfl⟩ .nil))))⟩⟩,W.mg_of X G g_LETTERS,⟨l1_Book,W.mg_of X G l1_Book,l2_Book,l3_Book⟩,⟨_,_,l4_Book,l5_Book⟩,⟨l1_Draft,W.mg_of X G l1_Draft,l2_Draft,l3_Draft⟩,⟨_,_,l4_Draft,l5_Draft⟩,⟨l1_Plan,W.mg_of X G l1_Plan,l2_Plan,l3_Plan⟩,⟨_,_,l4_Plan,l5_Plan⟩⟩ zej).imp (zoY K)⟩
theorem walk {l:W.OpenLaw}{q:Program}{loose:List Str}{XP:(Str->Option Value)->Heap->Prop}{YP:World->Heap->Prop}{d:DefRec}{K:Params->W.Frag}(hn:l.most=some 63)(hdf:d.params.defaults=[])
 (hY:∀ (w:World) (h:Heap),YP w h->(K w.params).In h)
 (F:∀ (w:World) (mg:Str->Option Value) (fa:Addr) (h:Heap),(K w.params).In h->h.Ns mainGlobals mg->mg d.name=some (.ref fa) ->
  ∃ fd:FuncData,(∀ (s:Shared) (u:Value),BindsTo s fd ⟨[u],[]⟩ [("script",u)])/\∀ base:Heap,(K w.params).In base->base.Ns mainGlobals mg->FnOk l.prog w (K w.params) mg base CX0 10 fa fd ["script"] (zhF (K w.params))) :
 W.WalkO q loose XP YP l.row.toRowW d [] (fun f vs=>PySem.call f vs) :=
 L2.walk_of (n:=63) (k:=10) (x := "script") (CX:=fun _=>CX0) (sp:=fun w=>zhF (K w.params)) hn (by decide) hdf ⟨rfl,by decide,by decide⟩ hY F (fun _ _ a ns hl _ hS=>⟨a,ns,rfl,hS,hl,fun _=>rfl⟩) fun _ _ _ _ _ z=>z
end My
open PySem PySem.W PyProof.Rows
def PySem.W.Fast.tw3195662279519622387:=()
def PySem.W.Fast.tw17159702961732707638:=()
def PySem.W.Fast.tw11058055580550207912:=()
def PySem.W.Fast.tw13100464417447890793:=()
def PySem.W.Fast.tw605933500492832539:=()
def PySem.W.Fast.tw10702277210117714530:=()
def PySem.W.Fast.tw14829711765550235076:=()
def PySem.W.Fast.tw4356078407870077739:=()
def PySem.W.Fast.tw1859071516523966768:=()
def PySem.W.Fast.tw4091445258795254028:=()
def PySem.W.Fast.tw12646830975422475033:=()
def PySem.W.Fast.tw10725994607731003370:=()
def PySem.W.Fast.tw17434785146445849611:=()
def PySem.W.Fast.tw7785793278516648708:=()
def PySem.W.Fast.tw7115979253953882358:=()
def PySem.W.Fast.tw561349460230973495:=()
def PySem.W.Fast.tw9758700788691625867:=()
def PySem.W.Fast.tw8670035053524238155:=()
def PySem.W.Fast.tw1736155749580250377:=()
def PySem.W.Fast.tw12600943704723814493:=()
def PySem.W.Fast.tw2276324553711284832:=()
def PySem.W.Fast.tw17579305154590233610:=()
def PySem.W.Fast.tw16568421484221923145:=()
def PySem.W.Fast.tw5732414530355515579:=()
def PySem.W.Fast.tw11714852258992267559:=()
def PySem.W.Fast.tw16943677809446320068:=()
def PySem.W.Fast.tw13634514997758687934:=()
def PySem.W.Fast.tw17052049031454485952:=()
def PySem.W.Fast.tw12116805529113915256:=()
def PySem.W.Fast.tw1930982760975799749:=()
def PySem.W.Fast.tw15890190019429467488:=()
def PySem.W.Fast.tw17101571835562770117:=()
def PySem.W.Fast.tw3901862814801680952:=()
def PySem.W.Fast.tw1098057272822810293:=()
def PySem.W.Fast.tw5143695236376347163:=()
def PySem.W.Fast.tw15380776679133137800:=()
def PySem.W.Fast.tw6317095962566180909:=()
def PySem.W.Fast.tw5089906556942090690:=()
def PySem.W.Fast.tw14459880869959703364:=()
def PySem.W.Fast.tw3062763108702987679:=()
def PySem.W.Fast.tw14800007874436804120:=()
def PySem.W.Fast.tw18125722954576553156:=()
def PySem.W.Fast.tw10029250905886850430:=()
def PySem.W.Fast.tw1725730455355194863:=()
def PySem.W.Fast.tw11396320422746660768:=()
def PySem.W.Fast.tw6264930451168774199:=()
def PySem.W.Fast.tw16352388064750737732:=()
def PySem.W.Fast.tw16684690889034326182:=()
def PySem.W.Fast.tw1743491997296166230:=()
def PySem.W.Fast.tw16404836284046104258:=()
def PySem.W.Fast.tw10868628130246887453:=()
def PySem.W.Fast.tw10477262828985734679:=()
def PySem.W.Fast.tw8409794315565284906:=()
def PySem.W.Fast.tw14487628207106011176:=()
def PySem.W.Fast.tw15950350465905731242:=()
def PySem.W.Fast.tw13286094218061529531:=()
def PySem.W.Fast.tw3107646610164584884:=()
def PySem.W.Fast.tw13199464830126088842:=()
def PySem.W.Fast.tw433199215229308707:=()
def PySem.W.Fast.tw11726110570563885433:=()
def PySem.W.Fast.tw14416307166524407401:=()
def PySem.W.Fast.tw9460792617069524361:=()
def PySem.W.Fast.tw7880350868499314387:=()
def PySem.W.Fast.tw4828368281531822785:=()
def PySem.W.Fast.tw16536618283245213311:=()
def PySem.W.Fast.tw1120629466899661425:=()
def PySem.W.Fast.tw16199373319026992210:=()
def PySem.W.Fast.tw7823101900453735885:=()
def PySem.W.Fast.tw11965895110786380501:=()
def PySem.W.Fast.tw8810834165443604270:=()
def PySem.W.Fast.tw1984043858692447746:=()
def PySem.W.Fast.tw8607723024409210044:=()
def PySem.W.Fast.tw17228990741530019795:=()
def PySem.W.Fast.tw17777542483501565605:=()
def PySem.W.Fast.tw13261234042416929809:=()
def PySem.W.Fast.tw5936677928992872792:=()
def PySem.W.Fast.tw6626426664646003881:=()
def PySem.W.Fast.tw10900852473084323536:=()
def PySem.W.Fast.tw12436731453027419326:=()
def PySem.W.Fast.tw4080755584115616914:=()
def PySem.W.Fast.tw3495394706849271095:=()
def PySem.W.Fast.tw16932589378278013368:=()
def PySem.W.Fast.tw10862697360551858339:=()
def PySem.W.Fast.tw643614806077490878:=()
def PySem.W.Fast.tw9668598745272462128:=()
def PySem.W.Fast.tw1128088301181976811:=()
def PySem.W.Fast.tw5189608041758311613:=()
def PySem.W.Fast.tw6260408898418210172:=()
def PySem.W.Fast.tw12774505993447498608:=()
def PySem.W.Fast.tw11802486570115555486:=()
def PySem.W.Fast.tw15831660486264018872:=()
def PySem.W.Fast.tw781614870854953277:=()
def PySem.W.Fast.tw5597207537049433071:=()
def PySem.W.Fast.tw13869828676537688074:=()
def PySem.W.Fast.tw3724860621850196935:=()
def PySem.W.Fast.tw3789460143627351573:=()
def PySem.W.Fast.tw8028553170801527826:=()
def PySem.W.Fast.tw6453135390250621945:=()
def PySem.W.Fast.tw13733127762224054230:=()
def PySem.W.Fast.tw9824717042102014519:=()
def PySem.W.Fast.tw14489910427179549557:=()
def PySem.W.Fast.tw11625734125616879312:=()
def PySem.W.Fast.tw13652150067408810324:=()
def PySem.W.Fast.tw11185359430571146110:=()
def PySem.W.Fast.tw6212858455659787819:=()
def PySem.W.Fast.tw10428505995029668239:=()
def PySem.W.Fast.tw3626897123866238914:=()
def PySem.W.Fast.tw13534908798908367251:=()
def PySem.W.Fast.tw7698154630357014130:=()
def PySem.W.Fast.tw2313865951628759306:=()
def PySem.W.Fast.tw12535327980376712784:=()
def PySem.W.Fast.tw7386744973915229153:=()
def PySem.W.Fast.tw15015664938653562069:=()
def PySem.W.Fast.tw18262526937254841461:=()
def PySem.W.Fast.tw18176313290911144330:=()
def PySem.W.Fast.tw6324707993762936453:=()
def PySem.W.Fast.tw13582160569417973249:=()
def PySem.W.Fast.tw15792907369654751435:=()
def PySem.W.Fast.tw12227744492895623097:=()
def PySem.W.Fast.tw943936885994243:=()
def PySem.W.Fast.tw11258357173035074552:=()
def PySem.W.Fast.tw12082433644701251309:=()
def PySem.W.Fast.tw3455593683842970071:=()
def PySem.W.Fast.tw4624985570915874557:=()
def PySem.W.Fast.tw15903911547574861681:=()
def PySem.W.Fast.tw4877732704011379483:=()
def PySem.W.Fast.tw1615154039379744784:=()
def PySem.W.Fast.tw13089605074870523641:=()
def PySem.W.Fast.tw5517799388992592652:=()
def PySem.W.Fast.tw393996718335664483:=()
def PySem.W.Fast.tw6141248104882446898:=()
def PySem.W.Fast.tw687598097001034594:=()
def PySem.W.Fast.tw2773773914980156302:=()
def PySem.W.Fast.tw12253107892523345478:=()
def PySem.W.Fast.tw6577552766447449550:=()
def PySem.W.Fast.tw14330609912365543808:=()
def PySem.W.Fast.tw7373694375049029135:=()
def PySem.W.Fast.tw13181544845930225266:=()
def PySem.W.Fast.tw1746444032799243609:=()
def PySem.W.Fast.tw5325745793874822456:=()
def PySem.W.Fast.tw13468142654999263179:=()
def PySem.W.Fast.tw1858805419878141562:=()
def PySem.W.Fast.tw14712811927720626618:=()
def PySem.W.Fast.tw9472584899934179453:=()
def PySem.W.Fast.tw13659418184429029309:=()
def PySem.W.Fast.tw12272295191555270452:=()
def PySem.W.Fast.tw5915930545247669994:=()
def PySem.W.Fast.tw7742123544752583342:=()
def PySem.W.Fast.tw14545050957540903613:=()
def PySem.W.Fast.tw6010305464503439832:=()
def PySem.W.Fast.tw411112820907914575:=()
def PySem.W.Fast.tw109993804131174463:=()
def PySem.W.Fast.tw11405488565534945402:=()
def PySem.W.Fast.tw16034083591858594406:=()
def PySem.W.Fast.tw9051232019434649127:=()
def PySem.W.Fast.tw15325993201987984689:=()
def PySem.W.Fast.tw9391361213956560747:=()
def PySem.W.Fast.tw3105407675974903163:=()
def PySem.W.Fast.tw2186610648086226763:=()
def PySem.W.Fast.tw5871332849072272732:=()
def PySem.W.Fast.tw4417624469942011661:=()
def PySem.W.Fast.tw9718139206248324814:=()
def PySem.W.Fast.tw12515787974269613931:=()
def PySem.W.Fast.tw4305482716146663799:=()
def PySem.W.Fast.tw14109346219800649138:=()
def PySem.W.Fast.tw1512859394878837444:=()
def PySem.W.Fast.tw3566242627589013212:=()
def PySem.W.Fast.tw8988761871150349178:=()
def PySem.W.Fast.tw9261865200432294970:=()
def PySem.W.Fast.tw15824049376380903448:=()
def PySem.W.Fast.tw1202100991263298733:=()
def PySem.W.Fast.tw3770468672435947732:=()
def PySem.W.Fast.tw4745318175543012427:=()
def PySem.W.Fast.tw12042860100206653130:=()
def PySem.W.Fast.tw13859852500844418486:=()
def PySem.W.Fast.tw3540365447871424707:=()
def PySem.W.Fast.tw16763874503491075275:=()
def PySem.W.Fast.tw8579379173545604362:=()
def PySem.W.Fast.tw6415673119522248898:=()
def PySem.W.Fast.tw16321996362963312386:=()
def PySem.W.Fast.tw8123582779528157577:=()
def PySem.W.Fast.tw18284403745979999702:=()
def PySem.W.Fast.tw5866919596038672882:=()
def PySem.W.Fast.tw12784517743032635347:=()
def PySem.W.Fast.tw10919980969813479445:=()
def PySem.W.Fast.tw6491196826764958726:=()
def PySem.W.Fast.tw17668376123903841418:=()
def PySem.W.Fast.tw12191810258220765069:=()
def PySem.W.Fast.tw3195735822718520982:=()
def PySem.W.Fast.tw16153036701312121728:=()
def PySem.W.Fast.tw14700809640672245150:=()
def PySem.W.Fast.tw11206975095170263033:=()
def PySem.W.Fast.tw1536306241375095246:=()
def PySem.W.Fast.tw15335960083568213799:=()
def PySem.W.Fast.tw13705944106898321997:=()
def PySem.W.Fast.tw5093628503381127829:=()
def PySem.W.Fast.tw3906651506640979446:=()
def PySem.W.Fast.tw10582413756163653164:=()
def PySem.W.Fast.tw17069054507292761878:=()
def PySem.W.Fast.tw7865476626536612764:=()
def PySem.W.Fast.tw10017673045967062123:=()
def PySem.W.Fast.tw3456600522768379953:=()
def PySem.W.Fast.tw10498576375378945483:=()
def PySem.W.Fast.tw9067549656819478704:=()
def PySem.W.Fast.tw17442399443192263938:=()
def PySem.W.Fast.tw17388704791035261879:=()
def PySem.W.Fast.tw1325842974723329797:=()
def PySem.W.Fast.tw15754648441038561627:=()
def PySem.W.Fast.tw12538527315340085358:=()
def PySem.W.Fast.tw15261362865216649751:=()
def PySem.W.Fast.tw12627837342941824023:=()
def PySem.W.Fast.tw7849605996182282671:=()
def PySem.W.Fast.tw18426134800526004136:=()
def PySem.W.Fast.tw11892459866234207128:=()
def PySem.W.Fast.tw3735310009291882953:=()
def PySem.W.Fast.tw14244185436948582128:=()
def PySem.W.Fast.tw16214607565059374822:=()
def PySem.W.Fast.tw6069992587354455497:=()
def PySem.W.Fast.tw17453027412286620633:=()
def PySem.W.Fast.tw2645501128093447155:=()
def PySem.W.Fast.tw8042530823485725274:=()
def PySem.W.Fast.tw9364531672948393764:=()
def PySem.W.Fast.tw15606511562522449913:=()
def PySem.W.Fast.tw1924946890175972838:=()
def PySem.W.Fast.tw6144406690249573205:=()
def PySem.W.Fast.tw3199014229036605917:=()
def PySem.W.Fast.tw5071613688496946420:=()
def PySem.W.Fast.tw10881124988130023244:=()
def PySem.W.Fast.tw5929706080611688722:=()
set_option maxRecDepth 100000 in
set_option maxHeartbeats 0 in
theorem PySem.Challenge.cw_allfirst_k59_whole_books_read_back_holds : PySem.Challenge.rw_allfirst_k59_whole_books_read_back.Holds := by
 w_on;o_law;k_head;(case hw=>w_witness2)
 k_fill
 refine My.walk (l:=PySem.Challenge.rw_allfirst_k59_whole_books_read_back) rfl rfl (fun w h Y=>PySem.W.kIn_of Y) ?F
 case F =>
  intro w mg fa h KX G hmg;refine' My.all_mk KX G hmg ?d ?z ?dl ?z_Book ?z_Plan ?g_FIGURES ?g_KEPT_WORDS ?h_KEPT_WORDS ?g_LETTERS ?l_Book ?l_Draft ?l_Plan
  (case d =>
   repeat (apply L2.DL.dfs_cons;focus (refine' ⟨_,_,?a,L2.fun_mk ?l ?c ?k⟩;(case a=>k_is);(case l=>k_is);(case c=>k_is);(case k=>k_is)))
   exact True.intro)
  (case z =>
   repeat (apply L2.DL.nn_cons;focus k_is)
   exact True.intro)
  (case dl=>refine' ⟨_,_,?a,L2.fun_mk ?l ?c ?k⟩;(case a=>k_is);(case l=>k_is);(case c=>k_is);(case k=>k_is))
  (case z_Book=>refine' ⟨_,?ua,⟨?ub,?uc,?ud,?ue⟩⟩;(case ua=>k_is);(case ub=>k_is);(case uc=>k_is);(case ud=>k_is);(case ue=>k_is))
  (case z_Plan=>refine' ⟨_,?ua,⟨?ub,?uc,?ud,?ue⟩⟩;(case ua=>k_is);(case ub=>k_is);(case uc=>k_is);(case ud=>k_is);(case ue=>k_is))
  (case g_FIGURES|g_KEPT_WORDS|h_KEPT_WORDS|g_LETTERS=>k_is)
  (case l_Book=>refine' ⟨_,_,_,?ua,⟨?up,?uh,?uo,?us⟩,List.forall_mem_cons.mpr ⟨?uf0,List.forall_mem_nil _⟩,⟨?um,?ui,?un,?ue⟩,L2.fun_mk ?ul ?uc ?uk⟩;(case ua=>k_is);(case ui=>k_is);(case ul=>k_is);(case uc=>k_is);(case uk=>k_is);(case up=>k_is);(case uh=>k_is);(case uo=>k_is);(case us=>k_is);(case um=>k_is);(case un=>k_is);(case ue=>k_is);(case uf0=>show PySem.W.findIn _ _ _=_;k_is))
  (case l_Draft=>refine' ⟨_,_,_,?ua,⟨?up,?uh,?uo,?us⟩,List.forall_mem_cons.mpr ⟨?uf0,List.forall_mem_cons.mpr ⟨?uf1,List.forall_mem_cons.mpr ⟨?uf2,List.forall_mem_nil _⟩⟩⟩,⟨?um,?ui,?un,?ue⟩,L2.fun_mk ?ul ?uc ?uk⟩;(case ua=>k_is);(case ui=>k_is);(case ul=>k_is);(case uc=>k_is);(case uk=>k_is);(case up=>k_is);(case uh=>k_is);(case uo=>k_is);(case us=>k_is);(case um=>k_is);(case un=>k_is);(case ue=>k_is);(case uf0=>show PySem.W.findIn _ _ _=_;k_is);(case uf1=>show PySem.W.findIn _ _ _=_;k_is);(case uf2=>show PySem.W.findIn _ _ _=_;k_is))
  (case l_Plan=>refine' ⟨_,_,_,?ua,⟨?up,?uh,?uo,?us⟩,List.forall_mem_cons.mpr ⟨?uf0,List.forall_mem_cons.mpr ⟨?uf1,List.forall_mem_cons.mpr ⟨?uf2,List.forall_mem_nil _⟩⟩⟩,⟨?um,?ui,?un,?ue⟩,L2.fun_mk ?ul ?uc ?uk⟩;(case ua=>k_is);(case ui=>k_is);(case ul=>k_is);(case uc=>k_is);(case uk=>k_is);(case up=>k_is);(case uh=>k_is);(case uo=>k_is);(case us=>k_is);(case um=>k_is);(case un=>k_is);(case ue=>k_is);(case uf0=>show PySem.W.findIn _ _ _=_;k_is);(case uf1=>show PySem.W.findIn _ _ _=_;k_is);(case uf2=>show PySem.W.findIn _ _ _=_;k_is))
