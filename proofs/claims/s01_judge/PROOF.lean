import PyProof.Rows.All
import Wide.All
import OpenK.AllK
import Wide.FinOn
import PyProof.EqAt
import PyProof.EqKinds
import PyProof.TupleCall
import KE.BitLaws
import Open.SpecLaws
import KE.OsHead
import KE.OsGo
import PyProof.Rows.FStr
import PyProof.Rows.StrIntSpec
import PyProof.Rows.StrPadWhole
import PyProof.StrCalls
import PyProof.StrOps2
import PySem.Challenge.RW_vellumpages_s01_judge
set_option Elab.async false
set_option linter.all false
section
set_option Elab.async false
set_option linter.all false
set_option maxRecDepth 100000
namespace L2
open PySem PySem.Spec PyProof.Rows
abbrev Key:=Sum Int Str
def keyIs:Key→Value→Bool
 | .inl k,v=>Value.isInt k v
 | .inr x,v=>Value.isStrOf x v
def keyH (w:World):Key→Int
 | .inl k=>hashInt k
 | .inr x=>hashStr w x
theorem keyIs_shape:∀ {k:Key}{v:Value},keyIs k v=true→(∃ i t,k=Sum.inl i∧v=Value.int i t)∨(∃ x t,k=Sum.inr x∧v=Value.str x t)
 | .inl i,v,h=>by
  obtain ⟨t,e⟩:=Value.isInt_shape (k:=i) (v:=v) h
  exact .inl ⟨i,t,rfl,e⟩
 | .inr x,v,h=>by
  obtain ⟨t,e⟩:=Value.isStrOf_shape (x:=x) (v:=v) h
  exact .inr ⟨x,t,rfl,e⟩
theorem key_ll (a b:Int):decide ((Sum.inl a:Key)=Sum.inl b)=(a==b):=by
 by_cases e:a=b
 ·subst e;simp
 ·have h:¬ (Sum.inl a:Key)=Sum.inl b:=fun q=>e (Sum.inl.inj q)
  rw [decide_eq_false h]
  exact (beq_eq_false_iff_ne.mpr e).symm
theorem key_rr (a b:Str):decide ((Sum.inr a:Key)=Sum.inr b)=decide (a=b):=by
 by_cases e:a=b
 ·subst e;simp
 ·have h:¬ (Sum.inr a:Key)=Sum.inr b:=fun q=>e (Sum.inr.inj q)
  rw [decide_eq_false h,decide_eq_false e]
theorem key_lr (a:Int) (b:Str):decide ((Sum.inl a:Key)=Sum.inr b)=false:=decide_eq_false (fun q=>nomatch q)
theorem key_rl (a:Str) (b:Int):decide ((Sum.inr a:Key)=Sum.inl b)=false:=decide_eq_false (fun q=>nomatch q)
def mixKind (prog:Program) (w:World):PySem.KeyKind prog w Key where
 is:=keyIs
 hash:=keyH w
 inj:=fun v a b ha hb=>by
  rcases keyIs_shape ha with ⟨i,t,rfl,rfl⟩ | ⟨x,t,rfl,rfl⟩
  ·rcases keyIs_shape hb with ⟨j,u,rfl,e⟩ | ⟨y,u,rfl,e⟩
   ·injection e with e1 _;rw [e1]
   ·exact nomatch e
  ·rcases keyIs_shape hb with ⟨j,u,rfl,e⟩ | ⟨y,u,rfl,e⟩
   ·exact nomatch e
   ·injection e with e1 _;rw [e1]
 byValue:=fun k v h=>by
  rcases keyIs_shape h with ⟨i,t,rfl,rfl⟩ | ⟨x,t,rfl,rfl⟩ <;> rfl
 pyHash:=fun hv h=>by
  rcases keyIs_shape hv with ⟨i,t,rfl,rfl⟩ | ⟨x,t,rfl,rfl⟩
  ·exact wpAny_pyHash_int h
  ·exact wpAny_pyHash_str h
 eqBool:=fun hu hv h=>by
  rcases keyIs_shape hu with ⟨i,t,rfl,rfl⟩ | ⟨x,t,rfl,rfl⟩
  ·rcases keyIs_shape hv with ⟨j,u,rfl,rfl⟩ | ⟨y,u,rfl,rfl⟩
   ·rw [key_ll] at h;exact wpAny_eqBool_int h
   ·rw [key_lr] at h;exact SeqAt.EqAt.int_str i t y u _ _ _ _ h
  ·rcases keyIs_shape hv with ⟨j,u,rfl,rfl⟩ | ⟨y,u,rfl,rfl⟩
   ·rw [key_rl] at h;exact SeqAt.EqAt.str_int x t j u _ _ _ _ h
   ·rw [key_rr] at h;exact wpAny_eqBool_str h
 «strs»:=fun k x t v h=>by
  rcases keyIs_shape h with ⟨i,u,rfl,e⟩ | ⟨y,u,rfl,e⟩
  ·exact nomatch e
  ·injection e with e1 _
   subst e1
   cases v <;> rfl
end L2
namespace L2
open PySem PySem.Spec PyProof.Rows
inductive V where
 | non | bl (b:Bool) | int (i:Int) | str (x:Str) | byt (b:Array UInt8) | flt (b:UInt64) | ref (a:Addr) | ty (n:String)
 deriving DecidableEq
def RelV:V→Value→Prop
 | .non,u=>u=Value.none
 | .bl b,u=>u=Value.bool b
 | .int i,u=>∃ t,u=Value.int i t
 | .str x,u=>∃ t,u=Value.str x t
 | .byt b,u=>∃ t,u=Value.bytes b t
 | .flt b,u=>∃ t,u=Value.float b t
 | .ref a,u=>u=Value.ref a
 | .ty n,u=>u=Value.type n
abbrev Vals:List V→List Value→Prop:=Paired RelV
theorem Vals.length {xs:List V}{us:List Value} (r:Vals xs us):xs.length=us.length:=Paired.length r
theorem Vals.get:∀ {xs:List V}{us:List Value}{i:Nat}{x:V},Vals xs us→xs[i]?=some x→∃ u,us[i]?=some u∧RelV x u
 | _,_,_,_,.nil,e=>by simp at e
 | _,_,0,_,.cons r _,e=>by simp at e;subst e;exact ⟨_,rfl,r⟩
 | _,_,i+1,x,.cons _ t,e=>by
  obtain ⟨u,h1,h2⟩:=Vals.get (i:=i) (x:=x) t (by simpa using e)
  exact ⟨u,by simpa using h1,h2⟩
theorem Vals.append:∀ {xs ys:List V}{us ws:List Value},Vals xs us→Vals ys ws→Vals (xs++ys) (us++ws)
 | _,_,_,_,.nil,s=>s
 | _,_,_,_,.cons r t,s=>.cons r (Vals.append t s)
theorem Vals.take:∀ {xs:List V}{us:List Value} (n:Nat),Vals xs us→Vals (xs.take n) (us.take n)
 | _,_,0,_=>.nil
 | _,_,_+1,.nil=>.nil
 | _,_,n+1,.cons r t=>.cons r (Vals.take n t)
theorem Vals.drop:∀ {xs:List V}{us:List Value} (n:Nat),Vals xs us→Vals (xs.drop n) (us.drop n)
 | _,_,0,r=>r
 | _,_,_+1,.nil=>.nil
 | _,_,n+1,.cons _ t=>Vals.drop n t
def RelO:Option V→Option Value→Prop
 | some v,some u=>RelV v u
 | none,none=>True
 | _,_=>False
def KV {κ:Type}:List (κ×V)→List (κ×Value)→Prop:=Paired fun (p:κ×V) (q:κ×Value)=>p.1=q.1∧RelV p.2 q.2
def kV:Key→V
 | .inl i=>.int i
 | .inr x=>.str x
inductive HO where
 /-- a list -/
 | lst (xs:List V)
 /-- a tuple (never changes) -/
 | tup (xs:List V)
 /-- a dict whose keys are ints and texts;one whose keys are tuples of ints and texts (the empty one is both) -/
 | dK (kvs:List (Key×V)) | dT (kvs:List (List Key×V))
 /-- a set of ints: its members,its size -/
 | set (S:Int→Bool) (n:Nat)
 /-- an instance of the class at C,its dict at dx,its attributes -/
 | ins (C dx:Addr) (fs:List (Str×V))
 /-- the dict of the instance at x -/
 | own (x:Addr)
 /-- the dict of an exception -/
 | xd (fs:List (Str×V))
 /-- a bound method,f of x -/
 | met (f x:Addr)
 /-- a range object lo,lo+1,.. below hi -/
 | rng (lo hi:Int)
 /-- a thing that is known to the object (the script;a dict while a loop walks it): read,never written while it is so -/
 | frz (o:Obj) (u:HO)
 /-- a code object's table -/
 | tbl (ps:Array Value)
 /-- any other thing,by what is true of its one object (a def of one's own: SetO a S n:=HO.ext fun h=>..) -/
 | ext (φ:Heap→Prop)
abbrev Hp:=Addr→Option HO
def upd (H:Hp) (a:Addr) (o:HO):Hp:=fun b=>if b=a then some o else H b
theorem upd_same {H:Hp}{a:Addr}{o:HO}:upd H a o a=some o:=by unfold upd;rw [if_pos rfl]
theorem upd_ne {H:Hp}{a b:Addr}{o:HO} (h:b≠a):upd H a o b=H b:=by unfold upd;rw [if_neg h]
theorem upd_upd {H:Hp}{a:Addr}{o u:HO}:upd (upd H a o) a u=upd H a u:=by
 funext b;unfold upd;split <;> rfl
theorem ne_of {H:Hp}{a b:Addr}{o u:HO} (h:H a=some o) (h':H b=some u) (d:o≠u):a≠b:=by
 intro e;subst e;rw [h] at h';exact d (Option.some.inj h')
theorem ne_of_none {H:Hp}{a b:Addr}{o:HO} (h:H a=some o) (h':H b=none):a≠b:=by
 intro e;subst e;rw [h] at h';cases h'
section
variable (P:Program) (w:World)
def ObjOk (H:Hp) (h:Heap) (a:Addr):HO→Prop
 | .lst xs=>xs.length≤sizeLine∧∃ (its:List Value) (n:Nat),Vals xs its∧h.get? a=some { cls:=.type "list",data:=.seq its.toArray n }
 | .tup xs=>xs.length≤sizeLine∧∃ its:List Value,Vals xs its∧IsTup h a its.toArray
 | .dK kvs=>kvs.length≤sizeLine∧(a==sysModules)=false∧∃ vs,KV kvs vs∧h.DictOf (mixKind P w) a vs
 | .dT kvs=>kvs.length≤sizeLine∧(a==sysModules)=false∧∃ xs:List (List Key×Addr×Value),
   Paired (fun (p:List Key×V) (q:List Key×Addr×Value)=>p.1=q.1∧H q.2.1=some (.tup (p.1.map kV))∧RelV p.2 q.2.2) kvs xs ∧
   ∃ o es ep,h.get? a=some o∧o.ExactDict∧o.data=.dict es ep∧es.toList=xs.map (entryOfKey (tupleKind (mixKind P w)))∧(xs.map (·.1)).Nodup
 | .set S n=>h.SetOf (intKind P w) a S n
 | .ins C dx fs=>H dx=some (.own a)∧fs.length≤1000∧dx≠a∧h.get? a=some (PySem.W.instObj C dx) ∧
   ∃ mA,h.Ns1 dx mA∧(∀ f,RelO (fs.lookup f) (mA f))∧PySem.Within mA (fs.map (·.1))
 | .own _=>∃ o,h.get? a=some o
 | .xd fs=>∃ mA,h.Ns1 a mA∧∀ f,RelO (fs.lookup f) (mA f)
 | .rng lo hi=>∃ t u v,h.get? a=some { cls:=.type "range",data:=.fields #[.int lo t,.int hi u,.int 1 v] }
 | .frz o u=>h.get? a=some o∧ObjOk H h a u
 | .tbl ps=>h.get? a=some { cls:=.none,data:=.fields ps }
 | .met f x=>h.get? a=some (PySem.W.methodObj (.ref f) (.ref x))
 | .ext φ=>φ h∧(∃ o,h.get? a=some o)∧∀ h1 h2:Heap,φ h1→(∀ o,h1.get? a=some o→h2.get? a=some o)→φ h2
def HOk (H:Hp) (h:Heap):Prop:=∀ a o,H a=some o→ObjOk P w H h a o
end
section
variable {P:Program}{w:World}{H H':Hp}{h h':Heap}{a:Addr}{o:HO}
theorem ObjOk.lt (x:ObjOk P w H h a o):a<h.objs.size:=by
 cases o with
 | lst xs=>obtain ⟨_,_,_,_,e⟩:=x;exact Heap.lt_size e
 | tup xs=>obtain ⟨_,_,_,p⟩:=x;exact p.lt
 | dK kvs=>obtain ⟨_,_,_,_,o,_,_,e,_⟩:=x;exact Heap.lt_size e
 | dT kvs=>obtain ⟨_,_,_,_,o,_,_,e,_⟩:=x;exact Heap.lt_size e
 | set S n=>obtain ⟨o,_,_,_,e,_⟩:=x;exact Heap.lt_size e
 | ins C dx fs=>obtain ⟨_,_,_,e,_⟩:=x;exact Heap.lt_size e
 | own y=>obtain ⟨_,e⟩:=x;exact Heap.lt_size e
 | xd fs=>obtain ⟨_,⟨_,_,_,e,_⟩,_⟩:=x;exact Heap.lt_size e
 | rng lo hi=>obtain ⟨_,_,_,e⟩:=x;exact Heap.lt_size e
 | frz ob u=>obtain ⟨e,_⟩:=x;exact Heap.lt_size e
 | tbl ps=>exact Heap.lt_size (show h.get? a=some _ from x)
 | met f y=>exact Heap.lt_size (show h.get? a=some _ from x)
 | ext φ=>obtain ⟨_,⟨_,e⟩,_⟩:=x;exact Heap.lt_size e
theorem Paired.mapP {α β:Type}{F G:α→β→Prop}:∀ {l₁:List α}{l₂:List β},Paired F l₁ l₂→(∀ a b,F a b→G a b)→Paired G l₁ l₂
 | _,_,.nil,_=>.nil
 | _,_,.cons r t,f=>.cons (f _ _ r) (Paired.mapP t f)
theorem ObjOk.stay (x:ObjOk P w H h a o) (k:∀ b u,(b=a∨H b=some (.own a))→h.get? b=some u→h'.get? b=some u)
  (ho:∀ b,H b=some (.own a)→H' b=some (.own a)) (ht:∀ b xs,H b=some (.tup xs)→H' b=some (.tup xs)):ObjOk P w H' h' a o:=by
 induction o with
 | lst xs=>obtain ⟨z,its,n,r,e⟩:=x;exact ⟨z,its,n,r,k _ _ (.inl rfl) e⟩
 | tup xs=>obtain ⟨z,its,r,ob,e,c⟩:=x;exact ⟨z,its,r,ob,k _ _ (.inl rfl) e,c⟩
 | dK kvs=>obtain ⟨z,y,vs,r,ob,es,ep,e,c⟩:=x;exact ⟨z,y,vs,r,ob,es,ep,k _ _ (.inl rfl) e,c⟩
 | dT kvs =>
  obtain ⟨z,y,xs,r,ob,es,ep,e,c⟩:=x
  exact ⟨z,y,xs,Paired.mapP r fun p q z=>⟨z.1,ht _ _ z.2.1,z.2.2⟩,ob,es,ep,k _ _ (.inl rfl) e,c⟩
 | set S n=>obtain ⟨ob,es,ep,t,e,c⟩:=x;exact ⟨ob,es,ep,t,k _ _ (.inl rfl) e,c⟩
 | ins C dx fs =>
  obtain ⟨d,z,ne,e,mA,⟨od,es,ep,e2,c⟩,r⟩:=x
  exact ⟨ho _ d,z,ne,k _ _ (.inl rfl) e,mA,⟨od,es,ep,k _ _ (.inr d) e2,c⟩,r⟩
 | own y=>obtain ⟨ob,e⟩:=x;exact ⟨ob,k _ _ (.inl rfl) e⟩
 | xd fs=>obtain ⟨mA,⟨od,es,ep,e,c⟩,r⟩:=x;exact ⟨mA,⟨od,es,ep,k _ _ (.inl rfl) e,c⟩,r⟩
 | rng lo hi=>obtain ⟨t,u,v,e⟩:=x;exact ⟨t,u,v,k _ _ (.inl rfl) e⟩
 | frz ob u ih=>obtain ⟨e,q⟩:=x;exact ⟨k _ _ (.inl rfl) e,ih q⟩
 | tbl ps =>
  have e:h.get? a=some { cls:=.none,data:=.fields ps }:=x
  show h'.get? a=some { cls:=.none,data:=.fields ps }
  exact k a _ (.inl rfl) e
 | met f y =>
  have e:h.get? a=some (PySem.W.methodObj (.ref f) (.ref y)):=x
  show h'.get? a=some (PySem.W.methodObj (.ref f) (.ref y))
  exact k a _ (.inl rfl) e
 | ext φ=>obtain ⟨p,⟨o,e⟩,st⟩:=x;exact ⟨st _ _ p fun o q=>k _ _ (.inl rfl) q,⟨o,k _ _ (.inl rfl) e⟩,st⟩
theorem HOk.lt (x:HOk P w H h) (e:H a=some o):a<h.objs.size:=(x a o e).lt
theorem HOk.fresh (x:HOk P w H h) (e:h.objs.size≤a):H a=none:=by
 cases q:H a with
 | none=>rfl
 | some u=>exact absurd (Nat.lt_of_lt_of_le (x.lt q) e) (Nat.lt_irrefl _)
theorem HOk.kept (x:HOk P w H h) (k:∀ b u,h.get? b=some u→h'.get? b=some u):HOk P w H h':=fun a o e =>
 (x a o e).stay (fun b u _ q=>k b u q) (fun _ q=>q) fun _ _ q=>q
theorem HOk.laid (x:HOk P w H h) (k:∀ b u,h.get? b=some u→h'.get? b=some u) (hp:h.objs.size≤a) (new:ObjOk P w (upd H a o) h' a o):HOk P w (upd H a o) h':=fun b u e=>by
 have hn:=x.fresh hp
 by_cases hb:b=a
 ·subst hb;rw [upd_same] at e;cases e;exact new
 ·rw [upd_ne hb] at e
  exact (x b u e).stay (fun c v _ q=>k c v q) (fun c q=>by rw [upd_ne (ne_of_none q hn)];exact q) fun c xs q=>by rw [upd_ne (ne_of_none q hn)];exact q
end
def Rd (H:Hp) (a:Addr) (u:HO):Prop:=H a=some u∨∃ o,H a=some (.frz o u)
theorem Rd.ok {P:Program}{w:World}{H:Hp}{h:Heap}{a:Addr}{u:HO} (r:Rd H a u) (x:HOk P w H h):ObjOk P w H h a u:=by
 rcases r with r | ⟨o,r⟩
 ·exact x a u r
 ·obtain ⟨_,q⟩:=x a _ r
  exact q
def Mut:Option HO→Prop
 | some (.lst _)=>True
 | some (.dK _)=>True
 | some (.dT _)=>True
 | some (.set _ _)=>True
 | some (.ins _ _ _)=>True
 | some (.ext _)=>True
 | _=>False
section
variable {P:Program}{w:World}{H:Hp}{h h':Heap}{x e:Addr}{o':HO}
theorem HOk.write (ok:HOk P w H h) (mu:Mut (H x)) (he:e=x∨H e=some (.own x)) (k:∀ b u,b≠e→h.get? b=some u→h'.get? b=some u) (heo:∃ u,h'.get? e=some u)
  (new:ObjOk P w (upd H x o') h' x o'):HOk P w (upd H x o') h':=fun b u q=>by
 have nown:∀ c y,H c=some (.own y)→c≠x:=fun c y r z=>by subst z;rw [r] at mu;exact mu
 have ntup:∀ c xs,H c=some (.tup xs)→c≠x:=fun c xs r z=>by subst z;rw [r] at mu;exact mu
 by_cases hb:b=x
 ·subst hb;rw [upd_same] at q;cases q;exact new
 ·rw [upd_ne hb] at q
  by_cases hbe:b=e
  ·have q':H b=some (.own x):=by
    rcases he with z | z
    ·exact absurd (hbe.trans z) hb
    ·rw [hbe];exact z
   rw [q] at q';cases q'
   obtain ⟨v,hv⟩:=heo
   exact ⟨v,by rw [hbe];exact hv⟩
  ·refine (ok b u q).stay (fun c v hc r=>k c v ?_ r) (fun c r=>by rw [upd_ne (nown c b r)];exact r) fun c xs r=>by rw [upd_ne (ntup c xs r)];exact r
   rcases hc with rfl | hc
   ·exact hbe
   ·rintro rfl
    rcases he with z | z
    ·exact nown c b hc z
    ·rw [hc] at z;cases z;exact hb rfl
end
structure Un (fs ex:List Addr) (H H':Hp) (h h':Heap):Prop where
 keep:∀ b o,h.get? b=some o→H b=none→b ∉ fs→b ∉ ex→h'.get? b=some o
 slot:∀ b o,h.get? b=some o→H b=none→b∈fs→b ∉ ex→∃ sl,h'.get? b=some { o with slots:=sl }
 free:∀ b o,h.get? b=some o→H b=none→b ∉ ex→H' b=none
 there:∀ b o,h.get? b=some o→b ∉ ex→∃ o',h'.get? b=some o'
 tups:∀ b xs,H b=some (.tup xs)→H' b=some (.tup xs)
 frzs:∀ b o u,H b=some (.frz o u)→H' b=some (.frz o u)
 tbls:∀ b ps,H b=some (.tbl ps)→∃ more,H' b=some (.tbl (ps++more))
section
variable {fs fs' ex ex':List Addr}{H H1 H2:Hp}{h h1 h2 h':Heap}{a x e:Addr}{o:HO}
theorem Un.any (u:Un fs ex H H1 h h1) {b:Addr}{ob:Obj} (q:h.get? b=some ob) (n:H b=none) (hx:b ∉ ex):∃ sl,h1.get? b=some { ob with slots:=sl }:=by
 by_cases hb:b∈fs
 ·exact u.slot b ob q n hb hx
 ·exact ⟨ob.slots,u.keep b ob q n hb hx⟩
theorem Un.kept (k:∀ b u,h.get? b=some u→h'.get? b=some u):Un fs ex H H h h' :=
 ⟨fun b ob q _ _ _=>k b ob q,fun b ob q _ _ _=>⟨ob.slots,k b ob q⟩,fun _ _ _ n _=>n,fun b ob q _=>⟨ob,k b ob q⟩,fun _ _ q=>q,fun _ _ _ q=>q,fun _ ps q=>⟨#[],by rw [q];simp⟩⟩
theorem Un.refl:Un fs ex H H h h:=Un.kept fun _ _ q=>q
theorem Un.laid (k:∀ b u,h.get? b=some u→h'.get? b=some u) (hp:h.objs.size≤a) (hn:H a=none):Un fs ex H (upd H a o) h h' where
 keep:=fun b u q _ _ _=>k b u q
 slot:=fun b u q _ _ _=>⟨u.slots,k b u q⟩
 free:=fun b u q n _=>by rw [upd_ne (Nat.ne_of_lt (Nat.lt_of_lt_of_le (Heap.lt_size q) hp))];exact n
 there:=fun b u q _=>⟨u,k b u q⟩
 tups:=fun b xs q=>by rw [upd_ne (ne_of_none q hn)];exact q
 frzs:=fun b u xs q=>by rw [upd_ne (ne_of_none q hn)];exact q
 tbls:=fun b ps q=>⟨#[],by rw [upd_ne (ne_of_none q hn),q];simp⟩
theorem Un.write (mu:Mut (H x)) (he:e=x∨H e=some (.own x)) (k:∀ b u,b≠e→h.get? b=some u→h'.get? b=some u) (heo:∃ u,h'.get? e=some u):Un fs ex H (upd H x o) h h':=by
 have hx:∀ b,H b=none→b≠x:=fun b n z=>by subst z;rw [n] at mu;exact mu
 have hb:∀ b,H b=none→b≠e:=fun b n z=>by
  subst z
  rcases he with r | r
  ·exact hx b n r
  ·rw [n] at r;cases r
 have hm:∀ b u,H b=some u→¬ Mut (some u)→b≠x:=fun b u q nm z=>by subst z;rw [q] at mu;exact nm mu
 refine ⟨fun b u q n _ _=>k b u (hb b n) q,fun b u q n _ _=>⟨u.slots,k b u (hb b n) q⟩,fun b u q n _=>by rw [upd_ne (hx b n)];exact n,fun b u q _=>?_,
  fun b xs q=>by rw [upd_ne (hm b _ q fun z=>z)];exact q,fun b u xs q=>by rw [upd_ne (hm b _ q fun z=>z)];exact q,fun b ps q=>⟨#[],by rw [upd_ne (hm b _ q fun z=>z),q];simp⟩⟩
 by_cases hbe:b=e
 ·subst hbe;exact heo
 ·exact ⟨u,k b u hbe q⟩
end
def trk (h:Heap) (H:Hp):List Addr:=(List.range h.objs.size).filter fun a=>(H a).isSome
def hidT (h:Heap) (H:Hp):Heap:=PySem.W.hideAll h (trk h H)
theorem hidT_size (h:Heap) (H:Hp):(hidT h H).objs.size=h.objs.size:=PySem.W.hideAll_size _ _
theorem hidT_get {h:Heap}{H:Hp}{b:Addr}{o:Obj} (e:h.get? b=some o) (n:H b=none):(hidT h H).get? b=some o :=
 PySem.W.hideAll_get _ e fun hm=>by
  have q:(H b).isSome=true:=(List.mem_filter.mp hm).2
  rw [n] at q;simp at q
theorem of_hidT {h:Heap}{H:Hp}{b:Addr}{o:Obj} (e:(hidT h H).get? b=some o):h.get? b=some o∧H b=none:=by
 have e':h.get? b=some o:=PySem.W.of_hideAll (trk h H) e
 refine ⟨e',?_⟩
 cases q:H b with
 | none=>rfl
 | some x =>
  have hm:b∈trk h H:=List.mem_filter.mpr ⟨List.mem_range.mpr (Heap.lt_size e'),by simp [q]⟩
  have z:(hidT h H).get? b=none:=PySem.W.hideAll_none (trk h H) hm
  rw [z] at e;cases e
def allNews (g h:Heap) (L:Addr):List (Addr×Obj):=(List.range h.objs.size).filterMap fun a=>if a=L∨(g.get? a).isSome=true then none else (h.get? a).map fun o=>(a,o)
def rest (g h:Heap) (L d:Addr):List (Addr×Obj):=(allNews g h L).filter fun p=>decide (p.1≠d)
end L2
namespace L2
open PySem PySem.Spec PyProof.Rows
structure Mod (K:PySem.W.Frag) (mg:Str→Option Value) (base:Heap):Prop where
 kin:K.In base
 glob:base.Ns mainGlobals mg
 blt:∃ mb,base.Ns builtinsNs mb∧∀ x:Str,x≠"__name__"→mb x=bootBuiltins x
 nolimit:base.NoLimit
structure Cx where
 prog:Program
 w:World
 K:PySem.W.Frag
 mg:Str→Option Value
 base:Heap
 A:Around
 N:List Str
 s_0:Shared
 H_0:Hp
 env:Env
 outer:List Env
 stack:List Env
 ex:List Addr
 fn:Str→Bool
 calm:Bool
 pn:List (Addr×Obj)
 xe:Value→Shared→Prop
def frs (l:List Env):List Addr:=l.filterMap (·.frame)
abbrev Cx.fs (X:Cx):List Addr:=frs X.outer
def Vis (sc:Scope) (x:Str):Prop:=sc.names.lookup x=some .local∨sc.names.lookup x=some .cell∨sc.names.lookup x=some .free
def Loc (sc:Scope) (x:Str):Prop:=sc.names.lookup x=some .local∨sc.names.lookup x=some .cell
def Look (env:Env) (h:Heap) (m:Str→Option Value) (x:Str) (u:Value):Prop :=
 (env.kindOf x=some .local∧m x=some u)∨((env.kindOf x=some .cell∨env.kindOf x=some .free)∧∃ c,env.cells.lookup x=some c∧h.IsCell c (some u))
structure Cx.Ok (X:Cx):Prop where
 mod:Mod X.K X.mg X.base
 kind:X.env.scope.kind=.function
 glob:X.env.globals=mainGlobals
 blt:X.env.builtins=builtinsNs
 above:X.s_0.heap.objs.size≤X.env.locals
 inj:∀ x y c,X.env.cells.lookup x=some c→X.env.cells.lookup y=some c→x=y
 has:∀ x,(X.env.kindOf x=some .cell∨X.env.kindOf x=some .free)→∃ c,X.env.cells.lookup x=some c
 cab:∀ x c,X.fn x=true→X.env.cells.lookup x=some c→X.s_0.heap.objs.size≤c
 hd:X.calm=true→X.A.handled=none
 frames:X.A.frames=some X.stack
 stk:X.stack=X.outer∨(X.stack=X.env::X.outer∧X.env.frame=some X.env.locals)
 exf:∀ b∈X.ex,b≠X.env.locals∧∀ x c,X.env.cells.lookup x=some c→c≠b
 bs:∀ b o,X.base.get? b=some o→X.s_0.heap.get? b=some o∧X.H_0 b=none
 bsz:X.base.objs.size≤X.s_0.heap.objs.size
 noex:∀ b o,X.base.get? b=some o→b ∉ X.ex
 exfs:∀ b∈X.ex,b ∉ X.fs
 funs:X.s_0.heap.FunFrames X.base X.outer
 frf:∀ b∈X.fs,X.H_0 b=none
structure Inv (X:Cx) (pins:List (Addr×Obj)) (σ:List (Option V)) (H:Hp) (s:Shared):Prop where
 ok:X.Ok
 os:s.os=X.s_0.os
 bare:AllBare s.gens
 base:Un X.fs X.ex X.H_0 H X.s_0.heap s.heap
 loc:∃ m,s.heap.Ns X.env.locals m∧∀ (i:Nat) (x:Str) (v:V),X.N[i]?=some x→σ[i]?=some (some v)→Vis X.env.scope x→∃ u,RelV v u∧Look X.env s.heap m x u
 cell:∀ x c,X.env.cells.lookup x=some c→∃ v,s.heap.IsCell c v
 free:H X.env.locals=none
 freeC:∀ x c,X.env.cells.lookup x=some c→H c=none
 pin:∀ p∈X.pn++pins,s.heap.get? p.1=some p.2∧H p.1=none∧p.1≠X.env.locals∧p.1 ∉ X.fs∧∀ v,p.2.data≠.cell v
 hok:HOk X.prog X.w H s.heap
 len:σ.length=X.N.length
section
variable {X:Cx}{pins:List (Addr×Obj)}{σ:List (Option V)}{H H':Hp}{s:Shared}{h':Heap}
theorem Cx.Ok.nofr (ok:X.Ok) {b:Addr}{o:Obj} (e:X.base.get? b=some o):b ∉ X.fs:=fun hb=>by
 have:=(ok.funs.mem hb).1
 rw [e] at this;cases this
theorem Inv.bs (I:Inv X pins σ H s):∀ b o,X.base.get? b=some o→s.heap.get? b=some o∧H b=none:=fun b o e =>
 ⟨I.base.keep b o (I.ok.bs b o e).1 (I.ok.bs b o e).2 (I.ok.nofr e) (I.ok.noex b o e),I.base.free b o (I.ok.bs b o e).1 (I.ok.bs b o e).2 (I.ok.noex b o e)⟩
theorem Inv.bk (I:Inv X pins σ H s):∀ b o,X.base.get? b=some o→s.heap.get? b=some o:=fun b o e=>(I.bs b o e).1
theorem Inv.mod (I:Inv X pins σ H s):Mod X.K X.mg X.base:=I.ok.mod
theorem Inv.kIn (I:Inv X pins σ H s):X.K.In s.heap:=I.ok.mod.kin.keeps I.bk
theorem Inv.fr (I:Inv X pins σ H s):∃ m,Fr X.base X.env.locals s.heap m :=
 let ⟨m,hn,_⟩:=I.loc
 ⟨m,hn,I.bk,Nat.le_trans I.ok.bsz I.ok.above⟩
theorem Inv.lt (I:Inv X pins σ H s):X.env.locals<s.heap.objs.size:=let ⟨_,hn,_⟩:=I.loc;hn.lt
theorem Inv.sz (I:Inv X pins σ H s):X.s_0.heap.objs.size≤s.heap.objs.size:=Nat.le_trans I.ok.above (Nat.le_of_lt I.lt)
theorem Inv.nofs (I:Inv X pins σ H s) {a:Addr} (h:s.heap.objs.size≤a):a ∉ X.fs:=fun hb=>by
 obtain ⟨_,o,ho,_⟩:=I.ok.funs.mem hb
 exact absurd (Nat.lt_of_lt_of_le (Heap.lt_size ho) (Nat.le_trans I.sz h)) (Nat.lt_irrefl _)
theorem Inv.cne (I:Inv X pins σ H s):∀ x c,X.env.cells.lookup x=some c→c≠X.env.locals:=fun x c e z=>by
 obtain ⟨v,o,ho,hd⟩:=I.cell x c e
 obtain ⟨m,⟨o',es,ep,ho',hd',_⟩,_⟩:=I.loc
 rw [z,ho'] at ho;cases ho;rw [hd'] at hd;cases hd
theorem Inv.funs (I:Inv X pins σ H s):s.heap.FunFrames X.base X.outer:=by
 have all:∀ (l:List Env),(∀ b∈frs l,b∈X.fs)→X.s_0.heap.FunFrames X.base l→s.heap.FunFrames X.base l:=by
  intro l
  induction l with
  | nil=>intro _ _;trivial
  | cons env r ih =>
   intro hs hl
   obtain ⟨hk,⟨L,o,hf,hn,ho,hd⟩,hr⟩:=hl
   have hL:L∈X.fs:=hs L (by unfold frs;rw [List.filterMap_cons,hf];exact List.mem_cons_self)
   obtain ⟨sl,e⟩:=I.base.slot L o ho (I.ok.frf L hL) hL fun z=>I.ok.exfs L z hL
   exact ⟨hk,⟨L,_,hf,hn,e,hd⟩,ih (fun b hb=>hs b (by unfold frs;rw [List.filterMap_cons,hf];exact List.mem_cons_of_mem _ hb)) hr⟩
 exact all X.outer (fun _ hb=>hb) I.ok.funs
theorem Inv.stack (I:Inv X pins σ H s):s.heap.FunFrames X.base X.stack:=by
 rcases I.ok.stk with e | ⟨e,hf⟩
 ·rw [e];exact I.funs
 ·rw [e]
  obtain ⟨m,hn,_⟩:=I.loc
  refine .cons (by rw [I.ok.kind];decide) hf hn ?_ I.funs
  exact Heap.get?_none_of_le (Nat.le_trans I.ok.bsz I.ok.above)
theorem Inv.stkSub (I:Inv X pins σ H s):∀ b∈frs X.stack,b∈X.env.locals::X.fs:=fun b hb=>by
 rcases I.ok.stk with e | ⟨e,hf⟩
 ·rw [e] at hb;exact List.mem_cons_of_mem _ hb
 ·rw [e] at hb
  unfold frs at hb
  rw [List.filterMap_cons,hf] at hb
  exact hb
theorem Inv.stkFree (I:Inv X pins σ H s):∀ b∈frs X.stack,H b=none:=fun b hb=>by
 rcases List.mem_cons.mp (I.stkSub b hb) with e | hb
 ·rw [e];exact I.free
 ·obtain ⟨_,o,ho,_⟩:=I.ok.funs.mem hb
  exact I.base.free b o ho (I.ok.frf b hb) fun z=>I.ok.exfs b z hb
theorem Inv.step {g':Array GenState}{t':Nat}{d':Drawn}{ch:List Addr} (I:Inv X pins σ H s)
  (hch:∀ b∈ch,(b∈X.ex∨X.s_0.heap.objs.size≤b)∧b≠X.env.locals∧(∀ x c,X.env.cells.lookup x=some c→c≠b)∧∀ p∈X.pn++pins,p.1≠b)
  (keep:∀ b o,b≠X.env.locals→b ∉ X.fs→b ∉ ch→s.heap.get? b=some o→H b=none→h'.get? b=some o)
  (slot:∀ b o,b≠X.env.locals→b∈X.fs→b ∉ ch→s.heap.get? b=some o→H b=none→∃ sl,h'.get? b=some { o with slots:=sl }) (free:∀ b o,b ∉ ch→s.heap.get? b=some o→H b=none→H' b=none)
  (there:∀ b o,b ∉ ch→s.heap.get? b=some o→∃ o',h'.get? b=some o')
  (tups:∀ b xs,H b=some (.tup xs)→H' b=some (.tup xs)) (frzs:∀ b o u,H b=some (.frz o u)→H' b=some (.frz o u)) (tbls:∀ b ps,H b=some (.tbl ps)→∃ more,H' b=some (.tbl (ps++more)))
  (ns:∀ m,s.heap.Ns X.env.locals m→h'.Ns X.env.locals m) (hok:HOk X.prog X.w H' h') (hg:AllBare g') :
  Inv X pins σ H' { s with heap:=h',gens:=g',drawn:=d',toks:=t' }:=by
 have neL:∀ b o,X.s_0.heap.get? b=some o→b≠X.env.locals:=fun b o e=>Nat.ne_of_lt (Nat.lt_of_lt_of_le (Heap.lt_size e) I.ok.above)
 have neC:∀ b o,X.s_0.heap.get? b=some o→b ∉ X.ex→b ∉ ch:=fun b o e hx hb=>by
  rcases (hch b hb).1 with z | z
  ·exact hx z
  ·exact absurd (Nat.lt_of_lt_of_le (Heap.lt_size e) z) (Nat.lt_irrefl _)
 have cellK:∀ x c,X.env.cells.lookup x=some c→∀ v,s.heap.IsCell c v→h'.IsCell c v:=fun x c e v ⟨o,ho,hd⟩=>by
  have nch:c ∉ ch:=fun z=>(hch c z).2.2.1 x c e rfl
  by_cases hc:c∈X.fs
  ·obtain ⟨sl,q⟩:=slot c o (I.cne x c e) hc nch ho (I.freeC x c e)
   exact ⟨_,q,hd⟩
  ·exact ⟨o,keep c o (I.cne x c e) hc nch ho (I.freeC x c e),hd⟩
 refine ⟨I.ok,I.os,hg,⟨fun b o e n hb hx=>?_,fun b o e n hb hx=>?_,fun b o e n hx=>?_,fun b o e hx=>?_,fun b xs e=>tups b xs (I.base.tups b xs e),fun b o xs e=>frzs b o xs (I.base.frzs b o xs e),fun b ps e=>?_⟩,?_,fun x c e=>?_,?_,fun x c e=>?_,fun p hp=>?_,hok,I.len⟩
 ·exact keep b o (neL b o e) hb (neC b o e hx) (I.base.keep b o e n hb hx) (I.base.free b o e n hx)
 ·obtain ⟨sl,e1⟩:=I.base.slot b o e n hb hx
  obtain ⟨sl',e2⟩:=slot b _ (neL b o e) hb (neC b o e hx) e1 (I.base.free b o e n hx)
  exact ⟨sl',e2⟩
 ·obtain ⟨o',e1⟩:=I.base.there b o e hx
  exact free b o' (neC b o e hx) e1 (I.base.free b o e n hx)
 ·obtain ⟨o',e1⟩:=I.base.there b o e hx
  exact there b o' (neC b o e hx) e1
 ·obtain ⟨m1,e1⟩:=I.base.tbls b ps e
  obtain ⟨m2,e2⟩:=tbls b _ e1
  exact ⟨m1++m2,by rw [e2,Array.append_assoc]⟩
 ·obtain ⟨m,hn,hl⟩:=I.loc
  refine ⟨m,ns m hn,fun i x v e1 e2 e3=>?_⟩
  obtain ⟨u,r,l⟩:=hl i x v e1 e2 e3
  refine ⟨u,r,?_⟩
  rcases l with l | ⟨k,c,e,z⟩
  ·exact .inl l
  ·exact .inr ⟨k,c,e,cellK x c e _ z⟩
 ·obtain ⟨v,z⟩:=I.cell x c e
  exact ⟨v,cellK x c e v z⟩
 ·obtain ⟨m,⟨o,_,_,ho,_⟩,_⟩:=I.loc
  exact free _ o (fun z=>(hch _ z).2.1 rfl) ho I.free
 ·obtain ⟨v,o,ho,hd⟩:=I.cell x c e
  exact free c o (fun z=>(hch c z).2.2.1 x c e rfl) ho (I.freeC x c e)
 ·obtain ⟨e,n,ne,nf,d⟩:=I.pin p hp
  have nch:p.1 ∉ ch:=fun z=>(hch p.1 z).2.2.2 p hp rfl
  exact ⟨keep p.1 p.2 ne nf nch e n,free p.1 p.2 nch e n,ne,nf,d⟩
theorem Inv.un {t':Nat} (I:Inv X pins σ H s) (u:Un X.fs [] H H' s.heap h') (hok:HOk X.prog X.w H' h'):Inv X pins σ H' { s with heap:=h',toks:=t' }:=by
 obtain ⟨m,⟨o,es,ep,ho,r⟩,_⟩:=id I.loc
 obtain ⟨sl,hL⟩:=u.any ho I.free (by simp)
 exact I.step (g':=s.gens) (d':=s.drawn) (ch:=[]) (fun _ z=>nomatch z) (fun b o _ hb _ e n=>u.keep b o e n hb (by simp)) (fun b o _ hb _ e n=>u.slot b o e n hb (by simp)) (fun b o _ e n=>u.free b o e n (by simp)) (fun b o _ e=>u.there b o e (by simp)) u.tups u.frzs u.tbls (fun m' hm=>by
  obtain ⟨o',es',ep',ho',r'⟩:=hm
  rw [ho] at ho';cases ho'
  exact ⟨_,es',ep',hL,r'⟩) hok I.bare
theorem Inv.call {g':Array GenState}{t':Nat}{d':Drawn}{ch:List Addr} (I:Inv X pins σ H s) (u:Un (frs X.stack) ch H H' s.heap h') (hok:HOk X.prog X.w H' h') (hg:AllBare g')
  (hch:∀ b∈ch,(b∈X.ex∨X.s_0.heap.objs.size≤b)∧b≠X.env.locals∧(∀ x c,X.env.cells.lookup x=some c→c≠b)∧∀ p∈X.pn++pins,p.1≠b) :
  Inv X pins σ H' { s with heap:=h',gens:=g',drawn:=d',toks:=t' }:=by
 obtain ⟨m,⟨o,es,ep,ho,r⟩,_⟩:=id I.loc
 obtain ⟨sl,hL⟩:=u.any ho I.free fun z=>(hch _ z).2.1 rfl
 exact I.step (ch:=ch) hch (fun b o hL hb hc e n=>u.keep b o e n (fun z=>(List.mem_cons.mp (I.stkSub b z)).elim hL hb) hc) (fun b o _ _ hc e n=>u.any e n hc) (fun b o hc e n=>u.free b o e n hc) (fun b o hc e=>u.there b o e hc) u.tups u.frzs u.tbls (fun m' hm=>by
  obtain ⟨o',es',ep',ho',r'⟩:=hm
  rw [ho] at ho';cases ho'
  exact ⟨_,es',ep',hL,r'⟩) hok hg
theorem Inv.turned {t':Nat}{it:Addr} (I:Inv X pins σ H s) (k:∀ b o,b≠it→s.heap.get? b=some o→h'.get? b=some o) (hn:H it=none) (hL:it≠X.env.locals)
  (h1:it∈X.ex∨X.s_0.heap.objs.size≤it) (h2:∀ x c,X.env.cells.lookup x=some c→c≠it) (h3:∀ p∈X.pn++pins,p.1≠it):Inv X pins σ H { s with heap:=h',toks:=t' }:=by
 have nit:∀ b u,H b=some u→b≠it:=fun b u e z=>by rw [z,hn] at e;cases e
 refine I.step (g':=s.gens) (d':=s.drawn) (ch:=[it]) (fun b hb=>?_) (fun b o _ _ hc e _=>k b o (fun z=>hc (by simp [z])) e) (fun b o _ _ hc e _=>⟨o.slots,k b o (fun z=>hc (by simp [z])) e⟩) (fun _ _ _ _ n=>n)
  (fun b o hc e=>⟨o,k b o (fun z=>hc (by simp [z])) e⟩) (fun _ _ e=>e) (fun _ _ _ e=>e) (fun b ps e=>⟨#[],by rw [e];simp⟩) (fun m hm=>?_) (fun b u e=>?_) I.bare
 ·have e:b=it:=by simpa using hb
  subst e
  exact ⟨h1,hL,h2,h3⟩
 ·obtain ⟨o,es,ep,ho,r⟩:=hm
  exact ⟨o,es,ep,k _ o (Ne.symm hL) ho,r⟩
 ·refine (I.hok b u e).stay (fun c v hc q=>k c v ?_ q) (fun _ q=>q) fun _ _ q=>q
  rcases hc with z | z
  ·rw [z];exact nit b u e
  ·exact nit c _ z
theorem Inv.tok (I:Inv X pins σ H s) (t:Nat):Inv X pins σ H { s with toks:=t }:=I.un (h':=s.heap) (t':=t) Un.refl I.hok
theorem Inv.kept {t':Nat} (I:Inv X pins σ H s) (k:∀ b u,s.heap.get? b=some u→h'.get? b=some u):Inv X pins σ H { s with heap:=h',toks:=t' }:=I.un (Un.kept k) (I.hok.kept k)
theorem Inv.laid {a:Addr}{o:HO}{t':Nat} (I:Inv X pins σ H s) (k:∀ b u,s.heap.get? b=some u→h'.get? b=some u) (hp:s.heap.objs.size≤a) (new:ObjOk X.prog X.w (upd H a o) h' a o) :
  Inv X pins σ (upd H a o) { s with heap:=h',toks:=t' }:=I.un (Un.laid k hp (I.hok.fresh hp)) (I.hok.laid k hp new)
theorem Inv.write {x e:Addr}{o:HO}{t':Nat} (I:Inv X pins σ H s) (mu:Mut (H x)) (he:e=x∨H e=some (.own x)) (k:∀ b u,b≠e→s.heap.get? b=some u→h'.get? b=some u) (heo:∃ u,h'.get? e=some u)
  (new:ObjOk X.prog X.w (upd H x o) h' x o):Inv X pins σ (upd H x o) { s with heap:=h',toks:=t' }:=I.un (Un.write mu he k heo) (I.hok.write mu he k heo new)
theorem Inv.weak {σ':List (Option V)} (I:Inv X pins σ H s) (hl:σ'.length=σ.length) (w:∀ (i:Nat) v,σ'[i]?=some (some v)→σ[i]?=some (some v)):Inv X pins σ' H s :=
 ⟨I.ok,I.os,I.bare,I.base,let ⟨m,hn,hl'⟩:=I.loc;⟨m,hn,fun i x v e1 e2 e3=>hl' i x v e1 (w i v e2) e3⟩,I.cell,I.free,I.freeC,I.pin,I.hok,hl.trans I.len⟩
theorem Inv.pins_of {pins':List (Addr×Obj)} (I:Inv X pins σ H s) (h:∀ p∈pins',s.heap.get? p.1=some p.2∧H p.1=none∧p.1≠X.env.locals∧p.1 ∉ X.fs∧∀ v,p.2.data≠.cell v):Inv X pins' σ H s :=
 ⟨I.ok,I.os,I.bare,I.base,I.loc,I.cell,I.free,I.freeC,fun p hp=>(List.mem_append.mp hp).elim (fun z=>I.pin p (List.mem_append_left _ z)) (h p),I.hok,I.len⟩
theorem nodup_ix {N:List Str} (hN:N.Nodup) {i j:Nat}{x:Str} (a:N[i]?=some x) (b:N[j]?=some x):i=j:=by
 obtain ⟨h1,e1⟩:=List.getElem?_eq_some_iff.mp a
 obtain ⟨h2,e2⟩:=List.getElem?_eq_some_iff.mp b
 exact (List.getElem_inj hN).mp (e1.trans e2.symm)
theorem store_ok2 {M:Model}{A:Around}{E:Value→Shared→Prop}{i:Nat}{x:Str}{v:V}{u:Value}{Q:Unit→Shared→Prop} (I:Inv X pins σ H s) (hN:X.N.Nodup) (hi:X.N[i]?=some x) (hx:Loc X.env.scope x) (r:RelV v u)
  (h:∀ s',Inv X pins (σ.set i (some v)) H s'→(∃ a,Heap.SameBut a s.heap s'.heap∧(a=X.env.locals∨X.env.cells.lookup x=some a))→Q () s') (hf:X.fn x=true∨X.env.scope.names.lookup x=some .local:=by first | exact .inl rfl | exact .inr rfl | assumption):wpAny M A (storeName X.env x u) Q E s:=by
 obtain ⟨m,hn,hl⟩:=id I.loc
 have hcls:(X.env.scope.kind==.class || (X.env.scope.kind==.module && X.env.locals != X.env.globals))=false:=by rw [I.ok.kind];rfl
 have hiσ:i<σ.length:=by rw [I.len];exact (List.getElem?_eq_some_iff.mp hi).1
 have cne:=I.cne
 have tracked:∀ {a:Addr}{h':Heap},(∃ o,s.heap.get? a=some o∧H a=none)→Heap.SameBut a s.heap h'→HOk X.prog X.w H h':=fun {a h'} ha hs b ob e=>by
  obtain ⟨_,_,hfree⟩:=ha
  refine (I.hok b ob e).stay (fun c w' hc q=>(hs.2 c ?_).trans q) (fun _ q=>q) fun _ _ q=>q
  rintro rfl
  rcases hc with rfl | hc
  ·rw [hfree] at e;cases e
  ·rw [hfree] at hc;cases hc
 rcases hx with hk | hk
 ·refine wpAny_storeName_local hk hn (fun h' hn' hs=>?_) hcls
  obtain ⟨oL,_,_,hoL,_⟩:=id hn
  refine h _ ⟨I.ok,I.os,I.bare,⟨fun b o e n hb hx=>?_,fun b o e n hb hx=>?_,I.base.free,fun b o e hx=>?_,I.base.tups,I.base.frzs,I.base.tbls⟩,⟨_,hn',fun j y v' e1 e2 e3=>?_⟩,fun y c e=>?_,I.free,I.freeC,fun p hp=>?_,tracked ⟨oL,hoL,I.free⟩ hs,by simpa using I.len⟩ ⟨_,hs,.inl rfl⟩
  ·exact (hs.2 b (Nat.ne_of_lt (Nat.lt_of_lt_of_le (Heap.lt_size e) I.ok.above))).trans (I.base.keep b o e n hb hx)
  ·obtain ⟨sl,e1⟩:=I.base.slot b o e n hb hx
   exact ⟨sl,(hs.2 b (Nat.ne_of_lt (Nat.lt_of_lt_of_le (Heap.lt_size e) I.ok.above))).trans e1⟩
  ·obtain ⟨o',e1⟩:=I.base.there b o e hx
   exact ⟨o',(hs.2 b (Nat.ne_of_lt (Nat.lt_of_lt_of_le (Heap.lt_size e) I.ok.above))).trans e1⟩
  ·by_cases hj:j=i
   ·subst hj
    rw [hi] at e1;cases e1
    rw [List.getElem?_set_self hiσ] at e2
    cases e2
    exact ⟨u,r,.inl ⟨hk,by simp⟩⟩
   ·rw [List.getElem?_set_ne (Ne.symm hj)] at e2
    obtain ⟨u',r',q⟩:=hl j y v' e1 e2 e3
    refine ⟨u',r',?_⟩
    rcases q with ⟨k,e⟩ | ⟨k,c,e,z⟩
    ·refine .inl ⟨k,?_⟩
     have:y≠x:=fun e=>hj (nodup_ix hN e1 (e ▸ hi))
     simp [this,e]
    ·exact .inr ⟨k,c,e,z.sameBut hs (cne y c e)⟩
  ·obtain ⟨w',z⟩:=I.cell y c e
   exact ⟨w',z.sameBut hs (cne y c e)⟩
  ·obtain ⟨e,n,ne,nf,d⟩:=I.pin p hp
   exact ⟨(hs.2 p.1 ne).trans e,n,ne,nf,d⟩
 ·have hfn:X.fn x=true:=by
   rcases hf with z | z
   ·exact z
   ·rw [z] at hk;cases hk
  obtain ⟨c,hc⟩:=I.ok.has x (.inl hk)
  obtain ⟨w',z⟩:=I.cell x c hc
  refine wpAny_storeName_cell I.ok.kind hk hc z (fun h' hc' hs=>?_)
  obtain ⟨oc,hoc,hocd⟩:=id z
  refine h { s with heap:=h' } ⟨I.ok,I.os,I.bare,⟨fun b o e n hb hx=>?_,fun b o e n hb hx=>?_,I.base.free,fun b o e hx=>?_,I.base.tups,I.base.frzs,I.base.tbls⟩,⟨m,hn.sameBut hs (Ne.symm (cne x c hc)),fun j y v' e1 e2 e3=>?_⟩,fun y c' e=>?_,I.free,I.freeC,fun p hp=>?_,tracked ⟨oc,hoc,I.freeC x c hc⟩ hs,by simpa using I.len⟩ ⟨c,hs,.inr hc⟩
  ·exact (hs.2 b (Nat.ne_of_lt (Nat.lt_of_lt_of_le (Heap.lt_size e) (I.ok.cab x c hfn hc)))).trans (I.base.keep b o e n hb hx)
  ·obtain ⟨sl,e1⟩:=I.base.slot b o e n hb hx
   exact ⟨sl,(hs.2 b (Nat.ne_of_lt (Nat.lt_of_lt_of_le (Heap.lt_size e) (I.ok.cab x c hfn hc)))).trans e1⟩
  ·obtain ⟨o',e1⟩:=I.base.there b o e hx
   exact ⟨o',(hs.2 b (Nat.ne_of_lt (Nat.lt_of_lt_of_le (Heap.lt_size e) (I.ok.cab x c hfn hc)))).trans e1⟩
  ·by_cases hj:j=i
   ·subst hj
    rw [hi] at e1;cases e1
    rw [List.getElem?_set_self hiσ] at e2
    cases e2
    exact ⟨u,r,.inr ⟨.inl hk,c,hc,hc'⟩⟩
   ·rw [List.getElem?_set_ne (Ne.symm hj)] at e2
    obtain ⟨u',r',q⟩:=hl j y v' e1 e2 e3
    refine ⟨u',r',?_⟩
    rcases q with q | ⟨k,c',e,z'⟩
    ·exact .inl q
    ·refine .inr ⟨k,c',e,z'.sameBut hs ?_⟩
     rintro rfl
     exact hj (nodup_ix hN e1 (I.ok.inj _ _ _ e hc ▸ hi))
  ·by_cases hcc:c'=c
   ·subst hcc;exact ⟨_,hc'⟩
   ·obtain ⟨w2,z2⟩:=I.cell y c' e
    exact ⟨w2,z2.sameBut hs hcc⟩
  ·obtain ⟨e,n,ne,nf,d⟩:=I.pin p hp
   refine ⟨(hs.2 p.1 ?_).trans e,n,ne,nf,d⟩
   intro q
   rw [q,hoc] at e
   have q':oc=p.2:=Option.some.inj e
   exact d w' (by rw [← q'];exact hocd)
theorem store_ok {M:Model}{A:Around}{E:Value→Shared→Prop}{i:Nat}{x:Str}{v:V}{u:Value}{Q:Unit→Shared→Prop} (I:Inv X pins σ H s) (hN:X.N.Nodup) (hi:X.N[i]?=some x) (hx:Loc X.env.scope x) (r:RelV v u)
  (h:∀ s',Inv X pins (σ.set i (some v)) H s'→Q () s') (hf:X.fn x=true∨X.env.scope.names.lookup x=some .local:=by first | exact .inl rfl | exact .inr rfl | assumption):wpAny M A (storeName X.env x u) Q E s :=
 store_ok2 I hN hi hx r (fun s' I' _=>h s' I') hf
theorem Inv.call' {s':Shared}{ch:List Addr} (I:Inv X pins σ H s) (ho:s'.os=s.os) (u:Un (frs X.stack) ch H H' s.heap s'.heap) (hok:HOk X.prog X.w H' s'.heap) (hg:AllBare s'.gens)
  (hch:∀ b∈ch,(b∈X.ex∨X.s_0.heap.objs.size≤b)∧b≠X.env.locals∧(∀ x c,X.env.cells.lookup x=some c→c≠b)∧∀ p∈X.pn++pins,p.1≠b):Inv X pins σ H' s':=by
 obtain ⟨h',g',d',t',o'⟩:=s'
 have e:o'=s.os:=ho
 subst e
 exact I.call (g':=g') (t':=t') (d':=d') u hok hg hch
end
abbrev XK:=Value→Option Addr→Hp→Prop
abbrev St:=List (Option V)
abbrev VK:=V→Hp→Prop
abbrev TE:=St→Hp→VK→Prop
abbrev TT:=St→Hp→(Bool→Hp→Prop)→Prop
abbrev TA:=St→Hp→(List V→Hp→Prop)→Prop
structure Ends where
 nx:St→Hp→Prop
 rt:VK
 bk:St→Hp→Prop:=fun _ _=>False
 ct:St→Hp→Prop:=fun _ _=>False
abbrev TS:=Ends→St→Hp→Prop
def EP (X:Cx) (pins:List (Addr×Obj)) (σ:St) (Q:VK) (u:Value) (s':Shared):Prop:=∃ v H',Inv X pins σ H' s'∧RelV v u∧Q v H'
def TP (X:Cx) (pins:List (Addr×Obj)) (σ:St) (Q:Bool→Hp→Prop) (b:Bool) (s':Shared):Prop:=∃ H',Inv X pins σ H' s'∧Q b H'
def AP (X:Cx) (pins:List (Addr×Obj)) (σ:St) (Q:List V→Hp→Prop) (us:List Value) (s':Shared):Prop:=∃ vs H',Inv X pins σ H' s'∧Vals vs us∧Q vs H'
def SP (X:Cx) (pins:List (Addr×Obj)) (D:Ends) (f:Flow) (s':Shared):Prop :=
 match f with
 | .next=>∃ σ' H',Inv X pins σ' H' s'∧D.nx σ' H'
 | .brk=>∃ σ' H',Inv X pins σ' H' s'∧D.bk σ' H'
 | .cont=>∃ σ' H',Inv X pins σ' H' s'∧D.ct σ' H'
 | .ret u=>∃ v σ' H',Inv X pins σ' H' s'∧RelV v u∧D.rt v H'
def PE (X:Cx) (e:Expr) (t:TE):Prop :=
 ∀ (pins:List (Addr×Obj)) (s:Shared) (σ:St) (H:Hp) (Q:VK),Inv X pins σ H s→t σ H Q→wpAny (model X.prog X.w) X.A (eval e X.env) (EP X pins σ Q) X.xe s
def PT (X:Cx) (e:Expr) (t:TT):Prop :=
 ∀ (pins:List (Addr×Obj)) (s:Shared) (σ:St) (H:Hp) (Q:Bool→Hp→Prop),Inv X pins σ H s→t σ H Q→wpAny (model X.prog X.w) X.A (isTrue e X.env (eval e X.env)) (TP X pins σ Q) X.xe s
def PW (X:Cx) (e:Expr) (t:TT):Prop :=
 ∀ (whole:Sem Value) (pins:List (Addr×Obj)) (s:Shared) (σ:St) (H:Hp) (Q:Bool→Hp→Prop),Inv X pins σ H s→t σ H Q→wpAny (model X.prog X.w) X.A (isTrue e X.env whole) (TP X pins σ Q) X.xe s
theorem PW.pt {X:Cx}{e:Expr}{t:TT} (h:PW X e t):PT X e t:=h _
def PA (X:Cx) (es:List Expr) (t:TA):Prop :=
 ∀ (pos:Pos) (pins:List (Addr×Obj)) (s:Shared) (σ:St) (H:Hp) (Q:List V→Hp→Prop),Inv X pins σ H s→t σ H Q→wpAny (model X.prog X.w) X.A (spliced (backTo pos (starEach es X.env))) (AP X pins σ Q) X.xe s
def PS (X:Cx) (st:Stmt) (t:TS):Prop :=
 ∀ (pins:List (Addr×Obj)) (s:Shared) (σ:St) (H:Hp) (D:Ends),Inv X pins σ H s→t D σ H→wpAny (model X.prog X.w) X.A (exec st X.env) (SP X pins D) X.xe s
def PSs (X:Cx) (st:List Stmt) (t:TS):Prop :=
 ∀ (pins:List (Addr×Obj)) (s:Shared) (σ:St) (H:Hp) (D:Ends),Inv X pins σ H s→t D σ H→wpAny (model X.prog X.w) X.A (execs st X.env) (SP X pins D) X.xe s
theorem thn {α:Type}{t:Sem α}{Q Q':α→Shared→Prop}{M:Model}{A:Around}{E:Value→Shared→Prop}{s:Shared} (h:wpAny M A t Q E s) (hQ:∀ a s,Q a s→Q' a s):wpAny M A t Q' E s:=wpAny_mono h hQ fun _ _ x=>x
end L2
namespace L2
open PySem PySem.Spec PyProof.Rows
section
variable {X:Cx}
theorem bin {a b:Expr}{ta tb:TE} (ha:PE X a ta) (hb:PE X b tb) {pins:List (Addr×Obj)}{s:Shared}{σ:St}{H:Hp}{R:V→V→Hp→Prop} (I:Inv X pins σ H s) (h:ta σ H fun x H1=>tb σ H1 fun y H2=>R x y H2)
  {α:Type}{Q:α→Shared→Prop}{f:Value→Value→Sem α}
  (hf:∀ v u s2 x y H2,Inv X pins σ H2 s2→RelV x v→RelV y u→R x y H2→wpAny (model X.prog X.w) X.A (f v u) Q X.xe s2) :
  wpAny (model X.prog X.w) X.A (eval a X.env) (fun v s₁=>wpAny (model X.prog X.w) X.A (eval b X.env) (fun u s₂=>wpAny (model X.prog X.w) X.A (f v u) Q X.xe s₂) X.xe s₁) X.xe s:=by
 refine thn (ha pins s σ H _ I h) fun v s1 ⟨x,H1,I1,r1,q1⟩=>?_
 refine thn (hb pins s1 σ H1 _ I1 q1) fun u s2 ⟨y,H2,I2,r2,q2⟩=>?_
 exact hf v u s2 x y H2 I2 r1 r2 q2
def tVar (i:Nat):TE:=fun σ H Q=>∃ v,σ[i]?=some (some v)∧Q v H
def tC (v:V):TE:=fun _ H Q=>Q v H
theorem pe_var {i:Nat}{x:Str}{pos:Pos} (hN:X.N[i]?=some x) (hv:Vis X.env.scope x) (hd:(x==("__debug__":Str))=false:=by decide) (hcd:(x==("__classdict__":Str))=false:=by decide):PE X (.Name x pos) (tVar i):=by
 intro pins s σ H Q I h
 obtain ⟨v,e,h⟩:=h
 obtain ⟨m,hn,hl⟩:=I.loc
 obtain ⟨u,r,l⟩:=hl i x v hN e hv
 have fin:EP X pins σ Q u s:=⟨v,H,I,r,h⟩
 rcases l with ⟨hk,hm⟩ | ⟨hk,c,hc,hcell⟩
 ·exact wpAny_Name (wpAny_loadName_local I.ok.kind hk hn hm fin) hd
 ·rcases hk with hk | hk
  ·exact wpAny_Name (wpAny_loadName_cell I.ok.kind hk hc hcell fin) hd
  ·exact wpAny_Name (wpAny_loadName_free I.ok.kind hk hc hcell fin hcd) hd
theorem pe_int {i j pos}:PE X (.Constant (.int i) j pos) (tC (.int i)):=fun _ _ _ H _ I h=>wpAny_Constant_int ⟨.int i,H,I.tok _,⟨_,rfl⟩,h⟩
theorem pe_bl {b j pos}:PE X (.Constant (.bool b) j pos) (tC (.bl b)):=fun _ _ _ H _ I h=>Constant_bool ⟨.bl b,H,I,rfl,h⟩
theorem pe_str {x j pos}:PE X (.Constant (.str x) j pos) (tC (.str x)):=fun _ _ _ H _ I h=>Calls.Constant_str ⟨.str x,H,I.tok _,⟨_,rfl⟩,h⟩
def Gl (X:Cx) (x:Str):Prop:=X.env.kindOf x=some .globalImplicit
theorem ld_glob {E:Value→Shared→Prop}{pins:List (Addr×Obj)}{s:Shared}{σ:St}{H:Hp}{x:Str}{u:Value}{pos:Pos}{Q:Value→Shared→Prop} (I:Inv X pins σ H s) (hg:Gl X x) (hm:X.mg x=some u) (h:Q u s)
  (hd:(x==("__debug__":Str))=false:=by decide):wpAny (model X.prog X.w) X.A (eval (.Name x pos) X.env) Q E s :=
 Calls.Name_function_global I.ok.kind hg (Calls.loadGlobal_global (by rw [I.ok.glob];exact I.mod.glob.keeps I.bk) hm h) hd
theorem ld_blt {E:Value→Shared→Prop}{pins:List (Addr×Obj)}{s:Shared}{σ:St}{H:Hp}{x:Str}{u:Value}{pos:Pos}{Q:Value→Shared→Prop} (I:Inv X pins σ H s) (hg:Gl X x) (hm:X.mg x=none) (hv:bootBuiltins x=some u) (h:Q u s)
  (hn:x≠"__name__":=by decide) (hd:(x==("__debug__":Str))=false:=by decide):wpAny (model X.prog X.w) X.A (eval (.Name x pos) X.env) Q E s:=by
 obtain ⟨mb,h1,h2⟩:=I.mod.blt
 exact Calls.Name_function_global I.ok.kind hg (Calls.loadGlobal_builtin (by rw [I.ok.glob];exact I.mod.glob.keeps I.bk) hm (by rw [I.ok.blt];exact h1.keeps I.bk) ((h2 x hn).trans hv) h) hd
theorem pe_glob {x:Str}{v:V}{u:Value}{pos:Pos} (hg:Gl X x) (hm:X.mg x=some u) (r:RelV v u) (hd:(x==("__debug__":Str))=false:=by decide):PE X (.Name x pos) (tC v) :=
 fun _ _ _ H _ I h=>ld_glob I hg hm ⟨v,H,I,r,h⟩ hd
variable {a b:Expr}{ta tb:TE}{pos:Pos}
def PC (X:Cx) (op:CmpOp) (a b:Expr) (t:TE):Prop :=
 ∀ (pins:List (Addr×Obj)) (s:Shared) (σ:St) (H:Hp) (Q:VK),Inv X pins σ H s→t σ H Q →
  wpAny (model X.prog X.w) X.A (eval a X.env) (fun v s₁=>wpAny (model X.prog X.w) X.A (eval b X.env) (fun u s₂=>wpAny (model X.prog X.w) X.A (compareOp op v u) (EP X pins σ Q) X.xe s₂) X.xe s₁) X.xe s
theorem nobehind (b:Expr) {op:CmpOp} (h:op≠.In) (h2:op≠.NotIn):behindInMarks op b=false:=by
 have e1:(op==CmpOp.In)=false:=by cases op <;> first | rfl | exact absurd rfl h
 have e2:(op==CmpOp.NotIn)=false:=by cases op <;> first | rfl | exact absurd rfl h2
 cases b <;> simp [behindInMarks,e1,e2]
def tB (t:TE):TT:=fun σ H Q=>t σ H fun x H1=>∃ c,x=.bl c∧Q c H1
theorem pt_cmp {op:CmpOp}{t:TE} (h:PC X op a b t) (h1:behindInMarks op b=false:=by first | exact nobehind _ (by decide) (by decide) | rfl):PT X (.Compare a [op] [b] pos) (tB t):=by
 intro pins s σ H Q I hw
 refine wpAny_isTrue_Compare1 (thn (h pins s σ H _ I hw) fun v s1 h1=>thn h1 fun u s2 h2=>thn h2 fun c s3 ⟨x,H1,I1,r1,q1⟩=>?_) h1
 obtain ⟨d,rfl,q⟩:=q1
 cases r1
 exact wpAny_truthy_bool ⟨H1,I1,q⟩
theorem pt_val {e:Expr}{t:TE} (h:PE X e t) (he:∀ whole,isTrue e X.env whole=(do let v ← whole;standAt e.pos;holding [v] (truthy v)):=by intro _;rfl):PT X e (tB t):=by
 intro pins s σ H Q I hw
 refine isTrue_plain (thn (h pins s σ H _ I hw) fun v s1 ⟨x,H1,I1,r1,q1⟩=>?_) (he _)
 obtain ⟨d,rfl,q⟩:=q1
 cases r1
 exact wpAny_truthy_bool ⟨H1,I1,q⟩
variable {tA tB':TT}{rest:List Expr}
def tAnd (t u:TT):TT:=fun σ H Q=>t σ H fun c H1=>if c=true then u σ H1 Q else Q false H1
def tOr (t u:TT):TT:=fun σ H Q=>t σ H fun c H1=>if c=true then Q true H1 else u σ H1 Q
def tNot (t:TT):TT:=fun σ H Q=>t σ H fun c H1=>Q (!c) H1
theorem pw_and1 (ha:PT X a tA):PW X (.BoolOp .And [a] pos) tA:=by
 intro wh pins s σ H Q I h
 refine isTrue_and (thn (ha pins s σ H Q I h) fun c s1 e=>?_)
 cases c with
 | true=>exact isTrue_and_nil e
 | false=>exact e
theorem pw_or1 (ha:PT X a tA):PW X (.BoolOp .Or [a] pos) tA:=by
 intro wh pins s σ H Q I h
 refine isTrue_or (thn (ha pins s σ H Q I h) fun c s1 e=>?_)
 cases c with
 | false=>exact isTrue_or_nil e
 | true=>exact e
theorem pw_and (ha:PT X a tA) (hb:PW X (.BoolOp .And (b::rest) pos) tB'):PW X (.BoolOp .And (a::b::rest) pos) (tAnd tA tB'):=by
 intro wh pins s σ H Q I h
 refine isTrue_and (thn (ha pins s σ H _ I h) fun c s1 ⟨H1,I1,q1⟩=>?_)
 cases c with
 | true=>exact hb wh pins s1 σ H1 Q I1 q1
 | false=>exact ⟨H1,I1,q1⟩
theorem pw_or (ha:PT X a tA) (hb:PW X (.BoolOp .Or (b::rest) pos) tB'):PW X (.BoolOp .Or (a::b::rest) pos) (tOr tA tB'):=by
 intro wh pins s σ H Q I h
 refine isTrue_or (thn (ha pins s σ H _ I h) fun c s1 ⟨H1,I1,q1⟩=>?_)
 cases c with
 | true=>exact ⟨H1,I1,q1⟩
 | false=>exact hb wh pins s1 σ H1 Q I1 q1
theorem pt_not (ha:PT X a tA):PT X (.UnaryOp .Not a pos) (tNot tA):=by
 intro pins s σ H Q I h
 exact isTrue_not (ha pins s σ H (fun c H1=>Q (!c) H1) I h)
def tAndV (ta tb:TE):TE:=fun σ H Q=>ta σ H fun x H1=>∃ c,x=.bl c∧if c=true then tb σ H1 Q else Q (.bl false) H1
def tOrV (ta tb:TE):TE:=fun σ H Q=>ta σ H fun x H1=>∃ c,x=.bl c∧if c=true then Q (.bl true) H1 else tb σ H1 Q
def tNotV (ta:TE):TE:=fun σ H Q=>ta σ H fun x H1=>∃ c,x=.bl c∧Q (.bl (!c)) H1
theorem pe_one {op}{t:TE} (h:PE X a t):PE X (.BoolOp op [a] pos) t:=fun pins s σ H Q I hw=>BoolOp_one (h pins s σ H Q I hw)
theorem pe_and (ha:PE X a ta) (hb:PE X (.BoolOp .And (b::rest) pos) tb):PE X (.BoolOp .And (a::b::rest) pos) (tAndV ta tb):=by
 intro pins s σ H Q I h
 refine BoolOp_and (thn (ha pins s σ H _ I h) fun v s1 ⟨x,H1,I1,r1,q1⟩=>?_)
 obtain ⟨c,rfl,q1⟩:=q1
 cases r1
 refine wpAny_truthy_bool ?_
 cases c with
 | true=>exact hb pins s1 σ H1 Q I1 q1
 | false=>exact ⟨.bl false,H1,I1,rfl,q1⟩
theorem pe_or (ha:PE X a ta) (hb:PE X (.BoolOp .Or (b::rest) pos) tb):PE X (.BoolOp .Or (a::b::rest) pos) (tOrV ta tb):=by
 intro pins s σ H Q I h
 refine BoolOp_or (thn (ha pins s σ H _ I h) fun v s1 ⟨x,H1,I1,r1,q1⟩=>?_)
 obtain ⟨c,rfl,q1⟩:=q1
 cases r1
 refine wpAny_truthy_bool ?_
 cases c with
 | false=>exact hb pins s1 σ H1 Q I1 q1
 | true=>exact ⟨.bl true,H1,I1,rfl,q1⟩
def tIf (t:TT) (ta tb:TE):TE:=fun σ H Q=>t σ H fun c H1=>if c=true then ta σ H1 Q else tb σ H1 Q
end
end L2
namespace L2
open PySem PySem.Spec PyProof.Rows
def SqL (K:PySem.W.Frag) (H:Hp) (a:Addr) (xs:List V):Prop :=
 Rd H a (.lst xs) ∨
  ∃ (o:Obj) (its:Array Value) (n:Nat),K.lookup a=some o∧o.cls=.type "list"∧o.dict=none∧o.data=.seq its n∧its.size≤sizeLine∧Vals xs its.toList
def SqT (K:PySem.W.Frag) (H:Hp) (a:Addr) (xs:List V):Prop :=
 Rd H a (.tup xs) ∨
  ∃ (o:Obj) (its:Array Value) (n:Nat),K.lookup a=some o∧o.cls=.type "tuple"∧o.data=.seq its n∧its.size≤sizeLine∧Vals xs its.toList
def absV:Value→Option V
 | .none=>some .non
 | .bool b=>some (.bl b)
 | .int i _=>some (.int i)
 | .str x _=>some (.str x)
 | .bytes b _=>some (.byt b)
 | .float b _=>some (.flt b)
 | .ref a=>some (.ref a)
 | .type n=>some (.ty n)
 | _=>none
theorem RelV.abs {x:V}{u:Value} (r:RelV x u):absV u=some x:=by
 cases x with
 | non=>cases r;rfl
 | bl _=>cases r;rfl
 | int _=>obtain ⟨t,rfl⟩:=r;rfl
 | str _=>obtain ⟨t,rfl⟩:=r;rfl
 | byt _=>obtain ⟨t,rfl⟩:=r;rfl
 | flt _=>obtain ⟨t,rfl⟩:=r;rfl
 | ref _=>cases r;rfl
 | ty _=>cases r;rfl
theorem RelV.inj {x y:V}{u:Value} (r:RelV x u) (q:RelV y u):x=y:=Option.some.inj (r.abs.symm.trans q.abs)
theorem Vals.inj:∀ {xs ys:List V}{us:List Value},Vals xs us→Vals ys us→xs=ys
 | _,_,_,.nil,.nil=>rfl
 | _,_,_,.cons r t,.cons r' t'=>by rw [r.inj r',Vals.inj t t']
section
variable {X:Cx}{pins:List (Addr×Obj)}{σ:St}{H:Hp}{s:Shared}{a:Addr}{xs ys:List V}
theorem SqL.of {K:PySem.W.Frag} (h:H a=some (.lst xs)):SqL K H a xs:=.inl (.inl h)
theorem Inv.list (I:Inv X pins σ H s) (h:SqL X.K H a xs):∃ its:List Value,Vals xs its∧PlainL s.heap a its.toArray∧xs.length≤sizeLine:=by
 rcases h with h | ⟨o,its,n,hk,hc,hd,hs,hz,r⟩
 ·obtain ⟨z,its,n,r,e⟩:=h.ok I.hok
  exact ⟨its,r,⟨_,n,e,rfl,rfl,rfl⟩,z⟩
 ·refine ⟨its.toList,r,⟨o,n,I.kIn a o hk,hc,hd,by simpa using hs⟩,?_⟩
  have e:=r.length
  simp only [Array.length_toList] at e
  omega
theorem Inv.tuple (I:Inv X pins σ H s) (h:SqT X.K H a xs):∃ its:List Value,Vals xs its∧IsTup s.heap a its.toArray∧xs.length≤sizeLine:=by
 rcases h with h | ⟨o,its,n,hk,hc,hs,hz,r⟩
 ·obtain ⟨z,its,r,p⟩:=h.ok I.hok
  exact ⟨its,r,p,z⟩
 ·refine ⟨its.toList,r,⟨o,I.kIn a o hk,hc,n,by simpa using hs⟩,?_⟩
  have e:=r.length
  simp only [Array.length_toList] at e
  omega
theorem Inv.list_inj (I:Inv X pins σ H s) (h:SqL X.K H a xs) (h':SqL X.K H a ys):xs=ys:=by
 obtain ⟨its,r,⟨o,n,e,_,_,d⟩,_⟩:=I.list h
 obtain ⟨its',r',⟨o',n',e',_,_,d'⟩,_⟩:=I.list h'
 rw [e] at e';cases e'
 rw [d] at d'
 injection d' with d1 _
 have:its=its':=by simpa using congrArg Array.toList d1
 subst this
 exact r.inj r'
theorem Inv.tuple_inj (I:Inv X pins σ H s) (h:SqT X.K H a xs) (h':SqT X.K H a ys):xs=ys:=by
 obtain ⟨its,r,⟨o,e,_,n,d⟩,_⟩:=I.tuple h
 obtain ⟨its',r',⟨o',e',_,n',d'⟩,_⟩:=I.tuple h'
 rw [e] at e';cases e'
 rw [d] at d'
 injection d' with d1 _
 have:its=its':=by simpa using congrArg Array.toList d1
 subst this
 exact r.inj r'
end
abbrev Cx.wish (X:Cx) (E:Value→Shared→Prop):Cx:={ X with xe:=E }
abbrev Cx.nox (X:Cx):Cx:=X.wish fun _ _=>False
theorem Cx.Ok.wish {X:Cx} (ok:X.Ok) (E:Value→Shared→Prop):(X.wish E).Ok :=
 ⟨ok.mod,ok.kind,ok.glob,ok.blt,ok.above,ok.inj,ok.has,ok.cab,ok.hd,ok.frames,ok.stk,ok.exf,ok.bs,ok.bsz,ok.noex,ok.exfs,ok.funs,ok.frf⟩
theorem Cx.Ok.unwish {X:Cx}{E:Value→Shared→Prop} (ok:(X.wish E).Ok):X.Ok :=
 ⟨ok.mod,ok.kind,ok.glob,ok.blt,ok.above,ok.inj,ok.has,ok.cab,ok.hd,ok.frames,ok.stk,ok.exf,ok.bs,ok.bsz,ok.noex,ok.exfs,ok.funs,ok.frf⟩
section
variable {X:Cx}{pins:List (Addr×Obj)}{σ:St}{H:Hp}{s:Shared}{E:Value→Shared→Prop}
theorem Inv.wish (I:Inv X pins σ H s) (E:Value→Shared→Prop):Inv (X.wish E) pins σ H s:=⟨I.ok.wish E,I.os,I.bare,I.base,I.loc,I.cell,I.free,I.freeC,I.pin,I.hok,I.len⟩
theorem Inv.unwish (I:Inv (X.wish E) pins σ H s):Inv X pins σ H s:=⟨I.ok.unwish,I.os,I.bare,I.base,I.loc,I.cell,I.free,I.freeC,I.pin,I.hok,I.len⟩
theorem SP.unwish {D:Ends}{f:Flow}{s':Shared} (h:SP (X.wish E) pins D f s'):SP X pins D f s':=by
 cases f with
 | next=>obtain ⟨σ',H',I,q⟩:=h;exact ⟨σ',H',I.unwish,q⟩
 | brk=>obtain ⟨σ',H',I,q⟩:=h;exact ⟨σ',H',I.unwish,q⟩
 | cont=>obtain ⟨σ',H',I,q⟩:=h;exact ⟨σ',H',I.unwish,q⟩
 | ret u=>obtain ⟨v,σ',H',I,r,q⟩:=h;exact ⟨v,σ',H',I.unwish,r,q⟩
theorem PSs.nox {st:List Stmt}{t:TS} (h:PSs X.nox st t):PSs X st t:=fun pins s σ H D I hw =>
 wpAny_mono (h pins s σ H D (I.wish _) hw) (fun _ _ q=>q.unwish) fun _ _ z=>False.elim z
end
section
variable {X:Cx}{st:Stmt}{rest:List Stmt}{t u:TS}{e:Expr}{te:TE}{pos:Pos}
def tNext:TS:=fun D σ H=>D.nx σ H
def tSeq (t u:TS):TS:=fun D σ H=>t { D with nx:=u D } σ H
theorem pss_nil:PSs X [] tNext:=fun _ _ σ H _ I h=>wpAny_execs_nil ⟨σ,H,I,h⟩
theorem pss_cons (h1:PS X st t) (h2:PSs X rest u):PSs X (st::rest) (tSeq t u):=by
 intro pins s σ H D I h
 refine wpAny_execs_cons (thn (h1 pins s σ H { D with nx:=u D } I h) fun f s1 q=>?_)
 cases f with
 | next =>
  obtain ⟨σ',H',I',q⟩:=q
  exact h2 pins s1 σ' H' D I' q
 | ret v=>exact q
 | brk=>exact q
 | cont=>exact q
theorem pss_one (h1:PS X st t):PSs X [st] t:=by
 intro pins s σ H D I h
 refine wpAny_execs_cons (thn (h1 pins s σ H D I h) fun f s1 q=>?_)
 cases f with
 | next=>exact wpAny_execs_nil q
 | ret v=>exact q
 | brk=>exact q
 | cont=>exact q
theorem Inv.quiet {pins:List (Addr×Obj)}{σ:St}{H:Hp}{s:Shared} (I:Inv X pins σ H s):interactive X.env=false:=by simp [interactive,I.ok.kind]
def tDrop (te:TE):TS:=fun D σ H=>te σ H fun _ H1=>D.nx σ H1
theorem ps_expr (he:PE X e te) (hs:swapsWith e none pos.line X.env=pure false:=by rfl):PS X (.Expr e pos) (tDrop te):=by
 intro pins s σ H D I h
 exact wpAny_Expr_any (thn (he pins s σ H _ I h) fun v s1 ⟨x,H1,I1,r1,q1⟩=>⟨σ,H1,I1,q1⟩) I.quiet hs
def tRet (te:TE):TS:=fun D σ H=>te σ H D.rt
theorem ps_ret (he:PE X e te):PS X (.Return (some e) pos) (tRet te):=by
 intro pins s σ H D I h
 exact wpAny_Return_some (thn (he pins s σ H _ I h) fun v s1 ⟨x,H1,I1,r1,q1⟩=>⟨x,σ,H1,I1,r1,q1⟩)
def tRetN:TS:=fun D _ H=>D.rt .non H
def tIfS (c:TT) (t u:TS):TS:=fun D σ H=>c σ H fun b H1=>if b=true then t D σ H1 else u D σ H1
theorem ps_if {c:Expr}{a b:List Stmt}{tc:TT} (hc:PT X c tc) (ha:PSs X a t) (hb:PSs X b u):PS X (.If c a b pos) (tIfS tc t u):=by
 intro pins s σ H D I h
 refine wpAny_If (thn (hc pins s σ H _ I h) fun d s1 ⟨H1,I1,q1⟩=>?_)
 cases d with
 | true=>exact ha pins s1 σ H1 D I1 q1
 | false=>exact hb pins s1 σ H1 D I1 q1
end
abbrev TG:=V→St→Hp→(St→Hp→Prop)→Prop
abbrev TGs:=List V→St→Hp→(St→Hp→Prop)→Prop
def PG (X:Cx) (target:Expr) (t:TG):Prop :=
 ∀ (pins:List (Addr×Obj)) (s:Shared) (σ:St) (H:Hp) (v:V) (u:Value) (Q:St→Hp→Prop),Inv X pins σ H s→RelV v u→t v σ H Q →
  wpAny (model X.prog X.w) X.A (assign target X.env u) (fun _ s'=>∃ σ' H',Inv X pins σ' H' s'∧Q σ' H') X.xe s
def PGs (X:Cx) (ts:List Expr) (t:TGs):Prop :=
 ∀ (pins:List (Addr×Obj)) (s:Shared) (σ:St) (H:Hp) (vs:List V) (us:List Value) (Q:St→Hp→Prop),Inv X pins σ H s→Vals vs us→t vs σ H Q →
  wpAny (model X.prog X.w) X.A (assignInOrder ((assignEach ts X.env).map (·.2)) us) (fun _ s'=>∃ σ' H',Inv X pins σ' H' s'∧Q σ' H') X.xe s
abbrev TIp:=V→V→Hp→VK→Prop
def PIp (X:Cx) (op:Operator) (t:TIp):Prop :=
 ∀ (pins:List (Addr×Obj)) (s:Shared) (σ:St) (H:Hp) (x y:V) (v u:Value) (Q:VK),Inv X pins σ H s→RelV x v→RelV y u→t x y H Q →
  wpAny (model X.prog X.w) X.A (inplaceOp op v u) (EP X pins σ Q) X.xe s
section
variable {X:Cx}{pos:Pos}
def gName (i:Nat):TG:=fun v σ H Q=>Q (σ.set i (some v)) H
theorem pg_name {i:Nat}{x:Str} (hN:X.N.Nodup) (hi:X.N[i]?=some x) (hx:Loc X.env.scope x) (hf:X.fn x=true∨X.env.scope.names.lookup x=some .local:=by first | exact .inl rfl | exact .inr rfl | assumption):PG X (.Name x pos) (gName i):=by
 intro pins s σ H v u Q I r h
 exact wpAny_assign_Name (store_ok I hN hi hx r (fun s' I'=>⟨_,H,I',h⟩) hf)
def gNil:TGs:=fun vs σ H Q=>vs=[]∧Q σ H
def gCons (t:TG) (u:TGs):TGs:=fun vs σ H Q=>∃ v r,vs=v::r∧t v σ H fun σ' H'=>u r σ' H' Q
theorem pgs_nil:PGs X [] gNil:=by
 intro pins s σ H vs us Q I r h
 obtain ⟨e,h⟩:=h
 subst e
 cases r
 exact assignInOrder_nil ⟨σ,H,I,h⟩
theorem pgs_cons {e:Expr}{es:List Expr}{t:TG}{u:TGs} (h1:PG X e t) (h2:PGs X es u)
  (hs:(assignEach (e::es) X.env).map (·.2)=assign e X.env::(assignEach es X.env).map (·.2):=by rfl):PGs X (e::es) (gCons t u):=by
 intro pins s σ H vs us Q I r h
 obtain ⟨v,vr,e1,h⟩:=h
 subst e1
 cases r with
 | cons r rr =>
  rw [hs]
  refine assignInOrder_cons (thn (h1 pins s σ H _ _ _ I r h) fun _ s1 ⟨σ1,H1,I1,q1⟩=>?_)
  exact h2 pins s1 σ1 H1 _ _ Q I1 rr q1
def gTup (K:PySem.W.Frag) (n:Nat) (t:TGs):TG:=fun v σ H Q=>∃ a xs,v=.ref a∧SqT K H a xs∧xs.length=n∧t xs σ H Q
theorem pg_tup {es:List Expr}{k:Nat}{t:TGs}{n:Nat} (hc:X.calm=true) (h:PGs X es t)
  (hn:(assignEach es X.env).length=n:=by rfl) (hst:(assignEach es X.env).findIdx? (·.1)=none:=by rfl):PG X (.Tuple es k pos) (gTup X.K n t):=by
 intro pins s σ H v u Q I r hw
 obtain ⟨a,xs,e1,hq,hl,hw⟩:=hw
 subst e1
 cases r
 obtain ⟨its,rv,ht,hz⟩:=I.tuple hq
 refine assign_Tuple_tuple (I.ok.hd hc) ht (by simp [hn,← hl,rv.length]) hst fun h' hx=>?_
 have I1:Inv X pins σ H { s with heap:=h' }:=I.kept (t':=s.toks) fun b o e=>hx b o (Nat.ne_of_lt (Heap.lt_size e)) e
 exact h pins _ σ H xs _ Q I1 (by simpa using rv) hw
def tAsg (te:TE) (g:TG):TS:=fun D σ H=>te σ H fun x H1=>g x σ H1 D.nx
theorem ps_set {i:Nat}{x:Str}{e:Expr}{te:TE}{pos':Pos} (hN:X.N.Nodup) (hi:X.N[i]?=some x) (hx:Loc X.env.scope x) (he:PE X e te) (hs:swapsWith e (some (.Name x pos')) pos.line X.env=pure false:=by rfl) (hf:X.fn x=true∨X.env.scope.names.lookup x=some .local:=by first | exact .inl rfl | exact .inr rfl | assumption) :
  PS X (.Assign [.Name x pos'] e pos) (tAsg te (gName i)):=by
 intro pins s σ H D I h
 refine wpAny_Assign_Name (thn (he pins s σ H _ I h) fun v s1 ⟨y,H1,I1,r1,q1⟩=>?_) hs
 exact store_ok I1 hN hi hx r1 (fun s2 I2=>⟨_,H1,I2,q1⟩) hf
def tAug (i:Nat) (te:TE) (ti:TIp):TS:=fun D σ H=>∃ x,σ[i]?=some (some x)∧te σ H fun y H1=>ti x y H1 fun z H2=>D.nx (σ.set i (some z)) H2
theorem ps_aug {i:Nat}{x:Str}{e:Expr}{te:TE}{op:Operator}{ti:TIp}{pos':Pos} (hN:X.N.Nodup) (hi:X.N[i]?=some x) (hx:Loc X.env.scope x) (he:PE X e te) (ho:PIp X op ti) (hf:X.fn x=true∨X.env.scope.names.lookup x=some .local:=by first | exact .inl rfl | exact .inr rfl | assumption) :
  PS X (.AugAssign (.Name x pos') op e pos) (tAug i te ti):=by
 intro pins s σ H D I h
 obtain ⟨v,e1,h⟩:=h
 obtain ⟨m,hn,hl⟩:=I.loc
 have vis:Vis X.env.scope x:=by rcases hx with k | k;exact .inl k;exact .inr (.inl k)
 obtain ⟨u,r,l⟩:=hl i x v hi e1 vis
 refine wpAny_AugAssign_Name ?_
 have go:wpAny (model X.prog X.w) X.A (eval e X.env) (fun w s₂=>wpAny (model X.prog X.w) X.A (inplaceOp op u w) (fun r s₃=>wpAny (model X.prog X.w) X.A (storeName X.env x r) (fun _=>SP X pins D .next) X.xe s₃) X.xe s₂) X.xe s:=by
  refine thn (he pins s σ H _ I h) fun w s1 ⟨y,H1,I1,r1,q1⟩=>?_
  refine thn (ho pins s1 σ H1 v y u w _ I1 r r1 q1) fun z s2 ⟨zv,H2,I2,r2,q2⟩=>?_
  exact store_ok I2 hN hi hx r2 (fun s3 I3=>⟨_,H2,I3,q2⟩) hf
 rcases l with ⟨hk,hm⟩ | ⟨hk,c,hc,hcell⟩
 ·exact wpAny_loadName_local I.ok.kind hk hn hm go
 ·rcases hk with hk | hk
  ·exact wpAny_loadName_cell I.ok.kind hk hc hcell go
  ·rcases hx with k | k
   ·have:X.env.scope.names.lookup x=some .free:=hk
    rw [k] at this;cases this
   ·have:X.env.scope.names.lookup x=some .free:=hk
    rw [k] at this;cases this
def ipI (f:Int→Int→Int):TIp:=fun x y H Q=>∃ i j,x=.int i∧y=.int j∧Q (.int (f i j)) H
theorem ip_add:PIp X .Add (ipI fun i j=>i+j):=by
 intro pins s σ H x y v u Q I r1 r2 h
 obtain ⟨i,j,e1,e2,q⟩:=h
 subst e1;subst e2
 obtain ⟨t,rfl⟩:=r1
 obtain ⟨t',rfl⟩:=r2
 exact iadd_int ⟨.int _,H,I.tok _,⟨_,rfl⟩,q⟩
theorem ip_sub:PIp X .Sub (ipI fun i j=>i-j):=by
 intro pins s σ H x y v u Q I r1 r2 h
 obtain ⟨i,j,e1,e2,q⟩:=h
 subst e1;subst e2
 obtain ⟨t,rfl⟩:=r1
 obtain ⟨t',rfl⟩:=r2
 exact isub_int ⟨.int _,H,I.tok _,⟨_,rfl⟩,q⟩
end
section
variable {X:Cx}{pos:Pos}
def tWhile (c:TT) (tb:TS):TS:=fun D σ H=>∃ W:Nat→St→Hp→Prop,(∃ m,W m σ H)∧∀ m σ H,W m σ H →
 c σ H fun b H1=>if b=true then ∃ N:St→Hp→Prop,(∀ σ' H',N σ' H'→∃ m',m' < m∧W m' σ' H')∧tb { D with nx:=N,ct:=N,bk:=D.nx } σ H1 else D.nx σ H1
theorem ps_while {c:Expr}{body:List Stmt}{tc:TT}{tb:TS} (hp:PassesOwn (model X.prog X.w) X.A X.env X.xe) (hc:PT X c tc) (hb:PSs X body tb):PS X (.While c body [] pos) (tWhile tc tb):=by
 intro pins s σ H D I h
 obtain ⟨W,⟨m0,w0⟩,turn⟩:=h
 refine wpAny_While (codeAny_whileLoop (fun n s'=>∃ σ' H',Inv X pins σ' H' s'∧W n σ' H') ?_ m0 ⟨σ,H,I,w0⟩)
 rintro n s1 ⟨σ1,H1,I1,w1⟩
 refine wpAny_passesOwn hp (thn (hc pins s1 σ1 H1 _ I1 (turn n σ1 H1 w1)) fun b s2 ⟨H2,I2,q2⟩=>?_)
 cases b with
 | true =>
  obtain ⟨N,hN,q2⟩:=q2
  rw [if_pos rfl]
  refine wpAny_passesOwn hp (thn (hb pins s2 σ1 H2 _ I2 q2) fun f s3 q3=>?_)
  cases f with
  | next =>
   obtain ⟨σ3,H3,I3,n3⟩:=q3
   obtain ⟨m',hm,w3⟩:=hN σ3 H3 n3
   exact ⟨m',hm,σ3,H3,I3,w3⟩
  | cont =>
   obtain ⟨σ3,H3,I3,n3⟩:=q3
   obtain ⟨m',hm,w3⟩:=hN σ3 H3 n3
   exact ⟨m',hm,σ3,H3,I3,w3⟩
  | brk=>exact q3
  | ret v=>exact q3
 | false =>
  rw [if_neg Bool.false_ne_true]
  exact wpAny_execs_nil ⟨σ1,H2,I2,q2⟩
end
structure It where
 go:Nat→Hp→Prop
 yld:Nat→Hp→V→Hp→Prop
 stop:Nat→Hp→Prop
def FpOk (X:Cx) (pins:List (Addr×Obj)) (H:Hp) (b:Addr):Prop :=
 H b=none∧b≠X.env.locals∧b ∉ X.fs∧(b∈X.ex∨X.s_0.heap.objs.size≤b)∧(∀ x c,X.env.cells.lookup x=some c→c≠b)∧∀ p∈X.pn++pins,p.1≠b
theorem Inv.fpOk {X:Cx}{pins:List (Addr×Obj)}{σ:St}{H H':Hp}{s:Shared}{b:Addr} (I:Inv X pins σ H s) (hb:s.heap.objs.size≤b) (hn:H' b=none):FpOk X pins H' b:=by
 refine ⟨hn,Nat.ne_of_gt (Nat.lt_of_lt_of_le I.lt hb),I.nofs hb,.inr (Nat.le_trans I.sz hb),fun x c e z=>?_,fun p hp z=>?_⟩
 ·obtain ⟨v,q⟩:=I.cell x c e
  exact absurd (Nat.lt_of_lt_of_le q.lt (by rw [z];exact hb)) (Nat.lt_irrefl _)
 ·exact absurd (Nat.lt_of_lt_of_le (Heap.lt_size (I.pin p hp).1) (by rw [z];exact hb)) (Nat.lt_irrefl _)
structure Turn (P:Program) (w:World) (K:PySem.W.Frag) (tg:Expr) (J:It) (fp:List Addr) (it:Addr) (tn:Nat→Heap→Prop):Prop where
 mem:it∈fp
 obj:∀ i h,tn i h→∀ b∈fp,∃ o,h.get? b=some o∧∀ v,o.data≠.cell v
 keep:∀ i h h',tn i h→(∀ b∈fp,∀ o,h.get? b=some o→h'.get? b=some o)→tn i h'
 item:∀ (X:Cx),X.prog=P→X.w=w→X.K=K→X.calm=true→∀ (i:Nat) (pins:List (Addr×Obj)) (s:Shared) (σ:St) (H:Hp) (E:Value→Shared→Prop),Inv X pins σ H s→(∀ b∈fp,FpOk X pins H b)→tn i s.heap→J.go i H →
  wpAny (model P w) X.A (pyNext (.ref it)) (fun r s1=>∃ u,r=some u ∧
   wpAny (model P w) X.A (letOwnedTupleGo tg (.ref it) u) (fun _ s2=>∃ x H',Inv X pins σ H' s2∧RelV x u∧J.yld i H x H'∧tn (i+1) s2.heap∧∀ b∈fp,H' b=none) E s1) E s
 done:∀ (X:Cx),X.prog=P→X.w=w→X.K=K→X.calm=true→∀ (i:Nat) (pins:List (Addr×Obj)) (s:Shared) (σ:St) (H:Hp) (E:Value→Shared→Prop),Inv X pins σ H s→(∀ b∈fp,FpOk X pins H b)→tn i s.heap→J.stop i H →
  wpAny (model P w) X.A (pyNext (.ref it)) (fun r s1=>r=none∧Inv X pins σ H s1) E s
 self:∀ (A:Around) (i:Nat) (s:Shared) (Q:Value→Shared→Prop) (E:Value→Shared→Prop),tn i s.heap→Q (.ref it) s→wpAny (model P w) A (pyIter (.ref it)) Q E s
abbrev TI:=St→Hp→(It→Hp→Prop)→Prop
def PIE (X:Cx) (pins:List (Addr×Obj)) (σ:St) (tg:Expr) (R:It→Hp→Prop) (itv:Value) (s2:Shared):Prop :=
 ∃ (it:Addr) (fp:List Addr) (tn:Nat→Heap→Prop) (J:It) (H':Hp),itv=.ref it∧Inv X pins σ H' s2∧Turn X.prog X.w X.K tg J fp it tn∧tn 0 s2.heap∧(∀ b∈fp,FpOk X pins H' b)∧R J H'
def PI (X:Cx) (tg iter:Expr) (wi:TI):Prop :=
 ∀ (pins:List (Addr×Obj)) (s:Shared) (σ:St) (H:Hp) (R:It→Hp→Prop),Inv X pins σ H s→wi σ H R →
  wpAny (model X.prog X.w) X.A (eval iter X.env) (fun v s1=>wpAny (model X.prog X.w) X.A (pyIter v) (PIE X pins σ tg R) X.xe s1) X.xe s
theorem go_of {M:Model}{A:Around}{E:Value→Shared→Prop}{s:Shared}{tg:Expr}{it:Addr}{u:Value}{o:Obj}{n:String}{vs:Array Value}{Q:Unit→Shared→Prop} (ho:s.heap.get? it=some o) (hc:o.cls=.type n) (hd:o.data=.fields vs)
    (hn:["enumerate","zip","dict_itemiterator","dict_reverseitemiterator","odict_iterator","itertools.zip_longest","itertools.pairwise"].contains n=false) (hQ:Q () s):wpAny M A (letOwnedTupleGo tg (.ref it) u) Q E s:=by
  unfold letOwnedTupleGo
  cases tg <;> first
    | exact wpAny_pure hQ
    | (cases u <;> first
        | exact wpAny_pure hQ
        | (refine wpAny_bind (wpAny_load ho ?_)
           rw [hc,hd]
           show wpAny M A (if (["enumerate","zip","dict_itemiterator","dict_reverseitemiterator","odict_iterator","itertools.zip_longest","itertools.pairwise"].contains n && vs[0]?==some (rawInt _))=true then _ else _) Q E s
           rw [if_neg (by intro h;rw [hn,Bool.false_and] at h;cases h)]
           exact wpAny_pure hQ))
def Itl (K:PySem.W.Frag) (a:Addr):It :=
 ⟨fun i H=>∃ xs x,SqL K H a xs∧xs[i]?=some x,fun i H x H'=>H'=H∧∀ xs,SqL K H a xs→xs[i]?=some x,fun i H=>∃ xs,SqL K H a xs∧xs.length≤i⟩
def Itt (K:PySem.W.Frag) (a:Addr):It :=
 ⟨fun i H=>∃ xs x,SqT K H a xs∧xs[i]?=some x,fun i H x H'=>H'=H∧∀ xs,SqT K H a xs→xs[i]?=some x,fun i H=>∃ xs,SqT K H a xs∧xs.length≤i⟩
def Itr (lo:Int) (n:Nat):It:=⟨fun i _=>i<n,fun i H x H'=>H'=H∧x=.int (lo+i),fun i _=>n≤i⟩
theorem turn_list {P:Program}{w:World}{K:PySem.W.Frag}{tg:Expr} (a it:Addr):Turn P w K tg (Itl K a) [it] it (fun i h=>h.IsListIter it a i) where
 mem:=by simp
 obj:=fun i h st b hb=>by
  have e:b=it:=by simpa using hb
  subst e
  obtain ⟨o,e,c,d⟩:=st
  exact ⟨o,e,fun v z=>by rw [d] at z;cases z⟩
 keep:=fun i h h' st k=>st.at fun o e=>k it (by simp) o e
 item:=by
  intro X hP hw hK hc i pins s σ H E I hf st hg
  subst hP hw hK
  obtain ⟨xs,x,hq,hx⟩:=hg
  obtain ⟨its,rv,p,hz⟩:=I.list hq
  obtain ⟨u,hu,ru⟩:=rv.get hx
  obtain ⟨f0,f1,f2,f3,f4,f5⟩:=hf it (by simp)
  refine wpAny_pyNext_list_item st p.isList (x:=u) (by simpa using hu) fun h' st' sb=>?_
  have I1:Inv X pins σ H { s with heap:=h' }:=I.turned (t':=s.toks) (fun b o hb e=>(sb.2 b hb).trans e) f0 f1 f3 f4 f5
  obtain ⟨o,e,c,d⟩:=id st'
  exact ⟨u,rfl,go_of (s:={ s with heap:=h' }) e c d (by decide) ⟨x,H,I1,ru,⟨rfl,fun ys hy=>by rw [I.list_inj hy hq];exact hx⟩,st',fun b hb=>(hf b hb).1⟩⟩
 done:=by
  intro X hP hw hK hc i pins s σ H E I hf st hg
  subst hP hw hK
  obtain ⟨xs,hq,hx⟩:=hg
  obtain ⟨its,rv,p,hz⟩:=I.list hq
  obtain ⟨f0,f1,f2,f3,f4,f5⟩:=hf it (by simp)
  have hl:=rv.length
  exact wpAny_pyNext_list_end (I.ok.hd hc) st p.isList (by simp;omega) fun h' eb=>⟨rfl,I.turned (t':=s.toks) (fun b o hb e=>eb b o hb e) f0 f1 f3 f4 f5⟩
 self:=fun _ _ _ _ _ st h=>wpAny_pyIter_listiter st h
theorem turn_tuple {P:Program}{w:World}{K:PySem.W.Frag}{tg:Expr} (a it:Addr):Turn P w K tg (Itt K a) [it] it (fun i h=>h.IsTupleIter it a i) where
 mem:=by simp
 obj:=fun i h st b hb=>by
  have e:b=it:=by simpa using hb
  subst e
  obtain ⟨o,e,c,d⟩:=st
  exact ⟨o,e,fun v z=>by rw [d] at z;cases z⟩
 keep:=fun i h h' st k=>st.at fun o e=>k it (by simp) o e
 item:=by
  intro X hP hw hK hc i pins s σ H E I hf st hg
  subst hP hw hK
  obtain ⟨xs,x,hq,hx⟩:=hg
  obtain ⟨its,rv,p,hz⟩:=I.tuple hq
  obtain ⟨u,hu,ru⟩:=rv.get hx
  obtain ⟨f0,f1,f2,f3,f4,f5⟩:=hf it (by simp)
  refine wpAny_pyNext_tuple_item st (show s.heap.IsTuple a its.toArray from p) (x:=u) (by simpa using hu) fun h' st' sb=>?_
  have I1:Inv X pins σ H { s with heap:=h' }:=I.turned (t':=s.toks) (fun b o hb e=>(sb.2 b hb).trans e) f0 f1 f3 f4 f5
  obtain ⟨o,e,c,d⟩:=id st'
  exact ⟨u,rfl,go_of (s:={ s with heap:=h' }) e c d (by decide) ⟨x,H,I1,ru,⟨rfl,fun ys hy=>by rw [I.tuple_inj hy hq];exact hx⟩,st',fun b hb=>(hf b hb).1⟩⟩
 done:=by
  intro X hP hw hK hc i pins s σ H E I hf st hg
  subst hP hw hK
  obtain ⟨xs,hq,hx⟩:=hg
  obtain ⟨its,rv,p,hz⟩:=I.tuple hq
  obtain ⟨f0,f1,f2,f3,f4,f5⟩:=hf it (by simp)
  have hl:=rv.length
  exact wpAny_pyNext_tuple_end (I.ok.hd hc) st (show s.heap.IsTuple a its.toArray from p) (by simp;omega) fun h' eb=>⟨rfl,I.turned (t':=s.toks) (fun b o hb e=>eb b o hb e) f0 f1 f3 f4 f5⟩
 self:=fun _ _ _ _ _ st h=>wpAny_pyIter_tupleiter st h
theorem turn_range {P:Program}{w:World}{K:PySem.W.Frag}{tg:Expr} (it:Addr) (lo:Int) (n:Nat):Turn P w K tg (Itr lo n) [it] it (fun i h=>IsRangeIter h it (lo+(i:Nat) * 1) ((n:Int)-(i:Nat)) 1) where
 mem:=by simp
 obj:=fun i h st b hb=>by
  have e:b=it:=by simpa using hb
  subst e
  exact ⟨_,st,fun v z=>by
   have z':Data.fields _=Data.cell v:=z
   cases z'⟩
 keep:=fun i h h' st k=>k it (by simp) _ st
 item:=by
  intro X hP hw hK hc i pins s σ H E I hf st hg
  subst hP hw hK
  obtain ⟨f0,f1,f2,f3,f4,f5⟩:=hf it (by simp)
  have W:=Walks.range (prog:=X.prog) (w:=X.w) (I.ok.hd hc) it lo 1 n
  refine W.item i s _ _ hg st fun v h' tk hv st' kk=>?_
  obtain ⟨t,rfl⟩:=hv
  have I1:Inv X pins σ H { s with heap:=h',toks:=tk }:=I.turned (fun b o hb e=>kk b o (by simpa using hb) e) f0 f1 f3 f4 f5
  refine ⟨_,rfl,go_of (s:={ s with heap:=h',toks:=tk }) (n:="range_iterator") st' rfl rfl (by decide) ⟨.int (lo+i),H,I1,⟨t,?_⟩,⟨rfl,rfl⟩,st',fun b hb=>(hf b hb).1⟩⟩
  rw [Int.mul_one]
 done:=by
  intro X hP hw hK hc i pins s σ H E I hf st hg
  subst hP hw hK
  obtain ⟨f0,f1,f2,f3,f4,f5⟩:=hf it (by simp)
  exact wpAny_pyNext_range_end (I.ok.hd hc) st (by have:n≤i:=hg;omega) fun h' eb=>⟨rfl,I.turned (t':=s.toks) (fun b o hb e=>eb b o hb e) f0 f1 f3 f4 f5⟩
 self:=fun _ _ _ _ _ st h=>wpAny_pyIter_rangeiter st h
end L2
namespace L2
open PySem PySem.Spec PyProof.Rows
section
variable {X:Cx}{tg:Expr}
def iList (K:PySem.W.Frag) (tl:TE):TI:=fun σ H R=>tl σ H fun x H1=>∃ a,x=.ref a∧(∃ xs,SqL K H1 a xs)∧R (Itl K a) H1
def iTup (K:PySem.W.Frag) (tl:TE):TI:=fun σ H R=>tl σ H fun x H1=>∃ a,x=.ref a∧(∃ xs,SqT K H1 a xs)∧R (Itt K a) H1
theorem pi_list {l:Expr}{tl:TE} (hl:PE X l tl):PI X tg l (iList X.K tl):=by
 intro pins s σ H R I h
 refine thn (hl pins s σ H _ I h) fun v s1 ⟨x,H1,I1,r1,q1⟩=>?_
 obtain ⟨a,e,⟨xs,hq⟩,q⟩:=q1
 subst e
 cases r1
 obtain ⟨its,rv,p,hz⟩:=I1.list hq
 refine wpAny_pyIter_list p.isList ?_
 refine ⟨s1.heap.objs.size,[s1.heap.objs.size],_,_,H1,rfl,I1.kept (t':=s1.toks) fun b o e=>Heap.get?_push_of_some _ e,turn_list a _,⟨_,Heap.get?_push_size _ rfl,rfl,rfl⟩,fun b hb=>?_,q⟩
 have e:b=s1.heap.objs.size:=by simpa using hb
 subst e
 exact I1.fpOk (Nat.le_refl _) (I1.hok.fresh (Nat.le_refl _))
theorem pi_tup {l:Expr}{tl:TE} (hl:PE X l tl):PI X tg l (iTup X.K tl):=by
 intro pins s σ H R I h
 refine thn (hl pins s σ H _ I h) fun v s1 ⟨x,H1,I1,r1,q1⟩=>?_
 obtain ⟨a,e,⟨xs,hq⟩,q⟩:=q1
 subst e
 cases r1
 obtain ⟨its,rv,p,hz⟩:=I1.tuple hq
 refine wpAny_pyIter_tuple (show s1.heap.IsTuple a its.toArray from p) ?_
 refine ⟨s1.heap.objs.size,[s1.heap.objs.size],_,_,H1,rfl,I1.kept (t':=s1.toks) fun b o e=>Heap.get?_push_of_some _ e,turn_tuple a _,⟨_,Heap.get?_push_size _ rfl,rfl,rfl⟩,fun b hb=>?_,q⟩
 have e:b=s1.heap.objs.size:=by simpa using hb
 subst e
 exact I1.fpOk (Nat.le_refl _) (I1.hok.fresh (Nat.le_refl _))
def tFor (wi:TI) (g:TG) (tb:TS):TS:=fun D σ H=>wi σ H fun J H1=>∃ W:Nat→Nat→St→Hp→Prop,(∃ m,W 0 m σ H1)∧∀ i m σ H,W i m σ H →
 (J.stop i H∧D.nx σ H)∨(J.go i H∧∃ N:St→Hp→Prop,(∀ σ' H',N σ' H'→∃ m',m' < m∧W (i+1) m' σ' H')∧∀ x H',J.yld i H x H'→g x σ H' fun σ2 H2=>tb { D with nx:=N,ct:=N,bk:=D.nx } σ2 H2)
def pinsAt (fp:List Addr) (h:Heap):List (Addr×Obj):=fp.filterMap fun b=>(h.get? b).map fun o=>(b,o)
theorem mem_pinsAt {fp:List Addr}{h:Heap}{b:Addr}{o:Obj} (hb:b∈fp) (e:h.get? b=some o):(b,o)∈pinsAt fp h:=List.mem_filterMap.mpr ⟨b,hb,by rw [e];rfl⟩
theorem of_pinsAt {fp:List Addr}{h:Heap}{p:Addr×Obj} (hp:p∈pinsAt fp h):p.1∈fp∧h.get? p.1=some p.2:=by
 obtain ⟨b,hb,e⟩:=List.mem_filterMap.mp hp
 cases q:h.get? b with
 | none=>rw [q] at e;cases e
 | some o =>
  rw [q] at e
  have e':(b,o)=p:=Option.some.inj e
  subst e'
  exact ⟨hb,q⟩
theorem Inv.pinned {pins:List (Addr×Obj)}{σ:St}{H:Hp}{s:Shared}{fp:List Addr} (I:Inv X pins σ H s) (hf:∀ b∈fp,FpOk X pins H b) (ho:∀ b∈fp,∃ o,s.heap.get? b=some o∧∀ v,o.data≠.cell v):Inv X (pins++pinsAt fp s.heap) σ H s :=
 I.pins_of fun p hp=>(List.mem_append.mp hp).elim (fun z=>I.pin p (List.mem_append_right _ z)) fun z=>by
  obtain ⟨hb,e⟩:=of_pinsAt z
  obtain ⟨f0,f1,f2,_⟩:=hf p.1 hb
  obtain ⟨o,e',d⟩:=ho p.1 hb
  rw [e] at e';cases e'
  exact ⟨e,f0,f1,f2,d⟩
theorem Inv.unpinned {pins pl:List (Addr×Obj)}{σ:St}{H:Hp}{s:Shared} (I:Inv X (pins++pl) σ H s):Inv X pins σ H s:=I.pins_of fun p hp=>I.pin p (List.mem_append_right _ (List.mem_append_left _ hp))
theorem ps_for {iter:Expr}{body:List Stmt}{wi:TI}{g:TG}{tb:TS}{pos:Pos} (hp:PassesOwn (model X.prog X.w) X.A X.env X.xe) (hc:X.calm=true) (hi:PI X tg iter wi) (hg:PG X tg g) (hb:PSs X body tb)
  (hs:∀ x,foldedSetIterable iter X.env x=pure x:=by intro _;rfl):PS X (.For tg iter body [] pos) (tFor wi g tb):=by
 intro pins s σ H D I h
 refine wpAny_For (thn (hi pins s σ H _ I h) fun v s1 h1=>thn h1 fun itv s2 h2=>?_) hs
 obtain ⟨it,fp,tn,J,H2,e,I2,T,st2,f2,W,⟨m0,w0⟩,turn⟩:=h2
 subst e
 -- what stays true of the iterator's objects through the loop
 have stat:∀ {H':Hp},(∀ b∈fp,H' b=none)→∀ b∈fp,FpOk X pins H' b:=fun hn b hb=>⟨hn b hb,(f2 b hb).2⟩
 refine codeAny_forLoop_any (fun n s'=>∃ i σ' H',Inv X pins σ' H' s'∧tn i s'.heap∧(∀ b∈fp,H' b=none)∧W i n σ' H') ?_ m0 ⟨0,σ,H2,I2,st2,fun b hb=>(f2 b hb).1,w0⟩
 rintro n s3 ⟨i,σ3,H3,I3,st3,fr3,w3⟩
 rcases turn i n σ3 H3 w3 with ⟨stop,qn⟩ | ⟨go,N,hN,step⟩
 ·refine wpAny_passesOwn hp (thn (T.done X rfl rfl rfl hc i pins s3 σ3 H3 X.xe I3 (stat fr3) st3 stop) fun r s4 ⟨hr,I4⟩=>?_)
  subst hr
  exact wpAny_execs_nil ⟨σ3,H3,I4,qn⟩
 ·refine wpAny_passesOwn hp (thn (T.item X rfl rfl rfl hc i pins s3 σ3 H3 X.xe I3 (stat fr3) st3 go) fun r s4 ⟨u,hr,h4⟩=>?_)
  subst hr
  refine wpAny_passesOwn hp (thn h4 fun _ s5 ⟨x,H5,I5,r5,y5,st5,fr5⟩=>?_)
  have I5':=I5.pinned (stat fr5) (T.obj _ _ st5)
  refine wpAny_passesOwn hp (thn (hg _ s5 σ3 H5 x u _ I5' r5 (step x H5 y5)) fun _ s6 ⟨σ6,H6,I6,q6⟩=>?_)
  refine wpAny_passesOwn hp (thn (hb _ s6 σ6 H6 _ I6 q6) fun f s7 q7=>?_)
  have again:∀ {σ7:St}{H7:Hp},Inv X (pins++pinsAt fp s5.heap) σ7 H7 s7→N σ7 H7→∃ m,m<n∧∃ i σ' H',Inv X pins σ' H' s7∧tn i s7.heap∧(∀ b∈fp,H' b=none)∧W i m σ' H':=fun {σ7 H7} I7 n7=>by
   obtain ⟨m',hm,w7⟩:=hN σ7 H7 n7
   refine ⟨m',hm,i+1,σ7,H7,I7.unpinned,T.keep _ _ _ st5 fun b hb o e=>(I7.pin (b,o) (List.mem_append_right _ (List.mem_append_right _ (mem_pinsAt hb e)))).1,fun b hb=>?_,w7⟩
   obtain ⟨o,e,d⟩:=T.obj _ _ st5 b hb
   exact (I7.pin (b,o) (List.mem_append_right _ (List.mem_append_right _ (mem_pinsAt hb e)))).2.1
  cases f with
  | next=>obtain ⟨σ7,H7,I7,n7⟩:=q7;exact again I7 n7
  | cont=>obtain ⟨σ7,H7,I7,n7⟩:=q7;exact again I7 n7
  | brk=>obtain ⟨σ7,H7,I7,q7⟩:=q7;exact ⟨σ7,H7,I7.unpinned,q7⟩
  | ret v=>obtain ⟨x7,σ7,H7,I7,r7,q7⟩:=q7;exact ⟨x7,σ7,H7,I7.unpinned,r7,q7⟩
end
theorem for_list {K:PySem.W.Frag}{a:Addr}{xs:List V}{g:TG}{tb:TS}{D:Ends}{σ:St}{H:Hp} (Pv:Nat→St→Hp→Prop) (h0:Pv 0 σ H) (hl:∀ i σ H,i≤xs.length→Pv i σ H→SqL K H a xs)
  (hs:∀ i x σ H,xs[i]?=some x→Pv i σ H→g x σ H fun σ2 H2=>tb { D with nx:=Pv (i+1),ct:=Pv (i+1),bk:=D.nx } σ2 H2) (hd:∀ σ H,Pv xs.length σ H→D.nx σ H) :
  ∃ W:Nat→Nat→St→Hp→Prop,(∃ m,W 0 m σ H)∧∀ i m σ H,W i m σ H →
   ((Itl K a).stop i H∧D.nx σ H)∨((Itl K a).go i H∧∃ N:St→Hp→Prop,(∀ σ' H',N σ' H'→∃ m',m' < m∧W (i+1) m' σ' H')∧∀ x H',(Itl K a).yld i H x H'→g x σ H' fun σ2 H2=>tb { D with nx:=N,ct:=N,bk:=D.nx } σ2 H2):=by
 refine ⟨fun i m σ H=>m=xs.length-i∧i≤xs.length∧Pv i σ H,⟨xs.length,by simp,Nat.zero_le _,h0⟩,?_⟩
 rintro i m σ H ⟨rfl,hi,p⟩
 have q:=hl i σ H hi p
 by_cases hlt:i<xs.length
 ·refine .inr ⟨⟨xs,xs[i],q,by simp [hlt]⟩,Pv (i+1),fun σ' H' p'=>⟨xs.length-(i+1),by omega,rfl,hlt,p'⟩,fun x H' y=>?_⟩
  obtain ⟨e,y⟩:=y
  subst e
  exact hs i x σ _ (y xs q) p
 ·have e:i=xs.length:=by omega
  subst e
  exact .inl ⟨⟨xs,q,Nat.le_refl _⟩,hd σ H p⟩
theorem for_tup {K:PySem.W.Frag}{a:Addr}{xs:List V}{g:TG}{tb:TS}{D:Ends}{σ:St}{H:Hp} (Pv:Nat→St→Hp→Prop) (h0:Pv 0 σ H) (hl:∀ i σ H,i≤xs.length→Pv i σ H→SqT K H a xs)
  (hs:∀ i x σ H,xs[i]?=some x→Pv i σ H→g x σ H fun σ2 H2=>tb { D with nx:=Pv (i+1),ct:=Pv (i+1),bk:=D.nx } σ2 H2) (hd:∀ σ H,Pv xs.length σ H→D.nx σ H) :
  ∃ W:Nat→Nat→St→Hp→Prop,(∃ m,W 0 m σ H)∧∀ i m σ H,W i m σ H →
   ((Itt K a).stop i H∧D.nx σ H)∨((Itt K a).go i H∧∃ N:St→Hp→Prop,(∀ σ' H',N σ' H'→∃ m',m' < m∧W (i+1) m' σ' H')∧∀ x H',(Itt K a).yld i H x H'→g x σ H' fun σ2 H2=>tb { D with nx:=N,ct:=N,bk:=D.nx } σ2 H2):=by
 refine ⟨fun i m σ H=>m=xs.length-i∧i≤xs.length∧Pv i σ H,⟨xs.length,by simp,Nat.zero_le _,h0⟩,?_⟩
 rintro i m σ H ⟨rfl,hi,p⟩
 have q:=hl i σ H hi p
 by_cases hlt:i<xs.length
 ·refine .inr ⟨⟨xs,xs[i],q,by simp [hlt]⟩,Pv (i+1),fun σ' H' p'=>⟨xs.length-(i+1),by omega,rfl,hlt,p'⟩,fun x H' y=>?_⟩
  obtain ⟨e,y⟩:=y
  subst e
  exact hs i x σ _ (y xs q) p
 ·have e:i=xs.length:=by omega
  subst e
  exact .inl ⟨⟨xs,q,Nat.le_refl _⟩,hd σ H p⟩
theorem for_range {lo:Int}{n:Nat}{g:TG}{tb:TS}{D:Ends}{σ:St}{H:Hp} (Pv:Nat→St→Hp→Prop) (h0:Pv 0 σ H)
  (hs:∀ i σ H,i<n→Pv i σ H→g (.int (lo+i)) σ H fun σ2 H2=>tb { D with nx:=Pv (i+1),ct:=Pv (i+1),bk:=D.nx } σ2 H2) (hd:∀ σ H,Pv n σ H→D.nx σ H) :
  ∃ W:Nat→Nat→St→Hp→Prop,(∃ m,W 0 m σ H)∧∀ i m σ H,W i m σ H →
   ((Itr lo n).stop i H∧D.nx σ H)∨((Itr lo n).go i H∧∃ N:St→Hp→Prop,(∀ σ' H',N σ' H'→∃ m',m' < m∧W (i+1) m' σ' H')∧∀ x H',(Itr lo n).yld i H x H'→g x σ H' fun σ2 H2=>tb { D with nx:=N,ct:=N,bk:=D.nx } σ2 H2):=by
 refine ⟨fun i m σ H=>m=n-i∧i≤n∧Pv i σ H,⟨n,by simp,Nat.zero_le _,h0⟩,?_⟩
 rintro i m σ H ⟨rfl,hi,p⟩
 by_cases hlt:i<n
 ·refine .inr ⟨hlt,Pv (i+1),fun σ' H' p'=>⟨n-(i+1),by omega,rfl,hlt,p'⟩,fun x H' y=>?_⟩
  obtain ⟨e,y⟩:=y
  subst e y
  exact hs i σ _ hlt p
 ·have e:i=n:=by omega
  subst e
  exact .inl ⟨Nat.le_refl _,hd σ H p⟩
end L2
namespace L2
open PySem PySem.Spec PyProof.Rows
abbrev R2:=V→V→Hp→VK→Prop
def OpR (X:Cx) (f:Value→Value→Sem Value) (r:R2):Prop :=
 ∀ (pins:List (Addr×Obj)) (s:Shared) (σ:St) (H:Hp) (x y:V) (v u:Value) (Q:VK),Inv X pins σ H s→RelV x v→RelV y u→r x y H Q →
  wpAny (model X.prog X.w) X.A (f v u) (EP X pins σ Q) X.xe s
def UnR (X:Cx) (f:Value→Sem Value) (r:V→Hp→VK→Prop):Prop :=
 ∀ (pins:List (Addr×Obj)) (s:Shared) (σ:St) (H:Hp) (x:V) (v:Value) (Q:VK),Inv X pins σ H s→RelV x v→r x H Q →
  wpAny (model X.prog X.w) X.A (f v) (EP X pins σ Q) X.xe s
def CallR (X:Cx) (f:Value) (r:List V→Hp→VK→Prop):Prop :=
 ∀ (pins:List (Addr×Obj)) (s:Shared) (σ:St) (H:Hp) (xs:List V) (us:List Value) (Q:VK),Inv X pins σ H s→Vals xs us→r xs H Q →
  wpAny (model X.prog X.w) X.A (call f us) (EP X pins σ Q) X.xe s
def tOp (r:R2) (ta tb:TE):TE:=fun σ H Q=>ta σ H fun x H1=>tb σ H1 fun y H2=>r x y H2 Q
def tUn (r:V→Hp→VK→Prop) (ta:TE):TE:=fun σ H Q=>ta σ H fun x H1=>r x H1 Q
def rI (C:Int→Int→Prop) (g:Int→Int→V):R2:=fun x y H Q=>∃ i j,x=.int i∧y=.int j∧C i j∧Q (g i j) H
def rI0 (g:Int→Int→V):R2:=fun x y H Q=>∃ i j,x=.int i∧y=.int j∧Q (g i j) H
def rU (g:Int→V):V→Hp→VK→Prop:=fun x H Q=>∃ i,x=.int i∧Q (g i) H
section
variable {X:Cx}{a b c:Expr}{ta tb tc:TE}{pos:Pos}
theorem binT (ha:PE X a ta) (hb:PE X b tb) {pins:List (Addr×Obj)}{s:Shared}{σ:St}{H:Hp}{R:V→V→Hp→Prop} (I:Inv X pins σ H s)
  (h:ta σ H fun x H1=>tb σ H1 fun y H2=>R x y H2) {Q:Value→Shared→Prop}{f:Value→Value→Sem Value}
  (hf:∀ v u s2 x y H2,Inv X pins σ H2 s2→RelV x v→RelV y u→R x y H2→wpAny (model X.prog X.w) X.A (f v u) Q X.xe s2) :
  wpAny (model X.prog X.w) X.A (eval a X.env) (fun v s₁=>wpAny (model X.prog X.w) X.A (eval b X.env) (fun u s₂=>wpAny (model X.prog X.w) X.A (f v u) Q X.xe s₂) X.xe s₁) X.xe s:=by
 refine thn (ha pins s σ H _ I h) fun v s1 ⟨x,H1,I1,r1,q1⟩=>?_
 refine thn (hb pins s1 σ H1 _ I1 q1) fun u s2 ⟨y,H2,I2,r2,q2⟩=>?_
 exact hf v u s2 x y H2 I2 r1 r2 q2
theorem pe_op {op:Operator}{r:R2} (ho:OpR X (binaryOp op) r) (ha:PE X a ta) (hb:PE X b tb):PE X (.BinOp a op b pos) (tOp r ta tb):=by
 intro pins s σ H Q I h
 exact wpAny_BinOp (binT ha hb I h fun v u s2 x y H2 I2 rx ry q=>ho pins s2 σ H2 x y v u Q I2 rx ry q)
theorem pe_un {op:UnaryOp}{r:V→Hp→VK→Prop} (ho:UnR X (unaryOp op) r) (ha:PE X a ta):PE X (.UnaryOp op a pos) (tUn r ta):=by
 intro pins s σ H Q I h
 exact UnaryOp_ (thn (ha pins s σ H _ I h) fun v s1 ⟨x,H1,I1,r1,q1⟩=>ho pins s1 σ H1 x v Q I1 r1 q1)
theorem opI {f:Value→Value→Sem Value}{C:Int→Int→Prop}{g:Int→Int→Int}
  (rule:∀ (i j:Int) (t u:Tok) (s:Shared) (Q:Value→Shared→Prop) (E:Value→Shared→Prop),C i j→Q (.int (g i j) s.toks) { s with toks:=s.toks+1 }→wpAny (model X.prog X.w) X.A (f (.int i t) (.int j u)) Q E s) :
  OpR X f (rI C fun i j=>.int (g i j)):=by
 intro pins s σ H x y v u Q I rx ry h
 obtain ⟨i,j,rfl,rfl,hc,q⟩:=h
 obtain ⟨t,rfl⟩:=rx
 obtain ⟨t',rfl⟩:=ry
 exact rule i j t t' s _ _ hc ⟨.int (g i j),H,I.tok _,⟨_,rfl⟩,q⟩
theorem opI0 {f:Value→Value→Sem Value}{g:Int→Int→Int}
  (rule:∀ (i j:Int) (t u:Tok) (s:Shared) (Q:Value→Shared→Prop) (E:Value→Shared→Prop),Q (.int (g i j) s.toks) { s with toks:=s.toks+1 }→wpAny (model X.prog X.w) X.A (f (.int i t) (.int j u)) Q E s) :
  OpR X f (rI0 fun i j=>.int (g i j)):=by
 intro pins s σ H x y v u Q I rx ry h
 obtain ⟨i,j,rfl,rfl,q⟩:=h
 obtain ⟨t,rfl⟩:=rx
 obtain ⟨t',rfl⟩:=ry
 exact rule i j t t' s _ _ ⟨.int (g i j),H,I.tok _,⟨_,rfl⟩,q⟩
theorem opB0 {f:Value→Value→Sem Value}{g:Int→Int→Bool}
  (rule:∀ (i j:Int) (t u:Tok) (s:Shared) (Q:Value→Shared→Prop) (E:Value→Shared→Prop),Q (.bool (g i j)) s→wpAny (model X.prog X.w) X.A (f (.int i t) (.int j u)) Q E s) :
  OpR X f (rI0 fun i j=>.bl (g i j)):=by
 intro pins s σ H x y v u Q I rx ry h
 obtain ⟨i,j,rfl,rfl,q⟩:=h
 obtain ⟨t,rfl⟩:=rx
 obtain ⟨t',rfl⟩:=ry
 exact rule i j t t' s _ _ ⟨.bl (g i j),H,I,rfl,q⟩
def CMul (i j:Int):Prop:=(-(2 ^ 64)<i∧i<2 ^ 64)∨(-(2 ^ 64)<j∧j<2 ^ 64)
theorem CMul.ok {i j:Int} (h:CMul i j):IntMulOk i j:=by
 rcases h with ⟨h1,h2⟩ | ⟨h1,h2⟩
 ·exact .of_left (intBits_le_64 h1 h2)
 ·exact .of_right (intBits_le_64 h1 h2)
theorem op_add:OpR X (binaryOp .Add) (rI0 fun i j=>.int (i+j)):=opI0 fun _ _ _ _ _ _ _ q=>add_int q
theorem op_sub:OpR X (binaryOp .Sub) (rI0 fun i j=>.int (i-j)):=opI0 fun _ _ _ _ _ _ _ q=>sub_int q
theorem op_mul:OpR X (binaryOp .Mult) (rI CMul fun i j=>.int (i * j)):=opI fun _ _ _ _ _ _ _ hc q=>mul_int q hc.ok
theorem op_mod:OpR X (binaryOp .Mod) (rI (fun _ j=>0<j) fun i j=>.int (i % j)):=opI fun i j _ _ _ _ _ hc q=>by
 have h1:(0:Int)<j:=hc
 exact mod_int' (by omega) (by rw [Int.fmod_eq_emod_of_nonneg i (by omega)];exact q)
theorem unI {f:Value→Sem Value}{g:Int→Int}
  (rule:∀ (i:Int) (t:Tok) (s:Shared) (Q:Value→Shared→Prop) (E:Value→Shared→Prop),Q (.int (g i) s.toks) { s with toks:=s.toks+1 }→wpAny (model X.prog X.w) X.A (f (.int i t)) Q E s) :
  UnR X f (rU fun i=>.int (g i)):=by
 intro pins s σ H x v Q I rx h
 obtain ⟨i,rfl,q⟩:=h
 obtain ⟨t,rfl⟩:=rx
 exact rule i t s _ _ ⟨.int (g i),H,I.tok _,⟨_,rfl⟩,q⟩
theorem un_neg:UnR X (unaryOp .USub) (rU fun i=>.int (-i)):=unI fun _ _ _ _ _ q=>neg_int q
end
def scal:V→V→Bool
 | .non,.non=>true | .non,.int _=>true | .int _,.non=>true | .non,.bl _=>true | .bl _,.non=>true | .non,.str _=>true | .str _,.non=>true
 | .int _,.int _=>true | .bl _,.bl _=>true | .str _,.str _=>true | .byt _,.byt _=>true
 | .int _,.str _=>true | .str _,.int _=>true | .bl _,.str _=>true | .str _,.bl _=>true
 | _,_=>false
def rEq:R2:=fun x y H Q=>scal x y=true∧Q (.bl (decide (x=y))) H
def rNe:R2:=fun x y H Q=>scal x y=true∧Q (.bl (!decide (x=y))) H
theorem dec_int {i j:Int}:decide (V.int i=V.int j)=(i==j):=by
 rw [Bool.eq_iff_iff]
 simp
theorem dec_bl {i j:Bool}:decide (V.bl i=V.bl j)=(i==j):=by
 rw [Bool.eq_iff_iff]
 simp
theorem dec_str {i j:Str}:decide (V.str i=V.str j)=(i==j):=by
 rw [Bool.eq_iff_iff]
 simp
theorem dec_byt {i j:Array UInt8}:decide (V.byt i=V.byt j)=(i.toList==j.toList):=by
 rw [Bool.eq_iff_iff]
 cases i
 cases j
 simp
section
variable {X:Cx}{a b c:Expr}{ta tb tc:TE}{pos:Pos}
theorem fin_bl {pins:List (Addr×Obj)}{σ:St}{H:Hp}{s:Shared}{Q:VK}{k k':Bool} (I:Inv X pins σ H s) (q:Q (.bl k) H) (e:k=k'):EP X pins σ Q (.bool k') s:=by
 subst e
 exact ⟨.bl k,H,I,rfl,q⟩
theorem op_eq:OpR X (compareOp .Eq) rEq:=by
 intro pins s σ H x y v u Q I rx ry h
 obtain ⟨hs,q⟩:=h
 cases x with
 | non =>
  cases rx
  cases y with
  | non=>cases ry;exact PySem.EqNone.eq_none_none (fin_bl I q (by simp))
  | bl j=>cases ry;exact PySem.EqNone.eq_none_bool (fin_bl I q (by simp))
  | int j=>obtain ⟨t',rfl⟩:=ry;exact PySem.EqNone.eq_none_int (fin_bl I q (by simp))
  | str j=>obtain ⟨t',rfl⟩:=ry;exact PySem.EqNone.eq_none_str (fin_bl I q (by simp))
  | _=>exact absurd (show false=true from hs) Bool.false_ne_true
 | bl i =>
  cases rx
  cases y with
  | non=>cases ry;exact PySem.EqNone.eq_bool_none (fin_bl I q (by simp))
  | bl j=>cases ry;exact eq_bool (fin_bl I q dec_bl)
  | str j=>obtain ⟨t',rfl⟩:=ry;exact PySem.EqMixed.eq_bool_str (fin_bl I q (by simp))
  | _=>exact absurd (show false=true from hs) Bool.false_ne_true
 | int i =>
  obtain ⟨t,rfl⟩:=rx
  cases y with
  | non=>cases ry;exact PySem.EqNone.eq_int_none (fin_bl I q (by simp))
  | int j=>obtain ⟨t',rfl⟩:=ry;exact eq_int (fin_bl I q dec_int)
  | str j=>obtain ⟨t',rfl⟩:=ry;exact PySem.EqMixed.eq_int_str (fin_bl I q (by simp))
  | _=>exact absurd (show false=true from hs) Bool.false_ne_true
 | str i =>
  obtain ⟨t,rfl⟩:=rx
  cases y with
  | non=>cases ry;exact PySem.EqNone.eq_str_none (fin_bl I q (by simp))
  | bl j=>cases ry;exact PySem.EqMixed.eq_str_bool (fin_bl I q (by simp))
  | int j=>obtain ⟨t',rfl⟩:=ry;exact PySem.EqMixed.eq_str_int (fin_bl I q (by simp))
  | str j=>obtain ⟨t',rfl⟩:=ry;exact eq_str (fin_bl I q dec_str)
  | _=>exact absurd (show false=true from hs) Bool.false_ne_true
 | byt i =>
  obtain ⟨t,rfl⟩:=rx
  cases y with
  | byt j=>obtain ⟨t',rfl⟩:=ry;exact PySem.W.eq_bytes (fin_bl I q dec_byt)
  | _=>exact absurd (show false=true from hs) Bool.false_ne_true
 | _=>cases y <;> exact absurd (show false=true from hs) Bool.false_ne_true
theorem op_ne:OpR X (compareOp .NotEq) rNe:=by
 intro pins s σ H x y v u Q I rx ry h
 obtain ⟨hs,q⟩:=h
 cases x with
 | non =>
  cases rx
  cases y with
  | non=>cases ry;exact PySem.EqNone.ne_none_none (fin_bl I q (by simp))
  | bl j=>cases ry;exact PySem.EqNone.ne_none_bool (fin_bl I q (by simp))
  | int j=>obtain ⟨t',rfl⟩:=ry;exact PySem.EqNone.ne_none_int (fin_bl I q (by simp))
  | str j=>obtain ⟨t',rfl⟩:=ry;exact PySem.EqNone.ne_none_str (fin_bl I q (by simp))
  | _=>exact absurd (show false=true from hs) Bool.false_ne_true
 | bl i =>
  cases rx
  cases y with
  | non=>cases ry;exact PySem.EqNone.ne_bool_none (fin_bl I q (by simp))
  | bl j=>cases ry;exact ne_bool (fin_bl I q (congrArg not dec_bl))
  | str j=>obtain ⟨t',rfl⟩:=ry;exact PySem.EqMixed.ne_bool_str (fin_bl I q (by simp))
  | _=>exact absurd (show false=true from hs) Bool.false_ne_true
 | int i =>
  obtain ⟨t,rfl⟩:=rx
  cases y with
  | non=>cases ry;exact PySem.EqNone.ne_int_none (fin_bl I q (by simp))
  | int j=>obtain ⟨t',rfl⟩:=ry;exact ne_int (fin_bl I q (congrArg not dec_int))
  | str j=>obtain ⟨t',rfl⟩:=ry;exact PySem.EqMixed.ne_int_str (fin_bl I q (by simp))
  | _=>exact absurd (show false=true from hs) Bool.false_ne_true
 | str i =>
  obtain ⟨t,rfl⟩:=rx
  cases y with
  | non=>cases ry;exact PySem.EqNone.ne_str_none (fin_bl I q (by simp))
  | bl j=>cases ry;exact PySem.EqMixed.ne_str_bool (fin_bl I q (by simp))
  | int j=>obtain ⟨t',rfl⟩:=ry;exact PySem.EqMixed.ne_str_int (fin_bl I q (by simp))
  | str j=>obtain ⟨t',rfl⟩:=ry;exact ne_str (fin_bl I q (congrArg not dec_str))
  | _=>exact absurd (show false=true from hs) Bool.false_ne_true
 | byt i =>
  obtain ⟨t,rfl⟩:=rx
  cases y with
  | byt j=>obtain ⟨t',rfl⟩:=ry;exact PySem.W.ne_bytes (fin_bl I q (congrArg not dec_byt))
  | _=>exact absurd (show false=true from hs) Bool.false_ne_true
 | _=>cases y <;> exact absurd (show false=true from hs) Bool.false_ne_true
theorem op_lt:OpR X (compareOp .Lt) (rI0 fun i j=>.bl (decide (i<j))):=opB0 fun _ _ _ _ _ _ _ q=>lt_int q
theorem op_le:OpR X (compareOp .LtE) (rI0 fun i j=>.bl (decide (i≤j))):=opB0 fun _ _ _ _ _ _ _ q=>le_int q
theorem op_gt:OpR X (compareOp .Gt) (rI0 fun i j=>.bl (decide (j<i))):=opB0 fun _ _ _ _ _ _ _ q=>gt_int q
theorem op_ge:OpR X (compareOp .GtE) (rI0 fun i j=>.bl (decide (j≤i))):=opB0 fun _ _ _ _ _ _ _ q=>ge_int q
theorem nomark (b:Expr) {op:CmpOp} (h:op≠.In:=by decide) (h2:op≠.NotIn:=by decide):behindInMarks op b=false:=by
 have e1:(op==CmpOp.In)=false:=by cases op <;> first | rfl | exact absurd rfl h
 have e2:(op==CmpOp.NotIn)=false:=by cases op <;> first | rfl | exact absurd rfl h2
 cases b <;> simp [behindInMarks,e1,e2]
theorem pe_cmpR {op:CmpOp}{r:R2} (ho:OpR X (compareOp op) r) (ha:PE X a ta) (hb:PE X b tb) (hm:behindInMarks op b=false):PE X (.Compare a [op] [b] pos) (tOp r ta tb):=by
 intro pins s σ H Q I h
 exact wpAny_Compare1 (binT ha hb I h fun v u s2 x y H2 I2 rx ry q=>ho pins s2 σ H2 x y v u Q I2 rx ry q) hm
def tTest (t:TE):TT:=fun σ H Q=>t σ H fun x H'=>∃ k,x=.bl k∧Q k H'
theorem pt_cmpR {op:CmpOp}{r:R2} (ho:OpR X (compareOp op) r) (ha:PE X a ta) (hb:PE X b tb) (hm:behindInMarks op b=false):PT X (.Compare a [op] [b] pos) (tTest (tOp r ta tb)):=by
 intro pins s σ H Q I h
 refine wpAny_isTrue_Compare1 (thn (ha pins s σ H _ I h) fun v s1 ⟨x,H1,I1,r1,q1⟩=>thn (hb pins s1 σ H1 _ I1 q1) fun u s2 ⟨y,H2,I2,r2,q2⟩ =>
  thn (ho pins s2 σ H2 x y v u _ I2 r1 r2 q2) fun c s3 ⟨z,H3,I3,r3,k,e,q3⟩=>?_) hm
 subst e
 cases r3
 exact wpAny_truthy_bool ⟨H3,I3,q3⟩
def tChain (r r':R2) (ta tb tc:TE):TE:=fun σ H Q=>ta σ H fun x H1=>tb σ H1 fun y H2=>r x y H2 fun z H3=>∃ k,z=.bl k ∧
 (if k=true then tc σ H3 fun w' H4=>r' y w' H4 Q else Q (.bl false) H3)
theorem pt_chain {op op':CmpOp}{r r':R2} (ho:OpR X (compareOp op) r) (ho':OpR X (compareOp op') r') (ha:PE X a ta) (hb:PE X b tb) (hc:PE X c tc)
  (hm:lastMarks [op,op'] [b,c]=false:=by with_unfolding_all rfl):PT X (.Compare a [op,op'] [b,c] pos) (tTest (tChain r r' ta tb tc)):=by
 intro pins s σ H Q I h
 refine isTrue_chain (thn (ha pins s σ H _ I h) fun v s1 ⟨x,H1,I1,r1,q1⟩=>test_link (thn (hb pins s1 σ H1 _ I1 q1) fun u s2 ⟨y,H2,I2,r2,q2⟩ =>
  thn (ho pins s2 σ H2 x y v u _ I2 r1 r2 q2) fun d s3 ⟨z,H3,I3,r3,k,e,q3⟩=>?_)) hm
 subst e
 cases r3
 refine wpAny_truthy_bool ?_
 cases k with
 | false =>
  obtain ⟨k',e',q'⟩:=q3
  cases e'
  exact ite_ff ⟨H3,I3,q'⟩
 | true =>
  refine ite_tt (test_last (thn (hc pins s3 σ H3 _ I3 q3) fun w' s4 ⟨z',H4,I4,r4,q4⟩=>thn (ho' pins s4 σ H4 y z' u w' _ I4 r2 r4 q4) fun d' s5 ⟨z2,H5,I5,r5,k2,e2,q5⟩=>?_))
  subst e2
  cases r5
  exact wpAny_truthy_bool ⟨H5,I5,q5⟩
theorem line63:(sizeLine:Nat)<2 ^ 63:=by rw [sizeLine_eq];decide
theorem vals1 {x:V}{us:List Value} (r:Vals [x] us):∃ u,us=[u]∧RelV x u:=by
 cases r with
 | cons r1 r2=>cases r2;exact ⟨_,rfl,r1⟩
theorem vals2 {x y:V}{us:List Value} (r:Vals [x,y] us):∃ u w',us=[u,w']∧RelV x u∧RelV y w':=by
 cases r with
 | cons r1 r2 =>
  cases r2 with
  | cons r3 r4=>cases r4;exact ⟨_,_,rfl,r1,r3⟩
theorem call_min2 (hc:X.calm=true):CallR X (.builtin "min") (fun xs H Q=>∃ i j,xs=[.int i,.int j]∧Q (.int (if j<i then j else i)) H):=by
 intro pins s σ H xs us Q I r h
 obtain ⟨i,j,rfl,q⟩:=h
 obtain ⟨u,w',rfl,⟨t,rfl⟩,⟨t',rfl⟩⟩:=vals2 r
 refine min_two_ints (I.ok.hd hc) fun h' tk k=>⟨_,H,I.kept k,?_,q⟩
 by_cases hj:j<i
 ·rw [if_pos hj,if_pos hj];exact ⟨_,rfl⟩
 ·rw [if_neg hj,if_neg hj];exact ⟨_,rfl⟩
theorem call_ord:CallR X (.builtin "ord") (fun xs H Q=>∃ x,xs=[.str x]∧x.length=1∧Q (.int (x.cps.getD 0 0:Nat)) H):=by
 intro pins s σ H xs us Q I r h
 obtain ⟨x,rfl,hz,q⟩:=h
 obtain ⟨u,rfl,t,rfl⟩:=vals1 r
 exact ord_of_one hz ⟨.int _,H,I.tok _,⟨_,rfl⟩,q⟩
end
end L2
namespace L2
open PySem PySem.Spec PyProof.Rows
structure ObjM (h:Heap) (x dx C:Addr) (mA:Str→Option Value):Prop where
 obj:h.get? x=some (PySem.W.instObj C dx)
 ns:h.Ns1 dx mA
 ne:dx≠x
theorem lookIn_ns {h:Heap}{dx:Addr}{mA:Str→Option Value} (n:h.Ns1 dx mA):∃ od,h.get? dx=some od∧∀ name,PySem.W.lookIn name od=some (mA name):=by
 obtain ⟨o,es,ep,ho,hd,hk,_,hm⟩:=n
 refine ⟨o,ho,fun name=>?_⟩
 have e:=hm name
 unfold nsFind findBy at e
 rw [← Array.find?_toList] at e
 unfold PySem.W.lookIn
 rw [hd]
 dsimp only
 split
 ·rename_i y q
  rw [q] at e
  exact congrArg some e
 ·rename_i q
  rw [q] at e
  have a:es.toList.any (·.refKey)=false:=by
   rw [List.any_eq_false]
   intro y hy
   obtain ⟨z,t,hkey⟩:=hk y (Array.mem_toList_iff.mp hy)
   simp [DictEntry.refKey,hkey]
  have a':¬ es.toList.any (·.refKey)=true:=by rw [a];exact Bool.false_ne_true
  rw [if_neg a']
  exact congrArg some e
theorem ObjM.look {h:Heap}{x dx C:Addr}{mA:Str→Option Value} (I:ObjM h x dx C mA):∃ od,PySem.W.InstAt h x (PySem.W.instObj C dx) C (some od)∧∀ name,PySem.W.lookIn name od=some (mA name) :=
 let ⟨od,ho,hl⟩:=lookIn_ns I.ns
 ⟨od,⟨I.obj,rfl,rfl,ho⟩,hl⟩
section
variable {prog:Program}{w:World}{A:Around}{E:Value→Shared→Prop}{s:Shared}{K:PySem.W.Frag}{x dx C f:Addr}{mA:Str→Option Value}{name:Str}{v:Value}
theorem get_map {expr:Bool}{Q:Value→Shared→Prop} (X:K.In s.heap) (I:ObjM s.heap x dx C mA) (hg:PySem.W.plainGet K C name=true) (hh:PySem.W.hasDictIn K C=true)
  (ha:PySem.W.findIn K (.ref C) name=some none) (hv:mA name=some v) (hv':PySem.W.handedIn v=true) (h:Q v { s with toks:=s.toks+1 }) :
  wpAny (model prog w) A (getAttr (.ref x) name expr) Q E s:=by
 obtain ⟨od,J,hl⟩:=I.look
 exact PySem.W.get_value X J (PySem.W.plainGet_of hg).1 (PySem.W.findObj_own hh ha rfl (by rw [hl,hv])) hv' h
theorem get_meth {pl:Sem Bool}{Q:Value×List Value→Shared→Prop} (X:K.In s.heap) (I:ObjM s.heap x dx C mA) (hg:PySem.W.plainGet K C name=true)
  (hf:PySem.W.findIn K (.ref C) name=some (some (.ref f))) (ht:PySem.W.isFn K (.ref f)=true) (hv:mA name=none) (h:Q (.ref f,[.ref x]) s) :
  wpAny (model prog w) A (getMethod (.ref x) name pl) Q E s:=by
 obtain ⟨od,J,hl⟩:=I.look
 exact PySem.W.method_fn X J (PySem.W.plainGet_of hg).1 (PySem.W.plainGet_of hg).2 hf (beq_iff_eq.mp ht) (by show (PySem.W.lookIn name od).map (·.isSome)=some false;rw [hl,hv];rfl) h
theorem set_map {ns:List Str}{Q:Unit→Shared→Prop} (X:K.In s.heap) (I:ObjM s.heap x dx C mA)
  (hs:PySem.W.findIn K (.ref C) "__setattr__"=some (some (.builtin "object.__setattr__"))) (hp:PySem.W.plainOver K C=true) (ht:PySem.W.takerIn K C name=some none) (hh:PySem.W.hasDictIn K C=true)
  (hw:PySem.Within mA ns) (hsz:ns.length≤sizeLine)
  (h:∀ h',ObjM h' x dx C (fun y=>if y=name then some v else mA y)→Heap.SameBut dx s.heap h'→Q () { s with heap:=h',toks:=s.toks+2 }) :
  wpAny (model prog w) A (setAttr (.ref x) name v) Q E s:=by
 obtain ⟨od,J,hl⟩:=I.look
 refine PySem.W.set_plain X J hs (PySem.W.osa_open (s:={ s with toks:=s.toks+1 }) (r:=none) X J hp ht fun b=>?_)
 obtain ⟨cd,hc,hd'⟩:=PySem.W.any_some hh
 have hx:s.heap.get? x=some ⟨.ref C,some dx,.plain,#[]⟩:=I.obj
 refine wpAny_bind (wpAny_pure (wpAny_bind (wpAny_bind (wpAny_loadPart hx (wpAny_bind (PySem.W.Looks.here (s:={ s with toks:=s.toks+1 }) (PySem.W.looks_clsIn X hc) ?_))))))
 rw [hd']
 refine wpAny_pure (a:=some dx) (wpAny_bind (wpAny_pure (wpAny_bind ?_)))
 refine wpAny_nsSet1 (s:={ s with toks:=s.toks+1 }) I.ns fun h' hn2 hs2=>?_
 obtain ⟨oD,esD,epD,hoD,hdD,hcD⟩:=hn2.count (PySem.Within.cons name v hw)
 refine wpAny_bind (wpAny_lookBehind hoD (by rw [hdD];exact pastItsLine_dict (Nat.le_trans hcD (by rw [List.length_cons];omega))) ?_)
 exact wpAny_pure (h _ ⟨(hs2.2 _ (Ne.symm I.ne)).trans I.obj,hn2,I.ne⟩ hs2)
theorem make_map {R:Result→Shared→Prop}{vs:List Value}{kw:List (Str×Value)} (X:K.In s.heap) (hm:PySem.W.makesIn K C=true)
  (hi:PySem.W.findIn K (.ref C) "__init__"=some (some (.ref f))) (hf:PySem.W.typeIn K (.ref f)=some (.type "function"))
  (h:codeAny (model prog w) (A.under (.builtin "type.__call__" ⟨.ref C::vs,kw⟩)) (.call (.ref f) ⟨.ref (s.heap.objs.size+1)::vs,kw⟩) (PySem.W.InitBack (s.heap.objs.size+1) R)
   { s with heap:=(s.heap.push PySem.W.emptyDict).push (PySem.W.instObj C s.heap.objs.size) }) :
  codeAny (model prog w) A (.call (.ref C) ⟨vs,kw⟩) R s:=by
 obtain ⟨hh,g,d,t,os⟩:=s
 exact PySem.W.make_core (PySem.W.makes_of X hm) (PySem.W.looks_findIn X hi) (fun self=>PySem.W.bind_fn X self hf) (.inl rfl) h
end
def putF (f:Str) (v:V):List (Str×V)→List (Str×V)
 | []=>[(f,v)]
 | (g,x)::r=>if g=f then (g,v)::r else (g,x)::putF f v r
theorem lookup_putF (f g:Str) (v:V):∀ fs:List (Str×V),(putF f v fs).lookup g=if g=f then some v else fs.lookup g
 | []=>by
  show List.lookup g [(f,v)]=_
  by_cases h:g=f
  ·have hb:(g==f)=true:=beq_iff_eq.mpr h
   simp only [List.lookup,hb,if_pos h]
  ·have hb:(g==f)=false:=beq_eq_false_iff_ne.mpr h
   simp only [List.lookup,hb,if_neg h]
 | (k,x)::r=>by
  have ih:=lookup_putF f g v r
  rw [show putF f v ((k,x)::r)=(if k=f then (k,v)::r else (k,x)::putF f v r) from rfl]
  by_cases hk:k=f
  ·rw [if_pos hk]
   by_cases h:g=k
   ·have hb:(g==k)=true:=beq_iff_eq.mpr h
    simp only [List.lookup,hb,if_pos (h.trans hk)]
   ·have hb:(g==k)=false:=beq_eq_false_iff_ne.mpr h
    simp only [List.lookup,hb,if_neg (fun e:g=f=>h (e.trans hk.symm))]
  ·rw [if_neg hk]
   by_cases h:g=k
   ·have hb:(g==k)=true:=beq_iff_eq.mpr h
    simp only [List.lookup,hb,if_neg (fun e:g=f=>hk (h.symm.trans e))]
   ·have hb:(g==k)=false:=beq_eq_false_iff_ne.mpr h
    simp only [List.lookup,hb]
    exact ih
theorem keys_putF (f:Str) (v:V):∀ fs:List (Str×V),f∈(putF f v fs).map (·.1)∧∀ g,g∈fs.map (·.1)→g∈(putF f v fs).map (·.1)
 | []=>⟨by simp [putF],fun g h=>by simp at h⟩
 | (k,x)::r=>by
  obtain ⟨i1,i2⟩:=keys_putF f v r
  rw [show putF f v ((k,x)::r)=(if k=f then (k,v)::r else (k,x)::putF f v r) from rfl]
  by_cases hk:k=f
  ·rw [if_pos hk]
   subst hk
   exact ⟨by simp,fun g h=>by simpa using h⟩
  ·rw [if_neg hk]
   refine ⟨?_,fun g h=>?_⟩
   ·rw [List.map_cons]
    exact List.mem_cons_of_mem _ i1
   ·rw [List.map_cons] at h ⊢
    rcases List.mem_cons.mp h with e | e
    ·exact List.mem_cons.mpr (.inl e)
    ·exact List.mem_cons_of_mem _ (i2 g e)
theorem length_putF (f:Str) (v:V):∀ fs:List (Str×V),(putF f v fs).length≤fs.length+1
 | []=>by simp [putF]
 | (k,x)::r=>by
  have ih:=length_putF f v r
  rw [show putF f v ((k,x)::r)=(if k=f then (k,v)::r else (k,x)::putF f v r) from rfl]
  by_cases hk:k=f
  ·rw [if_pos hk,List.length_cons,List.length_cons];omega
  ·rw [if_neg hk,List.length_cons,List.length_cons];omega
theorem RelO.some_of {v:V}{o:Option Value} (r:RelO (some v) o):∃ u,o=some u∧RelV v u:=by
 cases o with
 | none=>exact (show False from r).elim
 | some u=>exact ⟨u,rfl,r⟩
theorem RelO.none_of {o:Option Value} (r:RelO none o):o=none:=by
 cases o with
 | none=>rfl
 | some u=>exact (show False from r).elim
theorem handed_of {v:V}{u:Value} (r:RelV v u):PySem.W.handedIn u=true:=by
 cases v with
 | non=>cases (show u=Value.none from r);rfl
 | bl b=>cases (show u=Value.bool b from r);rfl
 | int i=>obtain ⟨t,e⟩:=(show ∃ t,u=Value.int i t from r);cases e;rfl
 | str x=>obtain ⟨t,e⟩:=(show ∃ t,u=Value.str x t from r);cases e;rfl
 | byt b=>obtain ⟨t,e⟩:=(show ∃ t,u=Value.bytes b t from r);cases e;rfl
 | flt b=>obtain ⟨t,e⟩:=(show ∃ t,u=Value.float b t from r);cases e;rfl
 | ref a=>cases (show u=Value.ref a from r);rfl
 | ty n=>cases (show u=Value.type n from r);rfl
section
variable {P:Program}{w:World}{H H':Hp}{h h':Heap}{a C dx:Addr}{fs fs':List (Str×V)}
theorem ins_get (hok:HOk P w H h) (e:H a=some (.ins C dx fs)):∃ mA,ObjM h a dx C mA∧(∀ f,RelO (fs.lookup f) (mA f))∧PySem.Within mA (fs.map (·.1))∧fs.length≤1000∧H dx=some (.own a):=by
 obtain ⟨d,z,ne,ob,mA,n,r,q⟩:=(show ObjOk P w H h a (.ins C dx fs) from hok a _ e)
 exact ⟨mA,⟨ob,n,ne⟩,r,q,z,d⟩
end
structure Cls (K:PySem.W.Frag) (C:Addr):Prop where
 pg:PySem.W.plainGet K C Str.empty=true
 hd:PySem.W.hasDictIn K C=true
 po:PySem.W.plainOver K C=true
 sa:PySem.W.findIn K (.ref C) "__setattr__"=some (some (.builtin "object.__setattr__"))
theorem Cls.get {K:PySem.W.Frag}{C:Addr} (c:Cls K C) (f:Str):PySem.W.plainGet K C f=true:=c.pg
def NoAttr (K:PySem.W.Frag) (C:Addr) (f:Str):Prop:=PySem.W.findIn K (.ref C) f=some none
theorem NoAttr.taker {K:PySem.W.Frag}{C:Addr}{f:Str} (n:NoAttr K C f):PySem.W.takerIn K C f=some none:=by
 unfold PySem.W.takerIn
 rw [show PySem.W.findIn K (.ref C) f=some none from n]
 rfl
structure Meth (K:PySem.W.Frag) (C:Addr) (m:Str) (f:Addr):Prop where
 at_:PySem.W.findIn K (.ref C) m=some (some (.ref f))
 fn:PySem.W.isFn K (.ref f)=true
 kp:PySem.W.keepIn K (.ref f)=true
section
variable {X:Cx}{pins:List (Addr×Obj)}{σ:St}{H:Hp}{s:Shared}{a C dx:Addr}{fs:List (Str×V)}{f:Str}{v:V}{A:Around}{E:Value→Shared→Prop}
theorem getattr_ok {b:Bool}{Q:Value→Shared→Prop} (I:Inv X pins σ H s) (e:H a=some (.ins C dx fs)) (c:Cls X.K C) (n:NoAttr X.K C f) (l:fs.lookup f=some v)
  (h:∀ u s',Inv X pins σ H s'→RelV v u→Q u s'):wpAny (model X.prog X.w) A (getAttr (.ref a) f b) Q E s:=by
 obtain ⟨mA,O,r,_,_,_⟩:=ins_get I.hok e
 obtain ⟨u,hu,ru⟩:=RelO.some_of (v:=v) (o:=mA f) (by rw [← l];exact r f)
 exact get_map I.kIn O (c.get f) c.hd n hu (handed_of ru) (h u _ (I.tok _) ru)
theorem getmeth_ok {m:Str}{g:Addr}{pl:Sem Bool}{Q:Value×List Value→Shared→Prop} (I:Inv X pins σ H s) (e:H a=some (.ins C dx fs)) (c:Cls X.K C) (k:Meth X.K C m g) (l:fs.lookup m=none)
  (h:Q (.ref g,[.ref a]) s):wpAny (model X.prog X.w) A (getMethod (.ref a) m pl) Q E s:=by
 obtain ⟨mA,O,r,_,_,_⟩:=ins_get I.hok e
 have hn:mA m=none:=RelO.none_of (by rw [← l];exact r m)
 exact get_meth I.kIn O (c.get m) k.at_ k.fn hn h
theorem setattr_ok {y:V}{u:Value}{Q:Unit→Shared→Prop} (I:Inv X pins σ H s) (e:H a=some (.ins C dx fs)) (c:Cls X.K C) (n:NoAttr X.K C f) (hl:fs.length<1000) (ry:RelV y u)
  (h:∀ s',Inv X pins σ (upd H a (.ins C dx (putF f y fs))) s'→Q () s'):wpAny (model X.prog X.w) A (setAttr (.ref a) f u) Q E s:=by
 obtain ⟨mA,O,r,wi,_,ho⟩:=ins_get I.hok e
 have hz:(fs.map (·.1)).length≤sizeLine:=by rw [List.length_map,sizeLine_eq];omega
 refine set_map I.kIn O c.sa c.po n.taker c.hd wi hz fun h' O' sb=>h _ ?_
 have hd:∃ o,h'.get? dx=some o:=let ⟨o,_,_,e',_⟩:=O'.ns;⟨o,e'⟩
 refine I.write (x:=a) (e:=dx) (by rw [e];exact True.intro) (.inr ho) (fun b q hb z=>(sb.2 b hb).trans z) hd ?_
 refine ⟨by rw [upd_ne O.ne];exact ho,?_,O.ne,O'.obj,_,O'.ns,fun g=>?_,fun g hg=>?_⟩
 ·have:=length_putF f y fs;omega
 ·show RelO ((putF f y fs).lookup g) (if g=f then some u else mA g)
  rw [lookup_putF]
  by_cases q:g=f
  ·rw [if_pos q,if_pos q];exact ry
  ·rw [if_neg q,if_neg q];exact r g
 ·by_cases q:g=f
  ·rw [q];exact (keys_putF f y fs).1
  ·refine (keys_putF f y fs).2 g (wi g fun z=>hg ?_)
   show (if g=f then some u else mA g)=none
   rw [if_neg q];exact z
theorem Inv.made (I:Inv X pins σ H s):Inv X pins σ (upd (upd H s.heap.objs.size (.own (s.heap.objs.size+1))) (s.heap.objs.size+1) (.ins C s.heap.objs.size []))
  { s with heap:=(s.heap.push PySem.W.emptyDict).push (PySem.W.instObj C s.heap.objs.size) }:=by
 have e1:(s.heap.push PySem.W.emptyDict).get? s.heap.objs.size=some PySem.W.emptyDict:=Heap.get?_push_size s.heap rfl
 have e2:((s.heap.push PySem.W.emptyDict).push (PySem.W.instObj C s.heap.objs.size)).get? (s.heap.objs.size+1)=some (PySem.W.instObj C s.heap.objs.size):=by
  have:=Heap.get?_push_size (s.heap.push PySem.W.emptyDict) (o:=PySem.W.instObj C s.heap.objs.size) rfl
  rwa [Heap.size_push] at this
 have e3:(s.heap.push PySem.W.emptyDict).Ns s.heap.objs.size (fun _=>none):=⟨PySem.W.emptyDict,#[],_,e1,rfl,(fun e he=>absurd he (by simp)),fun _=>rfl⟩
 have I1:=I.laid (a:=s.heap.objs.size) (o:=.own (s.heap.objs.size+1)) (h':=s.heap.push PySem.W.emptyDict) (t':=s.toks) (fun b u q=>Heap.get?_push_of_some _ q) (Nat.le_refl _) ⟨_,e1⟩
 refine I1.laid (a:=s.heap.objs.size+1) (o:=.ins C s.heap.objs.size []) (t':=s.toks) (fun b u q=>Heap.get?_push_of_some _ q) (Nat.le_of_eq (Heap.size_push _ _)) ?_
 have ne:s.heap.objs.size≠s.heap.objs.size+1:=Nat.ne_of_lt (Nat.lt_succ_self _)
 refine ⟨by rw [upd_ne ne,upd_same],Nat.zero_le _,ne,e2,fun _=>none,(Heap.Ns1.of_empty e3).at fun o q=>Heap.get?_push_of_some _ q,fun _=>True.intro,fun y hy=>absurd rfl hy⟩
theorem attr_of {prog:Program}{w:World}{env:Env}{e:Expr}{f:Str}{pos:Pos}{s:Shared}{Q:Value→Shared→Prop} (hb:attributeBase e f env (eval e env)=eval e env)
  (h:wpAny (model prog w) A (eval e env) (fun o s₁=>wpAny (model prog w) A (getAttr o f true) Q E s₁) E s):wpAny (model prog w) A (eval (.Attribute e f pos) env) Q E s :=
 Attribute_any_ h (by rw [arm_eval_Attribute,hb])
end
def tFld (K:PySem.W.Frag) (ta:TE) (f:Str):TE:=fun σ H Q=>ta σ H fun x H1=>∃ a C dx fs v,x=.ref a∧H1 a=some (.ins C dx fs)∧Cls K C∧NoAttr K C f∧fs.lookup f=some v∧Q v H1
def sFld (K:PySem.W.Frag) (ta tv:TE) (f:Str):TS:=fun D σ H=>tv σ H fun y H1=>ta σ H1 fun x H2=>∃ a C dx fs,x=.ref a∧H2 a=some (.ins C dx fs)∧Cls K C∧NoAttr K C f∧fs.length<1000 ∧
 D.nx σ (upd H2 a (.ins C dx (putF f y fs)))
def InOp (X:Cx) (op:Operator) (rd:V→V→Hp→VK→Prop):Prop :=
 ∀ (pins:List (Addr×Obj)) (s:Shared) (σ:St) (H:Hp) (x y:V) (u v:Value) (Q:VK),Inv X pins σ H s→RelV x u→RelV y v→rd x y H Q→wpAny (model X.prog X.w) X.A (inplaceOp op u v) (EP X pins σ Q) X.xe s
def sFldAug (K:PySem.W.Frag) (ta tv:TE) (rd:V→V→Hp→VK→Prop) (f:Str):TS:=fun D σ H=>ta σ H fun x H1=>∃ a C dx fs v,x=.ref a∧H1 a=some (.ins C dx fs)∧Cls K C∧NoAttr K C f∧fs.lookup f=some v ∧
 tv σ H1 fun y H2=>rd v y H2 fun z H3=>∃ dx' fs',H3 a=some (.ins C dx' fs')∧fs'.length<1000∧D.nx σ (upd H3 a (.ins C dx' (putF f z fs')))
section
variable {X:Cx}{o e value:Expr}{f:Str}{pos pos' tpos:Pos}{ta tv:TE}
theorem pe_fld (he:PE X e ta) (hb:attributeBase e f X.env (eval e X.env)=eval e X.env):PE X (.Attribute e f pos) (tFld X.K ta f):=by
 intro pins s σ H Q I h
 refine attr_of hb (thn (he pins s σ H _ I h) fun u s1 ⟨x,H1,I1,rx,a,C,dx,fs,v,ex,ea,c,n,l,q⟩=>?_)
 subst ex
 obtain rfl:u=Value.ref a:=rx
 exact getattr_ok I1 ea c n l fun u' s2 I2 ru=>⟨v,H1,I2,ru,q⟩
theorem ps_fld (ha:PE X o ta) (hv:PE X value tv) (hs:swapsWith value (some (.Attribute o f pos')) pos.line X.env=pure false):PS X (.Assign [.Attribute o f pos'] value pos) (sFld X.K ta tv f):=by
 intro pins s σ H D I h
 refine plainObj_wpAny_Assign_Attribute (thn (hv pins s σ H _ I h) fun u s1 ⟨y,H1,I1,ry,q⟩=>thn (ha pins s1 σ H1 _ I1 q) fun ov s2 ⟨x,H2,I2,rx,a,C,dx,fs,ex,ea,c,n,l,q2⟩=>?_) hs
 subst ex
 obtain rfl:ov=Value.ref a:=rx
 exact setattr_ok I2 ea c n l ry fun s3 I3=>⟨σ,_,I3,q2⟩
theorem ps_fldaug {op:Operator}{rd:V→V→Hp→VK→Prop} (ha:PE X o ta) (hv:PE X value tv) (hop:InOp X op rd):PS X (.AugAssign (.Attribute o f tpos) op value pos) (sFldAug X.K ta tv rd f):=by
 intro pins s σ H D I h
 refine wpAny_AugAssign_AttributeAny (thn (ha pins s σ H _ I h) fun ov s1 ⟨x,H1,I1,rx,a,C,dx,fs,v,ex,ea,c,n,l,q⟩=>?_)
 subst ex
 obtain rfl:ov=Value.ref a:=rx
 refine getattr_ok I1 ea c n l fun u s2 I2 ru=>thn (hv pins s2 σ H1 _ I2 q) fun w3 s3 ⟨y,H2,I3,ry,q3⟩=>thn (hop pins s3 σ H2 v y u w3 _ I3 ru ry q3) fun w4 s4 ⟨z,H3,I4,rz,dx',fs',ea',l',q4⟩=>?_
 exact setattr_ok I4 ea' c n l' rz fun s5 I5=>⟨σ,_,I5,q4⟩
def rAdd:V→V→Hp→VK→Prop:=fun x y H Q=>∃ i j,x=.int i∧y=.int j∧Q (.int (i+j)) H
theorem in_add:InOp X .Add rAdd:=by
 rintro pins s σ H x y u v Q I rx ry ⟨i,j,rfl,rfl,q⟩
 obtain ⟨t,rfl⟩:=(show ∃ t,u=Value.int i t from rx)
 obtain ⟨t',rfl⟩:=(show ∃ t',v=Value.int j t' from ry)
 exact PyProof.Rows.iadd_int ⟨.int (i+j),H,I.tok _,⟨_,rfl⟩,q⟩
theorem methcall_of {pl:Sem Bool}{m:Str}{apos:Pos}{args:List Expr}{pins:List (Addr×Obj)}{s:Shared}{σ:St}{H:Hp}{Q:Value→Shared→Prop}{te:TE} (he:PE X e te) (I:Inv X pins σ H s)
  (h:te σ H fun x H1=>∃ a C dx fs g,x=.ref a∧H1 a=some (.ins C dx fs)∧Cls X.K C∧Meth X.K C m g∧fs.lookup m=none ∧
   ∀ s1,Inv X pins σ H1 s1→wpAny (model X.prog X.w) X.A (callWith pos (.ref g) [.ref a] (backTo pos (starEach args X.env)) (backToKw pos (keywordEach [] X.env))) Q X.xe s1)
  (ht:eval (.Call (.Attribute e m apos) args [] pos) X.env=(do
   let ov ← eval e X.env
   standAt apos.atName
   let (f,first) ← holding [ov] (getMethod ov m pl)
   callWith pos f first (backTo pos (starEach args X.env)) (backToKw pos (keywordEach [] X.env)))) :
  wpAny (model X.prog X.w) X.A (eval (.Call (.Attribute e m apos) args [] pos) X.env) Q X.xe s:=by
 refine PySem.W.methodCall_KW (pl:=pl) (thn (he pins s σ H _ I h) fun u s1 ⟨x,H1,I1,rx,a,C,dx,fs,g,ex,ea,c,k,l,q⟩=>?_) ht
 subst ex
 obtain rfl:u=Value.ref a:=rx
 exact getmeth_ok I1 ea c k l (q s1 I1)
end
section
variable {X:Cx}{pins:List (Addr×Obj)}{σ:St}{H:Hp}{s:Shared}{A:Around}{E:Value→Shared→Prop}{Q:Value→Shared→Prop}{c:Value}{b:Bool}
end
end L2
namespace L2
open PySem PySem.Spec PyProof.Rows
structure Room (k:Nat) (A:Around):Prop where
 hd:A.handled=none
 dp:A.depth+3 * k+5<recursionLimit
 un:A.units+16 * k+200<cLine
theorem Room.mono {j k:Nat}{A:Around} (r:Room k A) (h:j≤k):Room j A:=⟨r.hd,by have:=r.dp;omega,by have:=r.un;omega⟩
theorem Room.deeper {k:Nat}{A:Around} (r:Room (k+1) A) (env:Env):Room k (A.deeper env) :=
 ⟨r.hd,by have:=r.dp;show A.depth+1+3 * k+5<_;omega,by have:=r.un;show A.units+3+16 * k+200<_;omega⟩
theorem make_depth {A:Around}{C:Addr}{us:List Value}{kw:List (Str×Value)}:(A.under (.builtin "type.__call__" ⟨.ref C::us,kw⟩)).depth=A.depth+1:=by
 first | rfl | simp [Around.under,Code.weight,Code.isCreation,Code.isGuard,Code.isCaller,Code.frames,Code.isFrame,guardIds]
theorem make_units {A:Around}{C:Addr}{us:List Value}{kw:List (Str×Value)}:(A.under (.builtin "type.__call__" ⟨.ref C::us,kw⟩)).units=A.units+1:=by
 first | rfl | simp [Around.under,Code.cUnits,Code.frames,Code.isFrame]
theorem Room.make {k:Nat}{A:Around} (r:Room (k+1) A) (C:Addr) (us:List Value) (kw:List (Str×Value)):Room k (A.under (.builtin "type.__call__" ⟨.ref C::us,kw⟩)) :=
 ⟨r.hd,by have:=r.dp;rw [make_depth];omega,by have:=r.un;rw [make_units];omega⟩
theorem Room.depth {k:Nat}{A:Around} (r:Room k A):A.depth<recursionLimit:=by have:=r.dp;omega
def tNil:TA:=fun _ H Q=>Q [] H
def tCons (ta:TE) (tr:TA):TA:=fun σ H Q=>ta σ H fun x H1=>tr σ H1 fun xs H2=>Q (x::xs) H2
section
variable {X:Cx}{e:Expr}{es:List Expr}{te:TE}{t:TA}{pos:Pos}
theorem pa_nil:PA X [] tNil:=fun _ _ _ _ H Q I h=>Calls.spliced_nil ⟨[],H,I,.nil,h⟩
theorem pa_cons (ha:PE X e te) (hr:PA X es t) (hs:starEach (e::es) X.env=(false,eval e X.env)::starEach es X.env:=by rfl):PA X (e::es) (tCons te t):=by
 intro pos pins s σ H Q I h
 rw [hs]
 show wpAny _ _ (spliced ((false,eval e X.env)::backTo pos (starEach es X.env))) _ _ s
 refine Calls.spliced_cons (thn (ha pins s σ H _ I h) fun u s1 ⟨x,H1,I1,r1,q1⟩=>?_)
 exact thn (hr pos pins s1 σ H1 _ I1 q1) fun us s2 ⟨xs,H2,I2,r2,q2⟩=>⟨x::xs,H2,I2,.cons r1 r2,q2⟩
def tTup (t:TA):TE:=fun σ H Q=>t σ H fun xs H1=>xs.length≤sizeLine∧∀ p,H1 p=none→Q (.ref p) (upd H1 p (.tup xs))
def tLst (t:TA):TE:=fun σ H Q=>t σ H fun xs H1=>xs.length≤sizeLine∧∀ p,H1 p=none→Q (.ref p) (upd H1 p (.lst xs))
theorem pe_tup {x1} (h:PA X es t):PE X (.Tuple es x1 pos) (tTup t):=by
 intro pins s σ H Q I hq
 refine wpAny_Tuple_spliced (thn (h pos pins s σ H _ I hq) fun us s1 ⟨xs,H1,I1,r,z,q⟩=>⟨by rw [← r.length];exact z,?_⟩)
 have hf:H1 s1.heap.objs.size=none:=I1.hok.fresh (Nat.le_refl _)
 refine ⟨.ref s1.heap.objs.size,upd H1 s1.heap.objs.size (.tup xs),I1.laid (t':=s1.toks) (fun b u e=>Heap.get?_push_of_some _ e) (Nat.le_refl _) ?_,rfl,q _ hf⟩
 exact ⟨z,us,r,⟨_,Heap.get?_push_size _ rfl,rfl,_,rfl⟩⟩
theorem pe_lst (h:PA X es t):PE X (.List es pos) (tLst t):=by
 intro pins s σ H Q I hq
 refine wpAny_List_spliced (thn (h pos pins s σ H _ I hq) fun us s1 ⟨xs,H1,I1,r,z,q⟩=>⟨by rw [← r.length];exact z,?_⟩)
 have hf:H1 s1.heap.objs.size=none:=I1.hok.fresh (Nat.le_refl _)
 refine ⟨.ref s1.heap.objs.size,upd H1 s1.heap.objs.size (.lst xs),I1.laid (t':=s1.toks) (fun b u e=>Heap.get?_push_of_some _ e) (Nat.le_refl _) ?_,rfl,q _ hf⟩
 exact ⟨z,us,0,r,Heap.get?_push_size _ rfl⟩
end
abbrev Sp:=List V→Hp→VK→XK→Prop
abbrev CXT:=List Env→Hp→Shared→XK→Value→Shared→Prop
structure Env0 (P:Program) (w:World) (K:PySem.W.Frag) (mg:Str→Option Value) (base:Heap) (A:Around) (outer:List Env) (s:Shared) (H:Hp):Prop where
 frames:A.frames=some outer
 mod:Mod K mg base
 bs:∀ b o,base.get? b=some o→s.heap.get? b=some o∧H b=none
 bsz:base.objs.size≤s.heap.objs.size
 funs:s.heap.FunFrames base outer
 frf:∀ b∈frs outer,H b=none
 hok:HOk P w H s.heap
 bare:AllBare s.gens
def CE (outer:List Env) (P:Program) (w:World) (H:Hp) (s:Shared) (Q:VK) (u:Value) (s':Shared):Prop :=
 ∃ v H',s'.os=s.os∧AllBare s'.gens∧Un (frs outer) [] H H' s.heap s'.heap∧HOk P w H' s'.heap∧RelV v u∧Q v H'
def CR (CX:CXT) (outer:List Env) (P:Program) (w:World) (H:Hp) (s:Shared) (Q:VK) (E:XK) (r:Result) (s':Shared):Prop :=
 match r with
 | .ok (.ret u)=>CE outer P w H s Q u s'
 | .ok _=>False
 | .error e=>CX outer H s E e s'
structure FnOk (P:Program) (w:World) (K:PySem.W.Frag) (mg:Str→Option Value) (base:Heap) (CX:CXT) (k:Nat) (f:Addr) (fd:FuncData) (ps:List Str) (sp:Sp):Prop where
 len:∀ vs H Q E,sp vs H Q E→vs.length=ps.length
 run:∀ (A:Around) (outer:List Env) (s:Shared) (H:Hp) (args:Args) (us:List Value) (vs:List V) (Q:VK) (E:XK),Room k A→Env0 P w K mg base A outer s H→BindsTo s fd args (ps.zip us)→Vals vs us→sp vs H Q E →
  codeAny (model P w) A (.call (.ref f) args) (CR CX outer P w H s Q E) s
theorem Env0.make {P:Program}{w:World}{K:PySem.W.Frag}{mg:Str→Option Value}{base:Heap}{A:Around}{outer:List Env}{s:Shared}{H:Hp} (e:Env0 P w K mg base A outer s H) (C:Addr) (us:List Value) (kw:List (Str×Value)) :
  Env0 P w K mg base (A.under (.builtin "type.__call__" ⟨.ref C::us,kw⟩)) outer s H:=⟨by first | exact e.frames | (simpa [Around.under,Code.envs,Code.isFrame,pushEnvs] using e.frames),e.mod,e.bs,e.bsz,e.funs,e.frf,e.hok,e.bare⟩
section
variable {X:Cx}{pins:List (Addr×Obj)}{σ:St}{H:Hp}{s s':Shared}
theorem Inv.env0 (I:Inv X pins σ H s):Env0 X.prog X.w X.K X.mg X.base X.A X.stack s H :=
 ⟨I.ok.frames,I.ok.mod,I.bs,Nat.le_trans I.ok.bsz I.sz,I.stack,I.stkFree,I.hok,I.bare⟩
theorem Inv.after {Q:VK}{u:Value} (I:Inv X pins σ H s) (h:CE X.stack X.prog X.w H s Q u s'):EP X pins σ Q u s':=by
 obtain ⟨v,H',os,bare,un,hok,r,q⟩:=h
 obtain ⟨hh,g,d,t,os'⟩:=s'
 obtain rfl:os'=s.os:=os
 exact ⟨v,H',I.call (h':=hh) (g':=g) (d':=d) (t':=t) (ch:=[]) un hok bare (fun b z=>absurd z (by simp)),r,q⟩
end
def tCall (sp:Sp) (dvs:List V) (E:XK) (t:TA):TE:=fun σ H Q=>t σ H fun vs H1=>sp (vs++dvs) H1 Q E
def tMeth (C:Addr) (m:Str) (sp:Sp) (dvs:List V) (E:XK) (ta:TE) (t:TA):TE:=fun σ H Q=>ta σ H fun x H1=>∃ a dx fs,x=.ref a∧H1 a=some (.ins C dx fs)∧fs.lookup m=none ∧
 t σ H1 fun vs H2=>sp (x::(vs++dvs)) H2 Q E
def tMake (C:Addr) (sp:Sp) (dvs:List V) (E:XK) (t:TA):TE:=fun σ H Q=>t σ H fun vs H1=>∀ x dx,H1 x=none→H1 dx=none→dx≠x →
 sp (.ref x::(vs++dvs)) (upd (upd H1 dx (.own x)) x (.ins C dx [])) (fun v H2=>v=.non∧Q (.ref x) H2) E
def Binds (K:PySem.W.Frag) (fd:FuncData) (ps:List Str) (ds:List Value):Prop :=
 ∀ (s:Shared) (us:List Value),K.In s.heap→(us++ds).length=ps.length→BindsTo s fd ⟨us,[]⟩ (ps.zip (us++ds))
theorem Binds.all {K:PySem.W.Frag}{fd:FuncData}{ps:List Str} (h:∀ us:List Value,us.length=ps.length→bindArgs fd ⟨us,[]⟩=pure (ps.zip us)):Binds K fd ps []:=fun s us _ hl=>by
 rw [List.append_nil] at hl ⊢
 exact .of_eq (h us hl)
def Passes (CX:CXT) (X:Cx) (E:XK):Prop:=∀ (pins:List (Addr×Obj)) (σ:St) (H:Hp) (s:Shared) (e:Value) (s':Shared),Inv X pins σ H s→CX X.stack H s E e s'→X.xe e s'
section
variable {X:Cx}{CX:CXT}{k:Nat}{f C:Addr}{fd:FuncData}{ps:List Str}{sp:Sp}{dvs:List V}{ds:List Value}{E:XK}{x m:Str}{p pos apos:Pos}{e o:Expr}{es:List Expr}{ta:TE}{t:TA}
theorem run_fn {pins:List (Addr×Obj)}{σ:St}{H:Hp}{s:Shared}{Q:VK}{us:List Value}{vs:List V} (F:FnOk X.prog X.w X.K X.mg X.base CX k f fd ps sp) (hr:Room k X.A) (hb:Binds X.K fd ps ds) (hd:Vals dvs ds) (hx:Passes CX X E)
  (I:Inv X pins σ H s) (r:Vals vs us) (h:sp (vs++dvs) H Q E):wpAny (model X.prog X.w) X.A (call (.ref f) us) (EP X pins σ Q) X.xe s:=by
 have r2:Vals (vs++dvs) (us++ds):=r.append hd
 have hl:(us++ds).length=ps.length:=by rw [← r2.length];exact F.len _ _ _ _ h
 refine wpAny_call (codeAny_mono (F.run X.A X.stack s H ⟨us,[]⟩ (us++ds) (vs++dvs) Q E hr I.env0 (hb s us I.kIn hl) r2 h) fun r s' hq=>?_)
 cases r with
 | error e=>exact hx pins σ H s e s' I hq
 | ok fl =>
  cases fl with
  | ret u=>exact I.after hq
  | next=>exact False.elim hq
  | brk=>exact False.elim hq
  | cont=>exact False.elim hq
theorem pe_call (F:FnOk X.prog X.w X.K X.mg X.base CX k f fd ps sp) (hr:Room k X.A) (hg:Gl X x) (hm:X.mg x=some (.ref f)) (hk:PySem.W.keepIn X.K (.ref f)=true) (hb:Binds X.K fd ps ds) (hd:Vals dvs ds) (hx:Passes CX X E)
  (ha:PA X (e::es) t) (hdb:(x==("__debug__":Str))=false:=by decide) (he:starEach (e::es) X.env=(false,eval e X.env)::starEach es X.env:=by rfl) (hpl:(backTo pos (starEach es X.env)).any (·.1)=false:=by rfl) :
  PE X (.Call (.Name x p) (e::es) [] pos) (tCall sp dvs E t):=by
 intro pins s σ H Q I h
 refine wpAny_Call_Name_kw (ld_glob I hg hm ?_ hdb)
 refine PySem.W.callWith_K (h₀:=X.base) I.ok.mod.kin hk (thn (ha pos pins s σ H _ I h) fun us s1 ⟨vs,H1,I1,r,q⟩=>⟨I1.kIn,?_⟩) he hpl
 exact run_fn F hr hb hd hx I1 r q
theorem pe_meth {pl:Sem Bool} (he:PE X o ta) (c:Cls X.K C) (hm:Meth X.K C m f) (F:FnOk X.prog X.w X.K X.mg X.base CX k f fd ps sp) (hr:Room k X.A) (hb:Binds X.K fd ps ds) (hd:Vals dvs ds) (hx:Passes CX X E) (ha:PA X (e::es) t)
  (hst:starEach (e::es) X.env=(false,eval e X.env)::starEach es X.env:=by rfl) (hpl:(backTo pos (starEach es X.env)).any (·.1)=false:=by rfl)
  (ht:eval (.Call (.Attribute o m apos) (e::es) [] pos) X.env=(do
   let ov ← eval o X.env
   standAt apos.atName
   let (f,first) ← holding [ov] (getMethod ov m pl)
   callWith pos f first (backTo pos (starEach (e::es) X.env)) (backToKw pos (keywordEach [] X.env))):=by rfl) :
  PE X (.Call (.Attribute o m apos) (e::es) [] pos) (tMeth C m sp dvs E ta t):=by
 intro pins s σ H Q I h
 refine PySem.W.methodCall_KW (pl:=pl) (thn (he pins s σ H _ I h) fun u s1 ⟨x,H1,I1,rx,a,dx,fs,ex,ea,l,q⟩=>?_) ht
 subst ex
 obtain rfl:u=Value.ref a:=rx
 refine getmeth_ok I1 ea c hm l ?_
 refine PySem.W.callWith_K (first:=[.ref a]) (h₀:=X.base) I.ok.mod.kin hm.kp (thn (ha pos pins s1 σ H1 _ I1 q) fun us s2 ⟨vs,H2,I2,r,q2⟩=>⟨I2.kIn,?_⟩) hst hpl
 exact run_fn (us:=.ref a::us) (vs:=.ref a::vs) F hr hb hd hx I2 (.cons rfl r) q2
theorem pe_meth0 {pl:Sem Bool} (he:PE X o ta) (c:Cls X.K C) (hm:Meth X.K C m f) (F:FnOk X.prog X.w X.K X.mg X.base CX k f fd ps sp) (hr:Room k X.A) (hb:Binds X.K fd ps ds) (hd:Vals dvs ds) (hx:Passes CX X E)
  (ht:eval (.Call (.Attribute o m apos) [] [] pos) X.env=(do
   let ov ← eval o X.env
   standAt apos.atName
   let (f,first) ← holding [ov] (getMethod ov m pl)
   callWith pos f first (backTo pos (starEach [] X.env)) (backToKw pos (keywordEach [] X.env))):=by rfl) :
  PE X (.Call (.Attribute o m apos) [] [] pos) (tMeth C m sp dvs E ta tNil):=by
 intro pins s σ H Q I h
 refine PySem.W.methodCall_KW (pl:=pl) (thn (he pins s σ H _ I h) fun u s1 ⟨x,H1,I1,rx,a,dx,fs,ex,ea,l,q⟩=>?_) ht
 subst ex
 obtain rfl:u=Value.ref a:=rx
 refine getmeth_ok I1 ea c hm l ?_
 exact PySem.W.callWith_K0 (first:=[.ref a]) I1.kIn hm.kp (run_fn (us:=[.ref a]) (vs:=[.ref a]) F hr hb hd hx I1 (.cons rfl .nil) q)
structure Mk (K:PySem.W.Frag) (C f:Addr):Prop where
 makes:PySem.W.makesIn K C=true
 init:PySem.W.findIn K (.ref C) "__init__"=some (some (.ref f))
 fn:PySem.W.isFn K (.ref f)=true
 kp:PySem.W.keepIn K (.ref C)=true
theorem run_make {pins:List (Addr×Obj)}{σ:St}{H:Hp}{s:Shared}{Q:VK}{us:List Value}{vs:List V} (M:Mk X.K C f) (F:FnOk X.prog X.w X.K X.mg X.base CX k f fd ps sp) (hr:Room (k+1) X.A) (hb:Binds X.K fd ps ds) (hd:Vals dvs ds)
  (hx:Passes CX X E) (I:Inv X pins σ H s) (r:Vals vs us)
  (h:∀ x dx,H x=none→H dx=none→dx≠x→sp (.ref x::(vs++dvs)) (upd (upd H dx (.own x)) x (.ins C dx [])) (fun v H2=>v=.non∧Q (.ref x) H2) E) :
  wpAny (model X.prog X.w) X.A (call (.ref C) us) (EP X pins σ Q) X.xe s:=by
 have hq:=h (s.heap.objs.size+1) s.heap.objs.size (I.hok.fresh (Nat.le_succ _)) (I.hok.fresh (Nat.le_refl _)) (Nat.ne_of_lt (Nat.lt_succ_self _))
 have I2:=Inv.made (C:=C) I
 have r2:Vals (V.ref (s.heap.objs.size+1)::(vs++dvs)) (Value.ref (s.heap.objs.size+1)::(us++ds)):=.cons rfl (r.append hd)
 have hl:(Value.ref (s.heap.objs.size+1)::us++ds).length=ps.length:=by
  have e:=r2.length
  rw [F.len _ _ _ _ hq] at e
  exact e.symm
 refine wpAny_call (make_map (f:=f) I.kIn M.makes M.init (beq_iff_eq.mp M.fn) (codeAny_mono (F.run _ X.stack _ _ ⟨Value.ref (s.heap.objs.size+1)::us,[]⟩ (Value.ref (s.heap.objs.size+1)::(us++ds)) _ _ E (hr.make C us [])
  (I2.env0.make C us []) (hb _ (Value.ref (s.heap.objs.size+1)::us) I2.kIn hl) r2 hq) fun r s' hq'=>?_))
 cases r with
 | error e=>exact hx pins σ _ _ e s' I2 hq'
 | ok fl =>
  cases fl with
  | ret u =>
   obtain ⟨v,H',I3,rv,ev,q3⟩:=I2.after hq'
   subst ev
   exact ⟨rv,⟨V.ref (s.heap.objs.size+1),H',I3,rfl,q3⟩⟩
  | next=>exact False.elim hq'
  | brk=>exact False.elim hq'
  | cont=>exact False.elim hq'
theorem pe_make (M:Mk X.K C f) (F:FnOk X.prog X.w X.K X.mg X.base CX k f fd ps sp) (hr:Room (k+1) X.A) (hg:Gl X x) (hm:X.mg x=some (.ref C)) (hb:Binds X.K fd ps ds) (hd:Vals dvs ds) (hx:Passes CX X E)
  (ha:PA X (e::es) t) (hdb:(x==("__debug__":Str))=false:=by decide) (he:starEach (e::es) X.env=(false,eval e X.env)::starEach es X.env:=by rfl) (hpl:(backTo pos (starEach es X.env)).any (·.1)=false:=by rfl) :
  PE X (.Call (.Name x p) (e::es) [] pos) (tMake C sp dvs E t):=by
 intro pins s σ H Q I h
 refine wpAny_Call_Name_kw (ld_glob I hg hm ?_ hdb)
 refine PySem.W.callWith_K (h₀:=X.base) I.ok.mod.kin M.kp (thn (ha pos pins s σ H _ I h) fun us s1 ⟨vs,H1,I1,r,q⟩=>⟨I1.kIn,?_⟩) he hpl
 exact run_make M F hr hb hd hx I1 r q
end
section
variable {X:Cx}{CX:CXT}{k:Nat}{f C:Addr}{fd:FuncData}{ps ks:List Str}{sp:Sp}{E:XK}{x m:Str}{p pos apos kpos:Pos}{e o:Expr}{es:List Expr}{kws:List Keyword}{te ta:TE}{t tk:TA}{nm:Option Str}
variable {g:List Value→List Value→List Value}{gV:List V→List V→List V}
end
structure FnScope (N P:List Str) (sc:Scope):Prop where
 kind:sc.kind=.function
 co:sc.isCoroutine=false
 gen:sc.isGenerator=false
 nd:N.Nodup
 pre:N.take P.length=P
 par:∀ x∈P,sc.names.lookup x=some .local∨sc.names.lookup x=some .cell
 nofree:∀ y∈sc.names,y.2≠.free
theorem bindL_out {kindOf:Str→Option NameKind}{x:Str}:∀ {binds:List (Str×Value)}{m:Str→Option Value},(∀ v,(x,v) ∉ binds)→bindL kindOf binds m x=m x
 | [],_,_=>rfl
 | (n,v)::r,m,h=>by
  unfold bindL
  rw [bindL_out fun w hw=>h w (List.mem_cons_of_mem _ hw)]
  split
  ·have:x≠n:=by rintro rfl;exact h v List.mem_cons_self
   simp [this]
  ·rfl
theorem bindC_out {kindOf:Str→Option NameKind}{x:Str}:∀ {binds:List (Str×Value)}{m:Str→Option Value},(∀ v,(x,v) ∉ binds)→bindC kindOf binds m x=m x
 | [],_,_=>rfl
 | (n,v)::r,m,h=>by
  unfold bindC
  rw [bindC_out fun w hw=>h w (List.mem_cons_of_mem _ hw)]
  split
  ·rfl
  ·have:x≠n:=by rintro rfl;exact h v List.mem_cons_self
   simp [this]
theorem bindL_get {kindOf:Str→Option NameKind}{x:Str}{v:Value}:∀ {P:List Str}{vs:List Value}{i:Nat}{m:Str→Option Value},P.Nodup→P[i]?=some x→vs[i]?=some v→kindOf x=some .local →
  bindL kindOf (P.zip vs) m x=some v
 | [],_,_,_,_,h,_,_=>by simp at h
 | _::_,[],_,_,_,_,h,_=>by simp at h
 | p::P,w::vs,0,m,nd,h1,h2,hk=>by
  simp at h1 h2;subst h1;subst h2
  show bindL kindOf ((p,w)::P.zip vs) m p=_
  unfold bindL
  rw [bindL_out fun v hv=>(List.nodup_cons.mp nd).1 (List.of_mem_zip hv).1,if_pos hk]
  simp
 | p::P,w::vs,i+1,m,nd,h1,h2,hk=>by
  show bindL kindOf ((p,w)::P.zip vs) m x=_
  unfold bindL
  exact bindL_get (i:=i) (List.nodup_cons.mp nd).2 (by simpa using h1) (by simpa using h2) hk
theorem bindC_get {kindOf:Str→Option NameKind}{x:Str}{v:Value}:∀ {P:List Str}{vs:List Value}{i:Nat}{m:Str→Option Value},P.Nodup→P[i]?=some x→vs[i]?=some v→kindOf x≠some .local →
  bindC kindOf (P.zip vs) m x=some v
 | [],_,_,_,_,h,_,_=>by simp at h
 | _::_,[],_,_,_,_,h,_=>by simp at h
 | p::P,w::vs,0,m,nd,h1,h2,hk=>by
  simp at h1 h2;subst h1;subst h2
  show bindC kindOf ((p,w)::P.zip vs) m p=_
  unfold bindC
  rw [bindC_out fun v hv=>(List.nodup_cons.mp nd).1 (List.of_mem_zip hv).1,if_neg hk]
  simp
 | p::P,w::vs,i+1,m,nd,h1,h2,hk=>by
  show bindC kindOf ((p,w)::P.zip vs) m x=_
  unfold bindC
  exact bindC_get (i:=i) (List.nodup_cons.mp nd).2 (by simpa using h1) (by simpa using h2) hk
def start (N:List Str) (vs:List V):St:=vs.map some++List.replicate (N.length-vs.length) none
def cxOf (CX:CXT) (P:Program) (w:World) (K:PySem.W.Frag) (mg:Str→Option Value) (base:Heap) (N:List Str) (qual:Str) (scope:Scope) (f:Addr) (cd:Value) (A:Around) (outer:List Env) (s:Shared) (H:Hp) (E:XK):Cx where
 prog:=P
 w:=w
 K:=K
 mg:=mg
 base:=base
 A:=A.deeper (envOfC qual scope s.heap.objs.size f cd)
 N:=N
 s_0:=s
 H_0:=H
 env:=envOfC qual scope s.heap.objs.size f cd
 outer:=outer
 stack:=envOfC qual scope s.heap.objs.size f cd::outer
 ex:=[]
 calm:=true
 fn:=fun _=>true
 pn:=[]
 xe:=fun e s'=>wpAny (model P w) (A.deeper (envOfC qual scope s.heap.objs.size f cd)) (leaving (envOfC qual scope s.heap.objs.size f cd) e) (fun _ s''=>CX outer H s E e s'') (fun e' s''=>CX outer H s E e' s'') s'
theorem cell_has {sc:Scope}{n:Nat}{x:Str} (h:sc.names.lookup x=some .cell):∃ c,(cellsFrom n sc.names []).lookup x=some c:=by
 have q:=PySem.W.cellsFrom_some sc.names n [] (.inl h)
 exact Option.isSome_iff_exists.mp q
theorem inv_start {CX:CXT}{P:Program}{w:World}{K:PySem.W.Frag}{mg:Str→Option Value}{base:Heap}{N ps:List Str}{qual:Str}{scope:Scope}{f:Addr}{cd:Value}{A:Around}{outer:List Env}{s s1:Shared}{H:Hp}{E:XK}{us:List Value}{vs:List V}
  (S:FnScope N ps scope) (hd:A.handled=none) (e0:Env0 P w K mg base A outer s H) (hl:vs.length=ps.length) (r:Vals vs us)
  (x:InCallC s s.heap.objs.size (bindL (envOfC qual scope s.heap.objs.size f cd).kindOf (ps.zip us) fun _=>none) (cellsFrom (s.heap.objs.size+1) scope.names []) (bindC (envOfC qual scope s.heap.objs.size f cd).kindOf (ps.zip us) fun _=>none) s1) :
  Inv (cxOf CX P w K mg base N qual scope f cd A outer s H E) [] (start N vs) H s1:=by
 have hpl:ps.length≤N.length:=by have:=congrArg List.length S.pre;rw [List.length_take] at this;omega
 obtain ⟨h1,tk,rfl,hk⟩:=x.done
 have noA:∀ b:Addr,b ∉ (cxOf CX P w K mg base N qual scope f cd A outer s H E).ex:=fun b z=>absurd (show b∈([]:List Addr) from z) (by simp)
 refine ⟨⟨e0.mod,S.kind,rfl,rfl,Nat.le_refl _,fun y z c h1 h2=>?_,fun y hy=>?_,fun y c _ h=>?_,fun _=>hd,Around.frames_deeper e0.frames,.inr ⟨rfl,rfl⟩,fun b z=>absurd z (noA b),e0.bs,e0.bsz,fun b _ _=>noA b,fun b z=>absurd z (noA b),e0.funs,e0.frf⟩,
  rfl,e0.bare,Un.kept hk,⟨_,x.toInCall.ns,fun i y v h1 h2 h3=>?_⟩,fun y c h=>⟨_,x.cell y c h⟩,e0.hok.fresh (Nat.le_refl _),fun y c h=>?_,fun p hp=>absurd (show p∈([]:List (Addr×Obj)) from hp) (by simp),e0.hok.kept hk,?_⟩
 ·exact name_of_addr x.apart (PySem.mem_of_lookup h1) (PySem.mem_of_lookup h2)
 ·have hy:scope.names.lookup y=some .cell∨scope.names.lookup y=some .free:=hy
  rcases hy with hy | hy
  ·exact cell_has hy
  ·exact absurd rfl (S.nofree _ (PySem.mem_of_lookup hy))
 ·exact Nat.le_of_lt (x.above y c (PySem.mem_of_lookup h))
 ·have hi:i<vs.length:=by
   unfold start at h2
   by_cases hi:i<vs.length
   ·exact hi
   ·rw [List.getElem?_append_right (by simpa using hi)] at h2
    rw [List.getElem?_replicate] at h2
    split at h2 <;> cases h2
  have ha:vs[i]?=some v:=by
   unfold start at h2
   rw [List.getElem?_append_left (by simpa using hi),List.getElem?_map] at h2
   cases e:vs[i]? with
   | none=>rw [e] at h2;cases h2
   | some a=>rw [e] at h2;cases h2;rfl
  obtain ⟨u,hu,rv⟩:=r.get ha
  have hp:ps[i]?=some y:=by
   rw [← S.pre,List.getElem?_take_of_lt (by omega)];exact h1
  have ndP:ps.Nodup:=by rw [← S.pre];exact S.nd.sublist (List.take_sublist _ _)
  refine ⟨u,rv,?_⟩
  rcases S.par y (List.mem_of_getElem? hp) with k | k
  ·exact .inl ⟨k,bindL_get ndP hp hu k⟩
  ·obtain ⟨c,e⟩:=cell_has (n:=s.heap.objs.size+1) k
   refine .inr ⟨.inl k,c,e,?_⟩
   have q:=x.cell y c e
   rw [bindC_get ndP hp hu (by show scope.names.lookup y≠_;rw [k];decide)] at q
   exact q
 ·exact e0.hok.fresh (Nat.le_of_lt (x.above y c (PySem.mem_of_lookup h)))
 ·unfold start
  show _=N.length
  rw [List.length_append,List.length_map,List.length_replicate]
  omega
theorem fn_of {CX:CXT}{P:Program}{w:World}{K:PySem.W.Frag}{mg:Str→Option Value}{base:Heap}{k:Nat}{f:Addr}{name qual:Str}{params:Arguments}{body:List Stmt}{scope:Scope}{dV kV doc pm cdv ct oc:Value}{an od:Option Addr}
  {osl:Array (Option Value)}{N ps:List Str}{sp:Sp} (lk:K.lookup f=some ⟨oc,od,.func (PySem.W.fnOf name qual params body scope dV kV doc pm an cdv ct),osl⟩) (hcd:PySem.W.codeIn K cdv qual=true) (S:FnScope N ps scope)
  (len:∀ vs H Q E,sp vs H Q E→vs.length=ps.length)
  (hbody:∀ (A:Around) (outer:List Env) (s:Shared) (H:Hp) (vs:List V) (Q:VK) (E:XK),Room k (A.deeper (envOfC qual scope s.heap.objs.size f cdv))→sp vs H Q E →
   ∃ t,PSs (cxOf CX P w K mg base N qual scope f cdv A outer s H E) body t∧t { nx:=fun _ H'=>Q .non H',rt:=Q } (start N vs) H) :
  FnOk P w K mg base CX (k+1) f (PySem.W.fnOf name qual params body scope dV kV doc pm an cdv ct) ps sp:=by
 refine ⟨len,fun A outer s H args us vs Q E hr e0 hb r hsp=>?_⟩
 have hl:=len _ _ _ _ hsp
 have KX:K.In s.heap:=e0.mod.kin.keeps fun b o e=>(e0.bs b o e).1
 have lim:s.heap.NoLimit:=e0.mod.nolimit.keeps fun b o e=>(e0.bs b o e).1
 have hkind:∀ y∈ps.zip us,scope.names.lookup y.1=some .local∨(scope.names.lookup y.1=some .cell∧((cellsFrom (s.heap.objs.size+1) scope.names []).lookup y.1).isSome=true):=fun ⟨n,v⟩ hy=>by
  rcases S.par n (List.of_mem_zip hy).1 with q | q
  ·exact .inl q
  ·exact .inr ⟨q,PySem.W.cellsFrom_some _ _ _ (.inl q)⟩
 refine codeAny_call_function hr.depth (KX _ _ lk) rfl S.co S.gen rfl (PySem.W.codeRec_of KX hcd) (hb _ _ _ _ ?_)
 refine wpAny_newFunctionEnv_cells S.kind hkind fun env he s1 x=>?_
 subst he
 refine ⟨lim.keeps x.toInCall.keep,codeAny_func ?_⟩
 obtain ⟨t,ht,hq⟩:=hbody A outer s H vs Q E (hr.deeper _) hsp
 have I:Inv (cxOf CX P w K mg base N qual scope f cdv A outer s H E) [] (start N vs) H s1:=inv_start S hr.hd e0 hl r x
 refine wpAny_mono (ht [] s1 (start N vs) H _ I hq) (fun fl s' hs=>?_) fun e s' hs=>hs
 have fin:∀ {σ':St}{H':Hp}{v:V}{u:Value},Inv (cxOf CX P w K mg base N qual scope f cdv A outer s H E) [] σ' H' s'→RelV v u→Q v H'→CE outer P w H s Q u s' :=
  fun {σ' H' v u} J rv q=>⟨v,H',J.os,J.bare,J.base,J.hok,rv,q⟩
 cases fl with
 | ret u =>
  obtain ⟨v,σ',H',J,rv,q⟩:=hs
  exact fin J rv q
 | next =>
  obtain ⟨σ',H',J,q⟩:=hs
  exact fin (v:=V.non) (u:=Value.none) J rfl q
 | brk =>
  obtain ⟨_,_,_,q⟩:=hs
  exact False.elim q
 | cont =>
  obtain ⟨_,_,_,q⟩:=hs
  exact False.elim q
end L2
namespace L2
open PySem PySem.Spec PyProof.Rows
section
variable {X:Cx}{x:Str}{p pos:Pos}{e:Expr}{es:List Expr}{t:TA}{id T:String}{r:List V→Hp→VK→Prop}
def tCB (r:List V→Hp→VK→Prop) (t:TA):TE:=fun σ H Q=>t σ H fun vs H1=>r vs H1 Q
theorem pe_callB (hc:CallR X (.builtin id) r) (hg:Gl X x) (hm:X.mg x=none) (hv:bootBuiltins x=some (.builtin id)) (ha:PA X (e::es) t) (hn:x≠"__name__":=by decide) (hdb:(x==("__debug__":Str))=false:=by decide)
  (he:starEach (e::es) X.env=(false,eval e X.env)::starEach es X.env:=by rfl) (hpl:(backTo pos (starEach es X.env)).any (·.1)=false:=by rfl):PE X (.Call (.Name x p) (e::es) [] pos) (tCB r t):=by
 intro pins s σ H Q I h
 refine wpAny_Call_Name_kw (ld_blt I hg hm hv ?_ hn hdb)
 exact PyProof.Rows.callWith_builtin1 (thn (ha pos pins s σ H _ I h) fun us s1 ⟨vs,H1,I1,r1,q1⟩=>hc pins s1 σ H1 vs us Q I1 r1 q1) he hpl
end
end L2
namespace HT
open PySem PyProof.Rows
section
open PySem.SeqAt
open PySem.AutoSeq1 (wpAny_loadPart')
open PySem.MeetsSeq PySem.MeetsSeq2 PySem.MeetsSeq3
end
section
variable {prog:Program}{w:World}{A:Around}{E:Value→Shared→Prop}{s:Shared}
def sIx (n d:Nat):Option Int→Nat
 | none=>d
 | some v=>if v<0 then (v+(n:Int)).toNat else min v.toNat n
theorem sIx_none (n d:Nat):sIx n d none=d:=rfl
theorem sIx_nat (n d k:Nat):sIx n d (some (k:Int))=min k n:=by
 show (if (k:Int)<0 then ((k:Int)+(n:Int)).toNat else min (k:Int).toNat n)=min k n
 rw [if_neg (by omega),Int.toNat_natCast]
end
end HT
namespace L2
open PySem PySem.Spec PyProof.Rows
abbrev TO:=St→Hp→(Option Int→Hp→Prop)→Prop
def PO (X:Cx) (e:Option Expr) (t:TO):Prop :=
 ∀ (pins:List (Addr×Obj)) (s:Shared) (σ:St) (H:Hp) (Q:Option Int→Hp→Prop),Inv X pins σ H s→t σ H Q →
  wpAny (model X.prog X.w) X.A (evalPart e X.env) (fun u s'=>∃ o H',Inv X pins σ H' s'∧IsPart u o∧Q o H') X.xe s
def tNoPart:TO:=fun _ H Q=>Q none H
def tPart (t:TE):TO:=fun σ H Q=>t σ H fun x H1=>∃ i,x=.int i∧Q (some i) H1
section
variable {X:Cx}{e:Expr}{te:TE}{lo hi:Option Expr}{tl th:TO}{pos p2:Pos}
theorem po_none:PO X none tNoPart:=by
 intro pins s σ H Q I h
 rw [evalPart_none]
 exact wpAny_pure ⟨none,H,I,.none,h⟩
theorem po_some (h:PE X e te):PO X (some e) (tPart te):=by
 intro pins s σ H Q I hw
 rw [evalPart_some]
 refine thn (h pins s σ H _ I hw) fun u s1 ⟨x,H1,I1,r1,q1⟩=>?_
 obtain ⟨i,rfl,q⟩:=q1
 obtain ⟨t,rfl⟩:=r1
 exact ⟨some i,H1,I1,.int i t,q⟩
def SlR (X:Cx) (r:V→Option Int→Option Int→Hp→VK→Prop):Prop :=
 ∀ (pins:List (Addr×Obj)) (s:Shared) (σ:St) (H:Hp) (x:V) (v vl vu:Value) (lo hi:Option Int) (sl:Addr) (Q:VK),Inv X pins σ H s→RelV x v→s.heap.IsSliceOf sl vl vu .none→IsPart vl lo→IsPart vu hi→r x lo hi H Q →
  ∃ T id,typeLookup (.type T) "__getitem__"=pure (some (.builtin id))∧s.TypeIs v T∧wpAny (model X.prog X.w) X.A (getItem v (.ref sl)) (EP X pins σ Q) X.xe s
def tSl (r:V→Option Int→Option Int→Hp→VK→Prop) (te:TE) (tl th:TO):TE:=fun σ H Q=>te σ H fun x H1=>tl σ H1 fun l H2=>th σ H2 fun u H3=>r x l u H3 Q
theorem pe_slice {r:V→Option Int→Option Int→Hp→VK→Prop} (hr:SlR X r) (he:PE X e te) (hl:PO X lo tl) (hu:PO X hi th):PE X (.Subscript e (.Slice lo hi none p2) pos) (tSl r te tl th):=by
 intro pins s σ H Q I h
 refine Subscript_ (thn (he pins s σ H _ I h) fun v s1 ⟨x,H1,I1,r1,q1⟩=>?_)
 refine wpAny_Slice (thn (hl pins s1 σ H1 _ I1 q1) fun vl s2 ⟨l,H2,I2,pl,q2⟩=>thn (hu pins s2 σ H2 _ I2 q2) fun vu s3 ⟨u,H3,I3,pu,q3⟩=>?_)
 rw [evalPart_none]
 refine wpAny_pure ?_
 have I4:Inv X pins σ H3 { s3 with heap:=s3.heap.push { cls:=.type "slice",data:=.fields #[vl,vu,.none] } }:=I3.kept (t':=s3.toks) fun b ob q=>Heap.get?_push_of_some _ q
 obtain ⟨T,id,hT,ht,hg⟩:=hr pins { s3 with heap:=s3.heap.push { cls:=.type "slice",data:=.fields #[vl,vu,.none] } } σ H3 x v vl vu l u s3.heap.objs.size Q I4 r1 (Heap.IsSliceOf.new ..) pl pu q3
 show wpAny (model X.prog X.w) X.A (subscriptTail e (.Slice lo hi none p2) v (.ref s3.heap.objs.size)) (EP X pins σ Q) X.xe { s3 with heap:=s3.heap.push { cls:=.type "slice",data:=.fields #[vl,vu,.none] } }
 exact tail_any (ops:=[.ref s3.heap.objs.size,v]) ht hT hg (by with_unfolding_all rfl)
def cutV (xs:List V) (lo hi:Option Int):List V:=(xs.drop (HT.sIx xs.length 0 lo)).take (HT.sIx xs.length xs.length hi-HT.sIx xs.length 0 lo)
theorem cutV_length (xs:List V) (lo hi:Option Int):(cutV xs lo hi).length≤xs.length:=by
 unfold cutV
 rw [List.length_take,List.length_drop]
 omega
end
end L2
namespace L2
open PySem PySem.Spec PyProof.Rows
def ixN (n:Nat) (i:Int):Option Nat:=if 0≤i then (if i<n then some i.toNat else none) else if -(n:Int)≤i then some (i+n).toNat else none
def atI {α:Type} (xs:List α) (i:Int):Option α:=(ixN xs.length i).bind fun j=>xs[j]?
theorem ixN_seq {n:Nat}{i:Int}{j:Nat} (h:ixN n i=some j):seqIndex? i n=some j∧j<n∧-(n:Int)≤i∧i<n:=by
 unfold ixN at h
 by_cases h0:0≤i
 ·rw [if_pos h0] at h
  by_cases h1:i<n
  ·rw [if_pos h1] at h
   have e:i.toNat=j:=Option.some.inj h
   exact ⟨by rw [seqIndex_of h0 h1,e],by omega,by omega,h1⟩
  ·rw [if_neg h1] at h;cases h
 ·rw [if_neg h0] at h
  by_cases h1:-(n:Int)≤i
  ·rw [if_pos h1] at h
   have e:(i+n).toNat=j:=Option.some.inj h
   exact ⟨by rw [seqIndex_neg (by omega) h1,e],by omega,h1,by omega⟩
  ·rw [if_neg h1] at h;cases h
theorem atI_get {α:Type}{xs:List α}{i:Int}{v:α} (h:atI xs i=some v):∃ j,seqIndex? i xs.length=some j∧xs[j]?=some v∧j<xs.length∧-(xs.length:Int)≤i∧i<xs.length:=by
 unfold atI at h
 cases e:ixN xs.length i with
 | none=>rw [e] at h;cases h
 | some j =>
  rw [e] at h
  obtain ⟨h1,h2,h3,h4⟩:=ixN_seq e
  exact ⟨j,h1,h,h2,h3,h4⟩
theorem atI_nat {α:Type}{xs:List α}{j:Nat}{v:α} (h:xs[j]?=some v):atI xs (j:Int)=some v:=by
 have hj:j<xs.length:=(List.getElem?_eq_some_iff.mp h).1
 have e:ixN xs.length (j:Int)=some j:=by
  unfold ixN
  rw [if_pos (by omega),if_pos (by omega)];simp
 unfold atI;rw [e];exact h
def PlainIx (b:Expr):Prop:=∀ o i,subscripted b false o i=operate [o,i] (getItem o i)
def IxR (X:Cx) (r:R2):Prop :=
 ∀ (value slice:Expr) (pins:List (Addr×Obj)) (s:Shared) (σ:St) (H:Hp) (x y:V) (v u:Value) (Q:VK),Inv X pins σ H s→RelV x v→RelV y u→r x y H Q →
  subscripted slice false v u=operate [v,u] (getItem v u)→wpAny (model X.prog X.w) X.A (subscriptTail value slice v u) (EP X pins σ Q) X.xe s
def MtR (X:Cx) (id:String) (r:V→List V→Hp→VK→Prop):Prop :=
 ∀ (pins:List (Addr×Obj)) (s:Shared) (σ:St) (H:Hp) (x:V) (xs:List V) (v:Value) (us:List Value) (Q:VK),Inv X pins σ H s→RelV x v→Vals xs us→r x xs H Q →
  wpAny (model X.prog X.w) X.A (call (.builtin id) (v::us)) (EP X pins σ Q) X.xe s
section
variable {X:Cx}{a b:Expr}{ta tb:TE}{pos:Pos}
theorem pe_ix {r:R2} (hr:IxR X r) (ha:PE X a ta) (hb:PE X b tb) (hs:PlainIx b):PE X (.Subscript a b pos) (tOp r ta tb):=by
 intro pins s σ H Q I h
 exact Subscript_ (binT ha hb I h fun v u s2 x y H2 I2 rx ry q=>hr a b pins s2 σ H2 x y v u Q I2 rx ry q (hs _ _))
def rIxL (K:PySem.W.Frag):R2:=fun x y H Q=>∃ p xs i v,x=.ref p∧y=.int i∧SqL K H p xs∧atI xs i=some v∧Q v H
def rIxT (K:PySem.W.Frag):R2:=fun x y H Q=>∃ p xs i v,x=.ref p∧y=.int i∧SqT K H p xs∧atI xs i=some v∧Q v H
theorem ix_list:IxR X (rIxL X.K):=by
 intro value slice pins s σ H x y v u Q I rx ry h hs
 obtain ⟨p,xs,i,z,rfl,rfl,hq,he,q⟩:=h
 cases rx
 obtain ⟨t,rfl⟩:=ry
 obtain ⟨its,r,pl,hz⟩:=I.list hq
 obtain ⟨j,h1,h2,h3,h4,h5⟩:=atI_get he
 obtain ⟨w,ew,rw'⟩:=r.get h2
 have hl:=r.length
 have hn:=line63
 have fin:EP X pins σ Q w s:=⟨z,H,I,rw',q⟩
 by_cases h0:0≤i
 ·have hj:i.toNat=j:=by
   rw [seqIndex_of h0 h5] at h1
   exact Option.some.inj h1
  exact item_listR pl.isList h0 (by omega) (by rw [hj];simpa using ew) fin hs
 ·have hj:(i+(its.toArray.size:Int)).toNat=j:=by
   rw [seqIndex_neg (by omega) h4] at h1
   rw [List.size_toArray,← hl]
   exact Option.some.inj h1
  exact subscriptTail_builtinR (x:=w) pl.isList.typeIs slot_list_getitem.lookup
   (wpAny_getItem_list_neg (Q:=fun r s'=>r=w∧EP X pins σ Q r s') pl.isList (by omega) (by rw [List.size_toArray] <;> omega) (by omega) (by rw [hj];simpa using ew) ⟨rfl,fin⟩) hs
theorem ix_tup:IxR X (rIxT X.K):=by
 intro value slice pins s σ H x y v u Q I rx ry h hs
 obtain ⟨p,xs,i,z,rfl,rfl,hq,he,q⟩:=h
 cases rx
 obtain ⟨t,rfl⟩:=ry
 obtain ⟨its,r,pl,hz⟩:=I.tuple hq
 obtain ⟨j,h1,h2,h3,h4,h5⟩:=atI_get he
 obtain ⟨w,ew,rw'⟩:=r.get h2
 have hl:=r.length
 have hn:=line63
 have fin:EP X pins σ Q w s:=⟨z,H,I,rw',q⟩
 exact subscriptTail_builtinR (x:=w) pl.typeIs slot_tuple_getitem.lookup
  (getItem_tuple (j:=j) (Q:=fun r s'=>r=w∧EP X pins σ Q r s') pl (by omega) (by omega) (by rw [List.size_toArray,← hl];exact h1) (by simpa using ew) ⟨rfl,fin⟩) hs
theorem slice_bounds (lo hi:Option Int) (n:Nat):(sliceBounds lo hi none n).1=((HT.sIx n 0 lo:Nat):Int)∧(sliceBounds lo hi none n).2.1=((HT.sIx n n hi:Nat):Int)∧(sliceBounds lo hi none n).2.2=1:=by
 refine ⟨?_,?_,rfl⟩
 ·cases lo with
  | none=>simp [sliceBounds,HT.sIx]
  | some i =>
   simp only [sliceBounds,HT.sIx,Option.getD_none,show (1:Int) > 0 by decide,if_true]
   by_cases h:i<0
   ·simp only [h,if_true] <;> omega
   ·simp only [h,if_false] <;> omega
 ·cases hi with
  | none=>simp [sliceBounds,HT.sIx]
  | some i =>
   simp only [sliceBounds,HT.sIx,Option.getD_none,show (1:Int) > 0 by decide,if_true]
   by_cases h:i<0
   ·simp only [h,if_true] <;> omega
   ·simp only [h,if_false] <;> omega
theorem slicePick_cut (its:List Value) (lo hi:Option Int):slicePick its.toArray lo hi none=((its.drop (HT.sIx its.length 0 lo)).take (HT.sIx its.length its.length hi-HT.sIx its.length 0 lo)).toArray:=by
 obtain ⟨h1,h2,h3⟩:=slice_bounds lo hi its.toArray.size
 unfold slicePick
 rw [h1,h2,h3]
 simp only [sliceRange_one,pick_run,List.size_toArray] <;> rfl
def rSlL (K:PySem.W.Frag):V→Option Int→Option Int→Hp→VK→Prop:=fun x lo hi H Q=>∃ a xs,x=.ref a∧SqL K H a xs∧∀ p,H p=none→Q (.ref p) (upd H p (.lst (cutV xs lo hi)))
theorem sl_list:SlR X (rSlL X.K):=by
 intro pins s σ H x v vl vu lo hi sl Q I rx hs pl pu h
 obtain ⟨a,xs,rfl,hx,q⟩:=h
 cases rx
 obtain ⟨its,r,ht,hz⟩:=I.list hx
 have hlen:=r.length
 refine ⟨"list",_,slot_list_getitem.lookup,ht.isList.typeIs,?_⟩
 refine wpAny_getItem_list_slice ht.isList hs pl pu .none (by simp) ?_ (by rw [List.size_toArray] <;> omega)
 rw [slicePick_cut,← hlen]
 refine ⟨.ref s.heap.objs.size,_,I.laid (t':=s.toks) (o:=.lst (cutV xs lo hi)) (fun b ob q=>Heap.get?_push_of_some _ q) (Nat.le_refl _) ?_,rfl,q _ (I.hok.fresh (Nat.le_refl _))⟩
 exact ⟨Nat.le_trans (cutV_length xs lo hi) hz,_,0,(r.drop (HT.sIx xs.length 0 lo)).take (HT.sIx xs.length xs.length hi-HT.sIx xs.length 0 lo),Heap.get?_push_size _ rfl⟩
def flatV:V→Bool
 | .non=>true
 | .bl _=>true
 | .int _=>true
 | .str _=>true
 | _=>false
def eqV:V→V→Bool
 | .non,.non=>true
 | .bl a,.bl b=>a==b
 | .bl a,.int b=>(if a then 1 else 0)==b
 | .int a,.bl b=>a==(if b then 1 else 0)
 | .int a,.int b=>a==b
 | .str a,.str b=>a==b
 | _,_=>false
theorem eqAt_V {A:Around}{s:Shared}{y x:V}{u v:Value} (ry:RelV y u) (rx:RelV x v) (fy:flatV y=true) (fx:flatV x=true):SeqAt.EqAt A s u v (eqV y x):=by
 cases y with
 | non =>
  cases ry
  cases x with
  | non=>cases rx;exact SeqAt.EqAt.same _
  | bl b=>cases rx;exact SeqAt.EqAt.none_bool b
  | int b=>obtain ⟨t,rfl⟩:=rx;exact SeqAt.EqAt.none_int b t
  | str b=>obtain ⟨t,rfl⟩:=rx;exact SeqAt.EqAt.none_str b t
  | _=>exact absurd (show false=true from fx) Bool.false_ne_true
 | bl a =>
  cases ry
  cases x with
  | non=>cases rx;exact SeqAt.EqAt.bool_none a
  | bl b=>cases rx;exact SeqAt.EqAt.bool_bool a b
  | int b=>obtain ⟨t,rfl⟩:=rx;exact SeqAt.EqAt.bool_int a b t
  | str b=>obtain ⟨t,rfl⟩:=rx;exact SeqAt.EqAt.bool_str a b t
  | _=>exact absurd (show false=true from fx) Bool.false_ne_true
 | int a =>
  obtain ⟨t',rfl⟩:=ry
  cases x with
  | non=>cases rx;exact SeqAt.EqAt.int_none a t'
  | bl b=>cases rx;exact SeqAt.EqAt.int_bool a t' b
  | int b=>obtain ⟨t,rfl⟩:=rx;exact SeqAt.EqAt.int_int a t' b t
  | str b=>obtain ⟨t,rfl⟩:=rx;exact SeqAt.EqAt.int_str a t' b t
  | _=>exact absurd (show false=true from fx) Bool.false_ne_true
 | str a =>
  obtain ⟨t',rfl⟩:=ry
  cases x with
  | non=>cases rx;exact SeqAt.EqAt.str_none a t'
  | bl b=>cases rx;exact SeqAt.EqAt.str_bool a t' b
  | int b=>obtain ⟨t,rfl⟩:=rx;exact SeqAt.EqAt.str_int a t' b t
  | str b=>obtain ⟨t,rfl⟩:=rx;exact SeqAt.EqAt.str_str a t' b t
  | _=>exact absurd (show false=true from fx) Bool.false_ne_true
 | _=>exact absurd (show false=true from fy) Bool.false_ne_true
def eqU (x:V) (u:Value):Bool:=match u with
 | .none=>eqV .non x
 | .bool b=>eqV (.bl b) x
 | .int i _=>eqV (.int i) x
 | .str z _=>eqV (.str z) x
 | _=>false
theorem eqU_of {x y:V}{u:Value} (r:RelV y u) (f:flatV y=true):eqU x u=eqV y x:=by
 cases y with
 | non=>cases r;rfl
 | bl b=>cases r;rfl
 | int i=>obtain ⟨t,rfl⟩:=r;rfl
 | str z=>obtain ⟨t,rfl⟩:=r;rfl
 | _=>exact absurd (show false=true from f) Bool.false_ne_true
theorem any_eqU {x:V}:∀ {xs:List V}{us:List Value},Vals xs us→xs.all flatV=true→us.any (eqU x)=xs.any fun y=>eqV y x
 | _,_,.nil,_=>rfl
 | y::xs,u::us,.cons r t,f=>by
  rw [List.all_cons,Bool.and_eq_true] at f
  rw [List.any_cons,List.any_cons,eqU_of r f.1,any_eqU t f.2]
theorem mem_eqAt {A:Around}{s:Shared}{x:V}{v:Value} (rx:RelV x v) (fx:flatV x=true):∀ {xs:List V}{us:List Value},Vals xs us→xs.all flatV=true→∀ u∈us,SeqAt.EqAt A s u v (eqU x u)
 | _,_,.nil,_=>fun u hu=>by cases hu
 | y::xs,u::us,.cons r t,f=>fun u' hu=>by
  rw [List.all_cons,Bool.and_eq_true] at f
  rcases List.mem_cons.mp hu with rfl | hu
  ·rw [eqU_of r f.1];exact eqAt_V r rx f.1 fx
  ·exact mem_eqAt rx fx t f.2 u' hu
def inV (x:V) (xs:List V):Bool:=xs.any fun y=>eqV y x
def rIn (K:PySem.W.Frag) (neg:Bool):R2:=fun x y H Q=>∃ p xs,y=.ref p∧(SqL K H p xs∨SqT K H p xs)∧flatV x=true∧xs.all flatV=true∧Q (.bl (if neg then !inV x xs else inV x xs)) H
theorem op_in_seq:OpR X (compareOp .In) (rIn X.K false):=by
 intro pins s σ H x y v u Q I rx ry h
 obtain ⟨p,xs,rfl,hq,fx,fs,q⟩:=h
 cases ry
 rcases hq with hq | hq
 ·obtain ⟨its,r,pl,hz⟩:=I.list hq
  refine SeqAt.in_listAt (eqU x) pl.isList (fun w hw=>mem_eqAt rx fx r fs w (by simpa using hw)) ⟨.bl _,H,I,rfl,?_⟩
  rw [show its.toArray.any (eqU x)=its.any (eqU x) by simp,any_eqU r fs]
  exact q
 ·obtain ⟨its,r,pl,hz⟩:=I.tuple hq
  refine SeqAt.in_tupleAt (eqU x) pl (fun w hw=>mem_eqAt rx fx r fs w (by simpa using hw)) ⟨.bl _,H,I,rfl,?_⟩
  rw [show its.toArray.any (eqU x)=its.any (eqU x) by simp,any_eqU r fs]
  exact q
theorem op_notIn_seq:OpR X (compareOp .NotIn) (rIn X.K true):=by
 intro pins s σ H x y v u Q I rx ry h
 obtain ⟨p,xs,rfl,hq,fx,fs,q⟩:=h
 cases ry
 rcases hq with hq | hq
 ·obtain ⟨its,r,pl,hz⟩:=I.list hq
  refine SeqAt.notIn_listAt (eqU x) pl.isList (fun w hw=>mem_eqAt rx fx r fs w (by simpa using hw)) ⟨.bl _,H,I,rfl,?_⟩
  rw [show its.toArray.any (eqU x)=its.any (eqU x) by simp,any_eqU r fs]
  exact q
 ·obtain ⟨its,r,pl,hz⟩:=I.tuple hq
  refine SeqAt.notIn_tupleAt (eqU x) pl (fun w hw=>mem_eqAt rx fx r fs w (by simpa using hw)) ⟨.bl _,H,I,rfl,?_⟩
  rw [show its.toArray.any (eqU x)=its.any (eqU x) by simp,any_eqU r fs]
  exact q
theorem call_len_seq:CallR X (.builtin "len") (fun xs H Q=>∃ p ys,xs=[.ref p]∧(SqL X.K H p ys∨SqT X.K H p ys)∧Q (.int ys.length) H):=by
 intro pins s σ H xs us Q I r h
 obtain ⟨p,ys,rfl,hq,q⟩:=h
 obtain ⟨u,rfl,rx⟩:=vals1 r
 cases rx
 have hn:=line63
 rcases hq with hq | hq
 ·obtain ⟨its,r',pl,hz⟩:=I.list hq
  have hlen:=r'.length
  exact Calls.call_len_list pl.isList (by simp only [List.size_toArray] <;> omega) ⟨.int ys.length,H,I.tok _,⟨s.toks+1,by rw [List.size_toArray,hlen]⟩,q⟩
 ·obtain ⟨its,r',pl,hz⟩:=I.tuple hq
  have hlen:=r'.length
  exact len_tuple pl (by simp only [List.size_toArray] <;> omega) ⟨.int ys.length,H,I.tok _,⟨s.toks+1,by rw [List.size_toArray,hlen]⟩,q⟩
def tyV (K:PySem.W.Frag) (T:String) (x:V) (H:Hp):Prop:=match x with
 | .str _=>T="str"
 | .int _=>T="int"
 | .ref p=>(T="list"∧∃ xs,SqL K H p xs)∨(T="tuple"∧∃ o,K.lookup p=some o∧o.cls=.type "tuple"∧o.dict=none) ∨
   (T="dict"∧((∃ kvs,H p=some (.dK kvs))∨∃ kvs,H p=some (.dT kvs)))∨(T="set"∧∃ S n,H p=some (.set S n))
 | _=>False
theorem tyV_is {pins:List (Addr×Obj)}{σ:St}{H:Hp}{s:Shared}{T:String}{x:V}{v:Value} (I:Inv X pins σ H s) (r:RelV x v) (ty:tyV X.K T x H) :
  s.TypeIs v T∧∀ a,v=.ref a→∃ ob,s.heap.get? a=some ob∧ob.dict=none:=by
 cases x with
 | str z =>
  obtain ⟨t,rfl⟩:=r
  cases (show T="str" from ty)
  exact ⟨typeIs_str s z t,fun _ e=>nomatch e⟩
 | int i =>
  obtain ⟨t,rfl⟩:=r
  cases (show T="int" from ty)
  exact ⟨typeIs_int s i t,fun _ e=>nomatch e⟩
 | ref p =>
  cases r
  rcases ty with ⟨rfl,xs,hq⟩ | ⟨rfl,o,hk,hc,hd⟩ | ⟨rfl,hk⟩ | ⟨rfl,S,n,hk⟩
  ·obtain ⟨its,_,pl,_⟩:=I.list hq
   refine ⟨pl.isList.typeIs,fun a e=>?_⟩
   cases e
   obtain ⟨o,n,e,c,hd,_⟩:=pl
   exact ⟨o,e,hd⟩
  ·refine ⟨⟨o,I.kIn p o hk,hc⟩,fun a e=>?_⟩
   cases e
   exact ⟨o,I.kIn _ o hk,hd⟩
  ·have z:∃ o,s.heap.get? p=some o∧o.ExactDict:=by
    rcases hk with ⟨kvs,hk⟩ | ⟨kvs,hk⟩
    ·obtain ⟨_,_,_,_,o,_,_,e,ex,_⟩:=I.hok p _ hk
     exact ⟨o,e,ex⟩
    ·obtain ⟨_,_,_,_,o,_,_,e,ex,_⟩:=I.hok p _ hk
     exact ⟨o,e,ex⟩
   obtain ⟨o,e,ex⟩:=z
   refine ⟨⟨o,e,ex.1⟩,fun a e2=>?_⟩
   cases e2
   exact ⟨o,e,ex.2.1⟩
  ·obtain ⟨o,_,_,_,e,ex,_⟩:=I.hok p _ hk
   refine ⟨⟨o,e,ex.1⟩,fun a e2=>?_⟩
   cases e2
   exact ⟨o,e,ex.2.1⟩
 | _=>exact False.elim ty
def tBM (K:PySem.W.Frag) (T:String) (r:V→List V→Hp→VK→Prop) (to:TE) (t:TA):TE:=fun σ H Q=>to σ H fun x H1=>tyV K T x H1∧t σ H1 fun xs H2=>r x xs H2 Q
variable {o e:Expr}{es:List Expr}{to:TE}{t:TA}{name:Str}{apos cpos:Pos}{T id:String}{r:V→List V→Hp→VK→Prop}
theorem pe_bm (pa:PlainAttrs T) (slot:Slot T name id) (hty:typeOf (.builtin id)=pure (.type "method_descriptor")) (hm:MtR X id r) (ho:PE X o to) (ha:PA X (e::es) t)
  (hbase:attributeBase o name X.env (eval o X.env)=eval o X.env:=by rfl)
  (hfew:((backTo cpos (starEach (e::es) X.env)).all (fun x=>!x.1) && (backToKw cpos (keywordEach [] X.env)).all (fun x=>x.1.isSome)
   && decide ((e::es).length+([]:List Keyword).length+(if ([]:List Keyword).isEmpty then 0 else 1)<30))=true:=by rfl)
  (hline:(apos.endLine==cpos.line)=true:=by rfl) (hs:starEach (e::es) X.env=(false,eval e X.env)::starEach es X.env:=by rfl) (hplain:(backTo cpos (starEach es X.env)).any (·.1)=false:=by rfl) :
  PE X (.Call (.Attribute o name apos) (e::es) [] cpos) (tBM X.K T r to t):=by
 intro pins s σ H Q I h
 refine wpAny_Call_method_late hbase hfew hline rfl (thn (ho pins s σ H _ I h) fun v s1 ⟨x,H1,I1,r1,ty,q1⟩=>?_)
 obtain ⟨h1,h2⟩:=tyV_is I1 r1 ty
 refine ⟨T,id,pa,slot,hty,h1,h2,?_⟩
 have hA:=ha cpos pins s1 σ H1 _ I1 q1
 rw [hs] at hA ⊢
 refine Calls.callWith_builtin (by show (false || (backTo cpos (starEach es X.env)).any (·.1))=false;rw [hplain] <;> rfl) (Calls.evalArgs_plain ?_)
 exact thn hA fun us s2 ⟨vs,H2,I2,r2,q2⟩=>hm pins s2 σ H2 x vs v us Q I2 r1 r2 q2
end
end L2
namespace L2
open PySem PySem.Spec PyProof.Rows
def MtM (X:Cx) (id:String) (r:V→List V→Hp→VK→Prop):Prop :=
 ∀ (pins:List (Addr×Obj)) (s:Shared) (σ:St) (H:Hp) (x:V) (xs:List V) (v:Value) (us:List Value) (Q:VK),Inv X pins σ H s→RelV x v→Vals xs us→r x xs H Q →
  wpAny (model X.prog X.w) X.A (call (.builtin id) (v::us)) (EP X pins σ Q) X.xe s
theorem Vals.one:∀ {x:V}{us:List Value},Vals [x] us→∃ u,us=[u]∧RelV x u
 | _,_,.cons r .nil=>⟨_,rfl,r⟩
section
variable {X:Cx}{pins:List (Addr×Obj)}{σ:St}{H:Hp}{s:Shared}{l b:Addr}{xs ys zs:List V}
theorem Inv.lset {its its':List Value}{n:Nat}{f:Array Value→Array Value}{t':Nat} (I:Inv X pins σ H s) (hH:H l=some (.lst xs))
  (e:s.heap.get? l=some { cls:=.type "list",data:=.seq its.toArray n }) (hf:f its.toArray=its'.toArray) (hv:Vals ys its') (hz:ys.length≤sizeLine) :
  Inv X pins σ (upd H l (.lst ys)) { s with heap:=s.heap.update l (Obj.mapSeq f),toks:=t' }:=by
 have q:=PySem.IsL.update e f
 rw [hf] at q
 refine I.write (x:=l) (e:=l) (by rw [hH];exact trivial) (.inl rfl) (fun b' u hb hu=>(Heap.get?_update_other s.heap (Obj.mapSeq f) (Ne.symm hb)).trans hu) ⟨_,q⟩ ?_
 exact ⟨hz,its',_,hv,q⟩
theorem Inv.lstM (I:Inv X pins σ H s) (hH:H l=some (.lst xs)):xs.length≤sizeLine∧∃ (its:List Value) (n:Nat),Vals xs its∧xs.length=its.length∧s.heap.get? l=some { cls:=.type "list",data:=.seq its.toArray n }:=by
 obtain ⟨z,its,n,r,e⟩:=I.hok l _ hH
 exact ⟨z,its,n,r,r.length,e⟩
theorem notLongL {n:Nat} (h:n≤sizeLine):Builtin.List.listTooLong n=false:=by
 unfold Builtin.List.listTooLong
 exact decide_eq_false (by omega)
end
section
variable {X:Cx}
def rAppend:V→List V→Hp→VK→Prop:=fun x vs H Q=>∃ l xs y,x=.ref l∧vs=[y]∧H l=some (.lst xs)∧xs.length<sizeLine∧Q .non (upd H l (.lst (xs++[y])))
theorem mt_append:MtM X "list.append" rAppend:=by
 intro pins s σ H x vs v us Q I rx rv h
 obtain ⟨l,xs,y,rfl,rfl,hH,hz,q⟩:=h
 cases rx
 obtain ⟨u,rfl,ru⟩:=rv.one
 obtain ⟨z,its,n,r,hl,e⟩:=I.lstM hH
 refine call_meets F.slot_list_append ⟨_,e,rfl⟩ F.entry_list_append (F.args_list_append_2 _ _) (PySem.list_append l its.toArray n u (by rw [List.size_toArray];omega)) ⟨e,?_⟩
 refine ⟨.non,_,I.lset (its':=its++[u]) hH e (by simp) (r.append (.cons ru .nil)) ?_,rfl,q⟩
 rw [List.length_append,List.length_singleton]
 omega
def rExtend:V→List V→Hp→VK→Prop:=fun x vs H Q=>∃ l b xs zs,x=.ref l∧vs=[.ref b]∧H l=some (.lst xs)∧H b=some (.lst zs)∧xs.length+zs.length≤sizeLine∧Q .non (upd H l (.lst (xs++zs)))
theorem mt_extend:MtM X "list.extend" rExtend:=by
 intro pins s σ H x vs v us Q I rx rv h
 obtain ⟨l,b,xs,zs,rfl,rfl,hH,hB,hz,q⟩:=h
 cases rx
 obtain ⟨u,rfl,ru⟩:=rv.one
 cases ru
 obtain ⟨z,its,n,r,hl,e⟩:=I.lstM hH
 obtain ⟨z2,its2,n2,r2,hl2,e2⟩:=I.lstM hB
 have hsz:its.toArray.size+its2.toArray.size≤sizeLine:=by rw [List.size_toArray,List.size_toArray];omega
 have hlong:¬ (!its.toArray.isEmpty && Builtin.List.listTooLong (its.toArray.size+its2.toArray.size))=true:=by
  rw [notLongL hsz,Bool.and_false]
  exact Bool.false_ne_true
 refine call_meets F.slot_list_extend ⟨_,e,rfl⟩ F.entry_list_extend (F.args_list_extend_2 _ _)
  (AutoSeq1.list_extend_list_list_0 l its.toArray n b its2.toArray n2 hlong (by rw [List.size_toArray];omega) (by omega)) ⟨e,e2,?_⟩
 refine ⟨.non,_,I.lset (its':=its++its2) hH e (by simp) (r.append r2) ?_,rfl,q⟩
 rw [List.length_append]
 omega
end
section
variable {prog:Program}{w:World}{A:Around}{E:Value→Shared→Prop}{s:Shared}
end
section
variable {X:Cx}
end
end L2
namespace L2
open PySem PySem.Spec PyProof.Rows
section
variable {prog:Program}{w:World}{A:Around}{E:Value→Shared→Prop}{s:Shared}{l:Addr}{its:List Value}{ns:List Int}{Q:Value→Shared→Prop}
end
section
variable {X:Cx}
end
section
variable {X:Cx}
end
section
variable {X:Cx}
end
section
variable {X:Cx}
end
section
variable {X:Cx}{pins:List (Addr×Obj)}{σ:St}{H:Hp}{s:Shared}
end
section
variable {X:Cx}
end
end L2
namespace L2
open PySem PySem.Spec PyProof.Rows
abbrev CellAt (h:Heap) (c:Addr) (v:Option Value):Prop:=h.IsCell c v
def relS (scope sc:Scope):Scope :=
 { scope with names:=scope.names.map fun (n,k)=>if (k==.free && sc.kind==.function && sc.names.lookup n==some .cell) then (n,.cell) else (n,k) }
def cloFrom (cells:List (Str×Addr)):List (Str×NameKind)→List (Str×Addr)→List (Str×Addr)
 | [],acc=>acc
 | (n,k)::r,acc=>if k==.free then cloFrom cells r ((n,(cells.lookup n).getD 0)::acc) else cloFrom cells r acc
theorem closure_loop (env:Env) (f:Str×NameKind→List (Str×Addr)→Sem (ForInStep (List (Str×Addr))))
  (hf:∀ n k c,f (n,k) c=if k==.free then (do let a ← cellOf env n;pure (.yield ((n,a)::c))) else pure (.yield c)) :
  ∀ (names:List (Str×NameKind)) (acc:List (Str×Addr)),(∀ y∈names,y.2=.free→∃ c,env.cells.lookup y.1=some c)→forIn names acc f=pure (cloFrom env.cells names acc)
 | [],acc,_=>by rw [List.forIn_nil];rfl
 | (n,k)::r,acc,h=>by
  rw [List.forIn_cons,hf]
  have ih:=fun acc=>closure_loop env f hf r acc fun y hy=>h y (List.mem_cons_of_mem _ hy)
  unfold cloFrom
  by_cases hk:(k==NameKind.free)=true
  ·rw [if_pos hk,if_pos hk]
   obtain ⟨c,hc⟩:=h (n,k) List.mem_cons_self (by simpa using hk)
   have e:cellOf env n=pure c:=by unfold cellOf;rw [hc]
   rw [e]
   have e2:(env.cells.lookup n).getD 0=c:=by rw [hc];rfl
   rw [e2]
   exact ih _
  ·rw [if_neg hk,if_neg hk]
   exact ih _
theorem closure_ok {scope:Scope}{env:Env} (h:∀ y∈scope.names,y.2=.free→∃ c,env.cells.lookup y.1=some c):closureFor scope env=pure (cloFrom env.cells scope.names []):=by
 simp only [closureFor]
 rw [closure_loop env _ (fun n k c=>rfl) scope.names [] h]
 rfl
theorem mem_lookup {α:Type}:∀ {l:List (Str×α)}{n:Str}{c:α},(n,c)∈l→∃ c',l.lookup n=some c'
 | (k,v)::r,n,c,h=>by
  rw [List.lookup_cons]
  cases hb:n==k with
  | true=>exact ⟨_,rfl⟩
  | false =>
   rcases List.mem_cons.mp h with e | h
   ·cases e;simp at hb
   ·exact mem_lookup h
theorem cloFrom_mem {cells:List (Str×Addr)}:∀ {names:List (Str×NameKind)}{acc:List (Str×Addr)}{n:Str}{c:Addr},(n,c)∈cloFrom cells names acc→(n,c)∈acc∨((n,.free)∈names∧c=(cells.lookup n).getD 0)
 | [],_,_,_,h=>.inl h
 | (m,k)::r,acc,n,c,h=>by
  unfold cloFrom at h
  split at h
  ·rename_i hk
   have hk:k=.free:=by simpa using hk
   rcases cloFrom_mem h with h | ⟨h1,h2⟩
   ·rcases List.mem_cons.mp h with e | h
    ·cases e;exact .inr ⟨hk ▸ List.mem_cons_self,rfl⟩
    ·exact .inl h
   ·exact .inr ⟨List.mem_cons_of_mem _ h1,h2⟩
  ·rcases cloFrom_mem h with h | ⟨h1,h2⟩
   ·exact .inl h
   ·exact .inr ⟨List.mem_cons_of_mem _ h1,h2⟩
theorem cloFrom_acc {cells:List (Str×Addr)}:∀ {names:List (Str×NameKind)}{acc:List (Str×Addr)}{p:Str×Addr},p∈acc→p∈cloFrom cells names acc
 | [],_,_,h=>h
 | (m,k)::r,acc,p,h=>by
  unfold cloFrom
  split
  ·exact cloFrom_acc (List.mem_cons_of_mem _ h)
  ·exact cloFrom_acc h
theorem cloFrom_has {cells:List (Str×Addr)}:∀ {names:List (Str×NameKind)}{acc:List (Str×Addr)}{n:Str},(n,.free)∈names→(n,(cells.lookup n).getD 0)∈cloFrom cells names acc
 | (m,k)::r,acc,n,h=>by
  unfold cloFrom
  rcases List.mem_cons.mp h with e | h
  ·cases e
   exact cloFrom_acc List.mem_cons_self
  ·split
   ·exact cloFrom_has h
   ·exact cloFrom_has h
theorem cells_mem:∀ {names:List (Str×NameKind)}{h:Heap}{acc:List (Str×Addr)}{x:Str}{c:Addr},(x,c)∈cellsFrom h.objs.size names acc →
  (x,c)∈acc∨((x,.cell)∈names∧h.objs.size≤c∧CellAt (pushCells h names) c none)
 | [],_,_,_,_,h=>.inl h
 | (n,k)::r,h,acc,x,c,hm=>by
  unfold cellsFrom at hm
  unfold pushCells
  split at hm
  ·rename_i hk
   rw [if_pos hk]
   have hk:k=.cell:=by simpa using hk
   rw [← Heap.size_push h { cls:=.type "cell",data:=.cell none }] at hm
   rcases cells_mem hm with hm | ⟨h1,h2,h3⟩
   ·rcases List.mem_cons.mp hm with e | hm
    ·cases e
     exact .inr ⟨hk ▸ List.mem_cons_self,Nat.le_refl _,_,pushCells_keeps r _ _ _ (Heap.get?_push_size _ rfl),rfl⟩
    ·exact .inl hm
   ·rw [Heap.size_push] at h2
    exact .inr ⟨List.mem_cons_of_mem _ h1,Nat.le_of_succ_le h2,h3⟩
  ·rename_i hk
   rw [if_neg hk]
   rcases cells_mem hm with hm | ⟨h1,h2,h3⟩
   ·exact .inl hm
   ·exact .inr ⟨List.mem_cons_of_mem _ h1,h2,h3⟩
theorem cells_acc:∀ {names:List (Str×NameKind)}{n:Nat}{acc:List (Str×Addr)}{p:Str×Addr},p∈acc→p∈cellsFrom n names acc
 | [],_,_,_,h=>h
 | (m,k)::r,n,acc,p,h=>by
  unfold cellsFrom
  split
  ·exact cells_acc (List.mem_cons_of_mem _ h)
  ·exact cells_acc h
theorem cells_has:∀ {names:List (Str×NameKind)}{n:Nat}{acc:List (Str×Addr)}{x:Str},(x,.cell)∈names→∃ c,(x,c)∈cellsFrom n names acc
 | (m,k)::r,n,acc,x,h=>by
  unfold cellsFrom
  rcases List.mem_cons.mp h with e | h
  ·cases e
   exact ⟨n,cells_acc List.mem_cons_self⟩
  ·split
   ·exact cells_has h
   ·exact cells_has h
theorem cells_inj:∀ {names:List (Str×NameKind)}{h:Heap}{acc:List (Str×Addr)}{x y:Str}{c:Addr},(∀ p∈acc,p.2<h.objs.size)→(∀ x y c,(x,c)∈acc→(y,c)∈acc→x=y) →
  (x,c)∈cellsFrom h.objs.size names acc→(y,c)∈cellsFrom h.objs.size names acc→x=y
 | [],_,_,_,_,_,_,hi,h1,h2=>hi _ _ _ h1 h2
 | (n,k)::r,h,acc,x,y,c,hl,hi,h1,h2=>by
  unfold cellsFrom at h1 h2
  split at h1
  ·rename_i hk
   rw [if_pos hk] at h2
   rw [← Heap.size_push h { cls:=.type "cell",data:=.cell none }] at h1 h2
   refine cells_inj (h:=h.push _) (fun p hp=>?_) (fun x y c a b=>?_) h1 h2
   ·rw [Heap.size_push]
    rcases List.mem_cons.mp hp with rfl | hp
    ·exact Nat.lt_succ_self _
    ·exact Nat.lt_succ_of_lt (hl p hp)
   ·rcases List.mem_cons.mp a with e | a <;> rcases List.mem_cons.mp b with e' | b
    ·cases e;cases e';rfl
    ·cases e;exact absurd (hl _ b) (Nat.lt_irrefl _)
    ·cases e';exact absurd (hl _ a) (Nat.lt_irrefl _)
    ·exact hi _ _ _ a b
  ·rename_i hk
   rw [if_neg hk] at h2
   exact cells_inj hl hi h1 h2
theorem newEnv_comp {M:Model}{A:Around}{E:Value→Shared→Prop}{s:Shared}{scope:Scope}{globals:Addr}{closure:List (Str×Addr)}{qual:Str}{func:Option Addr}{code:Value}{around:Env}{builtins:Addr}{Q:Env→Shared→Prop}
  (h:Q (newEnv scope s.heap.objs.size globals (cellsFrom (s.heap.objs.size+1) scope.names closure) qual func code (some around) builtins)
   { s with heap:=pushCells (s.heap.push { cls:=.type "dict",data:=.dict #[] }) scope.names }) :
  wpAny M A (newFunctionEnv scope globals closure [] qual func code (some around) builtins) Q E s:=by
 simp only [newFunctionEnv,Option.isSome_some,if_true]
 refine wpAny_bind (wpAny_alloc ?_)
 refine wpAny_bind (wpAny_layCells _ (fun n k c=>rfl) scope.names closure _ _ ?_)
 rw [show ({ s with heap:=s.heap.push { cls:=.type "dict",data:=.dict #[] } }:Shared).heap.objs.size=s.heap.objs.size+1 from Heap.size_push ..]
 rw [List.forIn_nil]
 exact wpAny_bind (wpAny_pure (wpAny_pure h))
theorem lookup_relS {sc:Scope}:∀ {names:List (Str×NameKind)}{x:Str}{k:NameKind},
  (names.map fun (n,k)=>if (k==NameKind.free && sc.kind==.function && sc.names.lookup n==some .cell) then (n,NameKind.cell) else (n,k)).lookup x=some k →
  ∃ k',names.lookup x=some k'∧(k=k'∨(k'=.free∧k=.cell))
 | [],_,_,h=>by simp at h
 | (n,k₀)::r,x,k,h=>by
  have ih:=@lookup_relS sc r x k
  have h':List.lookup x ((if (k₀==NameKind.free && sc.kind==.function && sc.names.lookup n==some .cell)=true then (n,NameKind.cell) else (n,k₀))::(r.map _))=some k:=h
  cases hx:x==n with
  | true =>
   simp only [List.lookup_cons,hx]
   by_cases hc:(k₀==NameKind.free && sc.kind==.function && sc.names.lookup n==some .cell)=true
   ·rw [if_pos hc] at h'
    simp only [List.lookup_cons,hx] at h'
    cases h'
    simp only [Bool.and_eq_true,beq_iff_eq] at hc
    exact ⟨k₀,rfl,.inr ⟨hc.1.1,rfl⟩⟩
   ·rw [if_neg hc] at h'
    simp only [List.lookup_cons,hx] at h'
    cases h'
    exact ⟨_,rfl,.inl rfl⟩
  | false =>
   simp only [List.lookup_cons,hx]
   by_cases hc:(k₀==NameKind.free && sc.kind==.function && sc.names.lookup n==some .cell)=true
   ·rw [if_pos hc] at h'
    simp only [List.lookup_cons,hx] at h'
    exact ih h'
   ·rw [if_neg hc] at h'
    simp only [List.lookup_cons,hx] at h'
    exact ih h'
structure BlkOk (N:List Str) (sc scope:Scope) (own:List (Str×Nat)):Prop where
 kind:scope.kind=.function
 uniq:∀ y∈scope.names,scope.names.lookup y.1=some y.2
 ix:∀ p∈own,N[p.2]?=some p.1
 free:∀ y∈scope.names,y.2=.free→sc.names.lookup y.1=some .cell∨sc.names.lookup y.1=some .free
 own:∀ y∈scope.names,y.2=.local∨y.2=.cell→y.1∈own.map (·.1)∨y.1 ∉ N
def wipe (σ:St):List Nat→St
 | []=>σ
 | v::vs=>(wipe σ vs).set v none
theorem wipe_length (σ:St):∀ vs:List Nat,(wipe σ vs).length=σ.length
 | []=>rfl
 | v::vs=>by unfold wipe;rw [List.length_set,wipe_length σ vs]
theorem wipe_some {σ:St}{i:Nat}{x:V}:∀ {vs:List Nat},(wipe σ vs)[i]?=some (some x)→σ[i]?=some (some x)∧i ∉ vs
 | [],h=>⟨h,by simp⟩
 | v::vs,h=>by
  unfold wipe at h
  by_cases hi:v=i
  ·subst hi
   by_cases hv:v<(wipe σ vs).length
   ·rw [List.getElem?_set_self hv] at h;cases h
   ·rw [List.getElem?_eq_none (by simpa using hv)] at h;cases h
  ·rw [List.getElem?_set_ne hi] at h
   obtain ⟨h1,h2⟩:=wipe_some h
   exact ⟨h1,by simp only [List.mem_cons,not_or];exact ⟨fun e=>hi e.symm,h2⟩⟩
abbrev Cx.blk (X:Cx) (s:Shared) (H:Hp) (scope:Scope) (cenv:Env) (fp:List Addr):Cx:={ X with s_0:=s,H_0:=H,env:=cenv,outer:=X.stack,ex:=fp,fn:=fun x=>scope.names.lookup x==some .cell,pn:=[],xe:=fun _ _=>False }
section
variable {X:Cx}{pins:List (Addr×Obj)}{σ:St}{H:Hp}{s:Shared}
theorem block_start {scope:Scope}{own:List (Str×Nat)}{fp:List Addr} (I:Inv X pins σ H s) (ok:BlkOk X.N X.env.scope scope own) (hN:X.N.Nodup) (hfp:∀ b∈fp,FpOk X pins H b∧b<s.heap.objs.size) :
  Inv (X.blk s H scope (compEnvC scope (cellsFrom (s.heap.objs.size+1) scope.names (cloFrom X.env.cells scope.names [])) s.heap.objs.size X.env) fp) [] (wipe σ (own.map (·.2))) H { s with heap:=pushCells (s.heap.push { cls:=.type "dict",data:=.dict #[] }) scope.names }:=by
 have hfree:∀ y∈scope.names,y.2=.free→∃ c,X.env.cells.lookup y.1=some c:=fun y hy e=>by
  rcases ok.free y hy e with k | k
  ·exact I.ok.has _ (.inl k)
  ·exact I.ok.has _ (.inr k)
 generalize hcenv:compEnvC scope (cellsFrom (s.heap.objs.size+1) scope.names (cloFrom X.env.cells scope.names [])) s.heap.objs.size X.env=cenv
 have kp:∀ b o,s.heap.get? b=some o→(pushCells (s.heap.push { cls:=.type "dict",data:=.dict #[] }) scope.names).get? b=some o:=fun b o e=>pushCells_keeps _ _ _ _ (Heap.get?_push_of_some _ e)
 have hL:cenv.locals=s.heap.objs.size:=by rw [← hcenv];rfl
 have hcl:cenv.cells=cellsFrom (s.heap.objs.size+1) scope.names (cloFrom X.env.cells scope.names []):=by rw [← hcenv];rfl
 have hsc:cenv.scope=relS scope X.env.scope:=by rw [← hcenv];rfl
 rw [← Heap.size_push s.heap { cls:=.type "dict",data:=.dict #[] }] at hcl
 have cm:∀ {y c},(y,c)∈cloFrom X.env.cells scope.names []→X.env.cells.lookup y=some c∧c<s.heap.objs.size:=fun {y c} hm=>by
  rcases cloFrom_mem hm with hm | ⟨h1,rfl⟩
  ·cases hm
  ·obtain ⟨c,hc⟩:=hfree _ h1 rfl
   rw [hc]
   obtain ⟨w,z⟩:=I.cell _ _ hc
   exact ⟨rfl,z.lt⟩
 have mem:∀ {y c},cenv.cells.lookup y=some c→(X.env.cells.lookup y=some c∧c<s.heap.objs.size)∨(s.heap.objs.size+1≤c∧CellAt (pushCells (s.heap.push { cls:=.type "dict",data:=.dict #[] }) scope.names) c none):=fun {y c} e=>by
  rw [hcl] at e
  rcases cells_mem (PySem.mem_of_lookup e) with hm | ⟨_,h2,h3⟩
  ·exact .inl (cm hm)
  ·rw [Heap.size_push] at h2;exact .inr ⟨h2,h3⟩
 have look:∀ {y},scope.names.lookup y=some .free→∃ c,cenv.cells.lookup y=some c∧X.env.cells.lookup y=some c:=fun {y} hl=>by
  have hy:(y,NameKind.free)∈scope.names:=PySem.mem_of_lookup hl
  obtain ⟨c',e'⟩:=mem_lookup (cells_acc (names:=scope.names) (n:=(s.heap.push { cls:=.type "dict",data:=.dict #[] }).objs.size) (cloFrom_has (cells:=X.env.cells) (acc:=[]) hy))
  rw [← hcl] at e'
  refine ⟨c',e',?_⟩
  rw [hcl] at e'
  rcases cells_mem (PySem.mem_of_lookup e') with hm | ⟨h1,_,_⟩
  ·exact (cm hm).1
  ·have:=ok.uniq _ h1
   rw [hl] at this;cases this
 have okB:(X.blk s H scope cenv fp).Ok:=by
  refine ⟨I.ok.mod,by show cenv.scope.kind=_;rw [hsc];exact ok.kind,by show cenv.globals=_;rw [← hcenv];exact I.ok.glob,by show cenv.builtins=_;rw [← hcenv];exact I.ok.blt,by show s.heap.objs.size≤cenv.locals;rw [hL];exact Nat.le_refl _,
   fun y z c e1 e2=>?_,fun y hy=>?_,fun y c z e=>?_,I.ok.hd,I.ok.frames,.inl rfl,fun b hb=>⟨?_,fun y c e z=>?_⟩,I.bs,Nat.le_trans I.ok.bsz I.sz,fun b o e hb=>?_,fun b hb z=>?_,I.stack,I.stkFree⟩
  ·have e1:cenv.cells.lookup y=some c:=e1
   have e2:cenv.cells.lookup z=some c:=e2
   rw [hcl] at e1 e2
   refine cells_inj (fun p hp=>?_) (fun y z c a b=>I.ok.inj y z c (cm a).1 (cm b).1) (PySem.mem_of_lookup e1) (PySem.mem_of_lookup e2)
   rw [Heap.size_push]
   exact Nat.lt_succ_of_lt (cm (y:=p.1) (c:=p.2) hp).2
  ·show ∃ c,cenv.cells.lookup y=some c
   have key:∀ k,cenv.kindOf y=some k→(k=.cell∨k=.free)→∃ c,cenv.cells.lookup y=some c:=fun k hk hk'=>by
    unfold Env.kindOf at hk
    rw [hsc] at hk
    obtain ⟨k',e,r⟩:=lookup_relS hk
    have:k'=.cell∨k'=.free:=by
     rcases r with rfl | ⟨rfl,_⟩
     ·exact hk'
     ·exact .inr rfl
    rcases this with rfl | rfl
    ·obtain ⟨c,hm⟩:=cells_has (n:=(s.heap.push { cls:=.type "dict",data:=.dict #[] }).objs.size) (acc:=cloFrom X.env.cells scope.names []) (PySem.mem_of_lookup e)
     obtain ⟨c',e'⟩:=mem_lookup hm
     exact ⟨c',by rw [hcl];exact e'⟩
    ·obtain ⟨c,h1,_⟩:=look e
     exact ⟨c,h1⟩
   rcases hy with hy | hy
   ·exact key _ hy (.inl rfl)
   ·exact key _ hy (.inr rfl)
  ·have z:(scope.names.lookup y==some NameKind.cell)=true:=z
   have z:scope.names.lookup y=some .cell:=by simpa using z
   have e:cenv.cells.lookup y=some c:=e
   rw [hcl] at e
   rcases cells_mem (PySem.mem_of_lookup e) with hm | ⟨_,h2,_⟩
   ·rcases cloFrom_mem hm with hm | ⟨h1,_⟩
    ·cases hm
    ·have q:=ok.uniq _ h1
     rw [z] at q;cases q
   ·rw [Heap.size_push] at h2
    exact Nat.le_of_succ_le h2
  ·show b≠cenv.locals
   rw [hL];exact Nat.ne_of_lt (hfp b hb).2
  ·have e:cenv.cells.lookup y=some c:=e
   rcases mem e with ⟨h1,_⟩ | ⟨h1,_⟩
   ·exact (hfp b hb).1.2.2.2.2.1 y c h1 z
   ·have h2:s.heap.objs.size+1≤b:=by rw [← z];exact h1
    exact absurd (Nat.lt_of_lt_of_le (hfp b hb).2 (Nat.le_of_succ_le h2)) (Nat.lt_irrefl _)
  ·rcases (hfp b hb).1.2.2.2.1 with z | z
   ·exact I.ok.noex b o e z
   ·exact absurd (Nat.lt_of_lt_of_le (Heap.lt_size e) (Nat.le_trans I.ok.bsz z)) (Nat.lt_irrefl _)
  ·rcases List.mem_cons.mp (I.stkSub b z) with z | z
   ·exact (hfp b hb).1.2.1 z
   ·exact (hfp b hb).1.2.2.1 z
 refine ⟨okB,rfl,I.bare,Un.kept kp,⟨fun _=>none,?_,fun i y av e1 e2 e3=>?_⟩,fun y c e=>?_,?_,fun y c e=>?_,fun p hp=>?_,I.hok.kept kp,by rw [wipe_length];exact I.len⟩
 ·show Heap.Ns _ cenv.locals _
  rw [hL]
  exact Heap.Ns.keeps (Heap.Ns.new ..) fun b o e=>pushCells_keeps _ _ _ _ e
 ·obtain ⟨e2,hne⟩:=wipe_some e2
  have hfr:scope.names.lookup y=some .free∧(cenv.kindOf y=some .cell∨cenv.kindOf y=some .free):=by
   have key:∀ k,cenv.scope.names.lookup y=some k→k=.local∨k=.cell∨k=.free→scope.names.lookup y=some .free∧(cenv.kindOf y=some .cell∨cenv.kindOf y=some .free):=fun k hk hk'=>by
    have hk0:=hk
    rw [hsc] at hk
    obtain ⟨k',e,r⟩:=lookup_relS hk
    have no:¬ (k'=.local∨k'=.cell):=fun hh=>by
     rcases ok.own _ (PySem.mem_of_lookup e) hh with e' | e'
     ·obtain ⟨p,hp,hpy⟩:=List.mem_map.mp e'
      have e3:=ok.ix p hp
      have:p.1=y:=hpy
      rw [this] at e3
      exact hne (List.mem_map.mpr ⟨p,hp,nodup_ix hN e3 e1⟩)
     ·exact e' (List.mem_of_getElem? e1)
    rcases r with rfl | ⟨rfl,rfl⟩
    ·rcases hk' with rfl | rfl | rfl
     ·exact absurd (.inl rfl) no
     ·exact absurd (.inr rfl) no
     ·exact ⟨e,.inr hk0⟩
    ·exact ⟨e,.inl hk0⟩
   have e3:Vis cenv.scope y:=e3
   rcases e3 with e3 | e3 | e3
   ·exact key _ e3 (.inl rfl)
   ·exact key _ e3 (.inr (.inl rfl))
   ·exact key _ e3 (.inr (.inr rfl))
  obtain ⟨m,hn,hl⟩:=I.loc
  have hvis:Vis X.env.scope y:=(ok.free _ (PySem.mem_of_lookup hfr.1) rfl).elim (fun k=>.inr (.inl k)) (fun k=>.inr (.inr k))
  obtain ⟨w,r,q⟩:=hl i y av e1 e2 hvis
  refine ⟨w,r,.inr ⟨hfr.2,?_⟩⟩
  obtain ⟨c,h1,h2⟩:=look hfr.1
  rcases q with ⟨k,_⟩ | ⟨_,c',e',z⟩
  ·have k:X.env.scope.names.lookup y=some .local:=k
   rcases ok.free _ (PySem.mem_of_lookup hfr.1) rfl with k' | k' <;> rw [show X.env.scope.names.lookup y=_ from k'] at k <;> cases k
  ·rw [h2] at e';cases e'
   exact ⟨c,h1,z.keeps kp⟩
 ·have e:cenv.cells.lookup y=some c:=e
  rcases mem e with ⟨h1,_⟩ | ⟨_,z⟩
  ·obtain ⟨w,z⟩:=I.cell y c h1
   exact ⟨w,z.keeps kp⟩
  ·exact ⟨_,z⟩
 ·show H cenv.locals=none
  rw [hL];exact I.hok.fresh (Nat.le_refl _)
 ·have e:cenv.cells.lookup y=some c:=e
  rcases mem e with ⟨h1,_⟩ | ⟨h1,_⟩
  ·exact I.freeC y c h1
  ·exact I.hok.fresh (Nat.le_of_succ_le h1)
 ·exact absurd (show p∈([]:List (Addr×Obj))++[] from hp) (by simp)
theorem app_ok {E:Value→Shared→Prop}{D:Addr}{xs:List V}{y:V}{v:Value}{Q:Value→Shared→Prop} (I:Inv X pins σ H s) (hD:H D=some (.lst xs)) (hz:xs.length<sizeLine) (r:RelV y v)
  (h:∀ s',Inv X pins σ (upd H D (.lst (xs++[y]))) s'→Q .none s'):wpAny (model X.prog X.w) X.A (call (.builtin "list.append") [.ref D,v]) Q E s:=by
 obtain ⟨hz',its,n,ri,e⟩:=I.hok D _ hD
 have hl:=ri.length
 refine append_at (hsz:=by rw [List.size_toArray];omega) e fun h' sb ho'=>?_
 refine h { s with heap:=h' } (I.write (t':=s.toks) (by rw [hD];trivial) (.inl rfl) (fun b u hb q=>(sb.2 b hb).trans q) ⟨_,ho'⟩ ⟨by rw [List.length_append];exact hz,its++[v],n+1,ri.append (.cons r .nil),?_⟩)
 rw [ho']
 simp
def PTs (X:Cx) (ifs:List Expr) (t:TT):Prop :=
 ∀ (pins:List (Addr×Obj)) (s:Shared) (σ:St) (H:Hp) (Q:Bool→Hp→Prop),Inv X pins σ H s→t σ H Q →
  wpAny (model X.prog X.w) X.A (forIn ifs true fun c r=>if r=true then do let ok ← isTrue c X.env (eval c X.env);pure (ForInStep.yield ok) else pure (ForInStep.yield r)) (TP X pins σ Q) X.xe s
def tYes:TT:=fun _ H Q=>Q true H
theorem pts_nil:PTs X [] tYes:=fun _ _ _ H _ I h=>wpAny_tests_nil ⟨H,I,h⟩
end
theorem thnF {α:Type}{t:Sem α}{Q Q':α→Shared→Prop}{M:Model}{A:Around}{E:Value→Shared→Prop}{s:Shared} (h:wpAny M A t Q (fun _ _=>False) s) (hQ:∀ a s,Q a s→Q' a s):wpAny M A t Q' E s:=wpAny_mono h hQ fun _ _ z=>False.elim z
theorem compLoop_any {prog:Program}{w:World}{A:Around}{R:Result→Shared→Prop}{s:Shared}{elt target iter:Expr}{ifs:List Expr}{scope:Scope}{pos:Pos}{it acc:Value}{env:Env} (I:Nat→Shared→Prop)
  (turn:∀ n s,I n s→wpAny (model prog w) A (pyNext it) (fun r s₁=>match r with
   | none=>R (.ok .next) s₁
   | some v=>wpAny (model prog w) A (letOwnedTupleGo target it v) (fun _ s₁'=>wpAny (model prog w) A (assign target env v) (fun _ s₂ =>
     wpAny (model prog w) A (forIn ifs true fun c r=>if r=true then do let ok ← isTrue c env (eval c env);pure (ForInStep.yield ok) else pure (ForInStep.yield r)) (fun ok s₃ =>
      if ok=true then wpAny (model prog w) A (eval elt env) (fun x s₄ =>
       wpAny (model prog w) A (call (.builtin "list.append") [acc,x]) (fun _ s₅=>∃ m,m<n∧I m s₅) (notedBy (model prog w) A env fun e s'=>R (.error e) s') s₄) (notedBy (model prog w) A env fun e s'=>R (.error e) s') s₃
      else ∃ m,m<n∧I m s₃) (notedBy (model prog w) A env fun e s'=>R (.error e) s') s₂) (notedBy (model prog w) A env fun e s'=>R (.error e) s') s₁') (notedBy (model prog w) A env fun e s'=>R (.error e) s') s₁) (notedBy (model prog w) A env fun e s'=>R (.error e) s') s)
  (n:Nat) (h:I n s) :
  codeAny (model prog w) A (.compLoop (.ListComp elt [⟨target,iter,ifs,0⟩] scope pos) 0 it acc env) R s:=by
 refine codeAny_loop rfl I (fun n s hI=>?_) n h
 show wpAny _ A ((compTurn (.ListComp elt [⟨target,iter,ifs,0⟩] scope pos) 0 it acc env).onRaise (fun x=>do noteFrame x env;theTreesLotGoes x)) _ _ s
 refine wpAny_noted ?_
 rw [compTurn_list]
 refine wpAny_bind (wpAny_standAt (wpAny_bind (wpAny_mono (turn n s hI) (fun r s₁ h₁=>?_) fun _ _ h'=>h')))
 cases r with
 | none=>exact wpAny_pure h₁
 | some v =>
  refine wpAny_bind (wpAny_mono h₁ (fun _ s₁' h₁'=>?_) fun _ _ h'=>h')
  refine wpAny_bind (wpAny_mono h₁' (fun _ s₂ h₂=>wpAny_bind (wpAny_mono h₂ (fun ok s₃ h₃=>?_) fun _ _ h'=>h')) fun _ _ h'=>h')
  cases ok with
  | false=>exact wpAny_pure ⟨rfl,h₃⟩
  | true =>
   exact wpAny_bind (wpAny_bind (wpAny_mono h₃ (fun x s₄ h₄=>wpAny_bind (wpAny_mono h₄ (fun _ s₅ h₅=>wpAny_pure (wpAny_pure ⟨rfl,h₅⟩)) fun _ _ h'=>h')) fun _ _ h'=>h'))
section
variable {X:Cx}
def tLc (wi:TI) (g:TG) (tt:TT) (te:TE) (vs:List Nat):TE:=fun σ H Q=>wi σ H fun J H1=>∀ D,H1 D=none→∃ W:Nat→Nat→Hp→Prop,(∃ m,W 0 m (upd H1 D (.lst [])))∧∀ i m H,W i m H →
 (J.stop i H∧Q (.ref D) H)∨(J.go i H∧∃ Nx:Hp→Prop,(∀ H',Nx H'→∃ m',m' < m∧W (i+1) m' H')∧∀ x H',J.yld i H x H'→g x (wipe σ vs) H' fun σ2 H2=>wipe σ2 vs=wipe σ vs∧tt σ2 H2 fun b H3 =>
  if b=true then te σ2 H3 fun y H4=>∃ acc,H4 D=some (.lst acc)∧acc.length<sizeLine∧Nx (upd H4 D (.lst (acc++[y]))) else Nx H3)
theorem lc_core {pins:List (Addr×Obj)}{s:Shared}{σ:St}{H:Hp}{Q:VK}{elt tg iter:Expr}{ifs:List Expr}{scope:Scope}{own:List (Str×Nat)}{pos pos':Pos}{wi:TI}{g:TG}{tt:TT}{te:TE}{use:Option (Value→Sem Unit)}{Qf:Value→Shared→Prop}
  (hc:X.calm=true) (hN:X.N.Nodup) (I:Inv X pins σ H s) (hi:PI X tg iter wi) (ok:BlkOk X.N X.env.scope scope own)
  (hg:∀ (s:Shared) (H:Hp) (C:Addr) (cl:List (Str×Addr)) (fp:List Addr),PG (X.blk s H scope (compEnvC scope cl C X.env) fp) tg g) (ht:∀ (s:Shared) (H:Hp) (C:Addr) (cl:List (Str×Addr)) (fp:List Addr),PTs (X.blk s H scope (compEnvC scope cl C X.env) fp) ifs tt)
  (he:∀ (s:Shared) (H:Hp) (C:Addr) (cl:List (Str×Addr)) (fp:List Addr),PE (X.blk s H scope (compEnvC scope cl C X.env) fp) elt te) (hs:∀ x,foldedSetIterable iter X.env x=pure x)
  (h:tLc wi g tt te (own.map (·.2)) σ H Q)
  (hRR:∀ D C s' m H',Inv X pins σ H' s'→Q (.ref D) H'→s'.heap.Ns C m→FpOk X pins H' C→compPost (model X.prog X.w) X.A X.xe use Qf (.ref D) C (.ok .next) s') :
  wpAny (model X.prog X.w) X.A (comprehension (.ListComp elt [⟨tg,iter,ifs,0⟩] scope pos) scope X.env pos' (newList []) false (eval iter X.env) use) Qf X.xe s:=by
 have hfree:∀ y∈scope.names,y.2=.free→∃ c,X.env.cells.lookup y.1=some c:=fun y hy e=>by
  rcases ok.free y hy e with k | k
  ·exact I.ok.has _ (.inl k)
  ·exact I.ok.has _ (.inr k)
 refine wpAny_comprehension_free (use:=use) rfl hs (closure_ok hfree) ok.kind (fun y hy e=>by rw [ok.uniq y hy,e])
  (thn (hi pins s σ H _ I h) fun xv s1 hx=>thn hx fun itv s2 h2=>?_)
 obtain ⟨it,fp,tn,J,H2,e,I2,T,st2,f2,q⟩:=h2
 subst e
 refine wpAny_newObj_type (newEnv_comp ?_) (by show 0≤sizeLine;decide)
 generalize hD:s2.heap.objs.size=D
 have hDn:H2 D=none:=I2.hok.fresh (Nat.le_of_eq hD)
 obtain ⟨W,⟨m0,w0⟩,turn⟩:=q D hDn
 -- the new list
 generalize hs3:({ s2 with heap:=s2.heap.push { cls:=.type "list",data:=.seq ([]:List Value).toArray } }:Shared)=s3
 have I3:Inv X pins σ (upd H2 D (.lst [])) s3:=by
  rw [← hs3]
  refine I2.laid (t':=s2.toks) (fun b o e=>Heap.get?_push_of_some _ e) (Nat.le_of_eq hD) ⟨Nat.zero_le _,[],0,.nil,?_⟩
  rw [← hD]
  exact Heap.get?_push_size _ rfl
 have h3:s3.heap=s2.heap.push { cls:=.type "list",data:=.seq ([]:List Value).toArray }:=by rw [← hs3]
 have sz:∀ b∈fp,b<s2.heap.objs.size:=fun b hb=>by
  obtain ⟨o,e,_⟩:=T.obj _ _ st2 b hb
  exact Heap.lt_size e
 have f3:∀ b∈fp,FpOk X pins (upd H2 D (.lst [])) b∧b<s3.heap.objs.size:=fun b hb=>by
  have hlt:=sz b hb
  refine ⟨⟨?_,(f2 b hb).2⟩,by rw [h3,Heap.size_push];exact Nat.lt_succ_of_lt hlt⟩
  rw [upd_ne (by rw [← hD];exact Nat.ne_of_lt hlt)]
  exact (f2 b hb).1
 have st3:tn 0 s3.heap:=T.keep _ _ _ st2 fun b _ o e=>by rw [h3];exact Heap.get?_push_of_some _ e
 have I4:=block_start I3 ok hN f3
 have pg:=hg s3 (upd H2 D (.lst [])) s3.heap.objs.size (cellsFrom (s3.heap.objs.size+1) scope.names (cloFrom X.env.cells scope.names [])) fp
 have pt:=ht s3 (upd H2 D (.lst [])) s3.heap.objs.size (cellsFrom (s3.heap.objs.size+1) scope.names (cloFrom X.env.cells scope.names [])) fp
 have pe:=he s3 (upd H2 D (.lst [])) s3.heap.objs.size (cellsFrom (s3.heap.objs.size+1) scope.names (cloFrom X.env.cells scope.names [])) fp
 show codeAny _ _ (.compStart (.ListComp elt [⟨tg,iter,ifs,0⟩] scope pos) 0 (.ref it) (.ref D) (compEnvC scope (cellsFrom (s3.heap.objs.size+1) scope.names (cloFrom X.env.cells scope.names [])) s3.heap.objs.size X.env)) (compPost (model X.prog X.w) X.A X.xe use Qf (.ref D) s3.heap.objs.size) { s3 with heap:=pushCells (s3.heap.push { cls:=.type "dict",data:=.dict #[] }) scope.names }
 have nfp:∀ b∈fp,(upd H2 D (.lst [])) b=none:=fun b hb=>(f3 b hb).1.1
 generalize hce:compEnvC scope (cellsFrom (s3.heap.objs.size+1) scope.names (cloFrom X.env.cells scope.names [])) s3.heap.objs.size X.env=ce at I4 pg pt pe ⊢
 have cL:ce.locals=s3.heap.objs.size:=by subst hce;rfl
 generalize hH3:upd H2 D (.lst [])=H3 at I3 I4 pg pt pe w0 nfp f3
 generalize hs4:({ s3 with heap:=pushCells (s3.heap.push { cls:=.type "dict",data:=.dict #[] }) scope.names }:Shared)=s4 at I4 ⊢
 have st4:tn 0 s4.heap:=T.keep _ _ _ st3 fun b _ o e=>by rw [← hs4];exact pushCells_keeps _ _ _ _ (Heap.get?_push_of_some _ e)
 have stat:∀ {σ':St}{H':Hp}{s':Shared},Inv (X.blk s3 H3 scope ce fp) [] σ' H' s'→(∀ b∈fp,H' b=none)→∀ b∈fp,FpOk (X.blk s3 H3 scope ce fp) [] H' b:=fun {σ' H' s'} I' hn b hb =>
  ⟨hn b hb,(I'.ok.exf b hb).1,I'.ok.exfs b hb,.inl hb,fun x c e=>(I'.ok.exf b hb).2 x c e,fun p hp=>absurd (show p∈([]:List (Addr×Obj))++[] from hp) (by simp)⟩
 have loop:codeAny (model X.prog X.w) X.A (.compLoop (.ListComp elt [⟨tg,iter,ifs,0⟩] scope pos) 0 (.ref it) (.ref D) ce) (compPost (model X.prog X.w) X.A X.xe use Qf (.ref D) s3.heap.objs.size) s4:=by
  refine compLoop_any (fun n s'=>∃ i H',Inv (X.blk s3 H3 scope ce fp) [] (wipe σ (own.map (·.2))) H' s'∧tn i s'.heap∧(∀ b∈fp,H' b=none)∧W i n H') ?_ m0 ⟨0,H3,I4,st4,nfp,w0⟩
  rintro n s5 ⟨i,H5,I5,st5,n5,w5⟩
  rcases turn i n H5 w5 with ⟨stop,qq⟩ | ⟨go,Nx,hNx,step⟩
  ·have td:=T.done (X.blk s3 H3 scope ce fp) rfl rfl rfl hc i [] s5 _ H5 (fun _ _=>False) I5 (stat I5 n5) st5 stop
   refine thnF td fun r s6 ⟨hr,I6⟩=>?_
   subst hr
   -- back in the def's context
   have I7:Inv X pins σ H5 s6:=I3.call' (ch:=fp) I6.os I6.base I6.hok I6.bare fun b hb=>⟨(f3 b hb).1.2.2.2.1,(f3 b hb).1.2.1,(f3 b hb).1.2.2.2.2.1,(f3 b hb).1.2.2.2.2.2⟩
   have nC:H5 s3.heap.objs.size=none:=by
    have z:H5 ce.locals=none:=I6.free
    rw [cL] at z
    exact z
   obtain ⟨m,hn,_⟩:=I6.loc
   have hn:s6.heap.Ns ce.locals m:=hn
   rw [cL] at hn
   exact hRR D s3.heap.objs.size s6 m H5 I7 qq hn (I3.fpOk (Nat.le_refl _) nC)
  ·have ti:=T.item (X.blk s3 H3 scope ce fp) rfl rfl rfl hc i [] s5 _ H5 (fun _ _=>False) I5 (stat I5 n5) st5 go
   refine thnF ti fun r s6 ⟨u,hr,h6⟩=>?_
   subst hr
   refine thnF h6 fun _ s7 ⟨x,H7,I7,r7,y7,st7,n7⟩=>?_
   have I7':=I7.pinned (stat I7 n7) (T.obj _ _ st7)
   refine thnF (pg _ s7 _ H7 x u _ I7' r7 (step x H7 y7)) fun _ s8 ⟨σ8,H8,I8,hw8,q8⟩=>?_
   refine thnF (pt _ s8 σ8 H8 _ I8 q8) fun b s9 ⟨H9,I9,q9⟩=>?_
   -- the turn's end
   have fin:∀ {s':Shared}{H':Hp},Inv (X.blk s3 H3 scope ce fp) ([]++pinsAt fp s7.heap) σ8 H' s'→Nx H'→∃ m,m<n∧∃ i H',Inv (X.blk s3 H3 scope ce fp) [] (wipe σ (own.map (·.2))) H' s'∧tn i s'.heap∧(∀ b∈fp,H' b=none)∧W i m H':=fun {s' H'} I' nx=>by
    obtain ⟨m',hm,w'⟩:=hNx H' nx
    have pin':∀ b∈fp,∀ o,s7.heap.get? b=some o→s'.heap.get? b=some o∧H' b=none:=fun b hb o e =>
     let z:=I'.pin (b,o) (List.mem_append_right _ (List.mem_append_right _ (mem_pinsAt hb e)))
     ⟨z.1,z.2.1⟩
    have hl:(wipe σ (own.map (·.2))).length=σ8.length:=by rw [← hw8,wipe_length]
    refine ⟨m',hm,i+1,H',(I'.unpinned (pins:=[])).weak hl (fun j v e=>?_),T.keep _ _ _ st7 fun b hb o e=>(pin' b hb o e).1,fun b hb=>?_,w'⟩
    ·rw [← hw8] at e
     exact (wipe_some e).1
    ·obtain ⟨o,e,_⟩:=T.obj _ _ st7 b hb
     exact (pin' b hb o e).2
   cases b with
   | false =>
    simp only [Bool.false_eq_true,if_false] at q9 ⊢
    exact fin I9 q9
   | true =>
    simp only [if_true] at q9 ⊢
    refine thnF (pe _ s9 σ8 H9 _ I9 q9) fun z s10 ⟨yv,H10,I10,r10,acc,hD10,hz10,nx⟩=>?_
    exact app_ok (X:=X.blk s3 H3 scope ce fp) I10 hD10 hz10 r10 fun s11 I11=>fin I11 nx
 exact codeAny_compStart_list loop (T.self X.A 0 _ _ _ st4 loop)
theorem pe_lc {elt tg iter:Expr}{ifs:List Expr}{scope:Scope}{own:List (Str×Nat)}{pos:Pos}{wi:TI}{g:TG}{tt:TT}{te:TE} (hc:X.calm=true) (hN:X.N.Nodup) (hi:PI X tg iter wi) (ok:BlkOk X.N X.env.scope scope own)
  (hg:∀ (s:Shared) (H:Hp) (C:Addr) (cl:List (Str×Addr)) (fp:List Addr),PG (X.blk s H scope (compEnvC scope cl C X.env) fp) tg g) (ht:∀ (s:Shared) (H:Hp) (C:Addr) (cl:List (Str×Addr)) (fp:List Addr),PTs (X.blk s H scope (compEnvC scope cl C X.env) fp) ifs tt)
  (he:∀ (s:Shared) (H:Hp) (C:Addr) (cl:List (Str×Addr)) (fp:List Addr),PE (X.blk s H scope (compEnvC scope cl C X.env) fp) elt te) (hs:∀ x,foldedSetIterable iter X.env x=pure x:=by intro _;rfl) :
  PE X (.ListComp elt [⟨tg,iter,ifs,0⟩] scope pos) (tLc wi g tt te (own.map (·.2))):=by
 intro pins s σ H Q I h
 rw [eval_ListComp]
 refine lc_core hc hN I hi ok hg ht he hs h fun D C s' m H' I' q hn f=>⟨m,hn,fun h'' sb=>?_⟩
 obtain ⟨f0,f1,f2,f3,f4,f5⟩:=f
 exact ⟨.ref D,H',I'.turned (t':=s'.toks) (fun b o hb e=>(sb.2 b hb).trans e) f0 f1 f3 f4 f5,rfl,q⟩
end
theorem lc_list {K:PySem.W.Frag}{a:Addr}{xs:List V}{g:TG}{tt:TT}{te:TE}{vs:List Nat}{σ:St}{H1:Hp}{D:Addr}{Qd:Hp→Prop} (Pv:Nat→Hp→Prop) (h0:Pv 0 (upd H1 D (.lst []))) (hl:∀ i H,i≤xs.length→Pv i H→SqL K H a xs)
  (hs:∀ i x H,xs[i]?=some x→Pv i H→g x (wipe σ vs) H fun σ2 H2=>wipe σ2 vs=wipe σ vs∧tt σ2 H2 fun b H3 =>
   if b=true then te σ2 H3 fun y H4=>∃ acc,H4 D=some (.lst acc)∧acc.length<sizeLine∧Pv (i+1) (upd H4 D (.lst (acc++[y]))) else Pv (i+1) H3) (hd:∀ H,Pv xs.length H→Qd H) :
  ∃ W:Nat→Nat→Hp→Prop,(∃ m,W 0 m (upd H1 D (.lst [])))∧∀ i m H,W i m H →
   ((Itl K a).stop i H∧Qd H)∨((Itl K a).go i H∧∃ Nx:Hp→Prop,(∀ H',Nx H'→∃ m',m' < m∧W (i+1) m' H')∧∀ x H',(Itl K a).yld i H x H'→g x (wipe σ vs) H' fun σ2 H2=>wipe σ2 vs=wipe σ vs∧tt σ2 H2 fun b H3 =>
    if b=true then te σ2 H3 fun y H4=>∃ acc,H4 D=some (.lst acc)∧acc.length<sizeLine∧Nx (upd H4 D (.lst (acc++[y]))) else Nx H3):=by
 refine ⟨fun i m H=>m=xs.length-i∧i≤xs.length∧Pv i H,⟨xs.length,by simp,Nat.zero_le _,h0⟩,?_⟩
 rintro i m H ⟨rfl,hi,p⟩
 have q:=hl i H hi p
 by_cases hlt:i<xs.length
 ·refine .inr ⟨⟨xs,xs[i],q,by simp [hlt]⟩,Pv (i+1),fun H' p'=>⟨xs.length-(i+1),by omega,rfl,hlt,p'⟩,fun x H' y=>?_⟩
  obtain ⟨e,y⟩:=y
  subst e
  exact hs i x _ (y xs q) p
 ·have e:i=xs.length:=by omega
  subst e
  exact .inl ⟨⟨xs,q,Nat.le_refl _⟩,hd H p⟩
end L2
namespace L2
open PySem PySem.Spec PyProof.Rows
section
variable {prog:Program}{w:World}{A:Around}{R:Result→Shared→Prop}{s:Shared}{elt t0 i0 t1 i1:Expr}{ifs0 ifs1:List Expr}{scope:Scope}{pos:Pos}{it acc:Value}{env:Env}
end
section
variable {X:Cx}
end
end L2
namespace L2
open PySem PySem.Spec PyProof.Rows
section
variable {κ:Type} [DecidableEq κ]
end
section
variable {P:Program}{w:World}{H:Hp}{h:Heap}{a:Addr}
end
section
variable {X:Cx}{pins:List (Addr×Obj)}{σ:St}{H:Hp}{s:Shared}{a:Addr}{y v:V}{u r:Value}{o:Option V}{A:Around}{E:Value→Shared→Prop}
end
section
variable {X:Cx}{pins:List (Addr×Obj)}{σ:St}{H:Hp}{s:Shared}{a:Addr}{kvs:List (Key×V)}{k:Key}{u:Value}{A:Around}{E:Value→Shared→Prop}
end
section
variable {X:Cx}{o i e value:Expr}{pos pos' tpos:Pos}{td ty tv:TE}
end
section
variable {X:Cx}{pos:Pos}
end
section
variable {X:Cx}{pins:List (Addr×Obj)}{σ:St}{H:Hp}{s:Shared}{a:Addr}{y d:V}{u r:Value}{o:Option V}{A:Around}{E:Value→Shared→Prop}
end
section
variable {X:Cx}{o e f:Expr}{apos cpos:Pos}{td ty tx:TE}
end
section
variable {X:Cx}{pins:List (Addr×Obj)}{σ:St}{H:Hp}{s:Shared}{a:Addr}{kvs:List (Key×V)}{A:Around}{E:Value→Shared→Prop}
end
section
variable {X:Cx}{pins:List (Addr×Obj)}{σ:St}{H:Hp}{s:Shared}{a:Addr}{y:V}{u:Value}{A:Around}{E:Value→Shared→Prop}
end
end L2
namespace L2
open PySem PySem.Spec PyProof.Rows
section
variable {prog:Program}{w:World}{A:Around}{E:Value→Shared→Prop}
end
section
variable {X:Cx}
end
end L2
namespace L2
open PySem PySem.Spec PyProof.Rows
section
variable {X:Cx}{pins:List (Addr×Obj)}{σ:St}{H:Hp}{s:Shared}{h':Heap}
theorem Inv.turnedNew {t':Nat}{ch:List Addr}{T:Addr}{ob:HO} (I:Inv X pins σ H s) (k:∀ b o,b ∉ ch→s.heap.get? b=some o→h'.get? b=some o) (hf:∀ b∈ch,FpOk X pins H b) (hT:s.heap.objs.size≤T)
  (new:ObjOk X.prog X.w (upd H T ob) h' T ob):Inv X pins σ (upd H T ob) { s with heap:=h',toks:=t' }:=by
 have hn:H T=none:=I.hok.fresh hT
 have nit:∀ b u,H b=some u→b ∉ ch:=fun b u e z=>by
  have q:=(hf b z).1
  rw [q] at e;cases e
 refine I.step (g':=s.gens) (d':=s.drawn) (ch:=ch) (fun b hb=>⟨(hf b hb).2.2.2.1,(hf b hb).2.1,(hf b hb).2.2.2.2.1,(hf b hb).2.2.2.2.2⟩) (fun b o _ _ hc e _=>k b o hc e) (fun b o _ _ hc e _=>⟨o.slots,k b o hc e⟩)
  (fun b o _ e n=>?_) (fun b o hc e=>⟨o,k b o hc e⟩) (fun b xs e=>?_) (fun b o u e=>?_) (fun b ps e=>⟨#[],?_⟩) (fun m hm=>?_) (fun b u e=>?_) I.bare
 ·rw [upd_ne (Nat.ne_of_lt (Nat.lt_of_lt_of_le (Heap.lt_size e) hT))];exact n
 ·rw [upd_ne (ne_of_none e hn)];exact e
 ·rw [upd_ne (ne_of_none e hn)];exact e
 ·rw [upd_ne (ne_of_none e hn),e];simp
 ·obtain ⟨o,es,ep,ho,r⟩:=hm
  exact ⟨o,es,ep,k _ o (fun z=>(hf _ z).2.1 rfl) ho,r⟩
 ·by_cases hb:b=T
  ·subst hb
   rw [upd_same] at e
   cases e
   exact new
  ·rw [upd_ne hb] at e
   refine (I.hok b u e).stay (fun c v hc q=>k c v ?_ q) (fun c q=>by rw [upd_ne (ne_of_none q hn)];exact q) fun c xs q=>by rw [upd_ne (ne_of_none q hn)];exact q
   rcases hc with z | z
   ·rw [z];exact nit b u e
   ·exact nit c _ z
end
section
variable {X:Cx}
theorem pi_one {tg:Expr}{pins:List (Addr×Obj)}{σ:St}{H:Hp}{s:Shared}{R:It→Hp→Prop}{J:It}{tn:Nat→Heap→Prop}{tk:Nat} (I:Inv X pins σ H s) (o:Obj)
  (T:Turn X.prog X.w X.K tg J [s.heap.objs.size] s.heap.objs.size tn) (st:tn 0 (s.heap.push o)) (q:R J H):PIE X pins σ tg R (.ref s.heap.objs.size) { s with heap:=s.heap.push o,toks:=tk }:=by
 refine ⟨s.heap.objs.size,[s.heap.objs.size],tn,J,H,rfl,I.kept fun b ob e=>Heap.get?_push_of_some _ e,T,st,fun b hb=>?_,q⟩
 have e:b=s.heap.objs.size:=by simpa using hb
 subst e
 exact I.fpOk (Nat.le_refl _) (I.hok.fresh (Nat.le_refl _))
end
def Itc (lo c:Int) (n:Nat):It:=⟨fun i _=>i<n,fun i H x H'=>H'=H∧x=.int (lo+(i:Nat) * c),fun i _=>n≤i⟩
theorem turn_rangeC {P:Program}{w:World}{K:PySem.W.Frag}{tg:Expr} (it:Addr) (lo c:Int) (n:Nat):Turn P w K tg (Itc lo c n) [it] it (fun i h=>IsRangeIter h it (lo+(i:Nat) * c) ((n:Int)-(i:Nat)) c) where
 mem:=by simp
 obj:=fun i h st b hb=>by
  have e:b=it:=by simpa using hb
  subst e
  exact ⟨_,st,fun v z=>nomatch z⟩
 keep:=fun i h h' st k=>k it (by simp) _ st
 item:=by
  intro X hP hw hK hc i pins s σ H E I hf st hg
  subst hP hw hK
  obtain ⟨f0,f1,f2,f3,f4,f5⟩:=hf it (by simp)
  have W:=Walks.range (prog:=X.prog) (w:=X.w) (I.ok.hd hc) it lo c n
  refine W.item i s _ _ hg st fun v h' tk hv st' kk=>?_
  obtain ⟨t,rfl⟩:=hv
  have I1:Inv X pins σ H { s with heap:=h',toks:=tk }:=I.turned (fun b o hb e=>kk b o (by simpa using hb) e) f0 f1 f3 f4 f5
  exact ⟨_,rfl,go_of (s:={ s with heap:=h',toks:=tk }) (n:="range_iterator") st' rfl rfl (by decide) ⟨.int (lo+(i:Nat) * c),H,I1,⟨t,rfl⟩,⟨rfl,rfl⟩,st',fun b hb=>(hf b hb).1⟩⟩
 done:=by
  intro X hP hw hK hc i pins s σ H E I hf st hg
  subst hP hw hK
  obtain ⟨f0,f1,f2,f3,f4,f5⟩:=hf it (by simp)
  exact wpAny_pyNext_range_end (I.ok.hd hc) st (by have:n≤i:=hg;omega) fun h' eb=>⟨rfl,I.turned (t':=s.toks) (fun b o hb e=>eb b o hb e) f0 f1 f3 f4 f5⟩
 self:=fun A i s Q E st h=>wpAny_pyIter_rangeiter st h
def RgC (i j c:Int) (n:Nat):Prop:=c≠0∧c.natAbs<1073741824∧Builtin.Range.small i j c=true∧Builtin.Range.rangeSize i j c=n
theorem RgC.neg {i j:Int} (ha:-(2 ^ 62)≤i) (ha':i<2 ^ 62) (hb:-(2 ^ 62)≤j) (hb':j<2 ^ 62):RgC i j (-1) (i-j).toNat :=
 ⟨by decide,by decide,PySem.W.small_down ha ha' hb hb',PySem.W.rangeSize_downNat i j⟩
def iRng3 (ta:TA):TI:=fun σ H R=>ta σ H fun vs H1=>∃ (i j c:Int) (n:Nat),vs=[.int i,.int j,.int c]∧RgC i j c n∧R (Itc i c n) H1
section
variable {X:Cx}{tg:Expr}
theorem pi_range3 {a b c:Expr}{ta:TA}{p pos:Pos} (hg:Gl X "range") (hm:X.mg "range"=none) (ha:PA X [a,b,c] ta)
  (hs:starEach [a,b,c] X.env=(false,eval a X.env)::starEach [b,c] X.env:=by rfl) (hpl:(backTo pos (starEach [b,c] X.env)).any (·.1)=false:=by rfl) :
  PI X tg (.Call (.Name "range" p) [a,b,c] [] pos) (iRng3 ta):=by
 intro pins s σ H R I h
 refine Call_ (ld_blt I hg hm boot_range (PyProof.Rows.callWith_type1 (thn (ha pos pins s σ H _ I h) fun us s1 ⟨vs,H1,I1,r1,q1⟩=>?_) hs hpl))
 obtain ⟨i,j,k,n,e,⟨c0,c1,c2,c3⟩,q⟩:=q1
 subst e
 cases r1 with
 | cons r rr =>
  cases rr with
  | cons r' rr =>
   cases rr with
   | cons r'' rr =>
    cases rr
    obtain ⟨t,rfl⟩:=r
    obtain ⟨t',rfl⟩:=r'
    obtain ⟨t'',rfl⟩:=r''
    refine call_range_3 c0 ?_ (.inl (PyProof.noPylong_small c1))
    refine wpAny_pyIter_range (IsRange.new ..) c2 ?_
    have I2:Inv X pins σ H1 { s1 with heap:=s1.heap.push { cls:=.type "range",data:=.fields #[.int i t,.int j t',.int k t''] } }:=I1.kept (t':=s1.toks) fun b o e=>Heap.get?_push_of_some _ e
    refine pi_one (tk:=s1.toks) I2 _ (turn_rangeC _ i k n) ?_ q
    have e1:i+((0:Nat):Int) * k=i:=by simp
    have e2:(n:Int)-((0:Nat):Int)=Builtin.Range.rangeSize i j k:=by rw [c3];simp
    show IsRangeIter _ _ (i+((0:Nat):Int) * k) ((n:Int)-((0:Nat):Int)) k
    rw [e1,e2]
    exact Heap.get?_push_size _ rfl
end
theorem for_rangeC {lo c:Int}{n:Nat}{g:TG}{tb:TS}{D:Ends}{σ:St}{H:Hp} (Pv:Nat→St→Hp→Prop) (h0:Pv 0 σ H)
  (hs:∀ i σ H,i<n→Pv i σ H→g (.int (lo+(i:Nat) * c)) σ H fun σ2 H2=>tb { D with nx:=Pv (i+1),ct:=Pv (i+1),bk:=D.nx } σ2 H2) (hd:∀ σ H,Pv n σ H→D.nx σ H) :
  ∃ W:Nat→Nat→St→Hp→Prop,(∃ m,W 0 m σ H)∧∀ i m σ H,W i m σ H →
   ((Itc lo c n).stop i H∧D.nx σ H)∨((Itc lo c n).go i H∧∃ N:St→Hp→Prop,(∀ σ' H',N σ' H'→∃ m',m' < m∧W (i+1) m' σ' H')∧∀ x H',(Itc lo c n).yld i H x H'→g x σ H' fun σ2 H2=>tb { D with nx:=N,ct:=N,bk:=D.nx } σ2 H2):=by
 refine ⟨fun i m σ H=>m=n-i∧i≤n∧Pv i σ H,⟨n,by simp,Nat.zero_le _,h0⟩,?_⟩
 rintro i m σ H ⟨rfl,hi,p⟩
 by_cases hlt:i<n
 ·refine .inr ⟨hlt,Pv (i+1),fun σ' H' p'=>⟨n-(i+1),by omega,rfl,hlt,p'⟩,fun x H' y=>?_⟩
  obtain ⟨e,y⟩:=y
  subst e y
  exact hs i σ _ hlt p
 ·have e:i=n:=by omega
  subst e
  exact .inl ⟨Nat.le_refl _,hd σ H p⟩
section
variable {X:Cx}{tg:Expr}
end
section
variable {prog:Program}{w:World}{A:Around}{E:Value→Shared→Prop}{s:Shared}
end
section
variable {X:Cx}{pins:List (Addr×Obj)}{σ:St}{H:Hp}{s:Shared}{d:Addr}{o:Obj}
end
section
variable {P:Program}{w:World}{K:PySem.W.Frag}{tg:Expr}{d:Addr}{o:Obj}{es:Array DictEntry}{ep:Nat}
end
section
variable {X:Cx}{tg e:Expr}{td:TE}{apos cpos:Pos}
end
def Ite (K:PySem.W.Frag) (a:Addr):It :=
 ⟨fun i H=>∃ (xs:List V) (x:V),SqL K H a xs∧xs[i]?=some x,fun i H v H'=>∃ T x,v=.ref T∧H T=none∧H'=upd H T (.tup [.int (i:Nat),x])∧∀ xs,SqL K H a xs→xs[i]?=some x,fun i H=>∃ xs:List V,SqL K H a xs∧xs.length≤i⟩
theorem turn_enum {P:Program}{w:World}{K:PySem.W.Frag}{elts:List Expr}{kk:Nat}{tpos:Pos} (a e it:Addr) :
  Turn P w K (.Tuple elts kk tpos) (Ite K a) [e,it] e (fun i h=>(∃ old,IsEnum h e it ((i:Nat):Int) old)∧h.IsListIter it a i∧e≠it) where
 mem:=by simp
 obj:=fun i h st b hb=>by
  obtain ⟨⟨old,he⟩,⟨o,ho,hc,hd⟩,_⟩:=st
  have e':b=e∨b=it:=by simpa using hb
  rcases e' with z | z
  ·rw [z];exact ⟨_,he,fun v q=>nomatch q⟩
  ·rw [z];exact ⟨o,ho,fun v q=>by rw [hd] at q;cases q⟩
 keep:=fun i h h' st k=>let ⟨⟨old,he⟩,hi,hne⟩:=st;⟨⟨old,k e (by simp) _ he⟩,hi.at fun o q=>k it (by simp) o q,hne⟩
 item:=by
  intro X hP hw hK hc i pins s σ H E I hf st hg
  subst hP hw hK
  obtain ⟨⟨old,he⟩,hit,hne⟩:=st
  obtain ⟨xs,x,hq,hx⟩:=hg
  obtain ⟨its,rv,p,hz⟩:=I.list hq
  obtain ⟨u,hu,ru⟩:=rv.get hx
  have hel:e<s.heap.objs.size:=Heap.lt_size he
  have hil:it<s.heap.objs.size:=by obtain ⟨_,q,_⟩:=hit;exact Heap.lt_size q
  refine wpAny_pyNext_enum_item he hit p.isList (x:=u) (by simpa using hu) hne fun h' ho hit' hT hsz hk=>?_
  refine ⟨_,rfl,wpAny_letOwnedTupleGo_enum (s:={ s with heap:=h',toks:=s.toks+1 }) ho fun h'' he' sb=>?_⟩
  have hT2:h''.get? s.heap.objs.size=some { cls:=.type "tuple",data:=.seq #[.int i s.toks,u] }:=(sb.2 _ (Nat.ne_of_gt hel)).trans hT
  have new:ObjOk X.prog X.w (upd H s.heap.objs.size (.tup [.int (i:Nat),x])) h'' s.heap.objs.size (.tup [.int (i:Nat),x]) :=
   ⟨by show 2≤sizeLine;decide,[.int i s.toks,u],.cons ⟨_,rfl⟩ (.cons ru .nil),⟨_,hT2,rfl,_,rfl⟩⟩
  have I1:Inv X pins σ (upd H s.heap.objs.size (.tup [.int (i:Nat),x])) { s with heap:=h'',toks:=s.toks+1 } :=
   I.turnedNew (ch:=[e,it]) (fun b ob hb q=>(sb.2 b (fun z=>hb (by simp [z]))).trans (hk b ob (fun z=>hb (by simp [z])) (fun z=>hb (by simp [z])) q)) hf (Nat.le_refl _) new
  refine ⟨.ref s.heap.objs.size,_,I1,rfl,⟨_,x,rfl,I.hok.fresh (Nat.le_refl _),rfl,fun ys hy=>by rw [I.list_inj hy hq];exact hx⟩,⟨⟨u,?_⟩,hit'.at fun o q=>(sb.2 it (Ne.symm hne)).trans q,hne⟩,fun b hb=>?_⟩
  ·have e1:((i+1:Nat):Int)=(i:Int)+1:=by omega
   rw [e1];exact he'
  ·have hb':b<s.heap.objs.size:=by
    have e':b=e∨b=it:=by simpa using hb
    rcases e' with z | z
    ·rw [z];exact hel
    ·rw [z];exact hil
   rw [upd_ne (Nat.ne_of_lt hb')]
   exact (hf b hb).1
 done:=by
  intro X hP hw hK hc i pins s σ H E I hf st hg
  subst hP hw hK
  obtain ⟨⟨old,he⟩,hit,hne⟩:=st
  obtain ⟨xs,hq,hx⟩:=hg
  obtain ⟨its,rv,p,hz⟩:=I.list hq
  obtain ⟨f0,f1,f2,f3,f4,f5⟩:=hf it (by simp)
  have hl:=rv.length
  exact wpAny_pyNext_enum_end (I.ok.hd hc) he hit p.isList (by simp;omega) fun h' eb=>⟨rfl,I.turned (t':=s.toks) (fun b o hb q=>eb b o hb q) f0 f1 f3 f4 f5⟩
 self:=fun A i s Q E st h=>let ⟨⟨_,he⟩,_⟩:=st;wpAny_pyIter_enum he h
def iEnum (K:PySem.W.Frag) (ta:TA):TI:=fun σ H R=>ta σ H fun vs H1=>∃ a xs,vs=[.ref a]∧SqL K H1 a xs∧R (Ite K a) H1
theorem pi_enum {X:Cx}{e:Expr}{ta:TA}{p pos tpos:Pos}{elts:List Expr}{kk:Nat} (hg:Gl X "enumerate") (hm:X.mg "enumerate"=none) (ha:PA X [e] ta) (hs:starEach [e] X.env=[(false,eval e X.env)]:=by rfl) :
  PI X (.Tuple elts kk tpos) (.Call (.Name "enumerate" p) [e] [] pos) (iEnum X.K ta):=by
 intro pins s σ H R I h
 refine Call_ (ld_blt I hg hm boot_enumerate (PyProof.Rows.callWith_type1 (thn (ha pos pins s σ H _ I h) fun us s1 ⟨vs,H1,I1,r1,q1⟩=>?_) hs rfl))
 obtain ⟨a,xs,ex,hq,q⟩:=q1
 subst ex
 cases r1 with
 | cons r rr =>
  cases rr
  cases r
  obtain ⟨its,rv,p',hz⟩:=I1.list hq
  refine call_enumerate_list p'.isList fun h' he hit hsz hk=>wpAny_pyIter_enum he ?_
  have I2:Inv X pins σ H1 { s1 with heap:=h' }:=I1.kept (t':=s1.toks) hk
  refine ⟨s1.heap.objs.size+1,[s1.heap.objs.size+1,s1.heap.objs.size],_,_,H1,rfl,I2,turn_enum a (s1.heap.objs.size+1) s1.heap.objs.size,⟨⟨.none,he⟩,hit,Nat.succ_ne_self _⟩,fun b hb=>?_,q⟩
  have e':b=s1.heap.objs.size+1∨b=s1.heap.objs.size:=by simpa using hb
  have hle:s1.heap.objs.size≤b:=by
   rcases e' with z | z
   ·rw [z];exact Nat.le_add_right _ _
   ·rw [z];exact Nat.le_refl _
  exact I1.fpOk hle (I1.hok.fresh hle)
end L2
section 
namespace Bits
open PySem PyProof.Rows
end Bits
end 
section 
namespace TL
open PySem PySem.Builtin PySem.Builtin.Str PySem.StrLaws
abbrev tl (x:Str):List Nat:=x.cps.toList
def pre (S l:List Nat):Bool:=l.take S.length==S
def par (S:List Nat):List Nat→List Nat→Option (List Nat×List Nat)
 | _,[]=>none
 | acc,c::r=>if pre S (c::r)=true then some (acc,(c::r).drop S.length) else par S (acc++[c]) r
def joinL (S:List Nat):List (List Nat)→List Nat
 | []=>[]
 | [p]=>p
 | p::q::r=>p++(S++joinL S (q::r))
end TL
end 
namespace L2
open PySem PySem.Spec PyProof.Rows
section
variable {X:Cx}{pins:List (Addr×Obj)}{σ:St}{H:Hp}{s:Shared}{Q:VK}
end
section
variable {X:Cx}
end
section
variable {X:Cx}{o e:Expr}{to te:TE}
end
end L2
namespace L2
open PySem PySem.Spec PyProof.Rows
section
variable {X:Cx}
end
end L2
namespace Att
open PySem PySem.W PySem.Calls PyProof.Rows
section
variable {prog:Program}{w:World}{A:Around}{E:Value→Shared→Prop}{s:Shared}{K:Frag}
end
end Att
namespace L2
open PySem PySem.Spec PyProof.Rows
end L2
namespace L2
open PySem PySem.Spec PyProof.Rows
end L2
namespace L2
open PySem PySem.Spec PyProof.Rows
def inClass (s:Stmt) (j:Nat):Stmt:=match s with
 | .ClassDef _ _ _ body _ _ _ _ _ _ _=>body.getD j (.Pass ⟨0,0,0,0⟩)
 | _=>.Pass ⟨0,0,0,0⟩
def defArgs (s:Stmt):Arguments:=match s with
 | .FunctionDef _ a _ _ _ _ _ _ _ _=>a
 | _=>{ posonlyargs:=[],args:=[],vararg:=none,kwonlyargs:=[],kw_defaults:=[],kwarg:=none,defaults:=[] }
def defBody (s:Stmt):List Stmt:=match s with
 | .FunctionDef _ _ b _ _ _ _ _ _ _=>b
 | _=>[]
def defScope (s:Stmt):Scope:=match s with
 | .FunctionDef _ _ _ _ _ _ sc _ _ _=>sc
 | _=>{ kind:=.function,names:=[],isGenerator:=false,isCoroutine:=false }
abbrev CX0:CXT:=fun _ _ _ _ _ _=>False
abbrev E0:XK:=fun _ _ _=>False
theorem pass0 {X:Cx}:Passes CX0 X E0:=fun _ _ _ _ _ _ _ h=>h.elim
structure Fun (K:PySem.W.Frag) (x qual:Str) (st:Stmt) (f:Addr) (fd:FuncData):Prop where
 ex:∃ (oc:Value) (od:Option Addr) (kV doc pm:Value) (an:Option Addr) (cdv ct:Value) (osl:Array (Option Value)),
  fd=PySem.W.fnOf x qual (defArgs st) (defBody st) (defScope st) .none kV doc pm an cdv ct∧K.lookup f=some ⟨oc,od,.func fd,osl⟩∧PySem.W.codeIn K cdv qual=true
 kp:PySem.W.keepIn K (.ref f)=true
section
variable {P:Program}{w:World}{K:PySem.W.Frag}{mg:Str→Option Value}{base:Heap}
theorem Fun.ok {x qual:Str}{st:Stmt}{f:Addr}{fd:FuncData}{N ps:List Str}{k:Nat}{sp:Sp} (F:Fun K x qual st f fd) (S:FnScope N ps (defScope st)) (len:∀ vs H Q E,sp vs H Q E→vs.length=ps.length)
  (hbody:∀ (cdv:Value) (A:Around) (outer:List Env) (s:Shared) (H:Hp) (vs:List V) (Q:VK) (E:XK),Room k (A.deeper (envOfC qual (defScope st) s.heap.objs.size f cdv))→sp vs H Q E →
   ∃ t,PSs (cxOf CX0 P w K mg base N qual (defScope st) f cdv A outer s H E).nox (defBody st) t∧t { nx:=fun _ H'=>Q .non H',rt:=Q } (start N vs) H):FnOk P w K mg base CX0 (k+1) f fd ps sp:=by
 obtain ⟨oc,od,kV,doc,pm,an,cdv,ct,osl,rfl,lk,hcd⟩:=F.ex
 refine fn_of lk hcd S len fun A outer s H vs Q E hr hsp=>?_
 obtain ⟨t,h,q⟩:=hbody cdv A outer s H vs Q E hr hsp
 exact ⟨t,h.nox,q⟩
theorem Fun.binds {x qual:Str}{st:Stmt}{f:Addr}{fd:FuncData}{ps:List Str} (F:Fun K x qual st f fd)
  (h:∀ (kV doc pm:Value) (an:Option Addr) (cdv ct:Value) (us:List Value),us.length=ps.length→bindArgs (PySem.W.fnOf x qual (defArgs st) (defBody st) (defScope st) .none kV doc pm an cdv ct) ⟨us,[]⟩=pure (ps.zip us)):Binds K fd ps []:=by
 obtain ⟨oc,od,kV,doc,pm,an,cdv,ct,osl,rfl,lk,hcd⟩:=F.ex
 exact .all (h kV doc pm an cdv ct)
theorem fun_mk {x qual:Str}{st:Stmt}{f:Addr}{oc:Value}{od an:Option Addr}{osl:Array (Option Value)}{kV doc pm cdv ct:Value} (l:K.lookup f=some ⟨oc,od,.func (PySem.W.fnOf x qual (defArgs st) (defBody st) (defScope st) .none kV doc pm an cdv ct),osl⟩)
  (c:PySem.W.codeIn K cdv qual=true) (k:PySem.W.keepIn K (.ref f)=true):Fun K x qual st f (PySem.W.fnOf x qual (defArgs st) (defBody st) (defScope st) .none kV doc pm an cdv ct):=⟨⟨oc,od,kV,doc,pm,an,cdv,ct,osl,rfl,l,c⟩,k⟩
end
section
variable {X:Cx}
theorem pv (i:Nat) {x:Str}{pos:Pos} (hN:X.N[i]?=some x:=by rfl) (hv:Vis X.env.scope x:=by first | exact Or.inl rfl | exact Or.inr (Or.inl rfl) | exact Or.inr (Or.inr rfl)) (hd:(x==("__debug__":Str))=false:=by decide)
  (hcd:(x==("__classdict__":Str))=false:=by decide):PE X (.Name x pos) (tVar i):=pe_var hN hv hd hcd
end
section
variable {κ:Type} [DecidableEq κ]
end
theorem nd_ix {α:Type}{l:List α} (hN:l.Nodup) {i j:Nat}{x:α} (a:l[i]?=some x) (b:l[j]?=some x):i=j:=by
 obtain ⟨h1,e1⟩:=List.getElem?_eq_some_iff.mp a
 obtain ⟨h2,e2⟩:=List.getElem?_eq_some_iff.mp b
 exact (List.getElem_inj hN).mp (e1.trans e2.symm)
end L2
end
section
section
set_option maxRecDepth 100000
set_option maxHeartbeats 2000000
namespace L2
open PySem PySem.Spec PyProof.Rows
open PySem.W (WData Codec OpenSpec Well WellAll ReadsW ReadsAllW)
mutual
inductive Dw (K:PySem.W.Frag) (H:Hp):V→WData→Prop
 | non:Dw K H .non .none
 | bl (b:Bool):Dw K H (.bl b) (.bool b)
 | int (i:Int):Dw K H (.int i) (.int i)
 | str (x:Str):Dw K H (.str x) (.str x)
 | byt (b:Array UInt8):Dw K H (.byt b) (.bytes b.toList)
 | lst {a:Addr}{xs:List V}{ds:List WData}:SqL K H a xs→DwAll K H xs ds→Dw K H (.ref a) (.list ds)
 | tup {a:Addr}{xs:List V}{ds:List WData}:SqT K H a xs→DwAll K H xs ds→Dw K H (.ref a) (.tuple ds)
inductive DwAll (K:PySem.W.Frag) (H:Hp):List V→List WData→Prop
 | nil:DwAll K H [] []
 | cons {v:V}{vs:List V}{d:WData}{ds:List WData}:Dw K H v d→DwAll K H vs ds→DwAll K H (v::vs) (d::ds)
end
theorem dw_ints {K:PySem.W.Frag}{H:Hp}:∀ ns:List Int,DwAll K H (ns.map V.int) (ns.map WData.int)
 | []=>.nil
 | n::r=>.cons (.int n) (dw_ints r)
theorem ints_dw {K:PySem.W.Frag}{H:Hp}:∀ (ns:List Int) (xs:List V),DwAll K H xs (ns.map WData.int)→xs=ns.map V.int
 | [],xs,h=>by
  cases h
  rfl
 | n::r,xs,h=>by
  cases h with
  | cons h1 h2 =>
   cases h1
   rw [ints_dw r _ h2] <;> rfl
section
variable {P:Program}{w:World}{K:PySem.W.Frag}{H:Hp}{h:Heap}{R:PySem.W.WRecords}{cl:Str→Option Addr}
theorem sqL_at {a:Addr}{xs:List V} (hok:HOk P w H h) (KX:K.In h) (q:SqL K H a xs):∃ (its:List Value) (o:Obj) (n:Nat),Vals xs its∧h.get? a=some o∧o.cls=.type "list"∧o.data=.seq its.toArray n:=by
 rcases q with q | ⟨o,its,n,e,hc,_,hd,_,hv⟩
 ·obtain ⟨_,its,n,hv,e⟩:=(show ObjOk P w H h a (.lst xs) from q.ok hok)
  exact ⟨its,_,n,hv,e,rfl,rfl⟩
 ·exact ⟨its.toList,o,n,hv,KX _ _ e,hc,by simp [hd]⟩
theorem sqT_at {a:Addr}{xs:List V} (hok:HOk P w H h) (KX:K.In h) (q:SqT K H a xs):∃ (its:List Value) (o:Obj) (n:Nat),Vals xs its∧h.get? a=some o∧o.cls=.type "tuple"∧o.data=.seq its.toArray n:=by
 rcases q with q | ⟨o,its,n,e,hc,hd,_,hv⟩
 ·obtain ⟨_,its,hv,o,e,hc,n,hd⟩:=(show ObjOk P w H h a (.tup xs) from q.ok hok)
  exact ⟨its,o,n,hv,e,hc,hd⟩
 ·exact ⟨its.toList,o,n,hv,KX _ _ e,hc,by simp [hd]⟩
mutual
theorem Dw.reads (hok:HOk P w H h) (KX:K.In h):∀ (d:WData) (v:V) (u:Value),Dw K H v d→RelV v u→∃ as,ReadsW R cl h u d as
 | .none,_,_,x,r=>by
  cases x
  cases r
  exact ⟨_,ReadsW.none⟩
 | .bool b,_,_,x,r=>by
  cases x
  cases r
  exact ⟨_,ReadsW.bool b⟩
 | .int i,_,_,x,r=>by
  cases x
  obtain ⟨t,rfl⟩:=r
  exact ⟨_,ReadsW.int i t⟩
 | .str s,_,_,x,r=>by
  cases x
  obtain ⟨t,rfl⟩:=r
  exact ⟨_,ReadsW.str s t⟩
 | .bytes b,_,_,x,r=>by
  cases x
  obtain ⟨t,rfl⟩:=r
  exact ⟨_,ReadsW.bytes _ t⟩
 | .list ds,_,_,x,r=>by
  cases x with
  | lst hs ha =>
   cases r
   obtain ⟨its,o,n,rv,ho,hc,hd⟩:=sqL_at hok KX hs
   obtain ⟨as,hr⟩:=Dw.readsAll hok KX ds _ its ha rv
   exact ⟨_,ReadsW.list ho hc hd hr⟩
 | .tuple ds,_,_,x,r=>by
  cases x with
  | tup hs ha =>
   cases r
   obtain ⟨its,o,n,rv,ho,hc,hd⟩:=sqT_at hok KX hs
   obtain ⟨as,hr⟩:=Dw.readsAll hok KX ds _ its ha rv
   exact ⟨_,ReadsW.tuple ho hc hd hr⟩
 | .float _,_,_,x,_=>by cases x
 | .dict _,_,_,x,_=>by cases x
 | .bytearray _,_,_,x,_=>by cases x
 | .set _,_,_,x,_=>by cases x
 | .frozenset _,_,_,x,_=>by cases x
 | .obj _ _,_,_,x,_=>by cases x
theorem Dw.readsAll (hok:HOk P w H h) (KX:K.In h):∀ (ds:List WData) (vs:List V) (us:List Value),DwAll K H vs ds→Vals vs us→∃ as,ReadsAllW R cl h us ds as
 | [],_,_,x,r=>by
  cases x
  cases r
  exact ⟨_,ReadsAllW.nil⟩
 | d::ds,_,_,x,r=>by
  cases x with
  | cons h1 h2 =>
   cases r with
   | cons r1 r2 =>
    obtain ⟨as,q1⟩:=Dw.reads hok KX d _ _ h1 r1
    obtain ⟨bs,q2⟩:=Dw.readsAll hok KX ds _ _ h2 r2
    exact ⟨_,ReadsAllW.cons q1 q2⟩
end
end
mutual
def plW:WData→Bool
 | .none=>true
 | .bool _=>true
 | .int _=>true
 | .str _=>true
 | .bytes _=>true
 | .list xs=>plWs xs
 | .tuple xs=>plWs xs
 | _=>false
def plWs:List WData→Bool
 | []=>true
 | x::r=>plW x && plWs r
end
theorem plWs_map {α:Type}{f:α→WData} (h:∀ a,plW (f a)=true):∀ l:List α,plWs (l.map f)=true
 | []=>rfl
 | x::r=>by
  show (plW (f x) && plWs (r.map f))=true
  rw [h x,plWs_map h r] <;> rfl
theorem pl_enc:∀ (c:Codec) (a:c.denote),plW (c.enc a)=true
 | .unit,_=>rfl
 | .bool,_=>rfl
 | .int _ _,_=>rfl
 | .nat _ _,_=>rfl
 | .u8,_=>rfl
 | .bytes _ _,_=>rfl
 | .text _ _ _ _,_=>rfl
 | .list _ _ c,a=>plWs_map (fun x=>pl_enc c x) a
 | .pair c d,a=>by
  show (plW (c.enc a.1) && (plW (d.enc a.2) && true))=true
  rw [pl_enc c a.1,pl_enc d a.2] <;> rfl
 | .triple c d e,a=>by
  show (plW (c.enc a.1) && (plW (d.enc a.2.1) && (plW (e.enc a.2.2) && true)))=true
  rw [pl_enc c a.1,pl_enc d a.2.1,pl_enc e a.2.2] <;> rfl
 | .option c,none=>rfl
 | .option c,some x=>pl_enc c x
theorem pl_encAll:∀ (cs:List Codec) (a:Codec.denoteAll cs),plWs (Codec.encAll cs a)=true
 | [],_=>rfl
 | c::cs,a=>by
  show (plW (c.enc a.1) && plWs (Codec.encAll cs a.2))=true
  rw [pl_enc c a.1,pl_encAll cs a.2] <;> rfl
theorem weight_mem:∀ {xs:List WData}{d:WData},d∈xs→d.weight≤WData.weightAll xs
 | [],d,h=>absurd h (by simp)
 | x::r,d,h=>by
  show d.weight≤x.weight+1+WData.weightAll r
  rcases List.mem_cons.mp h with e | m
  ·rw [e]
   lia
  ·have z:=weight_mem m
   lia
def toV:Value→V
 | .none=>.non
 | .bool b=>.bl b
 | .int i _=>.int i
 | .str x _=>.str x
 | .bytes b _=>.byt b
 | .ref a=>.ref a
 | _=>.non
def OkU (A:List Addr):Value→Prop
 | .none=>True
 | .bool _=>True
 | .int _ _=>True
 | .str _ _=>True
 | .bytes _ _=>True
 | .ref a=>a∈A
 | _=>False
theorem OkU.mono {A B:List Addr} (h:∀ a∈A,a∈B):∀ {u:Value},OkU A u→OkU B u:=fun {u} x=>by
 cases u with
 | ref a=>exact h a x
 | none=>trivial
 | bool b=>trivial
 | int i t=>trivial
 | str s t=>trivial
 | bytes b t=>trivial
 | _=>exact False.elim x
theorem relV_toV {A:List Addr}{u:Value} (x:OkU A u):RelV (toV u) u:=by
 cases u with
 | ref a=>rfl
 | none=>rfl
 | bool b=>rfl
 | int i t=>exact ⟨t,rfl⟩
 | str s t=>exact ⟨t,rfl⟩
 | bytes b t=>exact ⟨t,rfl⟩
 | _=>exact False.elim x
theorem vals_toV {A:List Addr}:∀ {vs:List Value},(∀ u∈vs,OkU A u)→Vals (vs.map toV) vs
 | [],_=>.nil
 | u::r,h=>.cons (relV_toV (h u (List.mem_cons_self ..))) (vals_toV fun x hx=>h x (List.mem_cons_of_mem _ hx))
def ArgOb (h:Heap) (A:List Addr) (a:Addr):Prop:=∃ vs:List Value,vs.length≤sizeLine∧(∀ u∈vs,OkU A u) ∧
 (h.get? a=some { cls:=.type "list",data:=.seq vs.toArray }∨h.get? a=some { cls:=.type "tuple",data:=.seq vs.toArray })
theorem ArgOb.mono {h:Heap}{A B:List Addr}{a:Addr} (k:∀ a∈A,a∈B) (x:ArgOb h A a):ArgOb h B a:=by
 obtain ⟨vs,h1,h2,h3⟩:=x
 exact ⟨vs,h1,fun u hu=>(h2 u hu).mono k,h3⟩
theorem wellAll_len {P:Params}{h:Heap}:∀ {vs:List Value}{ds:List WData},WellAll P h vs ds→vs.length=ds.length
 | _,_,.nil=>rfl
 | _,_,.cons _ b=>by
  show _+1=_+1
  rw [wellAll_len b]
theorem well_list {P:Params}{h:Heap}{v:Value}{ds:List WData} (x:Well P h v (.list ds)):∃ (a:Addr) (vs:List Value),v=.ref a∧h.get? a=some { cls:=.type "list",data:=.seq vs.toArray }∧WellAll P h vs ds:=by
 cases x with
 | list ho hall=>exact ⟨_,_,rfl,ho,hall⟩
theorem well_tuple {P:Params}{h:Heap}{v:Value}{ds:List WData} (x:Well P h v (.tuple ds)):∃ (a:Addr) (vs:List Value),v=.ref a∧h.get? a=some { cls:=.type "tuple",data:=.seq vs.toArray }∧WellAll P h vs ds:=by
 cases x with
 | tuple ho hall=>exact ⟨_,_,rfl,ho,hall⟩
theorem well_cons {P:Params}{h:Heap}{us:List Value}{d:WData}{ds:List WData} (x:WellAll P h us (d::ds)):∃ (v:Value) (vs:List Value),us=v::vs∧Well P h v d∧WellAll P h vs ds:=by
 cases x with
 | cons a b=>exact ⟨_,_,rfl,a,b⟩
theorem line_of {n:Nat} (h:n≤1048576):n≤sizeLine:=Nat.le_trans h (by decide)
section
variable {P:Params}{h:Heap}
mutual
theorem area_one:∀ (d:WData) (v:Value),Well P h v d→plW d=true→d.weight≤1048576→∃ A:List Addr,OkU A v∧∀ a∈A,ArgOb h A a
 | .none,_,x,_,_=>by
  cases x
  exact ⟨[],trivial,fun a m=>absurd m (by simp)⟩
 | .bool b,_,x,_,_=>by
  cases x
  exact ⟨[],trivial,fun a m=>absurd m (by simp)⟩
 | .int i,_,x,_,_=>by
  cases x
  exact ⟨[],trivial,fun a m=>absurd m (by simp)⟩
 | .str s,_,x,_,_=>by
  cases x
  exact ⟨[],trivial,fun a m=>absurd m (by simp)⟩
 | .bytes b,_,x,_,_=>by
  cases x
  exact ⟨[],trivial,fun a m=>absurd m (by simp)⟩
 | .list ds,_,x,p,z=>by
  obtain ⟨a,vs,rfl,ho,hall⟩:=well_list x
  have z2:WData.weightAll ds≤1048576:=z
  obtain ⟨A,h1,h2⟩:=area_all ds _ hall p fun d hd=>Nat.le_trans (weight_mem hd) z2
  have k:∀ b∈A,b∈a::A:=fun b hb=>List.mem_cons_of_mem _ hb
  refine ⟨a::A,List.mem_cons_self ..,fun b hb=>?_⟩
  rcases List.mem_cons.mp hb with e | m
  ·rw [e]
   exact ⟨vs,line_of (by rw [wellAll_len hall];exact Nat.le_trans (PySem.W.length_le_weightAllW ds) z2),fun u hu=>(h1 u hu).mono k,.inl ho⟩
  ·exact (h2 b m).mono k
 | .tuple ds,_,x,p,z=>by
  obtain ⟨a,vs,rfl,ho,hall⟩:=well_tuple x
  have z2:WData.weightAll ds≤1048576:=z
  obtain ⟨A,h1,h2⟩:=area_all ds _ hall p fun d hd=>Nat.le_trans (weight_mem hd) z2
  have k:∀ b∈A,b∈a::A:=fun b hb=>List.mem_cons_of_mem _ hb
  refine ⟨a::A,List.mem_cons_self ..,fun b hb=>?_⟩
  rcases List.mem_cons.mp hb with e | m
  ·rw [e]
   exact ⟨vs,line_of (by rw [wellAll_len hall];exact Nat.le_trans (PySem.W.length_le_weightAllW ds) z2),fun u hu=>(h1 u hu).mono k,.inr ho⟩
  ·exact (h2 b m).mono k
 | .float _,_,_,p,_=>Bool.noConfusion (show false=true from p)
 | .dict _,_,_,p,_=>Bool.noConfusion (show false=true from p)
 | .bytearray _,_,_,p,_=>Bool.noConfusion (show false=true from p)
 | .set _,_,_,p,_=>Bool.noConfusion (show false=true from p)
 | .frozenset _,_,_,p,_=>Bool.noConfusion (show false=true from p)
 | .obj _ _,_,_,p,_=>Bool.noConfusion (show false=true from p)
theorem area_all:∀ (ds:List WData) (vs:List Value),WellAll P h vs ds→plWs ds=true→(∀ d∈ds,d.weight≤1048576)→∃ A:List Addr,(∀ u∈vs,OkU A u)∧∀ a∈A,ArgOb h A a
 | [],_,x,_,_=>by
  cases x
  exact ⟨[],fun u m=>absurd m (by simp),fun a m=>absurd m (by simp)⟩
 | d::ds,_,x,p,z=>by
  obtain ⟨v,vs,rfl,x1,x2⟩:=well_cons x
  have q:plW d=true∧plWs ds=true:=Bool.and_eq_true_iff.mp p
  obtain ⟨A,a1,a2⟩:=area_one d v x1 q.1 (z d (List.mem_cons_self ..))
  obtain ⟨B,b1,b2⟩:=area_all ds vs x2 q.2 fun e he=>z e (List.mem_cons_of_mem _ he)
  have kA:∀ b∈A,b∈A++B:=fun b hb=>List.mem_append.mpr (.inl hb)
  have kB:∀ b∈B,b∈A++B:=fun b hb=>List.mem_append.mpr (.inr hb)
  refine ⟨A++B,fun u hu=>?_,fun b hb=>?_⟩
  ·rcases List.mem_cons.mp hu with e | m
   ·rw [e]
    exact a1.mono kA
   ·exact (b1 u m).mono kB
  ·rcases List.mem_append.mp hb with m | m
   ·exact (a2 b m).mono kA
   ·exact (b2 b m).mono kB
end
end
def hoOf (o:Obj):Option HO:=match o.data with
 | .seq vs _=>if (o.cls==Value.type "list")=true then some (.frz o (.lst (vs.toList.map toV))) else some (.frz o (.tup (vs.toList.map toV)))
 | _=>none
def argH (K:PySem.W.Frag) (h:Heap) (A:List Addr):Hp:=fun b=>if b∈A then (if (K.lookup b).isNone=true then (h.get? b).bind hoOf else none) else none
def OnlyF (H:Hp):Prop:=∀ b,H b=none∨∃ o u,H b=some (.frz o u)
theorem hoOf_lst (vs:List Value):hoOf { cls:=.type "list",data:=.seq vs.toArray }=some (.frz { cls:=.type "list",data:=.seq vs.toArray } (.lst (vs.map toV))):=by
 show (if (Value.type "list"==Value.type "list")=true then some (HO.frz { cls:=.type "list",data:=.seq vs.toArray } (.lst (vs.toArray.toList.map toV))) else some (HO.frz { cls:=.type "list",data:=.seq vs.toArray } (.tup (vs.toArray.toList.map toV))))=_
 rw [if_pos (beq_self_eq_true _)]
theorem hoOf_tup (vs:List Value):hoOf { cls:=.type "tuple",data:=.seq vs.toArray }=some (.frz { cls:=.type "tuple",data:=.seq vs.toArray } (.tup (vs.map toV))):=by
 show (if (Value.type "tuple"==Value.type "list")=true then some (HO.frz { cls:=.type "tuple",data:=.seq vs.toArray } (.lst (vs.toArray.toList.map toV))) else some (HO.frz { cls:=.type "tuple",data:=.seq vs.toArray } (.tup (vs.toArray.toList.map toV))))=_
 rw [if_neg (by decide)]
section
variable {P:Program}{w:World}{K:PySem.W.Frag}{h:Heap}{A:List Addr}
theorem argH_at {b:Addr}{o:Obj} (hb:b∈A) (hk:K.lookup b=none) (e:h.get? b=some o):argH K h A b=hoOf o:=by
 unfold argH
 rw [if_pos hb,hk,if_pos (show (none:Option Obj).isNone=true from rfl),e] <;> rfl
theorem of_argH {b:Addr}{u:HO} (q:argH K h A b=some u):b∈A∧K.lookup b=none:=by
 unfold argH at q
 by_cases hb:b∈A
 ·rw [if_pos hb] at q
  cases hk:K.lookup b with
  | none=>exact ⟨hb,rfl⟩
  | some o =>
   rw [hk,if_neg (by simp)] at q
   cases q
 ·rw [if_neg hb] at q
  cases q
theorem argH_is (ar:∀ a∈A,ArgOb h A a) {b:Addr}{u:HO} (q:argH K h A b=some u):K.lookup b=none∧∃ vs:List Value,vs.length≤sizeLine∧(∀ u∈vs,OkU A u) ∧
  ((h.get? b=some { cls:=.type "list",data:=.seq vs.toArray }∧u=.frz { cls:=.type "list",data:=.seq vs.toArray } (.lst (vs.map toV))) ∨
   (h.get? b=some { cls:=.type "tuple",data:=.seq vs.toArray }∧u=.frz { cls:=.type "tuple",data:=.seq vs.toArray } (.tup (vs.map toV)))):=by
 obtain ⟨hb,hk⟩:=of_argH q
 obtain ⟨vs,h1,h2,h3⟩:=ar b hb
 refine ⟨hk,vs,h1,h2,?_⟩
 rcases h3 with e | e
 ·rw [argH_at hb hk e,hoOf_lst] at q
  exact .inl ⟨e,(Option.some.inj q).symm⟩
 ·rw [argH_at hb hk e,hoOf_tup] at q
  exact .inr ⟨e,(Option.some.inj q).symm⟩
theorem argH_only (ar:∀ a∈A,ArgOb h A a):OnlyF (argH K h A):=fun b=>by
 cases q:argH K h A b with
 | none=>exact .inl rfl
 | some u =>
  obtain ⟨_,vs,_,_,⟨_,e⟩ | ⟨_,e⟩⟩:=argH_is ar q
  ·exact .inr ⟨_,_,by rw [e]⟩
  ·exact .inr ⟨_,_,by rw [e]⟩
theorem argH_ok (ar:∀ a∈A,ArgOb h A a):HOk P w (argH K h A) h:=fun b u q=>by
 obtain ⟨_,vs,h1,h2,⟨e,rfl⟩ | ⟨e,rfl⟩⟩:=argH_is ar q
 ·exact ⟨e,by rw [List.length_map];exact h1,vs,_,vals_toV h2,e⟩
 ·exact ⟨e,by rw [List.length_map];exact h1,vs,vals_toV h2,_,e,rfl,_,rfl⟩
theorem seq_inj {c c':Value}{vs us:List Value} (e:(some { cls:=c,data:=.seq vs.toArray }:Option Obj)=some { cls:=c',data:=.seq us.toArray }):c=c'∧vs=us:=by
 have e1:=Option.some.inj e
 have e2:c=c':=congrArg Obj.cls e1
 have e3:Data.seq vs.toArray=Data.seq us.toArray:=congrArg Obj.data e1
 injection e3 with e4
 refine ⟨e2,?_⟩
 have e5:=congrArg Array.toList e4
 simpa using e5
theorem argL (KX:K.In h) (ar:∀ a∈A,ArgOb h A a) {a:Addr}{vs:List Value} (ha:a∈A) (e:h.get? a=some { cls:=.type "list",data:=.seq vs.toArray }):(∀ u∈vs,OkU A u)∧SqL K (argH K h A) a (vs.map toV):=by
 obtain ⟨us,h1,h2,h3⟩:=ar a ha
 have hu:us=vs:=by
  rcases h3 with q | q
  ·rw [e] at q
   exact (seq_inj q).2.symm
  ·rw [e] at q
   exact absurd (Value.type.inj (seq_inj q).1) (by decide)
 subst hu
 refine ⟨h2,?_⟩
 cases hk:K.lookup a with
 | none=>exact .inl (.inr ⟨_,by rw [argH_at ha hk e,hoOf_lst]⟩)
 | some o =>
  have e2:=KX a o hk
  rw [e] at e2
  obtain rfl:=Option.some.inj e2
  exact .inr ⟨_,us.toArray,_,hk,rfl,rfl,rfl,by rw [List.size_toArray];exact h1,by simpa using vals_toV h2⟩
theorem argT (KX:K.In h) (ar:∀ a∈A,ArgOb h A a) {a:Addr}{vs:List Value} (ha:a∈A) (e:h.get? a=some { cls:=.type "tuple",data:=.seq vs.toArray }):(∀ u∈vs,OkU A u)∧SqT K (argH K h A) a (vs.map toV):=by
 obtain ⟨us,h1,h2,h3⟩:=ar a ha
 have hu:us=vs:=by
  rcases h3 with q | q
  ·rw [e] at q
   exact absurd (Value.type.inj (seq_inj q).1) (by decide)
  ·rw [e] at q
   exact (seq_inj q).2.symm
 subst hu
 refine ⟨h2,?_⟩
 cases hk:K.lookup a with
 | none=>exact .inl (.inr ⟨_,by rw [argH_at ha hk e,hoOf_tup]⟩)
 | some o =>
  have e2:=KX a o hk
  rw [e] at e2
  obtain rfl:=Option.some.inj e2
  exact .inr ⟨_,us.toArray,_,hk,rfl,rfl,by rw [List.size_toArray];exact h1,by simpa using vals_toV h2⟩
mutual
theorem dw_one {Pm:Params} (KX:K.In h) (ar:∀ a∈A,ArgOb h A a):∀ (d:WData) (v:Value),Well Pm h v d→plW d=true→OkU A v→Dw K (argH K h A) (toV v) d
 | .none,_,x,_,_=>by
  cases x
  exact .non
 | .bool b,_,x,_,_=>by
  cases x
  exact .bl b
 | .int i,_,x,_,_=>by
  cases x
  exact .int i
 | .str s,_,x,_,_=>by
  cases x
  exact .str s
 | .bytes b,_,x,_,_=>by
  cases x
  have z:=Dw.byt (K:=K) (H:=argH K h A) b.toArray
  exact z
 | .list ds,_,x,p,hu=>by
  obtain ⟨a,vs,rfl,ho,hall⟩:=well_list x
  obtain ⟨h2,hs⟩:=argL KX ar hu ho
  exact .lst hs (dw_all KX ar ds _ hall p h2)
 | .tuple ds,_,x,p,hu=>by
  obtain ⟨a,vs,rfl,ho,hall⟩:=well_tuple x
  obtain ⟨h2,hs⟩:=argT KX ar hu ho
  exact .tup hs (dw_all KX ar ds _ hall p h2)
 | .float _,_,_,p,_=>Bool.noConfusion (show false=true from p)
 | .dict _,_,_,p,_=>Bool.noConfusion (show false=true from p)
 | .bytearray _,_,_,p,_=>Bool.noConfusion (show false=true from p)
 | .set _,_,_,p,_=>Bool.noConfusion (show false=true from p)
 | .frozenset _,_,_,p,_=>Bool.noConfusion (show false=true from p)
 | .obj _ _,_,_,p,_=>Bool.noConfusion (show false=true from p)
theorem dw_all {Pm:Params} (KX:K.In h) (ar:∀ a∈A,ArgOb h A a):∀ (ds:List WData) (vs:List Value),WellAll Pm h vs ds→plWs ds=true→(∀ u∈vs,OkU A u)→DwAll K (argH K h A) (vs.map toV) ds
 | [],_,x,_,_=>by
  cases x
  exact .nil
 | d::ds,_,x,p,hu=>by
  obtain ⟨v,vs,rfl,x1,x2⟩:=well_cons x
  have q:plW d=true∧plWs ds=true:=Bool.and_eq_true_iff.mp p
  exact .cons (dw_one KX ar d v x1 q.1 (hu _ (List.mem_cons_self ..))) (dw_all KX ar ds vs x2 q.2 fun u m=>hu u (List.mem_cons_of_mem _ m))
end
end
theorem spec_call {P:Program}{w:World}{K:PySem.W.Frag}{mg mb:Str→Option Value}{CX:CXT}{k:Nat}{fa:Addr}{fd:FuncData}{ps:List Str}{sp:Sp}{s₁:Shared}{vals:List Value}{ds:List WData}{R:PySem.W.WRecords}{cl:Str→Option Addr}{d0:WData}
  (KX:K.In s₁.heap) (hns:s₁.heap.Ns mainGlobals mg) (hb:s₁.heap.Ns builtinsNs mb) (hbb:∀ x:Str,x≠"__name__"→mb x=bootBuiltins x) (hlim:s₁.heap.NoLimit) (hg:s₁.gens=#[])
  (hwl:WellAll w.params s₁.heap vals ds) (hpl:plWs ds=true) (hwt:∀ d∈ds,d.weight≤1048576) (hr:Room k callerA)
  (F:∀ base:Heap,K.In base→base.Ns mainGlobals mg→FnOk P w K mg base CX k fa fd ps sp) (hbind:∀ (s:Shared) (us:List Value),us.length=ps.length→BindsTo s fd ⟨us,[]⟩ (ps.zip us)) (hlen:ds.length=ps.length)
  (hsp:∀ (H:Hp) (xs:List V),OnlyF H→DwAll K H xs ds→sp xs H (fun v H'=>Dw K H' v d0) fun _ _ _=>False)
  (hCX:∀ H e s',CX [] H s₁ (fun _ _ _=>False) e s'→False) :
  codeAny (model P w) callerA (.call (.ref fa) ⟨vals,[]⟩) (fun r s'=>∃ u as,r=.ok (.ret u)∧ReadsW R cl s'.heap u d0 as∧OldK s₁.heap s'.heap∧s'.os=s₁.os∧AllBare s'.gens) s₁:=by
 obtain ⟨A,ho,ar⟩:=area_all ds vals hwl hpl hwt
 have hO:OnlyF (argH K s₁.heap A):=argH_only ar
 have hok:HOk P w (argH K s₁.heap A) s₁.heap:=argH_ok ar
 have hS:=dw_all KX ar ds vals hwl hpl ho
 have hV:=vals_toV ho
 have hK:∀ b u,argH K s₁.heap A b=some u→K.lookup b=none:=fun b u q=>(argH_is ar q).1
 have noA:∀ {b:Addr}{o:Obj}{es:Array DictEntry}{ep:Nat},s₁.heap.get? b=some o→o.data=.dict es ep→argH K s₁.heap A b=none:=fun {b o es ep} e d=>by
  cases q:argH K s₁.heap A b with
  | none=>rfl
  | some u =>
   obtain ⟨_,vs,_,_,⟨e2,_⟩ | ⟨e2,_⟩⟩:=argH_is ar q
   ·rw [e2] at e
    cases e
    have d':Data.seq vs.toArray _=Data.dict es ep:=d
    cases d'
   ·rw [e2] at e
    cases e
    have d':Data.seq vs.toArray _=Data.dict es ep:=d
    cases d'
 generalize argH K s₁.heap A=H at hO hok hS hK noA
 have base_of:∀ {b:Addr}{o:Obj},s₁.heap.get? b=some o→H b=none→(hidT s₁.heap H).get? b=some o:=fun e n=>hidT_get e n
 have nsK:∀ {b:Addr}{m:Str→Option Value},s₁.heap.Ns b m→(hidT s₁.heap H).Ns b m:=fun {b m} ⟨o,es,ep,e,d,r⟩=>⟨o,es,ep,base_of e (noA e d),d,r⟩
 have nK:∀ b o,K.lookup b=some o→H b=none:=fun b o e=>by
  cases q:H b with
  | none=>rfl
  | some u =>
   rw [hK b u q] at e
   cases e
 have hKb:K.In (hidT s₁.heap H):=fun b o e=>base_of (KX b o e) (nK b o e)
 have hM:Mod K mg (hidT s₁.heap H):=⟨hKb,nsK hns,⟨mb,nsK hb,hbb⟩,let ⟨mc,h1,h2⟩:=hlim;⟨mc,nsK h1,h2⟩⟩
 have e0:Env0 P w K mg (hidT s₁.heap H) callerA [] s₁ H:=⟨rfl,hM,fun b o e=>of_hidT e,Nat.le_of_eq (hidT_size _ _),trivial,fun b hb=>absurd (show b∈([]:List Addr) from hb) (by simp),hok,.of_eq hg⟩
 have hl:vals.length=ps.length:=by rw [wellAll_len hwl];exact hlen
 refine codeAny_mono ((F _ hKb (nsK hns)).run callerA [] s₁ H ⟨vals,[]⟩ vals (vals.map toV) _ _ hr e0 (hbind s₁ vals hl) hV (hsp H _ hO hS)) fun r s' x=>?_
 cases r with
 | error e=>exact (hCX H e s' x).elim
 | ok fl =>
  cases fl with
  | next=>exact False.elim x
  | brk=>exact False.elim x
  | cont=>exact False.elim x
  | ret u =>
   obtain ⟨v,H',os,bare,un,hok',r',q⟩:=x
   have kept:∀ b o,s₁.heap.get? b=some o→s'.heap.get? b=some o:=fun b o e=>by
    cases q2:H b with
    | none=>exact un.keep b o e q2 (by intro z;exact absurd (show b∈([]:List Addr) from z) (by simp)) (by simp)
    | some u2 =>
     rcases hO b with z | ⟨ob,u3,z⟩
     ·rw [q2] at z
      cases z
     ·have z2:=un.frzs b ob _ z
      obtain ⟨e1,_⟩:=hok b _ z
      obtain ⟨e2,_⟩:=hok' b _ z2
      rw [e] at e1
      cases e1
      exact e2
   have KX':K.In s'.heap:=fun b o e=>kept b o (KX b o e)
   obtain ⟨as,hrd⟩:=Dw.reads (R:=R) (cl:=cl) hok' KX' d0 v u q r'
   exact ⟨u,as,rfl,hrd,OldK.of_keep kept,os,bare⟩
theorem layable_weight {ds:List WData} (h:WData.layableAll ds=true):∀ d∈ds,d.weight≤1048576:=fun d hd =>
 (PySem.W.layableW_iff.mp (List.all_eq_true.mp h d hd)).2.2
theorem encAll_len:∀ (cs:List Codec) (a:Codec.denoteAll cs),(Codec.encAll cs a).length=cs.length
 | [],_=>rfl
 | c::cs,a=>by
  show (Codec.encAll cs a.2).length+1=cs.length+1
  rw [encAll_len cs a.2]
theorem walk_spec {r:OpenSpec}{k:Nat}{q:Program}{loose:List Str}{XP:(Str→Option Value)→Heap→Prop}{YP:World→Heap→Prop}{d:DefRec}{K:Params→PySem.W.Frag}{CX:World→CXT}{ps:List Str}{sp:World→Sp}
  (hwell:r.wellSaid=true) (hdf:d.params.defaults=[]) (hlen:r.args.length=ps.length) (hr:Room k callerA)
  (hY:∀ (w:World) (h:Heap),YP w h→(K w.params).In h)
  (F:∀ (w:World) (mg:Str→Option Value) (fa:Addr) (h:Heap),YP w h→(K w.params).In h→h.Ns mainGlobals mg→mg d.name=some (.ref fa) →
   ∃ fd:FuncData,(∀ (s:Shared) (us:List Value),us.length=ps.length→BindsTo s fd ⟨us,[]⟩ (ps.zip us)) ∧
    ∀ base:Heap,(K w.params).In base→base.Ns mainGlobals mg→FnOk r.prog w (K w.params) mg base (CX w) k fa fd ps (sp w))
  (hsp:∀ (w:World) (H:Hp) (xs:List V) (a:Codec.denoteAll r.args),OnlyF H→Codec.withinAll r.args a=true→Codec.app r.args r.asked a=true→DwAll (K w.params) H xs (Codec.encAll r.args a) →
   sp w xs H (fun v H'=>Dw (K w.params) H' v (r.ret.enc (Codec.app r.args r.f a))) fun _ _ _=>False)
  (hCX:∀ (w:World) (H:Hp) (s:Shared) (e:Value) (s':Shared),CX w [] H s (fun _ _ _=>False) e s'→False) :
  PySem.W.WalkOS q loose XP YP r d [] (fun f vs=>PySem.call f vs):=by
 intro w s_0 s₁ mg mb G Y fa o pm cd doc dV kV ho hd hcd hD hmg hg args vals as hpre hlay hrd hwl hlo
 obtain ⟨a,e1,e2⟩:=PySem.W.os_pre_some hpre
 obtain ⟨e3,hwi⟩:=Codec.encAll_of_decAll r.args args a e1
 subst e3
 have KX:=hY w _ Y
 obtain ⟨fd,hb,hF⟩:=F w mg fa _ Y KX G.T.g hmg
 refine PySem.W.enter_call (codeAny_mono (spec_call (R:=[]) (cl:=classAt s_0.heap) (d0:=r.ret.enc (Codec.app r.args r.f a)) KX G.T.g G.T.b G.T.builtins G.T.nolimit hg hwl (pl_encAll _ _) (layable_weight hlay) hr hF hb (by rw [encAll_len];exact hlen)
  (fun H xs hO hS=>hsp w H xs a hO hwi e2 hS) fun H e s'=>hCX w H s₁ e s') fun r' s' hq=>?_)
 obtain ⟨u,as',rfl,h1,h2,h3,h4⟩:=hq
 exact ⟨.inl ⟨u,_,as',rfl,fun _=>rfl,h1,(OpenSpec.post_iff hwell hwi _ _).mpr rfl,fun z=>Bool.noConfusion (show false=true from z)⟩,h2,h3,h4⟩
theorem walk_specK {r:OpenSpec}{k:Nat}{q:Program}{loose:List Str}{XP:(Str→Option Value)→Heap→Prop}{YP:World→Heap→Prop}{d:DefRec}{K:Params→PySem.W.Frag}{CX:CXT}{ps:List Str}{sp:PySem.W.Frag→Sp}
  (hwell:r.wellSaid=true) (hdf:d.params.defaults=[]) (hlen:r.args.length=ps.length) (hr:Room k callerA)
  (hY:∀ (w:World) (h:Heap),YP w h→(K w.params).In h)
  (F:∀ (w:World) (mg:Str→Option Value) (fa:Addr) (h:Heap),YP w h→(K w.params).In h→h.Ns mainGlobals mg→mg d.name=some (.ref fa) →
   ∃ fd:FuncData,(∀ (s:Shared) (us:List Value),us.length=ps.length→BindsTo s fd ⟨us,[]⟩ (ps.zip us)) ∧
    ∀ base:Heap,(K w.params).In base→base.Ns mainGlobals mg→FnOk r.prog w (K w.params) mg base CX k fa fd ps (sp (K w.params)))
  (hsp:∀ (K:PySem.W.Frag) (H:Hp) (xs:List V) (a:Codec.denoteAll r.args),OnlyF H→Codec.withinAll r.args a=true→Codec.app r.args r.asked a=true→DwAll K H xs (Codec.encAll r.args a) →
   sp K xs H (fun v H'=>Dw K H' v (r.ret.enc (Codec.app r.args r.f a))) fun _ _ _=>False)
  (hCX:∀ (H:Hp) (s:Shared) (e:Value) (s':Shared),CX [] H s (fun _ _ _=>False) e s'→False) :
  PySem.W.WalkOS q loose XP YP r d [] (fun f vs=>PySem.call f vs) :=
 walk_spec (K:=K) (CX:=fun _=>CX) (sp:=fun w=>sp (K w.params)) hwell hdf hlen hr hY F (fun w H xs a h1 h2 h3 h4=>hsp (K w.params) H xs a h1 h2 h3 h4) fun _ H s e s'=>hCX H s e s'
end L2
end
end
section
set_option maxRecDepth 100000
namespace L2
open PySem PySem.Spec PyProof.Rows
theorem ObjOk.is {P:Program}{w:World}{H:Hp}{h:Heap}{a:Addr}{o:HO} (x:ObjOk P w H h a o):∃ ob,h.get? a=some ob:=by
 cases o with
 | lst xs=>exact let ⟨_,_,_,_,e⟩:=x;⟨_,e⟩
 | tup xs=>exact let ⟨_,_,_,ob,e,_⟩:=x;⟨ob,e⟩
 | dK kvs=>exact let ⟨_,_,_,_,ob,_,_,e,_⟩:=x;⟨ob,e⟩
 | dT kvs=>exact let ⟨_,_,_,_,ob,_,_,e,_⟩:=x;⟨ob,e⟩
 | set S n=>exact let ⟨ob,_,_,_,e,_⟩:=x;⟨ob,e⟩
 | ins C dx fs=>exact let ⟨_,_,_,e,_⟩:=x;⟨_,e⟩
 | own y=>exact x
 | xd fs=>exact let ⟨_,⟨ob,_,_,e,_⟩,_⟩:=x;⟨ob,e⟩
 | rng lo hi=>exact let ⟨_,_,_,e⟩:=x;⟨_,e⟩
 | frz ob u=>exact let ⟨e,_⟩:=x;⟨_,e⟩
 | tbl ps=>exact ⟨_,(show h.get? a=some _ from x)⟩
 | met f y=>exact ⟨_,(show h.get? a=some _ from x)⟩
 | ext φ=>exact let ⟨_,e,_⟩:=x;e
theorem HOk.none {P:Program}{w:World}{H:Hp}{h:Heap}{a:Addr} (x:HOk P w H h) (e:h.get? a=Option.none):H a=Option.none:=by
 cases q:H a with
 | none=>rfl
 | some o =>
  obtain ⟨ob,z⟩:=(x a o q).is
  rw [e] at z;cases z
def Fly (h:Heap) (e T:Addr) (cls:Value):Prop :=
 ∃ oe vs a0 oT ts,h.get? e=some oe∧(oe.cls=cls∧vs[0]?=some a0)∧oe.data=.fields vs∧vs[1]?=some (.ref T)∧T≠e∧h.get? T=some oT∧oT.data=.fields ts∧ts[3]?=some .none
structure Flown (P:Program) (w:World) (cls:Value) (l:List Env) (H H':Hp) (h h':Heap) (e T:Addr):Prop where
 un:Un (frs l) [] H H' h h'
 hok:HOk P w H' h'
 ne:h.get? e=none
 nT:h.get? T=none
 fe:H' e=none
 fT:H' T=none
 fly:Fly h' e T cls
def CX1 (P:Program) (w:World) (C:Addr):CXT:=fun outer H s E v s' =>
 ∃ e T H',v=.ref e∧s'.os=s.os∧AllBare s'.gens∧Flown P w (.ref C) outer H H' s.heap s'.heap e T∧E (.ref C) none H'
def cover (h:Heap) (l:List Env) (e T:Addr):Heap:=PySem.W.hideAll h (frs l++[e,T])
theorem cover_get {h:Heap}{l:List Env}{e T b:Addr}{o:Obj} (q:h.get? b=some o) (n:b ∉ frs l) (ne:b≠e) (nT:b≠T):(cover h l e T).get? b=some o :=
 PySem.W.hideAll_get _ q fun m=>by
  rcases List.mem_append.mp m with z | z
  ·exact n z
  ·simp at z;exact z.elim ne nT
theorem cover_stays {h:Heap}{l:List Env}{e T:Addr}:(cover h l e T).StaysIn h:=fun _ _ q=>PySem.W.of_hideAll _ q
theorem flown_on {P:Program}{w:World}{cls a0:Value}{l l':List Env}{H H':Hp}{h h' h2:Heap}{e T:Addr}{bs:Heap} (un:Un (frs l) [] H H' h h') (hok:HOk P w H' h') (ne:h.get? e=none) (nT:h.get? T=none) (fe:H' e=none) (fT:H' T=none)
  (hf:h'.FunFrames bs l) (fr:∀ b∈frs l,H' b=none) (fl:Heap.FlyingW (cover h' l e T) l' e cls a0 h2) (up:h'.UpToSlots h2) :
  ∃ T',Flown P w cls l H H' h h2 e T':=by
 obtain ⟨st,_,_,oe,vs,T',oT,ts,he,hc,hd,h1,nT',hne,hT,hdT,h3⟩:=fl
 have kp:∀ b o,h'.get? b=some o→b ∉ frs l→b≠e→b≠T→h2.get? b=some o:=fun b o q n n1 n2=>st b o (cover_get q n n1 n2)
 have sl:∀ b o,h'.get? b=some o→b∈frs l→∃ s,h2.get? b=some { o with slots:=s }:=fun b o q m=>by
  obtain ⟨_,o',ho',hnf⟩:=hf.mem m
  rw [q] at ho';cases ho'
  exact up b o q hnf
 have nn:∀ b o,h.get? b=some o→b≠e∧b≠T:=fun b o q=>⟨fun z=>(by rw [z,ne] at q;cases q),fun z=>(by rw [z,nT] at q;cases q)⟩
 have tk:∀ b u,H' b=some u→b ∉ frs l∧b≠e∧b≠T:=fun b u q=>⟨fun z=>(by rw [fr b z] at q;cases q),fun z=>(by rw [z,fe] at q;cases q),fun z=>(by rw [z,fT] at q;cases q)⟩
 have nofr:T' ∉ frs l:=fun m=>by
  obtain ⟨_,o',ho',hnf⟩:=hf.mem m
  obtain ⟨s,hs⟩:=sl T' o' ho' m
  rw [hT] at hs;cases hs
  exact hnf _ hdT
 refine ⟨T',⟨fun b o q n hb hx=>kp b o (un.keep b o q n hb hx) hb (nn b o q).1 (nn b o q).2,fun b o q n hb hx=>?_,un.free,fun b o q hx=>?_,un.tups,un.frzs,un.tbls⟩,fun b u q=>?_,ne,?_,fe,?_,⟨oe,vs,a0,oT,ts,he,hc,hd,h1,hne,hT,hdT,h3⟩⟩
 ·obtain ⟨s,e1⟩:=un.slot b o q n hb hx
  obtain ⟨s2,e2⟩:=sl b _ e1 hb
  exact ⟨s2,e2⟩
 ·obtain ⟨o',e1⟩:=un.there b o q hx
  by_cases m:b∈frs l
  ·obtain ⟨s,e2⟩:=sl b _ e1 m
   exact ⟨_,e2⟩
  ·exact ⟨o',kp b o' e1 m (nn b o q).1 (nn b o q).2⟩
 ·refine (hok b u q).stay (fun c v hc r=>?_) (fun _ z=>z) fun _ _ z=>z
  have z:∃ u',H' c=some u':=by
   rcases hc with rfl | hc
   ·exact ⟨u,q⟩
   ·exact ⟨_,hc⟩
  obtain ⟨u',z⟩:=z
  exact kp c v r (tk c u' z).1 (tk c u' z).2.1 (tk c u' z).2.2
 ·cases q:h.get? T' with
  | none=>rfl
  | some o =>
   obtain ⟨o',e1⟩:=un.there T' o q (by simp)
   rw [cover_get e1 nofr hne (nn T' o q).2] at nT'
   cases nT'
 ·cases q:H' T' with
  | none=>rfl
  | some u =>
   obtain ⟨ob,z⟩:=(hok _ _ q).is
   rw [cover_get z nofr hne (tk _ _ q).2.2] at nT'
   cases nT'
theorem cover_e {h:Heap}{l:List Env}{e T:Addr}:(cover h l e T).get? e=none:=PySem.W.hideAll_none _ (by simp)
theorem cover_T {h:Heap}{l:List Env}{e T:Addr}:(cover h l e T).get? T=none:=PySem.W.hideAll_none _ (by simp)
theorem cover_frames {h bs:Heap}{l:List Env}{e T:Addr} (hf:h.FunFrames bs l):h.FunFrames (cover h l e T) l :=
 PySem.W.funFrames_hide hf fun env he a ha=>List.mem_append_left _ (List.mem_filterMap.mpr ⟨env,he,ha⟩)
theorem Fly.traced {h:Heap}{l:List Env}{e T:Addr}{cls:Value} (f:Fly h e T cls):∃ a0,h.TracedW (cover h l e T) e cls a0:=by
 obtain ⟨oe,vs,a0,oT,ts,he,hc,hd,h1,hne,hT,hdT,h3⟩:=f
 exact ⟨a0,oe,vs,T,oT,ts,he,hc,hd,h1,cover_T,hne,hT,hdT,h3⟩
theorem Inv.flown {X:Cx}{pins:List (Addr×Obj)}{σ:St}{H H':Hp}{s s':Shared}{cls:Value}{e T:Addr} (I:Inv X pins σ H s) (os:s'.os=s.os) (bare:AllBare s'.gens)
  (F:Flown X.prog X.w cls X.stack H H' s.heap s'.heap e T):Inv X pins σ H' s':=I.call' os F.un F.hok bare fun b z=>absurd z (by simp)
section
variable {P:Program}{w:World}{K:PySem.W.Frag}{mg:Str→Option Value}{base:Heap}{N:List Str}{qual:Str}{scope:Scope}{f C:Addr}{cd:Value}{A:Around}{outer:List Env}{s:Shared}{H:Hp}{E:XK}
abbrev cxE (P:Program) (w:World) (K:PySem.W.Frag) (mg:Str→Option Value) (base:Heap) (C:Addr) (N:List Str) (qual:Str) (scope:Scope) (f:Addr) (cd:Value) (A:Around) (outer:List Env) (s:Shared) (H:Hp) (E:XK):Cx :=
 cxOf (CX1 P w C) P w K mg base N qual scope f cd A outer s H E
theorem flown_out {pins:List (Addr×Obj)}{σ:St}{H1 H':Hp}{s1 s2:Shared}{e T:Addr} (I:Inv (cxE P w K mg base C N qual scope f cd A outer s H E) pins σ H1 s1) (os:s2.os=s1.os) (bare:AllBare s2.gens)
  (F:Flown P w (.ref C) (cxE P w K mg base C N qual scope f cd A outer s H E).stack H1 H' s1.heap s2.heap e T) (hE:E (.ref C) none H'):CX1 P w C outer H s E (.ref e) s2:=by
 have J:=I.flown os bare F
 have old:∀ b,s1.heap.get? b=none→s.heap.get? b=none:=fun b n=>by
  cases q:s.heap.get? b with
  | none=>rfl
  | some o =>
   obtain ⟨o',z⟩:=I.base.there b o q (by show b ∉ ([]:List Addr);simp)
   rw [n] at z;cases z
 exact ⟨e,T,H',rfl,J.os,J.bare,⟨J.base,J.hok,old _ F.ne,old _ F.nT,F.fe,F.fT,F.fly⟩,hE⟩
theorem passX:Passes (CX1 P w C) (cxE P w K mg base C N qual scope f cd A outer s H E) E:=by
 intro pins σ H1 s1 v s' I h
 obtain ⟨e,T,H',rfl,os,bare,F,hE⟩:=h
 have J:=I.flown os bare F
 obtain ⟨a0,tr⟩:=F.fly.traced (l:=(cxE P w K mg base C N qual scope f cd A outer s H E).stack)
 refine wpAny_leaves_onW (L:=s.heap.objs.size) J.ok.frames rfl ⟨cover_stays,cover_e,cover_frames J.stack,tr⟩ fun h2 fl up=>?_
 obtain ⟨T',F'⟩:=flown_on F.un F.hok F.ne F.nT F.fe F.fT J.stack J.stkFree fl up
 exact flown_out (s2:={ s' with heap:=h2 }) I os bare F' hE
theorem throwX {pins:List (Addr×Obj)}{σ:St}{H1:Hp}{s1:Shared}{e:Addr}{h':Heap}{vs:List Value} (I:Inv (cxE P w K mg base C N qual scope f cd A outer s H E) pins σ H1 s1) (m:Heap.MadeExcOf s1.heap h' e (.ref C) vs) (hE:E (.ref C) none H1) :
  (cxE P w K mg base C N qual scope f cd A outer s H E).xe (.ref e) { s1 with heap:=h' }:=by
 have fe:=I.hok.none m.new
 refine wpAny_leaves_madeW (base:=cover s1.heap (cxE P w K mg base C N qual scope f cd A outer s H E).stack e e) (h:=s1.heap) (L:=s.heap.objs.size) I.ok.frames rfl cover_stays (cover_frames I.stack) m fun h2 t fl _ _ up=>?_
 obtain ⟨T',F'⟩:=flown_on (Un.refl) I.hok m.new m.new fe fe I.stack I.stkFree fl ((Heap.UpToSlots.of_keeps m.keeps).trans up)
 exact flown_out (s2:={ s1 with heap:=h2 }) I rfl I.bare F' hE
end
structure Exc (K:PySem.W.Frag) (mg:Str→Option Value) (x:Str) (C:Addr):Prop where
 mgE:mg x=some (.ref C)
 q:PySem.W.excIn K C [.type "ValueError",.type "Exception",.type "BaseException",.type "object"] "ValueError.__new__"=true
theorem Exc.obj {K:PySem.W.Frag}{mg:Str→Option Value}{x:Str}{C:Addr}{h:Heap} (T:Exc K mg x C) (X:K.In h) :
  OwnCls x C [.type "ValueError",.type "Exception",.type "BaseException",.type "object"] "ValueError.__new__" mg h:=by
 refine ⟨T.mgE,?_⟩
 have q:=T.q
 unfold PySem.W.excIn at q
 split at q
 ·rename_i dd cd sl ho
  split at q
  ·rename_i C' bm k0 k1 k2 k3 n k5 hm hs
   simp only [Bool.and_eq_true,beq_iff_eq,Bool.not_eq_true'] at q
   obtain ⟨⟨⟨⟨⟨e1,e2⟩,e3⟩,e4⟩,e5⟩,e6⟩:=q
   subst e1;subst e2
   obtain ⟨nm,bs,mro,ns,qn,hd,sn,sub,ab,col,del⟩:=cd
   dsimp only at hm e3 e5 e6
   subst hm;subst e3
   have es:sl=#[k0,k1,k2,k3,some (.builtin "ValueError.__new__"),k5]:=by
    cases sl;simp only at hs;rw [hs]
   subst es
   exact ⟨bm,ns,nm,qn,bs,hd,sn,sub,ab,col,dd,k0,k1,k2,k3,k5,_,X _ _ ho,.of_isNs (PySem.W.isNs_of_in X e5),PySem.W.nsMap_none_of_in X e5 e6,PySem.W.tail_of_in X e4⟩
  ·cases q
 ·cases q
def tRaise (C:Addr) (E:XK) (ta:TA):TS:=fun _ σ H=>ta σ H fun vs H1=>vs.length≤sizeLine∧E (.ref C) none H1
theorem ps_raise {P:Program}{w:World}{K:PySem.W.Frag}{mg:Str→Option Value}{base:Heap}{N:List Str}{qual:Str}{scope:Scope}{f C:Addr}{cd:Value}{A:Around}{outer:List Env}{s:Shared}{H:Hp}{E:XK}{x:Str}{np cpos pos:Pos}{a:Expr}{as:List Expr}{ta:TA}
  (T:Exc K mg x C) (hg:Gl (cxE P w K mg base C N qual scope f cd A outer s H E) x) (ha:PA (cxE P w K mg base C N qual scope f cd A outer s H E) (a::as) ta)
  (he:starEach (a::as) (cxE P w K mg base C N qual scope f cd A outer s H E).env=(false,eval a (cxE P w K mg base C N qual scope f cd A outer s H E).env)::starEach as (cxE P w K mg base C N qual scope f cd A outer s H E).env:=by rfl)
  (hpl:(backTo cpos (starEach as (cxE P w K mg base C N qual scope f cd A outer s H E).env)).any (·.1)=false:=by rfl) (hdb:(x==("__debug__":Str))=false:=by decide) :
  PS (cxE P w K mg base C N qual scope f cd A outer s H E) (.Raise (some (.Call (.Name x np) (a::as) [] cpos)) none pos) (tRaise C E ta):=by
 intro pins s1 σ H1 D I h
 obtain ⟨bm,N',nm,q,bs,hdct,sn,sub,ab,col,dd,k0,k1,k2,k3,k5,mN,hC,hN,hni,TL⟩:=(T.obj I.ok.mod.kin).obj
 refine wpAny_Raise_call_subU (C:=C) (nm:=nm) (q:=q) (N:=N') (bs:=bs) (bm:=bm) (hdct:=hdct) (sn:=sn) (sub:=sub) (ab:=ab) (col:=col) (dd:=dd) (k0:=k0) (k1:=k1) (k2:=k2) (k3:=k3) (k5:=k5) (mN:=mN)
  PySem.F.excBase_ValueError (by decide) PySem.F.excBase_ValueError (TL.hasType (by decide)) (I.ok.hd rfl) (by rw [he];exact hpl) hni (ld_glob I hg T.mgE ⟨rfl,?_⟩ hdb)
 have hw:=ha cpos pins s1 σ H1 _ I h
 rw [he] at hw ⊢
 refine Calls.evalArgs_plain (thn hw fun us s2 ⟨vs,H2,I2,r,hl,hq⟩=>⟨rfl,?_,I2.bk _ _ hC,hN.keeps I2.bk,TL.keeps I2.bk,fun h' e m=>throwX I2 m hq⟩)
 show us.length≤sizeLine
 rw [← r.length];exact hl
abbrev Cx.marked (X:Cx) (e:Addr):Cx:={ X with A:=X.A.mark (some (.ref e)),calm:=false,xe:=fun _ _=>False }
section
variable {X:Cx}{pins:List (Addr×Obj)}{σ:St}{H:Hp}{s:Shared}{e:Addr}
theorem Inv.marked (I:Inv X pins σ H s) (e:Addr):Inv (X.marked e) pins σ H s :=
 ⟨⟨I.ok.mod,I.ok.kind,I.ok.glob,I.ok.blt,I.ok.above,I.ok.inj,I.ok.has,I.ok.cab,fun z=>absurd z (by simp),I.ok.frames,I.ok.stk,I.ok.exf,I.ok.bs,I.ok.bsz,I.ok.noex,I.ok.exfs,I.ok.funs,I.ok.frf⟩,
  I.os,I.bare,I.base,I.loc,I.cell,I.free,I.freeC,I.pin,I.hok,I.len⟩
theorem Inv.unmarked (ok:X.Ok) (I:Inv (X.marked e) pins σ H s):Inv X pins σ H s :=
 ⟨ok,I.os,I.bare,I.base,I.loc,I.cell,I.free,I.freeC,I.pin,I.hok,I.len⟩
theorem SP.unmarked (ok:X.Ok) {D:Ends}{f:Flow}{s':Shared} (h:SP (X.marked e) pins D f s'):SP X pins D f s':=by
 cases f with
 | next=>obtain ⟨σ',H',I,q⟩:=h;exact ⟨σ',H',I.unmarked ok,q⟩
 | brk=>obtain ⟨σ',H',I,q⟩:=h;exact ⟨σ',H',I.unmarked ok,q⟩
 | cont=>obtain ⟨σ',H',I,q⟩:=h;exact ⟨σ',H',I.unmarked ok,q⟩
 | ret u=>obtain ⟨v,σ',H',I,r,q⟩:=h;exact ⟨v,σ',H',I.unmarked ok,r,q⟩
end
abbrev TX:=Ends→XK→St→Hp→Prop
def FlewAt (X:Cx) (C:Addr) (pins:List (Addr×Obj)) (σ:St) (E:XK) (v:Value) (s':Shared):Prop:=∃ s1 H1,Inv X pins σ H1 s1∧CX1 X.prog X.w C X.stack H1 s1 E v s'
def PXS (X:Cx) (C:Addr) (st:Stmt) (t:TX):Prop :=
 ∀ (pins:List (Addr×Obj)) (s:Shared) (σ:St) (H:Hp) (D:Ends) (E:XK),Inv X pins σ H s→t D E σ H→wpAny (model X.prog X.w) X.A (exec st X.env) (SP X pins D) (FlewAt X C pins σ E) s
def PXE (X:Cx) (C:Addr) (e:Expr) (t:St→Hp→VK→XK→Prop):Prop :=
 ∀ (pins:List (Addr×Obj)) (s:Shared) (σ:St) (H:Hp) (Q:VK) (E:XK),Inv X pins σ H s→t σ H Q E→wpAny (model X.prog X.w) X.A (eval e X.env) (EP X pins σ Q) (FlewAt X C pins σ E) s
def tCallX (sp:Sp) (dvs:List V) (t:TA):St→Hp→VK→XK→Prop:=fun σ H Q E=>t σ H fun vs H1=>sp (vs++dvs) H1 Q E
section
variable {X:Cx}{k:Nat}{f C:Addr}{fd:FuncData}{ps:List Str}{sp:Sp}{dvs:List V}{ds:List Value}{x:Str}{p pos:Pos}{e:Expr}{es:List Expr}{t:TA}
theorem px_call (F:FnOk X.prog X.w X.K X.mg X.base (CX1 X.prog X.w C) k f fd ps sp) (hr:Room k X.A) (hg:Gl X x) (hm:X.mg x=some (.ref f)) (hk:PySem.W.keepIn X.K (.ref f)=true) (hb:Binds X.K fd ps ds) (hd:Vals dvs ds)
  (ha:PA X.nox (e::es) t) (hdb:(x==("__debug__":Str))=false:=by decide) (he:starEach (e::es) X.env=(false,eval e X.env)::starEach es X.env:=by rfl) (hpl:(backTo pos (starEach es X.env)).any (·.1)=false:=by rfl) :
  PXE X C (.Call (.Name x p) (e::es) [] pos) (tCallX sp dvs t):=by
 intro pins s σ H Q E I h
 refine wpAny_Call_Name_kw (ld_glob I hg hm ?_ hdb)
 refine PySem.W.callWith_K (h₀:=X.base) I.ok.mod.kin hk (wpAny_mono (ha pos pins s σ H _ (I.wish _) h) (fun us s1 ⟨vs,H1,I1',r,q⟩=>?_) fun _ _ z=>False.elim z) he hpl
 have I1:=I1'.unwish
 refine ⟨I1.kIn,?_⟩
 have r2:Vals (vs++dvs) (us++ds):=r.append hd
 have hl:(us++ds).length=ps.length:=by rw [← r2.length];exact F.len _ _ _ _ q
 refine wpAny_call (codeAny_mono (F.run X.A X.stack s1 H1 ⟨us,[]⟩ (us++ds) (vs++dvs) Q E hr I1.env0 (hb s1 us I1.kIn hl) r2 q) fun r s' hq=>?_)
 cases r with
 | error v=>exact ⟨s1,H1,I1,hq⟩
 | ok fl =>
  cases fl with
  | ret u=>exact I1.after hq
  | next=>exact False.elim hq
  | brk=>exact False.elim hq
  | cont=>exact False.elim hq
theorem pxs_expr {te:St→Hp→VK→XK→Prop} (he:PXE X C e te) (hs:swapsWith e none pos.line X.env=pure false:=by rfl):PXS X C (.Expr e pos) (fun D E σ H=>te σ H (fun _ H1=>D.nx σ H1) E):=by
 intro pins s σ H D E I h
 exact wpAny_Expr_any (thn (he pins s σ H _ E I h) fun v s1 ⟨y,H1,I1,r1,q1⟩=>⟨σ,H1,I1,q1⟩) I.quiet hs
theorem caught {x:Str}{np hpos:Pos}{b0:Stmt}{suite:List Stmt}{ts:Addr→TS}{pins:List (Addr×Obj)}{σ:St}{D:Ends}{v:Value}{s':Shared} (T:Exc X.K X.mg x C) (hg:Gl X x) (hst:X.stack=X.env::X.outer∧X.env.frame=some X.env.locals)
  (hs:∀ e,PSs (X.marked e) (b0::suite) (ts e)) (h:FlewAt X C pins σ (fun _ _ H1=>∀ e,ts e D σ H1) v s') (hdb:(x==("__debug__":Str))=false:=by decide) :
  wpAny (model X.prog X.w) X.A (noteFrame v X.env) (fun _ s₂=>wpAny (model X.prog X.w) X.A (setFlight v none) (fun _ s₃ =>
   wpAny (model X.prog X.w) X.A (handleBy v X.env [.ExceptHandler (some (.Name x np)) none (b0::suite) hpos]) (SP X pins D) X.xe s₃) X.xe s₂) X.xe s':=by
 obtain ⟨s1,H1,I,e,T0,H',rfl,os,bare,F,hq⟩:=h
 have J:=I.flown os bare F
 obtain ⟨a0,tr⟩:=F.fly.traced (l:=X.stack)
 have hfr:X.A.frames=some (X.env::X.outer):=by rw [← hst.1];exact J.ok.frames
 have fl0:Heap.FlyingW (cover s'.heap X.stack e T0) (X.env::X.outer) e (.ref C) a0 s'.heap:=⟨cover_stays,cover_e,by rw [← hst.1];exact cover_frames J.stack,tr⟩
 refine wpAny_looks_onW hfr hst.2 fl0 fun h4 held4 up4=>?_
 refine wpAny_landsW held4 fun h5 fl5 up5'=>?_
 have up5:=up4.trans up5'
 obtain ⟨T5,F5⟩:=flown_on F.un F.hok F.ne F.nT F.fe F.fT J.stack J.stkFree fl5 up5
 have I5:Inv X pins σ H' { s' with heap:=h5 }:=I.flown (s':={ s' with heap:=h5 }) os bare F5
 obtain ⟨ob,hob,hobc⟩:=fl5.there
 obtain ⟨bm,N',nm,q,bs,hdct,sn,sub,ab,col,dd,k0,k1,k2,k3,k5,mN,hC,hN,hni,TL⟩:=(T.obj I5.kIn).obj
 refine wpAny_handleBy_cons (codeAny_handlers_test ?_) (by intro q;cases q)
 refine ld_glob (I5.marked e) hg T.mgE ?_ hdb
 refine wpAny_excMatches_sub_self hC hob hobc (TL.hasType (by decide)) (codeAny_handlers_suite ?_)
 refine lands_againW fl5 fun h6 fl6 up6=>?_
 obtain ⟨T6,F6⟩:=flown_on F.un F.hok F.ne F.nT F.fe F.fT J.stack J.stkFree fl6 (up5.trans up6)
 have I6:Inv X pins σ H' { s' with heap:=h6 }:=I.flown (s':={ s' with heap:=h6 }) os bare F6
 exact wpAny_mono (hs e pins _ σ H' D (I6.marked e) (hq e)) (fun f s2 q=>q.unmarked I6.ok) fun _ _ z=>False.elim z
theorem ps_try {st:Stmt}{tx:TX}{x:Str}{np hpos:Pos}{b0:Stmt}{suite:List Stmt}{ts:Addr→TS} (T:Exc X.K X.mg x C) (hg:Gl X x) (hb:PXS X C st tx) (hs:∀ e,PSs (X.marked e) (b0::suite) (ts e))
  (hst:X.stack=X.env::X.outer∧X.env.frame=some X.env.locals:=by exact ⟨rfl,rfl⟩) (hdb:(x==("__debug__":Str))=false:=by decide) :
  PS X (.Try [st] [.ExceptHandler (some (.Name x np)) none (b0::suite) hpos] [] [] pos) (fun D σ H=>tx D (fun _ _ H1=>∀ e,ts e D σ H1) σ H):=by
 intro pins s σ H D I h
 refine wpAny_Try_except (wpAny_execs_cons (wpAny_mono (hb pins s σ H D _ I h) (fun f s1 q=>?_) fun v s1 q=>caught T hg hst hs q hdb))
 cases f with
 | next=>exact wpAny_execs_nil (wpAny_execs_nil q)
 | ret v=>exact q
 | brk=>exact q
 | cont=>exact q
end
end L2
end
section
set_option maxRecDepth 100000
namespace L2
open PySem PySem.Spec PyProof.Rows
section
variable {P:Program}{w:World}{K:PySem.W.Frag}{mg:Str→Option Value}{base:Heap}
theorem Fun.okE {x qual:Str}{st:Stmt}{f C:Addr}{fd:FuncData}{N ps:List Str}{k:Nat}{sp:Sp} (F:Fun K x qual st f fd) (S:FnScope N ps (defScope st)) (len:∀ vs H Q E,sp vs H Q E→vs.length=ps.length)
  (hbody:∀ (cdv:Value) (A:Around) (outer:List Env) (s:Shared) (H:Hp) (vs:List V) (Q:VK) (E:XK),Room k (A.deeper (envOfC qual (defScope st) s.heap.objs.size f cdv))→sp vs H Q E →
   ∃ t,PSs (cxE P w K mg base C N qual (defScope st) f cdv A outer s H E) (defBody st) t∧t { nx:=fun _ H'=>Q .non H',rt:=Q } (start N vs) H):FnOk P w K mg base (CX1 P w C) (k+1) f fd ps sp:=by
 obtain ⟨oc,od,kV,doc,pm,an,cdv,ct,osl,rfl,lk,hcd⟩:=F.ex
 exact fn_of lk hcd S len fun A outer s H vs Q E hr hsp=>hbody cdv A outer s H vs Q E hr hsp
end
structure FnC (P:Program) (w:World) (K:PySem.W.Frag) (mg:Str→Option Value) (base:Heap) (CX:CXT) (k:Nat) (x:Str) (ps:List Str) (sp:Sp):Prop where
 ex:∃ f fd,mg x=some (.ref f)∧PySem.W.keepIn K (.ref f)=true∧Binds K fd ps []∧FnOk P w K mg base CX k f fd ps sp
structure MethC (P:Program) (w:World) (K:PySem.W.Frag) (mg:Str→Option Value) (base:Heap) (CX:CXT) (k:Nat) (C:Addr) (m:Str) (ps:List Str) (sp:Sp):Prop where
 ex:∃ f fd,Meth K C m f∧Binds K fd ps []∧FnOk P w K mg base CX k f fd ps sp
structure MakeC (P:Program) (w:World) (K:PySem.W.Frag) (mg:Str→Option Value) (base:Heap) (CX:CXT) (k:Nat) (C:Addr) (x:Str) (ps:List Str) (sp:Sp):Prop where
 ex:∃ f fd,mg x=some (.ref C)∧Mk K C f∧Binds K fd ps []∧FnOk P w K mg base CX k f fd ps sp
section
variable {X:Cx}{CX:CXT}{j k:Nat}{C:Addr}{ps:List Str}{sp:Sp}{E:XK}{x m:Str}{p pos apos:Pos}{e o:Expr}{es:List Expr}{ta:TE}{t:TA}
theorem pe_callC (c:FnC X.prog X.w X.K X.mg X.base CX j x ps sp) (hr:Room k X.A) (hx:Passes CX X E) (ha:PA X (e::es) t) (hjk:j≤k:=by decide) (hg:Gl X x:=by rfl)
  (hdb:(x==("__debug__":Str))=false:=by decide) (he:starEach (e::es) X.env=(false,eval e X.env)::starEach es X.env:=by rfl) (hpl:(backTo pos (starEach es X.env)).any (·.1)=false:=by rfl) :
  PE X (.Call (.Name x p) (e::es) [] pos) (tCall sp [] E t):=by
 obtain ⟨f,fd,hm,hk,hb,F⟩:=c.ex
 exact pe_call F (hr.mono hjk) hg hm hk hb .nil hx ha hdb he hpl
theorem px_callC (c:FnC X.prog X.w X.K X.mg X.base (CX1 X.prog X.w C) j x ps sp) (hr:Room k X.A) (ha:PA X.nox (e::es) t) (hjk:j≤k:=by decide) (hg:Gl X x:=by rfl)
  (hdb:(x==("__debug__":Str))=false:=by decide) (he:starEach (e::es) X.env=(false,eval e X.env)::starEach es X.env:=by rfl) (hpl:(backTo pos (starEach es X.env)).any (·.1)=false:=by rfl) :
  PXE X C (.Call (.Name x p) (e::es) [] pos) (tCallX sp [] t):=by
 obtain ⟨f,fd,hm,hk,hb,F⟩:=c.ex
 exact px_call F (hr.mono hjk) hg hm hk hb .nil ha hdb he hpl
theorem pe_methC {pl:Sem Bool} (he:PE X o ta) (c:Cls X.K C) (F:MethC X.prog X.w X.K X.mg X.base CX j C m ps sp) (hr:Room k X.A) (hx:Passes CX X E) (ha:PA X (e::es) t) (hjk:j≤k:=by decide)
  (hst:starEach (e::es) X.env=(false,eval e X.env)::starEach es X.env:=by rfl) (hpl:(backTo pos (starEach es X.env)).any (·.1)=false:=by rfl)
  (ht:eval (.Call (.Attribute o m apos) (e::es) [] pos) X.env=(do
   let ov ← eval o X.env
   standAt apos.atName
   let (f,first) ← holding [ov] (getMethod ov m pl)
   callWith pos f first (backTo pos (starEach (e::es) X.env)) (backToKw pos (keywordEach [] X.env))):=by rfl) :
  PE X (.Call (.Attribute o m apos) (e::es) [] pos) (tMeth C m sp [] E ta t):=by
 obtain ⟨f,fd,hm,hb,F⟩:=F.ex
 exact pe_meth he c hm F (hr.mono hjk) hb .nil hx ha hst hpl ht
theorem pe_methC0 {pl:Sem Bool} (he:PE X o ta) (c:Cls X.K C) (F:MethC X.prog X.w X.K X.mg X.base CX j C m ps sp) (hr:Room k X.A) (hx:Passes CX X E) (hjk:j≤k:=by decide)
  (ht:eval (.Call (.Attribute o m apos) [] [] pos) X.env=(do
   let ov ← eval o X.env
   standAt apos.atName
   let (f,first) ← holding [ov] (getMethod ov m pl)
   callWith pos f first (backTo pos (starEach [] X.env)) (backToKw pos (keywordEach [] X.env))):=by rfl) :
  PE X (.Call (.Attribute o m apos) [] [] pos) (tMeth C m sp [] E ta tNil):=by
 obtain ⟨f,fd,hm,hb,F⟩:=F.ex
 exact pe_meth0 he c hm F (hr.mono hjk) hb .nil hx ht
theorem pe_makeC (c:MakeC X.prog X.w X.K X.mg X.base CX j C x ps sp) (hr:Room k X.A) (hx:Passes CX X E) (ha:PA X (e::es) t) (hjk:j+1≤k:=by decide) (hg:Gl X x:=by rfl)
  (hdb:(x==("__debug__":Str))=false:=by decide) (he:starEach (e::es) X.env=(false,eval e X.env)::starEach es X.env:=by rfl) (hpl:(backTo pos (starEach es X.env)).any (·.1)=false:=by rfl) :
  PE X (.Call (.Name x p) (e::es) [] pos) (tMake C sp [] E t):=by
 obtain ⟨f,fd,hm,M,hb,F⟩:=c.ex
 exact pe_make M F (hr.mono hjk) hg hm hb .nil hx ha hdb he hpl
theorem pe_gint {i:Int} (h:∃ u,X.mg x=some (.int i u)) (hg:Gl X x:=by rfl) (hd:(x==("__debug__":Str))=false:=by decide):PE X (.Name x pos) (tC (.int i)):=by
 obtain ⟨u,h⟩:=h
 exact pe_glob hg h ⟨u,rfl⟩ hd
theorem pe_gref {a:Addr} (h:X.mg x=some (.ref a)) (hg:Gl X x:=by rfl) (hd:(x==("__debug__":Str))=false:=by decide):PE X (.Name x pos) (tC (.ref a)):=pe_glob hg h (show RelV (.ref a) (.ref a) from rfl) hd
end
def Kp (S:List Addr) (H H':Hp):Prop:=∀ b o,H b=some o→b ∉ S→H' b=some o
theorem Kp.refl {S:List Addr}{H:Hp}:Kp S H H:=fun _ _ e _=>e
theorem Kp.trans {S:List Addr}{H H1 H2:Hp} (a:Kp S H H1) (b:Kp S H1 H2):Kp S H H2:=fun c o e n=>b c o (a c o e n) n
theorem Kp.mono {S S':List Addr}{H H1:Hp} (a:Kp S H H1) (h:∀ b∈S,b∈S'):Kp S' H H1:=fun c o e n=>a c o e fun z=>n (h c z)
theorem Kp.put {S:List Addr}{H:Hp}{a:Addr}{o:HO} (h:a∈S):Kp S H (upd H a o):=fun c u e n=>by
 have z:c≠a:=fun z=>n (by rw [z];exact h)
 rw [upd_ne z];exact e
theorem Kp.new {S:List Addr}{H:Hp}{a:Addr}{o:HO} (h:H a=none):Kp S H (upd H a o):=fun c u e n=>by rw [upd_ne (ne_of_none e h)];exact e
theorem Kp.put2 {S:List Addr}{H H1:Hp}{a:Addr}{o:HO} (k:Kp S H H1) (h:a∈S∨H a=none):Kp S H (upd H1 a o):=fun c u e n=>by
 have z:c≠a:=fun z=>by
  subst z
  rcases h with h | h
  ·exact n h
  ·rw [h] at e;cases e
 rw [upd_ne z];exact k c u e n
theorem Kp.free {S:List Addr}{H H1:Hp} (k:Kp S H H1) {a:Addr} (n:a ∉ S) (h:H1 a=none):H a=none:=by
 cases q:H a with
 | none=>rfl
 | some o=>rw [k a o q n] at h;cases h
theorem Kp.seq {K:PySem.W.Frag}{S:List Addr}{H H':Hp}{a:Addr}{xs:List V} (e:Kp S H H') (n:a ∉ S) (h:SqL K H a xs):SqL K H' a xs:=by
 rcases h with (h | ⟨o,h⟩) | h
 ·exact .inl (.inl (e _ _ h n))
 ·exact .inl (.inr ⟨o,e _ _ h n⟩)
 ·exact .inr h
end L2
end
section
namespace Vp
open Vh VhPage
def pk (bs:List UInt8) (p:Nat):Int:=match bs[p]? with | some c=>(c.toNat:Int) | none=>256
theorem pk_lt (bs:List UInt8) (p:Nat):0≤pk bs p∧pk bs p≤256:=by
 unfold pk
 split
 ·rename_i c _;have:=c.toNat_lt;lia
 ·lia
theorem head_drop (bs:List UInt8) (p:Nat):(bs.drop p).head?=bs[p]?:=by rw [List.head?_drop]
theorem drop_drop1 (bs:List UInt8) (p:Nat):(bs.drop p).drop 1=bs.drop (p+1):=by rw [List.drop_drop]
theorem pk_some {bs:List UInt8}{p:Nat}{c:UInt8} (h:bs[p]?=some c):pk bs p=c.toNat:=by unfold pk;rw [h]
theorem pk_eq {bs:List UInt8}{p:Nat}{c:UInt8}:pk bs p=c.toNat↔bs[p]?=some c:=by
 unfold pk
 cases h:bs[p]? with
 | none =>
  have:=c.toNat_lt
  constructor
  ·intro z;simp at z;lia
  ·intro z;cases z
 | some d =>
  constructor
  ·intro z
   have:d.toNat=c.toNat:=by
    have z':(d.toNat:Int)=c.toNat:=z
    lia
   rw [UInt8.toNat_inj.mp this]
  ·intro z;cases z;rfl
theorem pk_none {bs:List UInt8}{p:Nat}:pk bs p=256↔bs[p]?=none:=by
 unfold pk
 cases h:bs[p]? with
 | none=>simp
 | some d =>
  have:=d.toNat_lt
  simp
  lia
theorem byte_ok {bs:List UInt8}{p:Nat}{c:UInt8} (h:pk bs p=c.toNat):byte_ c p (bs.drop p)=.ok ((),p+1,bs.drop (p+1)):=by
 unfold byte_ byNext
 rw [head_drop,pk_eq.mp h]
 dsimp only
 rw [if_pos rfl]
 unfold behind gives
 rw [drop_drop1]
theorem byte_no {bs:List UInt8}{p:Nat}{c:UInt8} (h:¬ pk bs p=c.toNat):byte_ c p (bs.drop p)=.error p:=by
 unfold byte_ byNext
 rw [head_drop]
 dsimp only
 rw [if_neg (fun z=>h (pk_eq.mpr z))]
 rfl
theorem then_ok {α β:Type}{r:Rd α}{f:α→Rd β}{p p':Nat}{b b':Bytes}{x:α} (h:r p b=.ok (x,p',b')):andThen r f p b=f x p' b':=by unfold andThen;rw [h]
theorem then_no {α β:Type}{r:Rd α}{f:α→Rd β}{p i:Nat}{b:Bytes} (h:r p b=.error i):andThen r f p b=.error i:=by unfold andThen;rw [h]
theorem leads_true {lo hi v k:Nat} (hv:v≠0) (h1:v * 10 ^ k≤hi) (h2:lo<(v+1) * 10 ^ k) (h3:hi<10 ^ 11):leadsTo lo hi v=true:=by
 unfold leadsTo
 rw [if_neg hv,List.any_eq_true]
 have hk:k<12:=by
  apply Decidable.byContradiction
  intro hk
  have h4:10 ^ 11≤10 ^ k:=Nat.pow_le_pow_right (by lia) (by lia)
  have h5:1 * 10 ^ k≤v * 10 ^ k:=Nat.mul_le_mul_right _ (by lia)
  lia
 exact ⟨k,List.mem_range.mpr hk,by simp [h1,h2]⟩
theorem leads_false {lo hi v k:Nat} (hv:v≠0) (h:∀ j,j<k→¬ (v * 10 ^ j≤hi∧lo<(v+1) * 10 ^ j)) (h1:hi<v * 10 ^ k):leadsTo lo hi v=false:=by
 unfold leadsTo
 rw [if_neg hv,List.any_eq_false]
 intro j _ q
 have q':v * 10 ^ j≤hi∧lo<(v+1) * 10 ^ j:=by simpa using q
 by_cases hj:j<k
 ·exact h j hj q'
 ·have h4:10 ^ k≤10 ^ j:=Nat.pow_le_pow_right (by lia) (by lia)
  have h5:=Nat.mul_le_mul_left v h4
  lia
theorem leads_zero {lo hi:Nat}:leadsTo lo hi 0=(lo==0):=by unfold leadsTo;rw [if_pos rfl]
def dig (bs:List UInt8) (lo hi v p:Nat):Option Nat:=if 48≤pk bs p∧pk bs p≤57∧leadsTo lo hi (v * 10+(pk bs p-48).toNat)=true then some (v * 10+(pk bs p-48).toNat) else none
theorem isDigit_iff {c:UInt8}:isDigit c=true↔48≤c.toNat∧c.toNat≤57:=by
 unfold isDigit
 rw [Bool.and_eq_true,decide_eq_true_eq,decide_eq_true_eq,UInt8.le_iff_toNat_le,UInt8.le_iff_toNat_le]
 exact Iff.rfl
theorem digits_succ (lo hi f:Nat) (v:Option Nat) (bs:List UInt8) (p:Nat) (hv:v≠some 0):digits lo hi (f+1) v p (bs.drop p)=match dig bs lo hi (v.getD 0) p with
  | some n=>digits lo hi f (some n) (p+1) (bs.drop (p+1))
  | none=>match v with
   | some n=>if lo≤n∧n≤hi then .ok (n,p,bs.drop p) else .error p
   | none=>.error p:=by
 rw [Vh.digits.eq_def]
 dsimp only
 unfold byNext
 rw [head_drop]
 have key:((bs[p]?).bind fun (c:UInt8)=>if isDigit c=false∨v=some 0 then none else if leadsTo lo hi (10 * v.getD 0+(c.toNat-48))=true then some (10 * v.getD 0+(c.toNat-48)) else none)=dig bs lo hi (v.getD 0) p:=by
  unfold dig pk
  cases h:bs[p]? with
  | none =>
   simp only [Option.bind_none]
   rw [if_neg (by lia)]
  | some c =>
   simp only [Option.bind_some]
   by_cases hd:isDigit c=true
   ·have hd':=isDigit_iff.mp hd
    rw [if_neg (by simp [hd,hv])]
    have e1:((c.toNat:Int)-48).toNat=c.toNat-48:=by lia
    rw [e1,Nat.mul_comm 10]
    by_cases hl:leadsTo lo hi (v.getD 0 * 10+(c.toNat-48))=true
    ·rw [if_pos hl,if_pos ⟨by lia,by lia,hl⟩]
    ·rw [if_neg hl,if_neg (fun z=>hl z.2.2)]
   ·rw [if_pos (by simp [hd]),if_neg (fun z=>hd (isDigit_iff.mpr ⟨by lia,by lia⟩))]
 dsimp only
 rw [key]
 cases dig bs lo hi (v.getD 0) p with
 | some n=>dsimp only;unfold behind;rw [drop_drop1]
 | none =>
  dsimp only
  cases v with
  | none=>rfl
  | some n =>
   dsimp only
   split <;> rfl
theorem digits_zero (lo hi f:Nat) (bs:List UInt8) (p:Nat):digits lo hi (f+1) (some 0) p (bs.drop p)=if lo=0 then .ok (0,p,bs.drop p) else .error p:=by
 rw [Vh.digits.eq_def]
 dsimp only
 unfold byNext
 rw [head_drop]
 have key:((bs[p]?).bind fun (c:UInt8)=>if isDigit c=false∨some 0=some 0 then none else if leadsTo lo hi (10 * (some 0).getD 0+(c.toNat-48))=true then some (10 * (some 0).getD 0+(c.toNat-48)) else none)=none:=by
  cases bs[p]? with
  | none=>rfl
  | some c=>simp
 dsimp only
 rw [key]
 dsimp only
 by_cases h:lo=0
 ·rw [if_pos ⟨by lia,by lia⟩,if_pos h];rfl
 ·rw [if_neg (by lia),if_neg h];rfl
theorem leads_le {lo hi v:Nat} (h:leadsTo lo hi v=true):v≤hi:=by
 unfold leadsTo at h
 split at h
 ·lia
 ·rw [List.any_eq_true] at h
  obtain ⟨k,_,hk⟩:=h
  rw [Bool.and_eq_true,decide_eq_true_eq] at hk
  have:v * 1≤v * 10 ^ k:=Nat.mul_le_mul_left _ (Nat.one_le_pow _ _ (by lia))
  lia
structure NumAt (bs:List UInt8) (lo hi p0 v p f:Nat):Prop where
 eq:num lo hi p0 (bs.drop p0)=digits lo hi f (some v) p (bs.drop p)
 le:v≤hi
 big:10 ^ 20≤v * 10 ^ f * 10
theorem num_first {bs:List UInt8}{lo hi p v:Nat} (h:dig bs lo hi 0 p=some v):num lo hi p (bs.drop p)=digits lo hi 19 (some v) (p+1) (bs.drop (p+1)):=by
 unfold num
 rw [digits_succ lo hi 19 none bs p (by simp)]
 show (match dig bs lo hi 0 p with | some n=>_ | none=>_)=_
 rw [h]
theorem num_none {bs:List UInt8}{lo hi p:Nat} (h:dig bs lo hi 0 p=none):num lo hi p (bs.drop p)=.error p:=by
 unfold num
 rw [digits_succ lo hi 19 none bs p (by simp)]
 show (match dig bs lo hi 0 p with | some n=>_ | none=>_)=_
 rw [h]
theorem dig_le {bs:List UInt8}{lo hi v p n:Nat} (h:dig bs lo hi v p=some n):n≤hi∧v * 10≤n∧leadsTo lo hi n=true:=by
 unfold dig at h
 split at h
 ·rename_i z
  cases h
  exact ⟨leads_le z.2.2,by lia,z.2.2⟩
 ·cases h
def marksI:List Int:=[124,47,40,41,91,93,60,62,123,125,61,43,126,94,35,34]
def isL (n:Int):Bool:=!(decide (n<33) || (decide (127≤n) && decide (n≤159)) || marksI.contains n) && decide (n % 65536<65534)
def sizeL (n:Int):Int:=if n<128 then 1 else if 194≤n∧n≤223 then 2 else if 224≤n∧n≤239 then 3 else if 240≤n∧n≤244 then 4 else 0
def blo (n:Int):Int:=if n=224 then 160 else if n=240 then 144 else 128
def bhi (n:Int):Int:=if n=237 then 159 else if n=244 then 143 else 191
theorem isL_big {v:Nat} (h:160≤v):isL (v:Int)=decide (v % 65536<65534):=by
 unfold isL
 have h1:marksI.contains (v:Int)=false:=by
  rw [List.contains_eq_any_beq,List.any_eq_false]
  intro x hx
  have:x≤127:=by
   revert x
   decide
  simp;lia
 rw [h1,decide_eq_false (show ¬ (v:Int)<33 by lia),decide_eq_false (show ¬ (v:Int)≤159 by lia)]
 simp
 constructor <;> intro z <;> lia
theorem isL_mid {v:Nat} (h1:128≤v) (h2:v≤159):isL (v:Int)=false:=by
 unfold isL
 rw [decide_eq_true (show 127≤(v:Int) by lia),decide_eq_true (show (v:Int)≤159 by lia)]
 simp
theorem isL_low {c:UInt8} (h:c.toNat<128):isL (c.toNat:Int)=isLetter c.toNat:=by
 have key:∀ n,n<128→isL ((n:Nat):Int)=isLetter n:=by decide +kernel
 exact key _ h
theorem tail_eq (bs:List UInt8) (lo hi p:Nat) (h1:128≤lo) (h:hi≤255):tail_ lo hi p (bs.drop p)=if (lo:Int)≤pk bs p∧pk bs p≤hi then .ok ((pk bs p).toNat-128,p+1,bs.drop (p+1)) else .error p:=by
 unfold tail_ byNext
 rw [head_drop]
 unfold pk
 cases e:bs[p]? with
 | none =>
  dsimp only
  rw [if_neg (by lia)]
  rfl
 | some c =>
  dsimp only
  by_cases q:lo≤c.toNat∧c.toNat≤hi
  ·rw [if_pos q,if_pos (by lia)]
   unfold behind gives
   rw [drop_drop1]
   rfl
  ·rw [if_neg q,if_neg (by lia)]
   rfl
def longR (bs:List UInt8):Nat→Nat→Int→Int→Nat→Except Nat (Nat×Nat)
 | 0,v,_,_,p=>.ok (v,p)
 | n+1,v,lo,hi,p=>if lo≤pk bs p∧pk bs p≤hi then (if n=0∧isL ((v * 64+((pk bs p).toNat-128):Nat):Int)=false then .error p else longR bs n (v * 64+((pk bs p).toNat-128)) 128 191 (p+1)) else .error p
def outR (bs:List UInt8):Except Nat (Nat×Nat)→Except Nat (Nat×Nat×Bytes)
 | .ok (x,p)=>.ok (x,p,bs.drop p)
 | .error i=>.error i
def baseL (n:Nat):Nat:=if n<0xE0 then 0xC0 else if n<0xF0 then 0xE0 else 0xF0
def moreL (n:Nat):Nat:=if n<0xE0 then 1 else if n<0xF0 then 2 else 3
theorem starts_hi {c:UInt8} (h1:194≤c.toNat) (h2:c.toNat≤244):startsLetter c=true:=by
 unfold startsLetter
 rw [if_neg (by lia)]
 simp;lia
theorem long_letter {bs:List UInt8}{p:Nat}{c:UInt8} (hc:bs[p]?=some c) (h1:194≤c.toNat) (h2:c.toNat≤244) :
  letter_ p (bs.drop p)=outR bs (longR bs (moreL c.toNat) (c.toNat-baseL c.toNat) (blo c.toNat) (bhi c.toNat) (p+1)):=by
 unfold letter_ byNext
 rw [head_drop,hc]
 dsimp only
 rw [if_neg (by rw [starts_hi h1 h2];decide),if_neg (show ¬ c.toNat<128 by lia)]
 unfold moreL baseL blo bhi
 have b1:=pk_lt bs (p+1)
 have b2:=pk_lt bs (p+2)
 have b3:=pk_lt bs (p+3)
 generalize e1:pk bs (p+1)=x1 at b1
 generalize e2:pk bs (p+2)=x2 at b2
 generalize e3:pk bs (p+3)=x3 at b3
 generalize c.toNat=n at h1 h2
 by_cases hE:n<224
 ·simp only [if_pos hE]
  unfold behind
  rw [drop_drop1]
  unfold andThen
  rw [tail_eq _ _ _ _ (by split <;> lia) (by lia),e1]
  simp only [longR,e1]
  rw [if_neg (show ¬ (n:Int)=224 by lia),if_neg (show ¬ (n:Int)=240 by lia),if_neg (show ¬ (n:Int)=237 by lia),if_neg (show ¬ (n:Int)=244 by lia)]
  by_cases q:128≤x1∧x1≤191
  ·rw [if_pos q]
   by_cases h3:n=194
   ·subst h3
    by_cases h4:160≤x1
    ·rw [if_pos (by simp;lia)]
     have:isL (((194-192) * 64+(x1.toNat-128):Nat):Int)=true:=by rw [isL_big (by lia)];simp;lia
     rw [if_neg (by rw [this];simp)]
     rfl
    ·rw [if_neg (by simp;lia)]
     have:isL (((194-192) * 64+(x1.toNat-128):Nat):Int)=false:=isL_mid (by lia) (by lia)
     rw [if_pos ⟨by simp,this⟩]
     rfl
   ·rw [if_neg h3,if_pos (by simp;lia)]
    have:isL (((n-192) * 64+(x1.toNat-128):Nat):Int)=true:=by rw [isL_big (by lia)];simp;lia
    rw [if_neg (by rw [this];simp)]
    rfl
  ·rw [if_neg q,if_neg (by split <;> lia)]
   rfl
 ·simp only [if_neg hE]
  by_cases hF:n<240
  ·simp only [if_pos hF]
   unfold behind
   rw [drop_drop1]
   unfold andThen
   rw [tail_eq _ _ _ _ (by split <;> lia) (by split <;> lia),e1]
   simp only [longR,e1]
   by_cases q:(if (n:Int)=224 then (160:Int) else if (n:Int)=240 then 144 else 128)≤x1∧x1≤(if (n:Int)=237 then (159:Int) else if (n:Int)=244 then 143 else 191)
   ·rw [if_pos q,if_pos (by split at q <;> split at q <;> (try split at q) <;> (try split at q) <;> (try split) <;> (try split) <;> lia)]
    have x1lo:128≤x1:=by split at q <;> (try split at q) <;> lia
    have x1hi:x1≤191:=by split at q <;> (try split at q) <;> (try split at q) <;> (try split at q) <;> lia
    have x1E:n=224→160≤x1:=fun z=>by rw [if_pos (by lia)] at q;lia
    dsimp only
    rw [tail_eq _ _ _ _ (by lia) (by split <;> lia),e2]
    rw [if_neg (show ¬ (1=0∧_) by simp)]
    by_cases q2:128≤x2∧x2≤191
    ·rw [if_pos q2]
     have big:160≤((n-224) * 64+(x1.toNat-128)) * 64+(x2.toNat-128):=by
      by_cases z:n=224
      ·have:=x1E z;lia
      ·lia
     by_cases h5:n=239∧x1.toNat-128=63
     ·rw [if_pos h5]
      by_cases h6:x2≤189
      ·rw [if_pos (by simp;lia)]
       have:isL (((((n-224) * 64+(x1.toNat-128)) * 64+(x2.toNat-128):Nat)):Int)=true:=by rw [isL_big big];simp;lia
       rw [if_neg (by rw [this];simp)]
       simp only [longR,outR,gives]
       rw [show (n-224) * 4096+(x1.toNat-128) * 64+(x2.toNat-128)=((n-224) * 64+(x1.toNat-128)) * 64+(x2.toNat-128) by lia]
      ·rw [if_neg (by simp;lia)]
       have:isL (((((n-224) * 64+(x1.toNat-128)) * 64+(x2.toNat-128):Nat)):Int)=false:=by rw [isL_big big];simp;lia
       rw [if_pos ⟨by simp,this⟩]
       rfl
     ·rw [if_neg h5,if_pos (by simp;lia)]
      have:isL (((((n-224) * 64+(x1.toNat-128)) * 64+(x2.toNat-128):Nat)):Int)=true:=by rw [isL_big big];simp;lia
      rw [if_neg (by rw [this];simp)]
      simp only [longR,outR,gives]
      rw [show (n-224) * 4096+(x1.toNat-128) * 64+(x2.toNat-128)=((n-224) * 64+(x1.toNat-128)) * 64+(x2.toNat-128) by lia]
    ·rw [if_neg q2,if_neg (by split <;> lia)]
     rfl
   ·rw [if_neg q,if_neg (by split at q <;> (try split at q) <;> (try split at q) <;> (try split at q) <;> (try split) <;> (try split) <;> lia)]
    rfl
  ·simp only [if_neg hF]
   unfold behind
   rw [drop_drop1]
   unfold andThen
   rw [tail_eq _ _ _ _ (by split <;> lia) (by split <;> lia),e1]
   simp only [longR,e1]
   by_cases q:(if (n:Int)=224 then (160:Int) else if (n:Int)=240 then 144 else 128)≤x1∧x1≤(if (n:Int)=237 then (159:Int) else if (n:Int)=244 then 143 else 191)
   ·rw [if_pos q,if_pos (by split at q <;> split at q <;> (try split at q) <;> (try split at q) <;> (try split) <;> (try split) <;> lia)]
    have x1lo:128≤x1:=by split at q <;> (try split at q) <;> lia
    have x1hi:x1≤191:=by split at q <;> (try split at q) <;> (try split at q) <;> (try split at q) <;> lia
    have x1E:n=240→144≤x1:=fun z=>by rw [if_neg (by lia),if_pos (by lia)] at q;lia
    dsimp only
    rw [tail_eq _ _ _ _ (by lia) (by lia),e2]
    rw [if_neg (show ¬ (2=0∧_) by simp)]
    by_cases q2:128≤x2∧x2≤191
    ·rw [if_pos q2,if_pos (by simp;lia)]
     dsimp only
     rw [tail_eq _ _ _ _ (by lia) (by split <;> lia),e3]
     rw [if_neg (show ¬ (1=0∧_) by simp)]
     by_cases q3:128≤x3∧x3≤191
     ·rw [if_pos q3]
      have big:160≤(((n-240) * 64+(x1.toNat-128)) * 64+(x2.toNat-128)) * 64+(x3.toNat-128):=by
       by_cases z:n=240
       ·have:=x1E z;lia
       ·lia
      by_cases h5:(x1.toNat-128) % 16=15∧x2.toNat-128=63
      ·rw [if_pos h5]
       by_cases h6:x3≤189
       ·rw [if_pos (by simp;lia)]
        have:isL ((((((n-240) * 64+(x1.toNat-128)) * 64+(x2.toNat-128)) * 64+(x3.toNat-128):Nat)):Int)=true:=by rw [isL_big big];simp;lia
        rw [if_neg (by rw [this];simp)]
        simp only [longR,outR,gives]
        rw [show (n-240) * 262144+(x1.toNat-128) * 4096+(x2.toNat-128) * 64+(x3.toNat-128)=(((n-240) * 64+(x1.toNat-128)) * 64+(x2.toNat-128)) * 64+(x3.toNat-128) by lia]
       ·rw [if_neg (by simp;lia)]
        have:isL ((((((n-240) * 64+(x1.toNat-128)) * 64+(x2.toNat-128)) * 64+(x3.toNat-128):Nat)):Int)=false:=by rw [isL_big big];simp;lia
        rw [if_pos ⟨by simp,this⟩]
        rfl
      ·rw [if_neg h5,if_pos (by simp;lia)]
       have:isL ((((((n-240) * 64+(x1.toNat-128)) * 64+(x2.toNat-128)) * 64+(x3.toNat-128):Nat)):Int)=true:=by rw [isL_big big];simp;lia
       rw [if_neg (by rw [this];simp)]
       simp only [longR,outR,gives]
       rw [show (n-240) * 262144+(x1.toNat-128) * 4096+(x2.toNat-128) * 64+(x3.toNat-128)=(((n-240) * 64+(x1.toNat-128)) * 64+(x2.toNat-128)) * 64+(x3.toNat-128) by lia]
     ·rw [if_neg q3,if_neg (by split <;> lia)]
      rfl
    ·rw [if_neg q2,if_neg (by simp;lia)]
     rfl
   ·rw [if_neg q,if_neg (by split at q <;> (try split at q) <;> (try split at q) <;> (try split at q) <;> (try split) <;> (try split) <;> lia)]
    rfl
end Vp
end
section
namespace Vp
open Vh VhPage
def char1 (mk:List UInt8):Rd Nat:=byNext fun (c:Option UInt8)=>match c with
 | none=>stray
 | some x=>if mk.contains x=true then behind (gives x.toNat) else letter_
def cS (bs:List UInt8) (mk:List UInt8) (p:Nat):Bool:=match bs[p]? with
 | none=>false
 | some x=>mk.contains x || startsLetter x
def preO {α:Type} (xs:List α):Except Nat (List α×Nat×Bytes)→Except Nat (List α×Nat×Bytes)
 | .ok (r,p,b)=>.ok (xs++r,p,b)
 | .error i=>.error i
theorem preO_pre {α:Type} (xs ys:List α) (r:Except Nat (List α×Nat×Bytes)):preO xs (preO ys r)=preO (xs++ys) r:=by
 cases r with
 | error i=>rfl
 | ok x=>obtain ⟨r,p,b⟩:=x;simp [preO]
theorem preO_nil {α:Type} (r:Except Nat (List α×Nat×Bytes)):preO [] r=r:=by
 cases r with
 | error i=>rfl
 | ok x=>obtain ⟨r,p,b⟩:=x;simp [preO]
theorem char1_no {bs mk:List UInt8}{p:Nat} (h:cS bs mk p=false):char1 mk p (bs.drop p)=.error p:=by
 unfold char1 byNext
 rw [head_drop]
 unfold cS at h
 cases e:bs[p]? with
 | none=>rfl
 | some x =>
  rw [e] at h
  dsimp only at h ⊢
  rw [Bool.or_eq_false_iff] at h
  rw [if_neg (by rw [h.1];decide)]
  unfold letter_ byNext
  rw [head_drop,e]
  dsimp only
  rw [if_pos h.2]
  rfl
theorem chars_no {bs mk:List UInt8}{p k:Nat} (h:cS bs mk p=false):chars_ mk k p (bs.drop p)=.ok ([],p,bs.drop p):=by
 cases k with
 | zero=>rfl
 | succ k =>
  rw [chars_]
  unfold byNext
  rw [head_drop]
  unfold cS at h
  cases e:bs[p]? with
  | none=>rfl
  | some x =>
   rw [e] at h
   dsimp only at h ⊢
   rw [Bool.or_eq_false_iff] at h
   rw [if_neg (by rw [h.1];decide),if_neg (by rw [h.2];decide)]
   rfl
theorem chars_err {bs mk:List UInt8}{p k i:Nat} (h:cS bs mk p=true) (h1:char1 mk p (bs.drop p)=.error i):chars_ mk (k+1) p (bs.drop p)=.error i:=by
 rw [chars_]
 unfold char1 byNext at h1
 unfold byNext
 rw [head_drop] at h1 ⊢
 unfold cS at h
 cases e:bs[p]? with
 | none=>rw [e] at h;cases h
 | some x =>
  rw [e] at h h1
  dsimp only at h h1 ⊢
  by_cases hm:mk.contains x=true
  ·rw [if_pos hm] at h1
   cases h1
  ·rw [if_neg hm] at h1 ⊢
   have hs:startsLetter x=true:=by
    rcases Bool.or_eq_true_iff.mp h with z | z
    ·exact absurd z hm
    ·exact z
   rw [if_pos hs]
   exact then_no h1
theorem chars_ok {bs mk:List UInt8}{p k n p':Nat} (h:cS bs mk p=true) (h1:char1 mk p (bs.drop p)=.ok (n,p',bs.drop p')):chars_ mk (k+1) p (bs.drop p)=preO [n] (chars_ mk k p' (bs.drop p')):=by
 rw [chars_]
 unfold char1 byNext at h1
 unfold byNext
 rw [head_drop] at h1 ⊢
 unfold cS at h
 have fin:∀ (r:Rd Letters),andThen r (fun (l:Letters)=>gives (n::l)) p' (bs.drop p')=preO [n] (r p' (bs.drop p')):=fun r=>by
  unfold andThen
  cases r p' (bs.drop p') with
  | error i=>rfl
  | ok x=>rfl
 cases e:bs[p]? with
 | none=>rw [e] at h;cases h
 | some x =>
  rw [e] at h h1
  dsimp only at h h1 ⊢
  by_cases hm:mk.contains x=true
  ·rw [if_pos hm] at h1 ⊢
   unfold behind gives at h1
   rw [drop_drop1] at h1
   injection h1 with h1
   injection h1 with h2 h3
   injection h3 with h3 h4
   subst h2 h3
   unfold behind
   rw [drop_drop1]
   exact fin _
  ·rw [if_neg hm] at h1 ⊢
   have hs:startsLetter x=true:=by
    rcases Bool.or_eq_true_iff.mp h with z | z
    ·exact absurd z hm
    ·exact z
   rw [if_pos hs,then_ok h1]
   exact fin _
theorem some_of_chars {bs mk:List UInt8}{p k p':Nat}{x:Letters} (h:chars_ mk k p (bs.drop p)=.ok (x,p',bs.drop p')) (hx:x≠[]):someChars_ mk k p (bs.drop p)=.ok (x,p',bs.drop p'):=by
 unfold someChars_
 rw [then_ok h]
 rw [if_neg (by cases x <;> simp at hx ⊢)]
 rfl
theorem some_err {bs mk:List UInt8}{p k i:Nat} (h:chars_ mk k p (bs.drop p)=.error i):someChars_ mk k p (bs.drop p)=.error i:=by
 unfold someChars_
 exact then_no h
theorem some_nil {bs mk:List UInt8}{p k:Nat} (h:chars_ mk k p (bs.drop p)=.ok ([],p,bs.drop p)):someChars_ mk k p (bs.drop p)=.error p:=by
 unfold someChars_
 rw [then_ok h]
 rfl
theorem letters_chars:∀ (k:Nat),letters_ k=chars_ [] k
 | 0=>rfl
 | k+1=>by
  rw [letters_,chars_,letters_chars k]
  rfl
theorem someLetters_chars (k:Nat):someLetters_ k=someChars_ [] k:=by unfold someLetters_ someChars_;rw [letters_chars]
def rowTail (one:Rd Letters) (m:Nat):Rd (List Letters):=byNext fun (c:Option UInt8)=>if c=some 10 then behind (gives []) else if m=0 then stray else andThen (byte_ 32) fun (_:Unit)=>row_ one m
theorem row_ok {one:Rd Letters}{m p p':Nat}{b b':Bytes}{x:Letters} (h:one p b=.ok (x,p',b')):row_ one (m+1) p b=preO [x] (rowTail one m p' b'):=by
 rw [row_,then_ok h]
 unfold rowTail byNext
 dsimp only
 split
 ·rfl
 ·split
  ·rfl
  ·unfold andThen
   cases byte_ 32 p' b' with
   | error i=>rfl
   | ok y =>
    obtain ⟨u,p2,b2⟩:=y
    dsimp only
    cases row_ one m p2 b2 with
    | error i=>rfl
    | ok z=>rfl
theorem row_err {one:Rd Letters}{m p i:Nat}{b:Bytes} (h:one p b=.error i):row_ one (m+1) p b=.error i:=by
 rw [row_,then_no h]
theorem tail10 {one:Rd Letters}{m p:Nat}{bs:List UInt8} (h:pk bs p=10):rowTail one m p (bs.drop p)=.ok ([],p+1,bs.drop (p+1)):=by
 unfold rowTail byNext
 rw [head_drop,pk_eq (c:=10) |>.mp h]
 dsimp only
 rw [if_pos rfl]
 unfold behind gives
 rw [drop_drop1]
theorem tail32 {one:Rd Letters}{m p:Nat}{bs:List UInt8} (h:pk bs p=32) (hm:m≠0):rowTail one m p (bs.drop p)=row_ one m (p+1) (bs.drop (p+1)):=by
 unfold rowTail byNext
 have e:=(pk_eq (c:=32)).mp h
 rw [head_drop,e]
 dsimp only
 rw [if_neg (by decide),if_neg hm]
 exact then_ok (byte_ok h)
theorem tail_no {one:Rd Letters}{m p:Nat}{bs:List UInt8} (h1:pk bs p≠10) (h2:m=0∨pk bs p≠32):rowTail one m p (bs.drop p)=.error p:=by
 unfold rowTail byNext
 rw [head_drop]
 dsimp only
 rw [if_neg (fun z=>h1 ((pk_eq (c:=10)).mpr z))]
 by_cases hm:m=0
 ·rw [if_pos hm];rfl
 ·rw [if_neg hm]
  exact then_no (byte_no (fun z=>(h2.resolve_left hm) z))
theorem cS_not {bs mk:List UInt8}{p:Nat} (hm:∀ c∈mk,33≤c.toNat) (h:pk bs p=32∨pk bs p=10):cS bs mk p=false:=by
 unfold cS
 cases e:bs[p]? with
 | none=>rfl
 | some x =>
  dsimp only
  have e2:=pk_some e
  have hx:x.toNat=32∨x.toNat=10:=by lia
  have h1:mk.contains x=false:=by
   rw [List.contains_eq_any_beq,List.any_eq_false]
   intro y hy z
   have:=hm y hy
   rw [eq_of_beq z] at hx
   lia
  have h2:startsLetter x=false:=by
   unfold startsLetter
   rw [if_pos (by lia)]
   rcases hx with z | z <;> rw [z] <;> decide
  rw [h1,h2];rfl
end Vp
end
section
namespace Vp
open Vh VhPage
theorem byte_digit {β:Type}{bs:List UInt8}{p:Nat}{c:UInt8}{g:Unit→Rd β} (h:48≤pk bs p∧pk bs p≤57) (hc:c.toNat<48:=by decide):andThen (byte_ c) g p (bs.drop p)=.error p:=then_no (byte_no (by lia))
def NumBad (bs:List UInt8) (lo hi p p':Nat):Prop:=num lo hi p (bs.drop p)=.error p'∨∃ x,num lo hi p (bs.drop p)=.ok (x,p',bs.drop p')∧48≤pk bs p'∧pk bs p'≤57
theorem num_bad {β:Type}{bs:List UInt8}{lo hi p p':Nat}{f:Nat→Rd β} (h:NumBad bs lo hi p p') (hf:∀ x,(48≤pk bs p'∧pk bs p'≤57)→f x p' (bs.drop p')=.error p'):andThen (num lo hi) f p (bs.drop p)=.error p':=by
 rcases h with h | ⟨x,h,hd⟩
 ·exact then_no h
 ·rw [then_ok h];exact hf x hd
theorem then_then {β:Type} (lo hi:Nat) (f:Nat→Rd β):andThen (then_ lo hi) f=andThen (byte_ 32) (fun _=>andThen (num lo hi) f):=by
 funext p b
 unfold then_ andThen
 cases byte_ 32 p b with
 | error i=>rfl
 | ok x=>rfl
def hd:List (Nat×Nat)→List Nat→Rd (List Nat)
 | [],xs=>andThen (byte_ 10) fun (_:Unit)=>gives xs
 | b::r,[]=>andThen (num b.1 b.2) fun x=>hd r [x]
 | b::r,y::ys=>andThen (byte_ 32) fun (_:Unit)=>andThen (num b.1 b.2) fun x=>hd r ((y::ys)++[x])
def hdr (bds:List (Nat×Nat)):Rd (List Nat):=andThen (byte_ 94) fun (_:Unit)=>hd bds []
theorem hd_s (b:Nat×Nat) (r:List (Nat×Nat)):∀ (xs:List Nat),xs≠[]→hd (b::r) xs=andThen (byte_ 32) fun (_:Unit)=>andThen (num b.1 b.2) fun x=>hd r (xs++[x])
 | [],h=>absurd rfl h
 | _::_,_=>rfl
theorem hd_digit {bs:List UInt8}{p:Nat} (h:48≤pk bs p∧pk bs p≤57):∀ (bds:List (Nat×Nat)) (xs:List Nat),xs≠[]→hd bds xs p (bs.drop p)=.error p
 | [],_,_=>by rw [hd];exact byte_digit h
 | b::r,xs,hx=>by rw [hd_s b r xs hx];exact byte_digit h
def mapR {α β:Type} (f:α→β) (r:Rd α):Rd β:=fun p b=>match r p b with
 | .error i=>.error i
 | .ok x=>.ok (f x.1,x.2.1,x.2.2)
theorem map_then {α β γ:Type} (f:β→γ) (r:Rd α) (g:α→Rd β):mapR f (andThen r g)=andThen r fun x=>mapR f (g x):=by
 funext p b
 unfold mapR andThen
 cases r p b with
 | error i=>rfl
 | ok x=>rfl
theorem map_gives {α β:Type} (f:α→β) (x:α):mapR f (gives x)=gives (f x):=rfl
theorem map_ok {α β:Type}{f:α→β}{r:Rd α}{x:α}{p p':Nat}{b b':Bytes} (h:r p b=.ok (x,p',b')):mapR f r p b=.ok (f x,p',b'):=by unfold mapR;rw [h]
theorem map_no {α β:Type}{f:α→β}{r:Rd α}{p i:Nat}{b:Bytes} (h:r p b=.error i):mapR f r p b=.error i:=by unfold mapR;rw [h]
def mkS:List Nat→Settings
 | [a,b,c,d,e,f]=>⟨a,b,c,d,e,f⟩
 | _=>⟨0,0,0,0,0,0⟩
def bdS:List (Nat×Nat):=[(20,240),(6,240),(1,16),(1,100),(0,1),(0,10000)]
theorem settings_hdr:settings_=mapR mkS (hdr bdS):=by
 unfold settings_ hdr bdS
 simp only [hd,map_then,map_gives,then_then,List.cons_append,List.nil_append,mkS]
def wRow (k lo:Nat):Rd (List (Nat×Nat×Nat)):=andThen (num lo LARGEST) fun (a:Nat)=>andThen (byte_ 32) fun (_:Unit)=>andThen (num a LARGEST) fun (b:Nat)=>andThen (byte_ 32) fun (_:Unit)=>andThen (num 0 2) fun (n:Nat)=>andThen (byte_ 10) fun (_:Unit) =>
 andThen (widths_ k (b+1)) fun (r:List (Nat×Nat×Nat))=>gives ((a,b,n)::r)
theorem widths_go {bs:List UInt8}{p k lo:Nat} (h:pk bs p=40) (hlo:lo≤LARGEST):widths_ (k+1) lo p (bs.drop p)=wRow k lo (p+1) (bs.drop (p+1)):=by
 rw [widths_]
 unfold byNext
 rw [head_drop,(pk_eq (c:=40)).mp h]
 dsimp only
 rw [if_pos ⟨rfl,hlo⟩]
 unfold behind wRow
 rw [drop_drop1]
 simp only [then_then]
theorem widths_stop {bs:List UInt8}{p k lo:Nat} (h:k=0∨pk bs p≠40∨LARGEST<lo):widths_ k lo p (bs.drop p)=.ok ([],p,bs.drop p):=by
 cases k with
 | zero=>rfl
 | succ k =>
  rw [widths_]
  unfold byNext
  rw [head_drop]
  dsimp only
  rw [if_neg]
  ·rfl
  ·rintro ⟨h1,h2⟩
   rcases h with h | h | h
   ·cases h
   ·exact h ((pk_eq (c:=40)).mpr h1)
   ·lia
theorem cons_then {α:Type} (x:α) (r:Rd (List α)) (p:Nat) (b:Bytes):andThen r (fun (l:List α)=>gives (x::l)) p b=preO [x] (r p b):=by
 unfold andThen
 cases r p b with
 | error i=>rfl
 | ok y=>rfl
end Vp
end
section
namespace Vp
open Vh VhPage
theorem paras_go {bs:List UInt8}{p k n:Nat} (h:pk bs p=62) (hn:1≤n):paras_ (k+1) n p (bs.drop p)=andThen (row_ (someChars_ [] 64) n) (fun (q:List Letters)=>andThen (paras_ k (n-q.length)) fun (r:List (List Letters))=>gives (q::r)) (p+1) (bs.drop (p+1)):=by
 rw [paras_]
 unfold byNext
 rw [head_drop,(pk_eq (c:=62)).mp h]
 dsimp only
 rw [if_pos ⟨rfl,hn⟩]
 unfold behind
 rw [drop_drop1,someLetters_chars]
theorem paras_stop {bs:List UInt8}{p k n:Nat} (h:k=0∨pk bs p≠62∨n=0):paras_ k n p (bs.drop p)=.ok ([],p,bs.drop p):=by
 cases k with
 | zero=>rfl
 | succ k =>
  rw [paras_]
  unfold byNext
  rw [head_drop]
  dsimp only
  rw [if_neg]
  ·rfl
  ·rintro ⟨h1,h2⟩
   rcases h with h | h | h
   ·cases h
   ·exact h ((pk_eq (c:=62)).mpr h1)
   ·lia
def spans:Nat→List (List Letters)→List (Nat×Nat)
 | _,[]=>[]
 | a,p::r=>(a,a+p.length)::spans (a+p.length) r
theorem spans_snoc (q:List Letters):∀ (a:Nat) (xs:List (List Letters)),spans a (xs++[q])=spans a xs++[(a+xs.flatten.length,a+xs.flatten.length+q.length)]
 | a,[]=>by simp [spans]
 | a,p::r=>by
  show (a,a+p.length)::spans (a+p.length) (r++[q])=_
  rw [spans_snoc q (a+p.length) r]
  simp [spans,Nat.add_assoc]
theorem spans_len:∀ (a:Nat) (xs:List (List Letters)),(spans a xs).length=xs.length
 | _,[]=>rfl
 | a,p::r=>by simp [spans,spans_len (a+p.length) r]
def sRow (n k i0:Nat):Rd (List (Nat×List Letters)):=andThen (num i0 (n-1)) fun (i:Nat)=>andThen (byte_ 32) fun (_:Unit)=>andThen (row_ (someChars_ [94] 16) 4) fun (l:List Letters)=>andThen (signs_ n k i) fun (r:List (Nat×List Letters))=>gives ((i,l)::r)
theorem signs_go {bs:List UInt8}{p k n i0:Nat} (h:pk bs p=123) (hn:1≤n):signs_ n (k+1) i0 p (bs.drop p)=sRow n k i0 (p+1) (bs.drop (p+1)):=by
 rw [signs_]
 unfold byNext
 rw [head_drop,(pk_eq (c:=123)).mp h]
 dsimp only
 rw [if_pos ⟨rfl,hn⟩]
 unfold behind sRow
 rw [drop_drop1]
theorem signs_stop {bs:List UInt8}{p k n i0:Nat} (h:k=0∨pk bs p≠123∨n=0):signs_ n k i0 p (bs.drop p)=.ok ([],p,bs.drop p):=by
 cases k with
 | zero=>rfl
 | succ k =>
  rw [signs_]
  unfold byNext
  rw [head_drop]
  dsimp only
  rw [if_neg]
  ·rfl
  ·rintro ⟨h1,h2⟩
   rcases h with h | h | h
   ·cases h
   ·exact h ((pk_eq (c:=123)).mpr h1)
   ·lia
def eRow (n k f0 most:Nat):Rd (List Entry):=andThen (num f0 n) fun (f:Nat)=>andThen (byte_ 32) fun (_:Unit)=>andThen (num 0 (n-f)) fun (m:Nat)=>andThen (tokens_ (min 1024 most)) fun (t:List Letters)=>andThen (entries_ n k f (most-t.length)) fun (r:List Entry)=>gives (⟨f,m,t⟩::r)
theorem entries_go {bs:List UInt8}{p k n f0 most:Nat} (h:pk bs p=91) (hn:1≤n):entries_ n (k+1) f0 most p (bs.drop p)=eRow n k f0 most (p+1) (bs.drop (p+1)):=by
 rw [entries_]
 unfold byNext
 rw [head_drop,(pk_eq (c:=91)).mp h]
 dsimp only
 rw [if_pos ⟨rfl,hn⟩]
 unfold behind eRow
 rw [drop_drop1]
 simp only [then_then]
theorem entries_stop {bs:List UInt8}{p k n f0 most:Nat} (h:k=0∨pk bs p≠91∨n=0):entries_ n k f0 most p (bs.drop p)=.ok ([],p,bs.drop p):=by
 cases k with
 | zero=>rfl
 | succ k =>
  rw [entries_]
  unfold byNext
  rw [head_drop]
  dsimp only
  rw [if_neg]
  ·rfl
  ·rintro ⟨h1,h2⟩
   rcases h with h | h | h
   ·cases h
   ·exact h ((pk_eq (c:=91)).mpr h1)
   ·lia
theorem tokens_tail (k:Nat):tokens_ k=rowTail token_ k:=rfl
theorem token_ok {bs:List UInt8}{p:Nat} (h1:pk bs p≠91) (h2:pk bs p≠35):token_ p (bs.drop p)=someChars_ MARKBYTES 64 p (bs.drop p):=by
 unfold token_ byNext
 rw [head_drop]
 dsimp only
 rw [if_neg]
 rintro (h | h)
 ·exact h1 ((pk_eq (c:=91)).mpr h)
 ·exact h2 ((pk_eq (c:=35)).mpr h)
theorem token_no {bs:List UInt8}{p:Nat} (h:pk bs p=91∨pk bs p=35):token_ p (bs.drop p)=.error p:=by
 unfold token_ byNext
 rw [head_drop]
 dsimp only
 rw [if_pos]
 ·rfl
 ·rcases h with h | h
  ·exact .inl ((pk_eq (c:=91)).mp h)
  ·exact .inr ((pk_eq (c:=35)).mp h)
end Vp
end
section
set_option maxRecDepth 100000
namespace Vp
open PySem PySem.Spec PyProof.Rows L2
def top (i:Nat):Stmt:=PySem.Challenge.pw_vellumpages_s01_judge.main.body.getD i (.Pass ⟨0,0,0,0⟩)
def stI (l:List Stmt) (i:Nat):Stmt:=l.getD i (.Pass ⟨0,0,0,0⟩)
def noEx:Expr:=.Constant .none 0 ⟨0,0,0,0⟩
def stVal:Stmt→Expr
 | .Assign _ v _=>v
 | .Return (some v) _=>v
 | .Expr v _=>v
 | .AugAssign _ _ v _=>v
 | _=>noEx
def lcSc:Expr→Scope
 | .ListComp _ _ sc _=>sc
 | _=>{ kind:=.function,names:=[],isGenerator:=false,isCoroutine:=false }
abbrev WT:=Nat→L2.St→Hp→Prop
def BdT (K:PySem.W.Frag) (ab:Addr) (bds:List (Nat×Nat)):Prop:=∃ vs,(∀ H,SqT K H ab vs)∧Paired (fun (x:Nat×Nat) v=>∃ b,v=.ref b∧(∀ H,SqT K H b [.int (x.1:Int),.int (x.2:Int)])∧x.2<10 ^ 11) bds vs
structure Ad where
 CE:Addr
 CR:Addr
 CW:Addr
 aMARKS:Addr
 aENDS:Addr
 aSETTING_BOUNDS:Addr
 aCARET:Addr
structure Txt (K:PySem.W.Frag) (mg:Str→Option Value) (a:Ad):Prop where
 exc:Exc K mg "NoText" a.CE
 clReader:Cls K a.CR
 n_t:NoAttr K a.CR "t"
 n_at:NoAttr K a.CR "at"
 clWork:Cls K a.CW
 n_width:NoAttr K a.CW "width"
 n_height:NoAttr K a.CW "height"
 n_indent:NoAttr K a.CW "indent"
 n_every:NoAttr K a.CW "every"
 n_anew:NoAttr K a.CW "anew"
 n_loose:NoAttr K a.CW "loose"
 n_rows:NoAttr K a.CW "rows"
 n_head:NoAttr K a.CW "head"
 n_paragraphs:NoAttr K a.CW "paragraphs"
 n_words:NoAttr K a.CW "words"
 n_signs:NoAttr K a.CW "signs"
 n_entries:NoAttr K a.CW "entries"
 nl:∀ b o,K.lookup b=some o→o.cls≠.type "list"
 len:mg "len"=none
 ord:mg "ord"=none
 min:mg "min"=none
 max:mg "max"=none
 range:mg "range"=none
 enumerate:mg "enumerate"=none
 str:mg "str"=none
 list:mg "list"=none
 sum:mg "sum"=none
 cBLANK:∃ u,mg "BLANK"=some (.int 32 u)
 cFIRST_LETTER:∃ u,mg "FIRST_LETTER"=some (.int 33 u)
 cLAST_CHARACTER:∃ u,mg "LAST_CHARACTER"=some (.int 1114111 u)
 cMOST_LETTERS:∃ u,mg "MOST_LETTERS"=some (.int 64 u)
 cNO_BYTE:∃ u,mg "NO_BYTE"=some (.int 256 u)
 cMOST_ROWS:∃ u,mg "MOST_ROWS"=some (.int 64 u)
 cMOST_PARAGRAPHS:∃ u,mg "MOST_PARAGRAPHS"=some (.int 4096 u)
 cMOST_WORDS:∃ u,mg "MOST_WORDS"=some (.int 8192 u)
 cMOST_SIGNS:∃ u,mg "MOST_SIGNS"=some (.int 4096 u)
 cMOST_ENTRIES:∃ u,mg "MOST_ENTRIES"=some (.int 4096 u)
 cMOST_TOKENS:∃ u,mg "MOST_TOKENS"=some (.int 65536 u)
 cMOST_TOKENS_OF_ENTRY:∃ u,mg "MOST_TOKENS_OF_ENTRY"=some (.int 1024 u)
 cMOST_SIGN_THINGS:∃ u,mg "MOST_SIGN_THINGS"=some (.int 4 u)
 cMOST_SIGN_CHARACTERS:∃ u,mg "MOST_SIGN_CHARACTERS"=some (.int 16 u)
 cMOST_TEXT_BYTES:∃ u,mg "MOST_TEXT_BYTES"=some (.int 1048576 u)
 cMARKS:mg "MARKS"=some (.ref a.aMARKS)
 tMARKS:∀ H,SqT K H a.aMARKS (marksI.map V.int)
 cENDS:mg "ENDS"=some (.ref a.aENDS)
 tENDS:∀ H,SqT K H a.aENDS [V.int 32,V.int 10]
 cSETTING_BOUNDS:mg "SETTING_BOUNDS"=some (.ref a.aSETTING_BOUNDS)
 tSETTING_BOUNDS:BdT K a.aSETTING_BOUNDS [(20,240),(6,240),(1,16),(1,100),(0,1),(0,10000)]
 cCARET:mg "CARET"=some (.ref a.aCARET)
 tCARET:∀ H,SqT K H a.aCARET [V.int 94]
end Vp
end
section
set_option maxRecDepth 100000
set_option maxHeartbeats 4000000
namespace Vp
open PySem PySem.Spec PyProof.Rows L2
local macro_rules | `(tactic| walk_at "rd")=>`(tactic| (try simp only [tSeq,tIfS,tOr,tAnd,tNot,tTest,tB,tOp,rI0,rI,tVar,tC,tChain,tRet,tRetN,tNext,tDrop,tAsg,gName,rEq,rNe,rIn,tAug,ipI,tCall,tCons,tNil,tUn,rU,tIf,tNotV,tAndV,tOrV,tCB,tRaise,tTup,tLst,L2.start,L2.cxOf,List.map_cons,List.map_nil,List.length_cons,List.length_nil,List.replicate,List.cons_append,List.nil_append,List.append_nil,Nat.sub_self,Nat.zero_add,Nat.add_sub_cancel,Nat.reduceAdd,Nat.reduceSub,List.getElem?_cons_zero,List.getElem?_cons_succ,List.set_cons_zero,List.set_cons_succ,Option.some.injEq,V.int.injEq,V.bl.injEq,V.ref.injEq,V.str.injEq,exists_eq_left',exists_and_left,exists_const,true_and,and_true,scal,decide_eq_true_eq,Bool.not_eq_true',decide_eq_false_iff_not,Bool.not_not,Bool.not_true,Bool.not_false,if_true,if_false,ite_true,ite_false,↓reduceIte,Bool.false_eq_true,List.cons.injEq,exists_eq_left,gTup,gCons,gNil,tBM,rAppend,rExtend,tSl,tNoPart,tPart,rSlL,tMake]))
section
variable {P:Program}{w:World}{K:PySem.W.Frag}{mg:Str→Option Value}{base:Heap}{a:Ad}
theorem inV_ints (n:Int) (l:List Int):inV (.int n) (l.map V.int)=l.contains n:=by
 unfold inV
 rw [List.any_map,List.contains_eq_any_beq]
 congr 1
 funext y
 show (y==n)=(n==y)
 exact Bool.beq_comm
theorem flat_ints (l:List Int):(l.map V.int).all flatV=true:=by
 rw [List.all_map,List.all_eq_true];intro _ _;rfl
def sp_is_letter (K:PySem.W.Frag) (a:Ad):Sp:=fun vs H Q _=>∃ n:Int,vs=[.int n]∧Q (.bl (isL n)) H
abbrev s_is_letter:Stmt:=top 6
theorem sc_is_letter:FnScope ["character"] ["character"] (defScope s_is_letter):=⟨rfl,rfl,rfl,by decide +kernel,rfl,by decide +kernel,by decide +kernel⟩
theorem ok_is_letter {f:Addr}{fd:FuncData} (F:Fun K "is_letter" "is_letter" s_is_letter f fd) (T:Txt K mg a):FnOk P w K mg base CX0 1 f fd ["character"] (sp_is_letter K a):=by
 refine F.ok sc_is_letter (fun vs H Q E h=>?_) (fun cdv A outer s H vs Q E hr h=>?_)
 ·obtain ⟨n,rfl,q⟩:=h
  rfl
 ·obtain ⟨n,rfl,q⟩:=h
  have nd:=sc_is_letter.nd
  refine ⟨_,(pss_cons (ps_if (PW.pt (pw_or (pt_cmpR op_lt (pv 0) (pe_gint T.cFIRST_LETTER) (nomark _)) (pw_or (pt_chain op_le op_le pe_int (pv 0) pe_int) (pw_or1 (pt_cmpR op_in_seq (pv 0) (pe_gref T.cMARKS) (by with_unfolding_all rfl)))))) (pss_one (ps_ret pe_bl)) pss_nil) (pss_one (ps_ret (pe_cmpR op_lt (pe_op op_mod (pv 0) pe_int) pe_int (nomark _))))),?_⟩
  have hm:=inV_ints n marksI
  have hf:=flat_ints marksI
  unfold isL at q
  walk_at "rd"
  split
  ·rename_i h;simpa [h] using q
  ·rename_i h1
   have last:(¬ (127≤n∧n≤159))→∃ x,(SqL K H a.aMARKS x∨SqT K H a.aMARKS x)∧flatV (V.int n)=true∧x.all flatV=true∧if inV (V.int n) x=true then Q (V.bl false) H else (0:Int)<65536∧Q (V.bl (decide (n % 65536<65534))) H:=fun h2=>by
    refine ⟨_,.inr (T.tMARKS H),rfl,hf,?_⟩
    rw [hm]
    have h3:(decide (127≤n) && decide (n≤159))=false:=by
     by_cases z:127≤n <;> simp [z] <;> lia
    rw [h3] at q
    generalize marksI.contains n=c at q
    cases c
    ·rw [if_neg (by decide)];exact ⟨by decide,by simpa [h1] using q⟩
    ·rw [if_pos rfl];simpa [h1] using q
   split
   ·split
    ·rename_i h2 h3;simpa [h1,h2,h3] using q
    ·exact last (by lia)
   ·exact last (by lia)
def sp_begins_some (K:PySem.W.Frag) (a:Ad):Sp:=fun vs H Q _=>∃ v lo hi:Nat,vs=[.int v,.int lo,.int hi]∧hi<10 ^ 11∧Q (.bl (Vh.leadsTo lo hi v)) H
abbrev s_begins_some:Stmt:=top 12
theorem sc_begins_some:FnScope ["value","low","high","least","most"] ["value","low","high"] (defScope s_begins_some):=⟨rfl,rfl,rfl,by decide +kernel,rfl,by decide +kernel,by decide +kernel⟩
theorem ok_begins_some {f:Addr}{fd:FuncData} (F:Fun K "begins_some" "begins_some" s_begins_some f fd) (T:Txt K mg a):FnOk P w K mg base CX0 1 f fd ["value","low","high"] (sp_begins_some K a):=by
 refine F.ok sc_begins_some (fun vs H Q E h=>?_) (fun cdv A outer s H vs Q E hr h=>?_)
 ·obtain ⟨v,lo,hi,rfl,hhi,q⟩:=h
  rfl
 ·obtain ⟨v,lo,hi,rfl,hhi,q⟩:=h
  have nd:=sc_begins_some.nd
  refine ⟨_,(pss_cons (ps_if (pt_cmpR op_eq (pv 0) pe_int (nomark _)) (pss_one (ps_ret (pe_cmpR op_eq (pv 1) pe_int (nomark _)))) pss_nil) (pss_cons (ps_set (i:=3) nd rfl (Or.inl rfl) (pv 0)) (pss_cons (ps_set (i:=4) nd rfl (Or.inl rfl) (pv 0)) (pss_cons (ps_while PassesOwn.never (pt_cmpR op_le (pv 3) (pv 2) (nomark _)) (pss_cons (ps_if (pt_cmpR op_ge (pv 4) (pv 1) (nomark _)) (pss_one (ps_ret pe_bl)) pss_nil) (pss_cons (ps_set (i:=3) nd rfl (Or.inl rfl) (pe_op op_mul (pv 3) pe_int)) (pss_one (ps_set (i:=4) nd rfl (Or.inl rfl) (pe_op op_add (pe_op op_mul (pv 4) pe_int) pe_int)))))) (pss_one (ps_ret pe_bl)))))),?_⟩
  walk_at "rd"
  split
  ·rename_i h
   have h0:v=0:=by lia
   subst h0
   rw [leads_zero] at q
   have e:decide ((lo:Int)=0)=(lo==0):=by
    by_cases z:lo=0 <;> simp [z]
   rw [e];exact q
  ·rename_i h
   have hv:v≠0:=by lia
   obtain ⟨W,hW⟩:∃ W:WT,W=fun m σ H'=>H'=H∧∃ L M k:Nat,σ=[some (.int v),some (.int lo),some (.int hi),some (.int L),some (.int M)]∧L=v * 10 ^ k∧M+1=(v+1) * 10 ^ k∧1≤L∧m=hi+1-L∧∀ j,j<k→¬ (v * 10 ^ j≤hi∧lo<(v+1) * 10 ^ j):=⟨_,rfl⟩
   refine ⟨W,⟨_,by rw [hW];exact ⟨rfl,v,v,0,rfl,by simp,by simp,by lia,rfl,fun j z=>absurd z (Nat.not_lt_zero j)⟩⟩,fun m σ H' hw=>?_⟩
   rw [hW] at hw
   obtain ⟨rfl,L,M,k,rfl,hL,hM,hL1,rfl,hno⟩:=hw
   walk_at "rd"
   split
   ·rename_i h1
    refine ⟨fun σ' H''=>∃ m',m' < hi+1-L∧W m' σ' H'',fun _ _ z=>z,?_⟩
    split
    ·rename_i h2
     rw [leads_true (k:=k) hv (by lia) (by lia) hhi] at q
     exact q
    ·rename_i h2
     refine ⟨.inr (by lia),.inr (by lia),hi+1-L * 10,by lia,?_⟩
     rw [hW]
     refine ⟨rfl,L * 10,M * 10+9,k+1,by simp,?_,?_,by lia,rfl,?_⟩
     ·rw [hL,Nat.pow_succ,Nat.mul_assoc]
     ·rw [Nat.pow_succ,← Nat.mul_assoc,← hM];lia
     ·intro j hj
      by_cases z:j=k
      ·subst z;lia
      ·exact hno j (by lia)
   ·rename_i h1
    rw [leads_false (k:=k) hv hno (by lia)] at q
    exact q
def sp_size_by_lead (K:PySem.W.Frag) (a:Ad):Sp:=fun vs H Q _=>∃ n:Int,vs=[.int n]∧Q (.int (sizeL n)) H
abbrev s_size_by_lead:Stmt:=top 13
theorem sc_size_by_lead:FnScope ["lead"] ["lead"] (defScope s_size_by_lead):=⟨rfl,rfl,rfl,by decide +kernel,rfl,by decide +kernel,by decide +kernel⟩
theorem ok_size_by_lead {f:Addr}{fd:FuncData} (F:Fun K "size_by_lead" "size_by_lead" s_size_by_lead f fd) (T:Txt K mg a):FnOk P w K mg base CX0 1 f fd ["lead"] (sp_size_by_lead K a):=by
 refine F.ok sc_size_by_lead (fun vs H Q E h=>?_) (fun cdv A outer s H vs Q E hr h=>?_)
 ·obtain ⟨n,rfl,q⟩:=h
  rfl
 ·obtain ⟨n,rfl,q⟩:=h
  have nd:=sc_size_by_lead.nd
  refine ⟨_,(pss_cons (ps_if (pt_cmpR op_lt (pv 0) pe_int (nomark _)) (pss_one (ps_ret pe_int)) pss_nil) (pss_cons (ps_if (pt_chain op_le op_le pe_int (pv 0) pe_int) (pss_one (ps_ret pe_int)) pss_nil) (pss_cons (ps_if (pt_chain op_le op_le pe_int (pv 0) pe_int) (pss_one (ps_ret pe_int)) pss_nil) (pss_cons (ps_if (pt_chain op_le op_le pe_int (pv 0) pe_int) (pss_one (ps_ret pe_int)) pss_nil) (pss_one (ps_ret pe_int)))))),?_⟩
  unfold sizeL at q
  walk_at "rd"
  (repeat' split) <;> (simp only [*,if_true,if_false,and_true,true_and,and_self,not_false_eq_true] at q ⊢) <;> first | exact q | (exfalso;lia) | (simp_all;done) | (rw [if_neg (by lia)] at q;exact q) | skip
def sp_bounds_behind (K:PySem.W.Frag) (a:Ad):Sp:=fun vs H Q _=>∃ n:Int,vs=[.int n]∧∀ p,H p=none→Q (.ref p) (upd H p (.tup [.int (blo n),.int (bhi n)]))
abbrev s_bounds_behind:Stmt:=top 14
theorem sc_bounds_behind:FnScope ["lead"] ["lead"] (defScope s_bounds_behind):=⟨rfl,rfl,rfl,by decide +kernel,rfl,by decide +kernel,by decide +kernel⟩
theorem ok_bounds_behind {f:Addr}{fd:FuncData} (F:Fun K "bounds_behind" "bounds_behind" s_bounds_behind f fd) (T:Txt K mg a):FnOk P w K mg base CX0 1 f fd ["lead"] (sp_bounds_behind K a):=by
 refine F.ok sc_bounds_behind (fun vs H Q E h=>?_) (fun cdv A outer s H vs Q E hr h=>?_)
 ·obtain ⟨n,rfl,q⟩:=h
  rfl
 ·obtain ⟨n,rfl,q⟩:=h
  have nd:=sc_bounds_behind.nd
  refine ⟨_,(pss_cons (ps_if (pt_cmpR op_eq (pv 0) pe_int (nomark _)) (pss_one (ps_ret (pe_tup (pa_cons pe_int (pa_cons pe_int pa_nil))))) pss_nil) (pss_cons (ps_if (pt_cmpR op_eq (pv 0) pe_int (nomark _)) (pss_one (ps_ret (pe_tup (pa_cons pe_int (pa_cons pe_int pa_nil))))) pss_nil) (pss_cons (ps_if (pt_cmpR op_eq (pv 0) pe_int (nomark _)) (pss_one (ps_ret (pe_tup (pa_cons pe_int (pa_cons pe_int pa_nil))))) pss_nil) (pss_cons (ps_if (pt_cmpR op_eq (pv 0) pe_int (nomark _)) (pss_one (ps_ret (pe_tup (pa_cons pe_int (pa_cons pe_int pa_nil))))) pss_nil) (pss_one (ps_ret (pe_tup (pa_cons pe_int (pa_cons pe_int pa_nil))))))))),?_⟩
  unfold blo bhi at q
  have z2:2≤sizeLine:=by decide
  walk_at "rd"
  (repeat' split) <;> refine ⟨z2,fun p hp=>?_⟩ <;> have q':=q p hp <;> simp_all
end
set_option hygiene false in
local macro_rules | `(tactic| walk_at "rdr")=>`(tactic| (try simp only [tSeq,tIfS,tOr,tAnd,tNot,tTest,tB,tOp,rI0,rI,tVar,tC,tChain,tRet,tRetN,tNext,tDrop,tAsg,gName,rEq,rNe,rIn,tAug,ipI,tCall,tCons,tNil,tUn,rU,tIf,tNotV,tAndV,tOrV,tCB,tRaise,tTup,tLst,L2.start,L2.cxOf,List.map_cons,List.map_nil,List.length_cons,List.length_nil,List.replicate,List.cons_append,List.nil_append,List.append_nil,Nat.sub_self,Nat.zero_add,Nat.add_sub_cancel,Nat.reduceAdd,Nat.reduceSub,List.getElem?_cons_zero,List.getElem?_cons_succ,List.set_cons_zero,List.set_cons_succ,Option.some.injEq,V.int.injEq,V.bl.injEq,V.ref.injEq,V.str.injEq,exists_eq_left',exists_and_left,exists_const,true_and,and_true,scal,decide_eq_true_eq,Bool.not_eq_true',decide_eq_false_iff_not,Bool.not_not,Bool.not_true,Bool.not_false,if_true,if_false,ite_true,ite_false,↓reduceIte,Bool.false_eq_true,List.cons.injEq,exists_eq_left,gTup,gCons,gNil,tBM,rAppend,rExtend,tSl,tNoPart,tPart,rSlL,tMake,tFld,tMeth,sFld,sFldAug,rAdd,rIxL,rIxT,hR,hR2,T.clReader,T.n_t,T.n_at,rf_t,rf_at,rf_put,rf_len,rf_no,HO.ins.injEq,and_assoc,upd_same]))
def rf (ta:Addr) (i:Int):List (Str×V):=[("t",.ref ta),("at",.int i)]
theorem rf_t (ta:Addr) (i:Int):(rf ta i).lookup ("t":Str)=some (.ref ta):=rfl
theorem rf_at (ta:Addr) (i:Int):(rf ta i).lookup ("at":Str)=some (.int i):=by
 unfold rf
 rw [List.lookup_cons,show (("at":Str)==("t":Str))=false from by decide]
 rfl
theorem rf_put (ta:Addr) (i j:Int):putF "at" (.int j) (rf ta i)=rf ta j:=by
 show (if ("t":Str)="at" then _ else _)=_
 rw [if_neg (by decide)]
 show _::(if ("at":Str)="at" then _ else _)=_
 rw [if_pos rfl]
 rfl
theorem rf_len (ta:Addr) (i:Int):(rf ta i).length=2:=rfl
theorem rf_no (ta:Addr) (i:Int) {m:Str} (h1:m≠"t") (h2:m≠"at"):(rf ta i).lookup m=none:=by
 unfold rf
 rw [List.lookup_cons,beq_eq_false_iff_ne.mpr h1]
 dsimp only
 rw [List.lookup_cons,beq_eq_false_iff_ne.mpr h2]
 rfl
theorem rf_peek (ta:Addr) (i:Int):(rf ta i).lookup ("peek":Str)=none:=rf_no ta i (by decide) (by decide)
theorem rf_sees (ta:Addr) (i:Int):(rf ta i).lookup ("sees":Str)=none:=rf_no ta i (by decide) (by decide)
theorem rf_take (ta:Addr) (i:Int):(rf ta i).lookup ("take":Str)=none:=rf_no ta i (by decide) (by decide)
theorem rf_take_end (ta:Addr) (i:Int):(rf ta i).lookup ("take_end":Str)=none:=rf_no ta i (by decide) (by decide)
theorem rf_take_digit (ta:Addr) (i:Int):(rf ta i).lookup ("take_digit":Str)=none:=rf_no ta i (by decide) (by decide)
theorem rf_take_number (ta:Addr) (i:Int):(rf ta i).lookup ("take_number":Str)=none:=rf_no ta i (by decide) (by decide)
theorem rf_take_character (ta:Addr) (i:Int):(rf ta i).lookup ("take_character":Str)=none:=rf_no ta i (by decide) (by decide)
theorem rf_take_long_letter (ta:Addr) (i:Int):(rf ta i).lookup ("take_long_letter":Str)=none:=rf_no ta i (by decide) (by decide)
theorem rf_take_thing (ta:Addr) (i:Int):(rf ta i).lookup ("take_thing":Str)=none:=rf_no ta i (by decide) (by decide)
theorem rf_ends_thing (ta:Addr) (i:Int):(rf ta i).lookup ("ends_thing":Str)=none:=rf_no ta i (by decide) (by decide)
theorem rf_take_head (ta:Addr) (i:Int):(rf ta i).lookup ("take_head":Str)=none:=rf_no ta i (by decide) (by decide)
theorem rf_take_things (ta:Addr) (i:Int):(rf ta i).lookup ("take_things":Str)=none:=rf_no ta i (by decide) (by decide)
def bsV (bs:List UInt8):List V:=bs.map fun c=>V.int (c.toNat:Int)
theorem bsV_at {bs:List UInt8}{p:Nat}{c:UInt8} (h:bs[p]?=some c):atI (bsV bs) (p:Int)=some (.int (c.toNat:Int)):=atI_nat (by unfold bsV;rw [List.getElem?_map,h];rfl)
theorem bsV_len (bs:List UInt8):(bsV bs).length=bs.length:=by unfold bsV;rw [List.length_map]
def Rdr (K:PySem.W.Frag) (a:Ad) (H:Hp) (r ta:Addr) (bs:List UInt8) (p:Nat):Prop:=∃ dx,H r=some (.ins a.CR dx (rf ta (p:Int)))∧SqL K H ta (bsV bs)∧ta≠r
section
variable {P:Program}{w:World}{K:PySem.W.Frag}{mg:Str→Option Value}{base:Heap}{a:Ad}
theorem Rdr.move {H H':Hp}{r dx ta:Addr}{bs:List UInt8}{p:Nat} (hS:SqL K H ta (bsV bs)) (ne:ta≠r) (k:Kp [r] H H') (e:H' r=some (.ins a.CR dx (rf ta (p:Int)))):Rdr K a H' r ta bs p :=
 ⟨dx,e,k.seq (by simpa using ne) hS,ne⟩
def sp_Reader_init (K:PySem.W.Frag) (a:Ad):Sp:=fun vs H Q _=>∃ (x dx ta:Addr) (bs:List UInt8),vs=[.ref x,.ref ta]∧H x=some (.ins a.CR dx [])∧SqL K H ta (bsV bs)∧ta≠x∧∀ H',Kp [x] H H'→Rdr K a H' x ta bs 0→Q .non H'
theorem rf_new (ta:Addr):putF "at" (.int 0) (putF "t" (.ref ta) [])=rf ta 0:=by
 show (if ("t":Str)="at" then _ else _)=_
 rw [if_neg (by decide)]
 rfl
abbrev s_Reader_init:Stmt:=inClass (top 15) 0
theorem sc_Reader_init:FnScope ["self","t"] ["self","t"] (defScope s_Reader_init):=⟨rfl,rfl,rfl,by decide +kernel,rfl,by decide +kernel,by decide +kernel⟩
theorem ok_Reader_init {f:Addr}{fd:FuncData} (F:Fun K "__init__" "Reader.__init__" s_Reader_init f fd) (T:Txt K mg a):FnOk P w K mg base CX0 1 f fd ["self","t"] (sp_Reader_init K a):=by
 refine F.ok sc_Reader_init (fun vs H Q E h=>?_) (fun cdv A outer s H vs Q E hr h=>?_)
 ·obtain ⟨x,dx,ta,bs,rfl,hR,hS,hne,q⟩:=h
  rfl
 ·obtain ⟨x,dx,ta,bs,rfl,hR,hS,hne,q⟩:=h
  have nd:=sc_Reader_init.nd
  refine ⟨_,(pss_cons (ps_fld (pv 0) (pv 1) rfl) (pss_one (ps_fld (pv 0) pe_int rfl))),?_⟩
  have hR2:=hR
  walk_at "rdr"
  have k:Kp [x] H (upd (upd H x (HO.ins a.CR dx (putF "t" (V.ref ta) []))) x (HO.ins a.CR dx (putF "at" (V.int 0) (putF "t" (V.ref ta) [])))):=(Kp.put (by simp)).trans (Kp.put (by simp))
  exact ⟨by decide,(by show 1<1000;decide),q _ k (Rdr.move (dx:=dx) hS hne k (by rw [upd_same,rf_new];rfl))⟩
def sp_Reader_peek (K:PySem.W.Frag) (a:Ad):Sp:=fun vs H Q _=>∃ (r ta:Addr) (bs:List UInt8) (p:Nat),vs=[.ref r]∧Rdr K a H r ta bs p∧Q (.int (pk bs p)) H
abbrev s_Reader_peek:Stmt:=inClass (top 15) 1
theorem sc_Reader_peek:FnScope ["self"] ["self"] (defScope s_Reader_peek):=⟨rfl,rfl,rfl,by decide +kernel,rfl,by decide +kernel,by decide +kernel⟩
theorem ok_Reader_peek {f:Addr}{fd:FuncData} (F:Fun K "peek" "Reader.peek" s_Reader_peek f fd) (T:Txt K mg a):FnOk P w K mg base CX0 1 f fd ["self"] (sp_Reader_peek K a):=by
 refine F.ok sc_Reader_peek (fun vs H Q E h=>?_) (fun cdv A outer s H vs Q E hr h=>?_)
 ·obtain ⟨r,ta,bs,p,rfl,⟨dx,hR,hS,hne⟩,q⟩:=h
  rfl
 ·obtain ⟨r,ta,bs,p,rfl,⟨dx,hR,hS,hne⟩,q⟩:=h
  have nd:=sc_Reader_peek.nd
  refine ⟨_,(pss_cons (ps_if (pt_cmpR op_lt (pe_fld (pv 0) rfl) (pe_callB call_len_seq rfl T.len PySem.boot_len (pa_cons (pe_fld (pv 0) rfl) pa_nil)) (nomark _)) (pss_one (ps_ret (pe_ix ix_list (pe_fld (pv 0) rfl) (pe_fld (pv 0) rfl) (fun _ _=>rfl)))) pss_nil) (pss_one (ps_ret (pe_gint T.cNO_BYTE)))),?_⟩
  have hR2:=hR
  walk_at "rdr"
  refine ⟨_,.inl hS,?_⟩
  rw [bsV_len]
  split
  ·rename_i h
   have hp:p<bs.length:=by lia
   have e:=List.getElem?_eq_getElem hp
   rw [pk_some e] at q
   exact ⟨_,hS,_,bsV_at e,q⟩
  ·rename_i h
   rw [pk_none.mpr (List.getElem?_eq_none (by lia))] at q
   exact q
def sp_Reader_sees (K:PySem.W.Frag) (a:Ad):Sp:=fun vs H Q _=>∃ (r ta:Addr) (bs:List UInt8) (p:Nat) (sg:Str) (n:Nat),vs=[.ref r,.str sg]∧Rdr K a H r ta bs p∧sg.length=1∧sg.cps.getD 0 0=n∧Q (.bl (decide (pk bs p=(n:Int)))) H
abbrev s_Reader_sees:Stmt:=inClass (top 15) 2
theorem sc_Reader_sees:FnScope ["self","sign"] ["self","sign"] (defScope s_Reader_sees):=⟨rfl,rfl,rfl,by decide +kernel,rfl,by decide +kernel,by decide +kernel⟩
theorem ok_Reader_sees {f:Addr}{fd:FuncData} (F:Fun K "sees" "Reader.sees" s_Reader_sees f fd) (T:Txt K mg a) (c_Reader_peek:MethC P w K mg base CX0 1 a.CR "peek" ["self"] (sp_Reader_peek K a)):FnOk P w K mg base CX0 2 f fd ["self","sign"] (sp_Reader_sees K a):=by
 refine F.ok sc_Reader_sees (fun vs H Q E h=>?_) (fun cdv A outer s H vs Q E hr h=>?_)
 ·obtain ⟨r,ta,bs,p,sg,n,rfl,⟨dx,hR,hS,hne⟩,h1,h2,q⟩:=h
  rfl
 ·obtain ⟨r,ta,bs,p,sg,n,rfl,⟨dx,hR,hS,hne⟩,h1,h2,q⟩:=h
  have nd:=sc_Reader_sees.nd
  refine ⟨_,(pss_one (ps_ret (pe_cmpR op_eq (pe_methC0 (pv 0) T.clReader c_Reader_peek hr pass0) (pe_callB call_ord rfl T.ord boot_ord (pa_cons (pv 1) pa_nil)) (nomark _)))),?_⟩
  have hR2:=hR
  walk_at "rdr"
  refine ⟨rf_peek _ _,r,ta,bs,p,rfl,⟨dx,hR,hS,hne⟩,?_⟩
  walk_at "rdr"
  refine ⟨h1,?_⟩
  rw [h2]
  exact q
def Out (K:PySem.W.Frag) (a:Ad) (H:Hp) (r ta:Addr) (bs:List UInt8) (p:Nat) {α:Type} (rd:Vh.Rd α) (Q:α→Hp→Prop) (E:XK):Prop :=
 (∀ x p' H',rd p (bs.drop p)=.ok (x,p',bs.drop p')→Kp [r] H H'→Rdr K a H' r ta bs p'→Q x H')∧∀ p' H',rd p (bs.drop p)=.error p'→Rdr K a H' r ta bs p'→E (.ref a.CE) none H'
def sp_Reader_take (K:PySem.W.Frag) (a:Ad):Sp:=fun vs H Q E=>∃ (r ta:Addr) (bs:List UInt8) (p:Nat) (sg:Str) (c:UInt8),vs=[.ref r,.str sg]∧Rdr K a H r ta bs p∧sg.length=1∧sg.cps.getD 0 0=c.toNat∧Out K a H r ta bs p (Vh.byte_ c) (fun _ H'=>Q .non H') E
abbrev s_Reader_take:Stmt:=inClass (top 15) 3
theorem sc_Reader_take:FnScope ["self","sign"] ["self","sign"] (defScope s_Reader_take):=⟨rfl,rfl,rfl,by decide +kernel,rfl,by decide +kernel,by decide +kernel⟩
theorem ok_Reader_take {f:Addr}{fd:FuncData} (F:Fun K "take" "Reader.take" s_Reader_take f fd) (T:Txt K mg a) (c_Reader_sees:MethC P w K mg base CX0 2 a.CR "sees" ["self","sign"] (sp_Reader_sees K a)):FnOk P w K mg base (CX1 P w a.CE) 3 f fd ["self","sign"] (sp_Reader_take K a):=by
 refine F.okE sc_Reader_take (fun vs H Q E h=>?_) (fun cdv A outer s H vs Q E hr h=>?_)
 ·obtain ⟨r,ta,bs,p,sg,c,rfl,⟨dx,hR,hS,hne⟩,h1,h2,q1,q2⟩:=h
  rfl
 ·obtain ⟨r,ta,bs,p,sg,c,rfl,⟨dx,hR,hS,hne⟩,h1,h2,q1,q2⟩:=h
  have nd:=sc_Reader_take.nd
  refine ⟨_,(pss_cons (ps_if (pt_not (pt_val (pe_methC (pv 0) T.clReader c_Reader_sees hr pass0 (pa_cons (pv 1) pa_nil)))) (pss_one (ps_raise T.exc rfl (pa_cons pe_str pa_nil))) pss_nil) (pss_one (ps_fldaug (pv 0) pe_int in_add))),?_⟩
  have hR2:=hR
  walk_at "rdr"
  refine ⟨rf_sees _ _,r,ta,bs,p,sg,_,rfl,⟨dx,hR,hS,hne⟩,h1,h2,?_⟩
  walk_at "rdr"
  split
  ·rename_i h
   exact ⟨by decide,q2 p H (byte_no h) ⟨dx,hR,hS,hne⟩⟩
  ·rename_i h
   have h:=Decidable.not_not.mp h
   refine ⟨by decide,q1 () (p+1) _ (byte_ok h) (Kp.put (by simp)) (Rdr.move (dx:=dx) hS hne (Kp.put (by simp)) ?_)⟩
   rw [upd_same];rfl
def sp_Reader_take_end (K:PySem.W.Frag) (a:Ad):Sp:=fun vs H Q E=>∃ (r ta:Addr) (bs:List UInt8) (p:Nat),vs=[.ref r]∧Rdr K a H r ta bs p∧(bs[p]?=none→Q .non H)∧(bs[p]?≠none→E (.ref a.CE) none H)
abbrev s_Reader_take_end:Stmt:=inClass (top 15) 4
theorem sc_Reader_take_end:FnScope ["self"] ["self"] (defScope s_Reader_take_end):=⟨rfl,rfl,rfl,by decide +kernel,rfl,by decide +kernel,by decide +kernel⟩
theorem ok_Reader_take_end {f:Addr}{fd:FuncData} (F:Fun K "take_end" "Reader.take_end" s_Reader_take_end f fd) (T:Txt K mg a) (c_Reader_peek:MethC P w K mg base CX0 1 a.CR "peek" ["self"] (sp_Reader_peek K a)):FnOk P w K mg base (CX1 P w a.CE) 2 f fd ["self"] (sp_Reader_take_end K a):=by
 refine F.okE sc_Reader_take_end (fun vs H Q E h=>?_) (fun cdv A outer s H vs Q E hr h=>?_)
 ·obtain ⟨r,ta,bs,p,rfl,⟨dx,hR,hS,hne⟩,q1,q2⟩:=h
  rfl
 ·obtain ⟨r,ta,bs,p,rfl,⟨dx,hR,hS,hne⟩,q1,q2⟩:=h
  have nd:=sc_Reader_take_end.nd
  refine ⟨_,(pss_one (ps_if (pt_cmpR op_ne (pe_methC0 (pv 0) T.clReader c_Reader_peek hr pass0) (pe_gint T.cNO_BYTE) (nomark _)) (pss_one (ps_raise T.exc rfl (pa_cons pe_str pa_nil))) pss_nil)),?_⟩
  have hR2:=hR
  walk_at "rdr"
  refine ⟨rf_peek _ _,r,ta,bs,p,rfl,⟨dx,hR,hS,hne⟩,?_⟩
  walk_at "rdr"
  split
  ·rename_i h
   exact ⟨by decide,q2 fun z=>h (pk_none.mpr z)⟩
  ·rename_i h
   exact q1 (pk_none.mp (Decidable.not_not.mp h))
def sp_Reader_take_digit (K:PySem.W.Frag) (a:Ad):Sp:=fun vs H Q E=>∃ (r ta:Addr) (bs:List UInt8) (p v lo hi:Nat),vs=[.ref r,.int v,.int lo,.int hi]∧Rdr K a H r ta bs p∧hi<10 ^ 11 ∧
 (∀ n H',dig bs lo hi v p=some n→Kp [r] H H'→Rdr K a H' r ta bs (p+1)→Q (.int n) H')∧(dig bs lo hi v p=none→E (.ref a.CE) none H)
abbrev s_Reader_take_digit:Stmt:=inClass (top 15) 5
theorem sc_Reader_take_digit:FnScope ["self","value","low","high","digit"] ["self","value","low","high"] (defScope s_Reader_take_digit):=⟨rfl,rfl,rfl,by decide +kernel,rfl,by decide +kernel,by decide +kernel⟩
theorem ok_Reader_take_digit {f:Addr}{fd:FuncData} (F:Fun K "take_digit" "Reader.take_digit" s_Reader_take_digit f fd) (T:Txt K mg a) (c_Reader_peek:MethC P w K mg base CX0 1 a.CR "peek" ["self"] (sp_Reader_peek K a)) (c_begins_some:FnC P w K mg base CX0 1 "begins_some" ["value","low","high"] (sp_begins_some K a)):FnOk P w K mg base (CX1 P w a.CE) 2 f fd ["self","value","low","high"] (sp_Reader_take_digit K a):=by
 refine F.okE sc_Reader_take_digit (fun vs H Q E h=>?_) (fun cdv A outer s H vs Q E hr h=>?_)
 ·obtain ⟨r,ta,bs,p,v,lo,hi,rfl,⟨dx,hR,hS,hne⟩,hhi,q1,q2⟩:=h
  rfl
 ·obtain ⟨r,ta,bs,p,v,lo,hi,rfl,⟨dx,hR,hS,hne⟩,hhi,q1,q2⟩:=h
  have nd:=sc_Reader_take_digit.nd
  refine ⟨_,(pss_cons (ps_set (i:=4) nd rfl (Or.inl rfl) (pe_op op_sub (pe_methC0 (pv 0) T.clReader c_Reader_peek hr pass0) pe_int)) (pss_cons (ps_if (PW.pt (pw_or (pt_not (pt_chain op_le op_le pe_int (pv 4) pe_int)) (pw_or1 (pt_not (pt_val (pe_callC c_begins_some hr pass0 (pa_cons (pe_op op_add (pe_op op_mul (pv 1) pe_int) (pv 4)) (pa_cons (pv 2) (pa_cons (pv 3) pa_nil))))))))) (pss_one (ps_raise T.exc rfl (pa_cons pe_str pa_nil))) pss_nil) (pss_cons (ps_fldaug (pv 0) pe_int in_add) (pss_one (ps_ret (pe_op op_add (pe_op op_mul (pv 1) pe_int) (pv 4))))))),?_⟩
  have hR2:=hR
  walk_at "rdr"
  refine ⟨rf_peek _ _,r,ta,bs,p,rfl,⟨dx,hR,hS,hne⟩,?_⟩
  walk_at "rdr"
  by_cases h1:48≤pk bs p∧pk bs p≤57
  ·rw [if_pos (by lia),if_neg (by lia)]
   have e:((v:Int) * 10+(pk bs p-48))=((v * 10+(pk bs p-48).toNat:Nat):Int):=by lia
   refine ⟨.inr (by lia),v * 10+(pk bs p-48).toNat,lo,hi,by rw [e],hhi,?_⟩
   walk_at "rdr"
   split
   ·rename_i h2
    refine ⟨by decide,q2 ?_⟩
    unfold dig
    rw [if_neg (fun z=>by rw [h2] at z;exact Bool.false_ne_true z.2.2)]
   ·rename_i h2
    rw [e]
    refine ⟨by decide,.inr (by lia),q1 _ _ ?_ (Kp.put (by simp)) (Rdr.move (dx:=dx) hS hne (Kp.put (by simp)) (by rw [upd_same];rfl))⟩
    unfold dig
    rw [if_pos ⟨h1.1,h1.2,by simpa using h2⟩]
  ·have no:dig bs lo hi v p=none:=by
    unfold dig
    rw [if_neg (fun z=>h1 ⟨z.1,z.2.1⟩)]
   split
   ·rw [if_pos (by lia)]
    exact ⟨by decide,q2 no⟩
   ·exact ⟨by decide,q2 no⟩
def sp_Reader_take_number (K:PySem.W.Frag) (a:Ad):Sp:=fun vs H Q E=>∃ (r ta:Addr) (bs:List UInt8) (p lo hi:Nat),vs=[.ref r,.int lo,.int hi]∧Rdr K a H r ta bs p∧hi<10 ^ 11 ∧
 (∀ x p' H',Vh.num lo hi p (bs.drop p)=.ok (x,p',bs.drop p')→lo≤x→x≤hi→Kp [r] H H'→Rdr K a H' r ta bs p'→Q (.int (x:Nat)) H') ∧
 (∀ p' H',(Vh.num lo hi p (bs.drop p)=.error p'∨∃ x,Vh.num lo hi p (bs.drop p)=.ok (x,p',bs.drop p')∧48≤pk bs p'∧pk bs p'≤57)→Rdr K a H' r ta bs p'→E (.ref a.CE) none H')
abbrev s_Reader_take_number:Stmt:=inClass (top 15) 6
theorem sc_Reader_take_number:FnScope ["self","low","high","value"] ["self","low","high"] (defScope s_Reader_take_number):=⟨rfl,rfl,rfl,by decide +kernel,rfl,by decide +kernel,by decide +kernel⟩
theorem ok_Reader_take_number {f:Addr}{fd:FuncData} (F:Fun K "take_number" "Reader.take_number" s_Reader_take_number f fd) (T:Txt K mg a) (c_Reader_take_digit:MethC P w K mg base (CX1 P w a.CE) 2 a.CR "take_digit" ["self","value","low","high"] (sp_Reader_take_digit K a)) (c_Reader_peek:MethC P w K mg base CX0 1 a.CR "peek" ["self"] (sp_Reader_peek K a)):FnOk P w K mg base (CX1 P w a.CE) 3 f fd ["self","low","high"] (sp_Reader_take_number K a):=by
 refine F.okE sc_Reader_take_number (fun vs H Q E h=>?_) (fun cdv A outer s H vs Q E hr h=>?_)
 ·obtain ⟨r,ta,bs,p,lo,hi,rfl,⟨dx,hR,hS,hne⟩,hhi,q1,q2⟩:=h
  rfl
 ·obtain ⟨r,ta,bs,p,lo,hi,rfl,⟨dx,hR,hS,hne⟩,hhi,q1,q2⟩:=h
  have nd:=sc_Reader_take_number.nd
  refine ⟨_,(pss_cons (ps_set (i:=3) nd rfl (Or.inl rfl) (pe_methC (pv 0) T.clReader c_Reader_take_digit hr passX (pa_cons pe_int (pa_cons (pv 1) (pa_cons (pv 2) pa_nil))))) (pss_cons (ps_while PassesOwn.leaving (PW.pt (pw_and (pt_cmpR op_gt (pv 3) pe_int (nomark _)) (pw_and1 (pt_chain op_le op_le pe_int (pe_methC0 (pv 0) T.clReader c_Reader_peek hr pass0) pe_int)))) (pss_one (ps_set (i:=3) nd rfl (Or.inl rfl) (pe_methC (pv 0) T.clReader c_Reader_take_digit hr passX (pa_cons (pv 3) (pa_cons (pv 1) (pa_cons (pv 2) pa_nil))))))) (pss_cons (ps_if (pt_cmpR op_lt (pv 3) (pv 1) (nomark _)) (pss_one (ps_raise T.exc rfl (pa_cons pe_str pa_nil))) pss_nil) (pss_one (ps_ret (pv 3)))))),?_⟩
  have hR2:=hR
  walk_at "rdr"
  refine ⟨rf_take_digit _ _,r,ta,bs,p,0,lo,hi,rfl,⟨dx,hR,hS,hne⟩,hhi,fun n H1 hn k1 R1=>?_,fun hn=>q2 p H (.inl (num_none hn)) ⟨dx,hR,hS,hne⟩⟩
  obtain ⟨W,hW⟩:∃ W:WT,W=fun m σ H'=>∃ v p',σ=[some (.ref r),some (.int lo),some (.int hi),some (.int (v:Nat))]∧Rdr K a H' r ta bs p'∧Kp [r] H H'∧v≤hi∧m=hi+1-v ∧
   (v=0→Vh.num lo hi p (bs.drop p)=if lo=0 then .ok (0,p',bs.drop p') else .error p')∧(v≠0→∃ f,NumAt bs lo hi p v p' f):=⟨_,rfl⟩
  walk_at "rd"
  refine ⟨W,⟨_,by
   rw [hW]
   refine ⟨n,p+1,rfl,R1,k1,(dig_le hn).1,rfl,fun z=>?_,fun z=>⟨19,num_first hn,(dig_le hn).1,by lia⟩⟩
   rw [num_first hn,z,digits_zero]⟩,fun m σ H2 hw=>?_⟩
  rw [hW] at hw
  obtain ⟨v,p2,rfl,⟨dx2,hR,hS,hne⟩,k2,hv,rfl,hz,hnz⟩:=hw
  have hR2:=hR
  walk_at "rdr"
  split
  ·rename_i h0
   have hv0:v≠0:=by lia
   obtain ⟨f,N⟩:=hnz hv0
   have hf:1≤f:=by
    cases f with
    | zero=>have:=N.big;lia
    | succ f=>lia
   obtain ⟨f,rfl⟩:∃ g,f=g+1:=⟨f-1,by lia⟩
   have eq:=N.eq
   rw [digits_succ lo hi f (some v) bs p2 (by simp [hv0])] at eq
   have eq:Vh.num lo hi p (bs.drop p)=match dig bs lo hi v p2 with | some n=>Vh.digits lo hi f (some n) (p2+1) (bs.drop (p2+1)) | none=>if lo≤v∧v≤hi then .ok (v,p2,bs.drop p2) else .error p2:=eq
   refine ⟨rf_peek _ _,r,ta,bs,p2,rfl,⟨dx2,hR,hS,hne⟩,?_⟩
   walk_at "rdr"
   have stop:dig bs lo hi v p2=none→Rdr K a H2 r ta bs p2→if (v:Int)<lo then 1≤sizeLine∧E (.ref a.CE) none H2 else Q (.int v) H2:=fun hd R=>by
    rw [hd] at eq
    dsimp only at eq
    split
    ·rename_i h1
     rw [if_neg (by lia)] at eq
     exact ⟨by decide,q2 p2 H2 (.inl eq) R⟩
    ·rename_i h1
     rw [if_pos ⟨by lia,hv⟩] at eq
     exact q1 v p2 H2 eq (by lia) hv k2 R
   by_cases hd:48≤pk bs p2∧pk bs p2≤57
   ·rw [if_pos hd.1,if_pos hd.2]
    refine ⟨fun σ' H'=>∃ m',m' < hi+1-v∧W m' σ' H',fun _ _ z=>z,rf_take_digit _ _,r,ta,bs,p2,v,lo,hi,rfl,⟨dx2,hR,hS,hne⟩,hhi,fun n H3 hn k3 R3=>?_,fun hn=>?_⟩
    ·walk_at "rd"
     rw [hn] at eq
     have b:=dig_le hn
     refine ⟨hi+1-n,by lia,?_⟩
     rw [hW]
     refine ⟨n,p2+1,rfl,R3,k2.trans k3,b.1,rfl,fun z=>by lia,fun _=>⟨f,eq,b.1,?_⟩⟩
     have h1:=N.big
     have h2:=Nat.mul_le_mul_right (10 ^ f * 10) b.2.1
     have e1:v * 10 ^ (f+1) * 10=v * 10 * (10 ^ f * 10):=by rw [Nat.pow_succ];simp only [Nat.mul_assoc,Nat.mul_comm,Nat.mul_left_comm]
     have e2:n * 10 ^ f * 10=n * (10 ^ f * 10):=by rw [Nat.mul_assoc]
     lia
    ·rw [hn] at eq
     dsimp only at eq
     by_cases h1:lo≤v∧v≤hi
     ·rw [if_pos h1] at eq
      exact q2 p2 H2 (.inr ⟨v,eq,hd⟩) ⟨dx2,hR,hS,hne⟩
     ·rw [if_neg h1] at eq
      exact q2 p2 H2 (.inl eq) ⟨dx2,hR,hS,hne⟩
   ·have no:dig bs lo hi v p2=none:=by
     unfold dig
     rw [if_neg (fun z=>hd ⟨z.1,z.2.1⟩)]
    have st:=stop no ⟨dx2,hR,hS,hne⟩
    split
    ·rw [if_neg (by lia)]
     exact st
    ·exact st
  ·rename_i h0
   have hv0:v=0:=by lia
   have eq:=hz hv0
   subst hv0
   split
   ·rename_i h1
    rw [if_neg (by lia)] at eq
    exact ⟨by decide,q2 p2 H2 (.inl eq) ⟨dx2,hR,hS,hne⟩⟩
   ·rename_i h1
    rw [if_pos (by lia)] at eq
    exact q1 0 p2 H2 eq (by lia) (by lia) k2 ⟨dx2,hR,hS,hne⟩
end
section
variable {P:Program}{w:World}{K:PySem.W.Frag}{mg:Str→Option Value}{base:Heap}{a:Ad}
theorem atBase {n:Nat}:atI [V.int 192,V.int 224,V.int 240] ((moreL n:Int)+1-2)=some (.int (baseL n:Int)):=by
 unfold moreL baseL
 split
 ·rfl
 ·split <;> rfl
def sp_Reader_take_long_letter (K:PySem.W.Frag) (a:Ad):Sp:=fun vs H Q E=>∃ (r ta:Addr) (bs:List UInt8) (p:Nat) (c:UInt8),vs=[.ref r,.int (c.toNat:Int),.int ((moreL c.toNat:Int)+1)]∧Rdr K a H r ta bs p∧bs[p]?=some c∧194≤c.toNat∧c.toNat≤244 ∧
 Out K a H r ta bs p Vh.letter_ (fun x H'=>Q (.int (x:Nat)) H') E
abbrev s_Reader_take_long_letter:Stmt:=inClass (top 15) 9
theorem sc_Reader_take_long_letter:FnScope ["self","lead","size","value","bounds","left","byte"] ["self","lead","size"] (defScope s_Reader_take_long_letter):=⟨rfl,rfl,rfl,by decide +kernel,rfl,by decide +kernel,by decide +kernel⟩
theorem ok_Reader_take_long_letter {f:Addr}{fd:FuncData} (F:Fun K "take_long_letter" "Reader.take_long_letter" s_Reader_take_long_letter f fd) (T:Txt K mg a) (c_bounds_behind:FnC P w K mg base CX0 1 "bounds_behind" ["lead"] (sp_bounds_behind K a)) (c_Reader_peek:MethC P w K mg base CX0 1 a.CR "peek" ["self"] (sp_Reader_peek K a)) (c_is_letter:FnC P w K mg base CX0 1 "is_letter" ["character"] (sp_is_letter K a)):FnOk P w K mg base (CX1 P w a.CE) 2 f fd ["self","lead","size"] (sp_Reader_take_long_letter K a):=by
 refine F.okE sc_Reader_take_long_letter (fun vs H Q E h=>?_) (fun cdv A outer s H vs Q E hr h=>?_)
 ·obtain ⟨r,ta,bs,p,c,rfl,⟨dx,hR,hS,hne⟩,hc,h1,h2,q1,q2⟩:=h
  rfl
 ·obtain ⟨r,ta,bs,p,c,rfl,⟨dx,hR,hS,hne⟩,hc,h1,h2,q1,q2⟩:=h
  have nd:=sc_Reader_take_long_letter.nd
  refine ⟨_,(pss_cons (ps_fldaug (pv 0) pe_int in_add) (pss_cons (ps_set (i:=3) nd rfl (Or.inl rfl) (pe_op op_sub (pv 1) (pe_ix ix_tup (pe_tup (pa_cons pe_int (pa_cons pe_int (pa_cons pe_int pa_nil)))) (pe_op op_sub (pv 2) pe_int) (fun _ _=>rfl)))) (pss_cons (ps_set (i:=4) nd rfl (Or.inl rfl) (pe_callC c_bounds_behind hr pass0 (pa_cons (pv 1) pa_nil))) (pss_cons (ps_for PassesOwn.leaving rfl (pi_range3 rfl T.range (pa_cons (pe_op op_sub (pv 2) pe_int) (pa_cons (pe_un un_neg pe_int) (pa_cons (pe_un un_neg pe_int) pa_nil)))) (pg_name (i:=5) nd rfl (Or.inl rfl)) (pss_cons (ps_set (i:=6) nd rfl (Or.inl rfl) (pe_methC0 (pv 0) T.clReader c_Reader_peek hr pass0)) (pss_cons (ps_if (pt_not (pt_chain op_le op_le (pe_ix ix_tup (pv 4) pe_int (fun _ _=>rfl)) (pv 6) (pe_ix ix_tup (pv 4) pe_int (fun _ _=>rfl)))) (pss_one (ps_raise T.exc rfl (pa_cons pe_str pa_nil))) pss_nil) (pss_cons (ps_set (i:=3) nd rfl (Or.inl rfl) (pe_op op_sub (pe_op op_add (pe_op op_mul (pv 3) pe_int) (pv 6)) pe_int)) (pss_cons (ps_if (PW.pt (pw_and (pt_cmpR op_eq (pv 5) pe_int (nomark _)) (pw_and1 (pt_not (pt_val (pe_callC c_is_letter hr pass0 (pa_cons (pv 3) pa_nil))))))) (pss_one (ps_raise T.exc rfl (pa_cons pe_str pa_nil))) pss_nil) (pss_cons (ps_fldaug (pv 0) pe_int in_add) (pss_one (ps_set (i:=4) nd rfl (Or.inl rfl) (pe_tup (pa_cons pe_int (pa_cons pe_int pa_nil))))))))))) (pss_one (ps_ret (pv 3))))))),?_⟩
  have hR2:=hR
  have hlong:=long_letter hc h1 h2
  have z3:3≤sizeLine:=by decide
  have z2:2≤sizeLine:=by decide
  walk_at "rdr"
  refine ⟨by decide,z3,fun t1 ht1=>⟨_,.inl (.inl upd_same),_,atBase,_,rfl,_,rfl,fun t2 ht2=>?_⟩⟩
  have m3:moreL c.toNat≤3∧1≤moreL c.toNat:=by unfold moreL;split <;> (try split) <;> lia
  have ne1:t1≠r:=fun z=>by rw [z,upd_same] at ht1;cases ht1
  have ne2:t2≠r:=fun z=>by rw [z,upd_ne (Ne.symm ne1),upd_same] at ht2;cases ht2
  obtain ⟨Pv,hP⟩:∃ Pv:WT,Pv=fun i σ H'=>∃ (v:Nat) (lo hi:Int) (b:Addr) (p':Nat) (o1 o2:Option V),
   σ=[some (.ref r),some (.int (c.toNat:Int)),some (.int ((moreL c.toNat:Int)+1)),some (.int (v:Int)),some (.ref b),o1,o2]∧Rdr K a H' r ta bs p'∧Kp [r] H H'∧H' b=some (.tup [.int lo,.int hi])∧128≤lo∧hi≤191 ∧
   longR bs (moreL c.toNat) (c.toNat-baseL c.toNat) (blo c.toNat) (bhi c.toNat) (p+1)=longR bs (moreL c.toNat-i) v lo hi p':=⟨_,rfl⟩
  refine ⟨_,rfl,_,_,rfl,rfl,_,rfl,_,rfl,_,_,_,_,rfl,RgC.neg (by lia) (by lia) (by lia) (by lia),for_rangeC Pv ?_ ?_ ?_⟩
  ·have e:((c.toNat:Int)-(baseL c.toNat:Int))=((c.toNat-baseL c.toNat:Nat):Int):=by unfold baseL;split <;> (try split) <;> lia
   have k1:Kp [r] H (upd (upd (upd H r (HO.ins a.CR dx (rf ta ((p:Int)+1)))) t1 (HO.tup [V.int 192,V.int 224,V.int 240])) t2 (HO.tup [V.int (blo c.toNat),V.int (bhi c.toNat)])) :=
    ((Kp.put (by simp)).trans (Kp.new ht1)).trans (Kp.new ht2)
   rw [hP]
   refine ⟨_,_,_,t2,p+1,none,none,by rw [e],Rdr.move (dx:=dx) hS hne k1 (by rw [upd_ne (Ne.symm ne2),upd_ne (Ne.symm ne1),upd_same];rfl),k1,upd_same,?_,?_,rfl⟩
   ·unfold blo;split <;> (try split) <;> lia
   ·unfold bhi;split <;> (try split) <;> lia
  ·intro i σ H2 hi hw
   rw [hP] at hw
   obtain ⟨v,lo,hi',b,p2,o1,o2,rfl,⟨dx2,hR,hS,hne⟩,k2,hb,l1,l2,eq⟩:=hw
   have hi:i<moreL c.toNat:=by lia
   obtain ⟨m,hm⟩:∃ m,moreL c.toNat-i=m+1:=⟨moreL c.toNat-i-1,by lia⟩
   rw [hm] at eq
   rw [eq] at hlong
   have hR2:=hR
   have R:Rdr K a H2 r ta bs p2:=⟨dx2,hR,hS,hne⟩
   walk_at "rdr"
   refine ⟨rf_peek _ _,r,ta,bs,p2,rfl,R,?_⟩
   walk_at "rdr"
   refine ⟨_,.inl (.inl hb),_,rfl,_,rfl,?_⟩
   by_cases hin:lo≤pk bs p2∧pk bs p2≤hi'
   ·rw [if_pos hin.1]
    refine ⟨_,.inl (.inl hb),_,rfl,_,rfl,?_⟩
    rw [if_neg (by lia)]
    refine ⟨.inr (by lia),?_⟩
    have ev:((v:Int) * 64+pk bs p2-128)=((v * 64+((pk bs p2).toNat-128):Nat):Int):=by lia
    simp only [ev]
    rw [longR,if_pos hin] at eq hlong
    have nxt:¬ (m=0∧isL ((v * 64+((pk bs p2).toNat-128):Nat):Int)=false)→2<1000∧2≤sizeLine∧∀ t,upd H2 r (HO.ins a.CR dx2 (rf ta ((p2:Int)+1))) t=none →
      Pv (i+1) [some (V.ref r),some (V.int (c.toNat:Int)),some (V.int ((moreL c.toNat:Int)+1)),some (V.int ((v * 64+((pk bs p2).toNat-128):Nat):Int)),some (V.ref t),some (V.int ((moreL c.toNat:Int)+1-2+(i:Int) * -1)),some (V.int (pk bs p2))]
       (upd (upd H2 r (HO.ins a.CR dx2 (rf ta ((p2:Int)+1)))) t (HO.tup [V.int 128,V.int 191])):=fun hno=>by
     refine ⟨by decide,z2,fun t ht=>?_⟩
     rw [if_neg hno] at eq
     have net:t≠r:=fun z=>by rw [z,upd_same] at ht;cases ht
     have k3:Kp [r] H2 (upd (upd H2 r (HO.ins a.CR dx2 (rf ta ((p2:Int)+1)))) t (HO.tup [V.int 128,V.int 191])):=(Kp.put (by simp)).trans (Kp.new ht)
     rw [hP]
     exact ⟨_,128,191,t,p2+1,_,_,rfl,Rdr.move (dx:=dx2) hS hne k3 (by rw [upd_ne (Ne.symm net),upd_same];rfl),k2.trans k3,upd_same,by lia,by lia,by rw [eq,show moreL c.toNat-(i+1)=m by lia]⟩
    split
    ·rename_i h0
     refine ⟨_,rfl,?_⟩
     walk_at "rdr"
     split
     ·rename_i h5
      rw [if_pos ⟨by lia,h5⟩] at hlong
      exact ⟨by decide,q2 p2 H2 hlong R⟩
     ·rename_i h5
      exact nxt (fun z=>h5 z.2)
    ·rename_i h0
     exact nxt (fun z=>h0 (by lia))
   ·have er:Vh.letter_ p (bs.drop p)=.error p2:=by rw [hlong,longR,if_neg hin];rfl
    split
    ·refine ⟨_,.inl (.inl hb),_,rfl,_,rfl,?_⟩
     rw [if_pos (by lia)]
     exact ⟨by decide,q2 p2 H2 er R⟩
    ·exact ⟨by decide,q2 p2 H2 er R⟩
  ·intro σ H2 hw
   rw [hP] at hw
   obtain ⟨v,lo,hi',b,p2,o1,o2,rfl,R,k2,hb,l1,l2,eq⟩:=hw
   walk_at "rd"
   rw [show moreL c.toNat-((moreL c.toNat:Int)+1-2 - -1).toNat=0 by lia,longR] at eq
   rw [eq] at hlong
   exact q1 v p2 H2 hlong k2 R
theorem inV_bs (n:Nat) (mk:List UInt8) (c:UInt8) (h:c.toNat=n):inV (.int (n:Int)) (bsV mk)=mk.contains c:=by
 subst h
 unfold inV bsV
 rw [List.any_map,List.contains_eq_any_beq]
 congr 1
 funext y
 show ((y.toNat:Int)==(c.toNat:Int))=(c==y)
 by_cases e:c=y
 ·subst e;simp
 ·rw [beq_eq_false_iff_ne.mpr e,beq_eq_false_iff_ne]
  intro z
  exact e (UInt8.toNat_inj.mp (by lia))
theorem flat_bs (mk:List UInt8):(bsV mk).all flatV=true:=by
 unfold bsV
 rw [List.all_map,List.all_eq_true];intro _ _;rfl
def sp_Reader_take_character (K:PySem.W.Frag) (a:Ad):Sp:=fun vs H Q E=>∃ (r ma ta:Addr) (bs mk:List UInt8) (p:Nat),vs=[.ref r,.ref ma]∧Rdr K a H r ta bs p∧(∀ H',Kp [r] H H'→SqT K H' ma (bsV mk))∧(∀ c∈mk,c.toNat<128) ∧
 Out K a H r ta bs p (char1 mk) (fun x H'=>Q (.int (x:Nat)) H') E
abbrev s_Reader_take_character:Stmt:=inClass (top 15) 8
theorem sc_Reader_take_character:FnScope ["self","marks","lead","size"] ["self","marks"] (defScope s_Reader_take_character):=⟨rfl,rfl,rfl,by decide +kernel,rfl,by decide +kernel,by decide +kernel⟩
theorem ok_Reader_take_character {f:Addr}{fd:FuncData} (F:Fun K "take_character" "Reader.take_character" s_Reader_take_character f fd) (T:Txt K mg a) (c_Reader_peek:MethC P w K mg base CX0 1 a.CR "peek" ["self"] (sp_Reader_peek K a)) (c_size_by_lead:FnC P w K mg base CX0 1 "size_by_lead" ["lead"] (sp_size_by_lead K a)) (c_Reader_take_long_letter:MethC P w K mg base (CX1 P w a.CE) 2 a.CR "take_long_letter" ["self","lead","size"] (sp_Reader_take_long_letter K a)) (c_is_letter:FnC P w K mg base CX0 1 "is_letter" ["character"] (sp_is_letter K a)):FnOk P w K mg base (CX1 P w a.CE) 3 f fd ["self","marks"] (sp_Reader_take_character K a):=by
 refine F.okE sc_Reader_take_character (fun vs H Q E h=>?_) (fun cdv A outer s H vs Q E hr h=>?_)
 ·obtain ⟨r,ma,ta,bs,mk,p,rfl,⟨dx,hR,hS,hne⟩,hma,hmk,q1,q2⟩:=h
  rfl
 ·obtain ⟨r,ma,ta,bs,mk,p,rfl,⟨dx,hR,hS,hne⟩,hma,hmk,q1,q2⟩:=h
  have nd:=sc_Reader_take_character.nd
  refine ⟨_,(pss_cons (ps_set (i:=2) nd rfl (Or.inl rfl) (pe_methC0 (pv 0) T.clReader c_Reader_peek hr pass0)) (pss_cons (ps_set (i:=3) nd rfl (Or.inl rfl) (pe_callC c_size_by_lead hr pass0 (pa_cons (pv 2) pa_nil))) (pss_cons (ps_if (pt_cmpR op_gt (pv 3) pe_int (nomark _)) (pss_one (ps_ret (pe_methC (pv 0) T.clReader c_Reader_take_long_letter hr passX (pa_cons (pv 2) (pa_cons (pv 3) pa_nil))))) pss_nil) (pss_cons (ps_if (PW.pt (pw_or (pt_cmpR op_eq (pv 3) pe_int (nomark _)) (pw_or1 (pt_not (PW.pt (pw_or (pt_val (pe_callC c_is_letter hr pass0 (pa_cons (pv 2) pa_nil))) (pw_or1 (pt_cmpR op_in_seq (pv 2) (pv 1) (by with_unfolding_all rfl))))))))) (pss_one (ps_raise T.exc rfl (pa_cons pe_str pa_nil))) pss_nil) (pss_cons (ps_fldaug (pv 0) pe_int in_add) (pss_one (ps_ret (pv 2)))))))),?_⟩
  have hR2:=hR
  have R:Rdr K a H r ta bs p:=⟨dx,hR,hS,hne⟩
  walk_at "rdr"
  refine ⟨rf_peek _ _,r,ta,bs,p,rfl,R,?_⟩
  walk_at "rdr"
  refine ⟨_,rfl,?_⟩
  walk_at "rdr"
  cases e:bs[p]? with
  | none =>
   rw [pk_none.mpr e]
   rw [if_neg (by decide),if_pos (by decide)]
   exact ⟨by decide,q2 p H (char1_no (by unfold cS;rw [e])) R⟩
  | some c =>
   rw [pk_some e]
   have hlt:=c.toNat_lt
   have er:128≤c.toNat→¬ (194≤c.toNat∧c.toNat≤244)→char1 mk p (bs.drop p)=.error p:=fun h1 h2=>char1_no (by
    unfold cS
    rw [e]
    dsimp only
    rw [Bool.or_eq_false_iff]
    constructor
    ·rw [List.contains_eq_any_beq,List.any_eq_false]
     intro y hy z
     have:=hmk y hy
     rw [← eq_of_beq z] at this
     lia
    ·unfold Vh.startsLetter
     rw [if_neg (by lia)]
     simp;lia)
   by_cases h1:c.toNat<128
   ·have es:sizeL (c.toNat:Int)=1:=by unfold sizeL;rw [if_pos (by lia)]
    rw [es,if_neg (by decide),if_neg (by decide)]
    refine ⟨_,rfl,?_⟩
    walk_at "rdr"
    have k1:Kp [r] H (upd H r (HO.ins a.CR dx (rf ta ((p:Int)+1)))):=Kp.put (by simp)
    have R1:Rdr K a (upd H r (HO.ins a.CR dx (rf ta ((p:Int)+1)))) r ta bs (p+1):=Rdr.move (dx:=dx) hS hne k1 (by rw [upd_same];rfl)
    have okc:(mk.contains c=true∨isL (c.toNat:Int)=true)→char1 mk p (bs.drop p)=.ok (c.toNat,p+1,bs.drop (p+1)):=fun h=>by
     unfold char1 Vh.byNext
     rw [head_drop,e]
     dsimp only
     by_cases hm:mk.contains c=true
     ·rw [if_pos hm];unfold Vh.behind Vh.gives;rw [drop_drop1]
     ·rw [if_neg hm]
      have hl:=h.resolve_left hm
      rw [isL_low h1] at hl
      unfold Vh.letter_ Vh.byNext
      rw [head_drop,e]
      dsimp only
      rw [if_neg (by unfold Vh.startsLetter;rw [if_pos h1,hl];decide),if_pos h1]
      unfold Vh.behind Vh.gives;rw [drop_drop1]
    split
    ·rename_i hl
     exact ⟨by decide,q1 _ _ _ (okc (.inr hl)) k1 R1⟩
    ·rename_i hl
     refine ⟨_,.inr (hma H Kp.refl),rfl,flat_bs mk,?_⟩
     rw [inV_bs _ mk c rfl]
     split
     ·rename_i hm
      refine ⟨by decide,q2 p H (char1_no ?_) R⟩
      unfold cS
      rw [e]
      dsimp only
      rw [hm]
      unfold Vh.startsLetter
      rw [if_pos h1,← isL_low h1]
      simpa using hl
     ·rename_i hm
      exact ⟨by decide,q1 _ _ _ (okc (.inl (by simpa using hm))) k1 R1⟩
   ·by_cases h2:194≤c.toNat∧c.toNat≤244
    ·have es:sizeL (c.toNat:Int)=(moreL c.toNat:Int)+1:=by
      unfold sizeL moreL
      rw [if_neg (by lia)]
      by_cases z1:c.toNat<224
      ·rw [if_pos (by lia),if_pos z1];rfl
      ·rw [if_neg (by lia),if_neg z1]
       by_cases z2:c.toNat<240
       ·rw [if_pos (by lia),if_pos z2];rfl
       ·rw [if_neg (by lia),if_pos (by lia),if_neg z2];rfl
     have m3:1≤moreL c.toNat:=by unfold moreL;split <;> (try split) <;> lia
     rw [es,if_pos (by lia)]
     have ec:char1 mk p (bs.drop p)=Vh.letter_ p (bs.drop p):=by
      unfold char1 Vh.byNext
      rw [head_drop,e]
      dsimp only
      rw [if_neg]
      intro z
      rw [List.contains_eq_any_beq,List.any_eq_true] at z
      obtain ⟨y,hy,z⟩:=z
      have:=hmk y hy
      rw [← eq_of_beq z] at this
      lia
     rw [ec] at q1 q2
     exact ⟨rf_take_long_letter _ _,r,ta,bs,p,c,rfl,R,e,h2.1,h2.2,q1,q2⟩
    ·have es:sizeL (c.toNat:Int)=0:=by
      unfold sizeL
      rw [if_neg (by lia),if_neg (by lia),if_neg (by lia),if_neg (by lia)]
     rw [es,if_neg (by decide),if_pos rfl]
     exact ⟨by decide,q2 p H (er (by lia) h2) R⟩
end
section
variable {P:Program}{w:World}{K:PySem.W.Frag}{mg:Str→Option Value}{base:Heap}{a:Ad}
def lV (x:List Nat):List V:=x.map fun (n:Nat)=>V.int (n:Int)
theorem lV_len (x:List Nat):(lV x).length=x.length:=by unfold lV;rw [List.length_map]
theorem lV_snoc (x:List Nat) (n:Nat):lV x++[V.int (n:Int)]=lV (x++[n]):=by unfold lV;rw [List.map_append];rfl
def OutT (K:PySem.W.Frag) (a:Ad) (H:Hp) (r ta:Addr) (bs mk:List UInt8) (p k:Nat) (Q:VK) (E:XK):Prop :=
 (∀ x p' H' l,VhPage.someChars_ mk k p (bs.drop p)=.ok (x,p',bs.drop p')→x.length≤k→1≤x.length→H l=none→l≠r→Kp [r] H H'→H' l=some (.lst (lV x))→Rdr K a H' r ta bs p'→Q (.ref l) H') ∧
 ∀ p' H',(VhPage.someChars_ mk k p (bs.drop p)=.error p'∨∃ x,VhPage.someChars_ mk k p (bs.drop p)=.ok (x,p',bs.drop p')∧pk bs p'≠32∧pk bs p'≠10)→Rdr K a H' r ta bs p'→E (.ref a.CE) none H'
def MkOk (K:PySem.W.Frag) (H:Hp) (r ma:Addr) (mk:List UInt8):Prop:=(∀ H',Kp [r] H H'→SqT K H' ma (bsV mk))∧∀ c∈mk,33≤c.toNat∧c.toNat<128
theorem MkOk.kp {H H':Hp}{r ma:Addr}{mk:List UInt8} (h:MkOk K H r ma mk) (k:Kp [r] H H'):MkOk K H' r ma mk:=⟨fun H2 k2=>h.1 H2 (k.trans k2),h.2⟩
def endsT (bs mk:List UInt8) (p:Nat):Bool:=decide (pk bs p=32) || decide (pk bs p=10) || (marksI.contains (pk bs p) && !(mk.map fun c=>(c.toNat:Int)).contains (pk bs p))
theorem bsV_ints (mk:List UInt8):bsV mk=(mk.map fun c=>(c.toNat:Int)).map V.int:=by unfold bsV;rw [List.map_map];rfl
theorem cS_mark {bs mk:List UInt8}{p:Nat} (h:marksI.contains (pk bs p)=true) (h2:(mk.map fun c=>(c.toNat:Int)).contains (pk bs p)=false):cS bs mk p=false:=by
 unfold cS
 cases e:bs[p]? with
 | none=>rfl
 | some x =>
  rw [pk_some e] at h h2
  dsimp only
  rw [Bool.or_eq_false_iff]
  constructor
  ·cases z:mk.contains x with
   | false=>rfl
   | true =>
    have:(mk.map fun c=>(c.toNat:Int)).contains (x.toNat:Int)=true:=List.contains_iff_mem.mpr (List.mem_map.mpr ⟨x,List.contains_iff_mem.mp z,rfl⟩)
    rw [this] at h2;cases h2
  ·have hm:Vh.MARKS.contains x.toNat=true:=by
    have:=List.contains_iff_mem.mp h
    refine List.contains_iff_mem.mpr ?_
    have e2:marksI=Vh.MARKS.map fun (n:Nat)=>(n:Int):=by decide
    rw [e2] at this
    obtain ⟨y,hy,hy2⟩:=List.mem_map.mp this
    have hy3:y=x.toNat:=by lia
    rw [← hy3];exact hy
   have hlt:x.toNat<128:=by
    have h':=List.contains_iff_mem.mp hm
    have:∀ y∈Vh.MARKS,y<128:=by decide
    exact this _ h'
   unfold Vh.startsLetter
   rw [if_pos hlt]
   unfold Vh.isLetter
   rw [hm]
   simp
def sp_Reader_ends_thing (K:PySem.W.Frag) (a:Ad):Sp:=fun vs H Q _=>∃ (r ma ta:Addr) (bs mk:List UInt8) (p:Nat),vs=[.ref r,.ref ma]∧Rdr K a H r ta bs p∧SqT K H ma (bsV mk)∧Q (.bl (endsT bs mk p)) H
abbrev s_Reader_ends_thing:Stmt:=inClass (top 15) 10
theorem sc_Reader_ends_thing:FnScope ["self","marks","byte"] ["self","marks"] (defScope s_Reader_ends_thing):=⟨rfl,rfl,rfl,by decide +kernel,rfl,by decide +kernel,by decide +kernel⟩
theorem ok_Reader_ends_thing {f:Addr}{fd:FuncData} (F:Fun K "ends_thing" "Reader.ends_thing" s_Reader_ends_thing f fd) (T:Txt K mg a) (c_Reader_peek:MethC P w K mg base CX0 1 a.CR "peek" ["self"] (sp_Reader_peek K a)):FnOk P w K mg base CX0 2 f fd ["self","marks"] (sp_Reader_ends_thing K a):=by
 refine F.ok sc_Reader_ends_thing (fun vs H Q E h=>?_) (fun cdv A outer s H vs Q E hr h=>?_)
 ·obtain ⟨r,ma,ta,bs,mk,p,rfl,⟨dx,hR,hS,hne⟩,hma,q⟩:=h
  rfl
 ·obtain ⟨r,ma,ta,bs,mk,p,rfl,⟨dx,hR,hS,hne⟩,hma,q⟩:=h
  have nd:=sc_Reader_ends_thing.nd
  refine ⟨_,(pss_cons (ps_set (i:=2) nd rfl (Or.inl rfl) (pe_methC0 (pv 0) T.clReader c_Reader_peek hr pass0)) (pss_one (ps_ret (pe_or (pe_cmpR op_in_seq (pv 2) (pe_gref T.cENDS) (by with_unfolding_all rfl)) (pe_one (pe_and (pe_cmpR op_in_seq (pv 2) (pe_gref T.cMARKS) (by with_unfolding_all rfl)) (pe_one (pe_cmpR op_notIn_seq (pv 2) (pv 1) (by with_unfolding_all rfl))))))))),?_⟩
  have hR2:=hR
  rw [bsV_ints] at hma
  unfold endsT at q
  walk_at "rdr"
  refine ⟨rf_peek _ _,r,ta,bs,p,rfl,⟨dx,hR,hS,hne⟩,?_⟩
  generalize pk bs p=n at q ⊢
  walk_at "rdr"
  refine ⟨_,.inr (T.tENDS H),rfl,rfl,?_⟩
  have e1:inV (V.int n) [V.int 32,V.int 10]=(decide (n=32) || decide (n=10)):=by
   rw [show [V.int 32,V.int 10]=([32,10]:List Int).map V.int from rfl,inV_ints]
   show (n==32 || (n==10 || false))=_
   rw [Bool.or_false];rfl
  rw [e1]
  by_cases h1:(decide (n=32) || decide (n=10))=true
  ·rw [if_pos h1];rw [h1,Bool.true_or] at q;exact q
  ·rw [if_neg h1]
   have h1:(decide (n=32) || decide (n=10))=false:=by simpa using h1
   rw [h1,Bool.false_or] at q
   refine ⟨_,.inr (T.tMARKS H),rfl,flat_ints marksI,?_⟩
   rw [inV_ints]
   by_cases h2:marksI.contains n=true
   ·rw [if_pos h2]
    rw [h2,Bool.true_and] at q
    refine ⟨_,.inr hma,rfl,flat_ints _,?_⟩
    rw [inV_ints]
    exact q
   ·rw [if_neg h2]
    have h2:marksI.contains n=false:=by simpa using h2
    rw [h2,Bool.false_and] at q
    exact q
def sp_Reader_take_thing (K:PySem.W.Frag) (a:Ad):Sp:=fun vs H Q E=>∃ (r ma ta:Addr) (bs mk:List UInt8) (p k:Nat),vs=[.ref r,.int (k:Int),.ref ma]∧Rdr K a H r ta bs p∧MkOk K H r ma mk∧1≤k∧k≤1000∧OutT K a H r ta bs mk p k Q E
abbrev s_Reader_take_thing:Stmt:=inClass (top 15) 11
theorem sc_Reader_take_thing:FnScope ["self","most","marks","thing"] ["self","most","marks"] (defScope s_Reader_take_thing):=⟨rfl,rfl,rfl,by decide +kernel,rfl,by decide +kernel,by decide +kernel⟩
theorem ok_Reader_take_thing {f:Addr}{fd:FuncData} (F:Fun K "take_thing" "Reader.take_thing" s_Reader_take_thing f fd) (T:Txt K mg a) (c_Reader_take_character:MethC P w K mg base (CX1 P w a.CE) 3 a.CR "take_character" ["self","marks"] (sp_Reader_take_character K a)) (c_Reader_ends_thing:MethC P w K mg base CX0 2 a.CR "ends_thing" ["self","marks"] (sp_Reader_ends_thing K a)):FnOk P w K mg base (CX1 P w a.CE) 4 f fd ["self","most","marks"] (sp_Reader_take_thing K a):=by
 refine F.okE sc_Reader_take_thing (fun vs H Q E h=>?_) (fun cdv A outer s H vs Q E hr h=>?_)
 ·obtain ⟨r,ma,ta,bs,mk,p,k,rfl,⟨dx,hR,hS,hne⟩,hma,hk1,hk2,q1,q2⟩:=h
  rfl
 ·obtain ⟨r,ma,ta,bs,mk,p,k,rfl,⟨dx,hR,hS,hne⟩,hma,hk1,hk2,q1,q2⟩:=h
  have nd:=sc_Reader_take_thing.nd
  refine ⟨_,(pss_cons (ps_set (i:=3) nd rfl (Or.inl rfl) (pe_lst (pa_cons (pe_methC (pv 0) T.clReader c_Reader_take_character hr passX (pa_cons (pv 2) pa_nil)) pa_nil))) (pss_cons (ps_while PassesOwn.leaving (PW.pt (pw_and (pt_cmpR op_lt (pe_callB call_len_seq rfl T.len PySem.boot_len (pa_cons (pv 3) pa_nil)) (pv 1) (nomark _)) (pw_and1 (pt_not (pt_val (pe_methC (pv 0) T.clReader c_Reader_ends_thing hr pass0 (pa_cons (pv 2) pa_nil))))))) (pss_one (ps_expr (pe_bm PySem.F.plainAttrs_list PySem.F.slot_list_append PySem.F.type_list_append mt_append (pv 3) (pa_cons (pe_methC (pv 0) T.clReader c_Reader_take_character hr passX (pa_cons (pv 2) pa_nil)) pa_nil))))) (pss_one (ps_ret (pv 3))))),?_⟩
  have hR2:=hR
  have R:Rdr K a H r ta bs p:=⟨dx,hR,hS,hne⟩
  obtain ⟨k',rfl⟩:∃ k',k=k'+1:=⟨k-1,by lia⟩
  have hS0:=hS
  have hm33:∀ c∈mk,33≤c.toNat:=fun c hc=>(hma.2 c hc).1
  walk_at "rdr"
  refine ⟨rf_take_character _ _,r,ma,ta,bs,mk,p,rfl,R,hma.1,fun c hc=>(hma.2 c hc).2,fun n p1 H1 e1 k1 R1=>?_,fun p1 H1 e1 R1=>?_⟩
  ·refine ⟨by decide,fun l hl=>?_⟩
   have hs:cS bs mk p=true:=by
    cases z:cS bs mk p with
    | true=>rfl
    | false=>rw [char1_no z] at e1;cases e1
   have lr:l≠r:=fun z=>by
    obtain ⟨_,h,_⟩:=R1
    rw [z,h] at hl;cases hl
   have hl0:H l=none:=k1.free (by simpa using lr) hl
   obtain ⟨W,hW⟩:∃ W:WT,W=fun m σ H'=>∃ (xs:List Nat) (p':Nat),σ=[some (.ref r),some (.int ((k'+1:Nat):Int)),some (.ref ma),some (.ref l)]∧H' l=some (.lst (lV xs))∧Rdr K a H' r ta bs p'∧Kp [r] H H'∧1≤xs.length∧xs.length≤k'+1 ∧
    VhPage.chars_ mk (k'+1) p (bs.drop p)=preO xs (VhPage.chars_ mk (k'+1-xs.length) p' (bs.drop p'))∧m=k'+1-xs.length:=⟨_,rfl⟩
   walk_at "rdr"
   refine ⟨W,⟨_,by
    rw [hW]
    have k2:Kp [r] H1 (upd H1 l (HO.lst [V.int (n:Int)])):=Kp.new hl
    have R2:Rdr K a (upd H1 l (HO.lst [V.int (n:Int)])) r ta bs p1:=by
     obtain ⟨dx1,a1,a2,a3⟩:=R1
     exact Rdr.move (dx:=dx1) a2 a3 k2 (by rw [upd_ne (Ne.symm lr)];exact a1)
    exact ⟨[n],p1,rfl,upd_same,R2,k1.trans k2,by simp,by simp,chars_ok hs e1,rfl⟩⟩,fun m σ H2 hw=>?_⟩
   rw [hW] at hw
   obtain ⟨xs,p2,rfl,hl2,⟨dx2,hR,hS,hne⟩,k2,x1,x2,eq,rfl⟩:=hw
   have hR2:=hR
   have R2:Rdr K a H2 r ta bs p2:=⟨dx2,hR,hS,hne⟩
   have fin:(xs.length=k'+1∨cS bs mk p2=false)→Q (.ref l) H2:=fun h=>by
    have e:VhPage.chars_ mk (k'+1) p (bs.drop p)=.ok (xs,p2,bs.drop p2):=by
     rw [eq]
     rcases h with h | h
     ·rw [h,Nat.sub_self,VhPage.chars_]
      unfold Vh.gives
      show Except.ok (xs++[],_,_)=_
      rw [List.append_nil]
     ·rw [chars_no h]
      show Except.ok (xs++[],_,_)=_
      rw [List.append_nil]
    exact q1 xs p2 H2 l (some_of_chars e (by cases xs <;> simp at x1 ⊢)) x2 x1 hl0 lr k2 hl2 R2
   walk_at "rdr"
   refine ⟨_,.inl (.inl (.inl hl2)),?_⟩
   rw [lV_len]
   by_cases hlen:xs.length=k'+1
   ·rw [if_neg (by lia)]
    exact fin (.inl hlen)
   ·rw [if_pos (by lia)]
    refine ⟨rf_ends_thing _ _,r,ma,ta,bs,mk,p2,rfl,R2,(hma.kp k2).1 _ Kp.refl,?_⟩
    walk_at "rdr"
    cases hend:endsT bs mk p2 with
    | true =>
     refine fin (.inr ?_)
     unfold endsT at hend
     rw [Bool.or_eq_true,Bool.or_eq_true,decide_eq_true_eq,decide_eq_true_eq,Bool.and_eq_true] at hend
     rcases hend with hend | hend
     ·exact cS_not hm33 hend
     ·exact cS_mark hend.1 (by simpa using hend.2)
    | false =>
      have h32:pk bs p2≠32:=fun z=>by unfold endsT at hend;rw [z] at hend;simp at hend
      have h10:pk bs p2≠10:=fun z=>by unfold endsT at hend;rw [z] at hend;simp at hend
      refine ⟨fun σ' H'=>∃ m',m' < k'+1-xs.length∧W m' σ' H',fun _ _ z=>z,?_⟩
      have ex:k'+1-xs.length=(k'+1-(xs.length+1))+1:=by lia
      simp only [tBM,rAppend]
      walk_at "rdr"
      refine ⟨.inl ⟨rfl,_,.inl (.inl hl2)⟩,rf_take_character _ _,r,ma,ta,bs,mk,p2,rfl,R2,(hma.kp k2).1,fun c hc=>(hma.2 c hc).2,fun n3 p3 H3 e3 k3 R3=>?_,fun p3 H3 e3 R3=>?_⟩
      ·have hs2:cS bs mk p2=true:=by
        cases z:cS bs mk p2 with
        | true=>rfl
        | false=>rw [char1_no z] at e3;cases e3
       have hl3:H3 l=some (.lst (lV xs)):=k3 _ _ hl2 (by simpa using lr)
       refine ⟨_,hl3,?_,k'+1-(xs.length+1),by lia,?_⟩
       ·rw [lV_len];exact Nat.lt_of_le_of_lt (show xs.length≤1000 by lia) (by decide)
       ·rw [hW,lV_snoc]
        have k4:Kp [r] H (upd H3 l (HO.lst (lV (xs++[n3])))):=(k2.trans k3).put2 (.inr hl0)
        have R4:Rdr K a (upd H3 l (HO.lst (lV (xs++[n3])))) r ta bs p3:=by
         obtain ⟨dx1,a1,a2,a3⟩:=R3
         exact ⟨dx1,by rw [upd_ne (Ne.symm lr)];exact a1,k4.seq (by simpa using hne) hS0,hne⟩
        refine ⟨xs++[n3],p3,rfl,upd_same,R4,k4,by simp,by simp;lia,?_,by simp⟩
        rw [eq,ex,chars_ok hs2 e3,preO_pre]
        simp
      ·refine q2 p3 H3 ?_ R3
       by_cases hs2:cS bs mk p2=true
       ·exact .inl (some_err (by rw [eq,ex,chars_err hs2 e3];rfl))
       ·have hs2:cS bs mk p2=false:=by simpa using hs2
        rw [char1_no hs2] at e3
        injection e3 with e3
        subst e3
        refine .inr ⟨xs,some_of_chars ?_ (by cases xs <;> simp at x1 ⊢),h32,h10⟩
        rw [eq,chars_no hs2]
        show Except.ok (xs++[],_,_)=_
        rw [List.append_nil]
  ·refine q2 p1 H1 (.inl ?_) R1
   by_cases hs:cS bs mk p=true
   ·exact some_err (chars_err hs e1)
   ·have hs:cS bs mk p=false:=by simpa using hs
    rw [char1_no hs] at e1
    injection e1 with e1
    subst e1
    exact some_nil (chars_no hs)
end
section
variable {P:Program}{w:World}{K:PySem.W.Frag}{mg:Str→Option Value}{base:Heap}{a:Ad}
def LN (H H':Hp) (x:List Nat) (v:V):Prop:=∃ l,v=.ref l∧H' l=some (.lst (lV x))∧H l=none
theorem Paired.snoc {α β:Type}{R:α→β→Prop}:∀ {xs:List α}{ys:List β}{x:α}{y:β},Paired R xs ys→R x y→Paired R (xs++[x]) (ys++[y])
 | _,_,_,_,.nil,h=>.cons h .nil
 | _,_,_,_,.cons r t,h=>.cons r (Paired.snoc t h)
theorem Paired.app {α β:Type}{R:α→β→Prop}:∀ {xs xs':List α}{ys ys':List β},Paired R xs ys→Paired R xs' ys'→Paired R (xs++xs') (ys++ys')
 | _,_,_,_,.nil,h=>h
 | _,_,_,_,.cons r t,h=>.cons r (Paired.app t h)
def OutR (K:PySem.W.Frag) (a:Ad) (H:Hp) (r ta:Addr) (bs mk:List UInt8) (p n k:Nat) (Q:VK) (E:XK):Prop :=
 (∀ xs vs p' H' l,VhPage.row_ (VhPage.someChars_ mk k) n p (bs.drop p)=(if pk bs p'=10 then .ok (xs,p'+1,bs.drop (p'+1)) else .error p')→1≤xs.length→xs.length≤n→(∀ x∈xs,x.length≤k)→H l=none→Kp [r] H H'→H' l=some (.lst vs)→Paired (LN H H') xs vs →
  Rdr K a H' r ta bs p'→Q (.ref l) H') ∧
 ∀ p' H',VhPage.row_ (VhPage.someChars_ mk k) n p (bs.drop p)=.error p'→Rdr K a H' r ta bs p'→E (.ref a.CE) none H'
def sp_Reader_take_things (K:PySem.W.Frag) (a:Ad):Sp:=fun vs H Q E=>∃ (r ma ta:Addr) (bs mk:List UInt8) (p n k:Nat),vs=[.ref r,.int (n:Int),.int (k:Int),.ref ma]∧Rdr K a H r ta bs p∧MkOk K H r ma mk∧1≤n∧n≤8192∧1≤k∧k≤1000 ∧
 OutR K a H r ta bs mk p n k Q E
abbrev s_Reader_take_things:Stmt:=inClass (top 15) 12
theorem sc_Reader_take_things:FnScope ["self","most_things","most","marks","things"] ["self","most_things","most","marks"] (defScope s_Reader_take_things):=⟨rfl,rfl,rfl,by decide +kernel,rfl,by decide +kernel,by decide +kernel⟩
theorem ok_Reader_take_things {f:Addr}{fd:FuncData} (F:Fun K "take_things" "Reader.take_things" s_Reader_take_things f fd) (T:Txt K mg a) (c_Reader_take_thing:MethC P w K mg base (CX1 P w a.CE) 4 a.CR "take_thing" ["self","most","marks"] (sp_Reader_take_thing K a)) (c_Reader_sees:MethC P w K mg base CX0 2 a.CR "sees" ["self","sign"] (sp_Reader_sees K a)) (c_Reader_take:MethC P w K mg base (CX1 P w a.CE) 3 a.CR "take" ["self","sign"] (sp_Reader_take K a)):FnOk P w K mg base (CX1 P w a.CE) 5 f fd ["self","most_things","most","marks"] (sp_Reader_take_things K a):=by
 refine F.okE sc_Reader_take_things (fun vs H Q E h=>?_) (fun cdv A outer s H vs Q E hr h=>?_)
 ·obtain ⟨r,ma,ta,bs,mk,p,n,k,rfl,⟨dx,hR,hS,hne⟩,hma,hn1,hn2,hk1,hk2,q1,q2⟩:=h
  rfl
 ·obtain ⟨r,ma,ta,bs,mk,p,n,k,rfl,⟨dx,hR,hS,hne⟩,hma,hn1,hn2,hk1,hk2,q1,q2⟩:=h
  have nd:=sc_Reader_take_things.nd
  refine ⟨_,(pss_cons (ps_set (i:=4) nd rfl (Or.inl rfl) (pe_lst (pa_cons (pe_methC (pv 0) T.clReader c_Reader_take_thing hr passX (pa_cons (pv 2) (pa_cons (pv 3) pa_nil))) pa_nil))) (pss_cons (ps_while PassesOwn.leaving (PW.pt (pw_and (pt_val (pe_methC (pv 0) T.clReader c_Reader_sees hr pass0 (pa_cons pe_str pa_nil))) (pw_and1 (pt_cmpR op_lt (pe_callB call_len_seq rfl T.len PySem.boot_len (pa_cons (pv 4) pa_nil)) (pv 1) (nomark _))))) (pss_cons (ps_expr (pe_methC (pv 0) T.clReader c_Reader_take hr passX (pa_cons pe_str pa_nil))) (pss_one (ps_expr (pe_bm PySem.F.plainAttrs_list PySem.F.slot_list_append PySem.F.type_list_append mt_append (pv 4) (pa_cons (pe_methC (pv 0) T.clReader c_Reader_take_thing hr passX (pa_cons (pv 2) (pa_cons (pv 3) pa_nil))) pa_nil)))))) (pss_one (ps_ret (pv 4))))),?_⟩
  have hR2:=hR
  have R:Rdr K a H r ta bs p:=⟨dx,hR,hS,hne⟩
  have hS0:=hS
  obtain ⟨n',rfl⟩:∃ n',n=n'+1:=⟨n-1,by lia⟩
  walk_at "rdr"
  have bad:∀ {m p1:Nat},(pk bs p1≠32∧pk bs p1≠10)→rowTail (VhPage.someChars_ mk k) m p1 (bs.drop p1)=.error p1:=fun h=>tail_no h.2 (.inr h.1)
  refine ⟨rf_take_thing _ _,r,ma,ta,bs,mk,p,k,rfl,R,hma,hk1,hk2,fun x p1 H1 l1 e1 x2 x1 hl1 l1r k1 hx R1=>?_,fun p1 H1 e1 R1=>?_⟩
  ·refine ⟨by decide,fun l hl=>?_⟩
   have lr:l≠r:=fun z=>by
    obtain ⟨_,h,_⟩:=R1
    rw [z,h] at hl;cases hl
   have hl0:H l=none:=k1.free (by simpa using lr) hl
   have ll1:l1≠l:=fun z=>by rw [z,hl] at hx;cases hx
   obtain ⟨W,hW⟩:∃ W:WT,W=fun m σ H'=>∃ (xs:List (List Nat)) (vs:List V) (p':Nat),σ=[some (.ref r),some (.int ((n'+1:Nat):Int)),some (.int (k:Int)),some (.ref ma),some (.ref l)]∧H' l=some (.lst vs)∧Paired (fun x v=>LN H H' x v∧v≠.ref l) xs vs∧Rdr K a H' r ta bs p'∧Kp [r] H H'∧1≤xs.length∧xs.length≤n'+1∧(∀ x∈xs,x.length≤k) ∧
    VhPage.row_ (VhPage.someChars_ mk k) (n'+1) p (bs.drop p)=preO xs (rowTail (VhPage.someChars_ mk k) (n'+1-xs.length) p' (bs.drop p'))∧m=n'+1-xs.length:=⟨_,rfl⟩
   walk_at "rdr"
   refine ⟨W,⟨_,by
    rw [hW]
    have k2:Kp [r] H1 (upd H1 l (HO.lst [V.ref l1])):=Kp.new hl
    have R2:Rdr K a (upd H1 l (HO.lst [V.ref l1])) r ta bs p1:=by
     obtain ⟨dx1,a1,a2,a3⟩:=R1
     exact Rdr.move (dx:=dx1) a2 a3 k2 (by rw [upd_ne (Ne.symm lr)];exact a1)
    exact ⟨[x],[.ref l1],p1,rfl,upd_same,.cons ⟨⟨l1,rfl,by rw [upd_ne ll1];exact hx,hl1⟩,fun z=>ll1 (V.ref.inj z)⟩ .nil,R2,k1.trans k2,by simp,by simp,by simpa using x2,row_ok e1,rfl⟩⟩,fun m σ H2 hw=>?_⟩
   rw [hW] at hw
   obtain ⟨xs,vs,p2,rfl,hl2,hP,⟨dx2,hR,hS,hne⟩,k2,x1,x2,x3,eq,rfl⟩:=hw
   have hR2:=hR
   have R2:Rdr K a H2 r ta bs p2:=⟨dx2,hR,hS,hne⟩
   have hlen:=Paired.length hP
   have fin:(xs.length=n'+1∨pk bs p2≠32)→Q (.ref l) H2:=fun h=>by
    refine q1 xs vs p2 H2 l ?_ x1 x2 x3 hl0 k2 hl2 (Paired.mapP hP fun _ _ z=>z.1) R2
    rw [eq]
    by_cases h10:pk bs p2=10
    ·rw [tail10 h10,if_pos h10]
     show Except.ok (xs++[],_,_)=_
     rw [List.append_nil]
    ·rw [tail_no h10 (h.imp (fun z=>by lia) id),if_neg h10]
     rfl
   walk_at "rdr"
   refine ⟨rf_sees _ _,r,ta,bs,p2,_,32,rfl,R2,by decide,by decide,?_⟩
   walk_at "rdr"
   by_cases h32:pk bs p2=32
   ·rw [if_pos (by simpa using h32)]
    refine ⟨_,.inl (.inl (.inl hl2)),?_⟩
    rw [← hlen]
    by_cases hfull:xs.length=n'+1
    ·rw [if_neg (by lia)]
     exact fin (.inl hfull)
    ·rw [if_pos (by lia)]
     refine ⟨fun σ' H'=>∃ m',m' < n'+1-xs.length∧W m' σ' H',fun _ _ z=>z,?_⟩
     have ex:n'+1-xs.length=(n'+1-(xs.length+1))+1:=by lia
     have eqt:VhPage.row_ (VhPage.someChars_ mk k) (n'+1) p (bs.drop p)=preO xs (VhPage.row_ (VhPage.someChars_ mk k) (n'+1-xs.length) (p2+1) (bs.drop (p2+1))):=by rw [eq,tail32 h32 (by lia)]
     refine ⟨rf_take _ _,r,ta,bs,p2,_,32,rfl,R2,by decide,by decide,fun _ p3 H3 e3 k3 R3=>?_,fun p3 H3 e3 R3=>?_⟩
     ·have ep:p3=p2+1:=by
       rw [byte_ok (c:=32) h32] at e3
       injection e3 with e3;injection e3 with _ e3;injection e3 with e3 _
       exact e3.symm
      subst ep
      obtain ⟨dx3,hR,hS,hne⟩:=R3
      have hR2:=hR
      have R3:Rdr K a H3 r ta bs (p2+1):=⟨dx3,hR,hS,hne⟩
      have hl3:H3 l=some (.lst vs):=k3 _ _ hl2 (by simpa using lr)
      simp only [tBM,rAppend]
      walk_at "rdr"
      refine ⟨.inl ⟨rfl,_,.inl (.inl hl3)⟩,rf_take_thing _ _,r,ma,ta,bs,mk,p2+1,k,rfl,R3,hma.kp (k2.trans k3),hk1,hk2,fun x p4 H4 l4 e4 y2 y1 hl4 l4r k4 hx4 R4=>?_,fun p4 H4 e4 R4=>?_⟩
      ·have hl4':H4 l=some (.lst vs):=k4 _ _ hl3 (by simpa using lr)
       have ne4:l4≠l:=fun z=>by rw [z,hl3] at hl4;cases hl4
       refine ⟨_,hl4',?_,n'+1-(xs.length+1),by lia,?_⟩
       ·rw [← hlen];exact Nat.lt_of_le_of_lt (show xs.length≤8192 by lia) (by decide)
       ·rw [hW]
        have k5:Kp [r] H (upd H4 l (HO.lst (vs++[V.ref l4]))):=((k2.trans k3).trans k4).put2 (.inr hl0)
        have R5:Rdr K a (upd H4 l (HO.lst (vs++[V.ref l4]))) r ta bs p4:=by
         obtain ⟨dx1,a1,a2,a3⟩:=R4
         exact ⟨dx1,by rw [upd_ne (Ne.symm lr)];exact a1,k5.seq (by simpa using hne) hS0,hne⟩
        refine ⟨xs++[x],vs++[.ref l4],p4,rfl,upd_same,Paired.snoc (Paired.mapP hP ?_) ⟨⟨l4,rfl,by rw [upd_ne ne4];exact hx4,(k2.trans k3).free (by simpa using l4r) hl4⟩,fun z=>ne4 (V.ref.inj z)⟩,R5,k5,by simp,by simp;lia,fun z hz=>(List.mem_append.mp hz).elim (x3 z) (fun h=>by rw [List.mem_singleton.mp h];exact y2),?_,by simp⟩
        ·rintro y v ⟨⟨b,rfl,hb,hb0⟩,nb⟩
         have br:b≠r:=fun z=>by
          obtain ⟨_,h,_⟩:=R
          rw [z,h] at hb0;cases hb0
         have nb:b≠l:=fun z=>nb (by rw [z])
         exact ⟨⟨b,rfl,by rw [upd_ne nb];exact k4 _ _ (k3 _ _ hb (by simpa using br)) (by simpa using br),hb0⟩,fun z=>nb (V.ref.inj z)⟩
        ·rw [eqt,ex,row_ok e4,preO_pre]
         simp
      ·refine q2 p4 H4 ?_ R4
       rw [eqt,ex]
       rcases e4 with e4 | ⟨x,e4,hb⟩
       ·rw [row_err e4];rfl
       ·rw [row_ok e4,bad hb];rfl
     ·rw [byte_ok (c:=32) h32] at e3
      cases e3
   ·rw [if_neg (by simpa using h32)]
    exact fin (.inr h32)
  ·refine q2 p1 H1 ?_ R1
   rcases e1 with e1 | ⟨x,e1,hb⟩
   ·exact row_err e1
   ·rw [row_ok e1,bad hb];rfl
end
section
variable {P:Program}{w:World}{K:PySem.W.Frag}{mg:Str→Option Value}{base:Heap}{a:Ad}
theorem Paired.get {α β:Type}{R:α→β→Prop}:∀ {xs:List α}{ys:List β}{i:Nat}{y:β},Paired R xs ys→ys[i]?=some y→∃ x,xs[i]?=some x∧R x y
 | _,_,_,_,.nil,e=>by simp at e
 | _,_,0,_,.cons r _,e=>by simp at e;subst e;exact ⟨_,rfl,r⟩
 | _,_,i+1,y,.cons _ t,e=>by
  obtain ⟨u,h1,h2⟩:=Paired.get (i:=i) (y:=y) t (by simpa using e)
  exact ⟨u,by simpa using h1,h2⟩
theorem Paired.getL {α β:Type}{R:α→β→Prop}:∀ {xs:List α}{ys:List β},Paired R xs ys→xs.length=ys.length
 | _,_,.nil=>rfl
 | _,_,.cons _ t=>by simp [Paired.getL t]
def sp_Reader_take_head (K:PySem.W.Frag) (a:Ad):Sp:=fun vs H Q E=>∃ (r ab ta:Addr) (bs:List UInt8) (p:Nat) (bds:List (Nat×Nat)),vs=[.ref r,.ref ab]∧Rdr K a H r ta bs p∧BdT K ab bds∧bds.length≤8 ∧
 (∀ xs p' H' l,hdr bds p (bs.drop p)=.ok (xs,p',bs.drop p')→xs.length=bds.length→H l=none→Kp [r] H H'→H' l=some (.lst (lV xs))→Rdr K a H' r ta bs p'→Q (.ref l) H') ∧
 ∀ p' H',hdr bds p (bs.drop p)=.error p'→Rdr K a H' r ta bs p'→E (.ref a.CE) none H'
abbrev s_Reader_take_head:Stmt:=inClass (top 15) 7
theorem sc_Reader_take_head:FnScope ["self","all_bounds","numbers","bounds"] ["self","all_bounds"] (defScope s_Reader_take_head):=⟨rfl,rfl,rfl,by decide +kernel,rfl,by decide +kernel,by decide +kernel⟩
theorem ok_Reader_take_head {f:Addr}{fd:FuncData} (F:Fun K "take_head" "Reader.take_head" s_Reader_take_head f fd) (T:Txt K mg a) (c_Reader_take:MethC P w K mg base (CX1 P w a.CE) 3 a.CR "take" ["self","sign"] (sp_Reader_take K a)) (c_Reader_take_number:MethC P w K mg base (CX1 P w a.CE) 3 a.CR "take_number" ["self","low","high"] (sp_Reader_take_number K a)):FnOk P w K mg base (CX1 P w a.CE) 4 f fd ["self","all_bounds"] (sp_Reader_take_head K a):=by
 refine F.okE sc_Reader_take_head (fun vs H Q E h=>?_) (fun cdv A outer s H vs Q E hr h=>?_)
 ·obtain ⟨r,ab,ta,bs,p,bds,rfl,⟨dx,hR,hS,hne⟩,hB,hb8,q1,q2⟩:=h
  rfl
 ·obtain ⟨r,ab,ta,bs,p,bds,rfl,⟨dx,hR,hS,hne⟩,hB,hb8,q1,q2⟩:=h
  have nd:=sc_Reader_take_head.nd
  refine ⟨_,(pss_cons (ps_set (i:=2) nd rfl (Or.inl rfl) (pe_lst pa_nil)) (pss_cons (ps_expr (pe_methC (pv 0) T.clReader c_Reader_take hr passX (pa_cons pe_str pa_nil))) (pss_cons (ps_for PassesOwn.leaving rfl (pi_tup (pv 1)) (pg_name (i:=3) nd rfl (Or.inl rfl)) (pss_cons (ps_if (pt_cmpR op_gt (pe_callB call_len_seq rfl T.len PySem.boot_len (pa_cons (pv 2) pa_nil)) pe_int (nomark _)) (pss_one (ps_expr (pe_methC (pv 0) T.clReader c_Reader_take hr passX (pa_cons pe_str pa_nil)))) pss_nil) (pss_one (ps_expr (pe_bm PySem.F.plainAttrs_list PySem.F.slot_list_append PySem.F.type_list_append mt_append (pv 2) (pa_cons (pe_methC (pv 0) T.clReader c_Reader_take_number hr passX (pa_cons (pe_ix ix_tup (pv 3) pe_int (fun _ _=>rfl)) (pa_cons (pe_ix ix_tup (pv 3) pe_int (fun _ _=>rfl)) pa_nil))) pa_nil)))))) (pss_cons (ps_expr (pe_methC (pv 0) T.clReader c_Reader_take hr passX (pa_cons pe_str pa_nil))) (pss_one (ps_ret (pv 2))))))),?_⟩
  have hR2:=hR
  have R:Rdr K a H r ta bs p:=⟨dx,hR,hS,hne⟩
  have hS0:=hS
  obtain ⟨bv,tB,hP⟩:=hB
  have hbl:=Paired.getL hP
  walk_at "rdr"
  refine ⟨by decide,fun l hl=>?_⟩
  have lr:l≠r:=fun z=>by rw [z,hR] at hl;cases hl
  have k0:Kp [r] H (upd H l (HO.lst [])):=Kp.new hl
  have hR:upd H l (HO.lst []) r=some (HO.ins a.CR dx (rf ta p)):=by rw [upd_ne (Ne.symm lr)];exact hR
  have R0:Rdr K a (upd H l (HO.lst [])) r ta bs p:=Rdr.move (dx:=dx) hS hne k0 hR
  walk_at "rdr"
  refine ⟨rf_take _ _,r,ta,bs,p,_,94,rfl,R0,by decide,by decide,fun _ p1 H1 e1 k1 R1=>?_,fun p1 H1 e1 R1=>q2 p1 H1 (then_no e1) R1⟩
  obtain ⟨Pv,hPv⟩:∃ Pv:WT,Pv=fun i σ H'=>∃ (xs:List Nat) (p':Nat) (o:Option V),σ=[some (.ref r),some (.ref ab),some (.ref l),o]∧xs.length=i∧H' l=some (.lst (lV xs))∧Rdr K a H' r ta bs p'∧Kp [r] H H'∧hdr bds p (bs.drop p)=hd (bds.drop i) xs p' (bs.drop p'):=⟨_,rfl⟩
  refine ⟨_,rfl,_,rfl,⟨_,tB _⟩,for_tup (xs:=bv) Pv ?_ (fun _ _ _ _ _=>tB _) ?_ ?_⟩
  ·rw [hPv]
   refine ⟨[],p1,none,rfl,rfl,k1 _ _ upd_same (by simpa using lr),R1,k0.trans k1,?_⟩
   unfold hdr
   rw [then_ok e1,List.drop_zero]
  ·intro i v σ H2 hi hw
   rw [hPv] at hw
   obtain ⟨xs,p2,o,rfl,hxl,hl2,⟨dx2,hR,hS,hne⟩,k2,eq⟩:=hw
   have hR2:=hR
   have R2:Rdr K a H2 r ta bs p2:=⟨dx2,hR,hS,hne⟩
   obtain ⟨bd,hbd,b,rfl,tb,hhi⟩:=Paired.get hP hi
   have hib:=(List.getElem?_eq_some_iff.mp hbd).1
   have edrop:bds.drop i=bd::bds.drop (i+1):=by
    rw [List.drop_eq_getElem_cons hib]
    rw [List.getElem?_eq_getElem hib] at hbd
    injection hbd with hbd
    rw [hbd]
   rw [edrop] at eq
   -- the number and what follows
   have step:∀ p3 H3,Rdr K a H3 r ta bs p3→Kp [r] H2 H3→hdr bds p (bs.drop p)=Vh.andThen (Vh.num bd.1 bd.2) (fun x=>hd (bds.drop (i+1)) (xs++[x])) p3 (bs.drop p3) →
     sp_Reader_take_number K a [.ref r,.int (bd.1:Int),.int (bd.2:Int)] H3 (fun v H4=>∃ x,H4 l=some (.lst x)∧x.length<sizeLine∧Pv (i+1) [some (.ref r),some (.ref ab),some (.ref l),some (.ref b)] (upd H4 l (.lst (x++[v])))) E:=fun p3 H3 R3 k3 eq3=>by
    refine ⟨r,ta,bs,p3,bd.1,bd.2,rfl,R3,hhi,fun x p4 H4 e4 _ _ k4 R4=>?_,fun p4 H4 e4 R4=>?_⟩
    ·have hl4:H4 l=some (.lst (lV xs)):=k4 _ _ (k3 _ _ hl2 (by simpa using lr)) (by simpa using lr)
     refine ⟨_,hl4,by rw [lV_len];exact Nat.lt_of_le_of_lt (show xs.length≤8 by lia) (by decide),?_⟩
     rw [hPv,lV_snoc]
     have k5:Kp [r] H (upd H4 l (.lst (lV (xs++[x])))):=((k2.trans k3).trans k4).put2 (.inr hl)
     obtain ⟨dx4,a1,a2,a3⟩:=R4
     exact ⟨xs++[x],p4,_,rfl,by simp [hxl],upd_same,⟨dx4,by rw [upd_ne (Ne.symm lr)];exact a1,k5.seq (by simpa using hne) hS0,hne⟩,k5,by rw [eq3,then_ok e4]⟩
    ·exact q2 p4 H4 (by rw [eq3];exact num_bad e4 fun x hd=>hd_digit hd _ _ (by simp)) R4
   walk_at "rdr"
   refine ⟨_,.inl (.inl (.inl hl2)),?_⟩
   rw [lV_len]
   by_cases h0:0<xs.length
   ·rw [if_pos (by lia)]
    have ne:xs≠[]:=by intro z;rw [z] at h0;simp at h0
    rw [hd_s _ _ _ ne] at eq
    refine ⟨rf_take _ _,r,ta,bs,p2,_,32,rfl,R2,by decide,by decide,fun _ p3 H3 e3 k3 R3=>?_,fun p3 H3 e3 R3=>q2 p3 H3 (by rw [eq];exact then_no e3) R3⟩
    rw [then_ok e3] at eq
    have st:=step p3 H3 R3 k3 eq
    obtain ⟨dx3,hR,hS,hne⟩:=R3
    have hR2:=hR
    have hl3:H3 l=some (.lst (lV xs)):=k3 _ _ hl2 (by simpa using lr)
    walk_at "rdr"
    exact ⟨.inl ⟨rfl,_,.inl (.inl hl3)⟩,rf_take_number _ _,_,tb _,_,rfl,_,tb _,_,rfl,st⟩
   ·rw [if_neg (by lia)]
    have e:xs=[]:=by cases xs with | nil=>rfl | cons _ _=>simp at h0
    subst e
    have st:=step p2 H2 R2 Kp.refl eq
    exact ⟨.inl ⟨rfl,_,.inl (.inl hl2)⟩,rf_take_number _ _,_,tb _,_,rfl,_,tb _,_,rfl,st⟩
  ·intro σ H2 hw
   rw [hPv] at hw
   obtain ⟨xs,p2,o,rfl,hxl,hl2,⟨dx2,hR,hS,hne⟩,k2,eq⟩:=hw
   have hR2:=hR
   have R2:Rdr K a H2 r ta bs p2:=⟨dx2,hR,hS,hne⟩
   rw [show bds.drop bv.length=[] from List.drop_of_length_le (by lia),hd] at eq
   walk_at "rdr"
   refine ⟨rf_take _ _,r,ta,bs,p2,_,10,rfl,R2,by decide,by decide,fun _ p3 H3 e3 k3 R3=>?_,fun p3 H3 e3 R3=>q2 p3 H3 (by rw [eq];exact then_no e3) R3⟩
   rw [then_ok e3] at eq
   have hl3:H3 l=some (.lst (lV xs)):=k3 _ _ hl2 (by simpa using lr)
   walk_at "rdr"
   exact q1 xs p3 H3 l eq (by lia) hl (k2.trans k3) hl3 R3
end
section
variable {P:Program}{w:World}{K:PySem.W.Frag}{mg:Str→Option Value}{base:Heap}{a:Ad}
theorem for_enum {K:PySem.W.Frag}{a:Addr}{xs:List V}{g:TG}{tb:TS}{D:Ends}{σ:L2.St}{H:Hp} (Pv:WT) (h0:Pv 0 σ H) (hl:∀ i σ H,i≤xs.length→Pv i σ H→SqL K H a xs)
  (hs:∀ i x σ H T,xs[i]?=some x→Pv i σ H→H T=none→g (.ref T) σ (upd H T (.tup [.int (i:Nat),x])) fun σ2 H2=>tb { D with nx:=Pv (i+1),ct:=Pv (i+1),bk:=D.nx } σ2 H2) (hd:∀ σ H,Pv xs.length σ H→D.nx σ H) :
  ∃ W:Nat→Nat→L2.St→Hp→Prop,(∃ m,W 0 m σ H)∧∀ i m σ H,W i m σ H →
   ((Ite K a).stop i H∧D.nx σ H)∨((Ite K a).go i H∧∃ N:L2.St→Hp→Prop,(∀ σ' H',N σ' H'→∃ m',m' < m∧W (i+1) m' σ' H')∧∀ x H',(Ite K a).yld i H x H'→g x σ H' fun σ2 H2=>tb { D with nx:=N,ct:=N,bk:=D.nx } σ2 H2):=by
 refine ⟨fun i m σ H=>i+m=xs.length∧Pv i σ H,⟨xs.length,by simp,h0⟩,?_⟩
 rintro i m σ H ⟨hm,p⟩
 have q:=hl i σ H (by lia) p
 cases m with
 | zero =>
  have e:i=xs.length:=by lia
  subst e
  exact .inl ⟨⟨xs,q,Nat.le_refl _⟩,hd σ H p⟩
 | succ m =>
  refine .inr ⟨⟨xs,xs[i]'(by lia),q,by simp [show i<xs.length by lia]⟩,Pv (i+1),fun σ' H' p'=>⟨m,by lia,by lia,p'⟩,?_⟩
  rintro v H' ⟨t,x,rfl,ht,rfl,hx⟩
  exact hs i x σ H t (hx xs q) p ht
def joinL (sep:Nat):List (List Nat)→List Nat
 | []=>[]
 | [x]=>x
 | x::y::r=>x++sep::joinL sep (y::r)
theorem joinL_snoc (sep:Nat) (x:List Nat):∀ (ys:List (List Nat)),ys≠[]→joinL sep (ys++[x])=joinL sep ys++sep::x
 | [],h=>absurd rfl h
 | [y],_=>rfl
 | y::z::r,_=>by
  show y++sep::joinL sep (z::r++[x])=(y++sep::joinL sep (z::r))++sep::x
  rw [joinL_snoc sep x (z::r) (by simp)]
  simp
theorem take_snoc' {α:Type}{l:List α}{i:Nat}{x:α} (h:l[i]?=some x):l.take (i+1)=l.take i++[x]:=by
 rw [List.take_add_one,h];rfl
theorem joinL_len (sep:Nat):∀ (ys:List (List Nat)) (i:Nat),(joinL sep (ys.take i)).length≤(joinL sep ys).length
 | [],i=>by simp [joinL]
 | [y],i=>by cases i <;> simp [joinL]
 | y::z::r,i=>by
  cases i with
  | zero=>simp [joinL]
  | succ i =>
   cases i with
   | zero=>simp [joinL]
   | succ i =>
    have:=joinL_len sep (z::r) (i+1)
    simp only [List.take_succ_cons,joinL,List.length_append,List.length_cons] at this ⊢
    lia
def sp_joined (K:PySem.W.Frag) (a:Ad):Sp:=fun vs H Q _=>∃ (lt:Addr) (us:List V) (xs:List (List Nat)) (sep:Nat),vs=[.ref lt,.int (sep:Int)]∧H lt=some (.lst us)∧Paired (fun x v=>∃ l,v=V.ref l∧H l=some (.lst (lV x))) xs us∧(joinL sep xs).length≤16777216 ∧
 ∀ H' p,H p=none→Kp [] H H'→H' p=some (.lst (lV (joinL sep xs)))→Q (.ref p) H'
abbrev s_joined:Stmt:=top 7
theorem sc_joined:FnScope ["things","between","characters","k","thing"] ["things","between"] (defScope s_joined):=⟨rfl,rfl,rfl,by decide +kernel,rfl,by decide +kernel,by decide +kernel⟩
theorem ok_joined {f:Addr}{fd:FuncData} (F:Fun K "joined" "joined" s_joined f fd) (T:Txt K mg a):FnOk P w K mg base CX0 1 f fd ["things","between"] (sp_joined K a):=by
 refine F.ok sc_joined (fun vs H Q E h=>?_) (fun cdv A outer s H vs Q E hr h=>?_)
 ·obtain ⟨lt,us,xs,sep,rfl,hlt,hP,hlen,q⟩:=h
  rfl
 ·obtain ⟨lt,us,xs,sep,rfl,hlt,hP,hlen,q⟩:=h
  have nd:=sc_joined.nd
  refine ⟨_,(pss_cons (ps_set (i:=2) nd rfl (Or.inl rfl) (pe_lst pa_nil)) (pss_cons (ps_for PassesOwn.never rfl (pi_enum rfl T.enumerate (pa_cons (pv 0) pa_nil)) (pg_tup rfl (pgs_cons (pg_name (i:=3) nd rfl (Or.inl rfl)) (pgs_cons (pg_name (i:=4) nd rfl (Or.inl rfl)) pgs_nil))) (pss_cons (ps_if (pt_cmpR op_gt (pv 3) pe_int (nomark _)) (pss_one (ps_expr (pe_bm PySem.F.plainAttrs_list PySem.F.slot_list_append PySem.F.type_list_append mt_append (pv 2) (pa_cons (pv 1) pa_nil)))) pss_nil) (pss_one (ps_expr (pe_bm PySem.F.plainAttrs_list PySem.F.slot_list_extend PySem.F.type_list_extend mt_extend (pv 2) (pa_cons (pv 4) pa_nil)))))) (pss_one (ps_ret (pv 2))))),?_⟩
  walk_at "rd"
  refine ⟨by decide,fun l hl=>?_⟩
  have nlt:lt≠l:=ne_of_none hlt hl
  obtain ⟨Pv,hPv⟩:∃ Pv:WT,Pv=fun i σ H'=>∃ o1 o2:Option V,σ=[some (.ref lt),some (.int (sep:Int)),some (.ref l),o1,o2]∧Kp [] H H'∧H' l=some (.lst (lV (joinL sep (xs.take i)))):=⟨_,rfl⟩
  refine ⟨_,rfl,_,_,rfl,.inl (.inl (by rw [upd_ne nlt];exact hlt)),for_enum (xs:=us) Pv ?_ ?_ ?_ ?_⟩
  ·rw [hPv]
   exact ⟨none,none,rfl,Kp.new hl,by rw [upd_same];rfl⟩
  ·intro i σ H' _ hw
   rw [hPv] at hw
   obtain ⟨o1,o2,rfl,k,_⟩:=hw
   exact .inl (.inl (k _ _ hlt (by simp)))
  ·intro i v σ H2 t hi hw ht
   rw [hPv] at hw
   obtain ⟨o1,o2,rfl,k,hl2⟩:=hw
   obtain ⟨x,hx,b,rfl,hb⟩:=Paired.get hP hi
   have tl:l≠t:=ne_of_none hl2 ht
   have bl:b≠l:=ne_of_none hb hl
   have tot:=joinL_len sep xs (i+1)
   rw [take_snoc' hx] at tot
   walk_at "rd"
   refine ⟨_,.inl (.inl upd_same),rfl,_,_,rfl,_,_,rfl,rfl,?_⟩
   have hb2:H2 b=some (.lst (lV x)):=k _ _ hb (by simp)
   have bt:b≠t:=ne_of_none hb2 ht
   have hz:sizeLine=16777216:=by decide
   have lt2:upd H2 t (HO.tup [V.int (i:Int),V.ref b]) l=some (.lst (lV (joinL sep (xs.take i)))):=by rw [upd_ne tl];exact hl2
   have bt2:upd H2 t (HO.tup [V.int (i:Int),V.ref b]) b=some (.lst (lV x)):=by rw [upd_ne bt];exact hb2
   refine ⟨_,rfl,?_⟩
   have kk:Kp [] H (upd H2 t (HO.tup [V.int (i:Int),V.ref b])):=k.trans (Kp.new ht)
   by_cases h0:0<i
   ·have ne:xs.take i≠[]:=by
     intro z
     have h1:=congrArg List.length z
     have h2:i<xs.length:=(List.getElem?_eq_some_iff.mp hx).1
     rw [List.length_take,List.length_nil] at h1
     lia
    rw [joinL_snoc sep x _ ne,List.length_append,List.length_cons] at tot
    rw [if_pos (by lia)]
    refine ⟨.inl ⟨rfl,_,.inl (.inl lt2)⟩,_,lt2,by rw [lV_len];lia,.inl ⟨rfl,_,.inl (.inl upd_same)⟩,_,rfl,_,upd_same,_,by rw [upd_ne bl];exact bt2,by rw [List.length_append,lV_len,lV_len];simp;lia,?_⟩
    rw [hPv]
    refine ⟨_,_,rfl,(kk.put2 (.inr hl)).put2 (.inr hl),?_⟩
    rw [upd_same,take_snoc' hx,joinL_snoc sep x _ ne]
    unfold lV
    simp
   ·have i0:i=0:=by lia
    subst i0
    rw [if_neg (by lia)]
    refine ⟨.inl ⟨rfl,_,.inl (.inl lt2)⟩,_,rfl,_,lt2,_,bt2,by rw [lV_len,lV_len];simp [joinL] at tot ⊢;lia,?_⟩
    rw [hPv]
    refine ⟨_,_,rfl,kk.put2 (.inr hl),?_⟩
    rw [upd_same,take_snoc' hx]
    simp [joinL,lV]
  ·intro σ H2 hw
   rw [hPv] at hw
   obtain ⟨o1,o2,rfl,k,hl2⟩:=hw
   walk_at "rd"
   refine q H2 l hl k ?_
   rw [hl2,← Paired.length hP,List.take_length]
def wf (s:VhPage.Settings) (r h p w g e:Addr):List (Str×V):=[("width",.int (s.width:Int)),("height",.int (s.height:Int)),("indent",.int (s.indent:Int)),("every",.int (s.every:Int)),("anew",.int (s.anew:Int)),("loose",.int (s.loose:Int)),
 ("rows",.ref r),("head",.ref h),("paragraphs",.ref p),("words",.ref w),("signs",.ref g),("entries",.ref e)]
theorem put_app {f:Str}{v:V}:∀ {l:List (Str×V)},((l.map (·.1)).contains f)=false→putF f v l=l++[(f,v)]
 | [],_=>rfl
 | (g,x)::r,h=>by
  have h':(f==g || (r.map (·.1)).contains f)=false:=by simpa [List.contains_cons] using h
  rw [Bool.or_eq_false_iff] at h'
  show (if g=f then _ else _)=_
  rw [if_neg (fun z=>by rw [z] at h';simp at h'),put_app h'.2]
  rfl
theorem put_lt {f:Str}{v:V}{fs:List (Str×V)}{n:Nat} (h:fs.length≤n):(putF f v fs).length≤n+1:=Nat.le_trans (length_putF f v fs) (by lia)
theorem wf_eq (s:VhPage.Settings) (r h p w g e:Addr):putF "entries" (.ref e) (putF "signs" (.ref g) (putF "words" (.ref w) (putF "paragraphs" (.ref p) (putF "head" (.ref h) (putF "rows" (.ref r) (putF "loose" (.int (s.loose:Int)) (putF "anew" (.int (s.anew:Int))
  (putF "every" (.int (s.every:Int)) (putF "indent" (.int (s.indent:Int)) (putF "height" (.int (s.height:Int)) (putF "width" (.int (s.width:Int)) [])))))))))))=wf s r h p w g e:=by
 rw [put_app (l:=[]) rfl];simp only [List.cons_append,List.nil_append]
 rw [put_app (l:=[_]) rfl];simp only [List.cons_append,List.nil_append]
 rw [put_app (l:=[_,_]) rfl];simp only [List.cons_append,List.nil_append]
 rw [put_app (l:=[_,_,_]) rfl];simp only [List.cons_append,List.nil_append]
 rw [put_app (l:=[_,_,_,_]) rfl];simp only [List.cons_append,List.nil_append]
 rw [put_app (l:=[_,_,_,_,_]) rfl];simp only [List.cons_append,List.nil_append]
 rw [put_app (l:=[_,_,_,_,_,_]) rfl];simp only [List.cons_append,List.nil_append]
 rw [put_app (l:=[_,_,_,_,_,_,_]) rfl];simp only [List.cons_append,List.nil_append]
 rw [put_app (l:=[_,_,_,_,_,_,_,_]) rfl];simp only [List.cons_append,List.nil_append]
 rw [put_app (l:=[_,_,_,_,_,_,_,_,_]) rfl];simp only [List.cons_append,List.nil_append]
 rw [put_app (l:=[_,_,_,_,_,_,_,_,_,_]) rfl];simp only [List.cons_append,List.nil_append]
 rw [put_app (l:=[_,_,_,_,_,_,_,_,_,_,_]) rfl];simp only [List.cons_append,List.nil_append]
 rfl
theorem nd6 {r h p w g e:Addr} (h1:h≠r) (p1:p≠r) (p2:p≠h) (w1:w≠r) (w2:w≠h) (w3:w≠p) (g1:g≠r) (g2:g≠h) (g3:g≠p) (g4:g≠w) (e1:e≠r) (e2:e≠h) (e3:e≠p) (e4:e≠w) (e5:e≠g):[r,h,p,w,g,e].Nodup:=by
 simp [List.nodup_cons]
 exact ⟨⟨h1.symm,p1.symm,w1.symm,g1.symm,e1.symm⟩,⟨p2.symm,w2.symm,g2.symm,e2.symm⟩,⟨w3.symm,g3.symm,e3.symm⟩,⟨g4.symm,e4.symm⟩,e5.symm⟩
structure Stg (a:Ad) (H G:Hp) (x dx:Addr) (F:List (Str×V)) (l:List Addr):Prop where
 at_:G x=some (.ins a.CW dx F)
 kp:Kp [x] H G
 al:∀ b∈l,H b=none∧G b=some (.lst [])∧b≠x
 nd:l.Nodup
theorem Stg.look {H G:Hp}{x dx p:Addr}{F:List (Str×V)}{l:List Addr} (S:Stg a H G x dx F l) (hp:G p=none):upd G p (.lst []) x=some (.ins a.CW dx F):=by
 rw [upd_ne (ne_of_none S.at_ hp)];exact S.at_
theorem Stg.step {H G:Hp}{x dx p:Addr}{F:List (Str×V)}{l:List Addr} (S:Stg a H G x dx F l) (hp:G p=none) (f:Str):Stg a H (upd (upd G p (.lst [])) x (.ins a.CW dx (putF f (.ref p) F))) x dx (putF f (.ref p) F) (l++[p]):=by
 have px:p≠x:=fun z=>by rw [z,S.at_] at hp;cases hp
 refine ⟨upd_same,(S.kp.trans (Kp.new hp)).trans (Kp.put (by simp)),fun b hb=>?_,?_⟩
 ·rcases List.mem_append.mp hb with h | h
  ·obtain ⟨h1,h2,h3⟩:=S.al b h
   exact ⟨h1,by rw [upd_ne h3,upd_ne (ne_of_none h2 hp)];exact h2,h3⟩
  ·have e:b=p:=by simpa using h
   subst e
   exact ⟨S.kp.free (by simpa using px) hp,by rw [upd_ne px,upd_same],px⟩
 ·rw [List.nodup_append]
  refine ⟨S.nd,by simp,fun b hb c hc=>?_⟩
  have e:c=p:=by simpa using hc
  subst e
  exact ne_of_none (S.al b hb).2.1 hp
def sp_Work_init (K:PySem.W.Frag) (a:Ad):Sp:=fun vs H Q _=>∃ (x dx se:Addr) (s:VhPage.Settings),vs=[.ref x,.ref se]∧H x=some (.ins a.CW dx [])∧H se=some (.lst [.int (s.width:Int),.int (s.height:Int),.int (s.indent:Int),.int (s.every:Int),.int (s.anew:Int),.int (s.loose:Int)]) ∧
 ∀ H' r h p w g e,Kp [x] H H'→H' x=some (.ins a.CW dx (wf s r h p w g e))→(∀ b∈[r,h,p,w,g,e],H b=none∧H' b=some (.lst []))→[r,h,p,w,g,e].Nodup→Q .non H'
set_option hygiene false in
local macro_rules | `(tactic| walk_at "wk")=>`(tactic| (try simp only [tSeq,tIfS,tOr,tAnd,tNot,tTest,tB,tOp,rI0,rI,tVar,tC,tChain,tRet,tRetN,tNext,tDrop,tAsg,gName,rEq,rNe,rIn,tAug,ipI,tCall,tCons,tNil,tUn,rU,tIf,tNotV,tAndV,tOrV,tCB,tRaise,tTup,tLst,L2.start,L2.cxOf,List.map_cons,List.map_nil,List.length_cons,List.length_nil,List.replicate,List.cons_append,List.nil_append,List.append_nil,Nat.sub_self,Nat.zero_add,Nat.add_sub_cancel,Nat.reduceAdd,Nat.reduceSub,List.getElem?_cons_zero,List.getElem?_cons_succ,List.set_cons_zero,List.set_cons_succ,Option.some.injEq,V.int.injEq,V.bl.injEq,V.ref.injEq,V.str.injEq,exists_eq_left',exists_and_left,exists_const,true_and,and_true,scal,decide_eq_true_eq,Bool.not_eq_true',decide_eq_false_iff_not,Bool.not_not,Bool.not_true,Bool.not_false,if_true,if_false,ite_true,ite_false,↓reduceIte,Bool.false_eq_true,List.cons.injEq,exists_eq_left,gTup,gCons,gNil,tBM,rAppend,rExtend,tSl,tNoPart,tPart,rSlL,tMake,tFld,tMeth,sFld,sFldAug,rAdd,rIxL,rIxT,hR,hR2,T.clWork,T.n_width,T.n_height,T.n_indent,T.n_every,T.n_anew,T.n_loose,T.n_rows,T.n_head,T.n_paragraphs,T.n_words,T.n_signs,T.n_entries,HO.ins.injEq,and_assoc,upd_same]))
abbrev s_Work_init:Stmt:=inClass (top 28) 0
theorem sc_Work_init:FnScope ["self","settings"] ["self","settings"] (defScope s_Work_init):=⟨rfl,rfl,rfl,by decide +kernel,rfl,by decide +kernel,by decide +kernel⟩
theorem ok_Work_init {f:Addr}{fd:FuncData} (F:Fun K "__init__" "Work.__init__" s_Work_init f fd) (T:Txt K mg a):FnOk P w K mg base CX0 1 f fd ["self","settings"] (sp_Work_init K a):=by
 refine F.ok sc_Work_init (fun vs H Q E h=>?_) (fun cdv A outer s H vs Q E hr h=>?_)
 ·obtain ⟨x,dx,se,s,rfl,hR,hse,q⟩:=h
  rfl
 ·obtain ⟨x,dx,se,s,rfl,hR,hse,q⟩:=h
  have nd:=sc_Work_init.nd
  refine ⟨_,(pss_cons (ps_fld (pv 0) (pe_ix ix_list (pv 1) pe_int (fun _ _=>rfl)) rfl) (pss_cons (ps_fld (pv 0) (pe_ix ix_list (pv 1) pe_int (fun _ _=>rfl)) rfl) (pss_cons (ps_fld (pv 0) (pe_ix ix_list (pv 1) pe_int (fun _ _=>rfl)) rfl) (pss_cons (ps_fld (pv 0) (pe_ix ix_list (pv 1) pe_int (fun _ _=>rfl)) rfl) (pss_cons (ps_fld (pv 0) (pe_ix ix_list (pv 1) pe_int (fun _ _=>rfl)) rfl) (pss_cons (ps_fld (pv 0) (pe_ix ix_list (pv 1) pe_int (fun _ _=>rfl)) rfl) (pss_cons (ps_fld (pv 0) (pe_lst pa_nil) rfl) (pss_cons (ps_fld (pv 0) (pe_lst pa_nil) rfl) (pss_cons (ps_fld (pv 0) (pe_lst pa_nil) rfl) (pss_cons (ps_fld (pv 0) (pe_lst pa_nil) rfl) (pss_cons (ps_fld (pv 0) (pe_lst pa_nil) rfl) (pss_one (ps_fld (pv 0) (pe_lst pa_nil) rfl))))))))))))),?_⟩
  have hR2:=hR
  walk_at "wk"
  have sx:se≠x:=ne_of hse hR (by intro z;cases z)
  have hq:∀ o,SqL K (upd H x o) se [.int (s.width:Int),.int (s.height:Int),.int (s.indent:Int),.int (s.every:Int),.int (s.anew:Int),.int (s.loose:Int)]:=fun o=>.inl (.inl (by rw [upd_ne sx];exact hse))
  have l1:∀ {u:V},(putF "width" u []).length≤1:=fun {u}=>put_lt (Nat.le_refl 0)
  refine ⟨_,.inl (.inl hse),_,rfl,by decide,_,hq _,_,rfl,Nat.lt_of_le_of_lt l1 (by decide),?_⟩
  simp only [upd_upd]
  refine ⟨_,hq _,_,rfl,Nat.lt_of_le_of_lt (put_lt l1) (by decide),_,hq _,_,rfl,Nat.lt_of_le_of_lt (put_lt (put_lt l1)) (by decide),_,hq _,_,rfl,Nat.lt_of_le_of_lt (put_lt (put_lt (put_lt l1))) (by decide),_,hq _,_,rfl,Nat.lt_of_le_of_lt (put_lt (put_lt (put_lt (put_lt l1)))) (by decide),?_⟩
  have l6:=put_lt (f:="loose") (v:=V.int (s.loose:Int)) (put_lt (f:="anew") (v:=V.int (s.anew:Int)) (put_lt (f:="every") (v:=V.int (s.every:Int)) (put_lt (f:="indent") (v:=V.int (s.indent:Int)) (put_lt (f:="height") (v:=V.int (s.height:Int)) (l1 (u:=V.int (s.width:Int)))))))
  have key:=wf_eq s
  generalize hF6:putF "loose" (V.int (s.loose:Int)) (putF "anew" (V.int (s.anew:Int)) (putF "every" (V.int (s.every:Int)) (putF "indent" (V.int (s.indent:Int)) (putF "height" (V.int (s.height:Int)) (putF "width" (V.int (s.width:Int)) [])))))=F6 at l6 key
  have hz:(0:Nat)≤sizeLine:=by decide
  have S0:Stg a H (upd H x (HO.ins a.CW dx F6)) x dx F6 []:=⟨upd_same,Kp.put (by simp),fun b hb=>absurd hb (by simp),List.nodup_nil⟩
  refine ⟨hz,fun p0 h0=>⟨_,_,_,S0.look h0,T.clWork,T.n_rows,by lia,hz,fun p1 h1=>?_⟩⟩
  have S1:=S0.step h0 "rows"
  refine ⟨_,_,_,S1.look h1,T.clWork,T.n_head,Nat.lt_of_le_of_lt (put_lt l6) (by decide),hz,fun p2 h2=>?_⟩
  have S2:=S1.step h1 "head"
  refine ⟨_,_,_,S2.look h2,T.clWork,T.n_paragraphs,Nat.lt_of_le_of_lt (put_lt (put_lt l6)) (by decide),hz,fun p3 h3=>?_⟩
  have S3:=S2.step h2 "paragraphs"
  refine ⟨_,_,_,S3.look h3,T.clWork,T.n_words,Nat.lt_of_le_of_lt (put_lt (put_lt (put_lt l6))) (by decide),hz,fun p4 h4=>?_⟩
  have S4:=S3.step h3 "words"
  refine ⟨_,_,_,S4.look h4,T.clWork,T.n_signs,Nat.lt_of_le_of_lt (put_lt (put_lt (put_lt (put_lt l6)))) (by decide),hz,fun p5 h5=>?_⟩
  have S5:=S4.step h4 "signs"
  refine ⟨_,_,_,S5.look h5,T.clWork,T.n_entries,Nat.lt_of_le_of_lt (put_lt (put_lt (put_lt (put_lt (put_lt l6))))) (by decide),?_⟩
  have S6:=S5.step h5 "entries"
  refine q _ p0 p1 p2 p3 p4 p5 S6.kp ?_ (fun b hb=>⟨(S6.al b hb).1,(S6.al b hb).2.1⟩) S6.nd
  rw [← key]
  exact S6.at_
end
set_option hygiene false in
local macro_rules | `(tactic| walk_at "wk")=>`(tactic| (try simp only [tSeq,tIfS,tOr,tAnd,tNot,tTest,tB,tOp,rI0,rI,tVar,tC,tChain,tRet,tRetN,tNext,tDrop,tAsg,gName,rEq,rNe,rIn,tAug,ipI,tCall,tCons,tNil,tUn,rU,tIf,tNotV,tAndV,tOrV,tCB,tRaise,tTup,tLst,L2.start,L2.cxOf,List.map_cons,List.map_nil,List.length_cons,List.length_nil,List.replicate,List.cons_append,List.nil_append,List.append_nil,Nat.sub_self,Nat.zero_add,Nat.add_sub_cancel,Nat.reduceAdd,Nat.reduceSub,List.getElem?_cons_zero,List.getElem?_cons_succ,List.set_cons_zero,List.set_cons_succ,Option.some.injEq,V.int.injEq,V.bl.injEq,V.ref.injEq,V.str.injEq,exists_eq_left',exists_and_left,exists_const,true_and,and_true,scal,decide_eq_true_eq,Bool.not_eq_true',decide_eq_false_iff_not,Bool.not_not,Bool.not_true,Bool.not_false,if_true,if_false,ite_true,ite_false,↓reduceIte,Bool.false_eq_true,List.cons.injEq,exists_eq_left,gTup,gCons,gNil,tBM,rAppend,rExtend,tSl,tNoPart,tPart,rSlL,tMake,tFld,tMeth,sFld,sFldAug,rAdd,rIxL,rIxT,hR,hR2,hWk,hWk2,T.clReader,T.n_t,T.n_at,rf_t,rf_at,rf_put,rf_len,T.clWork,T.n_width,T.n_height,T.n_indent,T.n_every,T.n_anew,T.n_loose,T.n_rows,T.n_head,T.n_paragraphs,T.n_words,T.n_signs,T.n_entries,wf_rows,wf_head,wf_paragraphs,wf_words,wf_signs,wf_entries,HO.ins.injEq,and_assoc,upd_same]))
section
variable {P:Program}{w:World}{K:PySem.W.Frag}{mg:Str→Option Value}{base:Heap}{a:Ad}
theorem wf_rows (s:VhPage.Settings) (r h p w g e:Addr):(wf s r h p w g e).lookup ("rows":Str)=some (.ref r):=by rfl
theorem wf_head (s:VhPage.Settings) (r h p w g e:Addr):(wf s r h p w g e).lookup ("head":Str)=some (.ref h):=by rfl
theorem wf_paragraphs (s:VhPage.Settings) (r h p w g e:Addr):(wf s r h p w g e).lookup ("paragraphs":Str)=some (.ref p):=by rfl
theorem wf_words (s:VhPage.Settings) (r h p w g e:Addr):(wf s r h p w g e).lookup ("words":Str)=some (.ref w):=by rfl
theorem wf_signs (s:VhPage.Settings) (r h p w g e:Addr):(wf s r h p w g e).lookup ("signs":Str)=some (.ref g):=by rfl
theorem wf_entries (s:VhPage.Settings) (r h p w g e:Addr):(wf s r h p w g e).lookup ("entries":Str)=some (.ref e):=by rfl
end
section
variable {P:Program}{w:World}{K:PySem.W.Frag}{mg:Str→Option Value}{base:Heap}{a:Ad}
def WkAt (a:Ad) (H:Hp) (wk dw:Addr) (s:VhPage.Settings) (r h p w g e:Addr):Prop:=H wk=some (.ins a.CW dw (wf s r h p w g e))
def TRow (H H':Hp) (x:Nat×Nat×Nat) (v:V):Prop:=∃ t,v=.ref t∧H' t=some (.tup [.int (x.1:Int),.int (x.2.1:Int),.int (x.2.2:Int)])∧H t=none
def sp_read_rows (K:PySem.W.Frag) (a:Ad):Sp:=fun vs H Q E=>∃ (r ta wk dw:Addr) (bs:List UInt8) (p:Nat) (s:VhPage.Settings) (aR aH aP aW aS aE:Addr),vs=[.ref r,.ref wk]∧Rdr K a H r ta bs p∧WkAt a H wk dw s aR aH aP aW aS aE∧H aR=some (.lst [])∧r≠wk∧ta≠aR ∧
 (∀ xs us p' H',VhPage.widths_ 64 33 p (bs.drop p)=.ok (xs,p',bs.drop p')→Kp [r,aR] H H'→H' aR=some (.lst us)→Paired (TRow H H') xs us→Rdr K a H' r ta bs p'→Q .non H') ∧
 ∀ p' H',VhPage.widths_ 64 33 p (bs.drop p)=.error p'→Rdr K a H' r ta bs p'→E (.ref a.CE) none H'
abbrev s_read_rows:Stmt:=top 29
theorem sc_read_rows:FnScope ["reader","work","low","lo","hi","width"] ["reader","work"] (defScope s_read_rows):=⟨rfl,rfl,rfl,by decide +kernel,rfl,by decide +kernel,by decide +kernel⟩
theorem ok_read_rows {f:Addr}{fd:FuncData} (F:Fun K "read_rows" "read_rows" s_read_rows f fd) (T:Txt K mg a) (c_Reader_sees:MethC P w K mg base CX0 2 a.CR "sees" ["self","sign"] (sp_Reader_sees K a)) (c_Reader_take:MethC P w K mg base (CX1 P w a.CE) 3 a.CR "take" ["self","sign"] (sp_Reader_take K a)) (c_Reader_take_number:MethC P w K mg base (CX1 P w a.CE) 3 a.CR "take_number" ["self","low","high"] (sp_Reader_take_number K a)):FnOk P w K mg base (CX1 P w a.CE) 4 f fd ["reader","work"] (sp_read_rows K a):=by
 refine F.okE sc_read_rows (fun vs H Q E h=>?_) (fun cdv A outer s H vs Q E hr h=>?_)
 ·obtain ⟨r,ta,wk,dw,bs,p,s,aR,aH,aP,aW,aS,aE,rfl,⟨dx,hR,hS,hne⟩,hWk,haR,rwk,taR,q1,q2⟩:=h
  rfl
 ·obtain ⟨r,ta,wk,dw,bs,p,s,aR,aH,aP,aW,aS,aE,rfl,⟨dx,hR,hS,hne⟩,hWk,haR,rwk,taR,q1,q2⟩:=h
  have nd:=sc_read_rows.nd
  refine ⟨_,(pss_cons (ps_set (i:=2) nd rfl (Or.inl rfl) (pe_gint T.cFIRST_LETTER)) (pss_one (ps_while PassesOwn.leaving (PW.pt (pw_and (pt_val (pe_methC (pv 0) T.clReader c_Reader_sees hr pass0 (pa_cons pe_str pa_nil))) (pw_and (pt_cmpR op_lt (pe_callB call_len_seq rfl T.len PySem.boot_len (pa_cons (pe_fld (pv 1) rfl) pa_nil)) (pe_gint T.cMOST_ROWS) (nomark _)) (pw_and1 (pt_cmpR op_le (pv 2) (pe_gint T.cLAST_CHARACTER) (nomark _)))))) (pss_cons (ps_expr (pe_methC (pv 0) T.clReader c_Reader_take hr passX (pa_cons pe_str pa_nil))) (pss_cons (ps_set (i:=3) nd rfl (Or.inl rfl) (pe_methC (pv 0) T.clReader c_Reader_take_number hr passX (pa_cons (pv 2) (pa_cons (pe_gint T.cLAST_CHARACTER) pa_nil)))) (pss_cons (ps_expr (pe_methC (pv 0) T.clReader c_Reader_take hr passX (pa_cons pe_str pa_nil))) (pss_cons (ps_set (i:=4) nd rfl (Or.inl rfl) (pe_methC (pv 0) T.clReader c_Reader_take_number hr passX (pa_cons (pv 3) (pa_cons (pe_gint T.cLAST_CHARACTER) pa_nil)))) (pss_cons (ps_expr (pe_methC (pv 0) T.clReader c_Reader_take hr passX (pa_cons pe_str pa_nil))) (pss_cons (ps_set (i:=5) nd rfl (Or.inl rfl) (pe_methC (pv 0) T.clReader c_Reader_take_number hr passX (pa_cons pe_int (pa_cons pe_int pa_nil)))) (pss_cons (ps_expr (pe_methC (pv 0) T.clReader c_Reader_take hr passX (pa_cons pe_str pa_nil))) (pss_cons (ps_expr (pe_bm PySem.F.plainAttrs_list PySem.F.slot_list_append PySem.F.type_list_append mt_append (pe_fld (pv 1) rfl) (pa_cons (pe_tup (pa_cons (pv 3) (pa_cons (pv 4) (pa_cons (pv 5) pa_nil)))) pa_nil))) (pss_one (ps_set (i:=2) nd rfl (Or.inl rfl) (pe_op op_add (pv 4) pe_int)))))))))))))),?_⟩
  have hR2:=hR
  have hWk:H wk=some (.ins a.CW dw (wf s aR aH aP aW aS aE)):=hWk
  have hWk2:=hWk
  have hWk0:=hWk
  have R:Rdr K a H r ta bs p:=⟨dx,hR,hS,hne⟩
  have hS0:=hS
  have raR:r≠aR:=ne_of hR haR (by intro z;cases z)
  have wkaR:wk≠aR:=ne_of hWk haR (by intro z;cases z)
  have big:VhPage.LARGEST<10 ^ 11:=by decide
  walk_at "rd"
  obtain ⟨W,hW⟩:∃ W:WT,W=fun m σ H'=>∃ (xs:List (Nat×Nat×Nat)) (us:List V) (lo p':Nat) (o1 o2 o3:Option V),σ=[some (.ref r),some (.ref wk),some (.int (lo:Int)),o1,o2,o3]∧H' aR=some (.lst us)∧Paired (TRow H H') xs us∧Rdr K a H' r ta bs p'∧Kp [r,aR] H H'∧xs.length≤64 ∧
   VhPage.widths_ 64 33 p (bs.drop p)=preO xs (VhPage.widths_ (64-xs.length) lo p' (bs.drop p'))∧m=64-xs.length:=⟨_,rfl⟩
  refine ⟨W,⟨_,by
   rw [hW]
   exact ⟨[],[],33,p,none,none,none,rfl,haR,.nil,R,Kp.refl,by simp,by rw [preO_nil];rfl,rfl⟩⟩,fun m σ H2 hw=>?_⟩
  rw [hW] at hw
  obtain ⟨xs,us,lo,p2,o1,o2,o3,rfl,hu,hP,⟨dx2,hR,hS,hne⟩,k2,x64,eq,rfl⟩:=hw
  have hR2:=hR
  have R2:Rdr K a H2 r ta bs p2:=⟨dx2,hR,hS,hne⟩
  have hlen:=Paired.length hP
  have hWk:H2 wk=some (.ins a.CW dw (wf s aR aH aP aW aS aE)):=k2 _ _ hWk0 (by simp [Ne.symm rwk,wkaR])
  have hWk2:=hWk
  have fin:(64-xs.length=0∨pk bs p2≠40∨VhPage.LARGEST<lo)→Q .non H2:=fun h=>by
   refine q1 xs us p2 H2 ?_ k2 hu hP R2
   rw [eq,widths_stop h]
   show Except.ok (xs++[],_,_)=_
   rw [List.append_nil]
  walk_at "wk"
  refine ⟨rf_sees _ _,r,ta,bs,p2,_,40,rfl,R2,by decide,by decide,?_⟩
  walk_at "wk"
  by_cases h40:pk bs p2=40
  ·rw [if_pos (by simpa using h40)]
   refine ⟨_,.inl (.inl (.inl hu)),?_⟩
   rw [← hlen]
   by_cases hfull:xs.length=64
   ·rw [if_neg (by lia)]
    exact fin (.inl (by lia))
   ·rw [if_pos (by lia)]
    by_cases hbig:VhPage.LARGEST<lo
    ·rw [if_neg (by unfold VhPage.LARGEST at hbig;lia)]
     exact fin (.inr (.inr hbig))
    ·rw [if_pos (by unfold VhPage.LARGEST at hbig;lia)]
     refine ⟨fun σ' H'=>∃ m',m' < 64-xs.length∧W m' σ' H',fun _ _ z=>z,?_⟩
     have ex:64-xs.length=(64-(xs.length+1))+1:=by lia
     rw [ex,widths_go h40 (by lia)] at eq
     have er:∀ {i:Nat},wRow (64-(xs.length+1)) lo (p2+1) (bs.drop (p2+1))=.error i→VhPage.widths_ 64 33 p (bs.drop p)=.error i:=fun h=>by rw [eq,h];rfl
     unfold wRow at er eq
     refine ⟨rf_take _ _,r,ta,bs,p2,_,40,rfl,R2,by decide,by decide,fun _ p3 H3 e3 k3 R3=>?_,fun p3 H3 e3 R3=>by rw [byte_ok (c:=40) h40] at e3;cases e3⟩
     have ep:p3=p2+1:=by
      rw [byte_ok (c:=40) h40] at e3
      injection e3 with e3;injection e3 with _ e3;injection e3 with e3 _
      exact e3.symm
     subst ep
     obtain ⟨dx3,hR,hS,hne⟩:=R3
     have hR2:=hR
     have R3:Rdr K a H3 r ta bs (p2+1):=⟨dx3,hR,hS,hne⟩
     walk_at "wk"
     refine ⟨rf_take_number _ _,r,ta,bs,p2+1,lo,VhPage.LARGEST,rfl,R3,big,fun x p4 H4 e4 _ hx k4 R4=>?_,fun p4 H4 e4 R4=>q2 p4 H4 (er (num_bad e4 fun x hd=>byte_digit hd)) R4⟩
     rw [then_ok e4] at er eq
     obtain ⟨dx4,hR,hS,hne⟩:=R4
     have hR2:=hR
     have R4:Rdr K a H4 r ta bs p4:=⟨dx4,hR,hS,hne⟩
     walk_at "wk"
     refine ⟨rf_take _ _,r,ta,bs,p4,_,32,rfl,R4,by decide,by decide,fun _ p5 H5 e5 k5 R5=>?_,fun p5 H5 e5 R5=>q2 p5 H5 (er (then_no e5)) R5⟩
     rw [then_ok e5] at er eq
     obtain ⟨dx5,hR,hS,hne⟩:=R5
     have hR2:=hR
     have R5:Rdr K a H5 r ta bs p5:=⟨dx5,hR,hS,hne⟩
     walk_at "wk"
     refine ⟨rf_take_number _ _,r,ta,bs,p5,x,VhPage.LARGEST,rfl,R5,big,fun y p6 H6 e6 hxy hy k6 R6=>?_,fun p6 H6 e6 R6=>q2 p6 H6 (er (num_bad e6 fun x hd=>byte_digit hd)) R6⟩
     rw [then_ok e6] at er eq
     obtain ⟨dx6,hR,hS,hne⟩:=R6
     have hR2:=hR
     have R6:Rdr K a H6 r ta bs p6:=⟨dx6,hR,hS,hne⟩
     walk_at "wk"
     refine ⟨rf_take _ _,r,ta,bs,p6,_,32,rfl,R6,by decide,by decide,fun _ p7 H7 e7 k7 R7=>?_,fun p7 H7 e7 R7=>q2 p7 H7 (er (then_no e7)) R7⟩
     rw [then_ok e7] at er eq
     obtain ⟨dx7,hR,hS,hne⟩:=R7
     have hR2:=hR
     have R7:Rdr K a H7 r ta bs p7:=⟨dx7,hR,hS,hne⟩
     walk_at "wk"
     refine ⟨rf_take_number _ _,r,ta,bs,p7,0,2,rfl,R7,by decide,fun z p8 H8 e8 _ hz k8 R8=>?_,fun p8 H8 e8 R8=>q2 p8 H8 (er (num_bad e8 fun x hd=>byte_digit hd)) R8⟩
     rw [then_ok e8] at er eq
     obtain ⟨dx8,hR,hS,hne⟩:=R8
     have hR2:=hR
     have R8:Rdr K a H8 r ta bs p8:=⟨dx8,hR,hS,hne⟩
     walk_at "wk"
     refine ⟨rf_take _ _,r,ta,bs,p8,_,10,rfl,R8,by decide,by decide,fun _ p9 H9 e9 k9 R9=>?_,fun p9 H9 e9 R9=>q2 p9 H9 (er (then_no e9)) R9⟩
     rw [then_ok e9,cons_then] at eq
     have k29:Kp [r] H2 H9:=((((((k3.trans k4).trans k5).trans k6).trans k7).trans k8).trans k9)
     have hWk:H9 wk=some (.ins a.CW dw (wf s aR aH aP aW aS aE)):=k29 _ _ hWk (by simp [Ne.symm rwk])
     have hWk2:=hWk
     have hu9:H9 aR=some (.lst us):=k29 _ _ hu (by simp [Ne.symm raR])
     walk_at "wk"
     refine ⟨.inl ⟨rfl,_,.inl (.inl hu9)⟩,by decide,fun t ht=>⟨us,by rw [upd_ne (ne_of_none hu9 ht)];exact hu9,by rw [← hlen];exact Nat.lt_of_le_of_lt x64 (by decide),64-(xs.length+1),by lia,?_⟩⟩
     rw [hW]
     have taR':t≠aR:=Ne.symm (ne_of_none hu9 ht)
     have tr':t≠r:=fun z=>by obtain ⟨_,h,_⟩:=R9;rw [z,h] at ht;cases ht
     have k9':Kp [r,aR] H H9:=k2.trans (k29.mono (by simp))
     have ht0:H t=none:=k9'.free (by simp [taR',tr']) ht
     have kF:Kp [r,aR] H (upd (upd H9 t (HO.tup [V.int (x:Int),V.int (y:Int),V.int (z:Int)])) aR (HO.lst (us++[V.ref t]))):=(k9'.put2 (.inr ht0)).put2 (.inl (by simp))
     obtain ⟨dx9,a1,a2,a3⟩:=R9
     refine ⟨xs++[(x,y,z)],us++[.ref t],y+1,p9,_,_,_,rfl,upd_same,Paired.snoc (Paired.mapP hP ?_) ⟨t,rfl,by rw [upd_ne taR',upd_same],ht0⟩,
      ⟨dx9,by rw [upd_ne raR,upd_ne (Ne.symm tr')];exact a1,kF.seq (by simp [hne,taR]) hS0,hne⟩,kF,by simp;lia,?_,by simp⟩
     ·rintro q v ⟨b,rfl,hb,hb0⟩
      have br:b≠r:=fun z=>by obtain ⟨_,h,_⟩:=R;rw [z,h] at hb0;cases hb0
      have baR:b≠aR:=fun z=>by rw [z,haR] at hb0;cases hb0
      have hb9:=k29 _ _ hb (by simp [br])
      exact ⟨b,rfl,by rw [upd_ne baR,upd_ne (ne_of_none hb9 ht)];exact hb9,hb0⟩
     ·rw [eq,preO_pre]
      simp
  ·rw [if_neg (by simpa using h40)]
   exact fin (.inr (.inl h40))
end
section
variable {P:Program}{w:World}{K:PySem.W.Frag}{mg:Str→Option Value}{base:Heap}{a:Ad}
def TPair (H H':Hp) (x:Nat×Nat) (v:V):Prop:=∃ t,v=.ref t∧H' t=some (.tup [.int (x.1:Int),.int (x.2:Int)])∧H t=none
theorem bytes_at {bs:List UInt8}{p p':Nat}{c:UInt8}{x:Unit} (h:pk bs p=c.toNat) (e:Vh.byte_ c p (bs.drop p)=.ok (x,p',bs.drop p')):p'=p+1:=by
 rw [byte_ok h] at e
 injection e with e;injection e with _ e;injection e with e _
 exact e.symm
def sp_read_paragraphs (K:PySem.W.Frag) (a:Ad):Sp:=fun vs H Q E=>∃ (r ta wk dw:Addr) (bs:List UInt8) (p:Nat) (s:VhPage.Settings) (aR aH aP aW aS aE:Addr),vs=[.ref r,.ref wk]∧Rdr K a H r ta bs p∧WkAt a H wk dw s aR aH aP aW aS aE∧H aP=some (.lst [])∧H aW=some (.lst [])∧aP≠aW∧r≠wk∧ta≠aP∧ta≠aW ∧
 (∀ xs us vs p' H',VhPage.paras_ 4096 8192 p (bs.drop p)=.ok (xs,p',bs.drop p')→xs.flatten.length≤8192→Kp [r,aP,aW] H H'→H' aW=some (.lst us)→Paired (LN H H') xs.flatten us→H' aP=some (.lst vs)→Paired (TPair H H') (spans 0 xs) vs→Rdr K a H' r ta bs p'→Q .non H') ∧
 ∀ p' H',VhPage.paras_ 4096 8192 p (bs.drop p)=.error p'→Rdr K a H' r ta bs p'→E (.ref a.CE) none H'
abbrev s_read_paragraphs:Stmt:=top 30
theorem sc_read_paragraphs:FnScope ["reader","work","first"] ["reader","work"] (defScope s_read_paragraphs):=⟨rfl,rfl,rfl,by decide +kernel,rfl,by decide +kernel,by decide +kernel⟩
theorem ok_read_paragraphs {f:Addr}{fd:FuncData} (F:Fun K "read_paragraphs" "read_paragraphs" s_read_paragraphs f fd) (T:Txt K mg a) (c_Reader_sees:MethC P w K mg base CX0 2 a.CR "sees" ["self","sign"] (sp_Reader_sees K a)) (c_Reader_take:MethC P w K mg base (CX1 P w a.CE) 3 a.CR "take" ["self","sign"] (sp_Reader_take K a)) (c_Reader_take_things:MethC P w K mg base (CX1 P w a.CE) 5 a.CR "take_things" ["self","most_things","most","marks"] (sp_Reader_take_things K a)):FnOk P w K mg base (CX1 P w a.CE) 6 f fd ["reader","work"] (sp_read_paragraphs K a):=by
 refine F.okE sc_read_paragraphs (fun vs H Q E h=>?_) (fun cdv A outer s H vs Q E hr h=>?_)
 ·obtain ⟨r,ta,wk,dw,bs,p,s,aR,aH,aP,aW,aS,aE,rfl,⟨dx,hR,hS,hne⟩,hWk,haP,haW,aPW,rwk,taP,taW,q1,q2⟩:=h
  rfl
 ·obtain ⟨r,ta,wk,dw,bs,p,s,aR,aH,aP,aW,aS,aE,rfl,⟨dx,hR,hS,hne⟩,hWk,haP,haW,aPW,rwk,taP,taW,q1,q2⟩:=h
  have nd:=sc_read_paragraphs.nd
  refine ⟨_,(pss_one (ps_while PassesOwn.leaving (PW.pt (pw_and (pt_val (pe_methC (pv 0) T.clReader c_Reader_sees hr pass0 (pa_cons pe_str pa_nil))) (pw_and (pt_cmpR op_lt (pe_callB call_len_seq rfl T.len PySem.boot_len (pa_cons (pe_fld (pv 1) rfl) pa_nil)) (pe_gint T.cMOST_PARAGRAPHS) (nomark _)) (pw_and1 (pt_cmpR op_lt (pe_callB call_len_seq rfl T.len PySem.boot_len (pa_cons (pe_fld (pv 1) rfl) pa_nil)) (pe_gint T.cMOST_WORDS) (nomark _)))))) (pss_cons (ps_expr (pe_methC (pv 0) T.clReader c_Reader_take hr passX (pa_cons pe_str pa_nil))) (pss_cons (ps_set (i:=2) nd rfl (Or.inl rfl) (pe_callB call_len_seq rfl T.len PySem.boot_len (pa_cons (pe_fld (pv 1) rfl) pa_nil))) (pss_cons (ps_expr (pe_bm PySem.F.plainAttrs_list PySem.F.slot_list_extend PySem.F.type_list_extend mt_extend (pe_fld (pv 1) rfl) (pa_cons (pe_methC (pv 0) T.clReader c_Reader_take_things hr passX (pa_cons (pe_op op_sub (pe_gint T.cMOST_WORDS) (pv 2)) (pa_cons (pe_gint T.cMOST_LETTERS) (pa_cons (pe_tup pa_nil) pa_nil)))) pa_nil))) (pss_cons (ps_expr (pe_bm PySem.F.plainAttrs_list PySem.F.slot_list_append PySem.F.type_list_append mt_append (pe_fld (pv 1) rfl) (pa_cons (pe_tup (pa_cons (pv 2) (pa_cons (pe_callB call_len_seq rfl T.len PySem.boot_len (pa_cons (pe_fld (pv 1) rfl) pa_nil)) pa_nil))) pa_nil))) (pss_one (ps_expr (pe_methC (pv 0) T.clReader c_Reader_take hr passX (pa_cons pe_str pa_nil)))))))))),?_⟩
  have hR2:=hR
  have hWk:H wk=some (.ins a.CW dw (wf s aR aH aP aW aS aE)):=hWk
  have hWk2:=hWk
  have hWk0:=hWk
  have R:Rdr K a H r ta bs p:=⟨dx,hR,hS,hne⟩
  have hS0:=hS
  have raP:r≠aP:=ne_of hR haP (by intro z;cases z)
  have raW:r≠aW:=ne_of hR haW (by intro z;cases z)
  have wkaP:wk≠aP:=ne_of hWk haP (by intro z;cases z)
  have wkaW:wk≠aW:=ne_of hWk haW (by intro z;cases z)
  obtain ⟨W,hW⟩:∃ W:WT,W=fun m σ H'=>∃ (xs:List (List (List Nat))) (us vs:List V) (p':Nat) (o:Option V),σ=[some (.ref r),some (.ref wk),o]∧H' aW=some (.lst us)∧Paired (LN H H') xs.flatten us∧H' aP=some (.lst vs)∧Paired (TPair H H') (spans 0 xs) vs∧Rdr K a H' r ta bs p'∧Kp [r,aP,aW] H H'∧xs.length≤4096∧xs.flatten.length≤8192 ∧
   VhPage.paras_ 4096 8192 p (bs.drop p)=preO xs (VhPage.paras_ (4096-xs.length) (8192-xs.flatten.length) p' (bs.drop p'))∧m=4096-xs.length:=⟨_,rfl⟩
  refine ⟨W,⟨_,by
   rw [hW]
   exact ⟨[],[],[],p,none,rfl,haW,.nil,haP,.nil,R,Kp.refl,by simp,by simp,by rw [preO_nil];rfl,rfl⟩⟩,fun m σ H2 hw=>?_⟩
  rw [hW] at hw
  obtain ⟨xs,us,vs,p2,o,rfl,hu,hPu,hv,hPv,⟨dx2,hR,hS,hne⟩,k2,x1,x2,eq,rfl⟩:=hw
  have hR2:=hR
  have R2:Rdr K a H2 r ta bs p2:=⟨dx2,hR,hS,hne⟩
  have hlu:=Paired.length hPu
  have hlv:=Paired.length hPv
  rw [spans_len] at hlv
  have hWk:H2 wk=some (.ins a.CW dw (wf s aR aH aP aW aS aE)):=k2 _ _ hWk0 (by simp [Ne.symm rwk,wkaP,wkaW])
  have hWk2:=hWk
  have fin:(4096-xs.length=0∨pk bs p2≠62∨8192-xs.flatten.length=0)→Q .non H2:=fun h=>by
   refine q1 xs us vs p2 H2 ?_ x2 k2 hu hPu hv hPv R2
   rw [eq,paras_stop h]
   show Except.ok (xs++[],_,_)=_
   rw [List.append_nil]
  walk_at "wk"
  refine ⟨rf_sees _ _,r,ta,bs,p2,_,62,rfl,R2,by decide,by decide,?_⟩
  walk_at "wk"
  by_cases h62:pk bs p2=62
  ·rw [if_pos (by simpa using h62)]
   refine ⟨_,.inl (.inl (.inl hv)),?_⟩
   rw [← hlv]
   by_cases hfull:xs.length=4096
   ·rw [if_neg (by lia)]
    exact fin (.inl (by lia))
   ·rw [if_pos (by lia)]
    refine ⟨_,.inl (.inl (.inl hu)),?_⟩
    rw [← hlu]
    by_cases hbig:xs.flatten.length=8192
    ·rw [if_neg (by lia)]
     exact fin (.inr (.inr (by lia)))
    ·rw [if_pos (by lia)]
     refine ⟨fun σ' H'=>∃ m',m' < 4096-xs.length∧W m' σ' H',fun _ _ z=>z,?_⟩
     have ex:4096-xs.length=(4096-(xs.length+1))+1:=by lia
     rw [ex,paras_go h62 (by lia)] at eq
     have er:∀ {i:Nat},VhPage.row_ (VhPage.someChars_ [] 64) (8192-xs.flatten.length) (p2+1) (bs.drop (p2+1))=.error i→VhPage.paras_ 4096 8192 p (bs.drop p)=.error i:=fun h=>by rw [eq,then_no h];rfl
     refine ⟨rf_take _ _,r,ta,bs,p2,_,62,rfl,R2,by decide,by decide,fun _ p3 H3 e3 k3 R3=>?_,fun p3 H3 e3 R3=>by rw [byte_ok (c:=62) h62] at e3;cases e3⟩
     have ep:=bytes_at (c:=62) h62 e3
     subst ep
     obtain ⟨dx3,hR,hS,hne⟩:=R3
     have hR2:=hR
     have R3:Rdr K a H3 r ta bs (p2+1):=⟨dx3,hR,hS,hne⟩
     have hWk:H3 wk=some (.ins a.CW dw (wf s aR aH aP aW aS aE)):=k3 _ _ hWk (by simp [Ne.symm rwk])
     have hWk2:=hWk
     have hu3:H3 aW=some (.lst us):=k3 _ _ hu (by simp [Ne.symm raW])
     have hv3:H3 aP=some (.lst vs):=k3 _ _ hv (by simp [Ne.symm raP])
     walk_at "wk"
     refine ⟨_,.inl (.inl (.inl hu3)),.inl ⟨rfl,_,.inl (.inl hu3)⟩,rf_take_things _ _,by decide,fun t ht=>?_⟩
     have tr:t≠r:=fun z=>by rw [z,hR] at ht;cases ht
     have kt:Kp [r] H3 (upd H3 t (HO.tup [])):=Kp.new ht
     have hR:upd H3 t (HO.tup []) r=some (HO.ins a.CR dx3 (rf ta ((p2+1:Nat):Int))):=by rw [upd_ne (Ne.symm tr)];exact hR
     have R4:Rdr K a (upd H3 t (HO.tup [])) r ta bs (p2+1):=Rdr.move (dx:=dx3) hS hne kt hR
     have hR2:=hR
     have e8:(8192:Int)-(us.length:Int)=((8192-xs.flatten.length:Nat):Int):=by rw [← hlu];lia
     rw [e8]
     have mk0:MkOk K (upd H3 t (HO.tup [])) r t []:=⟨fun H' k'=>.inl (.inl (k' _ _ upd_same (by simp [tr]))),fun c hc=>absurd hc (by simp)⟩
     refine ⟨r,t,ta,bs,[],p2+1,8192-xs.flatten.length,64,rfl,R4,mk0,by lia,by lia,by lia,by lia,fun ys ws p5 H5 l5 e5 y1 y2 y3 hl5 k5 hl5' hPw R5=>?_,fun p5 H5 e5 R5=>q2 p5 H5 (er e5) R5⟩
     have k25:Kp [r] H2 H5:=(k3.trans kt).trans k5
     have hu5:H5 aW=some (.lst us):=k25 _ _ hu (by simp [Ne.symm raW])
     have hv5:H5 aP=some (.lst vs):=k25 _ _ hv (by simp [Ne.symm raP])
     have lW:aW≠l5:=fun z=>by
      rw [← z,upd_ne (ne_of_none hu3 ht),hu3] at hl5
      cases hl5
     have hlw:=Paired.length hPw
     refine ⟨l5,rfl,us,hu5,ws,hl5',by rw [← hlu,← hlw];exact Nat.le_trans (show _≤8192 by lia) (by decide),?_⟩
     -- behind extend
     have k25':Kp [r,aP,aW] H H5:=k2.trans (k25.mono (by simp))
     have kE:Kp [r,aP,aW] H (upd H5 aW (HO.lst (us++ws))):=k25'.put2 (.inl (by simp))
     obtain ⟨dx5,hR,hS,hne⟩:=R5
     have hR:upd H5 aW (HO.lst (us++ws)) r=some (HO.ins a.CR dx5 (rf ta (p5:Int))):=by rw [upd_ne raW];exact hR
     have hR2:=hR
     have hWk:upd H5 aW (HO.lst (us++ws)) wk=some (.ins a.CW dw (wf s aR aH aP aW aS aE)):=by rw [upd_ne wkaW];exact k25 _ _ (k2 _ _ hWk0 (by simp [Ne.symm rwk,wkaP,wkaW])) (by simp [Ne.symm rwk])
     have hWk2:=hWk
     have hv6:upd H5 aW (HO.lst (us++ws)) aP=some (.lst vs):=by rw [upd_ne aPW];exact hv5
     walk_at "wk"
     refine ⟨.inl ⟨rfl,_,.inl (.inl hv6)⟩,_,.inl (.inl (.inl upd_same)),by decide,fun t2 ht2=>⟨vs,by rw [upd_ne (ne_of_none hv6 ht2)];exact hv6,by rw [← hlv];exact Nat.lt_of_le_of_lt x1 (by decide),?_⟩⟩
     have t2P:t2≠aP:=Ne.symm (ne_of_none hv6 ht2)
     have t2W:t2≠aW:=fun z=>by rw [z,upd_same] at ht2;cases ht2
     have t2r:t2≠r:=fun z=>by rw [z,hR] at ht2;cases ht2
     have ht20:H t2=none:=kE.free (by simp [t2P,t2W,t2r]) ht2
     generalize hG:upd (upd (upd H5 aW (HO.lst (us++ws))) t2 (HO.tup [V.int (us.length:Int),V.int ((us++ws).length:Int)])) aP (HO.lst (vs++[V.ref t2]))=G
     have kG:Kp [r,aP,aW] H G:=by rw [← hG];exact (kE.put2 (.inr ht20)).put2 (.inl (by simp))
     have GR:G r=some (HO.ins a.CR dx5 (rf ta (p5:Int))):=by rw [← hG,upd_ne raP,upd_ne (Ne.symm t2r)];exact hR
     have RG:Rdr K a G r ta bs p5:=⟨dx5,GR,kG.seq (by simp [hne,taP,taW]) hS0,hne⟩
     have GW:G aW=some (.lst (us++ws)):=by rw [← hG,upd_ne (Ne.symm aPW),upd_ne (Ne.symm t2W),upd_same]
     have GP:G aP=some (.lst (vs++[V.ref t2])):=by rw [← hG,upd_same]
     have Gt:G t2=some (.tup [V.int (us.length:Int),V.int ((us++ws).length:Int)]):=by rw [← hG,upd_ne t2P,upd_same]
     have keep:∀ b o,H5 b=some o→b≠aW→b≠aP→G b=some o:=fun b o e n1 n2=>by
      have e6:upd H5 aW (HO.lst (us++ws)) b=some o:=by rw [upd_ne n1];exact e
      rw [← hG,upd_ne n2,upd_ne (ne_of_none e6 ht2)]
      exact e6
     clear hG
     have hR:=GR
     have hR2:=hR
     walk_at "wk"
     refine ⟨rf_take _ _,r,ta,bs,p5,_,10,rfl,RG,by decide,by decide,fun _ p6 H6 e6 k6 R6=>?_,fun p6 H6 e6 R6=>?_⟩
     ·have h10:pk bs p5=10:=by
       apply Decidable.byContradiction
       intro z
       rw [byte_no (c:=10) z] at e6
       cases e6
      have ep:=bytes_at (c:=10) h10 e6
      subst ep
      rw [if_pos h10] at e5
      rw [then_ok e5,cons_then] at eq
      refine ⟨4096-(xs.length+1),by lia,?_⟩
      rw [hW]
      have k6':Kp [r,aP,aW] H H6:=kG.trans (k6.mono (by simp))
      have fr:∀ b,H b=none→b≠r∧b≠aP∧b≠aW:=fun b hb=>⟨fun z=>(by obtain ⟨_,h,_⟩:=R;rw [z,h] at hb;cases hb),fun z=>(by rw [z,haP] at hb;cases hb),fun z=>(by rw [z,haW] at hb;cases hb)⟩
      refine ⟨xs++[ys],us++ws,vs++[.ref t2],p5+1,_,rfl,k6 _ _ GW (by simp [Ne.symm raW]),?_,k6 _ _ GP (by simp [Ne.symm raP]),?_,R6,k6',by simp;lia,?_,?_,by simp⟩
      ·rw [List.flatten_append,List.flatten_cons,List.flatten_nil,List.append_nil]
       refine Paired.app (Paired.mapP hPu ?_) (Paired.mapP hPw ?_)
       ·rintro q v ⟨b,rfl,hb,hb0⟩
        obtain ⟨n1,n2,n3⟩:=fr b hb0
        exact ⟨b,rfl,k6 _ _ (keep _ _ (k25 _ _ hb (by simp [n1])) n3 n2) (by simp [n1]),hb0⟩
       ·rintro q v ⟨b,rfl,hb,hb0⟩
        have br:b≠r:=fun z=>by obtain ⟨_,h,_⟩:=R4;rw [z,h] at hb0;cases hb0
        have hb3:H3 b=none:=kt.free (by simpa using br) hb0
        have bP:b≠aP:=fun z=>by rw [z,hv3] at hb3;cases hb3
        have bW:b≠aW:=fun z=>by rw [z,hu3] at hb3;cases hb3
        exact ⟨b,rfl,k6 _ _ (keep _ _ hb bW bP) (by simp [br]),(k2.trans (k3.mono (by simp))).free (by simp [br,bP,bW]) hb3⟩
      ·rw [spans_snoc]
       refine Paired.snoc (Paired.mapP hPv ?_) ⟨t2,rfl,?_,ht20⟩
       ·rintro q v ⟨b,rfl,hb,hb0⟩
        obtain ⟨n1,n2,n3⟩:=fr b hb0
        exact ⟨b,rfl,k6 _ _ (keep _ _ (k25 _ _ hb (by simp [n1])) n3 n2) (by simp [n1]),hb0⟩
       ·have:=k6 _ _ Gt (by simp [t2r])
        rw [this,List.length_append,← hlu,← hlw]
        simp
      ·rw [List.flatten_append,List.length_append,List.flatten_cons,List.flatten_nil,List.append_nil];lia
      ·rw [eq,preO_pre]
       simp [Nat.sub_sub,Nat.add_comm]
     ·by_cases h10:pk bs p5=10
      ·rw [byte_ok (c:=10) h10] at e6
       cases e6
      ·rw [byte_no (c:=10) h10] at e6
       injection e6 with e6
       subst e6
       rw [if_neg h10] at e5
       exact q2 _ H6 (er e5) R6
  ·rw [if_neg (by simpa using h62)]
   exact fin (.inr (.inl h62))
end
section
variable {P:Program}{w:World}{K:PySem.W.Frag}{mg:Str→Option Value}{base:Heap}{a:Ad}
theorem bsV_marks:bsV VhPage.MARKBYTES=marksI.map V.int:=by decide +kernel
theorem mkMarks (T:Txt K mg a) (H:Hp) (r:Addr):MkOk K H r a.aMARKS VhPage.MARKBYTES:=⟨fun H' _=>by rw [bsV_marks];exact T.tMARKS H',by decide +kernel⟩
theorem mkCaret (T:Txt K mg a) (H:Hp) (r:Addr):MkOk K H r a.aCARET [94]:=⟨fun H' _=>T.tCARET H',by decide +kernel⟩
def sp_read_tokens (K:PySem.W.Frag) (a:Ad):Sp:=fun vs H Q E=>∃ (r ta:Addr) (bs:List UInt8) (p n:Nat),vs=[.ref r,.int (n:Int)]∧Rdr K a H r ta bs p∧n≤8192 ∧
 (∀ xs us p' H' l,VhPage.tokens_ n p (bs.drop p)=(if pk bs p'=10 then .ok (xs,p'+1,bs.drop (p'+1)) else .error p')→xs.length≤n→H l=none→Kp [r] H H'→H' l=some (.lst us)→Paired (LN H H') xs us→Rdr K a H' r ta bs p'→Q (.ref l) H') ∧
 ∀ p' H',VhPage.tokens_ n p (bs.drop p)=.error p'→Rdr K a H' r ta bs p'→E (.ref a.CE) none H'
abbrev s_read_tokens:Stmt:=top 32
theorem sc_read_tokens:FnScope ["reader","most","tokens"] ["reader","most"] (defScope s_read_tokens):=⟨rfl,rfl,rfl,by decide +kernel,rfl,by decide +kernel,by decide +kernel⟩
theorem ok_read_tokens {f:Addr}{fd:FuncData} (F:Fun K "read_tokens" "read_tokens" s_read_tokens f fd) (T:Txt K mg a) (c_Reader_sees:MethC P w K mg base CX0 2 a.CR "sees" ["self","sign"] (sp_Reader_sees K a)) (c_Reader_take:MethC P w K mg base (CX1 P w a.CE) 3 a.CR "take" ["self","sign"] (sp_Reader_take K a)) (c_Reader_take_thing:MethC P w K mg base (CX1 P w a.CE) 4 a.CR "take_thing" ["self","most","marks"] (sp_Reader_take_thing K a)):FnOk P w K mg base (CX1 P w a.CE) 5 f fd ["reader","most"] (sp_read_tokens K a):=by
 refine F.okE sc_read_tokens (fun vs H Q E h=>?_) (fun cdv A outer s H vs Q E hr h=>?_)
 ·obtain ⟨r,ta,bs,p,n,rfl,⟨dx,hR,hS,hne⟩,hn,q1,q2⟩:=h
  rfl
 ·obtain ⟨r,ta,bs,p,n,rfl,⟨dx,hR,hS,hne⟩,hn,q1,q2⟩:=h
  have nd:=sc_read_tokens.nd
  refine ⟨_,(pss_cons (ps_set (i:=2) nd rfl (Or.inl rfl) (pe_lst pa_nil)) (pss_cons (ps_while PassesOwn.leaving (PW.pt (pw_and (pt_val (pe_methC (pv 0) T.clReader c_Reader_sees hr pass0 (pa_cons pe_str pa_nil))) (pw_and1 (pt_cmpR op_lt (pe_callB call_len_seq rfl T.len PySem.boot_len (pa_cons (pv 2) pa_nil)) (pv 1) (nomark _))))) (pss_cons (ps_expr (pe_methC (pv 0) T.clReader c_Reader_take hr passX (pa_cons pe_str pa_nil))) (pss_cons (ps_if (PW.pt (pw_or (pt_val (pe_methC (pv 0) T.clReader c_Reader_sees hr pass0 (pa_cons pe_str pa_nil))) (pw_or1 (pt_val (pe_methC (pv 0) T.clReader c_Reader_sees hr pass0 (pa_cons pe_str pa_nil)))))) (pss_one (ps_raise T.exc rfl (pa_cons pe_str pa_nil))) pss_nil) (pss_one (ps_expr (pe_bm PySem.F.plainAttrs_list PySem.F.slot_list_append PySem.F.type_list_append mt_append (pv 2) (pa_cons (pe_methC (pv 0) T.clReader c_Reader_take_thing hr passX (pa_cons (pe_gint T.cMOST_LETTERS) (pa_cons (pe_gref T.cMARKS) pa_nil))) pa_nil))))))) (pss_one (ps_ret (pv 2))))),?_⟩
  have hR2:=hR
  have R:Rdr K a H r ta bs p:=⟨dx,hR,hS,hne⟩
  have hS0:=hS
  walk_at "rdr"
  refine ⟨by decide,fun l hl=>?_⟩
  have lr:l≠r:=fun z=>by rw [z,hR] at hl;cases hl
  have k0:Kp [r] H (upd H l (HO.lst [])):=Kp.new hl
  have R0:Rdr K a (upd H l (HO.lst [])) r ta bs p:=Rdr.move (dx:=dx) hS hne k0 (by rw [upd_ne (Ne.symm lr)];exact hR)
  obtain ⟨W,hW⟩:∃ W:WT,W=fun m σ H'=>∃ (xs:List (List Nat)) (us:List V) (p':Nat),σ=[some (.ref r),some (.int (n:Int)),some (.ref l)]∧H' l=some (.lst us)∧Paired (fun x v=>LN H H' x v∧v≠.ref l) xs us∧Rdr K a H' r ta bs p'∧Kp [r] H H'∧xs.length≤n ∧
   VhPage.tokens_ n p (bs.drop p)=preO xs (rowTail VhPage.token_ (n-xs.length) p' (bs.drop p'))∧m=n-xs.length:=⟨_,rfl⟩
  refine ⟨W,⟨_,by
   rw [hW]
   exact ⟨[],[],p,rfl,upd_same,.nil,R0,k0,by simp,by rw [preO_nil];rfl,rfl⟩⟩,fun m σ H2 hw=>?_⟩
  rw [hW] at hw
  obtain ⟨xs,us,p2,rfl,hl2,hP,⟨dx2,hR,hS,hne⟩,k2,x2,eq,rfl⟩:=hw
  have hR2:=hR
  have R2:Rdr K a H2 r ta bs p2:=⟨dx2,hR,hS,hne⟩
  have hlen:=Paired.length hP
  have fin:(xs.length=n∨pk bs p2≠32)→Q (.ref l) H2:=fun h=>by
   refine q1 xs us p2 H2 l ?_ x2 hl k2 hl2 (Paired.mapP hP fun _ _ z=>z.1) R2
   rw [eq]
   by_cases h10:pk bs p2=10
   ·rw [tail10 h10,if_pos h10]
    show Except.ok (xs++[],_,_)=_
    rw [List.append_nil]
   ·rw [tail_no h10 (h.imp (fun z=>by lia) id),if_neg h10]
    rfl
  walk_at "rdr"
  refine ⟨rf_sees _ _,r,ta,bs,p2,_,32,rfl,R2,by decide,by decide,?_⟩
  walk_at "rdr"
  by_cases h32:pk bs p2=32
  ·rw [if_pos (by simpa using h32)]
   refine ⟨_,.inl (.inl (.inl hl2)),?_⟩
   rw [← hlen]
   by_cases hfull:xs.length=n
   ·rw [if_neg (by lia)]
    exact fin (.inl hfull)
   ·rw [if_pos (by lia)]
    refine ⟨fun σ' H'=>∃ m',m' < n-xs.length∧W m' σ' H',fun _ _ z=>z,?_⟩
    have ex:n-xs.length=(n-(xs.length+1))+1:=by lia
    have eqt:VhPage.tokens_ n p (bs.drop p)=preO xs (VhPage.row_ VhPage.token_ (n-xs.length) (p2+1) (bs.drop (p2+1))):=by rw [eq,tail32 h32 (by lia)]
    refine ⟨rf_take _ _,r,ta,bs,p2,_,32,rfl,R2,by decide,by decide,fun _ p3 H3 e3 k3 R3=>?_,fun p3 H3 e3 R3=>by rw [byte_ok (c:=32) h32] at e3;cases e3⟩
    have ep:=bytes_at (c:=32) h32 e3
    subst ep
    obtain ⟨dx3,hR,hS,hne⟩:=R3
    have hR2:=hR
    have R3:Rdr K a H3 r ta bs (p2+1):=⟨dx3,hR,hS,hne⟩
    have hl3:H3 l=some (.lst us):=k3 _ _ hl2 (by simpa using lr)
    have no:(pk bs (p2+1)=91∨pk bs (p2+1)=35)→E (.ref a.CE) none H3:=fun h=>q2 (p2+1) H3 (by rw [eqt,ex,row_err (token_no h)];rfl) R3
    walk_at "rdr"
    refine ⟨rf_sees _ _,r,ta,bs,p2+1,_,91,rfl,R3,by decide,by decide,?_⟩
    walk_at "rdr"
    by_cases h91:pk bs (p2+1)=91
    ·rw [if_pos (by simpa using h91)]
     exact ⟨by decide,no (.inl h91)⟩
    ·rw [if_neg (by simpa using h91)]
     refine ⟨rf_sees _ _,r,ta,bs,p2+1,_,35,rfl,R3,by decide,by decide,?_⟩
     walk_at "rdr"
     by_cases h35:pk bs (p2+1)=35
     ·rw [if_pos (by simpa using h35)]
      exact ⟨by decide,no (.inr h35)⟩
     ·rw [if_neg (by simpa using h35)]
      have tok:=token_ok (bs:=bs) (p:=p2+1) h91 h35
      refine ⟨.inl ⟨rfl,_,.inl (.inl hl3)⟩,rf_take_thing _ _,r,_,ta,bs,VhPage.MARKBYTES,p2+1,64,rfl,R3,mkMarks T H3 r,by decide,by decide,fun x p4 H4 l4 e4 y2 y1 hl4 l4r k4 hx4 R4=>?_,fun p4 H4 e4 R4=>?_⟩
      ·have hl4':H4 l=some (.lst us):=k4 _ _ hl3 (by simpa using lr)
       have ne4:l4≠l:=fun z=>by rw [z,hl3] at hl4;cases hl4
       rw [← tok] at e4
       refine ⟨_,hl4',?_,n-(xs.length+1),by lia,?_⟩
       ·rw [← hlen];exact Nat.lt_of_le_of_lt (show xs.length≤8192 by lia) (by decide)
       ·rw [hW]
        have k5:Kp [r] H (upd H4 l (HO.lst (us++[V.ref l4]))):=((k2.trans k3).trans k4).put2 (.inr hl)
        have R5:Rdr K a (upd H4 l (HO.lst (us++[V.ref l4]))) r ta bs p4:=by
         obtain ⟨dx1,a1,a2,a3⟩:=R4
         exact ⟨dx1,by rw [upd_ne (Ne.symm lr)];exact a1,k5.seq (by simpa using hne) hS0,hne⟩
        refine ⟨xs++[x],us++[.ref l4],p4,rfl,upd_same,Paired.snoc (Paired.mapP hP ?_) ⟨⟨l4,rfl,by rw [upd_ne ne4];exact hx4,(k2.trans k3).free (by simpa using l4r) hl4⟩,fun z=>ne4 (V.ref.inj z)⟩,R5,k5,by simp;lia,?_,by simp⟩
        ·rintro y v ⟨⟨b,rfl,hb,hb0⟩,nb⟩
         have br:b≠r:=fun z=>by
          obtain ⟨_,h,_⟩:=R
          rw [z,h] at hb0;cases hb0
         have nb:b≠l:=fun z=>nb (by rw [z])
         exact ⟨⟨b,rfl,by rw [upd_ne nb];exact k4 _ _ (k3 _ _ hb (by simpa using br)) (by simpa using br),hb0⟩,fun z=>nb (V.ref.inj z)⟩
        ·rw [eqt,ex,row_ok e4,preO_pre]
         simp
      ·refine q2 p4 H4 ?_ R4
       rw [← tok] at e4
       rw [eqt,ex]
       rcases e4 with e4 | ⟨x,e4,hb⟩
       ·rw [row_err e4];rfl
       ·rw [row_ok e4,tail_no hb.2 (.inr hb.1)];rfl
  ·rw [if_neg (by simpa using h32)]
   exact fin (.inr h32)
def TEnt (H H':Hp) (x:VhPage.Entry) (v:V):Prop:=∃ t l us,v=.ref t∧H' t=some (.tup [.int (x.first:Int),.int (x.count:Int),.ref l])∧H t=none∧H' l=some (.lst us)∧H l=none∧Paired (LN H H') x.toks us
def sp_read_entries (K:PySem.W.Frag) (a:Ad):Sp:=fun vs H Q E=>∃ (r ta wk dw:Addr) (bs:List UInt8) (p n:Nat) (s:VhPage.Settings) (us:List V) (aR aH aP aW aS aE:Addr),vs=[.ref r,.ref wk]∧Rdr K a H r ta bs p∧WkAt a H wk dw s aR aH aP aW aS aE∧H aE=some (.lst [])∧H aW=some (.lst us)∧us.length=n∧n≤8192∧aE≠aW∧r≠wk∧ta≠aE ∧
 (∀ xs vs p' H',VhPage.entries_ n 4096 0 65536 p (bs.drop p)=.ok (xs,p',bs.drop p')→Kp [r,aE] H H'→H' aE=some (.lst vs)→Paired (TEnt H H') xs vs→Rdr K a H' r ta bs p'→Q .non H') ∧
 ∀ p' H',VhPage.entries_ n 4096 0 65536 p (bs.drop p)=.error p'→Rdr K a H' r ta bs p'→E (.ref a.CE) none H'
abbrev s_read_entries:Stmt:=top 33
theorem sc_read_entries:FnScope ["reader","work","left","first","count","tokens"] ["reader","work"] (defScope s_read_entries):=⟨rfl,rfl,rfl,by decide +kernel,rfl,by decide +kernel,by decide +kernel⟩
theorem ok_read_entries {f:Addr}{fd:FuncData} (F:Fun K "read_entries" "read_entries" s_read_entries f fd) (T:Txt K mg a) (c_Reader_sees:MethC P w K mg base CX0 2 a.CR "sees" ["self","sign"] (sp_Reader_sees K a)) (c_Reader_take:MethC P w K mg base (CX1 P w a.CE) 3 a.CR "take" ["self","sign"] (sp_Reader_take K a)) (c_Reader_take_number:MethC P w K mg base (CX1 P w a.CE) 3 a.CR "take_number" ["self","low","high"] (sp_Reader_take_number K a)) (c_read_tokens:FnC P w K mg base (CX1 P w a.CE) 5 "read_tokens" ["reader","most"] (sp_read_tokens K a)):FnOk P w K mg base (CX1 P w a.CE) 6 f fd ["reader","work"] (sp_read_entries K a):=by
 refine F.okE sc_read_entries (fun vs H Q E h=>?_) (fun cdv A outer s H vs Q E hr h=>?_)
 ·obtain ⟨r,ta,wk,dw,bs,p,n,s,us,aR,aH,aP,aW,aS,aE,rfl,⟨dx,hR,hS,hne⟩,hWk,haE,haW,hun,hn,aEW,rwk,taE,q1,q2⟩:=h
  rfl
 ·obtain ⟨r,ta,wk,dw,bs,p,n,s,us,aR,aH,aP,aW,aS,aE,rfl,⟨dx,hR,hS,hne⟩,hWk,haE,haW,hun,hn,aEW,rwk,taE,q1,q2⟩:=h
  have nd:=sc_read_entries.nd
  refine ⟨_,(pss_cons (ps_set (i:=2) nd rfl (Or.inl rfl) (pe_gint T.cMOST_TOKENS)) (pss_cons (ps_set (i:=3) nd rfl (Or.inl rfl) pe_int) (pss_one (ps_while PassesOwn.leaving (PW.pt (pw_and (pt_val (pe_methC (pv 0) T.clReader c_Reader_sees hr pass0 (pa_cons pe_str pa_nil))) (pw_and (pt_cmpR op_lt (pe_callB call_len_seq rfl T.len PySem.boot_len (pa_cons (pe_fld (pv 1) rfl) pa_nil)) (pe_gint T.cMOST_ENTRIES) (nomark _)) (pw_and1 (pt_cmpR op_gt (pe_callB call_len_seq rfl T.len PySem.boot_len (pa_cons (pe_fld (pv 1) rfl) pa_nil)) pe_int (nomark _)))))) (pss_cons (ps_expr (pe_methC (pv 0) T.clReader c_Reader_take hr passX (pa_cons pe_str pa_nil))) (pss_cons (ps_set (i:=3) nd rfl (Or.inl rfl) (pe_methC (pv 0) T.clReader c_Reader_take_number hr passX (pa_cons (pv 3) (pa_cons (pe_callB call_len_seq rfl T.len PySem.boot_len (pa_cons (pe_fld (pv 1) rfl) pa_nil)) pa_nil)))) (pss_cons (ps_expr (pe_methC (pv 0) T.clReader c_Reader_take hr passX (pa_cons pe_str pa_nil))) (pss_cons (ps_set (i:=4) nd rfl (Or.inl rfl) (pe_methC (pv 0) T.clReader c_Reader_take_number hr passX (pa_cons pe_int (pa_cons (pe_op op_sub (pe_callB call_len_seq rfl T.len PySem.boot_len (pa_cons (pe_fld (pv 1) rfl) pa_nil)) (pv 3)) pa_nil)))) (pss_cons (ps_set (i:=5) nd rfl (Or.inl rfl) (pe_callC c_read_tokens hr passX (pa_cons (pv 0) (pa_cons (pe_callB (call_min2 rfl) rfl T.min boot_min (pa_cons (pv 2) (pa_cons (pe_gint T.cMOST_TOKENS_OF_ENTRY) pa_nil))) pa_nil)))) (pss_cons (ps_expr (pe_methC (pv 0) T.clReader c_Reader_take hr passX (pa_cons pe_str pa_nil))) (pss_cons (ps_expr (pe_bm PySem.F.plainAttrs_list PySem.F.slot_list_append PySem.F.type_list_append mt_append (pe_fld (pv 1) rfl) (pa_cons (pe_tup (pa_cons (pv 3) (pa_cons (pv 4) (pa_cons (pv 5) pa_nil)))) pa_nil))) (pss_one (ps_aug (i:=2) nd rfl (Or.inl rfl) (pe_callB call_len_seq rfl T.len PySem.boot_len (pa_cons (pv 5) pa_nil)) ip_sub))))))))))))),?_⟩
  have hR2:=hR
  have hWk:H wk=some (.ins a.CW dw (wf s aR aH aP aW aS aE)):=hWk
  have hWk2:=hWk
  have hWk0:=hWk
  have R:Rdr K a H r ta bs p:=⟨dx,hR,hS,hne⟩
  have hS0:=hS
  have raE:r≠aE:=ne_of hR haE (by intro z;cases z)
  have raW:r≠aW:=ne_of hR haW (by intro z;cases z)
  have wkaE:wk≠aE:=ne_of hWk haE (by intro z;cases z)
  walk_at "rd"
  obtain ⟨W,hW⟩:∃ W:WT,W=fun m σ H'=>∃ (xs:List VhPage.Entry) (vs:List V) (left fst p':Nat) (o1 o2:Option V),σ=[some (.ref r),some (.ref wk),some (.int (left:Int)),some (.int (fst:Int)),o1,o2]∧H' aE=some (.lst vs)∧Paired (TEnt H H') xs vs∧Rdr K a H' r ta bs p'∧Kp [r,aE] H H'∧xs.length≤4096 ∧
   VhPage.entries_ n 4096 0 65536 p (bs.drop p)=preO xs (VhPage.entries_ n (4096-xs.length) fst left p' (bs.drop p'))∧m=4096-xs.length:=⟨_,rfl⟩
  refine ⟨W,⟨_,by
   rw [hW]
   exact ⟨[],[],65536,0,p,none,none,rfl,haE,.nil,R,Kp.refl,by simp,by rw [preO_nil];rfl,rfl⟩⟩,fun m σ H2 hw=>?_⟩
  rw [hW] at hw
  obtain ⟨xs,vs,left,fst,p2,o1,o2,rfl,hv,hPv,⟨dx2,hR,hS,hne⟩,k2,x1,eq,rfl⟩:=hw
  have hR2:=hR
  have R2:Rdr K a H2 r ta bs p2:=⟨dx2,hR,hS,hne⟩
  have hlv:=Paired.length hPv
  have hWk:H2 wk=some (.ins a.CW dw (wf s aR aH aP aW aS aE)):=k2 _ _ hWk0 (by simp [Ne.symm rwk,wkaE])
  have hWk2:=hWk
  have haW2:H2 aW=some (.lst us):=k2 _ _ haW (by simp [Ne.symm raW,Ne.symm aEW])
  have fin:(4096-xs.length=0∨pk bs p2≠91∨n=0)→Q .non H2:=fun h=>by
   refine q1 xs vs p2 H2 ?_ k2 hv hPv R2
   rw [eq,entries_stop h]
   show Except.ok (xs++[],_,_)=_
   rw [List.append_nil]
  walk_at "wk"
  refine ⟨rf_sees _ _,r,ta,bs,p2,_,91,rfl,R2,by decide,by decide,?_⟩
  walk_at "wk"
  by_cases h91:pk bs p2=91
  ·rw [if_pos (by simpa using h91)]
   refine ⟨_,.inl (.inl (.inl hv)),?_⟩
   rw [← hlv]
   by_cases hfull:xs.length=4096
   ·rw [if_neg (by lia)]
    exact fin (.inl (by lia))
   ·rw [if_pos (by lia)]
    refine ⟨_,.inl (.inl (.inl haW2)),?_⟩
    rw [hun]
    by_cases hz:n=0
    ·rw [if_neg (by lia)]
     exact fin (.inr (.inr hz))
    ·rw [if_pos (by lia)]
     refine ⟨fun σ' H'=>∃ m',m' < 4096-xs.length∧W m' σ' H',fun _ _ z=>z,?_⟩
     have ex:4096-xs.length=(4096-(xs.length+1))+1:=by lia
     rw [ex,entries_go h91 (by lia)] at eq
     have er:∀ {i:Nat},eRow n (4096-(xs.length+1)) fst left (p2+1) (bs.drop (p2+1))=.error i→VhPage.entries_ n 4096 0 65536 p (bs.drop p)=.error i:=fun h=>by rw [eq,h];rfl
     unfold eRow at er eq
     refine ⟨rf_take _ _,r,ta,bs,p2,_,91,rfl,R2,by decide,by decide,fun _ p3 H3 e3 k3 R3=>?_,fun p3 H3 e3 R3=>by rw [byte_ok (c:=91) h91] at e3;cases e3⟩
     have ep:=bytes_at (c:=91) h91 e3
     subst ep
     obtain ⟨dx3,hR,hS,hne⟩:=R3
     have hR2:=hR
     have R3:Rdr K a H3 r ta bs (p2+1):=⟨dx3,hR,hS,hne⟩
     have hWk:H3 wk=some (.ins a.CW dw (wf s aR aH aP aW aS aE)):=k3 _ _ hWk (by simp [Ne.symm rwk])
     have hWk2:=hWk
     have haW3:H3 aW=some (.lst us):=k3 _ _ haW2 (by simp [Ne.symm raW])
     walk_at "wk"
     refine ⟨rf_take_number _ _,_,.inl (.inl (.inl haW3)),r,ta,bs,p2+1,fst,n,by rw [hun],R3,by lia,fun x p4 H4 e4 hx1 hx2 k4 R4=>?_,fun p4 H4 e4 R4=>q2 p4 H4 (er (num_bad e4 fun x hd=>byte_digit hd)) R4⟩
     rw [then_ok e4] at er eq
     obtain ⟨dx4,hR,hS,hne⟩:=R4
     have hR2:=hR
     have R4:Rdr K a H4 r ta bs p4:=⟨dx4,hR,hS,hne⟩
     have hWk:H4 wk=some (.ins a.CW dw (wf s aR aH aP aW aS aE)):=k4 _ _ hWk (by simp [Ne.symm rwk])
     have hWk2:=hWk
     have haW4:H4 aW=some (.lst us):=k4 _ _ haW3 (by simp [Ne.symm raW])
     walk_at "wk"
     refine ⟨rf_take _ _,r,ta,bs,p4,_,32,rfl,R4,by decide,by decide,fun _ p5 H5 e5 k5 R5=>?_,fun p5 H5 e5 R5=>q2 p5 H5 (er (then_no e5)) R5⟩
     rw [then_ok e5] at er eq
     obtain ⟨dx5,hR,hS,hne⟩:=R5
     have hR2:=hR
     have R5:Rdr K a H5 r ta bs p5:=⟨dx5,hR,hS,hne⟩
     have hWk:H5 wk=some (.ins a.CW dw (wf s aR aH aP aW aS aE)):=k5 _ _ hWk (by simp [Ne.symm rwk])
     have hWk2:=hWk
     have haW5:H5 aW=some (.lst us):=k5 _ _ haW4 (by simp [Ne.symm raW])
     walk_at "wk"
     refine ⟨rf_take_number _ _,_,.inl (.inl (.inl haW5)),r,ta,bs,p5,0,n-x,?_,R5,by lia,fun y p6 H6 e6 _ hy k6 R6=>?_,fun p6 H6 e6 R6=>q2 p6 H6 (er (num_bad e6 fun x hd=>?_)) R6⟩
     ·rw [hun,show (n:Int)-(x:Int)=((n-x:Nat):Int) by lia]
      rfl
     ·rw [then_ok e6] at er eq
      obtain ⟨dx6,hR,hS,hne⟩:=R6
      have hR2:=hR
      have R6:Rdr K a H6 r ta bs p6:=⟨dx6,hR,hS,hne⟩
      walk_at "wk"
      have em:(if (1024:Int)<(left:Int) then (1024:Int) else (left:Int))=((min 1024 left:Nat):Int):=by
       by_cases z:1024<left
       ·rw [if_pos (by lia)];lia
       ·rw [if_neg (by lia)];lia
      rw [em]
      refine ⟨r,ta,bs,p6,min 1024 left,rfl,R6,by lia,fun ys ws p7 H7 l7 e7 hys hl7 k7 hl7' hPw R7=>?_,fun p7 H7 e7 R7=>q2 p7 H7 (er (then_no e7)) R7⟩
      obtain ⟨dx7,hR,hS,hne⟩:=R7
      have hR2:=hR
      have R7:Rdr K a H7 r ta bs p7:=⟨dx7,hR,hS,hne⟩
      have l7r:l7≠r:=fun z=>by obtain ⟨_,h,_⟩:=R6;rw [z,h] at hl7;cases hl7
      walk_at "wk"
      refine ⟨rf_take _ _,r,ta,bs,p7,_,10,rfl,R7,by decide,by decide,fun _ p8 H8 e8 k8 R8=>?_,fun p8 H8 e8 R8=>?_⟩
      ·have h10:pk bs p7=10:=by
        apply Decidable.byContradiction
        intro z
        rw [byte_no (c:=10) z] at e8
        cases e8
       have ep:=bytes_at (c:=10) h10 e8
       subst ep
       rw [if_pos h10] at e7
       rw [then_ok e7,cons_then] at eq
       have k26:Kp [r] H2 H6:=((k3.trans k4).trans k5).trans k6
       have k28:Kp [r] H2 H8:=(k26.trans k7).trans k8
       have hv8:H8 aE=some (.lst vs):=k28 _ _ hv (by simp [Ne.symm raE])
       have hWk:H8 wk=some (.ins a.CW dw (wf s aR aH aP aW aS aE)):=k28 _ _ (k2 _ _ hWk0 (by simp [Ne.symm rwk,wkaE])) (by simp [Ne.symm rwk])
       have hWk2:=hWk
       have hl8:H8 l7=some (.lst ws):=k8 _ _ hl7' (by simp [l7r])
       have l7E:l7≠aE:=fun z=>by rw [z,k26 _ _ hv (by simp [Ne.symm raE])] at hl7;cases hl7
       have hlw:=Paired.length hPw
       walk_at "wk"
       refine ⟨.inl ⟨rfl,_,.inl (.inl hv8)⟩,by decide,fun t ht=>⟨vs,by rw [upd_ne (ne_of_none hv8 ht)];exact hv8,by rw [← hlv];exact Nat.lt_of_le_of_lt x1 (by decide),?_⟩⟩
       have tE:t≠aE:=Ne.symm (ne_of_none hv8 ht)
       have tl7:l7≠t:=ne_of_none hl8 ht
       have tr:t≠r:=fun z=>by obtain ⟨_,h,_⟩:=R8;rw [z,h] at ht;cases ht
       refine ⟨ws,.inl (.inl (.inl (by rw [upd_ne l7E,upd_ne tl7];exact hl8))),4096-(xs.length+1),by lia,?_⟩
       rw [hW]
       have k8':Kp [r,aE] H H8:=k2.trans (k28.mono (by simp))
       have ht0:H t=none:=k8'.free (by simp [tE,tr]) ht
       have kF:Kp [r,aE] H (upd (upd H8 t (HO.tup [V.int (x:Int),V.int (y:Int),V.ref l7])) aE (HO.lst (vs++[V.ref t]))):=(k8'.put2 (.inr ht0)).put2 (.inl (by simp))
       have fr:∀ b,H b=none→b≠r∧b≠aE:=fun b hb=>⟨fun z=>(by obtain ⟨_,h,_⟩:=R;rw [z,h] at hb;cases hb),fun z=>(by rw [z,haE] at hb;cases hb)⟩
       have up:∀ b o,H8 b=some o→b≠aE→upd (upd H8 t (HO.tup [V.int (x:Int),V.int (y:Int),V.ref l7])) aE (HO.lst (vs++[V.ref t])) b=some o:=fun b o e n1=>by
        rw [upd_ne n1,upd_ne (ne_of_none e ht)];exact e
       have hl70:H l7=none:=(k2.trans (k26.mono (by simp))).free (by simp [l7r,l7E]) hl7
       obtain ⟨dx8,a1,a2,a3⟩:=R8
       have eleft:(left:Int)-(ws.length:Int)=((left-ys.length:Nat):Int):=by rw [← hlw];lia
       refine ⟨xs++[⟨x,y,ys⟩],vs++[.ref t],left-ys.length,x,p7+1,_,_,by rw [eleft],upd_same,Paired.snoc (Paired.mapP hPv ?_) ⟨t,l7,ws,rfl,by rw [upd_ne tE,upd_same],ht0,up _ _ hl8 l7E,hl70,Paired.mapP hPw ?_⟩,
        ⟨dx8,up _ _ a1 raE,kF.seq (by simp [hne,taE]) hS0,hne⟩,kF,by simp;lia,?_,by simp⟩
       ·rintro q v ⟨b,l,us',rfl,hb,hb0,hl,hl0,hq⟩
        obtain ⟨n1,n2⟩:=fr b hb0
        obtain ⟨n3,n4⟩:=fr l hl0
        refine ⟨b,l,us',rfl,up _ _ (k28 _ _ hb (by simp [n1])) n2,hb0,up _ _ (k28 _ _ hl (by simp [n3])) n4,hl0,Paired.mapP hq ?_⟩
        rintro q v ⟨c,rfl,hc,hc0⟩
        obtain ⟨n5,n6⟩:=fr c hc0
        exact ⟨c,rfl,up _ _ (k28 _ _ hc (by simp [n5])) n6,hc0⟩
       ·rintro q v ⟨c,rfl,hc,hc0⟩
        have cr:c≠r:=fun z=>by obtain ⟨_,h,_⟩:=R6;rw [z,h] at hc0;cases hc0
        have cE:c≠aE:=fun z=>by rw [z,k26 _ _ hv (by simp [Ne.symm raE])] at hc0;cases hc0
        exact ⟨c,rfl,up _ _ (k8 _ _ hc (by simp [cr])) cE,(k2.trans (k26.mono (by simp))).free (by simp [cr,cE]) hc0⟩
       ·rw [eq,preO_pre]
        simp
      ·by_cases h10:pk bs p7=10
       ·rw [byte_ok (c:=10) h10] at e8
        cases e8
       ·rw [byte_no (c:=10) h10] at e8
        injection e8 with e8
        subst e8
        rw [if_neg h10] at e7
        exact q2 _ H8 (er (then_no e7)) R8
     ·rw [tokens_tail]
      exact then_no (tail_no (by lia) (.inr (by lia)))
  ·rw [if_neg (by simpa using h91)]
   exact fin (.inr (.inl h91))
end
section
variable {P:Program}{w:World}{K:PySem.W.Frag}{mg:Str→Option Value}{base:Heap}{a:Ad}
def signsAt (xs:List (Nat×List (List Nat))) (k:Nat):List (List (List Nat)):=(xs.filter fun x=>x.1==k).map (·.2)
theorem signsAt_same (xs:List (Nat×List (List Nat))) (k:Nat) (l:List (List Nat)):signsAt (xs++[(k,l)]) k=signsAt xs k++[l]:=by simp [signsAt]
theorem signsAt_ne (xs:List (Nat×List (List Nat))) {i k:Nat} (h:k≠i) (l:List (List Nat)):signsAt (xs++[(i,l)]) k=signsAt xs k:=by
 have:(i==k)=false:=by rw [beq_eq_false_iff_ne];exact Ne.symm h
 simp [signsAt,this]
theorem joinL_bound (sep m:Nat):∀ (ys:List (List Nat)),(∀ x∈ys,x.length≤m)→(joinL sep ys).length≤ys.length * (m+1)
 | [],_=>by simp [joinL]
 | [y],h=>by
  have:=h y (by simp)
  simp [joinL];lia
 | y::z::r,h=>by
  have h1:=h y (by simp)
  have h2:=joinL_bound sep m (z::r) (fun x hx=>h x (by simp at hx ⊢;exact .inr hx))
  simp only [joinL,List.length_append,List.length_cons] at h2 ⊢
  have e:(r.length+1+1) * (m+1)=(r.length+1) * (m+1)+(m+1):=by rw [Nat.add_mul (r.length+1) 1,Nat.one_mul]
  lia
theorem wf_putS (s:VhPage.Settings) (r h p w g e g':Addr):putF "signs" (.ref g') (wf s r h p w g e)=wf s r h p w g' e:=by rfl
theorem wf_putH (s:VhPage.Settings) (r h p w g e h':Addr):putF "head" (.ref h') (wf s r h p w g e)=wf s r h' p w g e:=by rfl
theorem wf_length (s:VhPage.Settings) (r h p w g e:Addr):(wf s r h p w g e).length=12:=rfl
def SgAt (H H':Hp) (gs:List Addr) (xs:List (Nat×List (List Nat))):Prop:=∀ k g,gs[k]?=some g→∃ ts,H' g=some (.lst ts)∧Paired (fun y v=>LN H H' y v∧∀ g'∈gs,v≠.ref g') ((signsAt xs k).map (joinL 32)) ts
def sp_read_signs (K:PySem.W.Frag) (a:Ad):Sp:=fun vs H Q E=>∃ (r ta wk dw:Addr) (bs:List UInt8) (p n:Nat) (s:VhPage.Settings) (us:List V) (aR aH aP aW aS aE:Addr),vs=[.ref r,.ref wk]∧Rdr K a H r ta bs p∧WkAt a H wk dw s aR aH aP aW aS aE∧H aW=some (.lst us)∧us.length=n∧n≤8192∧r≠wk∧ta≠wk ∧
 (∀ xs gs p' H' D,VhPage.signs_ n 4096 0 p (bs.drop p)=.ok (xs,p',bs.drop p')→Kp [r,wk] H H'→WkAt a H' wk dw s aR aH aP aW D aE→H D=none→H' D=some (.lst (gs.map V.ref))→gs.length=n→(∀ g∈gs,H g=none)→SgAt H H' gs xs→Rdr K a H' r ta bs p'→Q .non H') ∧
 ∀ p' H',VhPage.signs_ n 4096 0 p (bs.drop p)=.error p'→Rdr K a H' r ta bs p'→E (.ref a.CE) none H'
abbrev s_read_signs:Stmt:=top 31
theorem sc_read_signs:FnScope ["reader","work","word","count","low","things"] ["reader","work"] (defScope s_read_signs):=⟨rfl,rfl,rfl,by decide +kernel,rfl,by decide +kernel,by decide +kernel⟩
theorem bk_read_signs_0:BlkOk ["reader","work","word","count","low","things"] (defScope s_read_signs) (lcSc (stVal (stI (defBody s_read_signs) 0))) [("word",2)]:=⟨rfl,by decide +kernel,by decide +kernel,by decide +kernel,by decide +kernel⟩
theorem ok_read_signs {f:Addr}{fd:FuncData} (F:Fun K "read_signs" "read_signs" s_read_signs f fd) (T:Txt K mg a) (c_Reader_sees:MethC P w K mg base CX0 2 a.CR "sees" ["self","sign"] (sp_Reader_sees K a)) (c_Reader_take:MethC P w K mg base (CX1 P w a.CE) 3 a.CR "take" ["self","sign"] (sp_Reader_take K a)) (c_Reader_take_number:MethC P w K mg base (CX1 P w a.CE) 3 a.CR "take_number" ["self","low","high"] (sp_Reader_take_number K a)) (c_Reader_take_things:MethC P w K mg base (CX1 P w a.CE) 5 a.CR "take_things" ["self","most_things","most","marks"] (sp_Reader_take_things K a)) (c_joined:FnC P w K mg base CX0 1 "joined" ["things","between"] (sp_joined K a)):FnOk P w K mg base (CX1 P w a.CE) 6 f fd ["reader","work"] (sp_read_signs K a):=by
 refine F.okE sc_read_signs (fun vs H Q E h=>?_) (fun cdv A outer s H vs Q E hr h=>?_)
 ·obtain ⟨r,ta,wk,dw,bs,p,n,s,us,aR,aH,aP,aW,aS,aE,rfl,⟨dx,hR,hS,hne⟩,hWk,haW,hun,hn,rwk,tawk,q1,q2⟩:=h
  rfl
 ·obtain ⟨r,ta,wk,dw,bs,p,n,s,us,aR,aH,aP,aW,aS,aE,rfl,⟨dx,hR,hS,hne⟩,hWk,haW,hun,hn,rwk,tawk,q1,q2⟩:=h
  have nd:=sc_read_signs.nd
  refine ⟨_,(pss_cons (ps_fld (pv 1) (pe_lc rfl nd (pi_list (pe_fld (pv 1) rfl)) bk_read_signs_0 (fun _ _ _ _ _=>(pg_name (i:=2) nd rfl (Or.inl rfl))) (fun _ _ _ _ _=>pts_nil) (fun _ _ _ _ _=>(pe_lst pa_nil))) rfl) (pss_cons (ps_set (i:=3) nd rfl (Or.inl rfl) pe_int) (pss_cons (ps_set (i:=4) nd rfl (Or.inl rfl) pe_int) (pss_one (ps_while PassesOwn.leaving (PW.pt (pw_and (pt_val (pe_methC (pv 0) T.clReader c_Reader_sees hr pass0 (pa_cons pe_str pa_nil))) (pw_and (pt_cmpR op_lt (pv 3) (pe_gint T.cMOST_SIGNS) (nomark _)) (pw_and1 (pt_cmpR op_gt (pe_callB call_len_seq rfl T.len PySem.boot_len (pa_cons (pe_fld (pv 1) rfl) pa_nil)) pe_int (nomark _)))))) (pss_cons (ps_expr (pe_methC (pv 0) T.clReader c_Reader_take hr passX (pa_cons pe_str pa_nil))) (pss_cons (ps_set (i:=4) nd rfl (Or.inl rfl) (pe_methC (pv 0) T.clReader c_Reader_take_number hr passX (pa_cons (pv 4) (pa_cons (pe_op op_sub (pe_callB call_len_seq rfl T.len PySem.boot_len (pa_cons (pe_fld (pv 1) rfl) pa_nil)) pe_int) pa_nil)))) (pss_cons (ps_expr (pe_methC (pv 0) T.clReader c_Reader_take hr passX (pa_cons pe_str pa_nil))) (pss_cons (ps_set (i:=5) nd rfl (Or.inl rfl) (pe_methC (pv 0) T.clReader c_Reader_take_things hr passX (pa_cons (pe_gint T.cMOST_SIGN_THINGS) (pa_cons (pe_gint T.cMOST_SIGN_CHARACTERS) (pa_cons (pe_gref T.cCARET) pa_nil))))) (pss_cons (ps_expr (pe_methC (pv 0) T.clReader c_Reader_take hr passX (pa_cons pe_str pa_nil))) (pss_cons (ps_expr (pe_bm PySem.F.plainAttrs_list PySem.F.slot_list_append PySem.F.type_list_append mt_append (pe_ix ix_list (pe_fld (pv 1) rfl) (pv 4) (fun _ _=>rfl)) (pa_cons (pe_callC c_joined hr pass0 (pa_cons (pv 5) (pa_cons (pe_gint T.cBLANK) pa_nil))) pa_nil))) (pss_one (ps_aug (i:=3) nd rfl (Or.inl rfl) pe_int ip_add))))))))))))),?_⟩
  have hWk:H wk=some (.ins a.CW dw (wf s aR aH aP aW aS aE)):=hWk
  have hWk0:=hWk
  have hR0:=hR
  have R:Rdr K a H r ta bs p:=⟨dx,hR,hS,hne⟩
  have hS0:=hS
  have raW:r≠aW:=ne_of hR haW (by intro z;cases z)
  have wkaW:wk≠aW:=ne_of hWk haW (by intro z;cases z)
  have z0:0≤sizeLine:=by decide
  refine ⟨_,rfl,wk,a.CW,dw,_,_,rfl,hWk,T.clWork,T.n_words,wf_words s aR aH aP aW aS aE,aW,rfl,⟨_,.inl (.inl haW)⟩,fun D hD=>?_⟩
  have nD:aW≠D:=ne_of_none haW hD
  obtain ⟨Pv,hPv⟩:∃ Pv:Nat→Hp→Prop,Pv=fun i H'=>∃ gs:List Addr,gs.length=i∧H' D=some (.lst (gs.map V.ref))∧Kp [] H H'∧(∀ g∈gs,H g=none∧H' g=some (.lst [])∧g≠D)∧gs.Nodup:=⟨_,rfl⟩
  refine lc_list (xs:=us) Pv ?_ ?_ ?_ ?_
  ·rw [hPv]
   exact ⟨[],rfl,upd_same,Kp.new hD,fun g hg=>absurd hg (by simp),List.nodup_nil⟩
  ·intro i H' _ hw
   rw [hPv] at hw
   obtain ⟨gs,_,_,k,_⟩:=hw
   exact .inl (.inl (k _ _ haW (by simp)))
  ·intro i x H2 hi hw
   rw [hPv] at hw
   obtain ⟨gs,hg1,hg2,k,hg3,hg4⟩:=hw
   refine ⟨rfl,?_⟩
   simp only [tYes]
   walk_at "rd"
   refine ⟨z0,fun g hg=>?_⟩
   have gD:D≠g:=ne_of_none hg2 hg
   refine ⟨gs.map V.ref,by rw [upd_ne gD];exact hg2,by rw [List.length_map,hg1];exact Nat.lt_of_lt_of_le (List.getElem?_eq_some_iff.mp hi).1 (by rw [hun];exact Nat.le_trans hn (by decide)),?_⟩
   rw [hPv]
   have hg0:H g=none:=k.free (by simp) hg
   refine ⟨gs++[g],by simp [hg1],by rw [upd_same];simp,(k.trans (Kp.new hg)).put2 (.inr hD),fun c hc=>?_,?_⟩
   ·rcases List.mem_append.mp hc with h | h
    ·obtain ⟨h1,h2,h3⟩:=hg3 c h
     exact ⟨h1,by rw [upd_ne h3,upd_ne (ne_of_none h2 hg)];exact h2,h3⟩
    ·have e:c=g:=by simpa using h
     subst e
     exact ⟨hg0,by rw [upd_ne (Ne.symm gD),upd_same],Ne.symm gD⟩
   ·rw [List.nodup_append]
    refine ⟨hg4,by simp,fun b hb c hc=>?_⟩
    have e:c=g:=by simpa using hc
    subst e
    exact ne_of_none (hg3 b hb).2.1 hg
  ·intro H2 hw
   rw [hPv] at hw
   obtain ⟨gs,hg1,hg2,k,hg3,hg4⟩:=hw
   rw [hun] at hg1
   have hWk:H2 wk=some (.ins a.CW dw (wf s aR aH aP aW aS aE)):=k _ _ hWk0 (by simp)
   refine ⟨_,rfl,wk,a.CW,dw,_,rfl,hWk,T.clWork,T.n_signs,by rw [wf_length];decide,?_⟩
   rw [wf_putS]
   have Dwk:wk≠D:=ne_of_none hWk0 hD
   have Dr:r≠D:=ne_of_none hR0 hD
   generalize hG:upd H2 wk (HO.ins a.CW dw (wf s aR aH aP aW D aE))=G
   have GD:G D=some (.lst (gs.map V.ref)):=by rw [← hG,upd_ne (Ne.symm Dwk)];exact hg2
   have Gg:∀ g∈gs,H g=none∧G g=some (.lst [])∧g≠D:=fun g hg=>by
    obtain ⟨h1,h2,h3⟩:=hg3 g hg
    exact ⟨h1,by rw [← hG,upd_ne (Ne.symm (ne_of_none hWk0 h1))];exact h2,h3⟩
   have kG:Kp [r,wk] H G:=by rw [← hG];exact (k.mono (by simp)).put2 (.inl (by simp))
   have GR:G r=some (.ins a.CR dx (rf ta (p:Int))):=by rw [← hG,upd_ne rwk];exact k _ _ hR0 (by simp)
   have GW:G wk=some (.ins a.CW dw (wf s aR aH aP aW D aE)):=by rw [← hG,upd_same]
   clear hG
   have fr:∀ b,H b=none→b≠r∧b≠wk:=fun b hb=>⟨fun z=>(by rw [z,hR0] at hb;cases hb),fun z=>(by rw [z,hWk0] at hb;cases hb)⟩
   have RG:Rdr K a G r ta bs p:=⟨dx,GR,kG.seq (by simp [hne,tawk]) hS0,hne⟩
   obtain ⟨W,hW⟩:∃ W:WT,W=fun m σ H'=>∃ (xs:List (Nat×List (List Nat))) (low p':Nat) (o1 o2:Option V),σ=[some (.ref r),some (.ref wk),o1,some (.int (xs.length:Int)),some (.int (low:Int)),o2]∧H' D=some (.lst (gs.map V.ref))∧SgAt H H' gs xs∧H' wk=some (.ins a.CW dw (wf s aR aH aP aW D aE))∧Rdr K a H' r ta bs p'∧Kp [r,wk] H H'∧xs.length≤4096 ∧
    VhPage.signs_ n 4096 0 p (bs.drop p)=preO xs (VhPage.signs_ n (4096-xs.length) low p' (bs.drop p'))∧m=4096-xs.length:=⟨_,rfl⟩
   walk_at "rd"
   refine ⟨W,⟨_,by
    rw [hW]
    refine ⟨[],0,p,_,none,rfl,GD,fun j g hg=>⟨[],(Gg g (List.mem_of_getElem? hg)).2.1,.nil⟩,GW,RG,kG,by simp,by rw [preO_nil];rfl,rfl⟩⟩,fun m σ H2 hw=>?_⟩
   rw [hW] at hw
   obtain ⟨xs,low,p2,o1,o2,rfl,hD2,hSg,hWk,⟨dx2,hR,hS,hne⟩,k2,x1,eq,rfl⟩:=hw
   have hR2:=hR
   have hWk2:=hWk
   have R2:Rdr K a H2 r ta bs p2:=⟨dx2,hR,hS,hne⟩
   have haW2:H2 aW=some (.lst us):=k2 _ _ haW (by simp [Ne.symm raW,Ne.symm wkaW])
   have fin:(4096-xs.length=0∨pk bs p2≠123∨n=0)→Q .non H2:=fun h=>by
    refine q1 xs gs p2 H2 D ?_ k2 hWk hD hD2 hg1 (fun g hg=>(Gg g hg).1) hSg R2
    rw [eq,signs_stop h]
    show Except.ok (xs++[],_,_)=_
    rw [List.append_nil]
   walk_at "wk"
   refine ⟨rf_sees _ _,r,ta,bs,p2,_,123,rfl,R2,by decide,by decide,?_⟩
   walk_at "wk"
   by_cases h123:pk bs p2=123
   ·rw [if_pos (by simpa using h123)]
    by_cases hfull:xs.length=4096
    ·rw [if_neg (by lia)]
     exact fin (.inl (by lia))
    ·rw [if_pos (by lia)]
     refine ⟨_,.inl (.inl (.inl haW2)),?_⟩
     rw [hun]
     by_cases hz:n=0
     ·rw [if_neg (by lia)]
      exact fin (.inr (.inr hz))
     ·rw [if_pos (by lia)]
      refine ⟨fun σ' H'=>∃ m',m' < 4096-xs.length∧W m' σ' H',fun _ _ z=>z,?_⟩
      have ex:4096-xs.length=(4096-(xs.length+1))+1:=by lia
      rw [ex,signs_go h123 (by lia)] at eq
      have er:∀ {i:Nat},sRow n (4096-(xs.length+1)) low (p2+1) (bs.drop (p2+1))=.error i→VhPage.signs_ n 4096 0 p (bs.drop p)=.error i:=fun h=>by rw [eq,h];rfl
      unfold sRow at er eq
      refine ⟨rf_take _ _,r,ta,bs,p2,_,123,rfl,R2,by decide,by decide,fun _ p3 H3 e3 k3 R3=>?_,fun p3 H3 e3 R3=>by rw [byte_ok (c:=123) h123] at e3;cases e3⟩
      have ep:=bytes_at (c:=123) h123 e3
      subst ep
      obtain ⟨dx3,hR,hS,hne⟩:=R3
      have hR2:=hR
      have R3:Rdr K a H3 r ta bs (p2+1):=⟨dx3,hR,hS,hne⟩
      have hWk:H3 wk=some (.ins a.CW dw (wf s aR aH aP aW D aE)):=k3 _ _ hWk (by simp [Ne.symm rwk])
      have hWk2:=hWk
      have haW3:H3 aW=some (.lst us):=k3 _ _ haW2 (by simp [Ne.symm raW])
      walk_at "wk"
      refine ⟨rf_take_number _ _,_,.inl (.inl (.inl haW3)),r,ta,bs,p2+1,low,n-1,by rw [hun,show (n:Int)-1=((n-1:Nat):Int) by lia],R3,by lia,fun x p4 H4 e4 hx1 hx2 k4 R4=>?_,fun p4 H4 e4 R4=>q2 p4 H4 (er (num_bad e4 fun x hd=>byte_digit hd)) R4⟩
      rw [then_ok e4] at er eq
      obtain ⟨dx4,hR,hS,hne⟩:=R4
      have hR2:=hR
      have R4:Rdr K a H4 r ta bs p4:=⟨dx4,hR,hS,hne⟩
      walk_at "wk"
      refine ⟨rf_take _ _,r,ta,bs,p4,_,32,rfl,R4,by decide,by decide,fun _ p5 H5 e5 k5 R5=>?_,fun p5 H5 e5 R5=>q2 p5 H5 (er (then_no e5)) R5⟩
      rw [then_ok e5] at er eq
      obtain ⟨dx5,hR,hS,hne⟩:=R5
      have hR2:=hR
      have R5:Rdr K a H5 r ta bs p5:=⟨dx5,hR,hS,hne⟩
      walk_at "wk"
      refine ⟨rf_take_things _ _,r,_,ta,bs,[94],p5,4,16,rfl,R5,mkCaret T H5 r,by decide,by decide,by decide,by decide,fun ys ws p7 H7 l7 e7 y1 y2 y3 hl7 k7 hl7' hPw R7=>?_,fun p7 H7 e7 R7=>q2 p7 H7 (er (then_no e7)) R7⟩
      obtain ⟨dx7,hR,hS,hne⟩:=R7
      have hR2:=hR
      have R7:Rdr K a H7 r ta bs p7:=⟨dx7,hR,hS,hne⟩
      have l7r:l7≠r:=fun z=>by obtain ⟨_,h,_⟩:=R5;rw [z,h] at hl7;cases hl7
      walk_at "wk"
      refine ⟨rf_take _ _,r,ta,bs,p7,_,10,rfl,R7,by decide,by decide,fun _ p8 H8 e8 k8 R8=>?_,fun p8 H8 e8 R8=>?_⟩
      ·have h10:pk bs p7=10:=by
        apply Decidable.byContradiction
        intro z
        rw [byte_no (c:=10) z] at e8
        cases e8
       have ep:=bytes_at (c:=10) h10 e8
       subst ep
       rw [if_pos h10] at e7
       rw [then_ok e7,cons_then] at eq
       have k25:Kp [r] H2 H5:=(k3.trans k4).trans k5
       have k28:Kp [r] H2 H8:=(k25.trans k7).trans k8
       have hD8:H8 D=some (.lst (gs.map V.ref)):=k28 _ _ hD2 (by simp [Ne.symm Dr])
       have hWk:H8 wk=some (.ins a.CW dw (wf s aR aH aP aW D aE)):=k28 _ _ ‹H2 wk=_› (by simp [Ne.symm rwk])
       have hWk2:=hWk
       have hl8:H8 l7=some (.lst ws):=k8 _ _ hl7' (by simp [l7r])
       obtain ⟨g,hg⟩:∃ g,gs[x]?=some g:=⟨_,List.getElem?_eq_getElem (by lia)⟩
       have hgm:g∈gs:=List.mem_of_getElem? hg
       obtain ⟨hgn,_,hgD⟩:=Gg g hgm
       obtain ⟨gr,gwk⟩:=fr g hgn
       obtain ⟨ts,hts,hPts⟩:=hSg x g hg
       have hts8:H8 g=some (.lst ts):=k28 _ _ hts (by simp [gr])
       have hPw8:Paired (fun y v=>∃ l,v=V.ref l∧H8 l=some (.lst (lV y))) ys ws:=Paired.mapP hPw (by
        rintro y v ⟨b,rfl,hb,hb0⟩
        have br:b≠r:=fun z=>by obtain ⟨_,h,_⟩:=R5;rw [z,h] at hb0;cases hb0
        exact ⟨b,rfl,k8 _ _ hb (by simp [br])⟩)
       have jb:=joinL_bound 32 16 ys y3
       walk_at "wk"
       refine ⟨_,.inl (.inl hD8),_,atI_nat (v:=V.ref g) (by rw [List.getElem?_map,hg];rfl),.inl ⟨rfl,_,.inl (.inl hts8)⟩,l7,ws,ys,32,rfl,hl8,hPw8,by lia,fun H9 j hj k9 hj9=>?_⟩
       have hts9:H9 g=some (.lst ts):=k9 _ _ hts8 (by simp)
       have hlt:=Paired.length hPts
       have few:ts.length≤4096:=by
        rw [← hlt,List.length_map]
        unfold signsAt
        rw [List.length_map]
        exact Nat.le_trans (List.length_filter_le _ _) x1
       refine ⟨g,rfl,ts,hts9,Nat.lt_of_le_of_lt few (by decide),4096-(xs.length+1),by lia,?_⟩
       rw [hW]
       have k8':Kp [r,wk] H H8:=k2.trans (k28.mono (by simp))
       have k9':Kp [r,wk] H H9:=k8'.trans (k9.mono (by simp))
       have jr:j≠r:=fun z=>by obtain ⟨_,h,_⟩:=R8;rw [z,h] at hj;cases hj
       have jwk:j≠wk:=fun z=>by rw [z,hWk] at hj;cases hj
       have jg:j≠g:=fun z=>by rw [z,hts8] at hj;cases hj
       have hj0:H j=none:=k8'.free (by simp [jr,jwk]) hj
       have kF:Kp [r,wk] H (upd H9 g (HO.lst (ts++[V.ref j]))):=k9'.put2 (.inr hgn)
       have up:∀ b o,H9 b=some o→b≠g→upd H9 g (HO.lst (ts++[V.ref j])) b=some o:=fun b o e n1=>by rw [upd_ne n1];exact e
       obtain ⟨dx8,a1,a2,a3⟩:=R8
       have ec:((xs.length:Int)+1)=(((xs++[(x,ys)]).length:Nat):Int):=by simp
       -- lists that hold letters are no signs' lists
       have keepL:∀ (y:List Nat) (v:V),LN H H2 y v→(∀ g'∈gs,v≠.ref g')→LN H (upd H9 g (HO.lst (ts++[V.ref j]))) y v:=by
        rintro y v ⟨b,rfl,hb,hb0⟩ nb
        obtain ⟨n1,n2⟩:=fr b hb0
        exact ⟨b,rfl,up _ _ (k9 _ _ (k28 _ _ hb (by simp [n1])) (by simp)) (fun z=>nb g hgm (by rw [z])),hb0⟩
       refine ⟨xs++[(x,ys)],x,p7+1,_,_,by rw [ec],up _ _ (k9 _ _ hD8 (by simp)) (Ne.symm hgD),?_,up _ _ (k9 _ _ hWk (by simp)) (Ne.symm gwk),⟨dx8,up _ _ (k9 _ _ a1 (by simp)) (Ne.symm gr),kF.seq (by simp [hne,tawk]) hS0,hne⟩,kF,by simp;lia,?_,by simp⟩
       ·intro k' g' hg'
        have hgm':g'∈gs:=List.mem_of_getElem? hg'
        obtain ⟨ts',hts',hP'⟩:=hSg k' g' hg'
        have gr':=(fr g' (Gg g' hgm').1).1
        by_cases hk:k'=x
        ·subst hk
         have e:g'=g:=Option.some.inj (hg'.symm.trans hg)
         subst e
         refine ⟨ts++[.ref j],upd_same,?_⟩
         rw [signsAt_same,List.map_append]
         refine Paired.snoc (Paired.mapP hPts fun y v z=>⟨keepL y v z.1 z.2,z.2⟩) ⟨⟨j,rfl,by rw [upd_ne jg];exact hj9,hj0⟩,fun g2 hg2 z=>?_⟩
         obtain ⟨i2,hi2⟩:=List.getElem?_of_mem hg2
         obtain ⟨t2,ht2,_⟩:=hSg i2 g2 hi2
         have g2r:=(fr g2 (Gg g2 hg2).1).1
         have z:j=g2:=V.ref.inj z
         rw [z,k28 _ _ ht2 (by simp [g2r])] at hj
         cases hj
        ·have ne:g'≠g:=fun z=>hk (nd_ix hg4 hg' (by rw [z];exact hg))
         refine ⟨ts',up _ _ (k9 _ _ (k28 _ _ hts' (by simp [gr'])) (by simp)) ne,?_⟩
         rw [signsAt_ne xs hk]
         exact Paired.mapP hP' fun y v z=>⟨keepL y v z.1 z.2,z.2⟩
       ·rw [eq,preO_pre]
        simp
      ·by_cases h10:pk bs p7=10
       ·rw [byte_ok (c:=10) h10] at e8
        cases e8
       ·rw [byte_no (c:=10) h10] at e8
        injection e8 with e8
        subst e8
        rw [if_neg h10] at e7
        exact q2 _ H8 (er (then_no e7)) R8
   ·rw [if_neg (by simpa using h123)]
    exact fin (.inr (.inl h123))
end
section
variable {P:Program}{w:World}{K:PySem.W.Frag}{mg:Str→Option Value}{base:Heap}{a:Ad}
theorem SqL.is (T:Txt K mg a) {H:Hp}{ta:Addr}{xs:List V} (h:SqL K H ta xs):∃ o,H ta=some o:=by
 rcases h with (h | ⟨o,h⟩) | ⟨o,_,_,h,hc,_⟩
 ·exact ⟨_,h⟩
 ·exact ⟨_,h⟩
 ·exact absurd hc (T.nl _ _ h)
def LI (H:Hp) (x:List Nat) (v:V):Prop:=∃ l,v=.ref l∧H l=some (.lst (lV x))
def RowI (H:Hp) (x:Nat×Nat×Nat) (v:V):Prop:=∃ t,v=.ref t∧H t=some (.tup [.int (x.1:Int),.int (x.2.1:Int),.int (x.2.2:Int)])
def PairI (H:Hp) (x:Nat×Nat) (v:V):Prop:=∃ t,v=.ref t∧H t=some (.tup [.int (x.1:Int),.int (x.2:Int)])
def EntI (H:Hp) (x:VhPage.Entry) (v:V):Prop:=∃ t l us,v=.ref t∧H t=some (.tup [.int (x.first:Int),.int (x.count:Int),.ref l])∧H l=some (.lst us)∧Paired (LI H) x.toks us
def SgI (H:Hp) (gs:List Addr) (xs:List (Nat×List (List Nat))):Prop:=∀ k g,gs[k]?=some g→∃ ts,H g=some (.lst ts)∧Paired (LI H) ((signsAt xs k).map (joinL 32)) ts
structure WRep (a:Ad) (H:Hp) (wk:Addr) (w:VhPage.Work) (hb:List UInt8):Prop where
 ex:∃ dw aR aH aP aW aS aE rs ps ws gs es,H wk=some (.ins a.CW dw (wf w.set aR aH aP aW aS aE))∧H aR=some (.lst rs)∧Paired (RowI H) w.widths rs∧H aH=some (.lst (bsV hb))∧H aP=some (.lst ps)∧Paired (PairI H) (spans 0 w.paras) ps ∧
  H aW=some (.lst ws)∧Paired (LI H) w.paras.flatten ws∧H aS=some (.lst (gs.map V.ref))∧gs.length=w.paras.flatten.length∧SgI H gs w.signs∧H aE=some (.lst es)∧Paired (EntI H) w.entries es
def HeadAt (bs hb:List UInt8):Prop:=∃ s p0 x p1,VhPage.settings_ 0 bs=.ok (s,p0,bs.drop p0)∧VhPage.widths_ 64 33 p0 (bs.drop p0)=.ok (x,p1,bs.drop p1)∧hb=bs.take p1
def sp_read_work (K:PySem.W.Frag) (a:Ad):Sp:=fun vs H Q E=>∃ (r ta:Addr) (bs:List UInt8),vs=[.ref r]∧Rdr K a H r ta bs 0 ∧
 (∀ w hb wk H',VhPage.readWork bs=.ok w→HeadAt bs hb→w.paras.flatten.length≤8192→Kp [r] H H'→WRep a H' wk w hb→Q (.ref wk) H') ∧
 ∀ p' H',VhPage.readWork bs=.error p'→Rdr K a H' r ta bs p'→E (.ref a.CE) none H'
theorem cut_take (bs:List UInt8) (p:Nat):cutV (bsV bs) none (some (p:Int))=bsV (bs.take p):=by
 unfold cutV
 rw [HT.sIx_none,HT.sIx_nat,List.drop_zero,Nat.sub_zero,bsV_len]
 unfold bsV
 rw [← List.map_take]
 congr 1
 by_cases h:p≤bs.length
 ·rw [Nat.min_eq_left h]
 ·rw [Nat.min_eq_right (by lia),List.take_of_length_le (Nat.le_refl _),List.take_of_length_le (by lia)]
theorem keepF {G H' H'':Hp}{S:List Addr}{b:Addr}{o:HO} (k:Kp S H' H'') (hs:∀ c∈S,∃ o,G c=some o) (hb0:G b=none) (hb:H' b=some o):H'' b=some o:=k b o hb fun z=>by
 obtain ⟨o',h⟩:=hs b z
 rw [hb0] at h;cases h
abbrev s_read_work:Stmt:=top 34
theorem sc_read_work:FnScope ["reader","work"] ["reader"] (defScope s_read_work):=⟨rfl,rfl,rfl,by decide +kernel,rfl,by decide +kernel,by decide +kernel⟩
theorem ok_read_work {f:Addr}{fd:FuncData} (F:Fun K "read_work" "read_work" s_read_work f fd) (T:Txt K mg a) (c_Work_init:MakeC P w K mg base CX0 1 a.CW "Work" ["self","settings"] (sp_Work_init K a)) (c_read_rows:FnC P w K mg base (CX1 P w a.CE) 4 "read_rows" ["reader","work"] (sp_read_rows K a)) (c_read_paragraphs:FnC P w K mg base (CX1 P w a.CE) 6 "read_paragraphs" ["reader","work"] (sp_read_paragraphs K a)) (c_read_signs:FnC P w K mg base (CX1 P w a.CE) 6 "read_signs" ["reader","work"] (sp_read_signs K a)) (c_read_entries:FnC P w K mg base (CX1 P w a.CE) 6 "read_entries" ["reader","work"] (sp_read_entries K a)) (c_Reader_take_end:MethC P w K mg base (CX1 P w a.CE) 2 a.CR "take_end" ["self"] (sp_Reader_take_end K a)) (c_Reader_take_head:MethC P w K mg base (CX1 P w a.CE) 4 a.CR "take_head" ["self","all_bounds"] (sp_Reader_take_head K a)):FnOk P w K mg base (CX1 P w a.CE) 7 f fd ["reader"] (sp_read_work K a):=by
 refine F.okE sc_read_work (fun vs H Q E h=>?_) (fun cdv A outer s H vs Q E hr h=>?_)
 ·obtain ⟨r,ta,bs,rfl,⟨dx,hR,hS,hne⟩,q1,q2⟩:=h
  rfl
 ·obtain ⟨r,ta,bs,rfl,⟨dx,hR,hS,hne⟩,q1,q2⟩:=h
  have nd:=sc_read_work.nd
  refine ⟨_,(pss_cons (ps_set (i:=1) nd rfl (Or.inl rfl) (pe_makeC c_Work_init hr pass0 (pa_cons (pe_methC (pv 0) T.clReader c_Reader_take_head hr passX (pa_cons (pe_gref T.cSETTING_BOUNDS) pa_nil)) pa_nil))) (pss_cons (ps_expr (pe_callC c_read_rows hr passX (pa_cons (pv 0) (pa_cons (pv 1) pa_nil)))) (pss_cons (ps_fld (pv 1) (pe_slice sl_list (pe_fld (pv 0) rfl) po_none (po_some (pe_fld (pv 0) rfl))) rfl) (pss_cons (ps_expr (pe_callC c_read_paragraphs hr passX (pa_cons (pv 0) (pa_cons (pv 1) pa_nil)))) (pss_cons (ps_expr (pe_callC c_read_signs hr passX (pa_cons (pv 0) (pa_cons (pv 1) pa_nil)))) (pss_cons (ps_expr (pe_callC c_read_entries hr passX (pa_cons (pv 0) (pa_cons (pv 1) pa_nil)))) (pss_cons (ps_expr (pe_methC0 (pv 0) T.clReader c_Reader_take_end hr passX)) (pss_one (ps_ret (pv 1)))))))))),?_⟩
  have hR2:=hR
  have hWk:=hR
  have hWk2:=hR
  have hR0:=hR
  have R:Rdr K a H r ta bs 0:=⟨dx,hR,hS,hne⟩
  have hS0:=hS
  obtain ⟨ot,hta⟩:=SqL.is T hS
  have er:∀ {i:Nat},(Vh.andThen VhPage.settings_ fun (s:VhPage.Settings)=>Vh.andThen (VhPage.widths_ 64 33) fun (w:List (Nat×Nat×Nat))=>Vh.andThen (VhPage.paras_ 4096 8192) fun (p:List (List Vh.Letters))=>Vh.andThen (VhPage.signs_ p.flatten.length 4096 0) fun (g:List (Nat×List Vh.Letters))=>Vh.andThen (VhPage.entries_ p.flatten.length 4096 0 65536) fun (e:List VhPage.Entry)=>VhPage.end_ (⟨s,w,p,g,e⟩:VhPage.Work)) 0 (bs.drop 0)=.error i→VhPage.readWork bs=.error i:=fun h=>by
   unfold VhPage.readWork Vh.readAll
   rw [List.drop_zero] at h
   rw [h]
  have ok:∀ {x p' b'},(Vh.andThen VhPage.settings_ fun (s:VhPage.Settings)=>Vh.andThen (VhPage.widths_ 64 33) fun (w:List (Nat×Nat×Nat))=>Vh.andThen (VhPage.paras_ 4096 8192) fun (p:List (List Vh.Letters))=>Vh.andThen (VhPage.signs_ p.flatten.length 4096 0) fun (g:List (Nat×List Vh.Letters))=>Vh.andThen (VhPage.entries_ p.flatten.length 4096 0 65536) fun (e:List VhPage.Entry)=>VhPage.end_ (⟨s,w,p,g,e⟩:VhPage.Work)) 0 (bs.drop 0)=.ok (x,p',b')→VhPage.readWork bs=.ok x:=fun h=>by
   unfold VhPage.readWork Vh.readAll
   rw [List.drop_zero] at h
   rw [h]
  walk_at "rdr"
  refine ⟨rf_take_head _ _,r,a.aSETTING_BOUNDS,ta,bs,0,bdS,rfl,R,T.tSETTING_BOUNDS,by decide,fun xs p1 H1 l1 e1 hxl hl1 k1 hl1' R1=>?_,fun p1 H1 e1 R1=>q2 p1 H1 (er (then_no (by rw [settings_hdr];exact map_no e1))) R1⟩
  obtain ⟨s,e1,hl1'⟩:∃ s:VhPage.Settings,VhPage.settings_ 0 (bs.drop 0)=.ok (s,p1,bs.drop p1)∧H1 l1=some (.lst [.int (s.width:Int),.int (s.height:Int),.int (s.indent:Int),.int (s.every:Int),.int (s.anew:Int),.int (s.loose:Int)]):=by
   match xs,hxl with
   | [x0,x1,x2,x3,x4,x5],_=>exact ⟨⟨x0,x1,x2,x3,x4,x5⟩,by rw [settings_hdr];exact map_ok e1,hl1'⟩
  rw [then_ok e1] at er ok
  intro wk dw nwk ndw newk
  obtain ⟨dx1,hR,hS,hne⟩:=R1
  have R1:Rdr K a H1 r ta bs p1:=⟨dx1,hR,hS,hne⟩
  have rwk:r≠wk:=ne_of_none hR nwk
  have rdw:r≠dw:=ne_of_none hR ndw
  have tawk:ta≠wk:=ne_of_none (k1 _ _ hta (by simp [hne])) nwk
  have l1wk:l1≠wk:=ne_of_none hl1' nwk
  have l1dw:l1≠dw:=ne_of_none hl1' ndw
  have hwk0:H wk=none:=k1.free (by simp [Ne.symm rwk]) nwk
  refine ⟨wk,dw,l1,s,rfl,upd_same,by rw [upd_ne l1wk,upd_ne l1dw];exact hl1',fun H2 aR aH aP aW aS aE k2 hWk al nd6=>⟨rfl,?_⟩⟩
  have six:∀ b∈[aR,aH,aP,aW,aS,aE],b≠wk∧H1 b=none∧H b=none∧b≠r∧b≠ta∧H2 b=some (.lst []):=fun b hb=>by
   obtain ⟨h1,h2⟩:=al b hb
   have n1:b≠wk:=fun z=>by rw [z,upd_same] at h1;cases h1
   rw [upd_ne n1] at h1
   have n2:b≠dw:=fun z=>by rw [z,upd_same] at h1;cases h1
   rw [upd_ne n2] at h1
   have n3:b≠r:=fun z=>by rw [z,hR] at h1;cases h1
   exact ⟨n1,h1,k1.free (by simp [n3]) h1,n3,fun z=>(by rw [z,k1 _ _ hta (by simp [hne])] at h1;cases h1),h2⟩
  obtain ⟨aRwk,aR1,aR0,aRr,aRta,aR2⟩:=six aR (by simp)
  obtain ⟨aHwk,aH1,aH0,aHr,aHta,aH2⟩:=six aH (by simp)
  obtain ⟨aPwk,aP1,aP0,aPr,aPta,aP2⟩:=six aP (by simp)
  obtain ⟨aWwk,aW1,aW0,aWr,aWta,aW2⟩:=six aW (by simp)
  obtain ⟨aEwk,aE1,aE0,aEr,aEta,aE2⟩:=six aE (by simp)
  have ndd:aR≠aP∧aR≠aW∧aR≠aE∧aP≠aW∧aP≠aE∧aW≠aE:=by
   simp only [List.nodup_cons,List.mem_cons,not_or] at nd6
   exact ⟨nd6.1.2.1,nd6.1.2.2.1,nd6.1.2.2.2.2.1,nd6.2.2.1.1,nd6.2.2.1.2.2.1,nd6.2.2.2.1.2.1⟩
  obtain ⟨RP,RW,RE,PW,PE,WE⟩:=ndd
  have k02:Kp [r] H H2:=fun c o e n=>by
   have e1:=k1 c o e n
   have n1:c≠wk:=ne_of_none e1 nwk
   exact k2 c o (by rw [upd_ne n1,upd_ne (ne_of_none e1 ndw)];exact e1) (by simp [n1])
  have hR:H2 r=some (HO.ins a.CR dx1 (rf ta (p1:Int))):=k2 _ _ (by rw [upd_ne rwk,upd_ne rdw];exact hR) (by simp [rwk])
  have R2:Rdr K a H2 r ta bs p1:=Rdr.move (dx:=dx1) hS0 hne k02 hR
  refine ⟨r,ta,wk,dw,bs,p1,s,aR,aH,aP,aW,aS,aE,rfl,R2,hWk,aR2,rwk,Ne.symm aRta,fun ws rs p2 H3 e3 k3 hrs hPr R3=>?_,fun p2 H3 e3 R3=>q2 p2 H3 (er (then_no e3)) R3⟩
  have hd0:HeadAt bs (bs.take p2):=⟨s,p1,ws,p2,by rw [List.drop_zero] at e1;exact e1,e3,rfl⟩
  rw [then_ok e3] at er ok
  obtain ⟨dx3,hR,hS,hne⟩:=R3
  have hR2:=hR
  have hWk:H3 wk=some (HO.ins a.CW dw (wf s aR aH aP aW aS aE)):=k3 _ _ hWk (by simp [Ne.symm rwk,Ne.symm aRwk])
  have hWk2:=hWk
  walk_at "wk"
  refine ⟨_,hS,fun hp hhp=>?_⟩
  have hpwk:wk≠hp:=ne_of_none hWk hhp
  have hpr:r≠hp:=ne_of_none hR hhp
  rw [cut_take]
  refine ⟨_,_,_,by rw [upd_ne hpwk];exact hWk,T.clWork,T.n_head,by rw [wf_length];decide,?_⟩
  rw [wf_putH]
  generalize hG:upd (upd H3 hp (HO.lst (bsV (bs.take p2)))) wk (HO.ins a.CW dw (wf s aR hp aP aW aS aE))=H4
  have k34:Kp [wk] H3 H4:=by rw [← hG];exact (Kp.new hhp).trans (Kp.put (by simp))
  have hH4:H4 hp=some (.lst (bsV (bs.take p2))):=by rw [← hG,upd_ne (Ne.symm hpwk),upd_same]
  have hWk:H4 wk=some (HO.ins a.CW dw (wf s aR hp aP aW aS aE)):=by rw [← hG,upd_same]
  clear hG
  have hWk2:=hWk
  have hR:H4 r=some (HO.ins a.CR dx3 (rf ta (p2:Int))):=k34 _ _ hR (by simp [rwk])
  have hR2:=hR
  have k24:Kp [r,aR,wk] H2 H4:=(k3.mono (by simp)).trans (k34.mono (by simp))
  have R4:Rdr K a H4 r ta bs p2:=⟨dx3,hR,k24.seq (by simp [hne,Ne.symm aRta,tawk]) (k02.seq (by simp [hne]) hS0),hne⟩
  have aP4:H4 aP=some (.lst []):=k24 _ _ aP2 (by simp [aPr,Ne.symm RP,aPwk])
  have aW4:H4 aW=some (.lst []):=k24 _ _ aW2 (by simp [aWr,Ne.symm RW,aWwk])
  have aE4:H4 aE=some (.lst []):=k24 _ _ aE2 (by simp [aEr,Ne.symm RE,aEwk])
  walk_at "wk"
  refine ⟨r,ta,wk,dw,bs,p2,s,aR,hp,aP,aW,aS,aE,rfl,R4,hWk,aP4,aW4,PW,rwk,Ne.symm aPta,Ne.symm aWta,fun ps us vs p3 H5 e5 hps k5 hus hPu hvs hPv R5=>?_,fun p3 H5 e5 R5=>q2 p3 H5 (er (then_no e5)) R5⟩
  rw [then_ok e5] at er ok
  have hWk:H5 wk=some (HO.ins a.CW dw (wf s aR hp aP aW aS aE)):=k5 _ _ hWk (by simp [Ne.symm rwk,Ne.symm aPwk,Ne.symm aWwk])
  have hWk2:=hWk
  have aE5:H5 aE=some (.lst []):=k5 _ _ aE4 (by simp [aEr,Ne.symm PE,Ne.symm WE])
  have hlu:=Paired.length hPu
  walk_at "wk"
  refine ⟨r,ta,wk,dw,bs,p3,ps.flatten.length,s,us,aR,hp,aP,aW,aS,aE,rfl,R5,hWk,hus,hlu.symm,hps,rwk,tawk,fun sg gs p4 H6 D e6 k6 hWk6 hD0 hD hgl hg0 hSg R6=>?_,fun p4 H6 e6 R6=>q2 p4 H6 (er (then_no e6)) R6⟩
  rw [then_ok e6] at er ok
  have hWk:H6 wk=some (HO.ins a.CW dw (wf s aR hp aP aW D aE)):=hWk6
  have hWk2:=hWk
  have aE6:H6 aE=some (.lst []):=k6 _ _ aE5 (by simp [aEr,aEwk])
  have hus6:H6 aW=some (.lst us):=k6 _ _ hus (by simp [aWr,aWwk])
  walk_at "wk"
  refine ⟨r,ta,wk,dw,bs,p4,ps.flatten.length,s,us,aR,hp,aP,aW,D,aE,rfl,R6,hWk,aE6,hus6,hlu.symm,hps,Ne.symm WE,rwk,Ne.symm aEta,fun en es p5 H7 e7 k7 hes hPe R7=>?_,fun p5 H7 e7 R7=>q2 p5 H7 (er (then_no e7)) R7⟩
  rw [then_ok e7] at er ok
  obtain ⟨dx7,hR,hS,hne⟩:=R7
  have R7:Rdr K a H7 r ta bs p5:=⟨dx7,hR,hS,hne⟩
  have hR2:=hR
  walk_at "wk"
  refine ⟨rf_take_end _ _,r,ta,bs,p5,rfl,R7,fun hend=>?_,fun hend=>q2 p5 H7 (er ?_) R7⟩
  ·have fin:VhPage.end_ (⟨s,ws,ps,sg,en⟩:VhPage.Work) p5 (bs.drop p5)=.ok (⟨s,ws,ps,sg,en⟩,p5,bs.drop p5):=by
    unfold VhPage.end_ Vh.byNext
    rw [head_drop,hend]
    rfl
   walk_at "rd"
   have dom2:∀ c∈[r,wk,aP,aW,aE],∃ o,H2 c=some o:=fun c hc=>by
    simp at hc
    rcases hc with rfl | rfl | rfl | rfl | rfl
    ·obtain ⟨_,h,_⟩:=R2;exact ⟨_,h⟩
    ·exact ⟨_,‹H2 c=some (HO.ins a.CW dw (wf s aR aH aP aW aS aE))›⟩
    ·exact ⟨_,aP2⟩
    ·exact ⟨_,aW2⟩
    ·exact ⟨_,aE2⟩
   have dom3:∀ c∈[r,wk,aP,aW,aE],∃ o,H3 c=some o:=fun c hc=>by
    obtain ⟨o,ho⟩:=dom2 c hc
    by_cases z:c=r
    ·rw [z];exact ⟨_,‹H3 r=some _›⟩
    ·exact ⟨o,k3 _ _ ho (by
      simp at hc ⊢
      refine ⟨z,?_⟩
      rcases hc with rfl | rfl | rfl | rfl | rfl
      ·exact Ne.symm aRr
      ·exact Ne.symm aRwk
      ·exact Ne.symm RP
      ·exact Ne.symm RW
      ·exact Ne.symm RE)⟩
   have dom4:∀ c∈[r,wk,aP,aW,aE],∃ o,H4 c=some o:=fun c hc=>by
    simp at hc
    rcases hc with rfl | rfl | rfl | rfl | rfl
    ·obtain ⟨_,h,_⟩:=R4;exact ⟨_,h⟩
    ·exact ⟨_,‹H4 c=some (HO.ins a.CW dw (wf s aR hp aP aW aS aE))›⟩
    ·exact ⟨_,aP4⟩
    ·exact ⟨_,aW4⟩
    ·exact ⟨_,aE4⟩
   have dom5:∀ c∈[r,wk,aP,aW,aE],∃ o,H5 c=some o:=fun c hc=>by
    simp at hc
    rcases hc with rfl | rfl | rfl | rfl | rfl
    ·obtain ⟨_,h,_⟩:=R5;exact ⟨_,h⟩
    ·exact ⟨_,‹H5 c=some (HO.ins a.CW dw (wf s aR hp aP aW aS aE))›⟩
    ·exact ⟨_,hvs⟩
    ·exact ⟨_,hus⟩
    ·exact ⟨_,aE5⟩
   have k67:Kp [r,wk,aP,aW,aE] H6 H7:=k7.mono (by simp)
   have k57:Kp [r,wk,aP,aW,aE] H5 H7:=(k6.mono (by simp)).trans k67
   have k47:Kp [r,wk,aP,aW,aE] H4 H7:=(k5.mono (by intro b hb;simp at hb ⊢;rcases hb with h | h | h <;> simp [h])).trans k57
   have k37:Kp [r,wk,aP,aW,aE] H3 H7:=(k34.mono (by simp)).trans k47
   refine q1 ⟨s,ws,ps,sg,en⟩ (bs.take p2) wk H7 (ok fin) hd0 hps (fun c o e n=>?_) ⟨dw,aR,hp,aP,aW,D,aE,rs,vs,us,gs,es,k7 _ _ hWk (by simp [Ne.symm rwk,Ne.symm aEwk]),?_,?_,?_,?_,?_,?_,?_,?_,hgl,?_,hes,?_⟩
   ·have e2:=k02 c o e n
    have n1:c≠aR:=fun z=>by rw [z,aR0] at e;cases e
    refine k37 c o (k3 c o e2 (by simp at n ⊢;exact ⟨n,n1⟩)) ?_
    simp at n ⊢
    exact ⟨n,fun z=>(by rw [z,hwk0] at e;cases e),fun z=>(by rw [z,aP0] at e;cases e),fun z=>(by rw [z,aW0] at e;cases e),fun z=>(by rw [z,aE0] at e;cases e)⟩
   ·exact k37 _ _ hrs (by simp [aRr,aRwk,RP,RW,RE])
   ·exact Paired.mapP hPr (by rintro x v ⟨t,rfl,h,h0⟩;exact ⟨t,rfl,keepF k37 dom2 h0 h⟩)
   ·exact keepF k47 dom3 hhp hH4
   ·exact k7 _ _ (k6 _ _ hvs (by simp [aPr,aPwk])) (by simp [aPr,PE])
   ·exact Paired.mapP hPv (by rintro x v ⟨t,rfl,h,h0⟩;exact ⟨t,rfl,keepF k57 dom4 h0 h⟩)
   ·exact k7 _ _ hus6 (by simp [aWr,WE])
   ·exact Paired.mapP hPu (by rintro x v ⟨t,rfl,h,h0⟩;exact ⟨t,rfl,keepF k57 dom4 h0 h⟩)
   ·exact keepF k67 dom5 hD0 hD
   ·intro j g hg
    obtain ⟨ts,h1,h2⟩:=hSg j g hg
    exact ⟨ts,keepF k67 dom5 (hg0 g (List.mem_of_getElem? hg)) h1,Paired.mapP h2 (by rintro x v ⟨⟨t,rfl,h,h0⟩,_⟩;exact ⟨t,rfl,keepF k67 dom5 h0 h⟩)⟩
   ·exact Paired.mapP hPe (by
     rintro x v ⟨t,l,us',rfl,h,_,h2,_,h3⟩
     exact ⟨t,l,us',rfl,h,h2,Paired.mapP h3 (by rintro y v ⟨b,rfl,hb,_⟩;exact ⟨b,rfl,hb⟩)⟩)
  ·unfold VhPage.end_ Vh.byNext
   rw [head_drop]
   cases e:bs[p5]? with
   | none=>exact absurd e hend
   | some c=>rfl
end
section
variable {P:Program}{w:World}{K:PySem.W.Frag}{mg:Str→Option Value}{base:Heap}{a:Ad}
def judgeV (bs:List UInt8):List V:=match VhPage.readWork bs with
 | .ok _=>[.int 0]
 | .error i=>[.int (-6),.int (i:Int)]
def sp_judge (K:PySem.W.Frag) (a:Ad):Sp:=fun vs H Q _=>∃ (ta:Addr) (bs:List UInt8),vs=[.ref ta]∧SqL K H ta (bsV bs)∧bs.length≤8191∧∀ H' p,H' p=some (.lst (judgeV bs))→Q (.ref p) H'
abbrev s_judge:Stmt:=top 37
theorem sc_judge:FnScope ["t","reader"] ["t"] (defScope s_judge):=⟨rfl,rfl,rfl,by decide +kernel,rfl,by decide +kernel,by decide +kernel⟩
theorem ok_judge {f:Addr}{fd:FuncData} (F:Fun K "judge" "judge" s_judge f fd) (T:Txt K mg a) (c_Reader_init:MakeC P w K mg base CX0 1 a.CR "Reader" ["self","t"] (sp_Reader_init K a)) (c_read_work:FnC P w K mg base (CX1 P w a.CE) 7 "read_work" ["reader"] (sp_read_work K a)):FnOk P w K mg base CX0 8 f fd ["t"] (sp_judge K a):=by
 refine F.ok sc_judge (fun vs H Q E h=>?_) (fun cdv A outer s H vs Q E hr h=>?_)
 ·obtain ⟨ta,bs,rfl,hS,hlen,q⟩:=h
  rfl
 ·obtain ⟨ta,bs,rfl,hS,hlen,q⟩:=h
  have nd:=sc_judge.nd
  refine ⟨_,(pss_cons (ps_if (pt_cmpR op_gt (pe_callB call_len_seq rfl T.len PySem.boot_len (pa_cons (pv 0) pa_nil)) (pe_gint T.cMOST_TEXT_BYTES) (nomark _)) (pss_one (ps_ret (pe_lst (pa_cons (pe_un un_neg pe_int) pa_nil)))) pss_nil) (pss_cons (ps_set (i:=1) nd rfl (Or.inl rfl) (pe_makeC c_Reader_init hr pass0 (pa_cons (pv 0) pa_nil))) (pss_cons (by refine' ps_try (C:=a.CE) ?eT ?eg ?eb ?es;(case eT=>exact T.exc);(case eg=>exact rfl);(case eb=>exact (pxs_expr (px_callC c_read_work hr (pa_cons (pv 1) pa_nil))));(case es=>exact fun _=>(pss_one (ps_ret (pe_lst (pa_cons (pe_un un_neg pe_int) (pa_cons (pe_fld (pv 1) rfl) pa_nil))))))) (pss_one (ps_ret (pe_lst (pa_cons pe_int pa_nil))))))),?_⟩
  obtain ⟨ot,hta⟩:=SqL.is T hS
  walk_at "rd"
  refine ⟨_,.inl hS,?_⟩
  rw [bsV_len,if_neg (by lia)]
  intro x dx nx ndx nex
  have tax:ta≠x:=ne_of_none hta nx
  have tadx:ta≠dx:=ne_of_none hta ndx
  have k0:Kp [] H (upd (upd H dx (HO.own x)) x (HO.ins a.CR dx [])):=fun c o e _=>by
   rw [upd_ne (ne_of_none e nx),upd_ne (ne_of_none e ndx)];exact e
  refine ⟨x,dx,ta,bs,rfl,upd_same,k0.seq (by simp) hS,tax,fun H2 k2 R2=>⟨rfl,?_⟩⟩
  simp only [tCallX]
  walk_at "rd"
  refine ⟨x,ta,bs,rfl,R2,fun w hb wk H3 e3 _ _ k3 _=>?_,fun p3 H3 e3 R3=>?_⟩
  ·walk_at "rd"
   refine ⟨by decide,fun l hl=>q _ l ?_⟩
   rw [upd_same]
   unfold judgeV
   rw [e3]
  ·intro ea
   obtain ⟨dx3,hR,hS3,hne3⟩:=R3
   have hR2:=hR
   walk_at "rdr"
   refine ⟨by decide,fun l hl=>q _ l ?_⟩
   rw [upd_same]
   unfold judgeV
   rw [e3]
end
end Vp
end
section
set_option maxRecDepth 100000
set_option maxHeartbeats 4000000
namespace Vp
open PySem PySem.Spec PyProof.Rows L2
open PySem.W (Codec)
theorem sqT_of {K:PySem.W.Frag}{a:Addr}{d:Option Addr}{its:Array Value}{n:Nat}{sl:Array (Option Value)}{xs:List V} (l:K.lookup a=some ⟨.type "tuple",d,.seq its n,sl⟩) (hz:its.size≤1000) (v:Vals xs its.toList) (H:Hp):SqT K H a xs :=
 .inr ⟨_,its,n,l,rfl,rfl,Nat.le_trans hz (by decide),v⟩
theorem mem_lk {b:Addr}{o:Obj}:∀ {K:PySem.W.Frag},K.lookup b=some o→(b,o)∈K
 | [],h=>by cases h
 | (c,u)::r,h=>by
  rw [List.lookup_cons] at h
  cases e:b==c with
  | true =>
   rw [e] at h
   have h':u=o:=Option.some.inj h
   rw [← h',eq_of_beq e]
   exact List.mem_cons_self
  | false =>
   rw [e] at h
   exact List.mem_cons_of_mem _ (mem_lk h)
def ad0:Ad:=⟨0,0,0,0,0,0,0⟩
theorem all_mk {P:Program}{w:World}{K:PySem.W.Frag}{h:Heap}{mg:Str→Option Value}{fa:Addr}{CE CR CW f0 f1 f2 f3 f4 f5 f6 f7 f8 f9 f10 f11 f12 f13 f14 f15 f16 f17 f18 f19 f20 f21 f22 f23 f24 f25 aMARKS aENDS aSETTING_BOUNDS aCARET bSETTING_BOUNDS0 bSETTING_BOUNDS1 bSETTING_BOUNDS2 bSETTING_BOUNDS3 bSETTING_BOUNDS4 bSETTING_BOUNDS5:Addr}{tBLANK tFIRST_LETTER tLAST_CHARACTER tMOST_LETTERS tNO_BYTE tMOST_ROWS tMOST_PARAGRAPHS tMOST_WORDS tMOST_SIGNS tMOST_ENTRIES tMOST_TOKENS tMOST_TOKENS_OF_ENTRY tMOST_SIGN_THINGS tMOST_SIGN_CHARACTERS tMOST_TEXT_BYTES uMARKS0 uMARKS1 uMARKS2 uMARKS3 uMARKS4 uMARKS5 uMARKS6 uMARKS7 uMARKS8 uMARKS9 uMARKS10 uMARKS11 uMARKS12 uMARKS13 uMARKS14 uMARKS15 uENDS0 uENDS1 uSETTING_BOUNDS0_0 uSETTING_BOUNDS0_1 uSETTING_BOUNDS1_0 uSETTING_BOUNDS1_1 uSETTING_BOUNDS2_0 uSETTING_BOUNDS2_1 uSETTING_BOUNDS3_0 uSETTING_BOUNDS3_1 uSETTING_BOUNDS4_0 uSETTING_BOUNDS4_1 uSETTING_BOUNDS5_0 uSETTING_BOUNDS5_1 uCARET0:Tok}{od0 od1 od2 od3 od4 od5 od6 od7 od8 od9 od10 od11 od12 od13 od14 od15 od16 od17 od18 od19 od20 od21 od22 od23 od24 od25 an0 an1 an2 an3 an4 an5 an6 an7 an8 an9 an10 an11 an12 an13 an14 an15 an16 an17 an18 an19 an20 an21 an22 an23 an24 an25 dMARKS dENDS dSETTING_BOUNDS dSETTING_BOUNDS0 dSETTING_BOUNDS1 dSETTING_BOUNDS2 dSETTING_BOUNDS3 dSETTING_BOUNDS4 dSETTING_BOUNDS5 dCARET:Option Addr}{sl0 sl1 sl2 sl3 sl4 sl5 sl6 sl7 sl8 sl9 sl10 sl11 sl12 sl13 sl14 sl15 sl16 sl17 sl18 sl19 sl20 sl21 sl22 sl23 sl24 sl25 sMARKS sENDS sSETTING_BOUNDS sSETTING_BOUNDS0 sSETTING_BOUNDS1 sSETTING_BOUNDS2 sSETTING_BOUNDS3 sSETTING_BOUNDS4 sSETTING_BOUNDS5 sCARET:Array (Option Value)}{nMARKS nENDS nSETTING_BOUNDS nSETTING_BOUNDS0 nSETTING_BOUNDS1 nSETTING_BOUNDS2 nSETTING_BOUNDS3 nSETTING_BOUNDS4 nSETTING_BOUNDS5 nCARET:Nat}{oc0 kV0 dc0 pm0 cd0 ct0 oc1 kV1 dc1 pm1 cd1 ct1 oc2 kV2 dc2 pm2 cd2 ct2 oc3 kV3 dc3 pm3 cd3 ct3 oc4 kV4 dc4 pm4 cd4 ct4 oc5 kV5 dc5 pm5 cd5 ct5 oc6 kV6 dc6 pm6 cd6 ct6 oc7 kV7 dc7 pm7 cd7 ct7 oc8 kV8 dc8 pm8 cd8 ct8 oc9 kV9 dc9 pm9 cd9 ct9 oc10 kV10 dc10 pm10 cd10 ct10 oc11 kV11 dc11 pm11 cd11 ct11 oc12 kV12 dc12 pm12 cd12 ct12 oc13 kV13 dc13 pm13 cd13 ct13 oc14 kV14 dc14 pm14 cd14 ct14 oc15 kV15 dc15 pm15 cd15 ct15 oc16 kV16 dc16 pm16 cd16 ct16 oc17 kV17 dc17 pm17 cd17 ct17 oc18 kV18 dc18 pm18 cd18 ct18 oc19 kV19 dc19 pm19 cd19 ct19 oc20 kV20 dc20 pm20 cd20 ct20 oc21 kV21 dc21 pm21 cd21 ct21 oc22 kV22 dc22 pm22 cd22 ct22 oc23 kV23 dc23 pm23 cd23 ct23 oc24 kV24 dc24 pm24 cd24 ct24 oc25 kV25 dc25 pm25 cd25 ct25:Value} (X:K.In h) (G:h.Ns mainGlobals mg) (hfa:mg "judge"=some (.ref fa)) (qCE:PySem.W.excIn K CE [.type "ValueError",.type "Exception",.type "BaseException",.type "object"] "ValueError.__new__"=true) (nl:(K.all fun p=>!(p.2.cls==.type "list"))=true)
  (aCR:PySem.W.nsIn K mainGlobals "Reader"=some (some (.ref CR)))
  (pgR:PySem.W.plainGet K CR Str.empty=true)
  (hdR:PySem.W.hasDictIn K CR=true)
  (poR:PySem.W.plainOver K CR=true)
  (saR:PySem.W.findIn K (.ref CR) "__setattr__"=some (some (.builtin "object.__setattr__")))
  (mkR:PySem.W.makesIn K CR=true)
  (kcR:PySem.W.keepIn K (.ref CR)=true)
  (nR_t:PySem.W.findIn K (.ref CR) "t"=some none)
  (nR_at:PySem.W.findIn K (.ref CR) "at"=some none)
  (aCW:PySem.W.nsIn K mainGlobals "Work"=some (some (.ref CW)))
  (pgW:PySem.W.plainGet K CW Str.empty=true)
  (hdW:PySem.W.hasDictIn K CW=true)
  (poW:PySem.W.plainOver K CW=true)
  (saW:PySem.W.findIn K (.ref CW) "__setattr__"=some (some (.builtin "object.__setattr__")))
  (mkW:PySem.W.makesIn K CW=true)
  (kcW:PySem.W.keepIn K (.ref CW)=true)
  (nW_width:PySem.W.findIn K (.ref CW) "width"=some none)
  (nW_height:PySem.W.findIn K (.ref CW) "height"=some none)
  (nW_indent:PySem.W.findIn K (.ref CW) "indent"=some none)
  (nW_every:PySem.W.findIn K (.ref CW) "every"=some none)
  (nW_anew:PySem.W.findIn K (.ref CW) "anew"=some none)
  (nW_loose:PySem.W.findIn K (.ref CW) "loose"=some none)
  (nW_rows:PySem.W.findIn K (.ref CW) "rows"=some none)
  (nW_head:PySem.W.findIn K (.ref CW) "head"=some none)
  (nW_paragraphs:PySem.W.findIn K (.ref CW) "paragraphs"=some none)
  (nW_words:PySem.W.findIn K (.ref CW) "words"=some none)
  (nW_signs:PySem.W.findIn K (.ref CW) "signs"=some none)
  (nW_entries:PySem.W.findIn K (.ref CW) "entries"=some none)
  (aCE:PySem.W.nsIn K mainGlobals "NoText"=some (some (.ref CE)))
  (iBLANK:PySem.W.nsIn K mainGlobals "BLANK"=some (some (.int 32 tBLANK)))
  (iFIRST_LETTER:PySem.W.nsIn K mainGlobals "FIRST_LETTER"=some (some (.int 33 tFIRST_LETTER)))
  (iLAST_CHARACTER:PySem.W.nsIn K mainGlobals "LAST_CHARACTER"=some (some (.int 1114111 tLAST_CHARACTER)))
  (iMOST_LETTERS:PySem.W.nsIn K mainGlobals "MOST_LETTERS"=some (some (.int 64 tMOST_LETTERS)))
  (iNO_BYTE:PySem.W.nsIn K mainGlobals "NO_BYTE"=some (some (.int 256 tNO_BYTE)))
  (iMOST_ROWS:PySem.W.nsIn K mainGlobals "MOST_ROWS"=some (some (.int 64 tMOST_ROWS)))
  (iMOST_PARAGRAPHS:PySem.W.nsIn K mainGlobals "MOST_PARAGRAPHS"=some (some (.int 4096 tMOST_PARAGRAPHS)))
  (iMOST_WORDS:PySem.W.nsIn K mainGlobals "MOST_WORDS"=some (some (.int 8192 tMOST_WORDS)))
  (iMOST_SIGNS:PySem.W.nsIn K mainGlobals "MOST_SIGNS"=some (some (.int 4096 tMOST_SIGNS)))
  (iMOST_ENTRIES:PySem.W.nsIn K mainGlobals "MOST_ENTRIES"=some (some (.int 4096 tMOST_ENTRIES)))
  (iMOST_TOKENS:PySem.W.nsIn K mainGlobals "MOST_TOKENS"=some (some (.int 65536 tMOST_TOKENS)))
  (iMOST_TOKENS_OF_ENTRY:PySem.W.nsIn K mainGlobals "MOST_TOKENS_OF_ENTRY"=some (some (.int 1024 tMOST_TOKENS_OF_ENTRY)))
  (iMOST_SIGN_THINGS:PySem.W.nsIn K mainGlobals "MOST_SIGN_THINGS"=some (some (.int 4 tMOST_SIGN_THINGS)))
  (iMOST_SIGN_CHARACTERS:PySem.W.nsIn K mainGlobals "MOST_SIGN_CHARACTERS"=some (some (.int 16 tMOST_SIGN_CHARACTERS)))
  (iMOST_TEXT_BYTES:PySem.W.nsIn K mainGlobals "MOST_TEXT_BYTES"=some (some (.int 1048576 tMOST_TEXT_BYTES)))
  (gMARKS:PySem.W.nsIn K mainGlobals "MARKS"=some (some (.ref aMARKS)))
  (lMARKS:K.lookup aMARKS=some ⟨.type "tuple",dMARKS,.seq #[.int 124 uMARKS0,.int 47 uMARKS1,.int 40 uMARKS2,.int 41 uMARKS3,.int 91 uMARKS4,.int 93 uMARKS5,.int 60 uMARKS6,.int 62 uMARKS7,.int 123 uMARKS8,.int 125 uMARKS9,.int 61 uMARKS10,.int 43 uMARKS11,.int 126 uMARKS12,.int 94 uMARKS13,.int 35 uMARKS14,.int 34 uMARKS15] nMARKS,sMARKS⟩)
  (gENDS:PySem.W.nsIn K mainGlobals "ENDS"=some (some (.ref aENDS)))
  (lENDS:K.lookup aENDS=some ⟨.type "tuple",dENDS,.seq #[.int 32 uENDS0,.int 10 uENDS1] nENDS,sENDS⟩)
  (gSETTING_BOUNDS:PySem.W.nsIn K mainGlobals "SETTING_BOUNDS"=some (some (.ref aSETTING_BOUNDS)))
  (lSETTING_BOUNDS:K.lookup aSETTING_BOUNDS=some ⟨.type "tuple",dSETTING_BOUNDS,.seq #[.ref bSETTING_BOUNDS0,.ref bSETTING_BOUNDS1,.ref bSETTING_BOUNDS2,.ref bSETTING_BOUNDS3,.ref bSETTING_BOUNDS4,.ref bSETTING_BOUNDS5] nSETTING_BOUNDS,sSETTING_BOUNDS⟩)
  (lSETTING_BOUNDS0:K.lookup bSETTING_BOUNDS0=some ⟨.type "tuple",dSETTING_BOUNDS0,.seq #[.int 20 uSETTING_BOUNDS0_0,.int 240 uSETTING_BOUNDS0_1] nSETTING_BOUNDS0,sSETTING_BOUNDS0⟩)
  (lSETTING_BOUNDS1:K.lookup bSETTING_BOUNDS1=some ⟨.type "tuple",dSETTING_BOUNDS1,.seq #[.int 6 uSETTING_BOUNDS1_0,.int 240 uSETTING_BOUNDS1_1] nSETTING_BOUNDS1,sSETTING_BOUNDS1⟩)
  (lSETTING_BOUNDS2:K.lookup bSETTING_BOUNDS2=some ⟨.type "tuple",dSETTING_BOUNDS2,.seq #[.int 1 uSETTING_BOUNDS2_0,.int 16 uSETTING_BOUNDS2_1] nSETTING_BOUNDS2,sSETTING_BOUNDS2⟩)
  (lSETTING_BOUNDS3:K.lookup bSETTING_BOUNDS3=some ⟨.type "tuple",dSETTING_BOUNDS3,.seq #[.int 1 uSETTING_BOUNDS3_0,.int 100 uSETTING_BOUNDS3_1] nSETTING_BOUNDS3,sSETTING_BOUNDS3⟩)
  (lSETTING_BOUNDS4:K.lookup bSETTING_BOUNDS4=some ⟨.type "tuple",dSETTING_BOUNDS4,.seq #[.int 0 uSETTING_BOUNDS4_0,.int 1 uSETTING_BOUNDS4_1] nSETTING_BOUNDS4,sSETTING_BOUNDS4⟩)
  (lSETTING_BOUNDS5:K.lookup bSETTING_BOUNDS5=some ⟨.type "tuple",dSETTING_BOUNDS5,.seq #[.int 0 uSETTING_BOUNDS5_0,.int 10000 uSETTING_BOUNDS5_1] nSETTING_BOUNDS5,sSETTING_BOUNDS5⟩)
  (gCARET:PySem.W.nsIn K mainGlobals "CARET"=some (some (.ref aCARET)))
  (lCARET:K.lookup aCARET=some ⟨.type "tuple",dCARET,.seq #[.int 94 uCARET0] nCARET,sCARET⟩)
  (bl_len:PySem.W.nsIn K mainGlobals "len"=some none)
  (bl_ord:PySem.W.nsIn K mainGlobals "ord"=some none)
  (bl_min:PySem.W.nsIn K mainGlobals "min"=some none)
  (bl_max:PySem.W.nsIn K mainGlobals "max"=some none)
  (bl_range:PySem.W.nsIn K mainGlobals "range"=some none)
  (bl_enumerate:PySem.W.nsIn K mainGlobals "enumerate"=some none)
  (bl_str:PySem.W.nsIn K mainGlobals "str"=some none)
  (bl_list:PySem.W.nsIn K mainGlobals "list"=some none)
  (bl_sum:PySem.W.nsIn K mainGlobals "sum"=some none)
  (a_is_letter:PySem.W.nsIn K mainGlobals "is_letter"=some (some (.ref f0)))
  (l_is_letter:K.lookup f0=some ⟨oc0,od0,.func (PySem.W.fnOf "is_letter" "is_letter" (defArgs s_is_letter) (defBody s_is_letter) (defScope s_is_letter) .none kV0 dc0 pm0 an0 cd0 ct0),sl0⟩)
  (c_is_letter:PySem.W.codeIn K cd0 "is_letter"=true)
  (k_is_letter:PySem.W.keepIn K (.ref f0)=true)
  (a_begins_some:PySem.W.nsIn K mainGlobals "begins_some"=some (some (.ref f1)))
  (l_begins_some:K.lookup f1=some ⟨oc1,od1,.func (PySem.W.fnOf "begins_some" "begins_some" (defArgs s_begins_some) (defBody s_begins_some) (defScope s_begins_some) .none kV1 dc1 pm1 an1 cd1 ct1),sl1⟩)
  (c_begins_some:PySem.W.codeIn K cd1 "begins_some"=true)
  (k_begins_some:PySem.W.keepIn K (.ref f1)=true)
  (a_size_by_lead:PySem.W.nsIn K mainGlobals "size_by_lead"=some (some (.ref f2)))
  (l_size_by_lead:K.lookup f2=some ⟨oc2,od2,.func (PySem.W.fnOf "size_by_lead" "size_by_lead" (defArgs s_size_by_lead) (defBody s_size_by_lead) (defScope s_size_by_lead) .none kV2 dc2 pm2 an2 cd2 ct2),sl2⟩)
  (c_size_by_lead:PySem.W.codeIn K cd2 "size_by_lead"=true)
  (k_size_by_lead:PySem.W.keepIn K (.ref f2)=true)
  (a_bounds_behind:PySem.W.nsIn K mainGlobals "bounds_behind"=some (some (.ref f3)))
  (l_bounds_behind:K.lookup f3=some ⟨oc3,od3,.func (PySem.W.fnOf "bounds_behind" "bounds_behind" (defArgs s_bounds_behind) (defBody s_bounds_behind) (defScope s_bounds_behind) .none kV3 dc3 pm3 an3 cd3 ct3),sl3⟩)
  (c_bounds_behind:PySem.W.codeIn K cd3 "bounds_behind"=true)
  (k_bounds_behind:PySem.W.keepIn K (.ref f3)=true)
  (a_Reader_init:PySem.W.findIn K (.ref CR) "__init__"=some (some (.ref f4)))
  (i_Reader_init:PySem.W.isFn K (.ref f4)=true)
  (l_Reader_init:K.lookup f4=some ⟨oc4,od4,.func (PySem.W.fnOf "__init__" "Reader.__init__" (defArgs s_Reader_init) (defBody s_Reader_init) (defScope s_Reader_init) .none kV4 dc4 pm4 an4 cd4 ct4),sl4⟩)
  (c_Reader_init:PySem.W.codeIn K cd4 "Reader.__init__"=true)
  (k_Reader_init:PySem.W.keepIn K (.ref f4)=true)
  (a_Reader_peek:PySem.W.findIn K (.ref CR) "peek"=some (some (.ref f5)))
  (i_Reader_peek:PySem.W.isFn K (.ref f5)=true)
  (l_Reader_peek:K.lookup f5=some ⟨oc5,od5,.func (PySem.W.fnOf "peek" "Reader.peek" (defArgs s_Reader_peek) (defBody s_Reader_peek) (defScope s_Reader_peek) .none kV5 dc5 pm5 an5 cd5 ct5),sl5⟩)
  (c_Reader_peek:PySem.W.codeIn K cd5 "Reader.peek"=true)
  (k_Reader_peek:PySem.W.keepIn K (.ref f5)=true)
  (a_Reader_sees:PySem.W.findIn K (.ref CR) "sees"=some (some (.ref f6)))
  (i_Reader_sees:PySem.W.isFn K (.ref f6)=true)
  (l_Reader_sees:K.lookup f6=some ⟨oc6,od6,.func (PySem.W.fnOf "sees" "Reader.sees" (defArgs s_Reader_sees) (defBody s_Reader_sees) (defScope s_Reader_sees) .none kV6 dc6 pm6 an6 cd6 ct6),sl6⟩)
  (c_Reader_sees:PySem.W.codeIn K cd6 "Reader.sees"=true)
  (k_Reader_sees:PySem.W.keepIn K (.ref f6)=true)
  (a_Reader_take:PySem.W.findIn K (.ref CR) "take"=some (some (.ref f7)))
  (i_Reader_take:PySem.W.isFn K (.ref f7)=true)
  (l_Reader_take:K.lookup f7=some ⟨oc7,od7,.func (PySem.W.fnOf "take" "Reader.take" (defArgs s_Reader_take) (defBody s_Reader_take) (defScope s_Reader_take) .none kV7 dc7 pm7 an7 cd7 ct7),sl7⟩)
  (c_Reader_take:PySem.W.codeIn K cd7 "Reader.take"=true)
  (k_Reader_take:PySem.W.keepIn K (.ref f7)=true)
  (a_Reader_take_end:PySem.W.findIn K (.ref CR) "take_end"=some (some (.ref f8)))
  (i_Reader_take_end:PySem.W.isFn K (.ref f8)=true)
  (l_Reader_take_end:K.lookup f8=some ⟨oc8,od8,.func (PySem.W.fnOf "take_end" "Reader.take_end" (defArgs s_Reader_take_end) (defBody s_Reader_take_end) (defScope s_Reader_take_end) .none kV8 dc8 pm8 an8 cd8 ct8),sl8⟩)
  (c_Reader_take_end:PySem.W.codeIn K cd8 "Reader.take_end"=true)
  (k_Reader_take_end:PySem.W.keepIn K (.ref f8)=true)
  (a_Reader_take_digit:PySem.W.findIn K (.ref CR) "take_digit"=some (some (.ref f9)))
  (i_Reader_take_digit:PySem.W.isFn K (.ref f9)=true)
  (l_Reader_take_digit:K.lookup f9=some ⟨oc9,od9,.func (PySem.W.fnOf "take_digit" "Reader.take_digit" (defArgs s_Reader_take_digit) (defBody s_Reader_take_digit) (defScope s_Reader_take_digit) .none kV9 dc9 pm9 an9 cd9 ct9),sl9⟩)
  (c_Reader_take_digit:PySem.W.codeIn K cd9 "Reader.take_digit"=true)
  (k_Reader_take_digit:PySem.W.keepIn K (.ref f9)=true)
  (a_Reader_take_number:PySem.W.findIn K (.ref CR) "take_number"=some (some (.ref f10)))
  (i_Reader_take_number:PySem.W.isFn K (.ref f10)=true)
  (l_Reader_take_number:K.lookup f10=some ⟨oc10,od10,.func (PySem.W.fnOf "take_number" "Reader.take_number" (defArgs s_Reader_take_number) (defBody s_Reader_take_number) (defScope s_Reader_take_number) .none kV10 dc10 pm10 an10 cd10 ct10),sl10⟩)
  (c_Reader_take_number:PySem.W.codeIn K cd10 "Reader.take_number"=true)
  (k_Reader_take_number:PySem.W.keepIn K (.ref f10)=true)
  (a_Reader_take_long_letter:PySem.W.findIn K (.ref CR) "take_long_letter"=some (some (.ref f11)))
  (i_Reader_take_long_letter:PySem.W.isFn K (.ref f11)=true)
  (l_Reader_take_long_letter:K.lookup f11=some ⟨oc11,od11,.func (PySem.W.fnOf "take_long_letter" "Reader.take_long_letter" (defArgs s_Reader_take_long_letter) (defBody s_Reader_take_long_letter) (defScope s_Reader_take_long_letter) .none kV11 dc11 pm11 an11 cd11 ct11),sl11⟩)
  (c_Reader_take_long_letter:PySem.W.codeIn K cd11 "Reader.take_long_letter"=true)
  (k_Reader_take_long_letter:PySem.W.keepIn K (.ref f11)=true)
  (a_Reader_take_character:PySem.W.findIn K (.ref CR) "take_character"=some (some (.ref f12)))
  (i_Reader_take_character:PySem.W.isFn K (.ref f12)=true)
  (l_Reader_take_character:K.lookup f12=some ⟨oc12,od12,.func (PySem.W.fnOf "take_character" "Reader.take_character" (defArgs s_Reader_take_character) (defBody s_Reader_take_character) (defScope s_Reader_take_character) .none kV12 dc12 pm12 an12 cd12 ct12),sl12⟩)
  (c_Reader_take_character:PySem.W.codeIn K cd12 "Reader.take_character"=true)
  (k_Reader_take_character:PySem.W.keepIn K (.ref f12)=true)
  (a_Reader_ends_thing:PySem.W.findIn K (.ref CR) "ends_thing"=some (some (.ref f13)))
  (i_Reader_ends_thing:PySem.W.isFn K (.ref f13)=true)
  (l_Reader_ends_thing:K.lookup f13=some ⟨oc13,od13,.func (PySem.W.fnOf "ends_thing" "Reader.ends_thing" (defArgs s_Reader_ends_thing) (defBody s_Reader_ends_thing) (defScope s_Reader_ends_thing) .none kV13 dc13 pm13 an13 cd13 ct13),sl13⟩)
  (c_Reader_ends_thing:PySem.W.codeIn K cd13 "Reader.ends_thing"=true)
  (k_Reader_ends_thing:PySem.W.keepIn K (.ref f13)=true)
  (a_Reader_take_thing:PySem.W.findIn K (.ref CR) "take_thing"=some (some (.ref f14)))
  (i_Reader_take_thing:PySem.W.isFn K (.ref f14)=true)
  (l_Reader_take_thing:K.lookup f14=some ⟨oc14,od14,.func (PySem.W.fnOf "take_thing" "Reader.take_thing" (defArgs s_Reader_take_thing) (defBody s_Reader_take_thing) (defScope s_Reader_take_thing) .none kV14 dc14 pm14 an14 cd14 ct14),sl14⟩)
  (c_Reader_take_thing:PySem.W.codeIn K cd14 "Reader.take_thing"=true)
  (k_Reader_take_thing:PySem.W.keepIn K (.ref f14)=true)
  (a_Reader_take_things:PySem.W.findIn K (.ref CR) "take_things"=some (some (.ref f15)))
  (i_Reader_take_things:PySem.W.isFn K (.ref f15)=true)
  (l_Reader_take_things:K.lookup f15=some ⟨oc15,od15,.func (PySem.W.fnOf "take_things" "Reader.take_things" (defArgs s_Reader_take_things) (defBody s_Reader_take_things) (defScope s_Reader_take_things) .none kV15 dc15 pm15 an15 cd15 ct15),sl15⟩)
  (c_Reader_take_things:PySem.W.codeIn K cd15 "Reader.take_things"=true)
  (k_Reader_take_things:PySem.W.keepIn K (.ref f15)=true)
  (a_Reader_take_head:PySem.W.findIn K (.ref CR) "take_head"=some (some (.ref f16)))
  (i_Reader_take_head:PySem.W.isFn K (.ref f16)=true)
  (l_Reader_take_head:K.lookup f16=some ⟨oc16,od16,.func (PySem.W.fnOf "take_head" "Reader.take_head" (defArgs s_Reader_take_head) (defBody s_Reader_take_head) (defScope s_Reader_take_head) .none kV16 dc16 pm16 an16 cd16 ct16),sl16⟩)
  (c_Reader_take_head:PySem.W.codeIn K cd16 "Reader.take_head"=true)
  (k_Reader_take_head:PySem.W.keepIn K (.ref f16)=true)
  (a_joined:PySem.W.nsIn K mainGlobals "joined"=some (some (.ref f17)))
  (l_joined:K.lookup f17=some ⟨oc17,od17,.func (PySem.W.fnOf "joined" "joined" (defArgs s_joined) (defBody s_joined) (defScope s_joined) .none kV17 dc17 pm17 an17 cd17 ct17),sl17⟩)
  (c_joined:PySem.W.codeIn K cd17 "joined"=true)
  (k_joined:PySem.W.keepIn K (.ref f17)=true)
  (a_Work_init:PySem.W.findIn K (.ref CW) "__init__"=some (some (.ref f18)))
  (i_Work_init:PySem.W.isFn K (.ref f18)=true)
  (l_Work_init:K.lookup f18=some ⟨oc18,od18,.func (PySem.W.fnOf "__init__" "Work.__init__" (defArgs s_Work_init) (defBody s_Work_init) (defScope s_Work_init) .none kV18 dc18 pm18 an18 cd18 ct18),sl18⟩)
  (c_Work_init:PySem.W.codeIn K cd18 "Work.__init__"=true)
  (k_Work_init:PySem.W.keepIn K (.ref f18)=true)
  (a_read_rows:PySem.W.nsIn K mainGlobals "read_rows"=some (some (.ref f19)))
  (l_read_rows:K.lookup f19=some ⟨oc19,od19,.func (PySem.W.fnOf "read_rows" "read_rows" (defArgs s_read_rows) (defBody s_read_rows) (defScope s_read_rows) .none kV19 dc19 pm19 an19 cd19 ct19),sl19⟩)
  (c_read_rows:PySem.W.codeIn K cd19 "read_rows"=true)
  (k_read_rows:PySem.W.keepIn K (.ref f19)=true)
  (a_read_paragraphs:PySem.W.nsIn K mainGlobals "read_paragraphs"=some (some (.ref f20)))
  (l_read_paragraphs:K.lookup f20=some ⟨oc20,od20,.func (PySem.W.fnOf "read_paragraphs" "read_paragraphs" (defArgs s_read_paragraphs) (defBody s_read_paragraphs) (defScope s_read_paragraphs) .none kV20 dc20 pm20 an20 cd20 ct20),sl20⟩)
  (c_read_paragraphs:PySem.W.codeIn K cd20 "read_paragraphs"=true)
  (k_read_paragraphs:PySem.W.keepIn K (.ref f20)=true)
  (a_read_tokens:PySem.W.nsIn K mainGlobals "read_tokens"=some (some (.ref f21)))
  (l_read_tokens:K.lookup f21=some ⟨oc21,od21,.func (PySem.W.fnOf "read_tokens" "read_tokens" (defArgs s_read_tokens) (defBody s_read_tokens) (defScope s_read_tokens) .none kV21 dc21 pm21 an21 cd21 ct21),sl21⟩)
  (c_read_tokens:PySem.W.codeIn K cd21 "read_tokens"=true)
  (k_read_tokens:PySem.W.keepIn K (.ref f21)=true)
  (a_read_entries:PySem.W.nsIn K mainGlobals "read_entries"=some (some (.ref f22)))
  (l_read_entries:K.lookup f22=some ⟨oc22,od22,.func (PySem.W.fnOf "read_entries" "read_entries" (defArgs s_read_entries) (defBody s_read_entries) (defScope s_read_entries) .none kV22 dc22 pm22 an22 cd22 ct22),sl22⟩)
  (c_read_entries:PySem.W.codeIn K cd22 "read_entries"=true)
  (k_read_entries:PySem.W.keepIn K (.ref f22)=true)
  (a_read_signs:PySem.W.nsIn K mainGlobals "read_signs"=some (some (.ref f23)))
  (l_read_signs:K.lookup f23=some ⟨oc23,od23,.func (PySem.W.fnOf "read_signs" "read_signs" (defArgs s_read_signs) (defBody s_read_signs) (defScope s_read_signs) .none kV23 dc23 pm23 an23 cd23 ct23),sl23⟩)
  (c_read_signs:PySem.W.codeIn K cd23 "read_signs"=true)
  (k_read_signs:PySem.W.keepIn K (.ref f23)=true)
  (a_read_work:PySem.W.nsIn K mainGlobals "read_work"=some (some (.ref f24)))
  (l_read_work:K.lookup f24=some ⟨oc24,od24,.func (PySem.W.fnOf "read_work" "read_work" (defArgs s_read_work) (defBody s_read_work) (defScope s_read_work) .none kV24 dc24 pm24 an24 cd24 ct24),sl24⟩)
  (c_read_work:PySem.W.codeIn K cd24 "read_work"=true)
  (k_read_work:PySem.W.keepIn K (.ref f24)=true)
  (a_judge:PySem.W.nsIn K mainGlobals "judge"=some (some (.ref f25)))
  (l_judge:K.lookup f25=some ⟨oc25,od25,.func (PySem.W.fnOf "judge" "judge" (defArgs s_judge) (defBody s_judge) (defScope s_judge) .none kV25 dc25 pm25 an25 cd25 ct25),sl25⟩)
  (c_judge:PySem.W.codeIn K cd25 "judge"=true)
  (k_judge:PySem.W.keepIn K (.ref f25)=true) :
  ∃ fd:FuncData,(∀ (s:Shared) (us:List Value),us.length=(["t"]:List Str).length→BindsTo s fd ⟨us,[]⟩ ((["t"]:List Str).zip us))∧∀ base:Heap,K.In base→base.Ns mainGlobals mg→FnOk P w K mg base CX0 8 fa fd ["t"] (sp_judge K ad0):=by
 have e:=hfa.symm.trans (PySem.W.mg_of X G a_judge)
 cases e
 have nl':∀ b o,K.lookup b=some o→o.cls≠.type "list":=fun b o hb z=>by
  have q:=List.all_eq_true.mp nl _ (mem_lk hb)
  rw [z] at q
  exact absurd q (by decide)
 have T:Txt K mg ⟨CE,CR,CW,aMARKS,aENDS,aSETTING_BOUNDS,aCARET⟩:={
  exc:=⟨PySem.W.mg_of X G aCE,qCE⟩
  clReader:=⟨pgR,hdR,poR,saR⟩
  clWork:=⟨pgW,hdW,poW,saW⟩
  n_t:=nR_t
  n_at:=nR_at
  n_width:=nW_width
  n_height:=nW_height
  n_indent:=nW_indent
  n_every:=nW_every
  n_anew:=nW_anew
  n_loose:=nW_loose
  n_rows:=nW_rows
  n_head:=nW_head
  n_paragraphs:=nW_paragraphs
  n_words:=nW_words
  n_signs:=nW_signs
  n_entries:=nW_entries
  nl:=nl'
  len:=PySem.W.ns_none_of X G bl_len
  ord:=PySem.W.ns_none_of X G bl_ord
  min:=PySem.W.ns_none_of X G bl_min
  max:=PySem.W.ns_none_of X G bl_max
  range:=PySem.W.ns_none_of X G bl_range
  enumerate:=PySem.W.ns_none_of X G bl_enumerate
  str:=PySem.W.ns_none_of X G bl_str
  list:=PySem.W.ns_none_of X G bl_list
  sum:=PySem.W.ns_none_of X G bl_sum
  cBLANK:=⟨tBLANK,PySem.W.mg_of X G iBLANK⟩
  cFIRST_LETTER:=⟨tFIRST_LETTER,PySem.W.mg_of X G iFIRST_LETTER⟩
  cLAST_CHARACTER:=⟨tLAST_CHARACTER,PySem.W.mg_of X G iLAST_CHARACTER⟩
  cMOST_LETTERS:=⟨tMOST_LETTERS,PySem.W.mg_of X G iMOST_LETTERS⟩
  cNO_BYTE:=⟨tNO_BYTE,PySem.W.mg_of X G iNO_BYTE⟩
  cMOST_ROWS:=⟨tMOST_ROWS,PySem.W.mg_of X G iMOST_ROWS⟩
  cMOST_PARAGRAPHS:=⟨tMOST_PARAGRAPHS,PySem.W.mg_of X G iMOST_PARAGRAPHS⟩
  cMOST_WORDS:=⟨tMOST_WORDS,PySem.W.mg_of X G iMOST_WORDS⟩
  cMOST_SIGNS:=⟨tMOST_SIGNS,PySem.W.mg_of X G iMOST_SIGNS⟩
  cMOST_ENTRIES:=⟨tMOST_ENTRIES,PySem.W.mg_of X G iMOST_ENTRIES⟩
  cMOST_TOKENS:=⟨tMOST_TOKENS,PySem.W.mg_of X G iMOST_TOKENS⟩
  cMOST_TOKENS_OF_ENTRY:=⟨tMOST_TOKENS_OF_ENTRY,PySem.W.mg_of X G iMOST_TOKENS_OF_ENTRY⟩
  cMOST_SIGN_THINGS:=⟨tMOST_SIGN_THINGS,PySem.W.mg_of X G iMOST_SIGN_THINGS⟩
  cMOST_SIGN_CHARACTERS:=⟨tMOST_SIGN_CHARACTERS,PySem.W.mg_of X G iMOST_SIGN_CHARACTERS⟩
  cMOST_TEXT_BYTES:=⟨tMOST_TEXT_BYTES,PySem.W.mg_of X G iMOST_TEXT_BYTES⟩
  cMARKS:=PySem.W.mg_of X G gMARKS
  tMARKS:=sqT_of lMARKS (by simp) (by first | exact .nil | (repeat (first | exact .nil | refine .cons ⟨_,rfl⟩ ?_ | refine .cons rfl ?_)))
  cENDS:=PySem.W.mg_of X G gENDS
  tENDS:=sqT_of lENDS (by simp) (by first | exact .nil | (repeat (first | exact .nil | refine .cons ⟨_,rfl⟩ ?_ | refine .cons rfl ?_)))
  cSETTING_BOUNDS:=PySem.W.mg_of X G gSETTING_BOUNDS
  tSETTING_BOUNDS:=⟨_,sqT_of (xs:=[V.ref bSETTING_BOUNDS0,V.ref bSETTING_BOUNDS1,V.ref bSETTING_BOUNDS2,V.ref bSETTING_BOUNDS3,V.ref bSETTING_BOUNDS4,V.ref bSETTING_BOUNDS5]) lSETTING_BOUNDS (by simp) (by first | exact .nil | (repeat (first | exact .nil | refine .cons ⟨_,rfl⟩ ?_ | refine .cons rfl ?_))),(.cons ⟨_,rfl,sqT_of lSETTING_BOUNDS0 (by simp) (by first | exact .nil | (repeat (first | exact .nil | refine .cons ⟨_,rfl⟩ ?_ | refine .cons rfl ?_))),by decide⟩ (.cons ⟨_,rfl,sqT_of lSETTING_BOUNDS1 (by simp) (by first | exact .nil | (repeat (first | exact .nil | refine .cons ⟨_,rfl⟩ ?_ | refine .cons rfl ?_))),by decide⟩ (.cons ⟨_,rfl,sqT_of lSETTING_BOUNDS2 (by simp) (by first | exact .nil | (repeat (first | exact .nil | refine .cons ⟨_,rfl⟩ ?_ | refine .cons rfl ?_))),by decide⟩ (.cons ⟨_,rfl,sqT_of lSETTING_BOUNDS3 (by simp) (by first | exact .nil | (repeat (first | exact .nil | refine .cons ⟨_,rfl⟩ ?_ | refine .cons rfl ?_))),by decide⟩ (.cons ⟨_,rfl,sqT_of lSETTING_BOUNDS4 (by simp) (by first | exact .nil | (repeat (first | exact .nil | refine .cons ⟨_,rfl⟩ ?_ | refine .cons rfl ?_))),by decide⟩ (.cons ⟨_,rfl,sqT_of lSETTING_BOUNDS5 (by simp) (by first | exact .nil | (repeat (first | exact .nil | refine .cons ⟨_,rfl⟩ ?_ | refine .cons rfl ?_))),by decide⟩ .nil))))))⟩
  cCARET:=PySem.W.mg_of X G gCARET
  tCARET:=sqT_of lCARET (by simp) (by first | exact .nil | (repeat (first | exact .nil | refine .cons ⟨_,rfl⟩ ?_ | refine .cons rfl ?_))) }
 have F0:=fun_mk (st:=s_is_letter) l_is_letter c_is_letter k_is_letter
 have b0:=F0.binds (ps:=["character"]) fun _ _ _ _ _ _ us hl=>match us,hl with | [_],_=>rfl
 have F1:=fun_mk (st:=s_begins_some) l_begins_some c_begins_some k_begins_some
 have b1:=F1.binds (ps:=["value","low","high"]) fun _ _ _ _ _ _ us hl=>match us,hl with | [_,_,_],_=>rfl
 have F2:=fun_mk (st:=s_size_by_lead) l_size_by_lead c_size_by_lead k_size_by_lead
 have b2:=F2.binds (ps:=["lead"]) fun _ _ _ _ _ _ us hl=>match us,hl with | [_],_=>rfl
 have F3:=fun_mk (st:=s_bounds_behind) l_bounds_behind c_bounds_behind k_bounds_behind
 have b3:=F3.binds (ps:=["lead"]) fun _ _ _ _ _ _ us hl=>match us,hl with | [_],_=>rfl
 have F4:=fun_mk (st:=s_Reader_init) l_Reader_init c_Reader_init k_Reader_init
 have b4:=F4.binds (ps:=["self","t"]) fun _ _ _ _ _ _ us hl=>match us,hl with | [_,_],_=>rfl
 have F5:=fun_mk (st:=s_Reader_peek) l_Reader_peek c_Reader_peek k_Reader_peek
 have b5:=F5.binds (ps:=["self"]) fun _ _ _ _ _ _ us hl=>match us,hl with | [_],_=>rfl
 have F6:=fun_mk (st:=s_Reader_sees) l_Reader_sees c_Reader_sees k_Reader_sees
 have b6:=F6.binds (ps:=["self","sign"]) fun _ _ _ _ _ _ us hl=>match us,hl with | [_,_],_=>rfl
 have F7:=fun_mk (st:=s_Reader_take) l_Reader_take c_Reader_take k_Reader_take
 have b7:=F7.binds (ps:=["self","sign"]) fun _ _ _ _ _ _ us hl=>match us,hl with | [_,_],_=>rfl
 have F8:=fun_mk (st:=s_Reader_take_end) l_Reader_take_end c_Reader_take_end k_Reader_take_end
 have b8:=F8.binds (ps:=["self"]) fun _ _ _ _ _ _ us hl=>match us,hl with | [_],_=>rfl
 have F9:=fun_mk (st:=s_Reader_take_digit) l_Reader_take_digit c_Reader_take_digit k_Reader_take_digit
 have b9:=F9.binds (ps:=["self","value","low","high"]) fun _ _ _ _ _ _ us hl=>match us,hl with | [_,_,_,_],_=>rfl
 have F10:=fun_mk (st:=s_Reader_take_number) l_Reader_take_number c_Reader_take_number k_Reader_take_number
 have b10:=F10.binds (ps:=["self","low","high"]) fun _ _ _ _ _ _ us hl=>match us,hl with | [_,_,_],_=>rfl
 have F11:=fun_mk (st:=s_Reader_take_long_letter) l_Reader_take_long_letter c_Reader_take_long_letter k_Reader_take_long_letter
 have b11:=F11.binds (ps:=["self","lead","size"]) fun _ _ _ _ _ _ us hl=>match us,hl with | [_,_,_],_=>rfl
 have F12:=fun_mk (st:=s_Reader_take_character) l_Reader_take_character c_Reader_take_character k_Reader_take_character
 have b12:=F12.binds (ps:=["self","marks"]) fun _ _ _ _ _ _ us hl=>match us,hl with | [_,_],_=>rfl
 have F13:=fun_mk (st:=s_Reader_ends_thing) l_Reader_ends_thing c_Reader_ends_thing k_Reader_ends_thing
 have b13:=F13.binds (ps:=["self","marks"]) fun _ _ _ _ _ _ us hl=>match us,hl with | [_,_],_=>rfl
 have F14:=fun_mk (st:=s_Reader_take_thing) l_Reader_take_thing c_Reader_take_thing k_Reader_take_thing
 have b14:=F14.binds (ps:=["self","most","marks"]) fun _ _ _ _ _ _ us hl=>match us,hl with | [_,_,_],_=>rfl
 have F15:=fun_mk (st:=s_Reader_take_things) l_Reader_take_things c_Reader_take_things k_Reader_take_things
 have b15:=F15.binds (ps:=["self","most_things","most","marks"]) fun _ _ _ _ _ _ us hl=>match us,hl with | [_,_,_,_],_=>rfl
 have F16:=fun_mk (st:=s_Reader_take_head) l_Reader_take_head c_Reader_take_head k_Reader_take_head
 have b16:=F16.binds (ps:=["self","all_bounds"]) fun _ _ _ _ _ _ us hl=>match us,hl with | [_,_],_=>rfl
 have F17:=fun_mk (st:=s_joined) l_joined c_joined k_joined
 have b17:=F17.binds (ps:=["things","between"]) fun _ _ _ _ _ _ us hl=>match us,hl with | [_,_],_=>rfl
 have F18:=fun_mk (st:=s_Work_init) l_Work_init c_Work_init k_Work_init
 have b18:=F18.binds (ps:=["self","settings"]) fun _ _ _ _ _ _ us hl=>match us,hl with | [_,_],_=>rfl
 have F19:=fun_mk (st:=s_read_rows) l_read_rows c_read_rows k_read_rows
 have b19:=F19.binds (ps:=["reader","work"]) fun _ _ _ _ _ _ us hl=>match us,hl with | [_,_],_=>rfl
 have F20:=fun_mk (st:=s_read_paragraphs) l_read_paragraphs c_read_paragraphs k_read_paragraphs
 have b20:=F20.binds (ps:=["reader","work"]) fun _ _ _ _ _ _ us hl=>match us,hl with | [_,_],_=>rfl
 have F21:=fun_mk (st:=s_read_tokens) l_read_tokens c_read_tokens k_read_tokens
 have b21:=F21.binds (ps:=["reader","most"]) fun _ _ _ _ _ _ us hl=>match us,hl with | [_,_],_=>rfl
 have F22:=fun_mk (st:=s_read_entries) l_read_entries c_read_entries k_read_entries
 have b22:=F22.binds (ps:=["reader","work"]) fun _ _ _ _ _ _ us hl=>match us,hl with | [_,_],_=>rfl
 have F23:=fun_mk (st:=s_read_signs) l_read_signs c_read_signs k_read_signs
 have b23:=F23.binds (ps:=["reader","work"]) fun _ _ _ _ _ _ us hl=>match us,hl with | [_,_],_=>rfl
 have F24:=fun_mk (st:=s_read_work) l_read_work c_read_work k_read_work
 have b24:=F24.binds (ps:=["reader"]) fun _ _ _ _ _ _ us hl=>match us,hl with | [_],_=>rfl
 have F25:=fun_mk (st:=s_judge) l_judge c_judge k_judge
 have b25:=F25.binds (ps:=["t"]) fun _ _ _ _ _ _ us hl=>match us,hl with | [_],_=>rfl
 refine ⟨PySem.W.fnOf "judge" "judge" (defArgs s_judge) (defBody s_judge) (defScope s_judge) .none kV25 dc25 pm25 an25 cd25 ct25,fun s us hu=>match us,hu with | [_],_=>.of_eq rfl,fun base _ _=>?_⟩
 have C_is_letter:FnC P w K mg base CX0 1 "is_letter" ["character"] (sp_is_letter K ⟨CE,CR,CW,aMARKS,aENDS,aSETTING_BOUNDS,aCARET⟩):=⟨⟨f0,_,PySem.W.mg_of X G a_is_letter,k_is_letter,b0,(ok_is_letter F0 T)⟩⟩
 have C_begins_some:FnC P w K mg base CX0 1 "begins_some" ["value","low","high"] (sp_begins_some K ⟨CE,CR,CW,aMARKS,aENDS,aSETTING_BOUNDS,aCARET⟩):=⟨⟨f1,_,PySem.W.mg_of X G a_begins_some,k_begins_some,b1,(ok_begins_some F1 T)⟩⟩
 have C_size_by_lead:FnC P w K mg base CX0 1 "size_by_lead" ["lead"] (sp_size_by_lead K ⟨CE,CR,CW,aMARKS,aENDS,aSETTING_BOUNDS,aCARET⟩):=⟨⟨f2,_,PySem.W.mg_of X G a_size_by_lead,k_size_by_lead,b2,(ok_size_by_lead F2 T)⟩⟩
 have C_bounds_behind:FnC P w K mg base CX0 1 "bounds_behind" ["lead"] (sp_bounds_behind K ⟨CE,CR,CW,aMARKS,aENDS,aSETTING_BOUNDS,aCARET⟩):=⟨⟨f3,_,PySem.W.mg_of X G a_bounds_behind,k_bounds_behind,b3,(ok_bounds_behind F3 T)⟩⟩
 have C_Reader_init:MakeC P w K mg base CX0 1 CR "Reader" ["self","t"] (sp_Reader_init K ⟨CE,CR,CW,aMARKS,aENDS,aSETTING_BOUNDS,aCARET⟩):=⟨⟨f4,_,PySem.W.mg_of X G aCR,⟨mkR,a_Reader_init,i_Reader_init,kcR⟩,b4,(ok_Reader_init F4 T)⟩⟩
 have C_Reader_peek:MethC P w K mg base CX0 1 CR "peek" ["self"] (sp_Reader_peek K ⟨CE,CR,CW,aMARKS,aENDS,aSETTING_BOUNDS,aCARET⟩):=⟨⟨f5,_,⟨a_Reader_peek,i_Reader_peek,k_Reader_peek⟩,b5,(ok_Reader_peek F5 T)⟩⟩
 have C_Reader_sees:MethC P w K mg base CX0 2 CR "sees" ["self","sign"] (sp_Reader_sees K ⟨CE,CR,CW,aMARKS,aENDS,aSETTING_BOUNDS,aCARET⟩):=⟨⟨f6,_,⟨a_Reader_sees,i_Reader_sees,k_Reader_sees⟩,b6,(ok_Reader_sees F6 T C_Reader_peek)⟩⟩
 have C_Reader_take:MethC P w K mg base (CX1 P w CE) 3 CR "take" ["self","sign"] (sp_Reader_take K ⟨CE,CR,CW,aMARKS,aENDS,aSETTING_BOUNDS,aCARET⟩):=⟨⟨f7,_,⟨a_Reader_take,i_Reader_take,k_Reader_take⟩,b7,(ok_Reader_take F7 T C_Reader_sees)⟩⟩
 have C_Reader_take_end:MethC P w K mg base (CX1 P w CE) 2 CR "take_end" ["self"] (sp_Reader_take_end K ⟨CE,CR,CW,aMARKS,aENDS,aSETTING_BOUNDS,aCARET⟩):=⟨⟨f8,_,⟨a_Reader_take_end,i_Reader_take_end,k_Reader_take_end⟩,b8,(ok_Reader_take_end F8 T C_Reader_peek)⟩⟩
 have C_Reader_take_digit:MethC P w K mg base (CX1 P w CE) 2 CR "take_digit" ["self","value","low","high"] (sp_Reader_take_digit K ⟨CE,CR,CW,aMARKS,aENDS,aSETTING_BOUNDS,aCARET⟩):=⟨⟨f9,_,⟨a_Reader_take_digit,i_Reader_take_digit,k_Reader_take_digit⟩,b9,(ok_Reader_take_digit F9 T C_Reader_peek C_begins_some)⟩⟩
 have C_Reader_take_number:MethC P w K mg base (CX1 P w CE) 3 CR "take_number" ["self","low","high"] (sp_Reader_take_number K ⟨CE,CR,CW,aMARKS,aENDS,aSETTING_BOUNDS,aCARET⟩):=⟨⟨f10,_,⟨a_Reader_take_number,i_Reader_take_number,k_Reader_take_number⟩,b10,(ok_Reader_take_number F10 T C_Reader_take_digit C_Reader_peek)⟩⟩
 have C_Reader_take_long_letter:MethC P w K mg base (CX1 P w CE) 2 CR "take_long_letter" ["self","lead","size"] (sp_Reader_take_long_letter K ⟨CE,CR,CW,aMARKS,aENDS,aSETTING_BOUNDS,aCARET⟩):=⟨⟨f11,_,⟨a_Reader_take_long_letter,i_Reader_take_long_letter,k_Reader_take_long_letter⟩,b11,(ok_Reader_take_long_letter F11 T C_bounds_behind C_Reader_peek C_is_letter)⟩⟩
 have C_Reader_take_character:MethC P w K mg base (CX1 P w CE) 3 CR "take_character" ["self","marks"] (sp_Reader_take_character K ⟨CE,CR,CW,aMARKS,aENDS,aSETTING_BOUNDS,aCARET⟩):=⟨⟨f12,_,⟨a_Reader_take_character,i_Reader_take_character,k_Reader_take_character⟩,b12,(ok_Reader_take_character F12 T C_Reader_peek C_size_by_lead C_Reader_take_long_letter C_is_letter)⟩⟩
 have C_Reader_ends_thing:MethC P w K mg base CX0 2 CR "ends_thing" ["self","marks"] (sp_Reader_ends_thing K ⟨CE,CR,CW,aMARKS,aENDS,aSETTING_BOUNDS,aCARET⟩):=⟨⟨f13,_,⟨a_Reader_ends_thing,i_Reader_ends_thing,k_Reader_ends_thing⟩,b13,(ok_Reader_ends_thing F13 T C_Reader_peek)⟩⟩
 have C_Reader_take_thing:MethC P w K mg base (CX1 P w CE) 4 CR "take_thing" ["self","most","marks"] (sp_Reader_take_thing K ⟨CE,CR,CW,aMARKS,aENDS,aSETTING_BOUNDS,aCARET⟩):=⟨⟨f14,_,⟨a_Reader_take_thing,i_Reader_take_thing,k_Reader_take_thing⟩,b14,(ok_Reader_take_thing F14 T C_Reader_take_character C_Reader_ends_thing)⟩⟩
 have C_Reader_take_things:MethC P w K mg base (CX1 P w CE) 5 CR "take_things" ["self","most_things","most","marks"] (sp_Reader_take_things K ⟨CE,CR,CW,aMARKS,aENDS,aSETTING_BOUNDS,aCARET⟩):=⟨⟨f15,_,⟨a_Reader_take_things,i_Reader_take_things,k_Reader_take_things⟩,b15,(ok_Reader_take_things F15 T C_Reader_take_thing C_Reader_sees C_Reader_take)⟩⟩
 have C_Reader_take_head:MethC P w K mg base (CX1 P w CE) 4 CR "take_head" ["self","all_bounds"] (sp_Reader_take_head K ⟨CE,CR,CW,aMARKS,aENDS,aSETTING_BOUNDS,aCARET⟩):=⟨⟨f16,_,⟨a_Reader_take_head,i_Reader_take_head,k_Reader_take_head⟩,b16,(ok_Reader_take_head F16 T C_Reader_take C_Reader_take_number)⟩⟩
 have C_joined:FnC P w K mg base CX0 1 "joined" ["things","between"] (sp_joined K ⟨CE,CR,CW,aMARKS,aENDS,aSETTING_BOUNDS,aCARET⟩):=⟨⟨f17,_,PySem.W.mg_of X G a_joined,k_joined,b17,(ok_joined F17 T)⟩⟩
 have C_Work_init:MakeC P w K mg base CX0 1 CW "Work" ["self","settings"] (sp_Work_init K ⟨CE,CR,CW,aMARKS,aENDS,aSETTING_BOUNDS,aCARET⟩):=⟨⟨f18,_,PySem.W.mg_of X G aCW,⟨mkW,a_Work_init,i_Work_init,kcW⟩,b18,(ok_Work_init F18 T)⟩⟩
 have C_read_rows:FnC P w K mg base (CX1 P w CE) 4 "read_rows" ["reader","work"] (sp_read_rows K ⟨CE,CR,CW,aMARKS,aENDS,aSETTING_BOUNDS,aCARET⟩):=⟨⟨f19,_,PySem.W.mg_of X G a_read_rows,k_read_rows,b19,(ok_read_rows F19 T C_Reader_sees C_Reader_take C_Reader_take_number)⟩⟩
 have C_read_paragraphs:FnC P w K mg base (CX1 P w CE) 6 "read_paragraphs" ["reader","work"] (sp_read_paragraphs K ⟨CE,CR,CW,aMARKS,aENDS,aSETTING_BOUNDS,aCARET⟩):=⟨⟨f20,_,PySem.W.mg_of X G a_read_paragraphs,k_read_paragraphs,b20,(ok_read_paragraphs F20 T C_Reader_sees C_Reader_take C_Reader_take_things)⟩⟩
 have C_read_tokens:FnC P w K mg base (CX1 P w CE) 5 "read_tokens" ["reader","most"] (sp_read_tokens K ⟨CE,CR,CW,aMARKS,aENDS,aSETTING_BOUNDS,aCARET⟩):=⟨⟨f21,_,PySem.W.mg_of X G a_read_tokens,k_read_tokens,b21,(ok_read_tokens F21 T C_Reader_sees C_Reader_take C_Reader_take_thing)⟩⟩
 have C_read_entries:FnC P w K mg base (CX1 P w CE) 6 "read_entries" ["reader","work"] (sp_read_entries K ⟨CE,CR,CW,aMARKS,aENDS,aSETTING_BOUNDS,aCARET⟩):=⟨⟨f22,_,PySem.W.mg_of X G a_read_entries,k_read_entries,b22,(ok_read_entries F22 T C_Reader_sees C_Reader_take C_Reader_take_number C_read_tokens)⟩⟩
 have C_read_signs:FnC P w K mg base (CX1 P w CE) 6 "read_signs" ["reader","work"] (sp_read_signs K ⟨CE,CR,CW,aMARKS,aENDS,aSETTING_BOUNDS,aCARET⟩):=⟨⟨f23,_,PySem.W.mg_of X G a_read_signs,k_read_signs,b23,(ok_read_signs F23 T C_Reader_sees C_Reader_take C_Reader_take_number C_Reader_take_things C_joined)⟩⟩
 have C_read_work:FnC P w K mg base (CX1 P w CE) 7 "read_work" ["reader"] (sp_read_work K ⟨CE,CR,CW,aMARKS,aENDS,aSETTING_BOUNDS,aCARET⟩):=⟨⟨f24,_,PySem.W.mg_of X G a_read_work,k_read_work,b24,(ok_read_work F24 T C_Work_init C_read_rows C_read_paragraphs C_read_signs C_read_entries C_Reader_take_end C_Reader_take_head)⟩⟩
 have fin:=ok_judge (P:=P) (w:=w) (base:=base) F25 T C_Reader_init C_read_work
 exact fin
end Vp
theorem Vp.ans_judge (l:List Int) (h:(PageNeutral.text l).length≤8191):(PyWqasbc.judge l).map L2.V.int=Vp.judgeV (PageNeutral.text l):=by
 have e:PyWqasbc.judge l=PageNeutral.shown (VhG.answer (.judge (PageNeutral.text l))):=rfl
 rw [e]
 unfold VhG.answer Vp.judgeV
 dsimp only
 rw [if_neg (show ¬ VhPage.MOST<(PageNeutral.text l).length by unfold VhPage.MOST;lia)]
 cases VhPage.readWork (PageNeutral.text l) with
 | error i=>rfl
 | ok w=>rfl
theorem Vp.u8_map (l:List Int) (h:∀ x∈l,0≤x∧x≤255):l.map L2.V.int=Vp.bsV (PageNeutral.text l):=by
 unfold Vp.bsV PageNeutral.text
 rw [List.map_map]
 refine List.map_congr_left fun x hx=>?_
 have b:=h x hx
 show L2.V.int x=L2.V.int ((UInt8.ofNat x.toNat).toNat:Int)
 rw [UInt8.toNat_ofNat',Nat.mod_eq_of_lt (by lia),Int.toNat_of_nonneg b.1]
open PySem PySem.W PyProof.Rows
set_option maxRecDepth 100000 in
set_option maxHeartbeats 0 in
theorem PySem.Challenge.cw_vellumpages_s01_judge_holds : PySem.Challenge.rw_vellumpages_s01_judge.Holds := by
 w_on;k_headS;(case hw=>exact ⟨[.list []],by decide +kernel,by decide +kernel⟩)
 k_fillS
 refine L2.walk_specK (r:=PySem.Challenge.rw_vellumpages_s01_judge) (k:=8) (CX:=L2.CX0) (ps:=["t"]) (sp:=fun K=>Vp.sp_judge K Vp.ad0) (by decide +kernel) rfl rfl ⟨rfl,by decide,by decide⟩ (fun w h Y=>PySem.W.kIn_of Y) ?F ?S (fun _ _ _ _ z=>z)
 case F =>
  intro w mg fa h Y KX G hmg
  refine' Vp.all_mk KX G hmg ?qCE ?nl ?aCR ?pgR ?hdR ?poR ?saR ?mkR ?kcR ?nR_t ?nR_at ?aCW ?pgW ?hdW ?poW ?saW ?mkW ?kcW ?nW_width ?nW_height ?nW_indent ?nW_every ?nW_anew ?nW_loose ?nW_rows ?nW_head ?nW_paragraphs ?nW_words ?nW_signs ?nW_entries ?aCE ?iBLANK ?iFIRST_LETTER ?iLAST_CHARACTER ?iMOST_LETTERS ?iNO_BYTE ?iMOST_ROWS ?iMOST_PARAGRAPHS ?iMOST_WORDS ?iMOST_SIGNS ?iMOST_ENTRIES ?iMOST_TOKENS ?iMOST_TOKENS_OF_ENTRY ?iMOST_SIGN_THINGS ?iMOST_SIGN_CHARACTERS ?iMOST_TEXT_BYTES ?gMARKS ?lMARKS ?gENDS ?lENDS ?gSETTING_BOUNDS ?lSETTING_BOUNDS ?lSETTING_BOUNDS0 ?lSETTING_BOUNDS1 ?lSETTING_BOUNDS2 ?lSETTING_BOUNDS3 ?lSETTING_BOUNDS4 ?lSETTING_BOUNDS5 ?gCARET ?lCARET ?bl_len ?bl_ord ?bl_min ?bl_max ?bl_range ?bl_enumerate ?bl_str ?bl_list ?bl_sum ?a_is_letter ?l_is_letter ?c_is_letter ?k_is_letter ?a_begins_some ?l_begins_some ?c_begins_some ?k_begins_some ?a_size_by_lead ?l_size_by_lead ?c_size_by_lead ?k_size_by_lead ?a_bounds_behind ?l_bounds_behind ?c_bounds_behind ?k_bounds_behind ?a_Reader_init ?i_Reader_init ?l_Reader_init ?c_Reader_init ?k_Reader_init ?a_Reader_peek ?i_Reader_peek ?l_Reader_peek ?c_Reader_peek ?k_Reader_peek ?a_Reader_sees ?i_Reader_sees ?l_Reader_sees ?c_Reader_sees ?k_Reader_sees ?a_Reader_take ?i_Reader_take ?l_Reader_take ?c_Reader_take ?k_Reader_take ?a_Reader_take_end ?i_Reader_take_end ?l_Reader_take_end ?c_Reader_take_end ?k_Reader_take_end ?a_Reader_take_digit ?i_Reader_take_digit ?l_Reader_take_digit ?c_Reader_take_digit ?k_Reader_take_digit ?a_Reader_take_number ?i_Reader_take_number ?l_Reader_take_number ?c_Reader_take_number ?k_Reader_take_number ?a_Reader_take_long_letter ?i_Reader_take_long_letter ?l_Reader_take_long_letter ?c_Reader_take_long_letter ?k_Reader_take_long_letter ?a_Reader_take_character ?i_Reader_take_character ?l_Reader_take_character ?c_Reader_take_character ?k_Reader_take_character ?a_Reader_ends_thing ?i_Reader_ends_thing ?l_Reader_ends_thing ?c_Reader_ends_thing ?k_Reader_ends_thing ?a_Reader_take_thing ?i_Reader_take_thing ?l_Reader_take_thing ?c_Reader_take_thing ?k_Reader_take_thing ?a_Reader_take_things ?i_Reader_take_things ?l_Reader_take_things ?c_Reader_take_things ?k_Reader_take_things ?a_Reader_take_head ?i_Reader_take_head ?l_Reader_take_head ?c_Reader_take_head ?k_Reader_take_head ?a_joined ?l_joined ?c_joined ?k_joined ?a_Work_init ?i_Work_init ?l_Work_init ?c_Work_init ?k_Work_init ?a_read_rows ?l_read_rows ?c_read_rows ?k_read_rows ?a_read_paragraphs ?l_read_paragraphs ?c_read_paragraphs ?k_read_paragraphs ?a_read_tokens ?l_read_tokens ?c_read_tokens ?k_read_tokens ?a_read_entries ?l_read_entries ?c_read_entries ?k_read_entries ?a_read_signs ?l_read_signs ?c_read_signs ?k_read_signs ?a_read_work ?l_read_work ?c_read_work ?k_read_work ?a_judge ?l_judge ?c_judge ?k_judge
  (case aCR=>k_is)
  (case pgR=>k_is)
  (case hdR=>k_is)
  (case poR=>k_is)
  (case saR=>k_is)
  (case mkR=>k_is)
  (case kcR=>k_is)
  (case nR_t=>k_is)
  (case nR_at=>k_is)
  (case aCW=>k_is)
  (case pgW=>k_is)
  (case hdW=>k_is)
  (case poW=>k_is)
  (case saW=>k_is)
  (case mkW=>k_is)
  (case kcW=>k_is)
  (case nW_width=>k_is)
  (case nW_height=>k_is)
  (case nW_indent=>k_is)
  (case nW_every=>k_is)
  (case nW_anew=>k_is)
  (case nW_loose=>k_is)
  (case nW_rows=>k_is)
  (case nW_head=>k_is)
  (case nW_paragraphs=>k_is)
  (case nW_words=>k_is)
  (case nW_signs=>k_is)
  (case nW_entries=>k_is)
  (case aCE=>k_is)
  (case iBLANK=>k_is)
  (case iFIRST_LETTER=>k_is)
  (case iLAST_CHARACTER=>k_is)
  (case iMOST_LETTERS=>k_is)
  (case iNO_BYTE=>k_is)
  (case iMOST_ROWS=>k_is)
  (case iMOST_PARAGRAPHS=>k_is)
  (case iMOST_WORDS=>k_is)
  (case iMOST_SIGNS=>k_is)
  (case iMOST_ENTRIES=>k_is)
  (case iMOST_TOKENS=>k_is)
  (case iMOST_TOKENS_OF_ENTRY=>k_is)
  (case iMOST_SIGN_THINGS=>k_is)
  (case iMOST_SIGN_CHARACTERS=>k_is)
  (case iMOST_TEXT_BYTES=>k_is)
  (case gMARKS=>k_is)
  (case lMARKS=>k_is)
  (case gENDS=>k_is)
  (case lENDS=>k_is)
  (case gSETTING_BOUNDS=>k_is)
  (case lSETTING_BOUNDS=>k_is)
  (case lSETTING_BOUNDS0=>k_is)
  (case lSETTING_BOUNDS1=>k_is)
  (case lSETTING_BOUNDS2=>k_is)
  (case lSETTING_BOUNDS3=>k_is)
  (case lSETTING_BOUNDS4=>k_is)
  (case lSETTING_BOUNDS5=>k_is)
  (case gCARET=>k_is)
  (case lCARET=>k_is)
  (case bl_len=>k_is)
  (case bl_ord=>k_is)
  (case bl_min=>k_is)
  (case bl_max=>k_is)
  (case bl_range=>k_is)
  (case bl_enumerate=>k_is)
  (case bl_str=>k_is)
  (case bl_list=>k_is)
  (case bl_sum=>k_is)
  (case a_is_letter=>k_is)
  (case l_is_letter=>k_is)
  (case c_is_letter=>k_is)
  (case k_is_letter=>k_is)
  (case a_begins_some=>k_is)
  (case l_begins_some=>k_is)
  (case c_begins_some=>k_is)
  (case k_begins_some=>k_is)
  (case a_size_by_lead=>k_is)
  (case l_size_by_lead=>k_is)
  (case c_size_by_lead=>k_is)
  (case k_size_by_lead=>k_is)
  (case a_bounds_behind=>k_is)
  (case l_bounds_behind=>k_is)
  (case c_bounds_behind=>k_is)
  (case k_bounds_behind=>k_is)
  (case a_Reader_init=>k_is)
  (case i_Reader_init=>k_is)
  (case l_Reader_init=>k_is)
  (case c_Reader_init=>k_is)
  (case k_Reader_init=>k_is)
  (case a_Reader_peek=>k_is)
  (case i_Reader_peek=>k_is)
  (case l_Reader_peek=>k_is)
  (case c_Reader_peek=>k_is)
  (case k_Reader_peek=>k_is)
  (case a_Reader_sees=>k_is)
  (case i_Reader_sees=>k_is)
  (case l_Reader_sees=>k_is)
  (case c_Reader_sees=>k_is)
  (case k_Reader_sees=>k_is)
  (case a_Reader_take=>k_is)
  (case i_Reader_take=>k_is)
  (case l_Reader_take=>k_is)
  (case c_Reader_take=>k_is)
  (case k_Reader_take=>k_is)
  (case a_Reader_take_end=>k_is)
  (case i_Reader_take_end=>k_is)
  (case l_Reader_take_end=>k_is)
  (case c_Reader_take_end=>k_is)
  (case k_Reader_take_end=>k_is)
  (case a_Reader_take_digit=>k_is)
  (case i_Reader_take_digit=>k_is)
  (case l_Reader_take_digit=>k_is)
  (case c_Reader_take_digit=>k_is)
  (case k_Reader_take_digit=>k_is)
  (case a_Reader_take_number=>k_is)
  (case i_Reader_take_number=>k_is)
  (case l_Reader_take_number=>k_is)
  (case c_Reader_take_number=>k_is)
  (case k_Reader_take_number=>k_is)
  (case a_Reader_take_long_letter=>k_is)
  (case i_Reader_take_long_letter=>k_is)
  (case l_Reader_take_long_letter=>k_is)
  (case c_Reader_take_long_letter=>k_is)
  (case k_Reader_take_long_letter=>k_is)
  (case a_Reader_take_character=>k_is)
  (case i_Reader_take_character=>k_is)
  (case l_Reader_take_character=>k_is)
  (case c_Reader_take_character=>k_is)
  (case k_Reader_take_character=>k_is)
  (case a_Reader_ends_thing=>k_is)
  (case i_Reader_ends_thing=>k_is)
  (case l_Reader_ends_thing=>k_is)
  (case c_Reader_ends_thing=>k_is)
  (case k_Reader_ends_thing=>k_is)
  (case a_Reader_take_thing=>k_is)
  (case i_Reader_take_thing=>k_is)
  (case l_Reader_take_thing=>k_is)
  (case c_Reader_take_thing=>k_is)
  (case k_Reader_take_thing=>k_is)
  (case a_Reader_take_things=>k_is)
  (case i_Reader_take_things=>k_is)
  (case l_Reader_take_things=>k_is)
  (case c_Reader_take_things=>k_is)
  (case k_Reader_take_things=>k_is)
  (case a_Reader_take_head=>k_is)
  (case i_Reader_take_head=>k_is)
  (case l_Reader_take_head=>k_is)
  (case c_Reader_take_head=>k_is)
  (case k_Reader_take_head=>k_is)
  (case a_joined=>k_is)
  (case l_joined=>k_is)
  (case c_joined=>k_is)
  (case k_joined=>k_is)
  (case a_Work_init=>k_is)
  (case i_Work_init=>k_is)
  (case l_Work_init=>k_is)
  (case c_Work_init=>k_is)
  (case k_Work_init=>k_is)
  (case a_read_rows=>k_is)
  (case l_read_rows=>k_is)
  (case c_read_rows=>k_is)
  (case k_read_rows=>k_is)
  (case a_read_paragraphs=>k_is)
  (case l_read_paragraphs=>k_is)
  (case c_read_paragraphs=>k_is)
  (case k_read_paragraphs=>k_is)
  (case a_read_tokens=>k_is)
  (case l_read_tokens=>k_is)
  (case c_read_tokens=>k_is)
  (case k_read_tokens=>k_is)
  (case a_read_entries=>k_is)
  (case l_read_entries=>k_is)
  (case c_read_entries=>k_is)
  (case k_read_entries=>k_is)
  (case a_read_signs=>k_is)
  (case l_read_signs=>k_is)
  (case c_read_signs=>k_is)
  (case k_read_signs=>k_is)
  (case a_read_work=>k_is)
  (case l_read_work=>k_is)
  (case c_read_work=>k_is)
  (case k_read_work=>k_is)
  (case a_judge=>k_is)
  (case l_judge=>k_is)
  (case c_judge=>k_is)
  (case k_judge=>k_is)
  (case qCE=>kernel_rfl)
  (case nl=>kernel_rfl)
 case S =>
  intro K H xs a hO hwi hask hx
  cases hx with
  | cons h1 h2 =>
   cases h2
   cases h1 with
   | lst hs ha =>
    have e:=L2.ints_dw a.1 _ ha
    subst e
    have q:((Codec.inLen 0 8191 a.1 && a.1.all (Codec.inInt 0 255)) && true)=true:=hwi
    rw [Bool.and_eq_true,Bool.and_eq_true] at q
    have hin:∀ x∈a.1,0≤x∧x≤255:=fun x hx=>Codec.inInt_iff.mp (List.all_eq_true.mp q.1.2 x hx)
    rw [Vp.u8_map _ hin] at hs
    refine ⟨_,PageNeutral.text a.1,rfl,hs,?_,fun H' p hp=>.lst (L2.SqL.of hp) ?_⟩
    ·unfold PageNeutral.text
     rw [List.length_map]
     exact (Codec.inNat_iff.mp q.1.1).2
    ·have ee:=Vp.ans_judge a.1 (show (PageNeutral.text a.1).length≤8191 by unfold PageNeutral.text;rw [List.length_map];exact (Codec.inNat_iff.mp q.1.1).2)
     rw [← ee]
     exact L2.dw_ints _
end
